import PyProof.Rows.All
import Wide.All
import OpenK.AllK
import Wide.FinOn
import Lean
import PyProof.EqAt
import PyProof.EqKinds
import PyProof.TupleCall
import PyProof.StrLawsIn
import PyProof.StationsW
import PyProof.NeData
import OpenK.KOwn
import PyProof.NsDelKeeps
import PyProof.ExcArgsOwn
import PyProof.ExcAttrAll.ValueError
import PyProof.IsiH_tuple
import KE.KIsAll
import PyProof.CollectStr
import PyProof.ZipIter
import PyProof.Rows.ZipGen
import PyProof.JoinWalk
import PyProof.CollectIter
import PyProof.EnumMake
import PyProof.SumAny
import PyProof.DictTruth
import KE.KDictList
import KE.KNest
import PyProof.StrLawsFirst
import PySem.Challenge.RW_trunksay_k20_bases_say_it
set_option Elab.async false
set_option linter.all false
set_option maxRecDepth 100000
def aa:=@PySem.wpAny_bind
def ae:=@List.getElem?_eq_getElem
def ai:=@List.getElem?_eq_some_iff
def aj:=@List.prefix_refl
def ak:=@PySem.Heap.get?_push_of_some
def am:=@PySem.wpAny_pure
def aq:=@if_pos
def ar:=@List.length_map
def au:=@PySem.Heap.get?_push_size
def av:=@List.getD_eq_getElem?_getD
def ax:=@if_neg
def ay:=@Nat.le_refl
def aD:=@List.getElem?_map
def aE:=@PySem.Heap.lt_size
def aG:=@decide_eq_false
def aH:=@List.mem_cons_of_mem
def aJ:=@List.mem_map
def aL:=@List.length_append
def aM:=@List.mem_cons
def aN:=@List.map_cons
def aO:=@Int.toNat_natCast
def aQ:=@decide_eq_true
def aR:=@List.prefix_append
def aS:=@Option.some.inj
def aU:=@Nat.lt_of_lt_of_le
def aV:=@List.length_take
def aW:=@List.getElem?_append_left
def aX:=@List.mem_append_right
def aY:=@List.mem_of_getElem?
def aZ:=@List.size_toArray
def a7:=@List.mem_cons_self
def a8:=@List.map_map
def ba:=@Nat.ne_of_lt
def bb:=@PySem.wpAny_call_entry
def bc:=@PySem.wpAny_callSpecial?_slot
def bd:=@beq_eq_false_iff_ne
def be:=@List.mem_singleton
def bh:=@Nat.le_trans
def bj:=@List.append_assoc
def bq:=@List.getElem?_set_self
def bv:=@List.getElem?_take_of_lt
def bz:=@List.take_of_length_le
def bB:=@List.mem_append
def bC:=@Nat.le_of_ble_eq_true
def bD:=@PySem.wpAny_newObj_type
def bF:=@List.pairwise_cons
def bN:=@Bool.and_eq_true
def bP:=@List.nodup_cons
def bR:=@List.getElem?_set_ne
def bS:=@PySem.wpAny_field
def bU:=@List.find?_cons
def bV:=@decide_eq_true_eq
def bY:=@PySem.Heap.size_push
def bZ:=@List.getElem?_append_right
def b8:=@PySem.wpAny_setField_rec
def b9:=@List.getElem?_eq_none
def ca:=@Nat.zero_le
def cb:=@List.take_append_of_le_length
def cf:=@List.map_congr_left
def cx:=@Bool.false_eq_true
def cA:=@PyProof.Rows.callWith_type1
def cI:=@List.append_nil
def cJ:=@PySem.wpAny_loadPart'
def cM:=@congrArg
def cN:=@PySem.boot_len
def cQ:=@PySem.Heap.get?_update_other
def cU:=@PySem.isSubtype_type
def cV:=@Nat.lt_irrefl
def cW:=@List.getElem_mem
def cX:=@List.take_length
def cZ:=@Nat.lt_succ_of_lt
def c6:=@Bool.false_ne_true
def c7:=@beq_iff_eq
def c8:=@PySem.wpAny_seqItems
def c_:=@Bool.or_eq_true
def de:=@List.length_cons
def df:=@PySem.wpAny_isInstance
def dg:=@Nat.zero_testBit
def dk:=@PyProof.Rows.boot_tuple
def dq:=@PySem.Heap.get?_update_self
def du:=@PySem.wpAny_holding
def dB:=@Nat.lt_succ_self
def dM:=@Array.length_toList
def dQ:=@PyProof.Rows.slot_tuple_getitem
def dU:=@List.length_singleton
def dW:=@PySem.builtinLookup_eq_fast
def dY:=@PySem.wpAny_mono
def dZ:=@PySem.wpAny_Call_Name_kw
def d8:=@List.not_mem_nil
def eA:=@PySem.wpAny_attempt
def eB:=@Bool.not_true
def eD:=@Bool.and_true
def eL:=@PySem.wpAny_truthy_bool
def eN:=@List.map_append
def eO:=@PySem.wpAny_specialOf
def eS:=@PyProof.Rows.F.plain_set_update_loop
def eT:=@List.getElem?_range
def eU:=@Option.map_eq_some_iff
def eV:=@Int.zero_add
def fj:=@PySem.wpAny_pyIter_tuple
def fm:=@PySem.F.slot_tuple_iterator_next
def fq:=@PySem.Obj.data_mapFields
def fw:=@Array.getElem?_toList
def fx:=@List.getElem?_reverse
def fy:=@List.length_filter_le
def fC:=@List.drop_eq_getElem_cons
def fD:=@PySem.wpAny_passesOwn
def fI:=@List.mem_append_left
def fJ:=@Nat.ne_of_gt
def fK:=@Bool.not_eq_true'
def fL:=@PySem.wpAny_of_eq
def fM:=@PySem.wpAny_setState_of
def fN:=@PySem.Around.under_plainId
def fO:=@List.ext_getElem?
def fP:=@Nat.testBit_eq_decide_div_mod_eq
def fU:=@List.filterMap_cons
def fV:=@PySem.Heap.SameBut.update
def fW:=@PySem.wpAny_setEntries_of
def f7:=@List.mem_range
def f9:=@if_false
def f_:=@List.length_drop
def f':=@List.lookup_cons
def gb:=@List.eq_nil_of_length_eq_zero
def gc:=@List.map_id
def gf:=@Nat.le_of_lt
def gg:=@PySem.Calls.spliced_cons
def gi:=@PySem.codeAny_mono
def gj:=@PySem.wpAny_rule
def gk:=@Nat.zero_add
def gl:=@Nat.eq_zero_or_pos
def gs:=@PySem.typeLookup_type
def gu:=@PySem.codeAny_builtin
def gy:=@Int.emod_nonneg
def gz:=@Bool.eq_iff_iff
def gM:=@Nat.le_succ
def gN:=@List.Perm.refl
def gO:=@Nat.eq_of_testBit_eq
def gX:=@List.filter_cons
def gY:=@beq_self_eq_true
def g_:=@Array.getElem?_eq_getElem
def hU:=@PyProof.Rows.F.entry_set_update_loop
def h_:=@if_true
def ia:=@List.length_nil
def ib:=@Int.natCast_mul
def ii:=@PySem.typeIs_str
def ij:=@Nat.lt_of_le_of_lt
def ik:=@Int.emod_lt_of_pos
def iw:=@List.getElem?_replicate
def iG:=@PySem.Calls.spliced_nil
def iH:=@List.map_nil
def iI:=@PySem.Calls.callWith_builtin
def iJ:=@PySem.wpAny_setField
def iK:=@PySem.isSubtype_stop
def iL:=@Nat.lt_of_succ_lt_succ
def iM:=@of_decide_eq_true
def iN:=@List.take_add_one
def iR:=@PySem.Obj.isFreed_of_fields
def iS:=@PySem.isSubtype_tuple_tuple
def iW:=@PyProof.Rows.callWith_builtin1
def iX:=@PySem.wpAny_forIn_list
def i_:=@PySem.plainId_quiet
def jc:=@List.sum_cons
def jo:=@PySem.wpAny_updateSeq_pair
def jp:=@congrFun
def jq:=@List.getElem?_of_mem
def jD:=@List.mem_filter
def jE:=@PySem.wpAny_execs_nil
def jF:=@List.of_mem_zip
def jG:=@PySem.F.args_tuple_iterator_next_1
def jH:=@Nat.not_lt_zero
def jI:=@List.foldl_cons
def jJ:=@List.nil_append
def jK:=@PySem.F.slot_zip_next
def jL:=@List.filter_map
def jP:=@PySem.Value.isStrOf_shape
def jQ:=@List.filter_eq_self
def jR:=@List.length_flatten
def jY:=@PySem.wpAny_typeOf
def jZ:=@PySem.F.entry_tuple_iterator_next
def j0:=@Array.getD_eq_getD_getElem?
def j4:=@List.getElem?_concat_length
def j_:=@LawfulBEq.eq_of_beq
def ki:=@PySem.Calls.Name_function_global
def kj:=@Int.fdiv_eq_ediv_of_nonneg
def km:=@List.nodup_nil
def ko:=@PySem.wpAny_fieldsOf
def kq:=@or_false
def kr:=@Array.getElem?_eq_some_iff
def kt:=@Bool.not_false
def ku:=@List.take_left
def kw:=@PySem.wpAny_tupleItemsOf
def ky:=@Array.forIn_toList
def kz:=@List.findIdx?_eq_none_iff
def kA:=@PySem.Calls.call_function_entry
def kO:=@PySem.sizeLine_eq
def kP:=@List.any_eq_false
def kQ:=@List.take_sublist
def kR:=@List.length_range
def kS:=@Prod.mk.inj
def kT:=@List.nodup_append
def kU:=@PySem.wpAny_pyIter_slot
def kW:=@List.flatten_cons
def kX:=@Nat.lt_trichotomy
def kY:=@List.mem_range'_1
def lr:=@Bool.or_false
def lu:=@List.any_cons
def lA:=@PySem.wpAny_onRaise
def l6:=@PySem.noFill_tuple_add
def l7:=@List.all_eq_true
def l8:=@PySem.wpAny_askSetting
def l9:=@decide_eq_false_iff_not
def l_:=@List.length_eq_zero_iff
def ma:=@List.getElem?_cons_succ
def me:=@List.range'_succ
def mf:=@PyProof.Rows.boot_bool
def mh:=@List.getElem_map
def mQ:=@PySem.wpAny_pyIter_rangeiter
def mR:=@PyProof.noPylong_small
def mS:=@PyProof.Rows.subscriptTail_builtinR
def mT:=@Nat.not_lt
def mU:=@List.range_succ_eq_map
def mV:=@List.drop_eq_nil_of_le
def mW:=@PySem.wpAny_call
def mX:=@List.drop_of_length_le
def mY:=@dif_pos
def mZ:=@PySem.wpAny_noteFrame_againW
def m3:=@Int.mul_comm
def m5:=@Nat.pow_succ
def m6:=@Nat.div_div_eq_div_mul
def m7:=@Nat.zero_and
def nu:=@List.forIn_cons
def nw:=@PySem.wpAny_ite_split
def ny:=@Nat.min_eq_left
def nz:=@Int.natCast_add
def nA:=@Nat.testBit_and
def nC:=@PySem.wpAny_isTrue_Compare1
def nD:=@List.length_replicate
def nE:=@PySem.F.slot_enumerate_next
def nF:=@List.Perm.append_left
def nG:=@List.set_append_right
def n5:=@PySem.entryFor_alias
def n6:=@PyProof.Rows.boot_sorted
def oX:=@PyProof.Rows.Constant_none
def oY:=@PySem.wpAny_standAt
def oZ:=@PySem.seq_tuple_add
def o9:=@PySem.wpAny_handled
def o_:=@PySem.SeqAt.str_beq
def qo:=@PySem.concat_meets
def qp:=@PySem.callType_new
def qr:=@Nat.lt_or_ge
def qt:=@Nat.sub_self
def qu:=@PyProof.Rows.boot_int
def q5:=@PySem.putSet_of
set_option compiler.extract_closed false
noncomputable section
open PySem.W (Frag)
open PySem.W (instObj emptyDict kia_one fnOf codeIn keepIn codeHdIn nsIn mg_of fnMade mg_none_of)
namespace L2
open PySem PySem.Spec PyProof.Rows
abbrev iy:=Sum Int Str
def uw:iy->Value->Bool
 |.inl k,v=>Value.isInt k v
 |.inr x,v=>Value.isStrOf x v
def Sf(w:World):iy->Int
 |.inl k=>hashInt k
 |.inr x=>hashStr w x
theorem fE:∀{k:iy} {v:Value},uw k v=true->(∃i t,k=Sum.inl i/\v=Value.int i t)\/(∃x t,k=Sum.inr x/\v=Value.str x t)
 |.inl i,v,h=>by
  obtain⟨t,e⟩:=Value.isInt_shape (k:=i) (v:=v) h
  exact .inl ⟨i,t,rfl,e⟩
 |.inr x,v,h=>by
  obtain⟨t,e⟩:=jP (x:=x) (v:=v) h
  exact .inr ⟨x,t,rfl,e⟩
theorem B0(i:Int)(t:Tok):uw (.inl i) (.int i t)=true:=by simp[uw,Value.isInt]
theorem B1(x:Str)(t:Tok):uw (.inr x) (.str x t)=true:=by simp[uw,Value.isStrOf]
theorem K9(a b:Int):decide ((Sum.inl a:iy)=Sum.inl b)=(a==b):=by
 by_cases e:a=b
 ·subst e;simp
 ·have h:¬ (Sum.inl a:iy)=Sum.inl b:=fun q=>e (Sum.inl.inj q)
  rw[aG h]
  exact(bd.mpr e).symm
theorem K_(a b:Str):decide ((Sum.inr a:iy)=Sum.inr b)=decide (a=b):=by
 by_cases e:a=b
 ·subst e;simp
 ·have h:¬ (Sum.inr a:iy)=Sum.inr b:=fun q=>e (Sum.inr.inj q)
  rw[aG h,aG e]
theorem K'(a:Int)(b:Str):decide ((Sum.inl a:iy)=Sum.inr b)=false:=aG (fun q=>nomatch q)
theorem La(a:Str)(b:Int):decide ((Sum.inr a:iy)=Sum.inl b)=false:=aG (fun q=>nomatch q)
def fR(prog:Program)(w:World):PySem.KeyKind prog w iy where
 is:=uw
 hash:=Sf w
 inj:=fun v a b ha hb=>by
  rcases fE ha with⟨i,t,rfl,rfl⟩|⟨x,t,rfl,rfl⟩
  ·rcases fE hb with⟨j,u,rfl,e⟩|⟨y,u,rfl,e⟩
   ·injection e with e1 _;rw[e1]
   ·exact nomatch e
  ·rcases fE hb with⟨j,u,rfl,e⟩|⟨y,u,rfl,e⟩
   ·exact nomatch e
   ·injection e with e1 _;rw[e1]
 byValue:=fun k v h=>by
  rcases fE h with⟨i,t,rfl,rfl⟩|⟨x,t,rfl,rfl⟩<;>rfl
 pyHash:=fun hv h=>by
  rcases fE hv with⟨i,t,rfl,rfl⟩|⟨x,t,rfl,rfl⟩
  ·exact wpAny_pyHash_int h
  ·exact wpAny_pyHash_str h
 eqBool:=fun hu hv h=>by
  rcases fE hu with⟨i,t,rfl,rfl⟩|⟨x,t,rfl,rfl⟩
  ·rcases fE hv with⟨j,u,rfl,rfl⟩|⟨y,u,rfl,rfl⟩
   ·rw[K9]at h;exact wpAny_eqBool_int h
   ·rw[K']at h;exact SeqAt.EqAt.int_str i t y u _ _ _ _ h
  ·rcases fE hv with⟨j,u,rfl,rfl⟩|⟨y,u,rfl,rfl⟩
   ·rw[La]at h;exact SeqAt.EqAt.str_int x t j u _ _ _ _ h
   ·rw[K_]at h;exact wpAny_eqBool_str h
 «strs»:=fun k x t v h=>by
  rcases fE h with⟨i,u,rfl,e⟩|⟨y,u,rfl,e⟩
  ·exact nomatch e
  ·injection e with e1 _
   subst e1
   cases v<;>rfl
theorem wR(prog:Program)(w:World)(i:Int)(t:Tok):(fR prog w).is (.inl i) (.int i t)=true:=B0 i t
theorem wS(prog:Program)(w:World)(x:Str)(t:Tok):(fR prog w).is (.inr x) (.str x t)=true:=B1 x t
inductive V where
 |non|bl (b:Bool)|int (i:Int)|str (x:Str)|byt (b:Array UInt8)|flt (b:UInt64)|ref (a:Addr)|ty (n:String)
 deriving DecidableEq
def cB:V->Value->Prop
 |.non,u=>u=Value.none
 |.bl b,u=>u=Value.bool b
 |.int i,u=>∃t,u=Value.int i t
 |.str x,u=>∃t,u=Value.str x t
 |.byt b,u=>∃t,u=Value.bytes b t
 |.flt b,u=>∃t,u=Value.float b t
 |.ref a,u=>u=Value.ref a
 |.ty n,u=>u=Value.type n
abbrev cw:List V->List Value->Prop:=Paired cB
theorem cw.length{xs:List V}{us:List Value}(r:cw xs us):xs.length=us.length:=Paired.length r
theorem cw.get:∀{xs:List V} {us:List Value} {i:Nat} {x:V},cw xs us->xs[i]?=some x->∃u,us[i]?=some u/\cB x u
 |_,_,_,_,.nil,e=>by simp at e
 |_,_,0,_,.cons r _,e=>by simp at e;subst e;exact⟨_,rfl,r⟩
 |_,_,i+1,x,.cons _ t,e=>by
  obtain⟨u,h1,h2⟩:=cw.get (i:=i) (x:=x) t (by simpa using e)
  exact⟨u,by simpa using h1,h2⟩
theorem cw.set{x:V}{u:Value}(r:cB x u):∀{xs:List V} {us:List Value} (i:Nat),cw xs us->cw (xs.set i x) (us.set i u)
 |_,_,_,.nil=>.nil
 |_,_,0,.cons _ t=>.cons r t
 |_,_,i+1,.cons q t=>.cons q (cw.set r i t)
theorem cw.append:∀{xs ys:List V} {us ws:List Value},cw xs us->cw ys ws->cw (xs++ys) (us++ws)
 |_,_,_,_,.nil,s=>s
 |_,_,_,_,.cons r t,s=>.cons r (cw.append t s)
theorem cw.take:∀{xs:List V} {us:List Value} (n:Nat),cw xs us->cw (xs.take n) (us.take n)
 |_,_,0,_=>.nil
 |_,_,_+1,.nil=>.nil
 |_,_,n+1,.cons r t=>.cons r (cw.take n t)
theorem cw.drop:∀{xs:List V} {us:List Value} (n:Nat),cw xs us->cw (xs.drop n) (us.drop n)
 |_,_,0,r=>r
 |_,_,_+1,.nil=>.nil
 |_,_,n+1,.cons _ t=>cw.drop n t
def vo:Option V->Option Value->Prop
 |some v,some u=>cB v u
 |none,none=>True
 |_,_=>False
def KV{κ:Type}:List (κ×V)->List (κ×Value)->Prop:=Paired fun(p:κ×V) (q:κ×Value)=>p.1=q.1/\cB p.2 q.2
def kV:iy->V
 |.inl i=>.int i
 |.inr x=>.str x
inductive HO where
 /-- a list -/
 |lst (xs:List V)
 /-- a tuple (never changes) -/
 |tup (xs:List V)
 /-- a dict whose keys are ints and texts;one whose keys are tuples of ints and texts (the empty one is both) -/
 |dK (kvs:List (iy×V))|dT (kvs:List (List iy×V))
 /-- a set of ints: bI members,bI size -/
 |set (S:Int->Bool) (n:Nat)
 /-- an instance of the class at C,bI dict at dx,bI attributes -/
 |ins (C dx:Addr) (fs:List (Str×V))
 /-- the dict of the instance at x -/
 |own (x:Addr)
 /-- the dict of an exception -/
 |xd (fs:List (Str×V))
 /-- a bound method,f of x -/
 |met (f x:Addr)
 /-- a range object lo,lo+1,.. below hi -/
 |rng (lo hi:Int)
 /-- a thing that is known to the object (the script;a dict while a loop walks it): read,never written while it is so -/
 |frz (o:Obj) (u:HO)
 /-- a code object's table -/
 |tbl (ps:Array Value)
 /-- any other thing,by what is true of bI one object (a def of Uh own: SetO a S n:=HO.ext fun h=>..) -/
 |ext (φ:Heap->Prop)
abbrev Hp:=Addr->Option HO
def eY(H:Hp)(a:Addr)(o:HO):Hp:=fun b=>if b=a then some o else H b
theorem dR{H:Hp}{a:Addr}{o:HO}:eY H a o a=some o:=by unfold eY;rw[aq rfl]
theorem cv{H:Hp}{a b:Addr}{o:HO}(h:b≠a):eY H a o b=H b:=by unfold eY;rw[ax h]
theorem OL{H:Hp}{a b:Addr}{o u:HO}(h:H a=some o)(h':H b=some u)(d:o≠u):a≠b:=by
 intro e;subst e;rw[h]at h';exact d (aS h')
theorem eZ{H:Hp}{a b:Addr}{o:HO}(h:H a=some o)(h':H b=none):a≠b:=by
 intro e;subst e;rw[h]at h';cases h'
section
variable(P:Program)(w:World)
def fz(H:Hp)(h:Heap)(a:Addr):HO->Prop
 |.lst xs=>xs.length<=sizeLine/\∃(bI:List Value) (n:Nat),cw xs bI/\h.get? a=some { cls:=.type "list",data:=.seq bI.toArray n }
 |.tup xs=>xs.length<=sizeLine/\∃bI:List Value,cw xs bI/\IsTup h a bI.toArray
 |.dK kvs=>kvs.length<=sizeLine/\(a==sysModules)=false/\∃vs,KV kvs vs/\h.DictOf (fR P w) a vs
 |.dT kvs=>kvs.length<=sizeLine/\(a==sysModules)=false/\∃xs:List (List iy×Addr×Value),
   Paired (fun(p:List iy×V) (q:List iy×Addr×Value)=>p.1=q.1/\H q.2.1=some (.tup (p.1.map kV))/\cB p.2 q.2.2) kvs xs /\
   ∃o es ep,h.get? a=some o/\o.ExactDict/\o.data=.dict es ep/\es.toList=xs.map (entryOfKey (tupleKind (fR P w)))/\(xs.map (·.1)).Nodup
 |.set S n=>h.SetOf (intKind P w) a S n
 |.ins C dx fs=>H dx=some (.own a)/\fs.length<=1000/\dx≠a/\h.get? a=some (instObj C dx) /\
   ∃mA,h.Ns1 dx mA/\(∀f,vo (fs.lookup f) (mA f))/\PySem.Within mA (fs.map (·.1))
 |.own _=>∃o,h.get? a=some o
 |.xd fs=>∃mA,h.Ns1 a mA/\∀f,vo (fs.lookup f) (mA f)
 |.rng lo hi=>∃t u v,h.get? a=some { cls:=.type "range",data:=.fields #[.int lo t,.int hi u,.int 1 v] }
 |.frz o u=>h.get? a=some o/\fz H h a u
 |.tbl ps=>h.get? a=some { cls:=.none,data:=.fields ps }
 |.met f x=>h.get? a=some (PySem.W.methodObj (.ref f) (.ref x))
 |.ext φ=>φ h/\(∃o,h.get? a=some o)/\∀h1 h2:Heap,φ h1->(∀o,h1.get? a=some o->h2.get? a=some o)->φ h2
def kB(H:Hp)(h:Heap):Prop:=∀a o,H a=some o->fz P w H h a o
end
section
variable{P:Program}{w:World}{H H':Hp}{h h':Heap}{a:Addr}{o:HO}
theorem fz.lt(x:fz P w H h a o):a<h.objs.size:=by
 cases o with
 |lst xs=>obtain⟨_,_,_,_,e⟩:=x;exact aE e
 |tup xs=>obtain⟨_,_,_,p⟩:=x;exact p.lt
 |dK kvs=>obtain⟨_,_,_,_,o,_,_,e,_⟩:=x;exact aE e
 |dT kvs=>obtain⟨_,_,_,_,o,_,_,e,_⟩:=x;exact aE e
 |set S n=>obtain⟨o,_,_,_,e,_⟩:=x;exact aE e
 |ins C dx fs=>obtain⟨_,_,_,e,_⟩:=x;exact aE e
 |own y=>obtain⟨_,e⟩:=x;exact aE e
 |xd fs=>obtain⟨_,⟨_,_,_,e,_⟩,_⟩:=x;exact aE e
 |rng lo hi=>obtain⟨_,_,_,e⟩:=x;exact aE e
 |frz ob u=>obtain⟨e,_⟩:=x;exact aE e
 |tbl ps=>exact aE (show h.get? a=some _ from x)
 |met f y=>exact aE (show h.get? a=some _ from x)
 |ext φ=>obtain⟨_,⟨_,e⟩,_⟩:=x;exact aE e
theorem Paired.mapP{α β:Type}{F G:α->β->Prop}:∀{l₁:List α} {l₂:List β},Paired F l₁ l₂->(∀a b,F a b->G a b)->Paired G l₁ l₂
 |_,_,.nil,_=>.nil
 |_,_,.cons r t,f=>.cons (f _ _ r) (Paired.mapP t f)
theorem Paired.imp'{α β:Type}{F G:α->β->Prop}(f:∀a b,F a b->G a b){l₁:List α}{l₂:List β}(r:Paired F l₁ l₂):Paired G l₁ l₂:=Paired.mapP r f
theorem fz.stay(x:fz P w H h a o)(k:∀b u,(b=a\/H b=some (.own a))->h.get? b=some u->h'.get? b=some u)
  (ho:∀b,H b=some (.own a)->H' b=some (.own a)) (ht:∀b xs,H b=some (.tup xs)->H' b=some (.tup xs)):fz P w H' h' a o:=by
 induction o with
 |lst xs=>obtain⟨z,bI,n,r,e⟩:=x;exact⟨z,bI,n,r,k _ _ (.inl rfl) e⟩
 |tup xs=>obtain⟨z,bI,r,ob,e,c⟩:=x;exact⟨z,bI,r,ob,k _ _ (.inl rfl) e,c⟩
 |dK kvs=>obtain⟨z,y,vs,r,ob,es,ep,e,c⟩:=x;exact⟨z,y,vs,r,ob,es,ep,k _ _ (.inl rfl) e,c⟩
 |dT kvs=>
  obtain⟨z,y,xs,r,ob,es,ep,e,c⟩:=x
  exact⟨z,y,xs,Paired.mapP r fun p q z=>⟨z.1,ht _ _ z.2.1,z.2.2⟩,ob,es,ep,k _ _ (.inl rfl) e,c⟩
 |set S n=>obtain⟨ob,es,ep,t,e,c⟩:=x;exact⟨ob,es,ep,t,k _ _ (.inl rfl) e,c⟩
 |ins C dx fs=>
  obtain⟨d,z,ne,e,mA,⟨od,es,ep,e2,c⟩,r⟩:=x
  exact⟨ho _ d,z,ne,k _ _ (.inl rfl) e,mA,⟨od,es,ep,k _ _ (.inr d) e2,c⟩,r⟩
 |own y=>obtain⟨ob,e⟩:=x;exact⟨ob,k _ _ (.inl rfl) e⟩
 |xd fs=>obtain⟨mA,⟨od,es,ep,e,c⟩,r⟩:=x;exact⟨mA,⟨od,es,ep,k _ _ (.inl rfl) e,c⟩,r⟩
 |rng lo hi=>obtain⟨t,u,v,e⟩:=x;exact⟨t,u,v,k _ _ (.inl rfl) e⟩
 |frz ob u ih=>obtain⟨e,q⟩:=x;exact⟨k _ _ (.inl rfl) e,ih q⟩
 |tbl ps=>
  have e:h.get? a=some { cls:=.none,data:=.fields ps }:=x
  show h'.get? a=some { cls:=.none,data:=.fields ps }
  exact k a _ (.inl rfl) e
 |met f y=>
  have e:h.get? a=some (PySem.W.methodObj (.ref f) (.ref y)):=x
  show h'.get? a=some (PySem.W.methodObj (.ref f) (.ref y))
  exact k a _ (.inl rfl) e
 |ext φ=>obtain⟨p,⟨o,e⟩,st⟩:=x;exact⟨st _ _ p fun o q=>k _ _ (.inl rfl) q,⟨o,k _ _ (.inl rfl) e⟩,st⟩
theorem kB.lt(x:kB P w H h)(e:H a=some o):a<h.objs.size:=(x a o e).lt
theorem kB.fresh(x:kB P w H h)(e:h.objs.size<=a):H a=none:=by
 cases q:H a with
 |none=>rfl
 |some u=>exact absurd (aU (x.lt q) e) (cV _)
theorem kB.kept(x:kB P w H h)(k:∀b u,h.get? b=some u->h'.get? b=some u):kB P w H h':=fun a o e=>
 (x a o e).stay (fun b u _ q=>k b u q) (fun _ q=>q) fun _ _ q=>q
theorem kB.laid(x:kB P w H h)(k:∀b u,h.get? b=some u->h'.get? b=some u)(hp:h.objs.size<=a)(new:fz P w (eY H a o) h' a o):kB P w (eY H a o) h':=fun b u e=>by
 have hn:=x.fresh hp
 by_cases hb:b=a
 ·subst hb;rw[dR]at e;cases e;exact new
 ·rw[cv hb]at e
  exact(x b u e).stay (fun c v _ q=>k c v q) (fun c q=>by rw[cv (eZ q hn)];exact q) fun c xs q=>by rw[cv (eZ q hn)];exact q
end
def Rd(H:Hp)(a:Addr)(u:HO):Prop:=H a=some u\/∃o,H a=some (.frz o u)
theorem Rd.of{H:Hp}{a:Addr}{u:HO}(h:H a=some u):Rd H a u:=.inl h
theorem Rd.ok{P:Program}{w:World}{H:Hp}{h:Heap}{a:Addr}{u:HO}(r:Rd H a u)(x:kB P w H h):fz P w H h a u:=by
 rcases r with r|⟨o,r⟩
 ·exact x a u r
 ·obtain⟨_,q⟩:=x a _ r
  exact q
def Ov:Option HO->Prop
 |some (.lst _)=>True
 |some (.dK _)=>True
 |some (.dT _)=>True
 |some (.set _ _)=>True
 |some (.ins _ _ _)=>True
 |some (.ext _)=>True
 |_=>False
section
variable{P:Program}{w:World}{H:Hp}{h h':Heap}{x e:Addr}{o':HO}
theorem kB.write(ok:kB P w H h)(mu:Ov (H x))(he:e=x\/H e=some (.own x))(k:∀b u,b≠e->h.get? b=some u->h'.get? b=some u)(OJ:∃u,h'.get? e=some u)
  (new:fz P w (eY H x o') h' x o'):kB P w (eY H x o') h':=fun b u q=>by
 have nown:∀c y,H c=some (.own y)->c≠x:=fun c y r z=>by subst z;rw[r]at mu;exact mu
 have ntup:∀c xs,H c=some (.tup xs)->c≠x:=fun c xs r z=>by subst z;rw[r]at mu;exact mu
 by_cases hb:b=x
 ·subst hb;rw[dR]at q;cases q;exact new
 ·rw[cv hb]at q
  by_cases hbe:b=e
  ·have q':H b=some (.own x):=by
    rcases he with z|z
    ·exact absurd (hbe.trans z) hb
    ·rw[hbe];exact z
   rw[q]at q';cases q'
   obtain⟨v,hv⟩:=OJ
   exact⟨v,by rw[hbe];exact hv⟩
  ·refine(ok b u q).stay (fun c v hc r=>k c v ?_ r) (fun c r=>by rw[cv (nown c b r)];exact r) fun c xs r=>by rw[cv (ntup c xs r)];exact r
   rcases hc with rfl|hc
   ·exact hbe
   ·rintro rfl
    rcases he with z|z
    ·exact nown c b hc z
    ·rw[hc]at z;cases z;exact hb rfl
end
structure Un(fs ex:List Addr)(H H':Hp)(h h':Heap):Prop where
 keep:∀b o,h.get? b=some o->H b=none->b∉fs->b∉ex->h'.get? b=some o
 slot:∀b o,h.get? b=some o->H b=none->b∈fs->b∉ex->∃sl,h'.get? b=some { o with slots:=sl }
 free:∀b o,h.get? b=some o->H b=none->b∉ex->H' b=none
 there:∀b o,h.get? b=some o->b∉ex->∃o',h'.get? b=some o'
 tups:∀b xs,H b=some (.tup xs)->H' b=some (.tup xs)
 frzs:∀b o u,H b=some (.frz o u)->H' b=some (.frz o u)
 tbls:∀b ps,H b=some (.tbl ps)->∃more,H' b=some (.tbl (ps++more))
section
variable{fs TN ex Ul:List Addr}{H H1 H2:Hp}{h h1 h2 h':Heap}{a x e:Addr}{o:HO}
theorem Un.any(u:Un fs ex H H1 h h1){b:Addr}{ob:Obj}(q:h.get? b=some ob)(n:H b=none)(hx:b∉ex):∃sl,h1.get? b=some { ob with slots:=sl }:=by
 by_cases hb:b∈fs
 ·exact u.slot b ob q n hb hx
 ·exact⟨ob.slots,u.keep b ob q n hb hx⟩
theorem Un.trans(a:Un fs ex H H1 h h1)(b:Un fs ex H1 H2 h1 h2):Un fs ex H H2 h h2 where
 keep:=fun c ob q n hc hx=>b.keep c ob (a.keep c ob q n hc hx) (a.free c ob q n hx) hc hx
 slot:=fun c ob q n hc hx=>by
  obtain⟨sl,e1⟩:=a.slot c ob q n hc hx
  obtain⟨sl',e2⟩:=b.slot c _ e1 (a.free c ob q n hx) hc hx
  exact⟨sl',e2⟩
 free:=fun c ob q n hx=>by
  obtain⟨o',e1⟩:=a.there c ob q hx
  exact b.free c o' e1 (a.free c ob q n hx) hx
 there:=fun c ob q hx=>by
  obtain⟨o',e1⟩:=a.there c ob q hx
  exact b.there c o' e1 hx
 tups:=fun c xs q=>b.tups c xs (a.tups c xs q)
 frzs:=fun c ob xs q=>b.frzs c ob xs (a.frzs c ob xs q)
 tbls:=fun c ps q=>by
  obtain⟨m1,e1⟩:=a.tbls c ps q
  obtain⟨m2,e2⟩:=b.tbls c _ e1
  exact⟨m1++m2,by rw[e2,Array.append_assoc]⟩
theorem Un.kept(k:∀b u,h.get? b=some u->h'.get? b=some u):Un fs ex H H h h':=
 ⟨fun b ob q _ _ _=>k b ob q,fun b ob q _ _ _=>⟨ob.slots,k b ob q⟩,fun _ _ _ n _=>n,fun b ob q _=>⟨ob,k b ob q⟩,fun _ _ q=>q,fun _ _ _ q=>q,fun _ ps q=>⟨#[],by rw[q];simp⟩⟩
theorem Un.refl:Un fs ex H H h h:=Un.kept fun _ _ q=>q
theorem Un.laid(k:∀b u,h.get? b=some u->h'.get? b=some u)(hp:h.objs.size<=a)(hn:H a=none):Un fs ex H (eY H a o) h h' where
 keep:=fun b u q _ _ _=>k b u q
 slot:=fun b u q _ _ _=>⟨u.slots,k b u q⟩
 free:=fun b u q n _=>by rw[cv (ba (aU (aE q) hp))];exact n
 there:=fun b u q _=>⟨u,k b u q⟩
 tups:=fun b xs q=>by rw[cv (eZ q hn)];exact q
 frzs:=fun b u xs q=>by rw[cv (eZ q hn)];exact q
 tbls:=fun b ps q=>⟨#[],by rw[cv (eZ q hn),q];simp⟩
theorem Un.write(mu:Ov (H x))(he:e=x\/H e=some (.own x))(k:∀b u,b≠e->h.get? b=some u->h'.get? b=some u)(OJ:∃u,h'.get? e=some u):Un fs ex H (eY H x o) h h':=by
 have hx:∀b,H b=none->b≠x:=fun b n z=>by subst z;rw[n]at mu;exact mu
 have hb:∀b,H b=none->b≠e:=fun b n z=>by
  subst z
  rcases he with r|r
  ·exact hx b n r
  ·rw[n]at r;cases r
 have hm:∀b u,H b=some u->¬ Ov (some u)->b≠x:=fun b u q nm z=>by subst z;rw[q]at mu;exact nm mu
 refine⟨fun b u q n _ _=>k b u (hb b n) q,fun b u q n _ _=>⟨u.slots,k b u (hb b n) q⟩,fun b u q n _=>by rw[cv (hx b n)];exact n,fun b u q _=>?_,
  fun b xs q=>by rw[cv (hm b _ q fun z=>z)];exact q,fun b u xs q=>by rw[cv (hm b _ q fun z=>z)];exact q,fun b ps q=>⟨#[],by rw[cv (hm b _ q fun z=>z),q];simp⟩⟩
 by_cases hbe:b=e
 ·subst hbe;exact OJ
 ·exact⟨u,k b u hbe q⟩
theorem Un.mono(u:Un fs ex H H1 h h1)(hs:∀b∈fs,b∈TN)(hx:∀b∈ex,b∈Ul):Un TN Ul H H1 h h1:=
 ⟨fun b ob q n hb he=>u.keep b ob q n (fun z=>hb (hs b z)) fun z=>he (hx b z),fun _ _ q n _ he=>u.any q n fun z=>he (hx _ z),fun b ob q n he=>u.free b ob q n fun z=>he (hx b z),fun b ob q he=>u.there b ob q fun z=>he (hx b z),u.tups,u.frzs,u.tbls⟩
end
def RQ(h:Heap)(H:Hp):List Addr:=(List.range h.objs.size).filter fun a=>(H a).isSome
def t8(h:Heap)(H:Hp):Heap:=PySem.W.hideAll h (RQ h H)
theorem B2(h:Heap)(H:Hp):(t8 h H).objs.size=h.objs.size:=PySem.W.hideAll_size _ _
theorem Dz{h:Heap}{H:Hp}{b:Addr}{o:Obj}(e:h.get? b=some o)(n:H b=none):(t8 h H).get? b=some o:=
 PySem.W.hideAll_get _ e fun hm=>by
  have q:(H b).isSome=true:=(jD.mp hm).2
  rw[n]at q;simp at q
theorem Hg{h:Heap}{H:Hp}{b:Addr}{o:Obj}(e:(t8 h H).get? b=some o):h.get? b=some o/\H b=none:=by
 have e':h.get? b=some o:=PySem.W.of_hideAll (RQ h H) e
 refine⟨e',?_⟩
 cases q:H b with
 |none=>rfl
 |some x=>
  have hm:b∈RQ h H:=jD.mpr ⟨f7.mpr (aE e'),by simp[q]⟩
  have z:(t8 h H).get? b=none:=PySem.W.hideAll_none (RQ h H) hm
  rw[z]at e;cases e
def Hh(g h:Heap)(L:Addr):List (Addr×Obj):=(List.range h.objs.size).filterMap fun a=>if a=L\/(g.get? a).isSome=true then none else(h.get? a).map fun o=>(a,o)
def rest(g h:Heap)(L d:Addr):List (Addr×Obj):=(Hh g h L).filter fun p=>decide (p.1≠d)
structure Mod(K:Frag)(mg:Str->Option Value)(base:Heap):Prop where
 kin:K.In base
 glob:base.Ns mainGlobals mg
 blt:∃mb,base.Ns builtinsNs mb/\∀x:Str,x ≠ "__name__"->mb x=bootBuiltins x
 nolimit:base.NoLimit
/-- the context: a def's body (or a comprehension's block) running. base: fixed through the rH    law; s₀, H₀: the entry; outer: the frames whose slots others may change (a def's callers); stack: all frames that run;
   ex: iterators that were made ahead of the entry and are walked here (a comprehension's); fn: the names whose cells were made at the entry (a def: all; a comprehension's block: bI  own); calm: not within an except suite; pn: af   that every state bears; xe: what is wanted of an exception that leaves the code -/
structure Cx where
 prog:Program
 w:World
 K:Frag
 mg:Str->Option Value
 base:Heap
 A:Around
 N:List Str
 s₀:Shared
 H₀:Hp
 env:Env
 outer:List Env
 stack:List Env
 ex:List Addr
 fn:Str->Bool
 calm:Bool
 pn:List (Addr×Obj)
 xe:Value->Shared->Prop
def sw(l:List Env):List Addr:=l.filterMap (·.frame)
abbrev Cx.fs(X:Cx):List Addr:=sw X.outer
def Ow(sc:Scope)(x:Str):Prop:=sc.names.lookup x=some .local\/sc.names.lookup x=some .cell\/sc.names.lookup x=some .free
def DA(sc:Scope)(x:Str):Prop:=sc.names.lookup x=some .local\/sc.names.lookup x=some .cell
def Sg(env:Env)(h:Heap)(m:Str->Option Value)(x:Str)(u:Value):Prop:=
 (env.kindOf x=some .local/\m x=some u)\/((env.kindOf x=some .cell\/env.kindOf x=some .free)/\∃c,env.cells.lookup x=some c/\h.IsCell c (some u))
structure Cx.Ok(X:Cx):Prop where
 mod:Mod X.K X.mg X.base
 kind:X.env.scope.kind=.function
 glob:X.env.globals=mainGlobals
 blt:X.env.builtins=builtinsNs
 above:X.s₀.heap.objs.size<=X.env.locals
 inj:∀x y c,X.env.cells.lookup x=some c->X.env.cells.lookup y=some c->x=y
 has:∀x,(X.env.kindOf x=some .cell\/X.env.kindOf x=some .free)->∃c,X.env.cells.lookup x=some c
 cab:∀x c,X.fn x=true->X.env.cells.lookup x=some c->X.s₀.heap.objs.size<=c
 hd:X.calm=true->X.A.handled=none
 frames:X.A.frames=some X.stack
 stk:X.stack=X.outer\/(X.stack=X.env::X.outer/\X.env.frame=some X.env.locals)
 exf:∀b∈X.ex,b≠X.env.locals/\∀x c,X.env.cells.lookup x=some c->c≠b
 bs:∀b o,X.base.get? b=some o->X.s₀.heap.get? b=some o/\X.H₀ b=none
 bsz:X.base.objs.size<=X.s₀.heap.objs.size
 noex:∀b o,X.base.get? b=some o->b∉X.ex
 exfs:∀b∈X.ex,b∉X.fs
 funs:X.s₀.heap.FunFrames X.base X.outer
 frf:∀b∈X.fs,X.H₀ b=none
structure bw(X:Cx)(af:List (Addr×Obj))(σ:List (Option V))(H:Hp)(s:Shared):Prop where
 ok:X.Ok
 os:s.os=X.s₀.os
 bare:AllBare s.gens
 base:Un X.fs X.ex X.H₀ H X.s₀.heap s.heap
 loc:∃m,s.heap.Ns X.env.locals m/\∀(i:Nat) (x:Str) (v:V),X.N[i]?=some x->σ[i]?=some (some v)->Ow X.env.scope x->∃u,cB v u/\Sg X.env s.heap m x u
 cell:∀x c,X.env.cells.lookup x=some c->∃v,s.heap.IsCell c v
 free:H X.env.locals=none
 freeC:∀x c,X.env.cells.lookup x=some c->H c=none
 pin:∀p∈X.pn++af,s.heap.get? p.1=some p.2/\H p.1=none/\p.1≠X.env.locals/\p.1∉X.fs/\∀v,p.2.data≠.cell v
 hok:kB X.prog X.w H s.heap
 len:σ.length=X.N.length
section
variable{X:Cx}{af:List (Addr×Obj)}{σ:List (Option V)}{H H':Hp}{s:Shared}{h':Heap}
theorem Cx.Ok.nofr(ok:X.Ok){b:Addr}{o:Obj}(e:X.base.get? b=some o):b∉X.fs:=fun hb=>by
 have:=(ok.funs.mem hb).1
 rw[e]at this;cases this
theorem bw.bs(I:bw X af σ H s):∀b o,X.base.get? b=some o->s.heap.get? b=some o/\H b=none:=fun b o e=>
 ⟨I.base.keep b o (I.ok.bs b o e).1 (I.ok.bs b o e).2 (I.ok.nofr e) (I.ok.noex b o e),I.base.free b o (I.ok.bs b o e).1 (I.ok.bs b o e).2 (I.ok.noex b o e)⟩
theorem bw.bk(I:bw X af σ H s):∀b o,X.base.get? b=some o->s.heap.get? b=some o:=fun b o e=>(I.bs b o e).1
theorem bw.mod(I:bw X af σ H s):Mod X.K X.mg X.base:=I.ok.mod
theorem bw.kIn(I:bw X af σ H s):X.K.In s.heap:=I.ok.mod.kin.keeps I.bk
theorem bw.nolimit(I:bw X af σ H s):s.heap.NoLimit:=I.ok.mod.nolimit.keeps I.bk
theorem bw.fr(I:bw X af σ H s):∃m,Fr X.base X.env.locals s.heap m:=
 let ⟨m,hn,_⟩:=I.loc
 ⟨m,hn,I.bk,bh I.ok.bsz I.ok.above⟩
theorem bw.lt(I:bw X af σ H s):X.env.locals<s.heap.objs.size:=let ⟨_,hn,_⟩:=I.loc;hn.lt
theorem bw.sz(I:bw X af σ H s):X.s₀.heap.objs.size<=s.heap.objs.size:=bh I.ok.above (gf I.lt)
theorem bw.nofs(I:bw X af σ H s){a:Addr}(h:s.heap.objs.size<=a):a∉X.fs:=fun hb=>by
 obtain⟨_,o,ho,_⟩:=I.ok.funs.mem hb
 exact absurd (aU (aE ho) (bh I.sz h)) (cV _)
theorem bw.cne(I:bw X af σ H s):∀x c,X.env.cells.lookup x=some c->c≠X.env.locals:=fun x c e z=>by
 obtain⟨v,o,ho,hd⟩:=I.cell x c e
 obtain⟨m,⟨o',es,ep,ho',hd',_⟩,_⟩:=I.loc
 rw[z,ho']at ho;cases ho;rw[hd']at hd;cases hd
theorem bw.funs(I:bw X af σ H s):s.heap.FunFrames X.base X.outer:=by
 have all:∀(l:List Env),(∀b∈sw l,b∈X.fs)->X.s₀.heap.FunFrames X.base l->s.heap.FunFrames X.base l:=by
  intro l
  induction l with
  |nil=>intro _ _;trivial
  |cons env r ih=>
   intro hs hl
   obtain⟨hk,⟨L,o,hf,hn,ho,hd⟩,hr⟩:=hl
   have hL:L∈X.fs:=hs L (by unfold sw;rw[fU,hf];exact a7)
   obtain⟨sl,e⟩:=I.base.slot L o ho (I.ok.frf L hL) hL fun z=>I.ok.exfs L z hL
   exact⟨hk,⟨L,_,hf,hn,e,hd⟩,ih (fun b hb=>hs b (by unfold sw;rw[fU,hf];exact aH _ hb)) hr⟩
 exact all X.outer (fun _ hb=>hb) I.ok.funs
theorem bw.stack(I:bw X af σ H s):s.heap.FunFrames X.base X.stack:=by
 rcases I.ok.stk with e|⟨e,hf⟩
 ·rw[e];exact I.funs
 ·rw[e]
  obtain⟨m,hn,_⟩:=I.loc
  refine .cons (by rw[I.ok.kind];decide) hf hn ?_ I.funs
  exact Heap.get?_none_of_le (bh I.ok.bsz I.ok.above)
theorem bw.stkSub(I:bw X af σ H s):∀b∈sw X.stack,b∈X.env.locals::X.fs:=fun b hb=>by
 rcases I.ok.stk with e|⟨e,hf⟩
 ·rw[e]at hb;exact aH _ hb
 ·rw[e]at hb
  unfold sw at hb
  rw[fU,hf]at hb
  exact hb
theorem bw.stkFree(I:bw X af σ H s):∀b∈sw X.stack,H b=none:=fun b hb=>by
 rcases aM.mp (I.stkSub b hb)with e|hb
 ·rw[e];exact I.free
 ·obtain⟨_,o,ho,_⟩:=I.ok.funs.mem hb
  exact I.base.free b o ho (I.ok.frf b hb) fun z=>I.ok.exfs b z hb
theorem bw.step{g':Array GenState}{t':Nat}{d':Drawn}{ch:List Addr}(I:bw X af σ H s)
  (Hd:∀b∈ch,(b∈X.ex\/X.s₀.heap.objs.size<=b)/\b≠X.env.locals/\(∀x c,X.env.cells.lookup x=some c->c≠b)/\∀p∈X.pn++af,p.1≠b)
  (keep:∀b o,b≠X.env.locals->b∉X.fs->b∉ch->s.heap.get? b=some o->H b=none->h'.get? b=some o)
  (slot:∀b o,b≠X.env.locals->b∈X.fs->b∉ch->s.heap.get? b=some o->H b=none->∃sl,h'.get? b=some { o with slots:=sl }) (free:∀b o,b∉ch->s.heap.get? b=some o->H b=none->H' b=none)
  (there:∀b o,b∉ch->s.heap.get? b=some o->∃o',h'.get? b=some o')
  (tups:∀b xs,H b=some (.tup xs)->H' b=some (.tup xs)) (frzs:∀b o u,H b=some (.frz o u)->H' b=some (.frz o u)) (tbls:∀b ps,H b=some (.tbl ps)->∃more,H' b=some (.tbl (ps++more)))
  (ns:∀m,s.heap.Ns X.env.locals m->h'.Ns X.env.locals m) (hok:kB X.prog X.w H' h') (hg:AllBare g') :
  bw X af σ H' { s with heap:=h',gens:=g',drawn:=d',toks:=t' }:=by
 have neL:∀b o,X.s₀.heap.get? b=some o->b≠X.env.locals:=fun b o e=>ba (aU (aE e) I.ok.above)
 have neC:∀b o,X.s₀.heap.get? b=some o->b∉X.ex->b∉ch:=fun b o e hx hb=>by
  rcases(Hd b hb).1 with z|z
  ·exact hx z
  ·exact absurd (aU (aE e) z) (cV _)
 have cellK:∀x c,X.env.cells.lookup x=some c->∀v,s.heap.IsCell c v->h'.IsCell c v:=fun x c e v ⟨o,ho,hd⟩=>by
  have nch:c∉ch:=fun z=>(Hd c z).2.2.1 x c e rfl
  by_cases hc:c∈X.fs
  ·obtain⟨sl,q⟩:=slot c o (I.cne x c e) hc nch ho (I.freeC x c e)
   exact⟨_,q,hd⟩
  ·exact⟨o,keep c o (I.cne x c e) hc nch ho (I.freeC x c e),hd⟩
 refine⟨I.ok,I.os,hg,⟨fun b o e n hb hx=>?_,fun b o e n hb hx=>?_,fun b o e n hx=>?_,fun b o e hx=>?_,fun b xs e=>tups b xs (I.base.tups b xs e),fun b o xs e=>frzs b o xs (I.base.frzs b o xs e),fun b ps e=>?_⟩,?_,fun x c e=>?_,?_,fun x c e=>?_,fun p hp=>?_,hok,I.len⟩
 ·exact keep b o (neL b o e) hb (neC b o e hx) (I.base.keep b o e n hb hx) (I.base.free b o e n hx)
 ·obtain⟨sl,e1⟩:=I.base.slot b o e n hb hx
  obtain⟨sl',e2⟩:=slot b _ (neL b o e) hb (neC b o e hx) e1 (I.base.free b o e n hx)
  exact⟨sl',e2⟩
 ·obtain⟨o',e1⟩:=I.base.there b o e hx
  exact free b o' (neC b o e hx) e1 (I.base.free b o e n hx)
 ·obtain⟨o',e1⟩:=I.base.there b o e hx
  exact there b o' (neC b o e hx) e1
 ·obtain⟨m1,e1⟩:=I.base.tbls b ps e
  obtain⟨m2,e2⟩:=tbls b _ e1
  exact⟨m1++m2,by rw[e2,Array.append_assoc]⟩
 ·obtain⟨m,hn,hl⟩:=I.loc
  refine⟨m,ns m hn,fun i x v e1 e2 e3=>?_⟩
  obtain⟨u,r,l⟩:=hl i x v e1 e2 e3
  refine⟨u,r,?_⟩
  rcases l with l|⟨k,c,e,z⟩
  ·exact .inl l
  ·exact .inr ⟨k,c,e,cellK x c e _ z⟩
 ·obtain⟨v,z⟩:=I.cell x c e
  exact⟨v,cellK x c e v z⟩
 ·obtain⟨m,⟨o,_,_,ho,_⟩,_⟩:=I.loc
  exact free _ o (fun z=>(Hd _ z).2.1 rfl) ho I.free
 ·obtain⟨v,o,ho,hd⟩:=I.cell x c e
  exact free c o (fun z=>(Hd c z).2.2.1 x c e rfl) ho (I.freeC x c e)
 ·obtain⟨e,n,ne,nf,d⟩:=I.pin p hp
  have nch:p.1∉ch:=fun z=>(Hd p.1 z).2.2.2 p hp rfl
  exact⟨keep p.1 p.2 ne nf nch e n,free p.1 p.2 nch e n,ne,nf,d⟩
theorem bw.un{t':Nat}(I:bw X af σ H s)(u:Un X.fs [] H H' s.heap h')(hok:kB X.prog X.w H' h'):bw X af σ H' { s with heap:=h',toks:=t' }:=by
 obtain⟨m,⟨o,es,ep,ho,r⟩,_⟩:=id I.loc
 obtain⟨sl,hL⟩:=u.any ho I.free (by simp)
 exact I.step (g':=s.gens) (d':=s.drawn) (ch:=[]) (fun _ z=>nomatch z) (fun b o _ hb _ e n=>u.keep b o e n hb (by simp)) (fun b o _ hb _ e n=>u.slot b o e n hb (by simp)) (fun b o _ e n=>u.free b o e n (by simp)) (fun b o _ e=>u.there b o e (by simp)) u.tups u.frzs u.tbls (fun m' hm=>by
  obtain⟨o',es',ep',ho',r'⟩:=hm
  rw[ho]at ho';cases ho'
  exact⟨_,es',ep',hL,r'⟩) hok I.bare
theorem bw.call{g':Array GenState}{t':Nat}{d':Drawn}{ch:List Addr}(I:bw X af σ H s)(u:Un (sw X.stack) ch H H' s.heap h')(hok:kB X.prog X.w H' h')(hg:AllBare g')
  (Hd:∀b∈ch,(b∈X.ex\/X.s₀.heap.objs.size<=b)/\b≠X.env.locals/\(∀x c,X.env.cells.lookup x=some c->c≠b)/\∀p∈X.pn++af,p.1≠b) :
  bw X af σ H' { s with heap:=h',gens:=g',drawn:=d',toks:=t' }:=by
 obtain⟨m,⟨o,es,ep,ho,r⟩,_⟩:=id I.loc
 obtain⟨sl,hL⟩:=u.any ho I.free fun z=>(Hd _ z).2.1 rfl
 exact I.step (ch:=ch) Hd (fun b o hL hb hc e n=>u.keep b o e n (fun z=>(aM.mp (I.stkSub b z)).elim hL hb) hc) (fun b o _ _ hc e n=>u.any e n hc) (fun b o hc e n=>u.free b o e n hc) (fun b o hc e=>u.there b o e hc) u.tups u.frzs u.tbls (fun m' hm=>by
  obtain⟨o',es',ep',ho',r'⟩:=hm
  rw[ho]at ho';cases ho'
  exact⟨_,es',ep',hL,r'⟩) hok hg
theorem bw.turned{t':Nat}{it:Addr}(I:bw X af σ H s)(k:∀b o,b≠it->s.heap.get? b=some o->h'.get? b=some o)(hn:H it=none)(hL:it≠X.env.locals)
  (h1:it∈X.ex\/X.s₀.heap.objs.size<=it) (h2:∀x c,X.env.cells.lookup x=some c->c≠it) (h3:∀p∈X.pn++af,p.1≠it):bw X af σ H { s with heap:=h',toks:=t' }:=by
 have nit:∀b u,H b=some u->b≠it:=fun b u e z=>by rw[z,hn]at e;cases e
 refine I.step (g':=s.gens) (d':=s.drawn) (ch:=[it]) (fun b hb=>?_) (fun b o _ _ hc e _=>k b o (fun z=>hc (by simp[z])) e) (fun b o _ _ hc e _=>⟨o.slots,k b o (fun z=>hc (by simp[z])) e⟩) (fun _ _ _ _ n=>n)
  (fun b o hc e=>⟨o,k b o (fun z=>hc (by simp[z])) e⟩) (fun _ _ e=>e) (fun _ _ _ e=>e) (fun b ps e=>⟨#[],by rw[e];simp⟩) (fun m hm=>?_) (fun b u e=>?_) I.bare
 ·have e:b=it:=by simpa using hb
  subst e
  exact⟨h1,hL,h2,h3⟩
 ·obtain⟨o,es,ep,ho,r⟩:=hm
  exact⟨o,es,ep,k _ o (Ne.symm hL) ho,r⟩
 ·refine(I.hok b u e).stay (fun c v hc q=>k c v ?_ q) (fun _ q=>q) fun _ _ q=>q
  rcases hc with z|z
  ·rw[z];exact nit b u e
  ·exact nit c _ z
theorem bw.tok(I:bw X af σ H s)(t:Nat):bw X af σ H { s with toks:=t }:=I.un (h':=s.heap) (t':=t) Un.refl I.hok
theorem bw.kept{t':Nat}(I:bw X af σ H s)(k:∀b u,s.heap.get? b=some u->h'.get? b=some u):bw X af σ H { s with heap:=h',toks:=t' }:=I.un (Un.kept k) (I.hok.kept k)
theorem bw.laid{a:Addr}{o:HO}{t':Nat}(I:bw X af σ H s)(k:∀b u,s.heap.get? b=some u->h'.get? b=some u)(hp:s.heap.objs.size<=a)(new:fz X.prog X.w (eY H a o) h' a o) :
  bw X af σ (eY H a o) { s with heap:=h',toks:=t' }:=I.un (Un.laid k hp (I.hok.fresh hp)) (I.hok.laid k hp new)
theorem bw.write{x e:Addr}{o:HO}{t':Nat}(I:bw X af σ H s)(mu:Ov (H x))(he:e=x\/H e=some (.own x))(k:∀b u,b≠e->s.heap.get? b=some u->h'.get? b=some u)(OJ:∃u,h'.get? e=some u)
  (new:fz X.prog X.w (eY H x o) h' x o):bw X af σ (eY H x o) { s with heap:=h',toks:=t' }:=I.un (Un.write mu he k OJ) (I.hok.write mu he k OJ new)
theorem bw.pins_of{pins':List (Addr×Obj)}(I:bw X af σ H s)(h:∀p∈pins',s.heap.get? p.1=some p.2/\H p.1=none/\p.1≠X.env.locals/\p.1∉X.fs/\∀v,p.2.data≠.cell v):bw X pins' σ H s:=
 ⟨I.ok,I.os,I.bare,I.base,I.loc,I.cell,I.free,I.freeC,fun p hp=>(bB.mp hp).elim (fun z=>I.pin p (fI _ z)) (h p),I.hok,I.len⟩
theorem wT{N:List Str}(hN:N.Nodup){i j:Nat}{x:Str}(a:N[i]?=some x)(b:N[j]?=some x):i=j:=by
 obtain⟨h1,e1⟩:=ai.mp a
 obtain⟨h2,e2⟩:=ai.mp b
 exact(List.getElem_inj hN).mp (e1.trans e2.symm)
theorem B3{M:Model}{A:Around}{E:Value->Shared->Prop}{i:Nat}{x:Str}{v:V}{u:Value}{Q:Unit->Shared->Prop}(I:bw X af σ H s)(hN:X.N.Nodup)(hi:X.N[i]?=some x)(hx:DA X.env.scope x)(r:cB v u)
  (h:∀s',bw X af (σ.set i (some v)) H s'->(∃a,Heap.SameBut a s.heap s'.heap/\(a=X.env.locals\/X.env.cells.lookup x=some a))->Q () s') (hf:X.fn x=true\/X.env.scope.names.lookup x=some .local:=by first|exact .inl rfl|exact .inr rfl|assumption):wpAny M A (storeName X.env x u) Q E s:=by
 obtain⟨m,hn,hl⟩:=id I.loc
 have hcls:(X.env.scope.kind==.class||(X.env.scope.kind==.module&&X.env.locals != X.env.globals))=false:=by rw[I.ok.kind];rfl
 have hiσ:i<σ.length:=by rw[I.len];exact(ai.mp hi).1
 have cne:=I.cne
 have tracked:∀{a:Addr} {h':Heap},(∃o,s.heap.get? a=some o/\H a=none)->Heap.SameBut a s.heap h'->kB X.prog X.w H h':=fun{a h'} ha hs b ob e=>by
  obtain⟨_,_,hfree⟩:=ha
  refine(I.hok b ob e).stay (fun c w' hc q=>(hs.2 c ?_).trans q) (fun _ q=>q) fun _ _ q=>q
  rintro rfl
  rcases hc with rfl|hc
  ·rw[hfree]at e;cases e
  ·rw[hfree]at hc;cases hc
 rcases hx with hk|hk
 ·refine wpAny_storeName_local hk hn (fun h' hn' hs=>?_) hcls
  obtain⟨oL,_,_,hoL,_⟩:=id hn
  refine h _ ⟨I.ok,I.os,I.bare,⟨fun b o e n hb hx=>?_,fun b o e n hb hx=>?_,I.base.free,fun b o e hx=>?_,I.base.tups,I.base.frzs,I.base.tbls⟩,⟨_,hn',fun j y v' e1 e2 e3=>?_⟩,fun y c e=>?_,I.free,I.freeC,fun p hp=>?_,tracked ⟨oL,hoL,I.free⟩ hs,by simpa using I.len⟩ ⟨_,hs,.inl rfl⟩
  ·exact(hs.2 b (ba (aU (aE e) I.ok.above))).trans (I.base.keep b o e n hb hx)
  ·obtain⟨sl,e1⟩:=I.base.slot b o e n hb hx
   exact⟨sl,(hs.2 b (ba (aU (aE e) I.ok.above))).trans e1⟩
  ·obtain⟨o',e1⟩:=I.base.there b o e hx
   exact⟨o',(hs.2 b (ba (aU (aE e) I.ok.above))).trans e1⟩
  ·by_cases hj:j=i
   ·subst hj
    rw[hi]at e1;cases e1
    rw[bq hiσ]at e2
    cases e2
    exact⟨u,r,.inl ⟨hk,by simp⟩⟩
   ·rw[bR (Ne.symm hj)]at e2
    obtain⟨u',r',q⟩:=hl j y v' e1 e2 e3
    refine⟨u',r',?_⟩
    rcases q with⟨k,e⟩|⟨k,c,e,z⟩
    ·refine .inl ⟨k,?_⟩
     have:y≠x:=fun e=>hj (wT hN e1 (e▸hi))
     simp[this,e]
    ·exact .inr ⟨k,c,e,z.sameBut hs (cne y c e)⟩
  ·obtain⟨w',z⟩:=I.cell y c e
   exact⟨w',z.sameBut hs (cne y c e)⟩
  ·obtain⟨e,n,ne,nf,d⟩:=I.pin p hp
   exact⟨(hs.2 p.1 ne).trans e,n,ne,nf,d⟩
 ·have BZ:X.fn x=true:=by
   rcases hf with z|z
   ·exact z
   ·rw[z]at hk;cases hk
  obtain⟨c,hc⟩:=I.ok.has x (.inl hk)
  obtain⟨w',z⟩:=I.cell x c hc
  refine wpAny_storeName_cell I.ok.kind hk hc z (fun h' hc' hs=>?_)
  obtain⟨oc,hoc,hocd⟩:=id z
  refine h { s with heap:=h' } ⟨I.ok,I.os,I.bare,⟨fun b o e n hb hx=>?_,fun b o e n hb hx=>?_,I.base.free,fun b o e hx=>?_,I.base.tups,I.base.frzs,I.base.tbls⟩,⟨m,hn.sameBut hs (Ne.symm (cne x c hc)),fun j y v' e1 e2 e3=>?_⟩,fun y c' e=>?_,I.free,I.freeC,fun p hp=>?_,tracked ⟨oc,hoc,I.freeC x c hc⟩ hs,by simpa using I.len⟩ ⟨c,hs,.inr hc⟩
  ·exact(hs.2 b (ba (aU (aE e) (I.ok.cab x c BZ hc)))).trans (I.base.keep b o e n hb hx)
  ·obtain⟨sl,e1⟩:=I.base.slot b o e n hb hx
   exact⟨sl,(hs.2 b (ba (aU (aE e) (I.ok.cab x c BZ hc)))).trans e1⟩
  ·obtain⟨o',e1⟩:=I.base.there b o e hx
   exact⟨o',(hs.2 b (ba (aU (aE e) (I.ok.cab x c BZ hc)))).trans e1⟩
  ·by_cases hj:j=i
   ·subst hj
    rw[hi]at e1;cases e1
    rw[bq hiσ]at e2
    cases e2
    exact⟨u,r,.inr ⟨.inl hk,c,hc,hc'⟩⟩
   ·rw[bR (Ne.symm hj)]at e2
    obtain⟨u',r',q⟩:=hl j y v' e1 e2 e3
    refine⟨u',r',?_⟩
    rcases q with q|⟨k,c',e,z'⟩
    ·exact .inl q
    ·refine .inr ⟨k,c',e,z'.sameBut hs ?_⟩
     rintro rfl
     exact hj (wT hN e1 (I.ok.inj _ _ _ e hc▸hi))
  ·by_cases hcc:c'=c
   ·subst hcc;exact⟨_,hc'⟩
   ·obtain⟨w2,z2⟩:=I.cell y c' e
    exact⟨w2,z2.sameBut hs hcc⟩
  ·obtain⟨e,n,ne,nf,d⟩:=I.pin p hp
   refine⟨(hs.2 p.1 ?_).trans e,n,ne,nf,d⟩
   intro q
   rw[q,hoc]at e
   have q':oc=p.2:=aS e
   exact d w' (by rw[<- q'];exact hocd)
theorem sy{M:Model}{A:Around}{E:Value->Shared->Prop}{i:Nat}{x:Str}{v:V}{u:Value}{Q:Unit->Shared->Prop}(I:bw X af σ H s)(hN:X.N.Nodup)(hi:X.N[i]?=some x)(hx:DA X.env.scope x)(r:cB v u)
  (h:∀s',bw X af (σ.set i (some v)) H s'->Q () s') (hf:X.fn x=true\/X.env.scope.names.lookup x=some .local:=by first|exact .inl rfl|exact .inr rfl|assumption):wpAny M A (storeName X.env x u) Q E s:=
 B3 I hN hi hx r (fun s' I' _=>h s' I') hf
theorem bw.call'{s':Shared}{ch:List Addr}(I:bw X af σ H s)(ho:s'.os=s.os)(u:Un (sw X.stack) ch H H' s.heap s'.heap)(hok:kB X.prog X.w H' s'.heap)(hg:AllBare s'.gens)
  (Hd:∀b∈ch,(b∈X.ex\/X.s₀.heap.objs.size<=b)/\b≠X.env.locals/\(∀x c,X.env.cells.lookup x=some c->c≠b)/\∀p∈X.pn++af,p.1≠b):bw X af σ H' s':=by
 obtain⟨h',g',d',t',o'⟩:=s'
 have e:o'=s.os:=ho
 subst e
 exact I.call (g':=g') (t':=t') (d':=d') u hok hg Hd
end
abbrev XK:=Value->Option Addr->Hp->Prop
abbrev St:=List (Option V)
abbrev VK:=V->Hp->Prop
abbrev TE:=St->Hp->VK->Prop
abbrev TT:=St->Hp->(Bool->Hp->Prop)->Prop
abbrev TA:=St->Hp->(List V->Hp->Prop)->Prop
structure vp where
 nx:St->Hp->Prop
 rt:VK
 bk:St->Hp->Prop:=fun _ _=>False
 ct:St->Hp->Prop:=fun _ _=>False
abbrev TS:=vp->St->Hp->Prop
def EP(X:Cx)(af:List (Addr×Obj))(σ:St)(Q:VK)(u:Value)(s':Shared):Prop:=∃v H',bw X af σ H' s'/\cB v u/\Q v H'
def TP(X:Cx)(af:List (Addr×Obj))(σ:St)(Q:Bool->Hp->Prop)(b:Bool)(s':Shared):Prop:=∃H',bw X af σ H' s'/\Q b H'
def AP(X:Cx)(af:List (Addr×Obj))(σ:St)(Q:List V->Hp->Prop)(us:List Value)(s':Shared):Prop:=∃vs H',bw X af σ H' s'/\cw vs us/\Q vs H'
def SP(X:Cx)(af:List (Addr×Obj))(D:vp)(f:Flow)(s':Shared):Prop:=
 match f with
 |.next=>∃σ' H',bw X af σ' H' s'/\D.nx σ' H'
 |.brk=>∃σ' H',bw X af σ' H' s'/\D.bk σ' H'
 |.cont=>∃σ' H',bw X af σ' H' s'/\D.ct σ' H'
 |.ret u=>∃v σ' H',bw X af σ' H' s'/\cB v u/\D.rt v H'
def PE(X:Cx)(e:Expr)(t:TE):Prop:=
 ∀(af:List (Addr×Obj)) (s:Shared) (σ:St) (H:Hp) (Q:VK),bw X af σ H s->t σ H Q->wpAny (model X.prog X.w) X.A (eval e X.env) (EP X af σ Q) X.xe s
def PT(X:Cx)(e:Expr)(t:TT):Prop:=
 ∀(af:List (Addr×Obj)) (s:Shared) (σ:St) (H:Hp) (Q:Bool->Hp->Prop),bw X af σ H s->t σ H Q->wpAny (model X.prog X.w) X.A (isTrue e X.env (eval e X.env)) (TP X af σ Q) X.xe s
def PW(X:Cx)(e:Expr)(t:TT):Prop:=
 ∀(rH:Sem Value) (af:List (Addr×Obj)) (s:Shared) (σ:St) (H:Hp) (Q:Bool->Hp->Prop),bw X af σ H s->t σ H Q->wpAny (model X.prog X.w) X.A (isTrue e X.env rH) (TP X af σ Q) X.xe s
theorem PW.pt{X:Cx}{e:Expr}{t:TT}(h:PW X e t):PT X e t:=h _
def PA(X:Cx)(es:List Expr)(t:TA):Prop:=
 ∀(pos:Pos) (af:List (Addr×Obj)) (s:Shared) (σ:St) (H:Hp) (Q:List V->Hp->Prop),bw X af σ H s->t σ H Q->wpAny (model X.prog X.w) X.A (spliced (backTo pos (starEach es X.env))) (AP X af σ Q) X.xe s
def PS(X:Cx)(st:Stmt)(t:TS):Prop:=
 ∀(af:List (Addr×Obj)) (s:Shared) (σ:St) (H:Hp) (D:vp),bw X af σ H s->t D σ H->wpAny (model X.prog X.w) X.A (exec st X.env) (SP X af D) X.xe s
def wU(X:Cx)(st:List Stmt)(t:TS):Prop:=
 ∀(af:List (Addr×Obj)) (s:Shared) (σ:St) (H:Hp) (D:vp),bw X af σ H s->t D σ H->wpAny (model X.prog X.w) X.A (execs st X.env) (SP X af D) X.xe s
theorem gE{α:Type}{t:Sem α}{Q Q':α->Shared->Prop}{M:Model}{A:Around}{E:Value->Shared->Prop}{s:Shared}(h:wpAny M A t Q E s)(hQ:∀a s,Q a s->Q' a s):wpAny M A t Q' E s:=dY h hQ fun _ _ x=>x
section
variable{X:Cx}
def OM(i:Nat):TE:=fun σ H Q=>∃v,σ[i]?=some (some v)/\Q v H
def tC(v:V):TE:=fun _ H Q=>Q v H
theorem Lb{i:Nat}{x:Str}{pos:Pos}(hN:X.N[i]?=some x)(hv:Ow X.env.scope x)(hd:(x==("__debug__":Str))=false:=by decide)(pL:(x==("__classdict__":Str))=false:=by decide):PE X (.Name x pos) (OM i):=by
 intro af s σ H Q I h
 obtain⟨v,e,h⟩:=h
 obtain⟨m,hn,hl⟩:=I.loc
 obtain⟨u,r,l⟩:=hl i x v hN e hv
 have lE:EP X af σ Q u s:=⟨v,H,I,r,h⟩
 rcases l with⟨hk,hm⟩|⟨hk,c,hc,fg⟩
 ·exact wpAny_Name (wpAny_loadName_local I.ok.kind hk hn hm lE) hd
 ·rcases hk with hk|hk
  ·exact wpAny_Name (wpAny_loadName_cell I.ok.kind hk hc fg lE) hd
  ·exact wpAny_Name (wpAny_loadName_free I.ok.kind hk hc fg lE pL) hd
theorem Lc{i j pos}:PE X (.Constant (.int i) j pos) (tC (.int i)):=fun _ _ _ H _ I h=>wpAny_Constant_int ⟨.int i,H,I.tok _,⟨_,rfl⟩,h⟩
theorem ON{b j pos}:PE X (.Constant (.bool b) j pos) (tC (.bl b)):=fun _ _ _ H _ I h=>Constant_bool ⟨.bl b,H,I,rfl,h⟩
theorem Ld{j pos}:PE X (.Constant .none j pos) (tC .non):=fun _ _ _ H _ I h=>oX ⟨.non,H,I,rfl,h⟩
theorem DB{x j pos}:PE X (.Constant (.str x) j pos) (tC (.str x)):=fun _ _ _ H _ I h=>Calls.Constant_str ⟨.str x,H,I.tok _,⟨_,rfl⟩,h⟩
def Gl(X:Cx)(x:Str):Prop:=X.env.kindOf x=some .globalImplicit
theorem vq{E:Value->Shared->Prop}{af:List (Addr×Obj)}{s:Shared}{σ:St}{H:Hp}{x:Str}{u:Value}{pos:Pos}{Q:Value->Shared->Prop}(I:bw X af σ H s)(hg:Gl X x)(hm:X.mg x=some u)(h:Q u s)
  (hd:(x==("__debug__":Str))=false:=by decide):wpAny (model X.prog X.w) X.A (eval (.Name x pos) X.env) Q E s:=
 ki I.ok.kind hg (Calls.loadGlobal_global (by rw[I.ok.glob];exact I.mod.glob.keeps I.bk) hm h) hd
theorem kZ{E:Value->Shared->Prop}{af:List (Addr×Obj)}{s:Shared}{σ:St}{H:Hp}{x:Str}{u:Value}{pos:Pos}{Q:Value->Shared->Prop}(I:bw X af σ H s)(hg:Gl X x)(hm:X.mg x=none)(hv:bootBuiltins x=some u)(h:Q u s)
  (hn:x ≠ "__name__":=by decide) (hd:(x==("__debug__":Str))=false:=by decide):wpAny (model X.prog X.w) X.A (eval (.Name x pos) X.env) Q E s:=by
 obtain⟨mb,h1,h2⟩:=I.mod.blt
 exact ki I.ok.kind hg (Calls.loadGlobal_builtin (by rw[I.ok.glob];exact I.mod.glob.keeps I.bk) hm (by rw[I.ok.blt];exact h1.keeps I.bk) ((h2 x hn).trans hv) h) hd
theorem Hi{x:Str}{v:V}{u:Value}{pos:Pos}(hg:Gl X x)(hm:X.mg x=some u)(r:cB v u)(hd:(x==("__debug__":Str))=false:=by decide):PE X (.Name x pos) (tC v):=
 fun _ _ _ H _ I h=>vq I hg hm ⟨v,H,I,r,h⟩ hd
theorem Hj{x:Str}{v:V}{u:Value}{pos:Pos}(hg:Gl X x)(hm:X.mg x=none)(hv:bootBuiltins x=some u)(r:cB v u)(hn:x ≠ "__name__":=by decide)(hd:(x==("__debug__":Str))=false:=by decide):PE X (.Name x pos) (tC v):=
 fun _ _ _ H _ I h=>kZ I hg hm hv ⟨v,H,I,r,h⟩ hn hd
variable{a b:Expr}{ta tb:TE}{pos:Pos}
def PC(X:Cx)(op:CmpOp)(a b:Expr)(t:TE):Prop:=
 ∀(af:List (Addr×Obj)) (s:Shared) (σ:St) (H:Hp) (Q:VK),bw X af σ H s->t σ H Q ->
  wpAny (model X.prog X.w) X.A (eval a X.env) (fun v s₁=>wpAny (model X.prog X.w) X.A (eval b X.env) (fun u s₂=>wpAny (model X.prog X.w) X.A (compareOp op v u) (EP X af σ Q) X.xe s₂) X.xe s₁) X.xe s
theorem wV(b:Expr){op:CmpOp}(h:op≠.In)(h2:op≠.NotIn):behindInMarks op b=false:=by
 have e1:(op==CmpOp.In)=false:=by cases op<;>first|rfl|exact absurd rfl h
 have e2:(op==CmpOp.NotIn)=false:=by cases op<;>first|rfl|exact absurd rfl h2
 cases b<;>simp[behindInMarks,e1,e2]
def OO(ta:TE):TE:=fun σ H Q=>ta σ H fun x H1=>Q (.bl (decide (x=.non))) H1
def Ju(ta:TE):TE:=fun σ H Q=>ta σ H fun x H1=>Q (.bl (!decide (x=.non))) H1
theorem cB.none_iff{x:V}{v:Value}(r:cB x v):(v==Value.none)=decide (x=.non):=by
 cases x with
 |non=>cases r;rfl
 |bl _=>cases r;rfl
 |int _=>obtain⟨t,rfl⟩:=r;rfl
 |str _=>obtain⟨t,rfl⟩:=r;rfl
 |byt _=>obtain⟨t,rfl⟩:=r;rfl
 |flt _=>obtain⟨t,rfl⟩:=r;rfl
 |ref _=>cases r;rfl
 |ty _=>cases r;rfl
theorem DC{j iF}(ha:PE X a ta):PC X .Is a (.Constant .none j iF) (OO ta):=by
 intro af s σ H Q I h
 refine gE (ha af s σ H _ I h) fun v s1 ⟨x,H1,I1,r1,q1⟩=>?_
 exact oX (is_none_gen ⟨.bl _,H1,I1,by rw[r1.none_iff];rfl,q1⟩)
theorem Hk{j iF}(ha:PE X a ta):PC X .IsNot a (.Constant .none j iF) (Ju ta):=by
 intro af s σ H Q I h
 refine gE (ha af s σ H _ I h) fun v s1 ⟨x,H1,I1,r1,q1⟩=>?_
 exact oX (isnot_none_gen ⟨.bl _,H1,I1,by rw[r1.none_iff];rfl,q1⟩)
def tB(t:TE):TT:=fun σ H Q=>t σ H fun x H1=>∃c,x=.bl c/\Q c H1
theorem Le{op:CmpOp}{t:TE}(h:PC X op a b t)(h1:behindInMarks op b=false:=by first|exact wV _ (by decide) (by decide)|rfl):PE X (.Compare a [op] [b] pos) t:=fun af s σ H Q I hw=>wpAny_Compare1 (h af s σ H Q I hw) h1
theorem DD{op:CmpOp}{t:TE}(h:PC X op a b t)(h1:behindInMarks op b=false:=by first|exact wV _ (by decide) (by decide)|rfl):PT X (.Compare a [op] [b] pos) (tB t):=by
 intro af s σ H Q I hw
 refine nC (gE (h af s σ H _ I hw) fun v s1 h1=>gE h1 fun u s2 h2=>gE h2 fun c s3 ⟨x,H1,I1,r1,q1⟩=>?_) h1
 obtain⟨d,rfl,q⟩:=q1
 cases r1
 exact eL ⟨H1,I1,q⟩
theorem Lf{e:Expr}{t:TE}(h:PE X e t)(he:∀rH,isTrue e X.env rH=(do let v <- rH;standAt e.pos;holding [v] (truthy v)):=by intro _;rfl):PT X e (tB t):=by
 intro af s σ H Q I hw
 refine isTrue_plain (gE (h af s σ H _ I hw) fun v s1 ⟨x,H1,I1,r1,q1⟩=>?_) (he _)
 obtain⟨d,rfl,q⟩:=q1
 cases r1
 exact eL ⟨H1,I1,q⟩
variable{tA Ro:TT}{rest:List Expr}
def Si(t u:TT):TT:=fun σ H Q=>t σ H fun c H1=>if c=true then u σ H1 Q else Q false H1
def Uo(t u:TT):TT:=fun σ H Q=>t σ H fun c H1=>if c=true then Q true H1 else u σ H1 Q
def Sj(t:TT):TT:=fun σ H Q=>t σ H fun c H1=>Q (!c) H1
theorem Hl(ha:PT X a tA):PW X (.BoolOp .And [a] pos) tA:=by
 intro wh af s σ H Q I h
 refine isTrue_and (gE (ha af s σ H Q I h) fun c s1 e=>?_)
 cases c with
 |true=>exact isTrue_and_nil e
 |false=>exact e
theorem Lg(ha:PT X a tA):PW X (.BoolOp .Or [a] pos) tA:=by
 intro wh af s σ H Q I h
 refine isTrue_or (gE (ha af s σ H Q I h) fun c s1 e=>?_)
 cases c with
 |false=>exact isTrue_or_nil e
 |true=>exact e
theorem Lh(ha:PT X a tA)(hb:PW X (.BoolOp .And (b::rest) pos) Ro):PW X (.BoolOp .And (a::b::rest) pos) (Si tA Ro):=by
 intro wh af s σ H Q I h
 refine isTrue_and (gE (ha af s σ H _ I h) fun c s1 ⟨H1,I1,q1⟩=>?_)
 cases c with
 |true=>exact hb wh af s1 σ H1 Q I1 q1
 |false=>exact⟨H1,I1,q1⟩
theorem OP(ha:PT X a tA)(hb:PW X (.BoolOp .Or (b::rest) pos) Ro):PW X (.BoolOp .Or (a::b::rest) pos) (Uo tA Ro):=by
 intro wh af s σ H Q I h
 refine isTrue_or (gE (ha af s σ H _ I h) fun c s1 ⟨H1,I1,q1⟩=>?_)
 cases c with
 |true=>exact⟨H1,I1,q1⟩
 |false=>exact hb wh af s1 σ H1 Q I1 q1
theorem Li(ha:PT X a tA):PT X (.UnaryOp .Not a pos) (Sj tA):=by
 intro af s σ H Q I h
 exact isTrue_not (ha af s σ H (fun c H1=>Q (!c) H1) I h)
def OQ(ta tb:TE):TE:=fun σ H Q=>ta σ H fun x H1=>∃c,x=.bl c/\if c=true then tb σ H1 Q else Q (.bl false) H1
def Sk(ta tb:TE):TE:=fun σ H Q=>ta σ H fun x H1=>∃c,x=.bl c/\if c=true then Q (.bl true) H1 else tb σ H1 Q
def OR(ta:TE):TE:=fun σ H Q=>ta σ H fun x H1=>∃c,x=.bl c/\Q (.bl (!c)) H1
theorem Lj{op}{t:TE}(h:PE X a t):PE X (.BoolOp op [a] pos) t:=fun af s σ H Q I hw=>BoolOp_one (h af s σ H Q I hw)
theorem Lk(ha:PE X a ta)(hb:PE X (.BoolOp .And (b::rest) pos) tb):PE X (.BoolOp .And (a::b::rest) pos) (OQ ta tb):=by
 intro af s σ H Q I h
 refine BoolOp_and (gE (ha af s σ H _ I h) fun v s1 ⟨x,H1,I1,r1,q1⟩=>?_)
 obtain⟨c,rfl,q1⟩:=q1
 cases r1
 refine eL ?_
 cases c with
 |true=>exact hb af s1 σ H1 Q I1 q1
 |false=>exact⟨.bl false,H1,I1,rfl,q1⟩
theorem OS(ha:PE X a ta)(hb:PE X (.BoolOp .Or (b::rest) pos) tb):PE X (.BoolOp .Or (a::b::rest) pos) (Sk ta tb):=by
 intro af s σ H Q I h
 refine BoolOp_or (gE (ha af s σ H _ I h) fun v s1 ⟨x,H1,I1,r1,q1⟩=>?_)
 obtain⟨c,rfl,q1⟩:=q1
 cases r1
 refine eL ?_
 cases c with
 |false=>exact hb af s1 σ H1 Q I1 q1
 |true=>exact⟨.bl true,H1,I1,rfl,q1⟩
theorem Ll(ha:PE X a ta):PE X (.UnaryOp .Not a pos) (OR ta):=by
 intro af s σ H Q I h
 refine UnaryOp_ (gE (ha af s σ H _ I h) fun v s1 ⟨x,H1,I1,r1,q1⟩=>?_)
 obtain⟨c,rfl,q1⟩:=q1
 cases r1
 exact not_of (eL ⟨.bl (!c),H1,I1,rfl,q1⟩)
def Up(t:TT)(ta tb:TE):TE:=fun σ H Q=>t σ H fun c H1=>if c=true then ta σ H1 Q else tb σ H1 Q
theorem DE{c:Expr}(hc:PT X c tA)(ha:PE X a ta)(hb:PE X b tb):PE X (.IfExp c a b pos) (Up tA ta tb):=by
 intro af s σ H Q I h
 refine wpAny_IfExp (gE (hc af s σ H _ I h) fun d s1 ⟨H1,I1,q1⟩=>?_)
 cases d with
 |true=>exact ha af s1 σ H1 Q I1 q1
 |false=>exact hb af s1 σ H1 Q I1 q1
end
def pN(K:Frag)(H:Hp)(a:Addr)(xs:List V):Prop:=
 Rd H a (.lst xs) \/
  ∃(o:Obj) (bI:Array Value) (n:Nat),K.lookup a=some o/\o.cls=.type "list"/\o.dict=none/\o.data=.seq bI n/\bI.size<=sizeLine/\cw xs bI.toList
def fQ(K:Frag)(H:Hp)(a:Addr)(xs:List V):Prop:=
 Rd H a (.tup xs) \/
  ∃(o:Obj) (bI:Array Value) (n:Nat),K.lookup a=some o/\o.cls=.type "tuple"/\o.data=.seq bI n/\bI.size<=sizeLine/\cw xs bI.toList
def Sl:Value->Option V
 |.none=>some .non
 |.bool b=>some (.bl b)
 |.int i _=>some (.int i)
 |.str x _=>some (.str x)
 |.bytes b _=>some (.byt b)
 |.float b _=>some (.flt b)
 |.ref a=>some (.ref a)
 |.type n=>some (.ty n)
 |_=>none
theorem cB.abs{x:V}{u:Value}(r:cB x u):Sl u=some x:=by
 cases x with
 |non=>cases r;rfl
 |bl _=>cases r;rfl
 |int _=>obtain⟨t,rfl⟩:=r;rfl
 |str _=>obtain⟨t,rfl⟩:=r;rfl
 |byt _=>obtain⟨t,rfl⟩:=r;rfl
 |flt _=>obtain⟨t,rfl⟩:=r;rfl
 |ref _=>cases r;rfl
 |ty _=>cases r;rfl
theorem cB.inj{x y:V}{u:Value}(r:cB x u)(q:cB y u):x=y:=aS (r.abs.symm.trans q.abs)
theorem cw.inj:∀{xs ys:List V} {us:List Value},cw xs us->cw ys us->xs=ys
 |_,_,_,.nil,.nil=>rfl
 |_,_,_,.cons r t,.cons r' t'=>by rw[r.inj r',cw.inj t t']
section
variable{X:Cx}{af:List (Addr×Obj)}{σ:St}{H:Hp}{s:Shared}{a:Addr}{xs ys:List V}
theorem pN.of{K:Frag}(h:H a=some (.lst xs)):pN K H a xs:=.inl (.inl h)
theorem fQ.of{K:Frag}(h:H a=some (.tup xs)):fQ K H a xs:=.inl (.inl h)
theorem bw.list(I:bw X af σ H s)(h:pN X.K H a xs):∃bI:List Value,cw xs bI/\PlainL s.heap a bI.toArray/\xs.length<=sizeLine:=by
 rcases h with h|⟨o,bI,n,hk,hc,hd,hs,hz,r⟩
 ·obtain⟨z,bI,n,r,e⟩:=h.ok I.hok
  exact⟨bI,r,⟨_,n,e,rfl,rfl,rfl⟩,z⟩
 ·refine⟨bI.toList,r,⟨o,n,I.kIn a o hk,hc,hd,by simpa using hs⟩,?_⟩
  have e:=r.length
  simp only[dM]at e
  omega
theorem bw.tuple(I:bw X af σ H s)(h:fQ X.K H a xs):∃bI:List Value,cw xs bI/\IsTup s.heap a bI.toArray/\xs.length<=sizeLine:=by
 rcases h with h|⟨o,bI,n,hk,hc,hs,hz,r⟩
 ·obtain⟨z,bI,r,p⟩:=h.ok I.hok
  exact⟨bI,r,p,z⟩
 ·refine⟨bI.toList,r,⟨o,I.kIn a o hk,hc,n,by simpa using hs⟩,?_⟩
  have e:=r.length
  simp only[dM]at e
  omega
theorem bw.list_inj(I:bw X af σ H s)(h:pN X.K H a xs)(h':pN X.K H a ys):xs=ys:=by
 obtain⟨bI,r,⟨o,n,e,_,_,d⟩,_⟩:=I.list h
 obtain⟨its',r',⟨o',n',e',_,_,d'⟩,_⟩:=I.list h'
 rw[e]at e';cases e'
 rw[d]at d'
 injection d' with d1 _
 have:bI=its':=by simpa using cM Array.toList d1
 subst this
 exact r.inj r'
theorem bw.tuple_inj(I:bw X af σ H s)(h:fQ X.K H a xs)(h':fQ X.K H a ys):xs=ys:=by
 obtain⟨bI,r,⟨o,e,_,n,d⟩,_⟩:=I.tuple h
 obtain⟨its',r',⟨o',e',_,n',d'⟩,_⟩:=I.tuple h'
 rw[e]at e';cases e'
 rw[d]at d'
 injection d' with d1 _
 have:bI=its':=by simpa using cM Array.toList d1
 subst this
 exact r.inj r'
end
abbrev Cx.wish(X:Cx)(E:Value->Shared->Prop):Cx:={ X with xe:=E }
abbrev Cx.nox(X:Cx):Cx:=X.wish fun _ _=>False
theorem Cx.Ok.wish{X:Cx}(ok:X.Ok)(E:Value->Shared->Prop):(X.wish E).Ok:=
 ⟨ok.mod,ok.kind,ok.glob,ok.blt,ok.above,ok.inj,ok.has,ok.cab,ok.hd,ok.frames,ok.stk,ok.exf,ok.bs,ok.bsz,ok.noex,ok.exfs,ok.funs,ok.frf⟩
theorem Cx.Ok.unwish{X:Cx}{E:Value->Shared->Prop}(ok:(X.wish E).Ok):X.Ok:=
 ⟨ok.mod,ok.kind,ok.glob,ok.blt,ok.above,ok.inj,ok.has,ok.cab,ok.hd,ok.frames,ok.stk,ok.exf,ok.bs,ok.bsz,ok.noex,ok.exfs,ok.funs,ok.frf⟩
section
variable{X:Cx}{af:List (Addr×Obj)}{σ:St}{H:Hp}{s:Shared}{E:Value->Shared->Prop}
theorem bw.wish(I:bw X af σ H s)(E:Value->Shared->Prop):bw (X.wish E) af σ H s:=⟨I.ok.wish E,I.os,I.bare,I.base,I.loc,I.cell,I.free,I.freeC,I.pin,I.hok,I.len⟩
theorem bw.unwish(I:bw (X.wish E) af σ H s):bw X af σ H s:=⟨I.ok.unwish,I.os,I.bare,I.base,I.loc,I.cell,I.free,I.freeC,I.pin,I.hok,I.len⟩
theorem SP.unwish{D:vp}{f:Flow}{s':Shared}(h:SP (X.wish E) af D f s'):SP X af D f s':=by
 cases f with
 |next=>obtain⟨σ',H',I,q⟩:=h;exact⟨σ',H',I.unwish,q⟩
 |brk=>obtain⟨σ',H',I,q⟩:=h;exact⟨σ',H',I.unwish,q⟩
 |cont=>obtain⟨σ',H',I,q⟩:=h;exact⟨σ',H',I.unwish,q⟩
 |ret u=>obtain⟨v,σ',H',I,r,q⟩:=h;exact⟨v,σ',H',I.unwish,r,q⟩
theorem PE.nox{e:Expr}{t:TE}(h:PE X.nox e t):PE X e t:=fun af s σ H Q I hw=>
 dY (h af s σ H Q (I.wish _) hw) (fun _ _ ⟨v,H',I',r,q⟩=>⟨v,H',I'.unwish,r,q⟩) fun _ _ z=>False.elim z
theorem PT.nox{e:Expr}{t:TT}(h:PT X.nox e t):PT X e t:=fun af s σ H Q I hw=>
 dY (h af s σ H Q (I.wish _) hw) (fun _ _ ⟨H',I',q⟩=>⟨H',I'.unwish,q⟩) fun _ _ z=>False.elim z
theorem wU.nox{st:List Stmt}{t:TS}(h:wU X.nox st t):wU X st t:=fun af s σ H D I hw=>
 dY (h af s σ H D (I.wish _) hw) (fun _ _ q=>q.unwish) fun _ _ z=>False.elim z
end
section
variable{X:Cx}{st:Stmt}{rest:List Stmt}{t u:TS}{e:Expr}{te:TE}{pos:Pos}
def OT:TS:=fun D σ H=>D.nx σ H
def Sn(t u:TS):TS:=fun D σ H=>t { D with nx:=u D } σ H
theorem Hm:wU X [] OT:=fun _ _ σ H _ I h=>jE ⟨σ,H,I,h⟩
theorem wW(h1:PS X st t)(h2:wU X rest u):wU X (st::rest) (Sn t u):=by
 intro af s σ H D I h
 refine wpAny_execs_cons (gE (h1 af s σ H { D with nx:=u D } I h) fun f s1 q=>?_)
 cases f with
 |next=>
  obtain⟨σ',H',I',q⟩:=q
  exact h2 af s1 σ' H' D I' q
 |ret v=>exact q
 |brk=>exact q
 |cont=>exact q
theorem Ho(h1:PS X st t):wU X [st] t:=by
 intro af s σ H D I h
 refine wpAny_execs_cons (gE (h1 af s σ H D I h) fun f s1 q=>?_)
 cases f with
 |next=>exact jE q
 |ret v=>exact q
 |brk=>exact q
 |cont=>exact q
theorem bw.quiet{af:List (Addr×Obj)}{σ:St}{H:Hp}{s:Shared}(I:bw X af σ H s):interactive X.env=false:=by simp[interactive,I.ok.kind]
def OU(te:TE):TS:=fun D σ H=>te σ H fun _ H1=>D.nx σ H1
theorem Hq(he:PE X e te)(hs:swapsWith e none pos.line X.env=pure false:=by rfl):PS X (.Expr e pos) (OU te):=by
 intro af s σ H D I h
 exact wpAny_Expr_any (gE (he af s σ H _ I h) fun v s1 ⟨x,H1,I1,r1,q1⟩=>⟨σ,H1,I1,q1⟩) I.quiet hs
def So(te:TE):TS:=fun D σ H=>te σ H D.rt
theorem Lm(he:PE X e te):PS X (.Return (some e) pos) (So te):=by
 intro af s σ H D I h
 exact wpAny_Return_some (gE (he af s σ H _ I h) fun v s1 ⟨x,H1,I1,r1,q1⟩=>⟨x,σ,H1,I1,r1,q1⟩)
def Sq(c:TT)(t u:TS):TS:=fun D σ H=>c σ H fun b H1=>if b=true then t D σ H1 else u D σ H1
theorem OV{c:Expr}{a b:List Stmt}{tc:TT}(hc:PT X c tc)(ha:wU X a t)(hb:wU X b u):PS X (.If c a b pos) (Sq tc t u):=by
 intro af s σ H D I h
 refine wpAny_If (gE (hc af s σ H _ I h) fun d s1 ⟨H1,I1,q1⟩=>?_)
 cases d with
 |true=>exact ha af s1 σ H1 D I1 q1
 |false=>exact hb af s1 σ H1 D I1 q1
end
abbrev TG:=V->St->Hp->(St->Hp->Prop)->Prop
abbrev Hr:=List V->St->Hp->(St->Hp->Prop)->Prop
def PG(X:Cx)(N8:Expr)(t:TG):Prop:=
 ∀(af:List (Addr×Obj)) (s:Shared) (σ:St) (H:Hp) (v:V) (u:Value) (Q:St->Hp->Prop),bw X af σ H s->cB v u->t v σ H Q ->
  wpAny (model X.prog X.w) X.A (assign N8 X.env u) (fun _ s'=>∃σ' H',bw X af σ' H' s'/\Q σ' H') X.xe s
def Jv(X:Cx)(ts:List Expr)(t:Hr):Prop:=
 ∀(af:List (Addr×Obj)) (s:Shared) (σ:St) (H:Hp) (vs:List V) (us:List Value) (Q:St->Hp->Prop),bw X af σ H s->cw vs us->t vs σ H Q ->
  wpAny (model X.prog X.w) X.A (assignInOrder ((assignEach ts X.env).map (·.2)) us) (fun _ s'=>∃σ' H',bw X af σ' H' s'/\Q σ' H') X.xe s
abbrev Hs:=V->V->V->Hp->(Hp->Prop)->Prop
def Ln(X:Cx)(t:Hs):Prop:=
 ∀(af:List (Addr×Obj)) (s:Shared) (σ:St) (H:Hp) (o i v:V) (ov iv u:Value) (Q:Hp->Prop),bw X af σ H s->cB o ov->cB i iv->cB v u->t o i v H Q ->
  wpAny (model X.prog X.w) X.A (setItem ov iv u) (fun _ s'=>∃H',bw X af σ H' s'/\Q H') X.xe s
section
variable{X:Cx}{pos:Pos}
def Jw(i:Nat):TG:=fun v σ H Q=>Q (σ.set i (some v)) H
theorem Ht{i:Nat}{x:Str}(hN:X.N.Nodup)(hi:X.N[i]?=some x)(hx:DA X.env.scope x)(hf:X.fn x=true\/X.env.scope.names.lookup x=some .local:=by first|exact .inl rfl|exact .inr rfl|assumption):PG X (.Name x pos) (Jw i):=by
 intro af s σ H v u Q I r h
 exact wpAny_assign_Name (sy I hN hi hx r (fun s' I'=>⟨_,H,I',h⟩) hf)
def Ss:Hr:=fun vs σ H Q=>vs=[]/\Q σ H
def OW(t:TG)(u:Hr):Hr:=fun vs σ H Q=>∃v r,vs=v::r/\t v σ H fun σ' H'=>u r σ' H' Q
theorem Hu:Jv X [] Ss:=by
 intro af s σ H vs us Q I r h
 obtain⟨e,h⟩:=h
 subst e
 cases r
 exact assignInOrder_nil ⟨σ,H,I,h⟩
theorem DF{e:Expr}{es:List Expr}{t:TG}{u:Hr}(h1:PG X e t)(h2:Jv X es u)
  (hs:(assignEach (e::es) X.env).map (·.2)=assign e X.env::(assignEach es X.env).map (·.2):=by rfl):Jv X (e::es) (OW t u):=by
 intro af s σ H vs us Q I r h
 obtain⟨v,vr,e1,h⟩:=h
 subst e1
 cases r with
 |cons r rr=>
  rw[hs]
  refine assignInOrder_cons (gE (h1 af s σ H _ _ _ I r h) fun _ s1 ⟨σ1,H1,I1,q1⟩=>?_)
  exact h2 af s1 σ1 H1 _ _ Q I1 rr q1
def Su(K:Frag)(n:Nat)(t:Hr):TG:=fun v σ H Q=>∃a xs,v=.ref a/\fQ K H a xs/\xs.length=n/\t xs σ H Q
theorem Lo{es:List Expr}{k:Nat}{t:Hr}{n:Nat}(hc:X.calm=true)(h:Jv X es t)
  (hn:(assignEach es X.env).length=n:=by rfl) (mi:(assignEach es X.env).findIdx? (·.1)=none:=by rfl):PG X (.Tuple es k pos) (Su X.K n t):=by
 intro af s σ H v u Q I r hw
 obtain⟨a,xs,e1,hq,hl,hw⟩:=hw
 subst e1
 cases r
 obtain⟨bI,rv,ht,hz⟩:=I.tuple hq
 refine assign_Tuple_tuple (I.ok.hd hc) ht (by simp[hn,<- hl,rv.length]) mi fun h' hx=>?_
 have I1:bw X af σ H { s with heap:=h' }:=I.kept (t':=s.toks) fun b o e=>hx b o (ba (aE e)) e
 exact h af _ σ H xs _ Q I1 (by simpa using rv) hw
def Sv(to ti:TE)(t:Hs):TG:=fun v σ H Q=>to σ H fun o H1=>ti σ H1 fun i H2=>t o i v H2 fun H3=>Q σ H3
theorem Lp{o i:Expr}{to ti:TE}{t:Hs}(ho:PE X o to)(hi:PE X i ti)(hs:Ln X t)
  (ha:∀v,assign (.Subscript o i pos) X.env v=(do
   let ov <- holding [v] (eval o X.env)
   let iv <- holding [v,ov] (eval i X.env)
   standAt pos
   holding [v,ov,iv] (setItem ov iv v)
   release [v,ov,iv] []):=by intro _;rfl):PG X (.Subscript o i pos) (Sv to ti t):=by
 intro af s σ H v u Q I r h
 rw[ha]
 refine aa (du (gE (ho af s σ H _ I h) fun ov s1 ⟨x,H1,I1,r1,q1⟩=>?_))
 refine aa (du (gE (hi af s1 σ H1 _ I1 q1) fun iv s2 ⟨y,H2,I2,r2,q2⟩=>?_))
 refine aa (oY (aa (du (gE (hs af s2 σ H2 x y v ov iv u _ I2 r1 r2 r q2) fun _ s3 ⟨H3,I3,q3⟩=>?_))))
 exact wpAny_release ⟨σ,H3,I3,q3⟩
def Hv(te:TE)(g:TG):TS:=fun D σ H=>te σ H fun x H1=>g x σ H1 D.nx
theorem Lq{tg e:Expr}{te:TE}{g:TG}(he:PE X e te)(hg:PG X tg g)(hs:swapsWithSole [tg] e pos.line X.env=pure false:=by rfl)(hw:swappedStores [tg] e X.env=pure none:=by rfl)
  (h1:(assignEach [tg] X.env).map (·.2)=[assign tg X.env]:=by rfl):PS X (.Assign [tg] e pos) (Hv te g):=by
 intro af s σ H D I h
 refine wpAny_Assign_stores (gE (he af s σ H _ I h) fun v s1 ⟨x,H1,I1,r1,q1⟩=>?_) hs hw
 rw[h1]
 exact gE (hg af s1 σ H1 x v _ I1 r1 q1) fun _ s2 q=>q
theorem Lr{i:Nat}{x:Str}{e:Expr}{te:TE}{iF:Pos}(hN:X.N.Nodup)(hi:X.N[i]?=some x)(hx:DA X.env.scope x)(he:PE X e te)(hs:swapsWith e (some (.Name x iF)) pos.line X.env=pure false:=by rfl)(hf:X.fn x=true\/X.env.scope.names.lookup x=some .local:=by first|exact .inl rfl|exact .inr rfl|assumption) :
  PS X (.Assign [.Name x iF] e pos) (Hv te (Jw i)):=by
 intro af s σ H D I h
 refine wpAny_Assign_Name (gE (he af s σ H _ I h) fun v s1 ⟨y,H1,I1,r1,q1⟩=>?_) hs
 exact sy I1 hN hi hx r1 (fun s2 I2=>⟨_,H1,I2,q1⟩) hf
end
section
variable{X:Cx}{pos:Pos}
def DG(c:TT)(tb:TS):TS:=fun D σ H=>∃W:Nat->St->Hp->Prop,(∃m,W m σ H)/\∀m σ H,W m σ H ->
 c σ H fun b H1=>if b=true then ∃N:St->Hp->Prop,(∀σ' H',N σ' H'->∃m',m'<m/\W m' σ' H')/\tb { D with nx:=N,ct:=N,bk:=D.nx } σ H1 else D.nx σ H1
theorem DH{c:Expr}{body:List Stmt}{tc:TT}{tb:TS}(hp:PassesOwn (model X.prog X.w) X.A X.env X.xe)(hc:PT X c tc)(hb:wU X body tb):PS X (.While c body [] pos) (DG tc tb):=by
 intro af s σ H D I h
 obtain⟨W,⟨m0,w0⟩,turn⟩:=h
 refine wpAny_While (codeAny_whileLoop (fun n s'=>∃σ' H',bw X af σ' H' s'/\W n σ' H') ?_ m0 ⟨σ,H,I,w0⟩)
 rintro n s1 ⟨σ1,H1,I1,w1⟩
 refine fD hp (gE (hc af s1 σ1 H1 _ I1 (turn n σ1 H1 w1)) fun b s2 ⟨H2,I2,q2⟩=>?_)
 cases b with
 |true=>
  obtain⟨N,hN,q2⟩:=q2
  rw[aq rfl]
  refine fD hp (gE (hb af s2 σ1 H2 _ I2 q2) fun f s3 q3=>?_)
  cases f with
  |next=>
   obtain⟨σ3,H3,I3,n3⟩:=q3
   obtain⟨m',hm,w3⟩:=hN σ3 H3 n3
   exact⟨m',hm,σ3,H3,I3,w3⟩
  |cont=>
   obtain⟨σ3,H3,I3,n3⟩:=q3
   obtain⟨m',hm,w3⟩:=hN σ3 H3 n3
   exact⟨m',hm,σ3,H3,I3,w3⟩
  |brk=>exact q3
  |ret v=>exact q3
 |false=>
  rw[ax c6]
  exact jE ⟨σ1,H2,I2,q2⟩
end
structure It where
 go:Nat->Hp->Prop
 yld:Nat->Hp->V->Hp->Prop
 stop:Nat->Hp->Prop
def rJ(X:Cx)(af:List (Addr×Obj))(H:Hp)(b:Addr):Prop:=
 H b=none/\b≠X.env.locals/\b∉X.fs/\(b∈X.ex\/X.s₀.heap.objs.size<=b)/\(∀x c,X.env.cells.lookup x=some c->c≠b)/\∀p∈X.pn++af,p.1≠b
theorem bw.fpOk{X:Cx}{af:List (Addr×Obj)}{σ:St}{H H':Hp}{s:Shared}{b:Addr}(I:bw X af σ H s)(hb:s.heap.objs.size<=b)(hn:H' b=none):rJ X af H' b:=by
 refine⟨hn,fJ (aU I.lt hb),I.nofs hb,.inr (bh I.sz hb),fun x c e z=>?_,fun p hp z=>?_⟩
 ·obtain⟨v,q⟩:=I.cell x c e
  exact absurd (aU q.lt (by rw[z];exact hb)) (cV _)
 ·exact absurd (aU (aE (I.pin p hp).1) (by rw[z];exact hb)) (cV _)
structure zr(P:Program)(w:World)(K:Frag)(tg:Expr)(J:It)(fp:List Addr)(it:Addr)(tn:Nat->Heap->Prop):Prop where
 mem:it∈fp
 obj:∀i h,tn i h->∀b∈fp,∃o,h.get? b=some o/\∀v,o.data≠.cell v
 keep:∀i h h',tn i h->(∀b∈fp,∀o,h.get? b=some o->h'.get? b=some o)->tn i h'
 item:∀(X:Cx),X.prog=P->X.w=w->X.K=K->X.calm=true->∀(i:Nat) (af:List (Addr×Obj)) (s:Shared) (σ:St) (H:Hp) (E:Value->Shared->Prop),bw X af σ H s->(∀b∈fp,rJ X af H b)->tn i s.heap->J.go i H ->
  wpAny (model P w) X.A (pyNext (.ref it)) (fun r s1=>∃u,r=some u /\
   wpAny (model P w) X.A (letOwnedTupleGo tg (.ref it) u) (fun _ s2=>∃x H',bw X af σ H' s2/\cB x u/\J.yld i H x H'/\tn (i+1) s2.heap/\∀b∈fp,H' b=none) E s1) E s
 done:∀(X:Cx),X.prog=P->X.w=w->X.K=K->X.calm=true->∀(i:Nat) (af:List (Addr×Obj)) (s:Shared) (σ:St) (H:Hp) (E:Value->Shared->Prop),bw X af σ H s->(∀b∈fp,rJ X af H b)->tn i s.heap->J.stop i H ->
  wpAny (model P w) X.A (pyNext (.ref it)) (fun r s1=>r=none/\bw X af σ H s1) E s
 self:∀(A:Around) (i:Nat) (s:Shared) (Q:Value->Shared->Prop) (E:Value->Shared->Prop),tn i s.heap->Q (.ref it) s->wpAny (model P w) A (pyIter (.ref it)) Q E s
abbrev TI:=St->Hp->(It->Hp->Prop)->Prop
def Sw(X:Cx)(af:List (Addr×Obj))(σ:St)(tg:Expr)(R:It->Hp->Prop)(TV:Value)(s2:Shared):Prop:=
 ∃(it:Addr) (fp:List Addr) (tn:Nat->Heap->Prop) (J:It) (H':Hp),TV=.ref it/\bw X af σ H' s2/\zr X.prog X.w X.K tg J fp it tn/\tn 0 s2.heap/\(∀b∈fp,rJ X af H' b)/\R J H'
def PI(X:Cx)(tg eh:Expr)(wi:TI):Prop:=
 ∀(af:List (Addr×Obj)) (s:Shared) (σ:St) (H:Hp) (R:It->Hp->Prop),bw X af σ H s->wi σ H R ->
  wpAny (model X.prog X.w) X.A (eval eh X.env) (fun v s1=>wpAny (model X.prog X.w) X.A (pyIter v) (Sw X af σ tg R) X.xe s1) X.xe s
theorem AZ    {M : Model} {A : Around} {E : Value -> Shared -> Prop} {s : Shared} {tg : Expr} {it : Addr} {u : Value} {o : Obj} {n : String} {vs : Array Value} {Q : Unit -> Shared -> Prop} (ho : s.heap.get? it = some o) (hc : o.cls = .type n) (hd : o.data = .fields vs)
    (hn : ["enumerate", "zip", "dict_itemiterator", "dict_reverseitemiterator", "odict_iterator", "itertools.zip_longest", "itertools.pairwise"].contains n = false) (hQ : Q () s) : wpAny M A (letOwnedTupleGo tg (.ref it) u) Q E s := by
  unfold letOwnedTupleGo
  cases tg <;> first
    | exact am         hQ
    | (cases u <;> first
        | exact am         hQ
        | (refine aa         (wpAny_load ho ?_)
           rw [hc, hd]
           show wpAny M A (if (["enumerate", "zip", "dict_itemiterator", "dict_reverseitemiterator", "odict_iterator", "itertools.zip_longest", "itertools.pairwise"].contains n && vs[0]? == some (rawInt _)) = true then _ else _) Q E s
           rw [ax     (by intro h; rw [hn, Bool.false_and] at h; cases h)]
           exact am         hQ))
def T0(K:Frag)(a:Addr):It:=
 ⟨fun i H=>∃xs x,pN K H a xs/\xs[i]?=some x,fun i H x H'=>H'=H/\∀xs,pN K H a xs->xs[i]?=some x,fun i H=>∃xs,pN K H a xs/\xs.length<=i⟩
def T3(K:Frag)(a:Addr):It:=
 ⟨fun i H=>∃xs x,fQ K H a xs/\xs[i]?=some x,fun i H x H'=>H'=H/\∀xs,fQ K H a xs->xs[i]?=some x,fun i H=>∃xs,fQ K H a xs/\xs.length<=i⟩
def RR(lo:Int)(n:Nat):It:=⟨fun i _=>i<n,fun i H x H'=>H'=H/\x=.int (lo+i),fun i _=>n<=i⟩
theorem B4{P:Program}{w:World}{K:Frag}{tg:Expr}(a it:Addr):zr P w K tg (T0 K a) [it] it (fun i h=>h.IsListIter it a i) where
 mem:=by simp
 obj:=fun i h st b hb=>by
  have e:b=it:=by simpa using hb
  subst e
  obtain⟨o,e,c,d⟩:=st
  exact⟨o,e,fun v z=>by rw[d]at z;cases z⟩
 keep:=fun i h h' st k=>st.at fun o e=>k it (by simp) o e
 item:=by
  intro X hP hw hK hc i af s σ H E I hf st hg
  subst hP hw hK
  obtain⟨xs,x,hq,hx⟩:=hg
  obtain⟨bI,rv,p,hz⟩:=I.list hq
  obtain⟨u,hu,ru⟩:=rv.get hx
  obtain⟨f0,f1,f2,f3,f4,f5⟩:=hf it (by simp)
  refine wpAny_pyNext_list_item st p.isList (x:=u) (by simpa using hu) fun h' bu sb=>?_
  have I1:bw X af σ H { s with heap:=h' }:=I.turned (t':=s.toks) (fun b o hb e=>(sb.2 b hb).trans e) f0 f1 f3 f4 f5
  obtain⟨o,e,c,d⟩:=id bu
  exact⟨u,rfl,AZ (s:={ s with heap:=h' }) e c d (by decide) ⟨x,H,I1,ru,⟨rfl,fun ys hy=>by rw[I.list_inj hy hq];exact hx⟩,bu,fun b hb=>(hf b hb).1⟩⟩
 done:=by
  intro X hP hw hK hc i af s σ H E I hf st hg
  subst hP hw hK
  obtain⟨xs,hq,hx⟩:=hg
  obtain⟨bI,rv,p,hz⟩:=I.list hq
  obtain⟨f0,f1,f2,f3,f4,f5⟩:=hf it (by simp)
  have hl:=rv.length
  exact wpAny_pyNext_list_end (I.ok.hd hc) st p.isList (by simp;omega) fun h' eb=>⟨rfl,I.turned (t':=s.toks) (fun b o hb e=>eb b o hb e) f0 f1 f3 f4 f5⟩
 self:=fun _ _ _ _ _ st h=>wpAny_pyIter_listiter st h
theorem zt{P:Program}{w:World}{K:Frag}{tg:Expr}(a it:Addr):zr P w K tg (T3 K a) [it] it (fun i h=>h.IsTupleIter it a i) where
 mem:=by simp
 obj:=fun i h st b hb=>by
  have e:b=it:=by simpa using hb
  subst e
  obtain⟨o,e,c,d⟩:=st
  exact⟨o,e,fun v z=>by rw[d]at z;cases z⟩
 keep:=fun i h h' st k=>st.at fun o e=>k it (by simp) o e
 item:=by
  intro X hP hw hK hc i af s σ H E I hf st hg
  subst hP hw hK
  obtain⟨xs,x,hq,hx⟩:=hg
  obtain⟨bI,rv,p,hz⟩:=I.tuple hq
  obtain⟨u,hu,ru⟩:=rv.get hx
  obtain⟨f0,f1,f2,f3,f4,f5⟩:=hf it (by simp)
  refine wpAny_pyNext_tuple_item st (show s.heap.IsTuple a bI.toArray from p) (x:=u) (by simpa using hu) fun h' bu sb=>?_
  have I1:bw X af σ H { s with heap:=h' }:=I.turned (t':=s.toks) (fun b o hb e=>(sb.2 b hb).trans e) f0 f1 f3 f4 f5
  obtain⟨o,e,c,d⟩:=id bu
  exact⟨u,rfl,AZ (s:={ s with heap:=h' }) e c d (by decide) ⟨x,H,I1,ru,⟨rfl,fun ys hy=>by rw[I.tuple_inj hy hq];exact hx⟩,bu,fun b hb=>(hf b hb).1⟩⟩
 done:=by
  intro X hP hw hK hc i af s σ H E I hf st hg
  subst hP hw hK
  obtain⟨xs,hq,hx⟩:=hg
  obtain⟨bI,rv,p,hz⟩:=I.tuple hq
  obtain⟨f0,f1,f2,f3,f4,f5⟩:=hf it (by simp)
  have hl:=rv.length
  exact wpAny_pyNext_tuple_end (I.ok.hd hc) st (show s.heap.IsTuple a bI.toArray from p) (by simp;omega) fun h' eb=>⟨rfl,I.turned (t':=s.toks) (fun b o hb e=>eb b o hb e) f0 f1 f3 f4 f5⟩
 self:=fun _ _ _ _ _ st h=>wpAny_pyIter_tupleiter st h
theorem zu{P:Program}{w:World}{K:Frag}{tg:Expr}(it:Addr)(lo:Int)(n:Nat):zr P w K tg (RR lo n) [it] it (fun i h=>IsRangeIter h it (lo+(i:Nat)*1) ((n:Int)-(i:Nat)) 1) where
 mem:=by simp
 obj:=fun i h st b hb=>by
  have e:b=it:=by simpa using hb
  subst e
  exact⟨_,st,fun v z=>by
   have z':Data.fields _=Data.cell v:=z
   cases z'⟩
 keep:=fun i h h' st k=>k it (by simp) _ st
 item:=by
  intro X hP hw hK hc i af s σ H E I hf st hg
  subst hP hw hK
  obtain⟨f0,f1,f2,f3,f4,f5⟩:=hf it (by simp)
  have W:=Walks.range (prog:=X.prog) (w:=X.w) (I.ok.hd hc) it lo 1 n
  refine W.item i s _ _ hg st fun v h' tk hv bu kk=>?_
  obtain⟨t,rfl⟩:=hv
  have I1:bw X af σ H { s with heap:=h',toks:=tk }:=I.turned (fun b o hb e=>kk b o (by simpa using hb) e) f0 f1 f3 f4 f5
  refine⟨_,rfl,AZ (s:={ s with heap:=h',toks:=tk }) (n:="range_iterator") bu rfl rfl (by decide) ⟨.int (lo+i),H,I1,⟨t,?_⟩,⟨rfl,rfl⟩,bu,fun b hb=>(hf b hb).1⟩⟩
  rw[Int.mul_one]
 done:=by
  intro X hP hw hK hc i af s σ H E I hf st hg
  subst hP hw hK
  obtain⟨f0,f1,f2,f3,f4,f5⟩:=hf it (by simp)
  exact wpAny_pyNext_range_end (I.ok.hd hc) st (by have:n<=i:=hg;omega) fun h' eb=>⟨rfl,I.turned (t':=s.toks) (fun b o hb e=>eb b o hb e) f0 f1 f3 f4 f5⟩
 self:=fun _ _ _ _ _ st h=>mQ st h
section
variable{X:Cx}{tg:Expr}
def OX(K:Frag)(tl:TE):TI:=fun σ H R=>tl σ H fun x H1=>∃a,x=.ref a/\(∃xs,pN K H1 a xs)/\R (T0 K a) H1
def Sx(K:Frag)(tl:TE):TI:=fun σ H R=>tl σ H fun x H1=>∃a,x=.ref a/\(∃xs,fQ K H1 a xs)/\R (T3 K a) H1
theorem Hw{l:Expr}{tl:TE}(hl:PE X l tl):PI X tg l (OX X.K tl):=by
 intro af s σ H R I h
 refine gE (hl af s σ H _ I h) fun v s1 ⟨x,H1,I1,r1,q1⟩=>?_
 obtain⟨a,e,⟨xs,hq⟩,q⟩:=q1
 subst e
 cases r1
 obtain⟨bI,rv,p,hz⟩:=I1.list hq
 refine wpAny_pyIter_list p.isList ?_
 refine⟨s1.heap.objs.size,[s1.heap.objs.size],_,_,H1,rfl,I1.kept (t':=s1.toks) fun b o e=>ak _ e,B4 a _,⟨_,au _ rfl,rfl,rfl⟩,fun b hb=>?_,q⟩
 have e:b=s1.heap.objs.size:=by simpa using hb
 subst e
 exact I1.fpOk (ay _) (I1.hok.fresh (ay _))
theorem Ls{l:Expr}{tl:TE}(hl:PE X l tl):PI X tg l (Sx X.K tl):=by
 intro af s σ H R I h
 refine gE (hl af s σ H _ I h) fun v s1 ⟨x,H1,I1,r1,q1⟩=>?_
 obtain⟨a,e,⟨xs,hq⟩,q⟩:=q1
 subst e
 cases r1
 obtain⟨bI,rv,p,hz⟩:=I1.tuple hq
 refine fj (show s1.heap.IsTuple a bI.toArray from p) ?_
 refine⟨s1.heap.objs.size,[s1.heap.objs.size],_,_,H1,rfl,I1.kept (t':=s1.toks) fun b o e=>ak _ e,zt a _,⟨_,au _ rfl,rfl,rfl⟩,fun b hb=>?_,q⟩
 have e:b=s1.heap.objs.size:=by simpa using hb
 subst e
 exact I1.fpOk (ay _) (I1.hok.fresh (ay _))
theorem DI{af:List (Addr×Obj)}{σ:St}{H:Hp}{s:Shared}{R:It->Hp->Prop}{E:Value->Shared->Prop}{lo hi:Int}{t u v:Tok}{tk:Nat}(I:bw X af σ H s)(h1:-(2^62)<=lo)(h2:lo<2^62)(h3:-(2^62)<=hi)(h4:hi<2^62)
  (q:R (RR lo (hi-lo).toNat) H):wpAny (model X.prog X.w) X.A (pyIter (.ref s.heap.objs.size)) (Sw X af σ tg R) E { s with heap:=s.heap.push { cls:=.type "range",data:=.fields #[.int lo t,.int hi u,.int 1 v] },toks:=tk }:=by
 refine wpAny_pyIter_range (IsRange.new ..) (small_one h1 h2 h3 h4) ?_
 have I1:bw X af σ H { s with heap:=s.heap.push { cls:=.type "range",data:=.fields #[.int lo t,.int hi u,.int 1 v] },toks:=tk }:=I.kept fun b o e=>ak _ e
 refine⟨(s.heap.push { cls:=.type "range",data:=.fields #[.int lo t,.int hi u,.int 1 v] }).objs.size,[(s.heap.push { cls:=.type "range",data:=.fields #[.int lo t,.int hi u,.int 1 v] }).objs.size],_,_,H,rfl,
  I1.kept (t':=tk) fun b o e=>ak _ e,zu _ lo (hi-lo).toNat,?_,fun b hb=>?_,q⟩
 ·have e1:lo+((0:Nat):Int)*1=lo:=by simp
  have e2:(((hi-lo).toNat:Nat):Int)-((0:Nat):Int)=Builtin.Range.rangeSize lo hi 1:=by rw[rangeSize_one];split<;>omega
  show IsRangeIter _ _ (lo+((0:Nat):Int)*1) ((((hi-lo).toNat:Nat):Int)-((0:Nat):Int)) 1
  rw[e1,e2]
  exact au _ rfl
 ·have e:b=(s.heap.push { cls:=.type "range",data:=.fields #[.int lo t,.int hi u,.int 1 v] }).objs.size:=by simpa using hb
  subst e
  exact I1.fpOk (ay _) (I1.hok.fresh (ay _))
def OY(ta:TA):TI:=fun σ H R=>ta σ H fun vs H1=>∃j:Int,vs=[.int j]/\-(2^62)<=j/\j<2^62/\R (RR 0 j.toNat) H1
theorem B5{a:Expr}{ta:TA}{p pos:Pos}(hg:Gl X "range")(hm:X.mg "range"=none)(ha:PA X [a] ta)(hs:starEach [a] X.env=[(false,eval a X.env)]:=by rfl):PI X tg (.Call (.Name "range" p) [a] [] pos) (OY ta):=by
 intro af s σ H R I h
 refine Call_ (kZ I hg hm boot_range (cA (gE (ha pos af s σ H _ I h) fun us s1 ⟨vs,H1,I1,r1,q1⟩=>?_) hs rfl))
 obtain⟨j,e,q1,q2,q⟩:=q1
 subst e
 cases r1 with
 |cons r rr=>
  cases rr
  obtain⟨t,rfl⟩:=r
  exact call_range_1 (DI I1 (by omega) (by omega) q1 q2 (by simpa using q))
def Sy(wi:TI)(g:TG)(tb:TS):TS:=fun D σ H=>wi σ H fun J H1=>∃W:Nat->Nat->St->Hp->Prop,(∃m,W 0 m σ H1)/\∀i m σ H,W i m σ H ->
 (J.stop i H/\D.nx σ H)\/(J.go i H/\∃N:St->Hp->Prop,(∀σ' H',N σ' H'->∃m',m'<m/\W (i+1) m' σ' H')/\∀x H',J.yld i H x H'->g x σ H' fun σ2 H2=>tb { D with nx:=N,ct:=N,bk:=D.nx } σ2 H2)
def vt(fp:List Addr)(h:Heap):List (Addr×Obj):=fp.filterMap fun b=>(h.get? b).map fun o=>(b,o)
theorem iT{fp:List Addr}{h:Heap}{b:Addr}{o:Obj}(hb:b∈fp)(e:h.get? b=some o):(b,o)∈vt fp h:=List.mem_filterMap.mpr ⟨b,hb,by rw[e];rfl⟩
theorem B6{fp:List Addr}{h:Heap}{p:Addr×Obj}(hp:p∈vt fp h):p.1∈fp/\h.get? p.1=some p.2:=by
 obtain⟨b,hb,e⟩:=List.mem_filterMap.mp hp
 cases q:h.get? b with
 |none=>rw[q]at e;cases e
 |some o=>
  rw[q]at e
  have e':(b,o)=p:=aS e
  subst e'
  exact⟨hb,q⟩
theorem bw.pinned{af:List (Addr×Obj)}{σ:St}{H:Hp}{s:Shared}{fp:List Addr}(I:bw X af σ H s)(hf:∀b∈fp,rJ X af H b)(ho:∀b∈fp,∃o,s.heap.get? b=some o/\∀v,o.data≠.cell v):bw X (af++vt fp s.heap) σ H s:=
 I.pins_of fun p hp=>(bB.mp hp).elim (fun z=>I.pin p (aX _ z)) fun z=>by
  obtain⟨hb,e⟩:=B6 z
  obtain⟨f0,f1,f2,_⟩:=hf p.1 hb
  obtain⟨o,e',d⟩:=ho p.1 hb
  rw[e]at e';cases e'
  exact⟨e,f0,f1,f2,d⟩
theorem bw.unpinned{af pl:List (Addr×Obj)}{σ:St}{H:Hp}{s:Shared}(I:bw X (af++pl) σ H s):bw X af σ H s:=I.pins_of fun p hp=>I.pin p (aX _ (fI _ hp))
theorem Lu{eh:Expr}{body:List Stmt}{wi:TI}{g:TG}{tb:TS}{pos:Pos}(hp:PassesOwn (model X.prog X.w) X.A X.env X.xe)(hc:X.calm=true)(hi:PI X tg eh wi)(hg:PG X tg g)(hb:wU X body tb)
  (hs:∀x,foldedSetIterable eh X.env x=pure x:=by intro _;rfl):PS X (.For tg eh body [] pos) (Sy wi g tb):=by
 intro af s σ H D I h
 refine wpAny_For (gE (hi af s σ H _ I h) fun v s1 h1=>gE h1 fun TV s2 h2=>?_) hs
 obtain⟨it,fp,tn,J,H2,e,I2,T,dw,f2,W,⟨m0,w0⟩,turn⟩:=h2
 subst e
 have stat:∀{H':Hp},(∀b∈fp,H' b=none)->∀b∈fp,rJ X af H' b:=fun hn b hb=>⟨hn b hb,(f2 b hb).2⟩
 refine codeAny_forLoop_any (fun n s'=>∃i σ' H',bw X af σ' H' s'/\tn i s'.heap/\(∀b∈fp,H' b=none)/\W i n σ' H') ?_ m0 ⟨0,σ,H2,I2,dw,fun b hb=>(f2 b hb).1,w0⟩
 rintro n s3 ⟨i,σ3,H3,I3,jB,fr3,w3⟩
 rcases turn i n σ3 H3 w3 with⟨stop,qn⟩|⟨go,N,hN,step⟩
 ·refine fD hp (gE (T.done X rfl rfl rfl hc i af s3 σ3 H3 X.xe I3 (stat fr3) jB stop) fun r s4 ⟨hr,I4⟩=>?_)
  subst hr
  exact jE ⟨σ3,H3,I4,qn⟩
 ·refine fD hp (gE (T.item X rfl rfl rfl hc i af s3 σ3 H3 X.xe I3 (stat fr3) jB go) fun r s4 ⟨u,hr,h4⟩=>?_)
  subst hr
  refine fD hp (gE h4 fun _ s5 ⟨x,H5,I5,r5,y5,st5,fr5⟩=>?_)
  have I5':=I5.pinned (stat fr5) (T.obj _ _ st5)
  refine fD hp (gE (hg _ s5 σ3 H5 x u _ I5' r5 (step x H5 y5)) fun _ s6 ⟨σ6,H6,I6,q6⟩=>?_)
  refine fD hp (gE (hb _ s6 σ6 H6 _ I6 q6) fun f s7 q7=>?_)
  have again:∀{σ7:St} {H7:Hp},bw X (af++vt fp s5.heap) σ7 H7 s7->N σ7 H7->∃m,m<n/\∃i σ' H',bw X af σ' H' s7/\tn i s7.heap/\(∀b∈fp,H' b=none)/\W i m σ' H':=fun{σ7 H7} I7 n7=>by
   obtain⟨m',hm,w7⟩:=hN σ7 H7 n7
   refine⟨m',hm,i+1,σ7,H7,I7.unpinned,T.keep _ _ _ st5 fun b hb o e=>(I7.pin (b,o) (aX _ (aX _ (iT hb e)))).1,fun b hb=>?_,w7⟩
   obtain⟨o,e,d⟩:=T.obj _ _ st5 b hb
   exact(I7.pin (b,o) (aX _ (aX _ (iT hb e)))).2.1
  cases f with
  |next=>obtain⟨σ7,H7,I7,n7⟩:=q7;exact again I7 n7
  |cont=>obtain⟨σ7,H7,I7,n7⟩:=q7;exact again I7 n7
  |brk=>obtain⟨σ7,H7,I7,q7⟩:=q7;exact⟨σ7,H7,I7.unpinned,q7⟩
  |ret v=>obtain⟨x7,σ7,H7,I7,r7,q7⟩:=q7;exact⟨x7,σ7,H7,I7.unpinned,r7,q7⟩
end
abbrev R2:=V->V->Hp->VK->Prop
def k6(X:Cx)(f:Value->Value->Sem Value)(r:R2):Prop:=
 ∀(af:List (Addr×Obj)) (s:Shared) (σ:St) (H:Hp) (x y:V) (v u:Value) (Q:VK),bw X af σ H s->cB x v->cB y u->r x y H Q ->
  wpAny (model X.prog X.w) X.A (f v u) (EP X af σ Q) X.xe s
def RT(X:Cx)(f:Value->Sem Value)(r:V->Hp->VK->Prop):Prop:=
 ∀(af:List (Addr×Obj)) (s:Shared) (σ:St) (H:Hp) (x:V) (v:Value) (Q:VK),bw X af σ H s->cB x v->r x H Q ->
  wpAny (model X.prog X.w) X.A (f v) (EP X af σ Q) X.xe s
def hV(X:Cx)(f:Value)(r:List V->Hp->VK->Prop):Prop:=
 ∀(af:List (Addr×Obj)) (s:Shared) (σ:St) (H:Hp) (xs:List V) (us:List Value) (Q:VK),bw X af σ H s->cw xs us->r xs H Q ->
  wpAny (model X.prog X.w) X.A (call f us) (EP X af σ Q) X.xe s
def OZ(r:R2)(ta tb:TE):TE:=fun σ H Q=>ta σ H fun x H1=>tb σ H1 fun y H2=>r x y H2 Q
def Uq(r:V->Hp->VK->Prop)(ta:TE):TE:=fun σ H Q=>ta σ H fun x H1=>r x H1 Q
def rI(C:Int->Int->Prop)(g:Int->Int->V):R2:=fun x y H Q=>∃i j,x=.int i/\y=.int j/\C i j/\Q (g i j) H
def Dr(g:Int->Int->V):R2:=fun x y H Q=>∃i j,x=.int i/\y=.int j/\Q (g i j) H
def rU(g:Int->V):V->Hp->VK->Prop:=fun x H Q=>∃i,x=.int i/\Q (g i) H
section
variable{X:Cx}{a b c:Expr}{ta tb tc:TE}{pos:Pos}
theorem Lv(ha:PE X a ta)(hb:PE X b tb){af:List (Addr×Obj)}{s:Shared}{σ:St}{H:Hp}{R:V->V->Hp->Prop}(I:bw X af σ H s)
  (h:ta σ H fun x H1=>tb σ H1 fun y H2=>R x y H2) {Q:Value->Shared->Prop} {f:Value->Value->Sem Value}
  (hf:∀v u s2 x y H2,bw X af σ H2 s2->cB x v->cB y u->R x y H2->wpAny (model X.prog X.w) X.A (f v u) Q X.xe s2) :
  wpAny (model X.prog X.w) X.A (eval a X.env) (fun v s₁=>wpAny (model X.prog X.w) X.A (eval b X.env) (fun u s₂=>wpAny (model X.prog X.w) X.A (f v u) Q X.xe s₂) X.xe s₁) X.xe s:=by
 refine gE (ha af s σ H _ I h) fun v s1 ⟨x,H1,I1,r1,q1⟩=>?_
 refine gE (hb af s1 σ H1 _ I1 q1) fun u s2 ⟨y,H2,I2,r2,q2⟩=>?_
 exact hf v u s2 x y H2 I2 r1 r2 q2
theorem O0{op:Operator}{r:R2}(ho:k6 X (binaryOp op) r)(ha:PE X a ta)(hb:PE X b tb):PE X (.BinOp a op b pos) (OZ r ta tb):=by
 intro af s σ H Q I h
 exact wpAny_BinOp (Lv ha hb I h fun v u s2 x y H2 I2 rx ry q=>ho af s2 σ H2 x y v u Q I2 rx ry q)
theorem Jx{op:UnaryOp}{r:V->Hp->VK->Prop}(ho:RT X (unaryOp op) r)(ha:PE X a ta):PE X (.UnaryOp op a pos) (Uq r ta):=by
 intro af s σ H Q I h
 exact UnaryOp_ (gE (ha af s σ H _ I h) fun v s1 ⟨x,H1,I1,r1,q1⟩=>ho af s1 σ H1 x v Q I1 r1 q1)
theorem Ox{f:Value->Value->Sem Value}{C:Int->Int->Prop}{g:Int->Int->Int}
  (rule:∀(i j:Int) (t u:Tok) (s:Shared) (Q:Value->Shared->Prop) (E:Value->Shared->Prop),C i j->Q (.int (g i j) s.toks) { s with toks:=s.toks+1 }->wpAny (model X.prog X.w) X.A (f (.int i t) (.int j u)) Q E s) :
  k6 X f (rI C fun i j=>.int (g i j)):=by
 intro af s σ H x y v u Q I rx ry h
 obtain⟨i,j,rfl,rfl,hc,q⟩:=h
 obtain⟨t,rfl⟩:=rx
 obtain⟨t',rfl⟩:=ry
 exact rule i j t t' s _ _ hc ⟨.int (g i j),H,I.tok _,⟨_,rfl⟩,q⟩
theorem DJ{f:Value->Value->Sem Value}{g:Int->Int->Int}
  (rule:∀(i j:Int) (t u:Tok) (s:Shared) (Q:Value->Shared->Prop) (E:Value->Shared->Prop),Q (.int (g i j) s.toks) { s with toks:=s.toks+1 }->wpAny (model X.prog X.w) X.A (f (.int i t) (.int j u)) Q E s) :
  k6 X f (Dr fun i j=>.int (g i j)):=by
 intro af s σ H x y v u Q I rx ry h
 obtain⟨i,j,rfl,rfl,q⟩:=h
 obtain⟨t,rfl⟩:=rx
 obtain⟨t',rfl⟩:=ry
 exact rule i j t t' s _ _ ⟨.int (g i j),H,I.tok _,⟨_,rfl⟩,q⟩
theorem Lw{f:Value->Value->Sem Value}{g:Int->Int->Bool}
  (rule:∀(i j:Int) (t u:Tok) (s:Shared) (Q:Value->Shared->Prop) (E:Value->Shared->Prop),Q (.bool (g i j)) s->wpAny (model X.prog X.w) X.A (f (.int i t) (.int j u)) Q E s) :
  k6 X f (Dr fun i j=>.bl (g i j)):=by
 intro af s σ H x y v u Q I rx ry h
 obtain⟨i,j,rfl,rfl,q⟩:=h
 obtain⟨t,rfl⟩:=rx
 obtain⟨t',rfl⟩:=ry
 exact rule i j t t' s _ _ ⟨.bl (g i j),H,I,rfl,q⟩
def Sz(i j:Int):Prop:=0<j/\j<1073741824
def Lx(i j:Int):Prop:=0<=j/\j<=1000000/\i.natAbs<2^64
def Ly(i j:Int):Prop:=(-(2^64)<i/\i<2^64)\/(-(2^64)<j/\j<2^64)
theorem Ly.ok{i j:Int}(h:Ly i j):IntMulOk i j:=by
 rcases h with⟨h1,h2⟩|⟨h1,h2⟩
 ·exact .of_left (intBits_le_64 h1 h2)
 ·exact .of_right (intBits_le_64 h1 h2)
theorem zv(k:Nat):(0:Int)<=2^k:=by
 rw[two_pow_cast]
 exact Int.natCast_nonneg _
theorem LA:k6 X (binaryOp .Add) (Dr fun i j=>.int (i+j)):=DJ fun _ _ _ _ _ _ _ q=>add_int q
theorem LB:k6 X (binaryOp .Sub) (Dr fun i j=>.int (i-j)):=DJ fun _ _ _ _ _ _ _ q=>sub_int q
theorem LC:k6 X (binaryOp .Mult) (rI Ly fun i j=>.int (i*j)):=Ox fun _ _ _ _ _ _ _ hc q=>mul_int q hc.ok
theorem Hy:k6 X (binaryOp .FloorDiv) (rI Sz fun i j=>.int (i/j)):=Ox fun i j _ _ _ _ _ hc q=>by
 have h1:(0:Int)<j:=hc.1
 have h2:j<1073741824:=hc.2
 exact floordiv_int (by omega) (by rw[kj i (by omega)];exact q) (.inl (mR (by omega)))
theorem LD:k6 X (binaryOp .Mod) (rI (fun _ j=>0<j) fun i j=>.int (i%j)):=Ox fun i j _ _ _ _ _ hc q=>by
 have h1:(0:Int)<j:=hc
 exact mod_int' (by omega) (by rw[Int.fmod_eq_emod_of_nonneg i (by omega)];exact q)
theorem LF:k6 X (binaryOp .Pow) (rI Lx fun i j=>.int (i^j.toNat)):=Ox fun _ _ _ _ _ _ _ hc q=>pow_int_small hc.1 hc.2.1 hc.2.2 q
theorem DL:k6 X (binaryOp .LShift) (rI Lx fun i j=>.int (i*2^j.toNat)):=Ox fun _ _ _ _ _ _ _ hc q=>lshift_int_small hc.1 hc.2.1 hc.2.2 q
theorem LG:k6 X (binaryOp .RShift) (rI (fun _ j=>0<=j) fun i j=>.int (i/2^j.toNat)):=Ox fun i j _ _ _ _ _ hc q=>
 rshift_int hc (by rw[kj i (zv _)];exact q)
theorem LH:k6 X (binaryOp .BitAnd) (Dr fun i j=>.int (Builtin.bitAnd i j)):=DJ fun _ _ _ _ _ _ _ q=>and_int q
theorem O1:k6 X (binaryOp .BitOr) (Dr fun i j=>.int (Builtin.bitOr i j)):=DJ fun _ _ _ _ _ _ _ q=>or_int q
theorem LI:k6 X (binaryOp .BitXor) (Dr fun i j=>.int (Builtin.bitXor i j)):=DJ fun _ _ _ _ _ _ _ q=>xor_int q
theorem T4{f:Value->Sem Value}{g:Int->Int}
  (rule:∀(i:Int) (t:Tok) (s:Shared) (Q:Value->Shared->Prop) (E:Value->Shared->Prop),Q (.int (g i) s.toks) { s with toks:=s.toks+1 }->wpAny (model X.prog X.w) X.A (f (.int i t)) Q E s) :
  RT X f (rU fun i=>.int (g i)):=by
 intro af s σ H x v Q I rx h
 obtain⟨i,rfl,q⟩:=h
 obtain⟨t,rfl⟩:=rx
 exact rule i t s _ _ ⟨.int (g i),H,I.tok _,⟨_,rfl⟩,q⟩
theorem LJ:RT X (unaryOp .USub) (rU fun i=>.int (-i)):=T4 fun _ _ _ _ _ q=>neg_int q
theorem LK:RT X (unaryOp .Invert) (rU fun i=>.int (Builtin.bitNot i)):=T4 fun _ _ _ _ _ q=>invert_int q
end
section
variable{X:Cx}{a b c:Expr}{ta tb tc:TE}{pos:Pos}
theorem DM{af:List (Addr×Obj)}{σ:St}{H:Hp}{s:Shared}{Q:VK}{k k':Bool}(I:bw X af σ H s)(q:Q (.bl k) H)(e:k=k'):EP X af σ Q (.bool k') s:=by
 subst e
 exact⟨.bl k,H,I,rfl,q⟩
theorem O6:k6 X (compareOp .Lt) (Dr fun i j=>.bl (decide (i<j))):=Lw fun _ _ _ _ _ _ _ q=>lt_int q
theorem O7:k6 X (compareOp .Gt) (Dr fun i j=>.bl (decide (j<i))):=Lw fun _ _ _ _ _ _ _ q=>gt_int q
theorem O8:k6 X (compareOp .GtE) (Dr fun i j=>.bl (decide (j<=i))):=Lw fun _ _ _ _ _ _ _ q=>ge_int q
theorem B8:k6 X (compareOp .In) (fun x y H Q=>∃i j,x=.str i/\y=.str j/\Q (.bl (!(Builtin.Str.occurrences j i 0 j.length 1).isEmpty)) H):=by
 intro af s σ H x y v u Q I rx ry h
 obtain⟨i,j,rfl,rfl,q⟩:=h
 obtain⟨t,rfl⟩:=rx
 obtain⟨t',rfl⟩:=ry
 exact in_str (DM I q rfl)
theorem vx:k6 X (compareOp .NotIn) (fun x y H Q=>∃i j,x=.str i/\y=.str j/\Q (.bl (!(!(Builtin.Str.occurrences j i 0 j.length 1).isEmpty))) H):=by
 intro af s σ H x y v u Q I rx ry h
 obtain⟨i,j,rfl,rfl,q⟩:=h
 obtain⟨t,rfl⟩:=rx
 obtain⟨t',rfl⟩:=ry
 exact notIn_str (DM I q rfl)
theorem k6.or{f:Value->Value->Sem Value}{r r':R2}(h:k6 X f r)(h':k6 X f r'):k6 X f (fun x y H Q=>r x y H Q\/r' x y H Q):=by
 intro af s σ H x y v u Q I rx ry q
 rcases q with q|q
 ·exact h af s σ H x y v u Q I rx ry q
 ·exact h' af s σ H x y v u Q I rx ry q
theorem DN(b:Expr){op:CmpOp}(h:op≠.In:=by decide)(h2:op≠.NotIn:=by decide):behindInMarks op b=false:=by
 have e1:(op==CmpOp.In)=false:=by cases op<;>first|rfl|exact absurd rfl h
 have e2:(op==CmpOp.NotIn)=false:=by cases op<;>first|rfl|exact absurd rfl h2
 cases b<;>simp[behindInMarks,e1,e2]
theorem Hz{op:CmpOp}{r:R2}(ho:k6 X (compareOp op) r)(ha:PE X a ta)(hb:PE X b tb)(hm:behindInMarks op b=false):PE X (.Compare a [op] [b] pos) (OZ r ta tb):=by
 intro af s σ H Q I h
 exact wpAny_Compare1 (Lv ha hb I h fun v u s2 x y H2 I2 rx ry q=>ho af s2 σ H2 x y v u Q I2 rx ry q) hm
def O9(t:TE):TT:=fun σ H Q=>t σ H fun x H'=>∃k,x=.bl k/\Q k H'
theorem HA{op:CmpOp}{r:R2}(ho:k6 X (compareOp op) r)(ha:PE X a ta)(hb:PE X b tb)(hm:behindInMarks op b=false):PT X (.Compare a [op] [b] pos) (O9 (OZ r ta tb)):=by
 intro af s σ H Q I h
 refine nC (gE (ha af s σ H _ I h) fun v s1 ⟨x,H1,I1,r1,q1⟩=>gE (hb af s1 σ H1 _ I1 q1) fun u s2 ⟨y,H2,I2,r2,q2⟩=>
  gE (ho af s2 σ H2 x y v u _ I2 r1 r2 q2) fun c s3 ⟨z,H3,I3,r3,k,e,q3⟩=>?_) hm
 subst e
 cases r3
 exact eL ⟨H3,I3,q3⟩
theorem sA:(sizeLine:Nat)<2^63:=by rw[kO];decide
theorem zw:k6 X (binaryOp .Add) (fun x y H Q=>∃i j,x=.str i/\y=.str j/\i.length+j.length<=sizeLine/\Q (.str (i++j)) H):=by
 intro af s σ H x y v u Q I rx ry h
 obtain⟨i,j,rfl,rfl,hz,q⟩:=h
 obtain⟨t,rfl⟩:=rx
 obtain⟨t',rfl⟩:=ry
 exact add_str (fun t' tk=>⟨.str (i++j),H,I.tok _,⟨_,rfl⟩,q⟩) hz
theorem oM{x:V}{us:List Value}(r:cw [x] us):∃u,us=[u]/\cB x u:=by
 cases r with
 |cons r1 r2=>cases r2;exact⟨_,rfl,r1⟩
theorem Jy{x y:V}{us:List Value}(r:cw [x,y] us):∃u w',us=[u,w']/\cB x u/\cB y w':=by
 cases r with
 |cons r1 r2=>
  cases r2 with
  |cons r3 r4=>cases r4;exact⟨_,_,rfl,r1,r3⟩
theorem B9(hc:X.calm=true):hV X (.builtin "max") (fun xs H Q=>∃i j,xs=[.int i,.int j]/\Q (.int (if j>i then j else i)) H):=by
 intro af s σ H xs us Q I r h
 obtain⟨i,j,rfl,q⟩:=h
 obtain⟨u,w',rfl,⟨t,rfl⟩,⟨t',rfl⟩⟩:=Jy r
 refine max_two_ints (I.ok.hd hc) fun h' tk k=>⟨_,H,I.kept k,?_,q⟩
 by_cases hj:j>i
 ·rw[aq hj,aq hj];exact⟨_,rfl⟩
 ·rw[ax hj,ax hj];exact⟨_,rfl⟩
theorem B_(hc:X.calm=true):hV X (.builtin "min") (fun xs H Q=>∃i j,xs=[.int i,.int j]/\Q (.int (if j<i then j else i)) H):=by
 intro af s σ H xs us Q I r h
 obtain⟨i,j,rfl,q⟩:=h
 obtain⟨u,w',rfl,⟨t,rfl⟩,⟨t',rfl⟩⟩:=Jy r
 refine min_two_ints (I.ok.hd hc) fun h' tk k=>⟨_,H,I.kept k,?_,q⟩
 by_cases hj:j<i
 ·rw[aq hj,aq hj];exact⟨_,rfl⟩
 ·rw[ax hj,ax hj];exact⟨_,rfl⟩
theorem ux:hV X (.type "int") (fun xs H Q=>(∃i,xs=[.int i]/\Q (.int i) H)\/∃k,xs=[.bl k]/\Q (.int (if k then 1 else 0)) H):=by
 intro af s σ H xs us Q I r h
 rcases h with⟨i,rfl,q⟩|⟨k,rfl,q⟩
 ·obtain⟨u,rfl,t,rfl⟩:=oM r
  exact call_int_int ⟨.int i,H,I,⟨_,rfl⟩,q⟩
 ·obtain⟨u,rfl,r1⟩:=oM r
  cases r1
  exact call_int_bool ⟨.int (if k then 1 else 0),H,I.tok _,⟨_,rfl⟩,q⟩
end
structure LM(h:Heap)(x dx C:Addr)(mA:Str->Option Value):Prop where
 obj:h.get? x=some (instObj C dx)
 ns:h.Ns1 dx mA
 ne:dx≠x
theorem B'{h:Heap}{dx:Addr}{mA:Str->Option Value}(n:h.Ns1 dx mA):∃od,h.get? dx=some od/\∀name,PySem.W.lookIn name od=some (mA name):=by
 obtain⟨o,es,ep,ho,hd,hk,_,hm⟩:=n
 refine⟨o,ho,fun name=>?_⟩
 have e:=hm name
 unfold nsFind findBy at e
 rw[<- Array.find?_toList]at e
 unfold PySem.W.lookIn
 rw[hd]
 dsimp only
 split
 ·rename_i y q
  rw[q]at e
  exact cM some e
 ·rename_i q
  rw[q]at e
  have a:es.toList.any (·.refKey)=false:=by
   rw[kP]
   intro y hy
   obtain⟨z,t,hkey⟩:=hk y (Array.mem_toList_iff.mp hy)
   simp[DictEntry.refKey,hkey]
  have a':¬ es.toList.any (·.refKey)=true:=by rw[a];exact c6
  rw[ax a']
  exact cM some e
theorem LM.look{h:Heap}{x dx C:Addr}{mA:Str->Option Value}(I:LM h x dx C mA):∃od,PySem.W.InstAt h x (instObj C dx) C (some od)/\∀name,PySem.W.lookIn name od=some (mA name):=
 let ⟨od,ho,hl⟩:=B' I.ns
 ⟨od,⟨I.obj,rfl,rfl,ho⟩,hl⟩
section
variable{prog:Program}{w:World}{A:Around}{E:Value->Shared->Prop}{s:Shared}{K:Frag}{x dx C f:Addr}{mA:Str->Option Value}{name:Str}{v:Value}
end
section
variable{P:Program}{w:World}{H H':Hp}{h h':Heap}{a C dx:Addr}{fs TN:List (Str×V)}
theorem HB(hok:kB P w H h)(e:H a=some (.ins C dx fs)):∃mA,LM h a dx C mA/\(∀f,vo (fs.lookup f) (mA f))/\PySem.Within mA (fs.map (·.1))/\fs.length<=1000/\H dx=some (.own a):=by
 obtain⟨d,z,ne,ob,mA,n,r,q⟩:=(show fz P w H h a (.ins C dx fs)from hok a _ e)
 exact⟨mA,⟨ob,n,ne⟩,r,q,z,d⟩
end
structure SC(K:Frag)(C:Addr):Prop where
 pg:PySem.W.plainGet K C Str.empty=true
 hd:PySem.W.hasDictIn K C=true
 po:PySem.W.plainOver K C=true
 sa:PySem.W.findIn K (.ref C) "__setattr__"=some (some (.builtin "object.__setattr__"))
theorem SC.get{K:Frag}{C:Addr}(c:SC K C)(f:Str):PySem.W.plainGet K C f=true:=c.pg
section
variable{X:Cx}{af:List (Addr×Obj)}{σ:St}{H:Hp}{s:Shared}{a C dx:Addr}{fs:List (Str×V)}{f:Str}{v:V}{A:Around}{E:Value->Shared->Prop}
theorem bw.made(I:bw X af σ H s):bw X af σ (eY (eY H s.heap.objs.size (.own (s.heap.objs.size+1))) (s.heap.objs.size+1) (.ins C s.heap.objs.size []))
  { s with heap:=(s.heap.push emptyDict).push (instObj C s.heap.objs.size) }:=by
 have e1:(s.heap.push emptyDict).get? s.heap.objs.size=some emptyDict:=au s.heap rfl
 have e2:((s.heap.push emptyDict).push (instObj C s.heap.objs.size)).get? (s.heap.objs.size+1)=some (instObj C s.heap.objs.size):=by
  have:=au (s.heap.push emptyDict) (o:=instObj C s.heap.objs.size) rfl
  rwa[bY]at this
 have e3:(s.heap.push emptyDict).Ns s.heap.objs.size (fun _=>none):=⟨emptyDict,#[],_,e1,rfl,(fun e he=>absurd he (by simp)),fun _=>rfl⟩
 have I1:=I.laid (a:=s.heap.objs.size) (o:=.own (s.heap.objs.size+1)) (h':=s.heap.push emptyDict) (t':=s.toks) (fun b u q=>ak _ q) (ay _) ⟨_,e1⟩
 refine I1.laid (a:=s.heap.objs.size+1) (o:=.ins C s.heap.objs.size []) (t':=s.toks) (fun b u q=>ak _ q) (Nat.le_of_eq (bY _ _)) ?_
 have ne:s.heap.objs.size≠s.heap.objs.size+1:=ba (dB _)
 refine⟨by rw[cv ne,dR],ca _,ne,e2,fun _=>none,(Heap.Ns1.of_empty e3).at fun o q=>ak _ q,fun _=>True.intro,fun y hy=>absurd rfl hy⟩
end
section
variable{X:Cx}{o e value:Expr}{f:Str}{pos iF TU:Pos}{ta tv:TE}
end
section
variable{X:Cx}{af:List (Addr×Obj)}{σ:St}{H:Hp}{s:Shared}{A:Around}{E:Value->Shared->Prop}{Q:Value->Shared->Prop}{c:Value}{b:Bool}
inductive rK(K:Frag)(H:Hp):V->Value->Prop where
 |non:rK K H .non (.type "NoneType")
 |bl (x:Bool):rK K H (.bl x) (.type "bool")
 |int (i:Int):rK K H (.int i) (.type "int")
 |str (x:Str):rK K H (.str x) (.type "str")
 |flt (x:UInt64):rK K H (.flt x) (.type "float")
 |lst {a:Addr} {xs:List V} (e:H a=some (.lst xs)):rK K H (.ref a) (.type "list")
 |frz {a:Addr} {o:Obj} {xs:List V} (e:H a=some (.frz o (.lst xs))):rK K H (.ref a) (.type "list")
 |tup {a:Addr} {xs:List V} (e:H a=some (.tup xs)):rK K H (.ref a) (.type "tuple")
 |dK {a:Addr} {kvs:List (iy×V)} (e:H a=some (.dK kvs)):rK K H (.ref a) (.type "dict")
 |dT {a:Addr} {kvs:List (List iy×V)} (e:H a=some (.dT kvs)):rK K H (.ref a) (.type "dict")
 |ins {a C dx:Addr} {fs:List (Str×V)} (e:H a=some (.ins C dx fs)) (cl:SC K C) (ha:PySem.W.findIn K (.ref C) "__class__"=some (some (.builtin "object.__class__")))
   (hn:PySem.W.specialIn K (.builtin "object.__class__") "__get__"=some (some (.builtin "getset_descriptor.__get__"))) (Ui:PySem.W.takesIn K (.builtin "object.__class__")=some true)
   (hm:PySem.W.mroIn K C (.type "object")=some true):rK K H (.ref a) (.ref C)
theorem n9{x:V}{u t:Value}(I:bw X af σ H s)(rx:cB x u)(ty:rK X.K H x t)(e:PySem.W.kitOne X.K t c=some b)(h:∀tk,Q (.bool b) { s with toks:=tk }) :
  wpAny (model X.prog X.w) A (call (.builtin "isinstance") [u,c]) Q E s:=by
 cases ty with
 |non=>cases(show u=Value.none from rx);exact kia_one PySem.W.kitx_none I.kIn True.intro e (fun z=>nomatch z) h
 |bl y=>cases(show u=Value.bool y from rx);exact kia_one PySem.W.kitx_bool I.kIn True.intro e (fun z=>nomatch z) h
 |int i=>obtain⟨t,q⟩:=(show ∃t,u=Value.int i t from rx);cases q;exact kia_one PySem.W.kitx_int I.kIn True.intro e (fun z=>nomatch z) h
 |str y=>obtain⟨t,q⟩:=(show ∃t,u=Value.str y t from rx);cases q;exact kia_one PySem.W.kitx_str I.kIn True.intro e (fun z=>nomatch z) h
 |flt y=>obtain⟨t,q⟩:=(show ∃t,u=Value.float y t from rx);cases q;exact kia_one PySem.W.kitx_float I.kIn True.intro e (fun z=>nomatch z) h
 |@lst a xs ea=>
  cases(show u=Value.ref a from rx)
  obtain⟨_,_,n,_,h1⟩:=(show fz X.prog X.w H s.heap a (.lst xs)from I.hok a _ ea)
  exact kia_one PySem.W.kitx_list I.kIn ⟨_,h1,rfl⟩ e (fun z=>nomatch z) h
 |@frz a ob xs ea=>
  cases(show u=Value.ref a from rx)
  obtain⟨_,_,_,n,_,h1⟩:=(show fz X.prog X.w H s.heap a (.frz ob (.lst xs))from I.hok a _ ea)
  exact kia_one PySem.W.kitx_list I.kIn ⟨_,h1,rfl⟩ e (fun z=>nomatch z) h
 |@tup a xs ea=>
  cases(show u=Value.ref a from rx)
  obtain⟨_,_,_,p⟩:=(show fz X.prog X.w H s.heap a (.tup xs)from I.hok a _ ea)
  obtain⟨o,h1,h2,_⟩:=p
  exact kia_one PySem.W.kitx_tuple I.kIn ⟨o,h1,h2⟩ e (fun z=>nomatch z) h
 |@dK a kvs ea=>
  cases(show u=Value.ref a from rx)
  obtain⟨_,_,vs,_,p⟩:=(show fz X.prog X.w H s.heap a (.dK kvs)from I.hok a _ ea)
  obtain⟨o,es,ep,h1,h2,_⟩:=p
  exact kia_one PySem.W.kitx_dict I.kIn ⟨o,h1,h2.1⟩ e (fun z=>nomatch z) h
 |@dT a kvs ea=>
  cases(show u=Value.ref a from rx)
  obtain⟨_,_,xs,_,o,es,ep,h1,h2,_⟩:=(show fz X.prog X.w H s.heap a (.dT kvs)from I.hok a _ ea)
  exact kia_one PySem.W.kitx_dict I.kIn ⟨o,h1,h2.1⟩ e (fun z=>nomatch z) h
 |@ins a C dx fs ea cl ha hn Ui hm=>
  cases(show u=Value.ref a from rx)
  obtain⟨mA,O,_⟩:=HB I.hok ea
  obtain⟨od,J,_⟩:=O.look
  exact kia_one (PySem.W.kitx_own (cl.get _) cl.hd ha hn Ui hm) I.kIn J e (fun z=>nomatch z) h
end
structure gB(k:Nat)(A:Around):Prop where
 hd:A.handled=none
 dp:A.depth+2*k+5<recursionLimit
 un:A.units+16*k+200<cLine
theorem gB.mono{j k:Nat}{A:Around}(r:gB k A)(h:j<=k):gB j A:=⟨r.hd,by have:=r.dp;omega,by have:=r.un;omega⟩
theorem gB.deeper{k:Nat}{A:Around}(r:gB (k+1) A)(env:Env):gB k (A.deeper env):=
 ⟨r.hd,by have:=r.dp;show A.depth+1+2*k+5<_;omega,by have:=r.un;show A.units+3+16*k+200<_;omega⟩
theorem gB.in1{k:Nat}{A:Around}(r:gB (k+1) A):gB k A.in1:=
 ⟨r.hd,by have:=r.dp;show A.depth+2*k+5<_;omega,by have:=r.un;show A.units+1+16*k+200<_;omega⟩
theorem gB.depth{k:Nat}{A:Around}(r:gB k A):A.depth<recursionLimit:=by have:=r.dp;omega
theorem gB.units{k:Nat}{A:Around}(r:gB k A):A.units+64<cLine:=by have:=r.un;omega
def SD:TA:=fun _ H Q=>Q [] H
def O_(ta:TE)(tr:TA):TA:=fun σ H Q=>ta σ H fun x H1=>tr σ H1 fun xs H2=>Q (x::xs) H2
section
variable{X:Cx}{e:Expr}{es:List Expr}{te:TE}{t:TA}{pos:Pos}
theorem zx:PA X [] SD:=fun _ _ _ _ H Q I h=>iG ⟨[],H,I,.nil,h⟩
theorem rZ(ha:PE X e te)(hr:PA X es t)(hs:starEach (e::es) X.env=(false,eval e X.env)::starEach es X.env:=by rfl):PA X (e::es) (O_ te t):=by
 intro pos af s σ H Q I h
 rw[hs]
 show wpAny _ _ (spliced ((false,eval e X.env)::backTo pos (starEach es X.env))) _ _ s
 refine gg (gE (ha af s σ H _ I h) fun u s1 ⟨x,H1,I1,r1,q1⟩=>?_)
 exact gE (hr pos af s1 σ H1 _ I1 q1) fun us s2 ⟨xs,H2,I2,r2,q2⟩=>⟨x::xs,H2,I2,.cons r1 r2,q2⟩
end
abbrev Sp:=List V->Hp->VK->XK->Prop
abbrev zo:=List Env->Hp->Shared->XK->Value->Shared->Prop
structure rL(P:Program)(w:World)(K:Frag)(mg:Str->Option Value)(base:Heap)(A:Around)(outer:List Env)(s:Shared)(H:Hp):Prop where
 frames:A.frames=some outer
 mod:Mod K mg base
 bs:∀b o,base.get? b=some o->s.heap.get? b=some o/\H b=none
 bsz:base.objs.size<=s.heap.objs.size
 funs:s.heap.FunFrames base outer
 frf:∀b∈sw outer,H b=none
 hok:kB P w H s.heap
 bare:AllBare s.gens
def CE(outer:List Env)(P:Program)(w:World)(H:Hp)(s:Shared)(Q:VK)(u:Value)(s':Shared):Prop:=
 ∃v H',s'.os=s.os/\AllBare s'.gens/\Un (sw outer) [] H H' s.heap s'.heap/\kB P w H' s'.heap/\cB v u/\Q v H'
def CR(CX:zo)(outer:List Env)(P:Program)(w:World)(H:Hp)(s:Shared)(Q:VK)(E:XK)(r:Result)(s':Shared):Prop:=
 match r with
 |.ok (.ret u)=>CE outer P w H s Q u s'
 |.ok _=>False
 |.error e=>CX outer H s E e s'
structure dE(P:Program)(w:World)(K:Frag)(mg:Str->Option Value)(base:Heap)(CX:zo)(k:Nat)(f:Addr)(fd:FuncData)(ps:List Str)(sp:Sp):Prop where
 len:∀vs H Q E,sp vs H Q E->vs.length=ps.length
 run:∀(A:Around) (outer:List Env) (s:Shared) (H:Hp) (args:Args) (us:List Value) (vs:List V) (Q:VK) (E:XK),gB k A->rL P w K mg base A outer s H->BindsTo s fd args (ps.zip us)->cw vs us->sp vs H Q E ->
  codeAny (model P w) A (.call (.ref f) args) (CR CX outer P w H s Q E) s
theorem dE.mono{P:Program}{w:World}{K:Frag}{mg:Str->Option Value}{base:Heap}{CX:zo}{j k:Nat}{f:Addr}{fd:FuncData}{ps:List Str}{sp:Sp}(F:dE P w K mg base CX j f fd ps sp)(h:j<=k) :
  dE P w K mg base CX k f fd ps sp:=⟨F.len,fun A outer s H args us vs Q E hr=>F.run A outer s H args us vs Q E (hr.mono h)⟩
theorem dE.imp{P:Program}{w:World}{K:Frag}{mg:Str->Option Value}{base:Heap}{CX:zo}{k:Nat}{f:Addr}{fd:FuncData}{ps:List Str}{sp Uk:Sp}(F:dE P w K mg base CX k f fd ps sp)
  (h:∀vs H Q E,Uk vs H Q E->sp vs H Q E):dE P w K mg base CX k f fd ps Uk:=
 ⟨fun vs H Q E q=>F.len vs H Q E (h _ _ _ _ q),fun A outer s H args us vs Q E hr he hb hv hs=>F.run A outer s H args us vs Q E hr he hb hv (h _ _ _ _ hs)⟩
theorem rL.in1{P:Program}{w:World}{K:Frag}{mg:Str->Option Value}{base:Heap}{A:Around}{outer:List Env}{s:Shared}{H:Hp}(e:rL P w K mg base A outer s H) :
  rL P w K mg base A.in1 outer s H:=⟨e.frames,e.mod,e.bs,e.bsz,e.funs,e.frf,e.hok,e.bare⟩
section
variable{X:Cx}{af:List (Addr×Obj)}{σ:St}{H:Hp}{s s':Shared}
theorem bw.env0(I:bw X af σ H s):rL X.prog X.w X.K X.mg X.base X.A X.stack s H:=
 ⟨I.ok.frames,I.ok.mod,I.bs,bh I.ok.bsz I.sz,I.stack,I.stkFree,I.hok,I.bare⟩
theorem bw.after{Q:VK}{u:Value}(I:bw X af σ H s)(h:CE X.stack X.prog X.w H s Q u s'):EP X af σ Q u s':=by
 obtain⟨v,H',os,bare,un,hok,r,q⟩:=h
 obtain⟨hh,g,d,t,os'⟩:=s'
 obtain rfl:os'=s.os:=os
 exact⟨v,H',I.call (h':=hh) (g':=g) (d':=d) (t':=t) (ch:=[]) un hok bare (fun b z=>absurd z (by simp)),r,q⟩
end
def sB(K:Frag)(fd:FuncData)(ps:List Str)(ds:List Value):Prop:=
 ∀(s:Shared) (us:List Value),K.In s.heap->(us++ds).length=ps.length->BindsTo s fd ⟨us,[]⟩ (ps.zip (us++ds))
theorem sB.all{K:Frag}{fd:FuncData}{ps:List Str}(h:∀us:List Value,us.length=ps.length->bindArgs fd ⟨us,[]⟩=pure (ps.zip us)):sB K fd ps []:=fun s us _ hl=>by
 rw[cI]at hl ⊢
 exact .of_eq (h us hl)
section
variable{X:Cx}{CX:zo}{k:Nat}{f C:Addr}{fd:FuncData}{ps:List Str}{sp:Sp}{UT:List V}{ds:List Value}{E:XK}{x m:Str}{p pos gW:Pos}{e o:Expr}{es:List Expr}{ta:TE}{t:TA}
end
def PK(X:Cx)(Uj:List Keyword)(t:TA):Prop:=
 ∀(pos:Pos) (af:List (Addr×Obj)) (s:Shared) (σ:St) (H:Hp) (Q:List V->Hp->Prop),bw X af σ H s->t σ H Q->wpAny (model X.prog X.w) X.A (evalAll ((backToKw pos (keywordEach Uj X.env)).map (·.2))) (AP X af σ Q) X.xe s
section
variable{X:Cx}{CX:zo}{k:Nat}{f C:Addr}{fd:FuncData}{ps ks:List Str}{sp:Sp}{E:XK}{x m:Str}{p pos gW TQ:Pos}{e o:Expr}{es:List Expr}{Uj:List Keyword}{te ta:TE}{t tk:TA}{nm:Option Str}
variable{g:List Value->List Value->List Value}{gV:List V->List V->List V}
end
structure bn(N P:List Str)(sc:Scope):Prop where
 kind:sc.kind=.function
 co:sc.isCoroutine=false
 gen:sc.isGenerator=false
 nd:N.Nodup
 pre:N.take P.length=P
 par:∀x∈P,sc.names.lookup x=some .local\/sc.names.lookup x=some .cell
 nofree:∀y∈sc.names,y.2≠.free
theorem uy{kindOf:Str->Option NameKind}{x:Str}:∀{binds:List (Str×Value)} {m:Str->Option Value},(∀v,(x,v)∉binds)->bindL kindOf binds m x=m x
 |[],_,_=>rfl
 |(n,v)::r,m,h=>by
  unfold bindL
  rw[uy fun w hw=>h w (aH _ hw)]
  split
  ·have:x≠n:=by rintro rfl;exact h v a7
   simp[this]
  ·rfl
theorem uz{kindOf:Str->Option NameKind}{x:Str}:∀{binds:List (Str×Value)} {m:Str->Option Value},(∀v,(x,v)∉binds)->bindC kindOf binds m x=m x
 |[],_,_=>rfl
 |(n,v)::r,m,h=>by
  unfold bindC
  rw[uz fun w hw=>h w (aH _ hw)]
  split
  ·rfl
  ·have:x≠n:=by rintro rfl;exact h v a7
   simp[this]
theorem uA{kindOf:Str->Option NameKind}{x:Str}{v:Value}:∀{P:List Str} {vs:List Value} {i:Nat} {m:Str->Option Value},P.Nodup->P[i]?=some x->vs[i]?=some v->kindOf x=some .local ->
  bindL kindOf (P.zip vs) m x=some v
 |[],_,_,_,_,h,_,_=>by simp at h
 |_::_,[],_,_,_,_,h,_=>by simp at h
 |p::P,w::vs,0,m,nd,h1,h2,hk=>by
  simp at h1 h2;subst h1;subst h2
  show bindL kindOf ((p,w)::P.zip vs) m p=_
  unfold bindL
  rw[uy fun v hv=>(bP.mp nd).1 (jF hv).1,aq hk]
  simp
 |p::P,w::vs,i+1,m,nd,h1,h2,hk=>by
  show bindL kindOf ((p,w)::P.zip vs) m x=_
  unfold bindL
  exact uA (i:=i) (bP.mp nd).2 (by simpa using h1) (by simpa using h2) hk
theorem uB{kindOf:Str->Option NameKind}{x:Str}{v:Value}:∀{P:List Str} {vs:List Value} {i:Nat} {m:Str->Option Value},P.Nodup->P[i]?=some x->vs[i]?=some v->kindOf x≠some .local ->
  bindC kindOf (P.zip vs) m x=some v
 |[],_,_,_,_,h,_,_=>by simp at h
 |_::_,[],_,_,_,_,h,_=>by simp at h
 |p::P,w::vs,0,m,nd,h1,h2,hk=>by
  simp at h1 h2;subst h1;subst h2
  show bindC kindOf ((p,w)::P.zip vs) m p=_
  unfold bindC
  rw[uz fun v hv=>(bP.mp nd).1 (jF hv).1,ax hk]
  simp
 |p::P,w::vs,i+1,m,nd,h1,h2,hk=>by
  show bindC kindOf ((p,w)::P.zip vs) m x=_
  unfold bindC
  exact uB (i:=i) (bP.mp nd).2 (by simpa using h1) (by simpa using h2) hk
def jd(N:List Str)(vs:List V):St:=vs.map some++List.replicate (N.length-vs.length) none
def wX(CX:zo)(P:Program)(w:World)(K:Frag)(mg:Str->Option Value)(base:Heap)(N:List Str)(dJ:Str)(scope:Scope)(f:Addr)(cd:Value)(A:Around)(outer:List Env)(s:Shared)(H:Hp)(E:XK):Cx where
 prog:=P
 w:=w
 K:=K
 mg:=mg
 base:=base
 A:=A.deeper (envOfC dJ scope s.heap.objs.size f cd)
 N:=N
 s₀:=s
 H₀:=H
 env:=envOfC dJ scope s.heap.objs.size f cd
 outer:=outer
 stack:=envOfC dJ scope s.heap.objs.size f cd::outer
 ex:=[]
 calm:=true
 fn:=fun _=>true
 pn:=[]
 xe:=fun e s'=>wpAny (model P w) (A.deeper (envOfC dJ scope s.heap.objs.size f cd)) (leaving (envOfC dJ scope s.heap.objs.size f cd) e) (fun _ s''=>CX outer H s E e s'') (fun e' s''=>CX outer H s E e' s'') s'
theorem lF{sc:Scope}{n:Nat}{x:Str}(h:sc.names.lookup x=some .cell):∃c,(cellsFrom n sc.names []).lookup x=some c:=by
 have q:=PySem.W.cellsFrom_some sc.names n [] (.inl h)
 exact Option.isSome_iff_exists.mp q
theorem Ca{CX:zo}{P:Program}{w:World}{K:Frag}{mg:Str->Option Value}{base:Heap}{N ps:List Str}{dJ:Str}{scope:Scope}{f:Addr}{cd:Value}{A:Around}{outer:List Env}{s s1:Shared}{H:Hp}{E:XK}{us:List Value}{vs:List V}
  (S:bn N ps scope) (hd:A.handled=none) (e0:rL P w K mg base A outer s H) (hl:vs.length=ps.length) (r:cw vs us)
  (x:InCallC s s.heap.objs.size (bindL (envOfC dJ scope s.heap.objs.size f cd).kindOf (ps.zip us) fun _=>none) (cellsFrom (s.heap.objs.size+1) scope.names []) (bindC (envOfC dJ scope s.heap.objs.size f cd).kindOf (ps.zip us) fun _=>none) s1) :
  bw (wX CX P w K mg base N dJ scope f cd A outer s H E) [] (jd N vs) H s1:=by
 have lq:ps.length<=N.length:=by have:=cM List.length S.pre;rw[aV]at this;omega
 obtain⟨h1,tk,rfl,hk⟩:=x.done
 have noA:∀b:Addr,b∉(wX CX P w K mg base N dJ scope f cd A outer s H E).ex:=fun b z=>absurd (show b∈([]:List Addr)from z) (by simp)
 refine⟨⟨e0.mod,S.kind,rfl,rfl,ay _,fun y z c h1 h2=>?_,fun y hy=>?_,fun y c _ h=>?_,fun _=>hd,Around.frames_deeper e0.frames,.inr ⟨rfl,rfl⟩,fun b z=>absurd z (noA b),e0.bs,e0.bsz,fun b _ _=>noA b,fun b z=>absurd z (noA b),e0.funs,e0.frf⟩,
  rfl,e0.bare,Un.kept hk,⟨_,x.toInCall.ns,fun i y v h1 h2 h3=>?_⟩,fun y c h=>⟨_,x.cell y c h⟩,e0.hok.fresh (ay _),fun y c h=>?_,fun p hp=>absurd (show p∈([]:List (Addr×Obj))from hp) (by simp),e0.hok.kept hk,?_⟩
 ·exact name_of_addr x.apart (PySem.mem_of_lookup h1) (PySem.mem_of_lookup h2)
 ·have hy:scope.names.lookup y=some .cell\/scope.names.lookup y=some .free:=hy
  rcases hy with hy|hy
  ·exact lF hy
  ·exact absurd rfl (S.nofree _ (PySem.mem_of_lookup hy))
 ·exact gf (x.above y c (PySem.mem_of_lookup h))
 ·have hi:i<vs.length:=by
   unfold jd at h2
   by_cases hi:i<vs.length
   ·exact hi
   ·rw[bZ (by simpa using hi)]at h2
    rw[iw]at h2
    split at h2<;>cases h2
  have ha:vs[i]?=some v:=by
   unfold jd at h2
   rw[aW (by simpa using hi),aD]at h2
   cases e:vs[i]? with
   |none=>rw[e]at h2;cases h2
   |some a=>rw[e]at h2;cases h2;rfl
  obtain⟨u,hu,rv⟩:=r.get ha
  have hp:ps[i]?=some y:=by
   rw[<- S.pre,bv (by omega)];exact h1
  have ndP:ps.Nodup:=by rw[<- S.pre];exact S.nd.sublist (kQ _ _)
  refine⟨u,rv,?_⟩
  rcases S.par y (aY hp)with k|k
  ·exact .inl ⟨k,uA ndP hp hu k⟩
  ·obtain⟨c,e⟩:=lF (n:=s.heap.objs.size+1) k
   refine .inr ⟨.inl k,c,e,?_⟩
   have q:=x.cell y c e
   rw[uB ndP hp hu (by show scope.names.lookup y≠_;rw[k];decide)]at q
   exact q
 ·exact e0.hok.fresh (gf (x.above y c (PySem.mem_of_lookup h)))
 ·unfold jd
  show _=N.length
  rw[aL,ar,nD]
  omega
theorem Jz{CX:zo}{P:Program}{w:World}{K:Frag}{mg:Str->Option Value}{base:Heap}{k:Nat}{f:Addr}{name dJ:Str}{params:Arguments}{body:List Stmt}{scope:Scope}{dV kV i9 pm fT ct oc:Value}{an od:Option Addr}
  {Jo:Array (Option Value)} {N ps:List Str} {sp:Sp} (lk:K.lookup f=some ⟨oc,od,.func (fnOf name dJ params body scope dV kV i9 pm an fT ct),Jo⟩) (pL:codeIn K fT dJ=true) (S:bn N ps scope)
  (len:∀vs H Q E,sp vs H Q E->vs.length=ps.length)
  (qm:∀(A:Around) (outer:List Env) (s:Shared) (H:Hp) (vs:List V) (Q:VK) (E:XK),gB k (A.deeper (envOfC dJ scope s.heap.objs.size f fT))->sp vs H Q E ->
   ∃t,wU (wX CX P w K mg base N dJ scope f fT A outer s H E) body t/\t { nx:=fun _ H'=>Q .non H',rt:=Q } (jd N vs) H) :
  dE P w K mg base CX (k+1) f (fnOf name dJ params body scope dV kV i9 pm an fT ct) ps sp:=by
 refine⟨len,fun A outer s H args us vs Q E hr e0 hb r He=>?_⟩
 have hl:=len _ _ _ _ He
 have KX:K.In s.heap:=e0.mod.kin.keeps fun b o e=>(e0.bs b o e).1
 have lim:s.heap.NoLimit:=e0.mod.nolimit.keeps fun b o e=>(e0.bs b o e).1
 have jn:∀y∈ps.zip us,scope.names.lookup y.1=some .local\/(scope.names.lookup y.1=some .cell/\((cellsFrom (s.heap.objs.size+1) scope.names []).lookup y.1).isSome=true):=fun⟨n,v⟩ hy=>by
  rcases S.par n (jF hy).1 with q|q
  ·exact .inl q
  ·exact .inr ⟨q,PySem.W.cellsFrom_some _ _ _ (.inl q)⟩
 refine codeAny_call_function hr.depth (KX _ _ lk) rfl S.co S.gen rfl (PySem.W.codeRec_of KX pL) (hb _ _ _ _ ?_)
 refine wpAny_newFunctionEnv_cells S.kind jn fun env he s1 x=>?_
 subst he
 refine⟨lim.keeps x.toInCall.keep,codeAny_func ?_⟩
 obtain⟨t,ht,hq⟩:=qm A outer s H vs Q E (hr.deeper _) He
 have I:bw (wX CX P w K mg base N dJ scope f fT A outer s H E) [] (jd N vs) H s1:=Ca S hr.hd e0 hl r x
 refine dY (ht [] s1 (jd N vs) H _ I hq) (fun fl s' hs=>?_) fun e s' hs=>hs
 have lE:∀{σ':St} {H':Hp} {v:V} {u:Value},bw (wX CX P w K mg base N dJ scope f fT A outer s H E) [] σ' H' s'->cB v u->Q v H'->CE outer P w H s Q u s':=
  fun{σ' H' v u} J rv q=>⟨v,H',J.os,J.bare,J.base,J.hok,rv,q⟩
 cases fl with
 |ret u=>
  obtain⟨v,σ',H',J,rv,q⟩:=hs
  exact lE J rv q
 |next=>
  obtain⟨σ',H',J,q⟩:=hs
  exact lE (v:=V.non) (u:=Value.none) J rfl q
 |brk=>
  obtain⟨_,_,_,q⟩:=hs
  exact False.elim q
 |cont=>
  obtain⟨_,_,_,q⟩:=hs
  exact False.elim q
section
variable{X:Cx}{x:Str}{p pos:Pos}{e:Expr}{es:List Expr}{t:TA}{id T:String}{r:List V->Hp->VK->Prop}
def SF(r:List V->Hp->VK->Prop)(t:TA):TE:=fun σ H Q=>t σ H fun vs H1=>r vs H1 Q
theorem wY(hc:hV X (.builtin id) r)(hg:Gl X x)(hm:X.mg x=none)(hv:bootBuiltins x=some (.builtin id))(ha:PA X (e::es) t)(hn:x ≠ "__name__":=by decide)(y8:(x==("__debug__":Str))=false:=by decide)
  (he:starEach (e::es) X.env=(false,eval e X.env)::starEach es X.env:=by rfl) (lq:(backTo pos (starEach es X.env)).any (·.1)=false:=by rfl):PE X (.Call (.Name x p) (e::es) [] pos) (SF r t):=by
 intro af s σ H Q I h
 refine dZ (kZ I hg hm hv ?_ hn y8)
 exact iW (gE (ha pos af s σ H _ I h) fun us s1 ⟨vs,H1,I1,r1,q1⟩=>hc af s1 σ H1 vs us Q I1 r1 q1) he lq
theorem Cb(hc:hV X (.type T) r)(hg:Gl X x)(hm:X.mg x=none)(hv:bootBuiltins x=some (.type T))(ha:PA X (e::es) t)(hn:x ≠ "__name__":=by decide)(y8:(x==("__debug__":Str))=false:=by decide)
  (he:starEach (e::es) X.env=(false,eval e X.env)::starEach es X.env:=by rfl) (lq:(backTo pos (starEach es X.env)).any (·.1)=false:=by rfl):PE X (.Call (.Name x p) (e::es) [] pos) (SF r t):=by
 intro af s σ H Q I h
 refine dZ (kZ I hg hm hv ?_ hn y8)
 exact cA (gE (ha pos af s σ H _ I h) fun us s1 ⟨vs,H1,I1,r1,q1⟩=>hc af s1 σ H1 vs us Q I1 r1 q1) he lq
end
end L2
namespace HT
open PySem PyProof.Rows
section
open PySem.SeqAt
open PySem.AutoSeq1 (wpAny_loadPart')
open PySem.MeetsSeq PySem.MeetsSeq2 PySem.MeetsSeq3
end
section
variable{prog:Program}{w:World}{A:Around}{E:Value->Shared->Prop}{s:Shared}
theorem cat_tup{t b:Addr}{vs ws:List Value}{Q:Value->Shared->Prop}(ht:IsTup s.heap t vs.toArray)(hb:IsTup s.heap b ws.toArray)(hv:vs≠[])
  (h1:ws=[]->Q (.ref t) s) (h2:ws≠[]->Q (.ref s.heap.objs.size) { s with heap:=s.heap.push { cls:=.type "tuple",data:=.seq (vs++ws).toArray } })
  (hsz:vs.length+ws.length<=sizeLine):wpAny (model prog w) A (binaryOp .Add (.ref t) (.ref b)) Q E s:=by
 obtain⟨⟨cls,dd,data,sl⟩,ho,hc,n,hd⟩:=id ht
 obtain⟨⟨cls2,dd2,data2,sl2⟩,ho2,hc2,n2,hd2⟩:=id hb
 simp only at hc hd hc2 hd2
 subst hc hd hc2 hd2
 have e:vs.toArray++ws.toArray=(vs++ws).toArray:=by simp
 by_cases hw:ws=[]
 ·exact qo ⟨_,ho,rfl⟩ ⟨_,ho2,rfl⟩ l6 oZ PySem.F.slot_tuple_add PySem.F.entry_tuple_add (PySem.F.args_tuple_add_2 _ _)
   (tuple_addW1 t b vs.toArray ws.toArray n n2 dd dd2 sl sl2 (by simpa using hv) (by simp[hw])) ⟨ho,ho2,h1 hw⟩
 ·refine qo ⟨_,ho,rfl⟩ ⟨_,ho2,rfl⟩ l6 oZ PySem.F.slot_tuple_add PySem.F.entry_tuple_add (PySem.F.args_tuple_add_2 _ _)
   (tuple_addW2 t b vs.toArray ws.toArray n n2 dd dd2 sl sl2 (by simpa using hv) (by simpa using hw) (by rw[aZ,aZ];exact hsz)) ⟨ho,ho2,?_⟩
  rw[e]
  exact h2 hw
def sIx(n d:Nat):Option Int->Nat
 |none=>d
 |some v=>if v<0 then(v+(n:Int)).toNat else min v.toNat n
theorem sIx_none(n d:Nat):sIx n d none=d:=rfl
theorem sIx_nat(n d k:Nat):sIx n d (some (k:Int))=min k n:=by
 show(if (k:Int)<0 then((k:Int)+(n:Int)).toNat else min (k:Int).toNat n)=min k n
 rw[ax (by omega),aO]
theorem sIx_le(n d:Nat)(hd:d<=n)(o:Option Int):sIx n d o<=n:=by
 cases o with
 |none=>exact hd
 |some v=>
  show(if v<0 then(v+(n:Int)).toNat else min v.toNat n)<=n
  by_cases hv:v<0
  ·rw[aq hv];omega
  ·rw[ax hv];exact Nat.min_le_right _ _
theorem A0(v:Int)(n d:Nat):(if v<0 then max (v+(n:Int)) 0 else min v (n:Int))=((sIx n d (some v):Nat):Int):=by
 show(if v<0 then max (v+(n:Int)) 0 else min v (n:Int))=(((if v<0 then(v+(n:Int)).toNat else min v.toNat n):Nat):Int)
 by_cases hv:v<0
 ·simp only[aq hv];omega
 ·simp only[ax hv];omega
theorem zy(lo hi:Option Int)(n:Nat):Builtin.Slice.sliceAdjust lo hi 1 (n:Int)=(((sIx n 0 lo:Nat):Int),((sIx n n hi:Nat):Int)):=by
 have h1:¬ ((1:Int)<0):=by omega
 unfold Builtin.Slice.sliceAdjust
 simp only[h1,f9]
 refine Prod.ext ?_ ?_
 ·cases lo with
  |none=>rfl
  |some v=>exact A0 v n 0
 ·cases hi with
  |none=>rfl
  |some v=>exact A0 v n n
theorem zz(i j:Nat):Builtin.Slice.slicePlaces (i:Int) (j:Int) 1=j-i:=by
 unfold Builtin.Slice.slicePlaces
 have h1:(1:Int)>0:=by omega
 simp only[h1,h_,Int.ediv_one]
 split<;>omega
theorem sD{v:Value}{o:Option Int}{Q:Option Int->Shared->Prop}(p:IsPart v o)(h:Q o s):wpAny (model prog w) A (Builtin.Slice.slicePartIndex v) Q E s:=by
 cases p with
 |none=>exact slicePart_none h
 |int i t=>exact slicePart_int h
theorem sliceApplied_gen{sl:Addr}{vl vu:Value}{lo hi:Option Int}{n:Nat}{Q:Int×Int×Nat->Shared->Prop}(hs:s.heap.IsSliceOf sl vl vu .none)(pl:IsPart vl lo)(pu:IsPart vu hi)
  (h:Q (((sIx n 0 lo:Nat):Int),1,sIx n n hi-sIx n 0 lo) s):wpAny (model prog w) A (Builtin.Slice.sliceApplied (.ref sl) (pure (n:Int))) Q E s:=by
 obtain⟨os,hos,hcs,OD⟩:=id hs
 unfold Builtin.Slice.sliceApplied Builtin.Slice.sliceFields
 refine aa (aa (bS hos OD (x:=vl) rfl (aa (bS hos OD (x:=vu) rfl (aa (bS hos OD (x:=.none) rfl (am ?_)))))))
 refine aa (slicePart_none ?_)
 show wpAny _ _ (if ((1:Int)==0)=true then _ else _) _ _ s
 rw[ax (by decide)]
 refine aa (sD pl (aa (sD pu (aa (am ?_)))))
 show wpAny _ _ (match Builtin.Slice.sliceAdjust lo hi 1 (n:Int)with|(lo,hi)=>pure (lo,(1:Int),Builtin.Slice.slicePlaces lo hi 1)) _ _ s
 rw[zy lo hi n]
 show wpAny _ _ (pure (((sIx n 0 lo:Nat):Int),(1:Int),Builtin.Slice.slicePlaces ((sIx n 0 lo:Nat):Int) ((sIx n n hi:Nat):Int) 1)) _ _ s
 rw[zz]
 exact am h
theorem DO(xs:Array Value)(i k:Nat):((List.range k).filterMap fun(m:Nat)=>xs[((i:Int)+(m:Int)*1).toNat]?).toArray=((xs.toList.drop i).take k).toArray:=by
 have e:(fun(m:Nat)=>xs[((i:Int)+(m:Int)*1).toNat]?)=fun m=>xs[i+m]?:=by
  funext m
  have:((i:Int)+(m:Int)*1).toNat=i+m:=by omega
  rw[this]
 rw[e]
 have:=pick_run xs i k
 rw[List.filterMap_map]at this
 have e2:((fun x=>xs[x]?)∘fun x=>i+x)=fun m=>xs[i+m]?:=rfl
 rw[e2]at this
 rw[this]
theorem getItem_tuple_cut{t sl:Addr}{items:Array Value}{vl vu:Value}{lo hi:Option Int}{Q:Value->Shared->Prop}(ht:IsTup s.heap t items)(hs:s.heap.IsSliceOf sl vl vu .none)(pl:IsPart vl lo)(pu:IsPart vu hi)
  (hw:¬ (sIx items.size 0 lo=0/\sIx items.size items.size hi=items.size))
  (h:Q (.ref s.heap.objs.size) { s with heap:=s.heap.push { cls:=.type "tuple",data:=.seq ((items.toList.drop (sIx items.size 0 lo)).take (sIx items.size items.size hi-sIx items.size 0 lo)).toArray } })
  (hsz:items.size<=sizeLine):wpAny (model prog w) A (getItem (.ref t) (.ref sl)) Q E s:=by
 have htake:sizeOk (.seq ((items.toList.drop (sIx items.size 0 lo)).take (sIx items.size items.size hi-sIx items.size 0 lo)).toArray):=by
  show((items.toList.drop (sIx items.size 0 lo)).take (sIx items.size items.size hi-sIx items.size 0 lo)).toArray.size<=sizeLine
  rw[aZ,aV,f_,dM]
  omega
 have hj:sIx items.size items.size hi<=items.size:=sIx_le _ _ (ay _) hi
 obtain⟨os,hos,hcs,OD⟩:=id hs
 have hTs:s.TypeIs (.ref sl) "slice":=⟨os,hos,hcs⟩
 unfold getItem
 try with_reducible refine du ?_
 first|refine aa (am ?_)|skip
 refine aa (wpAny_sequenceKey ht.typeIs (by decide) ?_)
 refine aa (bc (name:=Str.ofString "__getitem__") ht.typeIs dQ
  (bb dQ ht.typeIs entry_tuple_getitem ?_ (args_tuple_getitem _ _)))
 show wpAny _ _ (Builtin.Tuple.tupleItemsOf (.ref t) >>= _) _ _ s
 refine aa (tupleItemsOf_ ht ?_)
 refine aa (jY hTs ?_)
 rw[aq (by decide)]
 refine aa (sliceApplied_gen hs pl pu ?_)
 have hno:¬ ((((sIx items.size 0 lo:Nat):Int)==0&&(1:Int)==1&&(sIx items.size items.size hi-sIx items.size 0 lo)==items.size)=true):=by
  intro q
  rw[bN,bN]at q
  have q1:((sIx items.size 0 lo:Nat):Int)=0:=j_ q.1.1
  have q2:sIx items.size items.size hi-sIx items.size 0 lo=items.size:=j_ q.2
  exact hw ⟨by omega,by omega⟩
 show wpAny _ _ (if (((sIx items.size 0 lo:Nat):Int)==0&&(1:Int)==1&&(sIx items.size items.size hi-sIx items.size 0 lo)==items.size)=true then _ else _) _ _ s
 rw[ax hno,DO]
 first
  |exact aa (m:=Builtin.Tuple.tupleExact _) (bD (am ⟨_,rfl,am h⟩) htake)
  |exact aa (m:=Builtin.Tuple.tupleExact _) (bD (aa (am (am ⟨_,rfl,am h⟩))) htake)
  |exact aa (aa (m:=Builtin.Tuple.tupleExact _) (bD (am (am ⟨_,rfl,am h⟩)) htake))
  |exact aa (aa (m:=Builtin.Tuple.tupleExact _) (bD (am ⟨_,rfl,am h⟩) htake))
end
end HT
namespace L2
open PySem PySem.Spec PyProof.Rows
abbrev TO:=St->Hp->(Option Int->Hp->Prop)->Prop
def PO(X:Cx)(e:Option Expr)(t:TO):Prop:=
 ∀(af:List (Addr×Obj)) (s:Shared) (σ:St) (H:Hp) (Q:Option Int->Hp->Prop),bw X af σ H s->t σ H Q ->
  wpAny (model X.prog X.w) X.A (evalPart e X.env) (fun u s'=>∃o H',bw X af σ H' s'/\IsPart u o/\Q o H') X.xe s
def HC:TO:=fun _ H Q=>Q none H
def O'(t:TE):TO:=fun σ H Q=>t σ H fun x H1=>∃i,x=.int i/\Q (some i) H1
section
variable{X:Cx}{e:Expr}{te:TE}{lo hi:Option Expr}{tl th:TO}{pos p2:Pos}
theorem HD:PO X none HC:=by
 intro af s σ H Q I h
 rw[evalPart_none]
 exact am ⟨none,H,I,.none,h⟩
theorem HE(h:PE X e te):PO X (some e) (O' te):=by
 intro af s σ H Q I hw
 rw[evalPart_some]
 refine gE (h af s σ H _ I hw) fun u s1 ⟨x,H1,I1,r1,q1⟩=>?_
 obtain⟨i,rfl,q⟩:=q1
 obtain⟨t,rfl⟩:=r1
 exact⟨some i,H1,I1,.int i t,q⟩
def Ds(X:Cx)(r:V->Option Int->Option Int->Hp->VK->Prop):Prop:=
 ∀(af:List (Addr×Obj)) (s:Shared) (σ:St) (H:Hp) (x:V) (v vl vu:Value) (lo hi:Option Int) (sl:Addr) (Q:VK),bw X af σ H s->cB x v->s.heap.IsSliceOf sl vl vu .none->IsPart vl lo->IsPart vu hi->r x lo hi H Q ->
  ∃T id,typeLookup (.type T) "__getitem__"=pure (some (.builtin id))/\s.TypeIs v T/\wpAny (model X.prog X.w) X.A (getItem v (.ref sl)) (EP X af σ Q) X.xe s
theorem Ds.or{r r':V->Option Int->Option Int->Hp->VK->Prop}(h:Ds X r)(h':Ds X r'):Ds X (fun x lo hi H Q=>r x lo hi H Q\/r' x lo hi H Q):=by
 intro af s σ H x v vl vu lo hi sl Q I rx hs pl pu q
 rcases q with q|q
 ·exact h af s σ H x v vl vu lo hi sl Q I rx hs pl pu q
 ·exact h' af s σ H x v vl vu lo hi sl Q I rx hs pl pu q
def Ur(r:V->Option Int->Option Int->Hp->VK->Prop)(te:TE)(tl th:TO):TE:=fun σ H Q=>te σ H fun x H1=>tl σ H1 fun l H2=>th σ H2 fun u H3=>r x l u H3 Q
theorem DP{r:V->Option Int->Option Int->Hp->VK->Prop}(hr:Ds X r)(he:PE X e te)(hl:PO X lo tl)(hu:PO X hi th):PE X (.Subscript e (.Slice lo hi none p2) pos) (Ur r te tl th):=by
 intro af s σ H Q I h
 refine Subscript_ (gE (he af s σ H _ I h) fun v s1 ⟨x,H1,I1,r1,q1⟩=>?_)
 refine wpAny_Slice (gE (hl af s1 σ H1 _ I1 q1) fun vl s2 ⟨l,H2,I2,pl,q2⟩=>gE (hu af s2 σ H2 _ I2 q2) fun vu s3 ⟨u,H3,I3,pu,q3⟩=>?_)
 rw[evalPart_none]
 refine am ?_
 have I4:bw X af σ H3 { s3 with heap:=s3.heap.push { cls:=.type "slice",data:=.fields #[vl,vu,.none] } }:=I3.kept (t':=s3.toks) fun b ob q=>ak _ q
 obtain⟨T,id,hT,ht,hg⟩:=hr af { s3 with heap:=s3.heap.push { cls:=.type "slice",data:=.fields #[vl,vu,.none] } } σ H3 x v vl vu l u s3.heap.objs.size Q I4 r1 (Heap.IsSliceOf.new ..) pl pu q3
 show wpAny (model X.prog X.w) X.A (subscriptTail e (.Slice lo hi none p2) v (.ref s3.heap.objs.size)) (EP X af σ Q) X.xe { s3 with heap:=s3.heap.push { cls:=.type "slice",data:=.fields #[vl,vu,.none] } }
 exact tail_any (ops:=[.ref s3.heap.objs.size,v]) ht hT hg (by with_unfolding_all rfl)
def sE(xs:List V)(lo hi:Option Int):List V:=(xs.drop (HT.sIx xs.length 0 lo)).take (HT.sIx xs.length xs.length hi-HT.sIx xs.length 0 lo)
theorem q9(xs:List V)(lo hi:Option Int):(sE xs lo hi).length<=xs.length:=by
 unfold sE
 rw[aV,f_]
 omega
def SH(K:Frag):V->Option Int->Option Int->Hp->VK->Prop:=fun x lo hi H Q=>∃a xs,x=.ref a/\fQ K H a xs /\
 ¬ (HT.sIx xs.length 0 lo=0/\HT.sIx xs.length xs.length hi=xs.length)/\∀p,H p=none->Q (.ref p) (eY H p (.tup (sE xs lo hi)))
theorem LN:Ds X (SH X.K):=by
 intro af s σ H x v vl vu lo hi sl Q I rx hs pl pu h
 obtain⟨a,xs,rfl,hx,hw,q⟩:=h
 cases rx
 obtain⟨bI,r,ht,hz⟩:=I.tuple hx
 have eR:bI.toArray.size=xs.length:=by rw[aZ];exact r.length.symm
 refine⟨"tuple",_,dQ.lookup,ht.typeIs,?_⟩
 refine HT.getItem_tuple_cut ht hs pl pu (by rw[eR];exact hw) ?_ (by rw[eR];exact hz)
 rw[eR]
 refine⟨.ref s.heap.objs.size,_,I.laid (t':=s.toks) (o:=.tup (sE xs lo hi)) (fun b ob q=>ak _ q) (ay _) ?_,rfl,q _ (I.hok.fresh (ay _))⟩
 exact⟨bh (q9 xs lo hi) hz,_,(r.drop (HT.sIx xs.length 0 lo)).take (HT.sIx xs.length xs.length hi-HT.sIx xs.length 0 lo),IsTup.new _ _⟩
def Pa(K:Frag):R2:=fun x y H Q=>∃a b xs ys,x=.ref a/\y=.ref b/\fQ K H a xs/\fQ K H b ys/\xs≠[]/\xs.length+ys.length<=sizeLine /\
 (ys=[]->Q (.ref a) H)/\(ys≠[]->∀p,H p=none->Q (.ref p) (eY H p (.tup (xs++ys))))
theorem cw.nil_iff{xs:List V}{us:List Value}(r:cw xs us):us=[]↔xs=[]:=by
 cases r with
 |nil=>simp
 |cons _ _=>simp
theorem HF:k6 X (binaryOp .Add) (Pa X.K):=by
 intro af s σ H x y v u Q I rx ry h
 obtain⟨a,b,xs,ys,rfl,rfl,ha,hb,hx,hz,q1,q2⟩:=h
 cases rx
 cases ry
 obtain⟨bI,r1,p1,_⟩:=I.tuple ha
 obtain⟨its2,r2,p2,_⟩:=I.tuple hb
 refine HT.cat_tup p1 p2 (fun z=>hx (r1.nil_iff.mp z)) (fun z=>⟨.ref a,H,I,rfl,q1 (r2.nil_iff.mp z)⟩) (fun z=>?_) (by rw[<- r1.length,<- r2.length];exact hz)
 refine⟨.ref s.heap.objs.size,_,I.laid (t':=s.toks) (o:=.tup (xs++ys)) (fun b ob q=>ak _ q) (ay _) ?_,rfl,q2 (fun w=>z (r2.nil_iff.mpr w)) _ (I.hok.fresh (ay _))⟩
 exact⟨by rw[aL];exact hz,_,r1.append r2,IsTup.new _ _⟩
theorem wZ:hV X (.type "tuple") (fun xs H Q=>∃a ys,xs=[.ref a]/\fQ X.K H a ys/\Q (.ref a) H):=by
 intro af s σ H xs us Q I r h
 obtain⟨a,ys,rfl,ha,q⟩:=h
 obtain⟨u,rfl,ru⟩:=oM r
 cases ru
 obtain⟨bI,_,p1,_⟩:=I.tuple ha
 exact call_tuple_same (items:=bI.toArray) p1 ⟨.ref a,H,I,rfl,q⟩
end
def DQ(n:Nat)(i:Int):Option Nat:=if 0<=i then(if i<n then some i.toNat else none)else if -(n:Int)<=i then some (i+n).toNat else none
def qw{α:Type}(xs:List α)(i:Int):Option α:=(DQ xs.length i).bind fun j=>xs[j]?
theorem HG{n:Nat}{i:Int}{j:Nat}(h:DQ n i=some j):seqIndex? i n=some j/\j<n/\-(n:Int)<=i/\i<n:=by
 unfold DQ at h
 by_cases h0:0<=i
 ·rw[aq h0]at h
  by_cases h1:i<n
  ·rw[aq h1]at h
   have e:i.toNat=j:=aS h
   exact⟨by rw[seqIndex_of h0 h1,e],by omega,by omega,h1⟩
  ·rw[ax h1]at h;cases h
 ·rw[ax h0]at h
  by_cases h1:-(n:Int)<=i
  ·rw[aq h1]at h
   have e:(i+n).toNat=j:=aS h
   exact⟨by rw[seqIndex_neg (by omega) h1,e],by omega,h1,by omega⟩
  ·rw[ax h1]at h;cases h
theorem vy{α:Type}{xs:List α}{i:Int}{v:α}(h:qw xs i=some v):∃j,seqIndex? i xs.length=some j/\xs[j]?=some v/\j<xs.length/\-(xs.length:Int)<=i/\i<xs.length:=by
 unfold qw at h
 cases e:DQ xs.length i with
 |none=>rw[e]at h;cases h
 |some j=>
  rw[e]at h
  obtain⟨h1,h2,h3,h4⟩:=HG e
  exact⟨j,h1,h,h2,h3,h4⟩
def A1(b:Expr):Prop:=∀o i,subscripted b false o i=operate [o,i] (getItem o i)
def G_(X:Cx)(r:R2):Prop:=
 ∀(value slice:Expr) (af:List (Addr×Obj)) (s:Shared) (σ:St) (H:Hp) (x y:V) (v u:Value) (Q:VK),bw X af σ H s->cB x v->cB y u->r x y H Q ->
  subscripted slice false v u=operate [v,u] (getItem v u)->wpAny (model X.prog X.w) X.A (subscriptTail value slice v u) (EP X af σ Q) X.xe s
def w5(X:Cx)(id:String)(r:V->List V->Hp->VK->Prop):Prop:=
 ∀(af:List (Addr×Obj)) (s:Shared) (σ:St) (H:Hp) (x:V) (xs:List V) (v:Value) (us:List Value) (Q:VK),bw X af σ H s->cB x v->cw xs us->r x xs H Q ->
  wpAny (model X.prog X.w) X.A (call (.builtin id) (v::us)) (EP X af σ Q) X.xe s
section
variable{X:Cx}{a b:Expr}{ta tb:TE}{pos:Pos}
theorem G_.or{r r':R2}(h:G_ X r)(h':G_ X r'):G_ X (fun x y H Q=>r x y H Q\/r' x y H Q):=by
 intro value slice af s σ H x y v u Q I rx ry q hs
 rcases q with q|q
 ·exact h value slice af s σ H x y v u Q I rx ry q hs
 ·exact h' value slice af s σ H x y v u Q I rx ry q hs
theorem w5.or{id:String}{r r':V->List V->Hp->VK->Prop}(h:w5 X id r)(h':w5 X id r'):w5 X id (fun x xs H Q=>r x xs H Q\/r' x xs H Q):=by
 intro af s σ H x xs v us Q I rx rs q
 rcases q with q|q
 ·exact h af s σ H x xs v us Q I rx rs q
 ·exact h' af s σ H x xs v us Q I rx rs q
theorem Pc{r:R2}(hr:G_ X r)(ha:PE X a ta)(hb:PE X b tb)(hs:A1 b):PE X (.Subscript a b pos) (OZ r ta tb):=by
 intro af s σ H Q I h
 exact Subscript_ (Lv ha hb I h fun v u s2 x y H2 I2 rx ry q=>hr a b af s2 σ H2 x y v u Q I2 rx ry q (hs _ _))
def Pd(K:Frag):R2:=fun x y H Q=>∃p xs i v,x=.ref p/\y=.int i/\pN K H p xs/\qw xs i=some v/\Q v H
def Pe(K:Frag):R2:=fun x y H Q=>∃p xs i v,x=.ref p/\y=.int i/\fQ K H p xs/\qw xs i=some v/\Q v H
def Pf:R2:=fun x y H Q=>∃z i c,x=.str z/\y=.int i/\z.length<=sizeLine/\qw z.cps.toList i=some c/\Q (.str ⟨#[c]⟩) H
theorem HH:G_ X (Pd X.K):=by
 intro value slice af s σ H x y v u Q I rx ry h hs
 obtain⟨p,xs,i,z,rfl,rfl,hq,he,q⟩:=h
 cases rx
 obtain⟨t,rfl⟩:=ry
 obtain⟨bI,r,pl,hz⟩:=I.list hq
 obtain⟨j,h1,h2,h3,h4,h5⟩:=vy he
 obtain⟨w,ew,lD⟩:=r.get h2
 have hl:=r.length
 have hn:=sA
 have lE:EP X af σ Q w s:=⟨z,H,I,lD,q⟩
 by_cases h0:0<=i
 ·have hj:i.toNat=j:=by
   rw[seqIndex_of h0 h5]at h1
   exact aS h1
  exact item_listR pl.isList h0 (by omega) (by rw[hj];simpa using ew) lE hs
 ·have hj:(i+(bI.toArray.size:Int)).toNat=j:=by
   rw[seqIndex_neg (by omega) h4]at h1
   rw[aZ,<- hl]
   exact aS h1
  exact mS (x:=w) pl.isList.typeIs slot_list_getitem.lookup
   (wpAny_getItem_list_neg (Q:=fun r s'=>r=w/\EP X af σ Q r s') pl.isList (by omega) (by rw[aZ]<;>omega) (by omega) (by rw[hj];simpa using ew) ⟨rfl,lE⟩) hs
theorem LO:G_ X (Pe X.K):=by
 intro value slice af s σ H x y v u Q I rx ry h hs
 obtain⟨p,xs,i,z,rfl,rfl,hq,he,q⟩:=h
 cases rx
 obtain⟨t,rfl⟩:=ry
 obtain⟨bI,r,pl,hz⟩:=I.tuple hq
 obtain⟨j,h1,h2,h3,h4,h5⟩:=vy he
 obtain⟨w,ew,lD⟩:=r.get h2
 have hl:=r.length
 have hn:=sA
 have lE:EP X af σ Q w s:=⟨z,H,I,lD,q⟩
 exact mS (x:=w) pl.typeIs slot_tuple_getitem.lookup
  (getItem_tuple (j:=j) (Q:=fun r s'=>r=w/\EP X af σ Q r s') pl (by omega) (by omega) (by rw[aZ,<- hl];exact h1) (by simpa using ew) ⟨rfl,lE⟩) hs
theorem LP:G_ X Pf:=by
 intro value slice af s σ H x y v u Q I rx ry h hs
 obtain⟨z,i,c,rfl,rfl,hz,he,q⟩:=h
 obtain⟨t,rfl⟩:=rx
 obtain⟨t',rfl⟩:=ry
 obtain⟨j,h1,h2,h3,h4,h5⟩:=vy he
 have hl:z.cps.toList.length=z.length:=by simp[Str.length]
 rw[hl]at h1 h4 h5
 have hn:=sA
 exact tail_any (ii s z t) slot_str_getitem.lookup (getItem_str (c:=c) (by
  have e1:decide (i < -(2^63:Int))=false:=aG (by omega)
  have e2:decide (i≥2^63)=false:=aG (by omega)
  rw[e1,e2,lr]) (by rw[h1];simpa using h2) ⟨.str ⟨#[c]⟩,H,I.tok _,⟨_,rfl⟩,q⟩) hs
def Us(K:Frag):R2:=fun x y H Q=>Pd K x y H Q\/Pe K x y H Q\/Pf x y H Q
theorem LQ:G_ X (Us X.K):=HH.or (LO.or LP)
theorem bw.lst{af:List (Addr×Obj)}{σ:St}{H:Hp}{s:Shared}{p:Addr}{xs:List V}(I:bw X af σ H s)(h:H p=some (.lst xs)) :
  ∃(bI:List Value) (n:Nat),cw xs bI/\s.heap.get? p=some { cls:=.type "list",data:=.seq bI.toArray n }/\xs.length<=sizeLine:=by
 obtain⟨z,bI,n,r,e⟩:=I.hok p _ h
 exact⟨bI,n,r,e,z⟩
theorem vz(lo hi:Option Int)(n:Nat):(sliceBounds lo hi none n).1=((HT.sIx n 0 lo:Nat):Int)/\(sliceBounds lo hi none n).2.1=((HT.sIx n n hi:Nat):Int)/\(sliceBounds lo hi none n).2.2=1:=by
 refine⟨?_,?_,rfl⟩
 ·cases lo with
  |none=>simp[sliceBounds,HT.sIx]
  |some i=>
   simp only[sliceBounds,HT.sIx,Option.getD_none,show(1:Int)>0 by decide,h_]
   by_cases h:i<0
   ·simp only[h,h_]<;>omega
   ·simp only[h,f9]<;>omega
 ·cases hi with
  |none=>simp[sliceBounds,HT.sIx]
  |some i=>
   simp only[sliceBounds,HT.sIx,Option.getD_none,show(1:Int)>0 by decide,h_]
   by_cases h:i<0
   ·simp only[h,h_]<;>omega
   ·simp only[h,f9]<;>omega
theorem t9(bI:List Value)(lo hi:Option Int):slicePick bI.toArray lo hi none=((bI.drop (HT.sIx bI.length 0 lo)).take (HT.sIx bI.length bI.length hi-HT.sIx bI.length 0 lo)).toArray:=by
 obtain⟨h1,h2,h3⟩:=vz lo hi bI.toArray.size
 unfold slicePick
 rw[h1,h2,h3]
 simp only[sliceRange_one,pick_run,aZ]<;>rfl
def SJ(K:Frag):V->Option Int->Option Int->Hp->VK->Prop:=fun x lo hi H Q=>∃a xs,x=.ref a/\pN K H a xs/\∀p,H p=none->Q (.ref p) (eY H p (.lst (sE xs lo hi)))
theorem HI:Ds X (SJ X.K):=by
 intro af s σ H x v vl vu lo hi sl Q I rx hs pl pu h
 obtain⟨a,xs,rfl,hx,q⟩:=h
 cases rx
 obtain⟨bI,r,ht,hz⟩:=I.list hx
 have eR:=r.length
 refine⟨"list",_,slot_list_getitem.lookup,ht.isList.typeIs,?_⟩
 refine wpAny_getItem_list_slice ht.isList hs pl pu .none (by simp) ?_ (by rw[aZ]<;>omega)
 rw[t9,<- eR]
 refine⟨.ref s.heap.objs.size,_,I.laid (t':=s.toks) (o:=.lst (sE xs lo hi)) (fun b ob q=>ak _ q) (ay _) ?_,rfl,q _ (I.hok.fresh (ay _))⟩
 exact⟨bh (q9 xs lo hi) hz,_,0,(r.drop (HT.sIx xs.length 0 lo)).take (HT.sIx xs.length xs.length hi-HT.sIx xs.length 0 lo),au _ rfl⟩
theorem pO:hV X (.builtin "len") (fun xs H Q=>∃p ys,xs=[.ref p]/\(pN X.K H p ys\/fQ X.K H p ys)/\Q (.int ys.length) H):=by
 intro af s σ H xs us Q I r h
 obtain⟨p,ys,rfl,hq,q⟩:=h
 obtain⟨u,rfl,rx⟩:=oM r
 cases rx
 have hn:=sA
 rcases hq with hq|hq
 ·obtain⟨bI,r',pl,hz⟩:=I.list hq
  have eR:=r'.length
  exact Calls.call_len_list pl.isList (by simp only[aZ]<;>omega) ⟨.int ys.length,H,I.tok _,⟨s.toks+1,by rw[aZ,eR]⟩,q⟩
 ·obtain⟨bI,r',pl,hz⟩:=I.tuple hq
  have eR:=r'.length
  exact len_tuple pl (by simp only[aZ]<;>omega) ⟨.int ys.length,H,I.tok _,⟨s.toks+1,by rw[aZ,eR]⟩,q⟩
theorem vA:hV X (.builtin "len") (fun xs H Q=>∃z,xs=[.str z]/\z.length<=sizeLine/\Q (.int z.length) H):=by
 intro af s σ H xs us Q I r h
 obtain⟨z,rfl,hz,q⟩:=h
 obtain⟨u,rfl,t,rfl⟩:=oM r
 have hn:=sA
 exact len_str (by omega) ⟨.int z.length,H,I.tok _,⟨_,rfl⟩,q⟩
theorem hV.or{f:Value}{r r':List V->Hp->VK->Prop}(h:hV X f r)(h':hV X f r'):hV X f (fun xs H Q=>r xs H Q\/r' xs H Q):=by
 intro af s σ H xs us Q I rs q
 rcases q with q|q
 ·exact h af s σ H xs us Q I rs q
 ·exact h' af s σ H xs us Q I rs q
theorem t_:hV X (.type "tuple") (fun xs H Q=>∃p ys,xs=[.ref p]/\((pN X.K H p ys/\∀l,H l=none->Q (.ref l) (eY H l (.tup ys)))\/(fQ X.K H p ys/\Q (.ref p) H))):=by
 intro af s σ H xs us Q I r h
 obtain⟨p,ys,rfl,h⟩:=h
 obtain⟨u,rfl,rx⟩:=oM r
 cases rx
 rcases h with⟨hq,q⟩|⟨hq,q⟩
 ·obtain⟨bI,r',pl,hz⟩:=I.list hq
  have eR:=r'.length
  refine call_tuple_list pl.isList (fun h' kp=>?_) (by simp only[aZ]<;>omega)
  have I1:bw X af σ H { s with heap:=h' }:=I.kept (t':=s.toks) kp
  have I2:bw X af σ (eY H h'.objs.size (.tup ys)) { s with heap:=h'.push { cls:=.type "tuple",data:=.seq bI.toArray } }:=
   I1.laid (t':=s.toks) (fun b o e=>ak _ e) (ay _) (show fz X.prog X.w _ _ _ (.tup ys)from⟨hz,bI,r',IsTup.new _ _⟩)
  exact⟨.ref h'.objs.size,_,I2,rfl,q _ (I1.hok.fresh (ay _))⟩
 ·obtain⟨bI,r',pl,hz⟩:=I.tuple hq
  exact call_tuple_same pl ⟨.ref p,H,I,rfl,q⟩
def RU(K:Frag)(T:String)(x:V)(H:Hp):Prop:=match x with
 |.str _=>T="str"
 |.int _=>T="int"
 |.ref p=>(T="list"/\∃xs,pN K H p xs)\/(T="tuple"/\∃o,K.lookup p=some o/\o.cls=.type "tuple"/\o.dict=none) \/
   (T="dict"/\((∃kvs,H p=some (.dK kvs))\/∃kvs,H p=some (.dT kvs)))\/(T="set"/\∃S n,H p=some (.set S n))
 |_=>False
theorem DR{af:List (Addr×Obj)}{σ:St}{H:Hp}{s:Shared}{T:String}{x:V}{v:Value}(I:bw X af σ H s)(r:cB x v)(ty:RU X.K T x H) :
  s.TypeIs v T/\∀a,v=.ref a->∃ob,s.heap.get? a=some ob/\ob.dict=none:=by
 cases x with
 |str z=>
  obtain⟨t,rfl⟩:=r
  cases(show T="str" from ty)
  exact⟨ii s z t,fun _ e=>nomatch e⟩
 |int i=>
  obtain⟨t,rfl⟩:=r
  cases(show T="int" from ty)
  exact⟨typeIs_int s i t,fun _ e=>nomatch e⟩
 |ref p=>
  cases r
  rcases ty with⟨rfl,xs,hq⟩|⟨rfl,o,hk,hc,hd⟩|⟨rfl,hk⟩|⟨rfl,S,n,hk⟩
  ·obtain⟨bI,_,pl,_⟩:=I.list hq
   refine⟨pl.isList.typeIs,fun a e=>?_⟩
   cases e
   obtain⟨o,n,e,c,hd,_⟩:=pl
   exact⟨o,e,hd⟩
  ·refine⟨⟨o,I.kIn p o hk,hc⟩,fun a e=>?_⟩
   cases e
   exact⟨o,I.kIn _ o hk,hd⟩
  ·have z:∃o,s.heap.get? p=some o/\o.ExactDict:=by
    rcases hk with⟨kvs,hk⟩|⟨kvs,hk⟩
    ·obtain⟨_,_,_,_,o,_,_,e,ex,_⟩:=I.hok p _ hk
     exact⟨o,e,ex⟩
    ·obtain⟨_,_,_,_,o,_,_,e,ex,_⟩:=I.hok p _ hk
     exact⟨o,e,ex⟩
   obtain⟨o,e,ex⟩:=z
   refine⟨⟨o,e,ex.1⟩,fun a e2=>?_⟩
   cases e2
   exact⟨o,e,ex.2.1⟩
  ·obtain⟨o,_,_,_,e,ex,_⟩:=I.hok p _ hk
   refine⟨⟨o,e,ex.1⟩,fun a e2=>?_⟩
   cases e2
   exact⟨o,e,ex.2.1⟩
 |_=>exact False.elim ty
variable{o e:Expr}{es:List Expr}{to:TE}{t:TA}{name:Str}{gW eJ:Pos}{T id:String}{r:V->List V->Hp->VK->Prop}
end
def T5(X:Cx)(id:String)(r:V->List V->Hp->VK->Prop):Prop:=
 ∀(af:List (Addr×Obj)) (s:Shared) (σ:St) (H:Hp) (x:V) (xs:List V) (v:Value) (us:List Value) (Q:VK),bw X af σ H s->cB x v->cw xs us->r x xs H Q ->
  wpAny (model X.prog X.w) X.A (call (.builtin id) (v::us)) (EP X af σ Q) X.xe s
theorem cw.one:∀{x:V} {us:List Value},cw [x] us->∃u,us=[u]/\cB x u
 |_,_,.cons r .nil=>⟨_,rfl,r⟩
theorem cw.two:∀{x y:V} {us:List Value},cw [x,y] us->∃u v,us=[u,v]/\cB x u/\cB y v
 |_,_,_,.cons r (.cons q .nil)=>⟨_,_,rfl,r,q⟩
theorem cw.zero:∀{us:List Value},cw [] us->us=[]
 |_,.nil=>rfl
theorem cw.dropLast{xs:List V}{us:List Value}(h:cw xs us):cw xs.dropLast us.dropLast:=by
 induction h with
 |nil=>exact .nil
 |cons r t ih=>
  cases t with
  |nil=>exact .nil
  |cons q t'=>exact .cons r ih
theorem cw.eraseIdx:∀{xs:List V} {us:List Value} (i:Nat),cw xs us->cw (xs.eraseIdx i) (us.eraseIdx i)
 |_,_,_,.nil=>.nil
 |_,_,0,.cons _ t=>t
 |_,_,i+1,.cons r t=>.cons r (cw.eraseIdx i t)
theorem cw.reverse{xs:List V}{us:List Value}(h:cw xs us):cw xs.reverse us.reverse:=by
 induction h with
 |nil=>exact .nil
 |cons r t ih=>rw[List.reverse_cons,List.reverse_cons];exact cw.append ih (.cons r .nil)
theorem zA{α:Type}(l:List α):l.eraseIdx (l.length-1)=l.dropLast:=by
 induction l with
 |nil=>rfl
 |cons a r ih=>
  cases r with
  |nil=>rfl
  |cons b r=>
   have e:(a::b::r).length-1=((b::r).length-1)+1:=by
    have h1:(a::b::r).length=r.length+2:=rfl
    have h2:(b::r).length=r.length+1:=rfl
    omega
   rw[e,List.eraseIdx_cons_succ,ih]
   all_goals rfl
section
variable{X:Cx}{af:List (Addr×Obj)}{σ:St}{H:Hp}{s:Shared}{l b:Addr}{xs ys zs:List V}
theorem bw.lset{bI its':List Value}{n:Nat}{f:Array Value->Array Value}{t':Nat}(I:bw X af σ H s)(hH:H l=some (.lst xs))
  (e:s.heap.get? l=some { cls:=.type "list",data:=.seq bI.toArray n }) (hf:f bI.toArray=its'.toArray) (hv:cw ys its') (hz:ys.length<=sizeLine) :
  bw X af σ (eY H l (.lst ys)) { s with heap:=s.heap.update l (Obj.mapSeq f),toks:=t' }:=by
 have q:=PySem.IsL.update e f
 rw[hf]at q
 refine I.write (x:=l) (e:=l) (by rw[hH];exact trivial) (.inl rfl) (fun b' u hb hu=>(cQ s.heap (Obj.mapSeq f) (Ne.symm hb)).trans hu) ⟨_,q⟩ ?_
 exact⟨hz,its',_,hv,q⟩
theorem bw.lnew{bI:List Value}{t':Nat}(I:bw X af σ H s)(hv:cw ys bI)(hz:ys.length<=sizeLine) :
  bw X af σ (eY H s.heap.objs.size (.lst ys)) { s with heap:=s.heap.push { cls:=.type "list",data:=.seq bI.toArray },toks:=t' }:=
 I.laid (fun _ _ q=>ak _ q) (ay _) ⟨hz,bI,0,hv,au _ rfl⟩
theorem bw.fresh(I:bw X af σ H s):H s.heap.objs.size=none:=I.hok.fresh (ay _)
theorem bw.lstM(I:bw X af σ H s)(hH:H l=some (.lst xs)):xs.length<=sizeLine/\∃(bI:List Value) (n:Nat),cw xs bI/\xs.length=bI.length/\s.heap.get? l=some { cls:=.type "list",data:=.seq bI.toArray n }:=by
 obtain⟨z,bI,n,r,e⟩:=I.hok l _ hH
 exact⟨z,bI,n,r,r.length,e⟩
end
section
variable{X:Cx}
def A2:V->List V->Hp->VK->Prop:=fun x vs H Q=>∃l xs y,x=.ref l/\vs=[y]/\H l=some (.lst xs)/\xs.length<sizeLine/\Q .non (eY H l (.lst (xs++[y])))
theorem Cc:T5 X "list.append" A2:=by
 intro af s σ H x vs v us Q I rx rv h
 obtain⟨l,xs,y,rfl,rfl,hH,hz,q⟩:=h
 cases rx
 obtain⟨u,rfl,ru⟩:=rv.one
 obtain⟨z,bI,n,r,hl,e⟩:=I.lstM hH
 refine call_meets F.slot_list_append ⟨_,e,rfl⟩ F.entry_list_append (F.args_list_append_2 _ _) (PySem.list_append l bI.toArray n u (by rw[aZ];omega)) ⟨e,?_⟩
 refine⟨.non,_,I.lset (its':=bI++[u]) hH e (by simp) (r.append (.cons ru .nil)) ?_,rfl,q⟩
 rw[aL,dU]
 omega
def Pg:V->List V->Hp->VK->Prop:=fun x vs H Q=>∃l xs y,x=.ref l/\vs=[]/\H l=some (.lst xs)/\xs[xs.length-1]?=some y/\Q y (eY H l (.lst xs.dropLast))
theorem LR:T5 X "list.pop" Pg:=by
 intro af s σ H x vs v us Q I rx rv h
 obtain⟨l,xs,y,rfl,rfl,hH,hy,q⟩:=h
 cases rx
 have AT:=rv.zero
 subst AT
 obtain⟨z,bI,n,r,hl,e⟩:=I.lstM hH
 obtain⟨u,hu,ru⟩:=r.get hy
 have hy':bI.toArray[bI.toArray.size-1]?=some u:=by
  show bI.toArray[bI.length-1]?=some u
  rw[<- fw,<- hl]
  exact hu
 refine call_meets F.slot_list_pop ⟨_,e,rfl⟩ F.entry_list_pop (F.args_list_pop_1 _) (MeetsSeq.list_pop_last l bI.toArray n u hy' (by rw[aZ];omega)) ⟨e,?_⟩
 refine⟨y,_,I.lset (its':=bI.dropLast) hH e ?_ r.dropLast ?_,ru,q⟩
 ·show bI.toArray.eraseIdxIfInBounds (bI.toArray.size-1)=bI.dropLast.toArray
  rw[aZ,List.eraseIdxIfInBounds_toArray,zA]
 ·rw[List.length_dropLast]
  omega
def SL:R2:=fun x y H Q=>∃l b xs zs,x=.ref l/\y=.ref b/\H l=some (.lst xs)/\H b=some (.lst zs)/\xs.length+zs.length<=sizeLine/\∀p,H p=none->Q (.ref p) (eY H p (.lst (xs++zs)))
theorem LS:k6 X (binaryOp .Add) SL:=by
 intro af s σ H x y v u Q I rx ry h
 obtain⟨l,b,xs,zs,rfl,rfl,hH,hB,hz,q⟩:=h
 cases rx
 cases ry
 obtain⟨z,bI,n,r,hl,e⟩:=I.lstM hH
 obtain⟨z2,its2,n2,r2,hl2,e2⟩:=I.lstM hB
 refine PySem.P.add_list e e2 ?_ (by rw[aZ,aZ];omega)
 have ea:bI.toArray++its2.toArray=(bI++its2).toArray:=by simp
 rw[ea]
 exact⟨.ref _,_,I.lnew (t':=s.toks) (r.append r2) (by rw[aL];omega),rfl,q _ I.fresh⟩
end
section
variable{prog:Program}{w:World}{A:Around}{E:Value->Shared->Prop}{s:Shared}
end
section
variable{X:Cx}
end
end L2
namespace Att
open PySem PySem.W PySem.Calls PyProof.Rows
theorem rM{P:Params}{h:Heap}:∀(ns:List Int) (vs:List Value),WellAll P h vs (ns.map WData.int)->IntsAre vs ns:=by
 intro ns
 induction ns with
 |nil=>
  intro vs w
  rw[iH]at w
  cases w
  exact .nil
 |cons n ns ih=>
  intro vs w
  rw[aN]at w
  cases w with
  |cons a b=>
   cases a
   exact .cons _ _ (ih _ b)
theorem Cd{l:OpenLaw}{n:Nat}(hn:l.most=some n){P:Params}{h:Heap}{args:List WData}{mP:List Value}
  (Dq:l.row.toRowW.claim.pre args=true) (TR:WellAll P h mP args) :
  ∃a vs ns,mP=[Value.ref a]/\args=[WData.list (ns.map WData.int)]/\h.get? a=some { cls:=.type "list",data:=.seq vs.toArray }/\IntsAre vs ns/\ns.length<=n:=by
 have hsh:WShape.hasAll [] args [.list .int]=true:=(pre_splitW Dq).1
 have hc:l.pre.holds [] { args:=args }=true:=(pre_splitW Dq).2
 obtain⟨d,r,rfl,h1,h2⟩:=hasAllW_cons hsh
 obtain rfl:=hasAllW_nil h2
 obtain⟨xs,rfl,h3⟩:=hasW_list h1
 obtain⟨ns,rfl⟩:=items_int h3
 have eR:ns.length<=n:=by
  unfold OpenLaw.pre at hc
  have h4:(WTm.not (.lt (.lit (.int (n:Int))) (.len (.arg 0)))).holds [] { args:=[.list (ns.map .int)] }=true:=by
   have h4:=(holds_andW hc).1
   rw[hn]at h4
   exact h4
  have h5:=condW_of h4 (w_not (w_lt w_lit (w_len_list (w_arg rfl))))
  rw[ar]at h5
  refine Nat.le_of_not_lt fun q=>?_
  have q':(n:Int)<((ns.length:Nat):Int):=by omega
  first
   |(rw[aQ q']at h5;exact absurd h5 (by decide))
   |(simp at h5;omega)
 cases TR with
 |cons w1 w2=>
  cases w2
  cases w1 with
  |list ho hall=>exact⟨_,_,ns,rfl,rfl,ho,rM ns _ hall,eR⟩
theorem Ce(l:OpenLaw)(args:List WData):l.row.toRowW.claim.post args (.bool true) args=true:=
 postW_of (r:=l.row.toRowW) (X:=(true==true))
  (show WShape.has [] (.bool true) .bool=true by first|rfl|decide|simp[WShape.has,WShape.arms,WShape.armsAll])
  (show(WTm.eq .res (.lit (.bool true))).value [] { args:=args,res:=some (.bool true),after:=args }=some (.bool (true==true))from w_eq_bool (w_res rfl) w_lit) rfl
theorem attach_call{l:OpenLaw}{n:Nat}{q:Program}{BW:List Str}{XP:(Str->Option Value)->Heap->Prop}{YP:World->Heap->Prop}{d:DefRec}
  (hn:l.most=some n) (TD:d.params.defaults=[])
  (call:∀(w:World) (s₀ s₁:Shared) (mg mb:Str->Option Value) (fa:Addr) (o:Obj) (pm cd i9:Value) (a:Addr) (vs:List Value) (ns:List Int),
   Ground q BW [] XP w s₀ mg mb s₁.heap->YP w s₁.heap ->
   s₁.heap.get? fa=some o->o.data=.func (docDef d.name d.params d.body d.scope pm cd i9)->s₁.heap.CodeRec cd d.name->mg d.name=some (.ref fa) ->
   s₁.heap.get? a=some { cls:=.type "list",data:=.seq vs.toArray }->IntsAre vs ns->ns.length<=n->s₁.gens=#[] ->
   codeAny (model l.prog w) callerA (.call (.ref fa) ⟨[.ref a],[]⟩) (fun r s'=>r=.ok (.ret (.bool true))/\OldK s₁.heap s'.heap/\s'.os=s₁.os/\AllBare s'.gens) s₁) :
  WalkO q BW XP YP l.row.toRowW d [] (fun f vs=>PySem.call f vs):=by
 intro w s₀ s₁ mg mb G Y fa o pm cd i9 dV kV ho hd pL hD hmg hg args mP as Dq hlay hrd TR hlo
 obtain rfl:dV=.none:=Dflts.none hD TD
 obtain rfl:kV=.none:=Dflts.noKw hD
 obtain⟨a,vs,ns,rfl,rfl,hobj,hints,eR⟩:=Cd hn Dq TR
 refine enter_call (gi (call w s₀ s₁ mg mb fa o pm cd i9 a vs ns G Y ho (fd_plain hd) pL hmg hobj hints eR hg) fun r s' hq=>?_)
 obtain⟨rfl,h2,h3,h4⟩:=hq
 exact⟨.inl ⟨.bool true,.bool true,[],rfl,fun _=>rfl,.bool true,Ce l _,fun _=>⟨List.Pairwise.nil,fun _ hm=>(nomatch hm)⟩⟩,h2,h3,h4⟩
section
variable{prog:Program}{w:World}{A:Around}{E:Value->Shared->Prop}{s:Shared}{K:Frag}
end
end Att
namespace L2
open PySem PySem.Spec PyProof.Rows
theorem uC:∀{vs:List Value} {ns:List Int},IntsAre vs ns->cw (ns.map V.int) vs
 |_,_,.nil=>.nil
 |_,_,.cons n t h=>.cons ⟨t,rfl⟩ (uC h)
def eK(s:Stmt):Arguments:=match s with
 |.FunctionDef _ a _ _ _ _ _ _ _ _=>a
 |_=>{ posonlyargs:=[],args:=[],vararg:=none,kwonlyargs:=[],kw_defaults:=[],kwarg:=none,defaults:=[] }
def ef(s:Stmt):List Stmt:=match s with
 |.FunctionDef _ _ b _ _ _ _ _ _ _=>b
 |_=>[]
def aI(s:Stmt):Scope:=match s with
 |.FunctionDef _ _ _ _ _ _ sc _ _ _=>sc
 |_=>{ kind:=.function,names:=[],isGenerator:=false,isCoroutine:=false }
abbrev SM:zo:=fun _ _ _ _ _ _=>False
structure iY(K:Frag)(x dJ:Str)(st:Stmt)(f:Addr)(fd:FuncData):Prop where
 ex:∃(oc:Value) (od:Option Addr) (kV i9 pm:Value) (an:Option Addr) (fT ct:Value) (Jo:Array (Option Value)),
  fd=fnOf x dJ (eK st) (ef st) (aI st) .none kV i9 pm an fT ct/\K.lookup f=some ⟨oc,od,.func fd,Jo⟩/\codeIn K fT dJ=true
 kp:keepIn K (.ref f)=true
section
variable{P:Program}{w:World}{K:Frag}{mg:Str->Option Value}{base:Heap}
theorem iY.ok{x dJ:Str}{st:Stmt}{f:Addr}{fd:FuncData}{N ps:List Str}{k:Nat}{sp:Sp}(F:iY K x dJ st f fd)(S:bn N ps (aI st))(len:∀vs H Q E,sp vs H Q E->vs.length=ps.length)
  (qm:∀(fT:Value) (A:Around) (outer:List Env) (s:Shared) (H:Hp) (vs:List V) (Q:VK) (E:XK),gB k (A.deeper (envOfC dJ (aI st) s.heap.objs.size f fT))->sp vs H Q E ->
   ∃t,wU (wX SM P w K mg base N dJ (aI st) f fT A outer s H E).nox (ef st) t/\t { nx:=fun _ H'=>Q .non H',rt:=Q } (jd N vs) H):dE P w K mg base SM (k+1) f fd ps sp:=by
 obtain⟨oc,od,kV,i9,pm,an,fT,ct,Jo,rfl,lk,pL⟩:=F.ex
 refine Jz lk pL S len fun A outer s H vs Q E hr He=>?_
 obtain⟨t,h,q⟩:=qm fT A outer s H vs Q E hr He
 exact⟨t,h.nox,q⟩
theorem iY.binds{x dJ:Str}{st:Stmt}{f:Addr}{fd:FuncData}{ps:List Str}(F:iY K x dJ st f fd)
  (h:∀(kV i9 pm:Value) (an:Option Addr) (fT ct:Value) (us:List Value),us.length=ps.length->bindArgs (fnOf x dJ (eK st) (ef st) (aI st) .none kV i9 pm an fT ct) ⟨us,[]⟩=pure (ps.zip us)):sB K fd ps []:=by
 obtain⟨oc,od,kV,i9,pm,an,fT,ct,Jo,rfl,lk,pL⟩:=F.ex
 exact .all (h kV i9 pm an fT ct)
theorem zB{x dJ:Str}{st:Stmt}{f:Addr}{oc:Value}{od an:Option Addr}{Jo:Array (Option Value)}{kV i9 pm fT ct:Value}(l:K.lookup f=some ⟨oc,od,.func (fnOf x dJ (eK st) (ef st) (aI st) .none kV i9 pm an fT ct),Jo⟩)
  (c:codeIn K fT dJ=true) (k:keepIn K (.ref f)=true):iY K x dJ st f (fnOf x dJ (eK st) (ef st) (aI st) .none kV i9 pm an fT ct):=⟨⟨oc,od,kV,i9,pm,an,fT,ct,Jo,rfl,l,c⟩,k⟩
end
theorem JA{A:Around}{k:Nat}(hr:gB k A):A.units+1<cLine:=ij (Nat.add_le_add_left (by decide:1<=64) _) hr.units
section
variable{X:Cx}
theorem pv(i:Nat){x:Str}{pos:Pos}(hN:X.N[i]?=some x:=by rfl)(hv:Ow X.env.scope x:=by first|exact Or.inl rfl|exact Or.inr (Or.inl rfl)|exact Or.inr (Or.inr rfl))(hd:(x==("__debug__":Str))=false:=by decide)
  (pL:(x==("__classdict__":Str))=false:=by decide):PE X (.Name x pos) (OM i):=Lb hN hv hd pL
end
def ju(H H':Hp):Prop:=∀b o,H b=some o->H' b=some o
theorem ju.refl(H:Hp):ju H H:=fun _ _ h=>h
theorem ju.trans{H H1 H2:Hp}(a:ju H H1)(b:ju H1 H2):ju H H2:=fun c o h=>b c o (a c o h)
theorem ju.free{H H':Hp}(e:ju H H'){l:Addr}(h:H' l=Option.none):H l=Option.none:=by
 cases q:H l with
 |none=>rfl
 |some o=>
  rw[e l o q]at h
  cases h
theorem ju.seq{K:Frag}{H H':Hp}{a:Addr}{xs:List V}(e:ju H H')(h:pN K H a xs):pN K H' a xs:=by
 rcases h with(h|⟨o,h⟩)|h
 ·exact .inl (.inl (e _ _ h))
 ·exact .inl (.inr ⟨o,e _ _ h⟩)
 ·exact .inr h
section
variable{κ:Type}[DecidableEq κ]
def nB(kvs:List (κ×V))(k:κ):Option V:=(kvs.find? fun kv=>decide (kv.1=k)).map (·.2)
def pP(kvs:List (κ×V))(k:κ)(v:V):List (κ×V):=
 if (kvs.any fun kv=>decide (kv.1=k))=true then kvs.map (fun kv=>if kv.1=k then(kv.1,v)else kv)else kvs++[(k,v)]
def JB(kvs:List (κ×V))(k:κ):List (κ×V):=kvs.filter fun kv=>decide (kv.1≠k)
theorem pQ{p:κ×V}{r:List (κ×V)}{k:κ}(e:p.1=k):nB (p::r) k=some p.2:=by simp[nB,bU,e]
theorem pR{p:κ×V}{r:List (κ×V)}{k:κ}(e:¬ p.1=k):nB (p::r) k=nB r k:=by simp[nB,bU,e]
theorem w6(k:κ):∀kvs:List (κ×V),(kvs.any fun kv=>decide (kv.1=k))=(nB kvs k).isSome
 |[]=>rfl
 |p::r=>by
  rw[lu]
  by_cases e:p.1=k
  ·simp only[pQ e,aQ e,Bool.true_or,Option.isSome_some]
  ·rw[pR e,aG e,Bool.false_or];exact w6 k r
theorem q_(kvs:List (κ×V))(k:κ)(v:V):(pP kvs k v).length<=kvs.length+1:=by
 unfold pP
 split
 ·rw[ar];omega
 ·rw[aL,de,ia];omega
theorem vo.isSome_eq{o:Option V}{u:Option Value}(r:vo o u):o.isSome=u.isSome:=by
 cases o with
 |none=>cases u with
  |none=>rfl
  |some _=>exact(show False from r).elim
 |some _=>cases u with
  |none=>exact(show False from r).elim
  |some _=>rfl
theorem vo.getD{o:Option V}{u:Option Value}{d:V}{d':Value}(r:vo o u)(rd:cB d d'):cB (o.getD d) (u.getD d'):=by
 cases o with
 |none=>cases u with
  |none=>exact rd
  |some _=>exact(show False from r).elim
 |some _=>cases u with
  |none=>exact(show False from r).elim
  |some _=>exact r
theorem KV.val{kvs:List (κ×V)}{vs:List (κ×Value)}(r:KV kvs vs)(k:κ):vo (nB kvs k) (valueAt vs k):=by
 unfold KV at r
 induction r with
 |nil=>exact True.intro
 |@cons p q ps qs h t ih=>
  obtain⟨h1,h2⟩:=h
  by_cases e:p.1=k
  ·have e':q.1=k:=h1.symm.trans e
   have b:valueAt (q::qs) k=some q.2:=by simp[valueAt,bU,e']
   rw[pQ e,b];exact h2
  ·have e':¬ q.1=k:=fun z=>e (h1.trans z)
   have b:valueAt (q::qs) k=valueAt qs k:=by simp[valueAt,bU,e']
   rw[pR e,b];exact ih
theorem KV.any{kvs:List (κ×V)}{vs:List (κ×Value)}(r:KV kvs vs)(k:κ):(kvs.any fun kv=>decide (kv.1=k))=vs.any fun kv=>decide (kv.1=k):=by
 unfold KV at r
 induction r with
 |nil=>rfl
 |cons h t ih=>rw[lu,lu,ih,h.1]
theorem KV.repl{kvs:List (κ×V)}{vs:List (κ×Value)}(r:KV kvs vs)(k:κ){y:V}{u:Value}(ry:cB y u) :
  KV (kvs.map fun kv=>if kv.1=k then(kv.1,y)else kv) (vs.map fun kv=>if kv.1=k then(kv.1,u)else kv):=by
 unfold KV at r ⊢
 induction r with
 |nil=>exact .nil
 |@cons p q ps qs h t ih=>
  rw[aN,aN]
  refine .cons ?_ ih
  obtain⟨h1,h2⟩:=h
  by_cases e:p.1=k
  ·rw[aq e,aq (h1.symm.trans e)];exact⟨h1,ry⟩
  ·rw[ax e,ax (fun z=>e (h1.trans z))];exact⟨h1,h2⟩
theorem KV.put{kvs:List (κ×V)}{vs:List (κ×Value)}(r:KV kvs vs)(k:κ){y:V}{u:Value}(ry:cB y u):KV (pP kvs k y) (stored vs k u):=by
 unfold pP stored
 rw[r.any k]
 by_cases e:(vs.any fun kv=>decide (kv.1=k))=true
 ·rw[aq e,aq e];exact r.repl k ry
 ·rw[ax e,ax e];exact Paired.snoc r ⟨rfl,ry⟩
theorem KV.drop{kvs:List (κ×V)}{vs:List (κ×Value)}(r:KV kvs vs)(k:κ):KV (JB kvs k) (without vs k):=by
 unfold KV at r ⊢
 unfold JB without
 induction r with
 |nil=>exact .nil
 |@cons p q ps qs h t ih=>
  obtain⟨h1,h2⟩:=h
  rw[gX,gX]
  by_cases e:p.1=k
  ·have a:¬ decide (p.1≠k)=true:=by simp[e]
   have b:¬ decide (q.1≠k)=true:=by simp[h1.symm.trans e]
   rw[ax a,ax b];exact ih
  ·have e':¬ q.1=k:=fun z=>e (h1.trans z)
   have a:decide (p.1≠k)=true:=by simp[e]
   have b:decide (q.1≠k)=true:=by simp[e']
   rw[aq a,aq b];exact .cons ⟨h1,h2⟩ ih
theorem KV.keys{kvs:List (κ×V)}{vs:List (κ×Value)}(r:KV kvs vs):kvs.map (·.1)=vs.map (·.1):=by
 unfold KV at r
 induction r with
 |nil=>rfl
 |cons h t ih=>rw[aN,aN,ih,h.1]
theorem KV.length{kvs:List (κ×V)}{vs:List (κ×Value)}(r:KV kvs vs):kvs.length=vs.length:=Paired.length r
end
theorem DS{P:Program}{w:World}{k:iy}{u:Value}(r:cB (kV k) u):(fR P w).is k u=true:=by
 cases k with
 |inl i=>obtain⟨t,e⟩:=(show ∃t,u=Value.int i t from r);subst e;exact wR P w i t
 |inr x=>obtain⟨t,e⟩:=(show ∃t,u=Value.str x t from r);subst e;exact wS P w x t
theorem uD{P:Program}{w:World}:∀{ks:List iy} {us:List Value},cw (ks.map kV) us->ItemsAre (fR P w) ks us
 |[],_,r=>by rw[iH]at r;cases r;exact .nil
 |k::ks,_,r=>by
  rw[aN]at r
  cases r with
  |cons h t=>exact .cons (DS h) (uD t)
abbrev KT(H:Hp):List (List iy×V)->List (List iy×Addr×Value)->Prop:=Paired fun p q=>p.1=q.1/\H q.2.1=some (.tup (p.1.map kV))/\cB p.2 q.2.2
theorem KT.val{H:Hp}{kvs:List (List iy×V)}{xs:List (List iy×Addr×Value)}(r:KT H kvs xs)(k:List iy):vo (nB kvs k) ((atKey xs k).map (·.2)):=by
 induction r with
 |nil=>exact True.intro
 |@cons p q ps qs h t ih=>
  obtain⟨h1,_,h2⟩:=h
  by_cases e:p.1=k
  ·have e':q.1=k:=h1.symm.trans e
   have b:atKey (q::qs) k=some q.2:=by simp[atKey,bU,e']
   rw[pQ e,b];exact h2
  ·have e':¬ q.1=k:=fun z=>e (h1.trans z)
   have b:atKey (q::qs) k=atKey qs k:=by simp[atKey,bU,e']
   rw[pR e,b];exact ih
theorem KT.repl{H:Hp}{kvs:List (List iy×V)}{xs:List (List iy×Addr×Value)}(r:KT H kvs xs)(k:List iy){y:V}{u:Value}(ry:cB y u) :
  KT H (kvs.map fun kv=>if kv.1=k then(kv.1,y)else kv) (xs.map (putAt k u)):=by
 induction r with
 |nil=>exact .nil
 |@cons p q ps qs h t ih=>
  rw[aN,aN]
  refine .cons ?_ ih
  obtain⟨h1,h2,h3⟩:=h
  unfold putAt
  by_cases e:p.1=k
  ·rw[aq e,aq (h1.symm.trans e)];exact⟨h1,h2,ry⟩
  ·rw[ax e,ax (fun z=>e (h1.trans z))];exact⟨h1,h2,h3⟩
theorem KT.put{H:Hp}{kvs:List (List iy×V)}{xs:List (List iy×Addr×Value)}(r:KT H kvs xs)(k:List iy){b:Addr}{y:V}{u:Value}(hb:H b=some (.tup (k.map kV)))(ry:cB y u) :
  KT H (pP kvs k y) (storedH xs k b u):=by
 have e:(kvs.any fun kv=>decide (kv.1=k))=(atKey xs k).isSome:=by
  rw[w6,(r.val k).isSome_eq,Option.isSome_map]
 unfold pP storedH
 rw[e]
 by_cases q:(atKey xs k).isSome=true
 ·rw[aq q,aq q];exact r.repl k ry
 ·rw[ax q,ax q];exact Paired.snoc r ⟨rfl,hb,ry⟩
theorem KT.keeps{H H':Hp}{kvs:List (List iy×V)}{xs:List (List iy×Addr×Value)}(r:KT H kvs xs)(ht:∀b ys,H b=some (.tup ys)->H' b=some (.tup ys)):KT H' kvs xs:=
 Paired.mapP r fun _ _ z=>⟨z.1,ht _ _ z.2.1,z.2.2⟩
section
variable{P:Program}{w:World}{H:Hp}{h:Heap}{a:Addr}
theorem JC{u:HO}(ok:kB P w H h)(e:Rd H a u):fz P w H h a u:=e.ok ok
theorem DT{kvs:List (iy×V)}(ok:kB P w H h)(e:Rd H a (.dK kvs)):kvs.length<=sizeLine/\(a==sysModules)=false/\∃vs,KV kvs vs/\h.DictOf (fR P w) a vs:=
 show fz P w H h a (.dK kvs)from JC ok e
theorem Ph{kvs:List (iy×V)}(ok:kB P w H h)(e:H a=some (.dK kvs)):kvs.length<=sizeLine/\(a==sysModules)=false/\∃vs,KV kvs vs/\h.DictOf (fR P w) a vs:=DT ok (.inl e)
theorem zC{ks:List iy}(ok:kB P w H h)(e:H a=some (.tup (ks.map kV))):(tupleKind (fR P w)).is h ks a:=by
 obtain⟨_,bI,r,o,h1,h2,n,h3⟩:=(show fz P w H h a (.tup (ks.map kV))from ok a _ e)
 exact⟨o,bI.toArray,n,h1,h2,h3,by simpa using uD r⟩
theorem DU{kvs:List (List iy×V)}(ok:kB P w H h)(e:Rd H a (.dT kvs)):kvs.length<=sizeLine/\(a==sysModules)=false /\
  ∃xs,KT H kvs xs/\h.DictOfH (tupleKind (fR P w)) a xs:=by
 obtain⟨z,y,xs,r,o,es,ep,h1,h2,h3,h4,h5⟩:=(show fz P w H h a (.dT kvs)from JC ok e)
 refine⟨z,y,xs,r,o,es,ep,h1,h2,h3,h4,fun x hx=>?_,h5⟩
 have all:∀{l:List (List iy×V)} {m:List (List iy×Addr×Value)},KT H l m->∀x∈m,(tupleKind (fR P w)).is h x.1 x.2.1:=by
  intro l m q
  induction q with
  |nil=>intro x hx;exact nomatch hx
  |@cons p q ps qs hq t ih=>
   intro x hx
   rcases aM.mp hx with e|hx
   ·subst e
    exact zC ok (by rw[<- hq.1];exact hq.2.1)
   ·exact ih x hx
 exact all r x hx
theorem Pi{kvs:List (List iy×V)}(ok:kB P w H h)(e:H a=some (.dT kvs)):kvs.length<=sizeLine/\(a==sysModules)=false /\
  ∃xs,KT H kvs xs/\h.DictOfH (tupleKind (fR P w)) a xs:=DU ok (.inl e)
end
def ua(H:Hp)(a:Addr)(y:V)(r:Option V):Prop:=
 (∃kvs k,Rd H a (.dK kvs)/\y=kV k/\r=nB kvs k)\/∃kvs k b,Rd H a (.dT kvs)/\y=.ref b/\H b=some (.tup (k.map kV))/\r=nB kvs k
def Cf(H:Hp)(a:Addr)(y v:V)(H':Hp):Prop:=
 (∃kvs k,H a=some (.dK kvs)/\y=kV k/\kvs.length<sizeLine/\H'=eY H a (.dK (pP kvs k v))) \/
 ∃kvs k b,H a=some (.dT kvs)/\y=.ref b/\H b=some (.tup (k.map kV))/\kvs.length<sizeLine/\H'=eY H a (.dT (pP kvs k v))
theorem ua.k{H:Hp}{a:Addr}{kvs:List (iy×V)}{k:iy}(e:H a=some (.dK kvs)):ua H a (kV k) (nB kvs k):=.inl ⟨kvs,k,.inl e,rfl,rfl⟩
theorem ua.t{H:Hp}{a b:Addr}{kvs:List (List iy×V)}{k:List iy}(e:H a=some (.dT kvs))(eb:H b=some (.tup (k.map kV))):ua H a (.ref b) (nB kvs k):=.inr ⟨kvs,k,b,.inl e,rfl,eb,rfl⟩
theorem Cf.k{H:Hp}{a:Addr}{kvs:List (iy×V)}{k:iy}{v:V}(e:H a=some (.dK kvs))(hl:kvs.length<sizeLine):Cf H a (kV k) v (eY H a (.dK (pP kvs k v))):=.inl ⟨kvs,k,e,rfl,hl,rfl⟩
theorem Cf.t{H:Hp}{a b:Addr}{kvs:List (List iy×V)}{k:List iy}{v:V}(e:H a=some (.dT kvs))(eb:H b=some (.tup (k.map kV)))(hl:kvs.length<sizeLine) :
  Cf H a (.ref b) v (eY H a (.dT (pP kvs k v))):=.inr ⟨kvs,k,b,e,rfl,eb,hl,rfl⟩
section
variable{X:Cx}{af:List (Addr×Obj)}{σ:St}{H:Hp}{s:Shared}{a:Addr}{y v:V}{u r:Value}{o:Option V}{A:Around}{E:Value->Shared->Prop}
theorem bw.big(I:bw X af σ H s):sysModules<s.heap.objs.size:=by
 have h:mainGlobals<s.heap.objs.size:=(I.mod.glob.keeps I.bk).lt
 exact Nat.lt_trans (by decide) h
theorem A3{h':Heap}{t':Nat}{ob:HO}(I:bw X af σ H s)(mu:Ov (H a))(hs:Heap.SameBut a s.heap h')(he:∃q,h'.get? a=some q)(new:fz X.prog X.w (eY H a ob) h' a ob) :
  bw X af σ (eY H a ob) { s with heap:=h',toks:=t' }:=
 I.write (x:=a) (e:=a) mu (.inl rfl) (fun b q hb z=>(hs.2 b hb).trans z) he new
theorem LU{P:Program}{w:World}{H':Hp}{h':Heap}{kvs:List (iy×V)}{vs:List (iy×Value)}(z:kvs.length<=sizeLine)(hd:(a==sysModules)=false)(rel:KV kvs vs)(dd:h'.DictOf (fR P w) a vs) :
  fz P w H' h' a (.dK kvs):=⟨z,hd,vs,rel,dd⟩
theorem Cg{H':Hp}{Q:Unit->Shared->Prop}(hu:A.units+1<cLine)(I:bw X af σ H s)(g:Cf H a y v H')(ry:cB y u)(rv:cB v r)(h:∀s',bw X af σ H' s'->Q () s') :
  wpAny (model X.prog X.w) A (setItem (.ref a) u r) Q E s:=by
 rcases g with⟨kvs,k,e,ey,l,eH⟩|⟨kvs,k,b,e,ey,eb,l,eH⟩
 ·subst ey eH
  obtain⟨z,hd,vs,rel,dd⟩:=Ph I.hok e
  have hz:vs.length<=sizeLine:=by rw[<- rel.length];exact z
  have hl:(pP kvs k v).length<=sizeLine:=by have:=q_ kvs k v;omega
  refine wpAny_setItem_pairs (hsz:=hz) (DS ry) dd fun h' dd' hs=>h _ ?_
  have he:∃q,h'.get? a=some q:=let ⟨q,_,_,hq,_⟩:=dd';⟨q,hq⟩
  exact A3 I (by rw[e];exact True.intro) hs he (LU hl hd (rel.put k rv) dd')
 ·subst ey eH
  cases(show u=Value.ref b from ry)
  obtain⟨z,hd,xs,rel,dd⟩:=Pi I.hok e
  have hz:xs.length<=sizeLine:=by rw[<- Paired.length rel];exact z
  have hl:(pP kvs k v).length<=sizeLine:=by have:=q_ kvs k v;omega
  refine wpAny_setItem_heap (hsz:=hz) (tupleKind_room_in1 hu) (zC I.hok eb) dd fun h' dd' hs=>h _ ?_
  obtain⟨q,es,ep,hq,h2,h3,h4,_,h5⟩:=dd'
  refine A3 I (by rw[e];exact True.intro) hs ⟨q,hq⟩ ⟨hl,hd,_,(rel.put k eb rv).keeps fun c ys ec=>?_,q,es,ep,hq,h2,h3,h4,h5⟩
  rw[cv (OL ec e (fun z=>nomatch z))]
  exact ec
end
section
variable{X:Cx}{af:List (Addr×Obj)}{σ:St}{H:Hp}{s:Shared}{a:Addr}{kvs:List (iy×V)}{k:iy}{u:Value}{A:Around}{E:Value->Shared->Prop}
end
section
variable{X:Cx}{o i e value:Expr}{pos iF TU:Pos}{td ty tv:TE}
end
theorem DV{P:Program}{w:World}{H:Hp}(h:Heap)(hb:sysModules<h.objs.size):fz P w H (h.push { cls:=.type "dict",data:=.dict #[] }) h.objs.size (.dK []):=
 ⟨ca _,bd.mpr (Ne.symm (ba hb)),[],.nil,Heap.DictOf.new h⟩
def LV:TE:=fun _ H Q=>∀p,H p=none->Q (.ref p) (eY H p (.dK []))
section
variable{X:Cx}{pos:Pos}
theorem DW:PE X (.Dict [] [] pos) LV:=fun af s σ H Q I h=>
 wpAny_Dict_empty ⟨.ref s.heap.objs.size,_,I.laid (a:=s.heap.objs.size) (o:=.dK []) (t':=s.toks) (fun _ _ q=>ak _ q) (ay _) (DV s.heap I.big),rfl,h _ (I.hok.fresh (ay _))⟩
end
structure M2(X:Cx)(o:Expr)(m:Str)(gW:Pos)(e f:Expr)(eJ:Pos):Prop where
 base:attributeBase o m X.env (eval o X.env)=eval o X.env
 few:((backTo eJ (starEach [e,f] X.env)).all (fun x=>!x.1)&&(backToKw eJ (keywordEach [] X.env)).all (fun x=>x.1.isSome)
  && decide (([e,f]:List Expr).length+([]:List Keyword).length+(if ([]:List Keyword).isEmpty then 0 else 1)<30))=true
 line:(gW.endLine==eJ.line)=true
 trees:backTo eJ (starEach [e,f] X.env)=[(false,eval e X.env),(false,eval f X.env)]
def T6(H:Hp)(a:Addr):Prop:=(∃kvs,Rd H a (.dK kvs))\/∃kvs,Rd H a (.dT kvs)
theorem LW{X:Cx}{af:List (Addr×Obj)}{σ:St}{H:Hp}{s:Shared}{a:Addr}(I:bw X af σ H s)(d:T6 H a) :
  s.TypeIs (.ref a) "dict"/\(∀b,Value.ref a=.ref b->∃ob,s.heap.get? b=some ob/\ob.dict=none)/\(a==sysModules)=false:=by
 rcases d with⟨kvs,e⟩|⟨kvs,e⟩
 ·obtain⟨_,hd,vs,_,dd⟩:=DT I.hok e
  refine⟨dd.typeIs,fun b q=>?_,hd⟩
  cases q
  obtain⟨ob,_,_,h1,h2,_⟩:=dd
  exact⟨ob,h1,h2.2.1⟩
 ·obtain⟨_,hd,xs,_,dd⟩:=DU I.hok e
  refine⟨dd.typeIs,fun b q=>?_,hd⟩
  cases q
  obtain⟨ob,_,_,h1,h2,_⟩:=dd
  exact⟨ob,h1,h2.2.1⟩
section
variable{X:Cx}{af:List (Addr×Obj)}{σ:St}{H:Hp}{s:Shared}{a:Addr}{y d:V}{u r:Value}{o:Option V}{A:Around}{E:Value->Shared->Prop}
theorem LX{Q:Value->Shared->Prop}(hu:A.units+1<cLine)(I:bw X af σ H s)(g:ua H a y o)(ry:cB y u)(rd:cB d r)(h:∀w' s',bw X af σ H s'->cB (o.getD d) w'->Q w' s') :
  wpAny (model X.prog X.w) A (call (.builtin "dict.get") [.ref a,u,r]) Q E s:=by
 rcases g with⟨kvs,k,e,ey,l⟩|⟨kvs,k,b,e,ey,eb,l⟩
 ·subst ey
  obtain⟨z,hd,vs,rel,dd⟩:=DT I.hok e
  refine call_meetsIn PySem.F.slot_dict_get dd.typeIs PySem.F.entry_dict_get (PySem.F.args_dict_get_3 _ _ _) (meets_dict_get_default (fR X.prog X.w) a (DS ry) hd r) ⟨_,dd.mapOf,h _ _ (I.tok _) ?_⟩
  rw[l]
  exact(rel.val k).getD rd
 ·subst ey
  cases(show u=Value.ref b from ry)
  obtain⟨z,hd,xs,rel,dd⟩:=DU I.hok e
  refine call_meetsIn PySem.F.slot_dict_get dd.typeIs PySem.F.entry_dict_get (PySem.F.args_dict_get_3 _ _ _) (meetsH_dict_get_default (tupleKind (fR X.prog X.w)) a b hd r) ⟨tupleKind_room_in1 hu,k,xs,zC I.hok eb,dd,h _ _ (I.tok _) ?_⟩
  rw[l]
  exact(rel.val k).getD rd
end
def LY(td ty tx:TE):TE:=fun σ H Q=>td σ H fun x H1=>∃a,x=.ref a/\T6 H1 a/\ty σ H1 fun y H2=>tx σ H2 fun z H3=>∃o,ua H3 a y o/\Q (o.getD z) H3
section
variable{X:Cx}{o e f:Expr}{gW eJ:Pos}{td ty tx:TE}
theorem DY(hu:X.A.units+1<cLine)(ho:PE X o td)(he:PE X e ty)(hf:PE X f tx)(m:M2 X o "get" gW e f eJ):PE X (.Call (.Attribute o "get" gW) [e,f] [] eJ) (LY td ty tx):=by
 intro af s σ H Q I h
 refine wpAny_Call_method m.base m.few m.line PySem.F.plainAttrs_dict PySem.F.slot_dict_get PySem.F.type_dict_get (gE (ho af s σ H _ I h) fun u s1 ⟨x,H1,I1,rx,a,ex,d,q1⟩=>?_)
 subst ex
 obtain rfl:u=Value.ref a:=rx
 obtain⟨t1,t2,_⟩:=LW I1 d
 refine⟨t1,t2,?_⟩
 rw[m.trees]
 refine iI rfl (Calls.evalArgs_plain (gg (gE (he af s1 σ H1 _ I1 q1) fun iv s2 ⟨y,H2,I2,ry,q2⟩=>
  gg (gE (hf af s2 σ H2 _ I2 q2) fun fv s3 ⟨z,H3,I3,rz,ov,g,q3⟩=>iG ?_))))
 exact LX hu I3 g ry rz fun w' s4 I4 lD=>⟨_,H3,I4,lD,q3⟩
end
section
variable{X:Cx}{af:List (Addr×Obj)}{σ:St}{H:Hp}{s:Shared}{a:Addr}{kvs:List (iy×V)}{A:Around}{E:Value->Shared->Prop}
end
section
variable{X:Cx}{af:List (Addr×Obj)}{σ:St}{H:Hp}{s:Shared}{a:Addr}{y:V}{u:Value}{A:Around}{E:Value->Shared->Prop}
end
section
variable{X:Cx}
end
section
variable{κ:Type}[DecidableEq κ]
end
end L2
set_option maxHeartbeats 4000000
namespace L2
open PySem PySem.Spec PyProof.Rows
abbrev cK(X:Cx)(nm:List Str)(scope:Scope)(cl:List (Str×Addr))(C:Addr)(s0:Shared)(H0:Hp)(fp:List Addr):Cx:=
 { X with N:=nm,s₀:=s0,H₀:=H0,env:=compEnvC scope cl C X.env,outer:=X.stack,stack:=X.stack,ex:=fp,fn:=fun _=>false,pn:=[],xe:=fun _ _=>False }
def Ha(X:Cx)(nZ:List Expr)(t:TT):Prop:=
 ∀(af:List (Addr×Obj)) (s:Shared) (σ:St) (H:Hp) (Q:Bool->Hp->Prop),bw X af σ H s->t σ H Q ->
  wpAny (model X.prog X.w) X.A (forIn nZ true fun c r=>if r=true then do let ok <- isTrue c X.env (eval c X.env);pure (ForInStep.yield ok)else pure (ForInStep.yield r)) (TP X af σ Q) X.xe s
def SN:TT:=fun _ H Q=>Q true H
theorem HJ{X:Cx}:Ha X [] SN:=fun _ _ _ H _ I h=>wpAny_tests_nil ⟨H,I,h⟩
theorem HK{X:Cx}{c:Expr}{t:TT}(hc:PT X c t):Ha X [c] t:=fun af s σ H Q I h=>wpAny_tests_one (hc af s σ H Q I h)
def oN(cap:List (Option Nat))(σ:St):St:=cap.map fun o=>o.bind fun j=>(σ[j]?).join
def uE(cap:List (Option Nat))(wi:TI)(g:TG)(tc:TT)(te:TE):TE:=fun σ H Q=>wi σ H fun J H1=>∃W:Nat->Nat->List V->Hp->Prop,(∃m,W 0 m [] H1)/\∀i m ys H2,W i m ys H2 ->
 (J.stop i H2/\ys.length<=sizeLine/\∀p,H2 p=none->Q (.ref p) (eY H2 p (.lst ys))) \/
 (J.go i H2/\∀x H3,J.yld i H2 x H3->g x (oN cap σ) H3 fun σ2 H4=>tc σ2 H4 fun b H5=>if b=true then te σ2 H5 fun y H6=>ys.length<sizeLine/\∃m',m'<m/\W (i+1) m' (ys++[y]) H6 else ∃m',m'<m/\W (i+1) m' ys H5)
theorem Un.cellK{fs ex:List Addr}{H H':Hp}{h h':Heap}(u:Un fs ex H H' h h'){c:Addr}{v:Option Value}(x:h.IsCell c v)(n:H c=none)(he:c∉ex):h'.IsCell c v:=by
 obtain⟨o,ho,hd⟩:=x
 obtain⟨sl,q⟩:=u.any ho n he
 exact⟨_,q,hd⟩
structure A4(X:Cx)(scope:Scope)(cl:List (Str×Addr))(x:Str):Prop where
 vis:Ow X.env.scope x
 nl:X.env.scope.names.lookup x≠some .local
 cl:cl.lookup x=X.env.cells.lookup x
 kd:(relabel scope X.env).names.lookup x=some .cell\/(relabel scope X.env).names.lookup x=some .free
section
variable{X:Cx}{qk tg eh:Expr}{nZ:List Expr}{scope:Scope}{pos:Pos}{nm:List Str}{cl:List (Str×Addr)}{cap:List (Option Nat)}{wi:TI}{g:TG}{tc:TT}{te:TE}
theorem JD{af K8:List (Addr×Obj)}{σ σ2:St}{H1 H:Hp}{s2 s:Shared}{C:Addr}{fp:List Addr}
  (za:∀(i j:Nat),cap[i]?=some (some j)->∃x,nm[i]?=some x/\X.N[j]?=some x/\A4 X scope cl x) (eR:cap.length=nm.length)
  (I2:bw X af σ H1 s2) (Rv:∀b∈fp,∀x c,X.env.cells.lookup x=some c->c≠b)
  (I:bw (cK X nm scope cl C s2 H1 fp) K8 σ2 H s):bw (cK X nm scope cl C s2 H1 fp) K8 (oN cap σ) H s:=by
 refine⟨I.ok,I.os,I.bare,I.base,?_,I.cell,I.free,I.freeC,I.pin,I.hok,by show(oN cap σ).length=nm.length;unfold oN;rw[ar];exact eR⟩
 obtain⟨m,hn,_⟩:=I.loc
 refine⟨m,hn,fun i x v e1 e2 e3=>?_⟩
 unfold oN at e2
 rw[aD]at e2
 cases hc:cap[i]? with
 |none=>rw[hc]at e2;cases e2
 |some oj=>
  cases oj with
  |none=>rw[hc]at e2;cases e2
  |some j=>
   rw[hc]at e2
   have e2':(σ[j]?).join=some v:=by simpa using e2
   have e2:σ[j]?=some (some v):=by
    cases hs:σ[j]? with
    |none=>rw[hs]at e2';cases e2'
    |some ov=>rw[hs]at e2';simp at e2';rw[e2']
   obtain⟨x',f1,f2,k⟩:=za i j hc
   have hx:x'=x:=by
    have z:nm[i]?=some x:=e1
    rw[f1]at z;exact aS z
   subst hx
   obtain⟨m2,_,hl2⟩:=I2.loc
   obtain⟨u,r,l⟩:=hl2 j x' v f2 e2 k.vis
   refine⟨u,r,?_⟩
   rcases l with⟨kl,_⟩|⟨_,c,hcc,fg⟩
   ·exact absurd kl k.nl
   ·refine .inr ⟨k.kd,c,by rw[<- hcc];exact k.cl,?_⟩
    exact I.base.cellK fg (I2.freeC _ _ hcc) fun z=>Rv c z _ _ hcc rfl
theorem vB{prog:Program}{w:World}{A:Around}{E:Value->Shared->Prop}{s:Shared}{l:Addr}{bI:List Value}{n:Nat}{u:Value}{Q:Value->Shared->Prop}
  (e:s.heap.get? l=some { cls:=.type "list",data:=.seq bI.toArray n }) (hz:bI.length<sizeLine)
  (h:∀(h':Heap) (n' tk:Nat),h'.get? l=some { cls:=.type "list",data:=.seq (bI++[u]).toArray n' }->(∀b o,b≠l->s.heap.get? b=some o->h'.get? b=some o)->Q .none { s with heap:=h',toks:=tk }) :
  wpAny (model prog w) A (call (.builtin "list.append") [.ref l,u]) Q E s:=by
 refine call_meets F.slot_list_append ⟨_,e,rfl⟩ F.entry_list_append (F.args_list_append_2 _ _) (PySem.list_append l bI.toArray n u (by rw[aZ];omega)) ⟨e,?_⟩
 have q:=PySem.IsL.update e (fun a=>a.push u)
 have q2:(s.heap.update l (Obj.mapSeq fun x=>x.push u)).get? l=some { cls:=.type "list",data:=.seq (bI++[u]).toArray (if ((bI.toArray.push u).size==bI.toArray.size)=true then n else n+1) }:=by
  rw[show(s.heap.update l (Obj.mapSeq fun x=>x.push u)).get? l=_ from q];simp
 exact h _ _ s.toks q2 fun b o hb ho=>(cQ s.heap (Obj.mapSeq _) (Ne.symm hb)).trans ho
structure A5(X:Cx)(af:List (Addr×Obj))(H:Hp)(s:Shared)(C:Addr)(m:Str->Option Value):Prop where
 ns:s.heap.Ns C m
 fr:H C=none
 nl:C≠X.env.locals
 nf:C∉X.fs
 hi:X.s₀.heap.objs.size<=C
 nc:∀x c,X.env.cells.lookup x=some c->c≠C
 np:∀p∈X.pn++af,p.1≠C
theorem A5.off{af:List (Addr×Obj)}{σ:St}{H:Hp}{s:Shared}{C:Addr}{m:Str->Option Value}{h':Heap}(B:A5 X af H s C m)(I:bw X af σ H s)(hs:Heap.SameBut C s.heap h'):bw X af σ H { s with heap:=h' }:=I.turned (t':=s.toks) (it:=C) (fun b o hb e=>hs.extBut b o hb e) B.fr B.nl (.inr B.hi) B.nc B.np
theorem uF{af:List (Addr×Obj)}{σ:St}{H:Hp}{s:Shared}{use:Option (Value->Sem Unit)}{Qk:VK}{Qv:Value->Shared->Prop}(kN:X.calm=true)(ze:closureFor scope X.env=pure cl)(lX:∀x c,cl.lookup x=some c->X.env.cells.lookup x=some c)
  (jn:scope.kind=.function) (tU:∀x∈scope.names,x.2=.local->scope.names.lookup x.1=some .local) (fg:∀y∈scope.names,y.2≠.cell)
  (GO:∀x,((relabel scope X.env).names.lookup x=some .cell\/(relabel scope X.env).names.lookup x=some .free)->∃c,cl.lookup x=some c)
  (za:∀(i j:Nat),cap[i]?=some (some j)->∃x,nm[i]?=some x/\X.N[j]?=some x/\A4 X scope cl x) (eR:cap.length=nm.length)
  (hi:PI X tg eh wi) (hg:∀C s0 H0 fp,PG (cK X nm scope cl C s0 H0 fp) tg g) (ht:∀C s0 H0 fp,Ha (cK X nm scope cl C s0 H0 fp) nZ tc)
  (he:∀C s0 H0 fp,PE (cK X nm scope cl C s0 H0 fp) qk te) (hs:∀x,foldedSetIterable eh X.env x=pure x)
  (I:bw X af σ H s) (h:uE cap wi g tc te σ H Qk) (lE:∀(s4:Shared) (C D:Addr) (m4:Str->Option Value) (Hn:Hp),bw X af σ Hn s4->A5 X af Hn s4 C m4->Qk (.ref D) Hn->compPost (model X.prog X.w) X.A X.xe use Qv (.ref D) C (.ok .next) s4) :
  wpAny (model X.prog X.w) X.A (comprehension (.ListComp qk [⟨tg,eh,nZ,0⟩] scope pos) scope X.env (firstIterPos [⟨tg,eh,nZ,0⟩] pos) (newList []) (firstAsync [⟨tg,eh,nZ,0⟩]) (firstIter [⟨tg,eh,nZ,0⟩] X.env) use) Qv X.xe s:=by
 refine wpAny_comprehension_free (use:=use) rfl hs ze jn tU (gE (hi af s σ H _ I h) fun v s1 h1=>gE h1 fun TV s2 h2=>?_)
 obtain⟨it,fp,tn,J,H1,e,I2,T,dw,f2,W,⟨m0,w0⟩,turn⟩:=h2
 subst e
 have hfpn:∀b∈fp,b<s2.heap.objs.size:=fun b hb=>let ⟨o,ho,_⟩:=T.obj _ _ dw b hb;aE ho
 have hfpc:∀b∈fp,∀x c,X.env.cells.lookup x=some c->c≠b:=fun b hb=>(f2 b hb).2.2.2.2.1
 refine bD (wpAny_newFunctionEnv fg (by intro y hy;simp at hy) (fun h₁ hns₁ hsb₁=>?_) jn)
 dsimp only at hns₁ hsb₁ ⊢
 generalize hH2:s2.heap.push { cls:=.type "list",dict:=none,data:=.seq ([]:List Value).toArray }=G2 at hns₁ hsb₁ ⊢
 have hC:G2.objs.size=s2.heap.objs.size+1:=by rw[<- hH2,bY]
 have hDC:s2.heap.objs.size≠G2.objs.size:=by rw[hC];exact ba (dB _)
 have old:∀b o,s2.heap.get? b=some o->h₁.get? b=some o:=fun b o e=>hsb₁.extBut b o (by rw[hC];exact ba (cZ (aE e))) (ak _ (hH2▸ak _ e))
 have hacc:h₁.get? s2.heap.objs.size=some { cls:=.type "list",data:=.seq ([]:List Value).toArray }:=hsb₁.extBut _ _ hDC (ak _ (hH2▸au _ rfl))
 have okB:(cK X nm scope cl G2.objs.size s2 H1 fp).Ok:=by
  refine⟨I2.ok.mod,jn,I2.ok.glob,I2.ok.blt,by show s2.heap.objs.size<=G2.objs.size;omega,fun x y c h1 h2=>I2.ok.inj x y c (lX _ _ h1) (lX _ _ h2),fun x hx=>GO x hx,fun x c h0=>(by cases h0),fun hc=>I2.ok.hd kN,I2.ok.frames,.inl rfl,?_,?_,?_,?_,?_,?_,?_⟩
  ·intro b hb
   exact⟨ba (aU (hfpn b hb) (by show _<=G2.objs.size;omega)),fun x c hx=>hfpc b hb x c (lX _ _ hx)⟩
  ·exact fun b o hb=>I2.bs b o hb
  ·exact bh I2.ok.bsz I2.sz
  ·intro b o hb z
   rcases(f2 b z).2.2.2.1 with q|q
   ·exact I2.ok.noex b o hb q
   ·exact absurd (aE (I2.ok.bs b o hb).1) (mT.mpr q)
  ·intro b hb z
   rcases aM.mp (I2.stkSub b z)with q|q
   ·exact(f2 b hb).2.1 q
   ·exact(f2 b hb).2.2.1 q
  ·exact I2.stack
  ·exact I2.stkFree
 have I4:bw (cK X nm scope cl G2.objs.size s2 H1 fp) [] (oN cap σ) H1 { s2 with heap:=h₁,toks:=s2.toks+([]:List (Str×Value)).length }:=by
  refine JD za eR I2 hfpc (σ2:=List.replicate nm.length none) ⟨okB,rfl,I2.bare,Un.kept old,⟨_,hns₁,fun i x v _ e2=>?_⟩,fun x c hx=>?_,?_,fun x c hx=>I2.freeC x c (lX _ _ hx),fun p hp=>absurd hp (by simp),I2.hok.kept old,by simp⟩
  ·rw[iw]at e2;split at e2<;>cases e2
  ·obtain⟨v,hv⟩:=I2.cell x c (lX _ _ hx)
   exact⟨v,hv.keeps old⟩
  ·exact I2.hok.fresh (by show _<=G2.objs.size;omega)
 have hsz0:∀{Hx:Hp} {sx:Shared} {px:List (Addr×Obj)} {σx:St},bw (cK X nm scope cl G2.objs.size s2 H1 fp) px σx Hx sx->Hx s2.heap.objs.size=none->∀{oa:Obj},sx.heap.get? s2.heap.objs.size=some oa->(∀v,oa.data≠.cell v) ->
   bw (cK X nm scope cl G2.objs.size s2 H1 fp) [(s2.heap.objs.size,oa)] σx Hx sx:=fun{Hx sx px σx} Ix hn {oa} ho hd=>Ix.pins_of fun p hp=>by
  have e:p=(s2.heap.objs.size,oa):=by simpa using hp
  subst e
  exact⟨ho,hn,hDC,fun z=>by
   obtain⟨_,o,q,_⟩:=I2.stack.mem z
   exact absurd (aE q) (cV _),hd⟩
 have hfpB:∀{Hx:Hp} {oa:Obj},(∀b∈fp,Hx b=none)->∀b∈fp,rJ (cK X nm scope cl G2.objs.size s2 H1 fp) [(s2.heap.objs.size,oa)] Hx b:=fun{Hx oa} hn b hb=>
  ⟨hn b hb,(okB.exf b hb).1,okB.exfs b hb,.inl hb,(okB.exf b hb).2,fun p hp=>by
   have e:p=(s2.heap.objs.size,oa):=by simpa using hp
   subst e
   exact fJ (hfpn b hb)⟩
 have hcalmB:(cK X nm scope cl G2.objs.size s2 H1 fp).calm=true:=kN
 have loop:∀sx:Shared,sx={ s2 with heap:=h₁,toks:=s2.toks+([]:List (Str×Value)).length } ->
   codeAny (model X.prog X.w) X.A (.compLoop (.ListComp qk [⟨tg,eh,nZ,0⟩] scope pos) 0 (.ref it) (.ref s2.heap.objs.size) (compEnvC scope cl G2.objs.size X.env))
    (compPost (model X.prog X.w) X.A X.xe use Qv (.ref s2.heap.objs.size) G2.objs.size) sx:=by
  rintro sx rfl
  refine codeAny_loop rfl (fun n s'=>∃i ys H',bw (cK X nm scope cl G2.objs.size s2 H1 fp) [] (oN cap σ) H' s'/\tn i s'.heap/\(∀b∈fp,H' b=none)/\H' s2.heap.objs.size=none /\
   (∃bI k,cw ys bI/\s'.heap.get? s2.heap.objs.size=some { cls:=.type "list",data:=.seq bI.toArray k })/\W i n ys H') ?_ m0
   ⟨0,[],H1,I4,T.keep _ _ _ dw (fun b _ o e=>old b o e),fun b hb=>(f2 b hb).1,I2.fresh,⟨[],0,.nil,hacc⟩,w0⟩
  rintro n s3 ⟨i,ys,H3,I3,jB,fr3,na3,⟨bI,ka,rv,ea⟩,w3⟩
  show wpAny _ X.A ((compTurn (.ListComp qk [⟨tg,eh,nZ,0⟩] scope pos) 0 (.ref it) (.ref s2.heap.objs.size) (compEnvC scope cl G2.objs.size X.env)).onRaise (fun x=>do noteFrame x (compEnvC scope cl G2.objs.size X.env);theTreesLotGoes x)) _ _ s3
  refine wpAny_noted ?_
  rw[compTurn_list]
  refine aa (oY ?_)
  have I3p:=hsz0 I3 na3 ea (fun v z=>by cases z)
  rcases turn i n ys H3 w3 with⟨stop,hz,qn⟩|⟨go,step⟩
  ·refine aa (dY (T.done (cK X nm scope cl G2.objs.size s2 H1 fp) rfl rfl rfl hcalmB i _ s3 _ H3 (fun _ _=>False) I3p (hfpB fr3) jB stop) (fun r s4 hr=>?_) fun _ _ z=>z.elim)
   obtain⟨hr,I4'⟩:=hr
   subst hr
   refine am ?_
   obtain⟨m4,hn4,_⟩:=id I4'.loc
   have pa:=I4'.pin (s2.heap.objs.size,{ cls:=.type "list",data:=.seq bI.toArray ka }) (by simp)
   have ne:∀b o,s2.heap.get? b=some o->b≠s2.heap.objs.size/\b≠G2.objs.size:=fun b o e=>⟨ba (aE e),ba (by rw[hC];exact cZ (aE e))⟩
   have I5:bw X af σ (eY H3 s2.heap.objs.size (.lst ys)) s4:=by
    refine I2.call' (ch:=fp) I4'.os ⟨fun b o e n hb hx=>?_,fun b o e n hb hx=>?_,fun b o e n hx=>?_,fun b o e hx=>?_,fun b xs e=>?_,fun b o u e=>?_,fun b ps e=>?_⟩ ?_ I4'.bare fun b hb=>?_
    ·exact I4'.base.keep b o e n hb hx
    ·exact I4'.base.slot b o e n hb hx
    ·rw[cv (ne b o e).1];exact I4'.base.free b o e n hx
    ·exact I4'.base.there b o e hx
    ·have q:=I4'.base.tups b xs e
     rw[cv (eZ q na3)];exact q
    ·have q:=I4'.base.frzs b o u e
     rw[cv (eZ q na3)];exact q
    ·obtain⟨mr,q⟩:=I4'.base.tbls b ps e
     exact⟨mr,by rw[cv (eZ q na3)];exact q⟩
    ·intro b o e
     by_cases hb:b=s2.heap.objs.size
     ·subst hb
      rw[dR]at e;cases e
      exact⟨hz,bI,ka,rv,pa.1⟩
     ·rw[cv hb]at e
      exact(I4'.hok b o e).stay (fun c u hc q=>q) (fun c q=>by rw[cv (eZ q na3)];exact q) fun c xs q=>by rw[cv (eZ q na3)];exact q
    ·obtain⟨_,g1,_,g3,g4,g5⟩:=f2 b hb
     exact⟨g3,g1,g4,g5⟩
   have lC:s2.heap.objs.size<=G2.objs.size:=by rw[hC];exact gM _
   exact lE s4 G2.objs.size _ m4 _ I5 ⟨hn4,by rw[cv (Ne.symm hDC)];exact I4'.free,fJ (aU I2.lt lC),I2.nofs lC,bh I2.sz lC,fun x c hx z=>(by
    obtain⟨v,o,ho,_⟩:=I2.cell x c hx
    exact absurd (aE ho) (by rw[z];exact mT.mpr lC)),fun p hp z=>(by
    have:=(I2.pin p hp).1
    exact absurd (aE this) (by rw[z];exact mT.mpr lC))⟩ (qn _ na3)
  ·refine aa (dY (T.item (cK X nm scope cl G2.objs.size s2 H1 fp) rfl rfl rfl hcalmB i _ s3 _ H3 (fun _ _=>False) I3p (hfpB fr3) jB go) (fun r s4 hr=>?_) fun _ _ z=>z.elim)
   obtain⟨u,hr,h4⟩:=hr
   subst hr
   dsimp only
   refine aa (dY h4 (fun _ s5 h5=>?_) fun _ _ z=>z.elim)
   obtain⟨x,H5,I5,r5,y5,st5,fr5⟩:=h5
   have I5':=I5.pinned (hfpB fr5) (T.obj _ _ st5)
   refine aa (dY (hg _ _ _ _ _ s5 _ H5 x u _ I5' r5 (step x H5 y5)) (fun _ s6 h6=>?_) fun _ _ z=>z.elim)
   obtain⟨σ6,H6,I6,q6⟩:=h6
   refine aa (dY (ht _ _ _ _ _ s6 σ6 H6 _ I6 q6) (fun ok s7 h7=>?_) fun _ _ z=>z.elim)
   obtain⟨H7,I7,q7⟩:=h7
   have back:∀{H8:Hp} {s8:Shared} {OG:List V} {its':List Value} {k':Nat},bw (cK X nm scope cl G2.objs.size s2 H1 fp) [] σ6 H8 s8->(∀b∈fp,∀o,s5.heap.get? b=some o->s8.heap.get? b=some o)->(∀b∈fp,H8 b=none)->H8 s2.heap.objs.size=none ->
     cw OG its'->s8.heap.get? s2.heap.objs.size=some { cls:=.type "list",data:=.seq its'.toArray k' }->(∃m',m'<n/\W (i+1) m' OG H8) ->
     ∃m,m<n/\∃i ys H',bw (cK X nm scope cl G2.objs.size s2 H1 fp) [] (oN cap σ) H' s8/\tn i s8.heap/\(∀b∈fp,H' b=none)/\H' s2.heap.objs.size=none /\
      (∃bI k,cw ys bI/\s8.heap.get? s2.heap.objs.size=some { cls:=.type "list",data:=.seq bI.toArray k })/\W i m ys H':=
    fun{H8 s8 OG its' k'} I8 kf f8 n8 rv8 e8 ⟨m',hm,w8⟩=>⟨m',hm,i+1,OG,H8,JD za eR I2 hfpc I8,T.keep _ _ _ st5 kf,f8,n8,⟨its',k',rv8,e8⟩,w8⟩
   cases ok with
   |false=>
    refine am ⟨rfl,?_⟩
    have q7':∃m',m'<n/\W (i+1) m' ys H7:=by simpa using q7
    have pa:=I7.pin (s2.heap.objs.size,{ cls:=.type "list",data:=.seq bI.toArray ka }) (by simp)
    refine back (I7.pins_of fun p hp=>absurd hp (by simp)) (fun b hb o e=>?_) (fun b hb=>?_) pa.2.1 rv pa.1 q7'
    ·exact(I7.pin (b,o) (aX _ (aX _ (iT hb e)))).1
    ·obtain⟨o,e,d⟩:=T.obj _ _ st5 b hb
     exact(I7.pin (b,o) (aX _ (aX _ (iT hb e)))).2.1
   |true=>
    rw[aq rfl]at q7
    refine aa (aa (dY (he _ _ _ _ _ s7 σ6 H7 _ I7 q7) (fun xv s8 h8=>?_) fun _ _ z=>z.elim))
    obtain⟨y,H8,I8,r8,hzy,q8⟩:=h8
    have pa:=I8.pin (s2.heap.objs.size,{ cls:=.type "list",data:=.seq bI.toArray ka }) (by simp)
    refine aa (vB pa.1 (by rw[<- rv.length];exact hzy) fun h' k' tk e9 sb=>?_)
    refine am (am ⟨rfl,?_⟩)
    have I9:bw (cK X nm scope cl G2.objs.size s2 H1 fp) [] σ6 H8 { s8 with heap:=h',toks:=tk }:=
     (bw.pins_of (pins':=[]) I8 fun p hp=>absurd hp (by simp)).turned (it:=s2.heap.objs.size) (fun b o hb e=>sb b o hb e) pa.2.1 hDC (.inr (ay _)) (fun x c hx z=>by
      obtain⟨v,hv⟩:=I2.cell x c (lX _ _ hx)
      exact absurd hv.lt (by rw[z];exact cV _)) (fun p hp=>absurd hp (by simp))
    refine back I9 (fun b hb o e=>?_) (fun b hb=>?_) pa.2.1 (rv.append (.cons r8 .nil)) e9 q8
    ·exact sb b o (ba (hfpn b hb)) (I8.pin (b,o) (aX _ (aX _ (iT hb e)))).1
    ·obtain⟨o,e,d⟩:=T.obj _ _ st5 b hb
     exact(I8.pin (b,o) (aX _ (aX _ (iT hb e)))).2.1
 exact codeAny_compStart_list (loop _ rfl) (T.self _ _ _ _ _ (T.keep _ _ _ dw fun b _ o e=>old b o e) (loop _ rfl))
theorem HL(kN:X.calm=true)(ze:closureFor scope X.env=pure cl)(lX:∀x c,cl.lookup x=some c->X.env.cells.lookup x=some c)
  (jn:scope.kind=.function) (tU:∀x∈scope.names,x.2=.local->scope.names.lookup x.1=some .local) (fg:∀y∈scope.names,y.2≠.cell)
  (GO:∀x,((relabel scope X.env).names.lookup x=some .cell\/(relabel scope X.env).names.lookup x=some .free)->∃c,cl.lookup x=some c)
  (za:∀(i j:Nat),cap[i]?=some (some j)->∃x,nm[i]?=some x/\X.N[j]?=some x/\A4 X scope cl x) (eR:cap.length=nm.length)
  (hi:PI X tg eh wi) (hg:∀C s0 H0 fp,PG (cK X nm scope cl C s0 H0 fp) tg g) (ht:∀C s0 H0 fp,Ha (cK X nm scope cl C s0 H0 fp) nZ tc)
  (he:∀C s0 H0 fp,PE (cK X nm scope cl C s0 H0 fp) qk te) (hs:∀x,foldedSetIterable eh X.env x=pure x:=by intro _;rfl) :
  PE X (.ListComp qk [⟨tg,eh,nZ,0⟩] scope pos) (uE cap wi g tc te):=by
 intro af s σ H Q I h
 rw[eval_ListComp]
 exact uF kN ze lX jn tU fg GO za eR hi hg ht he hs I h fun s4 C D m4 Hn I4 B q=>⟨m4,B.ns,fun h' hs'=>⟨.ref D,Hn,B.off I4 hs',rfl,q⟩⟩
end
def tx(l:List Nat):Str:=⟨l.toArray⟩
theorem LZ(l:List Nat):(tx l).cps.toList=l:=rfl
theorem gG(l:List Nat):(tx l).length=l.length:=by show l.toArray.size=_;simp
theorem zD(a b:List Nat):tx a++tx b=tx (a++b):=by
 show(⟨a.toArray++b.toArray⟩:Str)=⟨(a++b).toArray⟩
 simp
theorem DZ{a b:List Nat}:tx a=tx b↔a=b:=⟨fun h=>by have:=cM (fun z:Str=>z.cps.toList) h;exact this,fun h=>by rw[h]⟩
def Pj(mP:List V):It:=⟨fun i _=>i<mP.length,fun i H x H'=>H'=H/\mP[i]?=some x,fun i _=>mP.length<=i⟩
theorem pb{P:Program}{w:World}{K:Frag}{tg:Expr}{it:Addr}{mP:List V}{Pr:Nat->Value->Prop}{S:Nat->Heap->Prop}{ty:String}
  (W:∀A:Around,A.handled=none->Walks P w A it [it] [it] mP.length Pr S) (hv:∀i v,i<mP.length->Pr i v->∃x,mP[i]?=some x/\cB x v)
  (GJ:∀i h,S i h->∃o vs,h.get? it=some o/\o.cls=.type ty/\o.data=.fields vs)
  (y0:["enumerate","zip","dict_itemiterator","dict_reverseitemiterator","odict_iterator","itertools.zip_longest","itertools.pairwise"].contains ty=false)
  (GQ:∀(A:Around) (i:Nat) (s:Shared) (Q:Value->Shared->Prop) (E:Value->Shared->Prop),S i s.heap->Q (.ref it) s->wpAny (model P w) A (pyIter (.ref it)) Q E s) :
  zr P w K tg (Pj mP) [it] it (fun i h=>i<=mP.length/\S i h) where
 mem:=by simp
 obj:=fun i h st b hb=>by
  have e:b=it:=by simpa using hb
  subst e
  obtain⟨o,vs,e,c,d⟩:=GJ i h st.2
  exact⟨o,e,fun v z=>by rw[d]at z;cases z⟩
 keep:=fun i h h' st k=>⟨st.1,(W { depth:=0,handled:=none,frames:=none } rfl).frame i h h' st.2 k⟩
 item:=by
  intro X hP hw hK hc i af s σ H E I hf st hg
  subst hP hw hK
  obtain⟨f0,f1,f2,f3,f4,f5⟩:=hf it (by simp)
  refine(W X.A (I.ok.hd hc)).item i s _ _ hg st.2 fun v h' tk hp bu kk=>?_
  have I1:bw X af σ H { s with heap:=h',toks:=tk }:=I.turned (fun b o hb e=>kk b o (by simpa using hb) e) f0 f1 f3 f4 f5
  obtain⟨x,hx,rx⟩:=hv i v hg hp
  obtain⟨o,vs,e,c,d⟩:=GJ _ _ bu
  exact⟨v,rfl,AZ (s:={ s with heap:=h',toks:=tk }) e c d y0 ⟨x,H,I1,rx,⟨rfl,hx⟩,⟨hg,bu⟩,fun b hb=>(hf b hb).1⟩⟩
 done:=by
  intro X hP hw hK hc i af s σ H E I hf st hg
  subst hP hw hK
  obtain⟨f0,f1,f2,f3,f4,f5⟩:=hf it (by simp)
  have e:i=mP.length:=Nat.le_antisymm st.1 hg
  refine(W X.A (I.ok.hd hc)).done s _ _ (e▸st.2) fun h' tk kk=>⟨rfl,I.turned (fun b o hb e=>kk b o (by simpa using hb) e) f0 f1 f3 f4 f5⟩
 self:=fun A i s Q E st h=>GQ A i s Q E st.2 h
section
variable{X:Cx}{tg:Expr}
def gH(l:List Nat):List V:=l.map fun c=>.str (tx [c])
def SQ(tl:TE):TI:=fun σ H R=>tl σ H fun x H1=>∃l,x=.str (tx l)/\R (Pj (gH l)) H1
theorem Ch{l:List Nat}(i:Nat)(v:Value)(hi:i<(gH l).length)(h:SignAt (tx l) i v):∃x,(gH l)[i]?=some x/\cB x v:=by
 obtain⟨c,u,hc,e⟩:=h
 refine⟨.str (tx [c]),?_,u,e⟩
 unfold gH
 rw[aD]
 have:l[i]?=some c:=by simpa[tx]using hc
 rw[this];rfl
theorem L0{l:Expr}{tl:TE}(hl:PE X l tl):PI X tg l (SQ tl):=by
 intro af s σ H R I h
 refine gE (hl af s σ H _ I h) fun v s1 ⟨x,H1,I1,r1,q1⟩=>?_
 obtain⟨l,e,q⟩:=q1
 subst e
 obtain⟨t,rfl⟩:=r1
 have hn:(tx l).cps.size=(gH l).length:=by unfold gH;simp[tx]
 have lE:∀(ob:Obj) (S:Nat->Heap->Prop) (ty:String),(∀A:Around,A.handled=none->Walks X.prog X.w A s1.heap.objs.size [s1.heap.objs.size] [s1.heap.objs.size] (tx l).cps.size (SignAt (tx l)) S)->S 0 (s1.heap.push ob) ->
   (∀i h,S i h->∃o vs,h.get? s1.heap.objs.size=some o/\o.cls=.type ty/\o.data=.fields vs) ->
   ["enumerate","zip","dict_itemiterator","dict_reverseitemiterator","odict_iterator","itertools.zip_longest","itertools.pairwise"].contains ty=false ->
   (∀(A:Around) (i:Nat) (s:Shared) (Q:Value->Shared->Prop) (E:Value->Shared->Prop),S i s.heap->Q (.ref s1.heap.objs.size) s->wpAny (model X.prog X.w) A (pyIter (.ref s1.heap.objs.size)) Q E s) ->
   Sw X af σ tg R (.ref s1.heap.objs.size) { s1 with heap:=s1.heap.push ob }:=fun ob S ty W h0 GJ y0 GQ=>by
  rw[hn]at W
  refine⟨s1.heap.objs.size,[s1.heap.objs.size],_,_,H1,rfl,I1.kept (t':=s1.toks) fun b o e=>ak _ e,pb W (fun i v hi hp=>Ch i v hi hp) GJ y0 GQ,⟨ca _,h0⟩,fun b hb=>?_,q⟩
  have e:b=s1.heap.objs.size:=by simpa using hb
  subst e
  exact I1.fpOk (ay _) I1.fresh
 cases ha:(tx l).cps.all (· < 128)
 ·exact wpAny_pyIter_wide ha (lE _ _ _ (fun A hA=>Walks.strWide hA _ (tx l) t) ⟨_,au _ rfl,rfl,rfl⟩ (fun i h st=>by obtain⟨o,a,b,c⟩:=st;exact⟨o,_,a,b,c⟩) (by decide) fun A i s Q E st h=>wpAny_pyIter_striter_wide st h)
 ·exact wpAny_pyIter_ascii ha (lE _ _ _ (fun A hA=>Walks.strAscii hA _ (tx l) t) ⟨_,au _ rfl,rfl,rfl⟩ (fun i h st=>by obtain⟨o,a,b,c⟩:=st;exact⟨o,_,a,b,c⟩) (by decide) fun A i s Q E st h=>wpAny_pyIter_striter_ascii st h)
def Ci(l:List Nat)(lo hi:Option Int):List Nat:=(l.drop (HT.sIx l.length 0 lo)).take (HT.sIx l.length l.length hi-HT.sIx l.length 0 lo)
theorem w9(l:List Nat)(lo hi:Option Int):(Ci l lo hi).length<=l.length:=by unfold Ci;rw[aV,f_];omega
theorem zE(l:List Nat)(i k:Nat):((List.range k).map fun(m:Nat)=>i+m).filterMap (fun j=>l[j]?)=(l.drop i).take k:=by
 induction k generalizing i with
 |zero=>simp
 |succ k ih=>
  rw[mU,aN,a8]
  have e:((fun m=>i+m)∘Nat.succ)=fun m=>(i+1)+m:=by funext m;simp[Function.comp];omega
  rw[e]
  by_cases h:i<l.length
  ·rw[fU]
   simp only[Nat.add_zero,ae h]
   rw[ih (i+1),fC h,List.take_succ_cons]
  ·rw[fU]
   have h':l.length<=i:=by omega
   simp only[Nat.add_zero,b9 h']
   rw[ih (i+1),mV h',mV (by omega)]
   simp
theorem JE(v:Int)(n d:Nat):(if (1:Int)>0 then max 0 (min (if v<0 then v+(n:Int)else v) (n:Int))else max (-1) (min (if v<0 then v+(n:Int)else v) ((n:Int)-1)))=((HT.sIx n d (some v):Nat):Int):=by
 rw[aq (by omega)]
 show _=(((if v<0 then(v+(n:Int)).toNat else min v.toNat n):Nat):Int)
 by_cases hv:v<0
 ·simp only[aq hv];omega
 ·simp only[ax hv];omega
theorem L1(lo hi:Option Int)(n:Nat):Builtin.Str.strSliceIndices lo hi 1 n=(List.range (HT.sIx n n hi-HT.sIx n 0 lo)).map fun(m:Nat)=>HT.sIx n 0 lo+m:=by
 have key:∀a b:Nat,sliceRange (a:Int) (b:Int) 1=(List.range (b-a)).map fun(m:Nat)=>a+m:=fun a b=>by
  unfold sliceRange
  have e:(if (1:Int)>0 then(if (a:Int)<(b:Int)then((b:Int)-a+1-1)/1 else 0)else(if (a:Int)>b then((a:Int)-b-1-1)/(-1)else 0)).toNat=b-a:=by
   rw[aq (by omega)]
   by_cases h:(a:Int)<b
   ·rw[aq h];omega
   ·rw[ax h];omega
  dsimp only
  rw[e]
  refine cf fun k _=>?_
  omega
 unfold Builtin.Str.strSliceIndices
 rw[<- key]
 dsimp only
 congr 1
 ·cases lo with
  |none=>rfl
  |some v=>exact JE v n 0
 ·cases hi with
  |none=>rfl
  |some v=>exact JE v n n
theorem D0(l:List Nat)(lo hi:Option Int):Txt.slice (tx l) lo hi=tx (Ci l lo hi):=by
 unfold Txt.slice
 rw[L1,gG]
 split
 ·rename_i h
  simp only[gY,Bool.true_and,c7,ar,kR]at h
  unfold Ci
  have h1:=HT.sIx_le l.length l.length (ay _) hi
  have h2:=HT.sIx_le l.length 0 (ca _) lo
  by_cases hz:l.length=0
  ·have:l=[]:=gb hz
   subst this;simp
  ·have e0:HT.sIx l.length 0 lo=0:=by omega
   rw[e0,List.drop_zero,bz (by omega)]
 ·unfold Ci tx
  have:∀j:Nat,(l.toArray)[j]?=l[j]?:=fun j=>by simp
  simp only[this]
  rw[zE]
def SR:V->Option Int->Option Int->Hp->VK->Prop:=fun x lo hi H Q=>∃l,x=.str (tx l)/\l.length<=sizeLine/\Q (.str (tx (Ci l lo hi))) H
theorem A6{v:Value}{o:Option Int}(p:IsPart v o):∃q:Option (Int×Tok),v=partValue q/\q.map (·.1)=o:=by
 cases p with
 |none=>exact⟨none,rfl,rfl⟩
 |int i t=>exact⟨some (i,t),rfl,rfl⟩
theorem L3:Ds X SR:=by
 intro af s σ H x v vl vu lo hi sl Q I rx hs pl pu h
 obtain⟨l,e,hz,q⟩:=h
 subst e
 obtain⟨t,rfl⟩:=rx
 obtain⟨pl',rfl,rfl⟩:=A6 pl
 obtain⟨pu',rfl,rfl⟩:=A6 pu
 refine⟨"str",_,F.slot_str_getitem.lookup,ii _ _ _,?_⟩
 refine wpAny_getItem_str_slice (l:=pl') (u:=pu') (st:=none) hs rfl (post_val_or_str ?_)
 have e:=D0 l (pl'.map (·.1)) (pu'.map (·.1))
 unfold Txt.slice at e
 show(if ((1:Int)==1&&(Builtin.Str.strSliceIndices (pl'.map (·.1)) (pu'.map (·.1)) 1 (tx l).length).length==(tx l).length)=true then tx l else⟨((Builtin.Str.strSliceIndices (pl'.map (·.1)) (pu'.map (·.1)) 1 (tx l).length).filterMap ((tx l).cps[·]?)).toArray⟩:Str).length<=sizeLine /\
  ∀t' k,EP X af σ Q (.str (if ((1:Int)==1&&(Builtin.Str.strSliceIndices (pl'.map (·.1)) (pu'.map (·.1)) 1 (tx l).length).length==(tx l).length)=true then tx l else⟨((Builtin.Str.strSliceIndices (pl'.map (·.1)) (pu'.map (·.1)) 1 (tx l).length).filterMap ((tx l).cps[·]?)).toArray⟩:Str) t') { s with toks:=k }
 rw[e,gG]
 exact⟨bh (w9 l _ _) hz,fun t' k=>⟨.str _,H,I.tok k,⟨t',rfl⟩,q⟩⟩
theorem D1(c:Nat)(l:List Nat):(!(Builtin.Str.occurrences (tx l) (tx [c]) 0 (tx l).length 1).isEmpty)=decide (c∈l):=StrLaws.found_one (tx l) c
def Pk(RJ:Bool):R2:=fun x y H Q=>∃c l,x=.str (tx [c])/\y=.str (tx l)/\Q (.bl (if RJ then !decide (c∈l)else decide (c∈l))) H
theorem Cj:k6 X (compareOp .In) (Pk false):=by
 intro af s σ H x y v u Q I rx ry h
 obtain⟨c,l,rfl,rfl,q⟩:=h
 exact B8 af s σ H _ _ v u Q I rx ry ⟨_,_,rfl,rfl,by rw[D1];exact q⟩
theorem vC:k6 X (compareOp .NotIn) (Pk true):=by
 intro af s σ H x y v u Q I rx ry h
 obtain⟨c,l,rfl,rfl,q⟩:=h
 exact vx af s σ H _ _ v u Q I rx ry ⟨_,_,rfl,rfl,by rw[D1];exact q⟩
theorem mj:∀{ys:List (List Nat)} {bI:List Value},cw (ys.map fun l=>V.str (tx l)) bI->StrsAre bI (ys.map tx)
 |[],_,r=>by cases r;exact .nil
 |y::ys,_,r=>by
  cases r with
  |cons r rr=>
   obtain⟨t,rfl⟩:=r
   exact .cons _ _ (mj rr)
theorem ml:∀{bI:List Value} {ss:List Str},StrsAre bI ss->cw (ss.map fun z=>V.str z) bI
 |_,_,.nil=>.nil
 |_,_,.cons y t r=>.cons ⟨t,rfl⟩ (ml r)
def je(sep:List Nat):List (List Nat)->List Nat
 |[]=>[]
 |[x]=>x
 |x::y::r=>x++sep++je sep (y::r)
theorem j5:∀ys:List (List Nat),je [] ys=ys.flatten
 |[]=>rfl
 |[x]=>by simp[je]
 |x::y::r=>by rw[je,j5 (y::r)];simp
theorem A7(sep:List Nat):∀ys:List (List Nat),Txt.join (tx sep) (ys.map tx)=tx (je sep ys):=fun ys=>by
 show Builtin.Str.glued (tx sep) (ys.map tx)=_
 rw[StrLaws.glued_eq_join]
 induction ys with
 |nil=>rfl
 |cons x r ih=>
  cases r with
  |nil=>rfl
  |cons y r=>
   show tx x++tx sep++Str.join (tx sep) ((y::r).map tx)=tx (x++sep++je sep (y::r))
   rw[ih,zD,zD]
def Pm(K:Frag):V->List V->Hp->VK->Prop:=fun x vs H Q=>∃(sep:List Nat) (a:Addr) (ys:List (List Nat)),x=.str (tx sep)/\vs=[.ref a]/\pN K H a (ys.map fun l=>V.str (tx l))/\(ys.map List.length).sum+ys.length*sep.length<=16777216/\Q (.str (tx (je sep ys))) H
theorem HM:w5 X "str.join" (Pm X.K):=by
 intro af s σ H x vs v us Q I rx rv h
 obtain⟨sep,a,ys,rfl,rfl,hS,hz,q⟩:=h
 obtain⟨t,rfl⟩:=rx
 obtain⟨u,rfl,ru⟩:=rv.one
 cases ru
 obtain⟨bI,r,p,_⟩:=I.list hS
 refine join_list p.isList (mj (by simpa using r)) ?_ fun t' k=>?_
 ·rw[a8,gG,ar]
  have e:((fun z:Str=>z.length)∘tx)=List.length:=by funext l;exact gG l
  rw[e];exact hz
 ·rw[A7]
  exact⟨.str _,H,I.tok k,⟨t',rfl⟩,q⟩
end
inductive D where
 |non|bl (b:Bool)|int (i:Int)|str (l:List Nat)|tnil|tcons (d r:D)
 deriving DecidableEq
def D.tup:List D->D
 |[]=>.tnil
 |d::r=>.tcons d (D.tup r)
mutual
def Dp(K:Frag)(H:Hp):D->V->Prop
 |.non,v=>v=.non
 |.bl b,v=>v=.bl b
 |.int i,v=>v=.int i
 |.str l,v=>v=.str (tx l)
 |.tnil,v=>∃p,v=.ref p/\fQ K H p []
 |.tcons d r,v=>∃p x xs,v=.ref p/\fQ K H p (x::xs)/\Dp K H d x/\DpL K H r xs
def DpL(K:Frag)(H:Hp):D->List V->Prop
 |.tnil,xs=>xs=[]
 |.tcons d r,xs=>∃x ys,xs=x::ys/\Dp K H d x/\DpL K H r ys
 |.non,_=>False
 |.bl _,_=>False
 |.int _,_=>False
 |.str _,_=>False
end
structure dD(K:Frag)(H H':Hp):Prop where
 t:∀p xs,fQ K H p xs->fQ K H' p xs
 z:∀b o u,H b=some (.frz o u)->H' b=some (.frz o u)
instance {K:Frag} {H H':Hp}:CoeFun (dD K H H') (fun _=>∀p xs,fQ K H p xs->fQ K H' p xs):=⟨dD.t⟩
mutual
theorem Dp.mono{K:Frag}{H H':Hp}(e:dD K H H'):∀{d:D} {v:V},Dp K H d v->Dp K H' d v
 |.non,_,h=>by unfold Dp at h ⊢;exact h
 |.bl _,_,h=>by unfold Dp at h ⊢;exact h
 |.int _,_,h=>by unfold Dp at h ⊢;exact h
 |.str _,_,h=>by unfold Dp at h ⊢;exact h
 |.tnil,_,h=>by unfold Dp at h ⊢;obtain⟨p,e1,e2⟩:=h;exact⟨p,e1,e _ _ e2⟩
 |.tcons d r,_,h=>by unfold Dp at h ⊢;obtain⟨p,x,xs,e1,e2,h1,h2⟩:=h;exact⟨p,x,xs,e1,e _ _ e2,Dp.mono e h1,DpL.mono e h2⟩
theorem DpL.mono{K:Frag}{H H':Hp}(e:dD K H H'):∀{d:D} {v:List V},DpL K H d v->DpL K H' d v
 |.non,_,h=>by unfold DpL at h;exact h.elim
 |.bl _,_,h=>by unfold DpL at h;exact h.elim
 |.int _,_,h=>by unfold DpL at h;exact h.elim
 |.str _,_,h=>by unfold DpL at h;exact h.elim
 |.tnil,_,h=>by unfold DpL at h ⊢;exact h
 |.tcons d r,_,h=>by unfold DpL at h ⊢;obtain⟨x,xs,e1,h1,h2⟩:=h;exact⟨x,xs,e1,Dp.mono e h1,DpL.mono e h2⟩
end
abbrev Dt(K:Frag)(H:Hp):List D->List V->Prop:=Paired fun d v=>Dp K H d v
theorem Dt.mono{K:Frag}{H H':Hp}(e:dD K H H'):∀{ds:List D} {vs:List V},Dt K H ds vs->Dt K H' ds vs
 |_,_,.nil=>.nil
 |_,_,.cons h t=>.cons (h.mono e) (Dt.mono e t)
theorem DpL.of{K:Frag}{H:Hp}:∀{ds:List D} {vs:List V},Dt K H ds vs->DpL K H (D.tup ds) vs
 |_,_,.nil=>by unfold D.tup DpL;rfl
 |_,_,.cons h t=>by unfold D.tup DpL;exact⟨_,_,rfl,h,DpL.of t⟩
theorem DpL.to{K:Frag}{H:Hp}:∀{ds:List D} {vs:List V},DpL K H (D.tup ds) vs->Dt K H ds vs
 |[],_,h=>by unfold D.tup DpL at h;subst h;exact .nil
 |d::ds,_,h=>by unfold D.tup DpL at h;obtain⟨x,xs,rfl,h1,h2⟩:=h;exact .cons h1 (DpL.to h2)
theorem Dp.tupI{K:Frag}{H:Hp}{p:Addr}{vs:List V}{ds:List D}(h:fQ K H p vs)(hd:Dt K H ds vs):Dp K H (D.tup ds) (.ref p):=by
 cases hd with
 |nil=>unfold D.tup Dp;exact⟨p,rfl,h⟩
 |cons a t=>unfold D.tup Dp;exact⟨p,_,_,rfl,h,a,DpL.of t⟩
theorem Dp.tupE{K:Frag}{H:Hp}{v:V}{ds:List D}(h:Dp K H (D.tup ds) v):∃p vs,v=.ref p/\fQ K H p vs/\Dt K H ds vs:=by
 cases ds with
 |nil=>unfold D.tup Dp at h;obtain⟨p,e,q⟩:=h;exact⟨p,[],e,q,.nil⟩
 |cons d r=>unfold D.tup Dp at h;obtain⟨p,x,xs,e,q,h1,h2⟩:=h;exact⟨p,_,e,q,.cons h1 (DpL.to h2)⟩
theorem fQ.same{K:Frag}{H H':Hp}(e:ju H H'):dD K H H':=⟨fun p xs h=>by
 rcases h with(h|⟨o,h⟩)|h
 ·exact .inl (.inl (e _ _ h))
 ·exact .inl (.inr ⟨o,e _ _ h⟩)
 ·exact .inr h,fun b o u h=>e _ _ h⟩
theorem cY{H:Hp}{p:Addr}(h:H p=none)(o:HO):ju H (eY H p o):=fun b u q=>by rw[cv (eZ q h)];exact q
def Du(l:Addr)(H H':Hp):Prop:=∀b o,b≠l->H b=some o->H' b=some o
theorem Du.refl{l:Addr}(H:Hp):Du l H H:=fun _ _ _ h=>h
theorem Du.trans{l:Addr}{H H1 H2:Hp}(a:Du l H H1)(b:Du l H1 H2):Du l H H2:=fun c o h q=>b c o h (a c o h q)
theorem ju.but{l:Addr}{H H':Hp}(a:ju H H'):Du l H H':=fun b o _ q=>a b o q
theorem mo{l:Addr}{H:Hp}{o:HO}:Du l H (eY H l o):=fun b u h q=>by rw[cv h];exact q
theorem fQ.but{K:Frag}{l:Addr}{xs:List V}{H H':Hp}(e:Du l H H')(hl:H l=some (.lst xs)):dD K H H':=by
 have oK:∀{p:Addr} {o:HO},H p=some o->(∀zs,o≠.lst zs)->p≠l:=fun{p o} q hn z=>by subst z;rw[hl]at q;cases q;exact hn _ rfl
 refine⟨fun p ys h=>?_,fun b o u h=>e _ _ (oK h (fun _ z=>by cases z)) h⟩
 rcases h with(h|⟨o,h⟩)|h
 ·exact .inl (.inl (e _ _ (oK h (fun _ z=>by cases z)) h))
 ·exact .inl (.inr ⟨o,e _ _ (oK h (fun _ z=>by cases z)) h⟩)
 ·exact .inr h
theorem dD.refl{K:Frag}{H:Hp}:dD K H H:=⟨fun _ _ h=>h,fun _ _ _ h=>h⟩
theorem dD.trans{K:Frag}{H H1 H2:Hp}(a:dD K H H1)(b:dD K H1 H2):dD K H H2:=⟨fun p xs h=>b p xs (a p xs h),fun c o u h=>b.z c o u (a.z c o u h)⟩
theorem fQ.new{K:Frag}{H:Hp}{p:Addr}{xs:List V}:fQ K (eY H p (.tup xs)) p xs:=fQ.of dR
theorem pN.but{K:Frag}{l a:Addr}{xs:List V}{H H':Hp}(e:Du l H H')(oK:a≠l)(h:pN K H a xs):pN K H' a xs:=by
 rcases h with(h|⟨o,h⟩)|h
 ·exact .inl (.inl (e _ _ oK h))
 ·exact .inl (.inr ⟨o,e _ _ oK h⟩)
 ·exact .inr h
structure SU(P:Program)(w:World)(K:Frag)(mg:Str->Option Value)(base:Heap)(k:Nat)(x:Str)(ps:List Str)(sp:Sp):Prop where
 ex:∃(f:Addr) (fd:FuncData),mg x=some (.ref f)/\keepIn K (.ref f)=true/\sB K fd ps []/\dE P w K mg base SM k f fd ps sp
theorem SU.mono{P:Program}{w:World}{K:Frag}{mg:Str->Option Value}{base:Heap}{j k:Nat}{x:Str}{ps:List Str}{sp:Sp}(h:SU P w K mg base j x ps sp)(hj:j<=k):SU P w K mg base k x ps sp:=by
 obtain⟨f,fd,a,b,c,d⟩:=h.ex
 exact⟨f,fd,a,b,c,d.mono hj⟩
theorem Pn{X:Cx}{x:Str}{v:V}{pos:Pos}(h:∃u,X.mg x=some u/\cB v u)(hg:Gl X x:=by rfl)(hd:(x==("__debug__":Str))=false:=by decide):PE X (.Name x pos) (tC v):=by
 obtain⟨u,a,b⟩:=h
 exact Hi hg a b hd
section
variable{X:Cx}{o e:Expr}{es:List Expr}{to:TE}{t:TA}{name:Str}{gW eJ:Pos}{id:String}{r:V->List V->Hp->VK->Prop}
def Ut(r:V->List V->Hp->VK->Prop)(to:TE)(t:TA):TE:=fun σ H Q=>to σ H fun x H1=>(∃l ys,x=.ref l/\H1 l=some (.lst ys))/\t σ H1 fun xs H2=>r x xs H2 Q
def Uu(r:V->List V->Hp->VK->Prop)(to:TE)(t:TA):TE:=fun σ H Q=>to σ H fun x H1=>(∃l,x=.str (tx l))/\t σ H1 fun xs H2=>r x xs H2 Q
def SV(r:V->List V->Hp->VK->Prop)(to:TE):TE:=fun σ H Q=>to σ H fun x H1=>(∃l ys,x=.ref l/\H1 l=some (.lst ys))/\r x [] H1 Q
theorem w_{K:Frag}{x:V}{H:Hp}(h:∃l ys,x=.ref l/\H l=some (.lst ys)):RU K "list" x H:=by
 obtain⟨l,ys,rfl,h⟩:=h
 exact .inl ⟨rfl,_,.of h⟩
theorem HN{K:Frag}{x:V}{H:Hp}(h:∃l,x=.str (tx l)):RU K "str" x H:=by
 obtain⟨l,rfl⟩:=h
 exact rfl
theorem D2{T:String}{ty:V->Hp->Prop}(TZ:∀x H,ty x H->RU X.K T x H)(pa:PlainAttrs T)(slot:Slot T name id)(y0:typeOf (.builtin id)=pure (.type "method_descriptor"))(hm:w5 X id r)(ho:PE X o to)(ha:PA X (e::es) t)
  (lY:attributeBase o name X.env (eval o X.env)=eval o X.env)
  (tZ:((backTo eJ (starEach (e::es) X.env)).all (fun x=>!x.1)&&(backToKw eJ (keywordEach [] X.env)).all (fun x=>x.1.isSome)
   && decide ((e::es).length+([]:List Keyword).length+(if ([]:List Keyword).isEmpty then 0 else 1)<30))=true)
  (lZ:(gW.endLine==eJ.line)=true) (hs:starEach (e::es) X.env=(false,eval e X.env)::starEach es X.env) (mO:(backTo eJ (starEach es X.env)).any (·.1)=false) :
  PE X (.Call (.Attribute o name gW) (e::es) [] eJ) (fun σ H Q=>to σ H fun x H1=>ty x H1/\t σ H1 fun xs H2=>r x xs H2 Q):=by
 intro af s σ H Q I h
 refine wpAny_Call_method_late lY tZ lZ rfl (gE (ho af s σ H _ I h) fun v s1 ⟨x,H1,I1,r1,ty,q1⟩=>?_)
 obtain⟨h1,h2⟩:=DR I1 r1 (TZ _ _ ty)
 refine⟨T,id,pa,slot,y0,h1,h2,?_⟩
 have hA:=ha eJ af s1 σ H1 _ I1 q1
 rw[hs]at hA ⊢
 refine iI (by show(false||(backTo eJ (starEach es X.env)).any (·.1))=false;rw[mO]<;>rfl) (Calls.evalArgs_plain ?_)
 exact gE hA fun us s2 ⟨vs,H2,I2,r2,q2⟩=>hm af s2 σ H2 x vs v us Q I2 r1 r2 q2
theorem Po(slot:Slot "list" name id)(y0:typeOf (.builtin id)=pure (.type "method_descriptor"))(hm:w5 X id r)(ho:PE X o to)(ha:PA X (e::es) t)
  (lY:attributeBase o name X.env (eval o X.env)=eval o X.env:=by rfl)
  (tZ:((backTo eJ (starEach (e::es) X.env)).all (fun x=>!x.1)&&(backToKw eJ (keywordEach [] X.env)).all (fun x=>x.1.isSome)
   && decide ((e::es).length+([]:List Keyword).length+(if ([]:List Keyword).isEmpty then 0 else 1)<30))=true:=by rfl)
  (lZ:(gW.endLine==eJ.line)=true:=by rfl) (hs:starEach (e::es) X.env=(false,eval e X.env)::starEach es X.env:=by rfl) (mO:(backTo eJ (starEach es X.env)).any (·.1)=false:=by rfl) :
  PE X (.Call (.Attribute o name gW) (e::es) [] eJ) (Ut r to t):=D2 (ty:=fun x H1=>∃l ys,x=.ref l/\H1 l=some (.lst ys)) (fun _ _ h=>w_ h) F.plainAttrs_list slot y0 hm ho ha lY tZ lZ hs mO
theorem Pp(slot:Slot "str" name id)(y0:typeOf (.builtin id)=pure (.type "method_descriptor"))(hm:w5 X id r)(ho:PE X o to)(ha:PA X (e::es) t)
  (lY:attributeBase o name X.env (eval o X.env)=eval o X.env:=by rfl)
  (tZ:((backTo eJ (starEach (e::es) X.env)).all (fun x=>!x.1)&&(backToKw eJ (keywordEach [] X.env)).all (fun x=>x.1.isSome)
   && decide ((e::es).length+([]:List Keyword).length+(if ([]:List Keyword).isEmpty then 0 else 1)<30))=true:=by rfl)
  (lZ:(gW.endLine==eJ.line)=true:=by rfl) (hs:starEach (e::es) X.env=(false,eval e X.env)::starEach es X.env:=by rfl) (mO:(backTo eJ (starEach es X.env)).any (·.1)=false:=by rfl) :
  PE X (.Call (.Attribute o name gW) (e::es) [] eJ) (Uu r to t):=D2 (ty:=fun x H1=>∃l,x=.str (tx l)) (fun _ _ h=>HN h) F.plainAttrs_str slot y0 hm ho ha lY tZ lZ hs mO
theorem L4(slot:Slot "list" name id)(y0:typeOf (.builtin id)=pure (.type "method_descriptor"))(hm:w5 X id r)(ho:PE X o to)
  (lY:attributeBase o name X.env (eval o X.env)=eval o X.env:=by rfl) (lZ:(gW.endLine==eJ.line)=true:=by rfl):PE X (.Call (.Attribute o name gW) [] [] eJ) (SV r to):=by
 intro af s σ H Q I h
 refine wpAny_Call_method0_late lY lZ (gE (ho af s σ H _ I h) fun v s1 ⟨x,H1,I1,r1,ty,q1⟩=>?_)
 obtain⟨h1,h2⟩:=DR I1 r1 (w_ ty)
 exact⟨"list",id,F.plainAttrs_list,slot,y0,h1,h2,iI rfl (PySem.evalArgs_none (hm af s1 σ H1 x [] v [] Q I1 r1 .nil q1))⟩
end
section
variable{X:Cx}{e:Expr}{es:List Expr}{te:TE}{t:TA}{pos:Pos}
def Pq(t:TA):TE:=fun σ H Q=>t σ H fun xs H1=>xs.length<=sizeLine/\∀p H2,H1 p=none->H2=eY H1 p (.tup xs)->Q (.ref p) H2
def Ps(t:TA):TE:=fun σ H Q=>t σ H fun xs H1=>xs.length<=sizeLine/\∀p H2,H1 p=none->H2=eY H1 p (.lst xs)->Q (.ref p) H2
theorem HP{x1}(h:PA X es t):PE X (.Tuple es x1 pos) (Pq t):=by
 intro af s σ H Q I hq
 refine wpAny_Tuple_spliced (gE (h pos af s σ H _ I hq) fun us s1 ⟨xs,H1,I1,r,z,q⟩=>⟨by rw[<- r.length];exact z,?_⟩)
 have hf:H1 s1.heap.objs.size=none:=I1.hok.fresh (ay _)
 refine⟨.ref s1.heap.objs.size,eY H1 s1.heap.objs.size (.tup xs),I1.laid (t':=s1.toks) (fun b u e=>ak _ e) (ay _) ?_,rfl,q _ _ hf rfl⟩
 exact⟨z,us,r,⟨_,au _ rfl,rfl,_,rfl⟩⟩
theorem HQ(h:PA X es t):PE X (.List es pos) (Ps t):=by
 intro af s σ H Q I hq
 refine wpAny_List_spliced (gE (h pos af s σ H _ I hq) fun us s1 ⟨xs,H1,I1,r,z,q⟩=>⟨by rw[<- r.length];exact z,?_⟩)
 have hf:H1 s1.heap.objs.size=none:=I1.hok.fresh (ay _)
 refine⟨.ref s1.heap.objs.size,eY H1 s1.heap.objs.size (.lst xs),I1.laid (t':=s1.toks) (fun b u e=>ak _ e) (ay _) ?_,rfl,q _ _ hf rfl⟩
 exact⟨z,us,0,r,au _ rfl⟩
theorem w5.imp{id:String}{r r':V->List V->Hp->VK->Prop}(h:w5 X id r)(i:∀x xs H Q,r' x xs H Q->r x xs H Q):w5 X id r':=fun af s σ H x xs v us Q I rx rv q=>h af s σ H x xs v us Q I rx rv (i _ _ _ _ q)
theorem hV.imp{f:Value}{r r':List V->Hp->VK->Prop}(h:hV X f r)(i:∀xs H Q,r' xs H Q->r xs H Q):hV X f r':=fun af s σ H xs us Q I rv q=>h af s σ H xs us Q I rv (i _ _ _ q)
theorem k6.imp{f:Value->Value->Sem Value}{r r':R2}(h:k6 X f r)(i:∀x y H Q,r' x y H Q->r x y H Q):k6 X f r':=fun af s σ H x y v u Q I rx ry q=>h af s σ H x y v u Q I rx ry (i _ _ _ _ q)
theorem Ds.imp{r r':V->Option Int->Option Int->Hp->VK->Prop}(h:Ds X r)(i:∀x lo hi H Q,r' x lo hi H Q->r x lo hi H Q):Ds X r':=fun af s σ H x v vl vu lo hi sl Q I rx hs pl pu q=>h af s σ H x v vl vu lo hi sl Q I rx hs pl pu (i _ _ _ _ _ q)
def D3:V->List V->Hp->VK->Prop:=fun x vs H Q=>∃l xs y,x=.ref l/\vs=[y]/\H l=some (.lst xs)/\xs.length<sizeLine/\∀H2,H2=eY H l (.lst (xs++[y]))->Q .non H2
theorem zF:w5 X "list.append" D3:=w5.imp (r:=A2) Cc fun _ _ _ _ ⟨l,xs,y,a,b,c,d,q⟩=>⟨l,xs,y,a,b,c,d,q _ rfl⟩
def Pt:V->List V->Hp->VK->Prop:=fun x vs H Q=>∃l xs y,x=.ref l/\vs=[]/\H l=some (.lst (xs++[y]))/\∀H2,H2=eY H l (.lst xs)->Q y H2
theorem HR:w5 X "list.pop" Pt:=w5.imp (r:=Pg) LR fun _ _ _ _ ⟨l,xs,y,a,b,c,q⟩=>⟨l,xs++[y],y,a,b,c,by simp,by rw[List.dropLast_concat];exact q _ rfl⟩
def D4(K:Frag):List V->Hp->VK->Prop:=fun xs H Q=>∃p ys,xs=[.ref p]/\pN K H p ys/\∀l H2,H l=none->H2=eY H l (.tup ys)->Q (.ref l) H2
theorem xc:hV X (.type "tuple") (D4 X.K):=hV.imp t_ fun _ _ _ ⟨p,ys,a,b,q⟩=>⟨p,ys,a,.inl ⟨b,fun l hl=>q l _ hl rfl⟩⟩
def Pu:R2:=fun x y H Q=>∃l b xs zs,x=.ref l/\y=.ref b/\H l=some (.lst xs)/\H b=some (.lst zs)/\xs.length+zs.length<=sizeLine/\∀p H2,H p=none->H2=eY H p (.lst (xs++zs))->Q (.ref p) H2
theorem HS:k6 X (binaryOp .Add) Pu:=k6.imp LS fun _ _ _ _ ⟨l,b,xs,zs,h1,h2,h3,h4,h5,q⟩=>⟨l,b,xs,zs,h1,h2,h3,h4,h5,fun p hp=>q p _ hp rfl⟩
end
def D5(T:String):Prop:=T="tuple"\/T="bool"\/T="int"\/T="str"
theorem DpL.ex{K:Frag}{H:Hp}:∀{d:D} {xs:List V},DpL K H d xs->∃ds,d=D.tup ds/\Dt K H ds xs
 |.tnil,xs,h=>by unfold DpL at h;subst h;exact⟨[],rfl,.nil⟩
 |.tcons d r,xs,h=>by
  unfold DpL at h
  obtain⟨x,ys,rfl,h1,h2⟩:=h
  obtain⟨ds,rfl,hd⟩:=DpL.ex h2
  exact⟨d::ds,rfl,.cons h1 hd⟩
 |.non,_,h=>by unfold DpL at h;exact h.elim
 |.bl _,_,h=>by unfold DpL at h;exact h.elim
 |.int _,_,h=>by unfold DpL at h;exact h.elim
 |.str _,_,h=>by unfold DpL at h;exact h.elim
def D.dep:D->Nat
 |.tcons d r=>max (d.dep+1) r.dep
 |_=>1
theorem Dt.get{K:Frag}{H:Hp}:∀{ds:List D} {vs:List V} {i:Nat} {d:D},Dt K H ds vs->ds[i]?=some d->∃v,vs[i]?=some v/\Dp K H d v
 |_,_,_,_,.nil,e=>by simp at e
 |_,_,0,_,.cons r _,e=>by simp at e;subst e;exact⟨_,rfl,r⟩
 |_,_,i+1,d,.cons _ t,e=>by
  obtain⟨u,h1,h2⟩:=Dt.get (i:=i) (d:=d) t (by simpa using e)
  exact⟨u,by simpa using h1,h2⟩
end L2
namespace L2
def D.size:D->Nat
 |.tcons d r=>d.size+r.size+1
 |_=>1
end L2
namespace L2
open PySem PySem.Spec PyProof.Rows
inductive CS:List Expr->List Str->Prop where
 |nil:CS [] []
 |cons {x:Str} {j:Nat} {p:Pos} {r:List Expr} {zs:List Str}:CS r zs->CS (.Constant (.str x) j p::r) (x::zs)
def Pv(zs:List Str):TA:=fun _ H Q=>Q (zs.map V.str) H
theorem HU{X:Cx}{es:List Expr}{zs:List Str}(h:CS es zs):PA X es (Pv zs):=by
 induction h with
 |nil=>exact zx
 |@cons x j p r zs _ ih=>
  intro pos af s σ H Q I hq
  exact rZ (X:=X) (DB (X:=X) (x:=x) (j:=j) (pos:=p)) ih (by rfl) pos af s σ H Q I hq
structure QE(X:Cx)(e:Expr)(t:TE):Prop where
 h:PE X e t
structure QA(X:Cx)(es:List Expr)(t:TA):Prop where
 h:PA X es t
structure QS(X:Cx)(s:Stmt)(t:TS):Prop where
 h:PS X s t
structure QG(X:Cx)(e:Expr)(t:TG):Prop where
 h:PG X e t
structure QI(X:Cx)(tg it:Expr)(t:TI):Prop where
 h:PI X tg it t
structure SX(X:Cx)(es:List Expr)(t:TT):Prop where
 h:Ha X es t
structure T7(X:Cx)(f:Value->Value->Sem Value)(r:R2):Prop where
 h:k6 X f r
structure JF(X:Cx)(f:Value)(r:List V->Hp->VK->Prop):Prop where
 h:hV X f r
section
variable{X:Cx}{a b c e o:Expr}{es:List Expr}{ta tb tc te to:TE}{t u:TA}{pos p p2 gW eJ:Pos}{x name:Str}{j:Nat}{tA Ro:TT}{rest:List Expr}
theorem m8:T7 X (binaryOp .LShift) (rI Lx fun i j=>.int (i*2^j.toNat)):=⟨DL⟩
variable{st:Stmt}{sr:List Stmt}{ts us:TS}{g:TG}
variable{tg:Expr}
end
section
variable{X:Cx}{tg eh c:Expr}{body:List Stmt}{wi:TI}{g:TG}{tb:TS}{pos:Pos}{tA:TT}
end
def dh(env:Env):List (Str×NameKind)->List (Str×Addr)->List (Str×Addr)
 |[],cs=>cs
 |(n,k)::r,cs=>dh env r (if k==.free then(n,(env.cells.lookup n).getD 0)::cs else cs)
theorem D6{scope:Scope}{env:Env}(h:∀x∈scope.names,x.2=.free->∃c,env.cells.lookup x.1=some c):closureFor scope env=pure (dh env scope.names []):=by
 unfold closureFor
 have key:∀(ns:List (Str×NameKind)) (cs:List (Str×Addr)),(∀x∈ns,x.2=.free->∃c,env.cells.lookup x.1=some c) ->
   (forIn ns cs fun(x:Str×NameKind) (r:List (Str×Addr))=>if (x.2==NameKind.free)=true then(do let a <- cellOf env x.1;pure (ForInStep.yield ((x.1,a)::r)))else(pure (ForInStep.yield r):Sem _))=pure (dh env ns cs):=by
  intro ns
  induction ns with
  |nil=>intro cs _;rfl
  |cons y r ih=>
   intro cs hc
   obtain⟨n,k⟩:=y
   rw[nu]
   have ihr:=fun cs=>ih cs fun x hx=>hc x (aH _ hx)
   by_cases hk:(k==NameKind.free)=true
   ·obtain⟨c,e⟩:=hc (n,k) a7 (j_ hk)
    have e2:cellOf env n=pure c:=by unfold cellOf;rw[e]
    show((if (k==NameKind.free)=true then _ else _) >>= _)=pure (dh env r (if (k==NameKind.free)=true then _ else _))
    rw[aq hk,aq hk,e2]
    simp only[pure_bind]
    have e3:(env.cells.lookup n).getD 0=c:=by rw[show env.cells.lookup n=some c from e];rfl
    rw[e3]
    exact ihr _
   ·show((if (k==NameKind.free)=true then _ else _) >>= _)=pure (dh env r (if (k==NameKind.free)=true then _ else _))
    rw[ax hk,ax hk]
    simp only[pure_bind]
    exact ihr _
 have:=key scope.names [] h
 dsimp only
 rw[this];simp only[pure_bind]
theorem lG{env:Env}:∀(ns:List (Str×NameKind)) (cs:List (Str×Addr)),(∀x∈ns,x.2=.free->∃c,env.cells.lookup x.1=some c)->(∀y∈cs,env.cells.lookup y.1=some y.2)->∀y∈dh env ns cs,env.cells.lookup y.1=some y.2
 |[],cs,_,h=>h
 |(n,k)::r,cs,hf,h=>by
  refine lG r _ (fun x hx=>hf x (aH _ hx)) ?_
  by_cases hk:(k==NameKind.free)=true
  ·rw[aq hk]
   intro y hy
   rcases aM.mp hy with rfl|hy
   ·obtain⟨c,e⟩:=hf (n,k) a7 (j_ hk)
    show env.cells.lookup n=some ((env.cells.lookup n).getD 0)
    rw[show env.cells.lookup n=some c from e];rfl
   ·exact h y hy
  ·rw[ax hk];exact h
theorem sF{env:Env}:∀(ns:List (Str×NameKind)) (cs:List (Str×Addr)) (y:Str×Addr),y∈cs->y∈dh env ns cs
 |[],_,_,h=>h
 |(n,k)::r,cs,y,h=>by
  refine sF r _ y ?_
  split
  ·exact aH _ h
  ·exact h
theorem pe{env:Env}:∀(ns:List (Str×NameKind)) (cs:List (Str×Addr)) (x:Str),(x,NameKind.free)∈ns->∃c,(x,c)∈dh env ns cs
 |[],_,_,h=>by simp at h
 |(n,k)::r,cs,x,h=>by
  rcases aM.mp h with e|h
  ·obtain⟨e1,e2⟩:=kS e
   subst e1;subst e2
   exact⟨_,sF r _ (x,_) (by rw[aq (by rfl:(NameKind.free==NameKind.free)=true)];exact a7)⟩
  ·exact pe r _ x h
theorem fF{β:Type}:∀{l:List (Str×β)} {x:Str} {b:β},l.lookup x=some b->(x,b)∈l
 |[],_,_,h=>by simp at h
 |(y,c)::r,x,b,h=>by
  rw[f']at h
  cases hx:x==y with
  |true=>rw[hx]at h;have:=j_ hx;subst this;cases h;exact a7
  |false=>rw[hx]at h;exact aH _ (fF h)
theorem pf{β:Type}:∀{l:List (Str×β)} {x:Str} {b:β},(x,b)∈l->∃c,l.lookup x=some c
 |(y,c)::r,x,b,h=>by
  rw[f']
  cases hx:x==y with
  |true=>exact⟨c,rfl⟩
  |false=>
   rcases aM.mp h with e|h
   ·cases e;simp at hx
   ·exact pf h
theorem nH{env:Env}{g:Str×NameKind->Bool}:∀{names:List (Str×NameKind)} {x:Str},names.lookup x=some .free ->
  (names.map fun y=>if g y then(y.1,NameKind.cell)else y).lookup x=some .cell\/(names.map fun y=>if g y then(y.1,NameKind.cell)else y).lookup x=some .free
 |[],_,h=>by simp at h
 |(n,k)::r,x,h=>by
  rw[f']at h
  rw[aN]
  have e1:∀y:Str×NameKind,(if g y then(y.1,NameKind.cell)else y).1=y.1:=fun y=>by split<;>rfl
  have e2:∀(y:Str×NameKind) (l:List (Str×NameKind)),(y::l).lookup x=if (x==y.1)=true then some y.2 else l.lookup x:=fun y l=>by
   obtain⟨a,b⟩:=y
   rw[f']
   cases x==a<;>rfl
  rw[e2,e1]
  cases hx:x==n with
  |true=>
   rw[hx]at h
   cases h
   rw[aq rfl]
   by_cases hg:g (n,.free)=true
   ·rw[aq hg];exact .inl rfl
   ·rw[ax hg];exact .inr rfl
  |false=>
   rw[hx]at h
   rw[ax (by exact c6)]
   exact nH (env:=env) h
def Ck(dn:List (Str×NameKind))(sn:List (Str×NameKind))(nm:List Str)(cap:List (Option Nat))(N:List Str):Bool:=
 (sn.all fun x=>!(x.2==.local)||sn.lookup x.1==some .local)&&(sn.all fun y=>!(y.2==.cell))&&(sn.all fun x=>!(x.2==.free)||dn.lookup x.1==some .cell)&&(cap.length==nm.length) &&
 ((List.range cap.length).all fun i=>match cap[i]? with
  |some (some j)=>(match nm[i]?,N[j]? with
   |some x,some y=>x==y&&dn.lookup x==some .cell&&sn.lookup x==some .free
   |_,_=>false)
  |_=>true)
theorem L5{X:Cx}{qk tg eh:Expr}{nZ:List Expr}{scope:Scope}{pos:Pos}{nm:List Str}{cap:List (Option Nat)}{wi:TI}{g:TG}{tc:TT}{te:TE}{m:Nat}(kN:X.calm=true)
  (ig:X.env.cells=cellsFrom m X.env.scope.names []) (jn:scope.kind=.function) (hB:Ck X.env.scope.names scope.names nm cap X.N=true)
  (hi:QI X tg eh wi) (hg:∀cl C s0 H0 fp,QG (cK X nm scope cl C s0 H0 fp) tg g) (ht:∀cl C s0 H0 fp,SX (cK X nm scope cl C s0 H0 fp) nZ tc)
  (he:∀cl C s0 H0 fp,QE (cK X nm scope cl C s0 H0 fp) qk te) (hs:∀x,foldedSetIterable eh X.env x=pure x:=by intro _;rfl) :
  QE X (.ListComp qk [⟨tg,eh,nZ,0⟩] scope pos) (uE cap wi g tc te):=by
 simp only[Ck,bN,l7,c_,fK,c7,bd]at hB
 obtain⟨⟨⟨⟨b1,b2⟩,b3⟩,b4⟩,b5⟩:=hB
 have has:∀x∈scope.names,x.2=.free->∃c,X.env.cells.lookup x.1=some c:=fun x hx hk=>by
  rw[ig]
  rcases b3 x hx with z|z
  ·exact absurd hk z
  ·exact lF z
 have lX:∀x c,(dh X.env scope.names []).lookup x=some c->X.env.cells.lookup x=some c:=fun x c h=>lG scope.names [] has (by simp) (x,c) (fF h)
 have hin:∀x,(x,NameKind.free)∈scope.names->∃c,(dh X.env scope.names []).lookup x=some c:=fun x h=>let ⟨_,q⟩:=pe (env:=X.env) scope.names [] x h;pf q
 have hmap:(relabel scope X.env).names=scope.names.map fun y=>if (y.2==.free&&X.env.scope.kind==.function&&X.env.kindOf y.1==some .cell)then(y.1,NameKind.cell)else y:=by
  show scope.names.map _=_
  refine cf fun y _=>?_
  obtain⟨a,b⟩:=y
  rfl
 have fr:∀x,((relabel scope X.env).names.lookup x=some .cell\/(relabel scope X.env).names.lookup x=some .free)->(x,NameKind.free)∈scope.names:=fun x h=>by
  have h':∃k,(x,k)∈(relabel scope X.env).names/\(k=.cell\/k=.free):=by
   rcases h with h|h
   ·exact⟨_,fF h,.inl rfl⟩
   ·exact⟨_,fF h,.inr rfl⟩
  obtain⟨k,hm,hk⟩:=h'
  rw[hmap]at hm
  obtain⟨y,hy,e⟩:=aJ.mp hm
  obtain⟨a,b⟩:=y
  by_cases hb:b=.free
  ·subst hb
   have:a=x:=by split at e<;>(cases e;rfl)
   subst this;exact hy
  ·rw[ax (by simp[hb])]at e
   cases e
   rcases hk with rfl|rfl
   ·exact absurd rfl (b2 _ hy)
   ·exact absurd rfl hb
 refine⟨HL (cl:=dh X.env scope.names []) (cap:=cap) (nm:=nm) kN (D6 has) lX jn (fun x hx hk=>(b1 x hx).resolve_left fun z=>z hk) (fun y hy=>b2 y hy) (fun x hx=>hin x (fr x hx)) (fun i j e=>?_) b4 hi.h (fun C s0 H0 fp=>(hg _ C s0 H0 fp).h) (fun C s0 H0 fp=>(ht _ C s0 H0 fp).h) (fun C s0 H0 fp=>(he _ C s0 H0 fp).h) hs⟩
 have hi':i<cap.length:=(ai.mp e).1
 have q:=b5 i (f7.mpr hi')
 rw[e]at q
 dsimp only at q
 cases hx:nm[i]? with
 |none=>rw[hx]at q;simp at q
 |some x=>
  cases hy:X.N[j]? with
  |none=>rw[hx,hy]at q;simp at q
  |some y=>
   rw[hx,hy]at q
   simp only[bN,c7]at q
   obtain⟨⟨rfl,q1⟩,q2⟩:=q
   refine⟨x,rfl,rfl,.inr (.inl q1),(by rw[q1];decide),?_,?_⟩
   ·obtain⟨c,hc⟩:=hin x (fF q2)
    rw[hc,lX _ _ hc]
   ·rw[hmap];exact nH (env:=X.env) q2
def HW(K:Frag):List V->Hp->VK->Prop:=fun xs H Q=>∃(p:Addr) (ys:List (List Nat)),xs=[.ref p]/\pN K H p (ys.map fun l=>V.str (tx l))/\ys.length<64 /\
 ∀zs:List (List Nat),zs.Perm ys->sortedS (zs.map tx)=true->∀l H2,H l=none->H2=eY H l (.lst (zs.map fun l=>V.str (tx l)))->Q (.ref l) H2
theorem A8(z:Str):tx z.cps.toList=z:=by cases z;rfl
theorem ub{X:Cx}:JF X (.builtin "sorted") (HW X.K):=⟨by
 intro af s σ H xs us Q I r h
 obtain⟨p,ys,rfl,hS,h64,q⟩:=h
 obtain⟨u,rfl,ru⟩:=oM r
 cases ru
 obtain⟨bI,rv,pl,hz⟩:=I.list hS
 have hl:=rv.length
 rw[ar]at hl
 refine sorted_strs (ss:=ys.map tx) pl.isList (mj (by simpa using rv)) (by omega) fun out ss' h1 h2 h3=>?_
 obtain⟨ep,hat⟩:=sortedAll_at s.heap bI out
 have sv:H (s.heap.objs.size+1)=none:=I.hok.fresh (gM _)
 have hmap:(ss'.map fun z=>z.cps.toList).map tx=ss':=by
  rw[a8]
  have:(tx∘fun z:Str=>z.cps.toList)=id:=funext fun z=>A8 z
  rw[this,gc]
 have hperm:(ss'.map fun z=>z.cps.toList).Perm ys:=by
  have e:=h2.map fun z:Str=>z.cps.toList
  rw[a8]at e
  have:((fun z:Str=>z.cps.toList)∘tx)=id:=funext fun l=>by simp[tx]
  rw[this,gc]at e
  exact e
 have hvals:cw ((ss'.map fun z=>z.cps.toList).map fun l=>V.str (tx l)) out.toList:=by
  have e:=ml h1
  rw[<- hmap,a8]at e
  exact e
 refine⟨.ref (s.heap.objs.size+1),_,I.laid (t':=s.toks) (fun b o e=>sortedAll_old e) (gM _) ?_,rfl,q _ hperm (by rw[hmap];exact h3) _ _ sv rfl⟩
 refine⟨?_,out.toList,ep,hvals,hat⟩
 rw[ar,hperm.length_eq]
 exact bh (gf h64) (by decide)⟩
theorem bw.turned2{X:Cx}{af:List (Addr×Obj)}{σ:St}{H:Hp}{s:Shared}{h':Heap}{t':Nat}{e it:Addr}(I:bw X af σ H s)(k:∀b o,b≠e->b≠it->s.heap.get? b=some o->h'.get? b=some o)
  (he:∃o,h'.get? e=some o) (f1:rJ X af H e) (f2:rJ X af H it):bw X af σ H { s with heap:=h',toks:=t' }:=by
 have nit:∀b u,H b=some u->b≠e/\b≠it:=fun b u q=>⟨fun z=>(by rw[z,f1.1]at q;cases q),fun z=>(by rw[z,f2.1]at q;cases q)⟩
 have nin:∀b,b∉[e,it]->b≠e/\b≠it:=fun b h=>⟨fun z=>h (by simp[z]),fun z=>h (by simp[z])⟩
 refine I.step (g':=s.gens) (d':=s.drawn) (ch:=[e,it]) (fun b hb=>?_) (fun b o _ _ hc q _=>k b o (nin b hc).1 (nin b hc).2 q) (fun b o _ _ hc q _=>⟨o.slots,k b o (nin b hc).1 (nin b hc).2 q⟩) (fun _ _ _ _ n=>n)
  (fun b o hc q=>⟨o,k b o (nin b hc).1 (nin b hc).2 q⟩) (fun _ _ q=>q) (fun _ _ _ q=>q) (fun b ps q=>⟨#[],by rw[q];simp⟩) (fun m hm=>?_) (fun b u q=>?_) I.bare
 ·have z:b=e\/b=it:=by simpa using hb
  rcases z with rfl|rfl
  ·exact⟨f1.2.2.2.1,f1.2.1,f1.2.2.2.2.1,f1.2.2.2.2.2⟩
  ·exact⟨f2.2.2.2.1,f2.2.1,f2.2.2.2.2.1,f2.2.2.2.2.2⟩
 ·obtain⟨o,es,ep,ho,r⟩:=hm
  exact⟨o,es,ep,k _ o (Ne.symm f1.2.1) (Ne.symm f2.2.1) ho,r⟩
 ·refine(I.hok b u q).stay (fun c v hc z=>?_) (fun _ z=>z) fun _ _ z=>z
  rcases hc with y|y
  ·rw[y]at z ⊢;exact k b v (nit b u q).1 (nit b u q).2 z
  ·exact k c v (nit c _ y).1 (nit c _ y).2 z
section
variable{prog:Program}{w:World}{A:Around}{E:Value->Shared->Prop}{s:Shared}
theorem iZ{it t:Addr}{i:Nat}{bI:Array Value}{x:Value}{Q:Value->Shared->Prop}(st:s.heap.IsTupleIter it t i)(ht:s.heap.IsTuple t bI)(hx:bI[i]?=some x)
  (q:∀g,g.IsTupleIter it t (i+1)->Heap.SameBut it s.heap g->Q x { s with heap:=g }):wpAny (model prog w) A (Builtin.SmallTypes.nextOf (.ref it)) Q E s:=by
 obtain⟨ob,e1,e2,e3⟩:=id st
 obtain⟨ot,g1,_,nt,g3⟩:=ht
 have T:=st.typeIs
 unfold Builtin.SmallTypes.nextOf
 refine aa (bc (name:=Str.ofString "__next__") T fm (bb fm T jZ ?_ (jG _)))
 show wpAny _ _ (field (.ref it) 0 >>= _) _ _ s
 refine aa (bS e1 e3 (x:=.ref t) rfl ?_)
 dsimp only
 rw[ax (show ¬ ((Value.ref t==Value.none)=true)from c6)]
 refine aa (bS e1 e3 (x:=.int i 0) rfl ?_)
 dsimp only
 refine aa (c8 g1 g3 ?_)
 simp only[aO,hx]
 refine aa (iJ e1 e3 (by simp) (am ⟨x,rfl,am (q _ ?_ (fV ..))⟩))
 exact⟨_,dq _ e1 (iR (fq e3 _)),(Obj.cls_mapFields ..).trans e2,by rw[fq e3];simp[rawInt]⟩
theorem jS{it t:Addr}{i:Nat}{bI:Array Value}{Q:Value->Shared->Prop}(hh:A.handled=none)(st:s.heap.IsTupleIter it t i)(ht:s.heap.IsTuple t bI)(hx:bI[i]?=none)
  (q:∀g e,Heap.ExtBut it s.heap g->(∃o,g.get? e=some o/\o.cls=.type "StopIteration")->E (.ref e) { s with heap:=g }):wpAny (model prog w) A (Builtin.SmallTypes.nextOf (.ref it)) Q E s:=by
 obtain⟨ob,e1,e2,e3⟩:=id st
 obtain⟨ot,g1,_,nt,g3⟩:=ht
 have T:=st.typeIs
 unfold Builtin.SmallTypes.nextOf
 refine aa (bc (name:=Str.ofString "__next__") T fm (bb fm T jZ ?_ (jG _)))
 show wpAny _ _ (field (.ref it) 0 >>= _) _ _ s
 refine aa (bS e1 e3 (x:=.ref t) rfl ?_)
 dsimp only
 rw[ax (show ¬ ((Value.ref t==Value.none)=true)from c6)]
 refine aa (bS e1 e3 (x:=.int i 0) rfl ?_)
 dsimp only
 refine aa (c8 g1 g3 ?_)
 simp only[aO,hx]
 refine aa (gj (aa (iJ e1 e3 (by simp) (aa ?_))))
 simp only[newExc,newTuple]
 refine aa (bD (aa (m:=firstArgMember _ _) (fL (a:=Value.none) (by first|rfl|(simp only[firstArgMember];rfl)) (bD ?_ (by size_fits)))) (by size_fits))
 simp only[raiseNew]
 refine aa (o9 ?_)
 rw[show A.in1.handled=none from hh]
 exact aa (am (wpAny_throw (q _ _ (((fV ..).extBut.push _).push _) ⟨_,au _ rfl,rfl⟩)))
end
theorem D7{prog:Program}{w:World}{A:Around}(hh:A.handled=none)(it t:Addr)(oK:t≠it)(bI:Array Value) :
  Draws prog w A it [it,t] bI.size (fun i v=>bI[i]?=some v) (fun i h=>h.IsTupleIter it t i/\h.IsTuple t bI) where
 live:=fun _ _ st=>let ⟨o,e,_⟩:=st.1;⟨o,e⟩
 frame:=fun _ h h' st k=>⟨st.1.at fun o e=>k it (by simp) o e,let ⟨o,e,r⟩:=st.2;⟨o,k t (by simp) o e,r⟩⟩
 item:=fun i s Q E hi st q=>iZ st.1 st.2 (x:=bI[i]) (by simp[hi]) fun g a b=>q _ g s.toks (by simp[hi]) ⟨a,st.2.extBut b.extBut oK⟩ b
 done:=fun s Q E st q=>jS hh st.1 st.2 (by simp) q
open AutoSeq1 (wpAny_loadPart')
def T9(K:Frag)(a:Addr):It:=
 ⟨fun i H=>∃xs x,fQ K H a xs/\xs[i]?=some x,fun i H v H'=>∃p,H p=none/\v=.ref p/\∀xs x,fQ K H a xs->xs[i]?=some x->H'=eY H p (.tup [.int i,x]),fun i H=>∃xs,fQ K H a xs/\xs.length<=i⟩
theorem Cm{P:Program}{w:World}{K:Frag}{tY:List Expr}{kk:Nat}{pos:Pos}(a it e:Addr)(TM:e≠it) :
  zr P w K (.Tuple tY kk pos) (T9 K a) [e,it] e (fun i h=>(∃old,IsEnum h e it i old)/\h.IsTupleIter it a i) where
 mem:=by simp
 obj:=fun i h st b hb=>by
  have z:b=e\/b=it:=by simpa using hb
  rcases z with rfl|rfl
  ·obtain⟨old,q⟩:=st.1
   exact⟨_,q,fun v z=>by cases z⟩
  ·obtain⟨o,q,c,d⟩:=st.2
   exact⟨o,q,fun v z=>by rw[d]at z;cases z⟩
 keep:=fun i h h' st k=>⟨let ⟨old,q⟩:=st.1;⟨old,k e (by simp) _ q⟩,st.2.at fun o q=>k it (by simp) o q⟩
 item:=by
  intro X hP hw hK hc i af s σ H E I hf st hg
  subst hP hw hK
  obtain⟨xs,x,hq,hx⟩:=hg
  obtain⟨bI,rv,p,hz⟩:=I.tuple hq
  obtain⟨u,hu,ru⟩:=rv.get hx
  obtain⟨⟨old,he⟩,jX⟩:=st
  have hT:s.heap.IsTuple a bI.toArray:=p
  obtain⟨oa,ha,hca,_⟩:=id hT
  obtain⟨oi,hi,hci,_⟩:=id jX
  have nai:a≠it:=fun z=>by
   rw[z,hi]at ha;cases ha
   rw[hci]at hca;injection hca with z;exact absurd z (by decide)
  have nae:a≠e:=fun z=>by
   rw[z,he]at ha;cases ha
   injection hca with z;exact absurd z (by decide)
  have hlt:i<bI.toArray.size:=by
   have:=(ai.mp hu).1
   simpa using this
  refine wpAny_pyNext_enum_itemD (D7 (A:=X.A.in1) (I.ok.hd hc) it a nai bI.toArray) he ⟨jX,hT⟩ hlt TM (by simp[TM,Ne.symm nae]) fun x' g tk hx' ho' bu htup hsz hk=>⟨_,rfl,?_⟩
  have ex:x'=u:=by
   have e1:bI[i]?=some x':=by simpa using hx'
   rw[hu]at e1;exact(aS e1).symm
  subst ex
  refine wpAny_letOwnedTupleGo_enum ho' fun g2 TH vj=>?_
  have sv:H s.heap.objs.size=none:=I.hok.fresh (ay _)
  have I1:bw X af σ (eY H s.heap.objs.size (.tup [.int i,x])) { s with heap:=s.heap.push { cls:=.type "tuple",data:=.seq #[.int i tk,x'] },toks:=tk+1 }:=I.laid (fun b o q=>ak _ q) (ay _)
   ⟨by show 2<=sizeLine;decide,[.int i tk,x'],.cons ⟨tk,rfl⟩ (.cons ru .nil),⟨_,au _ rfl,rfl,_,rfl⟩⟩
  have nf:∀b∈[e,it],b≠s.heap.objs.size:=fun b hb=>by
   have z:b=e\/b=it:=by simpa using hb
   rcases z with rfl|rfl
   ·exact ba (aE he)
   ·exact ba (aE hi)
  have fp:∀b∈[e,it],rJ X af (eY H s.heap.objs.size (.tup [.int i,x])) b:=fun b hb=>by
   obtain⟨f0,f⟩:=hf b hb
   exact⟨by rw[cv (nf b hb)];exact f0,f⟩
  have he2':IsEnum g2 e it ((i:Int)+1) x':=TH
  have I2:bw X af σ (eY H s.heap.objs.size (.tup [.int i,x])) { s with heap:=g2,toks:=tk+1 }:=I1.turned2 (t':=tk+1) (fun b o hbe hbi q=>?_) ⟨_,he2'⟩ (fp e (by simp)) (fp it (by simp))
  ·refine⟨.ref s.heap.objs.size,_,I2,rfl,⟨_,sv,rfl,fun ys y hy hy'=>?_⟩,⟨⟨x',by simpa using he2'⟩,bu.1.extBut vj.extBut (Ne.symm TM)⟩,fun b hb=>(fp b hb).1⟩
   have e1:=I.tuple_inj hy hq
   subst e1
   rw[hx]at hy';cases hy';rfl
  ·have q':(s.heap.push { cls:=.type "tuple",data:=.seq #[.int i tk,x'] }).get? b=some o:=q
   refine vj.extBut b o hbe ?_
   by_cases hb:b=s.heap.objs.size
   ·subst hb
    have e1:=au s.heap (o:={ cls:=.type "tuple",data:=.seq #[.int i tk,x'] }) rfl
    rw[e1]at q';cases q'
    exact htup
   ·rw[Heap.get?_push_ne _ _ _ hb]at q'
    exact hk b o hbe hbi q'
 done:=by
  intro X hP hw hK hc i af s σ H E I hf st hg
  subst hP hw hK
  obtain⟨xs,hq,hx⟩:=hg
  obtain⟨bI,rv,p,hz⟩:=I.tuple hq
  obtain⟨⟨old,he⟩,jX⟩:=st
  have hT:s.heap.IsTuple a bI.toArray:=p
  have hl:=rv.length
  have hT':Shared.TypeIs s (.ref e) "enumerate":=⟨_,he,rfl⟩
  unfold pyNext
  refine aa (eA (bc (name:=Str.ofString "__next__") hT' nE (bb nE hT' F.entry_enumerate_next ?_ (F.args_enumerate_next_1 _))))
  show wpAny _ _ (field (.ref e) 2 >>= _) _ _ _
  refine aa (bS he rfl (x:=.ref it) rfl (aa (jS (show X.A.in1.handled=none from I.ok.hd hc) jX hT (by simp;omega) fun g y hx' hy=>?_)))
  obtain⟨o,ho,lX⟩:=hy
  refine aa (df (T:="StopIteration") (b:=true) ⟨o,ho,lX⟩ iK (am ⟨rfl,?_⟩))
  obtain⟨f0,f1,f2,f3,f4,f5⟩:=hf it (by simp)
  exact I.turned (t':=s.toks) (fun b o hb q=>hx' b o hb q) f0 f1 f3 f4 f5
 self:=fun A i s Q E st h=>let ⟨_,q⟩:=st.1;wpAny_pyIter_enum q h
open AutoSeq1 (wpAny_loadPart')
abbrev kC(t:Addr):Obj:={ cls:=.type "tuple_iterator",data:=.fields #[.ref t,.int 0 0] }
abbrev zG(it:Addr):Obj:={ cls:=.type "enumerate",data:=.fields #[.none,.bool false,.ref it,rawInt 0,.none,.none] }
theorem L6(t:Addr)(bI:Array Value)(n:Nat)(dc:Option Addr)(sl:Array (Option Value)) :
  Meets (Builtin.«enumerate.__new__» ⟨[.type "enumerate",.ref t],[]⟩) (fun _ R s=>s.heap.get? t=some { cls:=.type "tuple",dict:=dc,data:=.seq bI n,slots:=sl } /\
   R (.ok (.ret (.ref (s.heap.push (kC t)).objs.size))) { s with heap:=(s.heap.push (kC t)).push (zG s.heap.objs.size) }):=
 .of_wp fun prog w A R s h=>by
  obtain⟨hp,g,d,tk,os⟩:=s
  obtain⟨ht,h⟩:=h
  have sb:=sub_enumerate
  have hT:Heap.IsTuple (Shared.heap ⟨hp,g,d,tk,os⟩) t bI:=⟨_,ht,rfl,n,rfl⟩
  wp_walk using cJ ht
  refine wpAny_stack_any fun st=>am ?_
  split
  ·rename_i c _ _ _ _ _
   cases(c==Value.type "enumerate")<;>(wp_walk using cJ ht,fj hT;exact⟨_,rfl,h⟩)
  ·wp_walk using cJ ht,fj hT
   exact⟨_,rfl,h⟩
section
variable{prog:Program}{w:World}{A:Around}{E:Value->Shared->Prop}{s:Shared}
theorem uc{t:Addr}{bI:Array Value}{Q:Value->Shared->Prop}(hT:s.heap.IsTuple t bI)
  (q:∀g,IsEnum g (s.heap.objs.size+1) s.heap.objs.size 0 .none->g.IsTupleIter s.heap.objs.size t 0->(∀b o,s.heap.get? b=some o->g.get? b=some o)->Q (.ref (s.heap.objs.size+1)) { s with heap:=g }) :
  wpAny (model prog w) A (call (.type "enumerate") [.ref t]) Q E s:=by
 obtain⟨⟨c,dc,dt,sl⟩,ht,hc,n,hd⟩:=hT
 obtain rfl:c=.type "tuple":=hc
 obtain rfl:dt=.seq bI n:=hd
 refine qp F.called_enumerate (by decide) (F.typeCall_enumerate_1 _) (F.newCall_enumerate_1 _) (fun ob=>F.args_object_init_2 ob _) F.entry_enumerate_new (L6 t bI n dc sl) ⟨ht,?_⟩
 have z:(s.heap.push (kC t)).objs.size=s.heap.objs.size+1:=bY ..
 show _/\_
 rw[z]
 have e1:IsEnum ((s.heap.push (kC t)).push (zG s.heap.objs.size)) (s.heap.objs.size+1) s.heap.objs.size 0 .none:=by
  have y:=au (s.heap.push (kC t)) (o:=zG s.heap.objs.size) rfl
  rw[z]at y;exact y
 exact⟨⟨_,e1,rfl⟩,q _ e1 ⟨_,ak _ (au _ rfl),rfl,rfl⟩ fun b o y=>ak _ (ak _ y)⟩
end
section
variable{X:Cx}
def SY(K:Frag)(ta:TA):TI:=fun σ H R=>ta σ H fun vs H1=>∃a,vs=[.ref a]/\(∃xs,fQ K H1 a xs)/\R (T9 K a) H1
theorem D8{a:Expr}{ta:TA}{p pos tp:Pos}{tY:List Expr}{kk:Nat}(hm:X.mg "enumerate"=none)(ha:QA X [a] ta)(hg:Gl X "enumerate":=by rfl)(hs:starEach [a] X.env=[(false,eval a X.env)]:=by rfl) :
  QI X (.Tuple tY kk tp) (.Call (.Name "enumerate" p) [a] [] pos) (SY X.K ta):=⟨by
 intro af s σ H R I h
 refine Call_ (kZ I hg hm boot_enumerate (cA (gE (ha.h pos af s σ H _ I h) fun us s1 ⟨vs,H1,I1,r1,q1⟩=>?_) hs rfl))
 obtain⟨t,e,⟨xs,hq⟩,q⟩:=q1
 subst e
 obtain⟨u,rfl,ru⟩:=oM r1
 cases ru
 obtain⟨bI,rv,pt,hz⟩:=I1.tuple hq
 refine uc (show s1.heap.IsTuple t bI.toArray from pt) fun g e1 e2 kp=>?_
 refine wpAny_pyIter_enum e1 ?_
 refine⟨s1.heap.objs.size+1,[s1.heap.objs.size+1,s1.heap.objs.size],_,_,H1,rfl,I1.kept (t':=s1.toks) kp,Cm t _ _ (Nat.succ_ne_self _),⟨⟨_,e1⟩,e2⟩,fun b hb=>?_,q⟩
 have z:b=s1.heap.objs.size+1\/b=s1.heap.objs.size:=by simpa using hb
 rcases z with rfl|rfl
 ·exact I1.fpOk (gM _) (I1.hok.fresh (gM _))
 ·exact I1.fpOk (ay _) (I1.hok.fresh (ay _))⟩
end
section
variable{cap:List (Option Nat)}{g:TG}{tc:TT}{te:TE}{σ:St}{H1:Hp}{Q:VK}{n:Nat}
end
theorem uG:∀(p:Nat) (m:List Nat),risingS (tx [p]) (m.map fun c=>tx [c])=true->(∀c∈m,p<=c)/\m.Pairwise (· <= ·)
 |p,[],_=>⟨fun c h=>by simp at h,.nil⟩
 |p,c::r,h=>by
  have h':(!ltCps (tx [c]).cps.toList (tx [p]).cps.toList&&risingS (tx [c]) (r.map fun c=>tx [c]))=true:=h
  rw[bN]at h'
  obtain⟨a,b⟩:=h'
  obtain⟨b1,b2⟩:=uG c r b
  have hpc:p<=c:=by
   rw[ltCps_eq]at a
   have a':(!decide ([c]<[p]))=true:=a
   have:=of_decide_eq_false (fK _▸a')
   rcases qr c p with z|z
   ·exact absurd (List.Lex.rel z) this
   ·exact z
  refine⟨fun x hx=>?_,bF.mpr ⟨b1,b2⟩⟩
  rcases aM.mp hx with rfl|hx
  ·exact hpc
  ·exact bh hpc (b1 x hx)
theorem xf:∀(m:List Nat),sortedS ((m.map fun c=>[c]).map tx)=true->m.Pairwise (· <= ·)
 |[],_=>.nil
 |c::r,h=>by
  have h':risingS (tx [c]) ((r.map fun c=>[c]).map tx)=true:=h
  rw[a8]at h'
  obtain⟨a,b⟩:=uG c r h'
  exact bF.mpr ⟨a,b⟩
theorem eE:Slot "set_iterator" "__next__" "set_iterator.__next__":=.of (owner:="set_iterator") (n:="__next__") (by rw[gs,dW];kernel_rfl) (by decide +kernel) (by decide +kernel) (by decide +kernel) (by first|exact .inl (by decide +kernel)|exact .inr (by decide +kernel)) (by rw[cU];kernel_rfl)
theorem kD:entryFor table "set_iterator.__next__"=some Builtin.«set_iterator.__next__»:=entryFor_of_tree (by kernel_rfl)
theorem kE(a:Value):argsOk "set_iterator.__next__" ⟨[a],[]⟩:=by unfold argsOk;kernel_rfl
theorem xg:entryFor table "set.__iter__"=some Builtin.«frozenset.__iter__»:=n5 (id':="frozenset.__iter__") (by kernel_rfl) (by first|rfl|decide +kernel|(unfold String.splitOn;simp +decide [String.splitOnAux])) (by decide +kernel) (by kernel_rfl)
def rN(w:World):Bool:=w.params.followText "set-order"
def A9(w:World)(n:Nat)(t:SetTable):Prop:=(rN w=true\/t.led=true)/\(n=0\/t.plain=false)
theorem Cn(t:SetTable)(es:Array (Int×Value))(h:Int)(x:Value):(layNew t es h x).2.1.led=t.led/\(t.plain=false->(layNew t es h x).2.1.plain=false):=by
 unfold layNew
 split
 ·dsimp only
  unfold SetTable.orStandIn
  split
  ·exact⟨rfl,fun z=>z⟩
  ·exact⟨rfl,fun _=>rfl⟩
 ·exact⟨rfl,fun _=>rfl⟩
theorem vD{t t':SetTable}{hs:Array Int}{n:Nat}{o:Array Nat}(h:t.relaid hs n=some (t',o)):t'.led=t.led/\t'.plain=t.plain:=by
 unfold SetTable.relaid SetTable.laid at h
 cases hc:SetTable.layClean (SetTable.sizeAbove n-1) hs with
 |none=>rw[hc]at h;cases h
 |some ow=>
  rw[hc]at h
  have h':=aS h
  obtain⟨a,_⟩:=kS h'
  subst a
  exact⟨rfl,rfl⟩
theorem xj(t:SetTable)(es:Array (Int×Value))(n:Nat):(relayAll t es n).2.1.led=t.led/\(t.plain=false->(relayAll t es n).2.1.plain=false):=by
 unfold relayAll
 split
 ·rename_i t' o he
  obtain⟨a,b⟩:=vD he
  dsimp only
  split
  ·exact⟨a,fun z=>b.trans z⟩
  ·exact⟨rfl,fun _=>rfl⟩
 ·exact⟨rfl,fun _=>rfl⟩
section
variable{prog:Program}{w:World}
def xk(prog:Program)(w:World)(h:Heap)(a:Addr)(ks:List Str):Prop:=
 ∃o es ep t,h.get? a=some o/\o.ExactSet/\o.data=.set es ep t/\ElemsOf (PySem.strKind prog w) es.toList/\(es.toList.map fun e=>strOf e.2).Perm ks/\es.size<scanBound/\t.fits es.size=true/\A9 w es.size t
theorem xn{l:List (Int×Value)}(h:ElemsOf (PySem.strKind prog w) l):∀e∈l,∃t,e.2=.str (strOf e.2) t:=fun e he=>by
 obtain⟨⟨k,hk,_⟩,_⟩:=h e he
 obtain⟨t,ht⟩:=jP hk
 exact⟨t,by rw[ht];rfl⟩
theorem uH{k:Str}{e:Int×Value}{l:List (Int×Value)}(h:ElemsOf (PySem.strKind prog w) l)(he:e∈l):(PySem.strKind prog w).is k e.2=true↔k=strOf e.2:=by
 obtain⟨t,ht⟩:=xn h e he
 constructor
 ·intro z
  obtain⟨u,hu⟩:=jP z
  rw[hu];rfl
 ·intro z
  show Value.isStrOf k e.2=true
  rw[ht,z]
  show Value.isStrOf (strOf e.2) (.str (strOf e.2) t)=true
  unfold Value.isStrOf;simp
theorem xk.keep{h h':Heap}{a:Addr}{ks:List Str}(z:xk prog w h a ks)(k:∀o,h.get? a=some o->h'.get? a=some o):xk prog w h' a ks:=let ⟨o,es,ep,t,ho,r⟩:=z;⟨o,es,ep,t,k o ho,r⟩
variable{A:Around}{E:Value->Shared->Prop}{s:Shared}
theorem HX{a:Addr}{ks:List Str}{x:Str}{tk:Tok}{Q:Bool->Shared->Prop}(z:xk prog w s.heap a ks)(Ug:ks.length+1<scanBound)
  (q:∀b g,Heap.SameBut a s.heap g->xk prog w g a (if x∈ks then ks else ks++[x])->Q b { s with heap:=g }):wpAny (model prog w) A (setAddHashed a (.str x tk) ((PySem.strKind prog w).hash x)) Q E s:=by
 obtain⟨o,es,ep,t,ho,t7,hd,hel,hp,hb,hf,Hf⟩:=z
 have eR:es.size=ks.length:=by have:=hp.length_eq;simpa using this
 have hkey:(PySem.strKind prog w).is x (.str x tk)=true:=by show Value.isStrOf x (.str x tk)=true;unfold Value.isStrOf;simp
 have hsc:(Value.str x tk).scannable=true:=rfl
 unfold setAddHashed setAddHashedIn
 refine du (aa (fM ho hd hf ?_))
 dsimp only
 rw[byScan_of hsc hb hel,aq rfl]
 unfold setAddByScan
 refine aa (aa (gj (aa (wpAny_setScan_of hkey ho hd hf hel ?_))))
 cases hr:List.findIdx? (fun e=>(PySem.strKind prog w).is x e.2) es.toList with
 |some j=>
  obtain⟨hj,hpj,_⟩:=List.findIdx?_eq_some_iff_getElem.mp hr
  have hin:x∈ks:=hp.mem_iff.mp (aJ.mpr ⟨es.toList[j],cW hj,((uH hel (cW hj)).mp hpj).symm⟩)
  refine am (am ?_)
  have e1:=q false s.heap (Heap.SameBut.refl a s.heap) (by rw[aq hin];exact⟨o,es,ep,t,ho,t7,hd,hel,hp,hb,hf,Hf⟩)
  exact e1
 |none=>
  have hin:¬ x∈ks:=fun hx=>by
   obtain⟨e,he,hxe⟩:=aJ.mp (hp.mem_iff.mpr hx)
   have y:=kz.mp hr e he
   rw[(uH hel he).mpr hxe.symm]at y
   cases y
  have q':=fun b g h1 h2=>q b g h1 (by rw[ax hin];exact h2)
  dsimp only
  have lp:=layNew_perm t es ((PySem.strKind prog w).hash x) (.str x tk)
  have lf:=layNew_fits t es ((PySem.strKind prog w).hash x) (.str x tk)
  have lm:=Cn t es ((PySem.strKind prog w).hash x) (.str x tk)
  generalize layNew t es ((PySem.strKind prog w).hash x) (.str x tk)=L at lp lf lm ⊢
  obtain⟨es1,t1,wd,gv⟩:=L
  dsimp only at lp lf lm ⊢
  rw[Array.toList_push]at lp
  have el1:ElemsOf (PySem.strKind prog w) es1.toList:=(hel.push hkey hsc).perm lp
  have sz1:es1.size=es.size+1:=by have:=lp.length_eq;simpa using this
  have b1:es1.size<scanBound:=by omega
  have p1:(es1.toList.map fun e=>strOf e.2).Perm (ks++[x]):=by
   have y:=lp.map fun e:Int×Value=>strOf e.2
   rw[eN]at y
   exact y.trans (hp.append_right _)
  have gw:∀(b:Bool) {s₁:Shared} {Q':Unit->Shared->Prop},Q' () s₁->wpAny (model prog w) A (match b with|true=>rule "set.scan.the-table-gave-way" | false=>pure ()) Q' E s₁:=fun b _ _ y=>by cases b<;>first|exact am y|exact gj y
  refine aa (gw _ ?_)
  have lE:∀t2:SetTable,t2.fits es1.size=true->t2.led=t.led->t2.plain=false->wpAny (model prog w) A (do
    storeSet a es1 t2
    if (!wd&&t2.tooFull)=true then do
      (match (relayAll t2 es1 (SetTable.grown es1.size)).2.2 with|true=>rule "set.scan.the-table-gave-way" | false=>pure ())
      storeSet a (relayAll t2 es1 (SetTable.grown es1.size)).1 (relayAll t2 es1 (SetTable.grown es1.size)).2.1
      pure (some true)
     else pure (some true)) (fun r s'=>wpAny (model prog w) A (match r with|some added=>pure added|none=>setAddHashedIn a (.str x tk) ((PySem.strKind prog w).hash x) 99999) Q E s') E s:=by
   intro t2 f2 l2 n2
   have to2:A9 w es1.size t2:=⟨by rw[l2];exact Hf.1,.inr n2⟩
   refine aa (wpAny_storeSet_of ho hd ?_ (fits_of_scanBound b1))
   have g1:(s.heap.update a (Obj.putSet es1 t2)).get? a=some { o with data:=.set es1 (ep+1) t2 }:=by
    have y:=dq (Obj.putSet es1 t2) ho (by rw[q5 es1 t2 hd];rfl)
    rw[q5 es1 t2 hd]at y;exact y
   have sb:=fV s.heap a (Obj.putSet es1 t2)
   split
   ·have rp:=relayAll_perm t2 es1 (SetTable.grown es1.size)
    have rf:=relayAll_fits t2 es1 (SetTable.grown es1.size)
    have rm:=xj t2 es1 (SetTable.grown es1.size)
    generalize relayAll t2 es1 (SetTable.grown es1.size)=R at rp rf rm ⊢
    obtain⟨es2,t3,gv2⟩:=R
    dsimp only at rp rf rm ⊢
    have sz2:es2.size=es1.size:=by have:=rp.length_eq;simpa using this
    refine aa (gw _ (aa (wpAny_storeSet_of g1 rfl (am (am ?_)) (fits_of_scanBound (by omega)))))
    have g2:((s.heap.update a (Obj.putSet es1 t2)).update a (Obj.putSet es2 t3)).get? a=some { o with data:=.set es2 (ep+1+1) t3 }:=by
     have y:=dq (Obj.putSet es2 t3) g1 (by rw[q5 es2 t3 rfl];rfl)
     rw[q5 es2 t3 rfl]at y;exact y
    refine q' true _ (sb.trans (fV _ a _)) ⟨_,es2,_,t3,g2,t7,rfl,el1.perm rp,?_,by omega,rf,?_⟩
    ·exact(rp.map fun e:Int×Value=>strOf e.2).trans p1
    ·exact⟨by rw[rm.1,l2];exact Hf.1,.inr (rm.2 n2)⟩
   ·exact am (am (q' true _ sb ⟨_,es1,_,t2,g1,t7,rfl,el1,p1,b1,f2,to2⟩))
  by_cases lq:t1.plain=true
  ·rw[aq lq,hashByValue_scannable 8 hsc]
   refine aa (am ?_)
   exact lE { t1 with plain:=false } (SetTable.fits_plain_off lf) lm.1 rfl
  ·rw[ax lq]
   refine aa (am ?_)
   exact lE t1 lf lm.1 (by simpa using lq)
end
section
variable{prog:Program}{w:World}{A:Around}{R:Result->Shared->Prop}{I:Addr}{fp wr:List Addr}{n:Nat}{P:Nat->Value->Prop}{St:Nat->Heap->Prop}
def JG(prog:Program)(w:World)(val:Nat->Str)(h:Heap)(a:Addr)(i:Nat):Prop:=∃ks,xk prog w h a ks/\ks.Nodup/\(∀x,x∈ks↔∃j,j<i/\val j=x)/\ks.length<=i
theorem D9(W:Walks prog w A.in1 I fp wr n P St)(S:Addr)(Um:S∉fp)(val:Nat->Str)(zn:∀i v,P i v->∃t,v=.str (val i) t)(hb:n+1<scanBound) :
  ∀(k i:Nat) (s:Shared),n-i=k->i<=n->St i s.heap->JG prog w val s.heap S i ->
   (∀g tk,JG prog w val g S n->(∀b o,b≠S->b∉wr->s.heap.get? b=some o->g.get? b=some o)->R (.ok (.ret .none)) { s with heap:=g,toks:=tk }) ->
   codeAny (model prog w) A (.builtin "set.update.loop" ⟨[.ref S,.ref I],[]⟩) R s:=by
 have hSw:S∉wr:=fun h=>Um (W.sub _ h)
 intro k
 induction k with
 |zero=>
  intro i s hk hi st hM hR
  obtain rfl:i=n:=by omega
  refine gu hU ?_
  rw[fN eS _]
  show wpAny _ A.in1 (pyNext (.ref I) >>= _) _ _ s
  refine aa (W.done s _ _ st fun g tk kp=>am (hR g tk ?_ fun b o _ hb e=>kp b o hb e))
  obtain⟨ks,z,r⟩:=hM
  exact⟨ks,z.keep fun o e=>kp S o hSw e,r⟩
 |succ k ih=>
  intro i s hk hi st hM hR
  have hlt:i<n:=by omega
  refine gu hU ?_
  rw[fN eS _]
  show wpAny _ A.in1 (pyNext (.ref I) >>= _) _ _ s
  refine aa (W.item i s _ _ hlt st fun v g tk hP bu kp=>?_)
  obtain⟨t,rfl⟩:=zn i v hP
  obtain⟨ks,z,nd,mem,len⟩:=hM
  have z':xk prog w g S ks:=z.keep fun o e=>kp S o hSw e
  refine aa (du ?_)
  unfold setAdd
  refine du (aa ((PySem.strKind prog w).pyHash (k:=val i) (show Value.isStrOf (val i) (.str (val i) t)=true by unfold Value.isStrOf;simp) ?_))
  refine HX (s:={ s with heap:=g,toks:=tk+1 }) z' (by omega) fun _ g2 sb z2=>?_
  refine am ⟨i_ eS _,ih (i+1) _ (by omega) hlt (W.frame _ _ _ bu fun b hb o e=>?_) ?_ fun g3 tk3 hM3 kp3=>?_⟩
  ·rw[sb.2 b (fun h:b=S=>Um (by rw[<- h];exact hb))];exact e
  ·refine⟨_,z2,?_,fun x=>?_,?_⟩
   ·by_cases hx:val i∈ks
    ·rw[aq hx];exact nd
    ·rw[ax hx];exact kT.mpr ⟨nd,by simp,fun a ha b hb=>by rw[be]at hb;subst hb;exact fun e=>hx (e▸ha)⟩
   ·by_cases hx:val i∈ks
    ·rw[aq hx,mem x]
     constructor
     ·rintro⟨j,hj,e⟩;exact⟨j,by omega,e⟩
     ·rintro⟨j,hj,e⟩
      by_cases hji:j=i
      ·subst hji;subst e;exact(mem _).mp hx
      ·exact⟨j,by omega,e⟩
    ·rw[ax hx,bB,mem x,be]
     constructor
     ·rintro(⟨j,hj,e⟩|e)
      ·exact⟨j,by omega,e⟩
      ·exact⟨i,by omega,e.symm⟩
     ·rintro⟨j,hj,e⟩
      by_cases hji:j=i
      ·subst hji;exact .inr e.symm
      ·exact .inl ⟨j,by omega,e⟩
   ·by_cases hx:val i∈ks
    ·rw[aq hx];omega
    ·rw[ax hx,aL,dU];omega
  ·exact hR g3 tk3 hM3 fun b o hb hw e=>kp3 b o hb hw ((sb.2 b hb).trans (kp b o hw e))
end
section
variable{prog:Program}{w:World}{A:Around}{E:Value->Shared->Prop}{s:Shared}
abbrev dG(w:World):Obj:={ cls:=.type "set",dict:=none,data:=.set #[] 0 (.fresh 0 0 (!rN w)) }
theorem xo(a:Value){Q₁:Value->Shared->Prop}(h:Q₁ (.ref s.heap.objs.size) { s with heap:=s.heap.push (dG w) }) :
  codeAny (model prog w) A (.call (.builtin "set.__new__") ⟨[.type "set",a],[]⟩) (wants Q₁ E) s:=by
 refine codeAny_of_tree ?_
 show wpAny _ A.in1 (do checkBuiltinCall "set.__new__" ⟨[.type "set",a],[]⟩;again (.builtin "set.__new__" ⟨[.type "set",a],[]⟩)) _ _ s
 refine aa (fL (PySem.F.newCall_set_1 a) (am ⟨i_ PySem.F.plain_set_new _,gu PySem.F.entry_set_new ?_⟩))
 rw[fN PySem.F.plain_set_new _]
 unfold Builtin.«set.__new__» Builtin.Frozenset.newClass
 have sb:=sub_set_self
 obtain⟨hp,g,d,tk,os⟩:=s
 dsimp only
 wp_walk
 refine l8 (am ?_)
 dsimp only
 simp only[newObj]
 exact aa (wpAny_alloc (am (am h)))
set_option maxHeartbeats 8000000 in
theorem k7{v:Value}{T:String}{Sc:Obj}{fp:Addr->List Addr}{n:Nat}{P:Nat->Value->Prop}{St:Addr->Nat->Heap->Prop}{val:Nat->Str}{Q:Value->Shared->Prop}(hT:Shared.TypeIs { s with heap:=s.heap.push (dG w) } v T)
  (n1:isSubtype (.type T) (.type "set")=pure false) (n2:isSubtype (.type T) (.type "frozenset")=pure false) (n3:(Value.type T==Value.type "dict")=false)
  (jX:∀(A:Around) (E:Value->Shared->Prop) (Q:Value->Shared->Prop),Q (.ref (s.heap.objs.size+1)) { s with heap:=(s.heap.push (dG w)).push Sc }->wpAny (model prog w) A (pyIter v) Q E { s with heap:=s.heap.push (dG w) })
  (W:∀(A:Around) (it:Addr),A.handled=none->it=s.heap.objs.size+1->Walks prog w A it (fp it) [it] n P (St it)) (Rv:s.heap.objs.size∉fp (s.heap.objs.size+1)) (st:St (s.heap.objs.size+1) 0 ((s.heap.push (dG w)).push Sc)) (zn:∀i v,P i v->∃t,v=.str (val i) t)
  (hh:A.handled=none) (hb:n+1<scanBound)
  (q:∀g tk,JG prog w val g s.heap.objs.size n->(∀b o,s.heap.get? b=some o->g.get? b=some o)->Q (.ref s.heap.objs.size) { s with heap:=g,toks:=tk }) :
  wpAny (model prog w) A (call (.type "set") [v]) Q E s:=by
 obtain⟨c,tl,hmro⟩:=PySem.F.called_set.mro
 have hmade:=PySem.F.called_set.made
 have hsub:=PySem.F.called_set.sub
 refine mW (codeAny_of_tree ?_)
 show wpAny _ _ (callAny (.type "set") _) _ _ _
 refine am ⟨Code.quiet_builtin _ (by decide +kernel),gu PySem.F.entry_type_call ?_⟩
 rw[Around.under_plain (weight_type_call_type "set" [v] []) rfl]
 have h1:=PySem.F.called_set.notType
 have h2:=PySem.F.called_set.canCreate
 have Ru:=PySem.F.typeCall_set_1 v
 repeat(any_goals (first|assumption|wp_step))
 refine gi (xo v (E:=E) (Q₁:=fun obj s₁=>obj=.ref s.heap.objs.size/\s₁={ s with heap:=s.heap.push (dG w) }) ⟨rfl,rfl⟩) fun r s₁ hr=>?_
 cases r with
 |error e=>exact hr
 |ok fl=>
  cases fl with
  |ret obj=>
   obtain⟨rfl,rfl⟩:=hr
   have gS:(s.heap.push (dG w)).get? s.heap.objs.size=some (dG w):=au _ rfl
   have tS:Shared.TypeIs { s with heap:=s.heap.push (dG w) } (.ref s.heap.objs.size) "set":=⟨_,gS,rfl⟩
   have hli:=PySem.F.called_set.init.lookup
   have hbi:=PySem.F.called_set.init.bind (.ref s.heap.objs.size)
   repeat(any_goals (first|assumption|wp_step))
   refine gi (codeAny_call_builtin (R:=wants (fun r s₂=>r=.none/\∃g tk,s₂={ s with heap:=g,toks:=tk }/\JG prog w val g s.heap.objs.size n/\(∀b o,s.heap.get? b=some o->g.get? b=some o)) E) PySem.F.called_set.init.plain PySem.F.entry_set_init (check_set_init_1 tS ?_)) fun r₂ s₂ hr₂=>?_
   ·unfold Builtin.«set.__init__» noKeywords Builtin.Frozenset.updateFrom
    generalize hPI:pyIter=PI
    wp_walk
    subst hPI
    refine jX _ _ _ (aa (wpAny_runValue ?_))
    have g0:((s.heap.push (dG w)).push Sc).get? s.heap.objs.size=some (dG w):=ak _ gS
    have m0:JG prog w val ((s.heap.push (dG w)).push Sc) s.heap.objs.size 0:=⟨[],⟨_,#[],0,_,g0,⟨rfl,rfl,rfl⟩,rfl,fun e he=>by simp at he,by simp,by unfold scanBound;decide,rfl,?_⟩,km,fun x=>by simp,ay _⟩
    ·refine D9 (W _ _ (by simpa using hh) rfl) s.heap.objs.size Rv val zn hb (n-0) 0 _ rfl (ca _) st m0 fun g tk hM kp=>?_
     refine am (am ⟨rfl,g,tk,rfl,hM,fun b o e=>kp b o (ba (aE e)) (fun hbm=>?_) (ak _ (ak _ e))⟩)
     rw[be]at hbm
     exact absurd (aE e) (by rw[hbm];exact mT.mpr (gM _))
    ·refine⟨?_,.inl rfl⟩
     show rN w=true\/(!rN w)=true
     cases rN w<;>simp
   ·cases r₂ with
    |error e=>exact hr₂
    |ok fl₂=>
     cases fl₂ with
     |ret r=>
      obtain⟨rfl,g,tk,rfl,hM,kp⟩:=hr₂
      repeat(any_goals (first|assumption|wp_step))
      exact q g tk hM kp
     |_=>exact hr₂.elim
  |_=>exact hr.elim
end
theorem ph{α:Type}:∀{l:List α} {i:Nat} (h:i<l.length),(l[i]::l.eraseIdx i).Perm l
 |x::r,0,_=>gN _
 |x::r,i+1,h=>(List.Perm.swap x (r[i]'(by simpa using h)) (r.eraseIdx i)).trans ((ph (l:=r) (i:=i) (by simpa using h)).cons x)
section
variable{M:Model}{A:Around}{E:Value->Shared->Prop}
theorem ud{s:Shared}{UM:Source}{n:Nat}{Q:Nat->Shared->Prop}(hn:n≠0)(h:∀i,i<n->∀d,Q i { s with drawn:=d }):wpAny M A (choose UM n) Q E s:=fun _ _ _=>⟨hn,h _ (Nat.mod_lt _ (Nat.pos_of_ne_zero hn)) _⟩
theorem xq{α:Type}:∀(n:Nat) (xs:List α) (s:Shared) (Q:List α->Shared->Prop),xs.length=n->(∀ys,ys.Perm xs->∀d,Q ys { s with drawn:=d })->wpAny M A (drawOrder n xs) Q E s
 |0,xs,s,Q,hl,h=>by
  have e:xs=[]:=gb hl
  subst e
  unfold drawOrder
  exact am (h [] (gN _) s.drawn)
 |n+1,[],s,Q,hl,h=>by simp at hl
 |n+1,x::r,s,Q,hl,h=>by
  unfold drawOrder
  refine aa (ud (by simp) fun i hi d=>?_)
  have e:(x::r)[i]?=some (x::r)[i]:=ae hi
  rw[e]
  dsimp only
  refine aa (xq n ((x::r).eraseIdx i) _ _ (by rw[List.length_eraseIdx,aq hi];simp at hl ⊢;omega) fun ys hp d'=>am (h _ ?_ d'))
  exact(List.Perm.cons _ hp).trans (ph hi)
theorem A_{α:Type}(next:Nat->Nat):∀(Jn k:Nat) (zc:List α) (out:Array α),zc.length=Jn->(pickOrder.go next Jn k zc out).toList.Perm (out.toList++zc)
 |0,k,zc,out,h=>by
  have e:zc=[]:=gb h
  subst e
  unfold pickOrder.go
  simp
 |Jn+1,k,zc,out,h=>by
  have hlt:next k%zc.length<zc.length:=Nat.mod_lt _ (by omega)
  unfold pickOrder.go
  rw[ae hlt]
  dsimp only
  refine(A_ next Jn (k+1) _ _ (by rw[List.length_eraseIdx,aq hlt];omega)).trans ?_
  rw[Array.toList_push,bj]
  exact nF _ (ph hlt)
theorem Co{α:Type}(next:Nat->Nat)(xs:Array α):(pickOrder next xs).toList.Perm xs.toList:=by
 unfold pickOrder
 have:=A_ next xs.size 0 xs.toList #[] (by simp)
 simpa using this
end
abbrev oO(f:Value)(i:Int)(S:Addr)(n ep:Nat):Obj:={ cls:=.type "set_iterator",dict:=none,data:=.fields #[f,rawInt i,.ref S,rawInt n,rawInt ep],slots:=#[] }
section
variable{prog:Program}{w:World}{A:Around}{E:Value->Shared->Prop}{s:Shared}
theorem sH{Q:Fin->Shared->Prop}(hh:A.handled=none)(q:∀g e,(∀b o,s.heap.get? b=some o->g.get? b=some o)->(∃o,g.get? e=some o/\o.cls=.type "StopIteration")->E (.ref e) { s with heap:=g }) :
  wpAny (model prog w) A (do let x <- newExc (.type "StopIteration") [];raiseNew x) Q E s:=by
 refine aa ?_
 simp only[newExc,newTuple]
 refine aa (bD (aa (m:=firstArgMember _ _) (fL (a:=Value.none) (by first|rfl|(simp only[firstArgMember];rfl)) (bD ?_ (by size_fits)))) (by size_fits))
 simp only[raiseNew]
 refine aa (o9 ?_)
 rw[hh]
 exact aa (am (wpAny_throw (q _ _ (fun b o e=>ak _ (ak _ e)) ⟨_,au _ rfl,rfl⟩)))
structure iO(w:World)(h:Heap)(S:Addr)(es:Array (Int×Value))(ep:Nat)(t:SetTable):Prop where
 ex:∃o,h.get? S=some o/\o.ExactSet/\o.data=.set es ep t
 fits:t.fits es.size=true
theorem iO.keep{h h':Heap}{S:Addr}{es:Array (Int×Value)}{ep:Nat}{t:SetTable}(z:iO w h S es ep t)(k:∀o,h.get? S=some o->h'.get? S=some o):iO w h' S es ep t:=⟨let ⟨o,ho,r⟩:=z.ex;⟨o,k o ho,r⟩,z.fits⟩
theorem Cp{it S p:Addr}{i n ep k:Nat}{es:Array (Int×Value)}{t:SetTable}{pv:Array Value}{pn:Nat}{x:Int×Value}{Q:Option Value->Shared->Prop}(jX:s.heap.get? it=some (oO (.ref p) i S n ep))(hS:iO w s.heap S es ep t)(hn:es.size=n)
  (hp:∃o,s.heap.get? p=some o/\o.cls=.type "tuple"/\o.data=.seq pv pn) (hk:pv[i]?=some (rawInt k)) (hx:es[k]?=some x)
  (q:∀g,g.get? it=some (oO (.ref p) ((i:Int)+1) S n ep)->Heap.SameBut it s.heap g->Q (some x.2) { s with heap:=g }):wpAny (model prog w) A (pyNext (.ref it)) Q E s:=by
 obtain⟨o,ho,t7,hd⟩:=hS.ex
 obtain⟨op,hop,hcp,hdp⟩:=hp
 have T:Shared.TypeIs s (.ref it) "set_iterator":=⟨_,jX,rfl⟩
 unfold pyNext
 refine aa (eA (bc (name:=Str.ofString "__next__") T eE (bb eE T kD ?_ (kE _))))
 show wpAny _ _ (fieldsOf (.ref it) >>= _) _ _ s
 refine aa (ko jX rfl ?_)
 dsimp only
 refine aa (fW ho hd hS.fits ?_)
 rw[ax (by rw[hn];simp)]
 refine aa (c8 hop hdp ?_)
 simp only[aO,hk]
 unfold setNextDrawn
 refine aa (aa (fM ho hd hS.fits ?_))
 dsimp only
 rw[ax (by simp),aO,hx]
 refine am (aa (b8 jX (by simp) fun g e1 e2=>am ⟨_,rfl,am (q g (by simpa using e1) e2)⟩))
theorem ue{it S p:Addr}{i n ep:Nat}{es:Array (Int×Value)}{t:SetTable}{pv:Array Value}{pn:Nat}{Q:Option Value->Shared->Prop}(hh:A.handled=none)(jX:s.heap.get? it=some (oO (.ref p) i S n ep))(hS:iO w s.heap S es ep t)(hn:es.size=n)
  (hp:∃o,s.heap.get? p=some o/\o.cls=.type "tuple"/\o.data=.seq pv pn) (hk:pv[i]?=none)
  (q:∀g,(∀b o,b≠it->s.heap.get? b=some o->g.get? b=some o)->Q none { s with heap:=g }):wpAny (model prog w) A (pyNext (.ref it)) Q E s:=by
 obtain⟨o,ho,t7,hd⟩:=hS.ex
 obtain⟨op,hop,hcp,hdp⟩:=hp
 have T:Shared.TypeIs s (.ref it) "set_iterator":=⟨_,jX,rfl⟩
 unfold pyNext
 refine aa (eA (bc (name:=Str.ofString "__next__") T eE (bb eE T kD ?_ (kE _))))
 show wpAny _ _ (fieldsOf (.ref it) >>= _) _ _ s
 refine aa (ko jX rfl ?_)
 dsimp only
 refine aa (fW ho hd hS.fits ?_)
 rw[ax (by rw[hn];simp)]
 refine aa (c8 hop hdp ?_)
 simp only[aO,hk]
 refine aa (b8 jX (by simp) fun g e1 e2=>aa (b8 e1 (by simp) fun g2 e3 e4=>sH (s:={ s with heap:=g2 }) (show A.in1.handled=none from hh) fun g3 e kp hx=>?_))
 obtain⟨ox,hox,hcx⟩:=hx
 refine aa (df (T:="StopIteration") (b:=true) ⟨ox,hox,hcx⟩ iK (am (q g3 fun b o hb e=>kp b o ?_)))
 exact e4.extBut b o hb (e2.extBut b o hb e)
theorem D_{it S:Addr}{i n ep sl sl':Nat}{es:Array (Int×Value)}{t:SetTable}{x:Value}{Q:Option Value->Shared->Prop}(jX:s.heap.get? it=some (oO (rawInt sl) i S n ep))(hS:iO w s.heap S es ep t)(hn:es.size=n)
  (hx:∀(Q':Option (Value×Nat)->Shared->Prop) (E':Value->Shared->Prop),Q' (some (x,sl')) s->wpAny (model prog w) A.in1 (setNext S sl i ep) Q' E' s)
  (q:∀g,g.get? it=some (oO (rawInt sl') ((i:Int)+1) S n ep)->Heap.SameBut it s.heap g->Q (some x) { s with heap:=g }):wpAny (model prog w) A (pyNext (.ref it)) Q E s:=by
 obtain⟨o,ho,t7,hd⟩:=hS.ex
 have T:Shared.TypeIs s (.ref it) "set_iterator":=⟨_,jX,rfl⟩
 unfold pyNext
 refine aa (eA (bc (name:=Str.ofString "__next__") T eE (bb eE T kD ?_ (kE _))))
 show wpAny _ _ (fieldsOf (.ref it) >>= _) _ _ s
 refine aa (ko jX rfl ?_)
 dsimp only
 refine aa (fW ho hd hS.fits ?_)
 rw[ax (by rw[hn];simp)]
 show wpAny _ _ (setNext S (sl:Int).toNat (i:Int).toNat (ep:Int).toNat >>= _) _ _ s
 simp only[aO]
 refine aa (hx _ _ ?_)
 dsimp only
 refine aa (b8 jX (by simp) fun g e1 e2=>aa (b8 e1 (by simp) fun g2 e3 e4=>am ⟨_,rfl,am (q g2 (by simpa using e3) (e2.trans e4))⟩))
theorem vE{it S:Addr}{i n ep sl:Nat}{es:Array (Int×Value)}{t:SetTable}{Q:Option Value->Shared->Prop}(hh:A.handled=none)(jX:s.heap.get? it=some (oO (rawInt sl) i S n ep))(hS:iO w s.heap S es ep t)(hn:es.size=n)
  (hx:∀(Q':Option (Value×Nat)->Shared->Prop) (E':Value->Shared->Prop),Q' none s->wpAny (model prog w) A.in1 (setNext S sl i ep) Q' E' s)
  (q:∀g,(∀b o,b≠it->s.heap.get? b=some o->g.get? b=some o)->Q none { s with heap:=g }):wpAny (model prog w) A (pyNext (.ref it)) Q E s:=by
 obtain⟨o,ho,t7,hd⟩:=hS.ex
 have T:Shared.TypeIs s (.ref it) "set_iterator":=⟨_,jX,rfl⟩
 unfold pyNext
 refine aa (eA (bc (name:=Str.ofString "__next__") T eE (bb eE T kD ?_ (kE _))))
 show wpAny _ _ (fieldsOf (.ref it) >>= _) _ _ s
 refine aa (ko jX rfl ?_)
 dsimp only
 refine aa (fW ho hd hS.fits ?_)
 rw[ax (by rw[hn];simp)]
 show wpAny _ _ (setNext S (sl:Int).toNat (i:Int).toNat (ep:Int).toNat >>= _) _ _ s
 simp only[aO]
 refine aa (hx _ _ ?_)
 dsimp only
 refine aa (b8 jX (by simp) fun g e1 e2=>sH (s:={ s with heap:=g }) (show A.in1.handled=none from hh) fun g3 e kp hx=>?_)
 obtain⟨ox,hox,hcx⟩:=hx
 exact aa (df (T:="StopIteration") (b:=true) ⟨ox,hox,hcx⟩ iK (am (q g3 fun b o hb e=>kp b o (e2.extBut b o hb e))))
end
theorem re:Slot "set_iterator" "__iter__" "set_iterator.__iter__":=.of (owner:="set_iterator") (n:="__iter__") (by rw[gs,dW];kernel_rfl) (by decide +kernel) (by decide +kernel) (by decide +kernel) (by first|exact .inl (by decide +kernel)|exact .inr (by decide +kernel)) (by rw[cU];kernel_rfl)
theorem xu(a:Value):argsOk "set_iterator.__iter__" ⟨[a],[]⟩:=by unfold argsOk;kernel_rfl
theorem xw:entryFor table "set_iterator.__iter__"=some Builtin.«dict_keyiterator.__iter__»:=n5 (id':="dict_keyiterator.__iter__") (by kernel_rfl) (by first|rfl|decide +kernel|(unfold String.splitOn;simp +decide [String.splitOnAux])) (by decide +kernel) (by kernel_rfl)
section
variable{prog:Program}{w:World}{A:Around}{E:Value->Shared->Prop}{s:Shared}
theorem xy{it S:Addr}{f:Value}{i:Int}{n ep:Nat}{Q:Value->Shared->Prop}(jX:s.heap.get? it=some (oO f i S n ep))(q:Q (.ref it) s):wpAny (model prog w) A (pyIter (.ref it)) Q E s:=by
 have T:Shared.TypeIs s (.ref it) "set_iterator":=⟨_,jX,rfl⟩
 exact kU T re (bb re T xw (am ⟨_,rfl,"set_iterator",_,T,eE.lookup,q⟩) (xu _))
theorem zH(hh:A.handled=none){it S p:Addr}{n ep:Nat}{es:Array (Int×Value)}{t:SetTable}{pl:List Nat}(lq:pl.Perm (List.range n))(hn:es.size=n)(h1:it≠S)(h2:it≠p) :
  Walks prog w A it [it,p,S] [it] n (fun i v=>∃k x,pl[i]?=some k/\es[k]?=some x/\v=x.2) (fun i h=>i<=n/\h.get? it=some (oO (.ref p) i S n ep)/\(∃o,h.get? p=some o/\o.cls=.type "tuple"/\∃e,o.data=.seq (pl.map fun k:Nat=>rawInt k).toArray e)/\iO w h S es ep t) where
 sub:=fun b hb=>by simp at hb;simp[hb]
 frame:=fun i h h' st k=>⟨st.1,k it (by simp) _ st.2.1,(let ⟨o,ho,r⟩:=st.2.2.1;⟨o,k p (by simp) o ho,r⟩),st.2.2.2.keep fun o ho=>k S (by simp) o ho⟩
 item:=fun i s Q E hi st q=>by
  obtain⟨_,jX,⟨op,hop,hcp,e,hdp⟩,hS⟩:=st
  have hl:pl.length=n:=by have:=lq.length_eq;simpa using this
  have hk:pl[i]?=some pl[i]:=ae (by omega)
  have hkn:pl[i]<es.size:=by rw[hn];exact f7.mp (lq.mem_iff.mp (cW (by omega)))
  refine Cp jX hS hn ⟨op,hop,hcp,hdp⟩ (k:=pl[i]) (x:=es[pl[i]]) (by simp[hk]) (by simp[hkn]) fun g a b=>q _ g s.toks ⟨pl[i],es[pl[i]],hk,by simp[hkn],rfl⟩ ⟨hi,?_,⟨op,b.extBut p op (Ne.symm h2) hop,hcp,e,hdp⟩,hS.keep fun o ho=>b.extBut S o (Ne.symm h1) ho⟩ fun c o hc ho=>b.extBut c o (fun z=>hc (by simp[z])) ho
  rw[a];rfl
 done:=fun s Q E st q=>by
  obtain⟨_,jX,⟨op,hop,hcp,e,hdp⟩,hS⟩:=st
  have hl:pl.length=n:=by have:=lq.length_eq;simpa using this
  exact ue hh jX hS hn ⟨op,hop,hcp,hdp⟩ (by simp[hl]) fun g kp=>q g s.toks fun c o hc ho=>kp c o (fun z=>hc (by simp[z])) ho
 self:=fun i s Q E st q=>xy st.2.1 q
theorem Cq(hh:A.handled=none){it S:Addr}{n ep:Nat}{es:Array (Int×Value)}{t:SetTable}{vs:List Value}{sl:Nat->Nat}(hv:vs.length=n)(hn:es.size=n)(h1:it≠S)
  (hx:∀(s:Shared) (i:Nat),iO w s.heap S es ep t->i<=n->∀(A:Around) (Q':Option (Value×Nat)->Shared->Prop) (E':Value->Shared->Prop),Q' ((vs[i]?).map fun v=>(v,sl (i+1))) s->wpAny (model prog w) A (setNext S (sl i) i ep) Q' E' s) :
  Walks prog w A it [it,S] [it] n (fun i v=>vs[i]?=some v) (fun i h=>i<=n/\h.get? it=some (oO (rawInt (sl i)) i S n ep)/\iO w h S es ep t) where
 sub:=fun b hb=>by simp at hb;simp[hb]
 frame:=fun i h h' st k=>⟨st.1,k it (by simp) _ st.2.1,st.2.2.keep fun o ho=>k S (by simp) o ho⟩
 item:=fun i s Q E hi st q=>by
  obtain⟨_,jX,hS⟩:=st
  have hk:vs[i]?=some vs[i]:=ae (by omega)
  refine D_ (x:=vs[i]) (sl':=sl (i+1)) jX hS hn (fun Q' E' y=>hx s i hS (gf hi) _ Q' E' (by rw[hk];exact y)) fun g a b=>q _ g s.toks hk ⟨hi,?_,hS.keep fun o ho=>b.extBut S o (Ne.symm h1) ho⟩ fun c o hc ho=>b.extBut c o (fun z=>hc (by simp[z])) ho
  rw[a];rfl
 done:=fun s Q E st q=>by
  obtain⟨_,jX,hS⟩:=st
  have hk:vs[n]?=none:=b9 (by omega)
  exact vE hh jX hS hn (fun Q' E' y=>hx s n hS (ay _) _ Q' E' (by rw[hk];exact y)) fun g kp=>q g s.toks fun c o hc ho=>kp c o (fun z=>hc (by simp[z])) ho
 self:=fun i s Q E st q=>xy st.2.1 q
end
section
variable{prog:Program}{w:World}{A:Around}{E:Value->Shared->Prop}{s:Shared}
theorem n_{Q:Bool->Shared->Prop}(q:Q (rN w) s):wpAny (model prog w) A setsByText Q E s:=by
 unfold setsByText
 exact aa (l8 (am q))
theorem Cr{S:Addr}{es:Array (Int×Value)}{ep:Nat}{t:SetTable}{i:Nat}{Q:Option (Value×Nat)->Shared->Prop}(hb:rN w=true)(hS:iO w s.heap S es ep t)
  (q:Q ((((pickOrder (w.params.setOrder S ep) es).toList.map (·.2))[i]?).map fun v=>(v,0)) s):wpAny (model prog w) A (setNext S 0 i ep) Q E s:=by
 obtain⟨o,ho,t7,hd⟩:=hS.ex
 unfold setNext
 refine aa (fM ho hd hS.fits ?_)
 dsimp only
 refine aa (n_ ?_)
 rw[hb,aq rfl,ax (by simp)]
 unfold setWalk
 refine aa (aa (fM ho hd hS.fits ?_))
 dsimp only
 refine aa (n_ ?_)
 rw[hb,aq rfl]
 refine aa (l8 (am (am ?_)))
 have e:((pickOrder (w.params.setOrder S ep) es)[i]?).map (fun e=>(e.2,0))=(((pickOrder (w.params.setOrder S ep) es).toList.map (·.2))[i]?).map fun v=>(v,0):=by
  rw[aD,fw,Option.map_map];rfl
 show Q (((pickOrder (w.params.setOrder S ep) es)[i]?).map fun e=>(e.2,0)) s
 rw[e];exact q
theorem uI(p:Nat):SetTable.below #[p] 0=0/\SetTable.below #[p] (p+1)=1:=by
 unfold SetTable.below
 constructor
 ·simp[SetTable.below.go]
 ·simp[SetTable.below.go]
theorem D'{S:Addr}{es:Array (Int×Value)}{ep:Nat}{t:SetTable}{i:Nat}{Q:Option (Value×Nat)->Shared->Prop}(hb:rN w=false)(hS:iO w s.heap S es ep t)(Oq:t.led=true)(h1:es.size<=1)(hi:i<=es.size)
  (q:Q (((es.toList.map (·.2))[i]?).map fun v=>(v,if i+1=0 then 0 else t.place.getD 0 0+1)) s):wpAny (model prog w) A (setNext S (if i=0 then 0 else t.place.getD 0 0+1) i ep) Q E s:=by
 obtain⟨o,ho,t7,hd⟩:=hS.ex
 have hf:=hS.fits
 have hps:t.place.size=es.size:=by
  unfold SetTable.fits at hf
  simp only[bN,c7]at hf
  exact hf.1
 unfold setNext
 refine aa (fM ho hd hS.fits ?_)
 dsimp only
 refine aa (n_ ?_)
 rw[hb,ax c6]
 show wpAny _ _ (if (!t.plain&&decide (es.size>1))=true then _ else _) _ _ _
 rw[ax (by simp;omega)]
 show wpAny _ _ ((if (!t.led&&!es.isEmpty)=true then _ else pure ()) >>= _) _ _ _
 rw[ax (by simp[Oq])]
 refine aa (am (am ?_))
 by_cases hz:es.size=0
 ·have e1:es=#[]:=Array.eq_empty_of_size_eq_zero hz
  subst e1
  simpa using q
 ·have hs1:es.size=1:=by omega
  obtain⟨x,rfl⟩:∃x,es=#[x]:=by
   obtain⟨l⟩:=es
   match l,hs1 with
   |[x],_=>exact⟨x,rfl⟩
  obtain⟨p,hp⟩:∃p,t.place=#[p]:=by
   generalize t.place=pl at hps
   obtain⟨l⟩:=pl
   match l,hps with
   |[x],_=>exact⟨x,rfl⟩
  rw[hp]at q ⊢
  rcases(show i=0\/i=1 by simp at hi;omega)with rfl|rfl
  ·simp[uI]at q ⊢;exact q
  ·simp[uI]at q ⊢;exact q
end
theorem vF{α β:Type}[Inhabited β](f:Nat->β)(xs:List α)(g:α->β)(n:Nat)(hn:xs.length=n)(hf:∀i x,xs[i]?=some x->f i=g x):(List.range n).map f=xs.map g:=by
 apply fO
 intro i
 rw[aD,aD]
 by_cases h:i<n
 ·rw[eT h,ae (by omega)]
  exact cM some (hf i _ (ae (by omega)))
 ·rw[b9 (by simp;omega),b9 (by omega)];rfl
section
variable{prog:Program}{w:World}{A:Around}{E:Value->Shared->Prop}{s:Shared}
theorem Ea{S:Addr}{es:Array (Int×Value)}{ep:Nat}{t:SetTable}{Q:Value->Shared->Prop}(hS:iO w s.heap S es ep t)(Hf:A9 w es.size t)(hsz:es.size<=sizeLine)
  (q:∀(g:Heap) (d:Drawn) (it:Addr) (fp:List Addr) (P:Nat->Value->Prop) (St:Nat->Heap->Prop),(∀A:Around,A.handled=none->Walks prog w A it fp [it] es.size P St)->St 0 g->s.heap.objs.size<=it->(∀b∈fp,b=S\/s.heap.objs.size<=b)->(∀b∈fp,b<g.objs.size)->(∀b o,s.heap.get? b=some o->g.get? b=some o) ->
   (∀jt,ItemsOf P jt es.size->jt.toList.Perm (es.toList.map (·.2)))->Q (.ref it) { s with heap:=g,drawn:=d }):wpAny (model prog w) A (pyIter (.ref S)) Q E s:=by
 obtain⟨o,ho,t7,hd⟩:=hS.ex
 have T:Shared.TypeIs s (.ref S) "set":=⟨o,ho,t7.1⟩
 have hSlt:=aE ho
 refine kU T PySem.F.slot_set_iter (bb PySem.F.slot_set_iter T xg ?_ (PySem.F.args_set_iter_1 _))
 show wpAny _ _ (Builtin.Frozenset.sizeOf S >>= _) _ _ s
 unfold Builtin.Frozenset.sizeOf
 refine aa (aa (fW ho hd hS.fits (am ?_)))
 unfold setDrawn
 refine aa (aa (fM ho hd hS.fits ?_))
 dsimp only
 refine aa (n_ (am ?_))
 by_cases hdr:(!rN w&&(!t.plain&&decide (es.size>1)))=true
 ·show wpAny _ _ (if (!rN w&&(!t.plain&&decide (es.size>1)))=true then _ else _) _ _ _
  rw[aq hdr]
  refine aa (xq es.size (List.range es.size) _ _ (by simp) fun pl hp d=>?_)
  have hl:pl.length=es.size:=by have:=hp.length_eq;simpa using this
  refine aa (wpAny_newTuple ?_ (by rw[ar,hl];exact hsz))
  have hS1:iO w (s.heap.push { cls:=.type "tuple",data:=.seq (pl.map fun i:Nat=>rawInt i).toArray }) S es ep t:=hS.keep fun o e=>ak _ e
  obtain⟨o1,ho1,_,hd1⟩:=hS1.ex
  refine aa (wpAny_setEpoch_of (s:={ s with heap:=s.heap.push { cls:=.type "tuple",data:=.seq (pl.map fun i:Nat=>rawInt i).toArray },drawn:=d }) ho1 hd1 hS.fits ?_)
  refine aa (bD (am ⟨_,rfl,"set_iterator",_,⟨_,au _ rfl,rfl⟩,eE.lookup,?_⟩))
  have z:(s.heap.push { cls:=.type "tuple",data:=.seq (pl.map fun i:Nat=>rawInt i).toArray }).objs.size=s.heap.objs.size+1:=bY ..
  refine q _ d _ [_,s.heap.objs.size,S] _ _ (fun A hA=>zH (p:=s.heap.objs.size) (t:=t) (ep:=ep) hA hp rfl ?_ ?_) ⟨ca _,au _ rfl,⟨_,ak _ (au _ rfl),rfl,0,rfl⟩,hS1.keep fun o e=>ak _ e⟩ ?_ (fun b hb=>?_) (fun b hb=>?_) (fun b o e=>ak _ (ak _ e)) fun jt hacc=>?_
  ·rw[z];exact fJ (cZ hSlt)
  ·rw[z];exact Nat.succ_ne_self _
  ·rw[z];exact gM _
  ·simp only[aM,d8,kq]at hb
   rcases hb with rfl|rfl|rfl
   ·rw[z];exact .inr (gM _)
   ·exact .inr (ay _)
   ·exact .inl rfl
  ·simp only[aM,d8,kq]at hb
   have z2:∀o2,((s.heap.push { cls:=.type "tuple",data:=.seq (pl.map fun i:Nat=>rawInt i).toArray }).push o2).objs.size=s.heap.objs.size+2:=fun o2=>by rw[bY,z]
   rw[z2]
   rcases hb with rfl|rfl|rfl
   ·rw[z];exact dB _
   ·exact cZ (dB _)
   ·exact cZ (cZ hSlt)
  ·have e:jt.toList=pl.map fun k=>(es.getD k (0,.none)).2:=by
    apply fO
    intro i
    rw[aD]
    by_cases hi:i<es.size
    ·have hia:i<jt.size:=by rw[hacc.1];exact hi
     have ha:jt[i]?=some (jt[i]'hia):=g_ hia
     obtain⟨k,x,h1,h2,h3⟩:=hacc.2 i _ ha
     rw[fw,ha,h1]
     have:es.getD k (0,.none)=x:=by rw[j0,h2];rfl
     rw[h3]
     show some x.2=some (es.getD k (0,.none)).2
     rw[this]
    ·rw[b9 (by rw[dM,hacc.1];omega),b9 (by omega)];rfl
   rw[e]
   refine(hp.map _).trans (List.Perm.of_eq ?_)
   exact vF _ es.toList (·.2) es.size (by simp) fun i x hx=>by
    have hx':es[i]?=some x:=by rw[<- fw];exact hx
    rw[j0,hx'];rfl
 ·show wpAny _ _ (if (!rN w&&(!t.plain&&decide (es.size>1)))=true then _ else _) _ _ _
  rw[ax hdr]
  refine aa (am (aa (wpAny_setEpoch_of ho hd hS.fits ?_)))
  refine aa (bD (am ⟨_,rfl,"set_iterator",_,⟨_,au _ rfl,rfl⟩,eE.lookup,?_⟩))
  have lE:∀(vs:List Value) (sl:Nat->Nat),sl 0=0->vs.Perm (es.toList.map (·.2))->(∀(s:Shared) (i:Nat),iO w s.heap S es ep t->i<=es.size->∀(A:Around) (Q':Option (Value×Nat)->Shared->Prop) (E':Value->Shared->Prop),Q' ((vs[i]?).map fun v=>(v,sl (i+1))) s->wpAny (model prog w) A (setNext S (sl i) i ep) Q' E' s) ->
    Q (.ref s.heap.objs.size) { s with heap:=s.heap.push (oO (rawInt 0) 0 S es.size ep) }:=fun vs sl h0 hp hx=>by
   have hl:vs.length=es.size:=by have:=hp.length_eq;simpa using this
   refine q _ s.drawn s.heap.objs.size [s.heap.objs.size,S] _ _ (fun A hA=>Cq (t:=t) (ep:=ep) (vs:=vs) (sl:=sl) hA hl rfl (fJ hSlt) hx) ⟨ca _,?_,hS.keep fun o e=>ak _ e⟩ (ay _) (fun b hb=>?_) (fun b hb=>?_) (fun b o e=>ak _ e) fun jt hacc=>?_
   ·rw[h0];exact au _ rfl
   ·simp only[aM,d8,kq]at hb
    rcases hb with rfl|rfl
    ·exact .inr (ay _)
    ·exact .inl rfl
   ·simp only[aM,d8,kq]at hb
    rw[bY]
    rcases hb with rfl|rfl
    ·exact dB _
    ·exact cZ hSlt
   ·have e:jt.toList=vs:=by
     apply fO
     intro i
     by_cases hi:i<es.size
     ·have hia:i<jt.size:=by rw[hacc.1];exact hi
      have ha:jt[i]?=some (jt[i]'hia):=g_ hia
      rw[fw,ha,hacc.2 i _ ha]
     ·rw[b9 (by rw[dM,hacc.1];omega),b9 (by omega)]
    rw[e];exact hp
  cases hb:rN w with
  |true=>exact lE ((pickOrder (w.params.setOrder S ep) es).toList.map (·.2)) (fun _=>0) rfl ((Co _ _).map _) fun s i hS' hi A Q' E' y=>Cr hb hS' y
  |false=>
   have h1:es.size<=1:=by
    rcases Hf.2 with z|z
    ·omega
    ·rw[hb,z]at hdr;simp at hdr;omega
   have Oq:t.led=true:=Hf.1.resolve_left (by rw[hb];exact c6)
   exact lE (es.toList.map (·.2)) (fun i=>if i=0 then 0 else t.place.getD 0 0+1) rfl (gN _) fun s i hS' hi A Q' E' y=>D' hb hS' Oq h1 hi y
end
section
variable{prog:Program}{w:World}{A:Around}{E:Value->Shared->Prop}{s:Shared}
theorem Eb{S:Addr}{Q:Bool->Shared->Prop}(T:s.TypeIs (.ref S) "set")(q:Q false s):wpAny (model prog w) A (Builtin.List.listLengthHint (.ref S)) Q E s:=by
 unfold Builtin.List.listLengthHint
 refine aa (eO T PySem.F.slot_set_len.lookup ?_)
 generalize hid:("set.__len__":String)=id0
 wp_delta
 rw[show splitId id0=some ("set","__len__")from by subst hid;decide +kernel]
 subst hid
 refine aa (df (T:="set") (b:=true) T (by rw[cU];kernel_rfl) ?_)
 refine nw (fun y=>absurd y (by decide)) (fun _=>nw (fun _=>?_) (fun y=>absurd (by decide +kernel) y))
 exact aa (jY T (am q))
theorem xz{S:Addr}{es:Array (Int×Value)}{ep:Nat}{t:SetTable}{Q:List Value->Shared->Prop}(hS:iO w s.heap S es ep t)(Hf:A9 w es.size t)(hsz:es.size<=sizeLine)(hh:A.handled=none)
  (q:∀(g:Heap) (d:Drawn) (tk:Nat) (vs:List Value),(∀b o,s.heap.get? b=some o->g.get? b=some o)->vs.Perm (es.toList.map (·.2))->Q vs { s with heap:=g,drawn:=d,toks:=tk }):wpAny (model prog w) A (collect (.ref S)) Q E s:=by
 obtain⟨o,ho,t7,hd⟩:=hS.ex
 have hSlt:=aE ho
 unfold collect
 refine aa (wpAny_runValue (gu entry_proto_collect' ?_))
 rw[fN PySem.F.plain_proto_collect _]
 show wpAny _ A.in1 (newList [] >>= fun l=>again (.builtin "list.__iadd__" ⟨[l,.ref S],[]⟩)) _ _ s
 refine aa (bD (am ⟨i_ PySem.F.plain_list_iadd _,gu entry_list_iadd' ?_⟩))
 rw[fN PySem.F.plain_list_iadd _]
 generalize hL:s.heap.objs.size=L
 have gL:(s.heap.push { cls:=.type "list",data:=.seq ([]:List Value).toArray }).get? L=some { cls:=.type "list",data:=.seq #[] }:=by rw[<- hL];exact au _ rfl
 have hS1:iO w (s.heap.push { cls:=.type "list",data:=.seq ([]:List Value).toArray }) S es ep t:=hS.keep fun o e=>ak _ e
 have z1:(s.heap.push { cls:=.type "list",data:=.seq ([]:List Value).toArray }).objs.size=L+1:=by rw[bY,hL]
 have kp1:∀b o,s.heap.get? b=some o->(s.heap.push { cls:=.type "list",data:=.seq ([]:List Value).toArray }).get? b=some o:=fun b o e=>ak _ e
 have bL:∀b o,s.heap.get? b=some o->b≠L:=fun b o e=>by rw[<- hL];exact ba (aE e)
 generalize s.heap.push { cls:=.type "list",data:=.seq ([]:List Value).toArray }=h1 at gL hS1 z1 kp1 ⊢
 have oK:L≠S:=by rw[<- hL];exact fJ hSlt
 obtain⟨o1,ho1,hex1,hd1⟩:=hS1.ex
 have T:Shared.TypeIs { s with heap:=h1 } (.ref S) "set":=⟨o1,ho1,hex1.1⟩
 show wpAny _ A.in1 (Builtin.List.listExtendWith (.ref L) (.ref S) (.ref L)) _ _ _
 unfold Builtin.List.listExtendWith
 refine aa (jY (T:="set") T ?_)
 have e1:Builtin.List.listSameRef (.ref L) (.ref S)=false:=by simp[Builtin.List.listSameRef,oK]
 have e2:(Value.type "set" == Value.type "list")=false:=by decide
 have e3:(Value.type "set" == Value.type "tuple")=false:=by decide
 simp only[e1,e2,e3,lr,cx,f9]
 refine aa (Ea (s:={ s with heap:=h1 }) hS1 Hf hsz fun g d it fp P St W st jX Rv hfl kp2 hperm=>?_)
 have gL2:=kp2 _ _ gL
 have hLf:L∉fp:=fun hm=>by
  rcases Rv L hm with y|y
  ·exact oK y
  ·rw[show Shared.heap { s with heap:=h1 }=h1 from rfl,z1]at y;exact absurd y (Nat.not_le.mpr (dB _))
 obtain⟨o2,ho2,hex2,hd2⟩:=(hS1.keep fun o e=>kp2 S o e).ex
 refine aa (du (Eb (s:={ s with heap:=g,drawn:=d }) ⟨o2,ho2,hex2.1⟩ ?_))
 have itL:it≠L:=fun y=>by
  have:=jX
  rw[show Shared.heap { s with heap:=h1 }=h1 from rfl,z1,y]at this
  exact absurd this (Nat.not_le.mpr (dB _))
 have old:∀b o,s.heap.get? b=some o->b≠it:=fun b o e y=>by
  have h2:=aE (kp1 b o e)
  have h3:=jX
  rw[show Shared.heap { s with heap:=h1 }=h1 from rfl]at h3
  rw[y]at h2
  exact absurd h2 (mT.mpr h3)
 have key:∀(g':Heap) (c tk:Nat),St 0 g'->(∀b o,b≠L->g.get? b=some o->g'.get? b=some o)->g'.get? L=some { cls:=.type "list",data:=.seq #[] c } ->
   codeAny (model prog w) A (.builtin "list.extend.loop" ⟨[.ref L,.ref it,.ref L],[]⟩) (wants (fun r s'=>wpAny (model prog w) A (match r with|.ref a=>(do match (<- load a).data with|.seq xs _=>pure xs.toList|_=>unsupported "internal:collect")|_=>unsupported "internal:collect") Q E s') E) { s with heap:=g',drawn:=d,toks:=tk }:=by
  intro g' c tk bu kp3 gL3
  refine codeAny_extend_loopS (W A.in1 (by simpa using hh)).toS hsz L hLf (.ref L) es.size 0 _ #[] c rfl (ca _) bu gL3 (ItemsOf.nil _) fun s' jt c' hm gL4 hacc=>?_
  have ee:s'={ s with heap:=s'.heap,drawn:=d,toks:=s'.toks }:=by
   have h1:=hm.gens
   have h2:=hm.drawn
   have h3:=hm.os
   cases s'
   simp only at h1 h2 h3
   subst h1;subst h2;subst h3;rfl
  refine aa (wpAny_load gL4 (am ?_))
  rw[ee]
  refine q s'.heap d s'.toks jt.toList (fun b o e=>hm.heap b o (fun y=>?_) (kp3 b o (bL b o e) (kp2 b o (kp1 b o e)))) (hperm jt hacc)
  rcases aM.mp y with y|y
  ·exact bL b o e y
  ·exact old b o e (be.mp y)
 refine nw (fun _=>?_) (fun _=>am ⟨i_ PySem.F.plain_extend_loop _,key g 0 _ st (fun _ _ _ e=>e) gL2⟩)
 refine aa (gj (aa ?_))
 show wpAny _ _ (updateSeq L (·.push .none) >>= fun _=>updateSeq L (·.pop)) _ _ _
 refine aa (wpAny_updateSeq gL2 rfl ?_)
 have g5:=dq (Obj.mapSeq (·.push Value.none)) gL2 rfl
 refine wpAny_updateSeq (hz:=by seq_fits) g5 rfl ?_
 have g6:=dq (Obj.mapSeq (·.pop)) g5 rfl
 refine am ⟨i_ PySem.F.plain_extend_loop _,key _ _ _ ((W A hh).frame 0 _ _ st fun b hb o e=>?_) (fun b o hb e=>?_) g6⟩
 ·have hbL:b≠L:=fun y=>hLf (y▸hb)
  exact(cQ _ _ (Ne.symm hbL)).trans ((cQ _ _ (Ne.symm hbL)).trans e)
 ·exact(cQ _ _ (Ne.symm hb)).trans ((cQ _ _ (Ne.symm hb)).trans e)
end
section
variable{prog:Program}{w:World}{A:Around}{E:Value->Shared->Prop}{s:Shared}
theorem zI{S:Addr}{ks:List Str}{Q:Value->Shared->Prop}(z:xk prog w s.heap S ks)(few:ks.length<64)(hh:A.handled=none)
  (q:∀(g0 g1:Heap) (d:Drawn) (tk:Nat) (out:Array Value) (ss:List Str) (e:Nat),(∀b o,s.heap.get? b=some o->g0.get? b=some o)->(∀b o,g0.get? b=some o->g1.get? b=some o)->g1.get? g0.objs.size=some (seqObj "list" out e) ->
   StrsAre out.toList ss->ss.Perm ks->sortedS ss=true->Q (.ref g0.objs.size) { s with heap:=g1,drawn:=d,toks:=tk }):wpAny (model prog w) A (call (.builtin "sorted") [.ref S]) Q E s:=by
 obtain⟨o,es,ep,t,ho,t7,hd,hel,hp,hb,hf,Hf⟩:=z
 have hS:iO w s.heap S es ep t:=⟨⟨o,ho,t7,hd⟩,hf⟩
 have eR:es.size=ks.length:=by have:=hp.length_eq;simpa using this
 apply kA kind_sorted plain_sorted entry_sorted (args_sorted1 _)
 show wpAny _ _ (checkCount "sorted" 1 1 _ >>= _) _ _ _
 refine aa (am (aa (xz hS Hf (by rw[kO];omega) (by simpa using hh) fun g d tk vs kp pv=>?_)))
 have hv:∀v∈vs,∃x t,v=Value.str x t:=fun v hv=>by
  obtain⟨e,he,rfl⟩:=aJ.mp (pv.mem_iff.mp hv)
  obtain⟨t,ht⟩:=xn hel e he
  exact⟨_,t,ht⟩
 have mi:=strsAre_map vs hv
 have hks:(vs.map strOf).Perm ks:=by
  refine(pv.map strOf).trans ?_
  rw[a8];exact hp
 have hvl:vs.length<64:=by have:=hks.length_eq;rw[ar]at this;omega
 refine aa (wpAny_newList ?_ (by rw[kO];omega))
 have oL:(g.push (seqObj "list" vs.toArray 0)).get? g.objs.size=some (seqObj "list" vs.toArray 0):=au _ rfl
 refine aa (du (bb slot_list_sort ⟨_,oL,rfl⟩ entry_list_sort (list_sort_treeK strKind_oneLt oL mi.keysOf (fun a b r e=>keyKind_strs (by rw[<- e];exact mi)) hvl fun st a1 a2=>⟨_,rfl,?_⟩) (args_list_sort _)))
 obtain⟨ss,h1,h2,h3⟩:=sorted_out_str mi a1 a2
 obtain⟨e,he⟩:=sortedHeap_at (out:=(arrOf st).map (·.2)) oL
 refine am ⟨_,rfl,q g _ d tk _ ss e kp (fun b o hb=>?_) he h1 (h2.trans hks) h3⟩
 rw[sortedHeap_old (ba (aE hb)) (by rw[bY];exact cZ (aE hb))]
 exact ak _ hb
abbrev Pw(ty:String)(x:Str)(t:Tok):Obj:={ cls:=.type ty,data:=.fields #[.str x t,.int 0 0] }
theorem Ec{l:List Nat}{t:Tok}{Q:Value->Shared->Prop}(hh:A.handled=none)(hb:l.length+1<scanBound)
  (q:∀g tk,JG prog w (fun j=>tx [l.getD j 0]) g s.heap.objs.size l.length->(∀b o,s.heap.get? b=some o->g.get? b=some o)->Q (.ref s.heap.objs.size) { s with heap:=g,toks:=tk }):wpAny (model prog w) A (call (.type "set") [.str (tx l) t]) Q E s:=by
 have z:(s.heap.push (dG w)).objs.size=s.heap.objs.size+1:=bY ..
 have hn:(tx l).cps.size=l.length:=by simp[tx]
 have zn:∀i v,SignAt (tx l) i v->∃t,v=Value.str (tx [l.getD i 0]) t:=by
  rintro i v ⟨c,u,hc,rfl⟩
  have:l[i]?=some c:=by simpa[tx]using hc
  exact⟨u,by rw[av,this];rfl⟩
 have hT:Shared.TypeIs { s with heap:=s.heap.push (dG w) } (.str (tx l) t) "str":=ii _ _ _
 rw[<- hn]at hb q
 cases ha:(tx l).cps.all (· < 128)
 ·refine k7 (T:="str") (fp:=fun it=>[it]) (P:=SignAt (tx l)) (St:=fun it i h=>h.IsStrIter it "str_iterator" (tx l) t i) hT (by rw[cU];kernel_rfl) (by rw[cU];kernel_rfl) (by decide)
   (fun A E Q y=>wpAny_pyIter_wide ha (by show Q (.ref (s.heap.push (dG w)).objs.size) _;rw[z];exact y)) (fun A it hA _=>Walks.strWide hA it (tx l) t) (by simp) ⟨Pw "str_iterator" (tx l) t,?_,rfl,rfl⟩ zn hh hb q
  rw[<- z];exact au _ rfl
 ·refine k7 (T:="str") (fp:=fun it=>[it]) (P:=SignAt (tx l)) (St:=fun it i h=>h.IsStrIter it "str_ascii_iterator" (tx l) t i) hT (by rw[cU];kernel_rfl) (by rw[cU];kernel_rfl) (by decide)
   (fun A E Q y=>wpAny_pyIter_ascii ha (by show Q (.ref (s.heap.push (dG w)).objs.size) _;rw[z];exact y)) (fun A it hA _=>Walks.strAscii hA it (tx l) t) (by simp) ⟨Pw "str_ascii_iterator" (tx l) t,?_,rfl,rfl⟩ zn hh hb q
  rw[<- z];exact au _ rfl
theorem HY{l:List Nat}{a:Addr}{bI:List Value}{Q:Value->Shared->Prop}(hh:A.handled=none)(hb:l.length+1<scanBound)(ht:s.heap.IsTuple a bI.toArray)(hv:cw (gH l) bI)
  (q:∀g tk,JG prog w (fun j=>tx [l.getD j 0]) g s.heap.objs.size l.length->(∀b o,s.heap.get? b=some o->g.get? b=some o)->Q (.ref s.heap.objs.size) { s with heap:=g,toks:=tk }):wpAny (model prog w) A (call (.type "set") [.ref a]) Q E s:=by
 have z:(s.heap.push (dG w)).objs.size=s.heap.objs.size+1:=bY ..
 have hn:bI.toArray.size=l.length:=by have:=hv.length;unfold gH at this;simpa using this.symm
 have ha:a<s.heap.objs.size:=by obtain⟨o,ho,_⟩:=ht;exact aE ho
 have ht1:(s.heap.push (dG w)).IsTuple a bI.toArray:=ht.at fun o e=>ak _ e
 have zn:∀i v,bI.toArray[i]?=some v->∃t,v=Value.str (tx [l.getD i 0]) t:=by
  intro i v hi
  have hi':bI[i]?=some v:=by simpa using hi
  have hlt:i<l.length:=by
   have:=(ai.mp hi').1
   rw[<- hn];simpa using this
  have hx:(gH l)[i]?=some (.str (tx [l.getD i 0])):=by
   unfold gH
   rw[aD,ae hlt,av,ae hlt];rfl
  obtain⟨u,hu,t,e⟩:=hv.get hx
  rw[hi']at hu
  exact⟨t,(aS hu).trans e⟩
 rw[<- hn]at hb q
 refine k7 (T:="tuple") (fp:=fun it=>[it,a]) (P:=fun i v=>bI.toArray[i]?=some v) (St:=fun it i h=>h.IsTupleIter it a i/\h.IsTuple a bI.toArray) ht1.typeIs (by rw[cU];kernel_rfl) (by rw[cU];kernel_rfl) (by decide)
  (fun A E Q y=>fj ht1 (by show Q (.ref (s.heap.push (dG w)).objs.size) _;rw[z];exact y)) (fun A it hA e=>Walks.tuple hA it a (by rw[e];exact ba (cZ ha)) bI.toArray) (by simp;exact fun e=>absurd ha (by rw[<- e];exact cV _)) ⟨⟨{ cls:=.type "tuple_iterator",data:=.fields #[.ref a,.int 0 0] },?_,rfl,rfl⟩,?_⟩ zn hh hb q
 ·rw[<- z];exact au _ rfl
 ·exact ht1.at fun o e=>ak _ e
end
theorem HZ{l:List Nat}{ss ks:List Str}(hp:ss.Perm ks)(zq:ks.Nodup)(hm:∀x,x∈ks↔∃j,j<l.length/\tx [l.getD j 0]=x)(hs:sortedS ss=true) :
  ∃m:List Nat,ss=m.map (fun c=>tx [c])/\m.Nodup/\m.Pairwise (· <= ·)/\∀c,c∈m↔c∈l:=by
 have all:∀z∈ss,tx [z.cps.toList.headD 0]=z:=fun z hz=>by
  obtain⟨j,_,e⟩:=(hm z).mp (hp.mem_iff.mp hz)
  subst e;rfl
 have em:ss=(ss.map fun z=>z.cps.toList.headD 0).map fun c=>tx [c]:=by
  rw[a8]
  conv=>lhs;rw[<- gc ss]
  exact cf fun z hz=>(all z hz).symm
 refine⟨ss.map fun z=>z.cps.toList.headD 0,em,?_,?_,fun c=>?_⟩
 ·have nd:ss.Nodup:=hp.nodup_iff.mpr zq
  rw[em]at nd
  exact List.Pairwise.of_map (fun c=>tx [c]) (fun a b h e=>h (by rw[e])) nd
 ·refine xf _ ?_
  rw[a8]
  rw[em]at hs
  exact hs
 ·constructor
  ·intro hc
   obtain⟨z,hz,rfl⟩:=aJ.mp hc
   obtain⟨j,hj,e⟩:=(hm z).mp (hp.mem_iff.mp hz)
   subst e
   show l.getD j 0∈l
   rw[av,ae hj]
   exact cW hj
  ·intro hc
   obtain⟨j,hj,e⟩:=List.getElem_of_mem hc
   refine aJ.mpr ⟨tx [c],hp.mem_iff.mpr ((hm _).mpr ⟨j,hj,?_⟩),rfl⟩
   rw[av,ae hj,e];rfl
def H9(K:Frag)(H:Hp)(v:V)(l:List Nat):Prop:=v=.str (tx l)\/∃a,v=.ref a/\fQ K H a (gH l)
def Ed(K:Frag)(te:TE):TE:=fun σ H Q=>te σ H fun v H1=>∃l,H9 K H1 v l/\l.length<4000/\(∀m:List Nat,m.Nodup->(∀c∈m,c∈l)->m.length<64) /\
 ∀m:List Nat,m.Nodup->m.Pairwise (· <= ·)->(∀c,c∈m↔c∈l)->∀a H2,H1 a=none->H2=eY H1 a (.lst (m.map fun c=>V.str (tx [c])))->Q (.ref a) H2
theorem bw.kept2{X:Cx}{af:List (Addr×Obj)}{σ:St}{H:Hp}{s:Shared}{h':Heap}{t':Nat}{d':Drawn}(I:bw X af σ H s)(k:∀b o,s.heap.get? b=some o->h'.get? b=some o):bw X af σ H { s with heap:=h',drawn:=d',toks:=t' }:=
 I.step (g':=s.gens) (ch:=[]) (fun _ z=>nomatch z) (fun b o _ _ _ e _=>k b o e) (fun b o _ _ _ e _=>⟨o.slots,k b o e⟩) (fun _ _ _ _ n=>n) (fun b o _ e=>⟨o,k b o e⟩) (fun _ _ e=>e) (fun _ _ _ e=>e) (fun b ps e=>⟨#[],by rw[e];simp⟩)
  (fun m hm=>let ⟨o,es,ep,ho,r⟩:=hm;⟨o,es,ep,k _ o ho,r⟩) (I.hok.kept k) I.bare
theorem Cs{X:Cx}{p1 p2 Og Jp:Pos}{e:Expr}{te:TE}(h1:X.mg "sorted"=none)(h3:X.mg "set"=none)(he:QE X e te)(hc:X.calm=true:=by rfl)
  (Tw:Gl X "sorted":=by rfl) (TC:Gl X "set":=by rfl) (Se:starEach [e] X.env=(false,eval e X.env)::starEach [] X.env:=by rfl):QE X (.Call (.Name "sorted" p1) [.Call (.Name "set" p2) [e] [] Jp] [] Og) (Ed X.K te):=⟨by
 intro af s σ H Q I h
 refine dZ (kZ I Tw h1 PyProof.Rows.boot_sorted (iW ?_) (by decide) (by decide))
 show wpAny _ _ (spliced ((false,eval (.Call (.Name "set" p2) [e] [] Jp) X.env)::[])) _ _ s
 refine gg (dZ (kZ I TC h3 PyProof.Rows.boot_set (cA ?_ Se rfl) (by decide) (by decide)))
 rw[Se]
 show wpAny _ _ (spliced ((false,eval e X.env)::[])) _ _ s
 refine gg (gE (he.h af s σ H _ I h) fun u s1 ⟨v,H1,I1,r1,l,hl,hb,few,q⟩=>iG ?_)
 have hh:X.A.handled=none:=I1.ok.hd hc
 have hb':l.length+1<scanBound:=by unfold scanBound;omega
 have lE:∀g tk,JG X.prog X.w (fun j=>tx [l.getD j 0]) g s1.heap.objs.size l.length->(∀b o,s1.heap.get? b=some o->g.get? b=some o) ->
   wpAny (model X.prog X.w) X.A (spliced []) (fun vs s₂=>wpAny (model X.prog X.w) X.A (call (.builtin "sorted") (.ref s1.heap.objs.size::vs)) (EP X af σ Q) X.xe s₂) X.xe { s1 with heap:=g,toks:=tk }:=fun g tk hM kp=>by
  refine iG ?_
  obtain⟨ks,z,nd,mem,len⟩:=hM
  have tZ:ks.length<64:=by
   obtain⟨m,em,mn,_,mm⟩:∃m:List Nat,ks=m.map (fun c=>tx [c])/\m.Nodup/\True/\∀c∈m,c∈l:=by
    have all:∀z∈ks,tx [z.cps.toList.headD 0]=z:=fun z hz=>by
     obtain⟨j,_,e⟩:=(mem z).mp hz
     subst e;rfl
    have em:ks=(ks.map fun z=>z.cps.toList.headD 0).map fun c=>tx [c]:=by
     rw[a8]
     conv=>lhs;rw[<- gc ks]
     exact cf fun z hz=>(all z hz).symm
    refine⟨_,em,?_,trivial,fun c hc=>?_⟩
    ·have nd':=nd
     rw[em]at nd'
     exact List.Pairwise.of_map (fun c=>tx [c]) (fun a b h e=>h (by rw[e])) nd'
    ·obtain⟨z,hz,rfl⟩:=aJ.mp hc
     obtain⟨j,hj,e⟩:=(mem z).mp hz
     subst e
     show l.getD j 0∈l
     rw[av,ae hj]
     exact cW hj
   rw[em,ar]
   exact few m mn mm
  refine zI z tZ hh fun g0 g1 d tk' out ss ep k0 k1 gL mi hperm hsrt=>?_
  obtain⟨m,em,mn,mp,mm⟩:=HZ hperm nd mem hsrt
  have I2:bw X af σ H1 { s1 with heap:=g0,drawn:=d,toks:=tk' }:=I1.kept2 fun b o e=>k0 b o (kp b o e)
  have sv:H1 g0.objs.size=none:=I2.hok.fresh (ay _)
  have hvals:cw (m.map fun c=>V.str (tx [c])) out.toList:=by
   have e:=ml mi
   rw[em,a8]at e
   exact e
  refine⟨.ref g0.objs.size,_,I2.laid (o:=.lst (m.map fun c=>V.str (tx [c]))) (t':=tk') k1 (ay _) ?_,rfl,q m mn mp mm _ _ sv rfl⟩
  refine⟨?_,out.toList,ep,hvals,gL⟩
  rw[ar]
  exact bh (gf (few m mn fun c hc=>(mm c).mp hc)) (by decide)
 rcases hl with rfl|⟨a,rfl,hT⟩
 ·obtain⟨t,rfl⟩:=r1
  exact Ec hh hb' lE
 ·cases r1
  obtain⟨bI,rv,ht,_⟩:=I1.tuple hT
  exact HY hh hb' ht rv lE⟩
theorem jf:Slot "reversed" "__next__" "reversed.__next__":=.of (owner:="reversed") (n:="__next__") (by rw[gs,dW];kernel_rfl) (by decide +kernel) (by decide +kernel) (by decide +kernel) (by first|exact .inl (by decide +kernel)|exact .inr (by decide +kernel)) (by rw[cU];kernel_rfl)
theorem rg:Slot "reversed" "__iter__" "reversed.__iter__":=.of (owner:="reversed") (n:="__iter__") (by rw[gs,dW];kernel_rfl) (by decide +kernel) (by decide +kernel) (by decide +kernel) (by first|exact .inl (by decide +kernel)|exact .inr (by decide +kernel)) (by rw[cU];kernel_rfl)
theorem xA:Slot "reversed" "__init__" "object.__init__":=.of (owner:="object") (n:="__init__") (by rw[gs,dW];kernel_rfl) (by decide +kernel) (by decide +kernel) (by decide +kernel) (by first|exact .inl (by decide +kernel)|exact .inr (by decide +kernel)) (by rw[cU];kernel_rfl)
theorem rh:entryFor table "reversed.__next__"=some Builtin.«reversed.__next__»:=entryFor_of_tree (by kernel_rfl)
theorem xB:entryFor table "reversed.__iter__"=some Builtin.«dict_keyiterator.__iter__»:=n5 (id':="dict_keyiterator.__iter__") (by kernel_rfl) (by first|rfl|decide +kernel|(unfold String.splitOn;simp +decide [String.splitOnAux])) (by decide +kernel) (by kernel_rfl)
theorem rj(a:Value):argsOk "reversed.__next__" ⟨[a],[]⟩:=by unfold argsOk;kernel_rfl
theorem xC(a:Value):argsOk "reversed.__iter__" ⟨[a],[]⟩:=by unfold argsOk;kernel_rfl
theorem zJ:TypeCalled "reversed" "reversed.__new__" "object.__init__":=⟨by decide +kernel,PySem.F.create_reversed,⟨_,_,PySem.F.mro_reversed⟩,PySem.F.made_reversed,PySem.F.plain_reversed_new,PySem.F.sub_reversed_self,xA⟩
theorem zK:typeLookup (.type "str") "__reversed__"=pure none:=by rw[gs,dW];kernel_rfl
abbrev JH(x:Str)(t:Tok)(i:Int):Obj:={ cls:=.type "reversed",data:=.fields #[.str x t,rawInt i] }
def kb(h:Heap)(it:Addr)(x:Str)(t:Tok)(i:Int):Prop:=∃o,h.get? it=some o/\o.cls=.type "reversed"/\o.data=.fields #[.str x t,rawInt i]
theorem H_(x:Str)(t:Tok)(hx:¬ (x.length:Int)≥2^63) :
  Meets (Builtin.«reversed.__new__» ⟨[.type "reversed",.str x t],[]⟩) (fun _ R s=>∀tk,R (.ok (.ret (.ref s.heap.objs.size))) { s with heap:=s.heap.push (JH x t ((x.length:Int)-1)),toks:=tk }):=
 .of_wp fun prog w A R s h=>by
  unfold Builtin.«reversed.__new__»
  refine aa (fL (newClass_reversed _) ?_)
  try dsimp only
  refine aa (fL (a:=()) (by first|rfl|kernel_rfl) (aa (fL (a:=()) (by first|rfl|kernel_rfl) ?_)))
  try dsimp only
  refine aa (eO (ii _ _ _) zK ?_)
  show wpAny _ _ (_ >>= _) _ _ _
  refine aa ?_
  wp_delta
  refine aa (df (T:="str") (b:=false) (ii _ _ _) (by rw[cU];kernel_rfl) ?_)
  try dsimp only
  try rw[ax c6]
  refine aa (eO (ii _ _ _) PySem.F.slot_str_getitem.lookup ?_)
  try dsimp only
  rw[aq (by decide +kernel)]
  refine am ?_
  rw[ax (by decide)]
  refine aa (len_str hx (aa (fL (a:=some (x.length:Int)) rfl ?_)))
  try dsimp only
  unfold Builtin.SmallTypes.newRecord
  try dsimp only
  exact aa (bD (am ⟨_,rfl,h _⟩))
theorem kb.typeIs{s:Shared}{a:Addr}{x:Str}{t:Tok}{i:Int}(z:kb s.heap a x t i):s.TypeIs (.ref a) "reversed":=let ⟨o,ho,hc,_⟩:=z;⟨o,ho,hc⟩
theorem kb.keep{h h':Heap}{a:Addr}{x:Str}{t:Tok}{i:Int}(z:kb h a x t i)(e:∀o,h.get? a=some o->h'.get? a=some o):kb h' a x t i:=let ⟨o,ho,r⟩:=z;⟨o,e _ ho,r⟩
section
variable{prog:Program}{w:World}{A:Around}{E:Value->Shared->Prop}{s:Shared}
theorem Ee{x:Str}{t:Tok}{Q:Value->Shared->Prop}(hx:¬ (x.length:Int)≥2^63)(q:∀tk,Q (.ref s.heap.objs.size) { s with heap:=s.heap.push (JH x t ((x.length:Int)-1)),toks:=tk }) :
  wpAny (model prog w) A (call (.type "reversed") [.str x t]) Q E s:=by
 refine qp zJ (by decide) (PySem.F.typeCall_reversed_1 _) (PySem.F.newCall_reversed_1 _) (fun ob=>PySem.F.args_object_init_2 ob _) PySem.F.entry_reversed_new (H_ x t hx) fun tk=>?_
 exact⟨⟨_,au _ rfl,rfl⟩,q tk⟩
theorem Ef{it:Addr}{x:Str}{t:Tok}{i c:Nat}{Q:Option Value->Shared->Prop}(jX:kb s.heap it x t (i:Int))(hc:x.cps[i]?=some c)(hi:(i:Int)<2^63)
  (q:∀g tk u,kb g it x t ((i:Int)-1)->Heap.SameBut it s.heap g->Q (some (.str ⟨#[c]⟩ u)) { s with heap:=g,toks:=tk }):wpAny (model prog w) A (pyNext (.ref it)) Q E s:=by
 obtain⟨o,ho,lX,hd⟩:=id jX
 have T:=jX.typeIs
 unfold pyNext
 refine aa (eA (bc (name:=Str.ofString "__next__") T jf (bb jf T rh ?_ (rj _))))
 unfold Builtin.«reversed.__next__»
 refine aa (fL (a:=(Value.ref it,[])) rfl ?_)
 try dsimp only
 refine aa (bS ho hd (x:=.str x t) rfl (aa (bS ho hd (x:=rawInt (i:Int)) rfl ?_)))
 show wpAny _ _ (if (i:Int)<0 then _ else _) _ _ s
 rw[ax (by omega)]
 refine aa (eO (ii _ _ _) PySem.F.slot_str_getitem.lookup ?_)
 rw[ax (by simp)]
 have hlt:i<x.cps.size:=(kr.mp hc).1
 refine aa (wpAny_mkInt (aa (eA (getItem_str (c:=c) (by simp;omega) ?_ ?_))))
 ·rw[show seqIndex? (i:Int) x.length=some i from by rw[PySem.StrLaws.seqIndex_nonneg (by omega) (by have:x.length=x.cps.size:=rfl;omega)];simp]
  exact hc
 try dsimp only
 refine aa (bS ho hd (x:=rawInt (i:Int)) rfl ?_)
 show wpAny _ _ (setField (.ref it) 1 (rawInt ((i:Int)-1)) >>= fun _=>ret _) _ _ _
 refine aa (iJ ho hd (by simp) (am ⟨_,rfl,am (q _ _ _ ?_ (fV ..))⟩))
 exact⟨_,dq _ ho (iR (fq hd _)),(Obj.cls_mapFields ..).trans lX,by rw[fq hd];simp⟩
theorem Ia{it:Addr}{x:Str}{t:Tok}{Q:Option Value->Shared->Prop}(hh:A.handled=none)(jX:kb s.heap it x t (-1))(q:∀g,(∀b o,b≠it->s.heap.get? b=some o->g.get? b=some o)->Q none { s with heap:=g }):wpAny (model prog w) A (pyNext (.ref it)) Q E s:=by
 obtain⟨o,ho,lX,hd⟩:=id jX
 have T:=jX.typeIs
 unfold pyNext
 refine aa (eA (bc (name:=Str.ofString "__next__") T jf (bb jf T rh ?_ (rj _))))
 unfold Builtin.«reversed.__next__»
 refine aa (fL (a:=(Value.ref it,[])) rfl ?_)
 try dsimp only
 refine aa (bS ho hd (x:=.str x t) rfl (aa (bS ho hd (x:=rawInt (-1)) rfl ?_)))
 show wpAny _ _ (if (-1:Int)<0 then _ else _) _ _ s
 rw[aq (by decide)]
 refine aa (gj (aa ?_))
 wp_delta
 refine aa (iJ ho hd (by simp) ?_)
 have ho2:=dq (Obj.mapFields fun a=>a.set! 1 (rawInt (-1))) ho (iR (fq hd _))
 refine iJ ho2 (fq hd _) (by simp) ?_
 refine aa ?_
 show wpAny _ _ (newExc (.type "StopIteration") [] >>= _) _ _ _
 refine aa ?_
 simp only[newExc,newTuple]
 refine aa (bD (aa (m:=firstArgMember _ _) (fL (a:=Value.none) (by first|rfl|(simp only[firstArgMember];rfl)) (bD ?_ (by size_fits)))) (by size_fits))
 simp only[raiseNew]
 refine aa (o9 ?_)
 rw[show A.in1.handled=none from hh]
 refine aa (am (wpAny_throw ?_))
 refine aa (df (T:="StopIteration") (b:=true) ⟨_,au _ rfl,rfl⟩ iK ?_)
 refine am (q _ fun b o hb e=>ak _ (ak _ ?_))
 exact(cQ _ _ (Ne.symm hb)).trans ((cQ _ _ (Ne.symm hb)).trans e)
theorem sI{it:Addr}{x:Str}{t:Tok}{i:Int}{Q:Value->Shared->Prop}(jX:kb s.heap it x t i)(q:Q (.ref it) s):wpAny (model prog w) A (pyIter (.ref it)) Q E s:=by
 have T:=jX.typeIs
 refine kU T rg (bb rg T xB ?_ (xC _))
 show wpAny _ _ (ret (.ref it)) _ _ s
 exact am ⟨_,rfl,"reversed",_,T,jf.lookup,q⟩
end
theorem Ct{prog:Program}{w:World}{A:Around}(hh:A.handled=none)(it:Addr)(x:Str)(t:Tok)(hx:(x.length:Int)<2^63) :
  Walks prog w A it [it] [it] x.length (fun i v=>∃c u,x.cps[x.length-1-i]?=some c/\v=.str ⟨#[c]⟩ u) (fun i h=>i<=x.length/\kb h it x t ((x.length:Int)-1-(i:Int))) where
 sub:=fun _ hb=>hb
 frame:=fun _ _ _ st hk=>⟨st.1,st.2.keep fun o e=>hk it (by simp) o e⟩
 item:=fun i s Q E hi st q=>by
  have e:(x.length:Int)-1-(i:Int)=((x.length-1-i:Nat):Int):=by omega
  have jX:=st.2
  rw[e]at jX
  have hlt:x.length-1-i<x.cps.size:=by have:x.length=x.cps.size:=rfl;omega
  have hc:x.cps[x.length-1-i]?=some (x.cps[x.length-1-i]'hlt):=g_ hlt
  refine Ef jX hc (by omega) fun g tk u hg sb=>?_
  have e2:((x.length-1-i:Nat):Int)-1=(x.length:Int)-1-((i+1:Nat):Int):=by omega
  rw[e2]at hg
  exact q _ g tk ⟨_,u,hc,rfl⟩ ⟨hi,hg⟩ fun b o hb eo=>sb.extBut b o (fun h=>hb (by simp[h])) eo
 done:=fun s Q E st q=>by
  have e:(x.length:Int)-1-(x.length:Int)=-1:=by omega
  have jX:=st.2
  rw[e]at jX
  exact Ia hh jX fun g kp=>q g s.toks fun b o hb eo=>kp b o (fun h=>hb (by simp[h])) eo
 self:=fun _ _ _ _ st q=>sI st.2 q
def Px(ta:TA):TI:=fun σ H R=>ta σ H fun vs H1=>∃l,vs=[.str (tx l)]/\l.length<=1000000/\R (Pj (gH l.reverse)) H1
theorem Ib{X:Cx}{tg a:Expr}{ta:TA}{p pos:Pos}(hm:X.mg "reversed"=none)(ha:QA X [a] ta)(hg:Gl X "reversed":=by rfl)(hs:starEach [a] X.env=(false,eval a X.env)::starEach [] X.env:=by rfl) :
  QI X tg (.Call (.Name "reversed" p) [a] [] pos) (Px ta):=⟨by
 intro af s σ H R I h
 refine Call_ (kZ I hg hm boot_reversed (cA (gE (ha.h pos af s σ H _ I h) fun us s1 ⟨vs,H1,I1,r1,q1⟩=>?_) hs rfl))
 obtain⟨l,e,hl,q⟩:=q1
 subst e
 cases r1 with
 |cons x1 r1=>
  cases r1
  obtain⟨t,rfl⟩:=x1
  have hn:(tx l).length=(gH l.reverse).length:=by unfold gH;rw[gG];simp
  have hb:((tx l).length:Int)<2^63:=by rw[gG];omega
  refine Ee (by omega) fun tk=>?_
  refine sI (x:=tx l) (t:=t) (i:=((tx l).length:Int)-1) ⟨_,au _ rfl,rfl,rfl⟩ ?_
  refine⟨s1.heap.objs.size,[s1.heap.objs.size],_,_,H1,rfl,I1.kept (t':=tk) fun b o e=>ak _ e,pb (ty:="reversed") (S:=fun i h=>i<=(tx l).length/\kb h s1.heap.objs.size (tx l) t (((tx l).length:Int)-1-(i:Int))) (fun A hA=>by rw[<- hn];exact Ct hA _ (tx l) t hb) (fun k v hk hp=>?_) (fun k h st=>?_) (by decide) (fun A k s Q E st h=>sI st.2 h),⟨ca _,ca _,⟨_,au _ rfl,rfl,?_⟩⟩,fun b hb=>?_,q⟩
  ·obtain⟨c,u,hc,rfl⟩:=hp
   refine⟨.str (tx [c]),?_,u,rfl⟩
   rw[<- hn]at hk
   rw[gG]at hc hk
   have hc':l[l.length-1-k]?=some c:=by simpa[tx]using hc
   unfold gH
   rw[aD,fx hk,hc'];rfl
  ·obtain⟨_,o,e1,e2,e3⟩:=st
   exact⟨o,_,e1,e2,e3⟩
  ·simp
  ·have e:b=s1.heap.objs.size:=by simpa using hb
   subst e
   exact I1.fpOk (ay _) I1.fresh⟩
section
variable{X:Cx}{qk tg eh:Expr}{nZ:List Expr}{scope:Scope}{pos:Pos}{nm:List Str}{cl:List (Str×Addr)}{cap:List (Option Nat)}{wi:TI}{g:TG}{tc:TT}{te:TE}
theorem zL{x0:Str}{p0 p1:Pos}{gx:TG}(Rt:PG X (.Name x0 p0) gx)(Ry:swapsWith (.ListComp qk [⟨tg,eh,nZ,0⟩] scope pos) (some (.Name x0 p0)) p1.line X.env=pure true)(kN:X.calm=true)(ze:closureFor scope X.env=pure cl)(lX:∀x c,cl.lookup x=some c->X.env.cells.lookup x=some c)
  (jn:scope.kind=.function) (tU:∀x∈scope.names,x.2=.local->scope.names.lookup x.1=some .local) (fg:∀y∈scope.names,y.2≠.cell)
  (GO:∀x,((relabel scope X.env).names.lookup x=some .cell\/(relabel scope X.env).names.lookup x=some .free)->∃c,cl.lookup x=some c)
  (za:∀(i j:Nat),cap[i]?=some (some j)->∃x,nm[i]?=some x/\X.N[j]?=some x/\A4 X scope cl x) (eR:cap.length=nm.length)
  (hi:PI X tg eh wi) (hg:∀C s0 H0 fp,PG (cK X nm scope cl C s0 H0 fp) tg g) (ht:∀C s0 H0 fp,Ha (cK X nm scope cl C s0 H0 fp) nZ tc)
  (he:∀C s0 H0 fp,PE (cK X nm scope cl C s0 H0 fp) qk te) (hs:∀x,foldedSetIterable eh X.env x=pure x:=by intro _;rfl) :
  PS X (.Assign [.Name x0 p0] (.ListComp qk [⟨tg,eh,nZ,0⟩] scope pos) p1) (Hv (uE cap wi g tc te) gx):=by
 intro af s σ H D I h
 rw[exec_Assign_Name_used _ _ _ _ Ry]
 suffices main:wpAny (model X.prog X.w) X.A (comprehension (.ListComp qk [⟨tg,eh,nZ,0⟩] scope pos) scope X.env (firstIterPos [⟨tg,eh,nZ,0⟩] pos) (newList []) (firstAsync [⟨tg,eh,nZ,0⟩]) (firstIter [⟨tg,eh,nZ,0⟩] X.env) (some (assign (.Name x0 p0) X.env))) (fun _ s'=>SP X af D .next s') X.xe s from
  aa (oY (aa (aa (dY main (fun _ s' h=>am (am h)) fun _ _ z=>z))))
 refine uF kN ze lX jn tU fg GO za eR hi hg ht he hs I h fun s4 C D m4 Hn I4 B q=>?_
 obtain⟨oC,es,ep,hoC,hdC,hrC⟩:=B.ns
 refine dY (Rt _ s4 σ _ (.ref D) (.ref D) _ (I4.pins_of (pins':=af++[(C,oC)]) fun p hp=>?_) rfl q) (fun _ s5 h5=>?_) fun _ _ z=>z
 ·rcases bB.mp hp with z|z
  ·exact I4.pin p (aX _ z)
  ·have e:p=(C,oC):=by simpa using z
   subst e
   exact⟨hoC,B.fr,B.nl,B.nf,fun v z=>by rw[hdC]at z;cases z⟩
 obtain⟨σ',H',I6,nx⟩:=h5
 have pC:=I6.pin (C,oC) (aX _ (aX _ (be.mpr rfl)))
 have I7:bw X af σ' H' s5:=I6.pins_of fun p hp=>I6.pin p (aX _ (fI _ hp))
 have B7:A5 X af H' s5 C m4:=⟨⟨oC,es,ep,pC.1,hdC,hrC⟩,pC.2.1,B.nl,B.nf,B.hi,B.nc,B.np⟩
 exact⟨m4,B7.ns,fun h' hs'=>⟨σ',H',B7.off I7 hs',nx⟩⟩
end
theorem zM{X:Cx}{x0:Str}{p0 p1:Pos}{gx:TG}{qk tg eh:Expr}{nZ:List Expr}{scope:Scope}{pos:Pos}{nm:List Str}{cap:List (Option Nat)}{wi:TI}{g:TG}{tc:TT}{te:TE}{m:Nat}(Rt:QG X (.Name x0 p0) gx)(kN:X.calm=true)
  (ig:X.env.cells=cellsFrom m X.env.scope.names []) (jn:scope.kind=.function) (hB:Ck X.env.scope.names scope.names nm cap X.N=true)
  (hi:QI X tg eh wi) (hg:∀cl C s0 H0 fp,QG (cK X nm scope cl C s0 H0 fp) tg g) (ht:∀cl C s0 H0 fp,SX (cK X nm scope cl C s0 H0 fp) nZ tc)
  (he:∀cl C s0 H0 fp,QE (cK X nm scope cl C s0 H0 fp) qk te) (hs:∀x,foldedSetIterable eh X.env x=pure x:=by intro _;rfl) (Ry:swapsWith (.ListComp qk [⟨tg,eh,nZ,0⟩] scope pos) (some (.Name x0 p0)) p1.line X.env=pure true:=by first|rfl|kernel_rfl) :
  QS X (.Assign [.Name x0 p0] (.ListComp qk [⟨tg,eh,nZ,0⟩] scope pos) p1) (Hv (uE cap wi g tc te) gx):=by
 simp only[Ck,bN,l7,c_,fK,c7,bd]at hB
 obtain⟨⟨⟨⟨b1,b2⟩,b3⟩,b4⟩,b5⟩:=hB
 have has:∀x∈scope.names,x.2=.free->∃c,X.env.cells.lookup x.1=some c:=fun x hx hk=>by
  rw[ig]
  rcases b3 x hx with z|z
  ·exact absurd hk z
  ·exact lF z
 have lX:∀x c,(dh X.env scope.names []).lookup x=some c->X.env.cells.lookup x=some c:=fun x c h=>lG scope.names [] has (by simp) (x,c) (fF h)
 have hin:∀x,(x,NameKind.free)∈scope.names->∃c,(dh X.env scope.names []).lookup x=some c:=fun x h=>let ⟨_,q⟩:=pe (env:=X.env) scope.names [] x h;pf q
 have hmap:(relabel scope X.env).names=scope.names.map fun y=>if (y.2==.free&&X.env.scope.kind==.function&&X.env.kindOf y.1==some .cell)then(y.1,NameKind.cell)else y:=by
  show scope.names.map _=_
  refine cf fun y _=>?_
  obtain⟨a,b⟩:=y
  rfl
 have fr:∀x,((relabel scope X.env).names.lookup x=some .cell\/(relabel scope X.env).names.lookup x=some .free)->(x,NameKind.free)∈scope.names:=fun x h=>by
  have h':∃k,(x,k)∈(relabel scope X.env).names/\(k=.cell\/k=.free):=by
   rcases h with h|h
   ·exact⟨_,fF h,.inl rfl⟩
   ·exact⟨_,fF h,.inr rfl⟩
  obtain⟨k,hm,hk⟩:=h'
  rw[hmap]at hm
  obtain⟨y,hy,e⟩:=aJ.mp hm
  obtain⟨a,b⟩:=y
  by_cases hb:b=.free
  ·subst hb
   have:a=x:=by split at e<;>(cases e;rfl)
   subst this;exact hy
  ·rw[ax (by simp[hb])]at e
   cases e
   rcases hk with rfl|rfl
   ·exact absurd rfl (b2 _ hy)
   ·exact absurd rfl hb
 refine⟨zL Rt.h Ry (cl:=dh X.env scope.names []) (cap:=cap) (nm:=nm) kN (D6 has) lX jn (fun x hx hk=>(b1 x hx).resolve_left fun z=>z hk) (fun y hy=>b2 y hy) (fun x hx=>hin x (fr x hx)) (fun i j e=>?_) b4 hi.h (fun C s0 H0 fp=>(hg _ C s0 H0 fp).h) (fun C s0 H0 fp=>(ht _ C s0 H0 fp).h) (fun C s0 H0 fp=>(he _ C s0 H0 fp).h) hs⟩
 have hi':i<cap.length:=(ai.mp e).1
 have q:=b5 i (f7.mpr hi')
 rw[e]at q
 dsimp only at q
 cases hx:nm[i]? with
 |none=>rw[hx]at q;simp at q
 |some x=>
  cases hy:X.N[j]? with
  |none=>rw[hx,hy]at q;simp at q
  |some y=>
   rw[hx,hy]at q
   simp only[bN,c7]at q
   obtain⟨⟨rfl,q1⟩,q2⟩:=q
   refine⟨x,rfl,rfl,.inr (.inl q1),(by rw[q1];decide),?_,?_⟩
   ·obtain⟨c,hc⟩:=hin x (fF q2)
    rw[hc,lX _ _ hc]
   ·rw[hmap];exact nH (env:=X.env) q2
def Py:List V->Hp->VK->Prop:=fun xs H Q=>∃c:Nat,xs=[.str (tx [48+c])]/\c<=3/\Q (.int c) H
theorem L7{X:Cx}:JF X (.type "int") Py:=⟨by
 intro af s σ H xs us Q I r h
 obtain⟨i,rfl,hi,q⟩:=h
 obtain⟨u,rfl,t,rfl⟩:=oM r
 have e:PySem.intText? (tx [48+i])=some (i:Int):=by
  rcases(show i=0\/i=1\/i=2\/i=3 by omega)with rfl|rfl|rfl|rfl<;>decide +kernel
 exact PySem.W.KIN.call_text e (by show 1<=640;decide) ⟨.int i,H,I.tok _,⟨_,rfl⟩,q⟩⟩
open AutoSeq1 (wpAny_loadPart')
theorem Eg(l b:Addr)(i1 i2:Array Value)(n1 n2:Nat)(d1 d2:Option Addr)(s1 s2:Array (Option Value))(h0:i1.isEmpty=true) :
  Meets (Builtin.«tuple.__add__» ⟨[.ref l,.ref b],[]⟩) (fun _ R s=>s.heap.get? l=some { cls:=.type "tuple",dict:=d1,data:=.seq i1 n1,slots:=s1 }/\s.heap.get? b=some { cls:=.type "tuple",dict:=d2,data:=.seq i2 n2,slots:=s2 }/\R (.ok (.ret (.ref b))) s):=
 .of_wp fun prog w A R s h=>by
  obtain⟨hp,g,d,tk,os⟩:=s
  obtain⟨e1,e2,h⟩:=h
  have a2:=PyProof.Rows.sub_tuple_tuple
  wp_walk using cJ e1,cJ e2
  exact⟨_,rfl,h⟩
def Pz(K:Frag):R2:=fun x y H Q=>∃a b xs ys,x=.ref a/\y=.ref b/\fQ K H a xs/\fQ K H b ys/\xs.length+ys.length<=sizeLine/\∀p H2,ju H H2->fQ K H2 p (xs++ys)->Q (.ref p) H2
theorem L8{X:Cx}:T7 X (binaryOp .Add) (Pz X.K):=⟨by
 intro af s σ H x y v u Q I rx ry h
 obtain⟨a,b,xs,ys,rfl,rfl,ha,hb,hz,q⟩:=h
 by_cases hx:xs=[]
 ·subst hx
  cases rx
  cases ry
  obtain⟨bI,r1,p1,_⟩:=I.tuple ha
  obtain⟨its2,r2,p2,_⟩:=I.tuple hb
  have e1:bI=[]:=r1.nil_iff.mpr rfl
  obtain⟨⟨c1,d1,g1,l1⟩,f1,hc1,n1,hd1⟩:=id p1
  obtain⟨⟨c2,d2,g2,l2⟩,f2,hc2,n2,hd2⟩:=id p2
  simp only at hc1 hd1 hc2 hd2
  subst hc1 hd1 hc2 hd2
  refine qo ⟨_,f1,rfl⟩ ⟨_,f2,rfl⟩ l6 oZ PySem.F.slot_tuple_add PySem.F.entry_tuple_add (PySem.F.args_tuple_add_2 _ _) (Eg a b bI.toArray its2.toArray n1 n2 d1 d2 l1 l2 (by rw[e1];rfl)) ⟨f1,f2,?_⟩
  exact⟨.ref b,H,I,rfl,q b H (ju.refl H) hb⟩
 ·exact HF af s σ H _ _ v u Q I rx ry ⟨a,b,xs,ys,rfl,rfl,ha,hb,hx,hz,fun e=>q a H (ju.refl H) (by rw[e,cI];exact ha),fun _ p hp=>q p _ (cY hp _) (fQ.of dR)⟩⟩
inductive W where
 |non|bl (b:Bool)|int (i:Int)|str (l:List Nat)|tup (ws:List W)|loc (n:Nat)
inductive DK where
 |i (z:Int)|s (l:List Nat)
deriving DecidableEq
def DK.key:DK->iy
 |.i z=>.inl z
 |.s l=>.inr (tx l)
inductive KX where
 |bo (b:Bool)|fl (ks:List Int)|pr (i:Int) (ks:List Int)
deriving DecidableEq
def KX.w:KX->W
 |.bo b=>.bl b
 |.fl ks=>.tup (ks.map W.int)
 |.pr i ks=>.tup [.int i,.tup (ks.map W.int)]
def Eh(ks:List Int):Int:=reduceHash (Builtin.Tuple.tupleHashOf (ks.map hashInt))
def KX.hash:KX->Int
 |.bo b=>hashInt (if b then 1 else 0)
 |.fl ks=>Eh ks
 |.pr i ks=>reduceHash (Builtin.Tuple.tupleHashOf [hashInt i,Eh ks])
inductive al where
 |lst (ws:List W)
 |ro (ws:List W)
 |exc (c:Str)
 |dct (kvs:List (DK×W))
 |tab (P:Addr) (pos:Pos) (q:Str)
 |rod (kvs:List (DK×W))
 |dcx (kvs:List (KX×W))
 |pin (k:Bool) (c:Addr) (o:Obj) (w:W)
 |gone
abbrev lB:Nat:=1000000
theorem nI{n:Nat}(h:n<=lB):n<=sizeLine:=bh h (by decide)
theorem L9{n:Nat}(h:n<=lB):n<sizeLine:=ij h (by decide)
inductive R(α:Type) where
 |ok (a:α) (st:List al)
 |ex (c:Str) (st:List al)
 |bad
def R.bind{α β:Type}:R α->(α->List al->R β)->R β
 |.ok a st,k=>k a st
 |.ex c st,_=>.ex c st
 |.bad,_=>.bad
@[simp] theorem R.bind_ok{α β:Type}(a:α)(st:List al)(k:α->List al->R β):(R.ok a st).bind k=k a st:=rfl
@[simp] theorem R.bind_ex{α β:Type}(c:Str)(st:List al)(k:α->List al->R β):(R.ex c st:R α).bind k=.ex c st:=rfl
@[simp] theorem R.bind_bad{α β:Type}(k:α->List al->R β):(R.bad:R α).bind k=.bad:=rfl
abbrev bW:=List (Option W)
inductive RS where
 |nx (ρ:bW) (st:List al)|rt (w:W) (st:List al)|bk (ρ:bW) (st:List al)|ct (ρ:bW) (st:List al)
 |ex (c:Str) (ρ:bW) (st:List al)|bad
abbrev FE:=bW->List al->R W
abbrev FT:=bW->List al->R Bool
abbrev FA:=bW->List al->R (List W)
abbrev FS:=bW->List al->RS
section
variable(K:Frag)
mutual
def bf(μ:List Addr)(H:Hp):W->V->Prop
 |.non,v=>v=.non
 |.bl b,v=>v=.bl b
 |.int i,v=>v=.int i
 |.str l,v=>v=.str (tx l)
 |.tup ws,v=>∃p vs,v=.ref p/\fQ K H p vs/\RelWs μ H ws vs
 |.loc n,v=>∃a,μ[n]?=some a/\v=.ref a
def RelWs(μ:List Addr)(H:Hp):List W->List V->Prop
 |[],vs=>vs=[]
 |w::ws,vs=>∃x xs,vs=x::xs/\bf μ H w x/\RelWs μ H ws xs
end
end
theorem gQ{μ μ':List Addr}(h:μ <+: μ'){n:Nat}{a:Addr}(e:μ[n]?=some a):μ'[n]?=some a:=by
 obtain⟨t,rfl⟩:=h
 rw[aW (ai.mp e).1];exact e
section
variable{K:Frag}{μ μ':List Addr}{H H':Hp}
mutual
theorem bf.mono(h:μ <+: μ')(e:dD K H H'):∀{w:W} {v:V},bf K μ H w v->bf K μ' H' w v
 |.non,_,r=>by unfold bf at r ⊢;exact r
 |.bl _,_,r=>by unfold bf at r ⊢;exact r
 |.int _,_,r=>by unfold bf at r ⊢;exact r
 |.str _,_,r=>by unfold bf at r ⊢;exact r
 |.tup _,_,r=>by unfold bf at r ⊢;obtain⟨p,vs,a,b,c⟩:=r;exact⟨p,vs,a,e _ _ b,RelWs.mono h e c⟩
 |.loc _,_,r=>by unfold bf at r ⊢;obtain⟨a,b,c⟩:=r;exact⟨a,gQ h b,c⟩
theorem RelWs.mono(h:μ <+: μ')(e:dD K H H'):∀{ws:List W} {vs:List V},RelWs K μ H ws vs->RelWs K μ' H' ws vs
 |[],_,r=>by unfold RelWs at r ⊢;exact r
 |_::_,_,r=>by unfold RelWs at r ⊢;obtain⟨x,xs,a,b,c⟩:=r;exact⟨x,xs,a,bf.mono h e b,RelWs.mono h e c⟩
end
theorem RelWs.nilI:RelWs K μ H [] []:=by unfold RelWs;rfl
theorem RelWs.consI{w:W}{ws:List W}{x:V}{xs:List V}(a:bf K μ H w x)(b:RelWs K μ H ws xs):RelWs K μ H (w::ws) (x::xs):=by unfold RelWs;exact⟨x,xs,rfl,a,b⟩
theorem RelWs.nilE{vs:List V}(h:RelWs K μ H [] vs):vs=[]:=by unfold RelWs at h;exact h
theorem RelWs.consE{w:W}{ws:List W}{vs:List V}(h:RelWs K μ H (w::ws) vs):∃x xs,vs=x::xs/\bf K μ H w x/\RelWs K μ H ws xs:=by unfold RelWs at h;exact h
theorem RelWs.pr:∀{ws:List W} {vs:List V},RelWs K μ H ws vs↔Paired (fun w v=>bf K μ H w v) ws vs
 |[],vs=>⟨fun h=>by rw[h.nilE];exact .nil,fun h=>by cases h;exact .nilI⟩
 |w::ws,vs=>⟨fun h=>by obtain⟨x,xs,rfl,a,b⟩:=h.consE;exact .cons a (RelWs.pr.mp b),fun h=>by cases h with|cons a b=>exact .consI a (RelWs.pr.mpr b)⟩
theorem RelWs.len{ws:List W}{vs:List V}(h:RelWs K μ H ws vs):ws.length=vs.length:=Paired.length (RelWs.pr.mp h)
theorem RelWs.app:∀{as:List W} {xs:List V} {bs:List W} {ys:List V},RelWs K μ H as xs->RelWs K μ H bs ys->RelWs K μ H (as++bs) (xs++ys)
 |[],xs,bs,ys,a,b=>by rw[a.nilE];exact b
 |w::as,xs,bs,ys,a,b=>by obtain⟨x,xs,rfl,c,d⟩:=a.consE;exact .consI c (RelWs.app d b)
theorem RelWs.get:∀{ws:List W} {vs:List V} {i:Nat} {w:W},RelWs K μ H ws vs->ws[i]?=some w->∃v,vs[i]?=some v/\bf K μ H w v
 |[],_,_,_,_,e=>by simp at e
 |x::ws,vs,0,w,h,e=>by obtain⟨y,ys,rfl,a,b⟩:=h.consE;simp at e;subst e;exact⟨y,rfl,a⟩
 |x::ws,vs,i+1,w,h,e=>by obtain⟨y,ys,rfl,a,b⟩:=h.consE;simpa using RelWs.get (i:=i) b (by simpa using e)
theorem RelWs.take:∀{ws:List W} {vs:List V} (n:Nat),RelWs K μ H ws vs->RelWs K μ H (ws.take n) (vs.take n)
 |_,_,0,_=>by simp only[List.take_zero];exact .nilI
 |[],vs,n+1,h=>by rw[h.nilE];exact .nilI
 |x::ws,vs,n+1,h=>by obtain⟨y,ys,rfl,a,b⟩:=h.consE;exact .consI a (RelWs.take n b)
theorem RelWs.drop:∀{ws:List W} {vs:List V} (n:Nat),RelWs K μ H ws vs->RelWs K μ H (ws.drop n) (vs.drop n)
 |_,_,0,h=>h
 |[],vs,n+1,h=>by rw[h.nilE];exact .nilI
 |x::ws,vs,n+1,h=>by obtain⟨y,ys,rfl,a,b⟩:=h.consE;exact RelWs.drop n b
theorem bf.intE{i:Int}{v:V}(h:bf K μ H (.int i) v):v=.int i:=by unfold bf at h;exact h
theorem bf.blE{b:Bool}{v:V}(h:bf K μ H (.bl b) v):v=.bl b:=by unfold bf at h;exact h
theorem bf.nonE{v:V}(h:bf K μ H .non v):v=.non:=by unfold bf at h;exact h
theorem bf.strE{l:List Nat}{v:V}(h:bf K μ H (.str l) v):v=.str (tx l):=by unfold bf at h;exact h
theorem bf.tupE{ws:List W}{v:V}(h:bf K μ H (.tup ws) v):∃p vs,v=.ref p/\fQ K H p vs/\RelWs K μ H ws vs:=by unfold bf at h;exact h
theorem bf.locE{n:Nat}{v:V}(h:bf K μ H (.loc n) v):∃a,μ[n]?=some a/\v=.ref a:=by unfold bf at h;exact h
theorem bf.int{i:Int}:bf K μ H (.int i) (.int i):=by unfold bf;rfl
theorem bf.bl{i:Bool}:bf K μ H (.bl i) (.bl i):=by unfold bf;rfl
theorem bf.non:bf K μ H .non .non:=by unfold bf;rfl
theorem bf.str{l:List Nat}:bf K μ H (.str l) (.str (tx l)):=by unfold bf;rfl
theorem bf.tupI{ws:List W}{p:Addr}{vs:List V}(a:fQ K H p vs)(b:RelWs K μ H ws vs):bf K μ H (.tup ws) (.ref p):=by unfold bf;exact⟨p,vs,rfl,a,b⟩
theorem bf.locI{n:Nat}{a:Addr}(e:μ[n]?=some a):bf K μ H (.loc n) (.ref a):=by unfold bf;exact⟨a,e,rfl⟩
end
def PB(a:Addr)(C:Value):HO:=.ext fun h=>∃o vs,h.get? a=some o/\o.cls=C/\o.data=.fields vs
def jM(b:Addr)(q:Str):HO:=.ext fun h=>∃o vs t,h.get? b=some o/\o.data=.fields vs/\vs[1]?=some (.str q t)
def RV(K:Frag)(H:Hp)(a:Addr)(xs:List V):Prop:=
 (∃o,H a=some (.frz o (.lst xs)))\/∃(o:Obj) (bI:Array Value) (n:Nat),K.lookup a=some o/\o.cls=.type "list"/\o.dict=none/\o.data=.seq bI n/\bI.size<=sizeLine/\cw xs bI.toList
theorem RV.sq{K:Frag}{H:Hp}{a:Addr}{xs:List V}(h:RV K H a xs):pN K H a xs:=by
 rcases h with⟨o,h⟩|h
 ·exact .inl (.inr ⟨o,h⟩)
 ·exact .inr h
def al.isRo:al->Bool
 |.ro _=>true
 |.gone=>true
 |_=>false
def DX(a:Addr)(es:List DictEntry):Heap->Prop:=fun h=>∃o ep,h.get? a=some o/\o.ExactDict/\o.data=.dict es.toArray ep
abbrev SZ(a:Addr)(es:List DictEntry):HO:=.ext (DX a es)
def vG(K:Frag)(μ:List Addr)(H:Hp)(p:KX×W)(e:DictEntry):Prop:=e.hash=p.1.hash/\(∃v,bf K μ H p.1.w v/\cB v e.key)/\∃v,bf K μ H p.2 v/\cB v e.val
def lH(a:Addr)(o:Obj):HO:=.ext fun h=>h.get? a=some o
def kF(K:Frag)(mg:Str->Option Value)(μ:List Addr)(H:Hp):al->Addr->Prop
 |.lst ws,a=>∃vs,H a=some (.lst vs)/\RelWs K μ H ws vs
 |.ro ws,a=>∃vs,RV K H a vs/\RelWs K μ H ws vs
 |.exc c,a=>∃C,mg c=some C/\H a=some (PB a C)
 |.dct kvs,a=>∃vs,H a=some (.dK ((kvs.map fun p=>p.1.key).zip vs))/\RelWs K μ H (kvs.map fun p=>p.2) vs
 |.rod kvs,a=>∃vs o,H a=some (.frz o (.dK ((kvs.map fun p=>p.1.key).zip vs)))/\RelWs K μ H (kvs.map fun p=>p.2) vs
 |.dcx kvs,a=>∃es,H a=some (SZ a es)/\(a==sysModules)=false/\Paired (vG K μ H) kvs es/\(kvs.map fun p=>p.1).Nodup
 |.tab P pos q,a=>a=P/\∃ps,H a=some (.tbl ps)/\TriplesOk ps.toList/\(codeAmong pos ps.toList=none\/∃c,codeAmong pos ps.toList=some (.ref c)/\H c=some (jM c q))
 |.pin k c o w,a=>a=c/\H a=some (lH a o)/\(k=false->∃fd cd,o.data=.func fd/\fd.code=.ref cd/\H cd=some (jM cd fd.qualname))/\∃v,bf K μ H w v/\(k=true->∃u,o.data=.cell (some u)/\cB v u)
 |.gone,_=>True
structure gn(K:Frag)(mg:Str->Option Value)(μ:List Addr)(st:List al)(H:Hp):Prop where
 nd:∀(i j:Nat) (a:Addr) (ci cj:al),st[i]?=some ci->st[j]?=some cj->ci.isRo=false->cj.isRo=false->μ[i]?=some a->μ[j]?=some a->i=j
 len:st.length=μ.length
 at':∀(i:Nat) (c:al) (a:Addr),st[i]?=some c->μ[i]?=some a->kF K mg μ H c a
section
variable{K:Frag}{mg:Str->Option Value}{μ μ':List Addr}{H H':Hp}{st:List al}
theorem vG.mono(h:μ <+: μ')(x:dD K H H'){p:KX×W}{e:DictEntry}(r:vG K μ H p e):vG K μ' H' p e:=by
 obtain⟨a,⟨v,b,c⟩,u,d,g⟩:=r
 exact⟨a,⟨v,b.mono h x,c⟩,u,d.mono h x,g⟩
theorem kF.keep(h:μ <+: μ')(x:dD K H H'){c:al}{a:Addr}(e:∀o,H a=some o->H' a=some o)(e2:∀b q,H b=some (jM b q)->H' b=some (jM b q))(r:kF K mg μ H c a):kF K mg μ' H' c a:=by
 cases c with
 |lst ws=>obtain⟨vs,p,y⟩:=r;exact⟨vs,e _ p,y.mono h x⟩
 |ro ws=>
  obtain⟨vs,p,y⟩:=r
  refine⟨vs,?_,y.mono h x⟩
  rcases p with⟨o,p⟩|p
  ·exact .inl ⟨o,e _ p⟩
  ·exact .inr p
 |exc c=>obtain⟨C,p,y⟩:=r;exact⟨C,p,e _ y⟩
 |dct kvs=>obtain⟨vs,p,y⟩:=r;exact⟨vs,e _ p,y.mono h x⟩
 |rod kvs=>obtain⟨vs,o,p,y⟩:=r;exact⟨vs,o,e _ p,y.mono h x⟩
 |dcx kvs=>obtain⟨es,p,d,y,z⟩:=r;exact⟨es,e _ p,d,Paired.imp' (fun _ _ q=>q.mono h x) y,z⟩
 |tab P pos q=>
  obtain⟨ea,ps,p,t,y⟩:=r
  refine⟨ea,ps,e _ p,t,?_⟩
  rcases y with y|⟨c,y,z⟩
  ·exact .inl y
  ·exact .inr ⟨c,y,e2 _ _ z⟩
 |pin k c o w=>obtain⟨ea,p,g,v,y,z⟩:=r;exact⟨ea,e _ p,fun q=>let ⟨fd,cd,q1,q2,q3⟩:=g q;⟨fd,cd,q1,q2,e2 _ _ q3⟩,v,y.mono h x,z⟩
 |gone=>trivial
theorem kF.ro_ne{c:al}{a:Addr}(r:kF K mg μ H c a)(h:c.isRo=false):∃o,H a=some o:=by
 cases c with
 |lst ws=>obtain⟨vs,p,y⟩:=r;exact⟨_,p⟩
 |ro ws=>cases h
 |exc c=>obtain⟨C,p,y⟩:=r;exact⟨_,y⟩
 |dct kvs=>obtain⟨vs,p,y⟩:=r;exact⟨_,p⟩
 |rod kvs=>obtain⟨vs,o,p,y⟩:=r;exact⟨_,p⟩
 |dcx kvs=>obtain⟨es,p,_⟩:=r;exact⟨_,p⟩
 |tab P pos q=>obtain⟨_,ps,p,_⟩:=r;exact⟨_,p⟩
 |pin k c o w=>obtain⟨_,p,_⟩:=r;exact⟨_,p⟩
 |gone=>cases h
theorem gn.same(S:gn K mg μ st H)(e:ju H H'):gn K mg μ st H':=⟨S.nd,S.len,fun i c a h1 h2=>(S.at' i c a h1 h2).keep (aj _) (fQ.same e) (e a) fun b q h=>e b _ h⟩
theorem gn.get(S:gn K mg μ st H){n:Nat}{c:al}(h:st[n]?=some c):∃a,μ[n]?=some a/\kF K mg μ H c a:=by
 have hn:n<μ.length:=by rw[<- S.len];exact(ai.mp h).1
 exact⟨μ[n],ae hn,S.at' n c _ h (ae hn)⟩
theorem gn.push(S:gn K mg μ st H){p:Addr}{o:HO}{c:al}(hp:H p=none)(hc:kF K mg (μ++[p]) (eY H p o) c p):gn K mg (μ++[p]) (st++[c]) (eY H p o):=by
 have hs:ju H (eY H p o):=cY hp o
 have Dq:μ <+: μ++[p]:=aR _ _
 have old:∀{i:Nat} {d:al} {a:Addr},i<st.length->(st++[c])[i]?=some d->(μ++[p])[i]?=some a->st[i]?=some d/\μ[i]?=some a:=fun{i d a} hi h1 h2=>by
  rw[aW hi]at h1
  rw[aW (by rw[<- S.len];exact hi)]at h2
  exact⟨h1,h2⟩
 have new:∀{i:Nat} {d:al} {a:Addr},¬ i<st.length->(st++[c])[i]?=some d->(μ++[p])[i]?=some a->i=st.length/\d=c/\a=p:=fun{i d a} hi h1 h2=>by
  have hi':i=st.length:=by
   have:=(ai.mp h1).1
   simp at this;omega
  subst hi'
  simp at h1
  rw[S.len,bZ (ay _)]at h2
  simp at h2
  exact⟨rfl,h1.symm,h2.symm⟩
 refine⟨fun i j a ci cj h1 h2 r1 r2 m1 m2=>?_,by simp[S.len],fun i d a h1 h2=>?_⟩
 ·by_cases hi:i<st.length
  ·obtain⟨x1,x2⟩:=old hi h1 m1
   by_cases hj:j<st.length
   ·obtain⟨y1,y2⟩:=old hj h2 m2
    exact S.nd i j a ci cj x1 y1 r1 r2 x2 y2
   ·obtain⟨_,_,rfl⟩:=new hj h2 m2
    obtain⟨o',z⟩:=(S.at' i ci a x1 x2).ro_ne r1
    rw[hp]at z;cases z
  ·obtain⟨e1,_,rfl⟩:=new hi h1 m1
   by_cases hj:j<st.length
   ·obtain⟨y1,y2⟩:=old hj h2 m2
    obtain⟨o',z⟩:=(S.at' j cj a y1 y2).ro_ne r2
    rw[hp]at z;cases z
   ·obtain⟨e2,_,_⟩:=new hj h2 m2
    omega
 ·by_cases hi:i<st.length
  ·obtain⟨x1,x2⟩:=old hi h1 h2
   exact(S.at' i d a x1 x2).keep Dq (fQ.same hs) (hs a) fun b q h=>hs b _ h
  ·obtain⟨_,rfl,rfl⟩:=new hi h1 h2
   exact hc
theorem gn.setG(S:gn K mg μ st H){n:Nat}{a:Addr}{c c':al}{o o':HO}(hn:st[n]?=some c)(zm:c.isRo=false)(hm:μ[n]?=some a)(ha:H a=some o)(hf:∀q u,o≠.frz q u)(hg:∀q,o≠jM a q)(hx:dD K H (eY H a o'))(UO:c'.isRo=false)(hr:kF K mg μ (eY H a o') c' a):gn K mg μ (st.set n c') (eY H a o'):=by
 have hl:n<st.length:=(ai.mp hn).1
 have back:∀{i:Nat} {d:al},(st.set n c')[i]?=some d->∃d',st[i]?=some d'/\(d'=d\/(i=n/\d=c')):=fun{i d} h=>by
  by_cases e:i=n
  ·subst e
   rw[bq hl]at h
   exact⟨_,hn,.inr ⟨rfl,(aS h).symm⟩⟩
  ·rw[bR (Ne.symm e)]at h
   exact⟨d,h,.inl rfl⟩
 refine⟨fun i j b ci cj h1 h2 r1 r2 m1 m2=>?_,by simp[S.len],fun i d b h1 h2=>?_⟩
 ·obtain⟨di,x1,y1⟩:=back h1
  obtain⟨dj,x2,y2⟩:=back h2
  refine S.nd i j b di dj x1 x2 ?_ ?_ m1 m2
  ·rcases y1 with rfl|⟨rfl,rfl⟩
   ·exact r1
   ·rw[hn]at x1;cases x1;exact zm
  ·rcases y2 with rfl|⟨rfl,rfl⟩
   ·exact r2
   ·rw[hn]at x2;cases x2;exact zm
 ·by_cases e:i=n
  ·subst e
   rw[bq hl]at h1
   cases h1
   rw[hm]at h2;cases h2
   exact hr
  ·rw[bR (Ne.symm e)]at h1
   have r:=S.at' i d b h1 h2
   by_cases hrd:d.isRo=true
   ·cases d with
    |ro zs=>
     obtain⟨us,p,q⟩:=r
     refine⟨us,?_,q.mono (aj _) hx⟩
     rcases p with⟨o2,p⟩|p
     ·exact .inl ⟨o2,by rw[cv (by rintro rfl;rw[ha]at p;cases p;exact hf _ _ rfl)];exact p⟩
     ·exact .inr p
    |lst _=>cases hrd
    |exc _=>cases hrd
    |dct _=>cases hrd
    |rod _=>cases hrd
    |dcx _=>cases hrd
    |tab _ _ _=>cases hrd
    |pin _ _ _ _=>cases hrd
    |gone=>trivial
   ·refine r.keep (aj _) hx (fun o ho=>?_) fun b' q h=>by rw[cv (by rintro rfl;rw[ha]at h;cases h;exact hg _ rfl)];exact h
    have hb:b≠a:=by
     rintro rfl
     exact e (S.nd i n b d _ h1 hn (by simpa using hrd) zm h2 hm)
    rw[cv hb];exact ho
theorem gn.set(S:gn K mg μ st H){n:Nat}{a:Addr}{ws RN:List W}{vs AD:List V}(hn:st[n]?=some (.lst ws))(hm:μ[n]?=some a)(ha:H a=some (.lst vs))(hr:RelWs K μ H RN AD):gn K mg μ (st.set n (.lst RN)) (eY H a (.lst AD)):=by
 have hx:dD K H (eY H a (.lst AD)):=fQ.but mo ha
 have hl:n<st.length:=(ai.mp hn).1
 have back:∀{i:Nat} {d:al},(st.set n (.lst RN))[i]?=some d->∃d',st[i]?=some d'/\(d'=d\/(i=n/\d=.lst RN)):=fun{i d} h=>by
  by_cases e:i=n
  ·subst e
   rw[bq hl]at h
   exact⟨_,hn,.inr ⟨rfl,(aS h).symm⟩⟩
  ·rw[bR (Ne.symm e)]at h
   exact⟨d,h,.inl rfl⟩
 refine⟨fun i j b ci cj h1 h2 r1 r2 m1 m2=>?_,by simp[S.len],fun i d b h1 h2=>?_⟩
 ·obtain⟨di,x1,y1⟩:=back h1
  obtain⟨dj,x2,y2⟩:=back h2
  refine S.nd i j b di dj x1 x2 ?_ ?_ m1 m2
  ·rcases y1 with rfl|⟨rfl,rfl⟩
   ·exact r1
   ·rw[hn]at x1;cases x1;rfl
  ·rcases y2 with rfl|⟨rfl,rfl⟩
   ·exact r2
   ·rw[hn]at x2;cases x2;rfl
 ·by_cases e:i=n
  ·subst e
   rw[bq hl]at h1
   cases h1
   rw[hm]at h2;cases h2
   exact⟨AD,dR,hr.mono (aj _) hx⟩
  ·rw[bR (Ne.symm e)]at h1
   have r:=S.at' i d b h1 h2
   by_cases zm:d.isRo=true
   ·cases d with
    |ro zs=>
     obtain⟨us,p,q⟩:=r
     refine⟨us,?_,q.mono (aj _) hx⟩
     rcases p with⟨o',p⟩|p
     ·exact .inl ⟨o',by rw[cv (by rintro rfl;rw[ha]at p;cases p)];exact p⟩
     ·exact .inr p
    |lst _=>cases zm
    |exc _=>cases zm
    |dct _=>cases zm
    |rod _=>cases zm
    |dcx _=>cases zm
    |tab _ _ _=>cases zm
    |pin _ _ _ _=>cases zm
    |gone=>trivial
   ·refine r.keep (aj _) hx (fun o ho=>?_) fun b' q h=>by rw[cv (by rintro rfl;rw[ha]at h;cases h)];exact h
    have hb:b≠a:=by
     rintro rfl
     exact e (S.nd i n b d _ h1 hn (by simpa using zm) rfl h2 hm)
    rw[cv hb];exact ho
end
structure Rl(X:Cx)(μ:List Addr)(ρ:bW)(st:List al)(σ:St)(H:Hp):Prop where
 env:Paired (fun(o:Option W) (s:Option V)=>∀w,o=some w->∃v,s=some v/\bf X.K μ H w v) ρ σ
 sto:gn X.K X.mg μ st H
theorem qx{K:Frag}{μ μ':List Addr}{H H':Hp}(h:μ <+: μ')(x:dD K H H'):∀{ρ:bW} {σ:St},Paired (fun(o:Option W) (s:Option V)=>∀w,o=some w->∃v,s=some v/\bf K μ H w v) ρ σ ->
  Paired (fun(o:Option W) (s:Option V)=>∀w,o=some w->∃v,s=some v/\bf K μ' H' w v) ρ σ
 |_,_,.nil=>.nil
 |_,_,.cons a t=>.cons (fun w e=>let ⟨v,p,q⟩:=a w e;⟨v,p,q.mono h x⟩) (qx h x t)
theorem Rl.to{X:Cx}{μ μ':List Addr}{ρ:bW}{st bu:List al}{σ:St}{H H':Hp}(r:Rl X μ ρ st σ H)(h:μ <+: μ')(x:dD X.K H H')(s:gn X.K X.mg μ' bu H'):Rl X μ' ρ bu σ H':=⟨qx h x r.env,s⟩
theorem nJ{K:Frag}{μ:List Addr}{H:Hp}:∀{ρ:bW} {σ:St} {i:Nat} {w:W},Paired (fun(o:Option W) (s:Option V)=>∀w,o=some w->∃v,s=some v/\bf K μ H w v) ρ σ->ρ[i]?=some (some w)->∃v,σ[i]?=some (some v)/\bf K μ H w v
 |_,_,_,_,.nil,e=>by simp at e
 |_,_,0,w,.cons a t,e=>by simp at e;obtain⟨v,p,q⟩:=a w e;exact⟨v,by simp[p],q⟩
 |_,_,i+1,w,.cons a t,e=>by simpa using nJ (i:=i) t (by simpa using e)
theorem pS{K:Frag}{μ:List Addr}{H:Hp}{w:W}{v:V}(r:bf K μ H w v):∀{ρ:bW} {σ:St} (i:Nat),Paired (fun(o:Option W) (s:Option V)=>∀w,o=some w->∃v,s=some v/\bf K μ H w v) ρ σ ->
  Paired (fun(o:Option W) (s:Option V)=>∀w,o=some w->∃v,s=some v/\bf K μ H w v) (ρ.set i (some w)) (σ.set i (some v))
 |_,_,_,.nil=>.nil
 |_,_,0,.cons a t=>.cons (fun w' e=>⟨v,rfl,by cases e;exact r⟩) t
 |_,_,i+1,.cons a t=>.cons a (pS r i t)
structure rq(X:Cx)(af:List (Addr×Obj))(σ:St)(c:Str)(H:Hp)(e:Value)(s:Shared):Prop where
 inv:bw X af σ H s
 ex:∃x C t B,e=.ref x/\X.mg c=some C/\H x=none/\B.StaysIn s.heap/\B.get? x=none/\s.heap.FunFrames B X.stack /\
  (s.heap.TracedW B x C (.ref t)\/(∃oe vs,s.heap.get? x=some oe/\oe.cls=C/\oe.dict=none/\oe.data=.fields vs/\vs[1]?=some .none/\vs[0]?=some (.ref t))\/∃L,X.env.frame=some L/\s.heap.TracedAtW B x C (.ref t) (rawInt L)) /\
  ∀b o,s.heap.get? b=some o->(H b≠none\/((∃o0,X.s₀.heap.get? b=some o0)/\b∉X.fs/\b∉X.ex)\/((∃y,X.env.cells.lookup y=some b)/\b∉sw X.stack)\/∃p∈X.pn++af,p.1=b)->B.get? b=some o
def XS(X:Cx)(c:Str)(μ:List Addr)(ρ:bW)(st:List al)(H:Hp):Prop:=
 ∀af μ' σ' H' e s',μ <+: μ'->dD X.K H H'->Rl X μ' ρ st σ' H'->rq X af σ' c H' e s'->X.xe e s'
def XE(X:Cx)(c:Str)(μ:List Addr)(st:List al)(σ:St)(H:Hp):Prop:=
 ∀af μ' H' e s',μ <+: μ'->dD X.K H H'->gn X.K X.mg μ' st H'->rq X af σ c H' e s'->X.xe e s'
theorem XE.mono{X:Cx}{c:Str}{μ μ1:List Addr}{st:List al}{σ:St}{H H1:Hp}(h:XE X c μ st σ H)(p:μ <+: μ1)(x:dD X.K H H1):XE X c μ1 st σ H1:=fun af μ' H' e s' a b=>h af μ' H' e s' (p.trans a) (x.trans b)
theorem XS.mono{X:Cx}{c:Str}{μ μ1:List Addr}{ρ:bW}{st:List al}{H H1:Hp}(h:XS X c μ ρ st H)(p:μ <+: μ1)(x:dD X.K H H1):XS X c μ1 ρ st H1:=fun af μ' σ' H' e s' a b=>h af μ' σ' H' e s' (p.trans a) (x.trans b)
theorem XS.toE{X:Cx}{c:Str}{μ:List Addr}{ρ:bW}{N7 st:List al}{σ:St}{H:Hp}(h:XS X c μ ρ st H)(r:Rl X μ ρ N7 σ H):XE X c μ st σ H:=fun af μ' H' e s' a b s f=>h af μ' σ H' e s' a b (r.to a b s) f
def RK{α β:Type}(X:Cx)(rel:List Addr->Hp->α->β->Prop)(μ:List Addr)(σ:St)(H:Hp)(Q:β->Hp->Prop):R α->Prop
 |.ok a bu=>∀μ' b H',μ <+: μ'->dD X.K H H'->gn X.K X.mg μ' bu H'->rel μ' H' a b->Q b H'
 |.ex c bu=>XE X c μ bu σ H
 |.bad=>False
theorem RK.mono{α β:Type}{X:Cx}{rel:List Addr->Hp->α->β->Prop}{μ μ1:List Addr}{σ:St}{H H1:Hp}{Q:β->Hp->Prop}{r:R α}(h:RK X rel μ σ H Q r)(p:μ <+: μ1)(x:dD X.K H H1):RK X rel μ1 σ H1 Q r:=by
 cases r with
 |ok a st=>exact fun μ' b H' a1 b1=>h μ' b H' (p.trans a1) (x.trans b1)
 |ex c st=>exact XE.mono h p x
 |bad=>exact h
def tG{α β:Type}(X:Cx)(rel:List Addr->Hp->α->β->Prop)(f:bW->List al->R α)(σ:St)(H:Hp)(Q:β->Hp->Prop):Prop:=
 ∃μ ρ st,Rl X μ ρ st σ H/\RK X rel μ σ H Q (f ρ st)
abbrev rO(X:Cx):List Addr->Hp->W->V->Prop:=fun μ H w v=>bf X.K μ H w v
abbrev S0(X:Cx):List Addr->Hp->List W->List V->Prop:=fun μ H w v=>RelWs X.K μ H w v
abbrev L_:List Addr->Hp->Bool->Bool->Prop:=fun _ _ a b=>a=b
abbrev tE(X:Cx)(f:FE):TE:=tG X (rO X) f
abbrev tT(X:Cx)(f:FT):TT:=tG X L_ f
abbrev PD(X:Cx)(f:FA):TA:=tG X (S0 X) f
theorem RK.bind{α β α' β':Type}{X:Cx}{rel:List Addr->Hp->α->β->Prop}{RI:List Addr->Hp->α'->β'->Prop}{μ:List Addr}{ρ:bW}{st:List al}{σ:St}{H:Hp}{r:R α}{k:α->List al->R α'}{Q:β'->Hp->Prop}{T:β->Hp->Prop}
  (h:RK X RI μ σ H Q (r.bind k)) (l:Rl X μ ρ st σ H)
  (hk:∀μ' bu x v H',μ <+: μ'->dD X.K H H'->Rl X μ' ρ bu σ H'->rel μ' H' x v->RK X RI μ' σ H' Q (k x bu)->T v H'):RK X rel μ σ H T r:=by
 cases r with
 |ok a bu=>exact fun μ' b H' p x s q=>hk μ' bu a b H' p x (l.to p x s) q (RK.mono h p x)
 |ex c bu=>exact h
 |bad=>exact h
def SK(X:Cx)(μ:List Addr)(H:Hp)(D:vp):RS->Prop
 |.nx ρ st=>∀μ' σ' H',μ <+: μ'->dD X.K H H'->Rl X μ' ρ st σ' H'->D.nx σ' H'
 |.bk ρ st=>∀μ' σ' H',μ <+: μ'->dD X.K H H'->Rl X μ' ρ st σ' H'->D.bk σ' H'
 |.ct ρ st=>∀μ' σ' H',μ <+: μ'->dD X.K H H'->Rl X μ' ρ st σ' H'->D.ct σ' H'
 |.rt w st=>∀μ' v H',μ <+: μ'->dD X.K H H'->gn X.K X.mg μ' st H'->bf X.K μ' H' w v->D.rt v H'
 |.ex c ρ st=>XS X c μ ρ st H
 |.bad=>False
theorem SK.mono{X:Cx}{μ μ1:List Addr}{H H1:Hp}{D:vp}{r:RS}(h:SK X μ H D r)(p:μ <+: μ1)(x:dD X.K H H1):SK X μ1 H1 D r:=by
 cases r with
 |nx ρ st=>exact fun μ' b H' a1 b1=>h μ' b H' (p.trans a1) (x.trans b1)
 |bk ρ st=>exact fun μ' b H' a1 b1=>h μ' b H' (p.trans a1) (x.trans b1)
 |ct ρ st=>exact fun μ' b H' a1 b1=>h μ' b H' (p.trans a1) (x.trans b1)
 |rt w st=>exact fun μ' b H' a1 b1=>h μ' b H' (p.trans a1) (x.trans b1)
 |ex c ρ st=>exact XS.mono h p x
 |bad=>exact h
def PF(X:Cx)(g:FS):TS:=fun D σ H=>∃μ ρ st,Rl X μ ρ st σ H/\SK X μ H D (g ρ st)
structure SE(X:Cx)(e:Expr)(f:FE):Prop where
 h:PE X e (tE X f)
structure ST(X:Cx)(e:Expr)(f:FT):Prop where
 h:PT X e (tT X f)
structure SW(X:Cx)(e:Expr)(f:FT):Prop where
 h:PW X e (tT X f)
structure SA(X:Cx)(es:List Expr)(f:FA):Prop where
 h:PA X es (PD X f)
structure SS(X:Cx)(s:Stmt)(g:FS):Prop where
 h:PS X s (PF X g)
structure SB(X:Cx)(s:List Stmt)(g:FS):Prop where
 h:wU X s (PF X g)
theorem PE.imp{X:Cx}{e:Expr}{t t':TE}(h:PE X e t)(i:∀σ H Q,t' σ H Q->t σ H Q):PE X e t':=fun af s σ H Q I q=>h af s σ H Q I (i _ _ _ q)
theorem PT.imp{X:Cx}{e:Expr}{t t':TT}(h:PT X e t)(i:∀σ H Q,t' σ H Q->t σ H Q):PT X e t':=fun af s σ H Q I q=>h af s σ H Q I (i _ _ _ q)
theorem PW.imp{X:Cx}{e:Expr}{t t':TT}(h:PW X e t)(i:∀σ H Q,t' σ H Q->t σ H Q):PW X e t':=fun wh af s σ H Q I q=>h wh af s σ H Q I (i _ _ _ q)
theorem PA.imp{X:Cx}{e:List Expr}{t t':TA}(h:PA X e t)(i:∀σ H Q,t' σ H Q->t σ H Q):PA X e t':=fun pos af s σ H Q I q=>h pos af s σ H Q I (i _ _ _ q)
theorem PS.imp{X:Cx}{e:Stmt}{t t':TS}(h:PS X e t)(i:∀D σ H,t' D σ H->t D σ H):PS X e t':=fun af s σ H D I q=>h af s σ H D I (i _ _ _ q)
theorem wU.imp{X:Cx}{e:List Stmt}{t t':TS}(h:wU X e t)(i:∀D σ H,t' D σ H->t D σ H):wU X e t':=fun af s σ H D I q=>h af s σ H D I (i _ _ _ q)
section
variable{X:Cx}{a b c e o:Expr}{es:List Expr}{pos p p2 gW eJ:Pos}{x name:Str}{j:Nat}{rest:List Expr}{fa fb fc fe:FE}{ft fu:FT}{fs:FA}
def ah(i:Nat):FE:=fun ρ st=>match ρ[i]? with
 |some (some w)=>.ok w st
 |_=>.bad
theorem ac(i:Nat){x:Str}{pos:Pos}(hN:X.N[i]?=some x:=by rfl)(hv:Ow X.env.scope x:=by first|exact Or.inl rfl|exact Or.inr (Or.inl rfl)|exact Or.inr (Or.inr rfl))(hd:(x==("__debug__":Str))=false:=by decide)
  (pL:(x==("__classdict__":Str))=false:=by decide):SE X (.Name x pos) (ah i):=⟨(pv i hN hv hd pL).imp fun σ H Q h=>by
 obtain⟨μ,ρ,st,r,h⟩:=h
 unfold ah at h
 cases e:ρ[i]? with
 |none=>rw[e]at h;exact h.elim
 |some ow=>
  cases ow with
  |none=>rw[e]at h;exact h.elim
  |some w=>
   rw[e]at h
   obtain⟨v,e1,e2⟩:=nJ r.env e
   exact⟨v,e1,h μ v H (aj _) dD.refl r.sto e2⟩⟩
def eC(w:W):FE:=fun _ st=>.ok w st
abbrev eI(n:Int):FE:=eC (.int n)
theorem PH{w:W}{v:V}(hc:PE X e (tC v))(hr:∀μ H,bf X.K μ H w v):SE X e (eC w):=⟨hc.imp fun σ H Q h=>by
 obtain⟨μ,ρ,st,r,h⟩:=h
 exact h μ v H (aj _) dD.refl r.sto (hr _ _)⟩
theorem az{i:Int}:SE X (.Constant (.int i) j pos) (eC (.int i)):=PH Lc fun _ _=>.int
theorem qy{k:Bool}:SE X (.Constant (.bool k) j pos) (eC (.bl k)):=PH ON fun _ _=>.bl
theorem A':SE X (.Constant .none j pos) (eC .non):=PH Ld fun _ _=>.non
theorem fG{l:List Nat}(h:x=tx l:=by decide +kernel):SE X (.Constant (.str x) j pos) (eC (.str l)):=PH DB fun _ _=>by rw[h];exact .str
theorem Ma{w:W}(h:∃u v,X.mg x=some u/\cB v u/\∀μ H,bf X.K μ H w v)(hg:Gl X x:=by rfl)(hd:(x==("__debug__":Str))=false:=by decide):SE X (.Name x pos) (eC w):=by
 obtain⟨u,v,a,b,c⟩:=h
 exact PH (Pn ⟨u,a,b⟩ hg hd) c
def e2(f:W->W->List al->R W)(fa fb:FE):FE:=fun ρ st=>(fa ρ st).bind fun x st=>(fb ρ st).bind fun y st=>f x y st
def Dv(X:Cx)(μ:List Addr)(H:Hp)(Q:VK):R W->Prop
 |.ok w bu=>∀μ' v H',μ <+: μ'->dD X.K H H'->gn X.K X.mg μ' bu H'->bf X.K μ' H' w v->Q v H'
 |_=>False
def rP{α:Type}:R α->Prop
 |.ex _ _=>False
 |_=>True
def S5(X:Cx)(f:W->W->List al->R W):R2:=fun x y H Q=>∃μ st wx wy,gn X.K X.mg μ st H/\bf X.K μ H wx x/\bf X.K μ H wy y/\Dv X μ H Q (f wx wy st)
structure r6(X:Cx)(g:Value->Value->Sem Value)(f:W->W->List al->R W):Prop where
 h:k6 X g (S5 X f)
 n:∀x y st,rP (f x y st)
theorem qA{μ:List Addr}{σ:St}{H:Hp}{Q:VK}{r:R W}(h:RK X (rO X) μ σ H Q r)(n:rP r):Dv X μ H Q r:=by
 cases r with
 |ok a st=>exact h
 |ex c st=>exact n.elim
 |bad=>exact h
theorem Ba{f:W->W->List al->R W}{σ:St}{H:Hp}{Q:VK}(n:∀x y st,rP (f x y st))(h:tE X (e2 f fa fb) σ H Q):OZ (S5 X f) (tE X fa) (tE X fb) σ H Q:=by
 obtain⟨μ,ρ,st,l,h⟩:=h
 refine⟨μ,ρ,st,l,RK.bind h l fun μ1 st1 x v H1 p1 x1 l1 q1 h1=>⟨μ1,ρ,st1,l1,RK.bind h1 l1 fun μ2 dw y u H2 p2 x2 l2 q2 h2=>?_⟩⟩
 exact⟨μ2,dw,x,y,l2.sto,q1.mono p2 x2,q2,qA h2 (n _ _ _)⟩
theorem bA{op:Operator}{f:W->W->List al->R W}(ho:r6 X (binaryOp op) f)(ha:SE X a fa)(hb:SE X b fb):SE X (.BinOp a op b pos) (e2 f fa fb):=⟨(O0 ho.h ha.h hb.h).imp fun _ _ _ h=>Ba ho.n h⟩
theorem kG{op:CmpOp}{f:W->W->List al->R W}(ho:r6 X (compareOp op) f)(ha:SE X a fa)(hb:SE X b fb)(hm:behindInMarks op b=false:=by first|exact DN _|rfl):SE X (.Compare a [op] [b] pos) (e2 f fa fb):=⟨(Hz ho.h ha.h hb.h hm).imp fun _ _ _ h=>Ba ho.n h⟩
def dv(fa:FE):FT:=fun ρ st=>(fa ρ st).bind fun x st=>match x with
 |.bl k=>.ok k st
 |_=>.bad
theorem pT{σ:St}{H:Hp}{Q:Bool->Hp->Prop}(h:tT X (dv fa) σ H Q):tE X fa σ H fun x H1=>∃k,x=.bl k/\Q k H1:=by
 obtain⟨μ,ρ,st,l,h⟩:=h
 refine⟨μ,ρ,st,l,RK.bind h l fun μ1 st1 x v H1 p1 x1 l1 q1 h1=>?_⟩
 cases x with
 |bl k=>exact⟨k,q1.blE,h1 μ1 k H1 (aj _) dD.refl l1.sto rfl⟩
 |_=>exact h1.elim
theorem bp{op:CmpOp}{f:W->W->List al->R W}(ho:r6 X (compareOp op) f)(ha:SE X a fa)(hb:SE X b fb)(hm:behindInMarks op b=false:=by first|exact DN _|rfl):ST X (.Compare a [op] [b] pos) (dv (e2 f fa fb)):=⟨(HA ho.h ha.h hb.h hm).imp fun σ H Q h=>by
 have h':tE X (e2 f fa fb) σ H fun x H1=>∃k,x=.bl k/\Q k H1:=pT h
 exact Ba ho.n h'⟩
theorem eF(h:SE X e fe)(he:∀rH,isTrue e X.env rH=(do let v <- rH;standAt e.pos;holding [v] (truthy v)):=by intro _;rfl):ST X e (dv fe):=⟨(Lf h.h he).imp fun σ H Q h=>pT h⟩
def uf(t u:FT):FT:=fun ρ st=>(t ρ st).bind fun k st=>if k then u ρ st else .ok false st
def t0(t u:FT):FT:=fun ρ st=>(t ρ st).bind fun k st=>if k then .ok true st else u ρ st
def wO(t:FT):FT:=fun ρ st=>(t ρ st).bind fun k st=>.ok (!k) st
theorem i6(ha:ST X a ft):SW X (.BoolOp .And [a] pos) ft:=⟨Hl ha.h⟩
theorem kc(ha:ST X a ft):SW X (.BoolOp .Or [a] pos) ft:=⟨Lg ha.h⟩
theorem jv(ha:ST X a ft)(hb:SW X (.BoolOp .And (b::rest) pos) fu):SW X (.BoolOp .And (a::b::rest) pos) (uf ft fu):=⟨(Lh ha.h hb.h).imp fun σ H Q h=>by
 obtain⟨μ,ρ,st,l,h⟩:=h
 refine⟨μ,ρ,st,l,RK.bind h l fun μ1 st1 x v H1 p1 x1 l1 q1 h1=>?_⟩
 cases q1
 cases x with
 |true=>exact⟨μ1,ρ,st1,l1,h1⟩
 |false=>exact h1 μ1 false H1 (aj _) dD.refl l1.sto rfl⟩
theorem jN(ha:ST X a ft)(hb:SW X (.BoolOp .Or (b::rest) pos) fu):SW X (.BoolOp .Or (a::b::rest) pos) (t0 ft fu):=⟨(OP ha.h hb.h).imp fun σ H Q h=>by
 obtain⟨μ,ρ,st,l,h⟩:=h
 refine⟨μ,ρ,st,l,RK.bind h l fun μ1 st1 x v H1 p1 x1 l1 q1 h1=>?_⟩
 cases q1
 cases x with
 |false=>exact⟨μ1,ρ,st1,l1,h1⟩
 |true=>exact h1 μ1 true H1 (aj _) dD.refl l1.sto rfl⟩
theorem k8(h:SW X e ft):ST X e ft:=⟨h.h.pt⟩
theorem iB(ha:ST X a ft):ST X (.UnaryOp .Not a pos) (wO ft):=⟨(Li ha.h).imp fun σ H Q h=>by
 obtain⟨μ,ρ,st,l,h⟩:=h
 refine⟨μ,ρ,st,l,RK.bind h l fun μ1 st1 x v H1 p1 x1 l1 q1 h1=>?_⟩
 cases q1
 exact h1 μ1 _ H1 (aj _) dD.refl l1.sto rfl⟩
def sJ(fa fb:FE):FE:=fun ρ st=>(fa ρ st).bind fun x st=>match x with
 |.bl true=>fb ρ st
 |.bl false=>.ok (.bl false) st
 |_=>.bad
def T_(fa fb:FE):FE:=fun ρ st=>(fa ρ st).bind fun x st=>match x with
 |.bl true=>.ok (.bl true) st
 |.bl false=>fb ρ st
 |_=>.bad
def Ic(fa:FE):FE:=fun ρ st=>(fa ρ st).bind fun x st=>match x with
 |.bl k=>.ok (.bl (!k)) st
 |_=>.bad
theorem uJ{op:BoolOp}(h:SE X a fa):SE X (.BoolOp op [a] pos) fa:=⟨Lj h.h⟩
theorem uK(ha:SE X a fa)(hb:SE X (.BoolOp .And (b::rest) pos) fb):SE X (.BoolOp .And (a::b::rest) pos) (sJ fa fb):=⟨(Lk ha.h hb.h).imp fun σ H Q h=>by
 obtain⟨μ,ρ,st,l,h⟩:=h
 refine⟨μ,ρ,st,l,RK.bind h l fun μ1 st1 x v H1 p1 x1 l1 q1 h1=>?_⟩
 cases x with
 |bl k=>
  refine⟨k,q1.blE,?_⟩
  cases k with
  |true=>exact⟨μ1,ρ,st1,l1,h1⟩
  |false=>exact h1 μ1 _ H1 (aj _) dD.refl l1.sto .bl
 |_=>exact h1.elim⟩
theorem S6(ha:SE X a fa)(hb:SE X (.BoolOp .Or (b::rest) pos) fb):SE X (.BoolOp .Or (a::b::rest) pos) (T_ fa fb):=⟨(OS ha.h hb.h).imp fun σ H Q h=>by
 obtain⟨μ,ρ,st,l,h⟩:=h
 refine⟨μ,ρ,st,l,RK.bind h l fun μ1 st1 x v H1 p1 x1 l1 q1 h1=>?_⟩
 cases x with
 |bl k=>
  refine⟨k,q1.blE,?_⟩
  cases k with
  |false=>exact⟨μ1,ρ,st1,l1,h1⟩
  |true=>exact h1 μ1 _ H1 (aj _) dD.refl l1.sto .bl
 |_=>exact h1.elim⟩
theorem PJ(ha:SE X a fa):SE X (.UnaryOp .Not a pos) (Ic fa):=⟨(Ll ha.h).imp fun σ H Q h=>by
 obtain⟨μ,ρ,st,l,h⟩:=h
 refine⟨μ,ρ,st,l,RK.bind h l fun μ1 st1 x v H1 p1 x1 l1 q1 h1=>?_⟩
 cases x with
 |bl k=>exact⟨k,q1.blE,h1 μ1 _ H1 (aj _) dD.refl l1.sto .bl⟩
 |_=>exact h1.elim⟩
def xD(t:FT)(fa fb:FE):FE:=fun ρ st=>(t ρ st).bind fun k st=>if k then fa ρ st else fb ρ st
theorem ug(hc:ST X c ft)(ha:SE X a fa)(hb:SE X b fb):SE X (.IfExp c a b pos) (xD ft fa fb):=⟨(DE hc.h ha.h hb.h).imp fun σ H Q h=>by
 obtain⟨μ,ρ,st,l,h⟩:=h
 refine⟨μ,ρ,st,l,RK.bind h l fun μ1 st1 x v H1 p1 x1 l1 q1 h1=>?_⟩
 cases q1
 cases x with
 |false=>exact⟨μ1,ρ,st1,l1,h1⟩
 |true=>exact⟨μ1,ρ,st1,l1,h1⟩⟩
def W.isNon:W->Bool
 |.non=>true
 |_=>false
def xE(fa:FE):FE:=fun ρ st=>(fa ρ st).bind fun x st=>.ok (.bl x.isNon) st
def ke(fa:FE):FE:=fun ρ st=>(fa ρ st).bind fun x st=>.ok (.bl (!x.isNon)) st
theorem JI{μ:List Addr}{H:Hp}{w:W}{v:V}(r:bf X.K μ H w v):decide (v=.non)=w.isNon:=by
 cases w with
 |non=>rw[r.nonE];rfl
 |bl b=>rw[r.blE];rfl
 |int b=>rw[r.intE];rfl
 |str b=>rw[r.strE];rfl
 |tup b=>obtain⟨p,vs,rfl,_⟩:=r.tupE;rfl
 |loc b=>obtain⟨p,_,rfl⟩:=r.locE;rfl
theorem JJ{σ:St}{H:Hp}{Q:VK}(h:tE X (xE fa) σ H Q):OO (tE X fa) σ H Q:=by
 obtain⟨μ,ρ,st,l,h⟩:=h
 refine⟨μ,ρ,st,l,RK.bind h l fun μ1 st1 x v H1 p1 x1 l1 q1 h1=>?_⟩
 show Q (.bl (decide (v=.non))) H1
 rw[JI q1]
 exact h1 μ1 _ H1 (aj _) dD.refl l1.sto .bl
theorem Mb{σ:St}{H:Hp}{Q:VK}(h:tE X (ke fa) σ H Q):Ju (tE X fa) σ H Q:=by
 obtain⟨μ,ρ,st,l,h⟩:=h
 refine⟨μ,ρ,st,l,RK.bind h l fun μ1 st1 x v H1 p1 x1 l1 q1 h1=>?_⟩
 show Q (.bl (!decide (v=.non))) H1
 rw[JI q1]
 exact h1 μ1 _ H1 (aj _) dD.refl l1.sto .bl
theorem PL{iF:Pos}(ha:SE X a fa):SE X (.Compare a [.Is] [.Constant .none j iF] pos) (xE fa):=⟨(Le (DC ha.h)).imp fun _ _ _ h=>JJ h⟩
theorem Ei{iF:Pos}(ha:SE X a fa):ST X (.Compare a [.Is] [.Constant .none j iF] pos) (dv (xE fa)):=⟨(DD (DC ha.h)).imp fun _ _ _ h=>JJ (pT h)⟩
theorem og{iF:Pos}(ha:SE X a fa):ST X (.Compare a [.IsNot] [.Constant .none j iF] pos) (dv (ke fa)):=⟨(DD (Hk ha.h)).imp fun _ _ _ h=>Mb (pT h)⟩
def aK:FA:=fun _ st=>.ok [] st
def ao(fa:FE)(fs:FA):FA:=fun ρ st=>(fa ρ st).bind fun x st=>(fs ρ st).bind fun xs st=>.ok (x::xs) st
theorem aA:SA X [] aK:=⟨zx.imp fun σ H Q h=>by
 obtain⟨μ,ρ,st,l,h⟩:=h
 exact h μ [] H (aj _) dD.refl l.sto .nilI⟩
theorem ag(ha:SE X e fe)(hr:SA X es fs)(hs:starEach (e::es) X.env=(false,eval e X.env)::starEach es X.env:=by rfl):SA X (e::es) (ao fe fs):=⟨(rZ ha.h hr.h hs).imp fun σ H Q h=>by
 obtain⟨μ,ρ,st,l,h⟩:=h
 refine⟨μ,ρ,st,l,RK.bind h l fun μ1 st1 x v H1 p1 x1 l1 q1 h1=>⟨μ1,ρ,st1,l1,RK.bind h1 l1 fun μ2 dw xs vs H2 p2 x2 l2 q2 h2=>?_⟩⟩
 exact h2 μ2 _ H2 (aj _) dD.refl l2.sto (.consI (q1.mono p2 x2) q2)⟩
def Bb(zs:List (List Nat)):FA:=fun _ st=>.ok (zs.map W.str) st
theorem Ie{zs:List Str}{ls:List (List Nat)}(h:CS es zs)(hz:zs=ls.map tx:=by decide +kernel):SA X es (Bb ls):=⟨(HU (X:=X) h).imp fun σ H Q q=>by
 obtain⟨μ,ρ,st,l,q⟩:=q
 refine q μ _ H (aj _) dD.refl l.sto ?_
 rw[hz]
 clear hz h q
 induction ls with
 |nil=>exact .nilI
 |cons a r ih=>exact .consI .str ih⟩
def oP(ws:List W)(st:List al):R W:=if ws.length<=lB then .ok (.tup ws) st else .bad
def m9(ws:List W)(st:List al):R W:=if ws.length<=lB then .ok (.loc st.length) (st++[.lst ws])else .bad
def mq(fs:FA):FE:=fun ρ st=>(fs ρ st).bind fun ws st=>oP ws st
def nK(fs:FA):FE:=fun ρ st=>(fs ρ st).bind fun ws st=>m9 ws st
theorem gn.newLst{K:Frag}{mg:Str->Option Value}{μ:List Addr}{st:List al}{H:Hp}(S:gn K mg μ st H){p:Addr}{ws:List W}{vs:List V}(hp:H p=none)(r:RelWs K μ H ws vs):gn K mg (μ++[p]) (st++[.lst ws]) (eY H p (.lst vs)):=
 S.push hp ⟨vs,dR,r.mono (aR _ _) (fQ.same (cY hp _))⟩
theorem qB{K:Frag}{mg:Str->Option Value}{μ:List Addr}{st:List al}{H H':Hp}(S:gn K mg μ st H){p:Addr}:bf K (μ++[p]) H' (.loc st.length) (.ref p):=.locI (by rw[S.len];simp)
theorem Ej{μ:List Addr}{st:List al}{σ:St}{H:Hp}{Q:VK}{ws:List W}{vs:List V}(S:gn X.K X.mg μ st H)(q:RelWs X.K μ H ws vs)(h:RK X (rO X) μ σ H Q (oP ws st)):vs.length<=sizeLine/\∀p H2,H p=none->H2=eY H p (.tup vs)->Q (.ref p) H2:=by
 unfold oP at h
 by_cases hz:ws.length<=lB
 ·rw[aq hz]at h
  refine⟨by rw[<- q.len];exact nI hz,fun p H2 hp e=>?_⟩
  subst e
  have x:=fQ.same (K:=X.K) (cY hp (.tup vs))
  exact h μ _ _ (aj _) x (S.same (cY hp _)) (.tupI fQ.new (q.mono (aj _) x))
 ·rw[ax hz]at h;exact h.elim
theorem sK{μ:List Addr}{st:List al}{σ:St}{H:Hp}{Q:VK}{ws:List W}{vs:List V}(S:gn X.K X.mg μ st H)(q:RelWs X.K μ H ws vs)(h:RK X (rO X) μ σ H Q (m9 ws st)):vs.length<=sizeLine/\∀p H2,H p=none->H2=eY H p (.lst vs)->Q (.ref p) H2:=by
 unfold m9 at h
 by_cases hz:ws.length<=lB
 ·rw[aq hz]at h
  refine⟨by rw[<- q.len];exact nI hz,fun p H2 hp e=>?_⟩
  subst e
  exact h (μ++[p]) _ _ (aR _ _) (fQ.same (cY hp _)) (S.newLst hp q) (qB S)
 ·rw[ax hz]at h;exact h.elim
theorem lI{k:Nat}(h:SA X es fs):SE X (.Tuple es k pos) (mq fs):=⟨(HP h.h).imp fun σ H Q h=>by
 obtain⟨μ,ρ,st,l,h⟩:=h
 exact⟨μ,ρ,st,l,RK.bind h l fun μ1 st1 x v H1 p1 x1 l1 q1 h1=>Ej l1.sto q1 h1⟩⟩
theorem kH(h:SA X es fs):SE X (.List es pos) (nK fs):=⟨(HQ h.h).imp fun σ H Q h=>by
 obtain⟨μ,ρ,st,l,h⟩:=h
 exact⟨μ,ρ,st,l,RK.bind h l fun μ1 st1 x v H1 p1 x1 l1 q1 h1=>sK l1.sto q1 h1⟩⟩
end
section
variable{X:Cx}
theorem jT{μ:List Addr}{st:List al}{H:Hp}{Q:VK}{i:Int}(S:gn X.K X.mg μ st H)(h:Dv X μ H Q (.ok (.int i) st)):Q (.int i) H:=h μ _ H (aj _) dD.refl S .int
theorem mv{μ:List Addr}{st:List al}{H:Hp}{Q:VK}{i:Bool}(S:gn X.K X.mg μ st H)(h:Dv X μ H Q (.ok (.bl i) st)):Q (.bl i) H:=h μ _ H (aj _) dD.refl S .bl
theorem oh{μ:List Addr}{st:List al}{H:Hp}{Q:VK}{i:List Nat}(S:gn X.K X.mg μ st H)(h:Dv X μ H Q (.ok (.str i) st)):Q (.str (tx i)) H:=h μ _ H (aj _) dD.refl S .str
theorem Md{μ:List Addr}{σ:St}{H:Hp}{Q:VK}{r:R W}(h:Dv X μ H Q r):RK X (rO X) μ σ H Q r:=by
 cases r with
 |ok a st=>exact h
 |ex c st=>exact h.elim
 |bad=>exact h
def zN(C:Int->Int->Prop)[∀i j,Decidable (C i j)](f:Int->Int->Int):W->W->List al->R W
 |.int i,.int j,st=>if C i j then .ok (.int (f i j)) st else .bad
 |_,_,_=>.bad
theorem uh{g:Value->Value->Sem Value}{C C':Int->Int->Prop}[∀i j,Decidable (C' i j)]{f:Int->Int->Int}(h:k6 X g (rI C fun i j=>.int (f i j)))(hC:∀i j,C' i j->C i j):r6 X g (zN C' f):=⟨h.imp fun x y H Q ⟨μ,st,wx,wy,S,rx,ry,q⟩=>by
 cases wx with
 |int i=>
  cases wy with
  |int j=>
   simp only[zN]at q
   by_cases c:C' i j
   ·rw[aq c]at q;exact⟨i,j,rx.intE,ry.intE,hC i j c,jT S q⟩
   ·rw[ax c]at q;exact q.elim
  |_=>exact q.elim
 |_=>cases wy<;>exact q.elim,fun x y st=>by
 unfold zN
 split
 ·split<;>trivial
 ·trivial⟩
def Cu(f:Int->Int->Bool):W->W->List al->R W
 |.int i,.int j,st=>.ok (.bl (f i j)) st
 |_,_,_=>.bad
theorem Ek{g:Value->Value->Sem Value}{f:Int->Int->Bool}(h:k6 X g (Dr fun i j=>.bl (f i j))):r6 X g (Cu f):=⟨h.imp fun x y H Q ⟨μ,st,wx,wy,S,rx,ry,q⟩=>by
 cases wx with
 |int i=>
  cases wy with
  |int j=>exact⟨i,j,rx.intE,ry.intE,mv S q⟩
  |_=>exact q.elim
 |_=>cases wy<;>exact q.elim,fun x y st=>by
 unfold Cu
 split<;>trivial⟩
abbrev Ig(i j:Int):Prop:=(-(2^64)<i/\i<2^64)\/(-(2^64)<j/\j<2^64)
abbrev Cv:=zN (fun _ _=>True) fun i j=>i-j
abbrev PM:=zN Ig fun i j=>i*j
abbrev gR:=zN (fun _ j=>0<j) fun i j=>i%j
abbrev sL:=zN (fun _ j=>0<j/\j<1073741824) fun i j=>i/j
abbrev PN:=zN (fun i j=>0<=j/\j<=1000000/\i.natAbs<2^64) fun i j=>i^j.toNat
abbrev lJ:=zN (fun i j=>0<=j/\j<=1000000/\i.natAbs<2^64) fun i j=>i*2^j.toNat
abbrev mw:=zN (fun _ j=>0<=j) fun i j=>i/2^j.toNat
abbrev gZ:=zN (fun _ _=>True) fun i j=>Builtin.bitAnd i j
theorem vH{g:Value->Value->Sem Value}{f:Int->Int->V}(h:k6 X g (Dr f)):k6 X g (rI (fun _ _=>True) f):=h.imp fun _ _ _ _ ⟨i,j,a,b,_,q⟩=>⟨i,j,a,b,q⟩
theorem Bc:r6 X (binaryOp .Sub) Cv:=uh (vH LB) fun _ _ _=>trivial
theorem PP:r6 X (binaryOp .Mult) PM:=uh LC fun _ _ h=>h
theorem gI:r6 X (binaryOp .Mod) gR:=uh LD fun _ _ h=>h
theorem sM:r6 X (binaryOp .FloorDiv) sL:=uh Hy fun _ _ h=>h
theorem PQ:r6 X (binaryOp .Pow) PN:=uh LF fun _ _ h=>h
theorem m_:r6 X (binaryOp .LShift) lJ:=uh DL fun _ _ h=>h
theorem pU:r6 X (binaryOp .RShift) mw:=uh LG fun _ _ h=>h
theorem jw:r6 X (binaryOp .BitAnd) gZ:=uh (vH LH) fun _ _ _=>trivial
def gA:W->W->List al->R W
 |.int i,.int j,st=>.ok (.int (i+j)) st
 |.str a,.str b,st=>if a.length+b.length<=lB then .ok (.str (a++b)) st else .bad
 |.tup a,.tup b,st=>oP (a++b) st
 |.loc n,.loc m,st=>match st[n]?,st[m]? with
  |some (.lst a),some (.lst b)=>m9 (a++b) st
  |_,_=>.bad
 |_,_,_=>.bad
theorem Ih(ws:List W)(st:List al):rP (oP ws st):=by unfold oP;split<;>trivial
theorem Ii(ws:List W)(st:List al):rP (m9 ws st):=by unfold m9;split<;>trivial
theorem ga:r6 X (binaryOp .Add) gA:=⟨fun af s σ H x y v u Q I rv ru ⟨μ,st,wx,wy,S,rx,ry,q⟩=>by
 cases wx with
 |int i=>
  cases wy with
  |int j=>exact LA af s σ H x y v u Q I rv ru ⟨i,j,rx.intE,ry.intE,jT S q⟩
  |_=>exact q.elim
 |str a=>
  cases wy with
  |str b=>
   simp only[gA]at q
   by_cases c:a.length+b.length<=lB
   ·rw[aq c]at q
    exact zw af s σ H x y v u Q I rv ru ⟨_,_,rx.strE,ry.strE,by rw[gG,gG];exact nI c,by rw[zD];exact oh S q⟩
   ·rw[ax c]at q;exact q.elim
  |_=>exact q.elim
 |tup a=>
  cases wy with
  |tup b=>
   obtain⟨p1,vs1,rfl,h1,r1⟩:=rx.tupE
   obtain⟨p2,vs2,rfl,h2,r2⟩:=ry.tupE
   have q':Dv X μ H Q (oP (a++b) st):=q
   unfold oP at q'
   by_cases c:(a++b).length<=lB
   ·rw[aq c]at q'
    refine L8.h af s σ H _ _ v u Q I rv ru ⟨p1,p2,vs1,vs2,rfl,rfl,h1,h2,by rw[<- r1.len,<- r2.len,<- aL];exact nI c,fun p H2 e t=>?_⟩
    exact q' μ _ _ (aj _) (fQ.same e) (S.same e) (.tupI t ((r1.app r2).mono (aj _) (fQ.same e)))
   ·rw[ax c]at q';exact q'.elim
  |_=>exact q.elim
 |loc n=>
  cases wy with
  |loc m=>
   simp only[gA]at q
   cases e1:st[n]? with
   |none=>rw[e1]at q;exact q.elim
   |some c1=>
    cases e2:st[m]? with
    |none=>rw[e1,e2]at q;cases c1<;>exact q.elim
    |some c2=>
     cases c1 with
     |lst a=>
      cases c2 with
      |lst b=>
       rw[e1,e2]at q
       obtain⟨a1,g1,vs1,k1,r1⟩:=S.get e1
       obtain⟨a2,g2,vs2,k2,r2⟩:=S.get e2
       obtain⟨b1,f1,rfl⟩:=rx.locE
       obtain⟨b2,f2,rfl⟩:=ry.locE
       rw[g1]at f1;cases f1
       rw[g2]at f2;cases f2
       obtain⟨hz,qq⟩:=sK (σ:=σ) S (r1.app r2) (Md q)
       exact HS af s σ H _ _ v u Q I rv ru ⟨a1,a2,vs1,vs2,rfl,rfl,k1,k2,by rw[<- aL];exact hz,qq⟩
      |_=>rw[e1,e2]at q;exact q.elim
     |_=>rw[e1,e2]at q;exact q.elim
  |_=>exact q.elim
 |_=>cases wy<;>exact q.elim,fun x y st=>by
 unfold gA
 split
 ·trivial
 ·split<;>trivial
 ·exact Ih _ _
 ·split
  ·exact Ii _ _
  ·trivial
 ·trivial⟩
abbrev PR:=Cu fun i j=>decide (i<j)
abbrev JK:=Cu fun i j=>decide (j<i)
abbrev JL:=Cu fun i j=>decide (j<=i)
theorem w_lt:r6 X (compareOp .Lt) PR:=Ek O6
theorem Cw:r6 X (compareOp .Gt) JK:=Ek O7
theorem Ij:r6 X (compareOp .GtE) JL:=Ek O8
end
mutual
def jU:W->W->Option Bool
 |.non,.non=>some true
 |.bl a,.bl b=>some (a==b)
 |.bl a,.int b=>some ((if a then 1 else 0)==b)
 |.int a,.bl b=>some (a==(if b then 1 else 0))
 |.int a,.int b=>some (a==b)
 |.str a,.str b=>some (a==b)
 |.tup a,.tup b=>eqWs a b
 |.loc _,_=>none
 |.non,.loc _=>none
 |.bl _,.loc _=>none
 |.int _,.loc _=>none
 |.str _,.loc _=>none
 |.tup _,.loc _=>none
 |.non,.bl _=>some false
 |.non,.int _=>some false
 |.non,.str _=>some false
 |.non,.tup _=>some false
 |.bl _,.non=>some false
 |.bl _,.str _=>some false
 |.bl _,.tup _=>some false
 |.int _,.non=>some false
 |.int _,.str _=>some false
 |.int _,.tup _=>some false
 |.str _,.non=>some false
 |.str _,.bl _=>some false
 |.str _,.int _=>some false
 |.str _,.tup _=>some false
 |.tup _,.non=>some false
 |.tup _,.bl _=>some false
 |.tup _,.int _=>some false
 |.tup _,.str _=>some false
def eqWs:List W->List W->Option Bool
 |[],[]=>some true
 |[],_::_=>some false
 |_::_,[]=>some false
 |x::xs,y::ys=>match jU x y,eqWs xs ys with
  |some a,some b=>some (a&&b)
  |_,_=>none
end
mutual
def W.dep:W->Nat
 |.tup ws=>depWs ws+1
 |_=>0
def depWs:List W->Nat
 |[]=>0
 |w::ws=>max w.dep (depWs ws)
end
theorem pi:∀(xs ys:List W) (b:Bool),eqWs xs ys=some b->∃e:Nat->Bool,(∀j (h1:j<xs.length) (h2:j<ys.length),jU xs[j] ys[j]=some (e j))/\((List.range (min xs.length ys.length)).all e&&xs.length==ys.length)=b
 |[],[],b,h=>by unfold eqWs at h;cases h;exact⟨fun _=>true,fun j h1=>absurd h1 (jH _),rfl⟩
 |[],y::ys,b,h=>by unfold eqWs at h;cases h;exact⟨fun _=>true,fun j h1=>absurd h1 (jH _),by simp⟩
 |x::xs,[],b,h=>by unfold eqWs at h;cases h;exact⟨fun _=>true,fun j _ h1=>absurd h1 (jH _),by simp⟩
 |x::xs,y::ys,b,h=>by
  unfold eqWs at h
  cases e1:jU x y with
  |none=>rw[e1]at h;simp at h
  |some a=>
   cases e2:eqWs xs ys with
   |none=>rw[e1,e2]at h;simp at h
   |some c=>
    rw[e1,e2]at h
    simp at h
    obtain⟨e,he,hb⟩:=pi xs ys c e2
    refine⟨fun j=>match j with|0=>a|j+1=>e j,fun j h1 h2=>?_,?_⟩
    ·cases j with
     |zero=>exact e1
     |succ j=>exact he j (iL h1) (iL h2)
    ·have m:min (x::xs).length (y::ys).length=min xs.length ys.length+1:=by simp only[de];omega
     rw[m,mU,List.all_cons,List.all_map,<- h,<- hb]
     simp[Function.comp_def,Bool.and_assoc]
theorem Bd{X:Cx}{H:Hp}{μ:List Addr}{a b:W}{x:V}{k:Bool}(hn:a.dep<=0)(ra:bf X.K μ H a x)(rb:bf X.K μ H b x)(he:jU a b=some k):k=true:=by
 cases a with
 |tup i=>unfold W.dep at hn;omega
 |non=>cases ra.nonE;cases b<;>first|(unfold jU at he;cases he;rfl)|cases rb.blE|cases rb.intE|cases rb.strE|(obtain⟨_,_,z,_⟩:=rb.tupE;cases z)|(unfold jU at he;cases he)
 |bl i=>cases ra.blE;cases b<;>first|(cases rb.blE;unfold jU at he;simp at he;exact he)|cases rb.nonE|cases rb.intE|cases rb.strE|(obtain⟨_,_,z,_⟩:=rb.tupE;cases z)|(unfold jU at he;cases he)
 |int i=>cases ra.intE;cases b<;>first|(cases rb.intE;unfold jU at he;simp at he;exact he)|cases rb.nonE|cases rb.blE|cases rb.strE|(obtain⟨_,_,z,_⟩:=rb.tupE;cases z)|(unfold jU at he;cases he)
 |str i=>cases ra.strE;cases b<;>first|(have z:=rb.strE;injection z with z;rw[DZ.mp z]at he;unfold jU at he;simp at he;exact he)|cases rb.nonE|cases rb.blE|cases rb.intE|(obtain⟨_,_,z,_⟩:=rb.tupE;cases z)|(unfold jU at he;cases he)
 |loc i=>cases b<;>(unfold jU at he;cases he)
theorem El{X:Cx}{af:List (Addr×Obj)}{σ:St}{H:Hp}{s:Shared}{μ:List Addr}(I:bw X af σ H s):∀(n:Nat) (a b:W) (x:V) (k:Bool),a.dep<=n->bf X.K μ H a x->bf X.K μ H b x->jU a b=some k->k=true:=by
 intro n
 induction n with
 |zero=>exact fun a b x k hn ra rb he=>Bd hn ra rb he
 |succ n ih=>
  intro a b x k hn ra rb he
  cases a with
  |tup i=>
   obtain⟨p',AD,rfl,hS',r'⟩:=ra.tupE
   cases b with
   |tup z=>
    obtain⟨p,vs,e,hS,r⟩:=rb.tupE
    cases e
    obtain rfl:=I.tuple_inj hS hS'
    have he':eqWs i z=some k:=by unfold jU at he;exact he
    have dn:depWs i<=n:=by unfold W.dep at hn;omega
    have key:∀(i z:List W) (vs:List V) (k:Bool),depWs i<=n->RelWs X.K μ H i vs->RelWs X.K μ H z vs->eqWs i z=some k->k=true:=by
     intro i
     induction i with
     |nil=>
      intro z vs k _ r' r he
      have e1:=r'.nilE
      subst e1
      cases z with
      |nil=>unfold eqWs at he;cases he;rfl
      |cons _ _=>have e2:=r.len;simp at e2
     |cons w i ih2=>
      intro z vs k dn r' r he
      obtain⟨x,xs,rfl,rx,rxs⟩:=r'.consE
      cases z with
      |nil=>have e2:=r.len;simp at e2
      |cons y z=>
       obtain⟨x2,xs2,e3,ry,rys⟩:=r.consE
       cases e3
       unfold eqWs at he
       cases e1:jU w y with
       |none=>rw[e1]at he;simp at he
       |some k1=>
        cases e2:eqWs i z with
        |none=>rw[e1,e2]at he;simp at he
        |some k2=>
         rw[e1,e2]at he
         simp at he
         unfold depWs at dn
         have q1:=ih w y x k1 (by omega) rx ry e1
         have q2:=ih2 z xs k2 (by omega) rxs rys e2
         rw[<- he,q1,q2];rfl
    exact key i z _ k dn r' r he'
   |non=>cases rb.nonE
   |bl z=>cases rb.blE
   |int z=>cases rb.intE
   |str z=>cases rb.strE
   |loc z=>unfold jU at he;cases he
  |_=>exact Bd (ay _) ra rb he
theorem qC:∀{ws:List W} {j:Nat} (h:j<ws.length),ws[j].dep<=depWs ws
 |w::ws,0,_=>by unfold depWs;exact Nat.le_max_left _ _
 |w::ws,j+1,h=>by unfold depWs;exact bh (qC (j:=j) (iL h)) (Nat.le_max_right _ _)
inductive Sh(s:Shared):W->Value->Prop
 |non:Sh s .non .none
 |bl (b:Bool):Sh s (.bl b) (.bool b)
 |int (i:Int) (t:Tok):Sh s (.int i) (.int i t)
 |str (l:List Nat) (t:Tok):Sh s (.str l) (.str (tx l) t)
 |tup (ws:List W) (p:Addr) (bI:List Value) (h:IsTup s.heap p bI.toArray):Sh s (.tup ws) (.ref p)
 |loc (n:Nat) (u:Value):Sh s (.loc n) u
section
variable{X:Cx}{af:List (Addr×Obj)}{σ:St}{H:Hp}{s:Shared}{μ:List Addr}
theorem rA(I:bw X af σ H s){a:W}{x:V}{u:Value}(ra:bf X.K μ H a x)(ru:cB x u):Sh s a u:=by
 cases a with
 |non=>cases ra.nonE;cases ru;exact .non
 |bl i=>cases ra.blE;cases ru;exact .bl _
 |int i=>cases ra.intE;obtain⟨t,rfl⟩:=ru;exact .int _ _
 |str i=>cases ra.strE;obtain⟨t,rfl⟩:=ru;exact .str _ _
 |tup i=>obtain⟨p,vs,rfl,hS,_⟩:=ra.tupE;cases ru;obtain⟨bI,_,ht,_⟩:=I.tuple hS;exact .tup _ _ _ ht
 |loc i=>exact .loc _ _
open SeqAt.EqAt in
theorem Be{A:Around}{a b:W}{u v:Value}{k:Bool}(ha:Sh s a u)(hb:Sh s b v)(hu:A.units<cLine)(ht:b.dep=0\/a.dep=0)(he:jU a b=some k):SeqAt.EqAt A s u v k:=by
 cases ha<;>cases hb<;>first
  |(unfold jU at he;cases he;done)
  |(unfold jU at he;cases he;with_reducible first|exact same _|exact bool_none _|exact bool_bool _ _|exact bool_int _ _ _|exact bool_str _ _ _|exact int_none _ _|exact int_bool _ _ _|exact int_int _ _ _ _|exact int_str _ _ _ _|exact str_none _ _|exact str_bool _ _ _|exact str_int _ _ _ _|exact none_bool _|exact none_int _ _|exact none_str _ _)
  |(unfold jU at he;cases he;(with_reducible first|refine' bool_tuple _ ?_ hu|refine' int_tuple _ _ ?_ hu|refine' str_tuple _ _ ?_ hu|refine' tuple_none ?_ hu|refine' tuple_bool _ ?_ hu|refine' tuple_int _ _ ?_ hu|refine' tuple_str _ _ ?_ hu|refine' none_tuple ?_ hu);rotate_left;assumption)
  |(unfold W.dep at ht;omega)
  |skip
 rename_i i t z r
 unfold jU at he;cases he
 have:=str_str (A:=A) (s:=s) (tx i) t (tx z) r
 rw[<- o_]at this
 exact this
open SeqAt.RcAt in
theorem Ik{A:Around}{a b:W}{u v:Value}{k:Bool}(ha:Sh s a u)(hb:Sh s b v)(hu:A.units<cLine)(ht:b.dep=0\/a.dep=0)(he:jU a b=some k):SeqAt.RcAt A s u v k:=by
 cases ha<;>cases hb<;>first
  |(unfold jU at he;cases he;done)
  |(unfold jU at he;cases he;with_reducible first|exact none_none|exact bool_none _|exact bool_bool _ _|exact bool_int _ _ _|exact bool_str _ _ _|exact int_none _ _|exact int_bool _ _ _|exact int_int _ _ _ _|exact int_str _ _ _ _|exact str_none _ _|exact str_bool _ _ _|exact str_int _ _ _ _|exact none_bool _|exact none_int _ _|exact none_str _ _)
  |(unfold jU at he;cases he;(with_reducible first|refine' bool_tuple _ ?_ hu|refine' int_tuple _ _ ?_ hu|refine' str_tuple _ _ ?_ hu|refine' tuple_none ?_ hu|refine' tuple_bool _ ?_ hu|refine' tuple_int _ _ ?_ hu|refine' tuple_str _ _ ?_ hu|refine' none_tuple ?_ hu);rotate_left;assumption)
  |(unfold W.dep at ht;omega)
  |skip
 rename_i i t z r
 unfold jU at he;cases he
 have:=str_str (A:=A) (s:=s) (tx i) t (tx z) r
 rw[<- o_]at this
 exact this
open SeqAt.RcNeAt in
theorem Cy        {A : Around} {a b : W} {u v : Value} {k : Bool} (ha : Sh s a u) (hb : Sh s b v) (hu : A.units < cLine) (ht : b.dep = 0 \/ a.dep = 0) (he : jU  a b = some k) : SeqAt.RcNeAt A s u v (!k) := by
  cases ha <;> cases hb <;> first
    | (unfold jU  at he; cases he; done)
    | (unfold jU  at he; cases he; try simp only [eB           , kt            ]
       with_reducible first | exact none_none | exact bool_none _ | exact bool_bool _ _ | exact bool_int _ _ _ | exact bool_str _ _ _ | exact int_none _ _ | exact int_bool _ _ _ | exact int_int _ _ _ _ | exact int_str _ _ _ _ | exact str_none _ _ | exact str_bool _ _ _ | exact str_int _ _ _ _ | exact none_bool _ | exact none_int _ _ | exact none_str _ _)
    | (unfold jU  at he; cases he; try simp only [eB           , kt            ]
       (with_reducible first | refine' bool_tuple _ ?_ hu | refine' int_tuple _ _ ?_ hu | refine' str_tuple _ _ ?_ hu | refine' tuple_none ?_ hu | refine' tuple_bool _ ?_ hu | refine' tuple_int _ _ ?_ hu | refine' tuple_str _ _ ?_ hu | refine' none_tuple ?_ hu); rotate_left; assumption)
    | (unfold W.dep at ht; omega)
    | skip
  rename_i i t z r
  unfold jU  at he; cases he
  have := str_str (A := A) (s := s) (tx i) t (tx z) r
  rw [<- o_           ] at this
  exact this
theorem xF{i z:List W}{vs AD:List V}{bI its':List Value}{e:Nat->Bool}{A:Around}{m:Nat}(ih:∀(a b:W) (A:Around) (x y:V) (u v:Value) (k:Bool),a.dep<=m->bf X.K μ H a x->bf X.K μ H b y->cB x u->cB y v->A.units+m<cLine->jU a b=some k->SeqAt.EqAt A s u v k)
  (r':RelWs X.K μ H i AD) (r:RelWs X.K μ H z vs) (w':cw AD its') (w:cw vs bI) (hd:depWs i<=m) (hu:A.units+1+m<cLine) (h1:∀j (h1:j<i.length) (h2:j<z.length),jU i[j] z[j]=some (e j)):∀j (j1:j<its'.toArray.size) (j2:j<bI.toArray.size),SeqAt.EqAt A.in1 s its'.toArray[j] bI.toArray[j] (e j):=fun j j1 j2=>by
 have j1':j<i.length:=by rw[r'.len,w'.length];simpa using j1
 have j2':j<z.length:=by rw[r.len,w.length];simpa using j2
 obtain⟨x1,g1,q1⟩:=r'.get (ae j1')
 obtain⟨x2,g2,q2⟩:=r.get (ae j2')
 obtain⟨u1,f1,v1⟩:=w'.get g1
 obtain⟨u2,f2,v2⟩:=w.get g2
 have E:=ih i[j] z[j] A.in1 x1 x2 u1 u2 (e j) (bh (qC j1') hd) q1 q2 v1 v2 hu (h1 j j1' j2')
 have t1:its'.toArray[j]=u1:=by simpa using (ai.mp f1).2
 have t2:bI.toArray[j]=u2:=by simpa using (ai.mp f2).2
 rw[t1,t2];exact E
theorem Em(I:bw X af σ H s):∀(n:Nat) (a b:W) (A:Around) (x y:V) (u v:Value) (k:Bool),a.dep<=n->bf X.K μ H a x->bf X.K μ H b y->cB x u->cB y v->A.units+n<cLine->jU a b=some k->SeqAt.EqAt A s u v k:=by
 intro n
 induction n with
 |zero=>exact fun a b A x y u v k hn ra rb ru rv hu he=>Be (rA I ra ru) (rA I rb rv) hu (.inr (by omega)) he
 |succ m ih=>
  intro a b A x y u v k hn ra rb ru rv hu he
  by_cases hb:b.dep=0\/a.dep=0
  ·exact Be (rA I ra ru) (rA I rb rv) (by omega) hb he
  ·cases b with
   |tup z=>
    cases a with
    |tup i=>
     obtain⟨p',AD,rfl,hS',r'⟩:=id ra.tupE;cases ru;obtain⟨its',w',ht',_⟩:=I.tuple hS'
     obtain⟨p,vs,rfl,hS,r⟩:=id rb.tupE;cases rv;obtain⟨bI,w,ht,_⟩:=I.tuple hS
     by_cases hpp:p'=p
     ·subst hpp
      rw[El I (m+1) (.tup i) (.tup z) (.ref p') k hn ra rb he]
      exact SeqAt.EqAt.same _
     ·obtain⟨e,h1,h2⟩:=pi i z k (by unfold jU at he;exact he)
      have R:=SeqAt.RcAt.tuples (A:=A) (e:=e) ht' ht (by omega) (xF ih r' r w' w (by unfold W.dep at hn;omega) (by omega) h1)
      rw[show its'.toArray.size=i.length by simp[<- w'.length,<- r'.len],show bI.toArray.size=z.length by simp[<- w.length,<- r.len],h2]at R
      exact SeqAt.EqAt.of_refs hpp R
    |_=>exact(hb (.inr rfl)).elim
   |_=>exact(hb (.inl rfl)).elim
theorem En(I:bw X af σ H s){n:Nat}{a b:W}{A:Around}{x y:V}{u v:Value}{k:Bool}(hn:b.dep=0\/a.dep<=n)(ra:bf X.K μ H a x)(rb:bf X.K μ H b y)(ru:cB x u)(rv:cB y v)(hu:A.units+n<cLine)(he:jU a b=some k):SeqAt.RcAt A s u v k/\SeqAt.RcNeAt A s u v (!k):=by
 by_cases hb:b.dep=0\/a.dep=0
 ·exact⟨Ik (rA I ra ru) (rA I rb rv) (by omega) hb he,Cy (rA I ra ru) (rA I rb rv) (by omega) hb he⟩
 cases b with
 |tup z=>
  cases a with
  |tup i=>
   obtain⟨p',AD,rfl,hS',r'⟩:=ra.tupE;cases ru;obtain⟨its',w',ht',_⟩:=I.tuple hS'
   obtain⟨p,vs,rfl,hS,r⟩:=rb.tupE;cases rv;obtain⟨bI,w,ht,_⟩:=I.tuple hS
   obtain⟨e,h1,h2⟩:=pi i z k (by unfold jU at he;exact he)
   have hd:depWs i+1<=n:=hn.elim (fun z=>(hb (.inl z)).elim) id
   obtain⟨m,rfl⟩:∃m,n=m+1:=⟨n-1,by omega⟩
   have T:=xF (A:=A) (Em I m) r' r w' w (by omega) (by omega) h1
   have R:=SeqAt.RcAt.tuples (A:=A) (e:=e) ht' ht (by omega) T
   have R2:=SeqAt.RcNeAt.tuples (A:=A) (e:=e) ht' ht (by omega) T
   rw[show its'.toArray.size=i.length by simp[<- w'.length,<- r'.len],show bI.toArray.size=z.length by simp[<- w.length,<- r.len],h2]at R R2
   exact⟨R,R2⟩
  |_=>exact(hb (.inr rfl)).elim
 |_=>exact(hb (.inl rfl)).elim
end
def gP:W->W->List al->R W:=fun x y st=>match jU x y with
 |some k=>if y.dep=0\/x.dep<=64 then .ok (.bl k) st else .bad
 |none=>.bad
theorem fB{X:Cx}{k:Nat}(hr:gB k X.A):r6 X (compareOp .Eq) gP:=⟨fun af s σ H x y v u Q I rv ru ⟨μ,st,wx,wy,S,rx,ry,q⟩=>by
 unfold gP at q
 cases e:jU wx wy with
 |none=>rw[e]at q;exact q.elim
 |some b=>
  rw[e]at q
  simp only at q
  by_cases c:wy.dep=0\/wx.dep<=64
  ·rw[aq c]at q
   have:=hr.units
   exact(En I c rx ry rv ru this e).1 X.prog X.w X.xe _ ⟨.bl b,H,I,rfl,mv S q⟩
  ·rw[ax c]at q;exact q.elim,fun x y st=>by
 unfold gP
 split
 ·split<;>trivial
 ·trivial⟩
def xG:W->W->List al->R W:=fun x y st=>match jU x y with
 |some k=>if y.dep=0\/x.dep<=64 then .ok (.bl (!k)) st else .bad
 |none=>.bad
theorem ui{X:Cx}{k:Nat}(hr:gB k X.A):r6 X (compareOp .NotEq) xG:=⟨fun af s σ H x y v u Q I rv ru ⟨μ,st,wx,wy,S,rx,ry,q⟩=>by
 unfold xG at q
 cases e:jU wx wy with
 |none=>rw[e]at q;exact q.elim
 |some b=>
  rw[e]at q
  simp only at q
  by_cases c:wy.dep=0\/wx.dep<=64
  ·rw[aq c]at q
   have:=hr.units
   exact(En I c rx ry rv ru this e).2 X.prog X.w X.xe _ ⟨.bl (!b),H,I,rfl,mv S q⟩
  ·rw[ax c]at q;exact q.elim,fun x y st=>by
 unfold xG
 split
 ·split<;>trivial
 ·trivial⟩
def rQ(x:W):List W->Option Bool
 |[]=>some false
 |y::ys=>match jU y x,rQ x ys with
  |some a,some b=>some (a||b)
  |_,_=>none
def pM(RJ:Bool)(x y:W)(st:List al):R W:=match y with
 |.str l=>(match x with
  |.str [c]=>.ok (.bl (if RJ then !decide (c∈l)else decide (c∈l))) st
  |_=>.bad)
 |.tup ys=>(match rQ x ys with
  |some k=>if depWs ys<=63 then .ok (.bl (if RJ then !k else k)) st else .bad
  |none=>.bad)
 |.loc n=>(match st[n]? with
  |some (.lst ys)=>(match rQ x ys with
   |some k=>if depWs ys<=63 then .ok (.bl (if RJ then !k else k)) st else .bad
   |none=>.bad)
  |_=>.bad)
 |_=>.bad
theorem xH{x:W}:∀{ys:List W} {k:Bool},rQ x ys=some k->(∀(j:Nat) w,ys[j]?=some w->∃b,jU w x=some b)/\(k=true↔∃(j:Nat) (w:W),ys[j]?=some w/\jU w x=some true)
 |[],k,h=>by
  unfold rQ at h;cases h
  exact⟨fun j w e=>by simp at e,fun z=>(by cases z),fun⟨j,w,e,_⟩=>(by simp at e)⟩
 |y::ys,k,h=>by
  unfold rQ at h
  cases e1:jU y x with
  |none=>rw[e1]at h;simp at h
  |some a=>
   cases e2:rQ x ys with
   |none=>rw[e1,e2]at h;simp at h
   |some b=>
    rw[e1,e2]at h
    simp at h
    obtain⟨q1,q2⟩:=xH e2
    refine⟨fun j w e=>?_,fun z=>?_,fun⟨j,w,e,f⟩=>?_⟩
    ·cases j with
     |zero=>simp at e;subst e;exact⟨a,e1⟩
     |succ j=>exact q1 j w (by simpa using e)
    ·rw[<- h]at z
     cases a with
     |true=>exact⟨0,y,rfl,e1⟩
     |false=>
      obtain⟨j,w,p,q⟩:=q2.mp (by simpa using z)
      exact⟨j+1,w,by simpa using p,q⟩
    ·rw[<- h]
     cases j with
     |zero=>simp at e;subst e;rw[e1]at f;cases f;rfl
     |succ j=>rw[q2.mpr ⟨j,w,by simpa using e,f⟩];simp
theorem mx{X:Cx}{af:List (Addr×Obj)}{σ:St}{H:Hp}{s:Shared}{μ:List Addr}(I:bw X af σ H s){wx:W}{x:V}{v:Value}(rx:bf X.K μ H wx x)(rv:cB x v)(n:Nat){A:Around}(hu:A.units+n<cLine)
  {ys:List W} {vs:List V} {us:List Value} {k:Bool} (hd:depWs ys<=n) (rs:RelWs X.K μ H ys vs) (lD:cw vs us) (ha:rQ wx ys=some k):∃e:Value->Bool,(∀u,u∈us.toArray->SeqAt.EqAt A s u v (e u))/\us.toArray.any e=k:=by
 classical
 obtain⟨q1,q2⟩:=xH ha
 have at':∀(j:Nat) (u:Value),us[j]?=some u->∃w b,ys[j]?=some w/\jU w wx=some b/\SeqAt.EqAt A s u v b:=fun j u e=>by
  have hj:j<ys.length:=by
   have h1:=(ai.mp e).1
   rw[rs.len,lD.length];exact h1
  obtain⟨b,hb⟩:=q1 j ys[j] (ae hj)
  obtain⟨y,g1,r1⟩:=rs.get (ae hj)
  obtain⟨u',f1,v1⟩:=lD.get g1
  rw[e]at f1;cases f1
  exact⟨_,b,ae hj,hb,Em I n ys[j] wx A y x u v b (bh (qC hj) hd) r1 rx v1 rv hu hb⟩
 refine⟨fun u=>decide (∃(j:Nat) (w:W),us[j]?=some u/\ys[j]?=some w/\jU w wx=some true),fun u hu=>?_,?_⟩
 ·by_cases c:∃(j:Nat) (w:W),us[j]?=some u/\ys[j]?=some w/\jU w wx=some true
  ·show SeqAt.EqAt A s u v (decide _)
   rw[aQ c]
   obtain⟨j,w,e1,e2,e3⟩:=c
   obtain⟨w',b,f1,f2,f3⟩:=at' j u e1
   rw[e2]at f1;cases f1
   rw[e3]at f2;cases f2
   exact f3
  ·show SeqAt.EqAt A s u v (decide _)
   rw[aG c]
   obtain⟨j,hj,e⟩:=List.mem_iff_getElem.mp (show u∈us by simpa using hu)
   have e':us[j]?=some u:=by rw[ae hj,e]
   obtain⟨w',b,f1,f2,f3⟩:=at' j u e'
   cases b with
   |false=>exact f3
   |true=>exact absurd ⟨j,w',e',f1,f2⟩ c
 ·rw[List.any_toArray]
  cases k with
  |true=>
   obtain⟨j,w,e1,e2⟩:=q2.mp rfl
   have hj:j<us.length:=by rw[<- lD.length,<- rs.len];exact(ai.mp e1).1
   exact List.any_eq_true.mpr ⟨us[j],cW hj,aQ ⟨j,w,ae hj,e1,e2⟩⟩
  |false=>
   refine kP.mpr fun u _ c=>?_
   obtain⟨j,w,_,e1,e2⟩:=iM c
   have:=q2.mpr ⟨j,w,e1,e2⟩
   cases this
theorem sN{X:Cx}{k:Nat}(hr:gB k X.A):r6 X (compareOp .In) (pM false):=⟨fun af s σ H x y v u Q I rv ru ⟨μ,st,wx,wy,S,rx,ry,q⟩=>by
 have hu:=hr.units
 cases wy with
 |str l=>
  simp only[pM]at q
  split at q
  ·exact Cj af s σ H x y v u Q I rv ru ⟨_,_,rx.strE,ry.strE,mv S q⟩
  ·exact q.elim
 |tup ys=>
  simp only[pM]at q
  cases hk:rQ wx ys with
  |none=>rw[hk]at q;exact q.elim
  |some kk=>
   rw[hk]at q
   simp only at q
   by_cases c:depWs ys<=63
   ·rw[aq c]at q
    obtain⟨p,vs,rfl,hS,r⟩:=ry.tupE
    cases ru
    obtain⟨bI,w,ht,_⟩:=I.tuple hS
    obtain⟨e,he,ha⟩:=mx (A:=X.A.in1) I rx rv 63 (by show X.A.units+1+63<cLine;omega) c r w hk
    exact SeqAt.in_tupleAt e ht he ⟨.bl _,H,I,rfl,by rw[ha];exact mv S q⟩
   ·rw[ax c]at q;exact q.elim
 |loc n=>
  simp only[pM]at q
  cases e1:st[n]? with
  |none=>rw[e1]at q;exact q.elim
  |some cc=>
   rw[e1]at q
   cases cc with
   |lst ys=>
    simp only at q
    cases hk:rQ wx ys with
    |none=>rw[hk]at q;exact q.elim
    |some kk=>
     rw[hk]at q
     simp only at q
     by_cases c:depWs ys<=63
     ·rw[aq c]at q
      obtain⟨a1,g1,vs,k1,r⟩:=S.get e1
      obtain⟨b1,f1,rfl⟩:=ry.locE
      rw[g1]at f1;cases f1
      cases ru
      obtain⟨bI,w,ht,_⟩:=I.list (pN.of k1)
      obtain⟨e,he,ha⟩:=mx (A:=X.A.in1) I rx rv 63 (by show X.A.units+1+63<cLine;omega) c r w hk
      exact SeqAt.in_listAt e ht.isList he ⟨.bl _,H,I,rfl,by rw[ha];exact mv S q⟩
     ·rw[ax c]at q;exact q.elim
   |_=>exact q.elim
 |_=>exact q.elim,fun x y st=>by
 unfold pM
 repeat' split
 all_goals trivial⟩
theorem PU{X:Cx}{k:Nat}(hr:gB k X.A):r6 X (compareOp .NotIn) (pM true):=⟨fun af s σ H x y v u Q I rv ru ⟨μ,st,wx,wy,S,rx,ry,q⟩=>by
 have hu:=hr.units
 cases wy with
 |str l=>
  simp only[pM]at q
  split at q
  ·exact vC af s σ H x y v u Q I rv ru ⟨_,_,rx.strE,ry.strE,mv S q⟩
  ·exact q.elim
 |tup ys=>
  simp only[pM]at q
  cases hk:rQ wx ys with
  |none=>rw[hk]at q;exact q.elim
  |some kk=>
   rw[hk]at q
   simp only at q
   by_cases c:depWs ys<=63
   ·rw[aq c]at q
    obtain⟨p,vs,rfl,hS,r⟩:=ry.tupE
    cases ru
    obtain⟨bI,w,ht,_⟩:=I.tuple hS
    obtain⟨e,he,ha⟩:=mx (A:=X.A.in1) I rx rv 63 (by show X.A.units+1+63<cLine;omega) c r w hk
    exact SeqAt.notIn_tupleAt e ht he ⟨.bl _,H,I,rfl,by rw[ha];exact mv S q⟩
   ·rw[ax c]at q;exact q.elim
 |loc n=>
  simp only[pM]at q
  cases e1:st[n]? with
  |none=>rw[e1]at q;exact q.elim
  |some cc=>
   rw[e1]at q
   cases cc with
   |lst ys=>
    simp only at q
    cases hk:rQ wx ys with
    |none=>rw[hk]at q;exact q.elim
    |some kk=>
     rw[hk]at q
     simp only at q
     by_cases c:depWs ys<=63
     ·rw[aq c]at q
      obtain⟨a1,g1,vs,k1,r⟩:=S.get e1
      obtain⟨b1,f1,rfl⟩:=ry.locE
      rw[g1]at f1;cases f1
      cases ru
      obtain⟨bI,w,ht,_⟩:=I.list (pN.of k1)
      obtain⟨e,he,ha⟩:=mx (A:=X.A.in1) I rx rv 63 (by show X.A.units+1+63<cLine;omega) c r w hk
      exact SeqAt.notIn_listAt e ht.isList he ⟨.bl _,H,I,rfl,by rw[ha];exact mv S q⟩
     ·rw[ax c]at q;exact q.elim
   |_=>exact q.elim
 |_=>exact q.elim,fun x y st=>by
 unfold pM
 repeat' split
 all_goals trivial⟩
section
variable{prog:Program}{w:World}{A:Around}{E:Value->Shared->Prop}{s:Shared}
theorem xI{t sl:Addr}{items:Array Value}{vl vu:Value}{lo hi:Option Int}{Q:Value->Shared->Prop}(ht:IsTup s.heap t items)(hs:s.heap.IsSliceOf sl vl vu .none)(pl:IsPart vl lo)(pu:IsPart vu hi)
  (hw:HT.sIx items.size 0 lo=0/\HT.sIx items.size items.size hi=items.size) (h:Q (.ref t) s):wpAny (model prog w) A (getItem (.ref t) (.ref sl)) Q E s:=by
 obtain⟨os,hos,hcs,OD⟩:=id hs
 have hTs:s.TypeIs (.ref sl) "slice":=⟨os,hos,hcs⟩
 unfold getItem
 try with_reducible refine du ?_
 first|refine aa (am ?_)|skip
 refine aa (wpAny_sequenceKey ht.typeIs (by decide) ?_)
 refine aa (bc (name:=Str.ofString "__getitem__") ht.typeIs dQ
  (bb dQ ht.typeIs entry_tuple_getitem ?_ (args_tuple_getitem _ _)))
 show wpAny _ _ (Builtin.Tuple.tupleItemsOf (.ref t) >>= _) _ _ s
 refine aa (tupleItemsOf_ ht ?_)
 refine aa (jY hTs ?_)
 rw[aq (by decide)]
 refine aa (HT.sliceApplied_gen hs pl pu ?_)
 have hyes:(((HT.sIx items.size 0 lo:Nat):Int)==0&&(1:Int)==1&&(HT.sIx items.size items.size hi-HT.sIx items.size 0 lo)==items.size)=true:=by
  rw[hw.1,hw.2];simp
 show wpAny _ _ (if (((HT.sIx items.size 0 lo:Nat):Int)==0&&(1:Int)==1&&(HT.sIx items.size items.size hi-HT.sIx items.size 0 lo)==items.size)=true then _ else _) _ _ s
 rw[aq hyes]
 unfold Builtin.Tuple.tupleIsExact
 obtain⟨ot,hot,Ru,nt,hdt⟩:=id ht
 refine aa (aa (jY (T:="tuple") ht.typeIs ?_))
 refine am ?_
 rw[aq (by decide)]
 exact aa (gj (am ⟨_,rfl,am h⟩))
end
section
variable{X:Cx}{a b c e o:Expr}{es:List Expr}{pos p p2 gW eJ:Pos}{x name:Str}{j:Nat}{fa fb fc fe:FE}{fs:FA}
def lstOf(st:List al)(n:Nat):Option (List W):=match st[n]? with
 |some (.lst ws)=>some ws
 |some (.ro ws)=>some ws
 |_=>none
theorem gn.lstOf{K:Frag}{mg:Str->Option Value}{μ:List Addr}{st:List al}{H:Hp}(S:gn K mg μ st H){n:Nat}{ws:List W}(h:lstOf st n=some ws):∃a vs,μ[n]?=some a/\pN K H a vs/\RelWs K μ H ws vs:=by
 unfold L2.lstOf at h
 cases e:st[n]? with
 |none=>rw[e]at h;cases h
 |some cc=>
  rw[e]at h
  cases cc with
  |lst zs=>cases h;obtain⟨a,g,vs,k,r⟩:=S.get e;exact⟨a,vs,g,pN.of k,r⟩
  |ro zs=>cases h;obtain⟨a,g,vs,k,r⟩:=S.get e;exact⟨a,vs,g,k.sq,r⟩
  |exc zs=>cases h
  |dct zs=>cases h
  |rod zs=>cases h
  |dcx zs=>cases h
  |tab _ _ _=>cases h
  |pin _ _ _ _=>cases h
  |gone=>cases h
def rR{α:Type}(o:Option α)(k:α->R W):R W:=match o with
 |some a=>k a
 |none=>.bad
@[simp] theorem eQ{α:Type}(a:α)(k:α->R W):rR (some a) k=k a:=rfl
@[simp] theorem PV{α:Type}(k:α->R W):rR none k=.bad:=rfl
def bO(x y:W)(st:List al):R W:=match x,y with
 |.tup ws,.int i=>rR (qw ws i) fun w=>.ok w st
 |.str l,.int i=>if l.length<=lB then rR (qw l i) (fun c=>.ok (.str [c]) st)else .bad
 |.loc n,.int i=>rR (lstOf st n) fun ws=>rR (qw ws i) fun w=>.ok w st
 |_,_=>.bad
theorem Bf{K:Frag}{μ:List Addr}{H:Hp}{ws:List W}{vs:List V}{i:Int}{w:W}(r:RelWs K μ H ws vs)(h:qw ws i=some w):∃v,qw vs i=some v/\bf K μ H w v:=by
 unfold qw at h ⊢
 rw[<- r.len]
 cases e:DQ ws.length i with
 |none=>rw[e]at h;cases h
 |some k=>rw[e]at h;exact r.get h
theorem S7:G_ X (S5 X bO):=fun value slice af s σ H x y v u Q I rv ru ⟨μ,st,wx,wy,S,rx,ry,q⟩ hs=>by
 refine LQ value slice af s σ H x y v u Q I rv ru ?_ hs
 cases wy with
 |int i=>
  cases wx with
  |tup ws=>
   simp only[bO]at q
   cases e1:qw ws i with
   |none=>rw[e1]at q;exact q.elim
   |some w=>
    rw[e1]at q
    obtain⟨p,vs,rfl,hS,r⟩:=rx.tupE
    obtain⟨z,f,g⟩:=Bf r e1
    exact .inr (.inl ⟨p,vs,i,z,rfl,ry.intE,hS,f,q μ z H (aj _) dD.refl S g⟩)
  |str l=>
   simp only[bO]at q
   by_cases c:l.length<=lB
   ·rw[aq c]at q
    cases e1:qw l i with
    |none=>rw[e1]at q;exact q.elim
    |some w=>
     rw[e1]at q
     exact .inr (.inr ⟨_,i,w,rx.strE,ry.intE,by rw[gG];exact nI c,by rw[LZ];exact e1,oh S q⟩)
   ·rw[ax c]at q;exact q.elim
  |loc n=>
   simp only[bO]at q
   cases e0:lstOf st n with
   |none=>rw[e0]at q;exact q.elim
   |some ws=>
    rw[e0]at q
    cases e1:qw ws i with
    |none=>rw[eQ,e1]at q;exact q.elim
    |some w=>
     rw[eQ,e1]at q
     obtain⟨a,vs,g,hS,r⟩:=S.lstOf e0
     obtain⟨b1,f1,rfl⟩:=rx.locE
     rw[g]at f1;cases f1
     obtain⟨z,f,g⟩:=Bf r e1
     exact .inl ⟨_,vs,i,z,rfl,ry.intE,hS,f,q μ z H (aj _) dD.refl S g⟩
  |_=>exact q.elim
 |_=>cases wx<;>exact q.elim
theorem pV{α:Type}{o:Option α}{k:α->R W}(h:∀a,rP (k a)):rP (rR o k):=by
 unfold rR
 split
 ·exact h _
 ·trivial
theorem PX(x y:W)(st:List al):rP (bO x y st):=by
 unfold bO
 split
 ·exact pV fun _=>trivial
 ·split
  ·exact pV fun _=>trivial
  ·trivial
 ·exact pV fun _=>pV fun _=>trivial
 ·trivial
theorem bJ(ha:SE X a fa)(hb:SE X b fb)(hs:A1 b:=by intro _ _;rfl):SE X (.Subscript a b pos) (e2 bO fa fb):=⟨(Pc S7 ha.h hb.h hs).imp fun _ _ _ h=>Ba PX h⟩
abbrev FO:=bW->List al->R (Option Int)
abbrev S8:List Addr->Hp->Option Int->Option Int->Prop:=fun _ _ a b=>a=b
structure SO(X:Cx)(e:Option Expr)(f:FO):Prop where
 h:PO X e (tG X S8 f)
def nL:FO:=fun _ st=>.ok none st
def ng(fa:FE):FO:=fun ρ st=>(fa ρ st).bind fun x st=>match x with
 |.int i=>.ok (some i) st
 |_=>.bad
theorem PO.imp{X:Cx}{e:Option Expr}{t t':TO}(h:PO X e t)(i:∀σ H Q,t' σ H Q->t σ H Q):PO X e t':=fun af s σ H Q I q=>h af s σ H Q I (i _ _ _ q)
theorem my:SO X none nL:=⟨HD.imp fun σ H Q h=>by
 obtain⟨μ,ρ,st,l,h⟩:=h
 exact h μ none H (aj _) dD.refl l.sto rfl⟩
theorem mz(ha:SE X a fa):SO X (some a) (ng fa):=⟨(HE ha.h).imp fun σ H Q h=>by
 obtain⟨μ,ρ,st,l,h⟩:=h
 refine⟨μ,ρ,st,l,RK.bind h l fun μ1 st1 x v H1 p1 x1 l1 q1 h1=>?_⟩
 cases x with
 |int k=>exact⟨k,q1.intE,h1 μ1 _ H1 (aj _) dD.refl l1.sto rfl⟩
 |_=>exact h1.elim⟩
def oE{α:Type}(xs:List α)(lo hi:Option Int):List α:=(xs.drop (HT.sIx xs.length 0 lo)).take (HT.sIx xs.length xs.length hi-HT.sIx xs.length 0 lo)
def Dw(x:W)(lo hi:Option Int)(st:List al):R W:=match x with
 |.tup ws=>.ok (.tup (oE ws lo hi)) st
 |.str l=>if l.length<=lB then .ok (.str (oE l lo hi)) st else .bad
 |.loc n=>rR (lstOf st n) fun ws=>.ok (.loc st.length) (st++[.lst (oE ws lo hi)])
 |_=>.bad
theorem PY(x:W)(lo hi:Option Int)(st:List al):rP (Dw x lo hi st):=by
 unfold Dw rR
 repeat' split
 all_goals trivial
def Dx(fa:FE)(fl fh:FO):FE:=fun ρ st=>(fa ρ st).bind fun x st=>(fl ρ st).bind fun l st=>(fh ρ st).bind fun h st=>Dw x l h st
theorem S9:Ds X (fun x lo hi H Q=>∃μ st wx,gn X.K X.mg μ st H/\bf X.K μ H wx x/\Dv X μ H Q (Dw wx lo hi st)):=by
 intro af s σ H x v vl vu lo hi sl Q I rv hs pl pu ⟨μ,st,wx,S,rx,q⟩
 cases wx with
 |tup ws=>
  obtain⟨p,vs,rfl,hS,r⟩:=rx.tupE
  have hl:=r.len
  by_cases hw:HT.sIx vs.length 0 lo=0/\HT.sIx vs.length vs.length hi=vs.length
  ·cases rv
   obtain⟨bI,w,ht,hz⟩:=I.tuple hS
   have eR:bI.toArray.size=vs.length:=by rw[aZ];exact w.length.symm
   refine⟨"tuple",_,dQ.lookup,ht.typeIs,xI ht hs pl pu (by rw[eR];exact hw) ⟨.ref p,H,I,rfl,?_⟩⟩
   have e:oE ws lo hi=ws:=by
    unfold oE
    rw[hl,hw.1,hw.2,List.drop_zero,Nat.sub_zero,<- hl,cX]
   have q':Dv X μ H Q (.ok (.tup (oE ws lo hi)) st):=q
   rw[e]at q'
   exact q' μ _ H (aj _) dD.refl S rx
  ·refine LN af s σ H _ v vl vu lo hi sl Q I rv hs pl pu ⟨p,vs,rfl,hS,hw,fun p2 hp2=>?_⟩
   have x:=fQ.same (K:=X.K) (cY hp2 (.tup (sE vs lo hi)))
   have rc:RelWs X.K μ H (oE ws lo hi) (sE vs lo hi):=by
    unfold oE sE
    rw[hl]
    exact(r.drop _).take _
   exact q μ _ _ (aj _) x (S.same (cY hp2 _)) (.tupI fQ.new (rc.mono (aj _) x))
 |str l=>
  simp only[Dw]at q
  by_cases c:l.length<=lB
  ·rw[aq c]at q
   exact L3 af s σ H _ v vl vu lo hi sl Q I rv hs pl pu ⟨l,rx.strE,nI c,oh S q⟩
  ·rw[ax c]at q;exact q.elim
 |loc n=>
  simp only[Dw]at q
  cases e0:lstOf st n with
  |none=>rw[e0]at q;exact q.elim
  |some ws=>
   rw[e0]at q
   obtain⟨a,vs,g,hS,r⟩:=S.lstOf e0
   obtain⟨b1,f1,rfl⟩:=rx.locE
   rw[g]at f1;cases f1
   have hl:=r.len
   refine HI af s σ H _ v vl vu lo hi sl Q I rv hs pl pu ⟨_,vs,rfl,hS,fun p2 hp2=>?_⟩
   have rc:RelWs X.K μ H (oE ws lo hi) (sE vs lo hi):=by
    unfold oE sE
    rw[hl]
    exact(r.drop _).take _
   exact q (μ++[p2]) _ _ (aR _ _) (fQ.same (cY hp2 _)) (S.newLst hp2 rc) (qB S)
 |_=>exact q.elim
theorem zO{lo hi:Option Expr}{fl fh:FO}(ha:SE X a fa)(hl:SO X lo fl)(hh:SO X hi fh):SE X (.Subscript a (.Slice lo hi none p2) pos) (Dx fa fl fh):=⟨(DP S9 ha.h hl.h hh.h).imp fun σ H Q h=>by
 obtain⟨μ,ρ,st,l,h⟩:=h
 refine⟨μ,ρ,st,l,RK.bind h l fun μ1 st1 x v H1 p1 x1 l1 q1 h1=>⟨μ1,ρ,st1,l1,RK.bind h1 l1 fun μ2 dw y u H2 p2 x2 l2 q2 h2=>⟨μ2,ρ,dw,l2,RK.bind h2 l2 fun μ3 jB z t H3 p3 x3 l3 q3 h3=>?_⟩⟩⟩
 cases q2;cases q3
 exact⟨μ3,jB,x,l3.sto,(q1.mono p2 x2).mono p3 x3,qA h3 (PY _ _ _ _)⟩⟩
def T'(X:Cx)(F:List W->List al->R W):List V->Hp->VK->Prop:=fun vs H Q=>∃μ st ws,gn X.K X.mg μ st H/\RelWs X.K μ H ws vs/\Dv X μ H Q (F ws st)
structure oQ(X:Cx)(f:Value)(F:List W->List al->R W):Prop where
 h:hV X f (T' X F)
 n:∀ws st,rP (F ws st)
def cE(F:List W->List al->R W)(fs:FA):FE:=fun ρ st=>(fs ρ st).bind fun ws st=>F ws st
theorem Bg{F:List W->List al->R W}{σ:St}{H:Hp}{Q:VK}(n:∀ws st,rP (F ws st))(h:tE X (cE F fs) σ H Q):SF (T' X F) (PD X fs) σ H Q:=by
 obtain⟨μ,ρ,st,l,h⟩:=h
 exact⟨μ,ρ,st,l,RK.bind h l fun μ1 st1 x v H1 p1 x1 l1 q1 h1=>⟨μ1,st1,x,l1.sto,q1,qA h1 (n _ _)⟩⟩
theorem cG{id:String}{F:List W->List al->R W}(hc:oQ X (.builtin id) F)(hm:X.mg x=none)(hv:bootBuiltins x=some (.builtin id))(ha:SA X (e::es) fs)(hg:Gl X x:=by rfl)(hn:x ≠ "__name__":=by decide)(y8:(x==("__debug__":Str))=false:=by decide)
  (he:starEach (e::es) X.env=(false,eval e X.env)::starEach es X.env:=by rfl) (lq:(backTo pos (starEach es X.env)).any (·.1)=false:=by rfl):SE X (.Call (.Name x p) (e::es) [] pos) (cE F fs):=⟨(wY hc.h hg hm hv ha.h hn y8 he lq).imp fun _ _ _ h=>Bg hc.n h⟩
theorem hW{T:String}{F:List W->List al->R W}(hc:oQ X (.type T) F)(hm:X.mg x=none)(hv:bootBuiltins x=some (.type T))(ha:SA X (e::es) fs)(hg:Gl X x:=by rfl)(hn:x ≠ "__name__":=by decide)(y8:(x==("__debug__":Str))=false:=by decide)
  (he:starEach (e::es) X.env=(false,eval e X.env)::starEach es X.env:=by rfl) (lq:(backTo pos (starEach es X.env)).any (·.1)=false:=by rfl):SE X (.Call (.Name x p) (e::es) [] pos) (cE F fs):=⟨(Cb hc.h hg hm hv ha.h hn y8 he lq).imp fun _ _ _ h=>Bg hc.n h⟩
theorem RelWs.two{K:Frag}{μ:List Addr}{H:Hp}{a b:W}{vs:List V}(r:RelWs K μ H [a,b] vs):∃x y,vs=[x,y]/\bf K μ H a x/\bf K μ H b y:=by
 obtain⟨x,xs,rfl,rx,rn⟩:=r.consE
 obtain⟨y,ys,rfl,ry,rm⟩:=rn.consE
 rw[rm.nilE];exact⟨x,y,rfl,rx,ry⟩
theorem RelWs.one{K:Frag}{μ:List Addr}{H:Hp}{a:W}{vs:List V}(r:RelWs K μ H [a] vs):∃x,vs=[x]/\bf K μ H a x:=by
 obtain⟨x,xs,rfl,rx,rn⟩:=r.consE
 rw[rn.nilE];exact⟨x,rfl,rx⟩
def e7(ws:List W)(st:List al):R W:=match ws with
 |[.tup xs]=>.ok (.int xs.length) st
 |[.str l]=>if l.length<=lB then .ok (.int l.length) st else .bad
 |[.loc n]=>rR (lstOf st n) fun xs=>.ok (.int xs.length) st
 |_=>.bad
theorem fX:oQ X (.builtin "len") e7:=⟨fun af s σ H vs us Q I rv ⟨μ,st,ws,S,r,q⟩=>by
 unfold e7 at q
 split at q
 ·obtain⟨x,rfl,rx⟩:=r.one
  obtain⟨p,ys,rfl,hS,r'⟩:=rx.tupE
  exact pO af s σ H _ us Q I rv ⟨p,ys,rfl,.inr hS,by rw[<- r'.len];exact jT S q⟩
 ·obtain⟨x,rfl,rx⟩:=r.one
  split at q
  ·rename_i c
   exact vA af s σ H _ us Q I rv ⟨_,by rw[rx.strE],by rw[gG];exact nI c,by rw[gG];exact jT S q⟩
  ·exact q.elim
 ·obtain⟨x,rfl,rx⟩:=r.one
  unfold rR at q
  split at q
  ·rename_i ys e0
   obtain⟨a,vs,g,hS,r'⟩:=S.lstOf e0
   obtain⟨b1,f1,rfl⟩:=rx.locE
   rw[g]at f1;cases f1
   exact pO af s σ H _ us Q I rv ⟨_,vs,rfl,.inl hS,by rw[<- r'.len];exact jT S q⟩
  ·exact q.elim
 ·exact q.elim,fun ws st=>by
 unfold e7 rR
 repeat' split
 all_goals trivial⟩
def Cz(ws:List W)(st:List al):R W:=match ws with
 |[.int i,.int j]=>.ok (.int (if j>i then j else i)) st
 |_=>.bad
def CA(ws:List W)(st:List al):R W:=match ws with
 |[.int i,.int j]=>.ok (.int (if j<i then j else i)) st
 |_=>.bad
theorem PZ(hc:X.calm=true:=by rfl):oQ X (.builtin "max") Cz:=⟨fun af s σ H vs us Q I rv ⟨μ,st,ws,S,r,q⟩=>by
 unfold Cz at q
 split at q
 ·obtain⟨x,y,rfl,rx,ry⟩:=r.two
  exact B9 hc af s σ H _ us Q I rv ⟨_,_,by rw[rx.intE,ry.intE],jT S q⟩
 ·exact q.elim,fun ws st=>by unfold Cz;split<;>trivial⟩
theorem JM(hc:X.calm=true:=by rfl):oQ X (.builtin "min") CA:=⟨fun af s σ H vs us Q I rv ⟨μ,st,ws,S,r,q⟩=>by
 unfold CA at q
 split at q
 ·obtain⟨x,y,rfl,rx,ry⟩:=r.two
  exact B_ hc af s σ H _ us Q I rv ⟨_,_,by rw[rx.intE,ry.intE],jT S q⟩
 ·exact q.elim,fun ws st=>by unfold CA;split<;>trivial⟩
def hG(ws:List W)(st:List al):R W:=match ws with
 |[.tup xs]=>.ok (.tup xs) st
 |[.loc n]=>rR (lstOf st n) fun xs=>.ok (.tup xs) st
 |_=>.bad
theorem jV:oQ X (.type "tuple") hG:=⟨fun af s σ H vs us Q I rv ⟨μ,st,ws,S,r,q⟩=>by
 unfold hG at q
 split at q
 ·obtain⟨x,rfl,rx⟩:=r.one
  obtain⟨p,ys,rfl,hS,r'⟩:=id rx.tupE
  exact wZ af s σ H _ us Q I rv ⟨p,ys,rfl,hS,q μ _ H (aj _) dD.refl S rx⟩
 ·obtain⟨x,rfl,rx⟩:=r.one
  unfold rR at q
  split at q
  ·rename_i ys e0
   obtain⟨a,vs,g,hS,r'⟩:=S.lstOf e0
   obtain⟨b1,f1,rfl⟩:=rx.locE
   rw[g]at f1;cases f1
   refine xc af s σ H _ us Q I rv ⟨_,vs,rfl,hS,fun l H2 hl e=>?_⟩
   subst e
   have x:=fQ.same (K:=X.K) (cY hl (.tup vs))
   exact q μ _ _ (aj _) x (S.same (cY hl _)) (.tupI fQ.new (r'.mono (aj _) x))
  ·exact q.elim
 ·exact q.elim,fun ws st=>by
 unfold hG rR
 repeat' split
 all_goals trivial⟩
def P0(ws:List W)(st:List al):R W:=match ws with
 |[.tup xs]=>.ok (.loc st.length) (st++[.lst xs])
 |[.loc n]=>rR (lstOf st n) fun xs=>.ok (.loc st.length) (st++[.lst xs])
 |_=>.bad
def Eo(ws:List W)(st:List al):R W:=match ws with
 |[.int i]=>.ok (.int i) st
 |[.bl k]=>.ok (.int (if k then 1 else 0)) st
 |_=>.bad
theorem JN:oQ X (.type "int") Eo:=⟨fun af s σ H vs us Q I rv ⟨μ,st,ws,S,r,q⟩=>by
 unfold Eo at q
 split at q
 ·obtain⟨x,rfl,rx⟩:=r.one
  exact ux af s σ H _ us Q I rv (.inl ⟨_,by rw[rx.intE],jT S q⟩)
 ·obtain⟨x,rfl,rx⟩:=r.one
  exact ux af s σ H _ us Q I rv (.inr ⟨_,by rw[rx.blE],jT S q⟩)
 ·exact q.elim,fun ws st=>by unfold Eo;split<;>trivial⟩
end
section
variable{X:Cx}{a b c e o:Expr}{es:List Expr}{pos p p2 gW eJ:Pos}{x name:Str}{j:Nat}{fa fb fc fe:FE}{fs:FA}{ft:FT}{st1:Stmt}{sr sa sb:List Stmt}{g g':FS}
def aT(g g':FS):FS:=fun ρ st=>match g ρ st with
 |.nx ρ' bu=>g' ρ' bu
 |r=>r
def b_:FS:=fun ρ st=>.nx ρ st
theorem bH:SB X [] b_:=⟨Hm.imp fun D σ H h=>by
 obtain⟨μ,ρ,st,l,h⟩:=h
 exact h μ σ H (aj _) dD.refl l⟩
theorem aF(h1:SS X st1 g):SB X [st1] g:=⟨Ho h1.h⟩
theorem aw(h1:SS X st1 g)(h2:SB X sr g'):SB X (st1::sr) (aT g g'):=⟨(wW h1.h h2.h).imp fun D σ H h=>by
 obtain⟨μ,ρ,st,l,h⟩:=h
 refine⟨μ,ρ,st,l,?_⟩
 unfold aT at h
 cases e:g ρ st with
 |nx ρ' bu=>rw[e]at h;exact fun μ' σ' H' p x l'=>⟨μ',ρ',bu,l',SK.mono h p x⟩
 |rt w bu=>rw[e]at h;exact h
 |bk ρ' bu=>rw[e]at h;exact h
 |ct ρ' bu=>rw[e]at h;exact h
 |ex c ρ' bu=>rw[e]at h;exact h
 |bad=>rw[e]at h;exact h⟩
def R.stmt{α:Type}(r:R α)(ρ:bW)(k:α->List al->RS):RS:=match r with
 |.ok a st=>k a st
 |.ex c st=>.ex c ρ st
 |.bad=>.bad
@[simp] theorem R.stmt_ok{α:Type}(a:α)(st:List al)(ρ:bW)(k:α->List al->RS):(R.ok a st).stmt ρ k=k a st:=rfl
@[simp] theorem R.stmt_ex{α:Type}(c:Str)(st:List al)(ρ:bW)(k:α->List al->RS):(R.ex c st:R α).stmt ρ k=.ex c ρ st:=rfl
@[simp] theorem R.stmt_bad{α:Type}(ρ:bW)(k:α->List al->RS):(R.bad:R α).stmt ρ k=.bad:=rfl
theorem RK.stmt{α β:Type}{rel:List Addr->Hp->α->β->Prop}{μ:List Addr}{ρ:bW}{st:List al}{σ:St}{H:Hp}{D:vp}{r:R α}{k:α->List al->RS}{T:β->Hp->Prop}
  (h:SK X μ H D (r.stmt ρ k)) (l:Rl X μ ρ st σ H)
  (hk:∀μ' bu x v H',μ <+: μ'->dD X.K H H'->Rl X μ' ρ bu σ H'->rel μ' H' x v->SK X μ' H' D (k x bu)->T v H'):RK X rel μ σ H T r:=by
 cases r with
 |ok a bu=>exact fun μ' b H' p x s q=>hk μ' bu a b H' p x (l.to p x s) q (SK.mono h p x)
 |ex c bu=>exact XS.toE h l
 |bad=>exact h
def gp(fe:FE):FS:=fun ρ st=>(fe ρ st).stmt ρ fun _ st=>.nx ρ st
theorem fS(he:SE X e fe)(hs:swapsWith e none pos.line X.env=pure false:=by rfl):SS X (.Expr e pos) (gp fe):=⟨(Hq he.h hs).imp fun D σ H h=>by
 obtain⟨μ,ρ,st,l,h⟩:=h
 exact⟨μ,ρ,st,l,RK.stmt h l fun μ1 st1 x v H1 p1 x1 l1 q1 h1=>h1 μ1 σ H1 (aj _) dD.refl l1⟩⟩
def cO(fe:FE):FS:=fun ρ st=>(fe ρ st).stmt ρ fun w st=>.rt w st
theorem a_(he:SE X e fe):SS X (.Return (some e) pos) (cO fe):=⟨(Lm he.h).imp fun D σ H h=>by
 obtain⟨μ,ρ,st,l,h⟩:=h
 exact⟨μ,ρ,st,l,RK.stmt h l fun μ1 st1 x v H1 p1 x1 l1 q1 h1=>h1 μ1 v H1 (aj _) dD.refl l1.sto q1⟩⟩
def gF(t:FT)(g g':FS):FS:=fun ρ st=>(t ρ st).stmt ρ fun k st=>if k then g ρ st else g' ρ st
theorem cF(hc:ST X c ft)(ha:SB X sa g)(hb:SB X sb g'):SS X (.If c sa sb pos) (gF ft g g'):=⟨(OV hc.h ha.h hb.h).imp fun D σ H h=>by
 obtain⟨μ,ρ,st,l,h⟩:=h
 refine⟨μ,ρ,st,l,RK.stmt h l fun μ1 st1 x v H1 p1 x1 l1 q1 h1=>?_⟩
 cases q1
 cases x with
 |true=>exact⟨μ1,ρ,st1,l1,h1⟩
 |false=>exact⟨μ1,ρ,st1,l1,h1⟩⟩
abbrev FG:=W->bW->Option bW
abbrev JO:=List W->bW->Option bW
def RW(X:Cx)(f:FG):TG:=fun v σ H Q=>∃μ ρ st w ρ',Rl X μ ρ st σ H/\bf X.K μ H w v/\f w ρ=some ρ'/\∀σ',Rl X μ ρ' st σ' H->Q σ' H
def S_(X:Cx)(f:JO):Hr:=fun vs σ H Q=>∃μ ρ st ws ρ',Rl X μ ρ st σ H/\RelWs X.K μ H ws vs/\f ws ρ=some ρ'/\∀σ',Rl X μ ρ' st σ' H->Q σ' H
theorem PG.imp{X:Cx}{e:Expr}{t t':TG}(h:PG X e t)(i:∀v σ H Q,t' v σ H Q->t v σ H Q):PG X e t':=fun af s σ H x u Q I r q=>h af s σ H x u Q I r (i _ _ _ _ q)
theorem Jv.imp{X:Cx}{e:List Expr}{t t':Hr}(h:Jv X e t)(i:∀v σ H Q,t' v σ H Q->t v σ H Q):Jv X e t':=fun af s σ H x u Q I r q=>h af s σ H x u Q I r (i _ _ _ _ q)
structure SG(X:Cx)(e:Expr)(f:FG):Prop where
 h:PG X e (RW X f)
structure RX(X:Cx)(e:List Expr)(f:JO):Prop where
 h:Jv X e (S_ X f)
def hZ(i:Nat):FG:=fun w ρ=>some (ρ.set i (some w))
theorem Bh{i:Nat}(hN:X.N.Nodup)(hi:X.N[i]?=some x)(hx:DA X.env.scope x)(hf:X.fn x=true\/X.env.scope.names.lookup x=some .local:=by first|exact .inl rfl|exact .inr rfl|assumption):SG X (.Name x pos) (hZ i):=⟨(Ht hN hi hx hf).imp fun v σ H Q h=>by
 obtain⟨μ,ρ,st,w,ρ',l,r,e,q⟩:=h
 cases e
 exact q _ ⟨pS r i l.env,l.sto⟩⟩
def xJ:JO:=fun ws ρ=>match ws with
 |[]=>some ρ
 |_=>none
def k9(f:FG)(fs:JO):JO:=fun ws ρ=>match ws with
 |w::ws=>(f w ρ).bind fun ρ'=>fs ws ρ'
 |[]=>none
theorem r9:RX X [] xJ:=⟨Hu.imp fun vs σ H Q h=>by
 obtain⟨μ,ρ,st,ws,ρ',l,r,e,q⟩:=h
 cases ws with
 |nil=>cases e;exact⟨r.nilE,q σ l⟩
 |cons _ _=>cases e⟩
theorem jg{f:FG}{fs:JO}(h1:SG X e f)(h2:RX X es fs)(hs:(assignEach (e::es) X.env).map (·.2)=assign e X.env::(assignEach es X.env).map (·.2):=by rfl):RX X (e::es) (k9 f fs):=⟨(DF h1.h h2.h hs).imp fun vs σ H Q h=>by
 obtain⟨μ,ρ,st,ws,ρ',l,r,e,q⟩:=h
 cases ws with
 |nil=>cases e
 |cons w ws=>
  obtain⟨x,xs,rfl,rx,rs⟩:=r.consE
  simp only[k9]at e
  cases e1:f w ρ with
  |none=>rw[e1]at e;cases e
  |some ρ1=>
   rw[e1]at e
   exact⟨x,xs,rfl,μ,ρ,st,w,ρ1,l,rx,e1,fun σ1 l1=>⟨μ,ρ1,st,ws,ρ',l1,rs,e,q⟩⟩⟩
def Oy(n:Nat)(fs:JO):FG:=fun w ρ=>match w with
 |.tup ws=>if ws.length=n then fs ws ρ else none
 |_=>none
theorem vI{k n:Nat}{fs:JO}(hc:X.calm=true)(h:RX X es fs)(hn:(assignEach es X.env).length=n:=by rfl)(mi:(assignEach es X.env).findIdx? (·.1)=none:=by rfl):SG X (.Tuple es k pos) (Oy n fs):=⟨(Lo hc h.h hn mi).imp fun v σ H Q h=>by
 obtain⟨μ,ρ,st,w,ρ',l,r,e,q⟩:=h
 cases w with
 |tup ws=>
  obtain⟨p,vs,rfl,hS,rs⟩:=r.tupE
  simp only[Oy]at e
  by_cases c:ws.length=n
  ·rw[aq c]at e
   exact⟨p,vs,rfl,hS,by rw[<- rs.len];exact c,μ,ρ,st,ws,ρ',l,rs,e,q⟩
  ·rw[ax c]at e;cases e
 |_=>cases e⟩
def CB(fe:FE)(f:FG):FS:=fun ρ st=>(fe ρ st).stmt ρ fun w st=>match f w ρ with
 |some ρ'=>.nx ρ' st
 |none=>.bad
def bE(i:Nat)(fe:FE):FS:=fun ρ st=>(fe ρ st).stmt ρ fun w st=>.nx (ρ.set i (some w)) st
theorem Me{i:Nat}{iF:Pos}(hN:X.N.Nodup)(hi:X.N[i]?=some x)(hx:DA X.env.scope x)(he:SE X e fe)(hs:swapsWith e (some (.Name x iF)) pos.line X.env=pure false:=by rfl)(hf:X.fn x=true\/X.env.scope.names.lookup x=some .local:=by first|exact .inl rfl|exact .inr rfl|assumption) :
  SS X (.Assign [.Name x iF] e pos) (bE i fe):=⟨(Lr hN hi hx he.h hs hf).imp fun D σ H h=>by
 obtain⟨μ,ρ,st,l,h⟩:=h
 exact⟨μ,ρ,st,l,RK.stmt h l fun μ1 st1 x v H1 p1 x1 l1 q1 h1=>h1 μ1 _ H1 (aj _) dD.refl ⟨pS q1 i l1.env,l1.sto⟩⟩⟩
def Ep(x i v:W)(st:List al):Option (List al):=match x,i with
 |.loc n,.int k=>(match st[n]? with
  |some (.lst ws)=>(DQ ws.length k).map fun j=>st.set n (.lst (ws.set j v))
  |_=>none)
 |_,_=>none
def Er(fo fi fe:FE)(f:W->W->W->List al->Option (List al)):FS:=fun ρ st=>(fe ρ st).stmt ρ fun v st=>(fo ρ st).stmt ρ fun x st=>(fi ρ st).stmt ρ fun i st=>match f x i v st with
 |some bu=>.nx ρ bu
 |none=>.bad
def JP(X:Cx)(f:W->W->W->List al->Option (List al)):Hs:=fun o i v H Q=>∃μ st wo wi wv bu,gn X.K X.mg μ st H/\bf X.K μ H wo o/\bf X.K μ H wi i/\bf X.K μ H wv v/\f wo wi wv st=some bu/\∀H',dD X.K H H'->gn X.K X.mg μ bu H'->Q H'
theorem Mf{f:W->W->W->List al->Option (List al)}{i:Expr}{iF:Pos}{fi:FE}{fo:FE}(TJ:Ln X (JP X f))(he:SE X e fe)(ho:SE X o fo)(hi:SE X i fi)
  (ha:∀v,assign (.Subscript o i iF) X.env v=(do
   let ov <- holding [v] (eval o X.env)
   let iv <- holding [v,ov] (eval i X.env)
   standAt iF
   holding [v,ov,iv] (setItem ov iv v)
   release [v,ov,iv] []):=by intro _;rfl)
  (hs:swapsWithSole [.Subscript o i iF] e pos.line X.env=pure false:=by rfl) (hw:swappedStores [.Subscript o i iF] e X.env=pure none:=by rfl) (h1:(assignEach [.Subscript o i iF] X.env).map (·.2)=[assign (.Subscript o i iF) X.env]:=by rfl) :
  SS X (.Assign [.Subscript o i iF] e pos) (Er fo fi fe f):=⟨(Lq he.h (Lp ho.h hi.h TJ ha) hs hw h1).imp fun D σ H h=>by
 obtain⟨μ,ρ,st,l,h⟩:=h
 refine⟨μ,ρ,st,l,RK.stmt h l fun μ1 st1 v vv H1 p1 x1 l1 q1 h1=>⟨μ1,ρ,st1,l1,RK.stmt h1 l1 fun μ2 dw x xv H2 p2 x2 l2 q2 h2=>⟨μ2,ρ,dw,l2,RK.stmt h2 l2 fun μ3 jB i iv H3 p3 x3 l3 q3 h3=>?_⟩⟩⟩
 cases e1:f x i v jB with
 |none=>rw[e1]at h3;exact h3.elim
 |some bu=>
  rw[e1]at h3
  exact⟨μ3,jB,x,i,v,bu,l3.sto,q2.mono p3 x3,q3,(q1.mono p2 x2).mono p3 x3,e1,fun H' xx S'=>h3 μ3 σ H' (aj _) xx (l3.to (aj _) xx S')⟩⟩
end
def jh(st:List al):Option (Nat×List W)->Prop
 |none=>True
 |some (n,ws)=>lstOf st n=some ws
abbrev CC:=List W×Option (Nat×List W)
abbrev FI:=bW->List al->R CC
def zP(X:Cx)(J:It)(k:CC)(μ:List Addr)(H:Hp):Prop:=
 ∀(i:Nat) μ' bu H',μ <+: μ'->dD X.K H H'->gn X.K X.mg μ' bu H'->jh bu k.2 ->
  (∀w,k.1[i]?=some w->J.go i H'/\∀x H'',J.yld i H' x H''->dD X.K H' H''/\gn X.K X.mg μ' bu H''/\bf X.K μ' H'' w x)/\(k.1.length<=i->J.stop i H')
abbrev P1(X:Cx):List Addr->Hp->CC->It->Prop:=fun μ H k J=>zP X J k μ H
structure SI(X:Cx)(tg it:Expr)(f:FI):Prop where
 h:PI X tg it (fun σ H R=>tG X (P1 X) f σ H R)
theorem PI.imp{X:Cx}{tg it:Expr}{t t':TI}(h:PI X tg it t)(i:∀σ H Q,t' σ H Q->t σ H Q):PI X tg it t':=fun af s σ H Q I q=>h af s σ H Q I (i _ _ _ q)
open Classical in
def sO(f:FG)(body:FS)(ck:Option (Nat×List W)):List W->FS
 |[],ρ,st=>if jh st ck then .nx ρ st else .bad
 |w::ws,ρ,st=>if jh st ck then(match f w ρ with
  |none=>.bad
  |some ρ'=>(match body ρ' st with
   |.nx ρ2 dw=>sO f body ck ws ρ2 dw
   |.ct ρ2 dw=>sO f body ck ws ρ2 dw
   |.bk ρ2 dw=>.nx ρ2 dw
   |.rt w dw=>.rt w dw
   |.ex c ρ2 dw=>.ex c ρ2 dw
   |.bad=>.bad))else .bad
def gC(fi:FI)(f:FG)(body:FS):FS:=fun ρ st=>(fi ρ st).stmt ρ fun k st=>sO f body k.2 k.1 ρ st
section
variable{X:Cx}{a b c e o tg eh:Expr}{es:List Expr}{pos p p2:Pos}{fa fb fe:FE}{fs:FA}{ft:FT}{body:List Stmt}{g:FS}{f:FG}{fi:FI}
theorem dP(hi:SI X tg eh fi)(hg:SG X tg f)(hb:SB X body g)(hc:X.calm=true:=by rfl)(hp:PassesOwn (model X.prog X.w) X.A X.env X.xe:=by passes_own)(hs:∀x,foldedSetIterable eh X.env x=pure x:=by intro _;rfl):SS X (.For tg eh body [] pos) (gC fi f g):=⟨(Lu hp hc hi.h hg.h hb.h hs).imp fun D σ H h=>by
 obtain⟨μ,ρ,st,l,h⟩:=h
 refine⟨μ,ρ,st,l,RK.stmt h l fun μ1 st1 k J H1 p1 x1 l1 wk h1=>?_⟩
 refine⟨fun i m σ' H'=>i<=k.1.length/\m=k.1.length-i/\∃μ' ρ' bu,μ1 <+: μ'/\dD X.K H1 H'/\Rl X μ' ρ' bu σ' H'/\SK X μ' H' D (sO f g k.2 (k.1.drop i) ρ' bu),
  ⟨_,ca _,rfl,μ1,ρ,st1,aj _,dD.refl,l1,h1⟩,?_⟩
 rintro i m σ' H' ⟨hi,rfl,μ',ρ',bu,pm,xm,lm,hm⟩
 by_cases hlt:i<k.1.length
 ·rw[fC hlt]at hm
  unfold sO at hm
  by_cases ck:jh bu k.2
  ·rw[aq ck]at hm
   obtain⟨go,yld⟩:=(wk i μ' bu H' pm xm lm.sto ck).1 _ (ae hlt)
   cases hf:f k.1[i] ρ' with
   |none=>rw[hf]at hm;exact hm.elim
   |some ρ2=>
    rw[hf]at hm
    simp only at hm
    refine .inr ⟨go,fun σ2 H2=>∃μ2 ρ3 dw,μ' <+: μ2/\dD X.K H' H2/\Rl X μ2 ρ3 dw σ2 H2/\SK X μ2 H2 D (sO f g k.2 (k.1.drop (i+1)) ρ3 dw),fun σ2 H2 ⟨μ2,ρ3,dw,q1,q2,q3,q4⟩=>
     ⟨_,by omega,hlt,rfl,μ2,ρ3,dw,pm.trans q1,xm.trans q2,q3,q4⟩,fun x H2 hy=>?_⟩
    obtain⟨y1,y2,y3⟩:=yld x H2 hy
    refine⟨μ',ρ',bu,k.1[i],ρ2,lm.to (aj _) y1 y2,y3,hf,fun σ2 l2=>⟨μ',ρ2,bu,l2,?_⟩⟩
    cases e:g ρ2 bu with
    |nx ρ3 jB=>rw[e]at hm;exact fun μ4 σ4 H4 p4 x4 l4=>⟨μ4,ρ3,jB,p4,y1.trans x4,l4,SK.mono hm p4 (y1.trans x4)⟩
    |ct ρ3 jB=>rw[e]at hm;exact fun μ4 σ4 H4 p4 x4 l4=>⟨μ4,ρ3,jB,p4,y1.trans x4,l4,SK.mono hm p4 (y1.trans x4)⟩
    |bk ρ3 jB=>rw[e]at hm;exact fun μ4 σ4 H4 p4 x4 l4=>hm μ4 σ4 H4 p4 (y1.trans x4) l4
    |rt w jB=>rw[e]at hm;exact fun μ4 v4 H4 p4 x4=>hm μ4 v4 H4 p4 (y1.trans x4)
    |ex c ρ3 jB=>rw[e]at hm;exact XS.mono hm (aj _) y1
    |bad=>rw[e]at hm;exact hm
  ·rw[ax ck]at hm;exact hm.elim
 ·have hi':i=k.1.length:=by omega
  subst hi'
  rw[mX (ay _)]at hm
  unfold sO at hm
  by_cases ck:jh bu k.2
  ·rw[aq ck]at hm
   exact .inl ⟨(wk _ μ' bu H' pm xm lm.sto ck).2 (ay _),hm μ' σ' H' (aj _) dD.refl lm⟩
  ·rw[ax ck]at hm;exact hm.elim⟩
def fY(t:FT)(body:FS):Nat->FS
 |0,_,_=>.bad
 |n+1,ρ,st=>(t ρ st).stmt ρ fun k st=>if k then(match body ρ st with
   |.nx ρ2 dw=>fY t body n ρ2 dw
   |.ct ρ2 dw=>fY t body n ρ2 dw
   |.bk ρ2 dw=>.nx ρ2 dw
   |.rt w dw=>.rt w dw
   |.ex c ρ2 dw=>.ex c ρ2 dw
   |.bad=>.bad)else .nx ρ st
open Classical in
def pj(t:FT)(body:FS):FS:=fun ρ st=>if h:∃n,fY t body n ρ st≠.bad then fY t body h.choose ρ st else .bad
theorem nM(t:FT)(g:FS):∀(n:Nat) (ρ:bW) (st:List al),fY t g n ρ st≠.bad->fY t g (n+1) ρ st=fY t g n ρ st
 |0,_,_,h=>absurd rfl h
 |n+1,ρ,st,h=>by
  unfold fY at h ⊢
  cases e:t ρ st with
  |ex c st1=>rfl
  |bad=>rfl
  |ok k st1=>
   rw[e]at h
   simp only[R.stmt_ok]at h ⊢
   cases k with
   |false=>rfl
   |true=>
    simp only[h_]at h ⊢
    cases e2:g ρ st1 with
    |nx ρ2 dw=>rw[e2]at h;exact nM t g n ρ2 dw h
    |ct ρ2 dw=>rw[e2]at h;exact nM t g n ρ2 dw h
    |_=>rfl
theorem uL{t:FT}{g:FS}{n m:Nat}{ρ:bW}{st:List al}(h:fY t g n ρ st≠.bad)(hm:n<=m):fY t g m ρ st=fY t g n ρ st:=by
 induction hm with
 |refl=>rfl
 |@step m _ ih=>rw[nM t g m ρ st (by rw[ih];exact h),ih]
theorem CD{t:FT}{g:FS}{n:Nat}{ρ:bW}{st:List al}{r:RS}(h:fY t g n ρ st=r)(hr:r≠.bad):pj t g ρ st=r:=by
 have hx:∃n,fY t g n ρ st≠.bad:=⟨n,by rw[h];exact hr⟩
 unfold pj
 rw[mY hx]
 have c:=hx.choose_spec
 have a:=uL c (Nat.le_max_left hx.choose n)
 have b:=uL (n:=n) (m:=max hx.choose n) (by rw[h];exact hr) (Nat.le_max_right _ _)
 rw[<- a,b,h]
theorem xK{X:Cx}{t:FT}{g:FS}{D:vp}:∀(n:Nat) (σ:St) (H:Hp) (μ:List Addr) (ρ:bW) (st:List al),Rl X μ ρ st σ H->SK X μ H D (fY t g n ρ st)->DG (tT X t) (PF X g) D σ H:=by
 intro n σ H μ ρ st l h
 refine⟨fun m σ' H'=>∃μ' ρ' bu,Rl X μ' ρ' bu σ' H'/\SK X μ' H' D (fY t g m ρ' bu),⟨n,μ,ρ,st,l,h⟩,?_⟩
 rintro m σ' H' ⟨μ',ρ',bu,l',h'⟩
 cases m with
 |zero=>exact h'.elim
 |succ m=>
  refine⟨μ',ρ',bu,l',RK.stmt h' l' fun μ1 st1 k v H1 p1 x1 l1 q1 h1=>?_⟩
  cases q1
  cases k with
  |false=>exact h1 μ1 σ' H1 (aj _) dD.refl l1
  |true=>
   refine⟨fun σ2 H2=>∃μ2 ρ2 dw,Rl X μ2 ρ2 dw σ2 H2/\SK X μ2 H2 D (fY t g m ρ2 dw),fun σ2 H2 z=>⟨m,dB m,z⟩,μ1,ρ',st1,l1,?_⟩
   simp only[h_]at h1
   cases e:g ρ' st1 with
   |nx ρ3 jB=>rw[e]at h1;exact fun μ4 σ4 H4 p4 x4 l4=>⟨μ4,ρ3,jB,l4,SK.mono h1 p4 x4⟩
   |ct ρ3 jB=>rw[e]at h1;exact fun μ4 σ4 H4 p4 x4 l4=>⟨μ4,ρ3,jB,l4,SK.mono h1 p4 x4⟩
   |bk ρ3 jB=>rw[e]at h1;exact h1
   |rt w jB=>rw[e]at h1;exact h1
   |ex c ρ3 jB=>rw[e]at h1;exact h1
   |bad=>rw[e]at h1;exact h1
theorem Et{t:FT}(hc:ST X c t)(hb:SB X body g)(hp:PassesOwn (model X.prog X.w) X.A X.env X.xe:=by passes_own):SS X (.While c body [] pos) (pj t g):=⟨(DH hp hc.h hb.h).imp fun D σ H h=>by
 obtain⟨μ,ρ,st,l,h⟩:=h
 unfold pj at h
 by_cases hx:∃n,fY t g n ρ st≠.bad
 ·rw[mY hx]at h;exact xK _ σ H μ ρ st l h
 ·rw[dif_neg hx]at h;exact h.elim⟩
def Eu(fe:FE):FI:=fun ρ st=>(fe ρ st).bind fun x st=>match x with
 |.tup ws=>.ok (ws,none) st
 |_=>.bad
theorem Ev(he:SE X e fe):SI X tg e (Eu fe):=⟨(Ls he.h).imp fun σ H R h=>by
 obtain⟨μ,ρ,st,l,h⟩:=h
 refine⟨μ,ρ,st,l,RK.bind h l fun μ1 st1 x v H1 p1 x1 l1 q1 h1=>?_⟩
 cases x with
 |tup ws=>
  obtain⟨p,vs,rfl,hS,r⟩:=q1.tupE
  refine⟨p,rfl,⟨vs,hS⟩,h1 μ1 _ H1 (aj _) dD.refl l1.sto fun i μ' bu H' pp xx S _=>⟨fun w hw=>?_,fun hl=>⟨vs,xx _ _ hS,by rw[<- r.len];exact hl⟩⟩⟩
  have r':=r.mono pp xx
  obtain⟨v,g1,g2⟩:=r'.get hw
  refine⟨⟨vs,v,xx _ _ hS,g1⟩,fun y H'' hy=>?_⟩
  obtain⟨rfl,hy⟩:=hy
  have:=hy vs (xx _ _ hS)
  rw[g1]at this;cases this
  exact⟨dD.refl,S,g2⟩
 |_=>exact h1.elim⟩
def JQ(fe:FE):FI:=fun ρ st=>(fe ρ st).bind fun x st=>match x with
 |.loc n=>(match lstOf st n with
  |some ws=>.ok (ws,some (n,ws)) st
  |none=>.bad)
 |_=>.bad
theorem Mg(he:SE X e fe):SI X tg e (JQ fe):=⟨(Hw he.h).imp fun σ H R h=>by
 obtain⟨μ,ρ,st,l,h⟩:=h
 refine⟨μ,ρ,st,l,RK.bind h l fun μ1 st1 x v H1 p1 x1 l1 q1 h1=>?_⟩
 cases x with
 |loc n=>
  obtain⟨a,ha,rfl⟩:=q1.locE
  simp only at h1
  cases e1:lstOf st1 n with
  |none=>rw[e1]at h1;exact h1.elim
  |some ws=>
   rw[e1]at h1
   obtain⟨a',vs0,g0,hS0,r0⟩:=l1.sto.lstOf e1
   rw[ha]at g0;cases g0
   refine⟨a,rfl,⟨vs0,hS0⟩,h1 μ1 _ H1 (aj _) dD.refl l1.sto fun i μ' bu H' pp xx S ck=>?_⟩
   obtain⟨a2,vs,g2,hS,r⟩:=S.lstOf (show lstOf bu n=some ws from ck)
   have:μ'[n]?=some a:=gQ pp ha
   rw[g2]at this;cases this
   refine⟨fun w hw=>?_,fun hl=>⟨vs,hS,by rw[<- r.len];exact hl⟩⟩
   obtain⟨v,g1,g3⟩:=r.get hw
   refine⟨⟨vs,v,hS,g1⟩,fun y H'' hy=>?_⟩
   obtain⟨rfl,hy⟩:=hy
   have:=hy vs hS
   rw[g1]at this;cases this
   exact⟨dD.refl,S,g3⟩
 |_=>exact h1.elim⟩
def ce(lo:Int)(n:Nat):List W:=(List.range n).map fun(i:Nat)=>W.int (lo+i)
theorem cr(lo:Int)(n:Nat):(ce lo n).length=n:=by simp[ce]
theorem zQ{μ:List Addr}{H:Hp}{lo:Int}{n:Nat}:zP X (RR lo n) (ce lo n,none) μ H:=fun i μ' bu H' pp xx S _=>by
 refine⟨fun w hw=>?_,fun hl=>by rw[cr]at hl;exact hl⟩
 have hi:i<n:=by
  have:=(ai.mp hw).1
  rw[cr]at this;exact this
 refine⟨hi,fun y H'' hy=>?_⟩
 obtain⟨rfl,rfl⟩:=hy
 have e:w=.int (lo+i):=by
  unfold ce at hw
  rw[aD,eT hi]at hw
  exact(aS hw).symm
 subst e
 exact⟨dD.refl,S,.int⟩
def cn(fs:FA):FI:=fun ρ st=>(fs ρ st).bind fun ws st=>match ws with
 |[.int j]=>if -(2^62)<=j/\j<2^62 then .ok (ce 0 j.toNat,none) st else .bad
 |_=>.bad
def xL(fs:FA):FI:=fun ρ st=>(fs ρ st).bind fun ws st=>match ws with
 |[.int i,.int j]=>if -(2^62)<=i/\i<2^62/\-(2^62)<=j/\j<2^62 then .ok (ce i (j-i).toNat,none) st else .bad
 |_=>.bad
theorem eW(hm:X.mg "range"=none)(ha:SA X [a] fs)(hg:Gl X "range":=by rfl)(hs:starEach [a] X.env=[(false,eval a X.env)]:=by rfl):SI X tg (.Call (.Name "range" p) [a] [] pos) (cn fs):=⟨(B5 hg hm ha.h hs).imp fun σ H R h=>by
 obtain⟨μ,ρ,st,l,h⟩:=h
 refine⟨μ,ρ,st,l,RK.bind h l fun μ1 st1 x v H1 p1 x1 l1 q1 h1=>?_⟩
 split at h1
 ·obtain⟨y,rfl,ry⟩:=q1.one
  split at h1
  ·rename_i c
   exact⟨_,by rw[ry.intE],c.1,c.2,h1 μ1 _ H1 (aj _) dD.refl l1.sto zQ⟩
  ·exact h1.elim
 ·exact h1.elim⟩
end
mutual
def W.und(n:Nat):W->Bool
 |.loc m=>decide (m<n)
 |.tup ws=>undWs n ws
 |_=>true
def undWs(n:Nat):List W->Bool
 |[]=>true
 |w::ws=>w.und n&&undWs n ws
end
def al.und(n:Nat):al->Bool
 |.lst ws=>undWs n ws
 |.ro ws=>undWs n ws
 |.exc _=>true
 |.dct kvs=>undWs n (kvs.map fun p=>p.2)
 |.rod kvs=>undWs n (kvs.map fun p=>p.2)
 |.dcx kvs=>undWs n (kvs.map fun p=>p.2)
 |.tab _ _ _=>true
 |.pin _ _ _ w=>w.und n
 |.gone=>true
section
variable{K:Frag}{mg:Str->Option Value}{μ μ':List Addr}{H H':Hp}
mutual
theorem bf.und:∀{w:W} {v:V},bf K μ H w v->w.und μ.length=true
 |.non,_,_=>by simp[W.und]
 |.bl _,_,_=>by simp[W.und]
 |.int _,_,_=>by simp[W.und]
 |.str _,_,_=>by simp[W.und]
 |.tup _,_,r=>by obtain⟨p,vs,_,_,c⟩:=r.tupE;unfold W.und;exact RelWs.und c
 |.loc _,_,r=>by obtain⟨a,e,_⟩:=r.locE;unfold W.und;exact aQ (ai.mp e).1
theorem RelWs.und:∀{ws:List W} {vs:List V},RelWs K μ H ws vs->undWs μ.length ws=true
 |[],_,_=>by unfold undWs;rfl
 |_::_,_,r=>by obtain⟨x,xs,_,b,c⟩:=r.consE;unfold undWs;rw[bf.und b,RelWs.und c];rfl
end
mutual
theorem bf.take{n:Nat}:∀{w:W} {v:V},bf K μ H w v->w.und n=true->bf K (μ.take n) H w v
 |.non,_,r,_=>by rw[r.nonE];exact .non
 |.bl _,_,r,_=>by rw[r.blE];exact .bl
 |.int _,_,r,_=>by rw[r.intE];exact .int
 |.str _,_,r,_=>by rw[r.strE];exact .str
 |.tup _,_,r,b=>by obtain⟨p,vs,rfl,h,c⟩:=r.tupE;unfold W.und at b;exact .tupI h (RelWs.takeN c b)
 |.loc _,_,r,b=>by obtain⟨a,e,rfl⟩:=r.locE;unfold W.und at b;exact .locI (by rw[bv (iM b)];exact e)
theorem RelWs.takeN{n:Nat}:∀{ws:List W} {vs:List V},RelWs K μ H ws vs->undWs n ws=true->RelWs K (μ.take n) H ws vs
 |[],_,r,_=>by rw[r.nilE];exact .nilI
 |_::_,_,r,b=>by
  obtain⟨x,xs,rfl,b1,c1⟩:=r.consE
  unfold undWs at b
  rw[bN]at b
  exact .consI (bf.take b1 b.1) (RelWs.takeN c1 b.2)
end
theorem KX.und_w(k:KX)(n:Nat):k.w.und n=true:=by
 have hi:∀ks:List Int,undWs n (ks.map W.int)=true:=fun ks=>by
  induction ks with
  |nil=>rfl
  |cons a l ih=>show(true&&undWs n (l.map W.int))=true;rw[ih];rfl
 cases k with
 |bo b=>rfl
 |fl ks=>unfold KX.w W.und;exact hi ks
 |pr i ks=>unfold KX.w W.und undWs;rw[show(W.int i).und n=true from rfl];unfold undWs;rw[show(W.tup (ks.map W.int)).und n=true by unfold W.und;exact hi ks];rfl
theorem xM:∀{kvs:List (KX×W)} {es:List DictEntry},Paired (vG K μ H) kvs es->undWs μ.length (kvs.map fun p=>p.2)=true
 |_,_,.nil=>rfl
 |_,_,.cons r t=>by
  obtain⟨_,_,v,h,_⟩:=r
  show(_&&undWs _ _)=true
  rw[h.und,xM t];rfl
theorem uM{n:Nat}:∀{kvs:List (KX×W)} {es:List DictEntry},Paired (vG K μ H) kvs es->undWs n (kvs.map fun p=>p.2)=true->Paired (vG K (μ.take n) H) kvs es
 |_,_,.nil,_=>.nil
 |_,_,.cons r t,b=>by
  obtain⟨a,⟨u,c,d⟩,v,h,g⟩:=r
  have b:(_&&undWs n _)=true:=b
  rw[bN]at b
  exact .cons ⟨a,⟨u,bf.take c (KX.und_w _ n),d⟩,v,bf.take h b.1,g⟩ (uM t b.2)
theorem kF.und{c:al}{a:Addr}(r:kF K mg μ H c a):c.und μ.length=true:=by
 cases c with
 |lst ws=>obtain⟨vs,_,y⟩:=r;exact y.und
 |ro ws=>obtain⟨vs,_,y⟩:=r;exact y.und
 |exc c=>rfl
 |dct kvs=>obtain⟨vs,_,y⟩:=r;exact y.und
 |rod kvs=>obtain⟨vs,_,_,y⟩:=r;exact y.und
 |dcx kvs=>obtain⟨es,_,_,y,_⟩:=r;exact xM y
 |tab _ _ _=>rfl
 |pin _ _ _ _=>obtain⟨_,_,_,v,y,_⟩:=r;exact y.und
 |gone=>rfl
theorem kF.take{n:Nat}{c:al}{a:Addr}(r:kF K mg μ H c a)(b:c.und n=true):kF K mg (μ.take n) H c a:=by
 cases c with
 |lst ws=>obtain⟨vs,x,y⟩:=r;exact⟨vs,x,y.takeN b⟩
 |ro ws=>obtain⟨vs,x,y⟩:=r;exact⟨vs,x,y.takeN b⟩
 |exc c=>exact r
 |dct kvs=>obtain⟨vs,x,y⟩:=r;exact⟨vs,x,y.takeN b⟩
 |rod kvs=>obtain⟨vs,o,x,y⟩:=r;exact⟨vs,o,x,y.takeN b⟩
 |dcx kvs=>obtain⟨es,x,d,y,z⟩:=r;exact⟨es,x,d,uM y b,z⟩
 |tab _ _ _=>exact r
 |pin _ _ _ _=>obtain⟨ea,p,g,v,y,z⟩:=r;exact⟨ea,p,g,v,y.take b,z⟩
 |gone=>trivial
end
theorem fz.ex{P:Program}{w:World}{H:Hp}{h:Heap}{a:Addr}{o:HO}(x:fz P w H h a o):∃ob,h.get? a=some ob:=by
 cases o with
 |lst xs=>obtain⟨_,_,_,_,e⟩:=x;exact⟨_,e⟩
 |tup xs=>obtain⟨_,_,_,o,e,_⟩:=x;exact⟨_,e⟩
 |dK kvs=>obtain⟨_,_,_,_,o,_,_,e,_⟩:=x;exact⟨_,e⟩
 |dT kvs=>obtain⟨_,_,_,_,o,_,_,e,_⟩:=x;exact⟨_,e⟩
 |set S n=>obtain⟨o,_,_,_,e,_⟩:=x;exact⟨_,e⟩
 |ins C dx fs=>obtain⟨_,_,_,e,_⟩:=x;exact⟨_,e⟩
 |own y=>obtain⟨_,e⟩:=x;exact⟨_,e⟩
 |xd fs=>obtain⟨_,⟨_,_,_,e,_⟩,_⟩:=x;exact⟨_,e⟩
 |rng lo hi=>obtain⟨_,_,_,e⟩:=x;exact⟨_,e⟩
 |frz ob u=>obtain⟨e,_⟩:=x;exact⟨_,e⟩
 |tbl ps=>exact⟨_,(show h.get? a=some _ from x)⟩
 |met f y=>exact⟨_,(show h.get? a=some _ from x)⟩
 |ext φ=>obtain⟨_,⟨_,e⟩,_⟩:=x;exact⟨_,e⟩
def JR(st bu:List al)(ws:List W):Prop:=undWs st.length ws=true/\st.length<=bu.length/\∀(i:Nat),i<st.length->bu[i]?=st[i]?\/∃c,bu[i]?=some c/\c.und st.length=true
open Classical in
def ji(st bu:List al)(ws:List W):List al:=if JR st bu ws then bu.take st.length else bu
theorem jj{K:Frag}{mg:Str->Option Value}{μ μ':List Addr}{H H':Hp}{st bu:List al}{ws:List W}{vs:List V}(S:gn K mg μ st H)(S':gn K mg μ' bu H')(p:μ <+: μ')(r:RelWs K μ' H' ws vs) :
  ∃μ2,μ <+: μ2/\gn K mg μ2 (ji st bu ws) H'/\RelWs K μ2 H' ws vs:=by
 unfold ji
 by_cases k:JR st bu ws
 ·rw[aq k]
  obtain⟨k1,k2,k3⟩:=k
  have e:μ'.take st.length=μ:=by
   obtain⟨t,rfl⟩:=p
   rw[S.len,ku]
  refine⟨μ'.take st.length,by rw[e];exact aj _,⟨fun i j a ci cj h1 h2 r1 r2 m1 m2=>?_,by rw[aV,aV,S'.len],fun i c a h1 h2=>?_⟩,r.takeN k1⟩
  ·have hi:i<st.length:=by have:=(ai.mp h1).1;rw[aV]at this;omega
   have hj:j<st.length:=by have:=(ai.mp h2).1;rw[aV]at this;omega
   rw[bv hi]at h1 m1
   rw[bv hj]at h2 m2
   exact S'.nd i j a ci cj h1 h2 r1 r2 m1 m2
  ·have hi:i<st.length:=by have:=(ai.mp h1).1;rw[aV]at this;omega
   rw[bv hi]at h1 h2
   refine(S'.at' i c a h1 h2).take ?_
   rcases k3 i hi with q|⟨c',q,b⟩
   ·rw[h1]at q
    obtain⟨a0,g0,r0⟩:=S.get q.symm
    have:=r0.und
    rw[S.len];exact this
   ·rw[h1]at q;cases q;exact b
 ·rw[ax k]
  exact⟨μ',p,S',r⟩
def dN(N:Nat)(body:FS)(ws:List W)(st:List al):R W:=match body (ws.map some++List.replicate (N-ws.length) none) st with
 |.rt w bu=>.ok w (ji st bu [w])
 |.nx _ bu=>.ok .non (ji st bu [])
 |.ex c _ bu=>.ex c (ji st bu [])
 |_=>.bad
def iC(P:Program)(w:World):zo:=fun outer H s E e s'=>∃x C t B H',e=.ref x/\E C none H'/\s'.os=s.os/\AllBare s'.gens/\Un (sw outer) [] H H' s.heap s'.heap/\kB P w H' s'.heap/\H' x=none/\Heap.FlyingW B outer x C (.ref t) s'.heap /\
 ∀b o,s'.heap.get? b=some o->(H' b≠none\/((∃o0,s.heap.get? b=some o0)/\b∉sw outer))->B.get? b=some o
def jr(K:Frag)(mg:Str->Option Value)(n:Nat)(F:List W->List al->R W):Sp:=fun vs H Q E=>vs.length=n/\∃μ ws st,gn K mg μ st H/\RelWs K μ H ws vs/\(match F ws st with
 |.ok w bu=>∀μ' v H',μ <+: μ'->dD K H H'->gn K mg μ' bu H'->bf K μ' H' w v->Q v H'
 |.ex c bu=>∀C μ' H',mg c=some C->μ <+: μ'->dD K H H'->gn K mg μ' bu H'->E C none H'
 |.bad=>False)
theorem rq.noted{X:Cx}{af:List (Addr×Obj)}{σ:St}{c:Str}{H:Hp}{e:Value}{s:Shared}{Q:Unit->Shared->Prop}{E:Value->Shared->Prop}{M:Model}{outer:List Env}(f:rq X af σ c H e s)(mi:X.stack=X.env::outer)(sv:X.env.frame=some X.env.locals)(hA:X.A.frames=some X.stack)
  (h:∀x C t B h',e=.ref x->X.mg c=some C->H x=none->Heap.FlyingW B X.stack x C (.ref t) h'->s.heap.UpToSlots h' ->
   (∀b o,s.heap.get? b=some o->(H b≠none\/((∃o0,X.s₀.heap.get? b=some o0)/\b∉X.fs/\b∉X.ex)\/((∃y,X.env.cells.lookup y=some b)/\b∉sw X.stack)\/∃p∈X.pn++af,p.1=b)->B.get? b=some o)->Q () { s with heap:=h' }) :
  wpAny M X.A (leaving X.env e) Q E s:=by
 obtain⟨x,C,t,B,rfl,hC,hx,st,nx,ff,tr,cov⟩:=f.ex
 rw[mi]at ff hA
 rcases tr with tr|⟨oe,vs,he,rfl,_,hd,h1,h0⟩|⟨L,hL,tr⟩
 ·refine wpAny_leaving_nextW hA ff sv tr st nx fun h' hL=>?_
  obtain⟨k1,k2,k3,k4⟩:=hL
  exact h x C t B h' rfl hC hx ⟨k1,nx,by rw[mi];exact k2,k3⟩ k4 cov
 ·refine wpAny_leaving_firstW hA ff sv he st nx hd h1 h0 fun h' hL=>?_
  obtain⟨k1,k2,k3,k4⟩:=hL
  exact h x _ t B h' rfl hC hx ⟨k1,nx,by rw[mi];exact k2,k3⟩ k4 cov
 ·unfold leaving
  refine aa (mZ hL tr (wpAny_landsW ⟨st,nx,ff,tr⟩ fun h' fl up=>?_))
  exact h x C t B h' rfl hC hx (by rw[mi];exact fl) up cov
theorem rq.leaves{X:Cx}{af:List (Addr×Obj)}{σ:St}{c:Str}{H:Hp}{e:Value}{s:Shared}{E:XK}{E':Value->Shared->Prop}{M:Model}(f:rq X af σ c H e s)(mi:X.stack=X.env::X.outer)(sv:X.env.frame=some X.env.locals)(hA:X.A.frames=some X.stack)(t7:X.ex=[])
  (hE:∀C,X.mg c=some C->E C none H):wpAny M X.A (leaving X.env e) (fun _ s''=>iC X.prog X.w X.outer X.H₀ X.s₀ E e s'') E' s:=by
 refine f.noted mi sv hA fun x C t B h' he hC hx fl up cov=>?_
 have I:=f.inv
 have un:=I.base
 rw[t7]at un
 have fsE:X.fs=sw X.outer:=rfl
 obtain⟨f1,f2,f3,f4⟩:=fl
 rw[mi]at f3
 obtain⟨_,_,f3'⟩:=f3
 have frames:∀b∈sw X.outer,∀o,s.heap.get? b=some o->∃sl,h'.get? b=some { o with slots:=sl }:=fun b hb o ho=>by
  obtain⟨_,o',ho',hd⟩:=I.funs.mem hb
  rw[ho]at ho';cases ho'
  exact up b o ho hd
 have kept:∀b o,s.heap.get? b=some o->(∃o0,X.s₀.heap.get? b=some o0)->b∉sw X.outer->h'.get? b=some o:=fun b o ho h0 hb=>f1 b o (cov b o ho (.inr (.inl ⟨h0,hb,by rw[t7];simp⟩)))
 have keptH:∀b o,s.heap.get? b=some o->H b≠none->h'.get? b=some o:=fun b o ho h0=>f1 b o (cov b o ho (.inl h0))
 refine⟨x,C,t,B,H,he,hE C hC,I.os,I.bare,⟨fun b o q n hb hx=>?_,fun b o q n hb hx=>?_,fun b o q n hx=>un.free b o q n hx,fun b o q hx=>?_,un.tups,un.frzs,un.tbls⟩,fun b u hb=>?_,hx,⟨f1,f2,f3',f4⟩,fun b o ho hr=>?_⟩
 ·exact kept b o (un.keep b o q n hb hx) ⟨o,q⟩ hb
 ·obtain⟨sl,q1⟩:=un.slot b o q n hb hx
  obtain⟨sl2,q2⟩:=frames b hb _ q1
  exact⟨sl2,q2⟩
 ·obtain⟨o',q1⟩:=un.there b o q hx
  by_cases hb:b∈sw X.outer
  ·obtain⟨sl2,q2⟩:=frames b hb _ q1;exact⟨_,q2⟩
  ·exact⟨o',kept b o' q1 ⟨o,q⟩ hb⟩
 ·refine(I.hok b u hb).stay (fun c v hc q=>?_) (fun _ q=>q) fun _ _ q=>q
  refine keptH c v q ?_
  rcases hc with rfl|hc
  ·rw[hb];simp
  ·rw[hc];simp
 ·rcases hr with hr|⟨⟨o0,h0⟩,hb⟩
  ·cases hu:H b with
   |none=>exact absurd hu hr
   |some u=>
    have lt:=I.hok.lt hu
    obtain⟨ob,GJ⟩:∃ob,s.heap.get? b=some ob:=by
     exact(I.hok b u hu).ex
    have:=keptH b ob GJ hr
    rw[ho]at this;cases this
    exact cov b o GJ (.inl hr)
  ·obtain⟨o',q1⟩:=un.there b o0 h0 (by simp)
   have:=kept b o' q1 ⟨o0,h0⟩ hb
   rw[ho]at this;cases this
   exact cov b o q1 (.inr (.inl ⟨⟨o0,h0⟩,hb,by rw[t7];simp⟩))
structure bK(P:Program)(w:World)(K:Frag)(mg:Str->Option Value)(base:Heap)(k:Nat)(x:Str)(n:Nat)(F:List W->List al->R W):Prop where
 ex:∃(f:Addr) (fd:FuncData) (ps:List Str),mg x=some (.ref f)/\keepIn K (.ref f)=true/\ps.length=n/\sB K fd ps []/\dE P w K mg base (iC P w) k f fd ps (jr K mg n F)
theorem bK.mono{P:Program}{w:World}{K:Frag}{mg:Str->Option Value}{base:Heap}{j k:Nat}{x:Str}{n:Nat}{F:List W->List al->R W}(h:bK P w K mg base j x n F)(hj:j<=k):bK P w K mg base k x n F:=by
 obtain⟨f,fd,ps,a,b,c,d,e⟩:=h.ex
 exact⟨f,fd,ps,a,b,c,d,e.mono hj⟩
def da(n:Nat)(F:List W->List al->R W)(fs:FA):FE:=fun ρ st=>(fs ρ st).bind fun ws st=>if ws.length=n then F ws st else .bad
section
variable{X:Cx}
theorem P2{k n:Nat}{f:Addr}{fd:FuncData}{ps:List Str}{F:List W->List al->R W}{af:List (Addr×Obj)}{σ:St}{H:Hp}{s:Shared}{Q:VK}{us:List Value}{vs:List V}{μ:List Addr}{st:List al}{ws:List W}
  (Fn:dE X.prog X.w X.K X.mg X.base (iC X.prog X.w) k f fd ps (jr X.K X.mg n F)) (hn:ps.length=n) (hr:gB k X.A) (hb:sB X.K fd ps []) (I:bw X af σ H s) (S:gn X.K X.mg μ st H) (r:RelWs X.K μ H ws vs) (rv:cw vs us) (hl:ws.length=n)
  (h:RK X (rO X) μ σ H Q (F ws st)):wpAny (model X.prog X.w) X.A (call (.ref f) us) (EP X af σ Q) X.xe s:=by
 have hl':(us++([]:List Value)).length=ps.length:=by rw[cI,<- rv.length,<- r.len,hl,hn]
 cases e:F ws st with
 |bad=>rw[e]at h;exact h.elim
 |ok w bu=>
  rw[e]at h
  refine mW (gi (Fn.run X.A X.stack s H ⟨us,[]⟩ us vs Q (fun _ _ _=>False) hr I.env0 (by have:=hb s us I.kIn hl';rwa[cI]at this) rv ⟨by rw[<- r.len];exact hl,μ,ws,st,S,r,by rw[e];exact h⟩) fun r s' hq=>?_)
  cases r with
  |error e=>obtain⟨_,_,_,_,_,_,z,_⟩:=hq;exact z.elim
  |ok fl=>
   cases fl with
   |ret u=>exact I.after hq
   |next=>exact False.elim hq
   |brk=>exact False.elim hq
   |cont=>exact False.elim hq
 |ex c bu=>
  rw[e]at h
  refine mW (gi (Fn.run X.A X.stack s H ⟨us,[]⟩ us vs (fun _ _=>False) (fun C _ H'=>X.mg c=some C/\∃μ',μ <+: μ'/\dD X.K H H'/\gn X.K X.mg μ' bu H') hr I.env0 (by have:=hb s us I.kIn hl';rwa[cI]at this) rv
   ⟨by rw[<- r.len];exact hl,μ,ws,st,S,r,by rw[e];exact fun C μ' H' hC p x S'=>⟨hC,μ',p,x,S'⟩⟩) fun r s' hq=>?_)
  cases r with
  |ok fl=>
   cases fl with
   |ret u=>obtain⟨_,_,_,_,_,_,_,z⟩:=hq;exact z.elim
   |next=>exact False.elim hq
   |brk=>exact False.elim hq
   |cont=>exact False.elim hq
  |error ev=>
   obtain⟨x,C,t,B,H',rfl,⟨hC,μ',p,xx,S'⟩,os,bare,un,hok,hx,fl,cov⟩:=hq
   have I':bw X af σ H' s':=I.call' os un hok bare fun b hb=>absurd hb (by simp)
   refine h af μ' H' (.ref x) s' p xx S' ⟨I',x,C,t,B,rfl,hC,hx,fl.1,fl.2.1,fl.2.2.1,.inl fl.2.2.2,fun b o ho hrel=>?_⟩
   refine cov b o ho ?_
   rcases hrel with q|⟨⟨o0,h0⟩,hb,hbx⟩|⟨⟨y,hy⟩,hb⟩|⟨pp,hp,rfl⟩
   ·exact .inl q
   ·refine .inr ⟨?_,fun z=>?_⟩
    ·obtain⟨o',q1⟩:=I.base.there b o0 h0 hbx
     exact⟨o',q1⟩
    ·rcases aM.mp (I.stkSub b z)with z|z
     ·rw[z]at h0
      exact absurd (aU (aE h0) I.ok.above) (cV _)
     ·exact hb z
   ·obtain⟨v,ov,hov,_⟩:=I.cell y b hy
    exact .inr ⟨⟨_,hov⟩,hb⟩
   ·obtain⟨g1,g2,g3,g4,_⟩:=I.pin pp hp
    refine .inr ⟨⟨_,g1⟩,fun z=>?_⟩
    rcases aM.mp (I.stkSub _ z)with z|z
    ·exact g3 z
    ·exact g4 z
variable{e:Expr}{es:List Expr}{pos p:Pos}{x:Str}{fs:FA}
theorem cq{k k' n:Nat}{F:List W->List al->R W}(Fn:bK X.prog X.w X.K X.mg X.base k x n F)(hr:gB k' X.A)(hk:k<=k')(ha:SA X (e::es) fs)(hg:Gl X x:=by rfl)(y8:(x==("__debug__":Str))=false:=by decide)
  (he:starEach (e::es) X.env=(false,eval e X.env)::starEach es X.env:=by rfl) (lq:(backTo pos (starEach es X.env)).any (·.1)=false:=by rfl):SE X (.Call (.Name x p) (e::es) [] pos) (da n F fs):=⟨by
 intro af s σ H Q I h
 obtain⟨f,fd,ps,hm,hkp,hn,hb,Fo⟩:=(Fn.mono hk).ex
 refine dZ (vq I hg hm ?_ y8)
 obtain⟨μ,ρ,st,l,h⟩:=h
 have h':PD X fs σ H fun vs H1=>∃μ1 st1 ws,Rl X μ1 ρ st1 σ H1/\RelWs X.K μ1 H1 ws vs/\RK X (rO X) μ1 σ H1 Q (if ws.length=n then F ws st1 else .bad):=
  ⟨μ,ρ,st,l,RK.bind h l fun μ1 st1 x v H1 p1 x1 l1 q1 h1=>⟨μ1,st1,x,l1,q1,h1⟩⟩
 refine PySem.W.callWith_K (h₀:=X.base) I.ok.mod.kin hkp (gE (ha.h pos af s σ H _ I h') fun us s1 ⟨vs,H1,I1,r,μ1,st1,ws,l1,r1,q⟩=>⟨I1.kIn,?_⟩) he lq
 by_cases c:ws.length=n
 ·rw[aq c]at q
  exact P2 Fo hn hr hb I1 l1.sto r1 r c q
 ·rw[ax c]at q;exact q.elim⟩
end
theorem Bi{P:Program}{w:World}{K:Frag}{mg:Str->Option Value}{base:Heap}{x dJ:Str}{st:Stmt}{f:Addr}{fd:FuncData}{N ps:List Str}{k n:Nat}{g:FS}(F:iY K x dJ st f fd)(S:bn N ps (aI st))(hn:ps.length=n)
  (qm:∀(fT:Value) (A:Around) (outer:List Env) (s:Shared) (H:Hp) (E:XK),fd.code=fT->gB k (A.deeper (envOfC dJ (aI st) s.heap.objs.size f fT)) ->
   SB (wX (iC P w) P w K mg base N dJ (aI st) f fT A outer s H E) (ef st) g):dE P w K mg base (iC P w) (k+1) f fd ps (jr K mg n (dN N.length g)):=by
 obtain⟨oc,od,kV,i9,pm,an,fT,ct,Jo,rfl,lk,pL⟩:=F.ex
 refine Jz lk pL S (fun vs H Q E h=>by rw[hn];exact h.1) fun A outer s H vs Q E hr He=>?_
 obtain⟨hl,μ,ws,N7,Sr,r,h⟩:=He
 refine⟨_,(qm fT A outer s H E rfl hr).h,μ,ws.map some++List.replicate (N.length-ws.length) none,N7,⟨?_,Sr⟩,?_⟩
 ·unfold jd
  rw[<- r.len]
  have base:∀(ws:List W) (vs:List V) (m:Nat),RelWs K μ H ws vs->Paired (fun(o:Option W) (s:Option V)=>∀w,o=some w->∃v,s=some v/\bf K μ H w v) (ws.map some++List.replicate m none) (vs.map some++List.replicate m none):=by
   intro ws
   induction ws with
   |nil=>
    intro vs m r
    rw[r.nilE]
    induction m with
    |zero=>exact .nil
    |succ m ih=>exact .cons (fun w z=>nomatch z) ih
   |cons w ws ih=>
    intro vs m r
    obtain⟨y,ys,rfl,ry,rys⟩:=r.consE
    exact .cons (fun w' z=>⟨y,rfl,by cases z;exact ry⟩) (ih ys m rys)
  exact base ws vs _ r
 ·unfold dN at h
  cases e:g (ws.map some++List.replicate (N.length-ws.length) none) N7 with
  |rt w bu=>
   rw[e]at h
   intro μ' v H' p x S' lD
   obtain⟨μ2,p2,S2,r2⟩:=jj Sr S' p (.consI lD .nilI)
   obtain⟨_,e2,r3⟩:=r2.one
   cases e2
   exact h μ2 v H' p2 x S2 r3
  |nx ρ' bu=>
   rw[e]at h
   intro μ' σ' H' p x l'
   obtain⟨μ2,p2,S2,_⟩:=jj (ws:=[]) (vs:=[]) Sr l'.sto p .nilI
   exact h μ2 .non H' p2 x S2 .non
  |ex c ρ' bu=>
   rw[e]at h
   intro af μ' σ' H' ev s' p x l' fl
   obtain⟨μ2,p2,S2,_⟩:=jj (ws:=[]) (vs:=[]) Sr l'.sto p .nilI
   exact fl.leaves rfl rfl fl.inv.ok.frames rfl fun C hC=>h C μ2 H' hC p2 x S2
  |bk ρ' bu=>rw[e]at h;exact h.elim
  |ct ρ' bu=>rw[e]at h;exact h.elim
  |bad=>rw[e]at h;exact h.elim
theorem cD{P:Program}{w:World}{K:Frag}{mg:Str->Option Value}{base:Heap}{x dJ:Str}{st:Stmt}{f:Addr}{fd:FuncData}{N ps:List Str}{k n:Nat}{g:FS}(F:iY K x dJ st f fd)(S:bn N ps (aI st))(hn:ps.length=n)
  (qm:∀(fT:Value) (A:Around) (outer:List Env) (s:Shared) (H:Hp) (E:XK),gB k (A.deeper (envOfC dJ (aI st) s.heap.objs.size f fT)) ->
   SB (wX (iC P w) P w K mg base N dJ (aI st) f fT A outer s H E) (ef st) g):dE P w K mg base (iC P w) (k+1) f fd ps (jr K mg n (dN N.length g)):=Bi F S hn fun fT A outer s H E _ hr=>qm fT A outer s H E hr
theorem r_{P:Program}{w:World}{K:Frag}{mg:Str->Option Value}{base:Heap}{k n:Nat}{x:Str}{st:Stmt}{f:Addr}{fd:FuncData}{ps:List Str}{G:List W->List al->R W}
  (F:iY K x x st f fd) (hm:mg x=some (.ref f)) (hn:ps.length=n)
  (hb:∀(kV i9 pm:Value) (an:Option Addr) (fT ct:Value) (us:List Value),us.length=ps.length->bindArgs (fnOf x x (eK st) (ef st) (aI st) .none kV i9 pm an fT ct) ⟨us,[]⟩=pure (ps.zip us))
  (ok:dE P w K mg base (iC P w) k f fd ps (jr K mg n G)):bK P w K mg base k x n G:=⟨f,fd,ps,hm,F.kp,hn,F.binds hb,ok⟩
theorem RelWs.split{K:Frag}{μ:List Addr}{H:Hp}:∀{as bs:List W} {vs:List V},RelWs K μ H (as++bs) vs->∃xs ys,vs=xs++ys/\RelWs K μ H as xs/\RelWs K μ H bs ys
 |[],_,vs,r=>⟨[],vs,rfl,.nilI,r⟩
 |w::as,bs,vs,r=>by
  obtain⟨x,xs,rfl,rx,rs⟩:=r.consE
  obtain⟨ys,zs,rfl,r1,r2⟩:=RelWs.split rs
  exact⟨x::ys,zs,rfl,.consI rx r1,r2⟩
section
variable{X:Cx}{a b c e o tg:Expr}{es:List Expr}{pos p p2 gW eJ:Pos}{x name:Str}{fa fb fe fo:FE}{fs:FA}{id:String}
structure Mh(X:Cx)(id:String)(F:W->List W->List al->R W):Prop where
 h:w5 X id (fun x vs H Q=>∃μ st wx ws,gn X.K X.mg μ st H/\bf X.K μ H wx x/\RelWs X.K μ H ws vs/\Dv X μ H Q (F wx ws st))
 n:∀x ws st,rP (F x ws st)
def lK(st:List al):W->Bool
 |.loc n=>(match st[n]? with|some (.lst _)=>true|_=>false)
 |_=>false
def Ew:W->Bool
 |.str _=>true
 |_=>false
theorem xN{μ:List Addr}{st:List al}{H:Hp}{w:W}{v:V}(S:gn X.K X.mg μ st H)(r:bf X.K μ H w v)(h:lK st w=true):∃l ys,v=.ref l/\H l=some (.lst ys):=by
 cases w with
 |loc n=>
  obtain⟨a,ha,rfl⟩:=r.locE
  simp only[lK]at h
  cases e1:st[n]? with
  |none=>rw[e1]at h;cases h
  |some cc=>
   rw[e1]at h
   cases cc with
   |lst ws=>obtain⟨a1,g1,vs,k1,_⟩:=S.get e1;rw[ha]at g1;cases g1;exact⟨_,vs,rfl,k1⟩
   |_=>cases h
 |_=>cases h
def oR(F:W->List W->List al->R W)(fo:FE)(fs:FA):FE:=fun ρ st=>(fo ρ st).bind fun x st=>if lK st x then(fs ρ st).bind fun ws st=>F x ws st else .bad
def Ex(F:W->List W->List al->R W)(fo:FE)(fs:FA):FE:=fun ρ st=>(fo ρ st).bind fun x st=>if Ew x then(fs ρ st).bind fun ws st=>F x ws st else .bad
theorem oF{F:W->List W->List al->R W}(slot:Slot "list" name id)(y0:typeOf (.builtin id)=pure (.type "method_descriptor"))(hm:Mh X id F)(ho:SE X o fo)(ha:SA X (e::es) fs)
  (lY:attributeBase o name X.env (eval o X.env)=eval o X.env:=by rfl)
  (tZ:((backTo eJ (starEach (e::es) X.env)).all (fun x=>!x.1)&&(backToKw eJ (keywordEach [] X.env)).all (fun x=>x.1.isSome)
   && decide ((e::es).length+([]:List Keyword).length+(if ([]:List Keyword).isEmpty then 0 else 1)<30))=true:=by rfl)
  (lZ:(gW.endLine==eJ.line)=true:=by rfl) (hs:starEach (e::es) X.env=(false,eval e X.env)::starEach es X.env:=by rfl) (mO:(backTo eJ (starEach es X.env)).any (·.1)=false:=by rfl) :
  SE X (.Call (.Attribute o name gW) (e::es) [] eJ) (oR F fo fs):=⟨(Po slot y0 hm.h ho.h ha.h lY tZ lZ hs mO).imp fun σ H Q h=>by
 obtain⟨μ,ρ,st,l,h⟩:=h
 refine⟨μ,ρ,st,l,RK.bind h l fun μ1 st1 x v H1 p1 x1 l1 q1 h1=>?_⟩
 by_cases c:lK st1 x=true
 ·rw[aq c]at h1
  refine⟨xN l1.sto q1 c,μ1,ρ,st1,l1,RK.bind h1 l1 fun μ2 dw ws vs H2 p2 x2 l2 q2 h2=>?_⟩
  exact⟨μ2,dw,x,ws,l2.sto,q1.mono p2 x2,q2,qA h2 (hm.n _ _ _)⟩
 ·rw[ax c]at h1;exact h1.elim⟩
theorem uN{F:W->List W->List al->R W}(slot:Slot "list" name id)(y0:typeOf (.builtin id)=pure (.type "method_descriptor"))(hm:Mh X id F)(ho:SE X o fo)
  (lY:attributeBase o name X.env (eval o X.env)=eval o X.env:=by rfl) (lZ:(gW.endLine==eJ.line)=true:=by rfl):SE X (.Call (.Attribute o name gW) [] [] eJ) (oR F fo aK):=⟨(L4 slot y0 hm.h ho.h lY lZ).imp fun σ H Q h=>by
 obtain⟨μ,ρ,st,l,h⟩:=h
 refine⟨μ,ρ,st,l,RK.bind h l fun μ1 st1 x v H1 p1 x1 l1 q1 h1=>?_⟩
 by_cases c:lK st1 x=true
 ·rw[aq c]at h1
  exact⟨xN l1.sto q1 c,μ1,st1,x,[],l1.sto,q1,.nilI,qA h1 (hm.n _ _ _)⟩
 ·rw[ax c]at h1;exact h1.elim⟩
theorem Ey{F:W->List W->List al->R W}(slot:Slot "str" name id)(y0:typeOf (.builtin id)=pure (.type "method_descriptor"))(hm:Mh X id F)(ho:SE X o fo)(ha:SA X (e::es) fs)
  (lY:attributeBase o name X.env (eval o X.env)=eval o X.env:=by rfl)
  (tZ:((backTo eJ (starEach (e::es) X.env)).all (fun x=>!x.1)&&(backToKw eJ (keywordEach [] X.env)).all (fun x=>x.1.isSome)
   && decide ((e::es).length+([]:List Keyword).length+(if ([]:List Keyword).isEmpty then 0 else 1)<30))=true:=by rfl)
  (lZ:(gW.endLine==eJ.line)=true:=by rfl) (hs:starEach (e::es) X.env=(false,eval e X.env)::starEach es X.env:=by rfl) (mO:(backTo eJ (starEach es X.env)).any (·.1)=false:=by rfl) :
  SE X (.Call (.Attribute o name gW) (e::es) [] eJ) (Ex F fo fs):=⟨(Pp slot y0 hm.h ho.h ha.h lY tZ lZ hs mO).imp fun σ H Q h=>by
 obtain⟨μ,ρ,st,l,h⟩:=h
 refine⟨μ,ρ,st,l,RK.bind h l fun μ1 st1 x v H1 p1 x1 l1 q1 h1=>?_⟩
 cases x with
 |str z=>
  rw[aq (show Ew (W.str z)=true from rfl)]at h1
  refine⟨⟨z,q1.strE⟩,μ1,ρ,st1,l1,RK.bind h1 l1 fun μ2 dw ws vs H2 p2 x2 l2 q2 h2=>?_⟩
  exact⟨μ2,dw,_,ws,l2.sto,q1.mono p2 x2,q2,qA h2 (hm.n _ _ _)⟩
 |_=>exact h1.elim⟩
def cy(x:W)(ws:List W)(st:List al):R W:=match x,ws with
 |.loc n,[y]=>(match st[n]? with
  |some (.lst zs)=>if zs.length<lB then .ok .non (st.set n (.lst (zs++[y])))else .bad
  |_=>.bad)
 |_,_=>.bad
theorem dL:Mh X "list.append" cy:=⟨fun af s σ H x vs v us Q I rv rus ⟨μ,st,wx,ws,S,rx,rs,q⟩=>by
 unfold cy at q
 split at q
 ·rename_i n y
  obtain⟨y1,rfl,ry⟩:=rs.one
  split at q
  ·rename_i zs e1
   split at q
   ·rename_i c
    obtain⟨a1,g1,vs,k1,r⟩:=S.get e1
    obtain⟨b1,f1,rfl⟩:=rx.locE
    rw[g1]at f1;cases f1
    refine zF af s σ H _ _ v us Q I rv rus ⟨a1,vs,y1,rfl,rfl,k1,by rw[<- r.len];exact L9 (gf c),fun H2 e=>?_⟩
    subst e
    exact q μ _ _ (aj _) (fQ.but mo k1) (S.set e1 g1 k1 (r.app (.consI ry .nilI))) .non
   ·exact q.elim
  ·exact q.elim
 ·exact q.elim,fun x ws st=>by
 unfold cy
 repeat' split
 all_goals trivial⟩
def pW(x:W)(ws:List W)(st:List al):R W:=match x,ws with
 |.loc n,[]=>(match st[n]? with
  |some (.lst zs)=>rR zs.getLast? fun w=>.ok w (st.set n (.lst zs.dropLast))
  |_=>.bad)
 |_,_=>.bad
theorem qD:Mh X "list.pop" pW:=⟨fun af s σ H x vs v us Q I rv rus ⟨μ,st,wx,ws,S,rx,rs,q⟩=>by
 unfold pW at q
 split at q
 ·rename_i n
  have e0:=rs.nilE
  subst e0
  split at q
  ·rename_i zs e1
   obtain⟨a1,g1,vs,k1,r⟩:=S.get e1
   obtain⟨b1,f1,rfl⟩:=rx.locE
   rw[g1]at f1;cases f1
   cases hl:zs.getLast? with
   |none=>rw[hl]at q;exact q.elim
   |some w=>
    rw[hl]at q
    have hz:zs=zs.dropLast++[w]:=by
     obtain⟨ys,rfl⟩:=List.getLast?_eq_some_iff.mp hl
     simp
    rw[hz]at r
    obtain⟨xs',OG,hx,r1,r3⟩:=r.split
    obtain⟨y',rfl,r2⟩:=r3.one
    refine HR af s σ H _ _ v us Q I rv rus ⟨a1,xs',y',rfl,rfl,by rw[<- hx];exact k1,fun H2 e=>?_⟩
    subst e
    have xx:dD X.K H (eY H a1 (.lst xs')):=fQ.but mo k1
    exact q μ _ _ (aj _) xx (S.set e1 g1 k1 r1) (r2.mono (aj _) xx)
  ·exact q.elim
 ·exact q.elim,fun x ws st=>by
 unfold pW rR
 repeat' split
 all_goals trivial⟩
def kI:List W->Option (List (List Nat))
 |[]=>some []
 |.str l::ws=>(kI ws).map (l :: ·)
 |_=>none
theorem pX{K:Frag}{μ:List Addr}{H:Hp}:∀{ws:List W} {ls:List (List Nat)} {vs:List V},kI ws=some ls->RelWs K μ H ws vs->vs=ls.map fun l=>V.str (tx l)
 |[],ls,vs,h,r=>by simp only[kI]at h;cases h;exact r.nilE
 |w::ws,ls,vs,h,r=>by
  obtain⟨x,xs,rfl,rx,rs⟩:=r.consE
  cases w with
  |str l=>
   simp only[kI]at h
   cases e:kI ws with
   |none=>rw[e]at h;cases h
   |some ls'=>rw[e]at h;cases h;rw[rx.strE,pX e rs];rfl
  |_=>simp only[kI]at h;cases h
theorem uO(ls:List (List Nat)):kI (ls.map W.str)=some ls:=by
 induction ls with
 |nil=>rfl
 |cons a r ih=>show(kI (r.map W.str)).map (a :: ·)=_;rw[ih];rfl
def nh(x:W)(ws:List W)(st:List al):R W:=match x,ws with
 |.str sep,[.loc n]=>rR (lstOf st n) fun zs=>rR (kI zs) fun ls=>if (ls.map List.length).sum+ls.length*sep.length<=lB then .ok (.str (je sep ls)) st else .bad
 |_,_=>.bad
theorem om:Mh X "str.join" nh:=⟨fun af s σ H x vs v us Q I rv rus ⟨μ,st,wx,ws,S,rx,rs,q⟩=>by
 unfold nh at q
 split at q
 ·rename_i sep n
  obtain⟨y1,rfl,ry⟩:=rs.one
  cases e1:lstOf st n with
  |none=>rw[e1]at q;exact q.elim
  |some zs=>
   rw[e1,eQ]at q
   cases e2:kI zs with
   |none=>rw[e2]at q;exact q.elim
   |some ls=>
    rw[e2,eQ]at q
    split at q
    ·rename_i c
     obtain⟨a,vs,g,hS,r⟩:=S.lstOf e1
     obtain⟨b1,f1,rfl⟩:=ry.locE
     rw[g]at f1;cases f1
     have:=pX e2 r
     subst this
     exact HM af s σ H _ _ v us Q I rv rus ⟨sep,_,ls,rx.strE,rfl,hS,bh c (by decide),oh S q⟩
    ·exact q.elim
 ·exact q.elim,fun x ws st=>by
 unfold nh
 split
 ·exact pV fun _=>pV fun _=>by split<;>trivial
 ·trivial⟩
end
def oG(cap:List (Option Nat))(ρ:bW):bW:=cap.map fun o=>o.bind fun j=>(ρ[j]?).join
theorem P3{X:Cx}{μ:List Addr}{H:Hp}{ρ:bW}{σ:St}(r:Paired (fun(o:Option W) (s:Option V)=>∀w,o=some w->∃v,s=some v/\bf X.K μ H w v) ρ σ):∀cap:List (Option Nat),
  Paired (fun(o:Option W) (s:Option V)=>∀w,o=some w->∃v,s=some v/\bf X.K μ H w v) (oG cap ρ) (oN cap σ)
 |[]=>.nil
 |o::cap=>by
  refine .cons (fun w e=>?_) (P3 r cap)
  cases o with
  |none=>cases e
  |some j=>
   have e':(ρ[j]?).join=some w:=e
   have e2:ρ[j]?=some (some w):=by
    cases h:ρ[j]? with
    |none=>rw[h]at e';cases e'
    |some ow=>rw[h]at e';simp at e';rw[e']
   obtain⟨v,g1,g2⟩:=nJ r e2
   exact⟨v,by show(σ[j]?).join=some v;rw[g1];rfl,g2⟩
open Classical in
def ni(f:FG)(t:FT)(el:FE)(ck:Option (Nat×List W))(ρ0:bW):List W->List W->List al->R (List W)
 |[],jt,st=>if jh st ck then .ok jt st else .bad
 |w::ws,jt,st=>if jh st ck then(match f w ρ0 with
  |none=>.bad
  |some ρ'=>(match t ρ' st with
   |.ok true st1=>(match el ρ' st1 with
    |.ok y dw=>ni f t el ck ρ0 ws (jt++[y]) dw
    |_=>.bad)
   |.ok false st1=>ni f t el ck ρ0 ws jt st1
   |_=>.bad))else .bad
def hX(cap:List (Option Nat))(fi:FI)(f:FG)(t:FT)(el:FE):FE:=fun ρ st=>(fi ρ st).bind fun k st=>if k.1.length<=lB then(ni f t el k.2 (oG cap ρ) k.1 [] st).bind fun ys st=>m9 ys st else .bad
def RY{α β:Type}(X:Cx)(rel:List Addr->Hp->α->β->Prop)(f:bW->List al->R α)(σ:St)(H:Hp)(Q:β->Hp->Prop):Prop:=
 ∃μ ρ st a bu,Rl X μ ρ st σ H/\f ρ st=.ok a bu/\∀μ' b H',μ <+: μ'->dD X.K H H'->gn X.K X.mg μ' bu H'->rel μ' H' a b->Q b H'
def qE:FT:=fun _ st=>.ok true st
structure P4(X:Cx)(es:List Expr)(f:FT):Prop where
 h:Ha X es (tT X f)
theorem Ha.imp{X:Cx}{e:List Expr}{t t':TT}(h:Ha X e t)(i:∀σ H Q,t' σ H Q->t σ H Q):Ha X e t':=fun af s σ H Q I q=>h af s σ H Q I (i _ _ _ q)
theorem vJ{X:Cx}:P4 X [] qE:=⟨HJ.imp fun σ H Q h=>by
 obtain⟨μ,ρ,st,l,h⟩:=h
 exact h μ true H (aj _) dD.refl l.sto rfl⟩
theorem vK{X:Cx}{c:Expr}{t:FT}(hc:ST X c t):P4 X [c] t:=⟨HK hc.h⟩
theorem Ez{X:Cx}{cap:List (Option Nat)}{fi:FI}{f:FG}{t:FT}{el:FE}{σ:St}{H:Hp}{Q:VK}(h:tE X (hX cap fi f t el) σ H Q) :
  uE cap (fun σ H R=>tG X (P1 X) fi σ H R) (RW X f) (RY X L_ t) (RY X (rO X) el) σ H Q:=by
 obtain⟨μ,ρ,st,l,h⟩:=h
 refine⟨μ,ρ,st,l,RK.bind h l fun μ1 st1 k J H1 p1 x1 l1 wk h1=>?_⟩
 by_cases hz:k.1.length<=lB
 ·rw[aq hz]at h1
  refine⟨fun i m ys H'=>i<=k.1.length/\m=k.1.length-i/\ys.length<=i/\∃μ' jt bu,μ1 <+: μ'/\dD X.K H1 H'/\Rl X μ' ρ bu σ H'/\RelWs X.K μ' H' jt ys/\RK X (rO X) μ' σ H' Q ((ni f t el k.2 (oG cap ρ) (k.1.drop i) jt bu).bind fun ys st=>m9 ys st),
   ⟨_,ca _,rfl,ay _,μ1,[],st1,aj _,dD.refl,l1,.nilI,h1⟩,?_⟩
  rintro i m ys H' ⟨hi,rfl,hy,μ',jt,bu,pm,xm,lm,ra,hm⟩
  by_cases hlt:i<k.1.length
  ·rw[fC hlt]at hm
   unfold ni at hm
   by_cases ck:jh bu k.2
   ·rw[aq ck]at hm
    obtain⟨go,yld⟩:=(wk i μ' bu H' pm xm lm.sto ck).1 _ (ae hlt)
    refine .inr ⟨go,fun x H2 hy2=>?_⟩
    obtain⟨y1,y2,y3⟩:=yld x H2 hy2
    cases hf:f k.1[i] (oG cap ρ)with
    |none=>rw[hf]at hm;exact hm.elim
    |some ρ2=>
     rw[hf]at hm
     simp only at hm
     have lb:Rl X μ' (oG cap ρ) bu (oN cap σ) H2:=⟨P3 (lm.to (aj _) y1 y2).env cap,y2⟩
     refine⟨μ',oG cap ρ,bu,k.1[i],ρ2,lb,y3,hf,fun σ2 l2=>?_⟩
     cases ht:t ρ2 bu with
     |bad=>rw[ht]at hm;exact hm.elim
     |ex c s=>rw[ht]at hm;exact hm.elim
     |ok kk dw=>
      rw[ht]at hm
      refine⟨μ',ρ2,bu,kk,dw,l2,ht,fun μ3 b3 H3 p3 x3 S3 q3=>?_⟩
      cases q3
      cases kk with
      |false=>
       exact⟨_,by omega,hlt,rfl,by omega,μ3,jt,dw,pm.trans p3,xm.trans (y1.trans x3),lm.to p3 (y1.trans x3) S3,ra.mono p3 (y1.trans x3),RK.mono hm p3 (y1.trans x3)⟩
      |true=>
       rw[aq rfl]
       simp only at hm
       cases he:el ρ2 dw with
       |bad=>rw[he]at hm;exact hm.elim
       |ex c s=>rw[he]at hm;exact hm.elim
       |ok w jB=>
        rw[he]at hm
        refine⟨μ3,ρ2,dw,w,jB,l2.to p3 x3 S3,he,fun μ4 b4 H4 p4 x4 S4 q4=>?_⟩
        have pp:=p3.trans p4
        have xx:=y1.trans (x3.trans x4)
        exact⟨ij hy (aU hlt (nI hz)),_,by omega,hlt,rfl,by simp;omega,μ4,jt++[w],jB,pm.trans pp,xm.trans xx,lm.to pp xx S4,(ra.mono pp xx).app (.consI q4 .nilI),RK.mono hm pp xx⟩
   ·rw[ax ck]at hm;exact hm.elim
  ·have hi':i=k.1.length:=by omega
   subst hi'
   rw[mX (ay _)]at hm
   unfold ni at hm
   by_cases ck:jh bu k.2
   ·rw[aq ck]at hm
    obtain⟨z1,z2⟩:=sK lm.sto ra hm
    exact .inl ⟨(wk _ μ' bu H' pm xm lm.sto ck).2 (ay _),z1,fun p hp=>z2 p _ hp rfl⟩
   ·rw[ax ck]at hm;exact hm.elim
 ·rw[ax hz]at h1;exact h1.elim
section
variable{X:Cx}{qk tg eh:Expr}{nZ:List Expr}{scope:Scope}{pos:Pos}{nm:List Str}{cap:List (Option Nat)}{fi:FI}{f:FG}{t:FT}{el:FE}{m:Nat}
theorem Ua{X X':Cx}{e:Expr}{f:FE}(hK:X'.K=X.K)(hm:X'.mg=X.mg)(h:SE X' e f):QE X' e (RY X (rO X) f):=⟨h.h.imp fun σ H Q ⟨μ,ρ,st,a,bu,l,e,q⟩=>⟨μ,ρ,st,⟨by rw[hK];exact l.env,by rw[hK,hm];exact l.sto⟩,by rw[e];exact fun μ' b H' p x S r=>q μ' b H' p (by rw[<- hK];exact x) (by rw[<- hK,<- hm];exact S) (by show bf X.K μ' H' a b;rw[<- hK];exact r)⟩⟩
theorem Ub{X X':Cx}{e:List Expr}{f:FT}(hK:X'.K=X.K)(hm:X'.mg=X.mg)(h:P4 X' e f):SX X' e (RY X L_ f):=⟨h.h.imp fun σ H Q ⟨μ,ρ,st,a,bu,l,e,q⟩=>⟨μ,ρ,st,⟨by rw[hK];exact l.env,by rw[hK,hm];exact l.sto⟩,by rw[e];exact fun μ' b H' p x S r=>q μ' b H' p (by rw[<- hK];exact x) (by rw[<- hK,<- hm];exact S) r⟩⟩
theorem Uc{X X':Cx}{e:Expr}{f:FG}(hK:X'.K=X.K)(hm:X'.mg=X.mg)(h:SG X' e f):QG X' e (RW X f):=⟨h.h.imp fun v σ H Q ⟨μ,ρ,st,w,ρ',l,r,e,q⟩=>⟨μ,ρ,st,w,ρ',⟨by rw[hK];exact l.env,by rw[hK,hm];exact l.sto⟩,by rw[hK];exact r,e,fun σ' l'=>q σ' ⟨by rw[<- hK];exact l'.env,by rw[<- hK,<- hm];exact l'.sto⟩⟩⟩
theorem sP(hB:Ck X.env.scope.names scope.names nm cap X.N=true)(ig:X.env.cells=cellsFrom m X.env.scope.names [])(hi:SI X tg eh fi)(hg:∀cl C s0 H0 fp,SG (cK X nm scope cl C s0 H0 fp) tg f)(ht:∀cl C s0 H0 fp,P4 (cK X nm scope cl C s0 H0 fp) nZ t)
  (he:∀cl C s0 H0 fp,SE (cK X nm scope cl C s0 H0 fp) qk el) (kN:X.calm=true:=by rfl) (jn:scope.kind=.function:=by rfl) (hs:∀x,foldedSetIterable eh X.env x=pure x:=by intro _;rfl) :
  SE X (.ListComp qk [⟨tg,eh,nZ,0⟩] scope pos) (hX cap fi f t el):=
 ⟨(L5 kN ig jn hB ⟨hi.h⟩ (fun cl C s0 H0 fp=>Uc (X:=X) rfl rfl (hg cl C s0 H0 fp)) (fun cl C s0 H0 fp=>Ub (X:=X) rfl rfl (ht cl C s0 H0 fp)) (fun cl C s0 H0 fp=>Ua (X:=X) rfl rfl (he cl C s0 H0 fp)) hs).h.imp fun _ _ _ h=>Ez h⟩
theorem zR{x0:Str}{p0 p1:Pos}{i:Nat}(Rt:SG X (.Name x0 p0) (hZ i))(hB:Ck X.env.scope.names scope.names nm cap X.N=true)(ig:X.env.cells=cellsFrom m X.env.scope.names [])(hi:SI X tg eh fi)(hg:∀cl C s0 H0 fp,SG (cK X nm scope cl C s0 H0 fp) tg f)(ht:∀cl C s0 H0 fp,P4 (cK X nm scope cl C s0 H0 fp) nZ t)
  (he:∀cl C s0 H0 fp,SE (cK X nm scope cl C s0 H0 fp) qk el) (kN:X.calm=true:=by rfl) (jn:scope.kind=.function:=by rfl) (hs:∀x,foldedSetIterable eh X.env x=pure x:=by intro _;rfl)
  (Ry:swapsWith (.ListComp qk [⟨tg,eh,nZ,0⟩] scope pos) (some (.Name x0 p0)) p1.line X.env=pure true:=by first|rfl|kernel_rfl) :
  SS X (.Assign [.Name x0 p0] (.ListComp qk [⟨tg,eh,nZ,0⟩] scope pos) p1) (CB (hX cap fi f t el) (hZ i)):=
 ⟨(zM ⟨Rt.h⟩ kN ig jn hB ⟨hi.h⟩ (fun cl C s0 H0 fp=>Uc (X:=X) rfl rfl (hg cl C s0 H0 fp)) (fun cl C s0 H0 fp=>Ub (X:=X) rfl rfl (ht cl C s0 H0 fp)) (fun cl C s0 H0 fp=>Ua (X:=X) rfl rfl (he cl C s0 H0 fp)) hs Ry).h.imp fun D σ H h=>by
  obtain⟨μ,ρ,st,l,h⟩:=h
  have h':tE X (hX cap fi f t el) σ H fun x H1=>RW X (hZ i) x σ H1 D.nx:=⟨μ,ρ,st,l,RK.stmt h l fun μ1 st1 x v H1 p1 x1 l1 q1 h1=>⟨μ1,ρ,st1,x,ρ.set i (some x),l1,q1,rfl,fun σ' l'=>h1 μ1 σ' H1 (aj _) dD.refl l'⟩⟩
  exact Ez h'⟩
end
section
variable{X:Cx}{a b c e o tg:Expr}{es:List Expr}{pos p p2 gW eJ:Pos}{x name:Str}{fa fb fc fe fo:FE}{fs:FA}
theorem qF{μ:List Addr}{H:Hp}{ws:List W}{mP:List V}(hr:∀μ H,RelWs X.K μ H ws mP):zP X (Pj mP) (ws,none) μ H:=fun i μ' bu H' pp xx S _=>by
 have hl:ws.length=mP.length:=(hr μ H).len
 refine⟨fun w hw=>?_,fun h=>by show mP.length<=i;rw[<- hl];exact h⟩
 obtain⟨v,g1,g2⟩:=(hr μ' H').get hw
 refine⟨(ai.mp g1).1,fun y H'' hy=>?_⟩
 obtain⟨rfl,hy⟩:=hy
 rw[g1]at hy;cases hy
 exact⟨dD.refl,S,g2⟩
def dC(l:List Nat):List W:=l.map fun c=>.str [c]
theorem qG(l:List Nat)(μ:List Addr)(H:Hp):RelWs X.K μ H (dC l) (gH l):=by
 induction l with
 |nil=>exact .nilI
 |cons a r ih=>exact .consI .str ih
def JS(fe:FE):FI:=fun ρ st=>(fe ρ st).bind fun x st=>match x with
 |.str l=>.ok (dC l,none) st
 |_=>.bad
theorem Mi(he:SE X e fe):SI X tg e (JS fe):=⟨(L0 he.h).imp fun σ H R h=>by
 obtain⟨μ,ρ,st,l,h⟩:=h
 refine⟨μ,ρ,st,l,RK.bind h l fun μ1 st1 x v H1 p1 x1 l1 q1 h1=>?_⟩
 cases x with
 |str z=>exact⟨z,q1.strE,h1 μ1 _ H1 (aj _) dD.refl l1.sto (qF (qG z))⟩
 |_=>exact h1.elim⟩
def eG(fe:FE):FI:=fun ρ st=>(fe ρ st).bind fun x st=>match x with
 |.tup ws=>.ok (ws,none) st
 |.loc n=>(match lstOf st n with
  |some ws=>.ok (ws,some (n,ws)) st
  |none=>.bad)
 |.str l=>.ok (dC l,none) st
 |_=>.bad
theorem gJ(he:SE X e fe):SI X tg e (eG fe):=⟨fun af s σ H Rr I h=>by
 obtain⟨μ,ρ,st,l,h⟩:=h
 cases e1:fe ρ st with
 |bad=>simp only[eG,e1,R.bind_bad]at h;exact h.elim
 |ex c st1=>
  refine(Ev (tg:=tg) he).h af s σ H Rr I ⟨μ,ρ,st,l,?_⟩
  simp only[eG,Eu,e1,R.bind_ex]at h ⊢;exact h
 |ok w st1=>
  cases w with
  |tup ws=>
   refine(Ev (tg:=tg) he).h af s σ H Rr I ⟨μ,ρ,st,l,?_⟩
   simp only[eG,Eu,e1,R.bind_ok]at h ⊢;exact h
  |loc n=>
   refine(Mg (tg:=tg) he).h af s σ H Rr I ⟨μ,ρ,st,l,?_⟩
   simp only[eG,JQ,e1,R.bind_ok]at h ⊢;exact h
  |str z=>
   refine(Mi (tg:=tg) he).h af s σ H Rr I ⟨μ,ρ,st,l,?_⟩
   simp only[eG,JS,e1,R.bind_ok]at h ⊢;exact h
  |_=>simp only[eG,e1,R.bind_ok]at h;exact h.elim⟩
def nN(ws:List W):List W:=(List.range ws.length).map fun(i:Nat)=>W.tup [.int i,ws.getD i .non]
theorem uP{ws:List W}{i:Nat}{w:W}(h:(nN ws)[i]?=some w):∃y,ws[i]?=some y/\w=.tup [.int i,y]:=by
 unfold nN at h
 rw[aD]at h
 by_cases hi:i<ws.length
 ·rw[eT hi]at h
  refine⟨ws[i],ae hi,?_⟩
  have:=(aS h).symm
  rw[this]
  show W.tup [W.int i,ws.getD i W.non]=_
  rw[av,ae hi];rfl
 ·rw[b9 (by simpa using hi)]at h;cases h
theorem CF(ws:List W):(nN ws).length=ws.length:=by simp[nN]
def vL(fs:FA):FI:=fun ρ st=>(fs ρ st).bind fun ws st=>match ws with
 |[.tup zs]=>.ok (nN zs,none) st
 |_=>.bad
theorem Il{tY:List Expr}{kk:Nat}{tp:Pos}(hm:X.mg "enumerate"=none)(ha:SA X [a] fs)(hg:Gl X "enumerate":=by rfl)(hs:starEach [a] X.env=[(false,eval a X.env)]:=by rfl) :
  SI X (.Tuple tY kk tp) (.Call (.Name "enumerate" p) [a] [] pos) (vL fs):=⟨(D8 hm ⟨ha.h⟩ hg hs).h.imp fun σ H R h=>by
 obtain⟨μ,ρ,st,l,h⟩:=h
 refine⟨μ,ρ,st,l,RK.bind h l fun μ1 st1 x v H1 p1 x1 l1 q1 h1=>?_⟩
 split at h1
 ·rename_i zs
  obtain⟨y,rfl,ry⟩:=q1.one
  obtain⟨p,vs,rfl,hS,r⟩:=ry.tupE
  refine⟨p,rfl,⟨vs,hS⟩,h1 μ1 _ H1 (aj _) dD.refl l1.sto fun i μ' bu H' pp xx S _=>⟨fun w hw=>?_,fun hl=>⟨vs,xx _ _ hS,by rw[CF]at hl;rw[<- r.len];exact hl⟩⟩⟩
  obtain⟨y,hy,rfl⟩:=uP hw
  have r':=r.mono pp xx
  obtain⟨v,g1,g2⟩:=r'.get hy
  refine⟨⟨vs,v,xx _ _ hS,g1⟩,fun z H'' hz=>?_⟩
  obtain⟨q,hq,rfl,hH⟩:=hz
  have e:=hH vs v (xx _ _ hS) g1
  subst e
  have ex:=fQ.same (K:=X.K) (cY hq (.tup [.int i,v]))
  exact⟨ex,S.same (cY hq _),.tupI fQ.new (.consI .int (.consI (g2.mono (aj _) ex) .nilI))⟩
 ·exact h1.elim⟩
def uj(fa:FE):FE:=fun ρ st=>(fa ρ st).bind fun x st=>match x with
 |.int i=>.ok (.int (-i)) st
 |_=>.bad
theorem xO(ha:SE X a fa):SE X (.UnaryOp .USub a pos) (uj fa):=⟨(Jx LJ ha.h).imp fun σ H Q h=>by
 obtain⟨μ,ρ,st,l,h⟩:=h
 refine⟨μ,ρ,st,l,RK.bind h l fun μ1 st1 x v H1 p1 x1 l1 q1 h1=>?_⟩
 cases x with
 |int k=>exact⟨k,q1.intE,h1 μ1 _ H1 (aj _) dD.refl l1.sto .int⟩
 |_=>exact h1.elim⟩
def Ta(x y:W)(st:List al):R W:=match x,y with
 |.int i,.int j=>.ok (.bl (decide (i<=j))) st
 |.str [c],.str [d]=>.ok (.bl (decide (c<=d))) st
 |_,_=>.bad
end
def vM(c:Nat):List Nat->List Nat
 |[]=>[c]
 |d::r=>if c<d then c::d::r else if c=d then d::r else d::vM c r
def kJ(l:List Nat):List Nat:=l.foldr vM []
theorem sQ{c x:Nat}:∀{l:List Nat},x∈vM c l↔x=c\/x∈l
 |[]=>by simp[vM]
 |d::r=>by
  unfold vM
  split
  ·simp
  ·split
   ·rename_i h;subst h;simp
   ·simp only[aM,sQ]
    constructor
    ·rintro(h|h|h)<;>simp[h]
    ·rintro(h|h|h)<;>simp[h]
theorem Bj{c:Nat}:∀{l:List Nat},l.Pairwise (· < ·)->(vM c l).Pairwise (· < ·)
 |[],_=>by simp[vM]
 |d::r,h=>by
  obtain⟨h1,h2⟩:=bF.mp h
  unfold vM
  split
  ·rename_i hc
   refine bF.mpr ⟨fun x hx=>?_,h⟩
   rcases aM.mp hx with rfl|hx
   ·exact hc
   ·exact Nat.lt_trans hc (h1 x hx)
  ·split
   ·exact h
   ·rename_i hc hd
    refine bF.mpr ⟨fun x hx=>?_,Bj h2⟩
    rcases sQ.mp hx with rfl|hx
    ·omega
    ·exact h1 x hx
theorem j6{x:Nat}{l:List Nat}:x∈kJ l↔x∈l:=by
 induction l with
 |nil=>simp[kJ]
 |cons a r ih=>show x∈vM a (kJ r)↔_;rw[sQ,ih];simp
theorem pY(l:List Nat):(kJ l).Pairwise (· < ·):=by
 induction l with
 |nil=>exact List.Pairwise.nil
 |cons a r ih=>exact Bj ih
theorem EA:∀{l m:List Nat},l.Pairwise (· < ·)->m.Pairwise (· < ·)->(∀x,x∈l↔x∈m)->l=m
 |[],[],_,_,_=>rfl
 |[],b::m,_,_,h=>by have:=(h b).mpr (by simp);simp at this
 |a::l,[],_,_,h=>by have:=(h a).mp (by simp);simp at this
 |a::l,b::m,h1,h2,h=>by
  obtain⟨p1,p2⟩:=bF.mp h1
  obtain⟨q1,q2⟩:=bF.mp h2
  have e:a=b:=by
   rcases aM.mp ((h a).mp (by simp))with z|z
   ·exact z
   ·rcases aM.mp ((h b).mpr (by simp))with y|y
    ·exact y.symm
    ·have:=p1 b y;have:=q1 a z;omega
  subst e
  rw[EA p2 q2 fun x=>?_]
  constructor
  ·intro hx
   rcases aM.mp ((h x).mp (aH _ hx))with z|z
   ·subst z;exact absurd (p1 x hx) (cV _)
   ·exact z
  ·intro hx
   rcases aM.mp ((h x).mpr (aH _ hx))with z|z
   ·subst z;exact absurd (q1 x hx) (cV _)
   ·exact z
def zS(c:List Nat):List (List Nat)->List (List Nat)
 |[]=>[c]
 |d::r=>if c<d then c::d::r else d::zS c r
def fA(l:List (List Nat)):List (List Nat):=l.foldr zS []
theorem qH(c:List Nat):∀l:List (List Nat),(zS c l).Perm (c::l)
 |[]=>gN _
 |d::r=>by
  unfold zS
  split
  ·exact gN _
  ·exact((qH c r).cons d).trans (List.Perm.swap c d r)
theorem dX(l:List (List Nat)):(fA l).Perm l:=by
 induction l with
 |nil=>exact gN _
 |cons a r ih=>exact(qH a _).trans (ih.cons a)
def Im:List (List Nat)->Prop:=List.Pairwise fun a b=>¬ b<a
theorem Bm(c:List Nat):∀{l:List (List Nat)},Im l->Im (zS c l)
 |[],_=>by simp[zS,Im]
 |d::r,h=>by
  obtain⟨h1,h2⟩:=bF.mp h
  unfold zS
  split
  ·rename_i hc
   refine bF.mpr ⟨fun x hx=>?_,h⟩
   rcases aM.mp hx with rfl|hx
   ·exact fun z=>List.lt_irrefl _ (List.lt_trans z hc)
   ·exact fun z=>h1 x hx (List.lt_trans z hc)
  ·rename_i hc
   refine bF.mpr ⟨fun x hx=>?_,Bm c h2⟩
   rcases aM.mp ((qH c r).mem_iff.mp hx)with rfl|hx
   ·exact hc
   ·exact h1 x hx
theorem xP(l:List (List Nat)):Im (fA l):=by
 induction l with
 |nil=>exact List.Pairwise.nil
 |cons a r ih=>exact Bm a ih
theorem vN:∀{l m:List (List Nat)},Im l->Im m->l.Perm m->l=m
 |[],m,_,_,h=>(List.Perm.nil_eq h)
 |a::l,[],_,_,h=>(by have:=h.length_eq;simp at this)
 |a::l,b::m,h1,h2,h=>by
  obtain⟨p1,p2⟩:=bF.mp h1
  obtain⟨q1,q2⟩:=bF.mp h2
  have e:a=b:=by
   rcases aM.mp (h.mem_iff.mp (by simp:a∈a::l))with z|z
   ·exact z
   ·rcases aM.mp (h.mem_iff.mpr (by simp:b∈b::m))with y|y
    ·exact y.symm
    ·exact List.le_antisymm (show a<=b from p1 b y) (show b<=a from q1 a z)
  subst e
  rw[vN p2 q2 (List.perm_cons a |>.mp h)]
theorem sR:∀{zs:List (List Nat)},sortedS (zs.map tx)=true->Im zs:=by
 have key:∀(zs:List (List Nat)) (p:List Nat),risingS (tx p) (zs.map tx)=true->Im (p::zs):=by
  intro zs
  induction zs with
  |nil=>intro p _;simp[Im]
  |cons a r ih=>
   intro p h
   have h':(!ltCps a p&&risingS (tx a) (r.map tx))=true:=h
   rw[bN,fK,ltCps_eq,l9]at h'
   have u:=ih a h'.2
   refine bF.mpr ⟨fun x hx=>?_,u⟩
   rcases aM.mp hx with rfl|hx
   ·exact h'.1
   ·have:=(bF.mp u).1 x hx
    exact List.not_lt.mpr (List.le_trans (List.not_lt.mp h'.1) (List.not_lt.mp this))
 intro zs h
 cases zs with
 |nil=>exact List.Pairwise.nil
 |cons a r=>exact key r a h
section
variable{X:Cx}{a b c e o tg:Expr}{es:List Expr}{pos p p2 gW eJ:Pos}{x name:Str}{fa fb fc fe fo:FE}{fs:FA}
def oo(ws:List W)(st:List al):R W:=match ws with
 |[.loc n]=>rR (lstOf st n) fun zs=>rR (kI zs) fun ls=>if ls.length<64 then .ok (.loc st.length) (st++[.lst ((fA ls).map W.str)])else .bad
 |_=>.bad
theorem xQ{K:Frag}{μ:List Addr}{H:Hp}(ls:List (List Nat)):RelWs K μ H (ls.map W.str) (ls.map fun l=>V.str (tx l)):=by
 induction ls with
 |nil=>exact .nilI
 |cons a r ih=>exact .consI .str ih
theorem xR:oQ X (.builtin "sorted") oo:=⟨fun af s σ H vs us Q I rv ⟨μ,st,ws,S,r,q⟩=>by
 unfold oo at q
 split at q
 ·rename_i n
  obtain⟨y,rfl,ry⟩:=r.one
  cases e1:lstOf st n with
  |none=>rw[e1]at q;exact q.elim
  |some zs=>
   rw[e1,eQ]at q
   cases e2:kI zs with
   |none=>rw[e2]at q;exact q.elim
   |some ls=>
    rw[e2,eQ]at q
    split at q
    ·rename_i c
     obtain⟨a,vs,g,hS,rz⟩:=S.lstOf e1
     obtain⟨b1,f1,rfl⟩:=ry.locE
     rw[g]at f1;cases f1
     have:=pX e2 rz
     subst this
     refine ub.h af s σ H _ us Q I rv ⟨_,ls,rfl,hS,c,fun zs hp hs l H2 hl eH=>?_⟩
     subst eH
     have ez:zs=fA ls:=vN (sR hs) (xP ls) (hp.trans (dX ls).symm)
     subst ez
     exact q (μ++[l]) _ _ (aR _ _) (fQ.same (cY hl _)) (S.newLst hl (xQ _)) (qB S)
    ·exact q.elim
 ·exact q.elim,fun ws st=>by
 unfold oo
 split
 ·exact pV fun _=>pV fun _=>by split<;>trivial
 ·trivial⟩
def j7:List W->Option (List Nat)
 |[]=>some []
 |.str [c]::ws=>(j7 ws).map (c :: ·)
 |_=>none
theorem pZ{K:Frag}{μ:List Addr}{H:Hp}:∀{ws:List W} {l:List Nat} {vs:List V},j7 ws=some l->RelWs K μ H ws vs->vs=gH l
 |[],l,vs,h,r=>by simp only[j7]at h;cases h;exact r.nilE
 |w::ws,l,vs,h,r=>by
  obtain⟨x,xs,rfl,rx,rs⟩:=r.consE
  unfold j7 at h
  split at h
  ·rename_i e;cases e
  ·rename_i c RN e
   cases e
   cases e2:j7 ws with
   |none=>rw[e2]at h;cases h
   |some l'=>rw[e2]at h;cases h;rw[rx.strE,pZ e2 rs];rfl
  ·cases h
def sT:W->Option (List Nat)
 |.str l=>some l
 |.tup ws=>j7 ws
 |_=>none
def p5(fe:FE):FE:=fun ρ st=>(fe ρ st).bind fun x st=>rR (sT x) fun l=>if l.length<4000/\(kJ l).length<64 then .ok (.loc st.length) (st++[.lst (dC (kJ l))])else .bad
theorem k_{m l:List Nat}(hm:m.Nodup)(h:∀c∈m,c∈l):m.length<=l.length:=by
 induction m generalizing l with
 |nil=>exact ca _
 |cons a r ih=>
  obtain⟨h1,h2⟩:=bP.mp hm
  have ha:a∈l:=h a (by simp)
  have:=ih h2 (l:=l.erase a) fun c hc=>by
   have:c≠a:=fun z=>h1 (z▸hc)
   exact(List.mem_erase_of_ne this).mpr (h c (aH _ hc))
  rw[List.length_erase_of_mem ha]at this
  have:0<l.length:=List.length_pos_of_mem ha
  simp;omega
theorem CG{p1 p2 Og Jp:Pos}(h1:X.mg "sorted"=none)(h3:X.mg "set"=none)(he:SE X e fe)(hc:X.calm=true:=by rfl)
  (Tw:Gl X "sorted":=by rfl) (TC:Gl X "set":=by rfl) (Se:starEach [e] X.env=(false,eval e X.env)::starEach [] X.env:=by rfl):SE X (.Call (.Name "sorted" p1) [.Call (.Name "set" p2) [e] [] Jp] [] Og) (p5 fe):=⟨(Cs h1 h3 ⟨he.h⟩ hc Tw TC Se).h.imp fun σ H Q h=>by
 obtain⟨μ,ρ,st,l,h⟩:=h
 refine⟨μ,ρ,st,l,RK.bind h l fun μ1 st1 x v H1 p1 x1 l1 q1 h1=>?_⟩
 cases e1:sT x with
 |none=>rw[e1]at h1;exact h1.elim
 |some ll=>
  rw[e1,eQ]at h1
  split at h1
  ·rename_i c
   refine⟨ll,?_,c.1,fun m hm hsub=>?_,fun m zq hup hmem a H2 ha eH=>?_⟩
   ·cases x with
    |str z=>cases e1;exact .inl q1.strE
    |tup ws=>obtain⟨p,vs,rfl,hS,r⟩:=q1.tupE;have:=pZ e1 r;subst this;exact .inr ⟨p,rfl,hS⟩
    |_=>cases e1
   ·exact ij (k_ hm fun c hc=>j6.mpr (hsub c hc)) c.2
   ·subst eH
    have em:m=kJ ll:=by
     refine EA ((List.Pairwise.and hup zq).imp fun z=>Nat.lt_of_le_of_ne z.1 z.2) (pY ll) fun x=>?_
     rw[hmem,j6]
    subst em
    exact h1 (μ1++[a]) _ _ (aR _ _) (fQ.same (cY ha _)) (l1.sto.newLst ha (qG (X:=X) _ _ _)) (qB l1.sto)
  ·exact h1.elim⟩
end
def W.ty:W->Option String
 |.non=>some "NoneType" | .bl _=>some "bool" | .int _=>some "int" | .str _=>some "str" | .tup _=>some "tuple" | .loc _=>none
def Io(t T:String):Bool:=(t==T)||(t == "bool" && T == "int")
theorem P5{K:Frag}{T:String}(h:D5 T){w:W}{t:String}(hw:w.ty=some t):PySem.W.kitOne K (.type t) (.type T)=some (Io t T):=by
 cases w<;>simp only[W.ty]at hw<;>cases hw<;>(rcases h with rfl|rfl|rfl|rfl<;>rfl)
def lL(T:String)(fa:FE):FE:=fun ρ st=>(fa ρ st).bind fun x st=>match x.ty with
 |some t=>.ok (.bl (Io t T)) st
 |none=>.bad
section
variable{X:Cx}{a b c e o tg:Expr}{es:List Expr}{pos p p2 gW eJ:Pos}{x name:Str}{fa fb fc fe fo:FE}{fs:FA}
theorem jk{T:String}{xT:Str}(hm:X.mg "isinstance"=none)(hT:X.mg xT=none)(hv:bootBuiltins xT=some (.type T))(ha:SE X a fa)(hk:D5 T:=by first|exact .inl rfl|exact .inr (.inl rfl)|exact .inr (.inr (.inl rfl))|exact .inr (.inr (.inr rfl)))
  (hg:Gl X "isinstance":=by rfl) (UK:Gl X xT:=by rfl) (hn:xT ≠ "__name__":=by decide) (hd:(xT==("__debug__":Str))=false:=by decide)
  (he:starEach [a,.Name xT p2] X.env=(false,eval a X.env)::starEach [.Name xT p2] X.env:=by rfl) (TH:starEach [.Name xT p2] X.env=(false,eval (.Name xT p2) X.env)::starEach [] X.env:=by rfl) (lq:(backTo pos (starEach [.Name xT p2] X.env)).any (·.1)=false:=by rfl) :
  SE X (.Call (.Name "isinstance" p) [a,.Name xT p2] [] pos) (lL T fa):=by
 have C:hV X (.builtin "isinstance") (fun xs H Q=>∃x μ st w t,xs=[x,.ty T]/\gn X.K X.mg μ st H/\bf X.K μ H w x/\w.ty=some t/\Q (.bl (Io t T)) H):=by
  intro af s σ H xs us Q I r h
  obtain⟨x,μ,st,w,t,rfl,S,rx,ht,q⟩:=h
  obtain⟨u,u2,rfl,r1,r2⟩:=cw.two r
  obtain rfl:u2=.type T:=r2
  have e:=P5 (K:=X.K) hk ht
  cases w with
  |tup ws=>
   cases ht
   obtain⟨p,vs,rfl,hS,_⟩:=rx.tupE
   cases(show u=Value.ref p from r1)
   obtain⟨bI,_,hp,_⟩:=I.tuple hS
   obtain⟨o,h1,h2,_⟩:=hp
   exact kia_one PySem.W.kitx_tuple I.kIn ⟨o,h1,h2⟩ e (fun z=>nomatch z) fun tk=>⟨.bl _,H,I.tok tk,rfl,q⟩
  |non=>cases ht;cases rx.nonE;exact n9 I r1 .non e fun tk=>⟨.bl _,H,I.tok tk,rfl,q⟩
  |bl b=>cases ht;cases rx.blE;exact n9 I r1 (.bl _) e fun tk=>⟨.bl _,H,I.tok tk,rfl,q⟩
  |int b=>cases ht;cases rx.intE;exact n9 I r1 (.int _) e fun tk=>⟨.bl _,H,I.tok tk,rfl,q⟩
  |str b=>cases ht;cases rx.strE;exact n9 I r1 (.str _) e fun tk=>⟨.bl _,H,I.tok tk,rfl,q⟩
  |loc b=>cases ht
 refine⟨(wY C hg hm boot_isinstance (rZ ha.h (rZ (Hj UK hT hv (v:=.ty T) rfl hn hd) zx TH) he) (by decide) (by decide) he lq).imp fun σ H Q h=>?_⟩
 obtain⟨μ,ρ,st,l,h⟩:=h
 refine⟨μ,ρ,st,l,RK.bind h l fun μ1 st1 x v H1 p1 x1 l1 q1 h1=>?_⟩
 cases ht:x.ty with
 |none=>rw[ht]at h1;exact h1.elim
 |some t=>
  rw[ht]at h1
  exact⟨v,μ1,st1,x,t,rfl,l1.sto,q1,ht,h1 μ1 _ H1 (aj _) dD.refl l1.sto .bl⟩
theorem xS{P:Program}{w:World}{K:Frag}{mg:Str->Option Value}{base:Heap}{k n:Nat}{x:Str}{st:Stmt}{f:Addr}{fd:FuncData}{ps:List Str}
  (F:iY K x x st f fd) (hm:mg x=some (.ref f)) (hn:ps.length=n)
  (hb:∀(kV i9 pm:Value) (an:Option Addr) (fT ct:Value) (us:List Value),us.length=ps.length->bindArgs (fnOf x x (eK st) (ef st) (aI st) .none kV i9 pm an fT ct) ⟨us,[]⟩=pure (ps.zip us)) :
  bK P w K mg base k x n (fun _ _=>.bad):=r_ F hm hn hb ⟨fun vs H Q E h=>by rw[hn];exact h.1,fun _ _ _ _ _ _ _ _ _ _ _ _ _ h=>by obtain⟨_,_,_,_,_,_,z⟩:=h;exact z.elim⟩
end
abbrev Cx.within(X:Cx)(v:Value):Cx:={ X with A:=X.A.mark (some v),calm:=false,xe:=fun _ _=>False }
theorem Cx.Ok.within{X:Cx}(k:X.Ok)(v:Value):(X.within v).Ok:=⟨k.mod,k.kind,k.glob,k.blt,k.above,k.inj,k.has,k.cab,(fun z=>by cases z),k.frames,k.stk,k.exf,k.bs,k.bsz,k.noex,k.exfs,k.funs,k.frf⟩
section
variable{X:Cx}{af:List (Addr×Obj)}{σ:St}{H:Hp}{s:Shared}
theorem bw.within(I:bw X af σ H s)(v:Value):bw (X.within v) af σ H s:=⟨I.ok.within v,I.os,I.bare,I.base,I.loc,I.cell,I.free,I.freeC,I.pin,I.hok,I.len⟩
theorem bw.out{v:Value}(ok:X.Ok)(I:bw (X.within v) af σ H s):bw X af σ H s:=⟨ok,I.os,I.bare,I.base,I.loc,I.cell,I.free,I.freeC,I.pin,I.hok,I.len⟩
end
open AutoSeq1 (wpAny_loadPart')
section
variable{X:Cx}
end
section
variable{X:Cx}{a b c e o tg:Expr}{es:List Expr}{pos p p2:Pos}{fa fb fe fo:FE}{fs:FA}
def zT(fs:FA):FI:=fun ρ st=>(fs ρ st).bind fun ws st=>match ws with
 |[.str l]=>if l.length<=1000000 then .ok (dC l.reverse,none) st else .bad
 |_=>.bad
theorem Ip(hm:X.mg "reversed"=none)(ha:SA X [a] fs)(hg:Gl X "reversed":=by rfl)(hs:starEach [a] X.env=(false,eval a X.env)::starEach [] X.env:=by rfl) :
  SI X tg (.Call (.Name "reversed" p) [a] [] pos) (zT fs):=⟨(Ib hm ⟨ha.h⟩ hg hs).h.imp fun σ H R h=>by
 obtain⟨μ,ρ,st,l,h⟩:=h
 refine⟨μ,ρ,st,l,RK.bind h l fun μ1 st1 x v H1 p1 x1 l1 q1 h1=>?_⟩
 split at h1
 ·obtain⟨y,rfl,ry⟩:=q1.one
  split at h1
  ·rename_i cc
   exact⟨_,by rw[ry.strE],cc,h1 μ1 _ H1 (aj _) dD.refl l1.sto (qF (qG _))⟩
  ·exact h1.elim
 ·exact h1.elim⟩
end
def Tb(i:Nat):RS->RS
 |.nx ρ st=>.nx (ρ.set i none) st
 |.bk ρ st=>.bk (ρ.set i none) st
 |.ct ρ st=>.ct (ρ.set i none) st
 |.rt w st=>.rt w st
 |_=>.bad
section
variable{prog:Program}{w:World}{A:Around}{E:Value->Shared->Prop}{h:Heap}{g:Array GenState}{d:Drawn}{t:Nat}{os:OsState}{a:Addr}{o:Obj}
 {nm q:Str} {C N:Addr} {bs bm:List Value} {UF:Bool} {sn:List Str} {sub:List Value} {ab:Bool} {col:Option Bool} {dd:Option Addr} {k0 k1 k2 k3 k5:Option Value} {Uf:String} {K:Frag}
end
section
variable{X:Cx}{a:Expr}{pos p p2:Pos}{fa:FE}
end
section
variable{X:Cx}{a:Expr}{pos p p2:Pos}{fa:FE}{es:List Expr}{k:Nat}
end
section
variable{X:Cx}
end
section
variable{X:Cx}
theorem sU{α:Type}(l:List α):∀(k:Nat) (jt:List α),List.foldl (fun x1 x2=>x1++x2) jt.toArray (List.replicate k l.toArray)=(jt++(List.replicate k l).flatten).toArray
 |0,jt=>by simp
 |k+1,jt=>by
  have e:jt.toArray++l.toArray=(jt++l).toArray:=by simp
  rw[List.replicate_succ,jI,e,sU l k (jt++l),List.replicate_succ,kW,bj]
theorem Mj(l:List Nat)(n:Int):Txt.mul (tx l) n=tx (List.replicate n.toNat l).flatten:=by
 unfold Txt.mul
 by_cases h:n<1
 ·rw[aq h,show n.toNat=0 by omega];rfl
 ·rw[ax h]
  split
  ·rename_i hc
   rw[c_,c7,c7,gG]at hc
   rcases hc with rfl|hc
   ·simp
   ·have:l=[]:=l_.mp hc
    subst this
    simp
  ·have:=sU l n.toNat []
   rw[jJ]at this
   show Str.mk _=Str.mk _
   congr 1
theorem Iq:k6 X (binaryOp .Mult) (fun x y H Q=>∃(l:List Nat) (k:Int),x=.str (tx l)/\y=.int k/\-(2^62)<=k/\k<2^62/\l.length*k.toNat<=1000000/\Q (.str (tx (List.replicate k.toNat l).flatten)) H):=by
 intro af s σ H x y v u Q I rx ry h
 obtain⟨l,k,rfl,rfl,h1,h2,h3,q⟩:=h
 obtain⟨t,rfl⟩:=rx
 obtain⟨t',rfl⟩:=ry
 refine SB.mul ⟨?_,?_,?_⟩ fun t2 tk=>⟨.str _,H,I.tok _,⟨t2,?_⟩,q⟩
 ·simp;omega
 ·intro hk hx
  rw[gG]
  intro hg
  have hk1:1<=k:=by omega
  have:k*((2^63-1)/k)<=2^63-1:=Int.mul_ediv_self_le (by omega)
  have h4:(2^63-1)<k*(l.length:Int):=by
   have:=Int.lt_mul_of_ediv_lt (a:=2^63-1) (b:=(l.length:Int)) (c:=k) (by omega) hg
   rw[m3];exact this
  have h5:k*(l.length:Int)=((l.length*k.toNat:Nat):Int):=by
   rw[ib,Int.toNat_of_nonneg (by omega),m3]
  rw[h5]at h4
  omega
 ·intro hk hx
  rw[gG]
  unfold Builtin.Str.tooLong
  rw[aG]
  have:(1000000:Nat)<=sizeLine:=by decide
  omega
 ·rw[Mj]
def jl:W->W->List al->R W
 |.int i,.int j,st=>if Ig i j then .ok (.int (i*j)) st else .bad
 |.str l,.int k,st=>if -(2^62)<=k/\k<2^62/\l.length*k.toNat<=lB then .ok (.str (List.replicate k.toNat l).flatten) st else .bad
 |_,_,_=>.bad
theorem jx:r6 X (binaryOp .Mult) jl:=⟨fun af s σ H x y v u Q I rv ru ⟨μ,st,wx,wy,S,rx,ry,q⟩=>by
 cases wx with
 |int i=>
  cases wy with
  |int j=>
   have q':Dv X μ H Q (PM (.int i) (.int j) st):=q
   exact PP.h af s σ H x y v u Q I rv ru ⟨μ,st,.int i,.int j,S,rx,ry,q'⟩
  |_=>exact q.elim
 |str l=>
  cases wy with
  |int k=>
   simp only[jl]at q
   split at q
   ·rename_i cc
    exact Iq af s σ H x y v u Q I rv ru ⟨l,k,rx.strE,ry.intE,cc.1,cc.2.1,cc.2.2,oh S q⟩
   ·exact q.elim
  |_=>exact q.elim
 |_=>cases wy<;>exact q.elim,fun x y st=>by
 unfold jl
 repeat' split
 all_goals trivial⟩
end
structure sV(k:Nat)(A:Around):Prop where
 dp:A.depth+2*k+5<recursionLimit
 un:A.units+16*k+200<cLine
theorem gB.h{k:Nat}{A:Around}(r:gB k A)(v:Option Value):sV k (A.mark v):=⟨r.dp,r.un⟩
theorem sV.mono{j k:Nat}{A:Around}(r:sV k A)(h:j<=k):sV j A:=⟨by have:=r.dp;omega,by have:=r.un;omega⟩
theorem sV.units{k:Nat}{A:Around}(r:sV k A):A.units+64<cLine:=by have:=r.un;omega
structure Bn(P:Program)(w:World)(K:Frag)(mg:Str->Option Value)(base:Heap)(CX:zo)(k:Nat)(f:Addr)(fd:FuncData)(ps:List Str)(sp:Sp):Prop where
 len:∀vs H Q E,sp vs H Q E->vs.length=ps.length
 run:∀(A:Around) (outer:List Env) (s:Shared) (H:Hp) (args:Args) (us:List Value) (vs:List V) (Q:VK) (E:XK),sV k A->rL P w K mg base A outer s H->BindsTo s fd args (ps.zip us)->cw vs us->sp vs H Q E ->
  codeAny (model P w) A (.call (.ref f) args) (CR CX outer P w H s Q E) s
theorem Bn.mono{P:Program}{w:World}{K:Frag}{mg:Str->Option Value}{base:Heap}{CX:zo}{j k:Nat}{f:Addr}{fd:FuncData}{ps:List Str}{sp:Sp}(F:Bn P w K mg base CX j f fd ps sp)(h:j<=k) :
  Bn P w K mg base CX k f fd ps sp:=⟨F.len,fun A outer s H args us vs Q E hr=>F.run A outer s H args us vs Q E (hr.mono h)⟩
structure Mk(P:Program)(w:World)(K:Frag)(mg:Str->Option Value)(base:Heap)(k:Nat)(x:Str)(n:Nat)(F:List W->List al->R W):Prop where
 ex:∃(f:Addr) (fd:FuncData) (ps:List Str),mg x=some (.ref f)/\keepIn K (.ref f)=true/\ps.length=n/\sB K fd ps []/\Bn P w K mg base (iC P w) k f fd ps (jr K mg n F)
theorem Mk.mono{P:Program}{w:World}{K:Frag}{mg:Str->Option Value}{base:Heap}{j k:Nat}{x:Str}{n:Nat}{F:List W->List al->R W}(h:Mk P w K mg base j x n F)(hj:j<=k):Mk P w K mg base k x n F:=by
 obtain⟨f,fd,ps,a,b,c,d,e⟩:=h.ex
 exact⟨f,fd,ps,a,b,c,d,e.mono hj⟩
section
variable{X:Cx}
variable{e:Expr}{es:List Expr}{pos p:Pos}{x:Str}{fs:FA}
end
section
variable{prog:Program}{w:World}{A:Around}{E:Value->Shared->Prop}{s:Shared}
theorem sW:∀(l:List Nat) (vs:List Value),vs.length=l.length->(∀(j:Nat) (v:Value),vs[j]?=some v->∃c u,l[j]?=some c/\v=.str (tx [c]) u)->StrsAre vs (l.map fun c=>tx [c])
 |[],[],_,_=>.nil
 |c::l,v::vs,hl,h=>by
  obtain⟨d,u,e,rfl⟩:=h 0 v rfl
  cases e
  exact .cons _ _ (sW l vs (Nat.succ.inj hl) fun j v hj=>h (j+1) v hj)
 |[],_::_,hl,_=>nomatch hl
 |_::_,[],hl,_=>nomatch hl
theorem xU{l:List Nat}{t:Tok}{Q:Value->Shared->Prop}(few:l.length<64)(hh:A.handled=none)
  (q:∀(s1:Shared) (g1:Heap) (out:Array Value) (ss:List Str) (e:Nat),(∀b o,s.heap.get? b=some o->s1.heap.get? b=some o)->s1.gens=s.gens->s1.drawn=s.drawn->s1.os=s.os->(∀b o,s1.heap.get? b=some o->g1.get? b=some o)->g1.get? s1.heap.objs.size=some (seqObj "list" out e) ->
   StrsAre out.toList ss->ss.Perm (l.map fun c=>tx [c])->sortedS ss=true->Q (.ref s1.heap.objs.size) { s1 with heap:=g1 }):wpAny (model prog w) A (call (.builtin "sorted") [.str (tx l) t]) Q E s:=by
 have hn:(tx l).cps.size=l.length:=by simp[tx]
 apply kA kind_sorted plain_sorted entry_sorted (args_sorted1 _)
 show wpAny _ _ (checkCount "sorted" 1 1 _ >>= _) _ _ _
 refine aa (am (aa (wpAny_collect_str (by simpa using hh) _ _ (fun s1 jt kp eg ed eo ha=>?_) (by rw[kO];omega))))
 have mi:StrsAre jt.toList (l.map fun c=>tx [c]):=by
  refine sW l _ (by rw[dM,ha.1,hn]) fun j v hj=>?_
  obtain⟨c,u,hc,e⟩:=ha.2 j v (by simpa using hj)
  exact⟨c,u,by simpa[tx]using hc,e⟩
 have hvl:jt.toList.length<64:=by rw[dM,ha.1,hn];exact few
 refine aa (wpAny_newList ?_ (by rw[kO];omega))
 have oL:(s1.heap.push (seqObj "list" jt.toList.toArray 0)).get? s1.heap.objs.size=some (seqObj "list" jt.toList.toArray 0):=au _ rfl
 refine aa (du (bb slot_list_sort ⟨_,oL,rfl⟩ entry_list_sort (list_sort_treeK strKind_oneLt oL mi.keysOf (fun a b r e=>keyKind_strs (by rw[<- e];exact mi)) hvl fun st a1 a2=>⟨_,rfl,?_⟩) (args_list_sort _)))
 obtain⟨ss,h1,h2,h3⟩:=sorted_out_str mi a1 a2
 obtain⟨e,he⟩:=sortedHeap_at (out:=(arrOf st).map (·.2)) oL
 refine am ⟨_,rfl,q s1 _ _ ss e kp eg ed eo (fun b o hb=>?_) he h1 h2 h3⟩
 rw[sortedHeap_old (ba (aE hb)) (by rw[bY];exact cZ (aE hb))]
 exact ak _ hb
end
section
variable{X:Cx}
def nO(ws:List W)(st:List al):R W:=match ws with
 |[.str l]=>if l.length<64 then .ok (.loc st.length) (st++[.lst ((fA (l.map fun c=>[c])).map W.str)])else .bad
 |[.loc n]=>oo [.loc n] st
 |_=>.bad
theorem vO(hc:X.calm=true:=by rfl):oQ X (.builtin "sorted") nO:=⟨fun af s σ H vs us Q I rv ⟨μ,st,ws,S,r,q⟩=>by
 unfold nO at q
 split at q
 ·rename_i l
  split at q
  ·rename_i c
   obtain⟨y,rfl,ry⟩:=r.one
   have:=ry.strE;subst this
   obtain⟨u,rfl,ru⟩:=oM rv
   obtain⟨t,rfl⟩:=ru
   refine xU c (I.ok.hd hc) fun s1 g1 out ss e kp eg ed eo k1 gL mi hp hsr=>?_
   have es:s1={ s with heap:=s1.heap,toks:=s1.toks }:=by cases s1;cases s;cases eg;cases ed;cases eo;rfl
   generalize s1.heap=g0,s1.toks=tk at es kp k1 gL ⊢
   subst es
   have I2:bw X af σ H { s with heap:=g0,toks:=tk }:=I.kept2 (d':=s.drawn) fun b o e=>kp b o e
   have sv:H g0.objs.size=none:=I2.hok.fresh (ay _)
   have hmap:(ss.map fun z=>z.cps.toList).map tx=ss:=by
    rw[a8]
    have:(tx∘fun z:Str=>z.cps.toList)=id:=funext fun z=>A8 z
    rw[this,gc]
   have hperm:(ss.map fun z=>z.cps.toList).Perm (l.map fun c=>[c]):=by
    have e:=hp.map fun z:Str=>z.cps.toList
    rw[a8]at e
    exact e
   have ez:(ss.map fun z=>z.cps.toList)=fA (l.map fun c=>[c]):=vN (sR (by rw[hmap];exact hsr)) (xP _) (hperm.trans (dX _).symm)
   have hvals:cw ((fA (l.map fun c=>[c])).map fun l=>V.str (tx l)) out.toList:=by
    have e:=ml mi
    rw[<- hmap,ez,a8]at e
    exact e
   refine⟨.ref g0.objs.size,_,I2.laid (o:=.lst ((fA (l.map fun c=>[c])).map fun l=>V.str (tx l))) (t':=tk) k1 (ay _) ⟨?_,out.toList,e,hvals,gL⟩,rfl,?_⟩
   ·rw[ar,(dX _).length_eq,ar]
    exact bh (gf c) (by decide)
   ·exact q (μ++[g0.objs.size]) _ _ (aR _ _) (fQ.same (cY sv _)) (S.newLst sv (xQ _)) (qB S)
  ·exact q.elim
 ·exact xR.h af s σ H _ us Q I rv ⟨μ,st,_,S,r,q⟩
 ·exact q.elim,fun ws st=>by
 unfold nO
 split
 ·split<;>trivial
 ·exact(xR (X:=X)).n _ _
 ·trivial⟩
end
def oS(a b k:Int):Nat:=if a<b then((b-a-1)/k+1).toNat else 0
theorem uQ{a b k:Int}(hk:0<k):Builtin.Range.rangeSize a b k=(oS a b k:Int):=by
 unfold Builtin.Range.rangeSize oS
 rw[aq hk]
 split
 ·have:=Int.ediv_nonneg (a:=b-a-1) (b:=k) (by omega) (by omega)
  omega
 ·rfl
theorem Ir{a b k:Int}(hk:0<k)(h:a<b):(b-a-1)/k<=b-a-1:=Int.ediv_le_self _ (by omega)
theorem zU{a b k:Int}(h1:-(2^60)<=a)(h2:a<2^60)(h3:-(2^60)<=b)(h4:b<2^60)(hk:0<k)(US:k<=1000):Builtin.Range.small a b k=true:=by
 unfold Builtin.Range.small
 rw[uQ hk]
 simp only[Builtin.Range.rangeFitsLong,bN,c_,bV,c7,aq hk]
 unfold oS
 split
 ·have:=Ir hk (by assumption)
  have:=Int.ediv_nonneg (a:=b-a-1) (b:=k) (by omega) (by omega)
  have:=Int.ediv_mul_le (a:=b-a-1) (b:=k) (by omega)
  omega
 ·omega
def uR(i k:Int)(n:Nat):List V:=(List.range n).map fun m:Nat=>V.int (i+m*k)
def P6(ta:TA):TI:=fun σ H R=>ta σ H fun vs H1=>∃i j k:Int,vs=[.int i,.int j,.int k]/\(-(2^60)<=i/\i<2^60/\-(2^60)<=j/\j<2^60/\0<k/\k<=1000)/\R (Pj (uR i k (oS i j k))) H1
theorem vP{X:Cx}{tg a b c:Expr}{ta:TA}{p pos:Pos}(hm:X.mg "range"=none)(ha:QA X [a,b,c] ta)(hg:Gl X "range":=by rfl)(hs:starEach [a,b,c] X.env=(false,eval a X.env)::starEach [b,c] X.env:=by rfl)
  (vj:(backTo pos (starEach [b,c] X.env)).any (·.1)=false:=by rfl):QI X tg (.Call (.Name "range" p) [a,b,c] [] pos) (P6 ta):=⟨by
 intro af s σ H R I h
 refine Call_ (kZ I hg hm boot_range (cA (gE (ha.h pos af s σ H _ I h) fun us s1 ⟨vs,H1,I1,r1,q1⟩=>?_) hs vj))
 obtain⟨i,j,k,e,⟨b1,b2,b3,b4,b5,b6⟩,q⟩:=q1
 subst e
 cases r1 with
 |cons x1 r1=>cases r1 with
  |cons x2 r1=>cases r1 with
   |cons x3 r1=>
    cases r1
    obtain⟨t1,rfl⟩:=x1
    obtain⟨t2,rfl⟩:=x2
    obtain⟨t3,rfl⟩:=x3
    refine call_range_3 (by omega) ?_ (Or.inl (mR (by omega)))
    refine wpAny_pyIter_range (IsRange.new ..) (zU b1 b2 b3 b4 b5 b6) ?_
    generalize hN:oS i j k=n at q
    have hl:(uR i k n).length=n:=by unfold uR;simp
    have I2:bw X af σ H1 { s1 with heap:=s1.heap.push { cls:=.type "range",data:=.fields #[.int i t1,.int j t2,.int k t3] },toks:=s1.toks }:=I1.kept fun b o e=>ak _ e
    refine⟨(s1.heap.push { cls:=.type "range",data:=.fields #[.int i t1,.int j t2,.int k t3] }).objs.size,[(s1.heap.push { cls:=.type "range",data:=.fields #[.int i t1,.int j t2,.int k t3] }).objs.size],_,_,H1,rfl,
     I2.kept (t':=s1.toks) fun b o e=>ak _ e,pb (ty:="range_iterator") (fun A hA=>by rw[hl];exact Walks.range hA _ i k n) (fun m v hk hp=>?_) (fun k h st=>⟨_,_,st,rfl,rfl⟩) (by decide) (fun A k s Q E st h=>mQ st h),⟨ca _,?_⟩,fun b hb=>?_,q⟩
    ·obtain⟨t,rfl⟩:=hp
     rw[hl]at hk
     refine⟨.int (i+m*k),?_,t,rfl⟩
     unfold uR
     rw[aD,eT hk]
     rfl
    ·have e1:i+((0:Nat):Int)*k=i:=by simp
     have e2:((n:Nat):Int)-((0:Nat):Int)=Builtin.Range.rangeSize i j k:=by rw[uQ b5,hN];simp
     rw[e1,e2]
     exact au _ rfl
    ·have e:b=(s1.heap.push { cls:=.type "range",data:=.fields #[.int i t1,.int j t2,.int k t3] }).objs.size:=by simpa using hb
     subst e
     exact I2.fpOk (ay _) (I2.hok.fresh (ay _))⟩
section
variable{X:Cx}{a b c tg:Expr}{fs:FA}{p pos:Pos}
def rB(i k:Int)(n:Nat):List W:=(List.range n).map fun m:Nat=>W.int (i+m*k)
theorem EB(i k:Int)(n:Nat)(μ:List Addr)(H:Hp):RelWs X.K μ H (rB i k n) (uR i k n):=by
 unfold rB uR
 induction (List.range n)with
 |nil=>exact .nilI
 |cons a r ih=>exact .consI .int ih
def vQ(fs:FA):FI:=fun ρ st=>(fs ρ st).bind fun ws st=>match ws with
 |[.int i,.int j,.int k]=>if -(2^60)<=i/\i<2^60/\-(2^60)<=j/\j<2^60/\0<k/\k<=1000 then .ok (rB i k (oS i j k),none) st else .bad
 |_=>.bad
theorem Iu(hm:X.mg "range"=none)(ha:SA X [a,b,c] fs)(hg:Gl X "range":=by rfl)(hs:starEach [a,b,c] X.env=(false,eval a X.env)::starEach [b,c] X.env:=by rfl)(lq:(backTo pos (starEach [b,c] X.env)).any (·.1)=false:=by rfl) :
  SI X tg (.Call (.Name "range" p) [a,b,c] [] pos) (vQ fs):=⟨(vP hm ⟨ha.h⟩ hg hs lq).h.imp fun σ H R h=>by
 obtain⟨μ,ρ,st,l,h⟩:=h
 refine⟨μ,ρ,st,l,RK.bind h l fun μ1 st1 x v H1 p1 x1 l1 q1 h1=>?_⟩
 split at h1
 ·rename_i i j k
  obtain⟨y,ys,rfl,ry,r1⟩:=q1.consE
  obtain⟨z,zs,rfl,rz,r2⟩:=r1.consE
  obtain⟨w,rfl,lD⟩:=r2.one
  split at h1
  ·rename_i cc
   exact⟨_,_,_,by rw[ry.intE,rz.intE,lD.intE],cc,h1 μ1 _ H1 (aj _) dD.refl l1.sto (qF (EB _ _ _))⟩
  ·exact h1.elim
 ·exact h1.elim⟩
end
section
variable{X:Cx}{qk tg eh:Expr}{nZ:List Expr}{scope:Scope}{pos:Pos}{nm:List Str}{cap:List (Option Nat)}{fi:FI}{f:FG}{t:FT}{el:FE}
end
theorem bw.turnedL{X:Cx}{af:List (Addr×Obj)}{σ:St}{H:Hp}{s:Shared}{h':Heap}{t':Nat}{ch:List Addr}(I:bw X af σ H s)(k:∀b o,b∉ch->s.heap.get? b=some o->h'.get? b=some o)
  (f:∀b∈ch,rJ X af H b):bw X af σ H { s with heap:=h',toks:=t' }:=by
 have nit:∀b u,H b=some u->b∉ch:=fun b u q z=>by rw[(f b z).1]at q;cases q
 refine I.step (g':=s.gens) (d':=s.drawn) (ch:=ch) (fun b hb=>?_) (fun b o _ _ hc q _=>k b o hc q) (fun b o _ _ hc q _=>⟨o.slots,k b o hc q⟩) (fun _ _ _ _ n=>n)
  (fun b o hc q=>⟨o,k b o hc q⟩) (fun _ _ q=>q) (fun _ _ _ q=>q) (fun b ps q=>⟨#[],by rw[q];simp⟩) (fun m hm=>?_) (fun b u q=>?_) I.bare
 ·exact⟨(f b hb).2.2.2.1,(f b hb).2.1,(f b hb).2.2.2.2.1,(f b hb).2.2.2.2.2⟩
 ·obtain⟨o,es,ep,ho,r⟩:=hm
  exact⟨o,es,ep,k _ o (fun z=>(f _ z).2.1 rfl) ho,r⟩
 ·refine(I.hok b u q).stay (fun c v hc z=>?_) (fun _ z=>z) fun _ _ z=>z
  rcases hc with y|y
  ·rw[y]at z ⊢;exact k b v (nit b u q) z
  ·exact k c v (nit c _ y) z
section
variable{prog:Program}{w:World}{A:Around}{E:Value->Shared->Prop}{s:Shared}
variable{z P O i j a b:Addr}{n m:Nat}{xs ys:Array Value}{x y u v:Value}
theorem Iv{Q:Value->Shared->Prop}(D:ZipApart z P O i j a b)(qz:IsZip s.heap z P O .none)(qP:IsPair s.heap P (.ref i) (.ref j))(qO:IsPair s.heap O u v)
  (q1:s.heap.IsTupleIter i a n) (q2:s.heap.IsTupleIter j b m) (ta:s.heap.IsTuple a xs) (tb:s.heap.IsTuple b ys) (hx:xs[n]?=some x) (hy:ys[m]?=some y)
  (hQ:∀g,IsZip g z P O (rawInt s.heap.objs.size)->IsPair g O x y->g.IsTupleIter i a (n+1)->g.IsTupleIter j b (m+1)->IsPair g s.heap.objs.size x y ->
   (∀c o,c≠z->c≠O->c≠i->c≠j->s.heap.get? c=some o->g.get? c=some o)->Q (.ref s.heap.objs.size) { s with heap:=g }) :
  wpAny (model prog w) A (Builtin.«zip.__next__» ⟨[.ref z],[]⟩) (fun lE s'=>∃v,lE=.done (.ret v)/\Q v s') E s:=by
 show wpAny _ _ (field (.ref z) 2 >>= _) _ _ _
 refine aa (bS qz rfl (x:=.bool false) rfl ?_)
 show wpAny _ _ (field (.ref z) 3 >>= _) _ _ _
 refine aa (bS qz rfl (x:=.ref P) rfl (aa (c8 qP rfl ?_)))
 show wpAny _ _ (Builtin.SmallTypes.ownedTupleIsFree (.ref z) >>= _) _ _ _
 refine aa ?_;unfold Builtin.SmallTypes.ownedTupleIsFree
 refine aa (bS qz rfl (x:=.none) rfl (am ?_));simp only[h_]
 refine aa (gj (aa (bS qz rfl (x:=.ref O) rfl ?_)))
 refine aa (b8 qz (by simp) fun g1 z1 s1=>?_)
 replace z1:IsZip g1 z P O .ellipsis:=z1
 refine aa ?_
 simp only[List.zipIdx_cons,List.zipIdx_nil,nu,List.forIn_nil]
 refine aa (aa (lA ?_))
 show wpAny _ _ (Builtin.SmallTypes.nextOf (.ref i) >>= _) _ _ _
 refine aa (iZ (q1.extBut s1.extBut D.i1z) (ta.extBut s1.extBut D.l1z) hx fun g2 k2 s2=>am ?_)
 have O2:IsPair g2 O u v:=s2.extBut _ _ D.TOi1 (s1.extBut _ _ D.TOz qO)
 refine aa (c8 O2 rfl (aa (jo O2 fun g3 O3 s3=>?_)))
 replace O3:IsPair g3 O x v:=O3
 refine aa (wpAny_letGo (am (aa (aa (lA ?_)))))
 show wpAny _ _ (Builtin.SmallTypes.nextOf (.ref j) >>= _) _ _ _
 refine aa (iZ (((q2.extBut s1.extBut D.i2z).extBut s2.extBut D.i12.symm).extBut s3.extBut D.TOi2.symm)
  (((tb.extBut s1.extBut D.l2z).extBut s2.extBut D.l2i1).extBut s3.extBut D.l2TO) hy fun g4 k4 s4=>am ?_)
 have O4:IsPair g4 O x v:=s4.extBut _ _ D.TOi2 O3
 refine aa (c8 O4 rfl (aa (jo O4 fun g5 O5 s5=>?_)))
 replace O5:IsPair g5 O x y:=O5
 refine aa (wpAny_letGo (am (am (aa (c8 O5 rfl (aa (wpAny_newTuple ?_)))))))
 have sz:g5.objs.size=s.heap.objs.size:=by rw[s5.1,s4.1,s3.1,s2.1,s1.1]
 have z5:IsZip g5 z P O .ellipsis:=s5.extBut _ _ D.TOz.symm (s4.extBut _ _ D.i2z.symm (s3.extBut _ _ D.TOz.symm (s2.extBut _ _ D.i1z.symm z1)))
 have kp:∀c o,c≠z->c≠O->c≠i->c≠j->s.heap.get? c=some o->g5.get? c=some o:=fun c o c1 c2 c3 c4 e=>
  s5.extBut _ _ c2 (s4.extBut _ _ c4 (s3.extBut _ _ c2 (s2.extBut _ _ c3 (s1.extBut _ _ c1 e))))
 have k5:g5.IsTupleIter i a (n+1):=((k2.extBut s3.extBut D.TOi1.symm).extBut s4.extBut D.i12).extBut s5.extBut D.TOi1.symm
 have l5:g5.IsTupleIter j b (m+1):=k4.extBut s5.extBut D.TOi2.symm
 have zlt:z<g5.objs.size:=aE z5
 show wpAny _ _ (Builtin.SmallTypes.ownedTupleHandOut (.ref z) (.ref g5.objs.size) >>= _) _ _ _
 refine aa ?_;unfold Builtin.SmallTypes.ownedTupleHandOut
 have z6:IsZip (g5.push { cls:=.type "tuple",data:=.seq #[x,y] }) z P O .ellipsis:=ak _ z5
 refine aa (b8 z6 (by simp) fun g7 z7 s7=>?_)
 replace z7:IsZip g7 z P O (rawInt g5.objs.size):=z7
 refine b8 z7 (by simp) fun g8 z8 s8=>?_
 replace z8:IsZip g8 z P O (rawInt g5.objs.size):=z8
 have up:∀c o,c≠z->g5.get? c=some o->g8.get? c=some o:=fun c o c1 e=>s8.extBut _ _ c1 (s7.extBut _ _ c1 (ak _ e))
 have T8:IsPair g8 g5.objs.size x y:=s8.extBut _ _ (fJ zlt) (s7.extBut _ _ (fJ zlt) (au _ rfl))
 rw[sz]at z8 T8
 refine am ⟨_,rfl,?_⟩
 show Q (.ref g5.objs.size) _
 rw[sz]
 exact hQ g8 z8 (up _ _ D.TOz O5) (k5.at fun o e=>up _ o D.i1z e) (l5.at fun o e=>up _ o D.i2z e) T8 fun c o c1 c2 c3 c4 e=>up c o c1 (kp c o c1 c2 c3 c4 e)
theorem Ml{Q:Fin->Shared->Prop}(hh:A.handled=none)(D:ZipApart z P O i j a b)(qz:IsZip s.heap z P O .none)(qP:IsPair s.heap P (.ref i) (.ref j))(qO:IsPair s.heap O u v)
  (q1:s.heap.IsTupleIter i a n) (q2:s.heap.IsTupleIter j b m) (ta:s.heap.IsTuple a xs) (tb:s.heap.IsTuple b ys) (he:xs[n]?=none\/ys[m]?=none)
  (hE:∀g e,(∀c o,c≠z->c≠O->c≠i->c≠j->s.heap.get? c=some o->g.get? c=some o)->(∃o,g.get? e=some o/\o.cls=.type "StopIteration")->E (.ref e) { s with heap:=g }) :
  wpAny (model prog w) A (Builtin.«zip.__next__» ⟨[.ref z],[]⟩) Q E s:=by
 show wpAny _ _ (field (.ref z) 2 >>= _) _ _ _
 refine aa (bS qz rfl (x:=.bool false) rfl ?_)
 show wpAny _ _ (field (.ref z) 3 >>= _) _ _ _
 refine aa (bS qz rfl (x:=.ref P) rfl (aa (c8 qP rfl ?_)))
 show wpAny _ _ (Builtin.SmallTypes.ownedTupleIsFree (.ref z) >>= _) _ _ _
 refine aa ?_;unfold Builtin.SmallTypes.ownedTupleIsFree
 refine aa (bS qz rfl (x:=.none) rfl (am ?_));simp only[h_]
 refine aa (gj (aa (bS qz rfl (x:=.ref O) rfl ?_)))
 refine aa (b8 qz (by simp) fun g1 z1 s1=>?_)
 replace z1:IsZip g1 z P O .ellipsis:=z1
 refine aa ?_
 simp only[List.zipIdx_cons,List.zipIdx_nil,nu,List.forIn_nil]
 refine aa (aa (lA ?_))
 show wpAny _ _ (Builtin.SmallTypes.nextOf (.ref i) >>= _) _ _ _
 cases hx:xs[n]? with
 |none=>
  refine aa (jS hh (q1.extBut s1.extBut D.i1z) (ta.extBut s1.extBut D.l1z) hx fun g2 e s2 ye=>?_)
  obtain⟨oe,h1,h2⟩:=ye
  have z2:IsZip g2 z P O .ellipsis:=s2 _ _ D.i1z.symm z1
  have nez:e≠z:=fun q=>by subst q;rw[z2]at h1;cases h1;simp at h2
  exact b8 z2 (by simp) fun g3 _ s3=>hE g3 e (fun c o c1 _ c3 _ q=>s3.extBut _ _ c1 (s2 _ _ c3 (s1.extBut _ _ c1 q))) ⟨oe,s3.extBut _ _ nez h1,h2⟩
 |some x=>
  have hy:ys[m]?=none:=by rcases he with h|h;rw[hx]at h;cases h;exact h
  refine aa (iZ (q1.extBut s1.extBut D.i1z) (ta.extBut s1.extBut D.l1z) hx fun g2 k2 s2=>am ?_)
  have O2:IsPair g2 O u v:=s2.extBut _ _ D.TOi1 (s1.extBut _ _ D.TOz qO)
  refine aa (c8 O2 rfl (aa (jo O2 fun g3 O3 s3=>?_)))
  refine aa (wpAny_letGo (am (aa (aa (lA ?_)))))
  show wpAny _ _ (Builtin.SmallTypes.nextOf (.ref j) >>= _) _ _ _
  refine aa (jS hh (((q2.extBut s1.extBut D.i2z).extBut s2.extBut D.i12.symm).extBut s3.extBut D.TOi2.symm)
   (((tb.extBut s1.extBut D.l2z).extBut s2.extBut D.l2i1).extBut s3.extBut D.l2TO) hy fun g4 e s4 ye=>?_)
  obtain⟨oe,h1,h2⟩:=ye
  have z4:IsZip g4 z P O .ellipsis:=s4 _ _ D.i2z.symm (s3.extBut _ _ D.TOz.symm (s2.extBut _ _ D.i1z.symm z1))
  have nez:e≠z:=fun q=>by subst q;rw[z4]at h1;cases h1;simp at h2
  exact b8 z4 (by simp) fun g5 _ s5=>hE g5 e (fun c o c1 c2 c3 c4 q=>s5.extBut _ _ c1 (s4 _ _ c4 (s3.extBut _ _ c2 (s2.extBut _ _ c3 (s1.extBut _ _ c1 q))))) ⟨oe,s5.extBut _ _ nez h1,h2⟩
theorem Iw{Q:Option Value->Shared->Prop}(D:ZipApart z P O i j a b)(qz:IsZip s.heap z P O .none)(qP:IsPair s.heap P (.ref i) (.ref j))(qO:IsPair s.heap O u v)
  (q1:s.heap.IsTupleIter i a n) (q2:s.heap.IsTupleIter j b m) (ta:s.heap.IsTuple a xs) (tb:s.heap.IsTuple b ys) (hx:xs[n]?=some x) (hy:ys[m]?=some y)
  (hQ:∀g,IsZip g z P O (rawInt s.heap.objs.size)->IsPair g O x y->g.IsTupleIter i a (n+1)->g.IsTupleIter j b (m+1)->IsPair g s.heap.objs.size x y ->
   (∀c o,c≠z->c≠O->c≠i->c≠j->s.heap.get? c=some o->g.get? c=some o)->Q (some (.ref s.heap.objs.size)) { s with heap:=g }) :
  wpAny (model prog w) A (pyNext (.ref z)) Q E s:=by
 have T:s.TypeIs (.ref z) "zip":=⟨_,qz,rfl⟩
 unfold pyNext
 exact aa (eA (bc (name:=Str.ofString "__next__") T jK (bb jK T F.entry_zip_next
   (Iv D qz qP qO q1 q2 ta tb hx hy fun g a1 a2 a3 a4 a5 a6=>am (hQ g a1 a2 a3 a4 a5 a6)) (F.args_zip_next_1 _))))
theorem Iy{Q:Option Value->Shared->Prop}(hh:A.handled=none)(D:ZipApart z P O i j a b)(qz:IsZip s.heap z P O .none)(qP:IsPair s.heap P (.ref i) (.ref j))(qO:IsPair s.heap O u v)
  (q1:s.heap.IsTupleIter i a n) (q2:s.heap.IsTupleIter j b m) (ta:s.heap.IsTuple a xs) (tb:s.heap.IsTuple b ys) (he:xs[n]?=none\/ys[m]?=none)
  (hQ:∀g,(∀c o,c≠z->c≠O->c≠i->c≠j->s.heap.get? c=some o->g.get? c=some o)->Q none { s with heap:=g }):wpAny (model prog w) A (pyNext (.ref z)) Q E s:=by
 have T:s.TypeIs (.ref z) "zip":=⟨_,qz,rfl⟩
 unfold pyNext
 refine aa (eA (bc (name:=Str.ofString "__next__") T jK (bb jK T F.entry_zip_next (Ml hh D qz qP qO q1 q2 ta tb he fun g e hk ye=>?_) (F.args_zip_next_1 _))))
 obtain⟨o,ho,hc⟩:=ye
 exact aa (df (T:="StopIteration") (b:=true) ⟨o,ho,hc⟩ iK (am (hQ _ hk)))
end
open AutoSeq1 (wpAny_loadPart')
abbrev RZ(h:Heap)(a:Addr):Heap:=h.push (kC a)
abbrev R0(h:Heap)(a b:Addr):Heap:=(RZ h a).push (kC b)
abbrev R1(h:Heap)(a b:Addr):Heap:=(R0 h a b).push { cls:=.type "tuple",data:=.seq #[.ref h.objs.size,.ref (RZ h a).objs.size] }
abbrev R3(h:Heap)(a b:Addr):Heap:=(R1 h a b).push { cls:=.type "tuple",data:=.seq #[.none,.none] }
abbrev Oz(h:Heap)(a b:Addr):Heap:=(R3 h a b).push { cls:=.type "zip",data:=.fields #[.none,.bool false,.bool false,.ref (R0 h a b).objs.size,.ref (R1 h a b).objs.size] }
theorem Mm     (a b : Addr) (xs ys : Array Value) : Meets (Builtin.«zip.__new__» ⟨[.type "zip", .ref a, .ref b], []⟩) (fun _ R s => s.heap.IsTuple a xs /\ s.heap.IsTuple b ys /\
      R (.ok (.ret (.ref (R3  s.heap a b).objs.size))) { s with heap := Oz  s.heap a b }) :=
  .of_wp fun prog w A R s h => by
    obtain ⟨hp, g, d, tk, os⟩ := s
    obtain ⟨ha, hb, h⟩ := h
    have sb := sub_zip
    have hA : Heap.IsTuple (Shared.heap ⟨hp, g, d, tk, os⟩) a xs := ha
    have hB : Heap.IsTuple (Shared.heap ⟨hp.push (kC      a), g, d, tk, os⟩) b ys := hb.at fun o e => ak                     _ e
    wp_walk using fj                 hA, fj                 hB
    exact ⟨_, rfl, h⟩
section
variable{prog:Program}{w:World}{A:Around}{E:Value->Shared->Prop}{s:Shared}
theorem Iz{a b:Addr}{xs ys:Array Value}{Q:Value->Shared->Prop}(ha:s.heap.IsTuple a xs)(hb:s.heap.IsTuple b ys)
  (q:∀g,IsZip g (s.heap.objs.size+4) (s.heap.objs.size+2) (s.heap.objs.size+3) .none->IsPair g (s.heap.objs.size+2) (.ref s.heap.objs.size) (.ref (s.heap.objs.size+1)) ->
   IsPair g (s.heap.objs.size+3) .none .none->g.IsTupleIter s.heap.objs.size a 0->g.IsTupleIter (s.heap.objs.size+1) b 0->(∀c o,s.heap.get? c=some o->g.get? c=some o)->Q (.ref (s.heap.objs.size+4)) { s with heap:=g }) :
  wpAny (model prog w) A (call (.type "zip") [.ref a,.ref b]) Q E s:=by
 refine qp F.called_zip (by decide) (F.typeCall_zip_2 _ _) (F.newCall_zip_2 _ _) (fun ob=>F.args_object_init_3 ob _ _) F.entry_zip_new (Mm a b xs ys) ⟨ha,hb,?_⟩
 have n1:(RZ s.heap a).objs.size=s.heap.objs.size+1:=bY ..
 have n2:(R0 s.heap a b).objs.size=s.heap.objs.size+2:=by rw[bY,n1]
 have n3:(R1 s.heap a b).objs.size=s.heap.objs.size+3:=by rw[bY,n2]
 have n4:(R3 s.heap a b).objs.size=s.heap.objs.size+4:=by rw[bY,n3]
 have p:∀{h:Heap} {c:Addr} {o u:Obj},h.get? c=some o->(h.push u).get? c=some o:=fun e=>ak _ e
 have g5:(Oz s.heap a b).get? (R3 s.heap a b).objs.size=some _:=au _ rfl
 have g4:(Oz s.heap a b).get? (R1 s.heap a b).objs.size=some _:=p (au _ rfl)
 have g3:(Oz s.heap a b).get? (R0 s.heap a b).objs.size=some _:=p (p (au _ rfl))
 have g2:(Oz s.heap a b).get? (RZ s.heap a).objs.size=some _:=p (p (p (au _ rfl)))
 have g1:(Oz s.heap a b).get? s.heap.objs.size=some _:=p (p (p (p (au _ rfl))))
 show _/\_
 rw[n2,n3,n4]at g5
 rw[n1,n2]at g3
 rw[n3]at g4
 rw[n1]at g2
 rw[n4]
 exact⟨⟨_,g5,rfl⟩,q _ g5 g3 g4 ⟨_,g1,rfl,rfl⟩ ⟨_,g2,rfl,rfl⟩ fun c o e=>p (p (p (p (p e))))⟩
end
def Ud(K:Frag)(a b:Addr):It:=
  ⟨fun i H=>∃xs ys x y,fQ K H a xs/\fQ K H b ys/\xs[i]?=some x/\ys[i]?=some y,
   fun i H v H'=>∃p,H p=none/\v=.ref p/\∀xs ys x y,fQ K H a xs->fQ K H b ys->xs[i]?=some x->ys[i]?=some y->H'=eY H p (.tup [x,y]),
   fun i H=>∃xs ys,fQ K H a xs/\fQ K H b ys/\(xs.length<=i\/ys.length<=i)⟩
theorem IA{P:Program}{w:World}{K:Frag}{tY:List Expr}{kk:Nat}{pos:Pos}{z T O i j a b:Addr}(D:ZipApart z T O i j a b) :
  zr P w K (.Tuple tY kk pos) (Ud K a b) [z,T,O,i,j] z (fun k h=>IsZip h z T O .none/\IsPair h T (.ref i) (.ref j)/\(∃u v,IsPair h O u v)/\h.IsTupleIter i a k/\h.IsTupleIter j b k) where
 mem:=by simp
 obj:=fun k h st c hc=>by
  obtain⟨h1,h2,⟨u,v,h3⟩,⟨o4,e4,_,d4⟩,⟨o5,e5,_,d5⟩⟩:=st
  have q:c=z\/c=T\/c=O\/c=i\/c=j:=by simpa using hc
  rcases q with rfl|rfl|rfl|rfl|rfl
  ·exact⟨_,h1,fun v q=>by cases q⟩
  ·exact⟨_,h2,fun v q=>by cases q⟩
  ·exact⟨_,h3,fun v q=>by cases q⟩
  ·exact⟨_,e4,fun v q=>by rw[d4]at q;cases q⟩
  ·exact⟨_,e5,fun v q=>by rw[d5]at q;cases q⟩
 keep:=fun k h h' st kp=>by
  obtain⟨h1,h2,⟨u,v,h3⟩,h4,h5⟩:=st
  exact⟨kp z (by simp) _ h1,kp T (by simp) _ h2,⟨u,v,kp O (by simp) _ h3⟩,h4.at fun o e=>kp i (by simp) o e,h5.at fun o e=>kp j (by simp) o e⟩
 item:=by
  intro X hP hw hK hc k af s σ H E I hf st hg
  subst hP hw hK
  obtain⟨xs,ys,x,y,hq,hr,hx,hy⟩:=hg
  obtain⟨bI,rv,p1,_⟩:=I.tuple hq
  obtain⟨jts,lD,p2,_⟩:=I.tuple hr
  obtain⟨u,hu,ru⟩:=rv.get hx
  obtain⟨v,hv,rv'⟩:=lD.get hy
  obtain⟨h1,h2,⟨c1,c2,h3⟩,h4,h5⟩:=st
  refine Iw D h1 h2 h3 h4 h5 (show s.heap.IsTuple a bI.toArray from p1) (show s.heap.IsTuple b jts.toArray from p2) (x:=u) (y:=v) (by simpa using hu) (by simpa using hv) fun g a1 a2 a3 a4 a5 kp=>⟨_,rfl,?_⟩
  refine wpAny_letOwnedTupleGo_zip a1 fun g2 b1 s2=>?_
  have sv:H s.heap.objs.size=none:=I.hok.fresh (ay _)
  have I1:bw X af σ (eY H s.heap.objs.size (.tup [x,y])) { s with heap:=s.heap.push { cls:=.type "tuple",data:=.seq #[u,v] },toks:=s.toks }:=I.laid (fun c o q=>ak _ q) (ay _)
   ⟨by show 2<=sizeLine;decide,[u,v],.cons ru (.cons rv' .nil),⟨_,au _ rfl,rfl,_,rfl⟩⟩
  have lt:∀{c o},s.heap.get? c=some o->c≠s.heap.objs.size:=fun e=>ba (aE e)
  have nf:∀c∈[z,T,O,i,j],c≠s.heap.objs.size:=fun c hb=>by
   have q:c=z\/c=T\/c=O\/c=i\/c=j:=by simpa using hb
   rcases q with rfl|rfl|rfl|rfl|rfl
   ·exact lt h1
   ·exact lt h2
   ·exact lt h3
   ·obtain⟨_,e,_⟩:=h4;exact lt e
   ·obtain⟨_,e,_⟩:=h5;exact lt e
  have fp:∀c∈[z,T,O,i,j],rJ X af (eY H s.heap.objs.size (.tup [x,y])) c:=fun c hb=>by
   obtain⟨f0,f⟩:=hf c hb
   exact⟨by rw[cv (nf c hb)];exact f0,f⟩
  have I2:bw X af σ (eY H s.heap.objs.size (.tup [x,y])) { s with heap:=g2,toks:=s.toks }:=bw.turnedL (s:={ s with heap:=s.heap.push { cls:=.type "tuple",data:=.seq #[u,v] },toks:=s.toks }) (ch:=[z,O,i,j]) (t':=s.toks) I1 (fun c o hb q=>?_) fun c hb=>fp c (by
   have q:c=z\/c=O\/c=i\/c=j:=by simpa using hb
   rcases q with rfl|rfl|rfl|rfl<;>simp)
  ·refine⟨.ref s.heap.objs.size,_,I2,rfl,⟨_,sv,rfl,fun xs' OG x' y' e1 e2 e3 e4=>?_⟩,⟨b1,s2.extBut _ _ D.TIz (kp _ _ D.TIz D.TITO D.TIi1 D.TIi2 h2),⟨_,_,s2.extBut _ _ D.TOz a2⟩,a3.extBut s2.extBut D.i1z,a4.extBut s2.extBut D.i2z⟩,fun c hb=>(fp c hb).1⟩
   have q1:=I.tuple_inj e1 hq
   have q2:=I.tuple_inj e2 hr
   subst q1 q2
   rw[hx]at e3;rw[hy]at e4;cases e3;cases e4;rfl
  ·have q':(s.heap.push { cls:=.type "tuple",data:=.seq #[u,v] }).get? c=some o:=q
   have hn:c≠z/\c≠O/\c≠i/\c≠j:=by simpa using hb
   refine s2.extBut c o hn.1 ?_
   by_cases hb':c=s.heap.objs.size
   ·subst hb'
    have e1:=au s.heap (o:={ cls:=.type "tuple",data:=.seq #[u,v] }) rfl
    rw[e1]at q';cases q'
    exact a5
   ·rw[Heap.get?_push_ne _ _ _ hb']at q'
    exact kp c o hn.1 hn.2.1 hn.2.2.1 hn.2.2.2 q'
 done:=by
  intro X hP hw hK hc k af s σ H E I hf st hg
  subst hP hw hK
  obtain⟨xs,ys,hq,hr,he⟩:=hg
  obtain⟨bI,rv,p1,_⟩:=I.tuple hq
  obtain⟨jts,lD,p2,_⟩:=I.tuple hr
  obtain⟨h1,h2,⟨c1,c2,h3⟩,h4,h5⟩:=st
  have l1:=rv.length
  have l2:=lD.length
  refine Iy (I.ok.hd hc) D h1 h2 h3 h4 h5 (show s.heap.IsTuple a bI.toArray from p1) (show s.heap.IsTuple b jts.toArray from p2) (by
   rcases he with q|q
   ·exact .inl (by simp;omega)
   ·exact .inr (by simp;omega)) fun g kp=>⟨rfl,?_⟩
  exact I.turnedL (ch:=[z,O,i,j]) (t':=s.toks) (fun c o hb q=>by
   have hn:c≠z/\c≠O/\c≠i/\c≠j:=by simpa using hb
   exact kp c o hn.1 hn.2.1 hn.2.2.1 hn.2.2.2 q) fun c hb=>hf c (by
   have q:c=z\/c=O\/c=i\/c=j:=by simpa using hb
   rcases q with rfl|rfl|rfl|rfl<;>simp)
 self:=fun A k s Q E st h=>wpAny_pyIter_zip st.1 h
def Td(K:Frag)(ta:TA):TI:=fun σ H R=>ta σ H fun vs H1=>∃a b,vs=[.ref a,.ref b]/\(∃xs,fQ K H1 a xs)/\(∃ys,fQ K H1 b ys)/\R (Ud K a b) H1
theorem IB{X:Cx}{a b:Expr}{ta:TA}{p pos tp:Pos}{tY:List Expr}{kk:Nat}(hm:X.mg "zip"=none)(ha:QA X [a,b] ta)(hg:Gl X "zip":=by rfl)(hs:starEach [a,b] X.env=(false,eval a X.env)::starEach [b] X.env:=by rfl)
  (vj:(backTo pos (starEach [b] X.env)).any (·.1)=false:=by rfl):QI X (.Tuple tY kk tp) (.Call (.Name "zip" p) [a,b] [] pos) (Td X.K ta):=⟨by
 intro af s σ H R I h
 refine Call_ (kZ I hg hm boot_zip (cA (gE (ha.h pos af s σ H _ I h) fun us s1 ⟨vs,H1,I1,r1,q1⟩=>?_) hs vj))
 obtain⟨t,t',e,⟨xs,hq⟩,⟨ys,hr⟩,q⟩:=q1
 subst e
 cases r1 with
 |cons x1 r1=>cases r1 with
  |cons x2 r1=>
   cases r1
   cases x1
   cases x2
   obtain⟨bI,rv,p1,_⟩:=I1.tuple hq
   obtain⟨jts,lD,p2,_⟩:=I1.tuple hr
   have lt1:t<s1.heap.objs.size:=by obtain⟨_,e,_⟩:=(show s1.heap.IsTuple t bI.toArray from p1);exact aE e
   have lt2:t'<s1.heap.objs.size:=by obtain⟨_,e,_⟩:=(show s1.heap.IsTuple t' jts.toArray from p2);exact aE e
   refine Iz (show s1.heap.IsTuple t bI.toArray from p1) (show s1.heap.IsTuple t' jts.toArray from p2) fun g e1 e2 e3 e4 e5 kp=>?_
   refine wpAny_pyIter_zip e1 ?_
   refine⟨s1.heap.objs.size+4,[s1.heap.objs.size+4,s1.heap.objs.size+2,s1.heap.objs.size+3,s1.heap.objs.size,s1.heap.objs.size+1],_,_,H1,rfl,I1.kept (t':=s1.toks) kp,IA (zipApart_new lt1 lt2),⟨e1,e2,⟨_,_,e3⟩,e4,e5⟩,fun c hb=>?_,q⟩
   have hc:s1.heap.objs.size<=c:=by
    have z:c=s1.heap.objs.size+4\/c=s1.heap.objs.size+2\/c=s1.heap.objs.size+3\/c=s1.heap.objs.size\/c=s1.heap.objs.size+1:=by simpa using hb
    rcases z with rfl|rfl|rfl|rfl|rfl<;>simp
   exact I1.fpOk hc (I1.hok.fresh hc)⟩
def pq:List W->List W->List W
 |x::xs,y::ys=>.tup [x,y]::pq xs ys
 |_,_=>[]
theorem sX:∀{xs ys:List W} {i:Nat} {w:W},(pq xs ys)[i]?=some w->∃x y,xs[i]?=some x/\ys[i]?=some y/\w=.tup [x,y]
 |x::xs,y::ys,0,w,h=>by simp[pq]at h;exact⟨x,y,rfl,rfl,h.symm⟩
 |x::xs,y::ys,i+1,w,h=>by simp[pq]at h;simpa using sX h
 |[],_,i,w,h=>by simp[pq]at h
 |_::_,[],i,w,h=>by simp[pq]at h
theorem sY:∀(xs ys:List W),(pq xs ys).length=min xs.length ys.length
 |x::xs,y::ys=>by simp[pq,sY xs ys]
 |[],_=>by simp[pq]
 |_::_,[]=>by simp[pq]
section
variable{X:Cx}{a b:Expr}{fs:FA}{p pos:Pos}
def vR(fs:FA):FI:=fun ρ st=>(fs ρ st).bind fun ws st=>match ws with
 |[.tup xs,.tup ys]=>.ok (pq xs ys,none) st
 |_=>.bad
theorem IC{tY:List Expr}{kk:Nat}{tp:Pos}(hm:X.mg "zip"=none)(ha:SA X [a,b] fs)(hg:Gl X "zip":=by rfl)(hs:starEach [a,b] X.env=(false,eval a X.env)::starEach [b] X.env:=by rfl)(lq:(backTo pos (starEach [b] X.env)).any (·.1)=false:=by rfl) :
  SI X (.Tuple tY kk tp) (.Call (.Name "zip" p) [a,b] [] pos) (vR fs):=⟨(IB hm ⟨ha.h⟩ hg hs lq).h.imp fun σ H R h=>by
 obtain⟨μ,ρ,st,l,h⟩:=h
 refine⟨μ,ρ,st,l,RK.bind h l fun μ1 st1 x v H1 p1 x1 l1 q1 h1=>?_⟩
 split at h1
 ·rename_i zs ws
  obtain⟨y,ys,rfl,ry,r1⟩:=q1.consE
  obtain⟨w,rfl,lD⟩:=r1.one
  obtain⟨t,vs,rfl,hS,r⟩:=ry.tupE
  obtain⟨t',AD,rfl,hS',r'⟩:=lD.tupE
  refine⟨t,t',rfl,⟨vs,hS⟩,⟨AD,hS'⟩,h1 μ1 _ H1 (aj _) dD.refl l1.sto fun i μ' bu H' pp xx S _=>⟨fun w hw=>?_,fun hl=>⟨vs,AD,xx _ _ hS,xx _ _ hS',by rw[sY]at hl;rw[<- r.len,<- r'.len];omega⟩⟩⟩
  obtain⟨x,y,hx,hy,rfl⟩:=sX hw
  have m1:=r.mono pp xx
  have m2:=r'.mono pp xx
  obtain⟨v1,g1,g2⟩:=m1.get hx
  obtain⟨v2,g3,g4⟩:=m2.get hy
  refine⟨⟨vs,AD,v1,v2,xx _ _ hS,xx _ _ hS',g1,g3⟩,fun z H'' hz=>?_⟩
  obtain⟨q,hq,rfl,hH⟩:=hz
  have e:=hH vs AD v1 v2 (xx _ _ hS) (xx _ _ hS') g1 g3
  subst e
  have ex:=fQ.same (K:=X.K) (cY hq (.tup [v1,v2]))
  exact⟨ex,S.same (cY hq _),.tupI fQ.new (.consI (g2.mono (aj _) ex) (.consI (g4.mono (aj _) ex) .nilI))⟩
 ·exact h1.elim⟩
end
open Builtin.Str (tooLong)
section
variable{prog:Program}{w:World}{A:Around}{E:Value->Shared->Prop}{s:Shared}
end
section
variable{X:Cx}
end
section
variable{X:Cx}
end
section
variable{X:Cx}
end
abbrev P7:=List W×List (Nat×List W)
abbrev Uv:=bW->List al->R P7
section
variable{X:Cx}{qk tg eh:Expr}{nZ:List Expr}{scope:Scope}{pos:Pos}{nm:List Str}{cap:List (Option Nat)}{fi:Uv}{f:FG}{t:FT}{el:FE}{m:Nat}
end
section
variable{X:Cx}{a b:Expr}{fs:FA}{p pos:Pos}
end
def JT(l:List Nat)(c:Nat):Int:=match Builtin.Str.occurrences (tx l) (tx [c]) 0 (tx l).length 1 with
 |i::_=>(i:Int)
 |[]=>-1
section
variable{X:Cx}
def Bo(ws:List W)(st:List al):R W:=match ws with
 |[.str [c]]=>if 48<=c/\c<=51 then .ok (.int (c-48:Nat)) st else .bad
 |_=>Eo ws st
theorem Mn:oQ X (.type "int") Bo:=⟨fun af s σ H vs us Q I rv ⟨μ,st,ws,S,r,q⟩=>by
 unfold Bo at q
 split at q
 ·rename_i c
  split at q
  ·rename_i hc
   obtain⟨y,rfl,ry⟩:=r.one
   have:=ry.strE;subst this
   obtain⟨k,rfl⟩:∃k,c=48+k:=⟨c-48,by omega⟩
   refine L7.h af s σ H _ us Q I rv ⟨k,rfl,by omega,?_⟩
   rw[show 48+k-48=k by omega]at q
   exact q μ _ H (aj _) dD.refl S .int
  ·exact q.elim
 ·exact JN.h af s σ H _ us Q I rv ⟨μ,st,_,S,r,q⟩,fun ws st=>by
 unfold Bo
 split
 ·split<;>trivial
 ·exact(JN (X:=X)).n _ _⟩
end
theorem rq.held{X:Cx}{af:List (Addr×Obj)}{σ:St}{c:Str}{H:Hp}{e:Value}{s:Shared}{Q:Unit->Shared->Prop}{E:Value->Shared->Prop}{M:Model}{Ob:Env}{outer:List Env}{L:Addr}(f:rq X af σ c H e s)
  (mi:X.stack=Ob::outer) (OC:Ob.frame=some L) (UH:X.env.frame=some L) (hA:X.A.frames=some X.stack)
  (h:∀x C t B h',e=.ref x->X.mg c=some C->H x=none->Heap.HeldW B X.stack x C (.ref t) L h'->s.heap.UpToSlots h' ->
   (∀b o,s.heap.get? b=some o->(H b≠none\/((∃o0,X.s₀.heap.get? b=some o0)/\b∉X.fs/\b∉X.ex)\/((∃y,X.env.cells.lookup y=some b)/\b∉sw X.stack)\/∃p∈X.pn++af,p.1=b)->B.get? b=some o)->Q () { s with heap:=h' }) :
  wpAny M X.A (noteFrame e Ob) Q E s:=by
 obtain⟨x,C,t,B,rfl,hC,hx,st,nx,ff,tr,cov⟩:=f.ex
 rw[mi]at ff hA
 rcases tr with tr|⟨oe,vs,he,rfl,_,hd,h1,h0⟩|⟨L',hL,tr⟩
 ·exact wpAny_looks_onW hA OC ⟨st,nx,ff,tr⟩ fun h1 hh u1=>h x C t B h1 rfl hC hx (by rw[mi];exact hh) u1 cov
 ·unfold noteFrame
  simp only[OC]
  refine aa (bS he hd h1 ?_)
  rw[ax (by decide)]
  refine wpAny_entryW hA ff OC he st nx hd (kr.mp h1).1 h0 fun h' hN=>?_
  obtain⟨k1,k2,k3,k4⟩:=hN
  exact h x _ t B h' rfl hC hx ⟨k1,nx,by rw[mi];exact k2,k3⟩ k4 cov
 ·rw[UH]at hL
  cases hL
  exact mZ OC tr (h x C t B s.heap rfl hC hx ⟨st,nx,by rw[mi];exact ff,tr⟩ (Heap.UpToSlots.refl _) cov)
section
variable{X:Cx}{qk tg eh:Expr}{scope:Scope}{pos:Pos}{nm:List Str}{wi:TI}{g:TG}{te:Cx->TE}
end
section
variable{X:Cx}{qk tg eh:Expr}{scope:Scope}{pos:Pos}{nm:List Str}{fi:FI}{f:FG}{el:FE}
end
theorem DK.key_inj{a b:DK}:a.key=b.key↔a=b:=by
 cases a<;>cases b<;>simp[DK.key,DZ]
def DK.w:DK->W
 |.i z=>.int z
 |.s l=>.str l
def uS:W->Option DK
 |.int z=>some (.i z)
 |.str l=>some (.s l)
 |_=>none
theorem Bp{K:Frag}{μ:List Addr}{H:Hp}{w:W}{k:DK}{v:V}(h:uS w=some k)(r:bf K μ H w v):v=kV k.key:=by
 cases w with
 |int z=>cases h;exact r.intE
 |str l=>cases h;exact r.strE
 |_=>cases h
def mB(kvs:List (DK×W))(k:DK):Option W:=(kvs.find? fun p=>decide (p.1=k)).map fun p=>p.2
def rS(kvs:List (DK×W))(k:DK)(v:W):List (DK×W):=if (kvs.any fun p=>decide (p.1=k))=true then kvs.map fun p=>if p.1=k then(p.1,v)else p else kvs++[(k,v)]
abbrev dV(kvs:List (DK×W))(vs:List V):List (iy×V):=(kvs.map fun p=>p.1.key).zip vs
section
variable{K:Frag}{μ:List Addr}{H:Hp}
theorem EC:∀{kvs:List (DK×W)} {vs:List V} (k:DK),RelWs K μ H (kvs.map fun p=>p.2) vs->(∃w v,mB kvs k=some w/\nB (dV kvs vs) k.key=some v/\bf K μ H w v)\/(mB kvs k=none/\nB (dV kvs vs) k.key=none)
 |[],vs,k,r=>.inr ⟨rfl,rfl⟩
 |p::kvs,vs,k,r=>by
  obtain⟨x,xs,rfl,a,b⟩:=RelWs.consE r
  have ih:=EC (kvs:=kvs) k b
  by_cases h:p.1=k
  ·refine .inl ⟨p.2,x,?_,?_,a⟩
   ·unfold mB;rw[bU];simp[h]
   ·show nB ((p.1.key,x)::dV kvs xs) k.key=some x
    exact pQ (by rw[h])
  ·have e1:mB (p::kvs) k=mB kvs k:=by unfold mB;rw[bU];simp[h]
   have e2:nB (dV (p::kvs) (x::xs)) k.key=nB (dV kvs xs) k.key:=pR (p:=(p.1.key,x)) fun z=>h (DK.key_inj.mp z)
   rw[e1,e2];exact ih
theorem ED:∀{kvs:List (DK×W)} {vs:List V} (k:DK),RelWs K μ H (kvs.map fun p=>p.2) vs->((dV kvs vs).any fun kv=>decide (kv.1=k.key))=(kvs.any fun p=>decide (p.1=k))
 |[],vs,k,r=>rfl
 |p::kvs,vs,k,r=>by
  obtain⟨x,xs,rfl,a,b⟩:=RelWs.consE r
  show(decide (p.1.key=k.key)||(dV kvs xs).any _)=(decide (p.1=k)||kvs.any _)
  rw[ED k b]
  congr 1
  rw[decide_eq_decide];exact DK.key_inj
theorem EE{k:DK}{w:W}{v:V}:∀{kvs:List (DK×W)} {vs:List V},RelWs K μ H (kvs.map fun p=>p.2) vs->bf K μ H w v->∃us,(dV kvs vs).map (fun kv=>if kv.1=k.key then(kv.1,v)else kv)=dV (kvs.map fun p=>if p.1=k then(p.1,w)else p) us/\RelWs K μ H ((kvs.map fun p=>if p.1=k then(p.1,w)else p).map fun p=>p.2) us
 |[],vs,r,lD=>⟨[],rfl,.nilI⟩
 |p::kvs,vs,r,lD=>by
  obtain⟨x,xs,rfl,a,b⟩:=RelWs.consE r
  obtain⟨us,e,q⟩:=EE (k:=k) b lD
  by_cases h:p.1=k
  ·refine⟨v::us,?_,?_⟩
   ·show(if p.1.key=k.key then(p.1.key,v)else(p.1.key,x))::(dV kvs xs).map _=_
    rw[aq (by rw[h]),e,aN,aq h];rfl
   ·rw[aN,aq h];exact .consI lD q
  ·refine⟨x::us,?_,?_⟩
   ·show(if p.1.key=k.key then(p.1.key,v)else(p.1.key,x))::(dV kvs xs).map _=_
    rw[ax (fun z=>h (DK.key_inj.mp z)),e,aN,ax h];rfl
   ·rw[aN,ax h];exact .consI a q
theorem Mo{kvs:List (DK×W)}{vs:List V}{k:DK}{w:W}{v:V}(r:RelWs K μ H (kvs.map fun p=>p.2) vs)(lD:bf K μ H w v):∃us,pP (dV kvs vs) k.key v=dV (rS kvs k w) us/\RelWs K μ H ((rS kvs k w).map fun p=>p.2) us:=by
 unfold pP rS
 rw[ED k r]
 by_cases h:(kvs.any fun p=>decide (p.1=k))=true
 ·rw[aq h,aq h]
  exact EE r lD
 ·rw[ax h,ax h]
  refine⟨vs++[v],?_,?_⟩
  ·unfold dV
   rw[eN,List.zip_append (by rw[ar,<- r.len,ar])];rfl
  ·rw[eN];exact r.app (.consI lD .nilI)
theorem Mp{kvs:List (DK×W)}{vs:List V}(r:RelWs K μ H (kvs.map fun p=>p.2) vs):(dV kvs vs).length=kvs.length:=by
 unfold dV;rw[List.length_zip,ar,<- r.len,ar,Nat.min_self]
theorem fQ.butD{l:Addr}{xs:List (iy×V)}{H':Hp}(e:Du l H H')(hl:H l=some (.dK xs)):dD K H H':=by
 have oK:∀{p:Addr} {o:HO},H p=some o->(∀zs,o≠.dK zs)->p≠l:=fun{p o} q hn z=>by subst z;rw[hl]at q;cases q;exact hn _ rfl
 refine⟨fun p ys h=>?_,fun b o u h=>e _ _ (oK h (fun _ z=>by cases z)) h⟩
 rcases h with(h|⟨o,h⟩)|h
 ·exact .inl (.inl (e _ _ (oK h (fun _ z=>by cases z)) h))
 ·exact .inl (.inr ⟨o,e _ _ (oK h (fun _ z=>by cases z)) h⟩)
 ·exact .inr h
end
theorem gn.setD{K:Frag}{mg:Str->Option Value}{μ:List Addr}{st:List al}{H:Hp}(S:gn K mg μ st H){n:Nat}{a:Addr}{kvs Ou:List (DK×W)}{xs:List (iy×V)}{us:List V}(hn:st[n]?=some (.dct kvs))(hm:μ[n]?=some a)(ha:H a=some (.dK xs))(hr:RelWs K μ H (Ou.map fun p=>p.2) us) :
  gn K mg μ (st.set n (.dct Ou)) (eY H a (.dK (dV Ou us))):=
 S.setG hn rfl hm ha (fun _ _ z=>by cases z) (fun _ z=>by cases z) (fQ.butD mo ha) rfl ⟨us,dR,hr.mono (aj _) (fQ.butD mo ha)⟩
def nj(st:List al):W->Option (Nat×List (DK×W))
 |.loc n=>(match st[n]? with
  |some (.dct kvs)=>some (n,kvs)
  |some (.rod kvs)=>some (n,kvs)
  |_=>none)
 |_=>none
def CI(st:List al):W->Option (Nat×List (DK×W))
 |.loc n=>(match st[n]? with
  |some (.dct kvs)=>some (n,kvs)
  |_=>none)
 |_=>none
theorem xV{K:Frag}{mg:Str->Option Value}{μ:List Addr}{st:List al}{H:Hp}(S:gn K mg μ st H){x:W}{v:V}{n:Nat}{kvs:List (DK×W)}(h:nj st x=some (n,kvs))(r:bf K μ H x v) :
  ∃a vs,(st[n]?=some (.dct kvs)\/st[n]?=some (.rod kvs))/\μ[n]?=some a/\v=.ref a/\Rd H a (.dK (dV kvs vs))/\RelWs K μ H (kvs.map fun p=>p.2) vs:=by
 cases x with
 |loc m=>
  simp only[nj]at h
  cases e:st[m]? with
  |none=>rw[e]at h;cases h
  |some c=>
   rw[e]at h
   cases c with
   |dct z=>
    cases h
    obtain⟨a,g,vs,k,rr⟩:=S.get e
    obtain⟨b,f,rfl⟩:=r.locE
    rw[g]at f;cases f
    exact⟨a,vs,.inl e,g,rfl,.inl k,rr⟩
   |rod z=>
    cases h
    obtain⟨a,g,vs,o,k,rr⟩:=S.get e
    obtain⟨b,f,rfl⟩:=r.locE
    rw[g]at f;cases f
    exact⟨a,vs,.inr e,g,rfl,.inr ⟨o,k⟩,rr⟩
   |_=>cases h
 |_=>cases h
theorem ID{K:Frag}{mg:Str->Option Value}{μ:List Addr}{st:List al}{H:Hp}(S:gn K mg μ st H){x:W}{v:V}{n:Nat}{kvs:List (DK×W)}(h:CI st x=some (n,kvs))(r:bf K μ H x v) :
  ∃a vs,st[n]?=some (.dct kvs)/\μ[n]?=some a/\v=.ref a/\H a=some (.dK (dV kvs vs))/\RelWs K μ H (kvs.map fun p=>p.2) vs:=by
 cases x with
 |loc m=>
  simp only[CI]at h
  cases e:st[m]? with
  |none=>rw[e]at h;cases h
  |some c=>
   rw[e]at h
   cases c with
   |dct z=>
    cases h
    obtain⟨a,g,vs,k,rr⟩:=S.get e
    obtain⟨b,f,rfl⟩:=r.locE
    rw[g]at f;cases f
    exact⟨a,vs,e,g,rfl,k,rr⟩
   |_=>cases h
 |_=>cases h
theorem ua.r{H:Hp}{a:Addr}{kvs:List (iy×V)}{k:iy}(e:Rd H a (.dK kvs)):ua H a (kV k) (nB kvs k):=.inl ⟨kvs,k,e,rfl,rfl⟩
section
variable{X:Cx}{a b c d e o i:Expr}{es:List Expr}{pos p p2 iF gW eJ:Pos}{x name:Str}{fa fb fc fe fo fi:FE}{fs:FA}{kk:Nat}
def xW(x i v:W)(st:List al):Option (List al):=match CI st x,uS i with
 |some (n,kvs),some k=>if kvs.length<lB then some (st.set n (.dct (rS kvs k v)))else none
 |_,_=>none
theorem Mq(hr:gB kk X.A):Ln X (JP X xW):=fun af s σ H o i v ov iv u Q I r1 r2 r3 ⟨μ,st,wo,wi,wv,bu,S,ro,ri,rv,e,q⟩=>by
 unfold xW at e
 cases e1:CI st wo with
 |none=>rw[e1]at e;cases e
 |some nk=>
  obtain⟨n,kvs⟩:=nk
  cases e2:uS wi with
  |none=>rw[e1,e2]at e;cases e
  |some k=>
   rw[e1,e2]at e
   simp only at e
   split at e
   ·rename_i hl
    cases e
    obtain⟨a,vs,hn,hm,rfl,ha,r⟩:=ID S e1 ro
    have:=Bp e2 ri
    subst this
    obtain rfl:ov=Value.ref a:=r1
    obtain⟨us,g1,g2⟩:=Mo (k:=k) r rv
    refine Cg (JA hr) I (Cf.k ha (by rw[Mp r];exact aU hl (by decide))) r2 r3 fun s' I'=>⟨_,I',?_⟩
    rw[g1]
    exact q _ (fQ.butD mo ha) (S.setD hn hm ha g2)
   ·cases e
def JU:FE:=fun _ st=>.ok (.loc st.length) (st++[.dct []])
theorem Mr:SE X (.Dict [] [] pos) JU:=⟨DW.imp fun σ H Q h=>by
 obtain⟨μ,ρ,st,l,h⟩:=h
 intro p hp
 have hs:ju H (eY H p (.dK [])):=cY hp _
 exact h (μ++[p]) (.ref p) _ (aR _ _) (fQ.same hs) (l.sto.push (c:=.dct []) hp ⟨[],dR,.nilI⟩) (qB l.sto)⟩
def keysOf:List (W×W)->Option (List (DK×W))
 |[]=>some []
 |(k,v)::r=>match uS k,keysOf r with
  |some k,some r=>some ((k,v)::r)
  |_,_=>none
end
def vS(h:Heap)(mg:Str->Option Value):Prop:=∃bm o,mg "__builtins__"=some (.ref bm)/\bm≠builtinsNs/\h.get? bm=some o/\o.cls=.type "module"/\o.dict=some builtinsNs/\o.data=.plain
structure JV(ts:List Addr)(H:Hp):Prop where
 all:∀b,H b=none\/(∃o xs,H b=some (.frz o (.lst xs)))\/(b∈ts/\H b=some (.tbl #[]))
 tab:∀T∈ts,H T=some (.tbl #[])
theorem CJ{P:Program}{w:World}{K:Frag}{mg mb:Str->Option Value}{CX:zo}{k:Nat}{fa a:Addr}{fd:FuncData}{x:Str}{sp:Sp}{s₁:Shared}{vs:List Value}{ns:List Int}{ts:List Addr}
  (KX:K.In s₁.heap) (N4:s₁.heap.Ns mainGlobals mg) (hb:s₁.heap.Ns builtinsNs mb) (UJ:∀x:Str,x ≠ "__name__"->mb x=bootBuiltins x) (Tz:s₁.heap.NoLimit) (hg:s₁.gens=#[])
  (ha:s₁.heap.get? a=some { cls:=.type "list",data:=.seq vs.toArray }) (hi:IntsAre vs ns) (hl:ns.length<=sizeLine) (hr:gB k callerA)
  (ht:∀T∈ts,s₁.heap.get? T=some { cls:=.none,data:=.fields #[] }) (TX:∀T∈ts,K.lookup T=none) (Ru:∀T∈ts,isCodeTable s₁.heap T)
  (UG:vS s₁.heap mg) (F:∀base:Heap,K.In base->base.Ns mainGlobals mg->vS base mg->dE P w K mg base CX k fa fd [x] sp) (RM:∀(s:Shared) (u:Value),BindsTo s fd ⟨[u],[]⟩ [(x,u)])
  (He:∀H:Hp,JV ts H->pN K H a (ns.map V.int)->sp [.ref a] H (fun v _=>v=.bl true) fun _ _ _=>False)
  (UI:∀H e s',CX [] H s₁ (fun _ _ _=>False) e s'->False) :
  codeAny (model P w) callerA (.call (.ref fa) ⟨[.ref a],[]⟩) (fun r s'=>r=.ok (.ret (.bool true))/\OldK s₁.heap s'.heap/\s'.os=s₁.os/\AllBare s'.gens) s₁:=by
 have rv:=uC hi
 have lenV:=hi.length
 have hta:∀T∈ts,T≠a:=fun T hT z=>by
  have:=ht T hT
  rw[z,ha]at this
  have h2:=cM Obj.cls (aS this)
  cases h2
 have core:∀H:Hp,JV ts H->pN K H a (ns.map V.int)->kB P w H s₁.heap->(∀b,H b≠none->b=a\/b∈ts)->(H a≠none->K.lookup a=none) ->
   codeAny (model P w) callerA (.call (.ref fa) ⟨[.ref a],[]⟩) (fun r s'=>r=.ok (.ret (.bool true))/\OldK s₁.heap s'.heap/\s'.os=s₁.os/\AllBare s'.gens) s₁:=by
  intro H hO hS hok hA hK
  have base_of:∀{b:Addr} {o:Obj},s₁.heap.get? b=some o->H b=none->(t8 s₁.heap H).get? b=some o:=fun e n=>Dz e n
  have noA:∀{b:Addr} {o:Obj} {es:Array DictEntry} {ep:Nat},s₁.heap.get? b=some o->o.data=.dict es ep->H b=none:=fun{b o es ep} e d=>by
   cases q:H b with
   |none=>rfl
   |some u=>
    rcases hA b (by rw[q];simp)with e'|e'
    ·subst e'
     rw[ha]at e;cases e
     have d':Data.seq vs.toArray _=Data.dict es ep:=d
     cases d'
    ·rw[ht b e']at e;cases e
     have d':Data.fields _=Data.dict es ep:=d
     cases d'
  have nsK:∀{b:Addr} {m:Str->Option Value},s₁.heap.Ns b m->(t8 s₁.heap H).Ns b m:=fun{b m} ⟨o,es,ep,e,d,r⟩=>⟨o,es,ep,base_of e (noA e d),d,r⟩
  have hKb:K.In (t8 s₁.heap H):=fun b o e=>base_of (KX b o e) (by
   cases q:H b with
   |none=>rfl
   |some u=>
    rcases hA b (by rw[q];simp)with e'|e'
    ·subst e'
     rw[hK (by rw[q];simp)]at e;cases e
    ·rw[TX b e']at e;cases e)
  have hbk':vS (t8 s₁.heap H) mg:=by
   obtain⟨bm,o,b1,b2,b3,b4,b5,b6⟩:=UG
   refine⟨bm,o,b1,b2,base_of b3 ?_,b4,b5,b6⟩
   cases q:H bm with
   |none=>rfl
   |some u=>
    rcases hA bm (by rw[q];simp)with e'|e'
    ·subst e'
     rw[ha]at b3;cases b3;exact absurd b4 (by simp)
    ·rw[ht bm e']at b3;cases b3;cases b4
  have hM:Mod K mg (t8 s₁.heap H):=⟨hKb,nsK N4,⟨mb,nsK hb,UJ⟩,let ⟨mc,h1,h2⟩:=Tz;⟨mc,nsK h1,h2⟩⟩
  have e0:rL P w K mg (t8 s₁.heap H) callerA [] s₁ H:=⟨rfl,hM,fun b o e=>Hg e,Nat.le_of_eq (B2 _ _),trivial,fun b hb=>absurd (show b∈([]:List Addr)from hb) (by simp),hok,.of_eq hg⟩
  refine gi ((F _ hKb (nsK N4) hbk').run callerA [] s₁ H ⟨[.ref a],[]⟩ [.ref a] [.ref a] _ _ hr e0 (RM s₁ (.ref a)) (.cons rfl .nil) (He H hO hS)) fun r s' h=>?_
  cases r with
  |error e=>exact(UI H e s' h).elim
  |ok fl=>
   cases fl with
   |next=>exact False.elim h
   |brk=>exact False.elim h
   |cont=>exact False.elim h
   |ret u=>
    obtain⟨v,H',os,bare,un,hok',r',q⟩:=h
    have q':v=.bl true:=q
    subst q'
    obtain rfl:u=Value.bool true:=r'
    have was:∀b o,s₁.heap.get? b=some o->asItWas s₁.heap s'.heap b o/\∃o',s'.heap.get? b=some o':=fun b o e=>by
     cases q:H b with
     |none=>
      have:=un.keep b o e q (by intro z;exact absurd (show b∈([]:List Addr)from z) (by simp)) (by simp)
      exact⟨.inl this,_,this⟩
     |some u=>
      rcases hO.all b with z|⟨ob,xs,z⟩|⟨hbt,z⟩
      ·rw[q]at z;cases z
      ·have z2:=un.frzs b ob _ z
       obtain⟨e1,_⟩:=hok b _ z
       obtain⟨e2,_⟩:=hok' b _ z2
       rw[e]at e1;cases e1
       exact⟨.inl e2,_,e2⟩
      ·obtain⟨more,z2⟩:=un.tbls b _ z
       have e2:s'.heap.get? b=some { cls:=.none,data:=.fields (#[]++more) }:=hok' b _ z2
       rw[ht b hbt]at e
       cases e
       exact⟨.inr (.inl ⟨Ru b hbt,rfl,#[],more,rfl,e2⟩),_,e2⟩
    exact⟨rfl,⟨fun b o e=>(was b o e).1,fun b o e=>(was b o e).2⟩,os,bare⟩
 have tb:∀(f:Hp),(∀T∈ts,f T=some (.tbl #[]))->∀T∈ts,fz P w f s₁.heap T (.tbl #[]):=fun f _ T hT=>ht T hT
 have dec:∀b:Addr,b∈ts\/b∉ts:=fun b=>Classical.em _
 open Classical in
 cases hk:K.lookup a with
 |some o=>
  have e:=KX a o hk
  rw[ha]at e
  cases e
  refine core (fun b=>if b∈ts then some (.tbl #[])else none) ⟨fun b=>?_,fun T hT=>aq hT⟩ (.inr ⟨_,vs.toArray,_,hk,rfl,rfl,rfl,by rw[aZ,lenV];exact hl,by simpa using rv⟩) (fun b u z=>?_) (fun b z=>?_) (fun z=>?_)
  ·by_cases hb:b∈ts
   ·exact .inr (.inr ⟨hb,aq hb⟩)
   ·exact .inl (ax hb)
  ·by_cases hb:b∈ts
   ·have z':=(aq hb).symm.trans z
    cases z'
    exact ht b hb
   ·have z':=(ax hb).symm.trans z
    cases z'
  ·by_cases hb:b∈ts
   ·exact .inr hb
   ·exact absurd (ax hb) z
  ·exact absurd (ax (fun q=>hta a q rfl)) z
 |none=>
  refine core (fun b=>if b=a then some (.frz { cls:=.type "list",data:=.seq vs.toArray } (.lst (ns.map V.int)))else if b∈ts then some (.tbl #[])else none) ⟨fun b=>?_,fun T hT=>(ax (hta T hT)).trans (aq hT)⟩ (.inl (.inr ⟨{ cls:=.type "list",data:=.seq vs.toArray },aq rfl⟩)) (fun b u z=>?_) (fun b z=>?_) (fun _=>hk)
  ·by_cases hb:b=a
   ·exact .inr (.inl ⟨_,_,aq hb⟩)
   ·by_cases hb2:b∈ts
    ·exact .inr (.inr ⟨hb2,(ax hb).trans (aq hb2)⟩)
    ·exact .inl ((ax hb).trans (ax hb2))
  ·by_cases hb:b=a
   ·have z':=(aq hb).symm.trans z
    cases z'
    subst hb
    exact⟨ha,by rw[ar];exact hl,vs,_,rv,ha⟩
   ·by_cases hb2:b∈ts
    ·have z':=((ax hb).trans (aq hb2)).symm.trans z
     cases z'
     exact ht b hb2
    ·have z':=((ax hb).trans (ax hb2)).symm.trans z
     cases z'
  ·by_cases hb:b=a
   ·exact .inl hb
   ·by_cases hb2:b∈ts
    ·exact .inr hb2
    ·exact absurd ((ax hb).trans (ax hb2)) z
def EF(tc:List al)(F:List W->List al->R W):Prop:=∀ns:List Int,ns.length<=63->∃bu,F [.loc 0] (.ro (ns.map W.int)::tc)=.ok (.bl true) bu
def sZ(L:List (Addr×Pos×Str)):List al:=L.map fun t=>.tab t.1 t.2.1 t.2.2
theorem walkT{l:PySem.W.OpenLaw}{k:Nat}{q:Program}{BW:List Str}{XP:(Str->Option Value)->Heap->Prop}{YP:World->Heap->Prop}{d:DefRec}{K:Params->Frag}{x:Str}{G:List W->List al->R W}(L:List (Addr×Pos×Str))(hL:(L.map fun t=>t.1).Nodup)(hn:l.most=some 63)(TD:d.params.defaults=[])(hr:gB k callerA)
  (hY:∀(w:World) (h:Heap),YP w h->(K w.params).In h) (hT:∀(w:World) (h:Heap),YP w h->∀T∈L.map (fun t=>t.1),h.get? T=some { cls:=.none,data:=.fields #[] })
  (TX:∀(w:World),∀T∈L.map (fun t=>t.1),(K w.params).lookup T=none) (Ru:∀(w:World),∀T∈L.map (fun t=>t.1),∃c,codeHdIn (K w.params) c T=true)
  (F:∀(w:World) (mg:Str->Option Value) (fa:Addr) (h:Heap),(K w.params).In h->h.Ns mainGlobals mg->mg d.name=some (.ref fa) ->
   ∃fd:FuncData,(∀(s:Shared) (u:Value),BindsTo s fd ⟨[u],[]⟩ [(x,u)])/\∀base:Heap,(K w.params).In base->base.Ns mainGlobals mg->vS base mg->dE l.prog w (K w.params) mg base (iC l.prog w) k fa fd [x] (jr (K w.params) mg 1 G))
  (ok:EF (sZ L) G):PySem.W.WalkO q BW XP YP l.row.toRowW d [] (fun f vs=>PySem.call f vs):=by
 refine Att.attach_call hn TD fun w s₀ s₁ mg mb fa o pm cd i9 a vs ns G' Y ho hd pL hmg hobj hints eR hg=>?_
 have KX:=hY w _ Y
 obtain⟨fd,hb,hF⟩:=F w mg fa _ KX G'.T.g hmg
 refine CJ (ts:=L.map fun t=>t.1) (CX:=iC l.prog w) (sp:=jr (K w.params) mg 1 G) KX G'.T.g G'.T.b G'.T.builtins G'.T.nolimit hg hobj hints (bh eR (by decide)) hr (hT w _ Y) (TX w) (fun T hT'=>?_) G'.T.bmain hF hb (fun H hO hS=>?_) fun H e s' z=>?_
 ·obtain⟨c,hc⟩:=Ru w T hT'
  obtain⟨o,vs,_,_,_,_,_,_,_,e1,e2,e3,e4,_⟩:=PySem.W.codeHd_of_K KX hc
  exact⟨c,o,vs,e1,e2,e3,e4⟩
 ·obtain⟨bu,e⟩:=ok ns eR
  have zm:RV (K w.params) H a (ns.map V.int):=by
   rcases hS with(z|⟨o,z⟩)|z
   ·rcases hO.all a with y|⟨o,xs,y⟩|⟨_,y⟩
    ·rw[z]at y;cases y
    ·rw[z]at y;cases y
    ·rw[z]at y;cases y
   ·exact .inl ⟨o,z⟩
   ·exact .inr z
  have hta:∀T∈L.map (fun t=>t.1),T≠a:=fun T hT' z=>by
   have:=hT w _ Y T hT'
   rw[z,hobj]at this
   have h2:=cM Obj.cls (aS this)
   cases h2
  have hri:∀μ:List Addr,RelWs (K w.params) μ H (ns.map W.int) (ns.map V.int):=fun μ=>by
   clear hS zm e eR hints
   induction ns with
   |nil=>exact .nilI
   |cons n r ih=>exact .consI .int ih
  refine⟨rfl,a::L.map (fun t=>t.1),[.loc 0],.ro (ns.map W.int)::sZ L,⟨fun i j b ci cj c1 c2 r1 r2 m1 m2=>?_,by simp[sZ],fun i c b c1 c2=>?_⟩,.consI (.locI rfl) .nilI,?_⟩
  ·cases i with
   |zero=>cases c1;cases r1
   |succ i=>
    cases j with
    |zero=>cases c2;cases r2
    |succ j=>
     simp only[ma]at m1 m2
     rw[(List.getElem?_inj (ai.mp m1).1 hL).mp (m1.trans m2.symm)]
  ·cases i with
   |zero=>cases c1;cases c2;exact⟨_,zm,hri _⟩
   |succ i=>
    simp only[ma]at c1 c2
    unfold sZ at c1
    rw[aD]at c1 c2
    cases e1:L[i]? with
    |none=>rw[e1]at c1;cases c1
    |some t=>
     rw[e1]at c1 c2
     cases c1;cases c2
     exact⟨rfl,#[],hO.tab _ (aJ.mpr ⟨t,aY e1,rfl⟩),trivial,.inl rfl⟩
  ·rw[e]
   intro μ' v H' _ _ _ rv
   exact rv.blE
 ·obtain⟨_,_,_,_,_,_,z,_⟩:=z
  exact z
section
variable{X:Cx}{af:List (Addr×Obj)}{σ:St}{H:Hp}{s:Shared}{A:Around}{E:Value->Shared->Prop}{Q:Value->Shared->Prop}
structure EG(X:Cx)(af:List (Addr×Obj))(σ:St)(H:Hp)(s:Shared)(f c0 cd a it:Addr)(fo:Obj)(q:Str)(vs:List (iy×Value))(ep j:Nat):Prop where
 inv:bw X af σ H s
 fn:s.heap.get? f=some fo
 code:s.heap.CodeRec (.ref cd) q
 cell:s.heap.IsCell c0 (some (.ref a))
 dict:s.heap.DictAt (fR X.prog X.w) a vs ep
 eh:s.heap.IsKeyIter it a j vs.length ep
theorem EG.go{f c0 cd a it:Addr}{fo:Obj}{q:Str}{vs:List (iy×Value)}{ep j j':Nat}{h':Heap}{t':Nat}{b0:Addr}(M:EG X af σ H s f c0 cd a it fo q vs ep j)(I:bw X af σ H { s with heap:=h',toks:=t' })
  (k:∀b o,b≠b0->s.heap.get? b=some o->h'.get? b=some o) (n1:f≠b0) (n2:cd≠b0) (n3:c0≠b0) (n4:a≠b0) (hi:h'.IsKeyIter it a j' vs.length ep):EG X af σ H { s with heap:=h',toks:=t' } f c0 cd a it fo q vs ep j':=by
 obtain⟨c2,oc,ws,tt,e2,hoc,hd,hv⟩:=M.code
 cases e2
 refine⟨I,k f _ n1 M.fn,⟨_,oc,ws,tt,rfl,k _ _ n2 hoc,hd,hv⟩,?_,M.dict.at' fun o e=>k a o n4 e,hi⟩
 obtain⟨o,ho,hd⟩:=M.cell
 exact⟨o,k c0 o n3 ho,hd⟩
end
def Te(K:Frag)(fd:FuncData)(P:Addr):Prop:=∃c,fd.code=.ref c/\codeHdIn K c P=true/\K.lookup P=none
theorem vT{a b:Int}{t u:Tok}{c:Value}(l:List Value)(h:TriplesOk l):TriplesOk (l++[.int a t,.int b u,c]):=by
 fun_induction TriplesOk l with
 |case1=>exact trivial
 |case2 _ _ _ _ _ rest ih=>exact ih h
 |case3=>exact h.elim
section
variable{K:Frag}{mg:Str->Option Value}{μ:List Addr}{st:List al}{H:Hp}
abbrev uk(H:Hp)(P cd:Addr)(q:Str)(ps:Array Value)(pos:Pos):Hp:=eY (eY H cd (jM cd q)) P (.tbl (ps++#[rawInt pos.line,rawInt pos.col,.ref cd]))
theorem vU{P cd b:Addr}{q:Str}{ps:Array Value}{pos:Pos}(n1:b≠P)(n2:b≠cd):uk H P cd q ps pos b=H b:=by
 show eY (eY H cd _) P _ b=_
 rw[cv n1,cv n2]
theorem EH{P cd:Addr}{q:Str}{ps:Array Value}{pos:Pos}:uk H P cd q ps pos P=some (.tbl (ps++#[rawInt pos.line,rawInt pos.col,.ref cd])):=dR
theorem vV{P cd:Addr}{q:Str}{ps:Array Value}{pos:Pos}(h:P≠cd):uk H P cd q ps pos cd=some (jM cd q):=by
 show eY (eY H cd _) P _ cd=_
 rw[cv (Ne.symm h),dR]
theorem fQ.butT{l:Addr}{xs:Array Value}{H':Hp}(e:Du l H H')(hl:H l=some (.tbl xs)):dD K H H':=by
 have oK:∀{p:Addr} {o:HO},H p=some o->(∀zs,o≠.tbl zs)->p≠l:=fun{p o} q hn z=>by subst z;rw[hl]at q;cases q;exact hn _ rfl
 refine⟨fun p ys h=>?_,fun b o u h=>e _ _ (oK h (fun _ z=>by cases z)) h⟩
 rcases h with(h|⟨o,h⟩)|h
 ·exact .inl (.inl (e _ _ (oK h (fun _ z=>by cases z)) h))
 ·exact .inl (.inr ⟨o,e _ _ (oK h (fun _ z=>by cases z)) h⟩)
 ·exact .inr h
theorem EI{α:Type}{l:List α}{i:Nat}{x:α}(h:l[i]?=some x):l.set i x=l:=by
 refine fO fun j=>?_
 by_cases e:i=j
 ·subst e;rw[bq (ai.mp h).1,h]
 ·rw[bR e]
theorem gn.tabbed{i:Nat}{P cd:Addr}{pos:Pos}{q:Str}{ps:Array Value}(S:gn K mg μ st H)(hi:st[i]?=some (.tab P pos q))(hP:H P=some (.tbl ps))(pL:H cd=none)(ht:TriplesOk ps.toList)(hn:codeAmong pos ps.toList=none) :
  gn K mg μ st (uk H P cd q ps pos)/\dD K H (uk H P cd q ps pos):=by
 have hs:ju H (eY H cd (jM cd q)):=cY pL _
 have oK:P≠cd:=fun z=>by rw[z,pL]at hP;cases hP
 have hP1:eY H cd (jM cd q) P=some (.tbl ps):=hs _ _ hP
 have hx:dD K (eY H cd (jM cd q)) (uk H P cd q ps pos):=fQ.butT mo hP1
 obtain⟨a,hm,ea,_⟩:=S.get hi
 subst ea
 have:=(S.same hs).setG (c':=.tab a pos q) hi rfl hm hP1 (fun _ _ z=>by cases z) (fun _ z=>by cases z) hx rfl ⟨rfl,_,dR,?_,.inr ⟨cd,?_,?_⟩⟩
 ·rw[EI hi]at this
  exact⟨this,(fQ.same hs).trans hx⟩
 ·rw[Array.toList_append];exact vT _ ht
 ·rw[Array.toList_append];exact codeAmong_snoc _ ht hn
 ·exact vV oK
end
section
variable{X:Cx}{af:List (Addr×Obj)}{σ:St}{H:Hp}{s:Shared}{E:Value->Shared->Prop}{Q:Value->Shared->Prop}
theorem bw.tabbed{h':Heap}{t':Nat}{P cd:Addr}{pos:Pos}{q:Str}{ps:Array Value}(I:bw X af σ H s)(hP:H P=some (.tbl ps))(Oo:s.heap.objs.size<=cd)(hx:∀b o,b≠P->s.heap.get? b=some o->h'.get? b=some o)
  (Oc:h'.CodeRec (.ref cd) q) (Sb:h'.get? P=some { cls:=.none,data:=.fields (ps++#[rawInt pos.line,rawInt pos.col,.ref cd]) }):bw X af σ (uk H P cd q ps pos) { s with heap:=h',toks:=t' }:=by
 have pL:H cd=none:=I.hok.fresh Oo
 have oK:P≠cd:=fun z=>by rw[z,pL]at hP;cases hP
 have notP:∀b,H b=none->b≠P:=fun b n z=>by rw[z,hP]at n;cases n
 have old:∀b o,s.heap.get? b=some o->b≠cd:=fun b o e=>ba (aU (aE e) Oo)
 have keepH:∀b u,H b=some u->b≠P->uk H P cd q ps pos b=some u:=fun b u e n=>by
  rw[vU n (fun z=>by rw[z,pL]at e;cases e)];exact e
 have Hcd:uk H P cd q ps pos cd=some (jM cd q):=vV oK
 refine I.call' (ch:=[]) rfl ⟨fun b o e n hb hx'=>hx b o (notP b n) e,fun b o e n hb hx'=>⟨o.slots,hx b o (notP b n) e⟩,fun b o e n hx'=>?_,fun b o e hx'=>?_,fun b xs e=>?_,fun b o u e=>?_,fun b RP e=>?_⟩ (fun b u e=>?_) I.bare fun b hb=>absurd hb (by simp)
 ·rw[vU (notP b n) (old b o e)];exact n
 ·by_cases hb:b=P
  ·subst hb;exact⟨_,Sb⟩
  ·exact⟨o,hx b o hb e⟩
 ·exact keepH b _ e fun z=>by rw[z,hP]at e;cases e
 ·exact keepH b _ e fun z=>by rw[z,hP]at e;cases e
 ·by_cases hb:b=P
  ·subst hb
   rw[hP]at e;cases e
   exact⟨_,EH⟩
  ·exact⟨#[],by rw[keepH b _ e hb];simp⟩
 ·by_cases hb:b=P
  ·subst hb
   rw[EH]at e;cases e
   exact Sb
  ·by_cases hb2:b=cd
   ·subst hb2
    rw[Hcd]at e;cases e
    obtain⟨c2,oc,vs,t,e2,hoc,hd,hv⟩:=Oc
    cases e2
    refine⟨⟨oc,vs,t,hoc,hd,hv⟩,⟨oc,hoc⟩,fun h1 h2 p k=>?_⟩
    obtain⟨o,vs,t,ho,r⟩:=p
    exact⟨o,vs,t,k o ho,r⟩
   ·rw[vU hb hb2]at e
    refine(I.hok b u e).stay (fun c v hc q'=>hx c v (fun z=>?_) q') (fun c q'=>keepH c _ q' fun z=>by rw[z,hP]at q';cases q') fun c xs q'=>keepH c _ q' fun z=>by rw[z,hP]at q';cases q'
    rcases hc with rfl|hc
    ·exact hb z
    ·rw[z,hP]at hc;cases hc
end
def xX(st:List al)(j:Nat)(P:Addr)(pos:Pos)(q:Str):Prop:=st[j]?=some (.tab P pos q)
section
variable{X:Cx}{en dn q:Str}{pr:Arguments}{p p1 p2 p3 p4 UL TQ pos:Pos}{sc:Scope}{i j kk m:Nat}{c P:Addr}
end
section
variable{X:Cx}{o e f:Expr}{fo fk fd fe:FE}{gW eJ:Pos}{kk:Nat}
def jy(fo fk fd:FE):FE:=fun ρ st=>(fo ρ st).bind fun x st=>match nj st x with
 |some _=>(fk ρ st).bind fun y st=>(fd ρ st).bind fun z st=>(match nj st x,uS y with
  |some (_,kvs),some k=>.ok ((mB kvs k).getD z) st
  |_,_=>.bad)
 |none=>.bad
theorem sd{f:Expr}(hr:gB kk X.A)(ho:SE X o fo)(he:SE X e fe)(hf:SE X f fd)(m:M2 X o "get" gW e f eJ:=by exact⟨by rfl,by rfl,by rfl,by rfl⟩):SE X (.Call (.Attribute o "get" gW) [e,f] [] eJ) (jy fo fe fd):=⟨(DY (JA hr) ho.h he.h hf.h m).imp fun σ H Q h=>by
 obtain⟨μ,ρ,st,l,h⟩:=h
 refine⟨μ,ρ,st,l,RK.bind h l fun μ1 st1 x v H1 p1 x1 l1 q1 h1=>?_⟩
 cases e0:nj st1 x with
 |none=>rw[e0]at h1;exact h1.elim
 |some nk0=>
  obtain⟨n0,kvs0⟩:=nk0
  rw[e0]at h1
  simp only at h1
  obtain⟨a0,vs0,_,hm0,rfl,ha0,_⟩:=xV l1.sto e0 q1
  refine⟨a0,rfl,.inl ⟨_,ha0⟩,μ1,ρ,st1,l1,RK.bind h1 l1 fun μ2 dw y u H2 p2 x2 l2 q2 h2=>⟨μ2,ρ,dw,l2,RK.bind h2 l2 fun μ3 jB d t H3 p3 x3 l3 q3 h3=>?_⟩⟩
  cases e1:nj jB x with
  |none=>rw[e1]at h3;exact h3.elim
  |some nk=>
   obtain⟨n,kvs⟩:=nk
   cases e2:uS y with
   |none=>rw[e1,e2]at h3;exact h3.elim
   |some k=>
    rw[e1,e2]at h3
    simp only at h3
    obtain⟨a,vs,_,hm,ea,ha,r⟩:=xV l3.sto e1 ((q1.mono p2 x2).mono p3 x3)
    cases ea
    have:=Bp e2 q2
    subst this
    rcases EC k r with⟨w,z,g1,g2,g3⟩|⟨g1,g2⟩
    ·rw[g1]at h3
     exact⟨some z,by rw[<- g2];exact ua.r ha,h3 μ3 z H3 (aj _) dD.refl l3.sto g3⟩
    ·rw[g1]at h3
     exact⟨none,by rw[<- g2];exact ua.r ha,h3 μ3 t H3 (aj _) dD.refl l3.sto q3⟩⟩
end
section
variable{X:Cx}{x y:Str}{a b:Expr}{fs:FA}{pos:Pos}
end
inductive DefIn(K:Frag)(x:Str)(st:Stmt):Prop
 |mk {ad:Addr} {od an:Option Addr} {sl:Array (Option Value)} {oc kV dc pm cd ct:Value} (a:nsIn K mainGlobals x=some (some (.ref ad)))
   (l:K.lookup ad=some ⟨oc,od,.func (fnOf x x (eK st) (ef st) (aI st) .none kV dc pm an cd ct),sl⟩) (c:codeIn K cd x=true) (k:keepIn K (.ref ad)=true):DefIn K x st
theorem DefIn.fn{K:Frag}{x:Str}{st:Stmt}{h:Heap}{mg:Str->Option Value}(d:DefIn K x st)(X:K.In h)(G:h.Ns mainGlobals mg):∃f fd,iY K x x st f fd/\mg x=some (.ref f):=by
 obtain⟨a,l,c,k⟩:=d
 exact⟨_,_,zB (st:=st) l c k,mg_of X G a⟩
theorem Uw:∀{l:List Value},l.length=1->∃a,l=[a]
 |[a],_=>⟨a,rfl⟩
theorem ln2:∀{l:List Value},l.length=2->∃a b,l=[a,b]
 |[a,b],_=>⟨a,b,rfl⟩
theorem Ux:∀{l:List Value},l.length=3->∃a b c,l=[a,b,c]
 |[a,b,c],_=>⟨a,b,c,rfl⟩
theorem Uy:∀{l:List Value},l.length=4->∃a b c d,l=[a,b,c,d]
 |[a,b,c,d],_=>⟨a,b,c,d,rfl⟩
theorem Uz:∀{l:List Value},l.length=5->∃a b c d e,l=[a,b,c,d,e]
 |[a,b,c,d,e],_=>⟨a,b,c,d,e,rfl⟩
theorem UA:∀{l:List Value},l.length=6->∃a b c d e f,l=[a,b,c,d,e,f]
 |[a,b,c,d,e,f],_=>⟨a,b,c,d,e,f,rfl⟩
section
variable{P:Program}{w:World}{K:Frag}{mg:Str->Option Value}{base:Heap}{k n:Nat}{x:Str}{st:Stmt}{f:Addr}{fd:FuncData}{ps:List Str}{G:List W->List al->R W}
theorem cL(F:iY K x x st f fd)(hm:mg x=some (.ref f))(ok:dE P w K mg base (iC P w) k f fd ps (jr K mg n G))(hn:ps.length=n:=by rfl)
  (hb:∀(kV i9 pm:Value) (an:Option Addr) (fT ct:Value) (us:List Value),us.length=ps.length->bindArgs (fnOf x x (eK st) (ef st) (aI st) .none kV i9 pm an fT ct) ⟨us,[]⟩=pure (ps.zip us):=by(intro _ _ _ _ _ _ _ q;first|(obtain⟨_,rfl⟩:=Uw q;rfl)|(obtain⟨_,_,rfl⟩:=ln2 q;rfl)|(obtain⟨_,_,_,rfl⟩:=Ux q;rfl)|(obtain⟨_,_,_,_,rfl⟩:=Uy q;rfl)|(obtain⟨_,_,_,_,_,rfl⟩:=Uz q;rfl)|(obtain⟨_,_,_,_,_,_,rfl⟩:=UA q;rfl))):bK P w K mg base k x n G:=r_ F hm hn hb ok
end
def P8:List Str->Bool
 |[]=>true
 |x::r=>!(r.any fun y=>y==x)&&P8 r
theorem zV:∀{l:List Str},P8 l=true->l.Nodup
 |[],_=>.nil
 |x::r,h=>by
  simp only[P8,bN,fK,kP,c7]at h
  exact bP.mpr ⟨fun m=>h.1 x m rfl,zV h.2⟩
section
variable{X:Cx}{e:Expr}{pos:Pos}{x:Str}{fe:FE}{ps:List Str}{sp scope:Scope}
theorem lc{N:List Str}(a:sp.kind=.function:=by rfl)(b:sp.isCoroutine=false:=by rfl)(c:sp.isGenerator=false:=by rfl)(d:N.Nodup:=by decide +kernel)(f:N.take ps.length=ps:=by rfl)(g:∀x∈ps,sp.names.lookup x=some .local\/sp.names.lookup x=some .cell:=by decide +kernel)(h:∀y∈sp.names,y.2≠.free:=by decide +kernel):bn N ps sp:=⟨a,b,c,d,f,g,h⟩
theorem sS(i:Nat){iF:Pos}(sc:bn X.N ps sp)(he:SE X e fe)(hi:X.N[i]?=some x:=by rfl)(hx:DA X.env.scope x:=by first|exact .inl rfl|exact .inr rfl)(hs:swapsWith e (some (.Name x iF)) pos.line X.env=pure false:=by rfl)(hf:X.fn x=true\/X.env.scope.names.lookup x=some .local:=by first|exact .inl rfl|exact .inr rfl|assumption) :
  SS X (.Assign [.Name x iF] e pos) (bE i fe):=Me sc.nd hi hx he hs hf
theorem sG(i:Nat)(sc:bn X.N ps sp)(hi:X.N[i]?=some x:=by rfl)(hx:DA X.env.scope x:=by first|exact .inl rfl|exact .inr rfl)(hf:X.fn x=true\/X.env.scope.names.lookup x=some .local:=by first|exact .inl rfl|exact .inr rfl|assumption):SG X (.Name x pos) (hZ i):=Bh sc.nd hi hx hf
theorem sC{nm:List Str}{cl:List (Str×Addr)}{C s0 H0 fp}(i:Nat)(hN:nm.Nodup:=by decide +kernel)(hi:nm[i]?=some x:=by rfl)(hx:DA (cK X nm scope cl C s0 H0 fp).env.scope x:=by first|exact .inl rfl|exact .inr rfl)(hf:(cK X nm scope cl C s0 H0 fp).fn x=true\/(cK X nm scope cl C s0 H0 fp).env.scope.names.lookup x=some .local:=by first|exact .inl rfl|exact .inr rfl|assumption) :
  SG (cK X nm scope cl C s0 H0 fp) (.Name x pos) (hZ i):=Bh (X:=cK X nm scope cl C s0 H0 fp) hN hi hx hf
end
section
variable{X:Cx}{qk tg eh:Expr}{nZ:List Expr}{scope:Scope}{pos:Pos}{cap:List (Option Nat)}{fi:FI}{f:FG}{t:FT}{el:FE}{m:Nat}
end
end L2
namespace HT
open PySem PyProof.Rows
section
open PySem.SeqAt
open PySem.AutoSeq1 (wpAny_loadPart')
open PySem.MeetsSeq PySem.MeetsSeq2 PySem.MeetsSeq3
end
end HT
namespace L2
open PySem PySem.Spec PyProof.Rows
section
variable{X:Cx}{af:List (Addr×Obj)}{σ:St}{H:Hp}{s:Shared}{μ:List Addr}
end
end L2
namespace PK
open PySem
section
variable{prog:Program}{w:World}{K1 K2:Type}[DecidableEq K1][DecidableEq K2](knd:KeyKind prog w K1)(hk:HeapKind prog w K2)
def Is(h:Heap)(k:K1×K2)(a:Addr):Prop:=∃o v b n,h.get? a=some o/\o.cls=.type "tuple"/\o.data=.seq #[v,.ref b] n/\knd.is k.1 v=true/\hk.is h k.2 b
def hash(k:K1×K2):Int:=reduceHash (Builtin.Tuple.tupleHashOf [knd.hash k.1,hk.hash k.2])
variable{knd hk}
theorem Is.typeIs{s:Shared}{k:K1×K2}{a:Addr}(x:Is knd hk s.heap k a):s.TypeIs (.ref a) "tuple":=let ⟨o,_,_,_,ho,hc,_⟩:=x;⟨o,ho,hc⟩
theorem Is.inj{h:Heap}{a:Addr}{x y:K1×K2}(hx:Is knd hk h x a)(hy:Is knd hk h y a):x=y:=by
 obtain⟨o,v,b,n,ho,_,hd,h1,h2⟩:=hx
 obtain⟨o',v',b',n',ho',_,hd',h1',h2'⟩:=hy
 obtain rfl:o=o':=aS (ho.symm.trans ho')
 rw[hd]at hd'
 injection hd' with e _
 have e:=cM Array.toList e
 simp only[List.cons.injEq,Value.ref.injEq,and_true]at e
 obtain⟨rfl,rfl⟩:=e
 exact Prod.ext (knd.inj _ _ _ h1 h1') (hk.inj h2 h2')
theorem Is.keeps{h h':Heap}{k:K1×K2}{a d:Addr}{o:Obj}{es ep}(x:Is knd hk h k a)(ho:h.get? d=some o)(hd:o.data=.dict es ep)(hs:Heap.SameBut d h h'):Is knd hk h' k a:=by
 obtain⟨o',v,b,n,ho',hc,hd',h1,h2⟩:=x
 have oK:a≠d:=by
  rintro rfl
  obtain rfl:o'=o:=aS (ho'.symm.trans ho)
  rw[hd]at hd';exact nomatch hd'
 exact⟨o',v,b,n,(hs.2 a oK).trans ho',hc,hd',h1,hk.keeps h2 ho hd hs⟩
variable{A:Around}{E:Value->Shared->Prop}{s:Shared}
theorem pyHash{k:K1×K2}{a:Addr}{Q:Int->Shared->Prop}(hu:A.units<cLine)(hr:hk.room A.in1)(hx:Is knd hk s.heap k a)(h:Q (hash knd hk k) { s with toks:=s.toks+(1+hk.draws k.2+1) }) :
  wpAny (model prog w) A (PySem.pyHash (.ref a)) Q E s:=by
 have hT:=hx.typeIs
 obtain⟨o,v,b,n,ho,_,hd,h1,h2⟩:=hx
 unfold PySem.pyHash
 first|unfold pyHashByItsType|skip
 first|refine aa (wpAny_cRoomFor_or (.inr hu) ?_)|skip
 refine aa (eO hT F.slot_tuple_hash.lookup ?_)
 show wpAny _ _ (if (some (Value.builtin "tuple.__hash__")==some Value.none)=true then _ else _) Q E s
 rw[ax (by rw[beq_builtin_none];exact c6)]
 refine aa (eO hT F.slot_tuple_hash.lookup ?_)
 show wpAny _ _ (callSpecialIfBoundUnlessNone? (.ref a) "__hash__" _ >>= _) Q E s
 refine aa (wpAny_callSpecialIfBoundUnlessNone?_slot hT F.slot_tuple_hash (bb F.slot_tuple_hash hT F.entry_tuple_hash ?_ (F.args_tuple_hash_1 _)))
 show wpAny _ _ (Builtin.Tuple.tupleItemsOf (.ref a) >>= _) _ _ s
 refine aa (kw ho hd ?_)
 refine aa ?_
 rw[<- ky]
 refine iX _
  (fun rest (c:Array Int) s'=>(rest=[v,.ref b]/\c.toList=[]/\s'=s)\/(rest=[.ref b]/\c.toList=[knd.hash k.1]/\s'={ s with toks:=s.toks+1 })\/(rest=[]/\c.toList=[knd.hash k.1,hk.hash k.2]/\s'={ s with toks:=s.toks+1+hk.draws k.2 }))
  _ ?_ ?_ _ _ (.inl ⟨rfl,rfl,rfl⟩)
 ·rintro x rest c s' (⟨e,hc,rfl⟩|⟨e,hc,rfl⟩|⟨e,_⟩)
  ·injection e with e1 e2
   subst e1;subst e2
   refine aa (knd.pyHash h1 ?_)
   first
    |exact am (.inr (.inl ⟨rfl,by simp[hc],rfl⟩))
    |exact aa (am (am (.inr (.inl ⟨rfl,by simp[hc],rfl⟩))))
  ·injection e with e1 e2
   subst e1;subst e2
   refine aa (hk.pyHash (k:=k.2) hr h2 ?_)
   first
    |exact am (.inr (.inr ⟨rfl,by simp[hc],rfl⟩))
    |exact aa (am (am (.inr (.inr ⟨rfl,by simp[hc],rfl⟩))))
  ·cases e
 ·rintro c s' (⟨e,_⟩|⟨e,_⟩|⟨_,hc,rfl⟩)
  ·cases e
  ·cases e
  show wpAny _ _ (retInt (Builtin.Tuple.tupleHashOf c.toList)) _ _ _
  rw[hc]
  refine wpAny_ret_mkInt ?_
  show wpAny _ _ (if (decide (-(2:Int)^63<=Builtin.Tuple.tupleHashOf [knd.hash k.1,hk.hash k.2])&&decide (Builtin.Tuple.tupleHashOf [knd.hash k.1,hk.hash k.2]<2^63))=true then _ else _) Q E _
  unfold hash reduceHash at h
  by_cases hr:(decide (-(2:Int)^63<=Builtin.Tuple.tupleHashOf [knd.hash k.1,hk.hash k.2])&&decide (Builtin.Tuple.tupleHashOf [knd.hash k.1,hk.hash k.2]<2^63))=true
  ·rw[aq hr]
   rw[aq hr]at h
   exact am (by simpa[Nat.add_assoc]using h)
  ·rw[ax hr]
   rw[ax hr]at h
   exact aa (gj (am (by simpa[Nat.add_assoc]using h)))
theorem IE{x y:K1×K2}{a b:Addr}{P:Fin->Shared->Prop}(hr:hk.room A)(hx:Is knd hk s.heap x a)(hy:Is knd hk s.heap y b)(h:P (.done (.ret (.bool (decide (x=y))))) s) :
  wpAny (model prog w) A (Builtin.«tuple.__eq__» ⟨[.ref a,.ref b],[]⟩) P E s:=by
 have hTb:=hy.typeIs
 obtain⟨oa,v,c,na,hoa,_,hda,h1,h2⟩:=hx
 obtain⟨ob,u,d,nb,GJ,_,y8,g1,g2⟩:=hy
 show wpAny _ _ (isInstance (.ref b) (.type "tuple") >>= _) _ _ s
 refine aa (df hTb iS ?_)
 simp only[eB,cx,f9]
 refine aa (kw hoa hda ?_)
 refine aa (kw GJ y8 ?_)
 refine aa ?_
 refine iX _
  (fun rest r s'=>r.1=none/\s'=s/\((rest=[(v,u),(.ref c,.ref d)])\/(rest=[(.ref c,.ref d)]/\x.1=y.1)\/(rest=[]/\x=y)))
  _ ?_ ?_ _ _ ⟨rfl,rfl,.inl rfl⟩
 ·rintro⟨p,q⟩ rest r s' ⟨hr0,rfl,e|⟨e,e0⟩|⟨e,_⟩⟩
  ·injection e with e1 e2
   injection e1 with e3 e4
   subst e3;subst e4;subst e2
   refine aa (knd.eqBool (a:=x.1) (b:=y.1) h1 g1 ?_)
   by_cases z:x.1=y.1
   ·rw[aQ z]
    simp only[eB,cx,f9]
    exact am ⟨rfl,rfl,.inr (.inl ⟨by first|rfl|trivial,z⟩)⟩
   ·rw[aG z]
    simp only[kt,h_]
    have hf:decide (x=y)=false:=aG fun e=>z (by rw[e])
    rw[hf]at h
    exact aa (am (am (am h)))
  ·injection e with e1 e2
   injection e1 with e3 e4
   subst e3;subst e4;subst e2
   refine aa (hk.eqBool (x:=x.2) (y:=y.2) hr h2 g2 ?_)
   by_cases z:x.2=y.2
   ·rw[aQ z]
    simp only[eB,cx,f9]
    exact am ⟨rfl,rfl,.inr (.inr ⟨by first|rfl|trivial,Prod.ext e0 z⟩)⟩
   ·rw[aG z]
    simp only[kt,h_]
    have hf:decide (x=y)=false:=aG fun e=>z (by rw[e])
    rw[hf]at h
    exact aa (am (am (am h)))
  ·cases e
 ·rintro⟨r1,r2⟩ s' ⟨hr0,rfl,e|⟨e,_⟩|⟨_,e⟩⟩
  ·cases e
  ·cases e
  simp only at hr0
  subst hr0
  refine am ?_
  rw[aQ e]at h
  exact h
theorem eqBool{x y:K1×K2}{a b:Addr}{Q:Bool->Shared->Prop}(hu:A.units<cLine)(hr:hk.room A.in1)(hx:Is knd hk s.heap x a)(hy:Is knd hk s.heap y b)(h:Q (decide (x=y)) s) :
  wpAny (model prog w) A (PySem.eqBool (.ref a) (.ref b)) Q E s:=by
 unfold PySem.eqBool
 try with_reducible refine du ?_
 show wpAny _ _ (if (Value.ref a==Value.ref b)=true then _ else _) Q E s
 by_cases hab:(Value.ref a==Value.ref b)=true
 ·rw[aq hab]
  have e:a=b:=by have:=j_ hab;injection this
  subst e
  obtain rfl:=hx.inj hy
  exact aa (gj (am (by simpa using h)))
 ·rw[ax hab]
  exact aa (wpAny_richCompare_same_room (op:=.Eq) hx.typeIs hy.typeIs F.slot_tuple_eq
   (bb F.slot_tuple_eq hx.typeIs F.entry_tuple_eq (IE hr hx hy ⟨_,rfl,(fun e=>nomatch e),eL h⟩) (F.args_tuple_eq_2 _ _)) hu)
theorem quiet{k:K1×K2}{a:Addr}{Q:Bool->Shared->Prop}(hq:∀{b:Addr} {Q:Bool->Shared->Prop},hk.is s.heap k.2 b->Q true s->wpAny (model prog w) A (eqIsQuiet 7 (.ref b)) Q E s)(hx:Is knd hk s.heap k a)(h:Q true s):wpAny (model prog w) A (eqIsQuiet 8 (.ref a)) Q E s:=by
 have hT:=hx.typeIs
 obtain⟨o,v,b,n,ho,_,hd,h1,h2⟩:=hx
 unfold eqIsQuiet
 refine aa (eO hT F.slot_tuple_eq.lookup ?_)
 show wpAny _ _ (isInstance (.ref a) (.type "tuple") >>= _) _ _ s
 refine aa (df hT iS ?_)
 simp only[eB,cx,f9]
 refine aa (c8 ho hd ?_)
 refine aa ?_
 show wpAny _ _ (forIn #[v,Value.ref b] _ _) _ _ s
 rw[<- ky]
 refine iX _ (fun rest r s'=>r.1=none/\s'=s/\(rest=[v,.ref b]\/rest=[.ref b]\/rest=[])) _ ?_ ?_ _ _ ⟨rfl,rfl,.inl rfl⟩
 ·rintro x rest r s' ⟨hr,rfl,e|e|e⟩
  ·injection e with e1 e2
   subst e1;subst e2
   rw[eqIsQuiet_byValue _ (knd.byValue _ _ h1)]
   refine aa (am ?_)
   simp only[eB,cx,f9]
   exact am ⟨rfl,rfl,.inr (.inl (by first|rfl|trivial))⟩
  ·injection e with e1 e2
   subst e1;subst e2
   refine aa (hq h2 ?_)
   simp only[eB,cx,f9]
   exact am ⟨rfl,rfl,.inr (.inr (by first|rfl|trivial))⟩
  ·cases e
 ·rintro⟨r1,r2⟩ s' ⟨hr,rfl,_⟩
  simp only at hr
  subst hr
  exact am h
end
theorem CK{prog:Program}{w:World}{K:Type}[DecidableEq K]{knd:KeyKind prog w K}{A:Around}{E:Value->Shared->Prop}{s:Shared}(f:Nat){ks:List K}{a:Addr}{Q:Bool->Shared->Prop}(hk:IsTupleKey knd s.heap ks a)(h:Q true s):wpAny (model prog w) A (eqIsQuiet (f+1) (.ref a)) Q E s:=by
 have hT:=hk.typeIs
 obtain⟨o,items,n,ho,_,hd,hi⟩:=hk
 unfold eqIsQuiet
 refine aa (eO hT F.slot_tuple_eq.lookup ?_)
 show wpAny _ _ (isInstance (.ref a) (.type "tuple") >>= _) _ _ s
 refine aa (df hT iS ?_)
 simp only[eB,cx,f9]
 refine aa (c8 ho hd ?_)
 refine aa ?_
 show wpAny _ _ (forIn items _ _) _ _ s
 rw[<- ky]
 refine iX _ (fun rest r s'=>r.1=none/\s'=s/\∀v∈rest,carriedByValue v=true) _ ?_ ?_ _ _ ⟨rfl,rfl,hi.byValue⟩
 ·rintro v rest r s' ⟨hr,rfl,hall⟩
  rw[eqIsQuiet_byValue _ (hall v a7)]
  refine aa (am ?_)
  simp only[eB,cx,f9]
  exact am ⟨rfl,rfl,fun u hu'=>hall u (aH _ hu')⟩
 ·rintro⟨r1,r2⟩ s' ⟨hr,rfl,_⟩
  simp only at hr
  subst hr
  exact am h
def kind{prog:Program}{w:World}{K1 K:Type}[DecidableEq K1][DecidableEq K](knd:KeyKind prog w K1)(kd:KeyKind prog w K):HeapKind prog w (K1×List K) where
 is:=Is knd (tupleKind kd)
 hash:=hash knd (tupleKind kd)
 draws:=fun k=>1+(k.2.length+1)+1
 room:=fun A=>A.units+1<cLine
 inj:=fun hx hy=>hx.inj hy
 keeps:=fun x ho hd hs=>x.keeps ho hd hs
 pyHash:=fun hu hk h=>pyHash (Nat.lt_of_succ_lt hu) hu hk h
 eqBool:=fun hu hx hy h=>eqBool (Nat.lt_of_succ_lt hu) hu hx hy h
 quiet:=fun hk h=>quiet (fun hb hq=>CK 6 hb hq) hk h
section
variable{prog:Program}{w:World}{K:Type}[DecidableEq K]{knd:HeapKind prog w K}{A:Around}{E:Value->Shared->Prop}{s:Shared}
end
end PK
namespace L2
open PySem PySem.Spec PyProof.Rows
section
variable{P:Program}{w:World}{H:Hp}{h:Heap}{a:Addr}{es:List DictEntry}
end
section
variable{X:Cx}{K:Type}[DecidableEq K]{knd:HeapKind X.prog X.w K}{af:List (Addr×Obj)}{σ:St}{H:Hp}{s:Shared}{a b:Addr}{xs:List (K×Addr×Value)}{k:K}{A:Around}{E:Value->Shared->Prop}
abbrev P9(knd:HeapKind X.prog X.w K)(xs:List (K×Addr×Value)):List DictEntry:=xs.map (entryOfKey knd)
end
structure HV(X:Cx)(K:Type)[DecidableEq K] where
 knd:HeapKind X.prog X.w K
 em:K->KX
 inj:∀{a b:K},em a=em b->a=b
 hash:∀k,(em k).hash=knd.hash k
 is:∀{af:List (Addr×Obj)} {σ:St} {H:Hp} {s:Shared} {μ:List Addr} {k:K} {v:V} {u:Value},bw X af σ H s->bf X.K μ H (em k).w v->cB v u->∃b,u=.ref b/\knd.is s.heap k b
 room:∀{A:Around},A.units+2<cLine->knd.room A.in1
theorem items_int{P:Program}{w:World}:∀{ks:List Int} {bI:List Value},cw (ks.map V.int) bI->ItemsAre (intKind P w) ks bI
 |[],_,r=>by cases r;exact .nil
 |k::ks,_,r=>by
  cases r with
  |cons h t=>
   obtain⟨q,rfl⟩:=h
   exact .cons (by simp[intKind,Value.isInt]) (items_int t)
def rT(kvs:List (KX×W))(k:KX):Option W:=(kvs.find? fun p=>decide (p.1=k)).map fun p=>p.2
def EJ(kvs:List (KX×W))(k:KX)(v:W):List (KX×W):=if (rT kvs k).isSome=true then kvs.map fun p=>if p.1=k then(p.1,v)else p else kvs++[(k,v)]
section
variable{X:Cx}{K:Type}[DecidableEq K](G:HV X K){af:List (Addr×Obj)}{σ:St}{H:Hp}{s:Shared}{μ:List Addr}
def Vw(μ:List Addr)(H:Hp):List (KX×W)->List (K×Addr×Value)->Prop:=Paired fun p x=>p.1=G.em x.1/\bf X.K μ H p.1.w (.ref x.2.1)/\∃v,bf X.K μ H p.2 v/\cB v x.2.2
variable{G}
theorem Bq:∀{kvs:List (KX×W)} {xs:List (K×Addr×Value)} (k:K),Vw G μ H kvs xs->(∃w p v,rT kvs (G.em k)=some w/\atKey xs k=some p/\bf X.K μ H w v/\cB v p.2)\/(rT kvs (G.em k)=none/\atKey xs k=none)
 |_,_,k,.nil=>.inr ⟨rfl,rfl⟩
 |_,_,k,.cons (a:=p) (b:=x) (l₁:=kvs) (l₂:=xs) ⟨h1,_,v,h3,h4⟩ t=>by
  by_cases e:x.1=k
  ·refine .inl ⟨p.2,x.2,v,?_,?_,h3,h4⟩
   ·unfold rT;rw[bU];simp[h1,e]
   ·unfold atKey;rw[bU];simp[e]
  ·have e2:p.1≠G.em k:=fun z=>e (G.inj (h1.symm.trans z))
   have a1:rT (p::kvs) (G.em k)=rT kvs (G.em k):=by unfold rT;rw[bU];simp[e2]
   have a2:atKey (x::xs) k=atKey xs k:=by unfold atKey;rw[bU];simp[e]
   rw[a1,a2]
   exact Bq k t
theorem uT:∀{kvs:List (KX×W)} {xs:List (K×Addr×Value)},Vw G μ H kvs xs->Paired (vG X.K μ H) kvs (P9 G.knd xs)
 |_,_,.nil=>.nil
 |_,_,.cons ⟨h1,h2,h3⟩ t=>.cons ⟨by rw[h1,G.hash];rfl,⟨_,h2,rfl⟩,h3⟩ (uT t)
theorem xY{k:K}{w:W}{v:V}{u:Value}(lD:bf X.K μ H w v)(ru:cB v u):∀{kvs:List (KX×W)} {xs:List (K×Addr×Value)},Vw G μ H kvs xs->Vw G μ H (kvs.map fun p=>if p.1=G.em k then(p.1,w)else p) (xs.map (putAt k u))
 |_,_,.nil=>.nil
 |_,_,.cons (a:=p) (b:=x) ⟨h1,h2,h3⟩ t=>by
  refine .cons ?_ (xY lD ru t)
  by_cases e:x.1=k
  ·simp only[]
   rw[aq (by rw[h1,e])]
   unfold putAt
   rw[aq e]
   exact⟨h1,h2,v,lD,ru⟩
  ·simp only[]
   rw[ax fun z=>e (G.inj (h1.symm.trans z))]
   unfold putAt
   rw[ax e]
   exact⟨h1,h2,h3⟩
theorem EK{k:K}{b:Addr}{w:W}{v:V}{u:Value}{kvs:List (KX×W)}{xs:List (K×Addr×Value)}(vw:Vw G μ H kvs xs)(rk:bf X.K μ H (G.em k).w (.ref b))(lD:bf X.K μ H w v)(ru:cB v u):Vw G μ H (EJ kvs (G.em k) w) (storedH xs k b u):=by
 unfold EJ storedH
 rcases Bq (G:=G) k vw with⟨w',p,v',e1,e2,_⟩|⟨e1,e2⟩
 ·rw[e1,e2]
  exact xY lD ru vw
 ·rw[e1,e2]
  simp only[Option.isSome_none,cx,f9]
  exact Paired.snoc vw ⟨rfl,rk,v,lD,ru⟩
end
section
variable{X:Cx}{af:List (Addr×Obj)}{σ:St}{H:Hp}{s:Shared}{μ:List Addr}{st:List al}
structure Dc(X:Cx)(μ:List Addr)(H:Hp)(s:Shared)(st:List al)(n:Nat)(kvs:List (KX×W))(a:Addr)(es:List DictEntry):Prop where
 m:μ[n]?=some a
 c:∃c,st[n]?=some c/\c.isRo=false
 o:∃o,H a=some o/\(∀q u,o≠.frz q u)/\∀q,o≠jM a q
 d:DX a es s.heap
 sm:(a==sysModules)=false
 p:Paired (vG X.K μ H) kvs es
 nd:(kvs.map fun p=>p.1).Nodup
 mu:Ov (H a)
 sq:∀es',dD X.K H (eY H a (SZ a es'))
end
theorem CL{kvs:List (KX×W)}{k:KX}(h:rT kvs k=none):k∉kvs.map fun p=>p.1:=fun z=>by
 obtain⟨p,hp,e⟩:=aJ.mp z
 unfold rT at h
 rw[Option.map_eq_none_iff,List.find?_eq_none]at h
 exact h p hp (aQ e)
theorem IF{kvs:List (KX×W)}(k:KX)(v:W)(h:(kvs.map fun p=>p.1).Nodup):((EJ kvs k v).map fun p=>p.1).Nodup:=by
 unfold EJ
 by_cases z:(rT kvs k).isSome=true
 ·rw[aq z,a8]
  have:((fun p:KX×W=>p.1)∘fun p:KX×W=>if p.1=k then(p.1,v)else p)=fun p=>p.1:=by
   funext p
   show(if p.1=k then(p.1,v)else p).1=p.1
   split<;>rfl
  rw[this];exact h
 ·rw[ax z,eN,kT]
  have hn:rT kvs k=none:=by
   cases e:rT kvs k with
   |none=>rfl
   |some _=>rw[e]at z;exact(z rfl).elim
  refine⟨h,by simp,fun a ha b hb=>?_⟩
  have:b=k:=by simpa using hb
  subst this
  exact fun e=>CL hn (e▸ha)
section
variable{X:Cx}{kk:Nat}
theorem Dc.put{K:Type}[DecidableEq K]{G:HV X K}{H:Hp}{s:Shared}{μ:List Addr}{st:List al}{n:Nat}{kvs:List (KX×W)}{a:Addr}{es:List DictEntry}(D:Dc X μ H s st n kvs a es)(S:gn X.K X.mg μ st H)
  {xs:List (K×Addr×Value)} {z:K} {b:Addr} {wv:W} {v:V} {u:Value} (vw:Vw G μ H kvs xs) (rk:bf X.K μ H (G.em z).w (.ref b)) (rv:bf X.K μ H wv v) (ru:cB v u) :
  gn X.K X.mg μ (st.set n (.dcx (EJ kvs (G.em z) wv))) (eY H a (SZ a (P9 G.knd (storedH xs z b u)))):=by
 obtain⟨c,hc,zm⟩:=D.c
 obtain⟨o,ho,hf,hg⟩:=D.o
 exact S.setG hc zm D.m ho hf hg (D.sq _) rfl ⟨_,dR,D.sm,Paired.imp' (fun _ _ q=>q.mono (aj _) (D.sq _)) (uT (EK vw rk rv ru)),IF _ _ D.nd⟩
end
end L2
namespace PK
open PySem
section
variable{prog:Program}{w:World}{A:Around}{E:Value->Shared->Prop}{s:Shared}
end
end PK
namespace L2
open PySem PySem.Spec PyProof.Rows
section
variable{prog:Program}{w:World}{K:Type}[DecidableEq K]{knd:KeyKind prog w K}{A:Around}{E:Value->Shared->Prop}{s:Shared}{a:Addr}{es:List DictEntry}{k:K}{key dflt:Value}
end
section
variable{X:Cx}{μ:List Addr}{H:Hp}
end
section
variable{prog:Program}{w:World}{A:Around}{E:Value->Shared->Prop}{s:Shared}{a:Addr}{es:List DictEntry}
end
section
variable{X:Cx}{kk:Nat}
end
open AutoSeq1 (wpAny_loadPart')
section
variable{prog:Program}{w:World}{A:Around}{E:Value->Shared->Prop}{s:Shared}
end
section
variable{X:Cx}
end
section
variable{X:Cx}{a:Expr}{pos p:Pos}{fs:FA}
end
section
variable{X:Cx}
end
section
variable{X:Cx}
end
section
variable{X:Cx}{kk:Nat}
end
section
variable{X:Cx}
def s9(x:W)(ws:List W)(st:List al):R W:=match x,ws with
 |.str sep,[.tup zs]=>rR (kI zs) fun ls=>if (ls.map List.length).sum+ls.length*sep.length<=lB then .ok (.str (je sep ls)) st else .bad
 |_,_=>nh x ws st
theorem EL:Mh X "str.join" s9:=⟨fun af s σ H x vs v us Q I rv rus ⟨μ,st,wx,ws,S,rx,rs,q⟩=>by
 unfold s9 at q
 split at q
 ·rename_i sep zs
  obtain⟨y1,rfl,ry⟩:=rs.one
  cases e2:kI zs with
  |none=>rw[e2]at q;exact q.elim
  |some ls=>
   rw[e2,eQ]at q
   split at q
   ·rename_i c
    obtain⟨p,vs,rfl,hS,r⟩:=ry.tupE
    have:=pX e2 r
    subst this
    have:=rx.strE;subst this
    obtain⟨t,rfl⟩:=rv
    obtain⟨u,rfl,ru⟩:=rus.one
    cases ru
    obtain⟨bI,r,p,_⟩:=I.tuple hS
    refine join_tuple p (mj (by simpa using r)) ?_ fun t' k=>?_
    ·rw[a8,gG,ar]
     have e:((fun z:Str=>z.length)∘tx)=List.length:=by funext l;exact gG l
     rw[e];exact bh c (by decide)
    ·rw[A7]
     exact⟨.str _,H,I.tok k,⟨t',rfl⟩,oh S q⟩
   ·exact q.elim
 ·exact om.1 af s σ H x vs v us Q I rv rus ⟨μ,st,wx,ws,S,rx,rs,q⟩,fun x ws st=>by
 unfold s9
 split
 ·exact pV fun _=>by split<;>trivial
 ·exact om.2 (X:=X) _ _ _⟩
end
theorem vW{P:Program}{w:World}{H:Hp}{h:Heap}{a:Addr}{o:Obj}(e:h.get? a=some o):fz P w H h a (lH a o):=⟨e,⟨o,e⟩,fun h1 h2 p k=>k o p⟩
theorem CM{h:Heap}{a:Addr}{o:Obj}{u:Option Value}(e:h.get? a=some o)(hd:o.data=.cell u)(q:Str):lH a o≠jM a q:=fun z=>by
 have:=jp (HO.ext.inj z) h
 have t:∃o' vs t,h.get? a=some o'/\o'.data=.fields vs/\vs[1]?=some (.str q t):=cast this e
 obtain⟨o',vs,_,e1,e2,_⟩:=t
 rw[e]at e1;cases e1;rw[hd]at e2;cases e2
def drp(H:Hp)(c:Addr):Hp:=fun b=>if b=c then none else H b
theorem lg{H:Hp}{c b:Addr}(h:b≠c):drp H c b=H b:=by unfold drp;rw[ax h]
theorem p6{H:Hp}{c:Addr}:drp H c c=none:=by unfold drp;rw[aq rfl]
section
variable{K:Frag}{mg:Str->Option Value}{μ μ':List Addr}{st bu:List al}{H H':Hp}{P:Program}{w:World}{h:Heap}
theorem dD.drp{c:Addr}{φ:Heap->Prop}(hl:H c=some (.ext φ)):dD K H (drp H c):=by
 have oK:∀{p:Addr} {o:HO},H p=some o->(∀z,o≠.ext z)->p≠c:=fun{p o} q hn z=>by subst z;rw[hl]at q;cases q;exact hn _ rfl
 refine⟨fun p ys h=>?_,fun b o u h=>by rw[lg (oK h (fun _ z=>by cases z))];exact h⟩
 rcases h with(h|⟨o,h⟩)|h
 ·exact .inl (.inl (by rw[lg (oK h (fun _ z=>by cases z))];exact h))
 ·exact .inl (.inr ⟨o,by rw[lg (oK h (fun _ z=>by cases z))];exact h⟩)
 ·exact .inr h
theorem kB.drp{c:Addr}{φ:Heap->Prop}(hok:kB P w H h)(hl:H c=some (.ext φ)):kB P w (drp H c) h:=fun b u e=>by
 by_cases hb:b=c
 ·subst hb;rw[p6]at e;cases e
 ·rw[lg hb]at e
  refine(hok b u e).stay (fun _ _ _ q=>q) (fun x q=>?_) fun x xs q=>?_
  ·rw[lg (by rintro rfl;rw[hl]at q;cases q)];exact q
  ·rw[lg (by rintro rfl;rw[hl]at q;cases q)];exact q
theorem kB.put{c:Addr}{o:Obj}(hok:kB P w H h)(hc:H c=none)(e:h.get? c=some o):kB P w (eY H c (lH c o)) h:=fun b u q=>by
 by_cases hb:b=c
 ·subst hb;rw[dR]at q;cases q;exact vW e
 ·rw[cv hb]at q
  refine(hok b u q).stay (fun _ _ _ z=>z) (fun x z=>?_) fun x xs z=>?_
  ·rw[cv (by rintro rfl;rw[hc]at z;cases z)];exact z
  ·rw[cv (by rintro rfl;rw[hc]at z;cases z)];exact z
theorem mC{α:Type}{l:List α}{j i:Nat}{x d:α}(e:(l.set j x)[i]?=some d):(i=j/\d=x/\j<l.length)\/(i≠j/\l[i]?=some d):=by
 by_cases q:j=i
 ·subst q
  have hl:j<l.length:=by have:=(ai.mp e).1;simpa using this
  rw[bq hl]at e
  exact .inl ⟨rfl,(aS e).symm,hl⟩
 ·rw[bR q]at e;exact .inr ⟨Ne.symm q,e⟩
theorem gn.hide{j:Nat}{k:Bool}{c:Addr}{o:Obj}{x:W}{u:Option Value}(S:gn K mg μ st H)(hj:st[j]?=some (.pin k c o x))(e:h.get? c=some o)(hd:o.data=.cell u):gn K mg μ (st.set j .gone) (L2.drp H c):=by
 obtain⟨a,hm,rfl,hc,_⟩:=S.get hj
 have xt:dD K H (L2.drp H a):=dD.drp hc
 refine⟨fun i i' b ci cj h1 h2 r1 r2 m1 m2=>?_,by simp[S.len],fun i d b h1 h2=>?_⟩
 ·rcases mC h1 with⟨rfl,rfl,_⟩|⟨_,h1⟩
  ·cases r1
  ·rcases mC h2 with⟨rfl,rfl,_⟩|⟨_,h2⟩
   ·cases r2
   ·exact S.nd i i' b ci cj h1 h2 r1 r2 m1 m2
 ·rcases mC h1 with⟨rfl,rfl,_⟩|⟨TY,h1⟩
  ·trivial
  ·have r:=S.at' i d b h1 h2
   by_cases hrd:d.isRo=true
   ·cases d with
    |ro zs=>
     obtain⟨us,p,q⟩:=r
     refine⟨us,?_,q.mono (aj _) xt⟩
     rcases p with⟨o2,p⟩|p
     ·exact .inl ⟨o2,xt.z _ _ _ p⟩
     ·exact .inr p
    |gone=>trivial
    |lst _=>cases hrd
    |exc _=>cases hrd
    |dct _=>cases hrd
    |rod _=>cases hrd
    |dcx _=>cases hrd
    |tab _ _ _=>cases hrd
    |pin _ _ _ _=>cases hrd
   ·have hb:b≠a:=by
     rintro rfl
     exact TY (S.nd i j b d _ h1 hj (by simpa using hrd) rfl h2 hm)
    refine r.keep (aj _) xt (fun o' ho=>by rw[lg hb];exact ho) fun b' q z=>?_
    rw[lg (by rintro rfl;rw[hc]at z;exact CM e hd _ (aS z))];exact z
theorem gn.take'{j:Nat}{c:Addr}{o:Obj}{x:W}{v:V}(S:gn K mg μ st H)(hj:st[j]?=some .gone)(hm:μ[j]?=some c)(hc:H c=none)(rx:bf K μ H x v)(hd:∃u,o.data=.cell (some u)/\cB v u):gn K mg μ (st.set j (.pin true c o x)) (eY H c (lH c o)):=by
 have hs:ju H (eY H c (lH c o)):=cY hc _
 have S':=S.same hs
 refine⟨fun i i' b ci cj h1 h2 r1 r2 m1 m2=>?_,by simp[S.len],fun i d b h1 h2=>?_⟩
 ·rcases mC h1 with⟨y1,y2,_⟩|⟨hi,g1⟩
  ·rcases mC h2 with⟨z1,_,_⟩|⟨hi2,g2⟩
   ·rw[y1,z1]
   ·rw[y1,hm]at m1;cases m1
    obtain⟨o',z⟩:=(S.at' i' cj c g2 m2).ro_ne r2
    rw[hc]at z;cases z
  ·rcases mC h2 with⟨z1,_,_⟩|⟨_,g2⟩
   ·rw[z1,hm]at m2;cases m2
    obtain⟨o',z⟩:=(S.at' i ci c g1 m1).ro_ne r1
    rw[hc]at z;cases z
   ·exact S.nd i i' b ci cj g1 g2 r1 r2 m1 m2
 ·rcases mC h1 with⟨rfl,rfl,_⟩|⟨_,h1⟩
  ·rw[hm]at h2;cases h2
   exact⟨rfl,dR,(fun z=>by cases z),v,rx.mono (aj _) (fQ.same hs),fun _=>hd⟩
  ·exact S'.at' i d b h1 h2
abbrev jm:=Nat×Addr×Obj×W
def p7:List Nat->List al->Option (List jm×List al)
 |[],st=>some ([],st)
 |j::js,st=>match st[j]? with
  |some (.pin true c o x)=>(match p7 js (st.set j .gone)with
   |some (l,bu)=>some ((j,c,o,x)::l,bu)
   |none=>none)
  |_=>none
def mD:List jm->Hp->Hp
 |[],H=>H
 |x::l,H=>mD l (drp H x.2.1)
theorem iD:∀{l:List jm} {H:Hp} {b:Addr},(∀x∈l,x.2.1≠b)->mD l H b=H b
 |[],_,_,_=>rfl
 |x::l,H,b,n=>by
  show mD l (drp H x.2.1) b=_
  rw[iD fun y hy=>n y (aH _ hy),lg (Ne.symm (n x a7))]
theorem se{l:List jm}{H:Hp}{b:Addr}(h:∃x∈l,x.2.1=b):mD l H b=none:=by
 induction l generalizing H with
 |nil=>obtain⟨y,hy,_⟩:=h;exact absurd hy (by simp)
 |cons x l ih=>
  unfold mD
  by_cases q:∃z∈l,z.2.1=b
  ·exact ih q
  ·rw[iD fun z hz e'=>q ⟨z,hz,e'⟩]
   obtain⟨y,hy,e⟩:=h
   rcases aM.mp hy with r|r
   ·rw[<- e,r];exact p6
   ·exact absurd ⟨y,r,e⟩ q
def xZ(K:Frag)(μ:List Addr)(H:Hp)(h:Heap)(x:jm):Prop:=μ[x.1]?=some x.2.1/\h.get? x.2.1=some x.2.2.1/\∃u v,x.2.2.1.data=.cell (some u)/\cB v u/\bf K μ H x.2.2.2 v
theorem s_:∀{js:List Nat} {st bu:List al} {H:Hp} {l:List jm},gn K mg μ st H->kB P w H h->p7 js st=some (l,bu) ->
  gn K mg μ bu (mD l H)/\kB P w (mD l H) h/\dD K H (mD l H)/\(∀x∈l,xZ K μ (mD l H) h x/\H x.2.1=some (lH x.2.1 x.2.2.1))/\(l.map fun x=>x.2.1).Nodup
 |[],st,bu,H,l,S,hok,e=>by cases e;exact⟨S,hok,dD.refl,fun _ z=>absurd z (by simp),km⟩
 |j::js,st,bu,H,l,S,hok,e=>by
  unfold p7 at e
  split at e
  ·rename_i c o x hj
   split at e
   ·rename_i l1 st1 h1
    cases e
    obtain⟨a,hm,rfl,hc,_,v,rx,g⟩:=S.get hj
    obtain⟨u,hu,ru⟩:=g rfl
    obtain⟨ge,_⟩:=hok _ _ hc
    have x1:dD K H (L2.drp H a):=dD.drp hc
    obtain⟨r1,r2,r3,r4,r5⟩:=s_ (S.hide hj ge hu) (hok.drp hc) h1
    refine⟨r1,r2,x1.trans r3,fun y hy=>?_,bP.mpr ⟨fun z=>?_,r5⟩⟩
    ·rcases aM.mp hy with rfl|hy
     ·exact⟨⟨hm,ge,u,v,hu,ru,rx.mono (aj _) (x1.trans r3)⟩,hc⟩
     ·obtain⟨q1,q2⟩:=r4 y hy
      refine⟨q1,?_⟩
      by_cases hb:y.2.1=a
      ·rw[hb,p6]at q2;cases q2
      ·rw[lg hb]at q2;exact q2
    ·obtain⟨y,hy,e2⟩:=aJ.mp z
     have:=(r4 y hy).2
     rw[show y.2.1=a from e2,p6]at this;cases this
   ·cases e
  ·cases e
def zW:List jm->List al->Option (List al)
 |[],st=>some st
 |(j,c,o,x)::l,st=>match st[j]? with
  |some .gone=>zW l (st.set j (.pin true c o x))
  |_=>none
def pw:List jm->Hp->Hp
 |[],H=>H
 |x::l,H=>pw l (eY H x.2.1 (lH x.2.1 x.2.2.1))
theorem fZ:∀{l:List jm} {H:Hp} {b:Addr},(∀x∈l,x.2.1≠b)->pw l H b=H b
 |[],_,_,_=>rfl
 |x::l,H,b,n=>by
  show pw l (eY H x.2.1 _) b=_
  rw[fZ fun y hy=>n y (aH _ hy),cv (Ne.symm (n x a7))]
theorem Br:∀{l:List jm} {st bu:List al} {H:Hp},gn K mg μ st H->kB P w H h->(∀x∈l,xZ K μ H h x/\H x.2.1=none)->(l.map fun x=>x.2.1).Nodup->zW l st=some bu ->
  gn K mg μ bu (pw l H)/\kB P w (pw l H) h/\dD K H (pw l H)
 |[],st,bu,H,S,hok,_,_,e=>by cases e;exact⟨S,hok,dD.refl⟩
 |(j,c,o,x)::l,st,bu,H,S,hok,ha,nd,e=>by
  unfold zW at e
  split at e
  ·rename_i hj
   obtain⟨⟨m,g,u,v,d,ru,rx⟩,hn⟩:=ha _ a7
   have hs:ju H (eY H c (lH c o)):=cY hn _
   have x1:dD K H (eY H c (lH c o)):=fQ.same hs
   have ha':∀y∈l,xZ K μ (eY H c (lH c o)) h y/\eY H c (lH c o) y.2.1=none:=fun y hy=>by
    obtain⟨⟨m',g',u',v',d',ru',rx'⟩,hn'⟩:=ha y (aH _ hy)
    refine⟨⟨m',g',u',v',d',ru',rx'.mono (aj _) x1⟩,?_⟩
    rw[cv fun z=>(bP.mp nd).1 (aJ.mpr ⟨y,hy,z⟩)];exact hn'
   obtain⟨r1,r2,r3⟩:=Br (l:=l) (S.take' hj m hn rx ⟨u,d,ru⟩) (hok.put hn g) ha' (bP.mp nd).2 e
   exact⟨r1,r2,x1.trans r3⟩
  ·cases e
def il:List jm->List al:=fun l=>l.map fun x=>.pin true x.2.1 x.2.2.1 x.2.2.2
theorem x5:∀{l:List jm} {st:List al} {μ:List Addr} {H:Hp},gn K mg μ st H->kB P w H h->(∀x∈l,H x.2.1=none/\h.get? x.2.1=some x.2.2.1/\∃u v,x.2.2.1.data=.cell (some u)/\cB v u/\bf K μ H x.2.2.2 v)->(l.map fun x=>x.2.1).Nodup ->
  gn K mg (μ++l.map fun x=>x.2.1) (st++il l) (pw l H)/\kB P w (pw l H) h/\dD K H (pw l H)
 |[],st,μ,H,S,hok,_,_=>by simp only[il,iH,cI];exact⟨S,hok,dD.refl⟩
 |(j,c,o,x)::l,st,μ,H,S,hok,ha,nd=>by
  obtain⟨hn,g,u,v,d,ru,rx⟩:=ha _ a7
  have hs:ju H (eY H c (lH c o)):=cY hn _
  have x1:dD K H (eY H c (lH c o)):=fQ.same hs
  have S1:gn K mg (μ++[c]) (st++[.pin true c o x]) (eY H c (lH c o)):=S.push hn ⟨rfl,dR,(fun z=>by cases z),v,rx.mono (aR _ _) x1,fun _=>⟨u,d,ru⟩⟩
  obtain⟨r1,r2,r3⟩:=x5 (l:=l) S1 (hok.put hn g) (fun y hy=>by
   obtain⟨hn',g',u',v',d',ru',rx'⟩:=ha y (aH _ hy)
   refine⟨?_,g',u',v',d',ru',rx'.mono (aR _ _) x1⟩
   rw[cv fun z=>(bP.mp nd).1 (aJ.mpr ⟨y,hy,z⟩)];exact hn') (bP.mp nd).2
  rw[bj,bj]at r1
  exact⟨r1,r2,x1.trans r3⟩
end
section
variable{X:Cx}{af:List (Addr×Obj)}{σ:St}{H:Hp}{s:Shared}{E:Value->Shared->Prop}{Q:Value->Shared->Prop}
theorem CN{P c:Addr}{name q:Str}{pr:Arguments}{body:List Stmt}{sc:Scope}{pos:Pos}{fl:Nat}{cl:List (Str×Addr)}{ps:Array Value}(rG:X.env.code=.ref c)(Rx:codeHdIn X.K c P=true)(hB:vS X.base X.mg)
  (lX:closureFor sc X.env=pure cl) (I:bw X af σ H s) (hP:H P=some (.tbl ps)) (ht:TriplesOk ps.toList) (TW:codeAmong pos ps.toList=none\/∃cd,codeAmong pos ps.toList=some (.ref cd)/\H cd=some (jM cd q))
  (h:∀f cd i9 ct h' t H',((codeAmong pos ps.toList=none/\H cd=none/\H'=uk H P cd q ps pos)\/H'=H)->H' f=none->H' cd=some (jM cd q) ->
   bw X af σ (eY H' f (lH f (fnMade name q pr body sc cl i9 ((X.mg "__name__").getD .none) cd ct))) { s with heap:=h',toks:=t }->Q (.ref f) { s with heap:=h',toks:=t }) :
  wpAny (model X.prog X.w) X.A (makeFunction name q pr (.stmts body) sc X.env [] [] [] pos fl) Q E s:=by
 have hPo:s.heap.get? P=some { cls:=.none,data:=.fields ps }:=I.hok P _ hP
 have hgs:s.heap.Ns mainGlobals X.mg:=I.mod.glob.keeps I.bk
 have hgP:mainGlobals≠P:=fun z=>by
  obtain⟨o,es,ep,e,hd,_⟩:=hgs
  rw[z,hPo]at e;cases e;cases hd
 obtain⟨bm,ob,b1,b2,b4,b5,b6,b7⟩:=hB
 have b4':=I.bk _ _ b4
 have hbP:bm≠P:=fun z=>by rw[z,hPo]at b4';cases b4';cases b5
 have b3:bm≠mainGlobals:=fun z=>by
  obtain⟨o,es,ep,e,hd,_⟩:=hgs
  rw[z,e]at b4';cases b4';rw[b7]at hd;cases hd
 have hb:s.heap.BuiltinsAt X.mg P:=⟨bm,ob,b1,b2,b3,hbP,b4',b5,b6,b7⟩
 have CH:=PySem.W.codeHd_of_K I.kIn Rx
 rcases TW with hn|⟨cd,hhit,hH⟩
 ·refine PySem.W.makeFunction_K (mg:=X.mg) lX I.ok.glob hgs rG CH hPo ht hn hgP hb fun cd ct i9 h' tk hx Oo hlt Oc Sb=>?_
  have hcdn:H cd=none:=I.hok.fresh Oo
  have hPc:P≠cd:=fun z=>by rw[z,hcdn]at hP;cases hP
  have I1:=I.tabbed (t':=tk) hP Oo (fun b o hb e=>hx b o hb e) Oc Sb
  have I2:=bw.laid (t':=tk) (o:=lH h'.objs.size (fnMade name q pr body sc cl i9 ((X.mg "__name__").getD .none) cd ct)) I1 (fun b u e=>ak _ e) (ay _) (vW (au _ rfl))
  exact h _ cd i9 ct _ tk _ (.inl ⟨hn,hcdn,rfl⟩) (I1.hok.fresh (ay _)) (vV hPc) I2
 ·refine PySem.W.makeFunction_hit (mg:=X.mg) lX I.ok.glob hgs rG CH hPo ht hhit hb fun ct i9 h' tk hk hsz=>?_
  have I1:=I.kept (t':=tk) hk
  have I2:=bw.laid (t':=tk) (o:=lH h'.objs.size (fnMade name q pr body sc cl i9 ((X.mg "__name__").getD .none) cd ct)) I1 (fun b u e=>ak _ e) (ay _) (vW (au _ rfl))
  exact h _ cd i9 ct _ tk _ (.inr rfl) (I1.hok.fresh (ay _)) hH I2
end
def Ms(name q:Str)(pr:Arguments)(body:List Stmt)(sc:Scope)(xs:List Str)(o:Obj):Prop:=∃cl i9 pm cd ct,cl.map (·.1)=xs/\(cl.map (·.2)).Nodup/\o=fnMade name q pr body sc cl i9 pm cd ct
def Mt(X:Cx)(name q:Str)(pr:Arguments)(body:List Stmt)(sc:Scope)(o:Obj):Prop:=∃i9 cd ct,o=fnMade name q pr body sc (dh X.env sc.names []) i9 ((X.mg "__name__").getD .none) cd ct
open Classical in
def IG{α:Type}(ok:α->Prop)(f:α->RS):RS:=if h:∃r,∀a,ok a->f a=r then h.choose else .bad
def Bs(st:List al):RS->RS
 |.rt w bu=>.rt w (ji st bu [w])
 |_=>.bad
open Classical in
def uU(ok:Obj->Prop)(j:Nat)(P:Addr)(pos:Pos)(q:Str)(i:Nat)(g:Addr->Obj->FS):FS:=fun ρ st=>if xX st j P pos q then
  IG (fun p:Addr×Obj=>ok p.2) (fun p=>Bs st (g p.1 p.2 (ρ.set i (some (.loc st.length))) (st++[.pin false p.1 p.2 .non])))else .bad
theorem IH{α:Type}{ok:α->Prop}{f:α->RS}{r:RS}(a0:α)(h0:ok a0)(h:∀a,ok a->f a=r):IG ok f=r:=by
 have e:∃r,∀a,ok a->f a=r:=⟨r,h⟩
 unfold IG
 rw[mY e,<- e.choose_spec a0 h0,h a0 h0]
section
variable{X:Cx}{name q:Str}{pr:Arguments}{body rest:List Stmt}{sc:Scope}{pos:Pos}{P c:Addr}{i j m:Nat}{xs:List Str}{g:Addr->Obj->FS}
def P_(X:Cx)(name q:Str)(pr:Arguments)(body:List Stmt)(sc:Scope)(xs:List Str)(j:Nat)(P:Addr)(pos:Pos)(i:Nat):TS:=fun D σ H=>∃μ ρ st,Rl X μ ρ st σ H/\xX st j P pos q /\
 ∀f o H',Mt X name q pr body sc o->Ms name q pr body sc xs o->dD X.K H H'->gn X.K X.mg (μ++[f]) (st++[.pin false f o .non]) H'->D.nx (σ.set i (some (.ref f))) H'
theorem II(rG:X.env.code=.ref c)(Rx:codeHdIn X.K c P=true)(hB:vS X.base X.mg)(ig:X.env.cells=cellsFrom m X.env.scope.names [])(sv:∀x∈sc.names,x.2=.free->X.env.scope.names.lookup x.1=some .cell)
  (OH:(dh X.env sc.names []).map (·.1)=xs) (zq:xs.Nodup) (hq:qualnameIn X.env name name=q) (hN:X.N.Nodup) (hi:X.N[i]?=some name) (hx:DA X.env.scope name) (hf:X.fn name=true\/X.env.scope.names.lookup name=some .local)
  (TF:pr.defaults=[]:=by rfl) (OF:pr.kw_defaults=[]:=by rfl) (ha:annTrees pr none X.env=[]:=by rfl) :
  PS X (.FunctionDef name pr body [] none [] sc none name pos) (P_ X name q pr body sc xs j P pos i):=fun af s σ H D I h=>by
 obtain⟨μ,ρ,st,l,e4,h⟩:=h
 obtain⟨aP,hP0,eP,ps,hP,ht,TW⟩:=l.sto.get e4
 subst eP
 have has:∀x∈sc.names,x.2=.free->∃c,X.env.cells.lookup x.1=some c:=fun x hx hf=>by rw[ig];exact lF (sv x hx hf)
 have lX:closureFor sc X.env=pure (dh X.env sc.names []):=D6 has
 refine PySem.W.nestDef_K TF OF ha ?_
 rw[hq]
 refine CN (P:=aP) rG Rx hB lX I hP ht TW fun f cd i9 ct h' t H' hH BZ pL I2=>?_
 refine sy I2 hN hi hx (v:=.ref f) rfl (fun s' I3=>?_) hf
 have ok:Mt X name q pr body sc (fnMade name q pr body sc (dh X.env sc.names []) i9 ((X.mg "__name__").getD .none) cd ct):=⟨i9,cd,ct,rfl⟩
 have hcl':∀y∈dh X.env sc.names [],X.env.cells.lookup y.1=some y.2:=lG sc.names [] has (by simp)
 have nd2:((dh X.env sc.names []).map (·.2)).Nodup:=by
  have nd1:((dh X.env sc.names []).map (·.1)).Nodup:=by rw[OH];exact zq
  have gen:∀l:List (Str×Addr),(∀y∈l,X.env.cells.lookup y.1=some y.2)->(l.map (·.1)).Nodup->(l.map (·.2)).Nodup:=by
   intro l
   induction l with
   |nil=>intro _ _;exact km
   |cons y l ih=>
    intro a b
    rw[aN,bP]at b ⊢
    refine⟨fun z=>b.1 ?_,ih (fun y hy=>a y (aH _ hy)) b.2⟩
    obtain⟨y',hy',e⟩:=aJ.mp z
    have:=I.ok.inj _ _ _ (a y a7) (by rw[<- e];exact a y' (aH _ hy'))
    rw[this]
    exact aJ.mpr ⟨y',hy',rfl⟩
  exact gen _ hcl' nd1
 have hS':gn X.K X.mg μ st H'/\dD X.K H H':=by
  rcases hH with⟨g1,g2,rfl⟩|rfl
  ·exact l.sto.tabbed e4 hP g2 ht g1
  ·exact⟨l.sto,dD.refl⟩
 obtain⟨S',X'⟩:=hS'
 have hs:ju H' (eY H' f (lH f (fnMade name q pr body sc (dh X.env sc.names []) i9 ((X.mg "__name__").getD .none) cd ct))):=cY BZ _
 refine⟨_,_,I3,h f _ _ ok ⟨_,i9,_,cd,ct,OH,nd2,rfl⟩ (X'.trans (fQ.same hs)) (S'.push BZ ⟨rfl,dR,fun _=>⟨_,cd,rfl,rfl,?_⟩,.non,.non,fun z=>by cases z⟩)⟩
 rw[cv (by rintro rfl;rw[BZ]at pL;cases pL)];exact pL
theorem IJ(hd:PS X (.FunctionDef name pr body [] none [] sc none name pos) (P_ X name q pr body sc xs j P pos i))(G8:∀f o,Mt X name q pr body sc o->SB X rest (g f o)) :
  SB X (.FunctionDef name pr body [] none [] sc none name pos::rest) (uU (Ms name q pr body sc xs) j P pos q i g):=⟨(wW hd (u:=fun D σ H=>∃f o,Mt X name q pr body sc o/\PF X (g f o) D σ H) (fun af s σ H D I h=>by
  obtain⟨f,o,ok,h⟩:=h
  exact(G8 f o ok).h af s σ H D I h)).imp fun D σ H h=>by
 obtain⟨μ,ρ,st,l,h⟩:=h
 unfold uU at h
 by_cases e4:xX st j P pos q
 ·rw[aq e4]at h
  refine⟨μ,ρ,st,l,e4,fun f o H' on ok x S=>⟨f,o,on,μ++[f],ρ.set i (some (.loc st.length)),st++[.pin false f o .non],⟨pS (.locI (by rw[l.sto.len];simp)) i (qx (aR _ _) x l.env),S⟩,?_⟩⟩
  unfold IG at h
  by_cases he:∃r,∀p:Addr×Obj,Ms name q pr body sc xs p.2->Bs st (g p.1 p.2 (ρ.set i (some (.loc st.length))) (st++[.pin false p.1 p.2 .non]))=r
  ·rw[mY he]at h
   have hr:=he.choose_spec (f,o) ok
   rw[<- hr]at h
   simp only at h
   cases e:g f o (ρ.set i (some (.loc st.length))) (st++[.pin false f o .non])with
   |rt w dw=>
    rw[e]at h
    intro μ' v H2 p x2 S2 r2
    obtain⟨μ2,p2,S3,r3⟩:=jj l.sto S2 ((aR _ _).trans p) (.consI r2 .nilI)
    obtain⟨_,e2,r4⟩:=r3.one
    cases e2
    exact h μ2 v H2 p2 (x.trans x2) S3 r4
   |nx _ _=>rw[e]at h;exact h.elim
   |bk _ _=>rw[e]at h;exact h.elim
   |ct _ _=>rw[e]at h;exact h.elim
   |ex _ _ _=>rw[e]at h;exact h.elim
   |bad=>rw[e]at h;exact h.elim
  ·rw[dif_neg he]at h;exact h.elim
 ·rw[ax e4]at h;exact h.elim⟩
end
structure zX(N ps xs:List Str)(sc:Scope):Prop where
 kind:sc.kind=.function
 co:sc.isCoroutine=false
 gen:sc.isGenerator=false
 nd:N.Nodup
 pre:N.take ps.length=ps
 mid:(N.drop ps.length).take xs.length=xs
 par:∀x∈ps,sc.names.lookup x=some .local
 nocell:∀y∈sc.names,y.2≠.cell
 fre:∀y∈sc.names,y.2=.free->y.1∈xs
 xfr:∀x∈xs,sc.names.lookup x=some .free
abbrev CO(q:Str)(sc:Scope)(L f:Addr)(cd:Value)(cl:List (Str×Addr)):Env:=PySem.W.envX q sc L f cd cl
def qI(CX:zo)(P:Program)(w:World)(K:Frag)(mg:Str->Option Value)(base:Heap)(N:List Str)(dJ:Str)(scope:Scope)(f:Addr)(cd:Value)(cl:List (Str×Addr))(A:Around)(outer:List Env)(s:Shared)(H:Hp)(E:XK):Cx where
 prog:=P
 w:=w
 K:=K
 mg:=mg
 base:=base
 A:=A.deeper (CO dJ scope s.heap.objs.size f cd cl)
 N:=N
 s₀:=s
 H₀:=H
 env:=CO dJ scope s.heap.objs.size f cd cl
 outer:=outer
 stack:=CO dJ scope s.heap.objs.size f cd cl::outer
 ex:=[]
 calm:=true
 fn:=fun _=>false
 pn:=[]
 xe:=fun e s'=>wpAny (model P w) (A.deeper (CO dJ scope s.heap.objs.size f cd cl)) (leaving (CO dJ scope s.heap.objs.size f cd cl) e) (fun _ s''=>CX outer H s E e s'') (fun e' s''=>CX outer H s E e' s'') s'
theorem oq{α:Type}:∀{l:List (Str×α)} {x:Str} {a:α},(l.map (·.1)).Nodup->(x,a)∈l->l.lookup x=some a
 |[],_,_,_,h=>absurd h (by simp)
 |(y,b)::l,x,a,nd,h=>by
  rw[aN,bP]at nd
  rcases aM.mp h with e|h2
  ·cases e;simp[f']
  ·have:(x==y)=false:=by
    rw[bd];intro z;exact nd.1 (aJ.mpr ⟨_,h2,z⟩)
   rw[f',this];exact oq nd.2 h2
theorem py{α β:Type}{R:α->β->Prop}:∀{l:List α} {m:List β} {i:Nat} {a:α},Paired R l m->l[i]?=some a->∃b,m[i]?=some b/\R a b
 |_,_,_,_,.nil,e=>by simp at e
 |_,_,0,_,.cons r _,e=>by simp at e;subst e;exact⟨_,rfl,r⟩
 |_,_,i+1,_,.cons _ t,e=>by simpa using py (i:=i) t (by simpa using e)
theorem Bt:∀{l:List (Str×Addr)} {x y:Str} {c:Addr},(l.map (·.2)).Nodup->(x,c)∈l->(y,c)∈l->x=y
 |[],_,_,_,_,h,_=>absurd h (by simp)
 |(z,b)::l,x,y,c,nd,h1,h2=>by
  rw[aN,bP]at nd
  rcases aM.mp h1 with e|h1
  ·rcases aM.mp h2 with e2|h2
   ·cases e;cases e2;rfl
   ·cases e;exact absurd (aJ.mpr ⟨_,h2,rfl⟩) nd.1
  ·rcases aM.mp h2 with e2|h2
   ·cases e2;exact absurd (aJ.mpr ⟨_,h1,rfl⟩) nd.1
   ·exact Bt nd.2 h1 h2
section
variable{P:Program}{w:World}{K:Frag}{mg:Str->Option Value}{base:Heap}
theorem EM{CX:zo}{N ps xs:List Str}{dJ:Str}{scope:Scope}{f:Addr}{cd:Value}{cl:List (Str×Addr)}{A:Around}{outer:List Env}{s:Shared}{h₁:Heap}{tk:Nat}{H:Hp}{E:XK}{us zb:List Value}{vs su:List V}
  (S:zX N ps xs scope) (hd:A.handled=none) (e0:rL P w K mg base A outer s H) (hl:vs.length=ps.length) (r:cw vs us) (rc:cw su zb) (hx:cl.map (·.1)=xs) (hn:(cl.map (·.2)).Nodup)
  (hc:Paired (fun(y:Str×Addr) (u:Value)=>s.heap.IsCell y.2 (some u)/\H y.2=none) cl zb)
  (N4:h₁.Ns s.heap.objs.size (fun x=>(ps.zip us).reverse.lookup x)) (hk:∀b o,s.heap.get? b=some o->h₁.get? b=some o) :
  bw (qI CX P w K mg base N dJ scope f cd cl A outer s H E) [] (jd N (vs++su)) H { s with heap:=h₁,toks:=tk }:=by
 have lq:ps.length<=N.length:=by have:=cM List.length S.pre;rw[aV]at this;omega
 have hxl:xs.length<=N.length-ps.length:=by have:=cM List.length S.mid;rw[aV,f_]at this;omega
 have lX:su.length=xs.length:=by rw[rc.length,<- hc.length,<- hx,ar]
 have ndx:xs.Nodup:=by rw[<- S.mid];exact(S.nd.sublist (List.drop_sublist _ _)).sublist (kQ _ _)
 have ndP:ps.Nodup:=by rw[<- S.pre];exact S.nd.sublist (kQ _ _)
 have look:∀x∈xs,∃c,cl.lookup x=some c:=fun x hx'=>by
  rw[<- hx]at hx'
  obtain⟨y,hy,rfl⟩:=aJ.mp hx'
  exact⟨y.2,oq (by rw[hx];exact ndx) hy⟩
 have cellOf:∀x c,cl.lookup x=some c->∃u,s.heap.IsCell c (some u)/\H c=none:=fun x c e=>by
  have hm:=PySem.mem_of_lookup e
  obtain⟨i,hi⟩:=jq hm
  obtain⟨u,_,q⟩:=py hc hi
  exact⟨u,q⟩
 have noA:∀b:Addr,b∉(qI CX P w K mg base N dJ scope f cd cl A outer s H E).ex:=fun b z=>absurd (show b∈([]:List Addr)from z) (by simp)
 refine⟨⟨e0.mod,S.kind,rfl,rfl,ay _,fun y z c h1 h2=>?_,fun y hy=>?_,fun y c z _=>?_,fun _=>hd,Around.frames_deeper e0.frames,.inr ⟨rfl,rfl⟩,fun b z=>absurd z (noA b),e0.bs,e0.bsz,fun b _ _=>noA b,fun b z=>absurd z (noA b),e0.funs,e0.frf⟩,
  rfl,e0.bare,Un.kept hk,⟨_,N4,fun i y v h1 h2 h3=>?_⟩,fun y c h=>?_,e0.hok.fresh (ay _),fun y c h=>?_,fun p hp=>absurd (show p∈([]:List (Addr×Obj))from hp) (by simp),e0.hok.kept hk,?_⟩
 ·exact Bt hn (PySem.mem_of_lookup (show cl.lookup y=some c from h1)) (PySem.mem_of_lookup (show cl.lookup z=some c from h2))
 ·have hy:scope.names.lookup y=some .cell\/scope.names.lookup y=some .free:=hy
  rcases hy with hy|hy
  ·exact absurd rfl (S.nocell _ (PySem.mem_of_lookup hy))
  ·exact look y (S.fre _ (PySem.mem_of_lookup hy) rfl)
 ·cases z
 ·have h1:N[i]?=some y:=h1
  have hi:i<(vs++su).length:=by
   unfold jd at h2
   by_cases hi:i<(vs++su).length
   ·exact hi
   ·rw[bZ (by simpa using hi)]at h2
    rw[iw]at h2
    split at h2<;>cases h2
  have ha:(vs++su)[i]?=some v:=by
   unfold jd at h2
   rw[aW (by simpa using hi),aD]at h2
   cases e:(vs++su)[i]? with
   |none=>rw[e]at h2;cases h2
   |some a=>rw[e]at h2;cases h2;rfl
  obtain⟨u,hu,rv⟩:=(r.append rc).get ha
  refine⟨u,rv,?_⟩
  by_cases hip:i<ps.length
  ·have hp:ps[i]?=some y:=by rw[<- S.pre,bv hip];exact h1
   have hu':us[i]?=some u:=by rw[aW (by rw[<- r.length,hl];exact hip)]at hu;exact hu
   refine .inl ⟨S.par y (aY hp),?_⟩
   have hz:(ps.zip us)[i]?=some (y,u):=by rw[List.getElem?_zip_eq_some];exact⟨hp,hu'⟩
   refine oq ?_ (List.mem_reverse.mpr (aY hz))
   rw[List.map_reverse]
   have:(ps.zip us).map (·.1)=ps:=List.map_fst_zip (by rw[<- r.length,hl];exact ay _)
   rw[this]
   exact List.pairwise_reverse.mpr (ndP.imp fun h=>Ne.symm h)
  ·have hx':xs[i-ps.length]?=some y:=by
    rw[<- S.mid,bv (by rw[aL,hl,lX]at hi;omega),List.getElem?_drop]
    rw[show ps.length+(i-ps.length)=i by omega];exact h1
   have hu':zb[i-ps.length]?=some u:=by rw[bZ (by rw[<- r.length,hl];omega),<- r.length,hl]at hu;exact hu
   rw[<- hx,aD]at hx'
   obtain⟨yc,ey,e2⟩:=eU.mp hx'
   obtain⟨u',eu,q1,q2⟩:=py hc ey
   rw[hu']at eu;cases eu
   have hin:y∈xs:=by rw[<- hx,<- e2];exact aJ.mpr ⟨yc,aY ey,rfl⟩
   refine .inr ⟨.inr (S.xfr y hin),yc.2,?_,q1.keeps hk⟩
   exact oq (l:=cl) (by rw[hx];exact ndx) (by rw[<- e2];exact aY ey)
 ·obtain⟨u,q,_⟩:=cellOf y c h;exact⟨_,q.keeps hk⟩
 ·obtain⟨u,_,q⟩:=cellOf y c h;exact q
 ·unfold jd
  show _=N.length
  rw[aL,ar,nD,aL,hl,lX]
  omega
def lM(o:Obj):List (Str×Addr):=match o.data with
 |.func fd=>fd.closure
 |_=>[]
structure pz(P:Program)(w:World)(K:Frag)(mg:Str->Option Value)(base:Heap)(k n m:Nat)(ok:Obj->Prop)(F:List W->List al->R W):Prop where
 run:∀(A:Around) (outer:List Env) (s:Shared) (H:Hp) (f:Addr) (o:Obj) (fd:FuncData) (us zb:List Value) (vs su:List V) (Q:VK) (E:XK),gB k A->rL P w K mg base A outer s H->s.heap.get? f=some o->ok o->o.data=.func fd->s.heap.CodeRec fd.code fd.qualname ->
  cw vs us->cw su zb->us.length=n->Paired (fun(y:Str×Addr) (u:Value)=>s.heap.IsCell y.2 (some u)/\H y.2=none) (lM o) zb->jr K mg (n+m) F (vs++su) H Q E ->
  codeAny (model P w) A (.call (.ref f) ⟨us,[]⟩) (CR (iC P w) outer P w H s Q E) s
theorem pz.mono{j k n m:Nat}{ok:Obj->Prop}{F:List W->List al->R W}(h:pz P w K mg base j n m ok F)(hj:j<=k):pz P w K mg base k n m ok F:=
 ⟨fun A outer s H f o fd us zb vs su Q E hr=>h.run A outer s H f o fd us zb vs su Q E (hr.mono hj)⟩
theorem IK{name dJ:Str}{pr:Arguments}{body:List Stmt}{scope:Scope}{N ps xs:List Str}{k n m:Nat}{g:FS}(S:zX N ps xs scope)(hn:ps.length=n)(hm:xs.length=m)
  (hb:∀(cl:List (Str×Addr)) (i9 pm:Value) (cd:Addr) (ct:Value) (us:List Value),us.length=ps.length->bindArgs (PySem.W.fnX name dJ pr body scope cl .none .none i9 pm none (.ref cd) ct) ⟨us,[]⟩=pure (ps.zip us))
  (qm:∀(f:Addr) (cd:Value) (cl:List (Str×Addr)) (A:Around) (outer:List Env) (s:Shared) (H:Hp) (E:XK),gB k (A.deeper (CO dJ scope s.heap.objs.size f cd cl)) ->
   SB (qI (iC P w) P w K mg base N dJ scope f cd cl A outer s H E) body g):pz P w K mg base (k+1) n m (Ms name dJ pr body scope xs) (dN N.length g):=⟨fun A outer s H f o fd us zb vs su Q E hr e0 ho ok hd pL r rc hul hc He=>by
 obtain⟨cl,i9,pm,cd,ct,hx,zq,rfl⟩:=ok
 cases hd
 have KX:K.In s.heap:=e0.mod.kin.keeps fun b o e=>(e0.bs b o e).1
 have lim:s.heap.NoLimit:=e0.mod.nolimit.keeps fun b o e=>(e0.bs b o e).1
 have hl:vs.length=ps.length:=by rw[r.length,hul,hn]
 refine codeAny_call_def (fd:=PySem.W.fnX name dJ pr body scope cl .none .none i9 pm none (.ref cd) ct) (body:=body) (binds:=ps.zip us) hr.depth ho rfl lim pL rfl (.of_eq (hb cl i9 pm cd ct us (by rw[hul,hn]))) S.nocell (fun y hy=>S.par _ (jF hy).1) (fun h₁ N4 hk=>?_) S.co S.gen S.kind
 have I:bw (qI (iC P w) P w K mg base N dJ scope f (.ref cd) cl A outer s H E) [] (jd N (vs++su)) H { s with heap:=h₁,toks:=s.toks+(ps.zip us).length }:=EM S hr.hd e0 hl r rc hx zq hc N4 hk
 obtain⟨hl2,μ,ws,N7,Sr,rw0,h⟩:=He
 have hq:PF (qI (iC P w) P w K mg base N dJ scope f (.ref cd) cl A outer s H E) g { nx:=fun _ H'=>Q .non H',rt:=Q } (jd N (vs++su)) H:=by
  refine⟨μ,ws.map some++List.replicate (N.length-ws.length) none,N7,⟨?_,Sr⟩,?_⟩
  ·unfold jd
   rw[<- rw0.len]
   have base:∀(ws:List W) (vs:List V) (m:Nat),RelWs K μ H ws vs->Paired (fun(o:Option W) (s:Option V)=>∀w,o=some w->∃v,s=some v/\bf K μ H w v) (ws.map some++List.replicate m none) (vs.map some++List.replicate m none):=by
    intro ws
    induction ws with
    |nil=>
     intro vs m r
     rw[r.nilE]
     induction m with
     |zero=>exact .nil
     |succ m ih=>exact .cons (fun w z=>nomatch z) ih
    |cons w ws ih=>
     intro vs m r
     obtain⟨y,ys,rfl,ry,rys⟩:=r.consE
     exact .cons (fun w' z=>⟨y,rfl,by cases z;exact ry⟩) (ih ys m rys)
   exact base ws _ _ rw0
  ·unfold dN at h
   cases e:g (ws.map some++List.replicate (N.length-ws.length) none) N7 with
   |rt w bu=>
    rw[e]at h
    intro μ' v H' p x S' lD
    obtain⟨μ2,p2,S2,r2⟩:=jj Sr S' p (.consI lD .nilI)
    obtain⟨_,e2,r3⟩:=r2.one
    cases e2
    exact h μ2 v H' p2 x S2 r3
   |nx ρ' bu=>
    rw[e]at h
    intro μ' σ' H' p x l'
    obtain⟨μ2,p2,S2,_⟩:=jj (ws:=[]) (vs:=[]) Sr l'.sto p .nilI
    exact h μ2 .non H' p2 x S2 .non
   |ex c ρ' bu=>
    rw[e]at h
    intro af μ' σ' H' ev s' p x l' fl
    obtain⟨μ2,p2,S2,_⟩:=jj (ws:=[]) (vs:=[]) Sr l'.sto p .nilI
    exact fl.leaves rfl rfl fl.inv.ok.frames rfl fun C hC=>h C μ2 H' hC p2 x S2
   |bk ρ' bu=>rw[e]at h;exact h.elim
   |ct ρ' bu=>rw[e]at h;exact h.elim
   |bad=>rw[e]at h;exact h.elim
 refine dY ((qm f (.ref cd) cl A outer s H E (hr.deeper _)).h [] _ (jd N (vs++su)) H _ I hq) (fun fl s' hs=>?_) fun e s' hs=>hs
 have lE:∀{σ':St} {H':Hp} {v:V} {u:Value},bw (qI (iC P w) P w K mg base N dJ scope f (.ref cd) cl A outer s H E) [] σ' H' s'->cB v u->Q v H'->CE outer P w H s Q u s':=
  fun{σ' H' v u} J rv q=>⟨v,H',J.os,J.bare,J.base,J.hok,rv,q⟩
 cases fl with
 |ret u=>
  obtain⟨v,σ',H',J,rv,q⟩:=hs
  exact lE J rv q
 |next=>
  obtain⟨σ',H',J,q⟩:=hs
  exact lE (v:=V.non) (u:=Value.none) J rfl q
 |brk=>
  obtain⟨_,_,_,q⟩:=hs
  exact False.elim q
 |cont=>
  obtain⟨_,_,_,q⟩:=hs
  exact False.elim q⟩
end
def nP(c:Addr):al->Bool
 |.pin true a _ _=>a==c
 |_=>false
open Classical in
def tf(ok:Obj->Prop)(F:List W->List al->R W)(m:Nat)(ws:List W)(st:List al):R W:=match st[m]? with
 |some (.pin false _ o _)=>if ok o then(match p7 ((lM o).map fun y=>(st.findIdx? (nP y.2)).getD 0) st with
   |some (l,st1)=>if (l.map fun x=>x.2.1)=(lM o).map (·.2)then(match F (ws++l.map fun x=>x.2.2.2) st1 with
     |.ok w dw=>(match zW l dw with
      |some jB=>.ok w jB
      |none=>.bad)
     |_=>.bad)else .bad
   |none=>.bad)else .bad
 |_=>.bad
def pA(i n:Nat)(ok:Obj->Prop)(F:List W->List al->R W)(fs:FA):FE:=fun ρ st=>match ρ[i]? with
 |some (some (.loc m))=>(match st[m]? with
  |some (.pin false _ _ _)=>(fs ρ st).bind fun ws st1=>if ws.length=n then tf ok F m ws st1 else .bad
  |_=>.bad)
 |_=>.bad
theorem j8{l:List jm}{H:Hp}{b:Addr}(h:H b=none):mD l H b=none:=by
 by_cases q:∃x∈l,x.2.1=b
 ·exact se q
 ·rw[iD fun x hx e=>q ⟨x,hx,e⟩];exact h
theorem x6{K:Frag}{μ:List Addr}{H:Hp}{h:Heap}:∀{l:List jm},(∀x∈l,xZ K μ H h x)->∃su zb,cw su zb/\RelWs K μ H (l.map fun x=>x.2.2.2) su/\Paired (fun(x:jm) (u:Value)=>h.IsCell x.2.1 (some u)) l zb
 |[],_=>⟨[],[],.nil,.nilI,.nil⟩
 |x::l,ha=>by
  obtain⟨su,zb,a,b,c⟩:=x6 (l:=l) fun y hy=>ha y (aH _ hy)
  obtain⟨_,g,u,v,d,ru,rx⟩:=ha x a7
  exact⟨v::su,u::zb,.cons ru a,.consI rx b,.cons ⟨_,g,d⟩ c⟩
theorem uV{α:Type}{R:Addr->α->Prop}:∀{l:List jm} {cl:List (Str×Addr)} {m:List α},(l.map fun x=>x.2.1)=cl.map (·.2)->Paired (fun(x:jm) u=>R x.2.1 u) l m->Paired (fun(y:Str×Addr) u=>R y.2 u) cl m
 |[],[],_,_,.nil=>.nil
 |[],_::_,_,e,_=>by simp at e
 |_::_,[],_,e,_=>by simp at e
 |x::l,y::cl,_,e,.cons r t=>by
  simp only[aN,List.cons.injEq]at e
  exact .cons (by rw[<- e.1];exact r) (uV e.2 t)
theorem x8{α β:Type}{R T:α->β->Prop}:∀{l:List α} {m:List β},Paired R l m->(∀a∈l,∀b,T a b)->Paired (fun a b=>R a b/\T a b) l m
 |_,_,.nil,_=>.nil
 |_,_,.cons r t,h=>.cons ⟨r,h _ a7 _⟩ (x8 t fun a ha=>h a (aH _ ha))
section
variable{X:Cx}{e:Expr}{es:List Expr}{pos p:Pos}{x:Str}{fs:FA}
theorem IL(i:Nat){k k' n m:Nat}{ok:Obj->Prop}{F:List W->List al->R W}(Nk:pz X.prog X.w X.K X.mg X.base k n m ok F)(hm:∀o,ok o->(lM o).length=m)(hr:gB k' X.A)(hk:k<=k')(ha:SA X (e::es) fs)
  (hN:X.N[i]?=some x:=by rfl) (hv:Ow X.env.scope x:=by first|exact Or.inl rfl|exact Or.inr (Or.inl rfl)|exact Or.inr (Or.inr rfl)) (y8:(x==("__debug__":Str))=false:=by decide)
  (pL:(x==("__classdict__":Str))=false:=by decide) (he:starEach (e::es) X.env=(false,eval e X.env)::starEach es X.env:=by rfl) (lq:(backTo pos (starEach es X.env)).any (·.1)=false:=by rfl) :
  SE X (.Call (.Name x p) (e::es) [] pos) (pA i n ok F fs):=⟨by
 intro af s σ H Q I h
 obtain⟨μ,ρ,st,l,h⟩:=h
 unfold pA at h
 split at h
 ·rename_i mm e1
  split at h
  ·rename_i f0 o0 w0 e2
   obtain⟨v,hσ,rx⟩:=nJ l.env e1
   obtain⟨f,hmu,rfl⟩:=rx.locE
   obtain⟨a0,hmu0,ea,hH0,hf0,_⟩:=l.sto.get e2
   rw[hmu]at hmu0;cases hmu0
   subst ea
   refine dZ (gE ((pv i hN hv y8 pL) af s σ H (fun v H1=>v=.ref f/\H1=H) I ⟨_,hσ,rfl,rfl⟩) fun u s1 hs1=>?_)
   obtain⟨v1,H1,I1,ru,rfl,rfl⟩:=hs1
   obtain rfl:u=Value.ref f:=ru
   have fnAt:∀{H2:Hp} {h2:Heap} {o:Obj},kB X.prog X.w H2 h2->H2 f=some (lH f o)->(∃fd cd,o.data=.func fd/\fd.code=.ref cd/\H2 cd=some (jM cd fd.qualname))->PySem.W.FnAt f h2:=fun{H2 h2 o} hok q r=>by
    obtain⟨g,_⟩:=hok _ _ q
    obtain⟨fd,_,d,_⟩:=r
    obtain⟨c1,c2,c3,c4⟩:=o
    cases d
    exact⟨c1,c2,fd,c4,g⟩
   have h':PD X fs σ H1 fun vs H2=>∃μ1 st1 ws,Rl X μ1 ρ st1 σ H2/\μ <+: μ1/\RelWs X.K μ1 H2 ws vs/\RK X (rO X) μ1 σ H2 Q (if ws.length=n then tf ok F mm ws st1 else .bad):=
    ⟨μ,ρ,st,l,RK.bind h l fun μ1 st1 x v H1 p1 x1 l1 q1 h1=>⟨μ1,st1,x,l1,p1,q1,h1⟩⟩
   refine PySem.W.callWith_F (q:=f) (fnAt I1.hok hH0 (hf0 rfl)) (gE (ha.h pos af s1 σ H1 _ I1 h') fun us s2 ⟨vs,H2,I2,r,μ1,st1,ws,l1,p1,r1,q⟩=>?_) he lq
   by_cases c:ws.length=n
   ·rw[aq c]at q
    unfold tf at q
    split at q
    ·rename_i f1 o1 w1 e3
     obtain⟨a1,hmu1,ea1,hH1,OC,_⟩:=l1.sto.get e3
     rw[gQ p1 hmu]at hmu1;cases hmu1
     subst ea1
     have BZ:=OC rfl
     refine⟨fnAt I2.hok hH1 BZ,?_⟩
     obtain⟨go,_⟩:=I2.hok _ _ hH1
     obtain⟨fd,cd,hd,rG,hHc⟩:=BZ
     obtain⟨⟨oc,vsc,tc,hoc,hdc,hvc⟩,_⟩:=I2.hok _ _ hHc
     by_cases hok:ok o1
     ·rw[aq hok]at q
      split at q
      ·rename_i lv dw e4
       by_cases had:(lv.map fun x=>x.2.1)=(lM o1).map (·.2)
       ·rw[aq had]at q
        split at q
        ·rename_i wv jB e5
         split at q
         ·rename_i st4 e6
          obtain⟨S1,hok1,x1,la,nd⟩:=s_ l1.sto I2.hok e4
          have inH:∀y∈lv,H2 y.2.1≠none:=fun y hy=>by rw[(la y hy).2];simp
          have out:∀{b:Addr},H2 b=none->∀y∈lv,y.2.1≠b:=fun{b} n y hy z=>inH y hy (by rw[z];exact n)
          have outT:∀{b:Addr} {u:HO},H2 b=some u->(∀φ,u≠.ext φ)->∀y∈lv,y.2.1≠b:=fun{b u} n ne y hy z=>by have:=(la y hy).2;rw[z,n]at this;cases this;exact ne _ rfl
          obtain⟨su,zb,rc,rwc,pc⟩:=x6 fun y hy=>(la y hy).1
          have e0:=I2.env0
          have e0':rL X.prog X.w X.K X.mg X.base X.A X.stack s2 (mD lv H2):=⟨e0.frames,e0.mod,fun b o q=>⟨(e0.bs b o q).1,j8 (e0.bs b o q).2⟩,e0.bsz,e0.funs,fun b hb=>j8 (e0.frf b hb),hok1,e0.bare⟩
          have lX:Paired (fun(y:Str×Addr) (u:Value)=>s2.heap.IsCell y.2 (some u)/\mD lv H2 y.2=none) (lM o1) zb:=
           uV (R:=fun a u=>s2.heap.IsCell a (some u)/\mD lv H2 a=none) had (x8 pc fun y hy _=>se ⟨y,hy,rfl⟩)
          have eR:(ws++lv.map fun x=>x.2.2.2).length=n+m:=by
           rw[aL,c,ar]
           have:=cM List.length had
           rw[ar,ar,hm o1 hok]at this
           rw[this]
          have rall:RelWs X.K μ1 (mD lv H2) (ws++lv.map fun x=>x.2.2.2) (vs++su):=(RelWs.pr.mpr (Paired.imp' (fun _ _ z=>z.mono (aj _) x1) (RelWs.pr.mp r1))).app rwc
          refine mW (gi ((Nk.mono hk).run X.A X.stack s2 (mD lv H2) f o1 fd us zb vs su (fun v H'=>∃μ',μ1 <+: μ'/\dD X.K (mD lv H2) H'/\gn X.K X.mg μ' jB H'/\bf X.K μ' H' wv v) (fun _ _ _=>False) hr e0' go hok hd ⟨cd,oc,vsc,tc,rG,hoc,hdc,hvc⟩ r rc (by rw[<- r.length,<- r1.len,c]) lX
           ⟨by rw[<- rall.len];exact eR,μ1,_,dw,S1,rall,by rw[e5];exact fun μ' v H' a b c d=>⟨μ',a,b,c,d⟩⟩) fun rr s' hq=>?_)
          cases rr with
          |error ev=>obtain⟨_,_,_,_,_,_,z,_⟩:=hq;exact z.elim
          |ok fl=>
           cases fl with
           |next=>exact False.elim hq
           |brk=>exact False.elim hq
           |cont=>exact False.elim hq
           |ret u=>
            obtain⟨v,H',os,bare,un,hok',rv,μ',pm,xm,Sm,rm⟩:=hq
            have hla:∀y∈lv,xZ X.K μ' H' s'.heap y/\H' y.2.1=none:=fun y hy=>by
             obtain⟨⟨g1,g2,u1,v1,g3,g4,g5⟩,_⟩:=la y hy
             have hn:mD lv H2 y.2.1=none:=se ⟨y,hy,rfl⟩
             exact⟨⟨gQ pm g1,un.keep _ _ g2 hn (fun z=>inH y hy (I2.stkFree _ z)) (by simp),u1,v1,g3,g4,g5.mono pm xm⟩,un.free _ _ g2 hn (by simp)⟩
            obtain⟨Sp,hokp,xp⟩:=Br Sm hok' hla nd e6
            have un':Un (sw X.stack) [] H2 (pw lv H') s2.heap s'.heap:=by
             refine⟨fun b o q n hb hx=>un.keep b o q (j8 n) hb hx,fun b o q n hb hx=>un.slot b o q (j8 n) hb hx,fun b o q n hx=>?_,un.there,fun b xs q=>?_,fun b o u q=>?_,fun b ps q=>?_⟩
             ·rw[fZ (out n)];exact un.free b o q (j8 n) hx
             ·have ot:=outT q (fun _ z=>by cases z)
              rw[fZ ot];exact un.tups b xs (by rw[iD ot];exact q)
             ·have ot:=outT q (fun _ z=>by cases z)
              rw[fZ ot];exact un.frzs b o u (by rw[iD ot];exact q)
             ·have ot:=outT q (fun _ z=>by cases z)
              rw[fZ ot];exact un.tbls b ps (by rw[iD ot];exact q)
            have I3:bw X af σ (pw lv H') s':=I2.call' os un' hokp bare fun b hb=>absurd hb (by simp)
            exact⟨v,_,I3,rv,q μ' v _ pm (x1.trans (xm.trans xp)) Sp (rm.mono (aj _) xp)⟩
         ·exact q.elim
        ·exact q.elim
       ·rw[ax had]at q;exact q.elim
      ·exact q.elim
     ·rw[ax hok]at q;exact q.elim
    ·exact q.elim
   ·rw[ax c]at q;exact q.elim
  ·exact h.elim
 ·exact h.elim⟩
end
open Classical in
def uW{α:Type}(ok:α->Prop)(f:α->R W):R W:=if h:∃r,∀a,ok a->f a=r then h.choose else .bad
theorem EN{α:Type}{ok:α->Prop}{f:α->R W}{r:R W}(a0:α)(h0:ok a0)(h:∀a,ok a->f a=r):uW ok f=r:=by
 have e:∃r,∀a,ok a->f a=r:=⟨r,h⟩
 unfold uW
 rw[mY e,<- e.choose_spec a0 h0,h a0 h0]
def lN:List (Str×Addr)->List Obj->List W->List jm
 |y::cl,o::os,w::ws=>(0,y.2,o,w)::lN cl os ws
 |_,_,_=>[]
def uX:List Nat->bW->Option (List W)
 |[],_=>some []
 |i::is,ρ=>match ρ[i]? with
  |some (some w)=>(match uX is ρ with
   |some ws=>some (w::ws)
   |none=>none)
  |_=>none
theorem EO{α:Type}{ok:α->Prop}{f:α->R W}(a:α)(h:ok a):uW ok f=f a\/uW ok f=.bad:=by
 unfold uW
 by_cases e:∃r,∀a,ok a->f a=r
 ·rw[mY e];exact .inl (e.choose_spec a h).symm
 ·rw[dif_neg e];exact .inr rfl
open Classical in
def Bu(F:List W->List al->R W)(C:List (Str×Addr))(cws ws:List W)(st1:List al)(os:List Obj):R W:=match F ws (st1++il (lN C os cws))with
  |.ok w dw=>(match p7 (List.range' st1.length C.length) dw with
   |some (l',jB)=>if (l'.map fun x=>(x.2.1,x.2.2.1))=(lN C os cws).map fun x=>(x.2.1,x.2.2.1)then .ok w (ji st1 jB [w])else .bad
   |none=>.bad)
  |_=>.bad
def CP(F:List W->List al->R W)(o:Obj)(cws ws:List W)(st1:List al):R W:=uW (fun os:List Obj=>os.length=(lM o).length) (Bu F (lM o) cws ws st1)
def x9(n:Nat)(F:List W->List al->R W)(o:Obj)(is:List Nat)(fs:FA):FE:=fun ρ st=>(fs ρ st).bind fun ws st1=>if ws.length=n then(match uX is ρ with
  |some cws=>CP F o cws ws st1
  |none=>.bad)else .bad
section
variable{X:Cx}{af:List (Addr×Obj)}{σ:St}{H:Hp}{s:Shared}{μ:List Addr}{ρ:bW}{st:List al}
theorem EQ(I:bw X af σ H s)(l:Rl X μ ρ st σ H):∀{cl:List (Str×Addr)} {is:List Nat} {cws:List W},(∀y∈cl,X.env.cells.lookup y.1=some y.2/\X.env.scope.names.lookup y.1=some .cell)->Paired (fun(i:Nat) (y:Str×Addr)=>X.N[i]?=some y.1) is cl->uX is ρ=some cws ->
  ∃os:List Obj,os.length=cl.length/\((lN cl os cws).map fun x=>x.2.1)=cl.map (·.2)/\∀x∈lN cl os cws,H x.2.1=none/\s.heap.get? x.2.1=some x.2.2.1/\∃u v,x.2.2.1.data=.cell (some u)/\cB v u/\bf X.K μ H x.2.2.2 v
 |[],[],cws,_,.nil,e=>by cases e;exact⟨[],rfl,rfl,fun _ h=>absurd h (by simp[lN])⟩
 |y::cl,i::is,cws,ha,.cons hi t,e=>by
  unfold uX at e
  split at e
  ·rename_i w e1
   split at e
   ·rename_i ws e2
    cases e
    obtain⟨os,q1,q2,q3⟩:=EQ I l (fun y hy=>ha y (aH _ hy)) t e2
    obtain⟨v,hσ,rx⟩:=nJ l.env e1
    obtain⟨hc,hk⟩:=ha y a7
    obtain⟨mm,N4,hlk⟩:=id I.loc
    obtain⟨u,ru,lk⟩:=hlk i y.1 v hi hσ (.inr (.inl hk))
    obtain⟨o,ho,hd⟩:s.heap.IsCell y.2 (some u):=by
     rcases lk with⟨kl,_⟩|⟨_,c1,hc1,hcc⟩
     ·have:X.env.scope.names.lookup y.1=some .local:=kl
      rw[hk]at this;cases this
     ·rw[hc]at hc1;cases hc1;exact hcc
    refine⟨o::os,by simp[q1],by simp only[lN,aN,q2],fun x hx=>?_⟩
    rcases aM.mp (show x∈(0,y.2,o,w)::lN cl os ws from hx)with rfl|hx
    ·exact⟨I.freeC _ _ hc,ho,u,v,hd,ru,rx⟩
    ·exact q3 x hx
   ·cases e
  ·cases e
variable{e:Expr}{es:List Expr}{pos p:Pos}{x:Str}{fs:FA}
theorem Mu{k k' n:Nat}{F:List W->List al->R W}{name qn:Str}{pr:Arguments}{body:List Stmt}{sc:Scope}{o:Obj}{is:List Nat}{m:Nat}(Fn:bK X.prog X.w X.K X.mg X.base k x n F)(hr:gB k' X.A)(hk:k<=k')(ok:Mt X name qn pr body sc o)(ha:SA X (e::es) fs)
  (ig:X.env.cells=cellsFrom m X.env.scope.names []) (sv:∀x∈sc.names,x.2=.free->X.env.scope.names.lookup x.1=some .cell) (zq:((dh X.env sc.names []).map (·.1)).Nodup) (Tx:Paired (fun(i:Nat) (y:Str×Addr)=>X.N[i]?=some y.1) is (dh X.env sc.names []))
  (Tv:∀y∈dh X.env sc.names [],X.env.scope.names.lookup y.1=some .cell) (BZ:∀x,X.fn x=true)
  (hg:Gl X x:=by rfl) (y8:(x==("__debug__":Str))=false:=by decide)
  (he:starEach (e::es) X.env=(false,eval e X.env)::starEach es X.env:=by rfl) (lq:(backTo pos (starEach es X.env)).any (·.1)=false:=by rfl):SE X (.Call (.Name x p) (e::es) [] pos) (x9 n F o is fs):=⟨by
 intro af s σ H Q I h
 obtain⟨f,fd,ps,hm,hkp,hn,hb,Fo⟩:=(Fn.mono hk).ex
 obtain⟨i9,cd,ct,rfl⟩:=ok
 refine dZ (vq I hg hm ?_ y8)
 obtain⟨μ,ρ,st,l,h⟩:=h
 have h':PD X fs σ H fun vs H1=>∃μ1 st1 ws,Rl X μ1 ρ st1 σ H1/\RelWs X.K μ1 H1 ws vs/\RK X (rO X) μ1 σ H1 Q (if ws.length=n then(match uX is ρ with
  |some cws=>CP F (fnMade name qn pr body sc (dh X.env sc.names []) i9 ((X.mg "__name__").getD .none) cd ct) cws ws st1
  |none=>.bad)else .bad):=
  ⟨μ,ρ,st,l,RK.bind h l fun μ1 st1 x v H1 p1 x1 l1 q1 h1=>⟨μ1,st1,x,l1,q1,h1⟩⟩
 refine PySem.W.callWith_K (h₀:=X.base) I.ok.mod.kin hkp (gE (ha.h pos af s σ H _ I h') fun us s1 ⟨vs,H1,I1,r,μ1,st1,ws,l1,r1,q⟩=>⟨I1.kIn,?_⟩) he lq
 by_cases c:ws.length=n
 ·rw[aq c]at q
  split at q
  ·rename_i cws ec
   have has:∀x∈sc.names,x.2=.free->∃c,X.env.cells.lookup x.1=some c:=fun x hx hf=>by rw[ig];exact lF (sv x hx hf)
   have hcl':∀y∈dh X.env sc.names [],X.env.cells.lookup y.1=some y.2:=lG sc.names [] has (by simp)
   obtain⟨os,ol,oa,ol2⟩:=EQ I1 l1 (fun y hy=>⟨hcl' y hy,Tv y hy⟩) Tx ec
   unfold CP at q
   generalize hC:dh X.env sc.names []=C at *
   have hclo:lM (fnMade name qn pr body sc C i9 ((X.mg "__name__").getD .none) cd ct)=C:=rfl
   rw[hclo]at q
   rcases EO (ok:=fun os:List Obj=>os.length=C.length) (f:=Bu F C cws ws st1) os ol with t7|t7
   ·rw[t7]at q
    unfold Bu at q
    have ndc:((lN C os cws).map fun x=>x.2.1).Nodup:=by
     rw[oa]
     have gen:∀l:List (Str×Addr),(∀y∈l,X.env.cells.lookup y.1=some y.2)->(l.map (·.1)).Nodup->(l.map (·.2)).Nodup:=by
      intro l
      induction l with
      |nil=>intro _ _;exact km
      |cons y l ih=>
       intro a b
       rw[aN,bP]at b ⊢
       refine⟨fun z=>b.1 ?_,ih (fun y hy=>a y (aH _ hy)) b.2⟩
       obtain⟨y',hy',e⟩:=aJ.mp z
       have:=I.ok.inj _ _ _ (a y a7) (by rw[<- e];exact a y' (aH _ hy'))
       rw[this]
       exact aJ.mpr ⟨y',hy',rfl⟩
     exact gen _ hcl' zq
    split at q
    ·rename_i wv dw e5
     split at q
     ·rename_i l' jB e6
      split at q
      ·rename_i hll
       obtain⟨S1,hok1,x1⟩:=x5 l1.sto I1.hok ol2 ndc
       generalize hL:lN C os cws=L at *
       have isCell:∀y∈L,∃z,X.env.cells.lookup z=some y.2.1:=fun y hy=>by
        have:y.2.1∈C.map (·.2):=by rw[<- oa];exact aJ.mpr ⟨y,hy,rfl⟩
        obtain⟨z,hz,e⟩:=aJ.mp this
        exact⟨z.1,by rw[<- e];exact hcl' z hz⟩
       have big:∀y∈L,X.s₀.heap.objs.size<=y.2.1:=fun y hy=>by
        obtain⟨z,hz⟩:=isCell y hy
        exact I1.ok.cab z _ (BZ z) hz
       have noStk:∀y∈L,y.2.1∉sw X.stack:=fun y hy z=>by
        rcases aM.mp (I1.stkSub _ z)with e|hb
        ·obtain⟨z',hz⟩:=isCell y hy
         exact I1.cne z' _ hz e
        ·obtain⟨_,ob,GJ,_⟩:=I1.ok.funs.mem hb
         exact absurd (aU (aE GJ) (big y hy)) (cV _)
       have e0:=I1.env0
       have e0':rL X.prog X.w X.K X.mg X.base X.A X.stack s1 (pw L H1):=⟨e0.frames,e0.mod,fun b o q=>⟨(e0.bs b o q).1,by
        rw[fZ fun y hy z=>?_]
        ·exact(e0.bs b o q).2
        ·have:=aE (I1.ok.bs b o q).1
         rw[<- z]at this
         exact absurd (aU this (big y hy)) (cV _)⟩,e0.bsz,e0.funs,fun b hb=>by rw[fZ fun y hy z=>noStk y hy (by rw[z];exact hb)];exact e0.frf b hb,hok1,e0.bare⟩
       have hl':(us++([]:List Value)).length=ps.length:=by rw[cI,<- r.length,<- r1.len,c,hn]
       have rall:RelWs X.K (μ1++L.map fun x=>x.2.1) (pw L H1) ws vs:=RelWs.pr.mpr (Paired.imp' (fun _ _ z=>z.mono (aR _ _) x1) (RelWs.pr.mp r1))
       refine mW (gi (Fo.run X.A X.stack s1 (pw L H1) ⟨us,[]⟩ us vs (fun v H'=>∃μ',(μ1++L.map fun x=>x.2.1) <+: μ'/\dD X.K (pw L H1) H'/\gn X.K X.mg μ' dw H'/\bf X.K μ' H' wv v) (fun _ _ _=>False) hr e0' (by have:=hb s1 us I1.kIn hl';rwa[cI]at this) r
        ⟨by rw[<- r1.len];exact c,_,ws,_,S1,rall,by rw[e5];exact fun μ' v H' a b c d=>⟨μ',a,b,c,d⟩⟩) fun rr s' hq=>?_)
       cases rr with
       |error ev=>obtain⟨_,_,_,_,_,_,z,_⟩:=hq;exact z.elim
       |ok fl=>
        cases fl with
        |next=>exact False.elim hq
        |brk=>exact False.elim hq
        |cont=>exact False.elim hq
        |ret u=>
         obtain⟨v,H',os',bare,un,hok',rv,μ',pm,xm,Sm,rm⟩:=hq
         obtain⟨Sh,hokh,xh,la,ndl⟩:=s_ Sm hok' e6
         have pm1:μ1 <+: μ':=(aR _ _).trans pm
         obtain⟨μ2,p2,S2,r2⟩:=jj l1.sto Sh pm1 (.consI (rm.mono (aj _) xh) .nilI)
         obtain⟨_,ee,r3⟩:=r2.one
         cases ee
         have both1:∀y∈L,∃z∈l',z.2.1=y.2.1/\z.2.2.1=y.2.2.1:=fun y hy=>by
          have:(y.2.1,y.2.2.1)∈l'.map fun x=>(x.2.1,x.2.2.1):=by rw[hll];exact aJ.mpr ⟨y,hy,rfl⟩
          obtain⟨z,hz,e⟩:=aJ.mp this
          exact⟨z,hz,(kS e).1,(kS e).2⟩
         have both2:∀z∈l',∃y∈L,y.2.1=z.2.1:=fun z hz=>by
          have:(z.2.1,z.2.2.1)∈L.map fun x=>(x.2.1,x.2.2.1):=by rw[<- hll];exact aJ.mpr ⟨z,hz,rfl⟩
          obtain⟨y,hy,e⟩:=aJ.mp this
          exact⟨y,hy,(kS e).1⟩
         have inL:∀{b:Addr} {u:HO},H1 b=some u->∀y∈L,y.2.1≠b:=fun{b u} e y hy z=>by have:=(ol2 y hy).1;rw[z,e]at this;cases this
         have outT:∀{b:Addr} {u:HO},H' b=some u->(∀φ,u≠.ext φ)->∀y∈l',y.2.1≠b:=fun{b u} n ne y hy z=>by have:=(la y hy).2;rw[z,n]at this;cases this;exact ne _ rfl
         have un':Un (sw X.stack) [] H1 (mD l' H') s1.heap s'.heap:=by
          refine⟨fun b o q n hb hx=>?_,fun b o q n hb hx=>?_,fun b o q n hx=>?_,un.there,fun b xs q=>?_,fun b o u q=>?_,fun b ps q=>?_⟩
          ·by_cases hbL:∃y∈L,y.2.1=b
           ·obtain⟨y,hy,rfl⟩:=hbL
            obtain⟨z,hz,z1,z2⟩:=both1 y hy
            have g1:=(ol2 y hy).2.1
            rw[q]at g1;cases g1
            have g2:=(la z hz).1.2.1
            rw[z1,z2]at g2
            exact g2
           ·exact un.keep b o q (by rw[fZ fun y hy z=>hbL ⟨y,hy,z⟩];exact n) hb hx
          ·exact un.slot b o q (by rw[fZ fun y hy z=>noStk y hy (by rw[z];exact hb)];exact n) hb hx
          ·by_cases hbL:∃y∈L,y.2.1=b
           ·obtain⟨y,hy,rfl⟩:=hbL
            obtain⟨z,hz,z1,_⟩:=both1 y hy
            exact se ⟨z,hz,z1⟩
           ·exact j8 (un.free b o q (by rw[fZ fun y hy z=>hbL ⟨y,hy,z⟩];exact n) hx)
          ·have t:=un.tups b xs (by rw[fZ (inL q)];exact q)
           rw[iD (outT t (fun _ z=>by cases z))];exact t
          ·have t:=un.frzs b o u (by rw[fZ (inL q)];exact q)
           rw[iD (outT t (fun _ z=>by cases z))];exact t
          ·obtain⟨more,t⟩:=un.tbls b ps (by rw[fZ (inL q)];exact q)
           exact⟨more,by rw[iD (outT t (fun _ z=>by cases z))];exact t⟩
         have I3:bw X af σ (mD l' H') s':=I1.call' os' un' hokh bare fun b hb=>absurd hb (by simp)
         exact⟨v,_,I3,rv,q μ2 v _ p2 (x1.trans (xm.trans xh)) S2 r3⟩
      ·exact q.elim
     ·exact q.elim
    ·exact q.elim
   ·rw[t7]at q;exact q.elim
  ·exact q.elim
 ·rw[ax c]at q;exact q.elim⟩
end
def P':FE:=fun _ _=>.bad
theorem Qa{X:Cx}{e:Expr}:SE X e P':=⟨fun af s σ H Q I h=>by
 obtain⟨μ,ρ,st,l,h⟩:=h
 exact h.elim⟩
theorem rC{env:Env}:∀{ns:List (Str×NameKind)} {cs:List (Str×Addr)} {y:Str×Addr},y∈dh env ns cs->y∈cs\/∃x∈ns,x.1=y.1/\x.2=.free
 |[],cs,y,h=>.inl h
 |(n,k)::r,cs,y,h=>by
  unfold dh at h
  rcases rC h with h|⟨x,hx,e⟩
  ·by_cases hk:(k==NameKind.free)=true
   ·rw[aq hk]at h
    rcases aM.mp h with rfl|h
    ·exact .inr ⟨(n,k),a7,rfl,j_ hk⟩
    ·exact .inl h
   ·rw[ax hk]at h;exact .inl h
  ·exact .inr ⟨x,aH _ hx,e⟩
theorem IM{name q:Str}{pr:Arguments}{body:List Stmt}{sc:Scope}{xs:List Str}{m:Nat}(h:xs.length=m)(o:Obj)(ok:Ms name q pr body sc xs o):(lM o).length=m:=by
 obtain⟨cl,i9,pm,cd,ct,hx,_,rfl⟩:=ok
 rw[<- h,<- hx,ar];rfl
def Tf(a b:List (Str×NameKind)):Bool:=b.all fun x=>!(x.2==.free)||a.lookup x.1==some .cell
theorem zY{a b:List (Str×NameKind)}(h:Tf a b=true):∀x∈b,x.2=.free->a.lookup x.1=some .cell:=fun x hx e=>by
 have:=l7.mp h x hx
 rw[e]at this
 have t:(!(NameKind.free==NameKind.free)||a.lookup x.1==some .cell)=true:=this
 simpa using t
abbrev R4(name q:Str)(st:Stmt)(xs:List Str):Obj->Prop:=Ms name q (eK st) (ef st) (aI st) xs
section
variable{X:Cx}{name q:Str}{st:Stmt}{rest:List Stmt}{pos:Pos}{P c:Addr}{i j m:Nat}{xs:List Str}{g:Addr->Obj->FS}
theorem ER(rG:X.env.code=.ref c)(Rx:codeHdIn X.K c P=true)(hB:vS X.base X.mg)(ig:X.env.cells=cellsFrom m X.env.scope.names [])(hN:X.N.Nodup)
  (G8:∀f o,Mt X name q (eK st) (ef st) (aI st) o->SB X rest (g f o))
  (Rp:st=.FunctionDef name (eK st) (ef st) [] none [] (aI st) none name pos:=by rfl)
  (sv:Tf X.env.scope.names (aI st).names=true:=by first|rfl|kernel_rfl) (OH:(dh X.env (aI st).names []).map (·.1)=xs:=by rfl) (zq:P8 xs=true:=by first|rfl|kernel_rfl) (hq:qualnameIn X.env name name=q:=by rfl)
  (hi:X.N[i]?=some name:=by rfl) (hx:DA X.env.scope name:=by first|exact Or.inl rfl|exact Or.inr rfl) (hf:X.fn name=true\/X.env.scope.names.lookup name=some .local:=by exact .inl rfl)
  (TF:(eK st).defaults=[]:=by rfl) (OF:(eK st).kw_defaults=[]:=by rfl) (ha:annTrees (eK st) none X.env=[]:=by rfl) :
  SB X (st::rest) (uU (R4 name q st xs) j P pos q i g):=by
 have h1:=IJ (j:=j) (P:=P) (pos:=pos) (i:=i) (II (j:=j) (pos:=pos) rG Rx hB ig (zY sv) OH (zV zq) hq hN hi hx hf TF OF ha) G8
 rw[Rp]
 exact h1
variable{e:Expr}{es:List Expr}{p:Pos}{x:Str}{fs:FA}
theorem IN{k k' n:Nat}{F:List W->List al->R W}{o:Obj}{is:List Nat}(Fn:bK X.prog X.w X.K X.mg X.base k x n F)(hr:gB k' X.A)(hk:k<=k')(ok:Mt X name q (eK st) (ef st) (aI st) o)(ha:SA X (e::es) fs)
  (ig:X.env.cells=cellsFrom m X.env.scope.names []) (Tx:Paired (fun(i:Nat) (y:Str×Addr)=>X.N[i]?=some y.1) is (dh X.env (aI st).names []))
  (sv:Tf X.env.scope.names (aI st).names=true:=by first|rfl|kernel_rfl) (OH:(dh X.env (aI st).names []).map (·.1)=xs:=by rfl) (zq:P8 xs=true:=by first|rfl|kernel_rfl) (BZ:∀x,X.fn x=true:=by exact fun _=>rfl)
  (hg:Gl X x:=by rfl) (y8:(x==("__debug__":Str))=false:=by decide)
  (he:starEach (e::es) X.env=(false,eval e X.env)::starEach es X.env:=by rfl) (lq:(backTo pos (starEach es X.env)).any (·.1)=false:=by rfl):SE X (.Call (.Name x p) (e::es) [] pos) (x9 n F o is fs):=
 Mu Fn hr hk ok ha ig (zY sv) (by rw[OH];exact zV zq) Tx (fun y hy=>by
  rcases rC hy with h|⟨z,hz,e1,e2⟩
  ·exact absurd h (by simp)
  ·rw[<- e1];exact zY sv z hz e2) BZ hg y8 he lq
end
section
variable{X:Cx}{a:Expr}{fa:FE}{pos:Pos}
abbrev lO:=zN (fun _ _=>True) fun i j=>Builtin.bitOr i j
abbrev JW:=zN (fun _ _=>True) fun i j=>Builtin.bitXor i j
theorem nq:r6 X (binaryOp .BitOr) lO:=uh (vH O1) fun _ _ _=>trivial
theorem Mv:r6 X (binaryOp .BitXor) JW:=uh (vH LI) fun _ _ _=>trivial
def IP(fa:FE):FE:=fun ρ st=>(fa ρ st).bind fun x st=>match x with
 |.int i=>.ok (.int (Builtin.bitNot i)) st
 |_=>.bad
theorem Qb(ha:SE X a fa):SE X (.UnaryOp .Invert a pos) (IP fa):=⟨(Jx LK ha.h).imp fun σ H Q h=>by
 obtain⟨μ,ρ,st,l,h⟩:=h
 refine⟨μ,ρ,st,l,RK.bind h l fun μ1 st1 x v H1 p1 x1 l1 q1 h1=>?_⟩
 cases x with
 |int i=>have:=q1.intE;subst this;exact⟨i,rfl,h1 μ1 _ H1 (aj _) dD.refl l1.sto .int⟩
 |_=>exact h1.elim⟩
end
theorem i7(st x:List al)(k:Nat):(st++x)[st.length+k]?=x[k]?:=by rw[bZ (by omega)];congr 1;omega
theorem dS(st x:List al):(st++x)[st.length]?=x[0]?:=i7 st x 0
theorem lP(st x:List al)(k:Nat)(c:al):(st++x).set (st.length+k) c=st++x.set k c:=by rw[nG _ _ (by omega)];congr 2;omega
theorem eX(st x:List al)(c:al):(st++x).set st.length c=st++x.set 0 c:=lP st x 0 c
theorem bX{st x:List al}{n:Nat}{c:al}(h:st[n]?=some c):(st++x)[n]?=some c:=by
 rw[aW (ai.mp h).1];exact h
theorem zZ(st:List al)(ws:List W):ji st st ws=st:=by unfold ji;split<;>simp
theorem CQ{st x:List al}{ws:List W}(h:undWs st.length ws=true):ji st (st++x) ws=st:=by
 unfold ji
 rw[aq ⟨h,by simp,fun i hi=>.inl (aW hi)⟩]
 simp
theorem CU{st bu:List al}{ws:List W}(h:undWs st.length ws=false):ji st bu ws=bu:=by
 unfold ji
 rw[ax fun k=>by have:=k.1;rw[h]at this;cases this]
theorem sf{N:Nat}{body:FS}{ws:List W}{st bu:List al}{w:W}(h:body (ws.map some++List.replicate (N-ws.length) none) st=.rt w bu):dN N body ws st=.ok w (ji st bu [w]):=by
 unfold dN;rw[h]
theorem lQ{N:Nat}{body:FS}{ws:List W}{st:List al}{w:W}(h:body (ws.map some++List.replicate (N-ws.length) none) st=.rt w st):dN N body ws st=.ok w st:=by
 rw[sf h,zZ]
theorem x_{N:Nat}{body:FS}{ws:List W}{st x:List al}{w:W}(h:body (ws.map some++List.replicate (N-ws.length) none) st=.rt w (st++x))(hu:undWs st.length [w]=true):dN N body ws st=.ok w st:=by
 rw[sf h,CQ hu]
theorem ES{N:Nat}{body:FS}{ws:List W}{st x:List al}{k:Nat}(h:body (ws.map some++List.replicate (N-ws.length) none) st=.rt (.loc (st.length+k)) (st++x)):dN N body ws st=.ok (.loc (st.length+k)) (st++x):=by
 rw[sf h,CU (by simp[undWs,W.und])]
theorem tj{g g':FS}{ρ ρ':bW}{st bu:List al}(h:g ρ st=.nx ρ' bu):aT g g' ρ st=g' ρ' bu:=by unfold aT;rw[h]
theorem vX{fi:FI}{f:FG}{body:FS}{ρ:bW}{st bu:List al}{k:CC}(h:fi ρ st=.ok k bu):gC fi f body ρ st=sO f body k.2 k.1 ρ bu:=by unfold gC;rw[h];rfl
theorem p8{f:FG}{body:FS}{ck:Option (Nat×List W)}(I:Nat->bW->List al->Prop):∀{ws:List W} {ρ:bW} {st:List al} (i0:Nat),I i0 ρ st->(∀i ρ st,I i ρ st->jh st ck) ->
  (∀i w ρ st,ws[i]?=some w->I (i0+i) ρ st->∃ρ' ρ2 dw,f w ρ=some ρ'/\body ρ' st=.nx ρ2 dw/\I (i0+i+1) ρ2 dw) ->
  ∃ρ2 dw,sO f body ck ws ρ st=.nx ρ2 dw/\I (i0+ws.length) ρ2 dw
 |[],ρ,st,i0,h0,hc,hs=>⟨ρ,st,by unfold sO;rw[aq (hc _ _ _ h0)],h0⟩
 |w::ws,ρ,st,i0,h0,hc,hs=>by
  obtain⟨ρ',ρ2,dw,e1,e2,h1⟩:=hs 0 w ρ st rfl h0
  obtain⟨ρ3,jB,e3,h3⟩:=p8 I (ws:=ws) (ρ:=ρ2) (st:=dw) (i0+1) h1 hc fun i w ρ st hw hI=>by
   obtain⟨a,b,c,d,e,g⟩:=hs (i+1) w ρ st (by simpa using hw) (by rw[show i0+(i+1)=i0+1+i by omega];exact hI)
   exact⟨a,b,c,d,e,by rw[show i0+1+i+1=i0+(i+1)+1 by omega];exact g⟩
  refine⟨ρ3,jB,?_,by rw[de,show i0+(ws.length+1)=i0+1+ws.length by omega];exact h3⟩
  unfold sO
  rw[aq (hc _ _ _ h0),e1]
  simp only[e2]
  exact e3
theorem CV{t:FT}{g:FS}(I:Nat->bW->List al->Prop):∀(n:Nat) {ρ:bW} {st:List al},I n ρ st ->
  (∀n ρ st,I n ρ st->t ρ st=.ok false st\/(t ρ st=.ok true st/\∃ρ2 dw m,g ρ st=.nx ρ2 dw/\m<n/\I m ρ2 dw)) ->
  ∃m ρ2 dw,pj t g ρ st=.nx ρ2 dw/\I m ρ2 dw/\t ρ2 dw=.ok false dw:=by
 intro n ρ st h hs
 have key:∀(k n:Nat) (ρ:bW) (st:List al),n<k->I n ρ st->∃m ρ2 dw,fY t g k ρ st=.nx ρ2 dw/\I m ρ2 dw/\t ρ2 dw=.ok false dw:=by
  intro k
  induction k with
  |zero=>intro n _ _ h;exact absurd h (jH _)
  |succ k ih=>
   intro n ρ st hk hI
   rcases hs n ρ st hI with e|⟨e,ρ2,dw,m,e2,hm,h2⟩
   ·exact⟨n,ρ,st,by unfold fY;rw[e];rfl,hI,e⟩
   ·obtain⟨m',ρ3,jB,e3,h3⟩:=ih m ρ2 dw (by omega) h2
    exact⟨m',ρ3,jB,by unfold fY;rw[e];simp only[R.stmt_ok,h_,e2];exact e3,h3⟩
 obtain⟨m,ρ2,dw,e,h2⟩:=key (n+1) n ρ st (dB n) h
 exact⟨m,ρ2,dw,CD e (by simp),h2⟩
section
variable{ρ ρ':bW}{st st1 dw jB st4:List al}{fa fb fe fo fi:FE}{fs:FA}{t u:FT}{x y z w v:W}{ws xs zs:List W}{i j n m:Nat}{a b k:Bool}{g g':FS}
theorem d9(h:ρ[i]?=some (some w)):ah i ρ st=.ok w st:=by unfold ah;rw[h]
theorem cC:eC w ρ st=.ok w st:=rfl
theorem bQ{f:W->W->List al->R W}(h1:fa ρ st=.ok x st1)(h2:fb ρ st1=.ok y dw)(h3:f x y dw=.ok z jB):e2 f fa fb ρ st=.ok z jB:=by unfold e2;rw[h1];simp only[R.bind_ok];rw[h2];exact h3
theorem bG:aK ρ st=.ok [] st:=rfl
theorem aC(h1:fa ρ st=.ok x st1)(h2:fs ρ st1=.ok xs dw):ao fa fs ρ st=.ok (x::xs) dw:=by unfold ao;rw[h1];simp only[R.bind_ok];rw[h2];rfl
theorem Mw{ls:List (List Nat)}:Bb ls ρ st=.ok (ls.map W.str) st:=rfl
theorem p9(h1:fs ρ st=.ok ws st1)(h2:ws.length<=lB):mq fs ρ st=.ok (.tup ws) st1:=by unfold mq;rw[h1];simp only[R.bind_ok,oP];rw[aq h2]
theorem Bv(h1:fs ρ st=.ok ws st1)(h2:ws.length<=lB):nK fs ρ st=.ok (.loc st1.length) (st1++[.lst ws]):=by unfold nK;rw[h1];simp only[R.bind_ok,m9];rw[aq h2]
theorem cP{F:List W->List al->R W}(h1:fs ρ st=.ok ws st1)(h2:F ws st1=.ok w dw):cE F fs ρ st=.ok w dw:=by unfold cE;rw[h1];exact h2
theorem cR{F:List W->List al->R W}(h1:fs ρ st=.ok ws st1)(h2:F ws st1=.ok w dw)(hn:ws.length=n):da n F fs ρ st=.ok w dw:=by unfold da;rw[h1];simp only[R.bind_ok];rw[aq hn];exact h2
theorem cu(h:fa ρ st=.ok (.bl k) st1):dv fa ρ st=.ok k st1:=by unfold dv;rw[h];rfl
theorem mE(h1:t ρ st=.ok true st1)(h2:u ρ st1=.ok k dw):uf t u ρ st=.ok k dw:=by unfold uf;rw[h1];exact h2
theorem p_(h1:t ρ st=.ok false st1):uf t u ρ st=.ok false st1:=by unfold uf;rw[h1];rfl
theorem h9(h1:t ρ st=.ok false st1)(h2:u ρ st1=.ok k dw):t0 t u ρ st=.ok k dw:=by unfold t0;rw[h1];exact h2
theorem Bw(h1:t ρ st=.ok true st1):t0 t u ρ st=.ok true st1:=by unfold t0;rw[h1];rfl
theorem nQ(h1:t ρ st=.ok a st1)(h2:(!a)=k):wO t ρ st=.ok k st1:=by unfold wO;rw[h1,<- h2];rfl
theorem ou(h1:fa ρ st=.ok (.bl true) st1)(h2:fb ρ st1=.ok w dw):sJ fa fb ρ st=.ok w dw:=by unfold sJ;rw[h1];exact h2
theorem IQ(h1:fa ρ st=.ok (.bl false) st1):sJ fa fb ρ st=.ok (.bl false) st1:=by unfold sJ;rw[h1];rfl
theorem Qc(h1:fa ρ st=.ok (.bl a) st1)(h2:(!a)=k):Ic fa ρ st=.ok (.bl k) st1:=by unfold Ic;rw[h1,<- h2];rfl
theorem uY(h1:t ρ st=.ok true st1)(h2:fa ρ st1=.ok w dw):xD t fa fb ρ st=.ok w dw:=by unfold xD;rw[h1];exact h2
theorem uZ(h1:t ρ st=.ok false st1)(h2:fb ρ st1=.ok w dw):xD t fa fb ρ st=.ok w dw:=by unfold xD;rw[h1];exact h2
theorem jz{F:W->List W->List al->R W}(h1:fo ρ st=.ok x st1)(hl:lK st1 x=true)(h2:fs ρ st1=.ok ws dw)(h3:F x ws dw=.ok w jB):oR F fo fs ρ st=.ok w jB:=by unfold oR;rw[h1];simp only[R.bind_ok];rw[aq hl,h2];exact h3
theorem z9{F:W->List W->List al->R W}(h1:fo ρ st=.ok x st1)(hl:Ew x=true)(h2:fs ρ st1=.ok ws dw)(h3:F x ws dw=.ok w jB):Ex F fo fs ρ st=.ok w jB:=by unfold Ex;rw[h1];simp only[R.bind_ok];rw[aq hl,h2];exact h3
theorem fH(h:st[n]?=some (.lst ws)):lK st (.loc n)=true:=by simp only[lK,h]
theorem ya{q:Int}(h:fa ρ st=.ok (.int q) st1):uj fa ρ st=.ok (.int (-q)) st1:=by unfold uj;rw[h];rfl
theorem oT{T c:String}(h:fa ρ st=.ok x st1)(hx:x.ty=some c)(hk:Io c T=k):lL T fa ρ st=.ok (.bl k) st1:=by unfold lL;rw[h];simp only[R.bind_ok,hx,hk]
theorem ET(h:fa ρ st=.ok x st1)(hk:x.isNon=k):xE fa ρ st=.ok (.bl k) st1:=by unfold xE;rw[h,<- hk];rfl
theorem z_(h:fa ρ st=.ok x st1)(hk:(!x.isNon)=k):ke fa ρ st=.ok (.bl k) st1:=by unfold ke;rw[h,<- hk];rfl
theorem Mx:nL ρ st=.ok none st:=rfl
theorem My{q:Int}(h:fa ρ st=.ok (.int q) st1):ng fa ρ st=.ok (some q) st1:=by unfold ng;rw[h];rfl
theorem Mz{fl fh:FO}{l h:Option Int}(h1:fa ρ st=.ok x st1)(h2:fl ρ st1=.ok l dw)(h3:fh ρ dw=.ok h jB)(h4:Dw x l h jB=.ok w st4):Dx fa fl fh ρ st=.ok w st4:=by unfold Dx;rw[h1];simp only[R.bind_ok];rw[h2];simp only[R.bind_ok];rw[h3];exact h4
theorem bg(h:fe ρ st=.ok w st1):bE i fe ρ st=.nx (ρ.set i (some w)) st1:=by unfold bE;rw[h];rfl
theorem iU(h:fe ρ st=.ok w st1):gp fe ρ st=.nx ρ st1:=by unfold gp;rw[h];rfl
theorem Bx(h:fe ρ st=.ok w st1):cO fe ρ st=.rt w st1:=by unfold cO;rw[h];rfl
theorem JX{f:W->W->W->List al->Option (List al)}(h1:fe ρ st=.ok v st1)(h2:fo ρ st1=.ok x dw)(h3:fi ρ dw=.ok y jB)(h4:f x y v jB=some st4):Er fo fi fe f ρ st=.nx ρ st4:=by
 unfold Er;rw[h1];simp only[R.stmt_ok];rw[h2];simp only[R.stmt_ok];rw[h3];simp only[R.stmt_ok];rw[h4]
theorem gK{r:RS}(h1:t ρ st=.ok true st1)(h2:g ρ st1=r):gF t g g' ρ st=r:=by unfold gF;rw[h1];exact h2
theorem jA{r:RS}(h1:t ρ st=.ok false st1)(h2:g' ρ st1=r):gF t g g' ρ st=r:=by unfold gF;rw[h1];exact h2
theorem tm:b_ ρ st=.nx ρ st:=rfl
theorem JY{r:RS}(h:g ρ st=.nx ρ' st1)(h2:g' ρ' st1=r):aT g g' ρ st=r:=by rw[tj h];exact h2
theorem EU(h:g ρ st=.rt w st1):aT g g' ρ st=.rt w st1:=by unfold aT;rw[h]
theorem mF{p q:Int}:gA (.int p) (.int q) st=.ok (.int (p+q)) st:=rfl
theorem vY{p q:List Nat}(h:p.length+q.length<=lB):gA (.str p) (.str q) st=.ok (.str (p++q)) st:=by simp only[gA];rw[aq h]
theorem MA(h1:st[n]?=some (.lst ws))(h2:st[m]?=some (.lst xs))(h:(ws++xs).length<=lB):gA (.loc n) (.loc m) st=.ok (.loc st.length) (st++[.lst (ws++xs)]):=by
 unfold gA;simp only[h1,h2,m9];rw[aq h]
theorem gr{C:Int->Int->Prop}[∀i j,Decidable (C i j)]{f:Int->Int->Int}{p q:Int}(h:C p q):zN C f (.int p) (.int q) st=.ok (.int (f p q)) st:=by simp only[zN];rw[aq h]
theorem tq{p q:Int}(h:Ig p q):jl (.int p) (.int q) st=.ok (.int (p*q)) st:=by simp only[jl];rw[aq h]
theorem lR{f:Int->Int->Bool}{p q:Int}(h:f p q=k):Cu f (.int p) (.int q) st=.ok (.bl k) st:=by rw[<- h];rfl
theorem By{p q:Int}(h:decide (p<=q)=k):Ta (.int p) (.int q) st=.ok (.bl k) st:=by rw[<- h];rfl
theorem im{p q:Int}(h:(p==q)=k):gP (.int p) (.int q) st=.ok (.bl k) st:=by rw[<- h];rfl
theorem u0{p q:Int}(h:(!(p==q))=k):xG (.int p) (.int q) st=.ok (.bl k) st:=by rw[<- h];rfl
theorem JZ{p q:List Nat}(h:(p==q)=k):gP (.str p) (.str q) st=.ok (.bl k) st:=by rw[<- h];rfl
theorem oU{q:Int}(h:qw ws q=some w):bO (.tup ws) (.int q) st=.ok w st:=by unfold bO;simp only[h,eQ]
theorem kv(h:ρ[i]?=some (some w):=by rfl):ah i ρ st=.ok w st:=d9 h
theorem ox{q:Int}(h:qw ws q=some w:=by rfl):bO (.tup ws) (.int q) st=.ok w st:=oU h
theorem kn(h:ρ[i]?=some (some w):=by rfl):ao (ah i) aK ρ st=.ok [w] st:=aC (d9 h) bG
theorem kx{q:Int}(h:ρ[i]?=some (some (.tup ws)):=by rfl)(h2:qw ws q=some w:=by rfl):e2 bO (ah i) (eC (.int q)) ρ st=.ok w st:=bQ (d9 h) cC (oU h2)
theorem EV{l:List Nat}{q:Int}{c:Nat}(hl:l.length<=lB)(h:qw l q=some c):bO (.str l) (.int q) st=.ok (.str [c]) st:=by unfold bO;simp only[h,eQ];rw[aq hl]
theorem nR{q:Int}(hl:lstOf st n=some ws)(h:qw ws q=some w):bO (.loc n) (.int q) st=.ok w st:=by unfold bO;simp only[hl,h,eQ]
theorem qJ:e7 [.tup ws] st=.ok (.int ws.length) st:=rfl
theorem vZ{l:List Nat}(h:l.length<=lB):e7 [.str l] st=.ok (.int l.length) st:=by unfold e7;simp only;rw[aq h]
theorem pB(hl:lstOf st n=some ws):e7 [.loc n] st=.ok (.int ws.length) st:=by unfold e7;simp only[hl,eQ]
theorem bT(h:st[n]?=some (.lst ws)):lstOf st n=some ws:=by unfold lstOf;rw[h]
theorem sg(h:st[n]?=some (.ro ws)):lstOf st n=some ws:=by unfold lstOf;rw[h]
theorem lS(h:st[n]?=some (.lst ws))(hl:ws.length<lB):cy (.loc n) [y] st=.ok .non (st.set n (.lst (ws++[y]))):=by unfold cy;simp only[h];rw[aq hl]
theorem EW(h:st[n]?=some (.lst (ws++[y]))):pW (.loc n) [] st=.ok y (st.set n (.lst ws)):=by unfold pW;simp only[h];simp
theorem MB{q:Int}(h:st[n]?=some (.lst ws))(hi:DQ ws.length q=some j):Ep (.loc n) (.int q) v st=some (st.set n (.lst (ws.set j v))):=by unfold Ep;simp only[h,hi];rfl
theorem qK{sep:List Nat}{ls:List (List Nat)}(h:lstOf st n=some (ls.map W.str))(hl:(ls.map List.length).sum+ls.length*sep.length<=lB):nh (.str sep) [.loc n] st=.ok (.str (je sep ls)) st:=by
 unfold nh;simp only[h,eQ,uO];rw[aq hl]
theorem Qd{l h:Option Int}{z:List Nat}(hl:z.length<=lB):Dw (.str z) l h st=.ok (.str (oE z l h)) st:=by unfold Dw;simp only;rw[aq hl]
theorem Qe{l h:Option Int}:Dw (.tup ws) l h st=.ok (.tup (oE ws l h)) st:=rfl
theorem oy(h:fe ρ st=.ok (.tup ws) st1):eG fe ρ st=.ok (ws,none) st1:=by unfold eG;rw[h];rfl
theorem sh(h:fe ρ st=.ok (.loc n) st1)(hl:lstOf st1 n=some ws):eG fe ρ st=.ok (ws,some (n,ws)) st1:=by unfold eG;rw[h];simp only[R.bind_ok,hl]
theorem e_{q:Int}(h:fs ρ st=.ok [.int q] st1)(hq:-(2^62)<=q/\q<2^62):cn fs ρ st=.ok (ce 0 q.toNat,none) st1:=by unfold cn;rw[h];simp only[R.bind_ok];rw[aq hq]
theorem Aa{l:List W}{q:Nat}{x:W}(h:l.reverse[q]?=some x):qw l (-((q:Int)+1))=some x:=by
 have hq:q<l.length:=by have:=(ai.mp h).1;simpa using this
 unfold qw DQ
 rw[ax (by omega),aq (by omega)]
 rw[fx hq]at h
 simp only[Option.bind_some]
 rw[show((-((q:Int)+1))+(l.length:Int)).toNat=l.length-1-q by omega]
 exact h
theorem ic{α:Type}{l:List α}{q:Nat}{x:α}(h:l[q]?=some x):qw l (q:Int)=some x:=by
 have hq:q<l.length:=(ai.mp h).1
 unfold qw DQ
 rw[aq (by omega),aq (by omega)]
 simpa using h
def iP(P:RS->Prop)(r:RS):Prop:=P r
def Dy(I:bW->List al->Prop):RS->Prop:=fun r=>∃ρ st,r=.nx ρ st/\I ρ st
def wP(I:W->List al->Prop):RS->Prop:=fun r=>∃w st,r=.rt w st/\I w st
variable{P:RS->Prop}{rest:FS}
theorem cS{r r':RS}(h:r=r')(h2:P r'):iP P r:=by rw[h];exact h2
theorem aB(h:g ρ st=.nx ρ' st1)(h2:iP P (g' ρ' st1)):iP P (aT g g' ρ st):=by rw[tj h];exact h2
theorem nS(h1:t ρ st=.ok true st1)(h2:iP P (g ρ st1)):iP P (gF t g g' ρ st):=by rw[gK h1 rfl];exact h2
theorem kK(h1:t ρ st=.ok false st1)(h2:iP P (g' ρ st1)):iP P (gF t g g' ρ st):=by rw[jA h1 rfl];exact h2
theorem dy(h1:t ρ st=.ok true st1)(h2:iP P (aT g rest ρ st1)):iP P (aT (gF t g g') rest ρ st):=by
 unfold aT at h2 ⊢;rw[gK h1 rfl];exact h2
theorem a9(h1:t ρ st=.ok false st1)(h2:iP P (aT g' rest ρ st1)):iP P (aT (gF t g g') rest ρ st):=by
 unfold aT at h2 ⊢;rw[jA h1 rfl];exact h2
theorem u3{h:FS}(h2:iP P (aT g (aT g' h) ρ st)):iP P (aT (aT g g') h ρ st):=by
 unfold aT at h2 ⊢
 cases e:g ρ st<;>simp only[e]at h2 ⊢ <;> exact h2
theorem br(h2:iP P (rest ρ st)):iP P (aT b_ rest ρ st):=h2
theorem bM(h:fe ρ st=.ok w st1)(h2:P (.rt w st1)):iP P (cO fe ρ st):=by rw[Bx h];exact h2
theorem dz(h:fe ρ st=.ok w st1)(h2:P (.rt w st1)):iP P (aT (cO fe) rest ρ st):=by rw[EU (Bx h)];exact h2
theorem dH{fi:FI}{f:FG}{body:FS}{k:CC}(I:Nat->bW->List al->Prop)(h:fi ρ st=.ok k st1)(h0:I 0 ρ st1)(hc:∀i ρ st,I i ρ st->jh st k.2)
  (hs:∀i w ρ st,k.1[i]?=some w->I i ρ st->∃ρ',f w ρ=some ρ'/\iP (Dy (I (i+1))) (body ρ' st)) (he:∀ρ st,I k.1.length ρ st->iP P (rest ρ st)):iP P (aT (gC fi f body) rest ρ st):=by
 obtain⟨ρ2,dw,e,h2⟩:=p8 (f:=f) (body:=body) (ck:=k.2) I (ws:=k.1) (ρ:=ρ) (st:=st1) 0 h0 hc fun i w ρ st hw hI=>by
  rw[gk]at hI ⊢
  obtain⟨ρ',e1,ρ2,dw,e2,h2⟩:=hs i w ρ st hw hI
  exact⟨ρ',ρ2,dw,e1,e2,h2⟩
 rw[gk]at h2
 exact aB (by rw[vX h];exact e) (he _ _ h2)
theorem CW{body:FS}(I:Nat->bW->List al->Prop)(n:Nat)(h0:I n ρ st)
  (hs:∀n ρ st,I n ρ st->t ρ st=.ok false st\/(t ρ st=.ok true st/\iP (Dy fun ρ2 dw=>∃m,m<n/\I m ρ2 dw) (body ρ st))) (he:∀m ρ st,I m ρ st->t ρ st=.ok false st->iP P (rest ρ st)):iP P (aT (pj t body) rest ρ st):=by
 obtain⟨m,ρ2,dw,e,h2,h3⟩:=CV (t:=t) (g:=body) I n h0 fun n ρ st hI=>by
  rcases hs n ρ st hI with e|⟨e,ρ2,dw,e2,m,hm,h2⟩
  ·exact .inl e
  ·exact .inr ⟨e,ρ2,dw,m,e2,hm,h2⟩
 exact aB e (he _ _ _ h2 h3)
theorem qa{N:Nat}{body:FS}{Q:W->Prop}(h:iP (wP fun w bu=>(∃x,bu=st++x)/\undWs st.length [w]=true/\Q w) (body (ws.map some++List.replicate (N-ws.length) none) st)):∃w,Q w/\dN N body ws st=.ok w st:=by
 obtain⟨w,bu,e,⟨x,rfl⟩,hu,q⟩:=h
 exact⟨w,q,x_ e hu⟩
theorem hJ{N:Nat}{body:FS}(h:iP (wP fun w' bu=>w'=w/\∃x,bu=st++x) (body (ws.map some++List.replicate (N-ws.length) none) st))(hu:undWs st.length [w]=true):dN N body ws st=.ok w st:=by
 obtain⟨w,bu,e,rfl,x,rfl⟩:=h
 exact x_ e hu
theorem oz{N:Nat}{body:FS}{Q:Nat->List al->Prop}(h:iP (wP fun w bu=>∃j x,w=.loc (st.length+j)/\bu=st++x/\Q j x) (body (ws.map some++List.replicate (N-ws.length) none) st)):∃j x,Q j x/\dN N body ws st=.ok (.loc (st.length+j)) (st++x):=by
 obtain⟨w,bu,e,j,x,rfl,rfl,q⟩:=h
 exact⟨j,x,q,ES e⟩
theorem gT{q i:Nat}{lo:Int}{w:W}(h:(ce lo q)[i]?=some w):i<q/\w=.int (lo+i):=by
 unfold ce at h
 obtain⟨h1,h2⟩:=ai.mp h
 simp only[ar,kR]at h1
 exact⟨h1,by rw[<- h2];simp⟩
theorem v0{α:Type}{l:List α}{q:Nat}(h:q<=l.length):oE l none (some (q:Int))=l.take q:=by
 unfold oE;rw[HT.sIx_none,HT.sIx_nat,ny h];simp
theorem v3{α:Type}{l:List α}{q:Nat}(h:q<=l.length):oE l (some (q:Int)) none=l.drop q:=by
 unfold oE;rw[HT.sIx_none,HT.sIx_nat,ny h];rw[bz (by simp)]
theorem si{q:Int}{n:Nat}(h:0<n):∃m:Nat,m<n/\q%(n:Int)=m:=by
 have h0:0<=q%(n:Int):=gy _ (by omega)
 have h1:q%(n:Int)<n:=ik _ (by omega)
 exact⟨(q%(n:Int)).toNat,by omega,by omega⟩
end
section
variable{ρ:bW}{st st1:List al}{t u:FT}{a b k:Bool}{P:RS->Prop}{g g' rest:FS}{w:W}{ws:List W}
theorem MC(h1:t ρ st=.ok a st)(h2:u ρ st=.ok b st):uf t u ρ st=.ok (a&&b) st:=by cases a;exact p_ h1;exact mE h1 h2
theorem MD(h1:t ρ st=.ok a st)(h2:u ρ st=.ok b st):t0 t u ρ st=.ok (a||b) st:=by cases a;exact h9 h1 h2;exact Bw h1
theorem ME(h1:t ρ st=.ok a st):wO t ρ st=.ok (!a) st:=nQ h1 rfl
theorem db{N:Nat}{body:FS}(h:iP (wP fun w' bu=>w'=w/\bu=st) (body (ws.map some++List.replicate (N-ws.length) none) st)):dN N body ws st=.ok w st:=by
 obtain⟨w,bu,e,rfl,rfl⟩:=h
 exact lQ e
end
end L2
open L2
local macro_rules | `(tactic| walk_at "ev1") => `(tactic| first
 | (with_reducible apply d9) <;> rfl
 | (with_reducible apply oU) <;> rfl
 | with_reducible first
  | exact cC | exact bG | exact Mw | exact Mx | exact mF | exact qJ | exact tm | exact Qe
  | apply bQ | apply aC | apply p9 | apply Bv | apply cP | apply cR | apply cu | apply nQ | apply Qc
  | apply jz | apply z9 | apply ya | apply oT | apply ET | apply z_ | apply My | apply Mz | apply bg | apply iU | apply Bx | apply JX
  | apply gr | apply tq | apply lR | apply By | apply im | apply u0 | apply JZ | apply vY
 | decide
 | (show List.length _ <= lB; exact bC rfl)
 | (show @Eq Nat _ _; exact rfl)
 | (show @Eq Bool _ _; exact rfl)
 | (show @Eq (Option String) _ _; exact rfl)
 | (show @Eq _ _ _; with_reducible assumption))
local macro_rules | `(tactic| walk_at "evs") => `(tactic| repeat' walk_at "ev1")
local macro_rules | `(tactic| walk_at "tst") => `(tactic| first
 | (walk_at "evs"; done)
 | (apply p_; (focus walk_at "tst"); done)
 | (apply mE; (focus walk_at "tst"); (focus walk_at "tst"); done)
 | (apply Bw; (focus walk_at "tst"); done)
 | (apply h9; (focus walk_at "tst"); (focus walk_at "tst"); done))
local macro_rules | `(tactic| walk_at "go1") => `(tactic| first
 | apply br
 | (apply dz; (focus (walk_at "evs"; done)))
 | (apply bM; (focus (walk_at "evs"; done)))
 | (apply dy; (focus walk_at "tst"))
 | (apply a9; (focus walk_at "tst"))
 | (apply nS; (focus walk_at "tst"))
 | (apply kK; (focus walk_at "tst"))
 | (apply aB; (focus (walk_at "evs"; done))))
local macro_rules | `(tactic| walk_at "go") => `(tactic| repeat walk_at "go1")
local macro_rules | `(tactic| walk_at "tb") => `(tactic| repeat' (first | with_reducible apply MC | with_reducible apply MD | with_reducible apply ME | walk_at "ev1"))
local macro_rules | `(tactic| walk_at "len") => `(tactic| (simp only [aL, de, ia]; show _ <= 1000000; omega))
namespace L2
open PySem PySem.Spec PyProof.Rows
section
variable{ρ ρ' ρ2:bW}{st st1 dw:List al}{fa fe:FE}{fs:FA}{g gh rest:FS}{ws:List W}{w:W}{n i:Nat}{c:Str}{cs:List Str}{P:RS->Prop}{b:Bool}
theorem Qf{p q:Bool}(h:(p==q)=b):gP (.bl p) (.bl q) st=.ok (.bl b) st:=by rw[<- h];rfl
theorem i8(I:bW->List al->Prop)(h:iP (Dy I) (g ρ st))(h2:∀ρ st,I ρ st->iP P (rest ρ st)):iP P (aT g rest ρ st):=by
 obtain⟨ρ',bu,e,hi⟩:=h
 exact aB e (h2 _ _ hi)
end
section
variable{ρ:bW}{st st1:List al}{fi:FI}{f:FG}{t:FT}{el:FE}{cap:List (Option Nat)}
theorem yb{ck:Option (Nat×List W)}{ρ0:bW}(hc:jh st ck)(T:W->Bool)(Y:W->W):∀(ws jt:List W),(∀w∈ws,∃ρ',f w ρ0=some ρ'/\t ρ' st=.ok (T w) st/\(T w=true->el ρ' st=.ok (Y w) st)) ->
  ni f t el ck ρ0 ws jt st=.ok (jt++(ws.filter T).map Y) st
 |[],jt,_=>by unfold ni;rw[aq hc];simp
 |w::ws,jt,h=>by
  obtain⟨ρ',e1,e2,e3⟩:=h w (by simp)
  have ih:=fun jt=>yb hc T Y ws jt fun w' hw'=>h w' (by simp[hw'])
  unfold ni
  rw[aq hc,e1]
  simp only[e2]
  cases hT:T w with
  |true=>
   simp only[e3 hT]
   rw[ih]
   simp[gX,hT]
  |false=>
   simp only
   rw[ih]
   simp[gX,hT]
theorem pD{ws:List W}{ck:Option (Nat×List W)}(T:W->Bool)(Y:W->W)(h:fi ρ st=.ok (ws,ck) st1)(hl:ws.length<=lB)(hc:jh st1 ck)
  (hs:∀w∈ws,∃ρ',f w (oG cap ρ)=some ρ'/\t ρ' st1=.ok (T w) st1/\(T w=true->el ρ' st1=.ok (Y w) st1)):hX cap fi f t el ρ st=.ok (.loc st1.length) (st1++[.lst ((ws.filter T).map Y)]):=by
 unfold hX
 rw[h]
 simp only[R.bind_ok]
 rw[aq hl,yb hc T Y ws [] hs]
 simp only[R.bind_ok,jJ,m9]
 rw[aq]
 rw[ar]
 exact bh (fy _ _) hl
theorem v5{ws:List W}{ck:Option (Nat×List W)}(Y:W->W)(h:fi ρ st=.ok (ws,ck) st1)(hl:ws.length<=lB)(hc:jh st1 ck)
  (hs:∀w∈ws,∃ρ',f w (oG cap ρ)=some ρ'/\el ρ' st1=.ok (Y w) st1):hX cap fi f qE el ρ st=.ok (.loc st1.length) (st1++[.lst (ws.map Y)]):=by
 have:=pD (fi:=fi) (f:=f) (t:=qE) (el:=el) (cap:=cap) (fun _=>true) Y h hl hc fun w hw=>by
  obtain⟨ρ',e1,e2⟩:=hs w hw
  exact⟨ρ',e1,rfl,fun _=>e2⟩
 rw[jQ.mpr (fun _ _=>rfl)]at this
 exact this
theorem io{q:Nat}{lo:Int}{w:W}(h:w∈ce lo q):∃i:Nat,i<q/\w=.int (lo+i):=by
 unfold ce at h
 obtain⟨i,hi,rfl⟩:=aJ.mp h
 exact⟨i,f7.mp hi,rfl⟩
theorem lh{n:Nat}{ws:List W}(h:lstOf st n=some ws):hG [.loc n] st=.ok (.tup ws) st:=by unfold hG;simp only[h,eQ]
theorem MF{ws xs:List W}(h:(ws++xs).length<=lB):gA (.tup ws) (.tup xs) st=.ok (.tup (ws++xs)) st:=by simp only[gA,oP];rw[aq h]
theorem Qg{p q:Int}:Cz [.int p,.int q] st=.ok (.int (if q>p then q else p)) st:=rfl
end
def rD:Nat->List jm->List jm
 |_,[]=>[]
 |n,(_,c,o,w)::l=>(n,c,o,w)::rD (n+1) l
def Bz(l:List jm):List al:=l.map fun _=>.gone
theorem BA{α:Type}(a b:List α)(x y:α):(a++x::b).set a.length y=a++y::b:=by
 rw[nG _ _ (ay _),qt];rfl
theorem BB{α:Type}(a b:List α)(x:α):(a++x::b)[a.length]?=some x:=by rw[bZ (ay _),qt];rfl
theorem pE:∀(l:List jm) (a b:List al),p7 (List.range' a.length l.length) (a++(il l++b))=some (rD a.length l,a++(Bz l++b))
 |[],a,b=>rfl
 |(j,c,o,w)::l,a,b=>by
  show p7 (List.range' a.length (l.length+1)) (a++(.pin true c o w::(il l++b)))=_
  rw[me]
  unfold p7
  rw[BB,BA]
  have ih:=pE l (a++[.gone]) b
  rw[aL,bj,bj]at ih
  have ih:p7 (List.range' (a.length+1) l.length) (a++(.gone::(il l++b)))=some (rD (a.length+1) l,a++(.gone::(Bz l++b))):=ih
  simp only[ih]
  rfl
theorem u4:∀(l:List jm) (a b:List al),zW (rD a.length l) (a++(Bz l++b))=some (a++(il l++b))
 |[],a,b=>rfl
 |(j,c,o,w)::l,a,b=>by
  show zW ((a.length,c,o,w)::rD (a.length+1) l) (a++(.gone::(Bz l++b)))=_
  unfold zW
  rw[BB,BA]
  have ih:=u4 l (a++[.pin true c o w]) b
  rw[aL,bj,bj]at ih
  exact ih
theorem oA{α:Type}(f:Addr×Obj×W->α):∀(n:Nat) (l:List jm),((rD n l).map fun x=>f x.2)=l.map fun x=>f x.2
 |_,[]=>rfl
 |n,(j,c,o,w)::l=>by show f (c,o,w)::_=f (c,o,w)::_;rw[oA f (n+1) l]
def iQ(st:List al):Prop:=∀d∈st,∀c,nP c d=false
theorem u5:∀(l:List jm) (a b:List al),(∀d∈a,∀x∈l,nP x.2.1 d=false)->(l.map fun x=>x.2.1).Nodup->(l.map fun x=>(((a++(il l++b))).findIdx? (nP x.2.1)).getD 0)=List.range' a.length l.length
 |[],a,b,_,_=>rfl
 |(j,c,o,w)::l,a,b,hn,nd=>by
  rw[aN,bP]at nd
  show((a++(.pin true c o w::(il l++b))).findIdx? (nP c)).getD 0::(l.map fun x=>((a++(.pin true c o w::(il l++b))).findIdx? (nP x.2.1)).getD 0)=List.range' a.length (l.length+1)
  rw[me]
  have h1:(a++(.pin true c o w::(il l++b))).findIdx? (nP c)=some a.length:=by
   rw[List.findIdx?_append,kz.mpr fun x hx=>by simp[hn x hx (j,c,o,w) a7]]
   rw[List.findIdx?_cons,show nP c (.pin true c o w)=true from gY _];simp
  rw[h1]
  have ih:=u5 l (a++[.pin true c o w]) b (fun d hd x hx=>by
   rcases bB.mp hd with hd|hd
   ·exact hn d hd x (aH _ hx)
   ·rw[be.mp hd]
    show(c==x.2.1)=false
    rw[bd];intro z;exact nd.1 (aJ.mpr ⟨x,hx,z.symm⟩)) nd.2
  rw[aL,bj]at ih
  have ih:(l.map fun x=>((a++(.pin true c o w::(il l++b))).findIdx? (nP x.2.1)).getD 0)=List.range' (a.length+1) l.length:=ih
  rw[ih];rfl
theorem EX{ok:Obj->Prop}{F:List W->List al->R W}{m:Nat}{ws:List W}{a b:List al}{l:List jm}{f:Addr}{o:Obj}{w0 v:W}(hm:(a++(il l++b))[m]?=some (.pin false f o w0))(ho:ok o)(hc:(lM o).map (·.2)=l.map fun x=>x.2.1)(nd:(l.map fun x=>x.2.1).Nodup)(hn:iQ a)
  (hF:∀s,F (ws++l.map fun x=>x.2.2.2) s=.ok v s):tf ok F m ws (a++(il l++b))=.ok v (a++(il l++b)):=by
 have e1:((lM o).map fun y=>((a++(il l++b)).findIdx? (nP y.2)).getD 0)=List.range' a.length l.length:=by
  rw[<- u5 l a b (fun d hd x _=>hn d hd _) nd]
  have:∀(g:Addr->Nat),(lM o).map (fun y=>g y.2)=l.map fun x=>g x.2.1:=fun g=>by
   have:=cM (List.map g) hc
   rw[a8,a8]at this;exact this
  exact this fun c=>((a++(il l++b)).findIdx? (nP c)).getD 0
 unfold tf
 rw[hm]
 simp only
 rw[aq ho,e1,pE]
 simp only
 have e2:((rD a.length l).map fun x=>x.2.1)=l.map fun x=>x.2.1:=oA (fun y=>y.1) _ _
 have e3:((rD a.length l).map fun x=>x.2.2.2)=l.map fun x=>x.2.2.2:=oA (fun y=>y.2.2) _ _
 rw[aq (by rw[e2,hc]),e3,hF]
 simp only[u4]
theorem u6{st x:List al}{ws:List W}(h:undWs st.length ws=true):ji st (st++x) ws=st:=by
 unfold ji
 rw[aq ⟨h,by simp,fun i hi=>.inl (by rw[aW hi])⟩]
 simp
theorem EY{C:List (Str×Addr)}{os:List Obj}{cws:List W}(h1:os.length=C.length)(h2:cws.length=C.length):(lN C os cws).length=C.length:=by
 induction C generalizing os cws with
 |nil=>cases os with
  |nil=>cases cws with
   |nil=>rfl
   |cons w ws=>simp at h2
  |cons o os=>simp at h1
 |cons y C ih=>cases os with
  |nil=>simp at h1
  |cons o os=>cases cws with
   |nil=>simp at h2
   |cons w ws=>
    have e:=ih (os:=os) (cws:=ws) (by simpa using h1) (by simpa using h2)
    show(lN C os ws).length+1=C.length+1
    rw[e]
theorem MG{C:List (Str×Addr)}{os:List Obj}{cws:List W}(h1:os.length=C.length)(h2:cws.length=C.length):((lN C os cws).map fun x=>x.2.1)=C.map (·.2):=by
 induction C generalizing os cws with
 |nil=>cases os with
  |nil=>cases cws with
   |nil=>rfl
   |cons w ws=>simp at h2
  |cons o os=>simp at h1
 |cons y C ih=>cases os with
  |nil=>simp at h1
  |cons o os=>cases cws with
   |nil=>simp at h2
   |cons w ws=>
    have e:=ih (os:=os) (cws:=ws) (by simpa using h1) (by simpa using h2)
    show y.2::((lN C os ws).map fun x=>x.2.1)=y.2::C.map (·.2)
    rw[e]
theorem MH{C:List (Str×Addr)}{os:List Obj}{cws:List W}(h1:os.length=C.length)(h2:cws.length=C.length):((lN C os cws).map fun x=>x.2.2.2)=cws:=by
 induction C generalizing os cws with
 |nil=>cases os with
  |nil=>cases cws with
   |nil=>rfl
   |cons w ws=>simp at h2
  |cons o os=>simp at h1
 |cons y C ih=>cases os with
  |nil=>simp at h1
  |cons o os=>cases cws with
   |nil=>simp at h2
   |cons w ws=>
    have e:=ih (os:=os) (cws:=ws) (by simpa using h1) (by simpa using h2)
    show w::((lN C os ws).map fun x=>x.2.2.2)=w::ws
    rw[e]
theorem IR{F:List W->List al->R W}{o:Obj}{cws ws:List W}{st:List al}{w:W}(hl:cws.length=(lM o).length)(hu:undWs st.length [w]=true)
  (hF:∀os:List Obj,os.length=(lM o).length->F ws (st++(il (lN (lM o) os cws)++[]))=.ok w (st++(il (lN (lM o) os cws)++[]))):CP F o cws ws st=.ok w st:=by
 unfold CP
 refine EN (List.replicate (lM o).length { cls:=.none,data:=.cell none }) (by simp) fun os ho=>?_
 have e:=hF os ho
 unfold Bu
 rw[cI]at e
 rw[e]
 simp only
 have h:=pE (lN (lM o) os cws) st []
 rw[EY ho hl,cI,cI]at h
 rw[h]
 simp only
 rw[aq (oA (fun y=>(y.1,y.2.1)) _ _),u6 hu]
theorem MI(name q:Str)(pr:Arguments)(body:List Stmt)(sc:Scope)(xs:List Str):∃o,Ms name q pr body sc xs o:=by
 refine⟨_,xs.zip (List.range xs.length),.none,.none,0,.none,?_,?_,rfl⟩
 ·exact List.map_fst_zip (by simp)
 ·rw[List.map_snd_zip (by simp)];exact List.nodup_range
theorem EZ{name q:Str}{st:Stmt}{xs:List Str}{j i:Nat}{P:Addr}{pos:Pos}{g:Addr->Obj->FS}{ρ:bW}{s:List al}{w:W}(ht:xX s j P pos q)(hu:undWs s.length [w]=true)
  (h:∀f o,R4 name q st xs o->∃x,g f o (ρ.set i (some (.loc s.length))) (s++[.pin false f o .non])=.rt w (s++x)):uU (R4 name q st xs) j P pos q i g ρ s=.rt w s:=by
 obtain⟨o0,h0⟩:=MI name q (eK st) (ef st) (aI st) xs
 unfold uU
 rw[aq ht]
 refine IH (0,o0) h0 fun p hp=>?_
 obtain⟨x,e⟩:=h p.1 p.2 hp
 rw[e]
 show RS.rt w (ji s (s++x) [w])=_
 rw[u6 hu]
theorem IS{i n m:Nat}{ok:Obj->Prop}{F:List W->List al->R W}{fs:FA}{ρ:bW}{st st1:List al}{ws:List W}{f:Addr}{o:Obj}{w0 v:W}(hi:ρ[i]?=some (some (.loc m)))(hm:st[m]?=some (.pin false f o w0))(ha:fs ρ st=.ok ws st1)(hl:ws.length=n)(h:tf ok F m ws st1=.ok v st1) :
  pA i n ok F fs ρ st=.ok v st1:=by
 unfold pA
 rw[hi];simp only
 rw[hm];simp only
 rw[ha];simp only[R.bind_ok]
 rw[aq hl,h]
theorem MJ{n:Nat}{F:List W->List al->R W}{o:Obj}{is:List Nat}{fs:FA}{ρ:bW}{st st1:List al}{ws cws:List W}{w:W}(ha:fs ρ st=.ok ws st1)(hl:ws.length=n)(hc:uX is ρ=some cws)(h:CP F o cws ws st1=.ok w st1):x9 n F o is fs ρ st=.ok w st1:=by
 unfold x9
 rw[ha];simp only[R.bind_ok]
 rw[aq hl,hc];simp only
 rw[h]
end L2
namespace P
open PySem L2
open PyProof.Rows (boot_sorted boot_set boot_ord boot_all boot_enumerate boot_int boot_str boot_bool boot_list boot_tuple boot_isinstance boot_max boot_min boot_zip)
def lj(i:Nat):Stmt:=PySem.Challenge.pw_trunksay_k20_bases_say_it.main.body.getD i (.Pass ⟨0,0,0,0⟩)
abbrev MK:Stmt:=lj 1
abbrev Ab:List Str:=["letters"]
abbrev Qh:List Str:=["letters"]
theorem Qi:bn Ab Qh (aI MK):=lc
abbrev ML:Stmt:=lj 2
abbrev E0:List Str:=["exponent","power","each"]
abbrev Qj:List Str:=["exponent"]
theorem BC:bn E0 Qj (aI ML):=lc
abbrev MM:Stmt:=lj 3
abbrev yd:List Str:=["names","marks","number","name"]
abbrev Ql:List Str:=["names","marks"]
theorem yf:bn yd Ql (aI MM):=lc
abbrev MN:Stmt:=lj 4
abbrev Ac:List Str:=["names","number","marks","rest","name"]
abbrev Qm:List Str:=["names","number"]
theorem u7:bn Ac Qm (aI MN):=lc
abbrev MO:Stmt:=lj 6
abbrev Ad:List Str:=["letters","rooms","lead","table","letter","leads","left"]
abbrev Qn:List Str:=["letters","rooms","lead"]
theorem yg:bn Ad Qn (aI MO):=lc
abbrev MP:Stmt:=lj 10
abbrev Ae:List Str:=["statement"]
abbrev Qo:List Str:=["statement"]
theorem Qp:bn Ae Qo (aI MP):=lc
abbrev MQ:Stmt:=lj 11
abbrev Af:List Str:=["statement"]
abbrev Qq:List Str:=["statement"]
theorem Qr:bn Af Qq (aI MQ):=lc
abbrev MR:Stmt:=lj 12
abbrev Ag:List Str:=["statement","names","inner"]
abbrev MS:List Str:=["statement"]
theorem BD:bn Ag MS (aI MR):=lc
abbrev MT:Stmt:=lj 14
abbrev CY:List Str:=["left","right","first","second"]
abbrev Qs:List Str:=["left","right","first","second"]
theorem Qt:bn CY Qs (aI MT):=lc
abbrev MU:Stmt:=lj 15
abbrev Ah:List Str:=["left","right","first","many"]
abbrev Qu:List Str:=["left","right","first"]
theorem J0:bn Ah Qu (aI MU):=lc
abbrev E1:Stmt:=lj 16
abbrev yh:List Str:=["near","far","first","second"]
abbrev J1:List Str:=["near","far","first","second"]
theorem MV:bn yh J1 (aI E1):=lc
abbrev E2:Stmt:=lj 17
abbrev v6:List Str:=["left","right","first","second"]
abbrev J2:List Str:=["left","right","first","second"]
theorem MW:bn v6 J2 (aI E2):=lc
abbrev E3:Stmt:=lj 18
abbrev yi:List Str:=["statement","marks","left","right","word","first","second"]
abbrev J3:List Str:=["statement","marks","left","right"]
theorem v7:bn yi J3 (aI E3):=lc
abbrev tu:Stmt:=lj 19
abbrev CZ:List Str:=["statement","names","rooms","good_room","good","lead"]
abbrev J4:List Str:=["statement"]
theorem qL:bn CZ J4 (aI tu):=lc
abbrev E4:Stmt:=lj 21
abbrev Ai:List Str:=["place"]
abbrev J5:List Str:=["place"]
theorem MX:bn Ai J5 (aI E4):=lc
abbrev E5:Stmt:=lj 22
abbrev yj:List Str:=["place"]
abbrev J6:List Str:=["place"]
theorem MY:bn yj J6 (aI E5):=lc
abbrev E6:Stmt:=lj 23
abbrev Aj:List Str:=["tree","links","tops","number","place","right","left"]
abbrev J7:List Str:=["tree"]
theorem pF:bn Aj J7 (aI E6):=lc
abbrev E7:Stmt:=lj 25
abbrev v8:List Str:=["rooms","number"]
abbrev J8:List Str:=["rooms","number"]
theorem MZ:bn v8 J8 (aI E7):=lc
abbrev E8:Stmt:=lj 26
abbrev C0:List Str:=["machine","marks","pair","rooms","leads"]
abbrev J9:List Str:=["machine","marks","pair","rooms"]
theorem E9:bn C0 J9 (aI E8):=lc
abbrev E_:Stmt:=lj 27
abbrev Ak:List Str:=["machine","tree","rooms","place","pair"]
abbrev J_:List Str:=["machine","tree"]
theorem v9:bn Ak J_ (aI E_):=lc
abbrev Fa:Stmt:=lj 28
abbrev C1:List Str:=["machine","tree"]
abbrev J':List Str:=["machine","tree"]
theorem M0:bn C1 J' (aI Fa):=lc
abbrev Fb:Stmt:=lj 29
abbrev C2:List Str:=["machine","tree"]
abbrev Ka:List Str:=["machine","tree"]
theorem M1:bn C2 Ka (aI Fb):=lc
abbrev Fc:Stmt:=lj 31
abbrev v_:List Str:=["_law_links_here","_law_found","_law_left","_law_right","_law_below"]
abbrev Kb:List Str:=["_law_links_here"]
theorem pG:bn v_ Kb (aI Fc):=lc
abbrev Fd:Stmt:=lj 32
abbrev wa:List Str:=["_law_cell_here","_law_k","_law_salt","_law_first"]
abbrev Kc:List Str:=["_law_cell_here","_law_k","_law_salt"]
theorem Fe:bn wa Kc (aI Fd):=lc
abbrev Ff:Stmt:=lj 33
abbrev wb:List Str:=["_law_cell_here","_law_many","_law_salt","_law_found","_law_rest","_law_k"]
abbrev Kd:List Str:=["_law_cell_here","_law_many","_law_salt"]
theorem qM:bn wb Kd (aI Ff):=lc
abbrev Fg:Stmt:=lj 34
abbrev yk:List Str:=["_law_script","_law_k"]
abbrev Ke:List Str:=["_law_script","_law_k"]
theorem M3:bn yk Ke (aI Fg):=lc
abbrev Fh:Stmt:=lj 35
abbrev tw:List Str:=["_law_draws_here","_law_letters","_law_word","_law_a","_law_b"]
abbrev Kf:List Str:=["_law_draws_here"]
theorem qN:bn tw Kf (aI Fh):=lc
abbrev Fi:Stmt:=lj 36
abbrev ym:List Str:=["_law_cell_here","_law_many","_law_salt","_law_rest","_law_found","_law_d","_law_at"]
abbrev Kg:List Str:=["_law_cell_here","_law_many","_law_salt"]
theorem pH:bn ym Kg (aI Fi):=lc
abbrev Fj:Stmt:=lj 37
abbrev wc:List Str:=["_law_pool_here","_law_number"]
abbrev Kh:List Str:=["_law_pool_here","_law_number"]
theorem M4:bn wc Kh (aI Fj):=lc
abbrev Fk:Stmt:=lj 38
abbrev yn:List Str:=["_law_draws_here","_law_marks_here","_law_letters","_law_found","_law_high","_law_d","_law_branches"]
abbrev Ki:List Str:=["_law_draws_here","_law_marks_here","_law_letters"]
theorem nT:bn yn Ki (aI Fk):=lc
abbrev Fl:Stmt:=lj 39
abbrev ul:List Str:=["_law_script","_law_at","_law_many","_law_salt","_law_found","_law_k"]
abbrev Kj:List Str:=["_law_script","_law_at","_law_many","_law_salt"]
theorem we:bn ul Kj (aI Fl):=lc
abbrev Fm:Stmt:=lj 40
abbrev wf:List Str:=["_law_script","_law_at","_law_letters","_law_head","_law_many","_law_draws_here"]
abbrev Kk:List Str:=["_law_script","_law_at","_law_letters"]
theorem tz:bn wf Kk (aI Fm):=lc
abbrev Fp:Stmt:=lj 41
abbrev wg:List Str:=["_law_tree","_law_heap","_law_found","_law_k","_law_left","_law_right"]
abbrev Kl:List Str:=["_law_tree"]
theorem nU:bn wg Kl (aI Fp):=lc
abbrev Fq:Stmt:=lj 42
abbrev yo:List Str:=["_law_tree","_law_found","_law_k","_law_letter_here"]
abbrev Km:List Str:=["_law_tree"]
theorem wj:bn yo Km (aI Fq):=lc
abbrev Fs:Stmt:=lj 43
abbrev tD:List Str:=["_law_tree","_law_letter_here","_law_bits","_law_found","_law_k","_law_signs"]
abbrev Kn:List Str:=["_law_tree","_law_letter_here","_law_bits"]
theorem wl:bn tD Kn (aI Fs):=lc
abbrev Ft:Stmt:=lj 44
abbrev wm:List Str:=["_law_said","_law_links_here","_law_under_here","_law_worn_here","_law_first","_law_other","_law_reach_here","_law_k"]
abbrev Ko:List Str:=["_law_said","_law_links_here","_law_under_here","_law_worn_here"]
theorem mG:bn wm Ko (aI Ft):=lc
abbrev Fu:Stmt:=lj 45
abbrev yp:List Str:=["_law_machine","_law_names","_law_good","_law_truth","_law_rows","_law_row","_law_room"]
abbrev Kp:List Str:=["_law_machine","_law_names"]
theorem qQ:bn yp Kp (aI Fu):=lc
abbrev Fv:Stmt:=lj 46
abbrev yq:List Str:=["_law_found","_law_due","_law_k"]
abbrev Fw:List Str:=["_law_found","_law_due"]
theorem Fx:bn yq Fw (aI Fv):=lc
abbrev Fy:Stmt:=lj 47
abbrev um:List Str:=["_law_names","_law_marks_here","_law_found","_law_name"]
abbrev Kq:List Str:=["_law_names","_law_marks_here"]
theorem wn:bn um Kq (aI Fy):=lc
abbrev Fz:Stmt:=lj 48
abbrev Al:List Str:=["_law_machine","_law_tree","_law_heap","_law_found","_law_branches","_law_marks_here","_law_left","_law_right"]
abbrev Kr:List Str:=["_law_machine","_law_tree"]
theorem mH:bn Al Kr (aI Fz):=lc
abbrev FB:Stmt:=lj 49
abbrev yr:List Str:=["_law_machine","_law_tree"]
abbrev Ks:List Str:=["_law_machine","_law_tree"]
theorem M5:bn yr Ks (aI FB):=lc
abbrev FC:Stmt:=lj 50
abbrev wp:List Str:=["_law_said","_law_links_here","_law_other","_law_under_here","_law_found","_law_k"]
abbrev Kt:List Str:=["_law_said","_law_links_here","_law_other"]
theorem mI:bn wp Kt (aI FC):=lc
abbrev qb:Stmt:=lj 51
abbrev Qw:List Str:=["_law_script","_law_draws_here","_law_said","_law_letters","_law_sign","_law_tree","_law_links_here","_law_bits","_law_d","_law_due","_law_base"]
abbrev FD:List Str:=["_law_script"]
theorem ie:bn Qw FD (aI qb):=lc
structure Bl(mg:Str->Option Value):Prop where
 bool:mg "bool"=Option.none
 enumerate:mg "enumerate"=Option.none
 int:mg "int"=Option.none
 isinstance:mg "isinstance"=Option.none
 len:mg "len"=Option.none
 max:mg "max"=Option.none
 min:mg "min"=Option.none
 range:mg "range"=Option.none
 reversed:mg "reversed"=Option.none
 set:mg "set"=Option.none
 sorted:mg "sorted"=Option.none
 str:mg "str"=Option.none
 tuple:mg "tuple"=Option.none
 zip:mg "zip"=Option.none
def nV:W:=.tup [.str [105,110],.str [108,101,102,116],.str [114,105,103,104,116],.str [98,101,108,111,119]]
def qR:W:=.tup [.str [115,111,109,101],.str [97,108,108]]
structure Gc(K:Frag)(mg:Str->Option Value):Prop where
 TWO_LETTERED:∃u v,mg "TWO_LETTERED"=some u/\cB v u/\∀μ H,bf K μ H nV v
 BINDING:∃u v,mg "BINDING"=some u/\cB v u/\∀μ H,bf K μ H qR v
def tabL:List (Addr×Pos×Str):=[(107,⟨84,4,85,73⟩,"base_of.<locals>.lead")]
section
variable{P:Program}{w:World}{K:Frag}{mg:Str->Option Value}{base:Heap}{f:Addr}{fd:FuncData}
def Tg:FS:=(cO (Ex nh (eC (.str [])) (ao (p5 (ah 0)) aK)))
def C3:List W->List al->R W:=dN 1 Tg
theorem Qx(F:iY K "in_order" "in_order" MK f fd)(B:Bl mg) :dE P w K mg base (iC P w) 1 f fd Qh (jr K mg 1 C3):=
 cD (k:=0) F Qi rfl fun fT A outer s H E hr=>(aF (a_ (Ey PySem.F.slot_str_join PySem.F.type_str_join om fG (ag (CG B.sorted B.set (ac 0)) aA))))
def Qy:FS:=(aT (bE 1 (eI 1)) (aT (gC (cn (ao (ah 0) aK)) (hZ 2) (bE 1 (e2 jl (ah 1) (eI 2)))) (cO (ah 1))))
def FF:List W->List al->R W:=dN 3 Qy
theorem Qz(F:iY K "two_to" "two_to" ML f fd)(B:Bl mg) :dE P w K mg base (iC P w) 1 f fd Qj (jr K mg 1 FF):=
 cD (k:=0) F BC rfl fun fT A outer s H E hr=>(aw (sS 1 BC az) (aw (dP (eW B.range (ag (ac 0) aA)) (sG 2 BC) (aF (sS 1 BC (bA jx (ac 1) az)))) (aF (a_ (ac 1)))))
def QB:FS:=(aT (bE 2 (eI 0)) (aT (gC (eG (ah 0)) (hZ 3) (aT (bE 2 (e2 jl (ah 2) (eI 2))) (gF (dv (e2 (pM false) (ah 3) (ah 1))) (bE 2 (e2 gA (ah 2) (eI 1))) b_))) (cO (ah 2))))
def FH:List W->List al->R W:=dN 4 QB
theorem QC(F:iY K "letter_of" "letter_of" MM f fd)  :dE P w K mg base (iC P w) 1 f fd Ql (jr K mg 2 FH):=
 cD (k:=0) F yf rfl fun fT A outer s H E hr=>(aw (sS 2 yf az) (aw (dP (gJ (ac 0)) (sG 3 yf) (aw (sS 2 yf (bA jx (ac 2) az)) (aF (cF (bp (sN hr) (ac 3) (ac 1)) (aF (sS 2 yf (bA ga (ac 2) az))) bH)))) (aF (a_ (ac 2)))))
def QD:FS:=(aT (bE 2 (eC (.str []))) (aT (bE 3 (ah 1)) (aT (gC (zT (ao (ah 0) aK)) (hZ 4) (aT (gF (dv (e2 gP (e2 gZ (ah 3) (eI 1)) (eI 1))) (bE 2 (e2 gA (ah 4) (ah 2))) b_) (bE 3 (e2 mw (ah 3) (eI 1))))) (cO (ah 2)))))
def Am:List W->List al->R W:=dN 5 QD
theorem QF(F:iY K "marks_of" "marks_of" MN f fd)(B:Bl mg) :dE P w K mg base (iC P w) 1 f fd Qm (jr K mg 2 Am):=
 cD (k:=0) F u7 rfl fun fT A outer s H E hr=>(aw (sS 2 u7 fG) (aw (sS 3 u7 (ac 1)) (aw (dP (Ip B.reversed (ag (ac 0) aA)) (sG 4 u7) (aw (cF (bp (fB hr) (bA jw (ac 3) az) az) (aF (sS 2 u7 (bA ga (ac 4) (ac 2)))) bH) (aF (sS 3 u7 (bA pU (ac 3) az))))) (aF (a_ (ac 2))))))
def Ku:FS:=(cO (xD (t0 (dv (ah 2)) (uf (wO (dv (ah 3))) (t0 (dv (e2 gP (ah 0) (eI 1))) (dv (e2 gP (ah 1) (eI 1)))))) (eI 1) (eI 0)))
def yt:List W->List al->R W:=dN 4 Ku
theorem M6(F:iY K "below_room" "below_room" E2 f fd)  :dE P w K mg base (iC P w) 1 f fd J2 (jr K mg 4 yt):=
 cD (k:=0) F MW rfl fun fT A outer s H E hr=>(aF (a_ (ug (k8 (jN (eF (ac 2)) (kc (k8 (jv (iB (eF (ac 3))) (i6 (k8 (jN (bp (fB hr) (ac 0) az) (kc (bp (fB hr) (ac 1) az)))))))))) az az)))
def QH:FS:=(cO (xD (t0 (dv (e2 gP (ah 0) (eI 1))) (t0 (dv (e2 gP (ah 1) (eI 1))) (uf (dv (ah 2)) (wO (dv (ah 3)))))) (eI 1) (eI 0)))
def FJ:List W->List al->R W:=dN 4 QH
theorem QJ(F:iY K "in_room" "in_room" MT f fd)  :dE P w K mg base (iC P w) 1 f fd Qs (jr K mg 4 FJ):=
 cD (k:=0) F Qt rfl fun fT A outer s H E hr=>(aF (a_ (ug (k8 (jN (bp (fB hr) (ac 0) az) (jN (bp (fB hr) (ac 1) az) (kc (k8 (jv (eF (ac 2)) (i6 (iB (eF (ac 3)))))))))) az az)))
def QK:FS:=(aT (bE 3 (xD (dv (ah 2)) (e2 gA (e2 gA (ah 0) (ah 1)) (eI 1)) (e2 gA (ah 0) (ah 1)))) (cO (cE CA (ao (ah 3) (ao (eI 2) aK)))))
def FK:List W->List al->R W:=dN 4 QK
theorem QL(F:iY K "one_room" "one_room" MU f fd)(B:Bl mg) :dE P w K mg base (iC P w) 1 f fd Qu (jr K mg 3 FK):=
 cD (k:=0) F J0 rfl fun fT A outer s H E hr=>(aw (sS 3 J0 (ug (eF (ac 2)) (bA ga (bA ga (ac 0) (ac 1)) az) (bA ga (ac 0) (ac 1)))) (aF (a_ (cG JM B.min boot_min (ag (ac 3) (ag az aA))))))
def Kv:FS:=(aT (gF (t0 (dv (e2 gP (ah 0) (eI 2))) (t0 (dv (e2 xG (ah 1) (eI 0))) (uf (dv (e2 gP (ah 0) (eI 1))) (wO (dv (ah 3)))))) (cO (eI 2)) b_) (cO (xD (dv (ah 2)) (eI 1) (eI 0))))
def u8:List W->List al->R W:=dN 4 Kv
theorem M7(F:iY K "side_room" "side_room" E1 f fd)  :dE P w K mg base (iC P w) 1 f fd J1 (jr K mg 4 u8):=
 cD (k:=0) F MV rfl fun fT A outer s H E hr=>(aw (cF (k8 (jN (bp (fB hr) (ac 0) az) (jN (bp (ui hr) (ac 1) az) (kc (k8 (jv (bp (fB hr) (ac 0) az) (i6 (iB (eF (ac 3)))))))))) (aF (a_ az)) bH) (aF (a_ (ug (eF (ac 2)) az az))))
def Kw:FS:=(aT (bE 4 (e2 bO (ah 0) (eI 0))) (aT (bE 5 (e2 (pM false) (e2 bO (ah 0) (eI 1)) (ah 1))) (aT (bE 6 (e2 (pM false) (e2 bO (ah 0) (uj (eI 1))) (ah 1))) (aT (gF (dv (e2 gP (ah 4) (eC (.str [105,110])))) (cO (da 4 FJ (ao (ah 2) (ao (ah 3) (ao (ah 5) (ao (ah 6) aK)))))) b_) (aT (gF (dv (e2 gP (ah 4) (eC (.str [111,110,101])))) (cO (da 3 FK (ao (ah 2) (ao (ah 3) (ao (ah 5) aK))))) b_) (aT (gF (dv (e2 gP (ah 4) (eC (.str [108,101,102,116])))) (cO (da 4 u8 (ao (ah 2) (ao (ah 3) (ao (ah 5) (ao (ah 6) aK)))))) b_) (aT (gF (dv (e2 gP (ah 4) (eC (.str [114,105,103,104,116])))) (cO (da 4 u8 (ao (ah 3) (ao (ah 2) (ao (ah 5) (ao (ah 6) aK)))))) b_) (cO (da 4 yt (ao (ah 2) (ao (ah 3) (ao (ah 5) (ao (ah 6) aK)))))))))))))
def tF:List W->List al->R W:=dN 7 Kw
theorem M8(F:iY K "base_room" "base_room" E3 f fd) (GY:bK P w K mg base 1 "below_room" 4 yt)(Of:bK P w K mg base 1 "in_room" 4 FJ)(On:bK P w K mg base 1 "one_room" 3 FK)(BU:bK P w K mg base 1 "side_room" 4 u8):dE P w K mg base (iC P w) 2 f fd J3 (jr K mg 4 tF):=
 cD (k:=1) F v7 rfl fun fT A outer s H E hr=>(aw (sS 4 v7 (bJ (ac 0) az)) (aw (sS 5 v7 (kG (sN hr) (bJ (ac 0) az) (ac 1))) (aw (sS 6 v7 (kG (sN hr) (bJ (ac 0) (xO az)) (ac 1))) (aw (cF (bp (fB hr) (ac 4) fG) (aF (a_ (cq Of hr (by omega) (ag (ac 2) (ag (ac 3) (ag (ac 5) (ag (ac 6) aA))))))) bH) (aw (cF (bp (fB hr) (ac 4) fG) (aF (a_ (cq On hr (by omega) (ag (ac 2) (ag (ac 3) (ag (ac 5) aA)))))) bH) (aw (cF (bp (fB hr) (ac 4) fG) (aF (a_ (cq BU hr (by omega) (ag (ac 2) (ag (ac 3) (ag (ac 5) (ag (ac 6) aA))))))) bH) (aw (cF (bp (fB hr) (ac 4) fG) (aF (a_ (cq BU hr (by omega) (ag (ac 3) (ag (ac 2) (ag (ac 5) (ag (ac 6) aA))))))) bH) (aF (a_ (cq GY hr (by omega) (ag (ac 2) (ag (ac 3) (ag (ac 5) (ag (ac 6) aA))))))))))))))
abbrev eM:Stmt:=(ef tu).getD 4 (.Pass ⟨0,0,0,0⟩)
abbrev c5:Obj->Prop:=R4 "lead" "base_of.<locals>.lead" eM ["statement","names"]
theorem qS:zX ["letter","left","right","statement","names"] ["letter","left","right"] ["statement","names"] (aI eM):=⟨rfl,rfl,rfl,by decide +kernel,rfl,rfl,by decide +kernel,by decide +kernel,by decide +kernel,by decide +kernel⟩
def kL:FS:=(cO (da 4 tF (ao (ah 3) (ao (da 2 Am (ao (ah 4) (ao (ah 0) aK))) (ao (ah 1) (ao (ah 2) aK))))))
def dI:List W->List al->R W:=dN 5 kL
theorem pI  (tR:bK P w K mg base 2 "base_room" 4 tF) (AJ:bK P w K mg base 1 "marks_of" 2 Am):pz P w K mg base 3 3 2 c5 dI:=
 IK (k:=2) qS rfl rfl (fun _ _ _ _ _ us hl=>match us,hl with|[_,_,_],_=>rfl) fun f cd cl A outer s H E hr=>(aF (a_ (cq tR hr (by omega) (ag (ac 3) (ag (cq AJ hr (by omega) (ag (ac 4) (ag (ac 0) aA))) (ag (ac 1) (ag (ac 2) aA)))))))
def QM:FS:=(aT (bE 3 (nK aK)) (aT (gC (cn (ao (ah 0) aK)) (hZ 4) (aT (bE 5 (nK aK)) (aT (gC (cn (ao (ah 1) aK)) (hZ 6) (gp (oR cy (ah 5) (ao (cE hG (ao (hX [none,some 2,some 4,some 6] (cn (ao (ah 1) aK)) (hZ 0) qE (pA 1 3 c5 dI (ao (ah 2) (ao (ah 3) (ao (ah 0) aK))))) aK)) aK)))) (gp (oR cy (ah 3) (ao (cE hG (ao (ah 5) aK)) aK)))))) (cO (cE hG (ao (ah 3) aK)))))
def FL:List W->List al->R W:=dN 7 QM
theorem QN(F:iY K "table_by" "table_by" MO f fd)(B:Bl mg)(jC:pz P w K mg base 3 3 2 c5 dI)(tR:bK P w K mg base 2 "base_room" 4 tF)(AJ:bK P w K mg base 1 "marks_of" 2 Am):dE P w K mg base (iC P w) 4 f fd Qn (jr K mg 3 FL):=
 cD (k:=3) F yg rfl fun fT A outer s H E hr=>(aw (sS 3 yg (kH aA)) (aw (dP (eW B.range (ag (ac 0) aA)) (sG 4 yg) (aw (sS 5 yg (kH aA)) (aw (dP (eW B.range (ag (ac 1) aA)) (sG 6 yg) (aF (fS (oF PySem.F.slot_list_append PySem.F.type_list_append dL (ac 5) (ag (hW jV B.tuple dk (ag (sP (nm:=["right","lead","letter","left"]) (cap:=[none,some 2,some 4,some 6]) (by first|rfl|kernel_rfl) rfl (eW B.range (ag (ac 1) aA)) (fun _ _ _ _ _=>(sC 0)) (fun _ _ _ _ _=>vJ) (fun _ _ _ _ _=>(IL 1 jC (IM rfl) hr (by omega) (ag (ac 2) (ag (ac 3) (ag (ac 0) aA)))))) aA)) aA))))) (aF (fS (oF PySem.F.slot_list_append PySem.F.type_list_append dL (ac 3) (ag (hW jV B.tuple dk (ag (ac 5) aA)) aA))))))) (aF (a_ (hW jV B.tuple dk (ag (ac 3) aA))))))
def QO:FS:=(cO (T_ (e2 gP (e2 bO (ah 0) (eI 0)) (eC (.str [111,110,101]))) (e2 (pM false) (e2 bO (ah 0) (eI 0)) (eC nV))))
def An:List W->List al->R W:=dN 1 QO
theorem QP(F:iY K "is_plain" "is_plain" MP f fd)(G:Gc K mg) :dE P w K mg base (iC P w) 1 f fd Qo (jr K mg 1 An):=
 cD (k:=0) F Qp rfl fun fT A outer s H E hr=>(aF (a_ (S6 (kG (fB hr) (bJ (ac 0) az) fG) (uJ (kG (sN hr) (bJ (ac 0) az) (Ma G.TWO_LETTERED))))))
def Th:FS:=(aT (gF (dv (da 1 An (ao (ah 0) aK))) (cO (mq aK)) b_) (aT (gF (dv (e2 (pM false) (e2 bO (ah 0) (eI 0)) (eC qR))) (cO (Dx (ah 0) (ng (eI 2)) nL)) b_) (cO (Dx (ah 0) (ng (eI 1)) nL))))
def IT:List W->List al->R W:=dN 1 Th
theorem QQ(F:iY K "inner_of" "inner_of" MQ f fd)(G:Gc K mg)(AE:bK P w K mg base 1 "is_plain" 1 An):dE P w K mg base (iC P w) 2 f fd Qq (jr K mg 1 IT):=
 cD (k:=1) F Qr rfl fun fT A outer s H E hr=>(aw (cF (eF (cq AE hr (by omega) (ag (ac 0) aA))) (aF (a_ (lI aA))) bH) (aw (cF (bp (sN hr) (bJ (ac 0) az) (Ma G.BINDING)) (aF (a_ (zO (ac 0) (mz az) my))) bH) (aF (a_ (zO (ac 0) (mz az) my)))))
def QR(TK:List W->List al->R W):FS:=(aT (gF (dv (da 1 An (ao (ah 0) aK))) (cO (da 1 C3 (ao (Ex s9 (eC (.str [])) (ao (Dx (ah 0) (ng (eI 1)) nL) aK)) aK))) b_) (aT (gF (dv (e2 (pM false) (e2 bO (ah 0) (eI 0)) (eC qR))) (cO P') b_) (aT (bE 1 (eC (.str []))) (aT (gC (eG (da 1 IT (ao (ah 0) aK))) (hZ 2) (bE 1 (e2 gA (ah 1) (da 1 TK (ao (ah 2) aK))))) (cO (da 1 C3 (ao (ah 1) aK)))))))
def C4:Nat->List W->List al->R W
 |0=>fun _ _=>.bad
 |k+1=>dN 3 (QR (C4 k))
theorem FM{K7:Addr}{RG:FuncData}(Dg:iY K "names_of" "names_of" MR K7 RG)(GF:mg "names_of"=some (.ref K7))(G:Gc K mg)(G6:bK P w K mg base 1 "in_order" 1 C3)(Jr:bK P w K mg base 2 "inner_of" 1 IT)(AE:bK P w K mg base 1 "is_plain" 1 An):∀k:Nat,bK P w K mg base (2+k) "names_of" 1 (C4 k)
 |0=>xS (ps:=MS) Dg GF rfl (fun _ _ _ _ _ _ us hl=>match us,hl with|[_],_=>rfl)
 |k+1=>by
  have GR:=FM Dg GF G G6 Jr AE k
  exact r_ (ps:=MS) Dg GF rfl (fun _ _ _ _ _ _ us hl=>match us,hl with|[_],_=>rfl) (cD (k:=2+k) Dg BD rfl fun fT A outer s H E hr=>(aw (cF (eF (cq AE hr (by omega) (ag (ac 0) aA))) (aF (a_ (cq G6 hr (by omega) (ag (Ey PySem.F.slot_str_join PySem.F.type_str_join EL fG (ag (zO (ac 0) (mz az) my) aA)) aA)))) bH) (aw (cF (bp (sN hr) (bJ (ac 0) az) (Ma G.BINDING)) (aF (a_ Qa)) bH) (aw (sS 1 BD fG) (aw (dP (gJ (cq Jr hr (by omega) (ag (ac 0) aA))) (sG 2 BD) (aF (sS 1 BD (bA ga (ac 1) (cq GR hr (by omega) (ag (ac 2) aA)))))) (aF (a_ (cq G6 hr (by omega) (ag (ac 1) aA)))))))))
def Kx:FS:=(aT (bE 1 (da 1 (C4 40) (ao (ah 0) aK))) (aT (bE 2 (xD (dv (e2 (pM false) (e2 bO (ah 0) (eI 0)) (mq (ao (eC (.str [105,110])) (ao (eC (.str [98,101,108,111,119])) aK))))) (eI 2) (eI 3))) (aT (bE 3 (xD (dv (e2 gP (e2 bO (ah 0) (eI 0)) (eC (.str [111,110,101])))) (eI 1) (eI 0))) (aT (bE 4 (cE hG (ao (hX [none,some 3] (cn (ao (ah 2) aK)) (hZ 0) qE (e2 gP (ah 0) (ah 1))) aK))) (uU c5 1 107 ⟨84,4,85,73⟩ "base_of.<locals>.lead" 5 fun f o=>(cO (mq (ao (ah 1) (ao (ah 4) (ao (x9 3 FL o [0,1] (ao (da 1 FF (ao (cE e7 (ao (ah 1) aK)) aK)) (ao (ah 2) (ao (ah 5) aK)))) aK))))))))))
def yu:List W->List al->R W:=dN 6 Kx
theorem M9(F:iY K "base_of" "base_of" tu f fd)(Tc:Te K fd 107)(Bk:vS base mg)(B:Bl mg)(tR:bK P w K mg base 2 "base_room" 4 tF)(AJ:bK P w K mg base 1 "marks_of" 2 Am)(GR:bK P w K mg base 42 "names_of" 1 (C4 40))(Ot:bK P w K mg base 4 "table_by" 3 FL)(Os:bK P w K mg base 1 "two_to" 1 FF):dE P w K mg base (iC P w) 43 f fd J4 (jr K mg 1 yu):=
 Tc.elim fun cT hT=>Bi (k:=42) F qL rfl fun fT A outer s H E pL hr=>(aw (sS 1 qL (cq GR hr (by omega) (ag (ac 0) aA))) (aw (sS 2 qL (ug (bp (sN hr) (bJ (ac 0) az) (lI (ag fG (ag fG aA)))) az az)) (aw (sS 3 qL (ug (bp (fB hr) (bJ (ac 0) az) fG) az az)) (aw (sS 4 qL (hW jV B.tuple dk (ag (sP (nm:=["room","good_room"]) (cap:=[none,some 3]) (by first|rfl|kernel_rfl) rfl (eW B.range (ag (ac 2) aA)) (fun _ _ _ _ _=>(sC 0)) (fun _ _ _ _ _=>vJ) (fun _ _ _ _ _=>(kG (fB hr) (ac 0) (ac 1)))) aA))) (ER (st:=eM) (pL.symm.trans hT.1) hT.2.1 Bk rfl qL.nd (fun f o okN=>(aF (a_ (lI (ag (ac 1) (ag (ac 4) (ag (IN (st:=eM) (xs:=["statement","names"]) Ot hr (by omega) okN (ag (cq Os hr (by omega) (ag (cG fX B.len cN (ag (ac 1) aA)) aA)) (ag (ac 2) (ag (ac 5) aA))) rfl (.cons rfl (.cons rfl (.nil)))) aA))))))))))))
def QT:FS:=(cO (e2 (pM false) (e2 bO (ah 0) (eI 0)) (mq (ao (eI 1) (ao (eI 3) aK)))))
def qc:List W->List al->R W:=dN 1 QT
theorem M_(F:iY K "has_left" "has_left" E4 f fd)  :dE P w K mg base (iC P w) 1 f fd J5 (jr K mg 1 qc):=
 cD (k:=0) F MX rfl fun fT A outer s H E hr=>(aF (a_ (kG (sN hr) (bJ (ac 0) az) (lI (ag az (ag az aA))))))
def QU:FS:=(cO (e2 (pM false) (e2 bO (ah 0) (eI 0)) (mq (ao (eI 2) (ao (eI 3) aK)))))
def qd:List W->List al->R W:=dN 1 QU
theorem M'(F:iY K "has_right" "has_right" E5 f fd)  :dE P w K mg base (iC P w) 1 f fd J6 (jr K mg 1 qd):=
 cD (k:=0) F MY rfl fun fT A outer s H E hr=>(aF (a_ (kG (sN hr) (bJ (ac 0) az) (lI (ag az (ag az aA))))))
def Ky:FS:=(aT (bE 1 (nK aK)) (aT (bE 2 (nK aK)) (aT (gC (vL (ao (ah 0) aK)) (Oy 2 (k9 (hZ 3) (k9 (hZ 4) xJ))) (aT (bE 5 (xD (dv (da 1 qd (ao (ah 4) aK))) (oR pW (ah 2) aK) (eC .non))) (aT (bE 6 (xD (dv (da 1 qc (ao (ah 4) aK))) (oR pW (ah 2) aK) (eC .non))) (aT (gp (oR cy (ah 2) (ao (ah 3) aK))) (gp (oR cy (ah 1) (ao (mq (ao (ah 6) (ao (ah 5) aK))) aK))))))) (cO (cE hG (ao (ah 1) aK))))))
def yv:List W->List al->R W:=dN 7 Ky
theorem Na(F:iY K "links_of" "links_of" E6 f fd)(B:Bl mg)(G1:bK P w K mg base 1 "has_left" 1 qc)(GH:bK P w K mg base 1 "has_right" 1 qd):dE P w K mg base (iC P w) 2 f fd J7 (jr K mg 1 yv):=
 cD (k:=1) F pF rfl fun fT A outer s H E hr=>(aw (sS 1 pF (kH aA)) (aw (sS 2 pF (kH aA)) (aw (dP (Il B.enumerate (ag (ac 0) aA)) (vI rfl (jg (sG 3 pF) (jg (sG 4 pF) r9))) (aw (sS 5 pF (ug (eF (cq GH hr (by omega) (ag (ac 4) aA))) (uN PySem.F.slot_list_pop PySem.F.type_list_pop qD (ac 2)) A')) (aw (sS 6 pF (ug (eF (cq G1 hr (by omega) (ag (ac 4) aA))) (uN PySem.F.slot_list_pop PySem.F.type_list_pop qD (ac 2)) A')) (aw (fS (oF PySem.F.slot_list_append PySem.F.type_list_append dL (ac 2) (ag (ac 3) aA))) (aF (fS (oF PySem.F.slot_list_append PySem.F.type_list_append dL (ac 1) (ag (lI (ag (ac 6) (ag (ac 5) aA))) aA)))))))) (aF (a_ (hW jV B.tuple dk (ag (ac 1) aA)))))))
def QV:FS:=(cO (xD (dv (xE (ah 1))) (eI 0) (e2 bO (ah 0) (ah 1))))
def u9:List W->List al->R W:=dN 2 QV
theorem Nb(F:iY K "room_below" "room_below" E7 f fd)  :dE P w K mg base (iC P w) 1 f fd J8 (jr K mg 2 u9):=
 cD (k:=0) F MZ rfl fun fT A outer s H E hr=>(aF (a_ (ug (Ei (ac 1)) az (bJ (ac 0) (ac 1)))))
def QW:FS:=(aT (bE 4 (e2 bO (e2 bO (ah 0) (eI 2)) (da 2 FH (ao (e2 bO (ah 0) (eI 0)) (ao (ah 1) aK))))) (cO (e2 bO (e2 bO (ah 4) (da 2 u9 (ao (ah 3) (ao (e2 bO (ah 2) (eI 0)) aK)))) (da 2 u9 (ao (ah 3) (ao (e2 bO (ah 2) (eI 1)) aK))))))
def yw:List W->List al->R W:=dN 5 QW
theorem Nc(F:iY K "room_at" "room_at" E8 f fd) (N5:bK P w K mg base 1 "letter_of" 2 FH)(BX:bK P w K mg base 1 "room_below" 2 u9):dE P w K mg base (iC P w) 2 f fd J9 (jr K mg 4 yw):=
 cD (k:=1) F E9 rfl fun fT A outer s H E hr=>(aw (sS 4 E9 (bJ (bJ (ac 0) az) (cq N5 hr (by omega) (ag (bJ (ac 0) az) (ag (ac 1) aA))))) (aF (a_ (bJ (bJ (ac 4) (cq BX hr (by omega) (ag (ac 3) (ag (bJ (ac 2) az) aA)))) (cq BX hr (by omega) (ag (ac 3) (ag (bJ (ac 2) az) aA)))))))
def Kz:FS:=(aT (bE 2 (nK aK)) (aT (gC (vR (ao (ah 1) (ao (da 1 yv (ao (ah 1) aK)) aK))) (Oy 2 (k9 (hZ 3) (k9 (hZ 4) xJ))) (gp (oR cy (ah 2) (ao (da 4 yw (ao (ah 0) (ao (e2 bO (ah 3) (eI 1)) (ao (ah 4) (ao (ah 2) aK))))) aK)))) (cO (cE hG (ao (ah 2) aK)))))
def yx:List W->List al->R W:=dN 5 Kz
theorem Nd(F:iY K "rooms_of" "rooms_of" E_ f fd)(B:Bl mg)(GI:bK P w K mg base 2 "links_of" 1 yv)(GV:bK P w K mg base 2 "room_at" 4 yw):dE P w K mg base (iC P w) 3 f fd J_ (jr K mg 2 yx):=
 cD (k:=2) F v9 rfl fun fT A outer s H E hr=>(aw (sS 2 v9 (kH aA)) (aw (dP (IC B.zip (ag (ac 1) (ag (cq GI hr (by omega) (ag (ac 1) aA)) aA))) (vI rfl (jg (sG 3 v9) (jg (sG 4 v9) r9))) (aF (fS (oF PySem.F.slot_list_append PySem.F.type_list_append dL (ac 2) (ag (cq GV hr (by omega) (ag (ac 0) (ag (bJ (ac 3) az) (ag (ac 4) (ag (ac 2) aA))))) aA))))) (aF (a_ (hW jV B.tuple dk (ag (ac 2) aA))))))
def QX:FS:=(cO (xD (dv (e2 JK (cE e7 (ao (ah 1) aK)) (eI 0))) (e2 bO (da 2 yx (ao (ah 0) (ao (ah 1) aK))) (uj (eI 1))) (eI 0)))
def yy:List W->List al->R W:=dN 2 QX
theorem Nf(F:iY K "room_of" "room_of" Fa f fd)(B:Bl mg)(G5:bK P w K mg base 3 "rooms_of" 2 yx):dE P w K mg base (iC P w) 4 f fd J' (jr K mg 2 yy):=
 cD (k:=3) F M0 rfl fun fT A outer s H E hr=>(aF (a_ (ug (bp Cw (cG fX B.len cN (ag (ac 1) aA)) az) (bJ (cq G5 hr (by omega) (ag (ac 0) (ag (ac 1) aA))) (xO az)) az)))
def QY:FS:=(cO (e2 bO (e2 bO (ah 0) (eI 1)) (da 2 yy (ao (ah 0) (ao (ah 1) aK)))))
def yz:List W->List al->R W:=dN 2 QY
theorem Ng(F:iY K "lets_by" "lets_by" Fb f fd) (GX:bK P w K mg base 4 "room_of" 2 yy):dE P w K mg base (iC P w) 5 f fd Ka (jr K mg 2 yz):=
 cD (k:=4) F M1 rfl fun fT A outer s H E hr=>(aF (a_ (bJ (bJ (ac 0) az) (cq GX hr (by omega) (ag (ac 0) (ag (ac 1) aA))))))
def KA:FS:=(aT (bE 1 (nK aK)) (aT (gC (eG (ah 0)) (Oy 2 (k9 (hZ 2) (k9 (hZ 3) xJ))) (aT (bE 4 (eI 0)) (aT (gF (dv (ke (ah 2))) (bE 4 (e2 lO (e2 lO (ah 4) (e2 bO (ah 1) (ah 2))) (e2 lJ (eI 1) (ah 2)))) b_) (aT (gF (dv (ke (ah 3))) (bE 4 (e2 lO (e2 lO (ah 4) (e2 bO (ah 1) (ah 3))) (e2 lJ (eI 1) (ah 3)))) b_) (gp (oR cy (ah 1) (ao (ah 4) aK))))))) (cO (ah 1))))
def tH:List W->List al->R W:=dN 5 KA
theorem Nh(F:iY K "_law_under" "_law_under" Fc f fd)  :dE P w K mg base (iC P w) 1 f fd Kb (jr K mg 1 tH):=
 cD (k:=0) F pG rfl fun fT A outer s H E hr=>(aw (sS 1 pG (kH aA)) (aw (dP (gJ (ac 0)) (vI rfl (jg (sG 2 pG) (jg (sG 3 pG) r9))) (aw (sS 4 pG az) (aw (cF (og (ac 2)) (aF (sS 4 pG (bA nq (bA nq (ac 4) (bJ (ac 1) (ac 2))) (bA m_ az (ac 2))))) bH) (aw (cF (og (ac 3)) (aF (sS 4 pG (bA nq (bA nq (ac 4) (bJ (ac 1) (ac 3))) (bA m_ az (ac 3))))) bH) (aF (fS (oF PySem.F.slot_list_append PySem.F.type_list_append dL (ac 1) (ag (ac 4) aA)))))))) (aF (a_ (ac 1)))))
def QZ:FS:=(aT (bE 3 (e2 gR (e2 jl (e2 gA (e2 gA (e2 gA (ah 0) (e2 jl (e2 jl (eI 7) (ah 1)) (ah 1))) (e2 jl (eI 13) (ah 1))) (ah 2)) (eI 69621)) (eI 2147483647))) (cO (e2 gR (e2 jl (e2 gR (e2 gA (e2 gA (e2 jl (ah 3) (e2 gA (e2 sL (ah 3) (eI 1009)) (eI 3))) (e2 jl (eI 31) (ah 1))) (ah 2)) (eI 2147483629)) (eI 48271)) (eI 1000000007))))
def u_:List W->List al->R W:=dN 4 QZ
theorem Ni(F:iY K "_law_mixed" "_law_mixed" Fd f fd)  :dE P w K mg base (iC P w) 1 f fd Kc (jr K mg 3 u_):=
 cD (k:=0) F Fe rfl fun fT A outer s H E hr=>(aw (sS 3 Fe (bA gI (bA jx (bA ga (bA ga (bA ga (ac 0) (bA jx (bA jx az (ac 1)) (ac 1))) (bA jx az (ac 1))) (ac 2)) az) az)) (aF (a_ (bA gI (bA jx (bA gI (bA ga (bA ga (bA jx (ac 3) (bA ga (bA sM (ac 3) az) az)) (bA jx az (ac 1))) (ac 2)) az) az) az))))
def KB:FS:=(aT (bE 3 (nK aK)) (aT (bE 4 (eI 0)) (aT (gF (dv (e2 JL (ah 0) (e2 PN (eI 10) (eI 18)))) (bE 4 (ah 0)) b_) (aT (gC (cn (ao (ah 1) aK)) (hZ 5) (gF (dv (e2 JK (ah 4) (eI 0))) (aT (gp (oR cy (ah 3) (ao (e2 gR (ah 4) (eI 64)) aK))) (bE 4 (e2 sL (ah 4) (eI 64)))) (gp (oR cy (ah 3) (ao (da 3 u_ (ao (ah 0) (ao (ah 5) (ao (ah 2) aK)))) aK))))) (cO (ah 3))))))
def jO:List W->List al->R W:=dN 6 KB
theorem Nj(F:iY K "_law_draws" "_law_draws" Ff f fd)(B:Bl mg)(GN:bK P w K mg base 1 "_law_mixed" 3 u_):dE P w K mg base (iC P w) 2 f fd Kd (jr K mg 3 jO):=
 cD (k:=1) F qM rfl fun fT A outer s H E hr=>(aw (sS 3 qM (kH aA)) (aw (sS 4 qM az) (aw (cF (bp Ij (ac 0) (bA PQ az az)) (aF (sS 4 qM (ac 0))) bH) (aw (dP (eW B.range (ag (ac 1) aA)) (sG 5 qM) (aF (cF (bp Cw (ac 4) az) (aw (fS (oF PySem.F.slot_list_append PySem.F.type_list_append dL (ac 3) (ag (bA gI (ac 4) az) aA))) (aF (sS 4 qM (bA sM (ac 4) az)))) (aF (fS (oF PySem.F.slot_list_append PySem.F.type_list_append dL (ac 3) (ag (cq GN hr (by omega) (ag (ac 0) (ag (ac 5) (ag (ac 2) aA)))) aA))))))) (aF (a_ (ac 3)))))))
def Q0:FS:=(aT (gF (dv (e2 gP (cE e7 (ao (ah 0) aK)) (eI 0))) (cO (eI 0)) b_) (cO (e2 bO (ah 0) (e2 gR (ah 1) (cE e7 (ao (ah 0) aK))))))
def lT:List W->List al->R W:=dN 2 Q0
theorem Nl(F:iY K "_law_cell" "_law_cell" Fg f fd)(B:Bl mg) :dE P w K mg base (iC P w) 1 f fd Ke (jr K mg 2 lT):=
 cD (k:=0) F M3 rfl fun fT A outer s H E hr=>(aw (cF (bp (fB hr) (cG fX B.len cN (ag (ac 0) aA)) az) (aF (a_ az)) bH) (aF (a_ (bJ (ac 0) (bA gI (ac 1) (cG fX B.len cN (ag (ac 0) aA)))))))
def KC:FS:=(aT (bE 1 (eC (.str [65,66,67,68,69,70,71,72,73,74,75,76,77,78,79,80,81,82,83,84,85,86,87,88,89,90,97,98,99,100,101,102,103,104,105,106,107,108,109,110,111,112,113,114,115,116,117,118,119,120,121,122]))) (aT (bE 2 (e2 bO (mq (Bb [[105,110],[111,110,101],[108,101,102,116],[114,105,103,104,116],[98,101,108,111,119]])) (e2 gR (e2 bO (ah 0) (eI 0)) (eI 5)))) (aT (bE 3 (e2 bO (ah 1) (e2 gR (e2 bO (ah 0) (eI 1)) (eI 52)))) (aT (gF (dv (e2 gP (ah 2) (eC (.str [111,110,101])))) (cO (mq (ao (ah 2) (ao (ah 3) aK)))) b_) (aT (bE 4 (e2 bO (ah 1) (e2 gR (e2 bO (ah 0) (eI 2)) (eI 52)))) (aT (gF (dv (e2 gP (e2 gR (e2 bO (ah 0) (eI 3)) (eI 4)) (eI 0))) (bE 4 (ah 3)) b_) (cO (mq (ao (ah 2) (ao (ah 3) (ao (ah 4) aK)))))))))))
def yA:List W->List al->R W:=dN 5 KC
theorem Nm(F:iY K "_law_plainly" "_law_plainly" Fh f fd)  :dE P w K mg base (iC P w) 1 f fd Kf (jr K mg 1 yA):=
 cD (k:=0) F qN rfl fun fT A outer s H E hr=>(aw (sS 1 qN fG) (aw (sS 2 qN (bJ (lI (Ie (.cons (.cons (.cons (.cons (.cons .nil))))))) (bA gI (bJ (ac 0) az) az))) (aw (sS 3 qN (bJ (ac 1) (bA gI (bJ (ac 0) az) az))) (aw (cF (bp (fB hr) (ac 2) fG) (aF (a_ (lI (ag (ac 2) (ag (ac 3) aA))))) bH) (aw (sS 4 qN (bJ (ac 1) (bA gI (bJ (ac 0) az) az))) (aw (cF (bp (fB hr) (bA gI (bJ (ac 0) az) az) az) (aF (sS 4 qN (ac 3))) bH) (aF (a_ (lI (ag (ac 2) (ag (ac 3) (ag (ac 4) aA))))))))))))
def KD:FS:=(aT (bE 3 (eC (.str [65,66,67,68,69,70,71,72,73,74,75,76,77,78,79,80,81,82,83,84,85,86,87,88,89,90,97,98,99,100,101,102,103,104,105,106,107,108,109,110,111,112,113,114,115,116,117,118,119,120,121,122]))) (aT (bE 4 (eC (.str []))) (aT (gC (eG (da 3 jO (ao (ah 0) (ao (ah 1) (ao (ah 2) aK))))) (hZ 5) (aT (bE 6 (e2 gR (ah 5) (cE e7 (ao (ah 3) aK)))) (aT (bE 4 (e2 gA (ah 4) (e2 bO (ah 3) (ah 6)))) (bE 3 (e2 gA (Dx (ah 3) nL (ng (ah 6))) (Dx (ah 3) (ng (e2 gA (ah 6) (eI 1))) nL)))))) (cO (ah 4)))))
def tI:List W->List al->R W:=dN 7 KD
theorem Nn(F:iY K "_law_pool" "_law_pool" Fi f fd)(B:Bl mg)(kM:bK P w K mg base 2 "_law_draws" 3 jO):dE P w K mg base (iC P w) 3 f fd Kg (jr K mg 3 tI):=
 cD (k:=2) F pH rfl fun fT A outer s H E hr=>(aw (sS 3 pH fG) (aw (sS 4 pH fG) (aw (dP (gJ (cq kM hr (by omega) (ag (ac 0) (ag (ac 1) (ag (ac 2) aA))))) (sG 5 pH) (aw (sS 6 pH (bA gI (ac 5) (cG fX B.len cN (ag (ac 3) aA)))) (aw (sS 4 pH (bA ga (ac 4) (bJ (ac 3) (ac 6)))) (aF (sS 3 pH (bA ga (zO (ac 3) my (mz (ac 6))) (zO (ac 3) (mz (bA ga (ac 6) az)) my))))))) (aF (a_ (ac 4))))))
def KF:FS:=(cO (Ex nh (eC (.str [])) (ao (cE nO (ao (hX [none,some 0,some 1] (cn (ao (cE e7 (ao (ah 0) aK)) aK)) (hZ 0) (dv (e2 gP (e2 gZ (e2 mw (ah 2) (ah 0)) (eI 1)) (eI 1))) (e2 bO (ah 1) (ah 0))) aK)) aK)))
def va:List W->List al->R W:=dN 2 KF
theorem No(F:iY K "_law_marks" "_law_marks" Fj f fd)(B:Bl mg) :dE P w K mg base (iC P w) 1 f fd Kh (jr K mg 2 va):=
 cD (k:=0) F M4 rfl fun fT A outer s H E hr=>(aF (a_ (Ey PySem.F.slot_str_join PySem.F.type_str_join om fG (ag (cG vO B.sorted n6 (ag (sP (nm:=["_law_k","_law_pool_here","_law_number"]) (cap:=[none,some 0,some 1]) (by first|rfl|kernel_rfl) rfl (eW B.range (ag (cG fX B.len cN (ag (ac 0) aA)) aA)) (fun _ _ _ _ _=>(sC 0)) (fun _ _ _ _ _=>(vK (bp (fB hr) (bA jw (bA pU (ac 2) (ac 0)) az) az))) (fun _ _ _ _ _=>(bJ (ac 1) (ac 0)))) aA)) aA))))
def KG:FS:=(aT (bE 3 (nK aK)) (aT (bE 4 (eI 0)) (aT (gC (eG (ah 0)) (hZ 5) (aT (bE 6 (e2 gR (ah 5) (eI 4))) (aT (gF (dv (e2 JK (e2 sL (e2 gA (ah 6) (eI 1)) (eI 2)) (ah 4))) (bE 6 (eI 0)) b_) (aT (gp (oR cy (ah 3) (ao (mq (ao (ah 6) (ao (da 2 va (ao (ah 2) (ao (e2 gR (e2 bO (ah 1) (cE e7 (ao (ah 3) aK))) (eI 64)) aK))) aK))) aK))) (bE 4 (e2 Cv (e2 gA (ah 4) (eI 1)) (e2 sL (e2 gA (ah 6) (eI 1)) (eI 2)))))))) (aT (pj (dv (e2 JK (ah 4) (eI 1))) (aT (gp (oR cy (ah 3) (ao (mq (ao (eI 3) (ao (da 2 va (ao (ah 2) (ao (e2 gR (e2 bO (ah 1) (cE e7 (ao (ah 3) aK))) (eI 64)) aK))) aK))) aK))) (bE 4 (e2 Cv (ah 4) (eI 1))))) (cO (cE hG (ao (ah 3) aK)))))))
def yB:List W->List al->R W:=dN 7 KG
theorem Np(F:iY K "_law_wood" "_law_wood" Fk f fd)(B:Bl mg)(BV:bK P w K mg base 1 "_law_marks" 2 va):dE P w K mg base (iC P w) 2 f fd Ki (jr K mg 3 yB):=
 cD (k:=1) F nT rfl fun fT A outer s H E hr=>(aw (sS 3 nT (kH aA)) (aw (sS 4 nT az) (aw (dP (gJ (ac 0)) (sG 5 nT) (aw (sS 6 nT (bA gI (ac 5) az)) (aw (cF (bp Cw (bA sM (bA ga (ac 6) az) az) (ac 4)) (aF (sS 6 nT az)) bH) (aw (fS (oF PySem.F.slot_list_append PySem.F.type_list_append dL (ac 3) (ag (lI (ag (ac 6) (ag (cq BV hr (by omega) (ag (ac 2) (ag (bA gI (bJ (ac 1) (cG fX B.len cN (ag (ac 3) aA))) az) aA))) aA))) aA))) (aF (sS 4 nT (bA Bc (bA ga (ac 4) az) (bA sM (bA ga (ac 6) az) az)))))))) (aw (Et (bp Cw (ac 4) az) (aw (fS (oF PySem.F.slot_list_append PySem.F.type_list_append dL (ac 3) (ag (lI (ag az (ag (cq BV hr (by omega) (ag (ac 2) (ag (bA gI (bJ (ac 1) (cG fX B.len cN (ag (ac 3) aA))) az) aA))) aA))) aA))) (aF (sS 4 nT (bA Bc (ac 4) az))))) (aF (a_ (hW jV B.tuple dk (ag (ac 3) aA))))))))
def KH:FS:=(aT (bE 4 (nK aK)) (aT (gC (vQ (ao (eI 0) (ao (ah 2) (ao (eI 50) aK)))) (hZ 5) (bE 4 (e2 gA (ah 4) (da 3 jO (ao (da 2 lT (ao (ah 0) (ao (e2 gA (ah 1) (e2 sL (ah 5) (eI 50))) aK))) (ao (cE CA (ao (eI 50) (ao (e2 Cv (ah 2) (ah 5)) aK))) (ao (e2 gA (ah 3) (e2 jl (eI 1009) (ah 5))) aK))))))) (cO (ah 4))))
def yC:List W->List al->R W:=dN 6 KH
theorem Nq(F:iY K "_law_blocks" "_law_blocks" Fl f fd)(B:Bl mg)(nr:bK P w K mg base 1 "_law_cell" 2 lT)(kM:bK P w K mg base 2 "_law_draws" 3 jO):dE P w K mg base (iC P w) 3 f fd Kj (jr K mg 4 yC):=
 cD (k:=2) F we rfl fun fT A outer s H E hr=>(aw (sS 4 we (kH aA)) (aw (dP (Iu B.range (ag az (ag (ac 2) (ag az aA)))) (sG 5 we) (aF (sS 4 we (bA ga (ac 4) (cq kM hr (by omega) (ag (cq nr hr (by omega) (ag (ac 0) (ag (bA ga (ac 1) (bA sM (ac 5) az)) aA))) (ag (cG JM B.min boot_min (ag az (ag (bA Bc (ac 2) (ac 5)) aA))) (ag (bA ga (ac 3) (bA jx az (ac 5))) aA)))))))) (aF (a_ (ac 4)))))
def KI:FS:=(aT (bE 3 (da 3 jO (ao (da 2 lT (ao (ah 0) (ao (ah 1) aK))) (ao (eI 4) (ao (eI 5000011) aK))))) (aT (bE 4 (e2 gR (e2 bO (ah 3) (eI 0)) (eI 9))) (aT (gF (dv (e2 gP (e2 gR (e2 bO (ah 3) (eI 1)) (eI 4)) (eI 0))) (bE 4 (e2 gR (e2 bO (ah 3) (eI 2)) (eI 51))) b_) (aT (bE 5 (da 3 jO (ao (da 2 lT (ao (ah 0) (ao (e2 gA (ah 1) (eI 1)) aK))) (ao (ah 4) (ao (eI 6000011) aK))))) (cO (da 3 yB (ao (ah 5) (ao (da 4 yC (ao (ah 0) (ao (e2 gA (ah 1) (eI 2)) (ao (e2 jl (eI 2) (ah 4)) (ao (eI 7000003) aK))))) (ao (ah 2) aK)))))))))
def yD:List W->List al->R W:=dN 6 KI
theorem Nr(F:iY K "_law_grove" "_law_grove" Fm f fd) (Gy:bK P w K mg base 3 "_law_blocks" 4 yC)(nr:bK P w K mg base 1 "_law_cell" 2 lT)(kM:bK P w K mg base 2 "_law_draws" 3 jO)(GL:bK P w K mg base 2 "_law_wood" 3 yB):dE P w K mg base (iC P w) 4 f fd Kk (jr K mg 3 yD):=
 cD (k:=3) F tz rfl fun fT A outer s H E hr=>(aw (sS 3 tz (cq kM hr (by omega) (ag (cq nr hr (by omega) (ag (ac 0) (ag (ac 1) aA))) (ag az (ag az aA))))) (aw (sS 4 tz (bA gI (bJ (ac 3) az) az)) (aw (cF (bp (fB hr) (bA gI (bJ (ac 3) az) az) az) (aF (sS 4 tz (bA gI (bJ (ac 3) az) az))) bH) (aw (sS 5 tz (cq kM hr (by omega) (ag (cq nr hr (by omega) (ag (ac 0) (ag (bA ga (ac 1) az) aA))) (ag (ac 4) (ag az aA))))) (aF (a_ (cq GL hr (by omega) (ag (ac 5) (ag (cq Gy hr (by omega) (ag (ac 0) (ag (bA ga (ac 1) az) (ag (bA jx az (ac 4)) (ag az aA))))) (ag (ac 2) aA))))))))))
def KJ:FS:=(aT (bE 1 (nK aK)) (aT (bE 2 (nK aK)) (aT (gC (cn (ao (cE e7 (ao (ah 0) aK)) aK)) (hZ 3) (aT (bE 4 (eC .non)) (aT (bE 5 (eC .non)) (aT (gF (dv (e2 JL (e2 bO (e2 bO (ah 0) (ah 3)) (eI 0)) (eI 2))) (bE 5 (oR pW (ah 1) aK)) b_) (aT (gF (dv (e2 gP (e2 gR (e2 bO (e2 bO (ah 0) (ah 3)) (eI 0)) (eI 2)) (eI 1))) (bE 4 (oR pW (ah 1) aK)) b_) (aT (gp (oR cy (ah 2) (ao (mq (ao (ah 4) (ao (ah 5) aK))) aK))) (gp (oR cy (ah 1) (ao (ah 3) aK))))))))) (cO (ah 2)))))
def yE:List W->List al->R W:=dN 6 KJ
theorem Nt(F:iY K "_law_links" "_law_links" Fp f fd)(B:Bl mg) :dE P w K mg base (iC P w) 1 f fd Kl (jr K mg 1 yE):=
 cD (k:=0) F nU rfl fun fT A outer s H E hr=>(aw (sS 1 nU (kH aA)) (aw (sS 2 nU (kH aA)) (aw (dP (eW B.range (ag (cG fX B.len cN (ag (ac 0) aA)) aA)) (sG 3 nU) (aw (sS 4 nU A') (aw (sS 5 nU A') (aw (cF (bp Ij (bJ (bJ (ac 0) (ac 3)) az) az) (aF (sS 5 nU (uN PySem.F.slot_list_pop PySem.F.type_list_pop qD (ac 1)))) bH) (aw (cF (bp (fB hr) (bA gI (bJ (bJ (ac 0) (ac 3)) az) az) az) (aF (sS 4 nU (uN PySem.F.slot_list_pop PySem.F.type_list_pop qD (ac 1)))) bH) (aw (fS (oF PySem.F.slot_list_append PySem.F.type_list_append dL (ac 2) (ag (lI (ag (ac 4) (ag (ac 5) aA))) aA))) (aF (fS (oF PySem.F.slot_list_append PySem.F.type_list_append dL (ac 1) (ag (ac 3) aA)))))))))) (aF (a_ (ac 2))))))
def KL:FS:=(aT (bE 1 JU) (aT (gC (cn (ao (cE e7 (ao (ah 0) aK)) aK)) (hZ 2) (gC (eG (e2 bO (e2 bO (ah 0) (ah 2)) (eI 1))) (hZ 3) (Er (ah 1) (ah 3) (e2 lO (jy (ah 1) (ah 3) (eI 0)) (e2 lJ (eI 1) (ah 2))) xW))) (cO (ah 1))))
def tJ:List W->List al->R W:=dN 4 KL
theorem Nu(F:iY K "_law_worn" "_law_worn" Fq f fd)(B:Bl mg) :dE P w K mg base (iC P w) 1 f fd Km (jr K mg 1 tJ):=
 cD (k:=0) F wj rfl fun fT A outer s H E hr=>(aw (sS 1 wj Mr) (aw (dP (eW B.range (ag (cG fX B.len cN (ag (ac 0) aA)) aA)) (sG 2 wj) (aF (dP (gJ (bJ (bJ (ac 0) (ac 2)) az)) (sG 3 wj) (aF (Mf (Mq hr) (bA nq (sd hr (ac 1) (ac 3) az) (bA m_ az (ac 2))) (ac 1) (ac 3)))))) (aF (a_ (ac 1)))))
def KM:FS:=(aT (bE 3 (nK aK)) (aT (gC (cn (ao (cE e7 (ao (ah 0) aK)) aK)) (hZ 4) (aT (CB (hX [none,some 1] (eG (e2 bO (e2 bO (ah 0) (ah 4)) (eI 1))) (hZ 0) (dv (e2 xG (ah 0) (ah 1))) (ah 0)) (hZ 5)) (aT (gF (dv (e2 gP (e2 gZ (e2 mw (ah 2) (ah 4)) (eI 1)) (eI 1))) (gp (oR cy (ah 5) (ao (ah 1) aK))) b_) (gp (oR cy (ah 3) (ao (mq (ao (e2 bO (e2 bO (ah 0) (ah 4)) (eI 0)) (ao (Ex nh (eC (.str [])) (ao (cE nO (ao (ah 5) aK)) aK)) aK))) aK)))))) (cO (cE hG (ao (ah 3) aK)))))
def yF:List W->List al->R W:=dN 6 KM
theorem Nv(F:iY K "_law_dressed" "_law_dressed" Fs f fd)(B:Bl mg) :dE P w K mg base (iC P w) 1 f fd Kn (jr K mg 3 yF):=
 cD (k:=0) F wl rfl fun fT A outer s H E hr=>(aw (sS 3 wl (kH aA)) (aw (dP (eW B.range (ag (cG fX B.len cN (ag (ac 0) aA)) aA)) (sG 4 wl) (aw (zR (sG 5 wl) (nm:=["_law_sign","_law_letter_here"]) (cap:=[none,some 1]) (by first|rfl|kernel_rfl) rfl (gJ (bJ (bJ (ac 0) (ac 4)) az)) (fun _ _ _ _ _=>(sC 0)) (fun _ _ _ _ _=>(vK (bp (ui hr) (ac 0) (ac 1)))) (fun _ _ _ _ _=>(ac 0))) (aw (cF (bp (fB hr) (bA jw (bA pU (ac 2) (ac 4)) az) az) (aF (fS (oF PySem.F.slot_list_append PySem.F.type_list_append dL (ac 5) (ag (ac 1) aA)))) bH) (aF (fS (oF PySem.F.slot_list_append PySem.F.type_list_append dL (ac 3) (ag (lI (ag (bJ (bJ (ac 0) (ac 4)) az) (ag (Ey PySem.F.slot_str_join PySem.F.type_str_join om fG (ag (cG vO B.sorted n6 (ag (ac 5) aA)) aA)) aA))) aA))))))) (aF (a_ (hW jV B.tuple dk (ag (ac 3) aA))))))
def BE:FS:=(aT (bE 4 (jy (ah 3) (e2 bO (ah 0) (eI 1)) (eI 0))) (aT (gF (dv (e2 gP (e2 bO (ah 0) (eI 0)) (eC (.str [111,110,101])))) (cO (sJ (e2 xG (ah 4) (eI 0)) (e2 gP (e2 gZ (ah 4) (e2 Cv (ah 4) (eI 1))) (eI 0)))) b_) (aT (bE 5 (jy (ah 3) (e2 bO (ah 0) (eI 2)) (eI 0))) (aT (bE 6 (ah 5)) (aT (gF (dv (e2 xG (e2 bO (ah 0) (eI 0)) (eC (.str [105,110])))) (aT (bE 6 (eI 0)) (gC (cn (ao (cE e7 (ao (ah 1) aK)) aK)) (hZ 7) (gF (dv (e2 gP (e2 gZ (e2 mw (ah 5) (ah 7)) (eI 1)) (eI 1))) (gF (dv (e2 gP (e2 bO (ah 0) (eI 0)) (eC (.str [98,101,108,111,119])))) (bE 6 (e2 lO (ah 6) (e2 bO (ah 2) (ah 7)))) (gF (uf (dv (e2 gP (e2 bO (ah 0) (eI 0)) (eC (.str [108,101,102,116])))) (dv (ke (e2 bO (e2 bO (ah 1) (ah 7)) (eI 0))))) (bE 6 (e2 lO (ah 6) (e2 lJ (eI 1) (e2 bO (e2 bO (ah 1) (ah 7)) (eI 0))))) (gF (uf (dv (e2 gP (e2 bO (ah 0) (eI 0)) (eC (.str [114,105,103,104,116])))) (dv (ke (e2 bO (e2 bO (ah 1) (ah 7)) (eI 1))))) (bE 6 (e2 lO (ah 6) (e2 lJ (eI 1) (e2 bO (e2 bO (ah 1) (ah 7)) (eI 1))))) b_))) b_))) b_) (cO (e2 gP (e2 gZ (ah 4) (ah 6)) (ah 4))))))))
def yG:List W->List al->R W:=dN 8 BE
theorem Nw(F:iY K "_law_plain" "_law_plain" Ft f fd)(B:Bl mg) :dE P w K mg base (iC P w) 1 f fd Ko (jr K mg 4 yG):=
 cD (k:=0) F mG rfl fun fT A outer s H E hr=>(aw (sS 4 mG (sd hr (ac 3) (bJ (ac 0) az) az)) (aw (cF (bp (fB hr) (bJ (ac 0) az) fG) (aF (a_ (uK (kG (ui hr) (ac 4) az) (uJ (kG (fB hr) (bA jw (ac 4) (bA Bc (ac 4) az)) az))))) bH) (aw (sS 5 mG (sd hr (ac 3) (bJ (ac 0) az) az)) (aw (sS 6 mG (ac 5)) (aw (cF (bp (ui hr) (bJ (ac 0) az) fG) (aw (sS 6 mG az) (aF (dP (eW B.range (ag (cG fX B.len cN (ag (ac 1) aA)) aA)) (sG 7 mG) (aF (cF (bp (fB hr) (bA jw (bA pU (ac 5) (ac 7)) az) az) (aF (cF (bp (fB hr) (bJ (ac 0) az) fG) (aF (sS 6 mG (bA nq (ac 6) (bJ (ac 2) (ac 7))))) (aF (cF (k8 (jv (bp (fB hr) (bJ (ac 0) az) fG) (i6 (og (bJ (bJ (ac 1) (ac 7)) az))))) (aF (sS 6 mG (bA nq (ac 6) (bA m_ az (bJ (bJ (ac 1) (ac 7)) az))))) (aF (cF (k8 (jv (bp (fB hr) (bJ (ac 0) az) fG) (i6 (og (bJ (bJ (ac 1) (ac 7)) az))))) (aF (sS 6 mG (bA nq (ac 6) (bA m_ az (bJ (bJ (ac 1) (ac 7)) az))))) bH)))))) bH))))) bH) (aF (a_ (kG (fB hr) (bA jw (ac 4) (ac 6)) (ac 4)))))))))
def KN:FS:=(aT (gF (t0 (wO (dv (lL "tuple" (ah 0)))) (dv (e2 xG (cE e7 (ao (ah 0) aK)) (eI 3)))) (cO (eC (.bl false))) b_) (aT (gF (t0 (wO (dv (lL "str" (e2 bO (ah 0) (eI 0))))) (dv (e2 xG (e2 bO (ah 0) (eI 0)) (ah 1)))) (cO (eC (.bl false))) b_) (aT (bE 2 (e2 bO (ah 0) (eI 1))) (aT (gF (t0 (wO (dv (lL "tuple" (ah 2)))) (t0 (dv (e2 gP (cE e7 (ao (ah 2) aK)) (eI 0))) (wO (dv (lL "tuple" (e2 bO (ah 0) (eI 2))))))) (cO (eC (.bl false))) b_) (aT (gC (eG (ah 2)) (hZ 3) (gF (wO (dv (lL "bool" (ah 3)))) (cO (eC (.bl false))) b_)) (aT (gF (dv (e2 xG (cE e7 (ao (e2 bO (ah 0) (eI 2)) aK)) (e2 lJ (eI 1) (cE e7 (ao (ah 1) aK))))) (cO (eC (.bl false))) b_) (aT (gC (eG (e2 bO (ah 0) (eI 2))) (hZ 4) (aT (gF (t0 (wO (dv (lL "tuple" (ah 4)))) (dv (e2 xG (cE e7 (ao (ah 4) aK)) (cE e7 (ao (ah 2) aK))))) (cO (eC (.bl false))) b_) (gC (eG (ah 4)) (hZ 5) (aT (gF (t0 (wO (dv (lL "tuple" (ah 5)))) (dv (e2 xG (cE e7 (ao (ah 5) aK)) (cE e7 (ao (ah 2) aK))))) (cO (eC (.bl false))) b_) (gC (eG (ah 5)) (hZ 6) (gF (t0 (wO (dv (lL "int" (ah 6)))) (t0 (dv (lL "bool" (ah 6))) (t0 (dv (e2 PR (ah 6) (eI 0))) (dv (e2 JL (ah 6) (cE e7 (ao (ah 2) aK))))))) (cO (eC (.bl false))) b_)))))) (cO (eC (.bl true))))))))))
def yH:List W->List al->R W:=dN 7 KN
theorem Nx(F:iY K "_law_fits" "_law_fits" Fu f fd)(B:Bl mg) :dE P w K mg base (iC P w) 1 f fd Kp (jr K mg 2 yH):=
 cD (k:=0) F qQ rfl fun fT A outer s H E hr=>(aw (cF (k8 (jN (iB (eF (jk B.isinstance B.tuple dk (ac 0)))) (kc (bp (ui hr) (cG fX B.len cN (ag (ac 0) aA)) az)))) (aF (a_ qy)) bH) (aw (cF (k8 (jN (iB (eF (jk B.isinstance B.str boot_str (bJ (ac 0) az)))) (kc (bp (ui hr) (bJ (ac 0) az) (ac 1))))) (aF (a_ qy)) bH) (aw (sS 2 qQ (bJ (ac 0) az)) (aw (cF (k8 (jN (iB (eF (jk B.isinstance B.tuple dk (ac 2)))) (jN (bp (fB hr) (cG fX B.len cN (ag (ac 2) aA)) az) (kc (iB (eF (jk B.isinstance B.tuple dk (bJ (ac 0) az)))))))) (aF (a_ qy)) bH) (aw (dP (gJ (ac 2)) (sG 3 qQ) (aF (cF (iB (eF (jk B.isinstance B.bool mf (ac 3)))) (aF (a_ qy)) bH))) (aw (cF (bp (ui hr) (cG fX B.len cN (ag (bJ (ac 0) az) aA)) (bA m_ az (cG fX B.len cN (ag (ac 1) aA)))) (aF (a_ qy)) bH) (aw (dP (gJ (bJ (ac 0) az)) (sG 4 qQ) (aw (cF (k8 (jN (iB (eF (jk B.isinstance B.tuple dk (ac 4)))) (kc (bp (ui hr) (cG fX B.len cN (ag (ac 4) aA)) (cG fX B.len cN (ag (ac 2) aA)))))) (aF (a_ qy)) bH) (aF (dP (gJ (ac 4)) (sG 5 qQ) (aw (cF (k8 (jN (iB (eF (jk B.isinstance B.tuple dk (ac 5)))) (kc (bp (ui hr) (cG fX B.len cN (ag (ac 5) aA)) (cG fX B.len cN (ag (ac 2) aA)))))) (aF (a_ qy)) bH) (aF (dP (gJ (ac 5)) (sG 6 qQ) (aF (cF (k8 (jN (iB (eF (jk B.isinstance B.int qu (ac 6)))) (jN (eF (jk B.isinstance B.bool mf (ac 6))) (jN (bp w_lt (ac 6) az) (kc (bp Ij (ac 6) (cG fX B.len cN (ag (ac 2) aA)))))))) (aF (a_ qy)) bH))))))))) (aF (a_ qy)))))))))
def yI(RB:List W->List al->R W):FS:=(aT (gF (dv (lL "tuple" (ah 1))) (aT (gF (t0 (wO (dv (lL "tuple" (ah 0)))) (dv (e2 xG (cE e7 (ao (ah 0) aK)) (cE e7 (ao (ah 1) aK))))) (cO (eC (.bl false))) b_) (aT (gC (cn (ao (cE e7 (ao (ah 1) aK)) aK)) (hZ 2) (gF (wO (dv (da 2 RB (ao (e2 bO (ah 0) (ah 2)) (ao (e2 bO (ah 1) (ah 2)) aK))))) (cO (eC (.bl false))) b_)) (cO (eC (.bl true))))) b_) (aT (gF (dv (xE (ah 1))) (cO (xE (ah 0))) b_) (aT (gF (dv (lL "bool" (ah 1))) (cO (sJ (lL "bool" (ah 0)) (e2 gP (ah 0) (ah 1)))) b_) (aT (gF (dv (lL "int" (ah 1))) (cO (sJ (lL "int" (ah 0)) (sJ (Ic (lL "bool" (ah 0))) (e2 gP (ah 0) (ah 1))))) b_) (cO (sJ (lL "str" (ah 0)) (e2 gP (ah 0) (ah 1))))))))
def kg:Nat->List W->List al->R W
 |0=>fun _ _=>.bad
 |k+1=>dN 3 (yI (kg k))
theorem BF{Gx:Addr}{Oe:FuncData}(vm:iY K "_law_same" "_law_same" Fv Gx Oe)(zk:mg "_law_same"=some (.ref Gx))(B:Bl mg) :∀k:Nat,bK P w K mg base (0+k) "_law_same" 2 (kg k)
 |0=>xS (ps:=Fw) vm zk rfl (fun _ _ _ _ _ _ us hl=>match us,hl with|[_,_],_=>rfl)
 |k+1=>by
  have vk:=BF vm zk B  k
  exact r_ (ps:=Fw) vm zk rfl (fun _ _ _ _ _ _ us hl=>match us,hl with|[_,_],_=>rfl) (cD (k:=0+k) vm Fx rfl fun fT A outer s H E hr=>(aw (cF (eF (jk B.isinstance B.tuple dk (ac 1))) (aw (cF (k8 (jN (iB (eF (jk B.isinstance B.tuple dk (ac 0)))) (kc (bp (ui hr) (cG fX B.len cN (ag (ac 0) aA)) (cG fX B.len cN (ag (ac 1) aA)))))) (aF (a_ qy)) bH) (aw (dP (eW B.range (ag (cG fX B.len cN (ag (ac 1) aA)) aA)) (sG 2 Fx) (aF (cF (iB (eF (cq vk hr (by omega) (ag (bJ (ac 0) (ac 2)) (ag (bJ (ac 1) (ac 2)) aA))))) (aF (a_ qy)) bH))) (aF (a_ qy)))) bH) (aw (cF (Ei (ac 1)) (aF (a_ (PL (ac 0)))) bH) (aw (cF (eF (jk B.isinstance B.bool mf (ac 1))) (aF (a_ (uK (jk B.isinstance B.bool mf (ac 0)) (uJ (kG (fB hr) (ac 0) (ac 1)))))) bH) (aw (cF (eF (jk B.isinstance B.int qu (ac 1))) (aF (a_ (uK (jk B.isinstance B.int qu (ac 0)) (uK (PJ (jk B.isinstance B.bool mf (ac 0))) (uJ (kG (fB hr) (ac 0) (ac 1))))))) bH) (aF (a_ (uK (jk B.isinstance B.str boot_str (ac 0)) (uJ (kG (fB hr) (ac 0) (ac 1)))))))))))
def KO:FS:=(aT (bE 2 (eI 0)) (aT (gC (eG (ah 0)) (hZ 3) (bE 2 (e2 gA (e2 jl (eI 2) (ah 2)) (cE Bo (ao (e2 (pM false) (ah 3) (ah 1)) aK))))) (cO (ah 2))))
def vb:List W->List al->R W:=dN 4 KO
theorem Ny(F:iY K "_law_letter" "_law_letter" Fy f fd)(B:Bl mg) :dE P w K mg base (iC P w) 1 f fd Kq (jr K mg 2 vb):=
 cD (k:=0) F wn rfl fun fT A outer s H E hr=>(aw (sS 2 wn az) (aw (dP (gJ (ac 0)) (sG 3 wn) (aF (sS 2 wn (bA ga (bA jx az (ac 2)) (hW Mn B.int qu (ag (kG (sN hr) (ac 3) (ac 1)) aA)))))) (aF (a_ (ac 2)))))
def KP:FS:=(aT (bE 2 (nK aK)) (aT (bE 3 (nK aK)) (aT (gC (eG (ah 1)) (Oy 2 (k9 (hZ 4) (k9 (hZ 5) xJ))) (aT (bE 6 (eI 0)) (aT (bE 7 (eI 0)) (aT (gF (dv (e2 JL (ah 4) (eI 2))) (bE 7 (oR pW (ah 2) aK)) b_) (aT (gF (dv (e2 gP (e2 gR (ah 4) (eI 2)) (eI 1))) (bE 6 (oR pW (ah 2) aK)) b_) (aT (gp (oR cy (ah 2) (ao (e2 bO (e2 bO (e2 bO (e2 bO (ah 0) (eI 2)) (da 2 vb (ao (e2 bO (ah 0) (eI 0)) (ao (ah 5) aK)))) (ah 6)) (ah 7)) aK))) (gp (oR cy (ah 3) (ao (e2 bO (ah 2) (uj (eI 1))) aK))))))))) (cO (ah 3)))))
def yJ:List W->List al->R W:=dN 8 KP
theorem Nz(F:iY K "_law_run" "_law_run" Fz f fd) (G7:bK P w K mg base 1 "_law_letter" 2 vb):dE P w K mg base (iC P w) 2 f fd Kr (jr K mg 2 yJ):=
 cD (k:=1) F mH rfl fun fT A outer s H E hr=>(aw (sS 2 mH (kH aA)) (aw (sS 3 mH (kH aA)) (aw (dP (gJ (ac 1)) (vI rfl (jg (sG 4 mH) (jg (sG 5 mH) r9))) (aw (sS 6 mH az) (aw (sS 7 mH az) (aw (cF (bp Ij (ac 4) az) (aF (sS 7 mH (uN PySem.F.slot_list_pop PySem.F.type_list_pop qD (ac 2)))) bH) (aw (cF (bp (fB hr) (bA gI (ac 4) az) az) (aF (sS 6 mH (uN PySem.F.slot_list_pop PySem.F.type_list_pop qD (ac 2)))) bH) (aw (fS (oF PySem.F.slot_list_append PySem.F.type_list_append dL (ac 2) (ag (bJ (bJ (bJ (bJ (ac 0) az) (cq G7 hr (by omega) (ag (bJ (ac 0) az) (ag (ac 5) aA)))) (ac 6)) (ac 7)) aA))) (aF (fS (oF PySem.F.slot_list_append PySem.F.type_list_append dL (ac 3) (ag (bJ (ac 2) (xO az)) aA)))))))))) (aF (a_ (ac 3))))))
def KQ:FS:=(aT (gF (dv (e2 gP (cE e7 (ao (ah 1) aK)) (eI 0))) (cO (e2 bO (e2 bO (ah 0) (eI 1)) (eI 0))) b_) (cO (e2 bO (e2 bO (ah 0) (eI 1)) (e2 bO (da 2 yJ (ao (ah 0) (ao (ah 1) aK))) (uj (eI 1))))))
def yK:List W->List al->R W:=dN 2 KQ
theorem NA(F:iY K "_law_lets" "_law_lets" FB f fd)(B:Bl mg)(G9:bK P w K mg base 2 "_law_run" 2 yJ):dE P w K mg base (iC P w) 3 f fd Ks (jr K mg 2 yK):=
 cD (k:=2) F M5 rfl fun fT A outer s H E hr=>(aw (cF (bp (fB hr) (cG fX B.len cN (ag (ac 1) aA)) az) (aF (a_ (bJ (bJ (ac 0) az) az))) bH) (aF (a_ (bJ (bJ (ac 0) az) (bJ (cq G9 hr (by omega) (ag (ac 0) (ag (ac 1) aA))) (xO az))))))
def KR:FS:=(aT (bE 3 (da 1 tH (ao (ah 1) aK))) (aT (bE 4 (eI 0)) (aT (gC (cn (ao (cE e7 (ao (ah 1) aK)) aK)) (hZ 5) (aT (gF (uf (dv (e2 gP (e2 bO (ah 0) (eI 0)) (eC (.str [105,110])))) (dv (e2 gP (e2 gZ (e2 mw (ah 2) (ah 5)) (eI 1)) (eI 1)))) (bE 4 (e2 lO (ah 4) (e2 lJ (eI 1) (ah 5)))) b_) (aT (gF (uf (dv (e2 gP (e2 bO (ah 0) (eI 0)) (eC (.str [111,110,101])))) (dv (e2 gP (e2 gZ (e2 mw (ah 2) (ah 5)) (eI 1)) (eI 1)))) (bE 4 (e2 lJ (eI 1) (ah 5))) b_) (aT (gF (uf (dv (e2 gP (e2 bO (ah 0) (eI 0)) (eC (.str [98,101,108,111,119])))) (dv (e2 gP (e2 gZ (e2 mw (ah 2) (ah 5)) (eI 1)) (eI 1)))) (bE 4 (e2 lO (ah 4) (e2 bO (ah 3) (ah 5)))) b_) (aT (gF (uf (dv (e2 gP (e2 bO (ah 0) (eI 0)) (eC (.str [108,101,102,116])))) (uf (dv (e2 gP (e2 gZ (e2 mw (ah 2) (ah 5)) (eI 1)) (eI 1))) (dv (ke (e2 bO (e2 bO (ah 1) (ah 5)) (eI 0)))))) (bE 4 (e2 lO (ah 4) (e2 lJ (eI 1) (e2 bO (e2 bO (ah 1) (ah 5)) (eI 0))))) b_) (gF (uf (dv (e2 gP (e2 bO (ah 0) (eI 0)) (eC (.str [114,105,103,104,116])))) (uf (dv (e2 gP (e2 gZ (e2 mw (ah 2) (ah 5)) (eI 1)) (eI 1))) (dv (ke (e2 bO (e2 bO (ah 1) (ah 5)) (eI 1)))))) (bE 4 (e2 lO (ah 4) (e2 lJ (eI 1) (e2 bO (e2 bO (ah 1) (ah 5)) (eI 1))))) b_)))))) (cO (ah 4)))))
def yL:List W->List al->R W:=dN 6 KR
theorem NB(F:iY K "_law_reach" "_law_reach" FC f fd)(B:Bl mg)(vn:bK P w K mg base 1 "_law_under" 1 tH):dE P w K mg base (iC P w) 2 f fd Kt (jr K mg 3 yL):=
 cD (k:=1) F mI rfl fun fT A outer s H E hr=>(aw (sS 3 mI (cq vn hr (by omega) (ag (ac 1) aA))) (aw (sS 4 mI az) (aw (dP (eW B.range (ag (cG fX B.len cN (ag (ac 1) aA)) aA)) (sG 5 mI) (aw (cF (k8 (jv (bp (fB hr) (bJ (ac 0) az) fG) (i6 (bp (fB hr) (bA jw (bA pU (ac 2) (ac 5)) az) az)))) (aF (sS 4 mI (bA nq (ac 4) (bA m_ az (ac 5))))) bH) (aw (cF (k8 (jv (bp (fB hr) (bJ (ac 0) az) fG) (i6 (bp (fB hr) (bA jw (bA pU (ac 2) (ac 5)) az) az)))) (aF (sS 4 mI (bA m_ az (ac 5)))) bH) (aw (cF (k8 (jv (bp (fB hr) (bJ (ac 0) az) fG) (i6 (bp (fB hr) (bA jw (bA pU (ac 2) (ac 5)) az) az)))) (aF (sS 4 mI (bA nq (ac 4) (bJ (ac 3) (ac 5))))) bH) (aw (cF (k8 (jv (bp (fB hr) (bJ (ac 0) az) fG) (jv (bp (fB hr) (bA jw (bA pU (ac 2) (ac 5)) az) az) (i6 (og (bJ (bJ (ac 1) (ac 5)) az)))))) (aF (sS 4 mI (bA nq (ac 4) (bA m_ az (bJ (bJ (ac 1) (ac 5)) az))))) bH) (aF (cF (k8 (jv (bp (fB hr) (bJ (ac 0) az) fG) (jv (bp (fB hr) (bA jw (bA pU (ac 2) (ac 5)) az) az) (i6 (og (bJ (bJ (ac 1) (ac 5)) az)))))) (aF (sS 4 mI (bA nq (ac 4) (bA m_ az (bJ (bJ (ac 1) (ac 5)) az))))) bH))))))) (aF (a_ (ac 4))))))
def KS:FS:=(aT (bE 1 (da 3 jO (ao (da 2 lT (ao (ah 0) (ao (eI 0) aK))) (ao (eI 8) (ao (eI 1000003) aK))))) (aT (bE 2 (da 1 yA (ao (ah 1) aK))) (aT (bE 3 (e2 bO (ah 2) (eI 1))) (aT (gC (eG (e2 gA (Dx (ah 2) (ng (eI 2)) nL) (cE hG (ao (hX [none] (eG (da 3 tI (ao (da 2 lT (ao (ah 0) (ao (eI 1) aK))) (ao (eI 4) (ao (eI 2000003) aK))))) (hZ 0) qE (ah 0)) aK)))) (hZ 4) (gF (dv (e2 (pM true) (ah 4) (ah 3))) (bE 3 (e2 gA (ah 3) (ah 4))) b_)) (aT (bE 5 (da 3 yD (ao (ah 0) (ao (eI 2) (ao (ah 3) aK))))) (aT (bE 6 (da 1 yE (ao (ah 5) aK))) (aT (gF (dv (e2 JK (e2 gR (e2 bO (ah 1) (eI 4)) (eI 4)) (eI 0))) (aT (bE 7 (da 3 yL (ao (ah 2) (ao (ah 6) (ao (jy (da 1 tJ (ao (ah 5) aK)) (e2 bO (ah 2) (uj (eI 1))) (eI 0)) aK))))) (aT (gF (dv (e2 JK (e2 gR (e2 bO (ah 1) (eI 4)) (eI 4)) (eI 1))) (gC (eG (da 3 jO (ao (da 2 lT (ao (ah 0) (ao (eI 9) aK))) (ao (eI 17) (ao (eI 4000037) aK))))) (hZ 8) (bE 7 (e2 gZ (ah 7) (IP (e2 lJ (eI 1) (e2 gR (ah 8) (eI 99))))))) b_) (aT (gF (dv (e2 gP (e2 gR (e2 bO (ah 1) (eI 4)) (eI 4)) (eI 3))) (bE 7 (e2 JW (ah 7) (e2 lJ (eI 1) (e2 gR (e2 bO (ah 1) (eI 5)) (cE Cz (ao (eI 1) (ao (cE e7 (ao (ah 5) aK)) aK))))))) b_) (bE 5 (da 3 yF (ao (ah 5) (ao (e2 bO (ah 2) (eI 1)) (ao (ah 7) aK)))))))) b_) (aT (bE 9 (da 4 yG (ao (ah 2) (ao (ah 6) (ao (da 1 tH (ao (ah 6) aK)) (ao (da 1 tJ (ao (ah 5) aK)) aK)))))) (aT (bE 10 (da 1 yu (ao (ah 2) aK))) (aT (gF (wO (dv (da 2 yH (ao (ah 10) (ao (Ex nh (eC (.str [])) (ao (cE nO (ao (hX [none,some 2] (eG (ah 3)) (hZ 0) (dv (e2 (pM false) (ah 0) (Dx (ah 1) (ng (eI 1)) nL))) (ah 0)) aK)) aK)) aK))))) (cO (eC (.bl false))) b_) (cO (sJ (da 2 (kg 40) (ao (da 2 yz (ao (ah 10) (ao (ah 5) aK))) (ao (ah 9) aK))) (da 2 (kg 40) (ao (da 2 yK (ao (ah 10) (ao (ah 5) aK))) (ao (ah 9) aK)))))))))))))))
def f_q42:List W->List al->R W:=dN 11 KS
theorem NC(F:iY K "law" "law" qb f fd)(B:Bl mg)(nr:bK P w K mg base 1 "_law_cell" 2 lT)(kM:bK P w K mg base 2 "_law_draws" 3 jO)(G4:bK P w K mg base 1 "_law_dressed" 3 yF)(GC:bK P w K mg base 1 "_law_fits" 2 yH)(GP:bK P w K mg base 4 "_law_grove" 3 yD)(Gz:bK P w K mg base 3 "_law_lets" 2 yK)(GT:bK P w K mg base 1 "_law_links" 1 yE)(GG:bK P w K mg base 1 "_law_plain" 4 yG)(GW:bK P w K mg base 1 "_law_plainly" 1 yA)(GE:bK P w K mg base 3 "_law_pool" 3 tI)(G3:bK P w K mg base 2 "_law_reach" 3 yL)(vk:bK P w K mg base 40 "_law_same" 2 (kg 40))(vn:bK P w K mg base 1 "_law_under" 1 tH)(BY:bK P w K mg base 1 "_law_worn" 1 tJ)(GM:bK P w K mg base 43 "base_of" 1 yu)(G0:bK P w K mg base 5 "lets_by" 2 yz):dE P w K mg base (iC P w) 44 f fd FD (jr K mg 1 f_q42):=
 cD (k:=43) F ie rfl fun fT A outer s H E hr=>(aw (sS 1 ie (cq kM hr (by omega) (ag (cq nr hr (by omega) (ag (ac 0) (ag az aA))) (ag az (ag az aA))))) (aw (sS 2 ie (cq GW hr (by omega) (ag (ac 1) aA))) (aw (sS 3 ie (bJ (ac 2) az)) (aw (dP (gJ (bA ga (zO (ac 2) (mz az) my) (hW jV B.tuple dk (ag (sP (nm:=["_law_other"]) (cap:=[none]) (by first|rfl|kernel_rfl) rfl (gJ (cq GE hr (by omega) (ag (cq nr hr (by omega) (ag (ac 0) (ag az aA))) (ag az (ag az aA))))) (fun _ _ _ _ _=>(sC 0)) (fun _ _ _ _ _=>vJ) (fun _ _ _ _ _=>(ac 0))) aA)))) (sG 4 ie) (aF (cF (bp (PU hr) (ac 4) (ac 3)) (aF (sS 3 ie (bA ga (ac 3) (ac 4)))) bH))) (aw (sS 5 ie (cq GP hr (by omega) (ag (ac 0) (ag az (ag (ac 3) aA))))) (aw (sS 6 ie (cq GT hr (by omega) (ag (ac 5) aA))) (aw (cF (bp Cw (bA gI (bJ (ac 1) az) az) az) (aw (sS 7 ie (cq G3 hr (by omega) (ag (ac 2) (ag (ac 6) (ag (sd hr (cq BY hr (by omega) (ag (ac 5) aA)) (bJ (ac 2) (xO az)) az) aA))))) (aw (cF (bp Cw (bA gI (bJ (ac 1) az) az) az) (aF (dP (gJ (cq kM hr (by omega) (ag (cq nr hr (by omega) (ag (ac 0) (ag az aA))) (ag az (ag az aA))))) (sG 8 ie) (aF (sS 7 ie (bA jw (ac 7) (Qb (bA m_ az (bA gI (ac 8) az)))))))) bH) (aw (cF (bp (fB hr) (bA gI (bJ (ac 1) az) az) az) (aF (sS 7 ie (bA Mv (ac 7) (bA m_ az (bA gI (bJ (ac 1) az) (cG PZ B.max boot_max (ag az (ag (cG fX B.len cN (ag (ac 5) aA)) aA)))))))) bH) (aF (sS 5 ie (cq G4 hr (by omega) (ag (ac 5) (ag (bJ (ac 2) az) (ag (ac 7) aA))))))))) bH) (aw (sS 9 ie (cq GG hr (by omega) (ag (ac 2) (ag (ac 6) (ag (cq vn hr (by omega) (ag (ac 6) aA)) (ag (cq BY hr (by omega) (ag (ac 5) aA)) aA)))))) (aw (sS 10 ie (cq GM hr (by omega) (ag (ac 2) aA))) (aw (cF (iB (eF (cq GC hr (by omega) (ag (ac 10) (ag (Ey PySem.F.slot_str_join PySem.F.type_str_join om fG (ag (cG vO B.sorted n6 (ag (sP (nm:=["_law_sign","_law_said"]) (cap:=[none,some 2]) (by first|rfl|kernel_rfl) rfl (gJ (ac 3)) (fun _ _ _ _ _=>(sC 0)) (fun _ _ _ _ _=>(vK (bp (sN hr) (ac 0) (zO (ac 1) (mz az) my)))) (fun _ _ _ _ _=>(ac 0))) aA)) aA)) aA))))) (aF (a_ qy)) bH) (aF (a_ (uK (cq vk hr (by omega) (ag (cq G0 hr (by omega) (ag (ac 10) (ag (ac 5) aA))) (ag (ac 9) aA))) (uJ (cq vk hr (by omega) (ag (cq Gz hr (by omega) (ag (ac 10) (ag (ac 5) aA))) (ag (ac 9) aA)))))))))))))))))
end
theorem ND{α:Type}(ns:List α)(hl:0<ns.length)(k:Int):∃c∈ns,qw ns (k%((ns.length:Nat):Int))=some c:=by
 have h0:0<=k%((ns.length:Nat):Int):=gy _ (by omega)
 have h1:k%((ns.length:Nat):Int)<ns.length:=ik _ (by omega)
 obtain⟨m,hm⟩:=Int.eq_ofNat_of_zero_le h0
 rw[hm]at h1 ⊢
 have h2:m<ns.length:=by omega
 exact⟨ns[m],cW _,ic (by simp[h2])⟩
theorem oB{n:Nat}{st:List al}{ns:List Int}(h:st[n]?=some (.ro (ns.map W.int)))(k:Int):∃c,lT [.loc n,.int k] st=.ok (.int c) st:=by
 by_cases hn:ns=[]
 ·subst hn
  refine⟨0,?_⟩
  apply lQ;apply EU;apply gK
  ·(repeat' (first|with_reducible exact pB (sg h)|walk_at "ev1"))
  ·(walk_at "evs")
 ·have hl:0<ns.length:=List.length_pos_iff.mpr hn
  obtain⟨c,hc,e⟩:=ND (ns.map W.int) (by simpa using hl) k
  obtain⟨c,_,rfl⟩:=aJ.mp hc
  refine⟨c,?_⟩
  apply lQ;apply JY
  ·apply jA
   ·(repeat' (first|with_reducible exact pB (sg h)|walk_at "ev1"))
    rw[bd,ar];omega
   ·(walk_at "evs")
  ·(repeat' (first|with_reducible exact pB (sg h)|with_reducible exact nR (sg h) e|walk_at "ev1"))
   rw[ar];omega
theorem FN(c k s:Int)(hk:-(2^64)<k/\k<2^64)(st:List al):∃r,0<=r/\u_ [.int c,.int k,.int s] st=.ok (.int r) st:=by
 have big:∀q:Int,0<=q%2147483647/\q%2147483647<2147483647:=fun q=>⟨gy _ (by decide),ik _ (by decide)⟩
 refine⟨(((c+7*k*k+13*k+s)*69621%2147483647*((c+7*k*k+13*k+s)*69621%2147483647/1009+3)+31*k+s)%2147483629*48271)%1000000007,gy _ (by decide),?_⟩
 apply lQ;apply JY
 ·(walk_at "evs")<;>first|exact .inl (by decide)|exact .inr (by decide)|exact .inr hk
 ·(walk_at "evs")<;>first|exact .inl (by decide)|exact .inr (by decide)|exact .inl (by have:=big ((c+7*k*k+13*k+s)*69621);omega)
theorem lU(c s:Int)(m:Nat)(hm:m<=1000)(st:List al):∃ds:List Int,ds.length=m/\(∀d∈ds,0<=d)/\jO [.int c,.int m,.int s] st=.ok (.loc st.length) (st++[.lst (ds.map W.int)]):=by
 suffices hh:iP (wP fun w bu=>∃j x,w=.loc (st.length+j)/\bu=st++x/\j=0/\∃ds:List Int,x=[.lst (ds.map W.int)]/\ds.length=m/\∀d∈ds,0<=d) (KB ([W.int c,.int m,.int s].map some++List.replicate (6-3) none) st) by
  obtain⟨j,x,⟨rfl,ds,rfl,h1,h2⟩,e⟩:=oz hh
  exact⟨ds,h1,h2,e⟩
 apply aB
 ·(walk_at "evs")
 apply aB
 ·(walk_at "evs")
 have main:∀r0:Int,iP (wP fun w bu=>∃j x,w=.loc (st.length+j)/\bu=st++x/\j=0/\∃ds:List Int,x=[.lst (ds.map W.int)]/\ds.length=m/\∀d∈ds,0<=d)
   (aT (gC (cn (ao (ah 1) aK)) (hZ 5) (gF (dv (e2 JK (ah 4) (eI 0))) (aT (gp (oR cy (ah 3) (ao (e2 gR (ah 4) (eI 64)) aK))) (bE 4 (e2 sL (ah 4) (eI 64)))) (gp (oR cy (ah 3) (ao (da 3 u_ (ao (ah 0) (ao (ah 5) (ao (ah 2) aK)))) aK))))) (cO (ah 3))
   [some (.int c),some (.int m),some (.int s),some (.loc st.length),some (.int r0),none] (st++[.lst []])):=by
  intro r0
  refine dH (fun i ρ bu=>∃(r:Int) (o:Option W) (ds:List Int),ρ=[some (.int c),some (.int m),some (.int s),some (.loc st.length),some (.int r),o]/\bu=st++[.lst (ds.map W.int)]/\ds.length=i/\∀d∈ds,0<=d) (e_ (by(walk_at "evs");rfl) (by omega))
   ⟨r0,none,[],rfl,rfl,rfl,by simp⟩ (fun _ _ _ _=>trivial) ?_ ?_
  ·rintro i w ρ bu hw ⟨r,o,ds,rfl,rfl,hd,h⟩
   obtain⟨hi,rfl⟩:=gT hw
   refine⟨_,rfl,?_⟩
   have fg:(st++[al.lst (ds.map W.int)])[st.length]?=some (.lst (ds.map W.int)):=by rw[dS];rfl
   have hsh:(ds.map W.int).length<lB:=by rw[ar,hd];show i<1000000;omega
   by_cases hr:0<r
   ·apply nS
    ·(walk_at "evs");simpa using hr
    apply aB
    ·(repeat' (first|with_reducible exact fH fg|with_reducible exact lS fg hsh|walk_at "ev1"))
    rw[eX]
    apply cS
    ·(walk_at "evs")
    ·refine⟨_,_,rfl,r/64,_,ds++[r%64],rfl,by simp,by simp[hd],fun d hd'=>?_⟩
     rcases bB.mp hd' with hd'|hd'
     ·exact h d hd'
     ·rw[be.mp hd'];exact gy _ (by decide)
   ·obtain⟨q,hq,e⟩:=FN c (0+i) s (by omega) (st++[al.lst (ds.map W.int)])
    apply kK
    ·(walk_at "evs");simpa using hr
    apply cS
    ·(repeat' (first|with_reducible exact fH fg|with_reducible exact lS fg hsh|with_reducible exact e|walk_at "ev1"))
    ·refine⟨_,_,rfl,r,_,ds++[q],rfl,by rw[eX];simp,by simp[hd],fun d hd'=>?_⟩
     rcases bB.mp hd' with hd'|hd'
     ·exact h d hd'
     ·rw[be.mp hd'];exact hq
  ·rintro ρ bu ⟨r,o,ds,rfl,rfl,hd,h⟩
   apply bM
   ·(walk_at "evs")
   ·exact⟨_,_,rfl,0,_,rfl,rfl,rfl,ds,rfl,by rw[hd];simpa using cr 0 m,h⟩
 by_cases hc:(10:Int)^18<=c
 ·apply aB
  ·apply gK
   ·(walk_at "evs")<;>simpa using hc
   ·(walk_at "evs")
  ·exact main c
 ·apply aB
  ·apply jA
   ·(walk_at "evs")<;>simpa using hc
   ·(walk_at "evs")
  ·exact main 0
abbrev LL:List Nat:=[65,66,67,68,69,70,71,72,73,74,75,76,77,78,79,80,81,82,83,84,85,86,87,88,89,90,97,98,99,100,101,102,103,104,105,106,107,108,109,110,111,112,113,114,115,116,117,118,119,120,121,122]
theorem IU(c s:Int)(m:Nat)(hm:m<=52)(st:List al):∃l:List Nat,l.length=m/\l.Nodup/\(∀d∈l,d∈LL)/\tI [.int c,.int m,.int s] st=.ok (.str l) st:=by
 suffices hh:iP (wP fun w bu=>(∃x,bu=st++x)/\undWs st.length [w]=true/\∃l:List Nat,w=.str l/\l.length=m/\l.Nodup/\∀d∈l,d∈LL) (KD ([W.int c,.int m,.int s].map some++List.replicate (7-3) none) st) by
  obtain⟨w,⟨l,rfl,h1,h2,h3⟩,e⟩:=qa hh
  exact⟨l,h1,h2,h3,e⟩
 obtain⟨ds,h1,h2,e⟩:=lU c s m (by omega) st
 apply aB
 ·(walk_at "evs")
 apply aB
 ·(walk_at "evs")
 have fg:lstOf (st++[al.lst (ds.map W.int)]) st.length=some (ds.map W.int):=bT (by rw[dS];rfl)
 refine dH (fun i ρ bu=>∃(r f:List Nat) (o o2:Option W),ρ=[some (.int c),some (.int m),some (.int s),some (.str r),some (.str f),o,o2]/\bu=st++[.lst (ds.map W.int)]/\f.length=i/\r.length+i=52/\(f++r).Perm LL) (sh (by(repeat' (first|with_reducible exact e|walk_at "ev1"))) fg)
  ⟨LL,[],none,none,rfl,rfl,rfl,rfl,.refl _⟩ (fun i ρ bu h=>?_) ?_ ?_
 ·obtain⟨r,f,o,o2,rfl,rfl,_⟩:=h
  exact fg
 ·rintro i w ρ bu hw ⟨r,f,o,o2,rfl,rfl,hf,hr,hfl⟩
  obtain⟨d,hd,rfl⟩:∃d,ds[i]?=some d/\w=.int d:=by
   simp only[aD,eU]at hw
   obtain⟨d,h1,rfl⟩:=hw
   exact⟨d,h1,rfl⟩
  have hi:i<m:=by rw[<- h1];exact(ai.mp hd).1
  obtain⟨q,hq,eq⟩:=si (q:=d) (n:=r.length) (by omega)
  have hL:r.length<=lB:=by show _<=1000000;omega
  have hLf:f.length<=lB:=by show _<=1000000;omega
  have hat:qw r (d%(r.length:Int))=some r[q]:=by rw[eq];exact ic (by simp[hq])
  refine⟨_,rfl,?_⟩
  apply aB
  ·(repeat' (first|with_reducible exact vZ hL|walk_at "ev1"))
   show 0<(r.length:Int);omega
  apply aB
  ·have ha:f.length+[r[q]].length<=lB:=by show _+1<=1000000;omega
   (repeat' (first|with_reducible exact EV hL hat|with_reducible exact vY ha|walk_at "ev1"))
  apply cS
  ·(repeat' (first|with_reducible exact Qd hL|walk_at "ev1"))
   rw[eq,v0 (by omega),show((q:Int)+1)=((q+1:Nat):Int)from rfl,v3 (by omega),aV,f_]
   show _<=1000000;omega
  ·refine⟨_,_,rfl,_,_,_,_,rfl,rfl,by simp[hf],?_,?_⟩
   ·rw[eq,v0 (by omega),show((q:Int)+1)=((q+1:Nat):Int)from rfl,v3 (by omega),aL,aV,f_]
    omega
   ·rw[eq,v0 (by omega),show((q:Int)+1)=((q+1:Nat):Int)from rfl,v3 (by omega)]
    refine List.Perm.trans ?_ hfl
    rw[bj]
    refine nF f ?_
    have e:r=r.take q++r[q]::r.drop (q+1):=by rw[<- fC hq,List.take_append_drop]
    have e2:(r[q]::(r.take q++r.drop (q+1))).Perm r:=(List.perm_middle.symm).trans (by rw[<- e])
    exact e2
 ·rintro ρ bu ⟨r,f,o,o2,rfl,rfl,hf,hr,hfl⟩
  apply bM
  ·(walk_at "evs")
  ·exact⟨_,_,rfl,⟨_,rfl⟩,rfl,f,rfl,by rw[hf];simpa using h1,(kT.mp (hfl.nodup_iff.mpr (by decide))).1,fun d hd=>hfl.mem_iff.mp (fI _ hd)⟩
theorem wq{st s:List al}{p:Nat}{c:al}(h:st <+: s)(hp:st.length<=p):st <+: s.set p c:=by
 obtain⟨x,rfl⟩:=h
 rw[show p=st.length+(p-st.length) by omega,lP]
 exact aR _ _
theorem sj{st s y:List al}(h:st <+: s):st <+: s++y:=h.trans (aR _ _)
theorem gQ{st s:List al}{i:Nat}{c:al}(h:st <+: s)(e:st[i]?=some c):s[i]?=some c:=by
 obtain⟨x,rfl⟩:=h
 exact bX e
theorem Ao{s:List al}{p:Nat}{c d:al}(h:s[p]?=some d):(s.set p c)[p]?=some c:=by
 rw[bq (ai.mp h).1]
theorem Ti{s:List al}{p q:Nat}{c:al}(h:p≠q):(s.set p c)[q]?=s[q]?:=bR h
theorem NE{s:List al}{p:Nat}{c:al}(h:s[p]?=some c):p<s.length:=(ai.mp h).1
theorem cH{s:List al}{c:al}:(s++[c])[s.length]?=some c:=by rw[dS];rfl
def zp(l:List Int):List W:=l.map W.int
theorem sk{s:List al}{p i:Nat}{ds:List Int}{d:Int}(h:s[p]?=some (.lst (zp ds)))(e:ds[i]?=some d):bO (.loc p) (.int i) s=.ok (.int d) s:=nR (bT h) (ic (by rw[zp,aD,e];rfl))
theorem qe{st:List al}{n:Nat}{ls:List (List Nat)}(h:lstOf st n=some (ls.map W.str))(hl:ls.length<64):nO [.loc n] st=.ok (.loc st.length) (st++[.lst ((fA ls).map W.str)]):=by
 show oo [.loc n] st=_
 unfold oo
 simp only[h,eQ,uO]
 rw[aq hl]
theorem nX{a b:List (List Nat)}(h:a.Perm b):(a.map List.length).sum=(b.map List.length).sum:=by
 induction h with
 |nil=>rfl
 |cons x _ ih=>simp only[aN,jc,ih]
 |swap x y l=>simp only[aN,jc];omega
 |trans _ _ ih1 ih2=>rw[ih1,ih2]
theorem tK(l:List Nat):(((l.map fun c=>[c])).map List.length).sum=l.length:=by
 induction l with
 |nil=>rfl
 |cons a r ih=>simp only[aN,jc,de,ih,ia];omega
def Q1(l:List Nat):List Nat:=je [] (fA (l.map fun c=>[c]))
theorem R5(l:List Nat):(Q1 l).length=l.length:=by
 unfold Q1;rw[j5,jR,nX (dX _),tK]
theorem Q2(l:List Nat):(Q1 l).Perm l:=by
 unfold Q1;rw[j5]
 have h:(fA (l.map fun c=>[c])).flatten.Perm (l.map fun c=>[c]).flatten:=(dX _).flatten
 refine h.trans (.of_eq ?_)
 induction l with
 |nil=>rfl
 |cons a r ih=>
  have ih':=ih ((dX _).flatten)
  simp only[aN,kW,ih',List.cons_append,jJ]
theorem R6{fe:FE}{ρ:bW}{st s1:List al}{n:Nat}{l:List Nat}(h:fe ρ st=.ok (.loc n) s1)(hc:lstOf s1 n=some ((l.map fun c=>[c]).map W.str))(hl:l.length<64) :
  Ex nh (eC (.str [])) (ao (cE nO (ao fe aK)) aK) ρ st=.ok (.str (Q1 l)) (s1++[.lst ((fA (l.map fun c=>[c])).map W.str)]):=by
 have hs:=qe hc (by simpa using hl)
 have hcell2:lstOf (s1++[al.lst ((fA (l.map fun c=>[c])).map W.str)]) s1.length=some ((fA (l.map fun c=>[c])).map W.str):=bT cH
 have hj:=qK (sep:=[]) hcell2 (by rw[nX (dX _),tK];show _<=1000000;simp;omega)
 exact z9 cC rfl (aC (cP (aC h bG) hs) bG) hj
theorem NF{fs:FA}{ρ:bW}{st st1:List al}{i j k:Int}(h:fs ρ st=.ok [.int i,.int j,.int k] st1)(hq:-(2^60)<=i/\i<2^60/\-(2^60)<=j/\j<2^60/\0<k/\k<=1000):vQ fs ρ st=.ok (rB i k (oS i j k),none) st1:=by
 unfold vQ;rw[h];simp only[R.bind_ok];rw[aq hq]
theorem FP{i k:Int}{n m:Nat}{w:W}(h:(rB i k n)[m]?=some w):m<n/\w=.int (i+m*k):=by
 unfold rB at h
 obtain⟨h1,h2⟩:=ai.mp h
 simp only[ar,kR]at h1
 exact⟨h1,by rw[<- h2];simp⟩
theorem C5(i k:Int)(n:Nat):(rB i k n).length=n:=by simp[rB]
theorem C6{n0:Nat}{st:List al}{ns:List Int}(h0:st[n0]?=some (.ro (ns.map W.int)))(a:Int)(oJ:Nat)(Js:Int)(hm:oJ<=1000) :
  ∃(j:Nat) (x:List al) (ds:List Int),ds.length=oJ/\(∀d∈ds,0<=d)/\x[j]?=some (.lst (zp ds))/\yC [.loc n0,.int a,.int oJ,.int Js] st=.ok (.loc (st.length+j)) (st++x):=by
 suffices hh:iP (wP fun w bu=>∃j x,w=.loc (st.length+j)/\bu=st++x/\∃ds:List Int,ds.length=oJ/\(∀d∈ds,0<=d)/\x[j]?=some (.lst (zp ds))) (KH ([W.loc n0,.int a,.int oJ,.int Js].map some++List.replicate (6-4) none) st) by
  obtain⟨j,x,⟨ds,h1,h2,h3⟩,e⟩:=oz hh
  exact⟨j,x,ds,h1,h2,h3,e⟩
 apply aB
 ·(walk_at "evs")
 refine dH (fun i ρ s=>∃(p:Nat) (ds:List Int) (o5:Option W),ρ=[some (.loc n0),some (.int a),some (.int oJ),some (.int Js),some (.loc p),o5]/\st <+: s/\st.length<=p/\s[p]?=some (.lst (zp ds))/\ds.length=min oJ (50*i)/\∀d∈ds,0<=d) (NF (i:=0) (j:=oJ) (k:=50) (st1:=st++[al.lst []]) (by(walk_at "evs")) (by omega))
  ⟨st.length,[],none,rfl,aR _ _,ay _,cH,by simp,by simp⟩ (fun _ _ _ _=>trivial) ?_ ?_
 ·rintro i w ρ s hw ⟨p,ds,o5,rfl,hp,lq,hc,hl,hpos⟩
  obtain⟨hi,rfl⟩:=FP hw
  refine⟨_,rfl,?_⟩
  have hlt:(50:Int)*i<oJ:=by
   unfold oS at hi
   split at hi
   ·omega
   ·omega
  obtain⟨c,ec⟩:=oB (gQ hp h0) (a+(0+(i:Int)*50)/50)
  obtain⟨mm,hmm,emm⟩:∃mm:Nat,mm=min 50 (oJ-50*i)/\CA [.int 50,.int ((oJ:Int)-(0+(i:Int)*50))] s=.ok (.int mm) s:=by
   refine⟨min 50 (oJ-50*i),rfl,?_⟩
   show R.ok (W.int (if (oJ:Int)-(0+(i:Int)*50)<50 then(oJ:Int)-(0+(i:Int)*50)else 50)) s=_
   congr 2
   split<;>omega
  obtain⟨es,hes,hep,ee⟩:=lU c (Js+1009*(0+(i:Int)*50)) mm (by omega) s
  have ad:=MA (st:=s++[al.lst (es.map W.int)]) (gQ (aR _ _) hc) cH (by simp[zp];show _<=1000000;omega)
  have cm:Ig 1009 (0+(i:Int)*50):=.inl (by decide)
  apply cS
  ·(walk_at "evs")
   all_goals first|exact cm|exact(by decide)
  ·refine⟨_,_,rfl,_,ds++es,_,rfl,sj (sj hp),?_,?_,?_,?_⟩
   ·have:=NE hc;simp;omega
   ·rw[cH];simp[zp]
   ·rw[aL];omega
   ·intro d hd
    rcases bB.mp hd with z|z
    ·exact hpos d z
    ·exact hep d z
 ·rintro ρ s ⟨p,ds,o5,rfl,⟨x,rfl⟩,lq,hc,hl,hpos⟩
  rw[C5]at hl
  have hmn:oJ<=50*oS 0 oJ 50:=by
   unfold oS
   split
   ·omega
   ·omega
  apply bM
  ·(walk_at "evs")
  ·refine⟨_,_,rfl,p-st.length,x,by rw[show st.length+(p-st.length)=p by omega],rfl,ds,by omega,hpos,?_⟩
   rw[bZ lq]at hc
   exact hc
section
variable{cap:List (Option Nat)}{ρ:bW}{st:List al}{el:FE}{fs:FA}{n:Nat}
theorem IV{β:Type}(V:β->W)(Pb:Nat->β->Prop)(hr:fs ρ st=.ok [.int n] st)(hn:n<=100000)(h:∀i:Nat,i<n->∃b,Pb i b/\el ((oG cap ρ).set 0 (some (.int i))) st=.ok (V b) st) :
  ∃r:List β,r.length=n/\(∀i b,r[i]?=some b->Pb i b)/\hX cap (cn fs) (hZ 0) qE el ρ st=.ok (.loc st.length) (st++[.lst (r.map V)]):=by
 let f:Fin n->β:=fun i=>Classical.choose (h i i.2)
 have hf:∀i:Fin n,Pb i (f i)/\el ((oG cap ρ).set 0 (some (.int (i:Nat)))) st=.ok (V (f i)) st:=fun i=>Classical.choose_spec (h i i.2)
 let Y:W->W:=fun w=>match w with
  |.int z=>if hz:z.toNat<n then V (f ⟨z.toNat,hz⟩)else .non
  |_=>.non
 have ir:cn fs ρ st=.ok (ce 0 n,none) st:=by
  have:=e_ hr (by omega)
  rw[aO]at this
  exact this
 have hc:=v5 (fi:=cn fs) (f:=hZ 0) (el:=el) (cap:=cap) (ρ:=ρ) Y ir (by rw[cr];show _<=1000000;omega) trivial fun w hw=>by
  obtain⟨i,hi,rfl⟩:=io hw
  refine⟨_,rfl,?_⟩
  rw[show((0:Int)+(i:Int))=(i:Int) by omega]
  show _=R.ok (if hz:(i:Int).toNat<n then V (f ⟨(i:Int).toNat,hz⟩)else .non) st
  rw[mY (show(i:Int).toNat<n by omega)]
  exact(hf ⟨i,hi⟩).2
 refine⟨List.ofFn f,by simp,fun i b hb=>?_,?_⟩
 ·obtain⟨h1,h2⟩:=ai.mp hb
  rw[List.getElem_ofFn]at h2
  rw[<- h2]
  exact(hf ⟨i,by simpa using h1⟩).1
 ·rw[hc]
  have e:(ce 0 n).map Y=(List.ofFn f).map V:=by
   refine List.ext_getElem (by simp[cr]) fun i h1 h2=>?_
   have hi:i<n:=by simpa[cr]using h1
   rw[mh,mh,List.getElem_ofFn]
   unfold ce
   rw[mh,List.getElem_range,show((0:Int)+(i:Int))=(i:Int) by omega]
   show(if hz:(i:Int).toNat<n then V (f ⟨(i:Int).toNat,hz⟩)else .non)=_
   rw[mY (show(i:Int).toNat<n by omega)]
  rw[e]
theorem Tj{β:Type}(V:β->W)(Pb:Nat->β->Prop)(hr:fs ρ st=.ok [.int n] st)(hn:n<=100000)(h:∀i:Nat,i<n->∃b,Pb i b/\el ((oG cap ρ).set 0 (some (.int i))) st=.ok (V b) st) :
  ∃r:List β,r.length=n/\(∀i b,r[i]?=some b->Pb i b)/\cE hG (ao (hX cap (cn fs) (hZ 0) qE el) aK) ρ st=.ok (.tup (r.map V)) (st++[.lst (r.map V)]):=by
 obtain⟨r,h1,h2,e⟩:=IV (cap:=cap) (el:=el) V Pb hr hn h
 exact⟨r,h1,h2,cP (aC e bG) (lh (bT cH))⟩
end
structure Mc where
 nm:List Nat
 gd:List Bool
 tb:List (List (List Nat))
def qf(r:List Nat):W:=.tup (r.map fun k=>W.int (k:Nat))
def oH(t:List (List Nat)):W:=.tup (t.map qf)
def Mc.w(M:Mc):W:=.tup [.str M.nm,.tup (M.gd.map W.bl),.tup (M.tb.map oH)]
def UB(n:Nat)(t:List (List Nat)):Prop:=t.length=n/\∀r∈t,r.length=n/\∀k∈r,k<n
structure Ap(M:Mc)(n:Nat):Prop where
 gd:M.gd.length=n
 tb:M.tb.length=2^M.nm.length
 t:∀t∈M.tb,UB n t
theorem BG(r:List Nat)(n:Nat):(qf r).und n=true:=by
 unfold qf W.und
 induction r with
 |nil=>rfl
 |cons x r ih=>simp only[aN,undWs,ih,eD];rfl
theorem IW(t:List (List Nat))(n:Nat):(oH t).und n=true:=by
 unfold oH W.und
 induction t with
 |nil=>rfl
 |cons x r ih=>simp only[aN,undWs,ih,eD];exact BG x n
theorem FQ(t:List (List (List Nat)))(n:Nat):undWs n (t.map oH)=true:=by
 induction t with
 |nil=>rfl
 |cons x r ih=>simp only[aN,undWs,ih,eD];exact IW x n
theorem IX(t:List Bool)(n:Nat):undWs n (t.map W.bl)=true:=by
 induction t with
 |nil=>rfl
 |cons x r ih=>simp only[aN,undWs,ih,eD];rfl
theorem Tk(M:Mc)(n:Nat):M.w.und n=true:=by
 unfold Mc.w
 simp[W.und,undWs,FQ,IX]
theorem m8{c:Nat}{st:List al}(h:c<=100):lJ (.int 1) (.int c) st=.ok (.int ((2^c:Nat):Int)) st:=by
 have:=gr (C:=fun i j=>0<=j/\j<=1000000/\i.natAbs<2^64) (f:=fun i j=>i*2^j.toNat) (p:=1) (q:=(c:Int)) (st:=st) ⟨by omega,by omega,by decide⟩
 rw[show lJ (.int 1) (.int c) st=_ from this]
 simp
theorem wt{s:List al}{p:Nat}{ws:List W}{y:W}(h:s[p]?=some (.lst ws))(hl:ws.length<1000000):cy (.loc p) [y] s=.ok .non (s.set p (.lst (ws++[y]))):=lS h hl
theorem NG{n q:Nat}(h:q<n):DQ n (q:Int)=some q:=by
 unfold DQ
 rw[aq (by omega),aq (by omega)];simp
theorem Tl{s:List al}{p q:Nat}{ws:List W}{v:W}(h:s[p]?=some (.lst ws))(hq:q<ws.length):Ep (.loc p) (.int q) v s=some (s.set p (.lst (ws.set q v))):=MB h (NG hq)
theorem Q3{fs:FA}{ρ:bW}{st st1:List al}{i j:Int}(h:fs ρ st=.ok [.int i,.int j] st1)(hq:-(2^62)<=i/\i<2^62/\-(2^62)<=j/\j<2^62):xL fs ρ st=.ok (ce i (j-i).toNat,none) st1:=by
 unfold xL;rw[h];simp only[R.bind_ok];rw[aq hq]
theorem Tn{ws:List W}{s:List al}:P0 [.tup ws] s=.ok (.loc s.length) (s++[.lst ws]):=rfl
theorem R7{α:Type}{l:List α}{i:Nat}{x y:α}(h:y∈l.set i x):y∈l\/y=x:=List.mem_or_eq_of_mem_set h
def nW(l:List Nat):List W:=l.map fun k=>W.int (k:Nat)
theorem BH{s:List al}{p i:Nat}{l:List Nat}{k:Nat}(h:s[p]?=some (.lst (nW l)))(e:l[i]?=some k):bO (.loc p) (.int i) s=.ok (.int k) s:=nR (bT h) (ic (by rw[nW,aD,e];rfl))
theorem FR{s:List al}{i:Nat}{l:List Nat}{k:Nat}(e:l[i]?=some k):bO (qf l) (.int i) s=.ok (.int k) s:=oU (ic (by rw[aD,e];rfl))
theorem FU{s:List al}{i:Nat}{t:List (List Nat)}{r:List Nat}(e:t[i]?=some r):bO (oH t) (.int i) s=.ok (qf r) s:=oU (ic (by rw[aD,e];rfl))
theorem R8{cap:List (Option Nat)}{ρ:bW}{st:List al}{t:FT}{fs:FA}{n:Nat}(Pb:Nat->Bool)(hr:fs ρ st=.ok [.int n] st)(hn:n<=100000)(h0:0<cap.length)(h:∀i:Nat,i<n->t ((oG cap ρ).set 0 (some (.int i))) st=.ok (Pb i) st) :
  hX cap (cn fs) (hZ 0) t (ah 0) ρ st=.ok (.loc st.length) (st++[.lst (nW ((List.range n).filter Pb))]):=by
 have ir:cn fs ρ st=.ok (ce 0 n,none) st:=by
  have:=e_ hr (by omega)
  rw[aO]at this
  exact this
 rw[pD (fi:=cn fs) (f:=hZ 0) (t:=t) (el:=ah 0) (cap:=cap) (ρ:=ρ) (fun w=>match w with|.int z=>Pb z.toNat|_=>false) id ir (by rw[cr];show _<=1000000;omega) trivial fun w hw=>by
  obtain⟨i,hi,rfl⟩:=io hw
  rw[show((0:Int)+(i:Int))=(i:Int) by omega]
  exact⟨_,rfl,h i hi,fun _=>d9 (by rw[bq (by simp[oG];exact h0)];rfl)⟩]
 congr 4
 unfold ce nW
 rw[jL,a8]
 have e:((fun w=>match w with|W.int z=>Pb z.toNat|_=>false)∘fun k:Nat=>W.int (0+(k:Int)))=Pb:=by
  funext k
  show Pb (0+(k:Int)).toNat=Pb k
  congr 1;omega
 rw[e]
 refine cf fun k _=>?_
 show W.int (0+(k:Int))=_
 rw[eV]
theorem Ue{fe:FE}{f:FG}{ρ ρ':bW}{st st1:List al}{w:W}(h:fe ρ st=.ok w st1)(h2:f w ρ=some ρ'):CB fe f ρ st=.nx ρ' st1:=by
 unfold CB;rw[h];simp only[R.stmt_ok];rw[h2]
structure Pl where
 b:Nat
 m:List Nat
def Pl.w(p:Pl):W:=.tup [.int p.b,.str p.m]
def iz(t:List Pl):W:=.tup (t.map Pl.w)
inductive St(n:Nat):List Nat->Nat->List Nat->Nat->Option Nat×Option Nat->Prop
 |z {S:List Nat}:St n S 0 (1::S) 1 (none,none)
 |l {a:Nat} {S:List Nat}:St n (a::S) 1 ((1+a)::S) (1+a) (some (n-1),none)
 |r {a:Nat} {S:List Nat}:St n (a::S) 2 ((1+a)::S) (1+a) (none,some (n-1))
 |b {c a:Nat} {S:List Nat}:St n (c::a::S) 3 ((1+c+a)::S) (1+c+a) (some (n-1-c),some (n-1))
inductive Gr:List Pl->List Nat->List Nat->List (Option Nat×Option Nat)->Prop
 |nil:Gr [] [] [] []
 |snoc {ps:List Pl} {S S' sz:List Nat} {lk:List (Option Nat×Option Nat)} {b k:Nat} {m:List Nat} {x:Option Nat×Option Nat}:Gr ps S sz lk->St ps.length S b S' k x->Gr (ps++[⟨b,m⟩]) S' (sz++[k]) (lk++[x])
def At(sz:List Nat):List Nat->Nat->Prop
 |[],n=>n=0
 |a::S,n=>sz[n-1]?=some a/\a<=n/\1<=a/\At sz S (n-a)
theorem At.app{sz x:List Nat}:∀{S:List Nat} {n:Nat},n<=sz.length->At sz S n->At (sz++x) S n
 |[],_,_,h=>h
 |a::S,n,hn,⟨h1,h2,h3,h4⟩=>⟨by rw[aW (by omega)];exact h1,h2,h3,At.app (by omega) h4⟩
theorem St.at'{n:Nat}{sz S S':List Nat}{b k:Nat}{x:Option Nat×Option Nat}(h:St n S b S' k x)(hn:sz.length=n)(ha:At sz S n):At (sz++[k]) S' (n+1):=by
 have hk:(sz++[k])[n+1-1]?=some k:=by rw[Nat.add_sub_cancel,<- hn];simp
 cases h with
 |z=>exact⟨hk,by omega,by omega,by rw[Nat.add_sub_cancel];exact ha.app (by omega)⟩
 |@l a S=>exact⟨hk,by have:=ha.2.1;omega,by omega,by rw[show n+1-(1+a)=n-a by omega];exact ha.2.2.2.app (by omega)⟩
 |@r a S=>exact⟨hk,by have:=ha.2.1;omega,by omega,by rw[show n+1-(1+a)=n-a by omega];exact ha.2.2.2.app (by omega)⟩
 |@b c a S=>exact⟨hk,by have:=ha.2.1;have:=ha.2.2.2.2.1;omega,by omega,by rw[show n+1-(1+c+a)=n-c-a by omega];exact ha.2.2.2.2.2.2.app (by omega)⟩
theorem Gr.ok{ps:List Pl}{S sz:List Nat}{lk:List (Option Nat×Option Nat)}(h:Gr ps S sz lk):sz.length=ps.length/\lk.length=ps.length/\At sz S ps.length:=by
 induction h with
 |nil=>exact⟨rfl,rfl,rfl⟩
 |snoc _ hs ih=>
  obtain⟨h1,h2,h3⟩:=ih
  exact⟨by simp[h1],by simp[h2],by rw[aL];exact hs.at' h1 h3⟩
theorem Gr.step{ps:List Pl}{S sz:List Nat}{lk:List (Option Nat×Option Nat)}(h:Gr ps S sz lk):∀i,i<ps.length->∃S1 S2 p k x,Gr (ps.take i) S1 (sz.take i) (lk.take i)/\ps[i]?=some p/\sz[i]?=some k/\lk[i]?=some x/\St i S1 p.b S2 k x/\Gr (ps.take (i+1)) S2 (sz.take (i+1)) (lk.take (i+1)):=by
 induction h with
 |nil=>intro i hi;simp at hi
 |@snoc ps S S' sz lk b k m x hg hs ih=>
  intro i hi
  obtain⟨l1,l2,_⟩:=hg.ok
  by_cases e:i=ps.length
  ·subst e
   refine⟨S,S',⟨b,m⟩,k,x,?_,by simp,by rw[<- l1];simp,by rw[<- l2];simp,hs,?_⟩
   ·rw[ku,<- l1,ku]
    rw[l1,<- l2,ku];exact hg
   ·rw[bz (by simp),bz (by simp[l1]),bz (by simp[l2])]
    exact .snoc hg hs
  ·have hi':i<ps.length:=by simp at hi;omega
   obtain⟨S1,S2,p,k1,x1,g1,q1,q2,q3,hs1,g2⟩:=ih i hi'
   refine⟨S1,S2,p,k1,x1,?_,by rw[aW hi'];exact q1,by rw[aW (by omega)];exact q2,by rw[aW (by omega)];exact q3,hs1,?_⟩
   ·rw[cb (by omega),cb (by omega),cb (by omega)];exact g1
   ·rw[cb (by omega),cb (by omega),cb (by omega)];exact g2
theorem Gr.cut{ps:List Pl}{S sz:List Nat}{lk:List (Option Nat×Option Nat)}(h:Gr ps S sz lk){i:Nat}(hi:i<ps.length):∃(p:Pl) (L R:Nat),ps[i]?=some p/\sz[i]?=some (1+L+R)/\L+R<=i/\p.b<=3/\(0<L↔p.b%2=1)/\(0<R↔2<=p.b)/\(2<=p.b->1<=i/\sz[i-1]?=some R):=by
 obtain⟨S1,S2,p,k,x,g1,q1,q2,q3,hs,_⟩:=h.step i hi
 obtain⟨l1,l2,ha⟩:=g1.ok
 have eR:(ps.take i).length=i:=by rw[aV];omega
 rw[eR]at ha
 obtain⟨b,m⟩:=p
 have get:∀j a,1<=i->j=i-1->(sz.take i)[j]?=some a->sz[j]?=some a:=fun j a hi1 hj e=>by
  rw[bv (by omega)]at e;exact e
 cases hs with
 |z=>exact⟨⟨0,m⟩,0,0,q1,q2,by omega,by simp,by simp,by simp,by simp⟩
 |@l a S=>
  have ha1:(sz.take i)[i-1]?=some a:=ha.1
  have ha2:a<=i:=ha.2.1
  have ha3:1<=a:=ha.2.2.1
  exact⟨⟨1,m⟩,a,0,q1,q2,by omega,by simp,by simp;omega,by simp,by simp⟩
 |@r a S=>
  have ha1:(sz.take i)[i-1]?=some a:=ha.1
  have ha2:a<=i:=ha.2.1
  have ha3:1<=a:=ha.2.2.1
  exact⟨⟨2,m⟩,0,a,q1,by rw[q2],by omega,by simp,by simp,by simp;omega,fun _=>⟨by omega,get _ _ (by omega) rfl ha1⟩⟩
 |@b c a S=>
  have ha1:(sz.take i)[i-1]?=some c:=ha.1
  have ha2:c<=i:=ha.2.1
  have ha3:1<=c:=ha.2.2.1
  have hb2:a<=i-c:=ha.2.2.2.2.1
  have hb3:1<=a:=ha.2.2.2.2.2.1
  exact⟨⟨3,m⟩,a,c,q1,by rw[q2];congr 1<;>omega,by omega,by simp,by simp;omega,by simp;omega,fun _=>⟨by omega,get _ _ (by omega) rfl ha1⟩⟩
theorem Q4{b:Nat}(h:b<=3)(st:List al):pM false (.int b) (.tup [.int 1,.int 3]) st=.ok (.bl (decide (b%2=1))) st:=by
 obtain rfl|rfl|rfl|rfl:b=0\/b=1\/b=2\/b=3:=by omega
 all_goals rfl
theorem Q5{b:Nat}(h:b<=3)(st:List al):pM false (.int b) (.tup [.int 2,.int 3]) st=.ok (.bl (decide (2<=b))) st:=by
 obtain rfl|rfl|rfl|rfl:b=0\/b=1\/b=2\/b=3:=by omega
 all_goals rfl
theorem IY{p:Pl}(h:p.b<=3)(st:List al):qc [p.w] st=.ok (.bl (decide (p.b%2=1))) st:=by
 have:=Q4 h st
 have i0:bO p.w (.int 0) st=.ok (.int p.b) st:=rfl
 apply db
 apply bM
 ·(walk_at "evs")
 ·exact⟨_,_,rfl,rfl,rfl⟩
theorem FV{p:Pl}(h:p.b<=3)(st:List al):qd [p.w] st=.ok (.bl (decide (2<=p.b))) st:=by
 have:=Q5 h st
 have i0:bO p.w (.int 0) st=.ok (.int p.b) st:=rfl
 apply db
 apply bM
 ·(walk_at "evs")
 ·exact⟨_,_,rfl,rfl,rfl⟩
def oW:Option Nat->W
 |none=>.non
 |some k=>.int k
def iu(x:Option Nat×Option Nat):W:=.tup [oW x.1,oW x.2]
def iA:List Nat->Nat->List Nat
 |[],_=>[]
 |a::S,n=>(n-1)::iA S (n-a)
theorem gU:∀(S:List Nat) (n:Nat),(iA S n).length=S.length
 |[],_=>rfl
 |a::S,n=>by simp[iA,gU S]
theorem At.le{sz:List Nat}:∀{S:List Nat} {n:Nat},At sz S n->S.length<=n
 |[],_,_=>ca _
 |a::S,n,⟨_,h2,h3,h4⟩=>by have:=At.le h4;simp;omega
theorem St.det{n:Nat}{S S1 S2:List Nat}{b k1 k2:Nat}{x1 x2:Option Nat×Option Nat}(h1:St n S b S1 k1 x1)(h2:St n S b S2 k2 x2):S1=S2/\k1=k2/\x1=x2:=by
 cases h1<;>cases h2<;>exact⟨rfl,rfl,rfl⟩
theorem Gr.det{ps:List Pl}{S sz:List Nat}{lk:List (Option Nat×Option Nat)}(h:Gr ps S sz lk):∀{RP:List Pl} {S' TL:List Nat} {OI:List (Option Nat×Option Nat)},Gr RP S' TL OI->ps=RP->S=S':=by
 induction h with
 |nil=>
  intro RP S' TL OI h' e
  cases h' with
  |nil=>rfl
  |snoc _ _=>simp at e
 |snoc hg hs ih=>
  intro RP S' TL OI h' e
  cases h' with
  |nil=>simp at e
  |snoc hg' hs'=>
   have e2:=List.append_inj' e rfl
   have:=ih hg' e2.1
   subst this
   have e3:Pl.mk _ _=Pl.mk _ _:=List.head_eq_of_cons_eq e2.2
   injection e3 with eb em
   subst eb
   rw[<- e2.1]at hs'
   exact(hs.det hs').1
def gD(l:List Nat):List W:=l.map fun k:Nat=>W.int k
section
variable{ps:List Pl}{S sz:List Nat}{lk:List (Option Nat×Option Nat)}
theorem FW(h:Gr ps S sz lk)(hn:ps.length<=1000)(st:List al):yv [iz ps] st=.ok (.tup (lk.map iu)) st:=by
 obtain⟨l1,l2,_⟩:=h.ok
 have hu:∀(l:List (Option Nat×Option Nat)) (n:Nat),undWs n (l.map iu)=true:=by
  intro l n
  induction l with
  |nil=>rfl
  |cons x r ih=>
   obtain⟨a,b⟩:=x
   simp only[aN,undWs,ih,eD,iu,W.und]
   cases a<;>cases b<;>rfl
 refine hJ (N:=7) (ws:=[iz ps]) (body:=Ky) ?_ (by simp[undWs,W.und,hu])
 apply aB
 ·(walk_at "evs")
 apply aB
 ·(walk_at "evs")
 rw[show(st++[al.lst []]).length=st.length+1 by simp,show st++[al.lst []]++[al.lst []]=st++[al.lst [],al.lst []] by simp]
 refine dH (fun i ρ bu=>∃(S1:List Nat) (o3 o4 o5 o6:Option W),ρ=[some (iz ps),some (.loc st.length),some (.loc (st.length+1)),o3,o4,o5,o6]/\bu=st++[.lst ((lk.take i).map iu),.lst (gD (iA S1 i).reverse)]/\Gr (ps.take i) S1 (sz.take i) (lk.take i)/\i<=ps.length) (k:=(nN (ps.map Pl.w),none))
  (by show vL (ao (ah 0) aK) _ _=_;unfold vL;rfl) ⟨[],none,none,none,none,rfl,rfl,.nil,ca _⟩ (fun _ _ _ _=>trivial) ?_ ?_
 ·rintro i w ρ bu hw ⟨S1,o3,o4,o5,o6,rfl,rfl,hg,hi⟩
  obtain⟨y,hy,rfl⟩:=uP hw
  have hip:i<ps.length:=by have:=(ai.mp hy).1;simpa using this
  obtain⟨S1',S2,p,k,x,g1,q1,q2,q3,hs,g2⟩:=h.step i hip
  rw[aD,q1]at hy
  cases hy
  refine⟨_,rfl,?_⟩
  have hS:=hg.det g1 rfl
  subst hS
  obtain⟨lz,ll,ha⟩:=g1.ok
  have hti:(ps.take i).length=i:=by rw[aV];omega
  rw[hti]at ha lz ll
  have hSl:=ha.le
  obtain⟨p',L,R,q1',q2',_,hb3,hL,hR,_⟩:=h.cut hip
  rw[q1]at q1';cases q1'
  have hlk:lk.take (i+1)=lk.take i++[x]:=by rw[iN,q3];rfl
  have hrt:=fun st=>FV (p:=p) hb3 st
  have hlf:=fun st=>IY (p:=p) hb3 st
  have pop:∀(A:List W) (B:List Nat) (q:Nat),pW (.loc (st.length+1)) [] (st++[.lst A,.lst (gD (q::B).reverse)])=.ok (.int q) (st++[.lst A,.lst (gD B.reverse)]):=fun A B q=>by
   have hc:(st++[al.lst A,.lst (gD (q::B).reverse)])[st.length+1]?=some (.lst (gD B.reverse++[.int q])):=by rw[i7];simp[gD]
   rw[EW hc,lP];rfl
  have isl:∀(A:List W) (B:List W),lK (st++[.lst A,.lst B]) (.loc (st.length+1))=true:=fun A B=>fH (by rw[i7];rfl)
  have isl0:∀(A:List W) (B:List W),lK (st++[.lst A,.lst B]) (.loc st.length)=true:=fun A B=>fH (by rw[dS];rfl)
  have app:∀(A:List W) (B:List Nat) (q:Nat),B.length<1000->cy (.loc (st.length+1)) [.int q] (st++[.lst A,.lst (gD B.reverse)])=.ok .non (st++[.lst A,.lst (gD (q::B).reverse)]):=fun A B q hB=>by
   have hc:(st++[al.lst A,.lst (gD B.reverse)])[st.length+1]?=some (.lst (gD B.reverse)):=by rw[i7];rfl
   rw[lS hc (by simp[gD];show _<1000000;omega),lP]
   simp[gD]
  have app0:∀(B:List W) (w:W),cy (.loc st.length) [w] (st++[.lst ((lk.take i).map iu),.lst B])=.ok .non (st++[.lst ((lk.take i).map iu++[w]),.lst B]):=fun B w=>by
   have hc:(st++[al.lst ((lk.take i).map iu),.lst B])[st.length]?=some (.lst ((lk.take i).map iu)):=by rw[dS];rfl
   rw[lS hc (by simp;show _<1000000;omega),eX];rfl
  have lE:∀(o3 o4 o5 o6:Option W) (B:List Nat),B=iA S2 (i+1)->Dy (fun ρ bu=>∃(S1:List Nat) (o3 o4 o5 o6:Option W),ρ=[some (iz ps),some (.loc st.length),some (.loc (st.length+1)),o3,o4,o5,o6]/\bu=st++[.lst ((lk.take (i+1)).map iu),.lst (gD (iA S1 (i+1)).reverse)]/\Gr (ps.take (i+1)) S1 (sz.take (i+1)) (lk.take (i+1))/\i+1<=ps.length)
    (.nx [some (iz ps),some (.loc st.length),some (.loc (st.length+1)),o3,o4,o5,o6] (st++[.lst ((lk.take i).map iu++[iu x]),.lst (gD B.reverse)])):=by
   rintro o3 o4 o5 o6 B rfl
   exact⟨_,_,rfl,S2,_,_,_,_,rfl,by rw[hlk];simp,g2,by omega⟩
  obtain⟨b,m⟩:=p
  have hiS:∀T:List Nat,T.length<=i->(iA T i).length<1000:=fun T hT=>by rw[gU];omega
  cases hs with
  |@z=>
   have hr:qd [(Pl.mk 0 m).w]=fun st=>.ok (.bl false) st:=funext hrt
   have hl:qc [(Pl.mk 0 m).w]=fun st=>.ok (.bl false) st:=funext hlf
   have a1:=app ((lk.take i).map iu) (iA S1 i) i (hiS _ hSl)
   have a2:=app0 (gD (i::iA S1 i).reverse) (.tup [.non,.non])
   apply aB
   ·apply bg
    apply uZ
    ·(repeat' (first|with_reducible exact jp hr _|walk_at "ev1"))
    ·(walk_at "evs")
   apply aB
   ·apply bg
    apply uZ
    ·(repeat' (first|with_reducible exact jp hl _|walk_at "ev1"))
    ·(walk_at "evs")
   apply aB
   ·(repeat' (first|with_reducible exact isl _ _|walk_at "ev1"))
   apply cS
   ·(repeat' (first|with_reducible exact isl0 _ _|walk_at "ev1"))
   ·exact lE _ _ _ _ (i::iA S1 i) rfl
  |@l a S=>
   have hr:qd [(Pl.mk 1 m).w]=fun st=>.ok (.bl false) st:=funext hrt
   have hl:qc [(Pl.mk 1 m).w]=fun st=>.ok (.bl true) st:=funext hlf
   have hSl':S.length<=i:=by simp at hSl;omega
   have p1:=pop ((lk.take i).map iu) (iA S (i-a)) (i-1)
   have a1:=app ((lk.take i).map iu) (iA S (i-a)) i (by rw[gU];omega)
   have a2:=app0 (gD (i::iA S (i-a)).reverse) (.tup [.int (i-1:Nat),.non])
   apply aB
   ·apply bg
    apply uZ
    ·(repeat' (first|with_reducible exact jp hr _|walk_at "ev1"))
    ·(walk_at "evs")
   apply aB
   ·apply bg
    apply uY
    ·(repeat' (first|with_reducible exact jp hl _|walk_at "ev1"))
    ·exact jz kv (isl _ _) bG p1
   apply aB
   ·(repeat' (first|with_reducible exact isl _ _|walk_at "ev1"))
   apply cS
   ·(repeat' (first|with_reducible exact isl0 _ _|walk_at "ev1"))
   ·exact lE _ _ _ _ (i::iA S (i-a)) (by simp only[iA];congr 1;congr 1;omega)
  |@r a S=>
   have hr:qd [(Pl.mk 2 m).w]=fun st=>.ok (.bl true) st:=funext hrt
   have hl:qc [(Pl.mk 2 m).w]=fun st=>.ok (.bl false) st:=funext fun st=>(hlf st).trans (by rw[show decide ((Pl.mk 2 m).b%2=1)=false from by simp])
   have hSl':S.length<=i:=by simp at hSl;omega
   have p1:=pop ((lk.take i).map iu) (iA S (i-a)) (i-1)
   have a1:=app ((lk.take i).map iu) (iA S (i-a)) i (by rw[gU];omega)
   have a2:=app0 (gD (i::iA S (i-a)).reverse) (.tup [.non,.int (i-1:Nat)])
   apply aB
   ·apply bg
    apply uY
    ·(repeat' (first|with_reducible exact jp hr _|walk_at "ev1"))
    ·exact jz kv (isl _ _) bG p1
   apply aB
   ·apply bg
    apply uZ
    ·(repeat' (first|with_reducible exact jp hl _|walk_at "ev1"))
    ·(walk_at "evs")
   apply aB
   ·(repeat' (first|with_reducible exact isl _ _|walk_at "ev1"))
   apply cS
   ·(repeat' (first|with_reducible exact isl0 _ _|walk_at "ev1"))
   ·exact lE _ _ _ _ (i::iA S (i-a)) (by simp only[iA];congr 1;congr 1;omega)
  |@b c a S=>
   have hr:qd [(Pl.mk 3 m).w]=fun st=>.ok (.bl true) st:=funext hrt
   have hl:qc [(Pl.mk 3 m).w]=fun st=>.ok (.bl true) st:=funext fun st=>(hlf st).trans (by rw[show decide ((Pl.mk 3 m).b%2=1)=true from by simp])
   have hSl':S.length<=i:=by simp at hSl;omega
   have hca:(i-c-1)=(i-1-c):=by omega
   have p1:=pop ((lk.take i).map iu) ((i-1-c)::iA S (i-c-a)) (i-1)
   have p2:=pop ((lk.take i).map iu) (iA S (i-c-a)) (i-1-c)
   have a1:=app ((lk.take i).map iu) (iA S (i-c-a)) i (by rw[gU];omega)
   have a2:=app0 (gD (i::iA S (i-c-a)).reverse) (.tup [.int (i-1-c:Nat),.int (i-1:Nat)])
   have ht:iA (c::a::S) i=(i-1)::(i-1-c)::iA S (i-c-a):=by simp only[iA,hca]
   rw[ht]
   apply aB
   ·apply bg
    apply uY
    ·(repeat' (first|with_reducible exact jp hr _|walk_at "ev1"))
    ·exact jz kv (isl _ _) bG p1
   apply aB
   ·apply bg
    apply uY
    ·(repeat' (first|with_reducible exact jp hl _|walk_at "ev1"))
    ·exact jz kv (isl _ _) bG p2
   apply aB
   ·(repeat' (first|with_reducible exact isl _ _|walk_at "ev1"))
   apply cS
   ·(repeat' (first|with_reducible exact isl0 _ _|walk_at "ev1"))
   ·exact lE _ _ _ _ (i::iA S (i-c-a)) (by simp only[iA];congr 1;congr 1;omega)
 ·rintro ρ bu ⟨S1,o3,o4,o5,o6,rfl,rfl,hg,hi⟩
  have eR:(nN (ps.map Pl.w)).length=ps.length:=by simp[nN]
  have hc:(st++[al.lst ((lk.take (nN (ps.map Pl.w),(none:Option (Nat×List W))).1.length).map iu),.lst (gD (iA S1 (nN (ps.map Pl.w),(none:Option (Nat×List W))).1.length).reverse)])[st.length]?=some (.lst (lk.map iu)):=by
   rw[dS]
   show some (al.lst ((lk.take (nN (ps.map Pl.w)).length).map iu))=_
   rw[eR,bz (by omega)]
  apply bM
  ·(repeat' (first|with_reducible exact lh (bT hc)|walk_at "ev1"))
  ·exact⟨_,_,rfl,rfl,_,rfl⟩
end
theorem Aq(t:List Pl)(n:Nat):(iz t).und n=true:=by
 unfold iz W.und
 induction t with
 |nil=>rfl
 |cons x r ih=>simp only[aN,undWs,ih,eD];simp[Pl.w,W.und,undWs]
theorem qT(a:List Pl)(st:List al):e7 [iz a] st=.ok (.int a.length) st:=by
 unfold iz
 rw[qJ,ar]
theorem BI{a:List Pl}{q:Nat}{p:Pl}(h:a[q]?=some p)(st:List al):bO (iz a) (.int q) st=.ok p.w st:=oU (ic (by simp[h]))
theorem Q6(p:Pl)(st:List al):bO p.w (.int 1) st=.ok (.str p.m) st:=rfl
theorem NH(p:Pl)(st:List al):bO p.w (.int 0) st=.ok (.int p.b) st:=rfl
section
variable{ps:List Pl}{S sz:List Nat}{lk:List (Option Nat×Option Nat)}
theorem C7(h:Gr ps S sz lk)(hn:ps.length<=1000)(st:List al):∃x,(∃A,x=[al.lst A,.lst (lk.map iu)])/\yE [iz ps] st=.ok (.loc (st.length+1)) (st++x):=by
 obtain⟨l1,l2,_⟩:=h.ok
 suffices hh:iP (wP fun w bu=>∃j x,w=.loc (st.length+j)/\bu=st++x/\j=1/\∃A,x=[al.lst A,.lst (lk.map iu)]) (KJ ([iz ps].map some++List.replicate (6-1) none) st) by
  obtain⟨j,x,⟨rfl,h1⟩,e⟩:=oz hh
  exact⟨x,h1,e⟩
 apply aB
 ·(walk_at "evs")
 apply aB
 ·(walk_at "evs")
 rw[show(st++[al.lst []]).length=st.length+1 by simp,show st++[al.lst []]++[al.lst []]=st++[al.lst [],al.lst []] by simp]
 refine dH (fun i ρ bu=>∃(S1:List Nat) (o3 o4 o5:Option W),ρ=[some (iz ps),some (.loc st.length),some (.loc (st.length+1)),o3,o4,o5]/\bu=st++[.lst (gD (iA S1 i).reverse),.lst ((lk.take i).map iu)]/\Gr (ps.take i) S1 (sz.take i) (lk.take i)/\i<=ps.length)
  (e_ (q:=(ps.length:Int)) (st1:=st++[al.lst [],al.lst []]) (aC (cP kn (qT ps _)) bG) (by omega)) ⟨[],none,none,none,rfl,rfl,.nil,ca _⟩ (fun _ _ _ _=>trivial) ?_ ?_
 ·rintro i w ρ bu hw ⟨S1,o3,o4,o5,rfl,rfl,hg,hi⟩
  obtain⟨hip,rfl⟩:=gT hw
  rw[aO]at hip
  obtain⟨S1',S2,p,k,x,g1,q1,q2,q3,hs,g2⟩:=h.step i hip
  refine⟨_,rfl,?_⟩
  have hS:=hg.det g1 rfl
  subst hS
  obtain⟨lz,ll,ha⟩:=g1.ok
  have hti:(ps.take i).length=i:=by rw[aV];omega
  rw[hti]at ha lz ll
  have hSl:=ha.le
  have hlk:lk.take (i+1)=lk.take i++[x]:=by rw[iN,q3];rfl
  have it:∀s:List al,bO (iz ps) (.int (0+(i:Int))) s=.ok p.w s:=fun s=>by rw[eV];exact BI q1 s
  have pop:∀(A:List W) (B:List Nat) (q:Nat),pW (.loc st.length) [] (st++[.lst (gD (q::B).reverse),.lst A])=.ok (.int q) (st++[.lst (gD B.reverse),.lst A]):=fun A B q=>by
   have hc:(st++[al.lst (gD (q::B).reverse),.lst A])[st.length]?=some (.lst (gD B.reverse++[.int q])):=by rw[dS];simp[gD]
   rw[EW hc,eX];rfl
  have isl:∀(A:List W) (B:List W),lK (st++[.lst A,.lst B]) (.loc (st.length+1))=true:=fun A B=>fH (by rw[i7];rfl)
  have isl0:∀(A:List W) (B:List W),lK (st++[.lst A,.lst B]) (.loc st.length)=true:=fun A B=>fH (by rw[dS];rfl)
  have app:∀(A:List W) (B:List Nat),B.length<1001->cy (.loc st.length) [.int (0+(i:Int))] (st++[.lst (gD B.reverse),.lst A])=.ok .non (st++[.lst (gD (i::B).reverse),.lst A]):=fun A B hB=>by
   have hc:(st++[al.lst (gD B.reverse),.lst A])[st.length]?=some (.lst (gD B.reverse)):=by rw[dS];rfl
   rw[lS hc (by simp[gD];show _<1000000;omega),eX]
   simp[gD]
  have app1:∀(B:List W) (w:W),cy (.loc (st.length+1)) [w] (st++[.lst B,.lst ((lk.take i).map iu)])=.ok .non (st++[.lst B,.lst ((lk.take i).map iu++[w])]):=fun B w=>by
   have hc:(st++[al.lst B,.lst ((lk.take i).map iu)])[st.length+1]?=some (.lst ((lk.take i).map iu)):=by rw[i7];rfl
   rw[lS hc (by simp;show _<1000000;omega),lP];rfl
  have T1:∀(k:Bool) (ρ:bW) (s:List al),decide ((2:Int)<=(p.b:Int))=k->ρ[0]?=some (some (iz ps))->ρ[3]?=some (some (.int (0+(i:Int))))->dv (e2 JL (e2 bO (e2 bO (ah 0) (ah 3)) (eI 0)) (eI 2)) ρ s=.ok k s:=fun k ρ s e h0 h3=>cu (bQ (bQ (bQ (d9 h0) (d9 h3) (it s)) cC (NH p s)) cC (By e))
  have T2:∀(k:Bool) (ρ:bW) (s:List al),(((p.b:Int)%2)==1)=k->ρ[0]?=some (some (iz ps))->ρ[3]?=some (some (.int (0+(i:Int))))->dv (e2 gP (e2 gR (e2 bO (e2 bO (ah 0) (ah 3)) (eI 0)) (eI 2)) (eI 1)) ρ s=.ok k s:=fun k ρ s e h0 h3=>cu (bQ (bQ (bQ (bQ (d9 h0) (d9 h3) (it s)) cC (NH p s)) cC (gr (by decide))) cC (im e))
  have lE:∀(o3 o4 o5:Option W) (B:List Nat),i::B=iA S2 (i+1)->Dy (fun ρ bu=>∃(S1:List Nat) (o3 o4 o5:Option W),ρ=[some (iz ps),some (.loc st.length),some (.loc (st.length+1)),o3,o4,o5]/\bu=st++[.lst (gD (iA S1 (i+1)).reverse),.lst ((lk.take (i+1)).map iu)]/\Gr (ps.take (i+1)) S1 (sz.take (i+1)) (lk.take (i+1))/\i+1<=ps.length)
    (.nx [some (iz ps),some (.loc st.length),some (.loc (st.length+1)),o3,o4,o5] (st++[.lst (gD (i::B).reverse),.lst ((lk.take i).map iu++[iu x])])):=by
   rintro o3 o4 o5 B e
   exact⟨_,_,rfl,S2,_,_,_,rfl,by rw[hlk,e];simp,g2,by omega⟩
  have put:∀(lw lD:W) (o3:Option W) (B:List Nat),o3=some (.int (0+(i:Int)))->B.length<1001->iu x=.tup [lw,lD]->i::B=iA S2 (i+1) ->
    iP (Dy (fun ρ bu=>∃(S1:List Nat) (o3 o4 o5:Option W),ρ=[some (iz ps),some (.loc st.length),some (.loc (st.length+1)),o3,o4,o5]/\bu=st++[.lst (gD (iA S1 (i+1)).reverse),.lst ((lk.take (i+1)).map iu)]/\Gr (ps.take (i+1)) S1 (sz.take (i+1)) (lk.take (i+1))/\i+1<=ps.length))
     (aT (gp (oR cy (ah 2) (ao (mq (ao (ah 4) (ao (ah 5) aK))) aK))) (gp (oR cy (ah 1) (ao (ah 3) aK))) [some (iz ps),some (.loc st.length),some (.loc (st.length+1)),o3,some lw,some lD] (st++[.lst (gD B.reverse),.lst ((lk.take i).map iu)])):=by
   intro lw lD o3 B e3 hB hx hT
   subst e3
   have a1:=app1 (gD B.reverse) (.tup [lw,lD])
   have a2:=app ((lk.take i).map iu++[.tup [lw,lD]]) B hB
   have ff:=lE (some (.int (0+(i:Int)))) (some lw) (some lD) B hT
   rw[hx]at ff
   apply aB
   ·exact iU (jz kv (isl _ _) (aC (p9 (aC kv kn) (bC rfl)) bG) a1)
   apply cS
   ·exact iU (jz kv (isl0 _ _) kn a2)
   ·exact ff
  apply aB
  ·exact bg cC
  apply aB
  ·exact bg cC
  obtain⟨b,m⟩:=p
  cases hs with
  |@z=>
   apply a9
   ·exact T1 false _ _ rfl rfl rfl
   apply br
   apply a9
   ·exact T2 false _ _ rfl rfl rfl
   apply br
   exact put _ _ _ (iA S1 i) rfl (by rw[gU];omega) rfl rfl
  |@l a S=>
   apply a9
   ·exact T1 false _ _ rfl rfl rfl
   apply br
   apply aB
   ·exact gK (T2 true _ _ rfl rfl rfl) (bg (jz kv (isl0 _ _) bG (pop _ (iA S (i-a)) (i-1))))
   exact put _ _ _ (iA S (i-a)) rfl (by rw[gU];simp at hSl;omega) rfl (by simp only[iA];congr 1;congr 1;omega)
  |@r a S=>
   apply aB
   ·exact gK (T1 true _ _ rfl rfl rfl) (bg (jz kv (isl0 _ _) bG (pop _ (iA S (i-a)) (i-1))))
   apply a9
   ·exact T2 false _ _ (by show((2:Int)%2==1)=false;decide) rfl rfl
   apply br
   exact put _ _ _ (iA S (i-a)) rfl (by rw[gU];simp at hSl;omega) rfl (by simp only[iA];congr 1;congr 1;omega)
  |@b c a S=>
   apply aB
   ·exact gK (T1 true _ _ rfl rfl rfl) (bg (jz kv (isl0 _ _) bG (pop _ (iA (a::S) (i-c)) (i-1))))
   apply aB
   ·exact gK (T2 true _ _ (by show((3:Int)%2==1)=true;decide) rfl rfl) (bg (jz kv (isl0 _ _) bG (pop _ (iA S (i-c-a)) (i-c-1))))
   exact put _ _ _ (iA S (i-c-a)) rfl (by rw[gU];simp at hSl;omega) (by show W.tup [.int ((i-1-c:Nat):Int),_]=_;rw[show i-1-c=i-c-1 by omega];rfl) (by simp only[iA];congr 1;congr 1;omega)
 ·rintro ρ bu ⟨S1,o3,o4,o5,rfl,rfl,hg,hi⟩
  rw[show(ce 0 (ps.length:Int).toNat,(none:Option (Nat×List W))).fst.length=lk.length by rw[l2];simp[cr],cX]
  apply bM
  ·(walk_at "evs")
  ·exact⟨_,_,rfl,1,_,rfl,rfl,rfl,_,rfl⟩
end
theorem FX{c:Nat}{l:List Nat}{st:List al}:pM false (.str [c]) (.str l) st=.ok (.bl (decide (c∈l))) st:=rfl
theorem mJ{fe:FE}{ρ:bW}{st st1:List al}{l:List Nat}(h:fe ρ st=.ok (.str l) st1):eG fe ρ st=.ok (dC l,none) st1:=by unfold eG;rw[h];rfl
theorem nY{l:List Nat}{i:Nat}{w:W}(h:(dC l)[i]?=some w):∃c,l[i]?=some c/\w=.str [c]:=by
 simp only[dC,aD,eU]at h
 obtain⟨c,h1,rfl⟩:=h
 exact⟨c,h1,rfl⟩
theorem f6(l:List Nat):(dC l).length=l.length:=by simp[dC]
theorem j9{α:Type}{l:List α}{i:Nat}{c:α}(h:l[i]?=some c):l.take (i+1)=l.take i++[c]:=by
 rw[List.take_succ,h];rfl
def R9(m:List Nat):List Nat->Nat
 |[]=>0
 |c::r=>R9 m r+(if c∈m then 2^r.length else 0)
theorem NI(m:List Nat):∀l:List Nat,R9 m l<2^l.length
 |[]=>by simp[R9]
 |c::r=>by
  have:=NI m r
  unfold R9;rw[de,m5]
  split<;>omega
def iE(m:List Nat)(l:List Nat):Nat:=l.foldl (fun a c=>2*a+if c∈m then 1 else 0) 0
theorem qU(m l:List Nat)(c:Nat):iE m (l++[c])=2*iE m l+if c∈m then 1 else 0:=by unfold iE;rw[List.foldl_append];rfl
theorem BJ(m:List Nat)(l:List Nat):iE m l<2^l.length:=by
 have key:∀(l:List Nat) (a k:Nat),a<2^k->l.foldl (fun a c=>2*a+if c∈m then 1 else 0) a<2^(k+l.length):=by
  intro l
  induction l with
  |nil=>intro a k h;simpa using h
  |cons c r ih=>
   intro a k h
   have:=ih (2*a+if c∈m then 1 else 0) (k+1) (by rw[m5];split<;>omega)
   rw[jI,de,show k+(r.length+1)=k+1+r.length by omega];exact this
 have:=key l 0 0 (by simp)
 simpa[iE]using this
theorem NJ{m m' l:List Nat}(h:∀c∈l,c∈m↔c∈m'):iE m l=iE m' l:=by
 have key:∀(l:List Nat) (a:Nat),(∀c∈l,c∈m↔c∈m')->l.foldl (fun a c=>2*a+if c∈m then 1 else 0) a=l.foldl (fun a c=>2*a+if c∈m' then 1 else 0) a:=by
  intro l
  induction l with
  |nil=>intro a _;rfl
  |cons c r ih=>
   intro a h
   rw[jI,jI,ih _ fun c hc=>h c (by simp[hc])]
   congr 2
   by_cases hc:c∈m
   ·rw[aq hc,aq ((h c (by simp)).mp hc)]
   ·rw[ax hc,ax fun z=>hc ((h c (by simp)).mpr z)]
 exact key l 0 h
theorem C8(names m:List Nat)(st:List al):FH [.str names,.str m] st=.ok (.int (iE m names:Nat)) st:=by
 refine hJ (N:=4) (ws:=[.str names,.str m]) (body:=QB) ?_ rfl
 apply aB
 ·(walk_at "evs")
 refine dH (fun i ρ s=>∃o3:Option W,ρ=[some (.str names),some (.str m),some (.int (iE m (names.take i):Nat)),o3]/\s=st) (mJ (st1:=st) kv) ⟨none,rfl,rfl⟩ (fun _ _ _ _=>trivial) ?_ ?_
 ·rintro i w ρ s hw ⟨o3,rfl,rfl⟩
  obtain⟨c,hc,rfl⟩:=nY hw
  refine⟨_,rfl,?_⟩
  have e:=qU m (names.take i) c
  rw[<- j9 hc]at e
  apply aB
  ·exact bg (bQ kv cC (tq (.inr (by decide))))
  by_cases h:c∈m
  ·have t1:decide (c∈m)=true:=aQ h
   rw[aq h]at e
   apply nS
   ·exact cu (bQ kv kv (by rw[FX,t1]))
   apply cS
   ·exact bg (bQ kv cC mF)
   ·exact⟨_,_,rfl,_,by rw[e,nz,ib,m3];rfl,rfl⟩
  ·have t1:decide (c∈m)=false:=aG h
   rw[ax h]at e
   apply kK
   ·exact cu (bQ kv kv (by rw[FX,t1]))
   apply cS
   ·exact tm
   ·exact⟨_,_,rfl,_,by rw[e,nz,ib,m3];rfl,rfl⟩
 ·rintro ρ s ⟨o3,rfl,rfl⟩
  apply bM
  ·(walk_at "evs")
  ·exact⟨_,_,rfl,by rw[show(dC names,(none:Option (Nat×List W))).fst.length=names.length from f6 names,cX],[],by simp⟩
theorem Ar(names m:List Nat)(st:List al):vb [.str names,.str m] st=.ok (.int (iE m names:Nat)) st:=by
 refine hJ (N:=4) (ws:=[.str names,.str m]) (body:=KO) ?_ rfl
 apply aB
 ·(walk_at "evs")
 refine dH (fun i ρ s=>∃o3:Option W,ρ=[some (.str names),some (.str m),some (.int (iE m (names.take i):Nat)),o3]/\s=st) (mJ (st1:=st) kv) ⟨none,rfl,rfl⟩ (fun _ _ _ _=>trivial) ?_ ?_
 ·rintro i w ρ s hw ⟨o3,rfl,rfl⟩
  obtain⟨c,hc,rfl⟩:=nY hw
  refine⟨_,rfl,?_⟩
  have e:=qU m (names.take i) c
  rw[<- j9 hc]at e
  have bi:Eo [.bl (decide (c∈m))] s=.ok (.int ((if c∈m then 1 else 0:Nat):Int)) s:=by
   by_cases h:c∈m
   ·rw[aQ h,aq h];rfl
   ·rw[aG h,ax h];rfl
  apply cS
  ·exact bg (bQ (bQ cC kv (tq (.inl (by decide)))) (cP (aC (bQ kv kv FX) bG) bi) mF)
  ·exact⟨_,_,rfl,_,by rw[e,nz,ib];rfl,rfl⟩
 ·rintro ρ s ⟨o3,rfl,rfl⟩
  apply bM
  ·(walk_at "evs")
  ·exact⟨_,_,rfl,by rw[show(dC names,(none:Option (Nat×List W))).fst.length=names.length from f6 names,cX],[],by simp⟩
def uo(r:List Nat):Option Nat->Nat
 |none=>0
 |some k=>r.getD k 0
def uq(M:Mc)(r:List Nat)(m:List Nat)(x:Option Nat×Option Nat):Nat:=((M.tb.getD (iE m M.nm) []).getD (uo r x.1) []).getD (uo r x.2) 0
def NK(M:Mc):List Pl->List (Option Nat×Option Nat)->List Nat->List Nat
 |p::ps,x::xs,r=>NK M ps xs (r++[uq M r p.m x])
 |_,_,r=>r
def IZ(n:Nat)(x:Option Nat×Option Nat):Prop:=(∀k,x.1=some k->k<n)/\∀k,x.2=some k->k<n
theorem yM(r:List Nat)(o:Option Nat)(p:Nat)(st:List al)(hc:st[p]?=some (.lst (nW r)))(ho:∀k,o=some k->k<r.length):u9 [.loc p,oW o] st=.ok (.int (uo r o:Nat)) st:=by
 cases o with
 |none=>
  apply db
  apply bM
  ·exact uY (cu (ET kv rfl)) cC
  ·exact⟨_,_,rfl,rfl,rfl⟩
 |some k=>
  have hk:=ho k rfl
  have e:r[k]?=some (r.getD k 0):=by rw[av,ae hk];rfl
  apply db
  apply bM
  ·exact uZ (cu (ET kv rfl)) (bQ kv kv (BH hc e))
  ·exact⟨_,_,rfl,rfl,rfl⟩
theorem Gr.lk{ps:List Pl}{S sz:List Nat}{lk:List (Option Nat×Option Nat)}(h:Gr ps S sz lk){i:Nat}{x:Option Nat×Option Nat}(hx:lk[i]?=some x):IZ i x:=by
 obtain⟨_,l2,_⟩:=h.ok
 have hi:i<ps.length:=by have:=(ai.mp hx).1;omega
 obtain⟨S1,S2,p,k,x',g1,q1,q2,q3,hs,g2⟩:=h.step i hi
 rw[hx]at q3;cases q3
 obtain⟨_,_,ha⟩:=g1.ok
 rw[show(ps.take i).length=i by rw[aV];omega]at ha
 obtain⟨b,m⟩:=p
 cases hs with
 |z=>exact⟨fun k e=>by simp at e,fun k e=>by simp at e⟩
 |@l a S=>have:=ha.2.1;have:=ha.2.2.1;exact⟨fun k e=>by simp at e;omega,fun k e=>by simp at e⟩
 |@r a S=>have:=ha.2.1;have:=ha.2.2.1;exact⟨fun k e=>by simp at e,fun k e=>by simp at e;omega⟩
 |@b c a S=>have:=ha.2.1;have:=ha.2.2.1;exact⟨fun k e=>by simp at e;omega,fun k e=>by simp at e;omega⟩
theorem yN(M:Mc)(p:Pl)(x:Option Nat×Option Nat):∀(ps:List Pl) (lk:List (Option Nat×Option Nat)) (r:List Nat),ps.length=lk.length->NK M (ps++[p]) (lk++[x]) r=NK M ps lk r++[uq M (NK M ps lk r) p.m x]
 |[],[],r,_=>rfl
 |q::ps,y::lk,r,h=>by
  show NK M (ps++[p]) (lk++[x]) _=_
  rw[yN M p x ps lk _ (by simpa using h)];rfl
 |[],_::_,_,h=>by simp at h
 |_::_,[],_,h=>by simp at h
def d_(M:Mc)(ps:List Pl)(lk:List (Option Nat×Option Nat)):List Nat:=NK M ps lk []
theorem wu{n:Nat}{r:List Nat}{o:Option Nat}(hn:1<=n)(hr:∀k∈r,k<n)(ho:∀k,o=some k->k<r.length):uo r o<n:=by
 cases o with
 |none=>exact hn
 |some k=>
  have hk:=ho k rfl
  have e:r[k]?=some (r.getD k 0):=by rw[av,ae hk];rfl
  exact hr _ (aY e)
theorem As{M:Mc}{n:Nat}{r:List Nat}{m:List Nat}{x:Option Nat×Option Nat}(hM:Ap M n)(hn:1<=n)(hr:∀k∈r,k<n)(hx:IZ r.length x) :
  ∃t q,M.tb[iE m M.nm]?=some t/\t[uo r x.1]?=some q/\q[uo r x.2]?=some (uq M r m x)/\uq M r m x<n:=by
 have h1:iE m M.nm<M.tb.length:=by rw[hM.tb];exact BJ m M.nm
 have e1:M.tb[iE m M.nm]?=some (M.tb.getD (iE m M.nm) []):=by rw[av,ae h1];rfl
 obtain⟨t1,t2⟩:=hM.t _ (aY e1)
 have h2:uo r x.1<(M.tb.getD (iE m M.nm) []).length:=by rw[t1];exact wu hn hr hx.1
 have e2:(M.tb.getD (iE m M.nm) [])[uo r x.1]?=some ((M.tb.getD (iE m M.nm) []).getD (uo r x.1) []):=by rw[av (l:=M.tb.getD (iE m M.nm) []),ae h2];rfl
 obtain⟨t3,t4⟩:=t2 _ (aY e2)
 have h3:uo r x.2<((M.tb.getD (iE m M.nm) []).getD (uo r x.1) []).length:=by rw[t3];exact wu hn hr hx.2
 have e3:((M.tb.getD (iE m M.nm) []).getD (uo r x.1) [])[uo r x.2]?=some (uq M r m x):=by unfold uq;rw[av (l:=(M.tb.getD (iE m M.nm) []).getD (uo r x.1) []),ae h3];rfl
 exact⟨_,_,e1,e2,e3,t4 _ (aY e3)⟩
theorem FY{M:Mc}{k:Nat}{t:List (List Nat)}(h:M.tb[k]?=some t)(st:List al):bO (.tup (M.tb.map oH)) (.int k) st=.ok (oH t) st:=oU (ic (by rw[aD,h];rfl))
theorem Q7{M:Mc}{n:Nat}{r:List Nat}{m:List Nat}{x:Option Nat×Option Nat}{p:Nat}(hM:Ap M n)(hn:1<=n)(hr:∀k∈r,k<n)(hx:IZ r.length x)(st:List al)(hc:st[p]?=some (.lst (nW r))) :
  yw [M.w,.str m,iu x,.loc p] st=.ok (.int (uq M r m x:Nat)) st:=by
 obtain⟨t,q,e1,e2,e3,_⟩:=As (m:=m) hM hn hr hx
 have g0:bO M.w (.int 0) st=.ok (.str M.nm) st:=rfl
 have g2:bO M.w (.int 2) st=.ok (.tup (M.tb.map oH)) st:=rfl
 have x0:bO (iu x) (.int 0) st=.ok (oW x.1) st:=rfl
 have x1:bO (iu x) (.int 1) st=.ok (oW x.2) st:=rfl
 have lt:=C8 M.nm m st
 have b1:=yM r x.1 p st hc hx.1
 have b2:=yM r x.2 p st hc hx.2
 apply db
 apply aB
 ·exact bg (bQ (bQ kv cC g2) (cR (aC (bQ kv cC g0) kn) lt rfl) (FY e1 st))
 apply bM
 ·exact bQ (bQ kv (cR (aC kv (aC (bQ kv cC x0) bG)) b1 rfl) (FU e2)) (cR (aC kv (aC (bQ kv cC x1) bG)) b2 rfl) (FR e3)
 ·exact⟨_,_,rfl,rfl,rfl⟩
section
variable{ps:List Pl}{S sz:List Nat}{lk:List (Option Nat×Option Nat)}{M:Mc}{n:Nat}
theorem mK(h:Gr ps S sz lk){i:Nat}{p:Pl}{x:Option Nat×Option Nat}(hp:ps[i]?=some p)(hx:lk[i]?=some x):d_ M (ps.take (i+1)) (lk.take (i+1))=d_ M (ps.take i) (lk.take i)++[uq M (d_ M (ps.take i) (lk.take i)) p.m x]:=by
 obtain⟨_,l2,_⟩:=h.ok
 unfold d_
 rw[j9 hp,j9 hx,yN M p x _ _ _ (by rw[aV,aV,l2])]
theorem mL(h:Gr ps S sz lk)(hM:Ap M n)(hn:1<=n):∀i,i<=ps.length->(d_ M (ps.take i) (lk.take i)).length=i/\∀k∈d_ M (ps.take i) (lk.take i),k<n:=by
 obtain⟨_,l2,_⟩:=h.ok
 intro i
 induction i with
 |zero=>intro _;exact⟨rfl,by simp[d_,NK]⟩
 |succ i ih=>
  intro hi
  obtain⟨h1,h2⟩:=ih (by omega)
  obtain⟨p,hp⟩:∃p,ps[i]?=some p:=⟨_,ae (by omega)⟩
  obtain⟨x,hx⟩:∃x,lk[i]?=some x:=⟨_,ae (by omega)⟩
  obtain⟨_,_,_,_,_,e⟩:=As (m:=p.m) hM hn h2 (by rw[h1];exact h.lk hx)
  rw[mK h hp hx]
  refine⟨by simp[h1],fun k hk=>?_⟩
  rcases bB.mp hk with z|z
  ·exact h2 k z
  ·simp at z;subst z;exact e
theorem NL{a b:List W}{i:Nat}{w:W}(h:(pq a b)[i]?=some w):∃x y,a[i]?=some x/\b[i]?=some y/\w=.tup [x,y]:=sX h
theorem Q8{fs:FA}{ρ:bW}{st st1:List al}{xs ys:List W}(h:fs ρ st=.ok [.tup xs,.tup ys] st1):vR fs ρ st=.ok (pq xs ys,none) st1:=by unfold vR;rw[h];rfl
theorem FZ(h:Gr ps S sz lk)(hl:ps.length<=900)(hM:Ap M n)(hn:1<=n)(st:List al):yx [M.w,iz ps] st=.ok (qf (d_ M ps lk)) st:=by
 obtain⟨_,l2,_⟩:=h.ok
 have lo:=FW h (by omega) (st++[al.lst []])
 refine hJ (N:=5) (ws:=[M.w,iz ps]) (body:=Kz) ?_ (by simp only[undWs,eD];exact BG _ _)
 apply aB
 ·(walk_at "evs")
 refine dH (fun i ρ s=>∃(o3 o4:Option W),ρ=[some M.w,some (iz ps),some (.loc st.length),o3,o4]/\st <+: s/\s[st.length]?=some (.lst (nW (d_ M (ps.take i) (lk.take i))))/\i<=ps.length) (k:=(pq (ps.map Pl.w) (lk.map iu),none))
  (Q8 (st1:=st++[al.lst []]) (aC kv (aC (cR kn lo rfl) bG))) ⟨none,none,rfl,aR _ _,cH,ca _⟩ (fun _ _ _ _=>trivial) ?_ ?_
 ·rintro i w ρ s hw ⟨o3,o4,rfl,hp,hc,hi⟩
  obtain⟨a,b,ha,hb,rfl⟩:=NL hw
  have hip:i<ps.length:=by have:=(ai.mp ha).1;simpa using this
  obtain⟨p,hpp⟩:∃p,ps[i]?=some p:=⟨_,ae hip⟩
  obtain⟨x,hx⟩:∃x,lk[i]?=some x:=⟨_,ae (by omega)⟩
  rw[aD,hpp]at ha;cases ha
  rw[aD,hx]at hb;cases hb
  refine⟨_,rfl,?_⟩
  obtain⟨r1,r2⟩:=mL (M:=M) h hM hn i hi
  have ra:=Q7 (m:=p.m) hM hn r2 (by rw[r1];exact h.lk hx) s hc
  have ap:=wt (y:=.int (uq M (d_ M (ps.take i) (lk.take i)) p.m x:Nat)) hc (by simp[nW];omega)
  apply cS
  ·exact iU (jz kv (fH hc) (aC (cR (aC kv (aC (bQ kv cC (Q6 p s)) (aC kv kn))) ra rfl) bG) ap)
  ·refine⟨_,_,rfl,_,_,rfl,wq hp (ay _),?_,by omega⟩
   rw[Ao hc,mK h hpp hx];simp[nW]
 ·rintro ρ s ⟨o3,o4,rfl,⟨x,rfl⟩,hc,hi⟩
  rw[show(pq (ps.map Pl.w) (lk.map iu),(none:Option (Nat×List W))).fst.length=ps.length by rw[sY];simp[l2],cX,show ps.length=lk.length by omega,cX]at hc
  apply bM
  ·exact cP kn (lh (bT hc))
  ·exact⟨_,_,rfl,rfl,x,rfl⟩
end
theorem Q9(l:List Nat)(k:Nat)(st:List al):kg (k+1) [.str l,.str l] st=.ok (.bl true) st:=by
 refine hJ (N:=3) (ws:=[.str l,.str l]) (body:=yI (kg k)) ?_ rfl
 (walk_at "go")
 apply bM
 ·apply ou
  ·(walk_at "evs")
  ·(walk_at "evs")
 ·exact⟨_,_,rfl,by simp,[],by simp⟩
theorem F0{ws:List W}{k:Nat}{st:List al}(hl:ws.length<=1000)(h:∀w∈ws,kg k [w,w] st=.ok (.bl true) st):kg (k+1) [.tup ws,.tup ws] st=.ok (.bl true) st:=by
 refine hJ (N:=3) (ws:=[.tup ws,.tup ws]) (body:=yI (kg k)) ?_ rfl
 apply dy
 ·(walk_at "evs")
 apply u3
 apply a9
 ·apply h9
  ·(walk_at "evs")
  ·(walk_at "evs")
   simp
 apply br
 apply u3
 refine dH (fun i ρ bu=>∃o,ρ=[some (.tup ws),some (.tup ws),o]/\bu=st) (e_ (by(walk_at "evs")) (by omega)) ⟨none,rfl,rfl⟩ (fun _ _ _ _=>trivial) ?_ ?_
 ·rintro i w ρ bu hw ⟨o,rfl,rfl⟩
  obtain⟨hi,rfl⟩:=gT hw
  refine⟨_,rfl,?_⟩
  have hi':i<ws.length:=by simpa using hi
  have hat:bO (.tup ws) (.int (0+(i:Int))) bu=.ok ws[i] bu:=oU (by rw[eV];exact ic (by simp[hi']))
  have hs:=h ws[i] (cW _)
  apply kK
  ·(walk_at "evs")
  apply cS
  ·(walk_at "evs")
  ·exact⟨_,_,rfl,_,rfl,rfl⟩
 ·rintro ρ bu ⟨o,rfl,rfl⟩
  apply dz
  ·(walk_at "evs")
  ·exact⟨_,_,rfl,rfl,[],by simp⟩
theorem C9(b:Bool)(k:Nat)(st:List al):kg (k+1) [.bl b,.bl b] st=.ok (.bl true) st:=by
 have hb:gP (.bl b) (.bl b) st=.ok (.bl true) st:=Qf (by simp)
 refine hJ (N:=3) (ws:=[.bl b,.bl b]) (body:=yI (kg k)) ?_ rfl
 apply a9
 ·(walk_at "evs")
 apply br
 apply a9
 ·(walk_at "evs")
 apply br
 apply dy
 ·(walk_at "evs")
 apply dz
 ·apply ou
  ·(walk_at "evs")
  ·(walk_at "evs")
 ·exact⟨_,_,rfl,rfl,[],by simp⟩
theorem yO(z:Int)(k:Nat)(st:List al):kg (k+1) [.int z,.int z] st=.ok (.bl true) st:=by
 have hb:gP (.int z) (.int z) st=.ok (.bl true) st:=im (by simp)
 refine hJ (N:=3) (ws:=[.int z,.int z]) (body:=yI (kg k)) ?_ rfl
 apply a9
 ·(walk_at "evs")
 apply br
 apply a9
 ·(walk_at "evs")
 apply br
 apply a9
 ·(walk_at "evs")
 apply br
 apply dy
 ·(walk_at "evs")
 apply dz
 ·apply ou
  ·(walk_at "evs")
  ·apply ou
   ·(walk_at "evs")
   ·(walk_at "evs")
 ·exact⟨_,_,rfl,by simp,[],by simp⟩
def Sm(w:W):Prop:=∀st,kg 40 [w,w] st=.ok (.bl true) st
theorem To(z:Int):Sm (.int z):=fun st=>yO z 39 st
theorem KU(b:Bool):Sm (.bl b):=fun st=>C9 b 39 st
theorem Tp(r:List Nat)(h:r.length<=1000):Sm (qf r):=fun st=>F0 (k:=39) (by simpa using h) fun w hw=>by
 obtain⟨z,_,rfl⟩:=aJ.mp hw
 exact yO _ _ _
section
variable{ps:List Pl}{S sz:List Nat}{lk:List (Option Nat×Option Nat)}{M:Mc}{n:Nat}
theorem yP{r:List Nat}{k:Nat}{o:Option Nat}(h:∀j,o=some j->j<k):uo (r.take k) o=uo r o:=by
 cases o with
 |none=>rfl
 |some j=>show(r.take k).getD j 0=r.getD j 0;rw[av,av,bv (h j rfl)]
theorem vc(h:Gr ps S sz lk)(hM:Ap M n)(hn:1<=n):∀i,i<=ps.length->(d_ M ps lk).take i=d_ M (ps.take i) (lk.take i):=by
 obtain⟨_,l2,_⟩:=h.ok
 have key:∀d i,i+d=ps.length->(d_ M ps lk).take i=d_ M (ps.take i) (lk.take i):=by
  intro d
  induction d with
  |zero=>
   intro i hi
   have e1:ps.take i=ps:=bz (by omega)
   have e2:lk.take i=lk:=bz (by omega)
   have hg:=(mL (M:=M) h hM hn i (by omega)).1
   rw[e1,e2]at hg ⊢
   exact bz (by omega)
  |succ d ih=>
   intro i hi
   have e:=ih (i+1) (by omega)
   obtain⟨p,hp⟩:∃p,ps[i]?=some p:=⟨_,ae (by omega)⟩
   obtain⟨x,hx⟩:∃x,lk[i]?=some x:=⟨_,ae (by omega)⟩
   rw[mK h hp hx]at e
   have hg:=(mL (M:=M) h hM hn i (by omega)).1
   have e2:=cM (List.take i) e
   rw[List.take_take,ny (by omega),cb (by omega)]at e2
   rw[e2];exact bz (by omega)
 intro i hi
 exact key (ps.length-i) i (by omega)
theorem iV(h:Gr ps S sz lk)(hM:Ap M n)(hn:1<=n):(d_ M ps lk).length=ps.length/\∀k∈d_ M ps lk,k<n:=by
 obtain⟨_,l2,_⟩:=h.ok
 have:=mL (M:=M) h hM hn ps.length (ay _)
 rw[cX,show ps.length=lk.length by omega,cX]at this
 exact⟨by rw[this.1];omega,this.2⟩
theorem yQ(h:Gr ps S sz lk)(hM:Ap M n)(hn:1<=n){i:Nat}{p:Pl}{x:Option Nat×Option Nat}(hp:ps[i]?=some p)(hx:lk[i]?=some x):(d_ M ps lk)[i]?=some (uq M (d_ M ps lk) p.m x):=by
 have hi:i<ps.length:=(ai.mp hp).1
 have e:=vc (M:=M) h hM hn (i+1) (by omega)
 rw[mK h hp hx,<- vc (M:=M) h hM hn i (by omega)]at e
 have OI:=h.lk hx
 have e3:uq M ((d_ M ps lk).take i) p.m x=uq M (d_ M ps lk) p.m x:=by unfold uq;rw[yP OI.1,yP OI.2]
 rw[e3]at e
 have hl:=(iV (M:=M) h hM hn).1
 have:=cM (fun l=>l[i]?) e
 simp only[bv (show i<i+1 by omega)]at this
 rw[this,bZ (by rw[aV];omega),aV,show i-min i (d_ M ps lk).length=0 by omega];rfl
def tL(M:Mc)(ps:List Pl)(lk:List (Option Nat×Option Nat)):Nat:=(d_ M ps lk).getD (ps.length-1) 0
def C_(M:Mc)(ps:List Pl)(lk:List (Option Nat×Option Nat)):Bool:=M.gd.getD (if 0<ps.length then tL M ps lk else 0) false
theorem I0(h:Gr ps S sz lk)(hM:Ap M n)(hn:1<=n)(h0:0<ps.length)(st:List al):bO (qf (d_ M ps lk)) (.int (-1)) st=.ok (.int (tL M ps lk:Nat)) st:=by
 have hl:=(iV (M:=M) h hM hn).1
 refine oU ?_
 rw[show(-1:Int)=-((0:Nat)+1:Int) by rfl]
 refine Aa ?_
 rw[fx (by rw[ar];omega),ar,aD,hl,show ps.length-1-0=ps.length-1 by omega,ae (by omega)]
 show some (W.int _)=some (W.int _)
 unfold tL
 rw[av,ae (by omega)];rfl
theorem F1(hM:Ap M n){k:Nat}(hk:k<n)(st:List al):bO (.tup (M.gd.map W.bl)) (.int k) st=.ok (.bl (M.gd.getD k false)) st:=
 oU (ic (by rw[aD,ae (by rw[hM.gd];exact hk),av,ae (by rw[hM.gd];exact hk)];rfl))
theorem F2(h:Gr ps S sz lk)(hM:Ap M n)(hn:1<=n):(if 0<ps.length then tL M ps lk else 0)<n:=by
 split
 ·rename_i h0
  obtain⟨hl,hr⟩:=iV (M:=M) h hM hn
  unfold tL
  rw[av,ae (by omega)]
  exact hr _ (cW _)
 ·exact hn
theorem I_(h:Gr ps S sz lk)(hl:ps.length<=900)(hM:Ap M n)(hn:1<=n)(st:List al):yz [M.w,iz ps] st=.ok (.bl (C_ M ps lk)) st:=by
 have g1:bO M.w (.int 1) st=.ok (.tup (M.gd.map W.bl)) st:=rfl
 have ro:=FZ h hl hM hn st
 have ln:=qT ps st
 have e:yy [M.w,iz ps] st=.ok (.int ((if 0<ps.length then tL M ps lk else 0:Nat):Int)) st:=by
  by_cases h0:0<ps.length
  ·have d:decide ((0:Int)<(ps.length:Int))=true:=aQ (by omega)
   rw[aq h0]
   apply db
   apply bM
   ·exact uY (cu (bQ (cP kn ln) cC (lR d))) (bQ (cR (aC kv kn) ro rfl) (ya cC) (I0 h hM hn h0 st))
   ·exact⟨_,_,rfl,rfl,rfl⟩
  ·have d:decide ((0:Int)<(ps.length:Int))=false:=aG (by omega)
   rw[ax h0]
   apply db
   apply bM
   ·exact uZ (cu (bQ (cP kn ln) cC (lR d))) cC
   ·exact⟨_,_,rfl,rfl,rfl⟩
 apply db
 apply bM
 ·exact bQ (bQ kv cC g1) (cR (aC kv kn) e rfl) (F1 hM (F2 h hM hn) st)
 ·exact⟨_,_,rfl,rfl,rfl⟩
end
theorem tM{f:FG}{el:FE}{ρ0:bW}{st:List al}(Y:W->W):∀(ws jt:List W) (s:List al),st <+: s->(∀w∈ws,∀s,st <+: s->∃ρ' x,f w ρ0=some ρ'/\el ρ' s=.ok (Y w) (s++x)) ->
  ∃s',st <+: s'/\ni f qE el none ρ0 ws jt s=.ok (jt++ws.map Y) s'
 |[],jt,s,hs,_=>⟨s,hs,by unfold ni;rw[aq (show jh s none from trivial)];simp⟩
 |w::ws,jt,s,hs,h=>by
  obtain⟨ρ',x,e1,e2⟩:=h w (by simp) s hs
  obtain⟨s',h1,h2⟩:=tM Y ws (jt++[Y w]) (s++x) (sj hs) fun w' hw'=>h w' (by simp[hw'])
  refine⟨s',h1,?_⟩
  unfold ni
  rw[aq (show jh s none from trivial),e1]
  simp only[qE,e2]
  rw[h2];simp
theorem R_{ρ:bW}{st st1:List al}{fi:FI}{f:FG}{el:FE}{cap:List (Option Nat)}{ws:List W}(Y:W->W)(h:fi ρ st=.ok (ws,none) st1)(hl:ws.length<=100000)
  (hs:∀w∈ws,∀s,st1 <+: s->∃ρ' x,f w (oG cap ρ)=some ρ'/\el ρ' s=.ok (Y w) (s++x)):∃s',st1 <+: s'/\hX cap fi f qE el ρ st=.ok (.loc s'.length) (s'++[.lst (ws.map Y)]):=by
 obtain⟨s',h1,h2⟩:=tM Y ws [] st1 (aj _) hs
 refine⟨s',h1,?_⟩
 unfold hX
 rw[h]
 simp only[R.bind_ok]
 rw[aq (show ws.length<=lB by show _<=1000000;omega),h2]
 simp only[R.bind_ok,jJ,m9]
 rw[aq (show(ws.map Y).length<=lB by rw[ar];show _<=1000000;omega)]
theorem vd(l:List Nat):je [] (l.map fun c=>[c])=l:=by
 rw[j5]
 induction l with
 |nil=>rfl
 |cons a r ih=>simp only[aN,kW,ih];rfl
theorem tN(l:List Nat):(((l.map fun c=>[c])).map List.length).sum=l.length:=by
 induction l with
 |nil=>rfl
 |cons a r ih=>simp only[aN,jc,de,ih,ia];omega
theorem Tq{fe:FE}{t:FT}{cap:List (Option Nat)}{ρ:bW}{st st1:List al}{l:List Nat}(T:Nat->Bool)(h:fe ρ st=.ok (.str l) st1)(hl:l.length<=10000)(h0:0<cap.length)
  (ht:∀c∈l,t ((oG cap ρ).set 0 (some (.str [c]))) st1=.ok (T c) st1) :
  ∃x,Ex nh (eC (.str [])) (ao (hX cap (eG fe) (hZ 0) t (ah 0)) aK) ρ st=.ok (.str (l.filter T)) (st1++x):=by
 have cg:=pD (cap:=cap) (ρ:=ρ) (st:=st) (st1:=st1) (f:=hZ 0) (t:=t) (el:=ah 0) (fun w=>match w with|.str [c]=>T c|_=>false) id (mJ h) (by rw[f6];show _<=1000000;omega) trivial fun w hw=>by
  obtain⟨c,hc,rfl⟩:=aJ.mp hw
  exact⟨_,rfl,ht c hc,fun _=>d9 (by rw[bq (by simp[oG];exact h0)];rfl)⟩
 have e:((dC l).filter (fun w=>match w with|.str [c]=>T c|_=>false)).map id=((l.filter T).map fun c=>[c]).map W.str:=by
  rw[gc]
  unfold dC
  rw[jL,a8];rfl
 rw[e]at cg
 have hj:=qK (sep:=[]) (st:=st1++[.lst (((l.filter T).map fun c=>[c]).map W.str)]) (n:=st1.length) (bT cH) (by
  rw[tN]
  have:=fy T l
  show _<=1000000;simp;omega)
 rw[vd]at hj
 exact⟨_,z9 cC rfl (aC cg bG) hj⟩
def F3:W->Nat
 |.int i=>i.toNat
 |_=>0
theorem yR(pool:List Nat)(hp:pool.length<=50)(d:Int)(st:List al):∃m:List Nat,m.length<=50/\va [.str pool,.int d] st=.ok (.str m) st:=by
 let T:W->Bool:=fun w=>Builtin.bitAnd (d/2^(F3 w)) 1==1
 let yl:W->List Nat:=fun w=>[pool.getD (F3 w) 0]
 have hL:pool.length<=lB:=by show _<=1000000;omega
 obtain⟨ls,hls⟩:∃ls,ls=((ce 0 pool.length).filter T).map yl:=⟨_,rfl⟩
 have eR:ls.length<=50:=by
  rw[hls,ar]
  refine bh (fy _ _) ?_
  rw[cr];omega
 have hone:∀x∈ls,x.length=1:=by
  rw[hls];intro x hx
  obtain⟨w,_,rfl⟩:=aJ.mp hx;rfl
 have hsum:∀l:List (List Nat),(∀x∈l,x.length=1)->(l.map List.length).sum=l.length:=by
  intro l
  induction l with
  |nil=>intro;rfl
  |cons x r ih=>
   intro h
   simp only[aN,jc,de]
   rw[h x (by simp),ih fun y hy=>h y (by simp[hy])];omega
 have hc:hX [none,some 0,some 1] (cn (ao (cE e7 (ao (ah 0) aK)) aK)) (hZ 0) (dv (e2 gP (e2 gZ (e2 mw (ah 2) (ah 0)) (eI 1)) (eI 1))) (e2 bO (ah 1) (ah 0)) [some (.str pool),some (.int d)] st=.ok (.loc st.length) (st++[.lst (ls.map W.str)]):=by
  have:=pD (fi:=cn (ao (cE e7 (ao (ah 0) aK)) aK)) (f:=hZ 0) (t:=dv (e2 gP (e2 gZ (e2 mw (ah 2) (ah 0)) (eI 1)) (eI 1))) (el:=e2 bO (ah 1) (ah 0)) (cap:=[none,some 0,some 1]) (ρ:=[some (.str pool),some (.int d)]) (st:=st) (st1:=st) (ws:=ce 0 pool.length) (ck:=none) T (fun w=>.str (yl w))
   (by
    have:=e_ (fs:=ao (cE e7 (ao (ah 0) aK)) aK) (ρ:=[some (.str pool),some (.int d)]) (st:=st) (st1:=st) (q:=(pool.length:Int)) (aC (cP kn (vZ hL)) bG) (by omega)
    rw[aO]at this
    exact this) (by rw[cr];show _<=1000000;omega) trivial ?_
  ·rw[this,hls,a8];rfl
  ·intro w hw
   obtain⟨i,hi,rfl⟩:=io hw
   have ei:F3 (.int (0+(i:Int)))=i:=by simp[F3]
   refine⟨[some (.int (0+(i:Int))),some (.str pool),some (.int d)],rfl,?_,fun _=>?_⟩
   ·have h0:(0:Int)<=0+(i:Int):=by omega
    have hk:(Builtin.bitAnd (d/2^(0+(i:Int)).toNat) 1==1)=T (.int (0+(i:Int))):=rfl
    exact cu (bQ (bQ (bQ kv kv (gr h0)) cC (gr trivial)) cC (im hk))
   ·refine bQ kv kv ?_
    rw[show((0:Int)+(i:Int))=(i:Int) by omega]
    have e2:qw pool (i:Int)=some (pool.getD i 0):=ic (by rw[av,ae hi];rfl)
    rw[EV hL e2]
    simp[yl,F3]
 have fg:lstOf (st++[al.lst (ls.map W.str)]) st.length=some (ls.map W.str):=bT (by rw[dS];rfl)
 have hs:=qe fg (by omega)
 have hcell2:lstOf (st++[al.lst (ls.map W.str)]++[al.lst ((fA ls).map W.str)]) (st++[al.lst (ls.map W.str)]).length=some ((fA ls).map W.str):=bT (by rw[dS];rfl)
 have hsl:(fA ls).length=ls.length:=(dX ls).length_eq
 have hss:((fA ls).map List.length).sum=ls.length:=by rw[nX (dX ls),hsum ls hone]
 have hj:=qK (sep:=[]) hcell2 (by rw[hss];show _<=1000000;simp;omega)
 refine⟨je [] (fA ls),?_,?_⟩
 ·rw[j5,jR,hss];omega
 ·refine hJ (N:=2) (ws:=[.str pool,.int d]) (body:=KF) ?_ rfl
  apply bM
  ·exact z9 cC rfl (aC (cP (aC hc bG) hs) bG) hj
  ·exact⟨_,_,rfl,rfl,_,by rw[bj]⟩
theorem St.ex{n b:Nat}{S:List Nat}(hb:b<=3)(h:(b+1)/2<=S.length):∃S' k x,St n S b S' k x/\S'.length+(b+1)/2=S.length+1:=by
 obtain rfl|rfl|rfl|rfl:b=0\/b=1\/b=2\/b=3:=by omega
 ·exact⟨_,_,_,.z,by simp⟩
 ·match S,h with
  |a::S,_=>exact⟨_,_,_,.l,by simp⟩
 ·match S,h with
  |a::S,_=>exact⟨_,_,_,.r,by simp⟩
 ·match S,h with
  |c::a::S,_=>exact⟨_,_,_,.b,by simp⟩
  |[_],hz=>simp at hz
  |[],hz=>simp at hz
theorem NM{f:bW->List al->R Bool}{ρ:bW}{st a b:List al}(h1:f ρ st=.ok false a)(h2:f ρ st=.ok true b):False:=by
 rw[h1]at h2;cases h2
structure Ja(ps:List Pl)(S sz:List Nat)(lk:List (Option Nat×Option Nat)):Prop where
 g:Gr ps S sz lk
 l:ps.length<=100
 t:S.length<=1
 q:ps.countP (fun p=>decide (p.b≠3))<=50
 m:∀p∈ps,p.m.length<=50
theorem Jb{st:List al}{nd md:Nat}{ds ms:List Int}{pool:List Nat}(hd:st[nd]?=some (.lst (zp ds)))(UP:st[md]?=some (.lst (zp ms)))(UQ:ms.length=2*ds.length)(Sd:ds.length<=50)(OD:∀d∈ds,0<=d)(hp:pool.length<=50) :
  ∃ps S sz lk,Ja ps S sz lk/\yB [.loc nd,.loc md,.str pool] st=.ok (iz ps) st:=by
 suffices hh:iP (wP fun w bu=>(∃x,bu=st++x)/\undWs st.length [w]=true/\∃ps S sz lk,w=iz ps/\Ja ps S sz lk) (KG ([W.loc nd,.loc md,.str pool].map some++List.replicate (7-3) none) st) by
  obtain⟨w,⟨ps,S,sz,lk,rfl,h1⟩,e⟩:=qa hh
  exact⟨ps,S,sz,lk,h1,e⟩
 apply aB
 ·(walk_at "evs")
 apply aB
 ·(walk_at "evs")
 have fg:∀A:List W,lstOf (st++[al.lst A]) nd=some (zp ds):=fun A=>bT (bX hd)
 have mix:∀(A:List W) (k:Nat),k<ms.length->∃d,bO (.loc md) (.int k) (st++[al.lst A])=.ok (.int d) (st++[al.lst A]):=fun A k hk=>⟨_,sk (bX UP) (ae hk)⟩
 refine dH (fun i ρ bu=>∃(ps:List Pl) (S sz:List Nat) (lk:List (Option Nat×Option Nat)) (o5 o6:Option W),ρ=[some (.loc nd),some (.loc md),some (.str pool),some (.loc st.length),some (.int S.length),o5,o6]/\bu=st++[.lst (ps.map Pl.w)]/\Gr ps S sz lk/\ps.length=i/\∀p∈ps,p.m.length<=50) (sh (st1:=st++[al.lst []]) (by(walk_at "evs")) (fg []))
  ⟨[],[],[],[],none,none,rfl,rfl,.nil,rfl,by simp⟩ (fun i ρ bu h=>?_) ?_ ?_
 ·obtain⟨ps,S,sz,lk,o5,o6,rfl,rfl,_⟩:=h
  exact fg _
 ·rintro i w ρ bu hw ⟨ps,S,sz,lk,o5,o6,rfl,rfl,hg,hle,hpm⟩
  obtain⟨d,hdd,rfl⟩:∃d,ds[i]?=some d/\w=.int d:=by
   simp only[zp,aD,eU]at hw
   obtain⟨d,h1,rfl⟩:=hw
   exact⟨d,h1,rfl⟩
  have hi:i<ds.length:=(ai.mp hdd).1
  refine⟨_,rfl,?_⟩
  have hc:(st++[al.lst (ps.map Pl.w)])[st.length]?=some (.lst (ps.map Pl.w)):=cH
  have eR:=pB (bT hc)
  rw[ar]at eR
  obtain⟨b0,hb0,eb0⟩:=si (q:=d) (n:=4) (by omega)
  have eb0:d%4=(b0:Int):=eb0
  apply aB
  ·exact bg (bQ kv cC (gr (by decide)))
  rw[eb0]
  refine i8 (fun ρ bu=>∃b:Nat,b<=3/\(b+1)/2<=S.length/\ρ=[some (.loc nd),some (.loc md),some (.str pool),some (.loc st.length),some (.int S.length),some (.int d),some (.int b)]/\bu=st++[.lst (ps.map Pl.w)]) ?_ ?_
  ·by_cases h1:S.length<(b0+1)/2
   ·have t1:decide ((S.length:Int)<((b0:Int)+1)/2)=true:=aQ (by omega)
    apply nS
    ·exact cu (bQ (bQ (bQ kv cC mF) cC (gr (by decide))) kv (lR t1))
    apply cS
    ·(walk_at "evs")
    ·exact⟨_,_,rfl,0,by omega,by omega,rfl,rfl⟩
   ·have t1:decide ((S.length:Int)<((b0:Int)+1)/2)=false:=aG (by omega)
    apply kK
    ·exact cu (bQ (bQ (bQ kv cC mF) cC (gr (by decide))) kv (lR t1))
    apply cS
    ·exact tm
    ·exact⟨_,_,rfl,b0,by omega,by omega,rfl,rfl⟩
  rintro ρ bu ⟨b2,hb2,vj,rfl,rfl⟩
  obtain⟨S',k,x,mi,hlen'⟩:=St.ex (n:=ps.length) hb2 vj
  obtain⟨dm,edm⟩:=mix (ps.map Pl.w) ps.length (by omega)
  obtain⟨m,hm,em⟩:=yR pool hp (dm%64) (st++[al.lst (ps.map Pl.w)])
  have ap:=lS (y:=(Pl.mk b2 m).w) hc (by rw[ar];show _<1000000;omega)
  rw[eX]at ap
  have ap:cy (.loc st.length) [.tup [.int b2,.str m]] (st++[al.lst (ps.map Pl.w)])=_:=ap
  apply aB
  ·exact iU (jz kv (fH hc) (aC (p9 (aC kv (aC (cR (aC kv (aC (bQ (bQ kv (cP kn eR) edm) cC (gr (by decide))) bG)) em rfl) bG)) (bC rfl)) bG) ap)
  apply cS
  ·exact bg (bQ (bQ kv cC mF) (bQ (bQ kv cC mF) cC (gr (by decide))) (gr trivial))
  ·refine⟨_,_,rfl,ps++[⟨b2,m⟩],S',sz++[k],lk++[x],some (.int d),some (.int b2),?_,by simp,.snoc hg mi,by simp[hle],?_⟩
   ·show[_,_,_,_,some (W.int ((S.length:Int)+1-((b2:Int)+1)/2)),_,_]=_
    rw[show(S.length:Int)+1-((b2:Int)+1)/2=(S'.length:Int) by omega]
   ·intro p hp'
    rcases bB.mp hp' with z|z
    ·exact hpm p z
    ·simp at z;subst z;show m.length<=50;omega
 ·rintro ρ bu ⟨ps,S,sz,lk,o5,o6,rfl,rfl,hg,hle,hpm⟩
  rw[show(zp ds,some (nd,zp ds)).fst.length=ds.length by simp[zp]]at hle
  have hSle:=hg.ok.2.2.le
  refine CW (fun n ρ bu=>∃(ps:List Pl) (S sz:List Nat) (lk:List (Option Nat×Option Nat)),ρ=[some (.loc nd),some (.loc md),some (.str pool),some (.loc st.length),some (.int S.length),o5,o6]/\bu=st++[.lst (ps.map Pl.w)]/\Gr ps S sz lk/\ps.length+S.length<=2*ds.length/\(∀p∈ps,p.m.length<=50)/\S.length=n/\ps.countP (fun p=>decide (p.b≠3))<=50) S.length ⟨ps,S,sz,lk,rfl,rfl,hg,by omega,hpm,rfl,by have:=List.countP_le_length (p:=fun p:Pl=>decide (p.b≠3)) (l:=ps);omega⟩ ?_ ?_
  ·rintro n ρ bu ⟨ps,S,sz,lk,rfl,rfl,hg,hle,hpm,rfl,hq⟩
   by_cases h1:1<S.length
   ·refine .inr ?_
    have t1:decide ((1:Int)<(S.length:Int))=true:=aQ (by omega)
    constructor
    ·exact cu (bQ kv cC (lR t1))
    obtain⟨S',k,x,mi,hlen'⟩:=St.ex (n:=ps.length) (b:=3) (S:=S) (by omega) (by omega)
    have hc:(st++[al.lst (ps.map Pl.w)])[st.length]?=some (.lst (ps.map Pl.w)):=cH
    have eR:=pB (bT hc)
    rw[ar]at eR
    obtain⟨dm,edm⟩:=mix (ps.map Pl.w) ps.length (by omega)
    obtain⟨m,hm,em⟩:=yR pool hp (dm%64) (st++[al.lst (ps.map Pl.w)])
    have ap:=lS (y:=(Pl.mk 3 m).w) hc (by rw[ar];show _<1000000;omega)
    rw[eX]at ap
    have ap:cy (.loc st.length) [.tup [.int 3,.str m]] (st++[al.lst (ps.map Pl.w)])=_:=ap
    apply aB
    ·exact iU (jz kv (fH hc) (aC (p9 (aC cC (aC (cR (aC kv (aC (bQ (bQ kv (cP kn eR) edm) cC (gr (by decide))) bG)) em rfl) bG)) (bC rfl)) bG) ap)
    apply cS
    ·exact bg (bQ kv cC (gr trivial))
    ·refine⟨_,_,rfl,S'.length,by omega,ps++[⟨3,m⟩],S',sz++[k],lk++[x],?_,by simp,.snoc hg mi,by simp;omega,?_,rfl,?_⟩
     ·show[_,_,_,_,some (W.int ((S.length:Int)-1)),_,_]=_
      rw[show(S.length:Int)-1=(S'.length:Int) by omega]
     ·intro p hp'
      rcases bB.mp hp' with z|z
      ·exact hpm p z
      ·simp at z;subst z;show m.length<=50;omega
     ·rw[List.countP_append];simpa using hq
   ·refine .inl ?_
    have t1:decide ((1:Int)<(S.length:Int))=false:=aG (by omega)
    exact cu (bQ kv cC (lR t1))
  ·rintro n ρ bu ⟨ps,S,sz,lk,rfl,rfl,hg,hle,hpm,rfl,hq⟩ hno
   have hS1:S.length<=1:=by
    rcases qr 1 S.length with z|z
    ·exact(NM hno (cu (bQ kv cC (lR (aQ (by omega)))))).elim
    ·exact z
   have hc:(st++[al.lst (ps.map Pl.w)])[st.length]?=some (.lst (ps.map Pl.w)):=cH
   apply bM
   ·exact cP kn (lh (bT hc))
   ·exact⟨_,_,rfl,⟨_,rfl⟩,by simp only[undWs,eD];exact Aq ps _,ps,S,sz,lk,rfl,⟨hg,by omega,hS1,hq,hpm⟩⟩
theorem F4{n0:Nat}{st:List al}{ns:List Int}(h0:st[n0]?=some (.ro (ns.map W.int)))(a:Int)(pool:List Nat)(hp:pool.length<=50) :
  ∃ps S sz lk,Ja ps S sz lk/\yD [.loc n0,.int a,.str pool] st=.ok (iz ps) st:=by
 suffices hh:iP (wP fun w bu=>(∃x,bu=st++x)/\undWs st.length [w]=true/\∃ps S sz lk,w=iz ps/\Ja ps S sz lk) (KI ([W.loc n0,.int a,.str pool].map some++List.replicate (6-3) none) st) by
  obtain⟨w,⟨ps,S,sz,lk,rfl,h1⟩,e⟩:=qa hh
  exact⟨ps,S,sz,lk,h1,e⟩
 obtain⟨c0,e0⟩:=oB h0 a
 obtain⟨hs,hhl,hhp,e1⟩:=lU c0 5000011 4 (by omega) st
 have e1:jO [.int c0,.int 4,.int 5000011] st=_:=e1
 obtain⟨d0,d1,d2,d3,rfl⟩:∃a b c d,hs=[a,b,c,d]:=by
  match hs,hhl with
  |[a,b,c,d],_=>exact⟨_,_,_,_,rfl⟩
 apply aB
 ·exact bg (cR (aC (cR (aC kv kn) e0 rfl) (aC cC (aC cC bG))) e1 rfl)
 generalize hs1:st++[al.lst ([d0,d1,d2,d3].map W.int)]=s1
 have k1:st <+: s1:=by rw[<- hs1];exact aR _ _
 have hc1:s1[st.length]?=some (.lst (zp [d0,d1,d2,d3])):=by rw[<- hs1];exact cH
 have i0:bO (.loc st.length) (.int 0) s1=.ok (.int d0) s1:=sk (i:=0) hc1 rfl
 have i1:bO (.loc st.length) (.int 1) s1=.ok (.int d1) s1:=sk (i:=1) hc1 rfl
 have i2:bO (.loc st.length) (.int 2) s1=.ok (.int d2) s1:=sk (i:=2) hc1 rfl
 clear e0 e1 hs1
 apply aB
 ·exact bg (bQ (bQ kv cC i0) cC (gr (by decide)))
 refine i8 (fun ρ s=>∃k:Nat,k<=50/\ρ=[some (.loc n0),some (.int a),some (.str pool),some (.loc st.length),some (.int k),none]/\s=s1) ?_ ?_
 ·by_cases w1:d1%4=0
  ·have t1:(d1%4==0)=true:=c7.mpr w1
   obtain⟨q,hq,eq⟩:=si (q:=d2) (n:=51) (by omega)
   have eq:d2%51=(q:Int):=eq
   apply nS
   ·exact cu (bQ (bQ (bQ kv cC i1) cC (gr (by decide))) cC (im t1))
   apply cS
   ·exact bg (bQ (bQ kv cC i2) cC (gr (by decide)))
   ·rw[eq];exact⟨_,_,rfl,q,by omega,rfl,rfl⟩
  ·have t1:(d1%4==0)=false:=bd.mpr w1
   obtain⟨q,hq,eq⟩:=si (q:=d0) (n:=9) (by omega)
   have eq:d0%9=(q:Int):=eq
   apply kK
   ·exact cu (bQ (bQ (bQ kv cC i1) cC (gr (by decide))) cC (im t1))
   apply cS
   ·exact tm
   ·rw[eq];exact⟨_,_,rfl,q,by omega,rfl,rfl⟩
 rintro ρ s ⟨k,hk,rfl,rfl⟩
 have h1:=gQ k1 h0
 obtain⟨c1,e2'⟩:=oB h1 (a+1)
 obtain⟨ds,Sd,hdp,e3⟩:=lU c1 6000011 k (by omega) s
 apply aB
 ·exact bg (cR (aC (cR (aC kv (aC (bQ kv cC mF) bG)) e2' rfl) (aC kv (aC cC bG))) e3 rfl)
 generalize vj:s++[al.lst (ds.map W.int)]=s2
 have k2:s <+: s2:=by rw[<- vj];exact aR _ _
 have hc2:s2[s.length]?=some (.lst (zp ds)):=by rw[<- vj];exact cH
 obtain⟨j,x,ms,hml,hmp,hxj,eb⟩:=C6 (gQ (k1.trans k2) h0) (a+2) (2*k) 7000003 (by omega)
 rw[show((2*k:Nat):Int)=2*(k:Int) by omega]at eb
 obtain⟨ps,S,sz,lk,ht,ew⟩:=Jb (pool:=pool) (st:=s2++x) (nd:=s.length) (md:=s2.length+j) (ds:=ds) (ms:=ms) (bX hc2) (by rw[i7];exact hxj) (by omega) (by omega) hdp hp
 obtain⟨y,rfl⟩:=k1.trans k2
 apply bM
 ·exact cR (aC kv (aC (cR (aC kv (aC (bQ kv cC mF) (aC (bQ cC kv (tq (.inl (by decide)))) (aC cC bG)))) eb rfl) kn)) ew rfl
 ·exact⟨_,_,rfl,⟨_,by rw[bj]⟩,by simp only[undWs,eD];exact Aq _ _,ps,S,sz,lk,rfl,ht⟩
theorem Gr.bs{ps:List Pl}{S sz:List Nat}{lk:List (Option Nat×Option Nat)}(h:Gr ps S sz lk):∀{qs:List Pl},qs.map Pl.b=ps.map Pl.b->Gr qs S sz lk:=by
 induction h with
 |nil=>intro qs e;simp at e;subst e;exact .nil
 |@snoc ps S S' sz lk b k m x hg hs ih=>
  intro qs e
  rw[eN]at e
  obtain⟨q1,q2,rfl,e1,e2⟩:=List.map_eq_append_iff.mp e
  obtain⟨q,rfl,e3⟩:=List.map_eq_singleton_iff.mp e2
  have hl:q1.length=ps.length:=by have:=cM List.length e1;simpa using this
  obtain⟨b',m'⟩:=q
  have e3:b'=b:=e3
  subst e3
  exact .snoc (ih e1) (by rw[hl];exact hs)
theorem NN(k:Nat)(hk:k<=1000)(st:List al):FF [.int k] st=.ok (.int (2^k:Nat)) st:=by
 refine hJ (N:=3) (ws:=[.int k]) (body:=Qy) ?_ rfl
 apply aB
 ·(walk_at "evs")
 refine dH (fun i ρ s=>∃o2:Option W,ρ=[some (.int k),some (.int (2^i:Nat)),o2]/\s=st) (e_ (q:=(k:Int)) (st1:=st) kn (by omega)) ⟨none,rfl,rfl⟩ (fun _ _ _ _=>trivial) ?_ ?_
 ·rintro i w ρ s hw ⟨o4,rfl,rfl⟩
  obtain⟨hi,rfl⟩:=gT hw
  refine⟨_,rfl,?_⟩
  apply cS
  ·exact bg (bQ kv cC (tq (.inr (by decide))))
  ·exact⟨_,_,rfl,_,by rw[show((2^i:Nat):Int)*2=((2^(i+1):Nat):Int) by rw[m5,ib];rfl];rfl,rfl⟩
 ·rintro ρ s ⟨o2,rfl,rfl⟩
  apply bM
  ·(walk_at "evs")
  ·refine⟨_,_,rfl,?_,[],by simp⟩
   rw[show(ce 0 (k:Int).toNat,(none:Option (Nat×List W))).fst.length=k by simp[cr]]
def Jc(n a k:Nat):Bool:=decide (a/2^(n-1-k)%2=1)
def Hb(nm:List Nat)(a:Nat):List Nat:=((List.range nm.length).filter (Jc nm.length a)).map fun k=>nm.getD k 0
def Hc(nm:List Nat)(a i:Nat):List Nat:=((List.range' (nm.length-i) i).filter (Jc nm.length a)).map fun k=>nm.getD k 0
theorem Jd(m:Nat):Builtin.bitAnd (m:Int) 1=((m%2:Nat):Int):=by
 unfold Builtin.bitAnd
 rw[aQ (by omega),aQ (by omega)]
 show((((m:Int).toNat &&& 1:Nat)):Int)=_
 rw[aO,Nat.and_one_is_mod]
theorem ww{m:Nat}{st:List al}:gZ (.int (m:Nat)) (.int 1) st=.ok (.int ((m%2:Nat):Int)) st:=by
 rw[<- Jd];exact gr trivial
theorem F5{a c:Nat}{st:List al}:mw (.int (a:Nat)) (.int (c:Nat)) st=.ok (.int ((a/2^c:Nat):Int)) st:=by
 have:=gr (C:=fun(_ j:Int)=>0<=j) (f:=fun i j=>i/2^j.toNat) (p:=(a:Int)) (q:=(c:Int)) (st:=st) (by omega)
 rw[show mw (.int (a:Nat)) (.int (c:Nat)) st=_ from this,aO]
 simp
theorem F6(nm:List Nat)(a i:Nat)(hi:i<nm.length):Hc nm a (i+1)=(if a/2^i%2=1 then[nm.getD (nm.length-1-i) 0]else[])++Hc nm a i:=by
 unfold Hc
 rw[me,show nm.length-(i+1)+1=nm.length-i by omega,gX]
 have e:Jc nm.length a (nm.length-(i+1))=decide (a/2^i%2=1):=by unfold Jc;rw[show nm.length-1-(nm.length-(i+1))=i by omega]
 rw[e,show nm.length-(i+1)=nm.length-1-i by omega]
 by_cases h:a/2^i%2=1
 ·simp[h]
 ·simp[h]
theorem BK(nm:List Nat)(a:Nat):Hc nm a nm.length=Hb nm a:=by
 unfold Hc Hb;rw[qt,List.range_eq_range']
theorem BL(nm:List Nat)(a i:Nat):(Hc nm a i).length<=i:=by
 unfold Hc
 rw[ar]
 exact bh (fy _ _) (by simp)
theorem R'(nm:List Nat)(a:Nat):(Hb nm a).length<=nm.length:=by rw[<- BK];exact BL nm a _
theorem Da(nm:List Nat)(a:Nat)(hn:nm.length<=60)(st:List al):Am [.str nm,.int (a:Nat)] st=.ok (.str (Hb nm a)) st:=by
 refine hJ (N:=5) (ws:=[.str nm,.int (a:Nat)]) (body:=QD) ?_ rfl
 apply aB
 ·(walk_at "evs")
 apply aB
 ·(walk_at "evs")
 refine dH (fun i ρ s=>∃o:Option W,ρ=[some (.str nm),some (.int (a:Nat)),some (.str (Hc nm a i)),some (.int ((a/2^i:Nat):Int)),o]/\s=st) (k:=(dC nm.reverse,none)) (st1:=st)
  (by unfold zT;rw[show ao (ah 0) aK _ st=.ok [.str nm] st from rfl];simp only[R.bind_ok];rw[aq (by omega)]) ⟨none,by rw[Nat.pow_zero,Nat.div_one];rfl,rfl⟩ (fun _ _ _ _=>trivial) ?_ ?_
 ·rintro i w ρ s hw ⟨o,rfl,rfl⟩
  unfold dC at hw
  rw[aD]at hw
  have hi:i<nm.length:=by
   rcases qr i nm.length with z|z
   ·exact z
   ·rw[b9 (by simpa using z)]at hw;cases hw
  rw[fx hi,ae (by omega)]at hw
  have hw:some (W.str [nm[nm.length-1-i]])=some w:=hw
  cases hw
  have hg:nm[nm.length-1-i]'(by omega)=nm.getD (nm.length-1-i) 0:=by rw[av,ae (by omega)];rfl
  have hl:=BL nm a i
  have hnext:∀m:List Nat,m=Hc nm a (i+1)->iP (Dy fun ρ s'=>∃o:Option W,ρ=[some (.str nm),some (.int (a:Nat)),some (.str (Hc nm a (i+1))),some (.int ((a/2^(i+1):Nat):Int)),o]/\s'=s) (bE 3 (e2 mw (ah 3) (eI 1)) [some (.str nm),some (.int (a:Nat)),some (.str m),some (.int ((a/2^i:Nat):Int)),some (.str [nm[nm.length-1-i]])] s):=fun m hm=>by
   subst hm
   refine⟨_,_,bg (bQ kv cC (F5 (c:=1))),some (.str [nm[nm.length-1-i]]),?_,rfl⟩
   rw[m6,<- Nat.pow_add];rfl
  refine⟨_,rfl,?_⟩
  have mi:=F6 nm a i hi
  by_cases hb:a/2^i%2=1
  ·rw[aq hb]at mi
   apply dy
   ·exact cu (bQ (bQ kv cC ww) cC (im (by rw[hb];rfl)))
   apply aB
   ·exact bg (bQ kv kv (vY (by simp only[de,ia];show _<=1000000;omega)))
   exact hnext _ (by rw[mi,hg])
  ·rw[ax hb]at mi
   apply a9
   ·exact cu (bQ (bQ kv cC ww) cC (im (by rw[bd];omega)))
   apply br
   exact hnext _ (by rw[mi];rfl)
 ·rintro ρ s ⟨o,rfl,rfl⟩
  refine bM kv ⟨_,_,rfl,?_,[],by simp⟩
  rw[show(dC nm.reverse).length=nm.length by simp[dC],BK]
theorem F7{s:List al}{c:al}:(s++[c])[s.length]?=some c:=by rw[dS];rfl
theorem F8{l:List Nat}(hl:l.length<4000)(h:∀c∈l,c∈LL)(st:List al):C3 [.str l] st=.ok (.str (kJ l)) st:=by
 have hs:(kJ l).length<64:=by
  have:(kJ l).length<=LL.length:=k_ ((pY l).imp fun h=>ba h) fun c hc=>h c (j6.mp hc)
  have e:LL.length=52:=by decide
  omega
 have e1:p5 (ah 0) [some (.str l)] st=.ok (.loc st.length) (st++[.lst (dC (kJ l))]):=by
  unfold p5
  rw[d9 (w:=.str l) rfl]
  simp only[R.bind_ok,sT,eQ]
  rw[aq ⟨hl,hs⟩]
 have hj:=qK (sep:=[]) (ls:=(kJ l).map fun c=>[c]) (st:=st++[.lst (dC (kJ l))]) (n:=st.length) (bT (by rw[F7];unfold dC;rw[a8];rfl)) (by
  rw[tK];show _<=1000000;simp;omega)
 rw[vd]at hj
 refine hJ ?_ rfl
 apply bM
 ·exact z9 cC rfl (aC e1 bG) hj
 ·exact⟨_,_,rfl,rfl,_,rfl⟩
def NO(E:W->W->W->W)(R:Nat)(x l:W):W:=.tup ((ce 0 R).map (E x l))
def OA(E:W->W->W->W)(R:Nat)(x:W):W:=.tup ((ce 0 R).map (NO E R x))
def Db(E:W->W->W->W)(L R:Nat):W:=.tup ((ce 0 L).map (OA E R))
theorem ve{α:Type}{l:List α}{i:Nat}{x:α}(h:l[i]?=some x):l.take (i+1)=l.take i++[x]:=by rw[List.take_succ,h];rfl
theorem qg{f:W->W}{n:Nat}:∀{l:List W},(∀x∈l,(f x).und n=true)->undWs n (l.map f)=true
 |[],_=>rfl
 |x::l,h=>by
  show((f x).und n&&undWs n (l.map f))=true
  rw[h x a7,qg fun y hy=>h y (aH _ hy)];rfl
theorem wz{E:W->W->W->W}{L R n:Nat}(hu:∀x l r,(E x l r).und n=true):(Db E L R).und n=true:=by
 unfold Db W.und
 refine qg fun x _=>?_
 unfold OA W.und
 refine qg fun l _=>?_
 unfold NO W.und
 exact qg fun r _=>hu x l r
theorem F9{E:W->W->W->W}{L R m:Nat}{st:List al}{f:Addr}{o:Obj}{w0:W}(hL:L<=64)(hR:R<=64)(hm:st[m]?=some (.pin false f o w0))(hu:∀x l r,(E x l r).und st.length=true)
  (hc:∀s,st <+: s->∀x∈ce 0 L,∀l∈ce 0 R,∀r∈ce 0 R,tf c5 dI m [x,l,r] s=.ok (E x l r) s):FL [.int L,.int R,.loc m] st=.ok (Db E L R) st:=by
 refine hJ (N:=7) (ws:=[.int L,.int R,.loc m]) (body:=QM) ?_ (by show(_&&true)=true;rw[wz hu];rfl)
 apply aB
 ·(walk_at "evs")
 refine dH (fun i ρ s=>∃o4 o5 o6:Option W,ρ=[some (.int L),some (.int R),some (.loc m),some (.loc st.length),o4,o5,o6]/\st <+: s/\s[st.length]?=some (.lst (((ce 0 L).take i).map (OA E R))))
  (e_ (q:=(L:Int)) (st1:=st++[al.lst []]) kn (by omega)) ⟨none,none,none,rfl,aR _ _,by rw[cH];rfl⟩ (fun _ _ _ _=>trivial) ?_ ?_
 ·rintro i w ρ s hw ⟨o4,o5,o6,rfl,hp,fg⟩
  rw[aO]at hw
  have hwm:w∈ce 0 L:=aY hw
  have hi:i<L:=by have:=(ai.mp hw).1;rw[cr]at this;exact this
  refine⟨_,rfl,?_⟩
  apply aB
  ·(walk_at "evs")
  refine dH (fun j ρ z=>∃o6:Option W,ρ=[some (.int L),some (.int R),some (.loc m),some (.loc st.length),some w,some (.loc s.length),o6]/\s <+: z/\z[s.length]?=some (.lst (((ce 0 R).take j).map (NO E R w))))
   (e_ (q:=(R:Int)) (st1:=s++[al.lst []]) kn (by omega)) ⟨_,rfl,aR _ _,by rw[cH];rfl⟩ (fun _ _ _ _=>trivial) ?_ ?_
  ·rintro j v ρ z hv ⟨o6,rfl,hz,hcz⟩
   rw[aO]at hv
   have hvm:v∈ce 0 R:=aY hv
   have hj:j<R:=by have:=(ai.mp hv).1;rw[cr]at this;exact this
   refine⟨_,rfl,?_⟩
   have hmz:z[m]?=some (.pin false f o w0):=gQ (hp.trans hz) hm
   have ec:=v5 (cap:=[none,some 2,some 4,some 6]) (fi:=cn (ao (ah 1) aK)) (f:=hZ 0) (el:=pA 1 3 c5 dI (ao (ah 2) (ao (ah 3) (ao (ah 0) aK)))) (ρ:=[some (.int L),some (.int R),some (.loc m),some (.loc st.length),some w,some (.loc s.length),some v]) (st:=z) (st1:=z)
    (ws:=ce 0 (R:Int).toNat) (ck:=none) (E w v) (e_ (q:=(R:Int)) kn (by omega)) (by rw[cr,aO];show R<=1000000;omega) trivial fun r hr=>by
     rw[aO]at hr
     exact⟨_,rfl,IS (m:=m) rfl hmz (aC kv (aC kv kn)) rfl (hc z (hp.trans hz) w hwm v hvm r hr)⟩
   rw[aO]at ec
   have et:cE hG (ao (hX [none,some 2,some 4,some 6] (cn (ao (ah 1) aK)) (hZ 0) qE (pA 1 3 c5 dI (ao (ah 2) (ao (ah 3) (ao (ah 0) aK))))) aK) [some (.int L),some (.int R),some (.loc m),some (.loc st.length),some w,some (.loc s.length),some v] z=.ok (NO E R w v) (z++[.lst ((ce 0 R).map (E w v))]):=
    cP (aC ec bG) (lh (bT cH))
   have ap:=wt (y:=NO E R w v) (gQ (s:=z++[.lst ((ce 0 R).map (E w v))]) (aR _ _) hcz) (by rw[ar,aV];omega)
   apply cS
   ·exact iU (jz kv (fH hcz) (aC et bG) ap)
   ·refine⟨_,_,rfl,_,rfl,wq (sj hz) (ay _),?_⟩
    rw[Ao (gQ (aR _ _) hcz),ve hv,eN];rfl
  ·rintro ρ z ⟨o6,rfl,hz,hcz⟩
   rw[aO,cr,bz (by rw[cr];exact ay _)]at hcz
   have hcp:=gQ hz fg
   have ap:=wt (y:=OA E R w) hcp (by rw[ar,aV];omega)
   apply cS
   ·exact iU (jz kv (fH hcp) (aC (cP kn (lh (bT hcz))) bG) ap)
   ·refine⟨_,_,rfl,_,_,_,rfl,wq (hp.trans hz) (ay _),?_⟩
    rw[Ao hcp,ve hw,eN];rfl
 ·rintro ρ s ⟨o4,o5,o6,rfl,hp,fg⟩
  rw[aO,cr,bz (by rw[cr];exact ay _)]at fg
  obtain⟨x,rfl⟩:=hp
  apply bM
  ·exact cP kn (lh (bT fg))
  ·exact⟨_,_,rfl,rfl,_,rfl⟩
def KW:Nat->List Nat
 |0=>[105,110]
 |1=>[111,110,101]
 |2=>[108,101,102,116]
 |3=>[114,105,103,104,116]
 |_=>[98,101,108,111,119]
def yS(l r:Int)(A B:Bool):Int:=if l=2\/r≠0\/(l=1/\B=false)then 2 else if A then 1 else 0
def Au(k:Nat)(l r:Int)(A B:Bool):Int:=match k with
 |0=>if l=1\/r=1\/(A=true/\B=false)then 1 else 0
 |1=>if 2<l+r+(if A then 1 else 0)then 2 else l+r+(if A then 1 else 0)
 |2=>yS l r A B
 |3=>yS r l A B
 |_=>if A=true\/(B=false/\(l=1\/r=1))then 1 else 0
abbrev KY(l:Int):Prop:=l=0\/l=1\/l=2
section
variable{l r:Int}(hl:KY l)(hr:KY r)(A B:Bool)(st:List al)
include hl hr
theorem Av:FJ [.int l,.int r,.bl A,.bl B] st=.ok (.int (Au 0 l r A B)) st:=by
 rcases hl with rfl|rfl|rfl<;>rcases hr with rfl|rfl|rfl<;>cases A<;>cases B<;>exact db (N:=4) (body:=QH) ⟨_,_,rfl,rfl,rfl⟩
theorem yT:FK [.int l,.int r,.bl A] st=.ok (.int (Au 1 l r A B)) st:=by
 rcases hl with rfl|rfl|rfl<;>rcases hr with rfl|rfl|rfl<;>cases A<;>exact db (N:=4) (body:=QK) ⟨_,_,rfl,rfl,rfl⟩
theorem qh:u8 [.int l,.int r,.bl A,.bl B] st=.ok (.int (yS l r A B)) st:=by
 rcases hl with rfl|rfl|rfl<;>rcases hr with rfl|rfl|rfl<;>cases A<;>cases B<;>exact db (N:=4) (body:=Kv) ⟨_,_,rfl,rfl,rfl⟩
theorem ur:yt [.int l,.int r,.bl A,.bl B] st=.ok (.int (Au 4 l r A B)) st:=by
 rcases hl with rfl|rfl|rfl<;>rcases hr with rfl|rfl|rfl<;>cases A<;>cases B<;>exact db (N:=4) (body:=Ku) ⟨_,_,rfl,rfl,rfl⟩
end
def dO(k a b:Nat):W:=if k=1 then .tup [.str (KW 1),.str [a]]else .tup [.str (KW k),.str [a],.str [b]]
def g9(k a b:Nat):Nat:=if k=1 then a else b
theorem F_{k a b:Nat}(hk:k<5){l r:Int}(hl:KY l)(hr:KY r)(m:List Nat)(st:List al) :
  tF [dO k a b,.str m,.int l,.int r] st=.ok (.int (Au k l r (decide (a∈m)) (decide (g9 k a b∈m)))) st:=by
 refine db (N:=7) (body:=Kw) ?_
 have i1:=Av hl hr (decide (a∈m)) (decide (b∈m)) st
 have i2:=yT hl hr (decide (a∈m)) (decide (a∈m)) st
 have i3:=qh hl hr (decide (a∈m)) (decide (b∈m)) st
 have i4:=qh hr hl (decide (a∈m)) (decide (b∈m)) st
 have i5:=ur hl hr (decide (a∈m)) (decide (b∈m)) st
 obtain rfl|rfl|rfl|rfl|rfl:k=0\/k=1\/k=2\/k=3\/k=4:=by omega
 ·exact aB rfl (aB rfl (aB rfl (dy rfl (dz (cR (aC kv (aC kv (aC kv kn))) i1 rfl) ⟨_,_,rfl,rfl,rfl⟩))))
 ·exact aB rfl (aB rfl (aB rfl (a9 rfl (br (dy rfl (dz (cR (aC kv (aC kv kn)) i2 rfl) ⟨_,_,rfl,rfl,rfl⟩))))))
 ·exact aB rfl (aB rfl (aB rfl (a9 rfl (br (a9 rfl (br (dy rfl (dz (cR (aC kv (aC kv (aC kv kn))) i3 rfl) ⟨_,_,rfl,rfl,rfl⟩))))))))
 ·exact aB rfl (aB rfl (aB rfl (a9 rfl (br (a9 rfl (br (a9 rfl (br (dy rfl (dz (cR (aC kv (aC kv (aC kv kn))) i4 rfl) ⟨_,_,rfl,rfl,rfl⟩))))))))))
 ·exact aB rfl (aB rfl (aB rfl (a9 rfl (br (a9 rfl (br (a9 rfl (br (a9 rfl (br (bM (cR (aC kv (aC kv (aC kv kn))) i5 rfl) ⟨_,_,rfl,rfl,rfl⟩)))))))))))
theorem Je{k a b x:Nat}(hk:k<5){l r:Int}(hl:KY l)(hr:KY r)(nm:List Nat)(hn:nm.length<=60)(st:List al) :
  dI [.int (x:Nat),.int l,.int r,dO k a b,.str nm] st=.ok (.int (Au k l r (decide (a∈Hb nm x)) (decide (g9 k a b∈Hb nm x)))) st:=by
 refine db (N:=5) (body:=kL) ?_
 exact bM (cR (aC kv (aC (cR (aC kv kn) (Da nm x hn st) rfl) (aC kv kn))) (F_ hk hl hr _ st) rfl) ⟨_,_,rfl,rfl,rfl⟩
def ut(k a b:Nat):List Nat:=if k=1 then[a]else[a,b]
def t5(k a b:Nat):List Nat:=kJ (ut k a b)
def oI(k:Nat):Nat:=if k=0\/k=4 then 2 else 3
def Q_(k:Nat):Int:=if k=1 then 1 else 0
def NP(k:Nat):W->W
 |.int i=>.bl (i==Q_ k)
 |_=>.non
def Es(k a b:Nat)(nm:List Nat):W->W->W->W
 |.int x,.int l,.int r=>.int (Au k l r (decide (a∈Hb nm x.toNat)) (decide (g9 k a b∈Hb nm x.toNat)))
 |_,_,_=>.non
def NQ(k a b:Nat):W:=.tup [.str (t5 k a b),.tup ((ce 0 (oI k)).map (NP k)),Db (Es k a b (t5 k a b)) (2^(t5 k a b).length) (oI k)]
theorem F'{k a b:Nat}(hk:k<5)(st:List al):An [dO k a b] st=.ok (.bl true) st:=by
 obtain rfl|rfl|rfl|rfl|rfl:k=0\/k=1\/k=2\/k=3\/k=4:=by omega
 all_goals exact db (N:=1) (body:=QO) ⟨_,_,rfl,rfl,rfl⟩
theorem Ga{k a b:Nat}(hk:k<5)(ha:a∈LL)(hb:b∈LL)(st:List al):C4 40 [dO k a b] st=.ok (.str (t5 k a b)) st:=by
 have hl:∀c∈ut k a b,c∈LL:=fun c hc=>by
  unfold ut at hc
  split at hc
  ·simp at hc;rw[hc];exact ha
  ·simp at hc;rcases hc with rfl|rfl<;>assumption
 have hn:(ut k a b).length<4000:=by unfold ut;split<;>simp
 have ej:Ex s9 (eC (.str [])) (ao (Dx (ah 0) (ng (eI 1)) nL) aK) [some (dO k a b),none,none] st=.ok (.str (ut k a b)) st:=by
  obtain rfl|rfl|rfl|rfl|rfl:k=0\/k=1\/k=2\/k=3\/k=4:=by omega
  all_goals rfl
 refine db (N:=3) (body:=QR (C4 39)) ?_
 exact dy (cu (cR kn (F' hk st) rfl)) (dz (cR (aC ej bG) (F8 hn hl st) rfl) ⟨_,_,rfl,rfl,rfl⟩)
theorem Gb(k a b:Nat):(t5 k a b).length<=2:=by
 have h:(t5 k a b).length<=(ut k a b).length:=k_ ((pY _).imp fun h=>ba h) fun c hc=>j6.mp hc
 have:(ut k a b).length<=2:=by unfold ut;split<;>simp
 omega
theorem io{n:Nat}{w:W}(h:w∈ce 0 n):∃i:Nat,i<n/\w=.int (i:Int):=by
 obtain⟨i,hi⟩:=jq h
 obtain⟨h1,rfl⟩:=gT hi
 exact⟨i,h1,by rw[eV]⟩
theorem KZ(k:Nat):oI k<=3:=by unfold oI;split<;>omega
theorem K0{k i:Nat}(h:i<oI k):KY (i:Int):=by have:=KZ k;unfold KY;omega
theorem Aw(k a b:Nat)(nm:List Nat)(x l r:W)(n:Nat):(Es k a b nm x l r).und n=true:=by
 unfold Es
 split<;>rfl
abbrev NR:al:=.tab 107 ⟨84,4,85,73⟩ "base_of.<locals>.lead"
theorem Jf{k a b:Nat}(hk:k<5)(ha:a∈LL)(hb:b∈LL){st:List al}(UN:iQ st)(ht:st[1]?=some NR):yu [dO k a b] st=.ok (NQ k a b) st:=by
 obtain⟨nm,hnm⟩:∃nm,nm=t5 k a b:=⟨_,rfl⟩
 have hl2:nm.length<=2:=by rw[hnm];exact Gb k a b
 have p2:2^nm.length<=4:=Nat.pow_le_pow_right (by omega) hl2
 have hR:oI k<=3:=KZ k
 have hum:∀n,(NQ k a b).und n=true:=fun n=>by
  unfold NQ W.und undWs undWs undWs undWs
  rw[wz fun x l r=>Aw _ _ _ _ x l r n]
  rw[show(W.tup ((ce 0 (oI k)).map (NP k))).und n=true by unfold W.und;exact qg fun x _=>by unfold NP;split<;>rfl]
  rfl
 have hums:∀n,undWs n [NQ k a b]=true:=fun n=>by unfold undWs undWs;rw[hum];rfl
 refine hJ (N:=6) (ws:=[dO k a b]) (body:=Kx) ?_ (hums _)
 have en:=Ga hk ha hb st
 rw[<- hnm]at en
 refine aB (bg (cR kn en rfl)) ?_
 have e2:(xD (dv (e2 (pM false) (e2 bO (ah 0) (eI 0)) (mq (ao (eC (.str [105,110])) (ao (eC (.str [98,101,108,111,119])) aK))))) (eI 2) (eI 3)) [some (dO k a b),some (.str nm),none,none,none,none] st=.ok (.int (oI k)) st:=by
  obtain rfl|rfl|rfl|rfl|rfl:k=0\/k=1\/k=2\/k=3\/k=4:=by omega
  all_goals rfl
 refine aB (bg e2) ?_
 have e3:(xD (dv (L2.e2 gP (L2.e2 bO (ah 0) (eI 0)) (eC (.str [111,110,101])))) (eI 1) (eI 0)) [some (dO k a b),some (.str nm),some (.int (oI k)),none,none,none] st=.ok (.int (Q_ k)) st:=by
  obtain rfl|rfl|rfl|rfl|rfl:k=0\/k=1\/k=2\/k=3\/k=4:=by omega
  all_goals rfl
 refine aB (bg e3) ?_
 have ec:=v5 (cap:=[none,some 3]) (fi:=cn (ao (ah 2) aK)) (f:=hZ 0) (el:=L2.e2 gP (ah 0) (ah 1)) (ρ:=[some (dO k a b),some (.str nm),some (.int (oI k)),some (.int (Q_ k)),none,none]) (st:=st) (st1:=st) (ws:=ce 0 (oI k:Int).toNat) (ck:=none) (NP k)
  (e_ (q:=(oI k:Int)) kn (by omega)) (by rw[cr,aO];show _<=1000000;omega) trivial fun w hw=>by
   rw[aO]at hw
   obtain⟨i,hi,rfl⟩:=io hw
   exact⟨_,rfl,bQ kv kv (im rfl)⟩
 rw[aO]at ec
 refine aB (bg (cP (aC ec bG) (lh (bT cH)))) ?_
 generalize hs1:st++[al.lst ((ce 0 (oI k)).map (NP k))]=s1
 have np1:iQ s1:=fun d hd c=>by
  rw[<- hs1]at hd
  rcases bB.mp hd with hd|hd
  ·exact UN d hd c
  ·rw[be.mp hd];rfl
 have ht1:xX s1 1 107 ⟨84,4,85,73⟩ "base_of.<locals>.lead":=by rw[<- hs1];exact bX ht
 refine cS (EZ (w:=NQ k a b) ht1 (hums _) fun f o ok=>⟨[.pin false f o .non],?_⟩) ⟨_,_,rfl,rfl,[al.lst ((ce 0 (oI k)).map (NP k))],hs1.symm⟩
 obtain⟨cl,i9,pm,cd,ct,hx,zq,rfl⟩:=ok
 generalize ho:fnMade "lead" "base_of.<locals>.lead" (eK eM) (ef eM) (aI eM) cl i9 pm cd ct=o
 have hok:c5 o:=⟨cl,i9,pm,cd,ct,hx,zq,ho.symm⟩
 have hclo:lM o=cl:=by rw[<- ho];rfl
 have lX:cl.length=2:=by have:=cM List.length hx;rw[ar]at this;exact this
 generalize vj:s1++[al.pin false f o .non]=s2
 have np2:iQ s2:=fun d hd c=>by
  rw[<- vj]at hd
  rcases bB.mp hd with hd|hd
  ·exact np1 d hd c
  ·rw[be.mp hd];rfl
 have hm2:s2[s1.length]?=some (.pin false f o .non):=by rw[<- vj];exact cH
 have lnx:e7 [.str nm] s2=.ok (.int nm.length) s2:=vZ (by show _<=1000000;omega)
 refine Bx (p9 (ws:=[.str nm,.tup ((ce 0 (oI k)).map (NP k)),Db (Es k a b nm) (2^nm.length) (oI k)]) (aC kv (aC kv (aC ?_ bG))) (bC rfl) |>.trans (by rw[hnm];rfl))
 refine MJ (ws:=[.int (2^nm.length:Nat),.int (oI k),.loc s1.length]) (cws:=[dO k a b,.str nm]) (aC (cR (aC (cP kn lnx) bG) (NN _ (by omega) _) rfl) (aC kv kn)) rfl rfl ?_
 refine IR (by rw[hclo,lX];rfl) (by show(_&&true)=true;rw[wz fun x l r=>Aw _ _ _ _ x l r _];rfl) fun os hos=>?_
 rw[hclo]at hos ⊢
 have hz1:=MG (C:=cl) (os:=os) (cws:=[dO k a b,.str nm]) hos (by rw[lX];rfl)
 have hz2:=MH (C:=cl) (os:=os) (cws:=[dO k a b,.str nm]) hos (by rw[lX];rfl)
 generalize lN cl os [dO k a b,.str nm]=Lz at hz1 hz2
 have hmz:∀y,(s2++(il Lz++y))[s1.length]?=some (.pin false f o .non):=fun y=>bX hm2
 refine F9 (E:=Es k a b nm) (by omega) (by omega) (hmz _) (fun x l r=>Aw _ _ _ _ x l r _) fun s hs x hx' l hl' r hr'=>?_
 obtain⟨y,rfl⟩:=hs
 rw[cI,bj]
 obtain⟨xi,hxi,rfl⟩:=io hx'
 obtain⟨li,hli,rfl⟩:=io hl'
 obtain⟨ri,hri,rfl⟩:=io hr'
 refine EX (hmz y) hok (by rw[hclo,hz1]) (by rw[hz1];exact zq) np2 fun s=>?_
 rw[hz2]
 exact Je hk (K0 hli) (K0 hri) nm (by omega) s
theorem Ra{l:List Nat}{c i:Nat}(h:l[i]?=some c)(hn:∀k,k<i->l[k]?≠some c):JT l c=(i:Int):=by
 have e2:(tx l).cps.toList=l:=by simp[tx]
 have at':∀k,StrLaws.At (tx l) (tx [c]) (tx l).length k↔l[k]?=some c:=fun k=>by
  have:=StrLaws.subAt_one (tx l) c k
  rw[e2]at this
  exact this
 unfold JT
 rcases StrLaws.occ_head (tx l) (tx [c]) 1 (ay _)with⟨_,no⟩|⟨j,r,e,ha,hk⟩
 ·exact absurd ((at' i).mpr h) (no i)
 ·rw[e]
  have hj:=(at' j).mp ha
  rcases kX j i with z|z|z
  ·exact absurd hj (hn j z)
  ·rw[z]
  ·exact absurd ((at' i).mpr h) (hk i z)
theorem Rb{l:List Nat}(nd:l.Nodup){c i k:Nat}(h:l[i]?=some c)(h2:l[k]?=some c):k=i:=by
 have hi:=(ai.mp h).1
 have hk:=(ai.mp h2).1
 exact(List.getElem?_inj hk nd).mp (by rw[h2,h])
theorem K3(k a b:Nat):(t5 k a b).Nodup:=(pY _).imp fun h=>ba h
def NS(nm:List Nat)(x c:Nat):Bool:=decide (c∈Hb nm x)
theorem Rc{nm:List Nat}(nd:nm.Nodup){c i:Nat}(h:nm[i]?=some c)(x:Nat):NS nm x c=decide (x/2^(nm.length-1-i)%2=1):=by
 have hi:=(ai.mp h).1
 unfold NS
 rw[decide_eq_decide]
 unfold Hb
 rw[aJ]
 constructor
 ·rintro⟨j,hj,e⟩
  rw[jD,f7]at hj
  obtain⟨hj1,hj2⟩:=hj
  rw[av,ae hj1]at e
  have:j=i:=Rb nd h (by rw[ae hj1];exact cM some e)
  subst this
  exact iM hj2
 ·intro hb
  refine⟨i,jD.mpr ⟨f7.mpr hi,aQ hb⟩,?_⟩
  rw[av,h];rfl
theorem Gd{x c:Nat}(st:List al){fa fb:FE}{ρ:bW}(h1:fa ρ st=.ok (.int (x:Nat)) st)(h2:fb ρ st=.ok (.int (c:Nat)) st) :
  e2 gP (e2 gZ (e2 mw fa fb) (eI 1)) (eI 1) ρ st=.ok (.bl (decide (x/2^c%2=1))) st:=by
 refine bQ (bQ (bQ h1 h2 F5) cC ww) cC (im ?_)
 by_cases h:x/2^c%2=1
 ·rw[h];rfl
 ·rw[aG h,bd];omega
theorem rV{k:Nat}(hk:k<5):k=0\/k=1\/k=2\/k=3\/k=4:=by omega
theorem K4:LL.length=52:=by decide
theorem yU{d:Int}(hd:0<=d)(n:Nat)(hn:0<n):∃k:Nat,k<n/\d%(n:Int)=(k:Int):=by
 have h0:0<=d%(n:Int):=gy _ (by omega)
 have h1:d%(n:Int)<n:=ik _ (by omega)
 exact⟨(d%(n:Int)).toNat,by omega,by omega⟩
theorem Ax{p:Nat}{dr:List Int}{d0 d1 d2 d3:Int}(h0:0<=d0)(h1:0<=d1)(h2:0<=d2)(h3:0<=d3){st:List al}(hc:st[p]?=some (.lst ((d0::d1::d2::d3::dr).map W.int))):∃k a b:Nat,k<5/\a∈LL/\b∈LL/\yA [.loc p] st=.ok (dO k a b) st:=by
 have ix:∀{i:Nat} {d:Int},(d0::d1::d2::d3::dr)[i]?=some d->bO (.loc p) (.int i) st=.ok (.int d) st:=fun{i d} e=>nR (bT hc) (ic (by rw[aD,e];rfl))
 obtain⟨k,hk,ek⟩:=yU h0 5 (by omega)
 obtain⟨ja,hja,ea⟩:=yU h1 52 (by omega)
 obtain⟨jb,hjb,eb⟩:=yU h2 52 (by omega)
 have lx:∀{j:Nat} (hj:j<52),∃c∈LL,bO (.str LL) (.int (j:Int)) st=.ok (.str [c]) st:=fun{j} hj=>by
  have hl:j<LL.length:=by rw[K4];exact hj
  exact⟨LL[j],cW _,EV (by show LL.length<=1000000;rw[K4];omega) (ic (by simp[hl]))⟩
 obtain⟨a,ha,xa⟩:=lx hja
 obtain⟨b,hb,xb⟩:=lx hjb
 have e0:e2 gR (e2 bO (ah 0) (eI 0)) (eI 5) [some (.loc p),some (.str LL),none,none,none] st=.ok (.int (k:Int)) st:=by
  rw[<- ek];exact bQ (bQ kv cC (ix (i:=0) rfl)) cC (gr (by decide))
 have ew:e2 bO (mq (Bb [[105,110],[111,110,101],[108,101,102,116],[114,105,103,104,116],[98,101,108,111,119]])) (e2 gR (e2 bO (ah 0) (eI 0)) (eI 5)) [some (.loc p),some (.str LL),none,none,none] st=.ok (.str (KW k)) st:=by
  refine bQ (x:=.tup [.str [105,110],.str [111,110,101],.str [108,101,102,116],.str [114,105,103,104,116],.str [98,101,108,111,119]]) rfl e0 ?_
  obtain rfl|rfl|rfl|rfl|rfl:=rV hk<;>rfl
 have e1:∀(o2 o3 o4:Option W),e2 gR (e2 bO (ah 0) (eI 1)) (eI 52) [some (.loc p),some (.str LL),o2,o3,o4] st=.ok (.int (ja:Int)) st:=fun o2 o3 o4=>by
  rw[<- ea];exact bQ (bQ kv cC (ix (i:=1) rfl)) cC (gr (by decide))
 have e2':∀(o2 o3 o4:Option W),e2 gR (e2 bO (ah 0) (eI 2)) (eI 52) [some (.loc p),some (.str LL),o2,o3,o4] st=.ok (.int (jb:Int)) st:=fun o2 o3 o4=>by
  rw[<- eb];exact bQ (bQ kv cC (ix (i:=2) rfl)) cC (gr (by decide))
 suffices hh:iP (wP fun w bu=>bu=st/\∃b',b'∈LL/\w=dO k a b') (KC ([W.loc p].map some++List.replicate (5-1) none) st) by
  obtain⟨w,bu,e,rfl,b',hb',rfl⟩:=hh
  exact⟨k,a,b',hk,ha,hb',lQ e⟩
 refine aB (bg cC) (aB (bg ew) (aB (bg (bQ kv (e1 _ _ _) xa)) ?_))
 by_cases hk1:k=1
 ·subst hk1
  exact dy rfl (dz (p9 (aC kv kn) (bC rfl)) ⟨_,_,rfl,rfl,a,ha,rfl⟩)
 ·have oK:dv (e2 gP (ah 2) (eC (.str [111,110,101]))) [some (.loc p),some (.str LL),some (.str (KW k)),some (.str [a]),none] st=.ok false st:=by
   obtain rfl|rfl|rfl|rfl|rfl:=rV hk
   ·rfl
   ·exact absurd rfl hk1
   ·rfl
   ·rfl
   ·rfl
  have mi:∀c,dO k a c=.tup [.str (KW k),.str [a],.str [c]]:=fun c=>by unfold dO;rw[ax hk1]
  refine a9 oK (br (aB (bg (bQ kv (e2' _ _ _) xb)) ?_))
  have e3:e2 gP (e2 gR (e2 bO (ah 0) (eI 3)) (eI 4)) (eI 0) [some (.loc p),some (.str LL),some (.str (KW k)),some (.str [a]),some (.str [b])] st=.ok (.bl (d3%4==0)) st:=
   bQ (bQ (bQ kv cC (ix (i:=3) rfl)) cC (gr (by decide))) cC (im rfl)
  cases h4:(d3%4==0)with
  |true=>
   rw[h4]at e3
   refine dy (cu e3) (aB (bg kv) (bM (p9 (aC kv (aC kv kn)) (bC rfl)) ⟨_,_,rfl,rfl,a,ha,(mi a).symm⟩))
  |false=>
   rw[h4]at e3
   refine a9 (cu e3) (br (bM (p9 (aC kv (aC kv kn)) (bC rfl)) ⟨_,_,rfl,rfl,b,hb,(mi b).symm⟩))
def lo(sz:List Nat)(i:Nat):Nat:=i+1-sz.getD i 0
structure NT(sz:List Nat)(lk:List (Option Nat×Option Nat))(i L R:Nat):Prop where
 s:sz.getD i 0=1+L+R
 le:L+R<=i
 l0:L=0->(lk.getD i (none,none)).1=none
 l1:0<L->(lk.getD i (none,none)).1=some (i-1-R)/\sz.getD (i-1-R) 0=L
 r0:R=0->(lk.getD i (none,none)).2=none
 r1:0<R->(lk.getD i (none,none)).2=some (i-1)/\sz.getD (i-1) 0=R
theorem jW{α:Type}{l:List α}{i:Nat}{x d:α}(h:l[i]?=some x):l.getD i d=x:=by rw[av,h];rfl
theorem At.size_at{sz:List Nat}{S:List Nat}{a n:Nat}(h:At sz (a::S) n):sz.getD (n-1) 0=a:=jW h.1
theorem qV{ps:List Pl}{S sz:List Nat}{lk:List (Option Nat×Option Nat)}(h:Gr ps S sz lk){i:Nat}(hi:i<ps.length):∃L R,NT sz lk i L R:=by
 obtain⟨S1,S2,p,k,x,g1,q1,q2,q3,hs,_⟩:=h.step i hi
 obtain⟨l1,l2,ha⟩:=g1.ok
 have eR:(ps.take i).length=i:=by rw[aV];omega
 rw[eR]at ha
 have get:∀j a,j<i->(sz.take i)[j]?=some a->sz.getD j 0=a:=fun j a hj e=>by
  rw[bv hj]at e;exact jW e
 have hz:sz.getD i 0=k:=jW q2
 have hx:lk.getD i (none,none)=x:=jW q3
 obtain⟨b,m⟩:=p
 cases hs with
 |z=>exact⟨0,0,⟨hz,by omega,fun _=>by rw[hx],fun z=>absurd z (by omega),fun _=>by rw[hx],fun z=>absurd z (by omega)⟩⟩
 |@l a S=>
  have ha2:a<=i:=ha.2.1
  have ha3:1<=a:=ha.2.2.1
  exact⟨a,0,⟨hz,by omega,fun z=>absurd z (by omega),fun _=>⟨by rw[hx];rfl,get _ _ (by omega) ha.1⟩,fun _=>by rw[hx],fun z=>absurd z (by omega)⟩⟩
 |@r a S=>
  have ha2:a<=i:=ha.2.1
  have ha3:1<=a:=ha.2.2.1
  exact⟨0,a,⟨by rw[hz],by omega,fun _=>by rw[hx],fun z=>absurd z (by omega),fun z=>absurd z (by omega),fun _=>⟨by rw[hx],get _ _ (by omega) ha.1⟩⟩⟩
 |@b c a S=>
  have ha2:c<=i:=ha.2.1
  have ha3:1<=c:=ha.2.2.1
  have hb2:a<=i-c:=ha.2.2.2.2.1
  have hb3:1<=a:=ha.2.2.2.2.2.1
  have hb1:(sz.take i)[i-c-1]?=some a:=ha.2.2.2.1
  exact⟨a,c,⟨by rw[hz];omega,by omega,fun z=>absurd z (by omega),fun _=>⟨by rw[hx],get (i-1-c) a (by omega) (by rw[show i-1-c=i-c-1 by omega];exact hb1)⟩,fun z=>absurd z (by omega),fun _=>⟨by rw[hx],get _ _ (by omega) ha.1⟩⟩⟩
section
variable{ps:List Pl}{S sz:List Nat}{lk:List (Option Nat×Option Nat)}{i L R:Nat}
theorem NT.lo_i(c:NT sz lk i L R):lo sz i=i-R-L:=by unfold lo;rw[c.s];have:=c.le;omega
theorem NT.lo_l(c:NT sz lk i L R)(h:0<L):lo sz (i-1-R)=i-R-L:=by unfold lo;rw[(c.l1 h).2];have:=c.le;omega
theorem NT.lo_r(c:NT sz lk i L R)(h:0<R):lo sz (i-1)=i-R:=by unfold lo;rw[(c.r1 h).2];have:=c.le;omega
theorem BM(h:Gr ps S sz lk):∀(i:Nat),i<ps.length->∀k,lo sz i<=k->k<=i->lo sz i<=lo sz k:=by
 intro i
 induction i using Nat.strongRecOn with
 |_ i ih=>
  intro hi k h1 h2
  obtain⟨L,R,c⟩:=qV h hi
  have hle:=c.le
  rw[c.lo_i]at h1 ⊢
  by_cases e:k=i
  ·subst e;rw[c.lo_i];exact ay _
  ·by_cases hr:i-R<=k
   ·have hR:0<R:=by omega
    have:=ih (i-1) (by omega) (by omega) k (by rw[c.lo_r hR];exact hr) (by omega)
    rw[c.lo_r hR]at this
    omega
   ·have hL:0<L:=by omega
    have:=ih (i-1-R) (by omega) (by omega) k (by rw[c.lo_l hL];exact h1) (by omega)
    rw[c.lo_l hL]at this
    exact this
theorem NU(h:Gr ps S sz lk)(hS:S.length<=1)(h0:0<ps.length):lo sz (ps.length-1)=0:=by
 obtain⟨l1,l2,ha⟩:=h.ok
 cases S with
 |nil=>have:ps.length=0:=ha;omega
 |cons a S=>
  cases S with
  |nil=>
   have e:=At.size_at ha
   have h2:ps.length-a=0:=ha.2.2.2
   have h3:=ha.2.1
   unfold lo
   rw[e];omega
  |cons b S=>simp at hS
end
structure NV(sz:List Nat)(i:Nat)(x y:Option Nat):Prop where
 cov:∀j,lo sz i<=j->j<i->(∃t,x=some t/\lo sz t<=j/\j<=t)\/∃t,y=some t/\lo sz t<=j/\j<=t
 bx:∀t,x=some t->lo sz i<=lo sz t/\lo sz t<=t/\t<i
 by':∀t,y=some t->lo sz i<=lo sz t/\lo sz t<=t/\t<i
 dis:∀t u,x=some t->y=some u->∀j,lo sz t<=j->j<=t->lo sz u<=j->j<=u->False
theorem NV.symm{sz:List Nat}{i:Nat}{x y:Option Nat}(b:NV sz i x y):NV sz i y x:=
 ⟨fun j h1 h2=>(b.cov j h1 h2).symm,b.by',b.bx,fun t u h1 h2 j a1 a2 a3 a4=>b.dis u t h2 h1 j a3 a4 a1 a2⟩
theorem pJ{ps:List Pl}{S sz:List Nat}{lk:List (Option Nat×Option Nat)}(h:Gr ps S sz lk){i:Nat}(hi:i<ps.length):NV sz i (lk.getD i (none,none)).1 (lk.getD i (none,none)).2:=by
 obtain⟨L,R,c⟩:=qV h hi
 have hle:=c.le
 have xl:∀t,(lk.getD i (none,none)).1=some t->0<L/\t=i-1-R:=fun t e=>by
  rcases gl L with z|z
  ·rw[c.l0 z]at e;cases e
  ·rw[(c.l1 z).1]at e;exact⟨z,(aS e).symm⟩
 have xr:∀t,(lk.getD i (none,none)).2=some t->0<R/\t=i-1:=fun t e=>by
  rcases gl R with z|z
  ·rw[c.r0 z]at e;cases e
  ·rw[(c.r1 z).1]at e;exact⟨z,(aS e).symm⟩
 refine⟨fun j h1 h2=>?_,fun t e=>?_,fun t e=>?_,fun t u e1 e2 j a1 a2 a3 a4=>?_⟩
 ·rw[c.lo_i]at h1
  by_cases hr:i-R<=j
  ·have z:0<R:=by omega
   exact .inr ⟨i-1,(c.r1 z).1,by rw[c.lo_r z];exact hr,by omega⟩
  ·have z:0<L:=by omega
   exact .inl ⟨i-1-R,(c.l1 z).1,by rw[c.lo_l z];exact h1,by omega⟩
 ·obtain⟨z,rfl⟩:=xl t e
  rw[c.lo_i,c.lo_l z];omega
 ·obtain⟨z,rfl⟩:=xr t e
  rw[c.lo_i,c.lo_r z];omega
 ·obtain⟨z1,rfl⟩:=xl t e1
  obtain⟨z2,rfl⟩:=xr u e2
  rw[c.lo_l z1]at a1
  rw[c.lo_r z2]at a3
  omega
def vl(rm:Nat->Nat):Option Nat->Nat
 |none=>0
 |some t=>rm t
def rE(l r:Nat)(A B:Bool):Nat:=if l=2\/r≠0\/(l=1/\B=false)then 2 else if A then 1 else 0
def wA(k:Nat)(l r:Nat)(A B:Bool):Nat:=match k with
 |0=>if l=1\/r=1\/(A=true/\B=false)then 1 else 0
 |1=>if 2<l+r+(if A then 1 else 0)then 2 else l+r+(if A then 1 else 0)
 |2=>rE l r A B
 |3=>rE r l A B
 |_=>if A=true\/(B=false/\(l=1\/r=1))then 1 else 0
section
variable{ps:List Pl}{S sz:List Nat}{lk:List (Option Nat×Option Nat)}{A B:Nat->Bool}{rm:Nat->Nat}
abbrev lx(lk:List (Option Nat×Option Nat))(i:Nat):Option Nat:=(lk.getD i (none,none)).1
abbrev ly(lk:List (Option Nat×Option Nat))(i:Nat):Option Nat:=(lk.getD i (none,none)).2
open Classical in
theorem Re(h:Gr ps S sz lk)(hr:∀i,i<ps.length->rm i=wA 0 (vl rm (lx lk i)) (vl rm (ly lk i)) (A i) (B i)):∀i,i<ps.length->rm i=if ∃j,lo sz i<=j/\j<=i/\A j=true/\B j=false then 1 else 0:=by
 intro i
 induction i using Nat.strongRecOn with
 |_ i ih=>
  intro hi
  have b:=pJ h hi
  have sub:∀{t},(lx lk i=some t\/ly lk i=some t)->lo sz i<=lo sz t/\t<i/\(rm t=if ∃j,lo sz t<=j/\j<=t/\A j=true/\B j=false then 1 else 0):=fun{t} e=>by
   have q:lo sz i<=lo sz t/\lo sz t<=t/\t<i:=e.elim (b.bx t) (b.by' t)
   exact⟨q.1,q.2.2,ih t q.2.2 (by omega)⟩
  have up:∀{o:Option Nat},(o=lx lk i\/o=ly lk i)->vl rm o=1->∃j,lo sz i<=j/\j<=i/\A j=true/\B j=false:=fun{o} ho e=>by
   cases o with
   |none=>cases e
   |some t=>
    obtain⟨q1,q2,q3⟩:=sub (ho.imp Eq.symm Eq.symm)
    have e:rm t=1:=e
    rw[q3]at e
    by_cases w:∃j,lo sz t<=j/\j<=t/\A j=true/\B j=false
    ·obtain⟨j,w1,w2,w3⟩:=w
     exact⟨j,by omega,by omega,w3⟩
    ·rw[ax w]at e;cases e
  rw[hr i hi]
  show(if _ then 1 else 0)=_
  congr 1
  rw[eq_iff_iff]
  constructor
  ·rintro(e|e|e)
   ·exact up (.inl rfl) e
   ·exact up (.inr rfl) e
   ·exact⟨i,by unfold lo;have:=(qV h hi);obtain⟨L,R,c⟩:=this;rw[c.s];omega,ay _,e⟩
  ·rintro⟨j,h1,h2,h3⟩
   by_cases e:j=i
   ·subst e;exact .inr (.inr h3)
   ·rcases b.cov j h1 (by omega)with⟨t,e1,e2,e3⟩|⟨t,e1,e2,e3⟩
    ·refine .inl ?_
     rw[show lx lk i=some t from e1]
     show rm t=1
     rw[(sub (.inl e1)).2.2,aq ⟨j,e2,e3,h3⟩]
    ·refine .inr (.inl ?_)
     rw[show ly lk i=some t from e1]
     show rm t=1
     rw[(sub (.inr e1)).2.2,aq ⟨j,e2,e3,h3⟩]
def NW(sz:List Nat)(A B:Nat->Bool)(i:Nat):Prop:=∃j,lo sz i<=j/\j<=i/\A j=true/\∀q,lo sz i<=q->q<=i->B q=true->¬ (lo sz q<=j/\j<q)
open Classical in
theorem Ge(h:Gr ps S sz lk)(hr:∀i,i<ps.length->rm i=wA 4 (vl rm (lx lk i)) (vl rm (ly lk i)) (A i) (B i)):∀i,i<ps.length->rm i=if NW sz A B i then 1 else 0:=by
 intro i
 induction i using Nat.strongRecOn with
 |_ i ih=>
  intro hi
  have b:=pJ h hi
  have loi:lo sz i<=i:=by obtain⟨L,R,c⟩:=qV h hi;rw[c.lo_i];omega
  have two:∀{x y:Option Nat},NV sz i x y->vl rm x=1->B i=false->NW sz A B i:=fun{x y} b e hB=>by
   cases x with
   |none=>cases e
   |some t=>
    obtain⟨q1,q2,q3⟩:=b.bx t rfl
    have e:rm t=1:=e
    rw[ih t q3 (by omega)]at e
    by_cases w:NW sz A B t
    ·obtain⟨j,w1,w2,w3,w4⟩:=w
     refine⟨j,by omega,by omega,w3,fun q a1 a2 a3 a4=>?_⟩
     by_cases eq:q=i
     ·subst eq;rw[hB]at a3;cases a3
     ·rcases b.cov q a1 (by omega)with⟨u,e1,e2,e3⟩|⟨u,e1,e2,e3⟩
      ·cases e1;exact w4 q e2 e3 a3 a4
      ·have:=BM h u (by have:=(b.by' u e1).2.2;omega) q e2 e3
       exact b.dis t u rfl e1 j w1 w2 (by omega) (by omega)
    ·rw[ax w]at e;cases e
  have back:∀{x y:Option Nat},NV sz i x y->∀{j t},x=some t->lo sz t<=j->j<=t->A j=true->(∀q,lo sz i<=q->q<=i->B q=true->¬ (lo sz q<=j/\j<q))->vl rm x=1/\B i=false:=fun{x y} b {j t} e1 e2 e3 hA hq=>by
   subst e1
   obtain⟨q1,q2,q3⟩:=b.bx t rfl
   refine⟨?_,?_⟩
   ·show rm t=1
    rw[ih t q3 (by omega),aq ⟨j,e2,e3,hA,fun q a1 a2 a3 a4=>hq q (by omega) (by omega) a3 a4⟩]
   ·cases hB:B i with
    |false=>rfl
    |true=>exact absurd ⟨by omega,by omega⟩ (hq i loi (ay _) hB)
  rw[hr i hi]
  show(if _ then 1 else 0)=_
  congr 1
  rw[eq_iff_iff]
  constructor
  ·rintro(e|⟨hB,e|e⟩)
   ·exact⟨i,loi,ay _,e,fun q _ a2 _ a4=>by omega⟩
   ·exact two b e hB
   ·exact two b.symm e hB
  ·rintro⟨j,h1,h2,h3,h4⟩
   by_cases e:j=i
   ·subst e;exact .inl h3
   ·rcases b.cov j h1 (by omega)with⟨t,e1,e2,e3⟩|⟨t,e1,e2,e3⟩
    ·obtain⟨r1,r2⟩:=back b e1 e2 e3 h3 h4
     exact .inr ⟨r2,.inl r1⟩
    ·obtain⟨r1,r2⟩:=back b.symm e1 e2 e3 h3 h4
     exact .inr ⟨r2,.inr r1⟩
def tO(sz:List Nat)(ch:Nat->Option Nat)(A B:Nat->Bool)(i:Nat):Prop:=∃j,lo sz i<=j/\j<i/\A j=true/\∀q,lo sz i<=q->q<=i->B q=true->ch q≠some j
open Classical in
theorem BN(h:Gr ps S sz lk){ch fa:Nat->Option Nat}(hb:∀i,i<ps.length->NV sz i (ch i) (fa i))(hr:∀i,i<ps.length->rm i=rE (vl rm (ch i)) (vl rm (fa i)) (A i) (B i)):∀i,i<ps.length->rm i=if tO sz ch A B i then 2 else if A i=true then 1 else 0:=by
 have chb:∀{q j},q<ps.length->ch q=some j->lo sz q<=j/\j<q:=fun{q j} hq e=>by
  have:=(hb q hq).bx j e;omega
 intro i
 induction i using Nat.strongRecOn with
 |_ i ih=>
  intro hi
  have b:=hb i hi
  have loi:lo sz i<=i:=by obtain⟨L,R,c⟩:=qV h hi;rw[c.lo_i];omega
  have key:(vl rm (ch i)=2\/vl rm (fa i)≠0\/(vl rm (ch i)=1/\B i=false))↔tO sz ch A B i:=by
   constructor
   ·rintro(e|e|⟨e,hB⟩)
    ·cases hc:ch i with
     |none=>rw[hc]at e;cases e
     |some t=>
      rw[hc]at e
      have e:rm t=2:=e
      obtain⟨q1,q2,q3⟩:=b.bx t hc
      rw[ih t q3 (by omega)]at e
      have w:tO sz ch A B t:=by
       by_cases w:tO sz ch A B t
       ·exact w
       ·rw[ax w]at e;split at e<;>cases e
      obtain⟨j,w1,w2,w3,w4⟩:=w
      refine⟨j,by omega,by omega,w3,fun q a1 a2 a3 a4=>?_⟩
      have hcq:=chb (by omega) a4
      by_cases eq:q=i
      ·subst eq;rw[hc]at a4;have:=aS a4;omega
      ·rcases b.cov q a1 (by omega)with⟨u,e1,e2,e3⟩|⟨u,e1,e2,e3⟩
       ·rw[hc]at e1;cases e1;exact w4 q e2 e3 a3 a4
       ·have:=BM h u (by have:=(b.by' u e1).2.2;omega) q e2 e3
        exact b.dis t u hc e1 j w1 (by omega) (by omega) (by omega)
    ·cases hf:fa i with
     |none=>rw[hf]at e;exact absurd rfl e
     |some u=>
      rw[hf]at e
      have e:rm u≠0:=e
      obtain⟨q1,q2,q3⟩:=b.by' u hf
      have far:∀j,lo sz u<=j->j<=u->(∀q,lo sz u<=q->q<=u->B q=true->ch q≠some j)->∀q,lo sz i<=q->q<=i->B q=true->ch q≠some j:=fun j w1 w2 w4 q a1 a2 a3 a4=>by
       have hcq:=chb (by omega) a4
       by_cases eq:q=i
       ·subst eq
        have:=b.bx j a4
        exact b.dis j u a4 hf j (by omega) (ay _) w1 w2
       ·rcases b.cov q a1 (by omega)with⟨t,e1,e2,e3⟩|⟨t,e1,e2,e3⟩
        ·have:=BM h t (by have:=(b.bx t e1).2.2;omega) q e2 e3
         exact b.dis t u e1 hf j (by omega) (by omega) w1 w2
        ·rw[hf]at e1;cases e1;exact w4 q e2 e3 a3 a4
      rw[ih u q3 (by omega)]at e
      by_cases w:tO sz ch A B u
      ·obtain⟨j,w1,w2,w3,w4⟩:=w
       exact⟨j,by omega,by omega,w3,far j w1 (by omega) w4⟩
      ·rw[ax w]at e
       have hA:A u=true:=by
        cases hA:A u with
        |true=>rfl
        |false=>rw[ax (by rw[hA];simp)]at e;exact absurd rfl e
       exact⟨u,by omega,by omega,hA,far u q2 (ay _) fun q _ a2 _ a4=>by have:=chb (by omega) a4;omega⟩
    ·cases hc:ch i with
     |none=>rw[hc]at e;cases e
     |some t=>
      rw[hc]at e
      have e:rm t=1:=e
      obtain⟨q1,q2,q3⟩:=b.bx t hc
      rw[ih t q3 (by omega)]at e
      have hA:A t=true:=by
       by_cases w:tO sz ch A B t
       ·rw[aq w]at e;cases e
       ·rw[ax w]at e
        by_cases hA:A t=true
        ·exact hA
        ·rw[ax hA]at e;cases e
      refine⟨t,by omega,by omega,hA,fun q a1 a2 a3 a4=>?_⟩
      have hcq:=chb (by omega) a4
      by_cases eq:q=i
      ·subst eq;rw[hB]at a3;cases a3
      ·rcases b.cov q a1 (by omega)with⟨u,e1,e2,e3⟩|⟨u,e1,e2,e3⟩
       ·rw[hc]at e1;cases e1;omega
       ·have:=BM h u (by have:=(b.by' u e1).2.2;omega) q e2 e3
        exact b.dis t u hc e1 t q2 (ay _) (by omega) (by omega)
   ·rintro⟨j,h1,h2,h3,h4⟩
    rcases b.cov j h1 (by omega)with⟨t,e1,e2,e3⟩|⟨t,e1,e2,e3⟩
    ·obtain⟨q1,q2,q3⟩:=b.bx t e1
     rw[e1]
     by_cases ej:j=t
     ·subst ej
      have hr':=ih j q3 (by omega)
      by_cases w:tO sz ch A B j
      ·rw[aq w]at hr';exact .inl hr'
      ·rw[ax w,aq h3]at hr'
       refine .inr (.inr ⟨hr',?_⟩)
       cases hB:B i with
       |false=>rfl
       |true=>exact absurd e1 (h4 i loi (ay _) hB)
     ·refine .inl ?_
      show rm t=2
      rw[ih t q3 (by omega),aq ⟨j,e2,by omega,h3,fun q a1 a2 a3=>h4 q (by omega) (by omega) a3⟩]
    ·obtain⟨q1,q2,q3⟩:=b.by' t e1
     rw[e1]
     refine .inr (.inl ?_)
     show rm t≠0
     rw[ih t q3 (by omega)]
     by_cases ej:j=t
     ·subst ej
      by_cases w:tO sz ch A B j
      ·rw[aq w];decide
      ·rw[ax w,aq h3];decide
     ·rw[aq ⟨j,e2,by omega,h3,fun q a1 a2 a3=>h4 q (by omega) (by omega) a3⟩];decide
  rw[hr i hi]
  unfold rE
  by_cases w:tO sz ch A B i
  ·rw[aq (key.mpr w),aq w]
  ·rw[ax (fun z=>w (key.mp z)),ax w]
end
section
variable{ps:List Pl}{S sz:List Nat}{lk:List (Option Nat×Option Nat)}{A B:Nat->Bool}{rm:Nat->Nat}
def wQ(A:Nat->Bool)(a n:Nat):Nat:=(List.range' a n).countP fun j=>A j
theorem oD(A:Nat->Bool)(a n m:Nat):wQ A a (n+m)=wQ A a n+wQ A (a+n) m:=by
 unfold wQ
 rw[<- List.countP_append]
 congr 1
 have:=List.range'_append (s:=a) (m:=n) (n:=m) (step:=1)
 rw[Nat.one_mul]at this
 exact this.symm
theorem wB(A:Nat->Bool)(a:Nat):wQ A a 1=if A a=true then 1 else 0:=by
 unfold wQ
 simp[List.countP_cons]
theorem NX(h:Gr ps S sz lk)(hr:∀i,i<ps.length->rm i=wA 1 (vl rm (lx lk i)) (vl rm (ly lk i)) (A i) (B i)):∀i,i<ps.length->rm i=min 2 (wQ A (lo sz i) (i+1-lo sz i)):=by
 intro i
 induction i using Nat.strongRecOn with
 |_ i ih=>
  intro hi
  obtain⟨L,R,c⟩:=qV h hi
  have hle:=c.le
  have e:i+1-lo sz i=L+R+1:=by rw[c.lo_i];omega
  rw[e,c.lo_i,oD,oD,wB]
  have hl:vl rm (lx lk i)=min 2 (wQ A (i-R-L) L):=by
   rcases gl L with z|z
   ·rw[show lx lk i=none from c.l0 z,z];rfl
   ·rw[show lx lk i=some (i-1-R)from(c.l1 z).1]
    show rm (i-1-R)=_
    rw[ih (i-1-R) (by omega) (by omega),c.lo_l z]
    rw[show i-1-R+1-(i-R-L)=L by omega]
  have hrr:vl rm (ly lk i)=min 2 (wQ A (i-R-L+L) R):=by
   rcases gl R with z|z
   ·rw[show ly lk i=none from c.r0 z,z];rfl
   ·rw[show ly lk i=some (i-1)from(c.r1 z).1]
    show rm (i-1)=_
    rw[ih (i-1) (by omega) (by omega),c.lo_r z]
    rw[show i-1+1-(i-R)=R by omega,show i-R-L+L=i-R by omega]
  rw[hr i hi,show i-R-L+(L+R)=i by omega]
  show(if 2<vl rm (lx lk i)+vl rm (ly lk i)+(if A i=true then 1 else 0)then 2 else vl rm (lx lk i)+vl rm (ly lk i)+(if A i=true then 1 else 0))=_
  rw[hl,hrr]
  generalize wQ A (i-R-L) L=x
  generalize wQ A (i-R-L+L) R=y
  generalize (if A i=true then 1 else 0)=z
  split<;>omega
abbrev bt(x j:Nat):Bool:=x.testBit j
theorem qi{x y:Nat}:(x &&& y=x)↔∀j,bt x j=true->bt y j=true:=by
 constructor
 ·intro h j hj
  rw[<- h]at hj
  unfold bt at hj ⊢
  rw[nA,bN]at hj
  exact hj.2
 ·intro h
  refine gO fun j=>?_
  rw[nA]
  cases hj:x.testBit j with
  |false=>rfl
  |true=>exact h j hj
theorem yV{x i j:Nat}(TY:i<j)(h1:bt x i=true)(h2:bt x j=true):x &&& (x-1)≠0:=by
 have hm:0<x%2^j:=by
  rcases gl (x%2^j)with z|z
  ·have:(x%2^j).testBit i=true:=by rw[Nat.testBit_mod_two_pow,aQ TY];exact h1
   rw[z,dg]at this;cases this
  ·exact z
 have hq:(x-1)/2^j=x/2^j:=by
  have hp:0<2^j:=Nat.two_pow_pos j
  have e:=Nat.div_add_mod x (2^j)
  have hlt:=Nat.mod_lt x hp
  refine(Nat.div_eq_iff hp).mpr ?_
  generalize x/2^j=q at e
  generalize x%2^j=r at e hm hlt
  generalize 2^j=p at e hlt hp
  have e2:q*p=p*q:=Nat.mul_comm _ _
  omega
 intro z
 have hb:(x &&& (x-1)).testBit j=true:=by
  rw[nA,show x.testBit j=true from h2]
  have:(x-1).testBit j=x.testBit j:=by
   rw[fP,fP,hq]
  rw[this,show x.testBit j=true from h2];rfl
 rw[z,dg]at hb;cases hb
theorem Jg{x i:Nat}(h:∀j,bt x j=true↔j=i):x≠0/\x &&& (x-1)=0:=by
 have e:x=2^i:=gO fun j=>by
  rw[Nat.testBit_two_pow]
  cases hj:x.testBit j with
  |true=>exact(aQ ((h j).mp hj).symm).symm
  |false=>
   refine(aG fun z=>?_).symm
   have:=(h j).mpr z.symm
   rw[show bt x j=x.testBit j from rfl,hj]at this;cases this
 subst e
 refine⟨fJ (Nat.two_pow_pos i),?_⟩
 rw[Nat.and_two_pow_sub_one_eq_mod,Nat.mod_self]
theorem Gf{x n:Nat}{A:Nat->Bool}(h:∀j,bt x j=true↔j<n/\A j=true):(decide (x≠0)&&decide (x &&& (x-1)=0))=decide (wQ A 0 n=1):=by
 rw[gz,bN,bV,bV,bV]
 have cz:∀{a m:Nat},(∀j,a<=j->j<a+m->A j=false)->wQ A a m=0:=fun{a m} hz=>by
  unfold wQ
  rw[List.countP_eq_zero]
  intro j hj
  rw[kY]at hj
  rw[hz j hj.1 hj.2];simp
 have cp:∀{a m j:Nat},a<=j->j<a+m->A j=true->0<wQ A a m:=fun{a m j} h1 h2 h3=>by
  unfold wQ
  rw[List.countP_pos_iff]
  exact⟨j,kY.mpr ⟨h1,h2⟩,h3⟩
 constructor
 ·rintro⟨h0,h1⟩
  obtain⟨i,hi⟩:∃i,x.testBit i=true:=Nat.exists_testBit_of_ne_zero h0
  obtain⟨hin,hA⟩:=(h i).mp hi
  have only:∀j,j<n->A j=true->j=i:=fun j hj hAj=>by
   rcases kX j i with z|z|z
   ·exact absurd h1 (yV z ((h j).mpr ⟨hj,hAj⟩) hi)
   ·exact z
   ·exact absurd h1 (yV z hi ((h j).mpr ⟨hj,hAj⟩))
  have e:n=i+(1+(n-i-1)):=by omega
  rw[e,oD,oD,gk,wB,aq hA]
  rw[cz fun j _ hj=>?_,cz fun j hj1 hj2=>?_]
  ·cases hAj:A j with
   |false=>rfl
   |true=>have:=only j (by omega) hAj;omega
  ·cases hAj:A j with
   |false=>rfl
   |true=>have:=only j (by omega) hAj;omega
 ·intro hc
  obtain⟨i,hin,hA⟩:∃i,i<n/\A i=true:=by
   have:0<wQ A 0 n:=by omega
   unfold wQ at this
   rw[List.countP_pos_iff]at this
   obtain⟨j,hj,hAj⟩:=this
   rw[kY]at hj
   exact⟨j,by omega,hAj⟩
  have only:∀j,j<n->A j=true->j=i:=fun j hj hAj=>by
   have e:n=i+(1+(n-i-1)):=by omega
   rw[e,oD,oD,gk,wB,aq hA]at hc
   rcases kX j i with z|z|z
   ·have:=cp (a:=0) (m:=i) (ca j) (by omega) hAj;omega
   ·exact z
   ·have:=cp (a:=i+1) (m:=n-i-1) (j:=j) (by omega) (by omega) hAj;omega
  exact Jg (i:=i) fun j=>⟨fun hj=>only j ((h j).mp hj).1 ((h j).mp hj).2,fun e=>by subst e;exact(h j).mpr ⟨hin,hA⟩⟩
end
theorem Jh(a b:Nat):Builtin.bitOr (a:Int) (b:Int)=((a ||| b:Nat):Int):=by
 have hn:∀x:Nat,decide (0<=Builtin.bitNot (x:Int))=false:=fun x=>aG (by unfold Builtin.bitNot;omega)
 have hnn:∀x:Nat,(Builtin.bitNot (Builtin.bitNot (x:Int))).toNat=x:=fun x=>by unfold Builtin.bitNot;omega
 unfold Builtin.bitOr Builtin.bitAnd
 rw[hn,hn]
 simp only[hnn]
 unfold Builtin.bitNot;omega
theorem Gh(a b:Nat):Builtin.bitAnd (a:Int) (b:Int)=((a &&& b:Nat):Int):=by
 unfold Builtin.bitAnd
 rw[aQ (by omega),aQ (by omega)]
 rfl
theorem oV{a b:Nat}{st:List al}:lO (.int (a:Nat)) (.int (b:Nat)) st=.ok (.int ((a ||| b:Nat):Int)) st:=by rw[<- Jh];exact gr trivial
theorem Gi{a b:Nat}{st:List al}:gZ (.int (a:Nat)) (.int (b:Nat)) st=.ok (.int ((a &&& b:Nat):Int)) st:=by rw[<- Gh];exact gr trivial
theorem vf(a b j:Nat):bt (a ||| b) j=(bt a j||bt b j):=Nat.testBit_or a b j
theorem wC(k j:Nat):bt (2^k) j=decide (k=j):=Nat.testBit_two_pow
theorem Gj{kvs:List (DK×W)}{k k':DK}{v:W}(h:k'≠k):mB (kvs.map fun p=>if p.1=k then(p.1,v)else p) k'=mB kvs k':=by
 unfold mB
 induction kvs with
 |nil=>rfl
 |cons p r ih=>
  rw[aN,bU,bU]
  by_cases e:p.1=k
  ·rw[aq e,aG (fun z=>h (by rw[<- z,e]))]
   exact ih
  ·rw[ax e]
   by_cases e2:p.1=k'
   ·rw[aQ e2]
   ·rw[aG e2];exact ih
theorem Gk{kvs:List (DK×W)}{k k':DK}{v:W}:mB (rS kvs k v) k'=if k'=k then some v else mB kvs k':=by
 by_cases e:k'=k
 ·subst e
  rw[aq rfl]
  unfold rS
  by_cases h:(kvs.any fun p=>decide (p.1=k'))=true
  ·rw[aq h]
   unfold mB
   induction kvs with
   |nil=>simp at h
   |cons p r ih=>
    rw[aN,bU]
    by_cases e:p.1=k'
    ·rw[aq e,aQ e];rfl
    ·rw[ax e,aG e]
     refine ih ?_
     rw[lu,aG e,Bool.false_or]at h
     exact h
  ·rw[ax h]
   unfold mB
   rw[List.find?_append]
   have:kvs.find? (fun p=>decide (p.1=k'))=none:=by
    rw[List.find?_eq_none]
    intro p hp z
    exact h (List.any_eq_true.mpr ⟨p,hp,z⟩)
   rw[this]
   simp
 ·rw[ax e]
  unfold rS
  split
  ·exact Gj e
  ·unfold mB
   rw[List.find?_append]
   cases hf:kvs.find? (fun p=>decide (p.1=k'))with
   |some p=>rfl
   |none=>simp[Ne.symm e]
theorem Gm{kvs:List (DK×W)}{k:DK}{v:W}:(rS kvs k v).length<=kvs.length+1:=by
 unfold rS;split<;>simp
def qv(ps:List Pl)(j:Nat):List Nat:=(ps[j]?.map Pl.m).getD []
def NY(kvs:List (DK×W))(P:Nat->Nat->Prop):Prop:=∀c,∃x:Nat,(mB kvs (.s [c])).getD (.int 0)=.int (x:Nat)/\∀j,bt x j=true↔P c j
theorem BO{ps:List Pl}(hl:ps.length<=100)(hm:∀p∈ps,p.m.length<=9001)(st:List al):∃kvs,NY kvs (fun c j=>j<ps.length/\c∈qv ps j)/\tJ [iz ps] st=.ok (.loc st.length) (st++[.dct kvs]):=by
 suffices hh:iP (wP fun w bu=>∃j x,w=.loc (st.length+j)/\bu=st++x/\j=0/\∃kvs,x=[.dct kvs]/\NY kvs (fun c j=>j<ps.length/\c∈qv ps j)) (KL ([iz ps].map some++List.replicate (4-1) none) st) by
  obtain⟨j,x,⟨rfl,kvs,rfl,h1⟩,e⟩:=oz hh
  exact⟨kvs,h1,e⟩
 refine aB (bg (w:=.loc st.length) (st1:=st++[.dct []]) rfl) ?_
 refine dH (fun i ρ s=>∃(kvs:List (DK×W)) (o2 o3:Option W),ρ=[some (iz ps),some (.loc st.length),o2,o3]/\s=st++[.dct kvs]/\kvs.length<=i*9001/\NY kvs (fun c j=>j<i/\c∈qv ps j))
  (e_ (q:=(ps.length:Int)) (st1:=st++[.dct []]) (aC (cP kn (qT ps _)) bG) (by omega)) ⟨[],none,none,rfl,rfl,by simp,fun c=>⟨0,rfl,fun j=>⟨fun z=>(by rw[show bt 0 j=false from dg j]at z;cases z),fun z=>absurd z.1 (by omega)⟩⟩⟩ (fun _ _ _ _=>trivial) ?_ ?_
 ·rintro i w ρ s hw ⟨kvs0,o2,o3,rfl,rfl,eR,hmk⟩
  obtain⟨hi,rfl⟩:=gT hw
  rw[aO]at hi
  obtain⟨p,hp⟩:∃p,ps[i]?=some p:=⟨_,ae hi⟩
  have hpm:p.m.length<=9001:=hm p (aY hp)
  have hmp:qv ps i=p.m:=by unfold qv;rw[hp];rfl
  refine⟨_,rfl,?_⟩
  have it:∀s:List al,bO (iz ps) (.int (0+(i:Int))) s=.ok p.w s:=fun s=>by rw[eV];exact BI hp s
  have hsig:eG (e2 bO (e2 bO (ah 0) (ah 2)) (eI 1)) [some (iz ps),some (.loc st.length),some (.int (0+(i:Int))),o3] (st++[.dct kvs0])=.ok (dC p.m,none) (st++[.dct kvs0]):=mJ (bQ (bQ kv kv (it _)) cC rfl)
  obtain⟨ρ2,s2,e,kvs,o3',rfl,rfl,hlen2,hmk2⟩:=p8 (f:=hZ 3) (body:=Er (ah 1) (ah 3) (e2 lO (jy (ah 1) (ah 3) (eI 0)) (e2 lJ (eI 1) (ah 2))) xW) (ck:=none)
   (fun t ρ s=>∃(kvs:List (DK×W)) (o3:Option W),ρ=[some (iz ps),some (.loc st.length),some (.int (0+(i:Int))),o3]/\s=st++[.dct kvs]/\kvs.length<=i*9001+t/\NY kvs (fun c j=>(j<i/\c∈qv ps j)\/(j=i/\c∈p.m.take t))) (ws:=dC p.m) (ρ:=[some (iz ps),some (.loc st.length),some (.int (0+(i:Int))),o3]) (st:=st++[.dct kvs0]) 0
   ⟨kvs0,o3,rfl,rfl,by omega,fun c=>by
    obtain⟨x,h1,h2⟩:=hmk c
    exact⟨x,h1,fun j=>by rw[h2 j];simp⟩⟩ (fun _ _ _ _=>trivial) (fun t w ρ s hw hI=>by
    rw[gk]at hI ⊢
    obtain⟨kvs,o3,rfl,rfl,hl2,hm2⟩:=hI
    obtain⟨c,hc,rfl⟩:=nY hw
    have ht:t<p.m.length:=(ai.mp hc).1
    obtain⟨x,hx,hxb⟩:=hm2 c
    have fg:(st++[al.dct kvs])[st.length]?=some (.dct kvs):=cH
    have hg:jy (ah 1) (ah 3) (eI 0) [some (iz ps),some (.loc st.length),some (.int (0+(i:Int))),some (.str [c])] (st++[.dct kvs])=.ok (.int (x:Nat)) (st++[.dct kvs]):=by
     have hd:nj (st++[al.dct kvs]) (.loc st.length)=some (st.length,kvs):=by simp only[nj,fg]
     unfold jy
     rw[d9 (w:=.loc st.length) rfl]
     simp only[R.bind_ok,hd]
     rw[d9 (w:=.str [c]) rfl]
     simp only[R.bind_ok,eC]
     rw[hd]
     show R.ok ((mB kvs (DK.s [c])).getD (.int 0)) _=_
     rw[hx]
    have hsh:lJ (.int 1) (.int (0+(i:Int))) (st++[al.dct kvs])=.ok (.int ((2^i:Nat):Int)) (st++[.dct kvs]):=by rw[eV];exact m8 (by omega)
    refine⟨_,_,_,rfl,JX (v:=.int ((x ||| 2^i:Nat):Int)) (bQ hg (bQ cC kv hsh) oV) kv kv (st4:=st++[.dct (rS kvs (.s [c]) (.int ((x ||| 2^i:Nat):Int)))]) ?_,rS kvs (.s [c]) (.int ((x ||| 2^i:Nat):Int)),some (.str [c]),rfl,rfl,by have:=Gm (kvs:=kvs) (k:=.s [c]) (v:=.int ((x ||| 2^i:Nat):Int));omega,fun c'=>?_⟩
    ·unfold xW
     have hd:CI (st++[al.dct kvs]) (.loc st.length)=some (st.length,kvs):=by simp only[CI,fg]
     rw[hd]
     show(if kvs.length<lB then some ((st++[al.dct kvs]).set st.length (.dct (rS kvs (DK.s [c]) _)))else none)=_
     rw[aq (show kvs.length<1000000 by have:i*9001<=99*9001:=Nat.mul_le_mul_right _ (by omega);omega),eX]
     rfl
    ·rw[Gk]
     by_cases ec:c'=c
     ·subst ec
      rw[aq rfl]
      refine⟨x ||| 2^i,rfl,fun j=>?_⟩
      rw[vf,wC,c_,bV,hxb j,j9 hc]
      simp only[bB,be]
      constructor
      ·rintro((a|⟨a,b⟩)|a)
       ·exact .inl a
       ·exact .inr ⟨a,.inl b⟩
       ·exact .inr ⟨a.symm,.inr trivial⟩
      ·rintro(a|⟨a,b|_⟩)
       ·exact .inl (.inl a)
       ·exact .inl (.inr ⟨a,b⟩)
       ·exact .inr a.symm
     ·rw[ax (fun z=>ec (by injection z with z;exact(List.cons.inj z).1))]
      obtain⟨y,h1,h2⟩:=hm2 c'
      refine⟨y,h1,fun j=>?_⟩
      rw[h2 j,j9 hc]
      simp only[bB,be]
      constructor
      ·rintro(a|⟨a,b⟩)
       ·exact .inl a
       ·exact .inr ⟨a,.inl b⟩
      ·rintro(a|⟨a,b|b⟩)
       ·exact .inl a
       ·exact .inr ⟨a,b⟩
       ·exact absurd b ec)
  refine⟨_,_,(vX hsig).trans e,kvs,_,_,rfl,rfl,?_,fun c=>?_⟩
  ·rw[f6]at hlen2
   rw[Nat.succ_mul];omega
  ·obtain⟨x,h1,h2⟩:=hmk2 c
   refine⟨x,h1,fun j=>?_⟩
   rw[h2 j,gk,f6,cX]
   constructor
   ·rintro(a|⟨rfl,b⟩)
    ·exact⟨by omega,a.2⟩
    ·exact⟨by omega,by rw[hmp];exact b⟩
   ·rintro⟨a,b⟩
    by_cases e:j=i
    ·subst e;rw[hmp]at b;exact .inr ⟨rfl,b⟩
    ·exact .inl ⟨by omega,b⟩
 ·rintro ρ s ⟨kvs,o2,o3,rfl,rfl,eR,hmk⟩
  rw[show(ce 0 (ps.length:Int).toNat,(none:Option (Nat×List W))).fst.length=ps.length by simp[cr]]at hmk
  exact bM kv ⟨_,_,rfl,0,_,rfl,rfl,rfl,kvs,rfl,hmk⟩
theorem lV{fe:FE}{ρ:bW}{s s1:List al}{k:Nat}(h:fe ρ s=.ok (.int (k:Nat)) s1):dv (ke fe) ρ s=.ok true s1:=cu (z_ h rfl)
theorem lW{fe:FE}{ρ:bW}{s s1:List al}(h:fe ρ s=.ok .non s1):dv (ke fe) ρ s=.ok false s1:=cu (z_ h rfl)
section
variable{ps:List Pl}{S sz:List Nat}{lk:List (Option Nat×Option Nat)}
def Sa(sz:List Nat)(u:Nat->Nat)(k:Nat):Prop:=∀j,bt (u k) j=true↔lo sz k<=j/\j<k
def yW(u:Nat->Nat)(b:Nat):Option Nat->Nat
 |none=>b
 |some t=>b ||| u t ||| 2^t
theorem BP{us:List Nat}{n q p:Nat}{st:List al}(hc:st[p]?=some (.lst (nW us)))(hn:us.length=n)(o:Option Nat)(ho:∀t,o=some t->t<n)(TB:n<=100){ρ:bW}(h1:ρ[1]?=some (some (.loc p)))(hq:ρ[q]?=some (some (oW o)))(b:Nat)(h4:ρ[4]?=some (some (.int (b:Nat))))(UR:q≠4) :
  gF (dv (ke (ah q))) (bE 4 (e2 lO (e2 lO (ah 4) (e2 bO (ah 1) (ah q))) (e2 lJ (eI 1) (ah q)))) b_ ρ st=.nx (ρ.set 4 (some (.int ((yW (fun t=>us.getD t 0) b o:Nat):Int)))) st:=by
 cases o with
 |none=>
  rw[jA (lW (d9 hq)) rfl]
  show RS.nx ρ st=_
  congr 1
  refine(fO fun j=>?_)
  by_cases e:4=j
  ·subst e
   rw[bq (ai.mp h4).1,h4];rfl
  ·rw[bR e]
 |some t=>
  have ht:=ho t rfl
  have hg:us[t]?=some (us.getD t 0):=by rw[av,ae (by omega)];rfl
  refine gK (lV (d9 hq)) (bg (bQ (bQ (d9 h4) (bQ (d9 h1) (d9 hq) (BH hc hg)) oV) (bQ cC (d9 hq) (m8 (by omega))) oV))
theorem yX(h:Gr ps S sz lk)(hl:ps.length<=100){p:Nat}{st:List al}(hp:st[p]?=some (.lst (lk.map iu))):∃us:List Nat,us.length=ps.length/\(∀k,k<ps.length->Sa sz (fun k=>us.getD k 0) k)/\tH [.loc p] st=.ok (.loc st.length) (st++[.lst (nW us)]):=by
 obtain⟨l1,l2,_⟩:=h.ok
 suffices hh:iP (wP fun w bu=>∃j x,w=.loc (st.length+j)/\bu=st++x/\j=0/\∃us:List Nat,x=[.lst (nW us)]/\us.length=ps.length/\(∀k,k<ps.length->Sa sz (fun k=>us.getD k 0) k)) (KA ([W.loc p].map some++List.replicate (5-1) none) st) by
  obtain⟨j,x,⟨rfl,us,rfl,h1,h2⟩,e⟩:=oz hh
  exact⟨us,h1,h2,e⟩
 apply aB
 ·(walk_at "evs")
 refine dH (fun i ρ s=>∃(us:List Nat) (o2 o3 o4:Option W),ρ=[some (.loc p),some (.loc st.length),o2,o3,o4]/\s=st++[.lst (nW us)]/\us.length=i/\∀k,k<i->Sa sz (fun k=>us.getD k 0) k) (k:=(lk.map iu,some (p,lk.map iu))) (st1:=st++[.lst []])
  (sh kv (bT (bX hp))) ⟨[],none,none,none,rfl,rfl,rfl,fun k hk=>absurd hk (by omega)⟩ (fun i ρ s hI=>by obtain⟨us,o2,o3,o4,rfl,rfl,_⟩:=hI;exact bT (bX hp)) ?_ ?_
 ·rintro i w ρ s hw ⟨us,o2,o3,o4,rfl,rfl,AT,hu⟩
  rw[aD]at hw
  obtain⟨x,hx,rfl⟩:=eU.mp hw
  have hi:i<ps.length:=by rw[<- l2];exact(ai.mp hx).1
  have hxe:lk.getD i (none,none)=x:=jW hx
  obtain⟨lx1,lx2⟩:=h.lk hx
  refine⟨_,rfl,?_⟩
  have hc:(st++[al.lst (nW us)])[st.length]?=some (.lst (nW us)):=cH
  refine aB (bg cC) ?_
  refine aB (BP hc AT x.1 lx1 (by omega) (q:=2) (ρ:=[some (.loc p),some (.loc st.length),some (oW x.1),some (oW x.2),some (.int ((0:Nat):Int))]) rfl rfl 0 rfl (by omega)) ?_
  refine aB (BP hc AT x.2 lx2 (by omega) (q:=3) (ρ:=[some (.loc p),some (.loc st.length),some (oW x.1),some (oW x.2),some (.int ((yW (fun t=>us.getD t 0) 0 x.1:Nat):Int))]) rfl rfl _ rfl (by omega)) ?_
  have ap:=wt (y:=.int ((yW (fun t=>us.getD t 0) (yW (fun t=>us.getD t 0) 0 x.1) x.2:Nat):Int)) hc (by unfold nW;rw[ar];omega)
  rw[eX]at ap
  refine cS (iU (jz kv (fH hc) kn ap)) ⟨_,_,rfl,us++[yW (fun t=>us.getD t 0) (yW (fun t=>us.getD t 0) 0 x.1) x.2],_,_,_,rfl,by simp[nW],by simp[AT],fun k hk j=>?_⟩
  have old:∀{t},t<i->(us++[yW (fun t=>us.getD t 0) (yW (fun t=>us.getD t 0) 0 x.1) x.2]).getD t 0=us.getD t 0:=fun{t} ht=>by rw[av,av,aW (by omega)]
  by_cases ek:k<i
  ·show bt ((us++[yW (fun t=>us.getD t 0) (yW (fun t=>us.getD t 0) 0 x.1) x.2]).getD k 0) j=true↔_
   rw[old ek];exact hu k ek j
  ·have ek:k=i:=by omega
   subst ek
   have hnew:(us++[yW (fun t=>us.getD t 0) (yW (fun t=>us.getD t 0) 0 x.1) x.2]).getD k 0=yW (fun t=>us.getD t 0) (yW (fun t=>us.getD t 0) 0 x.1) x.2:=by rw[av,<- AT,j4];rfl
   show bt ((us++[yW (fun t=>us.getD t 0) (yW (fun t=>us.getD t 0) 0 x.1) x.2]).getD k 0) j=true↔_
   rw[hnew]
   have b:=pJ h hi
   rw[hxe]at b
   have ort:∀(c:Nat) (o:Option Nat),(∀t,o=some t->lo sz k<=lo sz t/\lo sz t<=t/\t<k)->(bt (yW (fun t=>us.getD t 0) c o) j=true↔bt c j=true\/∃t,o=some t/\lo sz t<=j/\j<=t):=fun c o ho=>by
    cases o with
    |none=>exact⟨.inl,fun z=>z.elim id fun⟨t,e,_⟩=>by cases e⟩
    |some t=>
     obtain⟨q1,q2,q3⟩:=ho t rfl
     show bt (c ||| us.getD t 0 ||| 2^t) j=true↔_
     rw[vf,vf,wC,c_,c_,bV,hu t q3 j]
     constructor
     ·rintro((a|a)|a)
      ·exact .inl a
      ·exact .inr ⟨t,rfl,a.1,by omega⟩
      ·exact .inr ⟨t,rfl,by omega,by omega⟩
     ·rintro(a|⟨u,e,a1,a2⟩)
      ·exact .inl (.inl a)
      ·cases e
       by_cases e:t=j
       ·exact .inr e
       ·exact .inl (.inr ⟨a1,by omega⟩)
   rw[ort _ _ b.by',ort _ _ b.bx]
   constructor
   ·rintro((a|⟨t,e,a1,a2⟩)|⟨t,e,a1,a2⟩)
    ·rw[show bt 0 j=false from dg j]at a;cases a
    ·have:=b.bx t e;omega
    ·have:=b.by' t e;omega
   ·rintro⟨a1,a2⟩
    rcases b.cov j a1 a2 with z|z
    ·exact .inl (.inr z)
    ·exact .inr z
 ·rintro ρ s ⟨us,o2,o3,o4,rfl,rfl,AT,hu⟩
  rw[show(lk.map iu,some (p,lk.map iu)).fst.length=ps.length by simp[l2]]at AT hu
  exact bM kv ⟨_,_,rfl,0,_,rfl,rfl,rfl,us,rfl,AT,hu⟩
end
theorem NZ(y q:Nat):decide (y/2^q%2=1)=bt y q:=(fP).symm
def mM(k:Nat)(lk:List (Option Nat×Option Nat))(us:List Nat)(q:Nat):Nat:=match k with
 |2=>(match lx lk q with|none=>0|some t=>2^t)
 |3=>(match ly lk q with|none=>0|some t=>2^t)
 |_=>us.getD q 0
theorem UC{ρ:bW}{v:W}(h:ρ[6]?=some (some v)):ρ.set 6 (some v)=ρ:=by
 refine(fO fun j=>?_)
 by_cases e:6=j
 ·subst e
  rw[bq (ai.mp h).1,h]
 ·rw[bR e]
section
variable{ps:List Pl}{S sz:List Nat}{lk:List (Option Nat×Option Nat)}{us:List Nat}
abbrev Tr:FS:=gF (dv (e2 gP (e2 gZ (e2 mw (ah 5) (ah 7)) (eI 1)) (eI 1))) (gF (dv (e2 gP (e2 bO (ah 0) (eI 0)) (eC (.str [98,101,108,111,119])))) (bE 6 (e2 lO (ah 6) (e2 bO (ah 2) (ah 7)))) (gF (uf (dv (e2 gP (e2 bO (ah 0) (eI 0)) (eC (.str [108,101,102,116])))) (dv (ke (e2 bO (e2 bO (ah 1) (ah 7)) (eI 0))))) (bE 6 (e2 lO (ah 6) (e2 lJ (eI 1) (e2 bO (e2 bO (ah 1) (ah 7)) (eI 0))))) (gF (uf (dv (e2 gP (e2 bO (ah 0) (eI 0)) (eC (.str [114,105,103,104,116])))) (dv (ke (e2 bO (e2 bO (ah 1) (ah 7)) (eI 1))))) (bE 6 (e2 lO (ah 6) (e2 lJ (eI 1) (e2 bO (e2 bO (ah 1) (ah 7)) (eI 1))))) b_))) b_
theorem Rf(h:Gr ps S sz lk)(hl:ps.length<=100)(AT:us.length=ps.length){k a b pl pu q y z:Nat}(hk:k=2\/k=3\/k=4){st:List al}(lq:st[pl]?=some (.lst (lk.map iu)))(OE:st[pu]?=some (.lst (nW us)))(hq:q<ps.length){o3 o4:Option W} :
  Tr [some (dO k a b),some (.loc pl),some (.loc pu),o3,o4,some (.int (y:Nat)),some (.int (z:Nat)),some (.int (q:Int))] st=.nx [some (dO k a b),some (.loc pl),some (.loc pu),o3,o4,some (.int (y:Nat)),some (.int ((if bt y q=true then z ||| mM k lk us q else z:Nat):Int)),some (.int (q:Int))] st:=by
 obtain⟨l1,l2,_⟩:=h.ok
 have tbq:=Gd (x:=y) (c:=q) st (fa:=ah 5) (fb:=ah 7) (ρ:=[some (dO k a b),some (.loc pl),some (.loc pu),o3,o4,some (.int (y:Nat)),some (.int (z:Nat)),some (.int (q:Int))]) kv kv
 rw[NZ]at tbq
 cases hb:bt y q with
 |false=>
  rw[hb]at tbq
  rw[ax (by decide)]
  exact jA (cu tbq) rfl
 |true=>
  rw[hb]at tbq
  rw[aq rfl]
  obtain⟨x,hx⟩:∃x,lk[q]?=some x:=⟨_,ae (by omega)⟩
  have hxe:lk.getD q (none,none)=x:=jW hx
  obtain⟨lx1,lx2⟩:=h.lk hx
  have hlq:bO (.loc pl) (.int (q:Int)) st=.ok (iu x) st:=nR (bT lq) (ic (by rw[aD,hx];rfl))
  refine gK (cu tbq) ?_
  rcases hk with rfl|rfl|rfl
  ·have l0:∀(ρ:bW),ρ[1]?=some (some (.loc pl))->ρ[7]?=some (some (.int (q:Int)))->e2 bO (e2 bO (ah 1) (ah 7)) (eI 0) ρ st=.ok (oW x.1) st:=fun ρ h1 h7=>bQ (bQ (d9 h1) (d9 h7) hlq) cC rfl
   refine jA rfl ?_
   have ha:mM 2 lk us q=match x.1 with|none=>0|some t=>2^t:=by show(match lx lk q with|none=>0|some t=>2^t)=_;rw[show lx lk q=x.1 by show(lk.getD q _).1=_;rw[hxe]]
   rw[ha]
   cases hx1:x.1 with
   |none=>
    rw[hx1]at l0
    refine jA (mE rfl (lW (l0 _ rfl rfl))) (jA (p_ rfl) ?_)
    show RS.nx _ _=_
    rw[show z ||| 0=z from Nat.or_zero z]
   |some t=>
    rw[hx1]at l0
    have ht:=lx1 t hx1
    exact gK (mE rfl (lV (l0 _ rfl rfl))) (bg (bQ kv (bQ cC (l0 _ rfl rfl) (m8 (by omega))) oV))
  ·have l0:∀(ρ:bW),ρ[1]?=some (some (.loc pl))->ρ[7]?=some (some (.int (q:Int)))->e2 bO (e2 bO (ah 1) (ah 7)) (eI 1) ρ st=.ok (oW x.2) st:=fun ρ h1 h7=>bQ (bQ (d9 h1) (d9 h7) hlq) cC rfl
   refine jA rfl (jA (p_ rfl) ?_)
   have ha:mM 3 lk us q=match x.2 with|none=>0|some t=>2^t:=by show(match ly lk q with|none=>0|some t=>2^t)=_;rw[show ly lk q=x.2 by show(lk.getD q _).2=_;rw[hxe]]
   rw[ha]
   cases hx1:x.2 with
   |none=>
    rw[hx1]at l0
    refine jA (mE rfl (lW (l0 _ rfl rfl))) ?_
    show RS.nx _ _=_
    rw[show z ||| 0=z from Nat.or_zero z]
   |some t=>
    rw[hx1]at l0
    have ht:=lx2 t hx1
    exact gK (mE rfl (lV (l0 _ rfl rfl))) (bg (bQ kv (bQ cC (l0 _ rfl rfl) (m8 (by omega))) oV))
  ·have hg:us[q]?=some (us.getD q 0):=by rw[av,ae (by omega)];rfl
   exact gK rfl (bg (bQ kv (bQ kv kv (BH OE hg)) oV))
def vg(k x y z:Nat):Bool:=if k=1 then decide (x≠0)&&decide (x &&& (x-1)=0)else if k=0 then decide (x &&& y=x)else decide (x &&& z=x)
theorem Ay{kvs:List (DK×W)}{P:Nat->Nat->Prop}(hM:NY kvs P){pd c:Nat}{st:List al}(hc:st[pd]?=some (.dct kvs)){fe:FE}{ρ:bW}{i:Nat}(hi:ρ[i]?=some (some (.loc pd)))(he:fe ρ st=.ok (.str [c]) st):∃x:Nat,(∀j,bt x j=true↔P c j)/\jy (ah i) fe (eI 0) ρ st=.ok (.int (x:Nat)) st:=by
 obtain⟨x,h1,h2⟩:=hM c
 refine⟨x,h2,?_⟩
 have hd:nj st (.loc pd)=some (pd,kvs):=by simp only[nj,hc]
 unfold jy
 rw[d9 hi]
 simp only[R.bind_ok,hd]
 rw[he]
 simp only[R.bind_ok,eC]
 rw[hd]
 show R.ok ((mB kvs (DK.s [c])).getD (.int 0)) _=_
 rw[h1]
theorem Dd(h:Gr ps S sz lk)(hl:ps.length<=100)(AT:us.length=ps.length){k a b pl pu pd:Nat}(hk:k<5){st:List al}{kvs:List (DK×W)}{P:Nat->Nat->Prop}(hM:NY kvs P)(lq:st[pl]?=some (.lst (lk.map iu)))(OE:st[pu]?=some (.lst (nW us)))(OK:st[pd]?=some (.dct kvs)) :
  ∃x y z:Nat,(∀j,bt x j=true↔P a j)/\(∀j,bt y j=true↔P (g9 k a b) j)/\(∀j,bt z j=true↔∃q,q<ps.length/\bt y q=true/\bt (mM k lk us q) j=true)/\yG [dO k a b,.loc pl,.loc pu,.loc pd] st=.ok (.bl (vg k x y z)) st:=by
 obtain⟨l1,l2,_⟩:=h.ok
 have e1:∀ρ:bW,ρ[0]?=some (some (dO k a b))->e2 bO (ah 0) (eI 1) ρ st=.ok (.str [a]) st:=fun ρ h0=>by
  obtain rfl|rfl|rfl|rfl|rfl:=rV hk<;>exact bQ (d9 h0) cC rfl
 obtain⟨x,hx,ex⟩:=Ay hM OK (i:=3) (ρ:=[some (dO k a b),some (.loc pl),some (.loc pu),some (.loc pd),none,none,none,none]) rfl (e1 _ rfl)
 obtain⟨y,hy,_⟩:=Ay hM OK (c:=g9 k a b) (i:=3) (ρ:=[some (dO k a b),some (.loc pl),some (.loc pu),some (.loc pd),some (.int (x:Nat)),none,none,none]) rfl (fe:=eC (.str [g9 k a b])) rfl
 by_cases hk1:k=1
 ·subst hk1
  have exz:∃z:Nat,∀j,bt z j=true↔∃q,q<ps.length/\bt y q=true/\bt (mM 1 lk us q) j=true:=by
   have:∀n,∃z:Nat,∀j,bt z j=true↔∃q,q<n/\bt y q=true/\bt (mM 1 lk us q) j=true:=fun n=>by
    induction n with
    |zero=>exact⟨0,fun j=>⟨fun z=>(by rw[show bt 0 j=false from dg j]at z;cases z),fun⟨q,h,_⟩=>absurd h (by omega)⟩⟩
    |succ n ih=>
     obtain⟨z,hz⟩:=ih
     refine⟨if bt y n=true then z ||| mM 1 lk us n else z,fun j=>?_⟩
     by_cases e:bt y n=true
     ·rw[aq e,vf,c_,hz j]
      constructor
      ·rintro(⟨q,a,b⟩|a)
       ·exact⟨q,by omega,b⟩
       ·exact⟨n,by omega,e,a⟩
      ·rintro⟨q,a,b⟩
       by_cases eq:q=n
       ·subst eq;exact .inr b.2
       ·exact .inl ⟨q,by omega,b⟩
     ·rw[ax e,hz j]
      constructor
      ·rintro⟨q,a,b⟩;exact⟨q,by omega,b⟩
      ·rintro⟨q,a,b⟩
       by_cases eq:q=n
       ·subst eq;exact absurd b.1 e
       ·exact⟨q,by omega,b⟩
   exact this _
  obtain⟨z,hz⟩:=exz
  refine⟨x,y,z,hx,hy,hz,?_⟩
  refine db (N:=8) (body:=BE) ?_
  refine aB (bg ex) (dy rfl ?_)
  have hn:e2 xG (ah 4) (eI 0) [some (dO 1 a b),some (.loc pl),some (.loc pu),some (.loc pd),some (.int (x:Nat)),none,none,none] st=.ok (.bl (decide (x≠0))) st:=bQ kv cC (u0 (by
   by_cases e:x=0
   ·subst e;rfl
   ·rw[aQ e,fK,bd];omega))
  show iP _ (aT (cO _) _ _ _)
  unfold vg
  rw[aq rfl]
  by_cases e:x=0
  ·rw[aG (show ¬ x≠0 by simpa using e)]at hn ⊢
   exact dz (IQ hn) ⟨_,_,rfl,rfl,rfl⟩
  ·rw[aQ (show x≠0 from e)]at hn ⊢
   have hs:Cv (.int (x:Nat)) (.int 1) st=.ok (.int ((x-1:Nat):Int)) st:=by
    show R.ok (W.int ((x:Int)-1)) st=_
    rw[show(x:Int)-1=((x-1:Nat):Int) by omega]
   refine dz (ou hn (bQ (bQ kv (bQ kv cC hs) Gi) cC (im (k:=decide (x &&& (x-1)=0)) ?_))) ⟨_,_,rfl,by rw[Bool.true_and],rfl⟩
   by_cases e:x &&& (x-1)=0
   ·rw[e];rfl
   ·rw[aG e,bd];omega
 ·have hlb:g9 k a b=b:=by unfold g9;rw[ax hk1]
  rw[hlb]at hy
  have e2':∀ρ:bW,ρ[0]?=some (some (dO k a b))->e2 bO (ah 0) (eI 2) ρ st=.ok (.str [b]) st:=fun ρ h0=>by
   obtain rfl|rfl|rfl|rfl|rfl:=rV hk
   ·exact bQ (d9 h0) cC rfl
   ·exact absurd rfl hk1
   ·exact bQ (d9 h0) cC rfl
   ·exact bQ (d9 h0) cC rfl
   ·exact bQ (d9 h0) cC rfl
  obtain⟨y',hy',ey⟩:=Ay hM OK (i:=3) (ρ:=[some (dO k a b),some (.loc pl),some (.loc pu),some (.loc pd),some (.int (x:Nat)),none,none,none]) rfl (e2' _ rfl)
  have hyy:y'=y:=gO fun j=>by rw[gz];exact(hy' j).trans (hy j).symm
  subst hyy
  have lE:∀(z:Nat) (o7:Option W),e2 gP (e2 gZ (ah 4) (ah 6)) (ah 4) [some (dO k a b),some (.loc pl),some (.loc pu),some (.loc pd),some (.int (x:Nat)),some (.int (y':Nat)),some (.int (z:Nat)),o7] st=.ok (.bl (decide (x &&& z=x))) st:=fun z o7=>bQ (bQ kv kv Gi) kv (im (by
   by_cases e:x &&& z=x
   ·rw[e,aQ rfl];simp
   ·rw[aG e,bd];omega))
  have walk:(k=2\/k=3\/k=4)->∃z:Nat,(∀j,bt z j=true↔∃q,q<ps.length/\bt y' q=true/\bt (mM k lk us q) j=true)/\∃o7:Option W,gC (cn (ao (cE e7 (ao (ah 1) aK)) aK)) (hZ 7) Tr [some (dO k a b),some (.loc pl),some (.loc pu),some (.loc pd),some (.int (x:Nat)),some (.int (y':Nat)),some (.int ((0:Nat):Int)),none] st=.nx [some (dO k a b),some (.loc pl),some (.loc pu),some (.loc pd),some (.int (x:Nat)),some (.int (y':Nat)),some (.int (z:Nat)),o7] st:=fun hk'=>by
   have eR:e7 [.loc pl] st=.ok (.int ((ps.length:Nat):Int)) st:=by
    have:=pB (bT lq)
    rw[ar,l2]at this;exact this
   obtain⟨ρ2,s2,e,z,o7,hρ,hs,hz⟩:=p8 (f:=hZ 7) (body:=Tr) (ck:=none) (fun i ρ s=>∃(z:Nat) (o7:Option W),ρ=[some (dO k a b),some (.loc pl),some (.loc pu),some (.loc pd),some (.int (x:Nat)),some (.int (y':Nat)),some (.int (z:Nat)),o7]/\s=st/\∀j,bt z j=true↔∃q,q<i/\bt y' q=true/\bt (mM k lk us q) j=true)
    (ws:=ce 0 ps.length) (ρ:=[some (dO k a b),some (.loc pl),some (.loc pu),some (.loc pd),some (.int (x:Nat)),some (.int (y':Nat)),some (.int ((0:Nat):Int)),none]) (st:=st) 0
    ⟨0,none,rfl,rfl,fun j=>⟨fun z=>(by rw[show bt 0 j=false from dg j]at z;cases z),fun⟨q,h,_⟩=>absurd h (by omega)⟩⟩ (fun _ _ _ _=>trivial) (fun i w ρ s hw hI=>by
     rw[gk]at hI ⊢
     obtain⟨z,o7,rfl,rfl,hz⟩:=hI
     obtain⟨hi,rfl⟩:=gT hw
     rw[eV]
     refine⟨_,_,_,rfl,Rf h hl AT hk' lq OE hi,_,_,rfl,rfl,fun j=>?_⟩
     by_cases e:bt y' i=true
     ·rw[aq e,vf,c_,hz j]
      constructor
      ·rintro(⟨q,a,b⟩|a)
       ·exact⟨q,by omega,b⟩
       ·exact⟨i,by omega,e,a⟩
      ·rintro⟨q,a,b⟩
       by_cases eq:q=i
       ·subst eq;exact .inr b.2
       ·exact .inl ⟨q,by omega,b⟩
     ·rw[ax e,hz j]
      constructor
      ·rintro⟨q,a,b⟩;exact⟨q,by omega,b⟩
      ·rintro⟨q,a,b⟩
       by_cases eq:q=i
       ·subst eq;exact absurd b.1 e
       ·exact⟨q,by omega,b⟩)
   rw[hρ,hs]at e
   rw[gk,cr]at hz
   refine⟨z,hz,o7,?_⟩
   have hr:=e_ (fs:=ao (cE e7 (ao (ah 1) aK)) aK) (ρ:=[some (dO k a b),some (.loc pl),some (.loc pu),some (.loc pd),some (.int (x:Nat)),some (.int (y':Nat)),some (.int ((0:Nat):Int)),none]) (st:=st) (q:=((ps.length:Nat):Int)) (st1:=st) (aC (cP kn eR) bG) (by omega)
   rw[aO]at hr
   exact(vX hr).trans e
  by_cases OF:k=0
  ·subst OF
   obtain⟨z,hz⟩:∃z:Nat,∀j,bt z j=true↔∃q,q<ps.length/\bt y' q=true/\bt (mM 0 lk us q) j=true:=by
    have:∀n,∃z:Nat,∀j,bt z j=true↔∃q,q<n/\bt y' q=true/\bt (mM 0 lk us q) j=true:=fun n=>by
     induction n with
     |zero=>exact⟨0,fun j=>⟨fun z=>(by rw[show bt 0 j=false from dg j]at z;cases z),fun⟨q,h,_⟩=>absurd h (by omega)⟩⟩
     |succ n ih=>
      obtain⟨z,hz⟩:=ih
      refine⟨if bt y' n=true then z ||| mM 0 lk us n else z,fun j=>?_⟩
      by_cases e:bt y' n=true
      ·rw[aq e,vf,c_,hz j]
       constructor
       ·rintro(⟨q,a,b⟩|a)
        ·exact⟨q,by omega,b⟩
        ·exact⟨n,by omega,e,a⟩
       ·rintro⟨q,a,b⟩
        by_cases eq:q=n
        ·subst eq;exact .inr b.2
        ·exact .inl ⟨q,by omega,b⟩
      ·rw[ax e,hz j]
       constructor
       ·rintro⟨q,a,b⟩;exact⟨q,by omega,b⟩
       ·rintro⟨q,a,b⟩
        by_cases eq:q=n
        ·subst eq;exact absurd b.1 e
        ·exact⟨q,by omega,b⟩
    exact this _
   refine⟨x,y',z,hx,by rw[hlb];exact hy',hz,?_⟩
   refine db (N:=8) (body:=BE) ?_
   exact aB (bg ex) (a9 rfl (br (aB (bg ey) (aB (bg kv) (a9 rfl (br (bM (lE y' none) ⟨_,_,rfl,rfl,rfl⟩)))))))
  ·have hk':k=2\/k=3\/k=4:=by omega
   obtain⟨z,hz,o7,ew⟩:=walk hk'
   refine⟨x,y',z,hx,by rw[hlb];exact hy',hz,?_⟩
   refine db (N:=8) (body:=BE) ?_
   have ht:vg k x y' z=decide (x &&& z=x):=by unfold vg;rw[ax hk1,ax OF]
   rw[ht]
   rcases hk' with rfl|rfl|rfl
   ·exact aB (bg ex) (a9 rfl (br (aB (bg ey) (aB (bg kv) (dy rfl (aB (tj (bg cC) |>.trans ew) (bM (lE z o7) ⟨_,_,rfl,rfl,rfl⟩)))))))
   ·exact aB (bg ex) (a9 rfl (br (aB (bg ey) (aB (bg kv) (dy rfl (aB (tj (bg cC) |>.trans ew) (bM (lE z o7) ⟨_,_,rfl,rfl,rfl⟩)))))))
   ·exact aB (bg ex) (a9 rfl (br (aB (bg ey) (aB (bg kv) (dy rfl (aB (tj (bg cC) |>.trans ew) (bM (lE z o7) ⟨_,_,rfl,rfl,rfl⟩)))))))
end
def Rg(k:Nat):Nat:=if k=1 then 1 else 0
def vh(k a b:Nat):Mc:=⟨t5 k a b,(List.range (oI k)).map fun i=>decide (i=Rg k),(List.range (2^(t5 k a b).length)).map fun x=>(List.range (oI k)).map fun l=>(List.range (oI k)).map fun r=>wA k l r (NS (t5 k a b) x a) (NS (t5 k a b) x (g9 k a b))⟩
theorem Rh{k a b:Nat}:a∈t5 k a b:=j6.mpr (by unfold ut;split<;>simp)
theorem Gn{k a b:Nat}:g9 k a b∈t5 k a b:=j6.mpr (by unfold g9 ut;split<;>simp)
theorem Go(l r:Nat)(A B:Bool):yS (l:Int) (r:Int) A B=((rE l r A B:Nat):Int):=by
 unfold yS rE
 by_cases h:l=2\/r≠0\/(l=1/\B=false)
 ·rw[aq h,aq (by rcases h with e|e|⟨e,f⟩<;>first|exact .inl (by omega)|exact .inr (.inl (by omega))|exact .inr (.inr ⟨by omega,f⟩))];rfl
 ·rw[ax h,ax (by rintro(e|e|⟨e,f⟩)<;>first|exact h (.inl (by omega))|exact h (.inr (.inl (by omega)))|exact h (.inr (.inr ⟨by omega,f⟩)))];cases A<;>rfl
theorem Ri{k:Nat}(hk:k<5)(l r:Nat)(A B:Bool):Au k (l:Int) (r:Int) A B=((wA k l r A B:Nat):Int):=by
 obtain rfl|rfl|rfl|rfl|rfl:=rV hk
 ·show(if (l:Int)=1\/(r:Int)=1\/(A=true/\B=false)then(1:Int)else 0)=(((if l=1\/r=1\/(A=true/\B=false)then 1 else 0):Nat):Int)
  by_cases h:l=1\/r=1\/(A=true/\B=false)
  ·rw[aq h,aq (by rcases h with e|e|e<;>first|exact .inl (by omega)|exact .inr (.inl (by omega))|exact .inr (.inr e))];rfl
  ·rw[ax h,ax (by rintro(e|e|e)<;>first|exact h (.inl (by omega))|exact h (.inr (.inl (by omega)))|exact h (.inr (.inr e)))];rfl
 ·show(if 2<(l:Int)+r+(if A then 1 else 0)then(2:Int)else(l:Int)+r+(if A then 1 else 0))=(((if 2<l+r+(if A then 1 else 0)then 2 else l+r+(if A then 1 else 0)):Nat):Int)
  cases A
  ·simp only[cx,f9]
   split<;>split<;>omega
  ·simp only[h_]
   split<;>split<;>omega
 ·exact Go l r A B
 ·exact Go r l A B
 ·show(if A=true\/(B=false/\((l:Int)=1\/(r:Int)=1))then(1:Int)else 0)=(((if A=true\/(B=false/\(l=1\/r=1))then 1 else 0):Nat):Int)
  by_cases h:A=true\/(B=false/\(l=1\/r=1))
  ·rw[aq h,aq (by rcases h with e|⟨f,e|e⟩<;>first|exact .inl e|exact .inr ⟨f,.inl (by omega)⟩|exact .inr ⟨f,.inr (by omega)⟩)];rfl
  ·rw[ax h,ax (by rintro(e|⟨f,e|e⟩)<;>first|exact h (.inl e)|exact h (.inr ⟨f,.inl (by omega)⟩)|exact h (.inr ⟨f,.inr (by omega)⟩))];rfl
theorem Ts{k:Nat}(hk:k<5)(a b:Nat):NQ k a b=(vh k a b).w:=by
 have hr:∀n,ce 0 n=(List.range n).map fun i:Nat=>W.int (i:Int):=fun n=>by
  unfold ce
  refine cf fun i _=>?_
  rw[eV]
 have h3:∀{x x' y y' z z':W},x=x'->y=y'->z=z'->W.tup [x,y,z]=W.tup [x',y',z']:=fun a b c=>by rw[a,b,c]
 unfold NQ Mc.w vh
 refine h3 rfl ?_ ?_
 ·rw[hr,a8,a8]
  refine cM W.tup (cf fun i _=>?_)
  show W.bl ((i:Int)==Q_ k)=W.bl (decide (i=Rg k))
  refine cM W.bl ?_
  unfold Q_ Rg
  by_cases h:k=1
  ·rw[aq h,aq h,gz,c7,bV];omega
  ·rw[ax h,ax h,gz,c7,bV];omega
 ·unfold Db
  rw[hr,a8,a8]
  refine cM W.tup (cf fun x _=>?_)
  show OA _ _ (W.int (x:Int))=oH _
  unfold OA oH
  rw[hr,a8,a8]
  refine cM W.tup (cf fun l _=>?_)
  show NO _ _ (W.int (x:Int)) (W.int (l:Int))=qf _
  unfold NO qf
  rw[hr,a8,a8]
  refine cM W.tup (cf fun r _=>?_)
  exact cM W.int (Ri hk l r _ _)
theorem BQ(l r:Nat)(A B:Bool):rE l r A B<3:=by
 unfold rE
 split
 ·omega
 ·split<;>omega
theorem N0{k l r:Nat}(hk:k<5)(A B:Bool):wA k l r A B<oI k:=by
 obtain rfl|rfl|rfl|rfl|rfl:=rV hk
 ·show(if _ then 1 else 0)<2
  split<;>omega
 ·show(if 2<l+r+(if A then 1 else 0)then 2 else l+r+(if A then 1 else 0))<3
  generalize l+r+(if A then 1 else 0)=n
  split<;>omega
 ·exact BQ l r A B
 ·exact BQ r l A B
 ·show(if _ then 1 else 0)<2
  split<;>omega
theorem Gp{k:Nat}(hk:k<5)(a b:Nat):Ap (vh k a b) (oI k):=by
 refine⟨by simp[vh],by simp[vh],fun t ht=>?_⟩
 simp only[vh,aJ]at ht
 obtain⟨x,_,rfl⟩:=ht
 refine⟨by simp,fun r hr=>?_⟩
 obtain⟨l,_,rfl⟩:=aJ.mp hr
 refine⟨by simp,fun v hv=>?_⟩
 obtain⟨q,_,rfl⟩:=aJ.mp hv
 exact N0 hk _ _
theorem qj{p q:Prop}{ip:Decidable p}{iq:Decidable q}(h:p↔q):@decide p ip=@decide q iq:=by
 by_cases hp:p
 ·rw[aQ hp,aQ (h.mp hp)]
 ·rw[aG hp,aG fun hq=>hp (h.mpr hq)]
theorem Az(k:Nat):2<=oI k:=by unfold oI;split<;>omega
theorem Gq{nm:List Nat}(nd:nm.Nodup)(m:List Nat){c:Nat}(hc:c∈nm):NS nm (iE m nm) c=decide (c∈m):=by
 obtain⟨i,hi⟩:=jq hc
 rw[Rc nd hi]
 have hil:=(ai.mp hi).1
 have key:∀(l:List Nat) (i:Nat) (c:Nat),l[i]?=some c->iE m l/2^(l.length-1-i)%2=if c∈m then 1 else 0:=by
  suffices H:∀(n:Nat) (l:List Nat),l.length=n->∀(i:Nat) (c:Nat),l[i]?=some c->iE m l/2^(l.length-1-i)%2=if c∈m then 1 else 0 from fun l=>H _ l rfl
  intro n
  induction n with
  |zero=>intro l hl i c h;rw[l_.mp hl]at h;cases h
  |succ n ih'=>
   intro l0 hl0 i c h
   obtain e0|⟨l,x,e0⟩:=List.eq_nil_or_concat l0
   ·rw[e0]at h;cases h
   rw[List.concat_eq_append]at e0
   subst e0
   have ih:=ih' l (by rw[aL,dU]at hl0;omega)
   rw[qU,aL,dU]
   by_cases e:i=l.length
   ·subst e
    rw[j4]at h
    cases h
    rw[show l.length+1-1-l.length=0 by omega,Nat.pow_zero,Nat.div_one]
    split<;>omega
   ·have hlt:i<l.length:=by have:=(ai.mp h).1;rw[aL,dU]at this;omega
    rw[aW hlt]at h
    rw[show l.length+1-1-i=(l.length-1-i)+1 by omega,m5,Nat.mul_comm _ 2,<- m6]
    rw[show(2*iE m l+if x∈m then 1 else 0)/2=iE m l by split<;>omega]
    exact ih i c h
 rw[key nm i c hi]
 by_cases h:c∈m
 ·rw[aq h,aQ h];rfl
 ·rw[ax h,aG h];rfl
section
variable{ps:List Pl}{S sz:List Nat}{lk:List (Option Nat×Option Nat)}{us:List Nat}
theorem De(h:Gr ps S sz lk){k a b:Nat}(hk:k<5):∀i,i<ps.length->(d_ (vh k a b) ps lk).getD i 0=wA k (vl (fun i=>(d_ (vh k a b) ps lk).getD i 0) (lx lk i)) (vl (fun i=>(d_ (vh k a b) ps lk).getD i 0) (ly lk i)) (decide (a∈qv ps i)) (decide (g9 k a b∈qv ps i)):=by
 intro i hi
 obtain⟨l1,l2,_⟩:=h.ok
 have hM:=Gp hk a b
 have h1:1<=oI k:=by have:=Az k;omega
 obtain⟨p,hp⟩:∃p,ps[i]?=some p:=⟨_,ae hi⟩
 obtain⟨x,hx⟩:∃x,lk[i]?=some x:=⟨_,ae (by omega)⟩
 have hxe:lk.getD i (none,none)=x:=jW hx
 have hmp:qv ps i=p.m:=by unfold qv;rw[hp];rfl
 obtain⟨rl,rlt⟩:=iV h hM h1
 rw[jW (yQ h hM h1 hp hx),hmp]
 have hv:∀o:Option Nat,vl (fun i=>(d_ (vh k a b) ps lk).getD i 0) o=uo (d_ (vh k a b) ps lk) o:=fun o=>by cases o<;>rfl
 rw[hv,hv,show lx lk i=x.1 by show(lk.getD i _).1=_;rw[hxe],show ly lk i=x.2 by show(lk.getD i _).2=_;rw[hxe]]
 obtain⟨lx1,lx2⟩:=h.lk hx
 have b1:=wu (o:=x.1) h1 rlt fun k hk=>by have:=lx1 k hk;omega
 have b2:=wu (o:=x.2) h1 rlt fun k hk=>by have:=lx2 k hk;omega
 unfold uq
 generalize uo (d_ (vh k a b) ps lk) x.1=u at b1
 generalize uo (d_ (vh k a b) ps lk) x.2=v at b2
 have hn:=BJ p.m (t5 k a b)
 have gm:∀{α:Type} (f:Nat->α) (n i:Nat) (d:α),i<n->((List.range n).map f).getD i d=f i:=fun f n i d hi=>by
  rw[av,aD,eT hi];rfl
 show(((((List.range (2^(t5 k a b).length)).map fun x=>(List.range (oI k)).map fun l=>(List.range (oI k)).map fun r=>wA k l r (NS (t5 k a b) x a) (NS (t5 k a b) x (g9 k a b))).getD (iE p.m (t5 k a b)) []).getD u []).getD v 0)=_
 rw[gm _ _ _ _ hn,gm _ _ _ _ b1,gm _ _ _ _ b2,Gq (K3 k a b) _ Rh,Gq (K3 k a b) _ Gn]
theorem Df(h:Gr ps S sz lk)(hS:S.length<=1){k a b x y z:Nat}(hk:k<5)(AT:∀q,q<ps.length->Sa sz (fun q=>us.getD q 0) q)
  (hx:∀j,bt x j=true↔j<ps.length/\a∈qv ps j) (hy:∀j,bt y j=true↔j<ps.length/\g9 k a b∈qv ps j) (hz:∀j,bt z j=true↔∃q,q<ps.length/\bt y q=true/\bt (mM k lk us q) j=true) :
  C_ (vh k a b) ps lk=vg k x y z:=by
 have gm:∀i,i<oI k->(vh k a b).gd.getD i false=decide (i=Rg k):=fun i hi=>by
  show((List.range (oI k)).map fun i=>decide (i=Rg k)).getD i false=_
  rw[av,aD,eT hi];rfl
 have h2:=Az k
 unfold C_
 by_cases h0:0<ps.length
 ·rw[aq h0]
  have hM:=Gp hk a b
  obtain⟨rl,rlt⟩:=iV h hM (by omega)
  have hT:ps.length-1<ps.length:=by omega
  have htop:=NU h hS h0
  have hr:=De h (a:=a) (b:=b) hk
  have hlt:tL (vh k a b) ps lk<oI k:=by
   unfold tL
   rw[av,ae (by omega)]
   exact rlt _ (cW _)
  rw[gm _ hlt]
  unfold tL
  generalize hrm:(fun i=>(d_ (vh k a b) ps lk).getD i 0)=rm at hr
  have hrT:(d_ (vh k a b) ps lk).getD (ps.length-1) 0=rm (ps.length-1):=by rw[<- hrm]
  have hr:∀i,i<ps.length->rm i=wA k (vl rm (lx lk i)) (vl rm (ly lk i)) (decide (a∈qv ps i)) (decide (g9 k a b∈qv ps i)):=fun i hi=>by rw[<- hr i hi,<- hrm]
  rw[hrT]
  have dA:∀{c j:Nat},decide (c∈qv ps j)=true↔c∈qv ps j:=fun{c j}=>by rw[bV]
  have dF:∀{c j:Nat},decide (c∈qv ps j)=false↔¬ c∈qv ps j:=fun{c j}=>by rw[l9]
  obtain rfl|rfl|rfl|rfl|rfl:=rV hk
  ·refine qj (p:=rm (ps.length-1)=0) (q:=x &&& y=x) ?_
   rw[Re h hr _ hT,htop,qi]
   constructor
   ·intro e j hj
    obtain⟨j1,j2⟩:=(hx j).mp hj
    refine(hy j).mpr ⟨j1,?_⟩
    by_cases w:g9 0 a b∈qv ps j
    ·exact w
    ·rw[aq ⟨j,by omega,by omega,dA.mpr j2,dF.mpr w⟩]at e;cases e
   ·intro e
    rw[ax]
    rintro⟨j,_,j1,j2,j3⟩
    exact dF.mp j3 ((hy j).mp (e j ((hx j).mpr ⟨by omega,dA.mp j2⟩))).2
  ·rw[show vg 1 x y z=(decide (x≠0)&&decide (x &&& (x-1)=0))from rfl,Gf (n:=ps.length) (A:=fun j=>decide (a∈qv ps j)) fun j=>by rw[hx j,dA]]
   refine qj (p:=rm (ps.length-1)=1) ?_
   rw[NX h hr _ hT,htop,show ps.length-1+1-0=ps.length by omega]
   omega
  ·refine qj (p:=rm (ps.length-1)=0) (q:=x &&& z=x) ?_
   rw[BN h (ch:=lx lk) (fa:=ly lk) (fun i hi=>pJ h hi) hr _ hT,qi]
   have ad:∀q j,bt (mM 2 lk us q) j=true↔lx lk q=some j:=fun q j=>by
    show bt (match lx lk q with|none=>0|some t=>2^t) j=true↔_
    cases lx lk q with
    |none=>exact⟨fun z=>(by rw[show bt 0 j=false from dg j]at z;cases z),fun z=>(by cases z)⟩
    |some t=>show bt (2^t) j=true↔_;rw[wC,bV];exact⟨fun e=>by rw[e],fun e=>aS e⟩
   constructor
   ·intro e j hj
    obtain⟨j1,j2⟩:=(hx j).mp hj
    have nv:¬ tO sz (lx lk) (fun j=>decide (a∈qv ps j)) (fun j=>decide (g9 2 a b∈qv ps j)) (ps.length-1):=fun w=>by rw[aq w]at e;cases e
    rw[ax nv]at e
    have hjT:j≠ps.length-1:=fun w=>by rw[aq (by rw[<- w];exact dA.mpr j2)]at e;cases e
    refine(hz j).mpr ?_
    by_cases w:∃q,q<ps.length/\bt y q=true/\bt (mM 2 lk us q) j=true
    ·exact w
    ·exact absurd ⟨j,by omega,by omega,dA.mpr j2,fun q _ q2 q3 q4=>w ⟨q,by omega,(hy q).mpr ⟨by omega,dA.mp q3⟩,(ad q j).mpr q4⟩⟩ nv
   ·intro e
    have use:∀j,j<ps.length->a∈qv ps j->∃q,q<ps.length/\g9 2 a b∈qv ps q/\lx lk q=some j:=fun j j1 j2=>by
     obtain⟨q,q1,q2,q3⟩:=(hz j).mp (e j ((hx j).mpr ⟨j1,j2⟩))
     exact⟨q,q1,((hy q).mp q2).2,(ad q j).mp q3⟩
    rw[ax,ax]
    ·intro w
     obtain⟨q,q1,_,q3⟩:=use _ hT (dA.mp w)
     have:=(pJ h q1).bx _ q3;omega
    ·rintro⟨j,_,j1,j2,j3⟩
     obtain⟨q,q1,q2,q3⟩:=use j (by omega) (dA.mp j2)
     exact j3 q (by omega) (by omega) (dA.mpr q2) q3
  ·refine qj (p:=rm (ps.length-1)=0) (q:=x &&& z=x) ?_
   rw[BN h (ch:=ly lk) (fa:=lx lk) (fun i hi=>(pJ h hi).symm) hr _ hT,qi]
   have ad:∀q j,bt (mM 3 lk us q) j=true↔ly lk q=some j:=fun q j=>by
    show bt (match ly lk q with|none=>0|some t=>2^t) j=true↔_
    cases ly lk q with
    |none=>exact⟨fun z=>(by rw[show bt 0 j=false from dg j]at z;cases z),fun z=>(by cases z)⟩
    |some t=>show bt (2^t) j=true↔_;rw[wC,bV];exact⟨fun e=>by rw[e],fun e=>aS e⟩
   constructor
   ·intro e j hj
    obtain⟨j1,j2⟩:=(hx j).mp hj
    have nv:¬ tO sz (ly lk) (fun j=>decide (a∈qv ps j)) (fun j=>decide (g9 3 a b∈qv ps j)) (ps.length-1):=fun w=>by rw[aq w]at e;cases e
    rw[ax nv]at e
    have hjT:j≠ps.length-1:=fun w=>by rw[aq (by rw[<- w];exact dA.mpr j2)]at e;cases e
    refine(hz j).mpr ?_
    by_cases w:∃q,q<ps.length/\bt y q=true/\bt (mM 3 lk us q) j=true
    ·exact w
    ·exact absurd ⟨j,by omega,by omega,dA.mpr j2,fun q _ q2 q3 q4=>w ⟨q,by omega,(hy q).mpr ⟨by omega,dA.mp q3⟩,(ad q j).mpr q4⟩⟩ nv
   ·intro e
    have use:∀j,j<ps.length->a∈qv ps j->∃q,q<ps.length/\g9 3 a b∈qv ps q/\ly lk q=some j:=fun j j1 j2=>by
     obtain⟨q,q1,q2,q3⟩:=(hz j).mp (e j ((hx j).mpr ⟨j1,j2⟩))
     exact⟨q,q1,((hy q).mp q2).2,(ad q j).mp q3⟩
    rw[ax,ax]
    ·intro w
     obtain⟨q,q1,_,q3⟩:=use _ hT (dA.mp w)
     have:=(pJ h q1).by' _ q3;omega
    ·rintro⟨j,_,j1,j2,j3⟩
     obtain⟨q,q1,q2,q3⟩:=use j (by omega) (dA.mp j2)
     exact j3 q (by omega) (by omega) (dA.mpr q2) q3
  ·refine qj (p:=rm (ps.length-1)=0) (q:=x &&& z=x) ?_
   rw[Ge h hr _ hT,qi]
   have ad:∀q j,q<ps.length->(bt (mM 4 lk us q) j=true↔lo sz q<=j/\j<q):=fun q j hq=>AT q hq j
   constructor
   ·intro e j hj
    obtain⟨j1,j2⟩:=(hx j).mp hj
    refine(hz j).mpr ?_
    by_cases w:∃q,q<ps.length/\bt y q=true/\bt (mM 4 lk us q) j=true
    ·exact w
    ·rw[aq ⟨j,by omega,by omega,dA.mpr j2,fun q _ q2 q3 q4=>w ⟨q,by omega,(hy q).mpr ⟨by omega,dA.mp q3⟩,(ad q j (by omega)).mpr q4⟩⟩]at e
     cases e
   ·intro e
    rw[ax]
    rintro⟨j,_,j1,j2,j3⟩
    obtain⟨q,q1,q2,q3⟩:=(hz j).mp (e j ((hx j).mpr ⟨by omega,dA.mp j2⟩))
    exact j3 q (by omega) (by omega) (dA.mpr ((hy q).mp q2).2) ((ad q j q1).mp q3)
 ·rw[ax h0,gm 0 (by omega)]
  have x0:x=0:=gO fun j=>by
   rw[dg]
   cases hj:x.testBit j with
   |false=>rfl
   |true=>exact absurd ((hx j).mp hj).1 (by omega)
  subst x0
  obtain rfl|rfl|rfl|rfl|rfl:=rV hk
  ·show true=decide (0 &&& y=0);rw[m7];rfl
  ·rfl
  ·show true=decide (0 &&& z=0);rw[m7];rfl
  ·show true=decide (0 &&& z=0);rw[m7];rfl
  ·show true=decide (0 &&& z=0);rw[m7];rfl
end
section
variable{ps:List Pl}{S sz:List Nat}{lk:List (Option Nat×Option Nat)}{M:Mc}{n:Nat}
def vi(R:List Nat)(q:Nat):W:=.int ((R.getD q 0:Nat):Int)
theorem Ji(h:Gr ps S sz lk)(hl:ps.length<=900)(hM:Ap M n)(hn:1<=n)(st:List al) :
  ∃x,yJ [M.w,iz ps] st=.ok (.loc (st.length+1)) (st++x)/\x[1]?=some (.lst (nW (d_ M ps lk))):=by
 suffices hh:iP (wP fun w bu=>∃j x,w=.loc (st.length+j)/\bu=st++x/\j=1/\x[1]?=some (.lst (nW (d_ M ps lk)))) (KP ([M.w,iz ps].map some++List.replicate (8-2) none) st) by
  obtain⟨j,x,⟨rfl,hx⟩,e⟩:=oz hh
  exact⟨x,e,hx⟩
 obtain⟨l1,l2,_⟩:=h.ok
 obtain⟨rl,rlt⟩:=iV (M:=M) h hM hn
 have rat:=fun{i:Nat} {p:Pl} {x:Option Nat×Option Nat}=>yQ (M:=M) (i:=i) (p:=p) (x:=x) h hM hn
 generalize d_ M ps lk=R at *
 apply aB
 ·exact bg (Bv bG (bC rfl))
 apply aB
 ·exact bg (Bv bG (bC rfl))
 have l3:(st++[al.lst []]).length=st.length+1:=by simp
 rw[l3]
 refine dH (fun i ρ s=>∃(S1:List Nat) (o4 o5 o6 o7:Option W),ρ=[some M.w,some (iz ps),some (.loc st.length),some (.loc (st.length+1)),o4,o5,o6,o7]/\s=st++[.lst ((iA S1 i).map (vi R)).reverse,.lst (nW (R.take i))]/\Gr (ps.take i) S1 (sz.take i) (lk.take i)/\i<=ps.length)
  (k:=(ps.map Pl.w,none)) (st1:=(st++[al.lst []])++[al.lst []]) (oy kv) ⟨[],none,none,none,none,rfl,by rw[bj];rfl,.nil,ca _⟩ (fun _ _ _ _=>trivial) ?_ ?_
 ·rintro i w ρ s hw ⟨S1,o4,o5,o6,o7,rfl,rfl,hg,hi⟩
  have hip:i<ps.length:=by have:=(ai.mp hw).1;simpa using this
  obtain⟨S1',S2,p,k,x,g1,q1,q2,q3,hs,g2⟩:=h.step i hip
  have hw:w=p.w:=by
   simp only at hw
   rw[aD,q1]at hw
   exact(aS hw).symm
  subst hw
  refine⟨_,rfl,?_⟩
  have hS:=hg.det g1 rfl
  subst hS
  obtain⟨lz,ll,ha⟩:=g1.ok
  have hti:(ps.take i).length=i:=by rw[aV];omega
  rw[hti]at ha lz ll
  have hSl:=ha.le
  have hR:=rat q1 q3
  have hlo:IZ R.length x:=⟨fun j e=>by have:=(h.lk q3).1 j e;omega,fun j e=>by have:=(h.lk q3).2 j e;omega⟩
  obtain⟨t,r,f1,f2,f3,_⟩:=As (m:=p.m) hM hn rlt hlo
  have hRt:R.take (i+1)=R.take i++[uq M R p.m x]:=by rw[iN,hR];rfl
  have pop:∀(A:List W) (B:List Nat) (q:Nat),pW (.loc st.length) [] (st++[.lst ((q::B).map (vi R)).reverse,.lst A])=.ok (vi R q) (st++[.lst (B.map (vi R)).reverse,.lst A]):=fun A B q=>by
   have hc:(st++[al.lst ((q::B).map (vi R)).reverse,.lst A])[st.length]?=some (.lst ((B.map (vi R)).reverse++[vi R q])):=by rw[dS];simp
   rw[EW hc,eX];rfl
  have isl0:∀(A:List W) (B:List W),lK (st++[.lst A,.lst B]) (.loc st.length)=true:=fun A B=>fH (by rw[dS];rfl)
  have T1:∀(k:Bool) (ρ:bW) (s:List al),decide ((2:Int)<=(p.b:Int))=k->ρ[4]?=some (some (.int p.b))->dv (e2 JL (ah 4) (eI 2)) ρ s=.ok k s:=fun k ρ s e h4=>cu (bQ (d9 h4) cC (By e))
  have T2:∀(k:Bool) (ρ:bW) (s:List al),(((p.b:Int)%2)==1)=k->ρ[4]?=some (some (.int p.b))->dv (e2 gP (e2 gR (ah 4) (eI 2)) (eI 1)) ρ s=.ok k s:=fun k ρ s e h4=>cu (bQ (bQ (d9 h4) cC (gr (by decide))) cC (im e))
  have put:∀(u v:W) (B:List Nat),u=.int (uo R x.1:Nat)->v=.int (uo R x.2:Nat)->B.length<1001->i::B=iA S2 (i+1) ->
    iP (Dy (fun ρ s=>∃(S1:List Nat) (o4 o5 o6 o7:Option W),ρ=[some M.w,some (iz ps),some (.loc st.length),some (.loc (st.length+1)),o4,o5,o6,o7]/\s=st++[.lst ((iA S1 (i+1)).map (vi R)).reverse,.lst (nW (R.take (i+1)))]/\Gr (ps.take (i+1)) S1 (sz.take (i+1)) (lk.take (i+1))/\i+1<=ps.length))
     (aT (gp (oR cy (ah 2) (ao (e2 bO (e2 bO (e2 bO (e2 bO (ah 0) (eI 2)) (da 2 vb (ao (e2 bO (ah 0) (eI 0)) (ao (ah 5) aK)))) (ah 6)) (ah 7)) aK))) (gp (oR cy (ah 3) (ao (e2 bO (ah 2) (uj (eI 1))) aK)))
      [some M.w,some (iz ps),some (.loc st.length),some (.loc (st.length+1)),some (.int p.b),some (.str p.m),some u,some v] (st++[.lst (B.map (vi R)).reverse,.lst (nW (R.take i))])):=by
   rintro u v B rfl rfl hB hT
   have hc:(st++[al.lst (B.map (vi R)).reverse,.lst (nW (R.take i))])[st.length]?=some (.lst (B.map (vi R)).reverse):=by rw[dS];rfl
   apply aB
   ·exact iU (jz kv (fH hc) (aC (bQ (bQ (bQ kx (cR (aC kx kn) (Ar M.nm p.m _) rfl) (FY f1 _)) kv (FU f2)) kv (FR f3)) bG) (lS hc (by rw[List.length_reverse,ar];show _<1000000;omega)))
   rw[eX]
   have hc1:(st++[al.lst (B.map (vi R)).reverse,.lst (nW (R.take i))].set 0 (.lst ((B.map (vi R)).reverse++[W.int (uq M R p.m x:Nat)])))[st.length]?=some (.lst ((B.map (vi R)).reverse++[W.int (uq M R p.m x:Nat)])):=by rw[dS];rfl
   have hc2:(st++[al.lst (B.map (vi R)).reverse,.lst (nW (R.take i))].set 0 (.lst ((B.map (vi R)).reverse++[W.int (uq M R p.m x:Nat)])))[st.length+1]?=some (.lst (nW (R.take i))):=by rw[i7];rfl
   have last:qw ((B.map (vi R)).reverse++[W.int (uq M R p.m x:Nat)]) (-1)=some (.int (uq M R p.m x:Nat)):=Aa (q:=0) (by rw[List.reverse_append];rfl)
   refine cS (iU (jz kv (fH hc2) (aC (bQ kv (ya cC) (nR (bT hc1) last)) bG) (lS hc2 (by simp[nW];show _<1000000;omega)))) ?_
   refine⟨_,_,rfl,S2,_,_,_,_,rfl,?_,g2,by omega⟩
   rw[lP,<- hT,hRt]
   have:vi R i=.int (uq M R p.m x:Nat):=by unfold vi;rw[jW hR]
   simp[nW,this]
  apply aB
  ·exact bg cC
  apply aB
  ·exact bg cC
  obtain⟨b,m⟩:=p
  cases hs with
  |@z=>
   apply a9
   ·exact T1 false _ _ rfl rfl
   apply br
   apply a9
   ·exact T2 false _ _ rfl rfl
   apply br
   exact put _ _ (iA S1 i) rfl rfl (by rw[gU];omega) rfl
  |@l a S=>
   apply a9
   ·exact T1 false _ _ rfl rfl
   apply br
   apply aB
   ·exact gK (T2 true _ _ rfl rfl) (bg (jz kv (isl0 _ _) bG (pop _ (iA S (i-a)) (i-1))))
   exact put _ _ (iA S (i-a)) rfl rfl (by rw[gU];simp at hSl;omega) (by simp only[iA];congr 1;congr 1;omega)
  |@r a S=>
   apply aB
   ·exact gK (T1 true _ _ rfl rfl) (bg (jz kv (isl0 _ _) bG (pop _ (iA S (i-a)) (i-1))))
   apply a9
   ·exact T2 false _ _ (by show((2:Int)%2==1)=false;decide) rfl
   apply br
   exact put _ _ (iA S (i-a)) rfl rfl (by rw[gU];simp at hSl;omega) (by simp only[iA];congr 1;congr 1;omega)
  |@b c a S=>
   apply aB
   ·exact gK (T1 true _ _ rfl rfl) (bg (jz kv (isl0 _ _) bG (pop _ (iA (a::S) (i-c)) (i-1))))
   apply aB
   ·exact gK (T2 true _ _ (by show((3:Int)%2==1)=true;decide) rfl) (bg (jz kv (isl0 _ _) bG (pop _ (iA S (i-c-a)) (i-c-1))))
   exact put _ _ (iA S (i-c-a)) (by show vi R _=W.int ((R.getD (i-1-c) 0:Nat):Int);rw[show i-1-c=i-c-1 by omega];rfl) rfl (by rw[gU];simp at hSl;omega) (by simp only[iA];congr 1;congr 1;omega)
 ·rintro ρ s ⟨S1,o4,o5,o6,o7,rfl,rfl,hg,hi⟩
  apply bM
  ·exact d9 rfl
  ·refine⟨_,_,rfl,1,_,rfl,rfl,rfl,?_⟩
   rw[show(ps.map Pl.w,(none:Option (Nat×List W))).fst.length=R.length by simp[rl],cX]
   rfl
theorem Gs(h:Gr ps S sz lk)(hl:ps.length<=900)(hM:Ap M n)(hn:1<=n)(st:List al):yK [M.w,iz ps] st=.ok (.bl (C_ M ps lk)) st:=by
 refine hJ (N:=2) (ws:=[M.w,iz ps]) (body:=KQ) ?_ rfl
 have ll:=qT ps st
 have tl:=F2 (M:=M) h hM hn
 unfold C_
 by_cases z:0<ps.length
 ·refine a9 (cu (bQ (cP kn ll) cC (im (by rw[bd];omega)))) ?_
  refine br ?_
  rw[aq z]at tl ⊢
  obtain⟨x,e,hx⟩:=Ji h hl hM hn st
  have hx2:(st++x)[st.length+1]?=some (.lst (nW (d_ M ps lk))):=by rw[i7];exact hx
  refine bM (bQ kx (bQ (cR (aC kv kn) e rfl) (ya cC) (nR (bT hx2) (Aa (q:=0) (x:=.int (tL M ps lk:Nat)) ?_))) (F1 hM tl _)) ⟨_,_,rfl,rfl,_,rfl⟩
  have rl:=(iV (M:=M) h hM hn).1
  unfold nW
  rw[fx (by rw[ar];omega),ar,aD,rl,show ps.length-1-0=ps.length-1 by omega,ae (by omega)]
  show some (W.int _)=some (W.int _)
  unfold tL
  rw[av,ae (by omega)];rfl
 ·rw[ax z]
  refine dy (cu (bQ (cP kn ll) cC (im (by rw[c7];omega)))) ?_
  exact dz (bQ kx cC (F1 (k:=0) hM hn st)) ⟨_,_,rfl,rfl,[],by simp⟩
end
theorem N1(g:FS)(ρ:bW)(st:List al):aT g b_ ρ st=g ρ st:=by
 unfold aT
 cases g ρ st<;>rfl
theorem tP{fi:FI}{f:FG}{body:FS}{k:CC}{ρ:bW}{st st1:List al}{Q:RS->Prop}(I:Nat->bW->List al->Prop)(h:fi ρ st=.ok k st1)(h0:I 0 ρ st1)(hc:∀i ρ st,I i ρ st->jh st k.2)
  (hs:∀i w ρ st,k.1[i]?=some w->I i ρ st->∃ρ',f w ρ=some ρ'/\iP (Dy (I (i+1))) (body ρ' st)) (he:∀ρ st,I k.1.length ρ st->Q (.nx ρ st)):iP Q (gC fi f body ρ st):=by
 rw[<- N1 (gC fi f body)]
 exact dH (rest:=b_) I h h0 hc hs fun ρ st hI=>cS (r':=.nx ρ st) tm (he ρ st hI)
theorem Jj{M:Mc}{n:Nat}(hM:Ap M n)(hn:1<=n)(TB:n<=1000)(hl:M.nm.length<=20)(st:List al):yH [M.w,.str M.nm] st=.ok (.bl true) st:=by
 have g0:bO M.w (.int 0) st=.ok (.str M.nm) st:=rfl
 have g1:bO M.w (.int 1) st=.ok (.tup (M.gd.map W.bl)) st:=rfl
 have g2:bO M.w (.int 2) st=.ok (.tup (M.tb.map oH)) st:=rfl
 have ln:e7 [.tup (M.gd.map W.bl)] st=.ok (.int (n:Nat)) st:=by rw[qJ,ar,hM.gd]
 have tl:e7 [.tup (M.tb.map oH)] st=.ok (.int ((2^M.nm.length:Nat):Int)) st:=by rw[qJ,ar,hM.tb]
 have oK:xG (.str M.nm) (.str M.nm) st=.ok (.bl false) st:=by
  show R.ok (W.bl (!(M.nm==M.nm))) st=_
  rw[gY];rfl
 have n0:((n:Int)==0)=false:=by rw[bd];omega
 have nn:(!((n:Int)==(n:Int)))=false:=by rw[gY];rfl
 refine hJ (N:=7) (ws:=[M.w,.str M.nm]) (body:=KN) ?_ rfl
 refine a9 (h9 (nQ (cu (oT kv rfl rfl)) rfl) (cu (bQ (cP kn (w:=.int 3) rfl) cC (u0 rfl)))) (br ?_)
 refine a9 (h9 (nQ (cu (oT (bQ kv cC g0) rfl rfl)) rfl) (cu (bQ (bQ kv cC g0) kv oK))) (br ?_)
 refine aB (bg (bQ kv cC g1)) ?_
 refine a9 (h9 (nQ (cu (oT kv rfl rfl)) rfl) (h9 (cu (bQ (cP kn ln) cC (im n0))) (nQ (cu (oT (bQ kv cC g2) rfl rfl)) rfl))) (br ?_)
 refine dH (fun i ρ s=>∃o3,ρ=[some M.w,some (.str M.nm),some (.tup (M.gd.map W.bl)),o3,none,none,none]/\s=st) (oy kv) ⟨none,rfl,rfl⟩ (fun _ _ _ _=>trivial) ?_ ?_
 ·rintro i w ρ s hw ⟨o3,rfl,rfl⟩
  obtain⟨b,_,rfl⟩:=aJ.mp (aY hw)
  exact⟨_,rfl,kK (nQ (cu (oT kv rfl rfl)) rfl) ⟨_,_,rfl,_,rfl,rfl⟩⟩
 rintro ρ s ⟨o3,rfl,rfl⟩
 refine a9 (cu (bQ (cP (aC (bQ kv cC g2) bG) tl) (bQ cC (cP kn (vZ (by show _<=1000000;omega))) (m8 (by omega))) (u0 (k:=false) (by rw[gY];rfl)))) (br ?_)
 refine dH (fun i ρ s'=>∃o4 o5 o6,ρ=[some M.w,some (.str M.nm),some (.tup (M.gd.map W.bl)),o3,o4,o5,o6]/\s'=s) (oy (bQ kv cC g2)) ⟨none,none,none,rfl,rfl⟩ (fun _ _ _ _=>trivial) ?_ ?_
 ·rintro i w ρ s' hw ⟨o4,o5,o6,rfl,rfl⟩
  obtain⟨t,ht,rfl⟩:=aJ.mp (aY hw)
  obtain⟨t1,t2⟩:=hM.t t ht
  have tn:e7 [oH t] s'=.ok (.int (n:Nat)) s':=by unfold oH;rw[qJ,ar,t1]
  refine⟨_,rfl,a9 (h9 (nQ (cu (oT kv rfl rfl)) rfl) (cu (bQ (cP kn tn) (cP kn ln) (u0 nn)))) (br ?_)⟩
  refine tP (fun i ρ s=>∃o5 o6,ρ=[some M.w,some (.str M.nm),some (.tup (M.gd.map W.bl)),o3,some (oH t),o5,o6]/\s=s') (oy (ws:=t.map qf) kv) ⟨_,_,rfl,rfl⟩ (fun _ _ _ _=>trivial) ?_ ?_
  ·rintro i w ρ s hw ⟨o5,o6,rfl,rfl⟩
   obtain⟨r,hr,rfl⟩:=aJ.mp (aY hw)
   obtain⟨r1,r2⟩:=t2 r hr
   have rn:e7 [qf r] s=.ok (.int (n:Nat)) s:=by unfold qf;rw[qJ,ar,r1]
   refine⟨_,rfl,a9 (h9 (nQ (cu (oT kv rfl rfl)) rfl) (cu (bQ (cP kn rn) (cP kn ln) (u0 nn)))) (br ?_)⟩
   refine tP (fun i ρ s'=>∃o6,ρ=[some M.w,some (.str M.nm),some (.tup (M.gd.map W.bl)),o3,some (oH t),some (qf r),o6]/\s'=s) (oy (ws:=r.map fun k=>W.int (k:Nat)) kv) ⟨_,rfl,rfl⟩ (fun _ _ _ _=>trivial) ?_ ?_
   ·rintro i w ρ s' hw ⟨o6,rfl,rfl⟩
    obtain⟨v,hv,rfl⟩:=aJ.mp (aY hw)
    have hv':=r2 v hv
    have c1:decide ((v:Int)<0)=false:=aG (by omega)
    have c2:decide ((n:Int)<=(v:Int))=false:=aG (by omega)
    have Oo:JL (.int ((v:Nat):Int)) (.int ((n:Nat):Int)) s'=.ok (.bl false) s':=By c2
    exact⟨_,rfl,kK (h9 (nQ (cu (oT kv rfl rfl)) rfl) (h9 (cu (oT kv rfl rfl)) (h9 (cu (bQ kv cC (lR c1))) (cu (bQ kv (cP kn ln) Oo))))) ⟨_,_,rfl,_,rfl,rfl⟩⟩
   ·rintro ρ s' ⟨o6,rfl,rfl⟩
    exact⟨_,_,rfl,_,_,rfl,rfl⟩
  ·rintro ρ s ⟨o5,o6,rfl,rfl⟩
   exact⟨_,_,rfl,_,_,_,rfl,rfl⟩
 ·rintro ρ s' ⟨o4,o5,o6,rfl,rfl⟩
  exact bM cC ⟨_,_,rfl,rfl,[],by simp⟩
theorem iP.mono{P Q:RS->Prop}{r:RS}(h:iP Q r)(hm:∀r,Q r->P r):iP P r:=hm r h
theorem Gu{t:FT}{g:FS}{I:bW->List al->Prop}{ρ:bW}{s:List al}(h:(∃c,t ρ s=.ok c s/\(c=true->iP (Dy I) (g ρ s))))(hI:I ρ s):iP (Dy I) (gF t g b_ ρ s):=by
 obtain⟨c,h1,h2⟩:=h
 cases c with
 |false=>exact kK h1 ⟨_,_,rfl,hI⟩
 |true=>exact nS h1 (h2 rfl)
theorem pK{t u:FT}{ρ:bW}{s:List al}{c:Bool}{Q:Prop}(h:t ρ s=.ok c s)(h2:∃d,u ρ s=.ok d s/\(d=true->Q)):∃d,uf t u ρ s=.ok d s/\(d=true->Q):=by
 cases c with
 |false=>exact⟨false,p_ h,fun z=>by cases z⟩
 |true=>
  obtain⟨d,h3,h4⟩:=h2
  exact⟨d,mE h h3,h4⟩
section
variable{ps:List Pl}{S sz:List Nat}{lk:List (Option Nat×Option Nat)}
theorem Rj{k a b:Nat}(st:List al):bO (dO k a b) (.int 0) st=.ok (.str (KW k)) st:=by
 unfold dO
 by_cases h:k=1
 ·rw[aq h,h];rfl
 ·rw[ax h];rfl
theorem Gv(h:Gr ps S sz lk)(hl:ps.length<=100){k a b pl y:Nat}{st:List al}(lq:st[pl]?=some (.lst (lk.map iu))):∃z:Nat,yL [dO k a b,.loc pl,.int (y:Nat)] st=.ok (.int (z:Nat)) st:=by
 suffices hh:iP (wP fun w bu=>(∃x,bu=st++x)/\undWs st.length [w]=true/\∃z:Nat,w=.int (z:Nat)) (KR ([dO k a b,.loc pl,.int (y:Nat)].map some++List.replicate (6-3) none) st) by
  obtain⟨w,⟨z,rfl⟩,e⟩:=qa hh
  exact⟨z,e⟩
 obtain⟨l1,l2,_⟩:=h.ok
 obtain⟨us,AT,_,eu⟩:=yX h hl lq
 refine aB (bg (cR kn eu rfl)) ?_
 have hpl1:(st++[al.lst (nW us)])[pl]?=some (.lst (lk.map iu)):=bX lq
 have OE:(st++[al.lst (nW us)])[st.length]?=some (.lst (nW us)):=cH
 generalize hs1:st++[al.lst (nW us)]=s1 at hpl1 OE
 refine aB (bg cC) ?_
 have ll:=pB (bT hpl1)
 rw[ar]at ll
 refine dH (fun i ρ s=>∃(z:Nat) (o5:Option W),ρ=[some (dO k a b),some (.loc pl),some (.int (y:Nat)),some (.loc st.length),some (.int (z:Nat)),o5]/\s=s1) (e_ (q:=(lk.length:Int)) (st1:=s1) (aC (cP kn ll) bG) (by omega)) ⟨0,none,rfl,rfl⟩ (fun _ _ _ _=>trivial) ?_ ?_
 ·rintro q w ρ s hw ⟨z0,o5,rfl,rfl⟩
  obtain⟨hq,rfl⟩:=gT hw
  rw[aO]at hq
  rw[eV]
  refine⟨_,rfl,?_⟩
  obtain⟨x,hx⟩:∃x,lk[q]?=some x:=⟨_,ae (by omega)⟩
  obtain⟨lx1,lx2⟩:=h.lk hx
  have hlq:bO (.loc pl) (.int (q:Int)) s=.ok (iu x) s:=nR (bT hpl1) (ic (by rw[aD,hx];rfl))
  have hg:us[q]?=some (us.getD q 0):=by rw[av,ae (by omega)];rfl
  let I:bW->List al->Prop:=fun ρ s'=>∃z:Nat,ρ=[some (dO k a b),some (.loc pl),some (.int (y:Nat)),some (.loc st.length),some (.int (z:Nat)),some (.int (q:Int))]/\s'=s
  have wd:∀(z:Nat) (l:List Nat),dv (e2 gP (e2 bO (ah 0) (eI 0)) (eC (.str l))) [some (dO k a b),some (.loc pl),some (.int (y:Nat)),some (.loc st.length),some (.int (z:Nat)),some (.int (q:Int))] s=.ok (KW k==l) s:=fun z l=>cu (bQ (bQ kv cC (Rj s)) cC (JZ rfl))
  have bit:∀(z:Nat),dv (e2 gP (e2 gZ (e2 mw (ah 2) (ah 5)) (eI 1)) (eI 1)) [some (dO k a b),some (.loc pl),some (.int (y:Nat)),some (.loc st.length),some (.int (z:Nat)),some (.int (q:Int))] s=.ok (decide (y/2^q%2=1)) s:=fun z=>cu (Gd s kv kv)
  have e0:∀(z:Nat),e2 bO (e2 bO (ah 1) (ah 5)) (eI 0) [some (dO k a b),some (.loc pl),some (.int (y:Nat)),some (.loc st.length),some (.int (z:Nat)),some (.int (q:Int))] s=.ok (oW x.1) s:=fun z=>bQ (bQ kv kv hlq) cC rfl
  have e1:∀(z:Nat),e2 bO (e2 bO (ah 1) (ah 5)) (eI 1) [some (dO k a b),some (.loc pl),some (.int (y:Nat)),some (.loc st.length),some (.int (z:Nat)),some (.int (q:Int))] s=.ok (oW x.2) s:=fun z=>bQ (bQ kv kv hlq) cC rfl
  have e5:∀(z:Nat),ah 5 [some (dO k a b),some (.loc pl),some (.int (y:Nat)),some (.loc st.length),some (.int (z:Nat)),some (.int (q:Int))] s=.ok (.int (q:Nat)) s:=fun z=>d9 rfl
  refine i8 I (Gu (pK (wd z0 _) ⟨_,bit z0,fun _=>cS (bg (bQ kv (bQ cC (e5 z0) (m8 (by omega))) oV)) ⟨_,_,rfl,_,rfl,rfl⟩⟩) ⟨z0,rfl,rfl⟩) ?_
  rintro ρ s' ⟨z1,rfl,rfl⟩
  refine i8 I (Gu (pK (wd z1 _) ⟨_,bit z1,fun _=>cS (bg (bQ cC (e5 z1) (m8 (by omega)))) ⟨_,_,rfl,_,rfl,rfl⟩⟩) ⟨z1,rfl,rfl⟩) ?_
  rintro ρ s'' ⟨z2,rfl,rfl⟩
  refine i8 I (Gu (pK (wd z2 _) ⟨_,bit z2,fun _=>cS (bg (bQ kv (bQ kv kv (BH OE hg)) oV)) ⟨_,_,rfl,_,rfl,rfl⟩⟩) ⟨z2,rfl,rfl⟩) ?_
  rintro ρ s3 ⟨z3,rfl,rfl⟩
  refine i8 I (Gu (pK (wd z3 _) (pK (bit z3) ?_)) ⟨z3,rfl,rfl⟩) ?_
  ·cases hx1:x.1 with
   |none=>rw[hx1]at e0;exact⟨false,lW (e0 z3),fun z=>by cases z⟩
   |some t=>
    rw[hx1]at e0
    have ht:=lx1 t hx1
    exact⟨true,lV (e0 z3),fun _=>cS (bg (bQ kv (bQ cC (e0 z3) (m8 (by omega))) oV)) ⟨_,_,rfl,_,rfl,rfl⟩⟩
  rintro ρ s4 ⟨z4,rfl,rfl⟩
  refine iP.mono (Q:=Dy I) (Gu (pK (wd z4 _) (pK (bit z4) ?_)) ⟨z4,rfl,rfl⟩) ?_
  ·cases hx1:x.2 with
   |none=>rw[hx1]at e1;exact⟨false,lW (e1 z4),fun z=>by cases z⟩
   |some t=>
    rw[hx1]at e1
    have ht:=lx2 t hx1
    exact⟨true,lV (e1 z4),fun _=>cS (bg (bQ kv (bQ cC (e1 z4) (m8 (by omega))) oV)) ⟨_,_,rfl,_,rfl,rfl⟩⟩
  ·rintro r ⟨ρ,s5,rfl,z5,rfl,rfl⟩
   exact⟨_,_,rfl,z5,_,rfl,rfl⟩
 ·rintro ρ s ⟨z,o5,rfl,rfl⟩
  exact bM kv ⟨_,_,rfl,⟨_,hs1.symm⟩,rfl,z,rfl⟩
end
theorem AA{ps:List Pl}(hl:ps.length<=100)(hm:∀p∈ps,p.m.length<=50)(a:Nat)(z:Int)(st:List al):∃qs:List Pl,qs.map Pl.b=ps.map Pl.b/\(∀p∈qs,p.m.length<=51)/\yF [iz ps,.str [a],.int z] st=.ok (iz qs) st:=by
 suffices hh:iP (wP fun w bu=>(∃x,bu=st++x)/\undWs st.length [w]=true/\∃qs:List Pl,w=iz qs/\qs.map Pl.b=ps.map Pl.b/\∀p∈qs,p.m.length<=51) (KM ([iz ps,.str [a],.int z].map some++List.replicate (6-3) none) st) by
  obtain⟨w,⟨qs,rfl,h1,h2⟩,e⟩:=qa hh
  exact⟨qs,h1,h2,e⟩
 refine aB (bg (Bv bG (bC rfl))) ?_
 refine dH (fun i ρ s=>∃(qs:List Pl) (y:List al) (o4 o5:Option W),ρ=[some (iz ps),some (.str [a]),some (.int z),some (.loc st.length),o4,o5]/\s=st++(.lst (qs.map Pl.w)::y)/\qs.map Pl.b=(ps.take i).map Pl.b/\(∀p∈qs,p.m.length<=51)/\i<=ps.length)
  (e_ (q:=(ps.length:Int)) (st1:=st++[al.lst []]) (aC (cP kn (qT ps _)) bG) (by omega)) ⟨[],[],none,none,rfl,rfl,rfl,by simp,ca _⟩ (fun _ _ _ _=>trivial) ?_ ?_
 ·rintro i w ρ s hw ⟨qs,y,o4,o5,rfl,rfl,hqb,hqm,_⟩
  obtain⟨hi,rfl⟩:=gT hw
  rw[aO]at hi
  rw[eV]
  refine⟨_,rfl,?_⟩
  obtain⟨p,hp⟩:∃p,ps[i]?=some p:=⟨_,ae hi⟩
  have hpm:=hm p (aY hp)
  generalize hs:st++(al.lst (qs.map Pl.w)::y)=s
  have hc:s[st.length]?=some (.lst (qs.map Pl.w)):=by rw[<- hs,dS];rfl
  have ec:=pD (fi:=eG (e2 bO (e2 bO (ah 0) (ah 4)) (eI 1))) (cap:=[none,some 1]) (ρ:=[some (iz ps),some (.str [a]),some (.int z),some (.loc st.length),some (.int (i:Int)),o5]) (st:=s) (st1:=s) (f:=hZ 0) (t:=dv (e2 xG (ah 0) (ah 1))) (el:=ah 0) (fun w=>match w with|.str [c]=>!(c==a)|_=>false) id (mJ (bQ (bQ kv kv (BI hp s)) cC (Q6 p s))) (by rw[f6];show _<=1000000;omega) trivial fun w hw=>by
   obtain⟨c,hc,rfl⟩:=aJ.mp hw
   refine⟨_,rfl,cu (bQ kv kv ?_),fun _=>d9 rfl⟩
   show R.ok (W.bl (!([c]==[a]))) s=.ok (.bl (!(c==a))) s
   rw[show([c]==[a])=(c==a) by simp[List.beq]]
  have e:((dC p.m).filter (fun w=>match w with|.str [c]=>!(c==a)|_=>false)).map id=((p.m.filter fun c=>!(c==a)).map fun c=>[c]).map W.str:=by
   rw[gc]
   unfold dC
   rw[jL,a8];rfl
  rw[e]at ec
  obtain⟨l,hle⟩:∃l,l=p.m.filter fun c=>!(c==a):=⟨_,rfl⟩
  rw[<- hle]at ec
  have hll:l.length<=50:=by rw[hle];exact bh (fy _ _) hpm
  refine aB (ρ':=[some (iz ps),some (.str [a]),some (.int z),some (.loc st.length),some (.int (i:Int)),some (.loc s.length)]) (st1:=s++[.lst ((l.map fun c=>[c]).map W.str)]) (by show CB _ _ [some (iz ps),some (.str [a]),some (.int z),some (.loc st.length),some (.int (i:Int)),o5] s=_;unfold CB;rw[ec];rfl) ?_
  refine i8 (fun ρ s'=>∃l':List Nat,l'.length<=51/\ρ=[some (iz ps),some (.str [a]),some (.int z),some (.loc st.length),some (.int (i:Int)),some (.loc s.length)]/\s'=s++[.lst ((l'.map fun c=>[c]).map W.str)]) ?_ ?_
  ·have hb:∃c,dv (e2 gP (e2 gZ (e2 mw (ah 2) (ah 4)) (eI 1)) (eI 1)) [some (iz ps),some (.str [a]),some (.int z),some (.loc st.length),some (.int (i:Int)),some (.loc s.length)] (s++[.lst ((l.map fun c=>[c]).map W.str)])=.ok c (s++[.lst ((l.map fun c=>[c]).map W.str)]):=
    ⟨_,cu (bQ (bQ (bQ kv kv (gr (show(0:Int)<=(i:Int) by omega))) cC (gr trivial)) cC (im rfl))⟩
   obtain⟨c,hb⟩:=hb
   cases c with
   |false=>exact kK hb ⟨_,_,rfl,l,by omega,rfl,rfl⟩
   |true=>
    refine nS hb (cS (iU (jz kv (fH cH) kn (lS cH (by simp;show _<1000000;omega)))) ⟨_,_,rfl,l++[a],by simp;omega,rfl,?_⟩)
    rw[eX];simp
  rintro ρ s' ⟨l',hl',rfl,rfl⟩
  have hso:=qe (st:=s++[.lst ((l'.map fun c=>[c]).map W.str)]) (n:=s.length) (ls:=l'.map fun c=>[c]) (bT cH) (by rw[ar];omega)
  have hsl:=(dX (l'.map fun c=>[c])).length_eq
  have hss:((fA (l'.map fun c=>[c])).map List.length).sum=l'.length:=by rw[nX (dX _),tN]
  rw[ar]at hsl
  have hj:=qK (sep:=[]) (st:=s++[.lst ((l'.map fun c=>[c]).map W.str)]++[.lst ((fA (l'.map fun c=>[c])).map W.str)]) (n:=(s++[al.lst ((l'.map fun c=>[c]).map W.str)]).length) (ls:=fA (l'.map fun c=>[c])) (bT cH) (by rw[hss];show _<=1000000;simp;omega)
  have hjl:(je [] (fA (l'.map fun c=>[c]))).length<=51:=by rw[j5,jR,hss];exact hl'
  generalize je [] (fA (l'.map fun c=>[c]))=m at hj hjl
  have ql:qs.length=i:=by have:=cM List.length hqb;simp at this;omega
  have hc2:(s++[al.lst ((l'.map fun c=>[c]).map W.str)]++[al.lst ((fA (l'.map fun c=>[c])).map W.str)])[st.length]?=some (.lst (qs.map Pl.w)):=bX (bX hc)
  refine cS (iU (jz kv (fH (bX hc)) (aC (p9 (aC (bQ (bQ kv kv (BI hp _)) cC (NH p _)) (aC (z9 cC rfl (aC (cP kn hso) bG) hj) bG)) (bC rfl)) bG) (lS hc2 (by rw[ar];show _<1000000;omega)))) ?_
  refine⟨_,_,rfl,qs++[⟨p.b,m⟩],y++[.lst ((l'.map fun c=>[c]).map W.str)]++[.lst ((fA (l'.map fun c=>[c])).map W.str)],_,_,rfl,?_,?_,?_,by omega⟩
  ·rw[<- hs,bj,bj,eX]
   simp[Pl.w]
  ·rw[eN,hqb,iN,hp];simp
  ·intro r hr
   rcases bB.mp hr with h|h
   ·exact hqm r h
   ·simp at h;subst h;exact hjl
 ·rintro ρ s ⟨qs,y,o4,o5,rfl,rfl,hqb,hqm,_⟩
  rw[show(ce 0 (ps.length:Int).toNat,(none:Option (Nat×List W))).fst.length=ps.length by simp[cr],cX]at hqb
  refine bM (cP kn (lh (ws:=qs.map Pl.w) (bT (by rw[dS];rfl)))) ⟨_,_,rfl,⟨_,rfl⟩,by simp only[undWs,eD];exact Aq qs _,qs,rfl,hqb,hqm⟩
def t6(k a b:Nat):List Nat:=if k=1\/b=a then[a]else[a,b]
theorem BR{k a b c:Nat}:c∈t6 k a b↔c∈ut k a b:=by
 unfold t6 ut
 by_cases h:k=1
 ·rw[aq (.inl h),aq h]
 ·rw[ax h]
  by_cases h2:b=a
  ·rw[aq (.inr h2),h2];simp
  ·rw[ax (by rintro(z|z);exact h z;exact h2 z)]
theorem BS(k a b:Nat):(t6 k a b).length<=2:=by unfold t6;split<;>simp
theorem K5{k a b:Nat}(hk:k<5)(st:List al):bO (dO k a b) (.int 1) st=.ok (.str [a]) st:=by
 obtain rfl|rfl|rfl|rfl|rfl:=rV hk<;>rfl
theorem Rk{k a b:Nat}(hk:k<5)(st:List al):bO (dO k a b) (.int (-1)) st=.ok (.str [g9 k a b]) st:=by
 obtain rfl|rfl|rfl|rfl|rfl:=rV hk<;>rfl
theorem N2{k a b:Nat}(hk:k<5)(st:List al):Dw (dO k a b) (some 1) none st=.ok (.tup ((ut k a b).map fun c=>.str [c])) st:=by
 obtain rfl|rfl|rfl|rfl|rfl:=rV hk<;>rfl
theorem N3{k a b:Nat}(hk:k<5)(st:List al):Dw (dO k a b) (some 2) none st=.ok (.tup (if k=1 then[]else[.str [b]])) st:=by
 obtain rfl|rfl|rfl|rfl|rfl:=rV hk<;>rfl
theorem AB(c a:Nat):([c]==[a])=(c==a):=by simp[List.beq]
theorem Jk{k a b c:Nat}(st:List al):pM false (.str [c]) (.tup ((ut k a b).map fun c=>.str [c])) st=.ok (.bl (decide (c∈ut k a b))) st:=by
 unfold ut
 by_cases h:k=1
 ·rw[aq h]
  show R.ok (W.bl (([a]==[c])||false)) st=_
  rw[AB,lr]
  congr 2
  rw[gz,c7,bV,be];exact eq_comm
 ·rw[ax h]
  show R.ok (W.bl (([a]==[c])||(([b]==[c])||false))) st=_
  rw[AB,AB,lr]
  congr 2
  rw[gz,c_,c7,c7,bV]
  simp only[aM,d8,kq]
  exact or_congr eq_comm eq_comm
theorem Gw{a b:Nat}:[a]<[b]↔a<b:=by
 constructor
 ·intro h
  cases h with
  |rel h=>exact h
  |cons h=>cases h
 ·exact fun h=>.rel h
theorem Tt(k a b:Nat):je [] (fA ((t6 k a b).map fun c=>[c]))=t5 k a b:=by
 unfold t6 t5 ut
 by_cases h:k=1
 ·rw[aq (.inl h),aq h];rfl
 ·rw[ax h]
  by_cases h2:b=a
  ·rw[aq (.inr h2),h2]
   show[a]=(if a<a then[a,a]else if a=a then[a]else[a,a])
   rw[ax (cV _),aq rfl]
  ·rw[ax (by rintro(z|z);exact h z;exact h2 z)]
   show je [] (if [a]<[b]then[[a],[b]]else[[b],[a]])=(if a<b then[a,b]else if a=b then[b]else[b,a])
   by_cases z:a<b
   ·rw[aq (Gw.mpr z),aq z];rfl
   ·rw[ax (fun q=>z (Gw.mp q)),ax z,ax (Ne.symm h2)];rfl
def Jl(k a b n:Nat)(l:List Nat):Prop:=∃X,l=t6 k a b++X/\(∀c∈X,¬ c∈t6 k a b)/\X.length<=n
theorem Jl.fil{k a b n:Nat}{l:List Nat}(h:Jl k a b n l):l.filter (fun c=>decide (c∈ut k a b))=t6 k a b:=by
 obtain⟨X,rfl,h2,_⟩:=h
 rw[List.filter_append,jQ.mpr fun c hc=>aQ (BR.mp hc),List.filter_eq_nil_iff.mpr fun c hc z=>h2 c hc (BR.mpr (iM z)),cI]
theorem Jl.ln2{k a b n:Nat}{l:List Nat}(h:Jl k a b n l):l.length<=n+2:=by
 obtain⟨X,rfl,_,h3⟩:=h
 have:=BS k a b
 rw[aL];omega
theorem Jl.put{k a b n:Nat}{l:List Nat}(h:Jl k a b n l)(c:Nat)(hc:¬ c∈l):Jl k a b (n+1) (l++[c]):=by
 obtain⟨X,rfl,h2,h3⟩:=h
 refine⟨X++[c],by simp,fun d hd=>?_,by simp;omega⟩
 rcases bB.mp hd with z|z
 ·exact h2 d z
 ·rw[be.mp z];exact fun z=>hc (fI _ z)
theorem Rm{c:Nat}{l:List Nat}{st:List al}:pM true (.str [c]) (.str l) st=.ok (.bl (!decide (c∈l))) st:=rfl
theorem Jm{kvs:List (DK×W)}{P:Nat->Nat->Prop}(hM:NY kvs P){pd c:Nat}{st st1:List al}(hc:st1[pd]?=some (.dct kvs)){fo fe:FE}{ρ:bW}(hi:fo ρ st=.ok (.loc pd) st1)(he:fe ρ st1=.ok (.str [c]) st1):∃x:Nat,jy fo fe (eI 0) ρ st=.ok (.int (x:Nat)) st1:=by
 obtain⟨x,h1,h2⟩:=hM c
 refine⟨x,?_⟩
 have hd:nj st1 (.loc pd)=some (pd,kvs):=by simp only[nj,hc]
 unfold jy
 rw[hi]
 simp only[R.bind_ok,hd]
 rw[he]
 simp only[R.bind_ok,eC]
 rw[hd]
 show R.ok ((mB kvs (DK.s [c])).getD (.int 0)) _=_
 rw[h1]
theorem rF{a b:List al}(h:iQ a)(h2:iQ b):iQ (a++b):=fun d hd=>by
 rcases bB.mp hd with z|z
 ·exact h d z
 ·exact h2 d z
theorem OB(ws:List W):iQ [.lst ws]:=fun d hd c=>by rw[be.mp hd];rfl
theorem Tu(kvs:List (DK×W)):iQ [.dct kvs]:=fun d hd c=>by rw[be.mp hd];rfl
theorem UD:iQ []:=fun d hd=>by cases hd
theorem Rn{fa:FE}{ρ:bW}{st st1:List al}{i:Int}(h:fa ρ st=.ok (.int i) st1):IP fa ρ st=.ok (.int (Builtin.bitNot i)) st1:=by unfold IP;rw[h];rfl
theorem law_ok:EF (sZ tabL) f_q42:=by
 intro ns hn
 suffices hh:iP (wP fun w bu=>w=.bl true) (KS ([W.loc 0].map some++List.replicate (11-1) none) (.ro (ns.map W.int)::sZ tabL)) by
  obtain⟨w,bu,e,rfl⟩:=hh
  exact⟨_,sf e⟩
 have h0:(al.ro (ns.map W.int)::sZ tabL)[0]?=some (.ro (ns.map W.int)):=rfl
 have ht:(al.ro (ns.map W.int)::sZ tabL)[1]?=some NR:=rfl
 have np:iQ (al.ro (ns.map W.int)::sZ tabL):=fun d hd c=>by
  simp only[sZ,tabL,aN,iH,aM,d8,kq]at hd
  rcases hd with rfl|rfl<;>rfl
 generalize (al.ro (ns.map W.int)::sZ tabL:List al)=s0 at h0 ht np
 obtain⟨c0,e0⟩:=oB h0 0
 obtain⟨ds,Sd,hdp,e1⟩:=lU c0 1000003 8 (by omega) s0
 have e1:jO [.int c0,.int 8,.int 1000003] s0=_:=e1
 obtain⟨d0,d1,d2,d3,d4,d5,d6,d7,rfl⟩:∃a b c d e f g h,ds=[a,b,c,d,e,f,g,h]:=by
  match ds,Sd with
  |[a,b,c,d,e,f,g,h],_=>exact⟨_,_,_,_,_,_,_,_,rfl⟩
 refine aB (bg (cR (aC (cR (aC kv (aC cC bG)) e0 rfl) (aC cC (aC cC bG))) e1 rfl)) ?_
 obtain⟨k,a,b,hk,ha,hb,e2'⟩:=Ax (p:=s0.length) (dr:=[d4,d5,d6,d7]) (st:=s0++[.lst ([d0,d1,d2,d3,d4,d5,d6,d7].map W.int)]) (hdp d0 (by simp)) (hdp d1 (by simp)) (hdp d2 (by simp)) (hdp d3 (by simp)) cH
 have h4:=hdp d4 (by simp)
 have h5:=hdp d5 (by simp)
 have hc1:(s0++[al.lst ([d0,d1,d2,d3,d4,d5,d6,d7].map W.int)])[s0.length]?=some (.lst ([d0,d1,d2,d3,d4,d5,d6,d7].map W.int)):=cH
 have h01:(s0++[al.lst ([d0,d1,d2,d3,d4,d5,d6,d7].map W.int)])[0]?=some (.ro (ns.map W.int)):=bX h0
 have ht1:(s0++[al.lst ([d0,d1,d2,d3,d4,d5,d6,d7].map W.int)])[1]?=some NR:=bX ht
 have np1:iQ (s0++[al.lst ([d0,d1,d2,d3,d4,d5,d6,d7].map W.int)]):=rF np (OB _)
 obtain⟨pd,OK⟩:∃pd,pd=s0.length:=⟨_,rfl⟩
 rw[<- OK]at hc1 e2'
 rw[<- OK]
 clear e1
 generalize (s0++[al.lst ([d0,d1,d2,d3,d4,d5,d6,d7].map W.int)])=s1 at *
 refine aB (bg (cR kn e2' rfl)) ?_
 refine aB (bg (bQ kv cC (K5 hk s1))) ?_
 obtain⟨c1,f0⟩:=oB h01 1
 obtain⟨pool,lq,_,_,f1⟩:=IU c1 2000003 4 (by omega) s1
 have f1:tI [.int c1,.int 4,.int 2000003] s1=_:=f1
 have ec:=pD (fi:=eG (da 3 tI (ao (da 2 lT (ao (ah 0) (ao (eI 1) aK))) (ao (eI 4) (ao (eI 2000003) aK))))) (cap:=[none]) (ρ:=[some (.loc 0),some (.loc pd),some (dO k a b),some (.str [a]),none,none,none,none,none,none,none]) (st:=s1) (st1:=s1) (f:=hZ 0) (t:=qE) (el:=ah 0) (fun _=>true) id (mJ (cR (aC (cR (aC kv (aC cC bG)) f0 rfl) (aC cC (aC cC bG))) f1 rfl)) (by rw[f6];show _<=1000000;omega) trivial fun w hw=>⟨_,rfl,rfl,fun _=>d9 rfl⟩
 rw[jQ.mpr fun _ _=>rfl,gc]at ec
 generalize vj:s1++[al.lst (dC pool)]=s2 at ec
 have hc2:s2[pd]?=some (.lst ([d0,d1,d2,d3,d4,d5,d6,d7].map W.int)):=by rw[<- vj];exact bX hc1
 have h02:s2[0]?=some (.ro (ns.map W.int)):=by rw[<- vj];exact bX h01
 have ht2:s2[1]?=some NR:=by rw[<- vj];exact bX ht1
 have np2:iQ s2:=by rw[<- vj];exact rF np1 (OB _)
 have hcs:lstOf s2 s1.length=some (dC pool):=by rw[<- vj];exact bT cH
 clear hc1 e2' f0 f1
 refine dH (fun i ρ s=>∃(l:List Nat) (o4:Option W),ρ=[some (.loc 0),some (.loc pd),some (dO k a b),some (.str l),o4,none,none,none,none,none,none]/\s=s2/\(Jl k a b i l\/(i=0/\k≠1/\l=[a])))
  (k:=((if k=1 then[]else[W.str [b]])++dC pool,none)) (st1:=s2) (oy (bQ (Mz kv (My cC) Mx (N3 hk s1)) (cP (aC ec bG) (lh hcs)) (MF (by rw[aL,f6];show _<=1000000;split<;>simp<;>omega)))) ⟨[a],none,rfl,rfl,?_⟩ (fun _ _ _ _=>trivial) ?_ ?_
 ·by_cases hk1:k=1
  ·exact .inl ⟨[],by unfold t6;rw[aq (.inl hk1)];rfl,by simp,by simp⟩
  ·exact .inr ⟨rfl,hk1,rfl⟩
 ·rintro i w ρ s hw ⟨l,o4,rfl,rfl,hL⟩
  refine⟨_,rfl,?_⟩
  have hi:i<5:=by
   have:=(ai.mp hw).1
   simp only[aL,f6]at this
   split at this<;>simp at this<;>omega
  obtain⟨c,hc,hcb⟩:∃c,w=.str [c]/\(i=0->k≠1->c=b):=by
   by_cases hk1:k=1
   ·rw[aq hk1]at hw
    obtain⟨c,_,rfl⟩:=nY (l:=pool) (by simpa using hw)
    exact⟨c,rfl,fun _ z=>absurd hk1 z⟩
   ·rw[ax hk1]at hw
    cases i with
    |zero=>exact⟨b,(aS hw).symm,fun _ _=>rfl⟩
    |succ i=>
     obtain⟨c,_,rfl⟩:=nY (l:=pool) (i:=i) (by simpa using hw)
     exact⟨c,rfl,fun z=>by omega⟩
  subst hc
  have hll:l.length<=100:=by
   rcases hL with z|⟨_,_,rfl⟩
   ·have:=z.ln2;omega
   ·simp
  have tsq:dv (e2 (pM true) (ah 4) (ah 3)) [some (.loc 0),some (.loc pd),some (dO k a b),some (.str l),some (.str [c]),none,none,none,none,none,none] s=.ok (!decide (c∈l)) s:=cu (bQ kv kv Rm)
  by_cases lX:c∈l
  ·rw[aQ lX]at tsq
   refine kK tsq ⟨_,_,rfl,l,_,rfl,rfl,.inl ?_⟩
   rcases hL with⟨X,h1,h2,h3⟩|⟨i0,hk1,rfl⟩
   ·exact⟨X,h1,h2,by omega⟩
   ·have:=hcb i0 hk1
    subst this
    exact⟨[],by unfold t6;rw[aq (.inr (be.mp lX))];rfl,by simp,by simp⟩
  ·rw[aG lX]at tsq
   refine nS tsq (cS (bg (bQ kv kv (vY (by show _<=1000000;simp;omega)))) ⟨_,_,rfl,l++[c],_,rfl,rfl,.inl ?_⟩)
   rcases hL with z|⟨i0,hk1,rfl⟩
   ·exact z.put c lX
   ·have:=hcb i0 hk1
    subst this
    exact⟨[],by unfold t6;rw[ax (by rintro(z|z);exact hk1 z;exact lX (by rw[z];simp))];rfl,by simp,by simp⟩
 rintro ρ s ⟨l,o4,rfl,rfl,hL⟩
 have hL:Jl k a b 5 l:=by
  rcases hL with⟨X,h1,h2,h3⟩|⟨i0,hk1,_⟩
  ·refine⟨X,h1,h2,bh h3 ?_⟩
   simp only[aL,f6]
   split<;>simp<;>omega
  ·exfalso
   simp only[ax hk1,aL,dU]at i0
   omega
 have hll:=hL.ln2
 obtain⟨ps,S,sz,lk,tr,eg⟩:=F4 h02 2 l (by omega)
 refine aB (bg (cR (aC kv (aC cC kn)) eg rfl)) ?_
 obtain⟨x,⟨A,rfl⟩,el⟩:=C7 tr.g (by have:=tr.l;omega) s
 refine aB (bg (cR kn el rfl)) ?_
 have hpk:(s++[al.lst A,.lst (lk.map iu)])[s.length+1]?=some (.lst (lk.map iu)):=by rw[i7];rfl
 have hc3:(s++[al.lst A,.lst (lk.map iu)])[pd]?=some (.lst ([d0,d1,d2,d3,d4,d5,d6,d7].map W.int)):=bX hc2
 have h03:(s++[al.lst A,.lst (lk.map iu)])[0]?=some (.ro (ns.map W.int)):=bX h02
 have ht3:(s++[al.lst A,.lst (lk.map iu)])[1]?=some NR:=bX ht2
 have np3:iQ (s++[al.lst A,.lst (lk.map iu)]):=by
  have:=rF (rF np2 (OB A)) (OB (lk.map iu))
  rw[bj]at this;exact this
 obtain⟨pk,hpke⟩:∃pk,pk=s.length+1:=⟨_,rfl⟩
 rw[<- hpke]at hpk
 rw[<- hpke]
 clear el eg ec
 generalize (s++[al.lst A,.lst (lk.map iu)])=s3 at *
 have i4:∀y:List al,bO (.loc pd) (.int 4) (s3++y)=.ok (.int d4) (s3++y):=fun y=>nR (bT (bX hc3)) rfl
 have i5:∀y:List al,bO (.loc pd) (.int 5) (s3++y)=.ok (.int d5) (s3++y):=fun y=>nR (bT (bX hc3)) rfl
 have i4':bO (.loc pd) (.int 4) s3=.ok (.int d4) s3:=nR (bT hc3) rfl
 have tl:=tr.l
 refine i8 (fun ρ s'=>∃(qs:List Pl) (y:List al) (o7 o8:Option W),ρ=[some (.loc 0),some (.loc pd),some (dO k a b),some (.str l),o4,some (iz qs),some (.loc pk),o7,o8,none,none]/\s'=s3++y/\iQ y/\qs.map Pl.b=ps.map Pl.b/\∀p∈qs,p.m.length<=51) ?_ ?_
 ·by_cases w0:0<d4%4
  ·refine nS (cu (bQ (bQ (bQ kv cC i4') cC (gr (by decide))) cC (lR (aQ w0)))) ?_
   obtain⟨kvs,hM,ew⟩:=BO (ps:=ps) tl (fun p hp=>by have:=tr.m p hp;omega) s3
   obtain⟨x,ed⟩:=Jm hM (pd:=s3.length) (c:=g9 k a b) (st:=s3) (st1:=s3++[.dct kvs]) (fo:=da 1 tJ (ao (ah 5) aK)) (fe:=e2 bO (ah 2) (uj (eI 1))) (ρ:=[some (.loc 0),some (.loc pd),some (dO k a b),some (.str l),o4,some (iz ps),some (.loc pk),none,none,none,none]) cH (cR kn ew rfl) (bQ kv (ya cC) (Rk hk _))
   obtain⟨z,er⟩:=Gv tr.g tl (k:=k) (a:=a) (b:=b) (pl:=pk) (y:=x) (st:=s3++[.dct kvs]) (bX hpk)
   refine aB (bg (cR (aC kv (aC kv (aC ed bG))) er rfl)) ?_
   refine i8 (fun ρ s'=>∃(z:Int) (y:List al) (o8:Option W),ρ=[some (.loc 0),some (.loc pd),some (dO k a b),some (.str l),o4,some (iz ps),some (.loc pk),some (.int z),o8,none,none]/\s'=s3++y/\iQ y) ?_ ?_
   ·have i4:=i4 [.dct kvs]
    by_cases w1:1<d4%4
    ·refine nS (cu (bQ (bQ (bQ kv cC i4) cC (gr (by decide))) cC (lR (aQ w1)))) ?_
     obtain⟨c9,g0⟩:=oB (st:=s3++[.dct kvs]) (bX h03) 9
     obtain⟨es,hel,hep,g1⟩:=lU c9 4000037 17 (by omega) (s3++[.dct kvs])
     have g1:jO [.int c9,.int 17,.int 4000037] (s3++[.dct kvs])=_:=g1
     have hce:lstOf (s3++[al.dct kvs]++[al.lst (es.map W.int)]) (s3++[al.dct kvs]).length=some (es.map W.int):=bT cH
     refine tP (fun i ρ s'=>∃(z:Int) (o8:Option W),ρ=[some (.loc 0),some (.loc pd),some (dO k a b),some (.str l),o4,some (iz ps),some (.loc pk),some (.int z),o8,none,none]/\s'=s3++[al.dct kvs]++[al.lst (es.map W.int)]) (sh (cR (aC (cR (aC kv (aC cC bG)) g0 rfl) (aC cC (aC cC bG))) g1 rfl) hce) ⟨_,_,rfl,rfl⟩ (fun i ρ s' h=>?_) ?_ ?_
     ·obtain⟨_,_,_,rfl⟩:=h
      exact hce
     ·rintro i w ρ s' hw ⟨z,o8,rfl,rfl⟩
      obtain⟨d,hd,rfl⟩:=aJ.mp (aY hw)
      obtain⟨q,hq,eq⟩:=yU (hep d hd) 99 (by omega)
      have eq:d%99=(q:Int):=eq
      have hm:∀st:List al,gR (.int d) (.int 99) st=.ok (.int (q:Int)) st:=fun st=>by rw[<- eq];exact gr (by decide)
      refine⟨_,rfl,cS (bg (bQ kv (Rn (bQ cC (bQ kv cC (hm _)) (m8 (by omega)))) (gr trivial))) ⟨_,_,rfl,_,_,rfl,rfl⟩⟩
     ·rintro ρ s' ⟨z,o8,rfl,rfl⟩
      exact⟨_,_,rfl,z,[.dct kvs]++[.lst (es.map W.int)],o8,rfl,by rw[bj],rF (Tu kvs) (OB _)⟩
    ·refine kK (cu (bQ (bQ (bQ kv cC i4) cC (gr (by decide))) cC (lR (aG w1)))) ?_
     exact⟨_,_,rfl,z,[.dct kvs],none,rfl,rfl,Tu _⟩
   rintro ρ s' ⟨z,y,o8,rfl,rfl,npy⟩
   refine i8 (fun ρ s'=>∃(z:Int),ρ=[some (.loc 0),some (.loc pd),some (dO k a b),some (.str l),o4,some (iz ps),some (.loc pk),some (.int z),o8,none,none]/\s'=s3++y) ?_ ?_
   ·have i4:=i4 y
    have i5:=i5 y
    have ln:=qT ps (s3++y)
    by_cases w3:d4%4=3
    ·refine nS (cu (bQ (bQ (bQ kv cC i4) cC (gr (by decide))) cC (im (c7.mpr w3)))) ?_
     obtain⟨n,hn1,TB⟩:∃n:Nat,(0<n/\n<=100)/\(if (ps.length:Int)>1 then(ps.length:Int)else 1)=(n:Int):=by
      by_cases z:(ps.length:Int)>1
      ·exact⟨ps.length,by omega,aq z⟩
      ·exact⟨1,by omega,ax z⟩
     obtain⟨q,hq,eq⟩:=yU h5 n hn1.1
     have hm:∀st:List al,gR (.int d5) (.int (n:Int)) st=.ok (.int (q:Int)) st:=fun st=>by rw[<- eq];exact gr (by omega)
     have em:∀st:List al,Cz [.int 1,.int (ps.length:Int)] st=.ok (.int (n:Int)) st:=fun st=>by rw[<- TB];exact Qg
     refine cS (bg (bQ kv (bQ cC (bQ (bQ kv cC i5) (cP (aC cC (aC (cP kn ln) bG)) (em _)) (hm _)) (m8 (by omega))) (gr trivial))) ⟨_,_,rfl,_,rfl,rfl⟩
    ·refine kK (cu (bQ (bQ (bQ kv cC i4) cC (gr (by decide))) cC (im (bd.mpr w3)))) ?_
     exact⟨_,_,rfl,z,rfl,rfl⟩
   rintro ρ s' ⟨z,rfl,rfl⟩
   obtain⟨qs,q1,q2,ed⟩:=AA (ps:=ps) tl tr.m a z (s3++y)
   refine cS (bg (cR (aC kv (aC (bQ kv cC (K5 hk _)) kn)) ed rfl)) ⟨_,_,rfl,qs,y,_,_,rfl,rfl,npy,q1,q2⟩
  ·refine kK (cu (bQ (bQ (bQ kv cC i4') cC (gr (by decide))) cC (lR (aG w0)))) ?_
   exact⟨_,_,rfl,ps,[],none,none,rfl,by simp,UD,rfl,fun p hp=>by have:=tr.m p hp;omega⟩
 rintro ρ s' ⟨qs,y,o7,o8,rfl,rfl,npy,hqb,hqm⟩
 have gq:Gr qs S sz lk:=tr.g.bs hqb
 have hql:qs.length=ps.length:=by have:=cM List.length hqb;simpa using this
 have hpk4:(s3++y)[pk]?=some (.lst (lk.map iu)):=bX hpk
 have ht4:(s3++y)[1]?=some NR:=bX ht3
 have np4:iQ (s3++y):=rF np3 npy
 generalize s3++y=s4 at *
 obtain⟨us,hul,hu,eu⟩:=yX gq (by omega) hpk4
 obtain⟨kvs,hM,ew⟩:=BO (ps:=qs) (by omega) (fun p hp=>by have:=hqm p hp;omega) (s4++[.lst (nW us)])
 have hpk5:(s4++[al.lst (nW us)]++[.dct kvs])[pk]?=some (.lst (lk.map iu)):=bX (bX hpk4)
 have hpu5:(s4++[al.lst (nW us)]++[.dct kvs])[s4.length]?=some (.lst (nW us)):=bX cH
 have hpd5:(s4++[al.lst (nW us)]++[.dct kvs])[(s4++[al.lst (nW us)]).length]?=some (.dct kvs):=cH
 have np5:iQ (s4++[al.lst (nW us)]++[.dct kvs]):=rF (rF np4 (OB _)) (Tu _)
 have ht5:(s4++[al.lst (nW us)]++[.dct kvs])[1]?=some NR:=bX (bX ht4)
 obtain⟨x,y',z,hx,hy,hz,ep⟩:=Dd gq (by omega) hul (a:=a) (b:=b) hk hM hpk5 hpu5 hpd5
 refine aB (bg (cR (aC kv (aC kv (aC (cR kn eu rfl) (aC (cR kn ew rfl) bG)))) ep rfl)) ?_
 have due:=Df gq tr.t (us:=us) hk hu hx hy hz
 rw[<- due]
 clear ep ew eu
 generalize s4++[al.lst (nW us)]++[al.dct kvs]=s5 at *
 have eb:=Jf hk ha hb np5 ht5
 rw[Ts hk a b]at eb
 have hMk:=Gp hk a b
 have h1:1<=oI k:=by have:=Az k;omega
 have h3:oI k<=1000:=by unfold oI;split<;>omega
 refine aB (bg (cR kn eb rfl)) ?_
 generalize hlt:C_ (vh k a b) qs lk=due' at *
 have ecn:=pD (fi:=eG (ah 3)) (cap:=[none,some 2]) (ρ:=[some (.loc 0),some (.loc pd),some (dO k a b),some (.str l),o4,some (iz qs),some (.loc pk),o7,o8,some (.bl due'),some (vh k a b).w]) (st:=s5) (st1:=s5) (f:=hZ 0) (t:=dv (e2 (pM false) (ah 0) (Dx (ah 1) (ng (eI 1)) nL))) (el:=ah 0) (fun w=>match w with|.str [c]=>decide (c∈ut k a b)|_=>false) id (mJ kv) (by rw[f6];show _<=1000000;omega) trivial fun w hw=>by
  obtain⟨c,hc,rfl⟩:=aJ.mp hw
  exact⟨_,rfl,cu (bQ kv (Mz kv (My cC) Mx (N2 hk s5)) (Jk s5)),fun _=>d9 rfl⟩
 have e:((dC l).filter (fun w=>match w with|.str [c]=>decide (c∈ut k a b)|_=>false)).map id=((t6 k a b).map fun c=>[c]).map W.str:=by
  rw[gc]
  unfold dC
  rw[jL,a8,<- hL.fil];rfl
 rw[e]at ecn
 have Sd:=BS k a b
 have hso:=qe (st:=s5++[.lst (((t6 k a b).map fun c=>[c]).map W.str)]) (n:=s5.length) (ls:=(t6 k a b).map fun c=>[c]) (bT cH) (by rw[ar];omega)
 have hsl:=(dX ((t6 k a b).map fun c=>[c])).length_eq
 have hss:((fA ((t6 k a b).map fun c=>[c])).map List.length).sum=(t6 k a b).length:=by rw[nX (dX _),tN]
 rw[ar]at hsl
 have hj:=qK (sep:=[]) (st:=s5++[.lst (((t6 k a b).map fun c=>[c]).map W.str)]++[.lst ((fA ((t6 k a b).map fun c=>[c])).map W.str)]) (n:=(s5++[al.lst (((t6 k a b).map fun c=>[c]).map W.str)]).length) (ls:=fA ((t6 k a b).map fun c=>[c])) (bT cH) (by rw[hss];show _<=1000000;simp;omega)
 rw[Tt]at hj
 have hnl:=Gb k a b
 refine a9 (nQ (a:=true) (cu (cR (aC kv (aC (z9 cC rfl (aC (cP (aC ecn bG) hso) bG) hj) bG)) (Jj hMk h1 h3 (by show(t5 k a b).length<=20;omega) _) rfl)) rfl) (br ?_)
 have el1:=fun st=>I_ gq (by omega) hMk h1 st
 have el2:=fun st=>Gs gq (by omega) hMk h1 st
 rw[hlt]at el1 el2
 exact bM (ou (cR (aC (cR (aC kv kn) (el1 _) rfl) kn) (KU due' _) rfl) (cR (aC (cR (aC kv kn) (el2 _) rfl) kn) (KU due' _) rfl)) ⟨_,_,rfl,rfl⟩
theorem all_mk{l:PySem.W.OpenLaw}{w:World}{K:Frag}{h:Heap}{mg:Str->Option Value}{fa:Addr}(X:K.In h)(G:h.Ns mainGlobals mg)(UE:mg "law"=some (.ref fa))
  {AW AQ:Addr} {N9 N' N6 GK:Option Addr} {Oj Od:Array (Option Value)} {Ol Oh Om Op Oa N_ GZ GA GB AX GD:Value} {mN:Addr} {kh:Addr} {rW:Option Addr} {rY:Array (Option Value)} {rX:Nat} {qX qY qZ qW:Tok} {q0:Addr} {AK:Option Addr} {AS:Array (Option Value)} {AC:Nat} {y_ zf:Tok}
  (AM:DefIn K "in_order" MK)
  (GU:DefIn K "two_to" ML)
  (yZ:DefIn K "letter_of" MM)
  (AI:DefIn K "marks_of" MN)
  (AR:DefIn K "table_by" MO)
  (AU:DefIn K "is_plain" MP)
  (AV:DefIn K "inner_of" MQ)
  (AL:DefIn K "names_of" MR)
  (Di:DefIn K "in_room" MT)
  (AG:DefIn K "one_room" MU)
  (y7:DefIn K "side_room" E1)
  (wJ:DefIn K "below_room" E2)
  (y6:DefIn K "base_room" E3)
  (AH:DefIn K "has_left" E4)
  (zd:DefIn K "has_right" E5)
  (AF:DefIn K "links_of" E6)
  (wL:DefIn K "room_below" E7)
  (Do:DefIn K "room_at" E8)
  (AN:DefIn K "rooms_of" E_)
  (Dk:DefIn K "room_of" Fa)
  (Dl:DefIn K "lets_by" Fb)
  (wI:DefIn K "_law_under" Fc)
  (wN:DefIn K "_law_mixed" Fd)
  (wE:DefIn K "_law_draws" Ff)
  (y9:DefIn K "_law_cell" Fg)
  (tX:DefIn K "_law_plainly" Fh)
  (zj:DefIn K "_law_pool" Fi)
  (wK:DefIn K "_law_marks" Fj)
  (zg:DefIn K "_law_wood" Fk)
  (uu:DefIn K "_law_blocks" Fl)
  (wM:DefIn K "_law_grove" Fm)
  (wH:DefIn K "_law_links" Fp)
  (zl:DefIn K "_law_worn" Fq)
  (tV:DefIn K "_law_dressed" Fs)
  (wD:DefIn K "_law_plain" Ft)
  (y4:DefIn K "_law_fits" Fu)
  (zi:DefIn K "_law_same" Fv)
  (uv:DefIn K "_law_letter" Fy)
  (AY:DefIn K "_law_run" Fz)
  (zh:DefIn K "_law_lets" FB)
  (wG:DefIn K "_law_reach" FC)
  (RH:nsIn K mainGlobals "base_of"=some (some (.ref AW)))
  (RC:K.lookup AW=some ⟨Ol,N9,.func (fnOf "base_of" "base_of" (eK tu) (ef tu) (aI tu) .none Oh Om Op N' (.ref mN) Oa),Oj⟩)
  (Dn:codeIn K (.ref mN) "base_of"=true)
  (RF:keepIn K (.ref AW)=true)
  (tc_base_of:codeHdIn K mN 107=true)
  (tk_base_of:K.lookup 107=none)
  (K6:nsIn K mainGlobals "law"=some (some (.ref AQ)))
  (RA:K.lookup AQ=some ⟨N_,N6,.func (fnOf "law" "law" (eK qb) (ef qb) (aI qb) .none GZ GA GB GK AX GD),Od⟩)
  (Dh:codeIn K AX "law"=true)
  (RO:keepIn K (.ref AQ)=true)
  (Oi:nsIn K mainGlobals "bool"=some none)
  (yY:nsIn K mainGlobals "enumerate"=some none)
  (RL:nsIn K mainGlobals "int"=some none)
  (wF:nsIn K mainGlobals "isinstance"=some none)
  (Rw:nsIn K mainGlobals "len"=some none)
  (Rs:nsIn K mainGlobals "max"=some none)
  (Rq:nsIn K mainGlobals "min"=some none)
  (Jq:nsIn K mainGlobals "range"=some none)
  (AO:nsIn K mainGlobals "reversed"=some none)
  (RD:nsIn K mainGlobals "set"=some none)
  (GS:nsIn K mainGlobals "sorted"=some none)
  (Rz:nsIn K mainGlobals "str"=some none)
  (Jt:nsIn K mainGlobals "tuple"=some none)
  (RE:nsIn K mainGlobals "zip"=some none)
  (tQ:nsIn K mainGlobals "TWO_LETTERED"=some (some (.ref kh)))
  (tW:K.lookup kh=some ⟨.type "tuple",rW,.seq #[.str "in" qX,.str "left" qY,.str "right" qZ,.str "below" qW] rX,rY⟩)
  (Dm:nsIn K mainGlobals "BINDING"=some (some (.ref q0)))
  (Dj:K.lookup q0=some ⟨.type "tuple",AK,.seq #[.str "some" y_,.str "all" zf] AC,AS⟩) :
  ∃fd:FuncData,(∀(s:Shared) (v:Value),BindsTo s fd ⟨[v],[]⟩ [("_law_script",v)])/\∀base:Heap,K.In base->base.Ns mainGlobals mg->vS base mg->dE l.prog w K mg base (iC l.prog w) 44 fa fd FD (jr K mg 1 f_q42):=by
 have e:=UE.symm.trans (mg_of X G K6)
 cases e
 obtain⟨_,_,F_q0,m_q0⟩:=AM.fn X G
 obtain⟨_,_,F_q1,m_q1⟩:=GU.fn X G
 obtain⟨_,_,F_q2,m_q2⟩:=yZ.fn X G
 obtain⟨_,_,F_q3,m_q3⟩:=AI.fn X G
 obtain⟨_,_,F_q4,m_q4⟩:=AR.fn X G
 obtain⟨_,_,F_q5,m_q5⟩:=AU.fn X G
 obtain⟨_,_,F_q6,m_q6⟩:=AV.fn X G
 obtain⟨_,_,Dg,GF⟩:=AL.fn X G
 obtain⟨_,_,F_q8,m_q8⟩:=Di.fn X G
 obtain⟨_,_,F_q9,m_q9⟩:=AG.fn X G
 obtain⟨_,_,F_q10,m_q10⟩:=y7.fn X G
 obtain⟨_,_,F_q11,m_q11⟩:=wJ.fn X G
 obtain⟨_,_,F_q12,m_q12⟩:=y6.fn X G
 have F_q13:=zB (st:=tu) RC Dn RF
 have m_q13:=mg_of X G RH
 obtain⟨_,_,F_q14,m_q14⟩:=AH.fn X G
 obtain⟨_,_,F_q15,m_q15⟩:=zd.fn X G
 obtain⟨_,_,F_q16,m_q16⟩:=AF.fn X G
 obtain⟨_,_,F_q17,m_q17⟩:=wL.fn X G
 obtain⟨_,_,F_q18,m_q18⟩:=Do.fn X G
 obtain⟨_,_,F_q19,m_q19⟩:=AN.fn X G
 obtain⟨_,_,F_q20,m_q20⟩:=Dk.fn X G
 obtain⟨_,_,F_q21,m_q21⟩:=Dl.fn X G
 obtain⟨_,_,F_q22,m_q22⟩:=wI.fn X G
 obtain⟨_,_,F_q23,m_q23⟩:=wN.fn X G
 obtain⟨_,_,F_q24,m_q24⟩:=wE.fn X G
 obtain⟨_,_,F_q25,m_q25⟩:=y9.fn X G
 obtain⟨_,_,F_q26,m_q26⟩:=tX.fn X G
 obtain⟨_,_,F_q27,m_q27⟩:=zj.fn X G
 obtain⟨_,_,F_q28,m_q28⟩:=wK.fn X G
 obtain⟨_,_,F_q29,m_q29⟩:=zg.fn X G
 obtain⟨_,_,F_q30,m_q30⟩:=uu.fn X G
 obtain⟨_,_,F_q31,m_q31⟩:=wM.fn X G
 obtain⟨_,_,F_q32,m_q32⟩:=wH.fn X G
 obtain⟨_,_,F_q33,m_q33⟩:=zl.fn X G
 obtain⟨_,_,F_q34,m_q34⟩:=tV.fn X G
 obtain⟨_,_,F_q35,m_q35⟩:=wD.fn X G
 obtain⟨_,_,F_q36,m_q36⟩:=y4.fn X G
 obtain⟨_,_,vm,zk⟩:=zi.fn X G
 obtain⟨_,_,F_q38,m_q38⟩:=uv.fn X G
 obtain⟨_,_,F_q39,m_q39⟩:=AY.fn X G
 obtain⟨_,_,F_q40,m_q40⟩:=zh.fn X G
 obtain⟨_,_,F_q41,m_q41⟩:=wG.fn X G
 have F_q42:=zB (st:=qb) RA Dh RO
 have m_q42:=mg_of X G K6
 have B:Bl mg:=⟨mg_none_of X G Oi,mg_none_of X G yY,mg_none_of X G RL,mg_none_of X G wF,mg_none_of X G Rw,mg_none_of X G Rs,mg_none_of X G Rq,mg_none_of X G Jq,mg_none_of X G AO,mg_none_of X G RD,mg_none_of X G GS,mg_none_of X G Rz,mg_none_of X G Jt,mg_none_of X G RE⟩
 have Gg:Gc K mg:=⟨⟨_,.ref kh,mg_of X G tQ,rfl,fun μ H=>.tupI (vs:=[V.str (tx [105,110]),V.str (tx [108,101,102,116]),V.str (tx [114,105,103,104,116]),V.str (tx [98,101,108,111,119])]) (.inr ⟨_,_,_,tW,rfl,rfl,by show 4<=sizeLine;decide,.cons ⟨_,by rw[show Str.ofString "in"=tx [105,110]from by decide +kernel]⟩ (.cons ⟨_,by rw[show Str.ofString "left"=tx [108,101,102,116]from by decide +kernel]⟩ (.cons ⟨_,by rw[show Str.ofString "right"=tx [114,105,103,104,116]from by decide +kernel]⟩ (.cons ⟨_,by rw[show Str.ofString "below"=tx [98,101,108,111,119]from by decide +kernel]⟩ (.nil))))⟩) (.consI .str (.consI .str (.consI .str (.consI .str (.nilI)))))⟩,⟨_,.ref q0,mg_of X G Dm,rfl,fun μ H=>.tupI (vs:=[V.str (tx [115,111,109,101]),V.str (tx [97,108,108])]) (.inr ⟨_,_,_,Dj,rfl,rfl,by show 2<=sizeLine;decide,.cons ⟨_,by rw[show Str.ofString "some"=tx [115,111,109,101]from by decide +kernel]⟩ (.cons ⟨_,by rw[show Str.ofString "all"=tx [97,108,108]from by decide +kernel]⟩ (.nil))⟩) (.consI .str (.consI .str (.nilI)))⟩⟩
 refine⟨fnOf "law" "law" (eK qb) (ef qb) (aI qb) .none GZ GA GB GK AX GD,fun s v=>.of_eq rfl,fun base _ _ Bk=>?_⟩
 have G6:bK l.prog w K mg base 1 "in_order" 1 C3:=cL F_q0 m_q0 (Qx F_q0 B)
 have Os:bK l.prog w K mg base 1 "two_to" 1 FF:=cL F_q1 m_q1 (Qz F_q1 B)
 have N5:bK l.prog w K mg base 1 "letter_of" 2 FH:=cL F_q2 m_q2 (QC F_q2)
 have AJ:bK l.prog w K mg base 1 "marks_of" 2 Am:=cL F_q3 m_q3 (QF F_q3 B)
 have GY:bK l.prog w K mg base 1 "below_room" 4 yt:=cL F_q11 m_q11 (M6 F_q11)
 have Of:bK l.prog w K mg base 1 "in_room" 4 FJ:=cL F_q8 m_q8 (QJ F_q8)
 have On:bK l.prog w K mg base 1 "one_room" 3 FK:=cL F_q9 m_q9 (QL F_q9 B)
 have BU:bK l.prog w K mg base 1 "side_room" 4 u8:=cL F_q10 m_q10 (M7 F_q10)
 have tR:bK l.prog w K mg base 2 "base_room" 4 tF:=cL F_q12 m_q12 (M8 F_q12   GY Of On BU)
 have jC:=pI (P:=l.prog) (w:=w) (base:=base)  tR AJ
 have Ot:bK l.prog w K mg base 4 "table_by" 3 FL:=cL F_q4 m_q4 (QN F_q4 B jC tR AJ)
 have AE:bK l.prog w K mg base 1 "is_plain" 1 An:=cL F_q5 m_q5 (QP F_q5 Gg)
 have Jr:bK l.prog w K mg base 2 "inner_of" 1 IT:=cL F_q6 m_q6 (QQ F_q6 Gg  AE)
 have GR:=FM (P:=l.prog) (w:=w) (base:=base) Dg GF Gg G6 Jr AE 40
 have GM:bK l.prog w K mg base 43 "base_of" 1 yu:=cL F_q13 m_q13 (M9 F_q13 ⟨mN,rfl,tc_base_of,tk_base_of⟩ Bk B  tR AJ GR Ot Os)
 have G1:bK l.prog w K mg base 1 "has_left" 1 qc:=cL F_q14 m_q14 (M_ F_q14)
 have GH:bK l.prog w K mg base 1 "has_right" 1 qd:=cL F_q15 m_q15 (M' F_q15)
 have GI:bK l.prog w K mg base 2 "links_of" 1 yv:=cL F_q16 m_q16 (Na F_q16 B  G1 GH)
 have BX:bK l.prog w K mg base 1 "room_below" 2 u9:=cL F_q17 m_q17 (Nb F_q17)
 have GV:bK l.prog w K mg base 2 "room_at" 4 yw:=cL F_q18 m_q18 (Nc F_q18   N5 BX)
 have G5:bK l.prog w K mg base 3 "rooms_of" 2 yx:=cL F_q19 m_q19 (Nd F_q19 B  GI GV)
 have GX:bK l.prog w K mg base 4 "room_of" 2 yy:=cL F_q20 m_q20 (Nf F_q20 B  G5)
 have G0:bK l.prog w K mg base 5 "lets_by" 2 yz:=cL F_q21 m_q21 (Ng F_q21   GX)
 have vn:bK l.prog w K mg base 1 "_law_under" 1 tH:=cL F_q22 m_q22 (Nh F_q22)
 have GN:bK l.prog w K mg base 1 "_law_mixed" 3 u_:=cL F_q23 m_q23 (Ni F_q23)
 have kM:bK l.prog w K mg base 2 "_law_draws" 3 jO:=cL F_q24 m_q24 (Nj F_q24 B  GN)
 have nr:bK l.prog w K mg base 1 "_law_cell" 2 lT:=cL F_q25 m_q25 (Nl F_q25 B)
 have GW:bK l.prog w K mg base 1 "_law_plainly" 1 yA:=cL F_q26 m_q26 (Nm F_q26)
 have GE:bK l.prog w K mg base 3 "_law_pool" 3 tI:=cL F_q27 m_q27 (Nn F_q27 B  kM)
 have BV:bK l.prog w K mg base 1 "_law_marks" 2 va:=cL F_q28 m_q28 (No F_q28 B)
 have GL:bK l.prog w K mg base 2 "_law_wood" 3 yB:=cL F_q29 m_q29 (Np F_q29 B  BV)
 have Gy:bK l.prog w K mg base 3 "_law_blocks" 4 yC:=cL F_q30 m_q30 (Nq F_q30 B  nr kM)
 have GP:bK l.prog w K mg base 4 "_law_grove" 3 yD:=cL F_q31 m_q31 (Nr F_q31   Gy nr kM GL)
 have GT:bK l.prog w K mg base 1 "_law_links" 1 yE:=cL F_q32 m_q32 (Nt F_q32 B)
 have BY:bK l.prog w K mg base 1 "_law_worn" 1 tJ:=cL F_q33 m_q33 (Nu F_q33 B)
 have G4:bK l.prog w K mg base 1 "_law_dressed" 3 yF:=cL F_q34 m_q34 (Nv F_q34 B)
 have GG:bK l.prog w K mg base 1 "_law_plain" 4 yG:=cL F_q35 m_q35 (Nw F_q35 B)
 have GC:bK l.prog w K mg base 1 "_law_fits" 2 yH:=cL F_q36 m_q36 (Nx F_q36 B)
 have vk:=BF (P:=l.prog) (w:=w) (base:=base) vm zk B  40
 have G7:bK l.prog w K mg base 1 "_law_letter" 2 vb:=cL F_q38 m_q38 (Ny F_q38 B)
 have G9:bK l.prog w K mg base 2 "_law_run" 2 yJ:=cL F_q39 m_q39 (Nz F_q39   G7)
 have Gz:bK l.prog w K mg base 3 "_law_lets" 2 yK:=cL F_q40 m_q40 (NA F_q40 B  G9)
 have G3:bK l.prog w K mg base 2 "_law_reach" 3 yL:=cL F_q41 m_q41 (NB F_q41 B  vn)
 exact NC F_q42 B  nr kM G4 GC GP Gz GT GG GW GE G3 vk vn BY GM G0
end P
end
namespace PySem.W.Fast
def tw5278917872695770942:=0
def tw10293619571181709212:=0
def tw11035869722359533531:=0
def tw14881968771918525146:=0
def tw14993989895630477881:=0
def tw1789175029068375415:=0
def tw15796689353161355926:=0
def tw3991262200804377961:=0
def tw8457358642935558920:=0
def tw5464776260688699750:=0
def tw11058662745501199108:=0
def tw17293430307144444867:=0
def tw6166261268746512769:=0
def tw994320088278402666:=0
def tw15191046865748878431:=0
def tw10732937830132650266:=0
def tw7964346458109846883:=0
def tw18305206322382787429:=0
def tw8265033671259319086:=0
def tw9207281950968103623:=0
def tw13741214446118251617:=0
def tw7610380895704322507:=0
def tw677662092041686439:=0
def tw5950016110244978451:=0
def tw15346212543963574880:=0
def tw813656654519507945:=0
def tw9601587069035495164:=0
def tw17701377062826112900:=0
def tw7110737918373508216:=0
def tw18093553431671031831:=0
def tw10750884632023779077:=0
def tw13361121857017703252:=0
def tw4135105952108358734:=0
def tw12353681030972146734:=0
def tw123057809300372373:=0
def tw17525969684021063348:=0
def tw11316822903897865970:=0
def tw1478216362092591155:=0
def tw8099664813375115423:=0
def tw16721176560904815516:=0
def tw9024907156274230748:=0
def tw15771524533222716327:=0
def tw11060315565880094950:=0
def tw11609608791870127091:=0
def tw4927780679788079406:=0
def tw10256372950052767000:=0
def tw12811398805734196825:=0
def tw5238765230122887804:=0
def tw10371014690010600014:=0
def tw210407912575215347:=0
def tw12454591465515557620:=0
def tw9242386380451567744:=0
def tw16683445304645203639:=0
def tw3263922347745566638:=0
def tw430594678097248849:=0
def tw7060020866958332037:=0
def tw14586582776925620089:=0
def tw12929397489380562692:=0
def tw17069316915982473127:=0
def tw16347639092325766519:=0
def tw1161566363301640716:=0
def tw16606041864373193071:=0
def tw4025186831333361130:=0
def tw12014179462126452003:=0
def tw18408888694754802716:=0
def tw1928785737655171907:=0
def tw5558205891642958508:=0
def tw14671981744981806253:=0
def tw12599257983530860287:=0
def tw489583725827144586:=0
def tw17245061489987038590:=0
def tw13356609051870508946:=0
def tw7905704210103715662:=0
def tw8851903795873027671:=0
def tw2024365339559432342:=0
def tw16025011006457895791:=0
def tw12109390697570124078:=0
def tw5201218092307153647:=0
def tw2023251033030348699:=0
def tw5716623691788590483:=0
def tw2545966642961035674:=0
def tw5453384081251790861:=0
def tw8391471087399827499:=0
def tw16237800080535171744:=0
def tw5689008291810610630:=0
def tw3505007392804020054:=0
def tw16458281338230099195:=0
def tw14813600830168797021:=0
def tw16433786676146341669:=0
def tw2744230994457838821:=0
def tw9720607401949815700:=0
def tw11396438137047655340:=0
def tw13054161615289076294:=0
def tw7816931460737781089:=0
def tw3345125317976585771:=0
def tw7930383386109390495:=0
def tw1186031532500583743:=0
def tw3645980356725762634:=0
def tw4019428189766670681:=0
def tw2691113639932568983:=0
def tw13661406244932716410:=0
def tw3141380339031352064:=0
def tw17184132432752176181:=0
def tw1325547939269312591:=0
def tw314374278793910032:=0
def tw13786434933856369349:=0
def tw425295183287127393:=0
def tw11964786626454049449:=0
def tw2189732796117363279:=0
def tw1610634255081033033:=0
def tw17547706358556197342:=0
def tw6902407523641654414:=0
def tw11528720453791555193:=0
def tw9640175589736889588:=0
def tw18440060292026694559:=0
def tw16454535721956659338:=0
def tw574259985948348474:=0
def tw3966749081540867033:=0
def tw15953850344406040742:=0
def tw14273152782825843019:=0
def tw18069753992228015399:=0
def tw922665568514445334:=0
def tw5023667766350876127:=0
def tw4957618122450812633:=0
def tw12349752824115059885:=0
def tw271015891303504384:=0
def tw7014719651512490707:=0
def tw16438909417557602482:=0
def tw1152795695691851296:=0
def tw17599647592566575031:=0
def tw5854580989986476181:=0
def tw2758335042016528015:=0
def tw2711811087593540971:=0
def tw16036252689286630194:=0
def tw1458800286871786976:=0
def tw14083876168122656060:=0
def tw11892560788400173207:=0
def tw7505969279927925466:=0
def tw1402208499487783239:=0
def tw11029965023864658976:=0
def tw11057201307155175767:=0
def tw11822365749866104720:=0
def tw9581463855563525201:=0
def tw3655881777662671105:=0
def tw14554722888110679702:=0
def tw11536496308451760946:=0
def tw16947872051625511728:=0
def tw16582209717839997772:=0
def tw100208650852737205:=0
def tw5478528973068736410:=0
def tw15005386439383960020:=0
def tw12872667036840590877:=0
def tw5549070906270493940:=0
def tw3527484965614416536:=0
def tw14831101625239442230:=0
def tw11658393990437060686:=0
def tw10568501165419330576:=0
def tw7202752611543047716:=0
def tw5921289729114115485:=0
def tw15931381226280264791:=0
def tw13609036912184971745:=0
def tw2038381082037642417:=0
def tw9891167399201119227:=0
def tw1845247918442904969:=0
def tw14642356361737613713:=0
def tw9506982778661989212:=0
def tw3509480751325949811:=0
def tw7610536900483850492:=0
def tw2024573457238223787:=0
def tw13481222355300946704:=0
def tw14243142639679218128:=0
def tw9229147134924824079:=0
def tw15146645017418240316:=0
def tw9409568682294583068:=0
def tw5958852157579981000:=0
def tw10420608711704988784:=0
def tw16415856742258513143:=0
def tw2077348007219858447:=0
def tw12391751206499286355:=0
def tw7094014626110361112:=0
def tw2044148606325017722:=0
def tw14041262026011866605:=0
def tw12673914223198820490:=0
def tw18298159019813854250:=0
def tw13422807595682865603:=0
def tw8611364642229395296:=0
def tw636558803093905902:=0
def tw2818625140663585775:=0
def tw11169607858843441982:=0
def tw10577958922436158325:=0
def tw5024070776500207949:=0
def tw9073479511410250632:=0
def tw9013511059684718990:=0
def tw8923375941219435354:=0
def tw8911187400379084406:=0
def tw8910489392571606872:=0
def tw8884443224546195025:=0
def tw8492663400125278722:=0
def tw788320093927232935:=0
def tw6422796427475470103:=0
def tw6337691552348801627:=0
def tw5971868220126129071:=0
def tw5642295363944210128:=0
def tw5589782140856464389:=0
def tw4942922455234138502:=0
def tw4920850861256666062:=0
def tw4799406714655060103:=0
def tw4688245422782413827:=0
def tw4618443998128181882:=0
def tw4563226460232652047:=0
def tw4527463567368627875:=0
def tw4412634756032209778:=0
def tw4361313058416598729:=0
def tw4066010271971036730:=0
def tw3854229030069482600:=0
def tw3297794242211869687:=0
def tw3042534822818185087:=0
def tw3006133058811932653:=0
def tw2749669961635614545:=0
def tw2729772593455696133:=0
end PySem.W.Fast
open PySem PySem.W PyProof.Rows
set_option maxRecDepth 100000 in
set_option maxHeartbeats 0 in
theorem PySem.Challenge.cw_trunksay_k20_bases_say_it_holds : PySem.Challenge.rw_trunksay_k20_bases_say_it.Holds := by
 w_on; o_law; k_head; (case hw => w_witness2)
 k_fill
 refine L2.walkT (l := PySem.Challenge.rw_trunksay_k20_bases_say_it) (k := 44) (x := "_law_script") (G := P.f_q42) P.tabL (by decide) rfl rfl ⟨rfl, by decide, by decide⟩ (fun w h Y => PySem.W.km_in_of Y) (fun w h Y T hT => PySem.W.km_tabs_of Y T hT) (fun w T hT => ?KT) (fun w T hT => ?CT) ?F P.law_ok
 case KT =>
  simp only [P.tabL, aN, iH, aM, d8, kq] at hT
  rcases hT with rfl
  ·kernel_rfl
 case CT =>
  simp only [P.tabL, aN, iH, aM, d8, kq] at hT
  rcases hT with rfl
  ·exact ⟨109, by kernel_rfl⟩
 case F =>
  intro w mg fa h KX G hmg
  refine' P.all_mk KX G hmg ?_ ?_ ?_ ?_ ?_ ?_ ?_ ?_ ?_ ?_ ?_ ?_ ?_ ?_ ?_ ?_ ?_ ?_ ?_ ?_ ?_ ?_ ?_ ?_ ?_ ?_ ?_ ?_ ?_ ?_ ?_ ?_ ?_ ?_ ?_ ?_ ?_ ?_ ?_ ?_ ?_ ?_ ?_ ?_ ?_ ?tc_base_of ?tk_base_of ?_ ?_ ?_ ?_ ?_ ?_ ?_ ?_ ?_ ?_ ?_ ?_ ?_ ?_ ?_ ?_ ?_ ?_ ?_ ?_ ?_ ?_
  any_goals (refine' L2.DefIn.mk ?a ?l ?c ?k; (case a => k_is); (case l => k_is); (case c => k_is); (case k => k_is))
  any_goals k_is
  (case tc_base_of => kernel_rfl)
  (case tk_base_of => kernel_rfl)
