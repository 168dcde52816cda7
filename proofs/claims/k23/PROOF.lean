import PyProof.Rows.All
import Wide.All
import OpenK.AllK
import Wide.FinOn
import Lean
import PyProof.EqAt
import PyProof.EqKinds
import PyProof.TupleCall
import PyProof.StrLawsIn
import PyProof.StationsW
import PyProof.NeData
import OpenK.KOwn
import PyProof.NsDelKeeps
import PyProof.ExcArgsOwn
import PyProof.ExcAttrAll.ValueError
import PyProof.IsiH_tuple
import KE.KIsAll
import PyProof.CollectStr
import PyProof.ZipIter
import PyProof.Rows.ZipGen
import PyProof.JoinWalk
import PyProof.CollectIter
import PyProof.EnumMake
import PyProof.SumAny
import PySem.Challenge.RW_trunksay_k23_first_trees
set_option Elab.async false
set_option linter.all false
set_option maxRecDepth 100000
def aa:=@List.getElem?_eq_some_iff
def ae:=@List.getElem?_eq_getElem
def ak:=@PySem.wpAny_bind
def al:=@List.prefix_refl
def aq:=@Nat.le_of_ble_eq_true
def ar:=@PySem.Heap.get?_push_of_some
def av:=@List.getElem?_append_left
def ax:=@List.getElem?_map
def ay:=@Nat.le_refl
def az:=@List.length_map
def aA:=@List.mem_of_getElem?
def aB:=@if_pos
def aC:=@List.prefix_append
def aE:=@if_neg
def aG:=@List.getD_eq_getElem?_getD
def aI:=@PySem.Heap.lt_size
def aJ:=@PySem.wpAny_pure
def aK:=@List.length_append
def aL:=@List.mem_map
def aM:=@List.mem_append_right
def aN:=@List.getElem?_take_of_lt
def aQ:=@List.getElem?_set_ne
def aR:=@PySem.Heap.get?_push_size
def aS:=@beq_eq_false_iff_ne
def aT:=@List.map_cons
def aU:=@decide_eq_false
def aV:=@Nat.lt_of_lt_of_le
def aX:=@List.size_toArray
def aY:=@List.append_assoc
def aZ:=@Option.some.inj
def a6:=@Int.toNat_natCast
def a7:=@Nat.le_trans
def a8:=@List.mem_cons
def a9:=@List.mem_append
def a_:=@decide_eq_true
def ba:=@List.getElem?_set_self
def bb:=@List.length_take
def be:=@Nat.ne_of_lt
def bf:=@List.length_cons
def bi:=@List.mem_range
def bj:=@List.length_range
def bn:=@List.getElem?_concat_length
def bo:=@Nat.lt_irrefl
def bq:=@List.getElem?_range
def br:=@List.getElem?_of_mem
def bu:=@List.map_append
def bx:=@List.map_map
def bz:=@Nat.not_lt_zero
def bB:=@PySem.boot_len
def bL:=@Bool.and_true
def bO:=@List.getElem?_eq_none
def bU:=@List.mem_singleton
def bV:=@PyProof.Rows.boot_tuple
def bZ:=@decide_eq_true_iff
def b_:=@Nat.zero_le
def ce:=@List.map_congr_left
def cq:=@Bool.and_eq_true
def cv:=@List.mem_cons_of_mem
def cw:=@PySem.wpAny_newObj_type
def cx:=@Nat.lt_or_ge
def cz:=@beq_iff_eq
def cD:=@List.mem_filter
def cE:=@PySem.wpAny_loadPart'
def cH:=@PySem.wpAny_mono
def cI:=@List.filter_cons
def cL:=@List.take_of_length_le
def cP:=@List.append_nil
def cQ:=@List.length_nil
def cW:=@PyProof.Rows.callWith_type1
def cX:=@PySem.wpAny_callSpecial?_slot
def c8:=@List.range_succ
def c_:=@List.map_nil
def dA:=@List.mem_cons_self
def dB:=@List.pairwise_cons
def dF:=@List.mem_append_left
def dG:=@PySem.wpAny_field
def dH:=@List.length_drop
def dJ:=@PySem.wpAny_call_entry
def dL:=@Nat.le_of_not_lt
def dM:=@List.getElem_map
def dN:=@List.not_mem_nil
def dX:=@List.getElem?_append_right
def dY:=@Option.map_eq_some_iff
def dZ:=@List.take_add_one
def d5:=@List.find?_cons
def d7:=@PyProof.Rows.slot_tuple_getitem
def eh:=@List.drop_eq_getElem_cons
def ei:=@List.getElem?_zip_eq_some
def ej:=@List.length_filter_le
def eu:=@Bool.false_ne_true
def eA:=@PySem.wpAny_holding
def eB:=@Int.zero_add
def eG:=@Nat.pow_le_pow_right
def eK:=@PySem.wpAny_loadPart_at
def eN:=@List.nodup_cons
def eO:=@List.length_set
def eR:=@PySem.Heap.SameBut.update
def eW:=@PySem.Heap.get?_update_other
def fm:=@PySem.F.slot_tuple_iterator_next
def fq:=@PySem.Obj.data_mapFields
def fw:=@List.Nodup.sublist
def fx:=@List.getElem?_reverse
def fy:=@List.take_append_drop
def fG:=@PySem.wpAny_passesOwn
def fH:=@Nat.min_eq_left
def fL:=@PySem.wpAny_truthy_bool
def fM:=@congrArg
def fN:=@if_true
def fO:=@Nat.lt_succ_of_lt
def fP:=@of_decide_eq_true
def fQ:=@List.nodup_append
def fV:=@List.filterMap_cons
def fW:=@Array.length_toList
def f9:=@List.getElem_mem
def gb:=@PySem.wpAny_of_eq
def gk:=@PySem.tupleKind_room_in1
def gm:=@Nat.zero_add
def gq:=@Int.natCast_add
def gw:=@PySem.Heap.get?_update_self
def gy:=@PySem.builtinLookup_eq_fast
def gz:=@List.pairwise_flatMap
def gB:=@List.take_sublist
def gC:=@Option.isSome_map
def gD:=@Bool.not_eq_true'
def gE:=@List.ext_getElem?
def gN:=@PySem.Calls.evalArgs_plain
def gO:=@PySem.wpAny_nameGoes_keeps
def gP:=@PySem.wpAny_tryCatch
def gQ:=@Nat.mul_le_mul_right
def gR:=@List.mem_of_mem_take
def gX:=@Nat.le_of_lt
def gY:=@Int.natCast_emod
def g7:=@List.pairwise_iff_getElem
def hJ:=@PySem.wpAny_isSubtype_exc
def hU:=@List.flatMap_append
def ib:=@PySem.wpAny_standAt
def ie:=@List.map_take
def ii:=@PySem.wpAny_execs_nil
def ij:=@Nat.le_antisymm
def ik:=@Bool.or_eq_true
def im:=@PyProof.Rows.boot_isinstance
def io:=@Int.emod_nonneg
def iw:=@PySem.Calls.spliced_cons
def ix:=@PySem.wpAny_Call_Name_kw
def iy:=@List.getElem?_replicate
def iz:=@List.getElem?_cons_succ
def iP:=@PySem.Calls.spliced_nil
def iQ:=@PySem.Calls.callWith_builtin
def iR:=@PySem.Heap.size_push
def iS:=@PySem.wpAny_seqItems
def iT:=@PySem.wpAny_setField
def iU:=@Nat.lt_of_succ_lt_succ
def iV:=@Function.comp_def
def iW:=@PySem.wpAny_pyNext_dict_item
def iX:=@Nat.succ_mul
def iY:=@Nat.lt_trichotomy
def i7:=@PySem.Obj.isFreed_of_fields
def i8:=@PySem.F.typeOf_object_class
def ja:=@PySem.typeIs_str
def jb:=@Nat.lt_succ_self
def jc:=@List.lookup_cons
def jd:=@List.take_length
def je:=@List.mem_flatMap
def jr:=@PySem.wpAny_newFunctionEnv
def js:=@PySem.Around.under_plainId
def jt:=@or_false
def jB:=@PySem.wpAny_specialOf
def jC:=@PySem.F.args_tuple_iterator_next_1
def jD:=@PySem.typeLookup_type
def jE:=@PySem.codeAny_builtin
def jF:=@Int.natCast_mul
def jG:=@Bool.eq_iff_iff
def jK:=@Int.toNat_of_nonneg
def jS:=@PySem.F.entry_tuple_iterator_next
def km:=@PySem.Calls.Name_function_global
def kn:=@PyProof.Rows.assignInOrder_cons
def ko:=@PySem.wpAny_pyIter_tuple
def kq:=@List.mem_filterMap
def kr:=@Int.fdiv_eq_ediv_of_nonneg
def ku:=@Nat.lt_of_le_of_lt
def kx:=@PySem.isSubtype_type
def kA:=@Array.getElem?_eq_some_iff
def kB:=@List.contains_cons
def kC:=@Int.emod_lt_of_pos
def kD:=@Nat.one_le_two_pow
def kO:=@PySem.sizeLine_eq
def kP:=@Nat.le_succ
def kZ:=@PySem.wpAny_comprehension_free
def k6:=@PySem.wpAny_attempt
def k_:=@PySem.plainId_quiet
def la:=@List.map_drop
def lu:=@PySem.noFill_tuple_add
def lv:=@if_false
def lw:=@List.all_eq_true
def lx:=@PySem.wpAny_isInstance
def ly:=@List.any_eq_true
def lz:=@Int.eq_ofNat_of_zero_le
def lA:=@List.length_eq_zero_iff
def lB:=@List.flatMap_def
def l_:=@PySem.wpAny_Name
def ma:=@Nat.ne_of_gt
def md:=@PySem.wpAny_pyIter_rangeiter
def me:=@PyProof.noPylong_small
def mf:=@PyProof.Rows.subscriptTail_builtinR
def mh:=@PySem.codeAny_mono
def mi:=@PySem.codeAny_compStart_list
def mj:=@List.range_succ_eq_map
def ml:=@Nat.add_zero
def mn:=@List.drop_eq_nil_of_le
def mq:=@List.drop_of_length_le
def mv:=@PySem.wpAny_noteFrame_againW
def mw:=@List.length_pos_of_mem
def my:=@Nat.mul_comm
def mz:=@Nat.sub_self
def mB:=@List.getElem_cons_zero
def mQ:=@List.of_mem_zip
def mR:=@PySem.wpAny_updateSeq
def mS:=@List.filter_map
def mW:=@PySem.wpAny_isTrue_Compare1
def mX:=@PySem.F.slot_enumerate_next
def mY:=@PySem.wpAny_pyNext_dict_end
def mZ:=@List.set_append_right
def nT:=@List.take_zero
def nU:=@List.Perm.refl
def nV:=@PySem.wpAny_letGo
def nX:=@PyProof.Rows.boot_int
def oD:=@LawfulBEq.eq_of_beq
def oE:=@PyProof.Rows.boot_bool
def oX:=@PySem.seq_tuple_add
def oY:=@List.any_cons
def oZ:=@PySem.SeqAt.str_beq
def o_:=@List.sum_cons
def pb:=@Nat.mul_assoc
def pH:=@PySem.wpAny_rule
def pI:=@Nat.not_lt
def qx:=@PySem.concat_meets
def qy:=@PySem.wpAny_typeOf
def qz:=@PySem.seqIndex_neg
def qA:=@Nat.lt_trans
def qB:=@PySem.call_meetsIn
def qC:=@PySem.wpAny_landsW
def qD:=@Int.mul_comm
def qE:=@List.map_set
def qF:=@Nat.pow_succ
def rC:=@PyProof.Rows.IsTup.new
def rD:=@PyProof.Rows.boot_list
set_option compiler.extract_closed false
noncomputable section
open PySem.W (Frag)
open PySem.W (hideAll findIn kitOne kia_one fnOf codeIn keepIn excIn codeHdIn kla_obj nsIn mg_of mg_none_of)
namespace L2
open PySem PySem.Spec PyProof.Rows
abbrev f_:=Sum Int Str
def ve:f_->Value->Bool
 |.inl k,v=>Value.isInt k v
 |.inr x,v=>Value.isStrOf x v
def Q4(w:World):f_->Int
 |.inl k=>hashInt k
 |.inr x=>hashStr w x
theorem eX:∀{k:f_} {v:Value},ve k v=true->(∃i t,k=Sum.inl i/\v=Value.int i t)\/(∃x t,k=Sum.inr x/\v=Value.str x t)
 |.inl i,v,h=>by
  obtain⟨t,e⟩:=Value.isInt_shape (k:=i) (v:=v) h
  exact .inl ⟨i,t,rfl,e⟩
 |.inr x,v,h=>by
  obtain⟨t,e⟩:=Value.isStrOf_shape (x:=x) (v:=v) h
  exact .inr ⟨x,t,rfl,e⟩
theorem Ch(i:Int)(t:Tok):ve (.inl i) (.int i t)=true:=by simp[ve,Value.isInt]
theorem Ci(x:Str)(t:Tok):ve (.inr x) (.str x t)=true:=by simp[ve,Value.isStrOf]
theorem KQ(a b:Int):decide ((Sum.inl a:f_)=Sum.inl b)=(a==b):=by
 by_cases e:a=b
 ·subst e;simp
 ·have h:¬ (Sum.inl a:f_)=Sum.inl b:=fun q=>e (Sum.inl.inj q)
  rw[aU h]
  exact(aS.mpr e).symm
theorem KR(a b:Str):decide ((Sum.inr a:f_)=Sum.inr b)=decide (a=b):=by
 by_cases e:a=b
 ·subst e;simp
 ·have h:¬ (Sum.inr a:f_)=Sum.inr b:=fun q=>e (Sum.inr.inj q)
  rw[aU h,aU e]
theorem KS(a:Int)(b:Str):decide ((Sum.inl a:f_)=Sum.inr b)=false:=aU (fun q=>nomatch q)
theorem KU(a:Str)(b:Int):decide ((Sum.inr a:f_)=Sum.inl b)=false:=aU (fun q=>nomatch q)
def d8(prog:Program)(w:World):PySem.KeyKind prog w f_ where
 is:=ve
 hash:=Q4 w
 inj:=fun v a b ha hb=>by
  rcases eX ha with⟨i,t,rfl,rfl⟩|⟨x,t,rfl,rfl⟩
  ·rcases eX hb with⟨j,u,rfl,e⟩|⟨y,u,rfl,e⟩
   ·injection e with e1 _;rw[e1]
   ·exact nomatch e
  ·rcases eX hb with⟨j,u,rfl,e⟩|⟨y,u,rfl,e⟩
   ·exact nomatch e
   ·injection e with e1 _;rw[e1]
 byValue:=fun k v h=>by
  rcases eX h with⟨i,t,rfl,rfl⟩|⟨x,t,rfl,rfl⟩<;>rfl
 pyHash:=fun hv h=>by
  rcases eX hv with⟨i,t,rfl,rfl⟩|⟨x,t,rfl,rfl⟩
  ·exact wpAny_pyHash_int h
  ·exact wpAny_pyHash_str h
 eqBool:=fun hu hv h=>by
  rcases eX hu with⟨i,t,rfl,rfl⟩|⟨x,t,rfl,rfl⟩
  ·rcases eX hv with⟨j,u,rfl,rfl⟩|⟨y,u,rfl,rfl⟩
   ·rw[KQ]at h;exact wpAny_eqBool_int h
   ·rw[KS]at h;exact SeqAt.EqAt.int_str i t y u _ _ _ _ h
  ·rcases eX hv with⟨j,u,rfl,rfl⟩|⟨y,u,rfl,rfl⟩
   ·rw[KU]at h;exact SeqAt.EqAt.str_int x t j u _ _ _ _ h
   ·rw[KR]at h;exact wpAny_eqBool_str h
 «strs»:=fun k x t v h=>by
  rcases eX h with⟨i,u,rfl,e⟩|⟨y,u,rfl,e⟩
  ·exact nomatch e
  ·injection e with e1 _
   subst e1
   cases v<;>rfl
theorem xU(prog:Program)(w:World)(i:Int)(t:Tok):(d8 prog w).is (.inl i) (.int i t)=true:=Ch i t
theorem xV(prog:Program)(w:World)(x:Str)(t:Tok):(d8 prog w).is (.inr x) (.str x t)=true:=Ci x t
inductive V where
 |non|bl (b:Bool)|int (i:Int)|str (x:Str)|byt (b:Array UInt8)|flt (b:UInt64)|ref (a:Addr)|ty (n:String)
 deriving DecidableEq
def cb:V->Value->Prop
 |.non,u=>u=Value.none
 |.bl b,u=>u=Value.bool b
 |.int i,u=>∃t,u=Value.int i t
 |.str x,u=>∃t,u=Value.str x t
 |.byt b,u=>∃t,u=Value.bytes b t
 |.flt b,u=>∃t,u=Value.float b t
 |.ref a,u=>u=Value.ref a
 |.ty n,u=>u=Value.type n
abbrev cV:List V->List Value->Prop:=Paired cb
theorem cV.length{xs:List V}{us:List Value}(r:cV xs us):xs.length=us.length:=Paired.length r
theorem cV.get:∀{xs:List V} {us:List Value} {i:Nat} {x:V},cV xs us->xs[i]?=some x->∃u,us[i]?=some u/\cb x u
 |_,_,_,_,.nil,e=>by simp at e
 |_,_,0,_,.cons r _,e=>by simp at e;subst e;exact⟨_,rfl,r⟩
 |_,_,i+1,x,.cons _ t,e=>by
  obtain⟨u,h1,h2⟩:=cV.get (i:=i) (x:=x) t (by simpa using e)
  exact⟨u,by simpa using h1,h2⟩
theorem cV.set{x:V}{u:Value}(r:cb x u):∀{xs:List V} {us:List Value} (i:Nat),cV xs us->cV (xs.set i x) (us.set i u)
 |_,_,_,.nil=>.nil
 |_,_,0,.cons _ t=>.cons r t
 |_,_,i+1,.cons q t=>.cons q (cV.set r i t)
theorem cV.append:∀{xs ys:List V} {us ws:List Value},cV xs us->cV ys ws->cV (xs++ys) (us++ws)
 |_,_,_,_,.nil,s=>s
 |_,_,_,_,.cons r t,s=>.cons r (cV.append t s)
theorem cV.take:∀{xs:List V} {us:List Value} (n:Nat),cV xs us->cV (xs.take n) (us.take n)
 |_,_,0,_=>.nil
 |_,_,_+1,.nil=>.nil
 |_,_,n+1,.cons r t=>.cons r (cV.take n t)
theorem cV.drop:∀{xs:List V} {us:List Value} (n:Nat),cV xs us->cV (xs.drop n) (us.drop n)
 |_,_,0,r=>r
 |_,_,_+1,.nil=>.nil
 |_,_,n+1,.cons _ t=>cV.drop n t
def pd:Option V->Option Value->Prop
 |some v,some u=>cb v u
 |none,none=>True
 |_,_=>False
def KV{κ:Type}:List (κ×V)->List (κ×Value)->Prop:=Paired fun(p:κ×V) (q:κ×Value)=>p.1=q.1/\cb p.2 q.2
def kV:f_->V
 |.inl i=>.int i
 |.inr x=>.str x
inductive HO where
 /-- a list -/
 |lst (xs:List V)
 /-- a tuple (never changes) -/
 |tup (xs:List V)
 /-- a dict whose keys are ints and texts;one whose keys are tuples of ints and texts (the empty one is both) -/
 |dK (kvs:List (f_×V))|dT (kvs:List (List f_×V))
 /-- a set of ints: bJ members,bJ size -/
 |set (S:Int->Bool) (n:Nat)
 /-- an instance of the class at C,bJ dict at dx,bJ attributes -/
 |ins (C dx:Addr) (fs:List (Str×V))
 /-- the dict of the instance at x -/
 |own (x:Addr)
 /-- the dict of an exception -/
 |xd (fs:List (Str×V))
 /-- a bound method,f of x -/
 |met (f x:Addr)
 /-- a range object lo,lo+1,.. below hi -/
 |rng (lo hi:Int)
 /-- a thing that is known to the object (the script;a dict while a loop walks it): read,never written while it is so -/
 |frz (o:Obj) (u:HO)
 /-- a code object's table -/
 |tbl (ps:Array Value)
 /-- any other thing,by what is true of bJ one object (a def of Si own: SetO a S n:=HO.ext fun h=>..) -/
 |ext (φ:Heap->Prop)
abbrev Hp:=Addr->Option HO
def eS(H:Hp)(a:Addr)(o:HO):Hp:=fun b=>if b=a then some o else H b
theorem dC{H:Hp}{a:Addr}{o:HO}:eS H a o a=some o:=by unfold eS;rw[aB rfl]
theorem bX{H:Hp}{a b:Addr}{o:HO}(h:b≠a):eS H a o b=H b:=by unfold eS;rw[aE h]
theorem NY{H:Hp}{a b:Addr}{o u:HO}(h:H a=some o)(h':H b=some u)(d:o≠u):a≠b:=by
 intro e;subst e;rw[h]at h';exact d (aZ h')
theorem dh{H:Hp}{a b:Addr}{o:HO}(h:H a=some o)(h':H b=none):a≠b:=by
 intro e;subst e;rw[h]at h';cases h'
section
variable(P:Program)(w:World)
def fg(H:Hp)(h:Heap)(a:Addr):HO->Prop
 |.lst xs=>xs.length<=sizeLine/\∃(bJ:List Value) (n:Nat),cV xs bJ/\h.get? a=some { cls:=.type "list",data:=.seq bJ.toArray n }
 |.tup xs=>xs.length<=sizeLine/\∃bJ:List Value,cV xs bJ/\IsTup h a bJ.toArray
 |.dK kvs=>kvs.length<=sizeLine/\(a==sysModules)=false/\∃vs,KV kvs vs/\h.DictOf (d8 P w) a vs
 |.dT kvs=>kvs.length<=sizeLine/\(a==sysModules)=false/\∃xs:List (List f_×Addr×Value),
   Paired (fun(p:List f_×V) (q:List f_×Addr×Value)=>p.1=q.1/\H q.2.1=some (.tup (p.1.map kV))/\cb p.2 q.2.2) kvs xs /\
   ∃o es ep,h.get? a=some o/\o.ExactDict/\o.data=.dict es ep/\es.toList=xs.map (entryOfKey (tupleKind (d8 P w)))/\(xs.map (·.1)).Nodup
 |.set S n=>h.SetOf (intKind P w) a S n
 |.ins C dx fs=>H dx=some (.own a)/\fs.length<=1000/\dx≠a/\h.get? a=some (PySem.W.instObj C dx) /\
   ∃mA,h.Ns1 dx mA/\(∀f,pd (fs.lookup f) (mA f))/\PySem.Within mA (fs.map (·.1))
 |.own _=>∃o,h.get? a=some o
 |.xd fs=>∃mA,h.Ns1 a mA/\∀f,pd (fs.lookup f) (mA f)
 |.rng lo hi=>∃t u v,h.get? a=some { cls:=.type "range",data:=.fields #[.int lo t,.int hi u,.int 1 v] }
 |.frz o u=>h.get? a=some o/\fg H h a u
 |.tbl ps=>h.get? a=some { cls:=.none,data:=.fields ps }
 |.met f x=>h.get? a=some (PySem.W.methodObj (.ref f) (.ref x))
 |.ext φ=>φ h/\(∃o,h.get? a=some o)/\∀h1 h2:Heap,φ h1->(∀o,h1.get? a=some o->h2.get? a=some o)->φ h2
def pe(H:Hp)(h:Heap):Prop:=∀a o,H a=some o->fg P w H h a o
end
section
variable{P:Program}{w:World}{H H':Hp}{h h':Heap}{a:Addr}{o:HO}
theorem fg.lt(x:fg P w H h a o):a<h.objs.size:=by
 cases o with
 |lst xs=>obtain⟨_,_,_,_,e⟩:=x;exact aI e
 |tup xs=>obtain⟨_,_,_,p⟩:=x;exact p.lt
 |dK kvs=>obtain⟨_,_,_,_,o,_,_,e,_⟩:=x;exact aI e
 |dT kvs=>obtain⟨_,_,_,_,o,_,_,e,_⟩:=x;exact aI e
 |set S n=>obtain⟨o,_,_,_,e,_⟩:=x;exact aI e
 |ins C dx fs=>obtain⟨_,_,_,e,_⟩:=x;exact aI e
 |own y=>obtain⟨_,e⟩:=x;exact aI e
 |xd fs=>obtain⟨_,⟨_,_,_,e,_⟩,_⟩:=x;exact aI e
 |rng lo hi=>obtain⟨_,_,_,e⟩:=x;exact aI e
 |frz ob u=>obtain⟨e,_⟩:=x;exact aI e
 |tbl ps=>exact aI (show h.get? a=some _ from x)
 |met f y=>exact aI (show h.get? a=some _ from x)
 |ext φ=>obtain⟨_,⟨_,e⟩,_⟩:=x;exact aI e
theorem Paired.mapP{α β:Type}{F G:α->β->Prop}:∀{l₁:List α} {l₂:List β},Paired F l₁ l₂->(∀a b,F a b->G a b)->Paired G l₁ l₂
 |_,_,.nil,_=>.nil
 |_,_,.cons r t,f=>.cons (f _ _ r) (Paired.mapP t f)
theorem fg.stay(x:fg P w H h a o)(k:∀b u,(b=a\/H b=some (.own a))->h.get? b=some u->h'.get? b=some u)
  (ho:∀b,H b=some (.own a)->H' b=some (.own a)) (ht:∀b xs,H b=some (.tup xs)->H' b=some (.tup xs)):fg P w H' h' a o:=by
 induction o with
 |lst xs=>obtain⟨z,bJ,n,r,e⟩:=x;exact⟨z,bJ,n,r,k _ _ (.inl rfl) e⟩
 |tup xs=>obtain⟨z,bJ,r,ob,e,c⟩:=x;exact⟨z,bJ,r,ob,k _ _ (.inl rfl) e,c⟩
 |dK kvs=>obtain⟨z,y,vs,r,ob,es,ep,e,c⟩:=x;exact⟨z,y,vs,r,ob,es,ep,k _ _ (.inl rfl) e,c⟩
 |dT kvs=>
  obtain⟨z,y,xs,r,ob,es,ep,e,c⟩:=x
  exact⟨z,y,xs,Paired.mapP r fun p q z=>⟨z.1,ht _ _ z.2.1,z.2.2⟩,ob,es,ep,k _ _ (.inl rfl) e,c⟩
 |set S n=>obtain⟨ob,es,ep,t,e,c⟩:=x;exact⟨ob,es,ep,t,k _ _ (.inl rfl) e,c⟩
 |ins C dx fs=>
  obtain⟨d,z,ne,e,mA,⟨od,es,ep,e2,c⟩,r⟩:=x
  exact⟨ho _ d,z,ne,k _ _ (.inl rfl) e,mA,⟨od,es,ep,k _ _ (.inr d) e2,c⟩,r⟩
 |own y=>obtain⟨ob,e⟩:=x;exact⟨ob,k _ _ (.inl rfl) e⟩
 |xd fs=>obtain⟨mA,⟨od,es,ep,e,c⟩,r⟩:=x;exact⟨mA,⟨od,es,ep,k _ _ (.inl rfl) e,c⟩,r⟩
 |rng lo hi=>obtain⟨t,u,v,e⟩:=x;exact⟨t,u,v,k _ _ (.inl rfl) e⟩
 |frz ob u ih=>obtain⟨e,q⟩:=x;exact⟨k _ _ (.inl rfl) e,ih q⟩
 |tbl ps=>
  have e:h.get? a=some { cls:=.none,data:=.fields ps }:=x
  show h'.get? a=some { cls:=.none,data:=.fields ps }
  exact k a _ (.inl rfl) e
 |met f y=>
  have e:h.get? a=some (PySem.W.methodObj (.ref f) (.ref y)):=x
  show h'.get? a=some (PySem.W.methodObj (.ref f) (.ref y))
  exact k a _ (.inl rfl) e
 |ext φ=>obtain⟨p,⟨o,e⟩,st⟩:=x;exact⟨st _ _ p fun o q=>k _ _ (.inl rfl) q,⟨o,k _ _ (.inl rfl) e⟩,st⟩
theorem pe.lt(x:pe P w H h)(e:H a=some o):a<h.objs.size:=(x a o e).lt
theorem pe.fresh(x:pe P w H h)(e:h.objs.size<=a):H a=none:=by
 cases q:H a with
 |none=>rfl
 |some u=>exact absurd (aV (x.lt q) e) (bo _)
theorem pe.kept(x:pe P w H h)(k:∀b u,h.get? b=some u->h'.get? b=some u):pe P w H h':=fun a o e=>
 (x a o e).stay (fun b u _ q=>k b u q) (fun _ q=>q) fun _ _ q=>q
theorem pe.laid(x:pe P w H h)(k:∀b u,h.get? b=some u->h'.get? b=some u)(hp:h.objs.size<=a)(new:fg P w (eS H a o) h' a o):pe P w (eS H a o) h':=fun b u e=>by
 have hn:=x.fresh hp
 by_cases hb:b=a
 ·subst hb;rw[dC]at e;cases e;exact new
 ·rw[bX hb]at e
  exact(x b u e).stay (fun c v _ q=>k c v q) (fun c q=>by rw[bX (dh q hn)];exact q) fun c xs q=>by rw[bX (dh q hn)];exact q
end
def Rd(H:Hp)(a:Addr)(u:HO):Prop:=H a=some u\/∃o,H a=some (.frz o u)
theorem Rd.ok{P:Program}{w:World}{H:Hp}{h:Heap}{a:Addr}{u:HO}(r:Rd H a u)(x:pe P w H h):fg P w H h a u:=by
 rcases r with r|⟨o,r⟩
 ·exact x a u r
 ·obtain⟨_,q⟩:=x a _ r
  exact q
def NZ:Option HO->Prop
 |some (.lst _)=>True
 |some (.dK _)=>True
 |some (.dT _)=>True
 |some (.set _ _)=>True
 |some (.ins _ _ _)=>True
 |some (.ext _)=>True
 |_=>False
section
variable{P:Program}{w:World}{H:Hp}{h h':Heap}{x e:Addr}{o':HO}
theorem pe.write(ok:pe P w H h)(mu:NZ (H x))(he:e=x\/H e=some (.own x))(k:∀b u,b≠e->h.get? b=some u->h'.get? b=some u)(Hy:∃u,h'.get? e=some u)
  (new:fg P w (eS H x o') h' x o'):pe P w (eS H x o') h':=fun b u q=>by
 have nown:∀c y,H c=some (.own y)->c≠x:=fun c y r z=>by subst z;rw[r]at mu;exact mu
 have ntup:∀c xs,H c=some (.tup xs)->c≠x:=fun c xs r z=>by subst z;rw[r]at mu;exact mu
 by_cases hb:b=x
 ·subst hb;rw[dC]at q;cases q;exact new
 ·rw[bX hb]at q
  by_cases hbe:b=e
  ·have q':H b=some (.own x):=by
    rcases he with z|z
    ·exact absurd (hbe.trans z) hb
    ·rw[hbe];exact z
   rw[q]at q';cases q'
   obtain⟨v,hv⟩:=Hy
   exact⟨v,by rw[hbe];exact hv⟩
  ·refine(ok b u q).stay (fun c v hc r=>k c v ?_ r) (fun c r=>by rw[bX (nown c b r)];exact r) fun c xs r=>by rw[bX (ntup c xs r)];exact r
   rcases hc with rfl|hc
   ·exact hbe
   ·rintro rfl
    rcases he with z|z
    ·exact nown c b hc z
    ·rw[hc]at z;cases z;exact hb rfl
end
structure Un(fs ex:List Addr)(H H':Hp)(h h':Heap):Prop where
 keep:∀b o,h.get? b=some o->H b=none->b∉fs->b∉ex->h'.get? b=some o
 slot:∀b o,h.get? b=some o->H b=none->b∈fs->b∉ex->∃sl,h'.get? b=some { o with slots:=sl }
 free:∀b o,h.get? b=some o->H b=none->b∉ex->H' b=none
 there:∀b o,h.get? b=some o->b∉ex->∃o',h'.get? b=some o'
 tups:∀b xs,H b=some (.tup xs)->H' b=some (.tup xs)
 frzs:∀b o u,H b=some (.frz o u)->H' b=some (.frz o u)
 tbls:∀b ps,H b=some (.tbl ps)->∃kH,H' b=some (.tbl (ps++kH))
section
variable{fs SN ex S5:List Addr}{H H1 H2:Hp}{h h1 h2 h':Heap}{a x e:Addr}{o:HO}
theorem Un.any(u:Un fs ex H H1 h h1){b:Addr}{ob:Obj}(q:h.get? b=some ob)(n:H b=none)(hx:b∉ex):∃sl,h1.get? b=some { ob with slots:=sl }:=by
 by_cases hb:b∈fs
 ·exact u.slot b ob q n hb hx
 ·exact⟨ob.slots,u.keep b ob q n hb hx⟩
theorem Un.kept(k:∀b u,h.get? b=some u->h'.get? b=some u):Un fs ex H H h h':=
 ⟨fun b ob q _ _ _=>k b ob q,fun b ob q _ _ _=>⟨ob.slots,k b ob q⟩,fun _ _ _ n _=>n,fun b ob q _=>⟨ob,k b ob q⟩,fun _ _ q=>q,fun _ _ _ q=>q,fun _ ps q=>⟨#[],by rw[q];simp⟩⟩
theorem Un.refl:Un fs ex H H h h:=Un.kept fun _ _ q=>q
theorem Un.laid(k:∀b u,h.get? b=some u->h'.get? b=some u)(hp:h.objs.size<=a)(hn:H a=none):Un fs ex H (eS H a o) h h' where
 keep:=fun b u q _ _ _=>k b u q
 slot:=fun b u q _ _ _=>⟨u.slots,k b u q⟩
 free:=fun b u q n _=>by rw[bX (be (aV (aI q) hp))];exact n
 there:=fun b u q _=>⟨u,k b u q⟩
 tups:=fun b xs q=>by rw[bX (dh q hn)];exact q
 frzs:=fun b u xs q=>by rw[bX (dh q hn)];exact q
 tbls:=fun b ps q=>⟨#[],by rw[bX (dh q hn),q];simp⟩
theorem Un.write(mu:NZ (H x))(he:e=x\/H e=some (.own x))(k:∀b u,b≠e->h.get? b=some u->h'.get? b=some u)(Hy:∃u,h'.get? e=some u):Un fs ex H (eS H x o) h h':=by
 have hx:∀b,H b=none->b≠x:=fun b n z=>by subst z;rw[n]at mu;exact mu
 have hb:∀b,H b=none->b≠e:=fun b n z=>by
  subst z
  rcases he with r|r
  ·exact hx b n r
  ·rw[n]at r;cases r
 have hm:∀b u,H b=some u->¬ NZ (some u)->b≠x:=fun b u q nm z=>by subst z;rw[q]at mu;exact nm mu
 refine⟨fun b u q n _ _=>k b u (hb b n) q,fun b u q n _ _=>⟨u.slots,k b u (hb b n) q⟩,fun b u q n _=>by rw[bX (hx b n)];exact n,fun b u q _=>?_,
  fun b xs q=>by rw[bX (hm b _ q fun z=>z)];exact q,fun b u xs q=>by rw[bX (hm b _ q fun z=>z)];exact q,fun b ps q=>⟨#[],by rw[bX (hm b _ q fun z=>z),q];simp⟩⟩
 by_cases hbe:b=e
 ·subst hbe;exact Hy
 ·exact⟨u,k b u hbe q⟩
end
def QL(h:Heap)(H:Hp):List Addr:=(List.range h.objs.size).filter fun a=>(H a).isSome
def uJ(h:Heap)(H:Hp):Heap:=hideAll h (QL h H)
theorem Cj(h:Heap)(H:Hp):(uJ h H).objs.size=h.objs.size:=PySem.W.hideAll_size _ _
theorem DH{h:Heap}{H:Hp}{b:Addr}{o:Obj}(e:h.get? b=some o)(n:H b=none):(uJ h H).get? b=some o:=
 PySem.W.hideAll_get _ e fun hm=>by
  have q:(H b).isSome=true:=(cD.mp hm).2
  rw[n]at q;simp at q
theorem HA{h:Heap}{H:Hp}{b:Addr}{o:Obj}(e:(uJ h H).get? b=some o):h.get? b=some o/\H b=none:=by
 have e':h.get? b=some o:=PySem.W.of_hideAll (QL h H) e
 refine⟨e',?_⟩
 cases q:H b with
 |none=>rfl
 |some x=>
  have hm:b∈QL h H:=cD.mpr ⟨bi.mpr (aI e'),by simp[q]⟩
  have z:(uJ h H).get? b=none:=PySem.W.hideAll_none (QL h H) hm
  rw[z]at e;cases e
def HB(g h:Heap)(L:Addr):List (Addr×Obj):=(List.range h.objs.size).filterMap fun a=>if a=L\/(g.get? a).isSome=true then none else(h.get? a).map fun o=>(a,o)
def fz(g h:Heap)(L d:Addr):List (Addr×Obj):=(HB g h L).filter fun p=>decide (p.1≠d)
structure Mod(K:Frag)(mg:Str->Option Value)(base:Heap):Prop where
 kin:K.In base
 glob:base.Ns mainGlobals mg
 blt:∃mb,base.Ns builtinsNs mb/\∀x:Str,x ≠ "__name__"->mb x=bootBuiltins x
 nolimit:base.NoLimit
structure Cx where
 prog:Program
 w:World
 K:Frag
 mg:Str->Option Value
 base:Heap
 A:Around
 N:List Str
 s₀:Shared
 H₀:Hp
 env:Env
 outer:List Env
 stack:List Env
 ex:List Addr
 fn:Str->Bool
 calm:Bool
 pn:List (Addr×Obj)
 xe:Value->Shared->Prop
def pL(l:List Env):List Addr:=l.filterMap (·.frame)
abbrev Cx.fs(X:Cx):List Addr:=pL X.outer
def N1(sc:Scope)(x:Str):Prop:=sc.names.lookup x=some .local\/sc.names.lookup x=some .cell\/sc.names.lookup x=some .free
def Hr(sc:Scope)(x:Str):Prop:=sc.names.lookup x=some .local\/sc.names.lookup x=some .cell
def Q5(env:Env)(h:Heap)(m:Str->Option Value)(x:Str)(u:Value):Prop:=
 (env.kindOf x=some .local/\m x=some u)\/((env.kindOf x=some .cell\/env.kindOf x=some .free)/\∃c,env.cells.lookup x=some c/\h.IsCell c (some u))
structure Cx.Ok(X:Cx):Prop where
 mod:Mod X.K X.mg X.base
 kind:X.env.scope.kind=.function
 glob:X.env.globals=mainGlobals
 blt:X.env.builtins=builtinsNs
 above:X.s₀.heap.objs.size<=X.env.locals
 inj:∀x y c,X.env.cells.lookup x=some c->X.env.cells.lookup y=some c->x=y
 has:∀x,(X.env.kindOf x=some .cell\/X.env.kindOf x=some .free)->∃c,X.env.cells.lookup x=some c
 cab:∀x c,X.fn x=true->X.env.cells.lookup x=some c->X.s₀.heap.objs.size<=c
 hd:X.calm=true->X.A.handled=none
 frames:X.A.frames=some X.stack
 stk:X.stack=X.outer\/(X.stack=X.env::X.outer/\X.env.frame=some X.env.locals)
 exf:∀b∈X.ex,b≠X.env.locals/\∀x c,X.env.cells.lookup x=some c->c≠b
 bs:∀b o,X.base.get? b=some o->X.s₀.heap.get? b=some o/\X.H₀ b=none
 bsz:X.base.objs.size<=X.s₀.heap.objs.size
 noex:∀b o,X.base.get? b=some o->b∉X.ex
 exfs:∀b∈X.ex,b∉X.fs
 funs:X.s₀.heap.FunFrames X.base X.outer
 frf:∀b∈X.fs,X.H₀ b=none
structure bt(X:Cx)(pins:List (Addr×Obj))(σ:List (Option V))(H:Hp)(s:Shared):Prop where
 ok:X.Ok
 os:s.os=X.s₀.os
 bare:AllBare s.gens
 base:Un X.fs X.ex X.H₀ H X.s₀.heap s.heap
 loc:∃m,s.heap.Ns X.env.locals m/\∀(i:Nat) (x:Str) (v:V),X.N[i]?=some x->σ[i]?=some (some v)->N1 X.env.scope x->∃u,cb v u/\Q5 X.env s.heap m x u
 cell:∀x c,X.env.cells.lookup x=some c->∃v,s.heap.IsCell c v
 free:H X.env.locals=none
 freeC:∀x c,X.env.cells.lookup x=some c->H c=none
 pin:∀p∈X.pn++pins,s.heap.get? p.1=some p.2/\H p.1=none/\p.1≠X.env.locals/\p.1∉X.fs/\∀v,p.2.data≠.cell v
 hok:pe X.prog X.w H s.heap
 len:σ.length=X.N.length
section
variable{X:Cx}{pins:List (Addr×Obj)}{σ:List (Option V)}{H H':Hp}{s:Shared}{h':Heap}
theorem Cx.Ok.nofr(ok:X.Ok){b:Addr}{o:Obj}(e:X.base.get? b=some o):b∉X.fs:=fun hb=>by
 have:=(ok.funs.mem hb).1
 rw[e]at this;cases this
theorem bt.bs(I:bt X pins σ H s):∀b o,X.base.get? b=some o->s.heap.get? b=some o/\H b=none:=fun b o e=>
 ⟨I.base.keep b o (I.ok.bs b o e).1 (I.ok.bs b o e).2 (I.ok.nofr e) (I.ok.noex b o e),I.base.free b o (I.ok.bs b o e).1 (I.ok.bs b o e).2 (I.ok.noex b o e)⟩
theorem bt.bk(I:bt X pins σ H s):∀b o,X.base.get? b=some o->s.heap.get? b=some o:=fun b o e=>(I.bs b o e).1
theorem bt.mod(I:bt X pins σ H s):Mod X.K X.mg X.base:=I.ok.mod
theorem bt.kIn(I:bt X pins σ H s):X.K.In s.heap:=I.ok.mod.kin.keeps I.bk
theorem bt.nolimit(I:bt X pins σ H s):s.heap.NoLimit:=I.ok.mod.nolimit.keeps I.bk
theorem bt.lt(I:bt X pins σ H s):X.env.locals<s.heap.objs.size:=let ⟨_,hn,_⟩:=I.loc;hn.lt
theorem bt.sz(I:bt X pins σ H s):X.s₀.heap.objs.size<=s.heap.objs.size:=a7 I.ok.above (gX I.lt)
theorem bt.nofs(I:bt X pins σ H s){a:Addr}(h:s.heap.objs.size<=a):a∉X.fs:=fun hb=>by
 obtain⟨_,o,ho,_⟩:=I.ok.funs.mem hb
 exact absurd (aV (aI ho) (a7 I.sz h)) (bo _)
theorem bt.cne(I:bt X pins σ H s):∀x c,X.env.cells.lookup x=some c->c≠X.env.locals:=fun x c e z=>by
 obtain⟨v,o,ho,hd⟩:=I.cell x c e
 obtain⟨m,⟨o',es,ep,ho',hd',_⟩,_⟩:=I.loc
 rw[z,ho']at ho;cases ho;rw[hd']at hd;cases hd
theorem bt.funs(I:bt X pins σ H s):s.heap.FunFrames X.base X.outer:=by
 have all:∀(l:List Env),(∀b∈pL l,b∈X.fs)->X.s₀.heap.FunFrames X.base l->s.heap.FunFrames X.base l:=by
  intro l
  induction l with
  |nil=>intro _ _;trivial
  |cons env r ih=>
   intro hs hl
   obtain⟨hk,⟨L,o,hf,hn,ho,hd⟩,hr⟩:=hl
   have hL:L∈X.fs:=hs L (by unfold pL;rw[fV,hf];exact dA)
   obtain⟨sl,e⟩:=I.base.slot L o ho (I.ok.frf L hL) hL fun z=>I.ok.exfs L z hL
   exact⟨hk,⟨L,_,hf,hn,e,hd⟩,ih (fun b hb=>hs b (by unfold pL;rw[fV,hf];exact cv _ hb)) hr⟩
 exact all X.outer (fun _ hb=>hb) I.ok.funs
theorem bt.stack(I:bt X pins σ H s):s.heap.FunFrames X.base X.stack:=by
 rcases I.ok.stk with e|⟨e,hf⟩
 ·rw[e];exact I.funs
 ·rw[e]
  obtain⟨m,hn,_⟩:=I.loc
  refine .cons (by rw[I.ok.kind];decide) hf hn ?_ I.funs
  exact Heap.get?_none_of_le (a7 I.ok.bsz I.ok.above)
theorem bt.stkSub(I:bt X pins σ H s):∀b∈pL X.stack,b∈X.env.locals::X.fs:=fun b hb=>by
 rcases I.ok.stk with e|⟨e,hf⟩
 ·rw[e]at hb;exact cv _ hb
 ·rw[e]at hb
  unfold pL at hb
  rw[fV,hf]at hb
  exact hb
theorem bt.stkFree(I:bt X pins σ H s):∀b∈pL X.stack,H b=none:=fun b hb=>by
 rcases a8.mp (I.stkSub b hb)with e|hb
 ·rw[e];exact I.free
 ·obtain⟨_,o,ho,_⟩:=I.ok.funs.mem hb
  exact I.base.free b o ho (I.ok.frf b hb) fun z=>I.ok.exfs b z hb
theorem bt.step{g':Array GenState}{t':Nat}{d':Drawn}{ch:List Addr}(I:bt X pins σ H s)
  (Hw:∀b∈ch,(b∈X.ex\/X.s₀.heap.objs.size<=b)/\b≠X.env.locals/\(∀x c,X.env.cells.lookup x=some c->c≠b)/\∀p∈X.pn++pins,p.1≠b)
  (keep:∀b o,b≠X.env.locals->b∉X.fs->b∉ch->s.heap.get? b=some o->H b=none->h'.get? b=some o)
  (slot:∀b o,b≠X.env.locals->b∈X.fs->b∉ch->s.heap.get? b=some o->H b=none->∃sl,h'.get? b=some { o with slots:=sl }) (free:∀b o,b∉ch->s.heap.get? b=some o->H b=none->H' b=none)
  (there:∀b o,b∉ch->s.heap.get? b=some o->∃o',h'.get? b=some o')
  (tups:∀b xs,H b=some (.tup xs)->H' b=some (.tup xs)) (frzs:∀b o u,H b=some (.frz o u)->H' b=some (.frz o u)) (tbls:∀b ps,H b=some (.tbl ps)->∃kH,H' b=some (.tbl (ps++kH)))
  (ns:∀m,s.heap.Ns X.env.locals m->h'.Ns X.env.locals m) (hok:pe X.prog X.w H' h') (hg:AllBare g') :
  bt X pins σ H' { s with heap:=h',gens:=g',drawn:=d',toks:=t' }:=by
 have neL:∀b o,X.s₀.heap.get? b=some o->b≠X.env.locals:=fun b o e=>be (aV (aI e) I.ok.above)
 have neC:∀b o,X.s₀.heap.get? b=some o->b∉X.ex->b∉ch:=fun b o e hx hb=>by
  rcases(Hw b hb).1 with z|z
  ·exact hx z
  ·exact absurd (aV (aI e) z) (bo _)
 have cellK:∀x c,X.env.cells.lookup x=some c->∀v,s.heap.IsCell c v->h'.IsCell c v:=fun x c e v ⟨o,ho,hd⟩=>by
  have nch:c∉ch:=fun z=>(Hw c z).2.2.1 x c e rfl
  by_cases hc:c∈X.fs
  ·obtain⟨sl,q⟩:=slot c o (I.cne x c e) hc nch ho (I.freeC x c e)
   exact⟨_,q,hd⟩
  ·exact⟨o,keep c o (I.cne x c e) hc nch ho (I.freeC x c e),hd⟩
 refine⟨I.ok,I.os,hg,⟨fun b o e n hb hx=>?_,fun b o e n hb hx=>?_,fun b o e n hx=>?_,fun b o e hx=>?_,fun b xs e=>tups b xs (I.base.tups b xs e),fun b o xs e=>frzs b o xs (I.base.frzs b o xs e),fun b ps e=>?_⟩,?_,fun x c e=>?_,?_,fun x c e=>?_,fun p hp=>?_,hok,I.len⟩
 ·exact keep b o (neL b o e) hb (neC b o e hx) (I.base.keep b o e n hb hx) (I.base.free b o e n hx)
 ·obtain⟨sl,e1⟩:=I.base.slot b o e n hb hx
  obtain⟨sl',e2⟩:=slot b _ (neL b o e) hb (neC b o e hx) e1 (I.base.free b o e n hx)
  exact⟨sl',e2⟩
 ·obtain⟨o',e1⟩:=I.base.there b o e hx
  exact free b o' (neC b o e hx) e1 (I.base.free b o e n hx)
 ·obtain⟨o',e1⟩:=I.base.there b o e hx
  exact there b o' (neC b o e hx) e1
 ·obtain⟨m1,e1⟩:=I.base.tbls b ps e
  obtain⟨m2,e2⟩:=tbls b _ e1
  exact⟨m1++m2,by rw[e2,Array.append_assoc]⟩
 ·obtain⟨m,hn,hl⟩:=I.loc
  refine⟨m,ns m hn,fun i x v e1 e2 e3=>?_⟩
  obtain⟨u,r,l⟩:=hl i x v e1 e2 e3
  refine⟨u,r,?_⟩
  rcases l with l|⟨k,c,e,z⟩
  ·exact .inl l
  ·exact .inr ⟨k,c,e,cellK x c e _ z⟩
 ·obtain⟨v,z⟩:=I.cell x c e
  exact⟨v,cellK x c e v z⟩
 ·obtain⟨m,⟨o,_,_,ho,_⟩,_⟩:=I.loc
  exact free _ o (fun z=>(Hw _ z).2.1 rfl) ho I.free
 ·obtain⟨v,o,ho,hd⟩:=I.cell x c e
  exact free c o (fun z=>(Hw c z).2.2.1 x c e rfl) ho (I.freeC x c e)
 ·obtain⟨e,n,ne,nf,d⟩:=I.pin p hp
  have nch:p.1∉ch:=fun z=>(Hw p.1 z).2.2.2 p hp rfl
  exact⟨keep p.1 p.2 ne nf nch e n,free p.1 p.2 nch e n,ne,nf,d⟩
theorem bt.un{t':Nat}(I:bt X pins σ H s)(u:Un X.fs [] H H' s.heap h')(hok:pe X.prog X.w H' h'):bt X pins σ H' { s with heap:=h',toks:=t' }:=by
 obtain⟨m,⟨o,es,ep,ho,r⟩,_⟩:=id I.loc
 obtain⟨sl,hL⟩:=u.any ho I.free (by simp)
 exact I.step (g':=s.gens) (d':=s.drawn) (ch:=[]) (fun _ z=>nomatch z) (fun b o _ hb _ e n=>u.keep b o e n hb (by simp)) (fun b o _ hb _ e n=>u.slot b o e n hb (by simp)) (fun b o _ e n=>u.free b o e n (by simp)) (fun b o _ e=>u.there b o e (by simp)) u.tups u.frzs u.tbls (fun m' hm=>by
  obtain⟨o',es',ep',ho',r'⟩:=hm
  rw[ho]at ho';cases ho'
  exact⟨_,es',ep',hL,r'⟩) hok I.bare
theorem bt.call{g':Array GenState}{t':Nat}{d':Drawn}{ch:List Addr}(I:bt X pins σ H s)(u:Un (pL X.stack) ch H H' s.heap h')(hok:pe X.prog X.w H' h')(hg:AllBare g')
  (Hw:∀b∈ch,(b∈X.ex\/X.s₀.heap.objs.size<=b)/\b≠X.env.locals/\(∀x c,X.env.cells.lookup x=some c->c≠b)/\∀p∈X.pn++pins,p.1≠b) :
  bt X pins σ H' { s with heap:=h',gens:=g',drawn:=d',toks:=t' }:=by
 obtain⟨m,⟨o,es,ep,ho,r⟩,_⟩:=id I.loc
 obtain⟨sl,hL⟩:=u.any ho I.free fun z=>(Hw _ z).2.1 rfl
 exact I.step (ch:=ch) Hw (fun b o hL hb hc e n=>u.keep b o e n (fun z=>(a8.mp (I.stkSub b z)).elim hL hb) hc) (fun b o _ _ hc e n=>u.any e n hc) (fun b o hc e n=>u.free b o e n hc) (fun b o hc e=>u.there b o e hc) u.tups u.frzs u.tbls (fun m' hm=>by
  obtain⟨o',es',ep',ho',r'⟩:=hm
  rw[ho]at ho';cases ho'
  exact⟨_,es',ep',hL,r'⟩) hok hg
theorem bt.turned{t':Nat}{it:Addr}(I:bt X pins σ H s)(k:∀b o,b≠it->s.heap.get? b=some o->h'.get? b=some o)(hn:H it=none)(hL:it≠X.env.locals)
  (h1:it∈X.ex\/X.s₀.heap.objs.size<=it) (h2:∀x c,X.env.cells.lookup x=some c->c≠it) (h3:∀p∈X.pn++pins,p.1≠it):bt X pins σ H { s with heap:=h',toks:=t' }:=by
 have nit:∀b u,H b=some u->b≠it:=fun b u e z=>by rw[z,hn]at e;cases e
 refine I.step (g':=s.gens) (d':=s.drawn) (ch:=[it]) (fun b hb=>?_) (fun b o _ _ hc e _=>k b o (fun z=>hc (by simp[z])) e) (fun b o _ _ hc e _=>⟨o.slots,k b o (fun z=>hc (by simp[z])) e⟩) (fun _ _ _ _ n=>n)
  (fun b o hc e=>⟨o,k b o (fun z=>hc (by simp[z])) e⟩) (fun _ _ e=>e) (fun _ _ _ e=>e) (fun b ps e=>⟨#[],by rw[e];simp⟩) (fun m hm=>?_) (fun b u e=>?_) I.bare
 ·have e:b=it:=by simpa using hb
  subst e
  exact⟨h1,hL,h2,h3⟩
 ·obtain⟨o,es,ep,ho,r⟩:=hm
  exact⟨o,es,ep,k _ o (Ne.symm hL) ho,r⟩
 ·refine(I.hok b u e).stay (fun c v hc q=>k c v ?_ q) (fun _ q=>q) fun _ _ q=>q
  rcases hc with z|z
  ·rw[z];exact nit b u e
  ·exact nit c _ z
theorem bt.tok(I:bt X pins σ H s)(t:Nat):bt X pins σ H { s with toks:=t }:=I.un (h':=s.heap) (t':=t) Un.refl I.hok
theorem bt.kept{t':Nat}(I:bt X pins σ H s)(k:∀b u,s.heap.get? b=some u->h'.get? b=some u):bt X pins σ H { s with heap:=h',toks:=t' }:=I.un (Un.kept k) (I.hok.kept k)
theorem bt.laid{a:Addr}{o:HO}{t':Nat}(I:bt X pins σ H s)(k:∀b u,s.heap.get? b=some u->h'.get? b=some u)(hp:s.heap.objs.size<=a)(new:fg X.prog X.w (eS H a o) h' a o) :
  bt X pins σ (eS H a o) { s with heap:=h',toks:=t' }:=I.un (Un.laid k hp (I.hok.fresh hp)) (I.hok.laid k hp new)
theorem bt.write{x e:Addr}{o:HO}{t':Nat}(I:bt X pins σ H s)(mu:NZ (H x))(he:e=x\/H e=some (.own x))(k:∀b u,b≠e->s.heap.get? b=some u->h'.get? b=some u)(Hy:∃u,h'.get? e=some u)
  (new:fg X.prog X.w (eS H x o) h' x o):bt X pins σ (eS H x o) { s with heap:=h',toks:=t' }:=I.un (Un.write mu he k Hy) (I.hok.write mu he k Hy new)
theorem bt.pins_of{pins':List (Addr×Obj)}(I:bt X pins σ H s)(h:∀p∈pins',s.heap.get? p.1=some p.2/\H p.1=none/\p.1≠X.env.locals/\p.1∉X.fs/\∀v,p.2.data≠.cell v):bt X pins' σ H s:=
 ⟨I.ok,I.os,I.bare,I.base,I.loc,I.cell,I.free,I.freeC,fun p hp=>(a9.mp hp).elim (fun z=>I.pin p (dF _ z)) (h p),I.hok,I.len⟩
theorem sP{N:List Str}(hN:N.Nodup){i j:Nat}{x:Str}(a:N[i]?=some x)(b:N[j]?=some x):i=j:=by
 obtain⟨h1,e1⟩:=aa.mp a
 obtain⟨h2,e2⟩:=aa.mp b
 exact(List.getElem_inj hN).mp (e1.trans e2.symm)
theorem Ck{M:Model}{A:Around}{E:Value->Shared->Prop}{i:Nat}{x:Str}{v:V}{u:Value}{Q:Unit->Shared->Prop}(I:bt X pins σ H s)(hN:X.N.Nodup)(hi:X.N[i]?=some x)(hx:Hr X.env.scope x)(r:cb v u)
  (h:∀s',bt X pins (σ.set i (some v)) H s'->(∃a,Heap.SameBut a s.heap s'.heap/\(a=X.env.locals\/X.env.cells.lookup x=some a))->Q () s') (hf:X.fn x=true\/X.env.scope.names.lookup x=some .local:=by first|exact .inl rfl|exact .inr rfl|assumption):wpAny M A (storeName X.env x u) Q E s:=by
 obtain⟨m,hn,hl⟩:=id I.loc
 have Hn:(X.env.scope.kind==.class||(X.env.scope.kind==.module&&X.env.locals != X.env.globals))=false:=by rw[I.ok.kind];rfl
 have hiσ:i<σ.length:=by rw[I.len];exact(aa.mp hi).1
 have cne:=I.cne
 have tracked:∀{a:Addr} {h':Heap},(∃o,s.heap.get? a=some o/\H a=none)->Heap.SameBut a s.heap h'->pe X.prog X.w H h':=fun{a h'} ha hs b ob e=>by
  obtain⟨_,_,hfree⟩:=ha
  refine(I.hok b ob e).stay (fun c w' hc q=>(hs.2 c ?_).trans q) (fun _ q=>q) fun _ _ q=>q
  rintro rfl
  rcases hc with rfl|hc
  ·rw[hfree]at e;cases e
  ·rw[hfree]at hc;cases hc
 rcases hx with hk|hk
 ·refine wpAny_storeName_local hk hn (fun h' RT hs=>?_) Hn
  obtain⟨oL,_,_,hoL,_⟩:=id hn
  refine h _ ⟨I.ok,I.os,I.bare,⟨fun b o e n hb hx=>?_,fun b o e n hb hx=>?_,I.base.free,fun b o e hx=>?_,I.base.tups,I.base.frzs,I.base.tbls⟩,⟨_,RT,fun j y v' e1 e2 e3=>?_⟩,fun y c e=>?_,I.free,I.freeC,fun p hp=>?_,tracked ⟨oL,hoL,I.free⟩ hs,by simpa using I.len⟩ ⟨_,hs,.inl rfl⟩
  ·exact(hs.2 b (be (aV (aI e) I.ok.above))).trans (I.base.keep b o e n hb hx)
  ·obtain⟨sl,e1⟩:=I.base.slot b o e n hb hx
   exact⟨sl,(hs.2 b (be (aV (aI e) I.ok.above))).trans e1⟩
  ·obtain⟨o',e1⟩:=I.base.there b o e hx
   exact⟨o',(hs.2 b (be (aV (aI e) I.ok.above))).trans e1⟩
  ·by_cases hj:j=i
   ·subst hj
    rw[hi]at e1;cases e1
    rw[ba hiσ]at e2
    cases e2
    exact⟨u,r,.inl ⟨hk,by simp⟩⟩
   ·rw[aQ (Ne.symm hj)]at e2
    obtain⟨u',r',q⟩:=hl j y v' e1 e2 e3
    refine⟨u',r',?_⟩
    rcases q with⟨k,e⟩|⟨k,c,e,z⟩
    ·refine .inl ⟨k,?_⟩
     have:y≠x:=fun e=>hj (sP hN e1 (e▸hi))
     simp[this,e]
    ·exact .inr ⟨k,c,e,z.sameBut hs (cne y c e)⟩
  ·obtain⟨w',z⟩:=I.cell y c e
   exact⟨w',z.sameBut hs (cne y c e)⟩
  ·obtain⟨e,n,ne,nf,d⟩:=I.pin p hp
   exact⟨(hs.2 p.1 ne).trans e,n,ne,nf,d⟩
 ·have hfn:X.fn x=true:=by
   rcases hf with z|z
   ·exact z
   ·rw[z]at hk;cases hk
  obtain⟨c,hc⟩:=I.ok.has x (.inl hk)
  obtain⟨w',z⟩:=I.cell x c hc
  refine wpAny_storeName_cell I.ok.kind hk hc z (fun h' hc' hs=>?_)
  obtain⟨oc,hoc,hocd⟩:=id z
  refine h { s with heap:=h' } ⟨I.ok,I.os,I.bare,⟨fun b o e n hb hx=>?_,fun b o e n hb hx=>?_,I.base.free,fun b o e hx=>?_,I.base.tups,I.base.frzs,I.base.tbls⟩,⟨m,hn.sameBut hs (Ne.symm (cne x c hc)),fun j y v' e1 e2 e3=>?_⟩,fun y c' e=>?_,I.free,I.freeC,fun p hp=>?_,tracked ⟨oc,hoc,I.freeC x c hc⟩ hs,by simpa using I.len⟩ ⟨c,hs,.inr hc⟩
  ·exact(hs.2 b (be (aV (aI e) (I.ok.cab x c hfn hc)))).trans (I.base.keep b o e n hb hx)
  ·obtain⟨sl,e1⟩:=I.base.slot b o e n hb hx
   exact⟨sl,(hs.2 b (be (aV (aI e) (I.ok.cab x c hfn hc)))).trans e1⟩
  ·obtain⟨o',e1⟩:=I.base.there b o e hx
   exact⟨o',(hs.2 b (be (aV (aI e) (I.ok.cab x c hfn hc)))).trans e1⟩
  ·by_cases hj:j=i
   ·subst hj
    rw[hi]at e1;cases e1
    rw[ba hiσ]at e2
    cases e2
    exact⟨u,r,.inr ⟨.inl hk,c,hc,hc'⟩⟩
   ·rw[aQ (Ne.symm hj)]at e2
    obtain⟨u',r',q⟩:=hl j y v' e1 e2 e3
    refine⟨u',r',?_⟩
    rcases q with q|⟨k,c',e,z'⟩
    ·exact .inl q
    ·refine .inr ⟨k,c',e,z'.sameBut hs ?_⟩
     rintro rfl
     exact hj (sP hN e1 (I.ok.inj _ _ _ e hc▸hi))
  ·by_cases hcc:c'=c
   ·subst hcc;exact⟨_,hc'⟩
   ·obtain⟨w2,z2⟩:=I.cell y c' e
    exact⟨w2,z2.sameBut hs hcc⟩
  ·obtain⟨e,n,ne,nf,d⟩:=I.pin p hp
   refine⟨(hs.2 p.1 ?_).trans e,n,ne,nf,d⟩
   intro q
   rw[q,hoc]at e
   have q':oc=p.2:=aZ e
   exact d w' (by rw[<- q'];exact hocd)
theorem m7{M:Model}{A:Around}{E:Value->Shared->Prop}{i:Nat}{x:Str}{v:V}{u:Value}{Q:Unit->Shared->Prop}(I:bt X pins σ H s)(hN:X.N.Nodup)(hi:X.N[i]?=some x)(hx:Hr X.env.scope x)(r:cb v u)
  (h:∀s',bt X pins (σ.set i (some v)) H s'->Q () s') (hf:X.fn x=true\/X.env.scope.names.lookup x=some .local:=by first|exact .inl rfl|exact .inr rfl|assumption):wpAny M A (storeName X.env x u) Q E s:=
 Ck I hN hi hx r (fun s' I' _=>h s' I') hf
theorem bt.call'{s':Shared}{ch:List Addr}(I:bt X pins σ H s)(ho:s'.os=s.os)(u:Un (pL X.stack) ch H H' s.heap s'.heap)(hok:pe X.prog X.w H' s'.heap)(hg:AllBare s'.gens)
  (Hw:∀b∈ch,(b∈X.ex\/X.s₀.heap.objs.size<=b)/\b≠X.env.locals/\(∀x c,X.env.cells.lookup x=some c->c≠b)/\∀p∈X.pn++pins,p.1≠b):bt X pins σ H' s':=by
 obtain⟨h',g',d',t',o'⟩:=s'
 have e:o'=s.os:=ho
 subst e
 exact I.call (g':=g') (t':=t') (d':=d') u hok hg Hw
end
abbrev XK:=Value->Option Addr->Hp->Prop
abbrev St:=List (Option V)
abbrev VK:=V->Hp->Prop
abbrev TE:=St->Hp->VK->Prop
abbrev TT:=St->Hp->(Bool->Hp->Prop)->Prop
abbrev TA:=St->Hp->(List V->Hp->Prop)->Prop
structure v5 where
 nx:St->Hp->Prop
 rt:VK
 bk:St->Hp->Prop:=fun _ _=>False
 ct:St->Hp->Prop:=fun _ _=>False
abbrev TS:=v5->St->Hp->Prop
def EP(X:Cx)(pins:List (Addr×Obj))(σ:St)(Q:VK)(u:Value)(s':Shared):Prop:=∃v H',bt X pins σ H' s'/\cb v u/\Q v H'
def TP(X:Cx)(pins:List (Addr×Obj))(σ:St)(Q:Bool->Hp->Prop)(b:Bool)(s':Shared):Prop:=∃H',bt X pins σ H' s'/\Q b H'
def AP(X:Cx)(pins:List (Addr×Obj))(σ:St)(Q:List V->Hp->Prop)(us:List Value)(s':Shared):Prop:=∃vs H',bt X pins σ H' s'/\cV vs us/\Q vs H'
def SP(X:Cx)(pins:List (Addr×Obj))(D:v5)(f:Flow)(s':Shared):Prop:=
 match f with
 |.next=>∃σ' H',bt X pins σ' H' s'/\D.nx σ' H'
 |.brk=>∃σ' H',bt X pins σ' H' s'/\D.bk σ' H'
 |.cont=>∃σ' H',bt X pins σ' H' s'/\D.ct σ' H'
 |.ret u=>∃v σ' H',bt X pins σ' H' s'/\cb v u/\D.rt v H'
def PE(X:Cx)(e:Expr)(t:TE):Prop:=
 ∀(pins:List (Addr×Obj)) (s:Shared) (σ:St) (H:Hp) (Q:VK),bt X pins σ H s->t σ H Q->wpAny (model X.prog X.w) X.A (eval e X.env) (EP X pins σ Q) X.xe s
def PT(X:Cx)(e:Expr)(t:TT):Prop:=
 ∀(pins:List (Addr×Obj)) (s:Shared) (σ:St) (H:Hp) (Q:Bool->Hp->Prop),bt X pins σ H s->t σ H Q->wpAny (model X.prog X.w) X.A (isTrue e X.env (eval e X.env)) (TP X pins σ Q) X.xe s
def PW(X:Cx)(e:Expr)(t:TT):Prop:=
 ∀(uC:Sem Value) (pins:List (Addr×Obj)) (s:Shared) (σ:St) (H:Hp) (Q:Bool->Hp->Prop),bt X pins σ H s->t σ H Q->wpAny (model X.prog X.w) X.A (isTrue e X.env uC) (TP X pins σ Q) X.xe s
theorem PW.pt{X:Cx}{e:Expr}{t:TT}(h:PW X e t):PT X e t:=h _
def PA(X:Cx)(es:List Expr)(t:TA):Prop:=
 ∀(pos:Pos) (pins:List (Addr×Obj)) (s:Shared) (σ:St) (H:Hp) (Q:List V->Hp->Prop),bt X pins σ H s->t σ H Q->wpAny (model X.prog X.w) X.A (spliced (backTo pos (starEach es X.env))) (AP X pins σ Q) X.xe s
def PS(X:Cx)(st:Stmt)(t:TS):Prop:=
 ∀(pins:List (Addr×Obj)) (s:Shared) (σ:St) (H:Hp) (D:v5),bt X pins σ H s->t D σ H->wpAny (model X.prog X.w) X.A (exec st X.env) (SP X pins D) X.xe s
def Cm(X:Cx)(st:List Stmt)(t:TS):Prop:=
 ∀(pins:List (Addr×Obj)) (s:Shared) (σ:St) (H:Hp) (D:v5),bt X pins σ H s->t D σ H->wpAny (model X.prog X.w) X.A (execs st X.env) (SP X pins D) X.xe s
theorem gs{α:Type}{t:Sem α}{Q Q':α->Shared->Prop}{M:Model}{A:Around}{E:Value->Shared->Prop}{s:Shared}(h:wpAny M A t Q E s)(hQ:∀a s,Q a s->Q' a s):wpAny M A t Q' E s:=cH h hQ fun _ _ x=>x
section
variable{X:Cx}
def N2(i:Nat):TE:=fun σ H Q=>∃v,σ[i]?=some (some v)/\Q v H
def tC(v:V):TE:=fun _ H Q=>Q v H
theorem KW{i:Nat}{x:Str}{pos:Pos}(hN:X.N[i]?=some x)(hv:N1 X.env.scope x)(hd:(x==("__debug__":Str))=false:=by decide)(nK:(x==("__classdict__":Str))=false:=by decide):PE X (.Name x pos) (N2 i):=by
 intro pins s σ H Q I h
 obtain⟨v,e,h⟩:=h
 obtain⟨m,hn,hl⟩:=I.loc
 obtain⟨u,r,l⟩:=hl i x v hN e hv
 have fin:EP X pins σ Q u s:=⟨v,H,I,r,h⟩
 rcases l with⟨hk,hm⟩|⟨hk,c,hc,i6⟩
 ·exact l_ (wpAny_loadName_local I.ok.kind hk hn hm fin) hd
 ·rcases hk with hk|hk
  ·exact l_ (wpAny_loadName_cell I.ok.kind hk hc i6 fin) hd
  ·exact l_ (wpAny_loadName_free I.ok.kind hk hc i6 fin nK) hd
theorem KY{i j pos}:PE X (.Constant (.int i) j pos) (tC (.int i)):=fun _ _ _ H _ I h=>wpAny_Constant_int ⟨.int i,H,I.tok _,⟨_,rfl⟩,h⟩
theorem N3{b j pos}:PE X (.Constant (.bool b) j pos) (tC (.bl b)):=fun _ _ _ H _ I h=>Constant_bool ⟨.bl b,H,I,rfl,h⟩
theorem KZ{j pos}:PE X (.Constant .none j pos) (tC .non):=fun _ _ _ H _ I h=>Constant_none ⟨.non,H,I,rfl,h⟩
theorem K0{x j pos}:PE X (.Constant (.str x) j pos) (tC (.str x)):=fun _ _ _ H _ I h=>Calls.Constant_str ⟨.str x,H,I.tok _,⟨_,rfl⟩,h⟩
def Gl(X:Cx)(x:Str):Prop:=X.env.kindOf x=some .globalImplicit
theorem sy{E:Value->Shared->Prop}{pins:List (Addr×Obj)}{s:Shared}{σ:St}{H:Hp}{x:Str}{u:Value}{pos:Pos}{Q:Value->Shared->Prop}(I:bt X pins σ H s)(hg:Gl X x)(hm:X.mg x=some u)(h:Q u s)
  (hd:(x==("__debug__":Str))=false:=by decide):wpAny (model X.prog X.w) X.A (eval (.Name x pos) X.env) Q E s:=
 km I.ok.kind hg (Calls.loadGlobal_global (by rw[I.ok.glob];exact I.mod.glob.keeps I.bk) hm h) hd
theorem lE{E:Value->Shared->Prop}{pins:List (Addr×Obj)}{s:Shared}{σ:St}{H:Hp}{x:Str}{u:Value}{pos:Pos}{Q:Value->Shared->Prop}(I:bt X pins σ H s)(hg:Gl X x)(hm:X.mg x=none)(hv:bootBuiltins x=some u)(h:Q u s)
  (hn:x ≠ "__name__":=by decide) (hd:(x==("__debug__":Str))=false:=by decide):wpAny (model X.prog X.w) X.A (eval (.Name x pos) X.env) Q E s:=by
 obtain⟨mb,h1,h2⟩:=I.mod.blt
 exact km I.ok.kind hg (Calls.loadGlobal_builtin (by rw[I.ok.glob];exact I.mod.glob.keeps I.bk) hm (by rw[I.ok.blt];exact h1.keeps I.bk) ((h2 x hn).trans hv) h) hd
theorem v7{x:Str}{v:V}{u:Value}{pos:Pos}(hg:Gl X x)(hm:X.mg x=some u)(r:cb v u)(hd:(x==("__debug__":Str))=false:=by decide):PE X (.Name x pos) (tC v):=
 fun _ _ _ H _ I h=>sy I hg hm ⟨v,H,I,r,h⟩ hd
theorem Bf{x:Str}{v:V}{u:Value}{pos:Pos}(hg:Gl X x)(hm:X.mg x=none)(hv:bootBuiltins x=some u)(r:cb v u)(hn:x ≠ "__name__":=by decide)(hd:(x==("__debug__":Str))=false:=by decide):PE X (.Name x pos) (tC v):=
 fun _ _ _ H _ I h=>lE I hg hm hv ⟨v,H,I,r,h⟩ hn hd
variable{a b:Expr}{ta tb:TE}{pos:Pos}
def PC(X:Cx)(op:CmpOp)(a b:Expr)(t:TE):Prop:=
 ∀(pins:List (Addr×Obj)) (s:Shared) (σ:St) (H:Hp) (Q:VK),bt X pins σ H s->t σ H Q ->
  wpAny (model X.prog X.w) X.A (eval a X.env) (fun v s₁=>wpAny (model X.prog X.w) X.A (eval b X.env) (fun u s₂=>wpAny (model X.prog X.w) X.A (compareOp op v u) (EP X pins σ Q) X.xe s₂) X.xe s₁) X.xe s
theorem xW(b:Expr){op:CmpOp}(h:op≠.In)(h2:op≠.NotIn):behindInMarks op b=false:=by
 have e1:(op==CmpOp.In)=false:=by cases op<;>first|rfl|exact absurd rfl h
 have e2:(op==CmpOp.NotIn)=false:=by cases op<;>first|rfl|exact absurd rfl h2
 cases b<;>simp[behindInMarks,e1,e2]
def N4(ta:TE):TE:=fun σ H Q=>ta σ H fun x H1=>Q (.bl (decide (x=.non))) H1
theorem cb.none_iff{x:V}{v:Value}(r:cb x v):(v==Value.none)=decide (x=.non):=by
 cases x with
 |non=>cases r;rfl
 |bl _=>cases r;rfl
 |int _=>obtain⟨t,rfl⟩:=r;rfl
 |str _=>obtain⟨t,rfl⟩:=r;rfl
 |byt _=>obtain⟨t,rfl⟩:=r;rfl
 |flt _=>obtain⟨t,rfl⟩:=r;rfl
 |ref _=>cases r;rfl
 |ty _=>cases r;rfl
theorem DI{j jA}(ha:PE X a ta):PC X .Is a (.Constant .none j jA) (N4 ta):=by
 intro pins s σ H Q I h
 refine gs (ha pins s σ H _ I h) fun v s1 ⟨x,H1,I1,r1,q1⟩=>?_
 exact Constant_none (is_none_gen ⟨.bl _,H1,I1,by rw[r1.none_iff];rfl,q1⟩)
def tB(t:TE):TT:=fun σ H Q=>t σ H fun x H1=>∃c,x=.bl c/\Q c H1
theorem K1{op:CmpOp}{t:TE}(h:PC X op a b t)(h1:behindInMarks op b=false:=by first|exact xW _ (by decide) (by decide)|rfl):PE X (.Compare a [op] [b] pos) t:=fun pins s σ H Q I hw=>wpAny_Compare1 (h pins s σ H Q I hw) h1
theorem K2{op:CmpOp}{t:TE}(h:PC X op a b t)(h1:behindInMarks op b=false:=by first|exact xW _ (by decide) (by decide)|rfl):PT X (.Compare a [op] [b] pos) (tB t):=by
 intro pins s σ H Q I hw
 refine mW (gs (h pins s σ H _ I hw) fun v s1 h1=>gs h1 fun u s2 h2=>gs h2 fun c s3 ⟨x,H1,I1,r1,q1⟩=>?_) h1
 obtain⟨d,rfl,q⟩:=q1
 cases r1
 exact fL ⟨H1,I1,q⟩
theorem K3{e:Expr}{t:TE}(h:PE X e t)(he:∀uC,isTrue e X.env uC=(do let v <- uC;standAt e.pos;holding [v] (truthy v)):=by intro _;rfl):PT X e (tB t):=by
 intro pins s σ H Q I hw
 refine isTrue_plain (gs (h pins s σ H _ I hw) fun v s1 ⟨x,H1,I1,r1,q1⟩=>?_) (he _)
 obtain⟨d,rfl,q⟩:=q1
 cases r1
 exact fL ⟨H1,I1,q⟩
variable{tA Qz:TT}{fz:List Expr}
def Q6(t u:TT):TT:=fun σ H Q=>t σ H fun c H1=>if c=true then u σ H1 Q else Q false H1
def Sn(t u:TT):TT:=fun σ H Q=>t σ H fun c H1=>if c=true then Q true H1 else u σ H1 Q
def Q7(t:TT):TT:=fun σ H Q=>t σ H fun c H1=>Q (!c) H1
theorem HC(ha:PT X a tA):PW X (.BoolOp .And [a] pos) tA:=by
 intro wh pins s σ H Q I h
 refine isTrue_and (gs (ha pins s σ H Q I h) fun c s1 e=>?_)
 cases c with
 |true=>exact isTrue_and_nil e
 |false=>exact e
theorem K4(ha:PT X a tA):PW X (.BoolOp .Or [a] pos) tA:=by
 intro wh pins s σ H Q I h
 refine isTrue_or (gs (ha pins s σ H Q I h) fun c s1 e=>?_)
 cases c with
 |false=>exact isTrue_or_nil e
 |true=>exact e
theorem K5(ha:PT X a tA)(hb:PW X (.BoolOp .And (b::fz) pos) Qz):PW X (.BoolOp .And (a::b::fz) pos) (Q6 tA Qz):=by
 intro wh pins s σ H Q I h
 refine isTrue_and (gs (ha pins s σ H _ I h) fun c s1 ⟨H1,I1,q1⟩=>?_)
 cases c with
 |true=>exact hb wh pins s1 σ H1 Q I1 q1
 |false=>exact⟨H1,I1,q1⟩
theorem N5(ha:PT X a tA)(hb:PW X (.BoolOp .Or (b::fz) pos) Qz):PW X (.BoolOp .Or (a::b::fz) pos) (Sn tA Qz):=by
 intro wh pins s σ H Q I h
 refine isTrue_or (gs (ha pins s σ H _ I h) fun c s1 ⟨H1,I1,q1⟩=>?_)
 cases c with
 |true=>exact⟨H1,I1,q1⟩
 |false=>exact hb wh pins s1 σ H1 Q I1 q1
theorem K6(ha:PT X a tA):PT X (.UnaryOp .Not a pos) (Q7 tA):=by
 intro pins s σ H Q I h
 exact isTrue_not (ha pins s σ H (fun c H1=>Q (!c) H1) I h)
def N6(ta tb:TE):TE:=fun σ H Q=>ta σ H fun x H1=>∃c,x=.bl c/\if c=true then tb σ H1 Q else Q (.bl false) H1
def N7(ta:TE):TE:=fun σ H Q=>ta σ H fun x H1=>∃c,x=.bl c/\Q (.bl (!c)) H1
theorem K7{op}{t:TE}(h:PE X a t):PE X (.BoolOp op [a] pos) t:=fun pins s σ H Q I hw=>BoolOp_one (h pins s σ H Q I hw)
theorem K8(ha:PE X a ta)(hb:PE X (.BoolOp .And (b::fz) pos) tb):PE X (.BoolOp .And (a::b::fz) pos) (N6 ta tb):=by
 intro pins s σ H Q I h
 refine BoolOp_and (gs (ha pins s σ H _ I h) fun v s1 ⟨x,H1,I1,r1,q1⟩=>?_)
 obtain⟨c,rfl,q1⟩:=q1
 cases r1
 refine fL ?_
 cases c with
 |true=>exact hb pins s1 σ H1 Q I1 q1
 |false=>exact⟨.bl false,H1,I1,rfl,q1⟩
theorem K9(ha:PE X a ta):PE X (.UnaryOp .Not a pos) (N7 ta):=by
 intro pins s σ H Q I h
 refine UnaryOp_ (gs (ha pins s σ H _ I h) fun v s1 ⟨x,H1,I1,r1,q1⟩=>?_)
 obtain⟨c,rfl,q1⟩:=q1
 cases r1
 exact not_of (fL ⟨.bl (!c),H1,I1,rfl,q1⟩)
end
def rE(K:Frag)(H:Hp)(a:Addr)(xs:List V):Prop:=
 Rd H a (.lst xs) \/
  ∃(o:Obj) (bJ:Array Value) (n:Nat),K.lookup a=some o/\o.cls=.type "list"/\o.dict=none/\o.data=.seq bJ n/\bJ.size<=sizeLine/\cV xs bJ.toList
def fS(K:Frag)(H:Hp)(a:Addr)(xs:List V):Prop:=
 Rd H a (.tup xs) \/
  ∃(o:Obj) (bJ:Array Value) (n:Nat),K.lookup a=some o/\o.cls=.type "tuple"/\o.data=.seq bJ n/\bJ.size<=sizeLine/\cV xs bJ.toList
def Q8:Value->Option V
 |.none=>some .non
 |.bool b=>some (.bl b)
 |.int i _=>some (.int i)
 |.str x _=>some (.str x)
 |.bytes b _=>some (.byt b)
 |.float b _=>some (.flt b)
 |.ref a=>some (.ref a)
 |.type n=>some (.ty n)
 |_=>none
theorem cb.abs{x:V}{u:Value}(r:cb x u):Q8 u=some x:=by
 cases x with
 |non=>cases r;rfl
 |bl _=>cases r;rfl
 |int _=>obtain⟨t,rfl⟩:=r;rfl
 |str _=>obtain⟨t,rfl⟩:=r;rfl
 |byt _=>obtain⟨t,rfl⟩:=r;rfl
 |flt _=>obtain⟨t,rfl⟩:=r;rfl
 |ref _=>cases r;rfl
 |ty _=>cases r;rfl
theorem cb.inj{x y:V}{u:Value}(r:cb x u)(q:cb y u):x=y:=aZ (r.abs.symm.trans q.abs)
theorem cV.inj:∀{xs ys:List V} {us:List Value},cV xs us->cV ys us->xs=ys
 |_,_,_,.nil,.nil=>rfl
 |_,_,_,.cons r t,.cons r' t'=>by rw[r.inj r',cV.inj t t']
section
variable{X:Cx}{pins:List (Addr×Obj)}{σ:St}{H:Hp}{s:Shared}{a:Addr}{xs ys:List V}
theorem rE.of{K:Frag}(h:H a=some (.lst xs)):rE K H a xs:=.inl (.inl h)
theorem fS.of{K:Frag}(h:H a=some (.tup xs)):fS K H a xs:=.inl (.inl h)
theorem bt.list(I:bt X pins σ H s)(h:rE X.K H a xs):∃bJ:List Value,cV xs bJ/\PlainL s.heap a bJ.toArray/\xs.length<=sizeLine:=by
 rcases h with h|⟨o,bJ,n,hk,hc,hd,hs,hz,r⟩
 ·obtain⟨z,bJ,n,r,e⟩:=h.ok I.hok
  exact⟨bJ,r,⟨_,n,e,rfl,rfl,rfl⟩,z⟩
 ·refine⟨bJ.toList,r,⟨o,n,I.kIn a o hk,hc,hd,by simpa using hs⟩,?_⟩
  have e:=r.length
  simp only[fW]at e
  omega
theorem bt.tuple(I:bt X pins σ H s)(h:fS X.K H a xs):∃bJ:List Value,cV xs bJ/\IsTup s.heap a bJ.toArray/\xs.length<=sizeLine:=by
 rcases h with h|⟨o,bJ,n,hk,hc,hs,hz,r⟩
 ·obtain⟨z,bJ,r,p⟩:=h.ok I.hok
  exact⟨bJ,r,p,z⟩
 ·refine⟨bJ.toList,r,⟨o,I.kIn a o hk,hc,n,by simpa using hs⟩,?_⟩
  have e:=r.length
  simp only[fW]at e
  omega
theorem bt.list_inj(I:bt X pins σ H s)(h:rE X.K H a xs)(h':rE X.K H a ys):xs=ys:=by
 obtain⟨bJ,r,⟨o,n,e,_,_,d⟩,_⟩:=I.list h
 obtain⟨its',r',⟨o',n',e',_,_,d'⟩,_⟩:=I.list h'
 rw[e]at e';cases e'
 rw[d]at d'
 injection d' with d1 _
 have:bJ=its':=by simpa using fM Array.toList d1
 subst this
 exact r.inj r'
theorem bt.tuple_inj(I:bt X pins σ H s)(h:fS X.K H a xs)(h':fS X.K H a ys):xs=ys:=by
 obtain⟨bJ,r,⟨o,e,_,n,d⟩,_⟩:=I.tuple h
 obtain⟨its',r',⟨o',e',_,n',d'⟩,_⟩:=I.tuple h'
 rw[e]at e';cases e'
 rw[d]at d'
 injection d' with d1 _
 have:bJ=its':=by simpa using fM Array.toList d1
 subst this
 exact r.inj r'
end
section
variable{X:Cx}{pins:List (Addr×Obj)}{σ:St}{H:Hp}{s:Shared}{E:Value->Shared->Prop}
end
section
variable{X:Cx}{st:Stmt}{fz:List Stmt}{t u:TS}{e:Expr}{te:TE}{pos:Pos}
def N8:TS:=fun D σ H=>D.nx σ H
def Q9(t u:TS):TS:=fun D σ H=>t { D with nx:=u D } σ H
theorem HD:Cm X [] N8:=fun _ _ σ H _ I h=>ii ⟨σ,H,I,h⟩
theorem DJ(h1:PS X st t)(h2:Cm X fz u):Cm X (st::fz) (Q9 t u):=by
 intro pins s σ H D I h
 refine wpAny_execs_cons (gs (h1 pins s σ H { D with nx:=u D } I h) fun f s1 q=>?_)
 cases f with
 |next=>
  obtain⟨σ',H',I',q⟩:=q
  exact h2 pins s1 σ' H' D I' q
 |ret v=>exact q
 |brk=>exact q
 |cont=>exact q
theorem HE(h1:PS X st t):Cm X [st] t:=by
 intro pins s σ H D I h
 refine wpAny_execs_cons (gs (h1 pins s σ H D I h) fun f s1 q=>?_)
 cases f with
 |next=>exact ii q
 |ret v=>exact q
 |brk=>exact q
 |cont=>exact q
def K_:TS:=fun D σ H=>D.bk σ H
theorem DL:PS X (.Break pos) K_:=fun _ _ σ H _ I h=>wpAny_Break ⟨σ,H,I,h⟩
theorem bt.quiet{pins:List (Addr×Obj)}{σ:St}{H:Hp}{s:Shared}(I:bt X pins σ H s):interactive X.env=false:=by simp[interactive,I.ok.kind]
def N9(te:TE):TS:=fun D σ H=>te σ H fun _ H1=>D.nx σ H1
theorem HF(he:PE X e te)(hs:swapsWith e none pos.line X.env=pure false:=by rfl):PS X (.Expr e pos) (N9 te):=by
 intro pins s σ H D I h
 exact wpAny_Expr_any (gs (he pins s σ H _ I h) fun v s1 ⟨x,H1,I1,r1,q1⟩=>⟨σ,H1,I1,q1⟩) I.quiet hs
def Q_(te:TE):TS:=fun D σ H=>te σ H D.rt
theorem K'(he:PE X e te):PS X (.Return (some e) pos) (Q_ te):=by
 intro pins s σ H D I h
 exact wpAny_Return_some (gs (he pins s σ H _ I h) fun v s1 ⟨x,H1,I1,r1,q1⟩=>⟨x,σ,H1,I1,r1,q1⟩)
def Ra(c:TT)(t u:TS):TS:=fun D σ H=>c σ H fun b H1=>if b=true then t D σ H1 else u D σ H1
theorem N_{c:Expr}{a b:List Stmt}{tc:TT}(hc:PT X c tc)(ha:Cm X a t)(hb:Cm X b u):PS X (.If c a b pos) (Ra tc t u):=by
 intro pins s σ H D I h
 refine wpAny_If (gs (hc pins s σ H _ I h) fun d s1 ⟨H1,I1,q1⟩=>?_)
 cases d with
 |true=>exact ha pins s1 σ H1 D I1 q1
 |false=>exact hb pins s1 σ H1 D I1 q1
end
abbrev TG:=V->St->Hp->(St->Hp->Prop)->Prop
abbrev HG:=List V->St->Hp->(St->Hp->Prop)->Prop
def PG(X:Cx)(No:Expr)(t:TG):Prop:=
 ∀(pins:List (Addr×Obj)) (s:Shared) (σ:St) (H:Hp) (v:V) (u:Value) (Q:St->Hp->Prop),bt X pins σ H s->cb v u->t v σ H Q ->
  wpAny (model X.prog X.w) X.A (assign No X.env u) (fun _ s'=>∃σ' H',bt X pins σ' H' s'/\Q σ' H') X.xe s
def JI(X:Cx)(ts:List Expr)(t:HG):Prop:=
 ∀(pins:List (Addr×Obj)) (s:Shared) (σ:St) (H:Hp) (vs:List V) (us:List Value) (Q:St->Hp->Prop),bt X pins σ H s->cV vs us->t vs σ H Q ->
  wpAny (model X.prog X.w) X.A (assignInOrder ((assignEach ts X.env).map (·.2)) us) (fun _ s'=>∃σ' H',bt X pins σ' H' s'/\Q σ' H') X.xe s
abbrev HH:=V->V->V->Hp->(Hp->Prop)->Prop
def Cn(X:Cx)(t:HH):Prop:=
 ∀(pins:List (Addr×Obj)) (s:Shared) (σ:St) (H:Hp) (o i v:V) (ov iv u:Value) (Q:Hp->Prop),bt X pins σ H s->cb o ov->cb i iv->cb v u->t o i v H Q ->
  wpAny (model X.prog X.w) X.A (setItem ov iv u) (fun _ s'=>∃H',bt X pins σ H' s'/\Q H') X.xe s
section
variable{X:Cx}{pos:Pos}
def JJ(i:Nat):TG:=fun v σ H Q=>Q (σ.set i (some v)) H
theorem HI{i:Nat}{x:Str}(hN:X.N.Nodup)(hi:X.N[i]?=some x)(hx:Hr X.env.scope x)(hf:X.fn x=true\/X.env.scope.names.lookup x=some .local:=by first|exact .inl rfl|exact .inr rfl|assumption):PG X (.Name x pos) (JJ i):=by
 intro pins s σ H v u Q I r h
 exact wpAny_assign_Name (m7 I hN hi hx r (fun s' I'=>⟨_,H,I',h⟩) hf)
def Rb:HG:=fun vs σ H Q=>vs=[]/\Q σ H
def Oa(t:TG)(u:HG):HG:=fun vs σ H Q=>∃v r,vs=v::r/\t v σ H fun σ' H'=>u r σ' H' Q
theorem HJ:JI X [] Rb:=by
 intro pins s σ H vs us Q I r h
 obtain⟨e,h⟩:=h
 subst e
 cases r
 exact assignInOrder_nil ⟨σ,H,I,h⟩
theorem DM{e:Expr}{es:List Expr}{t:TG}{u:HG}(h1:PG X e t)(h2:JI X es u)
  (hs:(assignEach (e::es) X.env).map (·.2)=assign e X.env::(assignEach es X.env).map (·.2):=by rfl):JI X (e::es) (Oa t u):=by
 intro pins s σ H vs us Q I r h
 obtain⟨v,vr,e1,h⟩:=h
 subst e1
 cases r with
 |cons r rr=>
  rw[hs]
  refine kn (gs (h1 pins s σ H _ _ _ I r h) fun _ s1 ⟨σ1,H1,I1,q1⟩=>?_)
  exact h2 pins s1 σ1 H1 _ _ Q I1 rr q1
def Rc(K:Frag)(n:Nat)(t:HG):TG:=fun v σ H Q=>∃a xs,v=.ref a/\fS K H a xs/\xs.length=n/\t xs σ H Q
theorem La{es:List Expr}{k:Nat}{t:HG}{n:Nat}(hc:X.calm=true)(h:JI X es t)
  (hn:(assignEach es X.env).length=n:=by rfl) (nM:(assignEach es X.env).findIdx? (·.1)=none:=by rfl):PG X (.Tuple es k pos) (Rc X.K n t):=by
 intro pins s σ H v u Q I r hw
 obtain⟨a,xs,e1,hq,hl,hw⟩:=hw
 subst e1
 cases r
 obtain⟨bJ,rv,ht,hz⟩:=I.tuple hq
 refine assign_Tuple_tuple (I.ok.hd hc) ht (by simp[hn,<- hl,rv.length]) nM fun h' hx=>?_
 have I1:bt X pins σ H { s with heap:=h' }:=I.kept (t':=s.toks) fun b o e=>hx b o (be (aI e)) e
 exact h pins _ σ H xs _ Q I1 (by simpa using rv) hw
def Re(to ti:TE)(t:HH):TG:=fun v σ H Q=>to σ H fun o H1=>ti σ H1 fun i H2=>t o i v H2 fun H3=>Q σ H3
theorem Lb{o i:Expr}{to ti:TE}{t:HH}(ho:PE X o to)(hi:PE X i ti)(hs:Cn X t)
  (ha:∀v,assign (.Subscript o i pos) X.env v=(do
   let ov <- holding [v] (eval o X.env)
   let iv <- holding [v,ov] (eval i X.env)
   standAt pos
   holding [v,ov,iv] (setItem ov iv v)
   release [v,ov,iv] []):=by intro _;rfl):PG X (.Subscript o i pos) (Re to ti t):=by
 intro pins s σ H v u Q I r h
 rw[ha]
 refine ak (eA (gs (ho pins s σ H _ I h) fun ov s1 ⟨x,H1,I1,r1,q1⟩=>?_))
 refine ak (eA (gs (hi pins s1 σ H1 _ I1 q1) fun iv s2 ⟨y,H2,I2,r2,q2⟩=>?_))
 refine ak (ib (ak (eA (gs (hs pins s2 σ H2 x y v ov iv u _ I2 r1 r2 r q2) fun _ s3 ⟨H3,I3,q3⟩=>?_))))
 exact wpAny_release ⟨σ,H3,I3,q3⟩
def DN(te:TE)(g:TG):TS:=fun D σ H=>te σ H fun x H1=>g x σ H1 D.nx
theorem DO{tg e:Expr}{te:TE}{g:TG}(he:PE X e te)(hg:PG X tg g)(hs:swapsWithSole [tg] e pos.line X.env=pure false:=by rfl)(hw:swappedStores [tg] e X.env=pure none:=by rfl)
  (h1:(assignEach [tg] X.env).map (·.2)=[assign tg X.env]:=by rfl):PS X (.Assign [tg] e pos) (DN te g):=by
 intro pins s σ H D I h
 refine wpAny_Assign_stores (gs (he pins s σ H _ I h) fun v s1 ⟨x,H1,I1,r1,q1⟩=>?_) hs hw
 rw[h1]
 exact gs (hg pins s1 σ H1 x v _ I1 r1 q1) fun _ s2 q=>q
theorem Lc{i:Nat}{x:Str}{e:Expr}{te:TE}{jA:Pos}(hN:X.N.Nodup)(hi:X.N[i]?=some x)(hx:Hr X.env.scope x)(he:PE X e te)(hs:swapsWith e (some (.Name x jA)) pos.line X.env=pure false:=by rfl)(hf:X.fn x=true\/X.env.scope.names.lookup x=some .local:=by first|exact .inl rfl|exact .inr rfl|assumption) :
  PS X (.Assign [.Name x jA] e pos) (DN te (JJ i)):=by
 intro pins s σ H D I h
 refine wpAny_Assign_Name (gs (he pins s σ H _ I h) fun v s1 ⟨y,H1,I1,r1,q1⟩=>?_) hs
 exact m7 I1 hN hi hx r1 (fun s2 I2=>⟨_,H1,I2,q1⟩) hf
def Rf(i j:Nat)(ta:TA):TS:=fun D σ H=>ta σ H fun vs H1=>∃v w,vs=[v,w]/\D.nx ((σ.set i (some v)).set j (some w)) H1
theorem Ld{i j:Nat}{x y:Str}{a b:Expr}{ta:TA}{px py pt:Pos}{kt k2 pt2}(hc:X.calm=true)(hN:X.N.Nodup)(hi:X.N[i]?=some x)(hj:X.N[j]?=some y)(QB:i≠j)
  (hx:X.env.scope.names.lookup x=some .local) (hy:X.env.scope.names.lookup y=some .local) (ha:PA X [a,b] ta)
  (hw:swappedStores [.Tuple [.Name x px,.Name y py] kt pt] (.Tuple [a,b] k2 pt2) X.env=pure (some [x,y]))
  (hs:swapsWithSole [.Tuple [.Name x px,.Name y py] kt pt] (.Tuple [a,b] k2 pt2) pos.line X.env=pure false:=by rfl) :
  PS X (.Assign [.Tuple [.Name x px,.Name y py] kt pt] (.Tuple [a,b] k2 pt2) pos) (Rf i j ta):=by
 intro pins s σ H D I h
 rw[exec_Assign_arm]
 refine ak (ib ?_)
 rw[hs]
 refine ak (aJ ?_)
 rw[aE (by decide)]
 refine ak (Tuple_ (gs (ha _ pins s σ H _ I h) fun us s1 ⟨vs,H1,I1,r1,q1⟩=>?_))
 obtain⟨v,w,e1,q1⟩:=q1
 subst e1
 obtain⟨u1,u2,rfl,rv,m5⟩:∃u1 u2,us=[u1,u2]/\cb v u1/\cb w u2:=by
  cases r1 with
  |cons p q=>
   cases q with
   |cons p' q'=>
    cases q'
    exact⟨_,_,rfl,p,p'⟩
 refine cw ?_ (by show 2<=sizeLine;decide)
 have I2:bt X pins σ H1 { s1 with heap:=s1.heap.push { cls:=.type "tuple",data:=.seq [u1,u2].toArray } }:=I1.kept (t':=s1.toks) fun b o e=>ar _ e
 rw[hw]
 refine ak (aJ ?_)
 show wpAny (model X.prog X.w) X.A (do rule "assign.swapped-stores";let items <- unpackItems (.ref s1.heap.objs.size) 2 none;assignInOrder [fun v=>bindName X.env y v,fun v=>bindName X.env x v] items.reverse;pure Flow.next) _ _ _
 refine ak (pH (ak (unpackItems_tuple (items:=#[u1,u2]) (I.ok.hd hc) (rC s1.heap _) fun h' hx'=>?_)))
 have I3:=I2.kept (h':=h') (t':=s1.toks) fun b o e=>hx' b o (be (aI e)) e
 show wpAny _ _ (assignInOrder [fun v=>bindName X.env y v,fun v=>bindName X.env x v] [u2,u1] >>= fun _=>pure Flow.next) _ _ _
 refine ak (kn (wpAny_bindName (m7 I3 hN hj (.inl hy) m5 (fun s2 I4=>?_) (.inr hy))))
 refine kn (wpAny_bindName (m7 I4 hN hi (.inl hx) rv (fun s3 I5=>assignInOrder_nil (aJ ?_)) (.inr hx)))
 rw[List.set_comm _ _ (Ne.symm QB)]at I5
 exact⟨_,H1,I5,q1⟩
end
section
variable{X:Cx}{pos:Pos}
def DP(c:TT)(tb:TS):TS:=fun D σ H=>∃W:Nat->St->Hp->Prop,(∃m,W m σ H)/\∀m σ H,W m σ H ->
 c σ H fun b H1=>if b=true then ∃N:St->Hp->Prop,(∀σ' H',N σ' H'->∃m',m'<m/\W m' σ' H')/\tb { D with nx:=N,ct:=N,bk:=D.nx } σ H1 else D.nx σ H1
theorem DQ{c:Expr}{body:List Stmt}{tc:TT}{tb:TS}(hp:PassesOwn (model X.prog X.w) X.A X.env X.xe)(hc:PT X c tc)(hb:Cm X body tb):PS X (.While c body [] pos) (DP tc tb):=by
 intro pins s σ H D I h
 obtain⟨W,⟨m0,w0⟩,turn⟩:=h
 refine wpAny_While (codeAny_whileLoop (fun n s'=>∃σ' H',bt X pins σ' H' s'/\W n σ' H') ?_ m0 ⟨σ,H,I,w0⟩)
 rintro n s1 ⟨σ1,H1,I1,w1⟩
 refine fG hp (gs (hc pins s1 σ1 H1 _ I1 (turn n σ1 H1 w1)) fun b s2 ⟨H2,I2,q2⟩=>?_)
 cases b with
 |true=>
  obtain⟨N,hN,q2⟩:=q2
  rw[aB rfl]
  refine fG hp (gs (hb pins s2 σ1 H2 _ I2 q2) fun f s3 q3=>?_)
  cases f with
  |next=>
   obtain⟨σ3,H3,I3,n3⟩:=q3
   obtain⟨m',hm,w3⟩:=hN σ3 H3 n3
   exact⟨m',hm,σ3,H3,I3,w3⟩
  |cont=>
   obtain⟨σ3,H3,I3,n3⟩:=q3
   obtain⟨m',hm,w3⟩:=hN σ3 H3 n3
   exact⟨m',hm,σ3,H3,I3,w3⟩
  |brk=>exact q3
  |ret v=>exact q3
 |false=>
  rw[aE eu]
  exact ii ⟨σ1,H2,I2,q2⟩
end
structure It where
 go:Nat->Hp->Prop
 yld:Nat->Hp->V->Hp->Prop
 stop:Nat->Hp->Prop
def pf(X:Cx)(pins:List (Addr×Obj))(H:Hp)(b:Addr):Prop:=
 H b=none/\b≠X.env.locals/\b∉X.fs/\(b∈X.ex\/X.s₀.heap.objs.size<=b)/\(∀x c,X.env.cells.lookup x=some c->c≠b)/\∀p∈X.pn++pins,p.1≠b
theorem bt.fpOk{X:Cx}{pins:List (Addr×Obj)}{σ:St}{H H':Hp}{s:Shared}{b:Addr}(I:bt X pins σ H s)(hb:s.heap.objs.size<=b)(hn:H' b=none):pf X pins H' b:=by
 refine⟨hn,ma (aV I.lt hb),I.nofs hb,.inr (a7 I.sz hb),fun x c e z=>?_,fun p hp z=>?_⟩
 ·obtain⟨v,q⟩:=I.cell x c e
  exact absurd (aV q.lt (by rw[z];exact hb)) (bo _)
 ·exact absurd (aV (aI (I.pin p hp).1) (by rw[z];exact hb)) (bo _)
structure zP(P:Program)(w:World)(K:Frag)(tg:Expr)(J:It)(fp:List Addr)(it:Addr)(tn:Nat->Heap->Prop):Prop where
 mem:it∈fp
 obj:∀i h,tn i h->∀b∈fp,∃o,h.get? b=some o/\∀v,o.data≠.cell v
 keep:∀i h h',tn i h->(∀b∈fp,∀o,h.get? b=some o->h'.get? b=some o)->tn i h'
 item:∀(X:Cx),X.prog=P->X.w=w->X.K=K->X.calm=true->∀(i:Nat) (pins:List (Addr×Obj)) (s:Shared) (σ:St) (H:Hp) (E:Value->Shared->Prop),bt X pins σ H s->(∀b∈fp,pf X pins H b)->tn i s.heap->J.go i H ->
  wpAny (model P w) X.A (pyNext (.ref it)) (fun r s1=>∃u,r=some u /\
   wpAny (model P w) X.A (letOwnedTupleGo tg (.ref it) u) (fun _ s2=>∃x H',bt X pins σ H' s2/\cb x u/\J.yld i H x H'/\tn (i+1) s2.heap/\∀b∈fp,H' b=none) E s1) E s
 done:∀(X:Cx),X.prog=P->X.w=w->X.K=K->X.calm=true->∀(i:Nat) (pins:List (Addr×Obj)) (s:Shared) (σ:St) (H:Hp) (E:Value->Shared->Prop),bt X pins σ H s->(∀b∈fp,pf X pins H b)->tn i s.heap->J.stop i H ->
  wpAny (model P w) X.A (pyNext (.ref it)) (fun r s1=>r=none/\bt X pins σ H s1) E s
 self:∀(A:Around) (i:Nat) (s:Shared) (Q:Value->Shared->Prop) (E:Value->Shared->Prop),tn i s.heap->Q (.ref it) s->wpAny (model P w) A (pyIter (.ref it)) Q E s
abbrev TI:=St->Hp->(It->Hp->Prop)->Prop
def QM(X:Cx)(pins:List (Addr×Obj))(σ:St)(tg:Expr)(R:It->Hp->Prop)(QY:Value)(s2:Shared):Prop:=
 ∃(it:Addr) (fp:List Addr) (tn:Nat->Heap->Prop) (J:It) (H':Hp),QY=.ref it/\bt X pins σ H' s2/\zP X.prog X.w X.K tg J fp it tn/\tn 0 s2.heap/\(∀b∈fp,pf X pins H' b)/\R J H'
def PI(X:Cx)(tg iter:Expr)(wi:TI):Prop:=
 ∀(pins:List (Addr×Obj)) (s:Shared) (σ:St) (H:Hp) (R:It->Hp->Prop),bt X pins σ H s->wi σ H R ->
  wpAny (model X.prog X.w) X.A (eval iter X.env) (fun v s1=>wpAny (model X.prog X.w) X.A (pyIter v) (QM X pins σ tg R) X.xe s1) X.xe s
theorem xX    {M : Model} {A : Around} {E : Value -> Shared -> Prop} {s : Shared} {tg : Expr} {it : Addr} {u : Value} {o : Obj} {n : String} {vs : Array Value} {Q : Unit -> Shared -> Prop} (ho : s.heap.get? it = some o) (hc : o.cls = .type n) (hd : o.data = .fields vs)
    (hn : ["enumerate", "zip", "dict_itemiterator", "dict_reverseitemiterator", "odict_iterator", "itertools.zip_longest", "itertools.pairwise"].contains n = false) (hQ : Q () s) : wpAny M A (letOwnedTupleGo tg (.ref it) u) Q E s := by
  unfold letOwnedTupleGo
  cases tg <;> first
    | exact aJ         hQ
    | (cases u <;> first
        | exact aJ         hQ
        | (refine ak         (wpAny_load ho ?_)
           rw [hc, hd]
           show wpAny M A (if (["enumerate", "zip", "dict_itemiterator", "dict_reverseitemiterator", "odict_iterator", "itertools.zip_longest", "itertools.pairwise"].contains n && vs[0]? == some (rawInt _)) = true then _ else _) Q E s
           rw [aE     (by intro h; rw [hn, Bool.false_and] at h; cases h)]
           exact aJ         hQ))
def R6(K:Frag)(a:Addr):It:=
 ⟨fun i H=>∃xs x,rE K H a xs/\xs[i]?=some x,fun i H x H'=>H'=H/\∀xs,rE K H a xs->xs[i]?=some x,fun i H=>∃xs,rE K H a xs/\xs.length<=i⟩
def R7(K:Frag)(a:Addr):It:=
 ⟨fun i H=>∃xs x,fS K H a xs/\xs[i]?=some x,fun i H x H'=>H'=H/\∀xs,fS K H a xs->xs[i]?=some x,fun i H=>∃xs,fS K H a xs/\xs.length<=i⟩
def Ob(lo:Int)(n:Nat):It:=⟨fun i _=>i<n,fun i H x H'=>H'=H/\x=.int (lo+i),fun i _=>n<=i⟩
theorem Co{P:Program}{w:World}{K:Frag}{tg:Expr}(a it:Addr):zP P w K tg (R6 K a) [it] it (fun i h=>h.IsListIter it a i) where
 mem:=by simp
 obj:=fun i h st b hb=>by
  have e:b=it:=by simpa using hb
  subst e
  obtain⟨o,e,c,d⟩:=st
  exact⟨o,e,fun v z=>by rw[d]at z;cases z⟩
 keep:=fun i h h' st k=>st.at fun o e=>k it (by simp) o e
 item:=by
  intro X hP hw hK hc i pins s σ H E I hf st hg
  subst hP hw hK
  obtain⟨xs,x,hq,hx⟩:=hg
  obtain⟨bJ,rv,p,hz⟩:=I.list hq
  obtain⟨u,hu,ru⟩:=rv.get hx
  obtain⟨f0,f1,f2,f3,f4,f5⟩:=hf it (by simp)
  refine wpAny_pyNext_list_item st p.isList (x:=u) (by simpa using hu) fun h' bI sb=>?_
  have I1:bt X pins σ H { s with heap:=h' }:=I.turned (t':=s.toks) (fun b o hb e=>(sb.2 b hb).trans e) f0 f1 f3 f4 f5
  obtain⟨o,e,c,d⟩:=id bI
  exact⟨u,rfl,xX (s:={ s with heap:=h' }) e c d (by decide) ⟨x,H,I1,ru,⟨rfl,fun ys hy=>by rw[I.list_inj hy hq];exact hx⟩,bI,fun b hb=>(hf b hb).1⟩⟩
 done:=by
  intro X hP hw hK hc i pins s σ H E I hf st hg
  subst hP hw hK
  obtain⟨xs,hq,hx⟩:=hg
  obtain⟨bJ,rv,p,hz⟩:=I.list hq
  obtain⟨f0,f1,f2,f3,f4,f5⟩:=hf it (by simp)
  have hl:=rv.length
  exact wpAny_pyNext_list_end (I.ok.hd hc) st p.isList (by simp;omega) fun h' eb=>⟨rfl,I.turned (t':=s.toks) (fun b o hb e=>eb b o hb e) f0 f1 f3 f4 f5⟩
 self:=fun _ _ _ _ _ st h=>wpAny_pyIter_listiter st h
theorem zQ{P:Program}{w:World}{K:Frag}{tg:Expr}(a it:Addr):zP P w K tg (R7 K a) [it] it (fun i h=>h.IsTupleIter it a i) where
 mem:=by simp
 obj:=fun i h st b hb=>by
  have e:b=it:=by simpa using hb
  subst e
  obtain⟨o,e,c,d⟩:=st
  exact⟨o,e,fun v z=>by rw[d]at z;cases z⟩
 keep:=fun i h h' st k=>st.at fun o e=>k it (by simp) o e
 item:=by
  intro X hP hw hK hc i pins s σ H E I hf st hg
  subst hP hw hK
  obtain⟨xs,x,hq,hx⟩:=hg
  obtain⟨bJ,rv,p,hz⟩:=I.tuple hq
  obtain⟨u,hu,ru⟩:=rv.get hx
  obtain⟨f0,f1,f2,f3,f4,f5⟩:=hf it (by simp)
  refine wpAny_pyNext_tuple_item st (show s.heap.IsTuple a bJ.toArray from p) (x:=u) (by simpa using hu) fun h' bI sb=>?_
  have I1:bt X pins σ H { s with heap:=h' }:=I.turned (t':=s.toks) (fun b o hb e=>(sb.2 b hb).trans e) f0 f1 f3 f4 f5
  obtain⟨o,e,c,d⟩:=id bI
  exact⟨u,rfl,xX (s:={ s with heap:=h' }) e c d (by decide) ⟨x,H,I1,ru,⟨rfl,fun ys hy=>by rw[I.tuple_inj hy hq];exact hx⟩,bI,fun b hb=>(hf b hb).1⟩⟩
 done:=by
  intro X hP hw hK hc i pins s σ H E I hf st hg
  subst hP hw hK
  obtain⟨xs,hq,hx⟩:=hg
  obtain⟨bJ,rv,p,hz⟩:=I.tuple hq
  obtain⟨f0,f1,f2,f3,f4,f5⟩:=hf it (by simp)
  have hl:=rv.length
  exact wpAny_pyNext_tuple_end (I.ok.hd hc) st (show s.heap.IsTuple a bJ.toArray from p) (by simp;omega) fun h' eb=>⟨rfl,I.turned (t':=s.toks) (fun b o hb e=>eb b o hb e) f0 f1 f3 f4 f5⟩
 self:=fun _ _ _ _ _ st h=>wpAny_pyIter_tupleiter st h
theorem zR{P:Program}{w:World}{K:Frag}{tg:Expr}(it:Addr)(lo:Int)(n:Nat):zP P w K tg (Ob lo n) [it] it (fun i h=>IsRangeIter h it (lo+(i:Nat)*1) ((n:Int)-(i:Nat)) 1) where
 mem:=by simp
 obj:=fun i h st b hb=>by
  have e:b=it:=by simpa using hb
  subst e
  exact⟨_,st,fun v z=>by
   have z':Data.fields _=Data.cell v:=z
   cases z'⟩
 keep:=fun i h h' st k=>k it (by simp) _ st
 item:=by
  intro X hP hw hK hc i pins s σ H E I hf st hg
  subst hP hw hK
  obtain⟨f0,f1,f2,f3,f4,f5⟩:=hf it (by simp)
  have W:=Walks.range (prog:=X.prog) (w:=X.w) (I.ok.hd hc) it lo 1 n
  refine W.item i s _ _ hg st fun v h' tk hv bI kk=>?_
  obtain⟨t,rfl⟩:=hv
  have I1:bt X pins σ H { s with heap:=h',toks:=tk }:=I.turned (fun b o hb e=>kk b o (by simpa using hb) e) f0 f1 f3 f4 f5
  refine⟨_,rfl,xX (s:={ s with heap:=h',toks:=tk }) (n:="range_iterator") bI rfl rfl (by decide) ⟨.int (lo+i),H,I1,⟨t,?_⟩,⟨rfl,rfl⟩,bI,fun b hb=>(hf b hb).1⟩⟩
  rw[Int.mul_one]
 done:=by
  intro X hP hw hK hc i pins s σ H E I hf st hg
  subst hP hw hK
  obtain⟨f0,f1,f2,f3,f4,f5⟩:=hf it (by simp)
  exact wpAny_pyNext_range_end (I.ok.hd hc) st (by have:n<=i:=hg;omega) fun h' eb=>⟨rfl,I.turned (t':=s.toks) (fun b o hb e=>eb b o hb e) f0 f1 f3 f4 f5⟩
 self:=fun _ _ _ _ _ st h=>md st h
section
variable{X:Cx}{tg:Expr}
def Oc(K:Frag)(tl:TE):TI:=fun σ H R=>tl σ H fun x H1=>∃a,x=.ref a/\(∃xs,rE K H1 a xs)/\R (R6 K a) H1
def Rg(K:Frag)(tl:TE):TI:=fun σ H R=>tl σ H fun x H1=>∃a,x=.ref a/\(∃xs,fS K H1 a xs)/\R (R7 K a) H1
theorem HK{l:Expr}{tl:TE}(hl:PE X l tl):PI X tg l (Oc X.K tl):=by
 intro pins s σ H R I h
 refine gs (hl pins s σ H _ I h) fun v s1 ⟨x,H1,I1,r1,q1⟩=>?_
 obtain⟨a,e,⟨xs,hq⟩,q⟩:=q1
 subst e
 cases r1
 obtain⟨bJ,rv,p,hz⟩:=I1.list hq
 refine wpAny_pyIter_list p.isList ?_
 refine⟨s1.heap.objs.size,[s1.heap.objs.size],_,_,H1,rfl,I1.kept (t':=s1.toks) fun b o e=>ar _ e,Co a _,⟨_,aR _ rfl,rfl,rfl⟩,fun b hb=>?_,q⟩
 have e:b=s1.heap.objs.size:=by simpa using hb
 subst e
 exact I1.fpOk (ay _) (I1.hok.fresh (ay _))
theorem Le{l:Expr}{tl:TE}(hl:PE X l tl):PI X tg l (Rg X.K tl):=by
 intro pins s σ H R I h
 refine gs (hl pins s σ H _ I h) fun v s1 ⟨x,H1,I1,r1,q1⟩=>?_
 obtain⟨a,e,⟨xs,hq⟩,q⟩:=q1
 subst e
 cases r1
 obtain⟨bJ,rv,p,hz⟩:=I1.tuple hq
 refine ko (show s1.heap.IsTuple a bJ.toArray from p) ?_
 refine⟨s1.heap.objs.size,[s1.heap.objs.size],_,_,H1,rfl,I1.kept (t':=s1.toks) fun b o e=>ar _ e,zQ a _,⟨_,aR _ rfl,rfl,rfl⟩,fun b hb=>?_,q⟩
 have e:b=s1.heap.objs.size:=by simpa using hb
 subst e
 exact I1.fpOk (ay _) (I1.hok.fresh (ay _))
theorem xY{pins:List (Addr×Obj)}{σ:St}{H:Hp}{s:Shared}{R:It->Hp->Prop}{E:Value->Shared->Prop}{lo hi:Int}{t u v:Tok}{tk:Nat}(I:bt X pins σ H s)(h1:-(2^62)<=lo)(h2:lo<2^62)(h3:-(2^62)<=hi)(h4:hi<2^62)
  (q:R (Ob lo (hi-lo).toNat) H):wpAny (model X.prog X.w) X.A (pyIter (.ref s.heap.objs.size)) (QM X pins σ tg R) E { s with heap:=s.heap.push { cls:=.type "range",data:=.fields #[.int lo t,.int hi u,.int 1 v] },toks:=tk }:=by
 refine wpAny_pyIter_range (IsRange.new ..) (small_one h1 h2 h3 h4) ?_
 have I1:bt X pins σ H { s with heap:=s.heap.push { cls:=.type "range",data:=.fields #[.int lo t,.int hi u,.int 1 v] },toks:=tk }:=I.kept fun b o e=>ar _ e
 refine⟨(s.heap.push { cls:=.type "range",data:=.fields #[.int lo t,.int hi u,.int 1 v] }).objs.size,[(s.heap.push { cls:=.type "range",data:=.fields #[.int lo t,.int hi u,.int 1 v] }).objs.size],_,_,H,rfl,
  I1.kept (t':=tk) fun b o e=>ar _ e,zR _ lo (hi-lo).toNat,?_,fun b hb=>?_,q⟩
 ·have e1:lo+((0:Nat):Int)*1=lo:=by simp
  have e2:(((hi-lo).toNat:Nat):Int)-((0:Nat):Int)=Builtin.Range.rangeSize lo hi 1:=by rw[rangeSize_one];split<;>omega
  show IsRangeIter _ _ (lo+((0:Nat):Int)*1) ((((hi-lo).toNat:Nat):Int)-((0:Nat):Int)) 1
  rw[e1,e2]
  exact aR _ rfl
 ·have e:b=(s.heap.push { cls:=.type "range",data:=.fields #[.int lo t,.int hi u,.int 1 v] }).objs.size:=by simpa using hb
  subst e
  exact I1.fpOk (ay _) (I1.hok.fresh (ay _))
def Od(ta:TA):TI:=fun σ H R=>ta σ H fun vs H1=>∃j:Int,vs=[.int j]/\-(2^62)<=j/\j<2^62/\R (Ob 0 j.toNat) H1
def Oe(ta:TA):TI:=fun σ H R=>ta σ H fun vs H1=>∃i j:Int,vs=[.int i,.int j]/\(-(2^62)<=i/\i<2^62/\-(2^62)<=j/\j<2^62)/\R (Ob i (j-i).toNat) H1
theorem Cp{a:Expr}{ta:TA}{p pos:Pos}(hg:Gl X "range")(hm:X.mg "range"=none)(ha:PA X [a] ta)(hs:starEach [a] X.env=[(false,eval a X.env)]:=by rfl):PI X tg (.Call (.Name "range" p) [a] [] pos) (Od ta):=by
 intro pins s σ H R I h
 refine Call_ (lE I hg hm boot_range (cW (gs (ha pos pins s σ H _ I h) fun us s1 ⟨vs,H1,I1,r1,q1⟩=>?_) hs rfl))
 obtain⟨j,e,q1,q2,q⟩:=q1
 subst e
 cases r1 with
 |cons r rr=>
  cases rr
  obtain⟨t,rfl⟩:=r
  exact call_range_1 (xY I1 (by omega) (by omega) q1 q2 (by simpa using q))
theorem Cq{a b:Expr}{ta:TA}{p pos:Pos}(hg:Gl X "range")(hm:X.mg "range"=none)(ha:PA X [a,b] ta)(hs:starEach [a,b] X.env=[(false,eval a X.env),(false,eval b X.env)]:=by rfl)(xP:starEach [b] X.env=[(false,eval b X.env)]:=by rfl) :
  PI X tg (.Call (.Name "range" p) [a,b] [] pos) (Oe ta):=by
 intro pins s σ H R I h
 refine Call_ (lE I hg hm boot_range (cW (gs (ha pos pins s σ H _ I h) fun us s1 ⟨vs,H1,I1,r1,q1⟩=>?_) (by rw[hs,xP]) (by rw[xP];rfl)))
 obtain⟨i,j,e,⟨q1,q2,q3,q4⟩,q⟩:=q1
 subst e
 cases r1 with
 |cons r rr=>
  cases rr with
  |cons r' rr=>
   cases rr
   obtain⟨t,rfl⟩:=r
   obtain⟨t',rfl⟩:=r'
   exact call_range_2 (xY I1 q1 q2 q3 q4 q)
def Rh(wi:TI)(g:TG)(tb:TS):TS:=fun D σ H=>wi σ H fun J H1=>∃W:Nat->Nat->St->Hp->Prop,(∃m,W 0 m σ H1)/\∀i m σ H,W i m σ H ->
 (J.stop i H/\D.nx σ H)\/(J.go i H/\∃N:St->Hp->Prop,(∀σ' H',N σ' H'->∃m',m'<m/\W (i+1) m' σ' H')/\∀x H',J.yld i H x H'->g x σ H' fun σ2 H2=>tb { D with nx:=N,ct:=N,bk:=D.nx } σ2 H2)
def v8(fp:List Addr)(h:Heap):List (Addr×Obj):=fp.filterMap fun b=>(h.get? b).map fun o=>(b,o)
theorem fR{fp:List Addr}{h:Heap}{b:Addr}{o:Obj}(hb:b∈fp)(e:h.get? b=some o):(b,o)∈v8 fp h:=kq.mpr ⟨b,hb,by rw[e];rfl⟩
theorem Cr{fp:List Addr}{h:Heap}{p:Addr×Obj}(hp:p∈v8 fp h):p.1∈fp/\h.get? p.1=some p.2:=by
 obtain⟨b,hb,e⟩:=kq.mp hp
 cases q:h.get? b with
 |none=>rw[q]at e;cases e
 |some o=>
  rw[q]at e
  have e':(b,o)=p:=aZ e
  subst e'
  exact⟨hb,q⟩
theorem bt.pinned{pins:List (Addr×Obj)}{σ:St}{H:Hp}{s:Shared}{fp:List Addr}(I:bt X pins σ H s)(hf:∀b∈fp,pf X pins H b)(ho:∀b∈fp,∃o,s.heap.get? b=some o/\∀v,o.data≠.cell v):bt X (pins++v8 fp s.heap) σ H s:=
 I.pins_of fun p hp=>(a9.mp hp).elim (fun z=>I.pin p (aM _ z)) fun z=>by
  obtain⟨hb,e⟩:=Cr z
  obtain⟨f0,f1,f2,_⟩:=hf p.1 hb
  obtain⟨o,e',d⟩:=ho p.1 hb
  rw[e]at e';cases e'
  exact⟨e,f0,f1,f2,d⟩
theorem bt.unpinned{pins pl:List (Addr×Obj)}{σ:St}{H:Hp}{s:Shared}(I:bt X (pins++pl) σ H s):bt X pins σ H s:=I.pins_of fun p hp=>I.pin p (aM _ (dF _ hp))
theorem Lf{iter:Expr}{body:List Stmt}{wi:TI}{g:TG}{tb:TS}{pos:Pos}(hp:PassesOwn (model X.prog X.w) X.A X.env X.xe)(hc:X.calm=true)(hi:PI X tg iter wi)(hg:PG X tg g)(hb:Cm X body tb)
  (hs:∀x,foldedSetIterable iter X.env x=pure x:=by intro _;rfl):PS X (.For tg iter body [] pos) (Rh wi g tb):=by
 intro pins s σ H D I h
 refine wpAny_For (gs (hi pins s σ H _ I h) fun v s1 h1=>gs h1 fun QY s2 h2=>?_) hs
 obtain⟨it,fp,tn,J,H2,e,I2,T,st2,f2,W,⟨m0,w0⟩,turn⟩:=h2
 subst e
 have stat:∀{H':Hp},(∀b∈fp,H' b=none)->∀b∈fp,pf X pins H' b:=fun hn b hb=>⟨hn b hb,(f2 b hb).2⟩
 refine codeAny_forLoop_any (fun n s'=>∃i σ' H',bt X pins σ' H' s'/\tn i s'.heap/\(∀b∈fp,H' b=none)/\W i n σ' H') ?_ m0 ⟨0,σ,H2,I2,st2,fun b hb=>(f2 b hb).1,w0⟩
 rintro n s3 ⟨i,σ3,H3,I3,jT,fr3,w3⟩
 rcases turn i n σ3 H3 w3 with⟨stop,qn⟩|⟨go,N,hN,step⟩
 ·refine fG hp (gs (T.done X rfl rfl rfl hc i pins s3 σ3 H3 X.xe I3 (stat fr3) jT stop) fun r s4 ⟨hr,I4⟩=>?_)
  subst hr
  exact ii ⟨σ3,H3,I4,qn⟩
 ·refine fG hp (gs (T.item X rfl rfl rfl hc i pins s3 σ3 H3 X.xe I3 (stat fr3) jT go) fun r s4 ⟨u,hr,h4⟩=>?_)
  subst hr
  refine fG hp (gs h4 fun _ s5 ⟨x,H5,I5,r5,y5,st5,fr5⟩=>?_)
  have I5':=I5.pinned (stat fr5) (T.obj _ _ st5)
  refine fG hp (gs (hg _ s5 σ3 H5 x u _ I5' r5 (step x H5 y5)) fun _ s6 ⟨σ6,H6,I6,q6⟩=>?_)
  refine fG hp (gs (hb _ s6 σ6 H6 _ I6 q6) fun f s7 q7=>?_)
  have again:∀{σ7:St} {H7:Hp},bt X (pins++v8 fp s5.heap) σ7 H7 s7->N σ7 H7->∃m,m<n/\∃i σ' H',bt X pins σ' H' s7/\tn i s7.heap/\(∀b∈fp,H' b=none)/\W i m σ' H':=fun{σ7 H7} I7 n7=>by
   obtain⟨m',hm,w7⟩:=hN σ7 H7 n7
   refine⟨m',hm,i+1,σ7,H7,I7.unpinned,T.keep _ _ _ st5 fun b hb o e=>(I7.pin (b,o) (aM _ (aM _ (fR hb e)))).1,fun b hb=>?_,w7⟩
   obtain⟨o,e,d⟩:=T.obj _ _ st5 b hb
   exact(I7.pin (b,o) (aM _ (aM _ (fR hb e)))).2.1
  cases f with
  |next=>obtain⟨σ7,H7,I7,n7⟩:=q7;exact again I7 n7
  |cont=>obtain⟨σ7,H7,I7,n7⟩:=q7;exact again I7 n7
  |brk=>obtain⟨σ7,H7,I7,q7⟩:=q7;exact⟨σ7,H7,I7.unpinned,q7⟩
  |ret v=>obtain⟨x7,σ7,H7,I7,r7,q7⟩:=q7;exact⟨x7,σ7,H7,I7.unpinned,r7,q7⟩
end
abbrev R2:=V->V->Hp->VK->Prop
def lD(X:Cx)(f:Value->Value->Sem Value)(r:R2):Prop:=
 ∀(pins:List (Addr×Obj)) (s:Shared) (σ:St) (H:Hp) (x y:V) (v u:Value) (Q:VK),bt X pins σ H s->cb x v->cb y u->r x y H Q ->
  wpAny (model X.prog X.w) X.A (f v u) (EP X pins σ Q) X.xe s
def Ri(X:Cx)(f:Value->Sem Value)(r:V->Hp->VK->Prop):Prop:=
 ∀(pins:List (Addr×Obj)) (s:Shared) (σ:St) (H:Hp) (x:V) (v:Value) (Q:VK),bt X pins σ H s->cb x v->r x H Q ->
  wpAny (model X.prog X.w) X.A (f v) (EP X pins σ Q) X.xe s
def gZ(X:Cx)(f:Value)(r:List V->Hp->VK->Prop):Prop:=
 ∀(pins:List (Addr×Obj)) (s:Shared) (σ:St) (H:Hp) (xs:List V) (us:List Value) (Q:VK),bt X pins σ H s->cV xs us->r xs H Q ->
  wpAny (model X.prog X.w) X.A (call f us) (EP X pins σ Q) X.xe s
def Of(r:R2)(ta tb:TE):TE:=fun σ H Q=>ta σ H fun x H1=>tb σ H1 fun y H2=>r x y H2 Q
def So(r:V->Hp->VK->Prop)(ta:TE):TE:=fun σ H Q=>ta σ H fun x H1=>r x H1 Q
def rI(C:Int->Int->Prop)(g:Int->Int->V):R2:=fun x y H Q=>∃i j,x=.int i/\y=.int j/\C i j/\Q (g i j) H
def DR(g:Int->Int->V):R2:=fun x y H Q=>∃i j,x=.int i/\y=.int j/\Q (g i j) H
def rU(g:Int->V):V->Hp->VK->Prop:=fun x H Q=>∃i,x=.int i/\Q (g i) H
section
variable{X:Cx}{a b c:Expr}{ta tb tc:TE}{pos:Pos}
theorem Lg(ha:PE X a ta)(hb:PE X b tb){pins:List (Addr×Obj)}{s:Shared}{σ:St}{H:Hp}{R:V->V->Hp->Prop}(I:bt X pins σ H s)
  (h:ta σ H fun x H1=>tb σ H1 fun y H2=>R x y H2) {Q:Value->Shared->Prop} {f:Value->Value->Sem Value}
  (hf:∀v u s2 x y H2,bt X pins σ H2 s2->cb x v->cb y u->R x y H2->wpAny (model X.prog X.w) X.A (f v u) Q X.xe s2) :
  wpAny (model X.prog X.w) X.A (eval a X.env) (fun v s₁=>wpAny (model X.prog X.w) X.A (eval b X.env) (fun u s₂=>wpAny (model X.prog X.w) X.A (f v u) Q X.xe s₂) X.xe s₁) X.xe s:=by
 refine gs (ha pins s σ H _ I h) fun v s1 ⟨x,H1,I1,r1,q1⟩=>?_
 refine gs (hb pins s1 σ H1 _ I1 q1) fun u s2 ⟨y,H2,I2,r2,q2⟩=>?_
 exact hf v u s2 x y H2 I2 r1 r2 q2
theorem Og{op:Operator}{r:R2}(ho:lD X (binaryOp op) r)(ha:PE X a ta)(hb:PE X b tb):PE X (.BinOp a op b pos) (Of r ta tb):=by
 intro pins s σ H Q I h
 exact wpAny_BinOp (Lg ha hb I h fun v u s2 x y H2 I2 rx ry q=>ho pins s2 σ H2 x y v u Q I2 rx ry q)
theorem Oh{op:UnaryOp}{r:V->Hp->VK->Prop}(ho:Ri X (unaryOp op) r)(ha:PE X a ta):PE X (.UnaryOp op a pos) (So r ta):=by
 intro pins s σ H Q I h
 exact UnaryOp_ (gs (ha pins s σ H _ I h) fun v s1 ⟨x,H1,I1,r1,q1⟩=>ho pins s1 σ H1 x v Q I1 r1 q1)
theorem NM{f:Value->Value->Sem Value}{C:Int->Int->Prop}{g:Int->Int->Int}
  (rule:∀(i j:Int) (t u:Tok) (s:Shared) (Q:Value->Shared->Prop) (E:Value->Shared->Prop),C i j->Q (.int (g i j) s.toks) { s with toks:=s.toks+1 }->wpAny (model X.prog X.w) X.A (f (.int i t) (.int j u)) Q E s) :
  lD X f (rI C fun i j=>.int (g i j)):=by
 intro pins s σ H x y v u Q I rx ry h
 obtain⟨i,j,rfl,rfl,hc,q⟩:=h
 obtain⟨t,rfl⟩:=rx
 obtain⟨t',rfl⟩:=ry
 exact rule i j t t' s _ _ hc ⟨.int (g i j),H,I.tok _,⟨_,rfl⟩,q⟩
theorem Lh{f:Value->Value->Sem Value}{g:Int->Int->Int}
  (rule:∀(i j:Int) (t u:Tok) (s:Shared) (Q:Value->Shared->Prop) (E:Value->Shared->Prop),Q (.int (g i j) s.toks) { s with toks:=s.toks+1 }->wpAny (model X.prog X.w) X.A (f (.int i t) (.int j u)) Q E s) :
  lD X f (DR fun i j=>.int (g i j)):=by
 intro pins s σ H x y v u Q I rx ry h
 obtain⟨i,j,rfl,rfl,q⟩:=h
 obtain⟨t,rfl⟩:=rx
 obtain⟨t',rfl⟩:=ry
 exact rule i j t t' s _ _ ⟨.int (g i j),H,I.tok _,⟨_,rfl⟩,q⟩
theorem HL{f:Value->Value->Sem Value}{g:Int->Int->Bool}
  (rule:∀(i j:Int) (t u:Tok) (s:Shared) (Q:Value->Shared->Prop) (E:Value->Shared->Prop),Q (.bool (g i j)) s->wpAny (model X.prog X.w) X.A (f (.int i t) (.int j u)) Q E s) :
  lD X f (DR fun i j=>.bl (g i j)):=by
 intro pins s σ H x y v u Q I rx ry h
 obtain⟨i,j,rfl,rfl,q⟩:=h
 obtain⟨t,rfl⟩:=rx
 obtain⟨t',rfl⟩:=ry
 exact rule i j t t' s _ _ ⟨.bl (g i j),H,I,rfl,q⟩
def Rj(i j:Int):Prop:=0<j/\j<1073741824
def Li(i j:Int):Prop:=0<=j/\j<=1000000/\i.natAbs<2^64
def Lj(i j:Int):Prop:=(-(2^64)<i/\i<2^64)\/(-(2^64)<j/\j<2^64)
theorem Lj.ok{i j:Int}(h:Lj i j):IntMulOk i j:=by
 rcases h with⟨h1,h2⟩|⟨h1,h2⟩
 ·exact .of_left (intBits_le_64 h1 h2)
 ·exact .of_right (intBits_le_64 h1 h2)
theorem zS(k:Nat):(0:Int)<=2^k:=by
 rw[two_pow_cast]
 exact Int.natCast_nonneg _
theorem Lk:lD X (binaryOp .Add) (DR fun i j=>.int (i+j)):=Lh fun _ _ _ _ _ _ _ q=>add_int q
theorem Ll:lD X (binaryOp .Sub) (DR fun i j=>.int (i-j)):=Lh fun _ _ _ _ _ _ _ q=>sub_int q
theorem Lm:lD X (binaryOp .Mult) (rI Lj fun i j=>.int (i*j)):=NM fun _ _ _ _ _ _ _ hc q=>mul_int q hc.ok
theorem HM:lD X (binaryOp .FloorDiv) (rI Rj fun i j=>.int (i/j)):=NM fun i j _ _ _ _ _ hc q=>by
 have h1:(0:Int)<j:=hc.1
 have h2:j<1073741824:=hc.2
 exact floordiv_int (by omega) (by rw[kr i (by omega)];exact q) (.inl (me (by omega)))
theorem Ln:lD X (binaryOp .Mod) (rI (fun _ j=>0<j) fun i j=>.int (i%j)):=NM fun i j _ _ _ _ _ hc q=>by
 have h1:(0:Int)<j:=hc
 exact mod_int' (by omega) (by rw[Int.fmod_eq_emod_of_nonneg i (by omega)];exact q)
theorem Lo:lD X (binaryOp .Pow) (rI Li fun i j=>.int (i^j.toNat)):=NM fun _ _ _ _ _ _ _ hc q=>pow_int_small hc.1 hc.2.1 hc.2.2 q
theorem DS:lD X (binaryOp .LShift) (rI Li fun i j=>.int (i*2^j.toNat)):=NM fun _ _ _ _ _ _ _ hc q=>lshift_int_small hc.1 hc.2.1 hc.2.2 q
theorem Lp:lD X (binaryOp .RShift) (rI (fun _ j=>0<=j) fun i j=>.int (i/2^j.toNat)):=NM fun i j _ _ _ _ _ hc q=>
 rshift_int hc (by rw[kr i (zS _)];exact q)
theorem Lq:lD X (binaryOp .BitAnd) (DR fun i j=>.int (Builtin.bitAnd i j)):=Lh fun _ _ _ _ _ _ _ q=>and_int q
theorem Sq{f:Value->Sem Value}{g:Int->Int}
  (rule:∀(i:Int) (t:Tok) (s:Shared) (Q:Value->Shared->Prop) (E:Value->Shared->Prop),Q (.int (g i) s.toks) { s with toks:=s.toks+1 }->wpAny (model X.prog X.w) X.A (f (.int i t)) Q E s) :
  Ri X f (rU fun i=>.int (g i)):=by
 intro pins s σ H x v Q I rx h
 obtain⟨i,rfl,q⟩:=h
 obtain⟨t,rfl⟩:=rx
 exact rule i t s _ _ ⟨.int (g i),H,I.tok _,⟨_,rfl⟩,q⟩
theorem Lr:Ri X (unaryOp .USub) (rU fun i=>.int (-i)):=Sq fun _ _ _ _ _ q=>neg_int q
end
section
variable{X:Cx}{a b c:Expr}{ta tb tc:TE}{pos:Pos}
theorem DT{pins:List (Addr×Obj)}{σ:St}{H:Hp}{s:Shared}{Q:VK}{k k':Bool}(I:bt X pins σ H s)(q:Q (.bl k) H)(e:k=k'):EP X pins σ Q (.bool k') s:=by
 subst e
 exact⟨.bl k,H,I,rfl,q⟩
theorem Oi:lD X (compareOp .Lt) (DR fun i j=>.bl (decide (i<j))):=HL fun _ _ _ _ _ _ _ q=>lt_int q
theorem Oj:lD X (compareOp .LtE) (DR fun i j=>.bl (decide (i<=j))):=HL fun _ _ _ _ _ _ _ q=>le_int q
theorem Ol:lD X (compareOp .Gt) (DR fun i j=>.bl (decide (j<i))):=HL fun _ _ _ _ _ _ _ q=>gt_int q
theorem Om:lD X (compareOp .GtE) (DR fun i j=>.bl (decide (j<=i))):=HL fun _ _ _ _ _ _ _ q=>ge_int q
theorem Ct:lD X (compareOp .In) (fun x y H Q=>∃i j,x=.str i/\y=.str j/\Q (.bl (!(Builtin.Str.occurrences j i 0 j.length 1).isEmpty)) H):=by
 intro pins s σ H x y v u Q I rx ry h
 obtain⟨i,j,rfl,rfl,q⟩:=h
 obtain⟨t,rfl⟩:=rx
 obtain⟨t',rfl⟩:=ry
 exact in_str (DT I q rfl)
theorem v9:lD X (compareOp .NotIn) (fun x y H Q=>∃i j,x=.str i/\y=.str j/\Q (.bl (!(!(Builtin.Str.occurrences j i 0 j.length 1).isEmpty))) H):=by
 intro pins s σ H x y v u Q I rx ry h
 obtain⟨i,j,rfl,rfl,q⟩:=h
 obtain⟨t,rfl⟩:=rx
 obtain⟨t',rfl⟩:=ry
 exact notIn_str (DT I q rfl)
theorem DU(b:Expr){op:CmpOp}(h:op≠.In:=by decide)(h2:op≠.NotIn:=by decide):behindInMarks op b=false:=by
 have e1:(op==CmpOp.In)=false:=by cases op<;>first|rfl|exact absurd rfl h
 have e2:(op==CmpOp.NotIn)=false:=by cases op<;>first|rfl|exact absurd rfl h2
 cases b<;>simp[behindInMarks,e1,e2]
theorem HN{op:CmpOp}{r:R2}(ho:lD X (compareOp op) r)(ha:PE X a ta)(hb:PE X b tb)(hm:behindInMarks op b=false):PE X (.Compare a [op] [b] pos) (Of r ta tb):=by
 intro pins s σ H Q I h
 exact wpAny_Compare1 (Lg ha hb I h fun v u s2 x y H2 I2 rx ry q=>ho pins s2 σ H2 x y v u Q I2 rx ry q) hm
def On(t:TE):TT:=fun σ H Q=>t σ H fun x H'=>∃k,x=.bl k/\Q k H'
theorem HP{op:CmpOp}{r:R2}(ho:lD X (compareOp op) r)(ha:PE X a ta)(hb:PE X b tb)(hm:behindInMarks op b=false):PT X (.Compare a [op] [b] pos) (On (Of r ta tb)):=by
 intro pins s σ H Q I h
 refine mW (gs (ha pins s σ H _ I h) fun v s1 ⟨x,H1,I1,r1,q1⟩=>gs (hb pins s1 σ H1 _ I1 q1) fun u s2 ⟨y,H2,I2,r2,q2⟩=>
  gs (ho pins s2 σ H2 x y v u _ I2 r1 r2 q2) fun c s3 ⟨z,H3,I3,r3,k,e,q3⟩=>?_) hm
 subst e
 cases r3
 exact fL ⟨H3,I3,q3⟩
theorem qH:(sizeLine:Nat)<2^63:=by rw[kO];decide
theorem zU:lD X (binaryOp .Add) (fun x y H Q=>∃i j,x=.str i/\y=.str j/\i.length+j.length<=sizeLine/\Q (.str (i++j)) H):=by
 intro pins s σ H x y v u Q I rx ry h
 obtain⟨i,j,rfl,rfl,hz,q⟩:=h
 obtain⟨t,rfl⟩:=rx
 obtain⟨t',rfl⟩:=ry
 exact add_str (fun t' tk=>⟨.str (i++j),H,I.tok _,⟨_,rfl⟩,q⟩) hz
theorem mC{x:V}{us:List Value}(r:cV [x] us):∃u,us=[u]/\cb x u:=by
 cases r with
 |cons r1 r2=>cases r2;exact⟨_,rfl,r1⟩
theorem JK{x y:V}{us:List Value}(r:cV [x,y] us):∃u w',us=[u,w']/\cb x u/\cb y w':=by
 cases r with
 |cons r1 r2=>
  cases r2 with
  |cons r3 r4=>cases r4;exact⟨_,_,rfl,r1,r3⟩
theorem Cu(hc:X.calm=true):gZ X (.builtin "max") (fun xs H Q=>∃i j,xs=[.int i,.int j]/\Q (.int (if j>i then j else i)) H):=by
 intro pins s σ H xs us Q I r h
 obtain⟨i,j,rfl,q⟩:=h
 obtain⟨u,w',rfl,⟨t,rfl⟩,⟨t',rfl⟩⟩:=JK r
 refine max_two_ints (I.ok.hd hc) fun h' tk k=>⟨_,H,I.kept k,?_,q⟩
 by_cases hj:j>i
 ·rw[aB hj,aB hj];exact⟨_,rfl⟩
 ·rw[aE hj,aE hj];exact⟨_,rfl⟩
theorem Cv(hc:X.calm=true):gZ X (.builtin "min") (fun xs H Q=>∃i j,xs=[.int i,.int j]/\Q (.int (if j<i then j else i)) H):=by
 intro pins s σ H xs us Q I r h
 obtain⟨i,j,rfl,q⟩:=h
 obtain⟨u,w',rfl,⟨t,rfl⟩,⟨t',rfl⟩⟩:=JK r
 refine min_two_ints (I.ok.hd hc) fun h' tk k=>⟨_,H,I.kept k,?_,q⟩
 by_cases hj:j<i
 ·rw[aB hj,aB hj];exact⟨_,rfl⟩
 ·rw[aE hj,aE hj];exact⟨_,rfl⟩
theorem vf:gZ X (.type "int") (fun xs H Q=>(∃i,xs=[.int i]/\Q (.int i) H)\/∃k,xs=[.bl k]/\Q (.int (if k then 1 else 0)) H):=by
 intro pins s σ H xs us Q I r h
 rcases h with⟨i,rfl,q⟩|⟨k,rfl,q⟩
 ·obtain⟨u,rfl,t,rfl⟩:=mC r
  exact call_int_int ⟨.int i,H,I,⟨_,rfl⟩,q⟩
 ·obtain⟨u,rfl,r1⟩:=mC r
  cases r1
  exact call_int_bool ⟨.int (if k then 1 else 0),H,I.tok _,⟨_,rfl⟩,q⟩
end
structure Ls(h:Heap)(x dx C:Addr)(mA:Str->Option Value):Prop where
 obj:h.get? x=some (PySem.W.instObj C dx)
 ns:h.Ns1 dx mA
 ne:dx≠x
theorem Cw{h:Heap}{dx:Addr}{mA:Str->Option Value}(n:h.Ns1 dx mA):∃od,h.get? dx=some od/\∀name,PySem.W.lookIn name od=some (mA name):=by
 obtain⟨o,es,ep,ho,hd,hk,_,hm⟩:=n
 refine⟨o,ho,fun name=>?_⟩
 have e:=hm name
 unfold nsFind findBy at e
 rw[<- Array.find?_toList]at e
 unfold PySem.W.lookIn
 rw[hd]
 dsimp only
 split
 ·rename_i y q
  rw[q]at e
  exact fM some e
 ·rename_i q
  rw[q]at e
  have a:es.toList.any (·.refKey)=false:=by
   rw[List.any_eq_false]
   intro y hy
   obtain⟨z,t,hkey⟩:=hk y (Array.mem_toList_iff.mp hy)
   simp[DictEntry.refKey,hkey]
  have a':¬ es.toList.any (·.refKey)=true:=by rw[a];exact eu
  rw[aE a']
  exact fM some e
theorem Ls.look{h:Heap}{x dx C:Addr}{mA:Str->Option Value}(I:Ls h x dx C mA):∃od,PySem.W.InstAt h x (PySem.W.instObj C dx) C (some od)/\∀name,PySem.W.lookIn name od=some (mA name):=
 let ⟨od,ho,hl⟩:=Cw I.ns
 ⟨od,⟨I.obj,rfl,rfl,ho⟩,hl⟩
section
variable{prog:Program}{w:World}{A:Around}{E:Value->Shared->Prop}{s:Shared}{K:Frag}{x dx C f:Addr}{mA:Str->Option Value}{name:Str}{v:Value}
end
theorem pd.some_of{v:V}{o:Option Value}(r:pd (some v) o):∃u,o=some u/\cb v u:=by
 cases o with
 |none=>exact(show False from r).elim
 |some u=>exact⟨u,rfl,r⟩
section
variable{P:Program}{w:World}{H H':Hp}{h h':Heap}{a C dx:Addr}{fs SN:List (Str×V)}
theorem HQ(hok:pe P w H h)(e:H a=some (.ins C dx fs)):∃mA,Ls h a dx C mA/\(∀f,pd (fs.lookup f) (mA f))/\PySem.Within mA (fs.map (·.1))/\fs.length<=1000/\H dx=some (.own a):=by
 obtain⟨d,z,ne,ob,mA,n,r,q⟩:=(show fg P w H h a (.ins C dx fs)from hok a _ e)
 exact⟨mA,⟨ob,n,ne⟩,r,q,z,d⟩
end
structure Lu(K:Frag)(C:Addr):Prop where
 pg:PySem.W.plainGet K C Str.empty=true
 hd:PySem.W.hasDictIn K C=true
 po:PySem.W.plainOver K C=true
 sa:findIn K (.ref C) "__setattr__"=some (some (.builtin "object.__setattr__"))
theorem Lu.get{K:Frag}{C:Addr}(c:Lu K C)(f:Str):PySem.W.plainGet K C f=true:=c.pg
section
variable{X:Cx}{pins:List (Addr×Obj)}{σ:St}{H:Hp}{s:Shared}{a C dx:Addr}{fs:List (Str×V)}{f:Str}{v:V}{A:Around}{E:Value->Shared->Prop}
end
section
variable{X:Cx}{o e value:Expr}{f:Str}{pos jA RU:Pos}{ta tv:TE}
end
section
variable{X:Cx}{pins:List (Addr×Obj)}{σ:St}{H:Hp}{s:Shared}{A:Around}{E:Value->Shared->Prop}{Q:Value->Shared->Prop}{c:Value}{b:Bool}
inductive r6(K:Frag)(H:Hp):V->Value->Prop where
 |non:r6 K H .non (.type "NoneType")
 |bl (x:Bool):r6 K H (.bl x) (.type "bool")
 |int (i:Int):r6 K H (.int i) (.type "int")
 |str (x:Str):r6 K H (.str x) (.type "str")
 |flt (x:UInt64):r6 K H (.flt x) (.type "float")
 |lst {a:Addr} {xs:List V} (e:H a=some (.lst xs)):r6 K H (.ref a) (.type "list")
 |frz {a:Addr} {o:Obj} {xs:List V} (e:H a=some (.frz o (.lst xs))):r6 K H (.ref a) (.type "list")
 |tup {a:Addr} {xs:List V} (e:H a=some (.tup xs)):r6 K H (.ref a) (.type "tuple")
 |dK {a:Addr} {kvs:List (f_×V)} (e:H a=some (.dK kvs)):r6 K H (.ref a) (.type "dict")
 |dT {a:Addr} {kvs:List (List f_×V)} (e:H a=some (.dT kvs)):r6 K H (.ref a) (.type "dict")
 |ins {a C dx:Addr} {fs:List (Str×V)} (e:H a=some (.ins C dx fs)) (cl:Lu K C) (ha:findIn K (.ref C) "__class__"=some (some (.builtin "object.__class__")))
   (hn:PySem.W.specialIn K (.builtin "object.__class__") "__get__"=some (some (.builtin "getset_descriptor.__get__"))) (Q1:PySem.W.takesIn K (.builtin "object.__class__")=some true)
   (hm:PySem.W.mroIn K C (.type "object")=some true):r6 K H (.ref a) (.ref C)
theorem nY{x:V}{u t:Value}(I:bt X pins σ H s)(rx:cb x u)(ty:r6 X.K H x t)(e:kitOne X.K t c=some b)(h:∀tk,Q (.bool b) { s with toks:=tk }) :
  wpAny (model X.prog X.w) A (call (.builtin "isinstance") [u,c]) Q E s:=by
 cases ty with
 |non=>cases(show u=Value.none from rx);exact kia_one PySem.W.kitx_none I.kIn True.intro e (fun z=>nomatch z) h
 |bl y=>cases(show u=Value.bool y from rx);exact kia_one PySem.W.kitx_bool I.kIn True.intro e (fun z=>nomatch z) h
 |int i=>obtain⟨t,q⟩:=(show ∃t,u=Value.int i t from rx);cases q;exact kia_one PySem.W.kitx_int I.kIn True.intro e (fun z=>nomatch z) h
 |str y=>obtain⟨t,q⟩:=(show ∃t,u=Value.str y t from rx);cases q;exact kia_one PySem.W.kitx_str I.kIn True.intro e (fun z=>nomatch z) h
 |flt y=>obtain⟨t,q⟩:=(show ∃t,u=Value.float y t from rx);cases q;exact kia_one PySem.W.kitx_float I.kIn True.intro e (fun z=>nomatch z) h
 |@lst a xs ea=>
  cases(show u=Value.ref a from rx)
  obtain⟨_,_,n,_,h1⟩:=(show fg X.prog X.w H s.heap a (.lst xs)from I.hok a _ ea)
  exact kia_one PySem.W.kitx_list I.kIn ⟨_,h1,rfl⟩ e (fun z=>nomatch z) h
 |@frz a ob xs ea=>
  cases(show u=Value.ref a from rx)
  obtain⟨_,_,_,n,_,h1⟩:=(show fg X.prog X.w H s.heap a (.frz ob (.lst xs))from I.hok a _ ea)
  exact kia_one PySem.W.kitx_list I.kIn ⟨_,h1,rfl⟩ e (fun z=>nomatch z) h
 |@tup a xs ea=>
  cases(show u=Value.ref a from rx)
  obtain⟨_,_,_,p⟩:=(show fg X.prog X.w H s.heap a (.tup xs)from I.hok a _ ea)
  obtain⟨o,h1,h2,_⟩:=p
  exact kia_one PySem.W.kitx_tuple I.kIn ⟨o,h1,h2⟩ e (fun z=>nomatch z) h
 |@dK a kvs ea=>
  cases(show u=Value.ref a from rx)
  obtain⟨_,_,vs,_,p⟩:=(show fg X.prog X.w H s.heap a (.dK kvs)from I.hok a _ ea)
  obtain⟨o,es,ep,h1,h2,_⟩:=p
  exact kia_one PySem.W.kitx_dict I.kIn ⟨o,h1,h2.1⟩ e (fun z=>nomatch z) h
 |@dT a kvs ea=>
  cases(show u=Value.ref a from rx)
  obtain⟨_,_,xs,_,o,es,ep,h1,h2,_⟩:=(show fg X.prog X.w H s.heap a (.dT kvs)from I.hok a _ ea)
  exact kia_one PySem.W.kitx_dict I.kIn ⟨o,h1,h2.1⟩ e (fun z=>nomatch z) h
 |@ins a C dx fs ea cl ha hn Q1 hm=>
  cases(show u=Value.ref a from rx)
  obtain⟨mA,O,_⟩:=HQ I.hok ea
  obtain⟨od,J,_⟩:=O.look
  exact kia_one (PySem.W.kitx_own (cl.get _) cl.hd ha hn Q1 hm) I.kIn J e (fun z=>nomatch z) h
end
structure iA(k:Nat)(A:Around):Prop where
 hd:A.handled=none
 dp:A.depth+2*k+5<recursionLimit
 un:A.units+16*k+200<cLine
theorem iA.mono{j k:Nat}{A:Around}(r:iA k A)(h:j<=k):iA j A:=⟨r.hd,by have:=r.dp;omega,by have:=r.un;omega⟩
theorem iA.deeper{k:Nat}{A:Around}(r:iA (k+1) A)(env:Env):iA k (A.deeper env):=
 ⟨r.hd,by have:=r.dp;show A.depth+1+2*k+5<_;omega,by have:=r.un;show A.units+3+16*k+200<_;omega⟩
theorem iA.depth{k:Nat}{A:Around}(r:iA k A):A.depth<recursionLimit:=by have:=r.dp;omega
theorem iA.units{k:Nat}{A:Around}(r:iA k A):A.units+64<cLine:=by have:=r.un;omega
def Rk:TA:=fun _ H Q=>Q [] H
def Oo(ta:TE)(tr:TA):TA:=fun σ H Q=>ta σ H fun x H1=>tr σ H1 fun xs H2=>Q (x::xs) H2
section
variable{X:Cx}{e:Expr}{es:List Expr}{te:TE}{t:TA}{pos:Pos}
theorem ph:PA X [] Rk:=fun _ _ _ _ H Q I h=>iP ⟨[],H,I,.nil,h⟩
theorem iC(ha:PE X e te)(hr:PA X es t)(hs:starEach (e::es) X.env=(false,eval e X.env)::starEach es X.env:=by rfl):PA X (e::es) (Oo te t):=by
 intro pos pins s σ H Q I h
 rw[hs]
 show wpAny _ _ (spliced ((false,eval e X.env)::backTo pos (starEach es X.env))) _ _ s
 refine iw (gs (ha pins s σ H _ I h) fun u s1 ⟨x,H1,I1,r1,q1⟩=>?_)
 exact gs (hr pos pins s1 σ H1 _ I1 q1) fun us s2 ⟨xs,H2,I2,r2,q2⟩=>⟨x::xs,H2,I2,.cons r1 r2,q2⟩
end
abbrev Sp:=List V->Hp->VK->XK->Prop
abbrev Hs:=List Env->Hp->Shared->XK->Value->Shared->Prop
structure HR(P:Program)(w:World)(K:Frag)(mg:Str->Option Value)(base:Heap)(A:Around)(outer:List Env)(s:Shared)(H:Hp):Prop where
 frames:A.frames=some outer
 mod:Mod K mg base
 bs:∀b o,base.get? b=some o->s.heap.get? b=some o/\H b=none
 bsz:base.objs.size<=s.heap.objs.size
 funs:s.heap.FunFrames base outer
 frf:∀b∈pL outer,H b=none
 hok:pe P w H s.heap
 bare:AllBare s.gens
def CE(outer:List Env)(P:Program)(w:World)(H:Hp)(s:Shared)(Q:VK)(u:Value)(s':Shared):Prop:=
 ∃v H',s'.os=s.os/\AllBare s'.gens/\Un (pL outer) [] H H' s.heap s'.heap/\pe P w H' s'.heap/\cb v u/\Q v H'
def CR(CX:Hs)(outer:List Env)(P:Program)(w:World)(H:Hp)(s:Shared)(Q:VK)(E:XK)(r:Result)(s':Shared):Prop:=
 match r with
 |.ok (.ret u)=>CE outer P w H s Q u s'
 |.ok _=>False
 |.error e=>CX outer H s E e s'
structure fA(P:Program)(w:World)(K:Frag)(mg:Str->Option Value)(base:Heap)(CX:Hs)(k:Nat)(f:Addr)(fd:FuncData)(ps:List Str)(sp:Sp):Prop where
 len:∀vs H Q E,sp vs H Q E->vs.length=ps.length
 run:∀(A:Around) (outer:List Env) (s:Shared) (H:Hp) (args:Args) (us:List Value) (vs:List V) (Q:VK) (E:XK),iA k A->HR P w K mg base A outer s H->BindsTo s fd args (ps.zip us)->cV vs us->sp vs H Q E ->
  codeAny (model P w) A (.call (.ref f) args) (CR CX outer P w H s Q E) s
theorem fA.mono{P:Program}{w:World}{K:Frag}{mg:Str->Option Value}{base:Heap}{CX:Hs}{j k:Nat}{f:Addr}{fd:FuncData}{ps:List Str}{sp:Sp}(F:fA P w K mg base CX j f fd ps sp)(h:j<=k) :
  fA P w K mg base CX k f fd ps sp:=⟨F.len,fun A outer s H args us vs Q E hr=>F.run A outer s H args us vs Q E (hr.mono h)⟩
section
variable{X:Cx}{pins:List (Addr×Obj)}{σ:St}{H:Hp}{s s':Shared}
theorem bt.env0(I:bt X pins σ H s):HR X.prog X.w X.K X.mg X.base X.A X.stack s H:=
 ⟨I.ok.frames,I.ok.mod,I.bs,a7 I.ok.bsz I.sz,I.stack,I.stkFree,I.hok,I.bare⟩
theorem bt.after{Q:VK}{u:Value}(I:bt X pins σ H s)(h:CE X.stack X.prog X.w H s Q u s'):EP X pins σ Q u s':=by
 obtain⟨v,H',os,bare,un,hok,r,q⟩:=h
 obtain⟨hh,g,d,t,os'⟩:=s'
 obtain rfl:os'=s.os:=os
 exact⟨v,H',I.call (h':=hh) (g':=g) (d':=d) (t':=t) (ch:=[]) un hok bare (fun b z=>absurd z (by simp)),r,q⟩
end
def xZ(K:Frag)(fd:FuncData)(ps:List Str)(ds:List Value):Prop:=
 ∀(s:Shared) (us:List Value),K.In s.heap->(us++ds).length=ps.length->BindsTo s fd ⟨us,[]⟩ (ps.zip (us++ds))
theorem xZ.all{K:Frag}{fd:FuncData}{ps:List Str}(h:∀us:List Value,us.length=ps.length->bindArgs fd ⟨us,[]⟩=pure (ps.zip us)):xZ K fd ps []:=fun s us _ hl=>by
 rw[cP]at hl ⊢
 exact .of_eq (h us hl)
section
variable{X:Cx}{CX:Hs}{k:Nat}{f C:Addr}{fd:FuncData}{ps:List Str}{sp:Sp}{S7:List V}{ds:List Value}{E:XK}{x m:Str}{p pos gG:Pos}{e o:Expr}{es:List Expr}{ta:TE}{t:TA}
end
section
variable{X:Cx}{CX:Hs}{k:Nat}{f C:Addr}{fd:FuncData}{ps ks:List Str}{sp:Sp}{E:XK}{x m:Str}{p pos gG Qv:Pos}{e o:Expr}{es:List Expr}{SR:List Keyword}{te ta:TE}{t tk:TA}{nm:Option Str}
variable{g:List Value->List Value->List Value}{gV:List V->List V->List V}
end
structure bT(N P:List Str)(sc:Scope):Prop where
 kind:sc.kind=.function
 co:sc.isCoroutine=false
 gen:sc.isGenerator=false
 nd:N.Nodup
 pre:N.take P.length=P
 par:∀x∈P,sc.names.lookup x=some .local\/sc.names.lookup x=some .cell
 nofree:∀y∈sc.names,y.2≠.free
theorem vg{kindOf:Str->Option NameKind}{x:Str}:∀{binds:List (Str×Value)} {m:Str->Option Value},(∀v,(x,v)∉binds)->bindL kindOf binds m x=m x
 |[],_,_=>rfl
 |(n,v)::r,m,h=>by
  unfold bindL
  rw[vg fun w hw=>h w (cv _ hw)]
  split
  ·have:x≠n:=by rintro rfl;exact h v dA
   simp[this]
  ·rfl
theorem vh{kindOf:Str->Option NameKind}{x:Str}:∀{binds:List (Str×Value)} {m:Str->Option Value},(∀v,(x,v)∉binds)->bindC kindOf binds m x=m x
 |[],_,_=>rfl
 |(n,v)::r,m,h=>by
  unfold bindC
  rw[vh fun w hw=>h w (cv _ hw)]
  split
  ·rfl
  ·have:x≠n:=by rintro rfl;exact h v dA
   simp[this]
theorem vi{kindOf:Str->Option NameKind}{x:Str}{v:Value}:∀{P:List Str} {vs:List Value} {i:Nat} {m:Str->Option Value},P.Nodup->P[i]?=some x->vs[i]?=some v->kindOf x=some .local ->
  bindL kindOf (P.zip vs) m x=some v
 |[],_,_,_,_,h,_,_=>by simp at h
 |_::_,[],_,_,_,_,h,_=>by simp at h
 |p::P,w::vs,0,m,nd,h1,h2,hk=>by
  simp at h1 h2;subst h1;subst h2
  show bindL kindOf ((p,w)::P.zip vs) m p=_
  unfold bindL
  rw[vg fun v hv=>(eN.mp nd).1 (mQ hv).1,aB hk]
  simp
 |p::P,w::vs,i+1,m,nd,h1,h2,hk=>by
  show bindL kindOf ((p,w)::P.zip vs) m x=_
  unfold bindL
  exact vi (i:=i) (eN.mp nd).2 (by simpa using h1) (by simpa using h2) hk
theorem vj{kindOf:Str->Option NameKind}{x:Str}{v:Value}:∀{P:List Str} {vs:List Value} {i:Nat} {m:Str->Option Value},P.Nodup->P[i]?=some x->vs[i]?=some v->kindOf x≠some .local ->
  bindC kindOf (P.zip vs) m x=some v
 |[],_,_,_,_,h,_,_=>by simp at h
 |_::_,[],_,_,_,_,h,_=>by simp at h
 |p::P,w::vs,0,m,nd,h1,h2,hk=>by
  simp at h1 h2;subst h1;subst h2
  show bindC kindOf ((p,w)::P.zip vs) m p=_
  unfold bindC
  rw[vh fun v hv=>(eN.mp nd).1 (mQ hv).1,aE hk]
  simp
 |p::P,w::vs,i+1,m,nd,h1,h2,hk=>by
  show bindC kindOf ((p,w)::P.zip vs) m x=_
  unfold bindC
  exact vj (i:=i) (eN.mp nd).2 (by simpa using h1) (by simpa using h2) hk
def rF(N:List Str)(vs:List V):St:=vs.map some++List.replicate (N.length-vs.length) none
def zV(CX:Hs)(P:Program)(w:World)(K:Frag)(mg:Str->Option Value)(base:Heap)(N:List Str)(qual:Str)(scope:Scope)(f:Addr)(cd:Value)(A:Around)(outer:List Env)(s:Shared)(H:Hp)(E:XK):Cx where
 prog:=P
 w:=w
 K:=K
 mg:=mg
 base:=base
 A:=A.deeper (envOfC qual scope s.heap.objs.size f cd)
 N:=N
 s₀:=s
 H₀:=H
 env:=envOfC qual scope s.heap.objs.size f cd
 outer:=outer
 stack:=envOfC qual scope s.heap.objs.size f cd::outer
 ex:=[]
 calm:=true
 fn:=fun _=>true
 pn:=[]
 xe:=fun e s'=>wpAny (model P w) (A.deeper (envOfC qual scope s.heap.objs.size f cd)) (leaving (envOfC qual scope s.heap.objs.size f cd) e) (fun _ s''=>CX outer H s E e s'') (fun e' s''=>CX outer H s E e' s'') s'
theorem m8{sc:Scope}{n:Nat}{x:Str}(h:sc.names.lookup x=some .cell):∃c,(cellsFrom n sc.names []).lookup x=some c:=by
 have q:=PySem.W.cellsFrom_some sc.names n [] (.inl h)
 exact Option.isSome_iff_exists.mp q
theorem Cy{CX:Hs}{P:Program}{w:World}{K:Frag}{mg:Str->Option Value}{base:Heap}{N ps:List Str}{qual:Str}{scope:Scope}{f:Addr}{cd:Value}{A:Around}{outer:List Env}{s s1:Shared}{H:Hp}{E:XK}{us:List Value}{vs:List V}
  (S:bT N ps scope) (hd:A.handled=none) (e0:HR P w K mg base A outer s H) (hl:vs.length=ps.length) (r:cV vs us)
  (x:InCallC s s.heap.objs.size (bindL (envOfC qual scope s.heap.objs.size f cd).kindOf (ps.zip us) fun _=>none) (cellsFrom (s.heap.objs.size+1) scope.names []) (bindC (envOfC qual scope s.heap.objs.size f cd).kindOf (ps.zip us) fun _=>none) s1) :
  bt (zV CX P w K mg base N qual scope f cd A outer s H E) [] (rF N vs) H s1:=by
 have qo:ps.length<=N.length:=by have:=fM List.length S.pre;rw[bb]at this;omega
 obtain⟨h1,tk,rfl,hk⟩:=x.done
 have noA:∀b:Addr,b∉(zV CX P w K mg base N qual scope f cd A outer s H E).ex:=fun b z=>absurd (show b∈([]:List Addr)from z) (by simp)
 refine⟨⟨e0.mod,S.kind,rfl,rfl,ay _,fun y z c h1 h2=>?_,fun y hy=>?_,fun y c _ h=>?_,fun _=>hd,Around.frames_deeper e0.frames,.inr ⟨rfl,rfl⟩,fun b z=>absurd z (noA b),e0.bs,e0.bsz,fun b _ _=>noA b,fun b z=>absurd z (noA b),e0.funs,e0.frf⟩,
  rfl,e0.bare,Un.kept hk,⟨_,x.toInCall.ns,fun i y v h1 h2 h3=>?_⟩,fun y c h=>⟨_,x.cell y c h⟩,e0.hok.fresh (ay _),fun y c h=>?_,fun p hp=>absurd (show p∈([]:List (Addr×Obj))from hp) (by simp),e0.hok.kept hk,?_⟩
 ·exact name_of_addr x.apart (PySem.mem_of_lookup h1) (PySem.mem_of_lookup h2)
 ·have hy:scope.names.lookup y=some .cell\/scope.names.lookup y=some .free:=hy
  rcases hy with hy|hy
  ·exact m8 hy
  ·exact absurd rfl (S.nofree _ (PySem.mem_of_lookup hy))
 ·exact gX (x.above y c (PySem.mem_of_lookup h))
 ·have hi:i<vs.length:=by
   unfold rF at h2
   by_cases hi:i<vs.length
   ·exact hi
   ·rw[dX (by simpa using hi)]at h2
    rw[iy]at h2
    split at h2<;>cases h2
  have ha:vs[i]?=some v:=by
   unfold rF at h2
   rw[av (by simpa using hi),ax]at h2
   cases e:vs[i]? with
   |none=>rw[e]at h2;cases h2
   |some a=>rw[e]at h2;cases h2;rfl
  obtain⟨u,hu,rv⟩:=r.get ha
  have hp:ps[i]?=some y:=by
   rw[<- S.pre,aN (by omega)];exact h1
  have ndP:ps.Nodup:=by rw[<- S.pre];exact S.nd.sublist (gB _ _)
  refine⟨u,rv,?_⟩
  rcases S.par y (aA hp)with k|k
  ·exact .inl ⟨k,vi ndP hp hu k⟩
  ·obtain⟨c,e⟩:=m8 (n:=s.heap.objs.size+1) k
   refine .inr ⟨.inl k,c,e,?_⟩
   have q:=x.cell y c e
   rw[vj ndP hp hu (by show scope.names.lookup y≠_;rw[k];decide)]at q
   exact q
 ·exact e0.hok.fresh (gX (x.above y c (PySem.mem_of_lookup h)))
 ·unfold rF
  show _=N.length
  rw[aK,az,List.length_replicate]
  omega
theorem Op{CX:Hs}{P:Program}{w:World}{K:Frag}{mg:Str->Option Value}{base:Heap}{k:Nat}{f:Addr}{name qual:Str}{params:Arguments}{body:List Stmt}{scope:Scope}{dV kV sO pm gI ct oc:Value}{an od:Option Addr}
  {KM:Array (Option Value)} {N ps:List Str} {sp:Sp} (lk:K.lookup f=some ⟨oc,od,.func (fnOf name qual params body scope dV kV sO pm an gI ct),KM⟩) (nK:codeIn K gI qual=true) (S:bT N ps scope)
  (len:∀vs H Q E,sp vs H Q E->vs.length=ps.length)
  (zw:∀(A:Around) (outer:List Env) (s:Shared) (H:Hp) (vs:List V) (Q:VK) (E:XK),iA k (A.deeper (envOfC qual scope s.heap.objs.size f gI))->sp vs H Q E ->
   ∃t,Cm (zV CX P w K mg base N qual scope f gI A outer s H E) body t/\t { nx:=fun _ H'=>Q .non H',rt:=Q } (rF N vs) H) :
  fA P w K mg base CX (k+1) f (fnOf name qual params body scope dV kV sO pm an gI ct) ps sp:=by
 refine⟨len,fun A outer s H args us vs Q E hr e0 hb r NU=>?_⟩
 have hl:=len _ _ _ _ NU
 have KX:K.In s.heap:=e0.mod.kin.keeps fun b o e=>(e0.bs b o e).1
 have lim:s.heap.NoLimit:=e0.mod.nolimit.keeps fun b o e=>(e0.bs b o e).1
 have h_:∀y∈ps.zip us,scope.names.lookup y.1=some .local\/(scope.names.lookup y.1=some .cell/\((cellsFrom (s.heap.objs.size+1) scope.names []).lookup y.1).isSome=true):=fun⟨n,v⟩ hy=>by
  rcases S.par n (mQ hy).1 with q|q
  ·exact .inl q
  ·exact .inr ⟨q,PySem.W.cellsFrom_some _ _ _ (.inl q)⟩
 refine codeAny_call_function hr.depth (KX _ _ lk) rfl S.co S.gen rfl (PySem.W.codeRec_of KX nK) (hb _ _ _ _ ?_)
 refine wpAny_newFunctionEnv_cells S.kind h_ fun env he s1 x=>?_
 subst he
 refine⟨lim.keeps x.toInCall.keep,codeAny_func ?_⟩
 obtain⟨t,ht,hq⟩:=zw A outer s H vs Q E (hr.deeper _) NU
 have I:bt (zV CX P w K mg base N qual scope f gI A outer s H E) [] (rF N vs) H s1:=Cy S hr.hd e0 hl r x
 refine cH (ht [] s1 (rF N vs) H _ I hq) (fun fl s' hs=>?_) fun e s' hs=>hs
 have fin:∀{σ':St} {H':Hp} {v:V} {u:Value},bt (zV CX P w K mg base N qual scope f gI A outer s H E) [] σ' H' s'->cb v u->Q v H'->CE outer P w H s Q u s':=
  fun{σ' H' v u} J rv q=>⟨v,H',J.os,J.bare,J.base,J.hok,rv,q⟩
 cases fl with
 |ret u=>
  obtain⟨v,σ',H',J,rv,q⟩:=hs
  exact fin J rv q
 |next=>
  obtain⟨σ',H',J,q⟩:=hs
  exact fin (v:=V.non) (u:=Value.none) J rfl q
 |brk=>
  obtain⟨_,_,_,q⟩:=hs
  exact False.elim q
 |cont=>
  obtain⟨_,_,_,q⟩:=hs
  exact False.elim q
section
variable{X:Cx}{x:Str}{p pos:Pos}{e:Expr}{es:List Expr}{t:TA}{id T:String}{r:List V->Hp->VK->Prop}
def Rm(r:List V->Hp->VK->Prop)(t:TA):TE:=fun σ H Q=>t σ H fun vs H1=>r vs H1 Q
theorem m9(hc:gZ X (.builtin id) r)(hg:Gl X x)(hm:X.mg x=none)(hv:bootBuiltins x=some (.builtin id))(ha:PA X (e::es) t)(hn:x ≠ "__name__":=by decide)(Jz:(x==("__debug__":Str))=false:=by decide)
  (he:starEach (e::es) X.env=(false,eval e X.env)::starEach es X.env:=by rfl) (qo:(backTo pos (starEach es X.env)).any (·.1)=false:=by rfl):PE X (.Call (.Name x p) (e::es) [] pos) (Rm r t):=by
 intro pins s σ H Q I h
 refine ix (lE I hg hm hv ?_ hn Jz)
 exact PyProof.Rows.callWith_builtin1 (gs (ha pos pins s σ H _ I h) fun us s1 ⟨vs,H1,I1,r1,q1⟩=>hc pins s1 σ H1 vs us Q I1 r1 q1) he qo
theorem Cz(hc:gZ X (.type T) r)(hg:Gl X x)(hm:X.mg x=none)(hv:bootBuiltins x=some (.type T))(ha:PA X (e::es) t)(hn:x ≠ "__name__":=by decide)(Jz:(x==("__debug__":Str))=false:=by decide)
  (he:starEach (e::es) X.env=(false,eval e X.env)::starEach es X.env:=by rfl) (qo:(backTo pos (starEach es X.env)).any (·.1)=false:=by rfl):PE X (.Call (.Name x p) (e::es) [] pos) (Rm r t):=by
 intro pins s σ H Q I h
 refine ix (lE I hg hm hv ?_ hn Jz)
 exact cW (gs (ha pos pins s σ H _ I h) fun us s1 ⟨vs,H1,I1,r1,q1⟩=>hc pins s1 σ H1 vs us Q I1 r1 q1) he qo
end
end L2
namespace HT
open PySem PyProof.Rows
def lexLt:List Int->List Int->Bool
 |[],[]=>false
 |[],_::_=>true
 |_::_,[]=>false
 |x::xs,y::ys=>if x=y then lexLt xs ys else decide (x<y)
theorem lexLt_cons(x y:Int)(xs ys:List Int):lexLt (x::xs) (y::ys)=if x=y then lexLt xs ys else decide (x<y):=rfl
theorem lexLt_nil_nil:lexLt [] []=false:=rfl
theorem sQ(y:Int)(ys:List Int):lexLt [] (y::ys)=true:=rfl
theorem sR(x:Int)(xs:List Int):lexLt (x::xs) []=false:=rfl
theorem DV(A:Around)(s:Shared)(a:Int)(t:Tok)(c:Int)(u:Tok):∃e,SeqAt.EqAt A s (.int a t) (.int c u) e/\(e=true↔a=c):=
 ⟨(a==c),SeqAt.EqAt.int_int a t c u,by simp⟩
theorem DW(A:Around)(s:Shared)(a:Int)(t:Tok)(c:Int)(u:Tok)(prog:Program)(w:World)(E:Value->Shared->Prop)(Q:Value->Shared->Prop)(h:Q (.bool (decide (a<c))) s) :
  wpAny (model prog w) A (richCompare .Lt (.int a t) (.int c u)) Q E s:=
 (PyProof.Rows.lt_int h:wpAny (model prog w) A (compareOp .Lt (.int a t) (.int c u)) Q E s)
section
open PySem.SeqAt
open PySem.AutoSeq1 (wpAny_loadPart')
open PySem.MeetsSeq PySem.MeetsSeq2 PySem.MeetsSeq3
theorem uK(l b:Addr)(items kT:Array Value)(n n2:Nat)(dd NX:Option Addr)(sl DG:Array (Option Value))(ns ms:List Int)(hi:IntsAre items.toList ns)(hj:IntsAre kT.toList ms) :
  Meets (Builtin.«tuple.__lt__» ⟨[.ref l,.ref b],[]⟩)
   (fun _ R s=>s.heap.get? l=some { cls:=.type "tuple",dict:=dd,data:=.seq items n,slots:=sl }/\s.heap.get? b=some { cls:=.type "tuple",dict:=NX,data:=.seq kT n2,slots:=DG } /\
    R (.ok (.ret (.bool (lexLt ns ms)))) s):=
 .of_wp fun prog w A R s h=>by
  obtain⟨hp,g,d,tk,os⟩:=s;obtain⟨hl,hb,h⟩:=h
  have f2:=AutoSeq1.sub_tuple_tuple
  have z1:items.size=ns.length:=by rw[<- hi.length];simp
  have z2:kT.size=ms.length:=by rw[<- hj.length];simp
  wp_walk using cE hl,cE hb,wpAny_forIn_list _ (fun fz b s'=>b.1=none/\s'=⟨hp,g,d,tk,os⟩/\∃(vs ws:List Value) (NR NV:List Int),fz=vs.zip ws /\
   IntsAre vs NR/\IntsAre ws NV/\NR.length+kT.size=NV.length+items.size/\R (.ok (.ret (.bool (lexLt NR NV)))) ⟨hp,g,d,tk,os⟩) _
  case turn=>
   rintro⟨y,x⟩ fz b s' ⟨hb',rfl,vs,ws,NR,NV,hz,hvi,hwi,cR,hR⟩
   cases hvi with
   |nil=>rw[List.zip_nil_left]at hz;cases hz
   |cons a t hvi'=>
    cases hwi with
    |nil=>rw[List.zip_nil_right]at hz;cases hz
    |cons c u hwi'=>
     rw[List.zip_cons_cons]at hz
     injection hz with hyx hrest
     injection hyx with hy hx
     subst hy hx
     rw[lexLt_cons]at hR
     simp only[bf]at cR
     obtain⟨e,he,hiff⟩:=DV A.in1 ⟨hp,g,d,tk,os⟩ a t c u
     refine ak (he prog w _ _ ?_)
     cases e with
     |true=>
      rw[aB (hiff.mp rfl)]at hR
      wp_walk
      exact⟨rfl,rfl,_,_,_,_,hrest,hvi',hwi',by omega,hR⟩
     |false=>
      rw[aE (fun q=>absurd (hiff.mpr q) eu)]at hR
      have hri:=DW A.in1 ⟨hp,g,d,tk,os⟩ a t c u prog w
      wp_walk using hri
      exact⟨_,rfl,by simpa using hR⟩
  case fin=>
   rintro⟨b1,b2⟩ s' ⟨hb',rfl,vs,ws,NR,NV,hz,hvi,hwi,cR,hR⟩
   simp only at hb'
   subst hb'
   have hv:lexLt NR NV=decide (items.size<kT.size):=by
    cases hvi with
    |nil=>
     cases hwi with
     |nil=>
      simp only[cQ]at cR
      rw[lexLt_nil_nil]
      exact(aU (by omega)).symm
     |cons c u hw=>
      simp only[cQ,bf]at cR
      rw[sQ]
      exact(a_ (by omega)).symm
    |cons a t hv=>
     cases hwi with
     |nil=>
      simp only[cQ,bf]at cR
      rw[sR]
      exact(aU (by omega)).symm
     |cons c u hw=>
      rw[List.zip_cons_cons]at hz
      cases hz
   rw[hv]at hR
   wp_walk
   exact⟨_,rfl,by simpa[Builtin.Tuple.tupleCompareSizes]using hR⟩
  case h=>
   exact⟨rfl,rfl,items.toList,kT.toList,ns,ms,rfl,hi,hj,by omega,h⟩
end
section
variable{prog:Program}{w:World}{A:Around}{E:Value->Shared->Prop}{s:Shared}
theorem lt_tupInts{l b:Addr}{items kT:Array Value}{ns ms:List Int}{Q:Value->Shared->Prop}(hl:IsTup s.heap l items)(hb:IsTup s.heap b kT)(hi:IntsAre items.toList ns)(hj:IntsAre kT.toList ms)
  (hu:A.units<cLine) (h:Q (.bool (lexLt ns ms)) s):wpAny (model prog w) A (compareOp .Lt (.ref l) (.ref b)) Q E s:=by
 obtain⟨⟨cls,dd,data,sl⟩,ho,hc,n,hd⟩:=id hl
 obtain⟨⟨cls2,NX,data2,DG⟩,ho2,hc2,n2,A'⟩:=id hb
 simp only at hc hd hc2 A'
 subst hc hd hc2 A'
 exact richCompare_meets_room (op:=.Lt) ⟨_,ho,rfl⟩ ⟨_,ho2,rfl⟩ PySem.F.slot_tuple_lt PySem.F.entry_tuple_lt (PySem.F.args_tuple_lt_2 _ _) (uK l b items kT n n2 dd NX sl DG ns ms hi hj)
  ⟨ho,ho2,show Value.bool (lexLt ns ms)≠Value.notImplemented/\Q (.bool (lexLt ns ms)) s from⟨(fun x=>nomatch x),h⟩⟩ hu
theorem cat_tup{t b:Addr}{vs ws:List Value}{Q:Value->Shared->Prop}(ht:IsTup s.heap t vs.toArray)(hb:IsTup s.heap b ws.toArray)(hv:vs≠[])
  (h1:ws=[]->Q (.ref t) s) (h2:ws≠[]->Q (.ref s.heap.objs.size) { s with heap:=s.heap.push { cls:=.type "tuple",data:=.seq (vs++ws).toArray } })
  (hsz:vs.length+ws.length<=sizeLine):wpAny (model prog w) A (binaryOp .Add (.ref t) (.ref b)) Q E s:=by
 obtain⟨⟨cls,dd,data,sl⟩,ho,hc,n,hd⟩:=id ht
 obtain⟨⟨cls2,NX,data2,DG⟩,ho2,hc2,n2,A'⟩:=id hb
 simp only at hc hd hc2 A'
 subst hc hd hc2 A'
 have e:vs.toArray++ws.toArray=(vs++ws).toArray:=by simp
 by_cases hw:ws=[]
 ·exact qx ⟨_,ho,rfl⟩ ⟨_,ho2,rfl⟩ lu oX PySem.F.slot_tuple_add PySem.F.entry_tuple_add (PySem.F.args_tuple_add_2 _ _)
   (tuple_addW1 t b vs.toArray ws.toArray n n2 dd NX sl DG (by simpa using hv) (by simp[hw])) ⟨ho,ho2,h1 hw⟩
 ·refine qx ⟨_,ho,rfl⟩ ⟨_,ho2,rfl⟩ lu oX PySem.F.slot_tuple_add PySem.F.entry_tuple_add (PySem.F.args_tuple_add_2 _ _)
   (tuple_addW2 t b vs.toArray ws.toArray n n2 dd NX sl DG (by simpa using hv) (by simpa using hw) (by rw[aX,aX];exact hsz)) ⟨ho,ho2,?_⟩
  rw[e]
  exact h2 hw
def sIx(n d:Nat):Option Int->Nat
 |none=>d
 |some v=>if v<0 then(v+(n:Int)).toNat else min v.toNat n
theorem sIx_none(n d:Nat):sIx n d none=d:=rfl
theorem sIx_nat(n d k:Nat):sIx n d (some (k:Int))=min k n:=by
 show(if (k:Int)<0 then((k:Int)+(n:Int)).toNat else min (k:Int).toNat n)=min k n
 rw[aE (by omega),a6]
theorem sIx_le(n d:Nat)(hd:d<=n)(o:Option Int):sIx n d o<=n:=by
 cases o with
 |none=>exact hd
 |some v=>
  show(if v<0 then(v+(n:Int)).toNat else min v.toNat n)<=n
  by_cases hv:v<0
  ·rw[aB hv];omega
  ·rw[aE hv];exact Nat.min_le_right _ _
theorem Bg(v:Int)(n d:Nat):(if v<0 then max (v+(n:Int)) 0 else min v (n:Int))=((sIx n d (some v):Nat):Int):=by
 show(if v<0 then max (v+(n:Int)) 0 else min v (n:Int))=(((if v<0 then(v+(n:Int)).toNat else min v.toNat n):Nat):Int)
 by_cases hv:v<0
 ·simp only[aB hv];omega
 ·simp only[aE hv];omega
theorem zW(lo hi:Option Int)(n:Nat):Builtin.Slice.sliceAdjust lo hi 1 (n:Int)=(((sIx n 0 lo:Nat):Int),((sIx n n hi:Nat):Int)):=by
 have h1:¬ ((1:Int)<0):=by omega
 unfold Builtin.Slice.sliceAdjust
 simp only[h1,lv]
 refine Prod.ext ?_ ?_
 ·cases lo with
  |none=>rfl
  |some v=>exact Bg v n 0
 ·cases hi with
  |none=>rfl
  |some v=>exact Bg v n n
theorem zX(i j:Nat):Builtin.Slice.slicePlaces (i:Int) (j:Int) 1=j-i:=by
 unfold Builtin.Slice.slicePlaces
 have h1:(1:Int)>0:=by omega
 simp only[h1,fN,Int.ediv_one]
 split<;>omega
theorem sT{v:Value}{o:Option Int}{Q:Option Int->Shared->Prop}(p:IsPart v o)(h:Q o s):wpAny (model prog w) A (Builtin.Slice.slicePartIndex v) Q E s:=by
 cases p with
 |none=>exact slicePart_none h
 |int i t=>exact slicePart_int h
theorem sliceApplied_gen{sl:Addr}{vl vu:Value}{lo hi:Option Int}{n:Nat}{Q:Int×Int×Nat->Shared->Prop}(hs:s.heap.IsSliceOf sl vl vu .none)(pl:IsPart vl lo)(pu:IsPart vu hi)
  (h:Q (((sIx n 0 lo:Nat):Int),1,sIx n n hi-sIx n 0 lo) s):wpAny (model prog w) A (Builtin.Slice.sliceApplied (.ref sl) (pure (n:Int))) Q E s:=by
 obtain⟨os,hos,hcs,rA⟩:=id hs
 unfold Builtin.Slice.sliceApplied Builtin.Slice.sliceFields
 refine ak (ak (dG hos rA (x:=vl) rfl (ak (dG hos rA (x:=vu) rfl (ak (dG hos rA (x:=.none) rfl (aJ ?_)))))))
 refine ak (slicePart_none ?_)
 show wpAny _ _ (if ((1:Int)==0)=true then _ else _) _ _ s
 rw[aE (by decide)]
 refine ak (sT pl (ak (sT pu (ak (aJ ?_)))))
 show wpAny _ _ (match Builtin.Slice.sliceAdjust lo hi 1 (n:Int)with|(lo,hi)=>pure (lo,(1:Int),Builtin.Slice.slicePlaces lo hi 1)) _ _ s
 rw[zW lo hi n]
 show wpAny _ _ (pure (((sIx n 0 lo:Nat):Int),(1:Int),Builtin.Slice.slicePlaces ((sIx n 0 lo:Nat):Int) ((sIx n n hi:Nat):Int) 1)) _ _ s
 rw[zX]
 exact aJ h
theorem DX(xs:Array Value)(i k:Nat):((List.range k).filterMap fun(m:Nat)=>xs[((i:Int)+(m:Int)*1).toNat]?).toArray=((xs.toList.drop i).take k).toArray:=by
 have e:(fun(m:Nat)=>xs[((i:Int)+(m:Int)*1).toNat]?)=fun m=>xs[i+m]?:=by
  funext m
  have:((i:Int)+(m:Int)*1).toNat=i+m:=by omega
  rw[this]
 rw[e]
 have:=pick_run xs i k
 rw[List.filterMap_map]at this
 have e2:((fun x=>xs[x]?)∘fun x=>i+x)=fun m=>xs[i+m]?:=rfl
 rw[e2]at this
 rw[this]
theorem getItem_tuple_cut{t sl:Addr}{items:Array Value}{vl vu:Value}{lo hi:Option Int}{Q:Value->Shared->Prop}(ht:IsTup s.heap t items)(hs:s.heap.IsSliceOf sl vl vu .none)(pl:IsPart vl lo)(pu:IsPart vu hi)
  (hw:¬ (sIx items.size 0 lo=0/\sIx items.size items.size hi=items.size))
  (h:Q (.ref s.heap.objs.size) { s with heap:=s.heap.push { cls:=.type "tuple",data:=.seq ((items.toList.drop (sIx items.size 0 lo)).take (sIx items.size items.size hi-sIx items.size 0 lo)).toArray } })
  (hsz:items.size<=sizeLine):wpAny (model prog w) A (getItem (.ref t) (.ref sl)) Q E s:=by
 have htake:sizeOk (.seq ((items.toList.drop (sIx items.size 0 lo)).take (sIx items.size items.size hi-sIx items.size 0 lo)).toArray):=by
  show((items.toList.drop (sIx items.size 0 lo)).take (sIx items.size items.size hi-sIx items.size 0 lo)).toArray.size<=sizeLine
  rw[aX,bb,dH,fW]
  omega
 have hj:sIx items.size items.size hi<=items.size:=sIx_le _ _ (ay _) hi
 obtain⟨os,hos,hcs,rA⟩:=id hs
 have hTs:s.TypeIs (.ref sl) "slice":=⟨os,hos,hcs⟩
 unfold getItem
 try with_reducible refine eA ?_
 first|refine ak (aJ ?_)|skip
 refine ak (wpAny_sequenceKey ht.typeIs (by decide) ?_)
 refine ak (cX (name:=Str.ofString "__getitem__") ht.typeIs d7
  (dJ d7 ht.typeIs entry_tuple_getitem ?_ (args_tuple_getitem _ _)))
 show wpAny _ _ (Builtin.Tuple.tupleItemsOf (.ref t) >>= _) _ _ s
 refine ak (tupleItemsOf_ ht ?_)
 refine ak (qy hTs ?_)
 rw[aB (by decide)]
 refine ak (sliceApplied_gen hs pl pu ?_)
 have hno:¬ ((((sIx items.size 0 lo:Nat):Int)==0&&(1:Int)==1&&(sIx items.size items.size hi-sIx items.size 0 lo)==items.size)=true):=by
  intro q
  rw[cq,cq]at q
  have q1:((sIx items.size 0 lo:Nat):Int)=0:=oD q.1.1
  have q2:sIx items.size items.size hi-sIx items.size 0 lo=items.size:=oD q.2
  exact hw ⟨by omega,by omega⟩
 show wpAny _ _ (if (((sIx items.size 0 lo:Nat):Int)==0&&(1:Int)==1&&(sIx items.size items.size hi-sIx items.size 0 lo)==items.size)=true then _ else _) _ _ s
 rw[aE hno,DX]
 first
  |exact ak (m:=Builtin.Tuple.tupleExact _) (cw (aJ ⟨_,rfl,aJ h⟩) htake)
  |exact ak (m:=Builtin.Tuple.tupleExact _) (cw (ak (aJ (aJ ⟨_,rfl,aJ h⟩))) htake)
  |exact ak (ak (m:=Builtin.Tuple.tupleExact _) (cw (aJ (aJ ⟨_,rfl,aJ h⟩)) htake))
  |exact ak (ak (m:=Builtin.Tuple.tupleExact _) (cw (aJ ⟨_,rfl,aJ h⟩) htake))
end
end HT
namespace L2
open PySem PySem.Spec PyProof.Rows
abbrev TO:=St->Hp->(Option Int->Hp->Prop)->Prop
def PO(X:Cx)(e:Option Expr)(t:TO):Prop:=
 ∀(pins:List (Addr×Obj)) (s:Shared) (σ:St) (H:Hp) (Q:Option Int->Hp->Prop),bt X pins σ H s->t σ H Q ->
  wpAny (model X.prog X.w) X.A (evalPart e X.env) (fun u s'=>∃o H',bt X pins σ H' s'/\IsPart u o/\Q o H') X.xe s
def HS:TO:=fun _ H Q=>Q none H
def Oq(t:TE):TO:=fun σ H Q=>t σ H fun x H1=>∃i,x=.int i/\Q (some i) H1
theorem lF{ns:List Int}:∀{us:List Value},cV (ns.map V.int) us->IntsAre us ns:=by
 induction ns with
 |nil=>intro us r;rw[c_]at r;cases r;exact .nil
 |cons n ns ih=>
  intro us r
  rw[aT]at r
  cases r with
  |cons r1 r2=>
   obtain⟨t,e⟩:=r1
   subst e
   exact .cons n t (ih r2)
section
variable{X:Cx}{e:Expr}{te:TE}{lo hi:Option Expr}{tl th:TO}{pos p2:Pos}
theorem HU:PO X none HS:=by
 intro pins s σ H Q I h
 rw[evalPart_none]
 exact aJ ⟨none,H,I,.none,h⟩
theorem HV(h:PE X e te):PO X (some e) (Oq te):=by
 intro pins s σ H Q I hw
 rw[evalPart_some]
 refine gs (h pins s σ H _ I hw) fun u s1 ⟨x,H1,I1,r1,q1⟩=>?_
 obtain⟨i,rfl,q⟩:=q1
 obtain⟨t,rfl⟩:=r1
 exact⟨some i,H1,I1,.int i t,q⟩
def Os(X:Cx)(r:V->Option Int->Option Int->Hp->VK->Prop):Prop:=
 ∀(pins:List (Addr×Obj)) (s:Shared) (σ:St) (H:Hp) (x:V) (v vl vu:Value) (lo hi:Option Int) (sl:Addr) (Q:VK),bt X pins σ H s->cb x v->s.heap.IsSliceOf sl vl vu .none->IsPart vl lo->IsPart vu hi->r x lo hi H Q ->
  ∃T id,typeLookup (.type T) "__getitem__"=pure (some (.builtin id))/\s.TypeIs v T/\wpAny (model X.prog X.w) X.A (getItem v (.ref sl)) (EP X pins σ Q) X.xe s
def Ss(r:V->Option Int->Option Int->Hp->VK->Prop)(te:TE)(tl th:TO):TE:=fun σ H Q=>te σ H fun x H1=>tl σ H1 fun l H2=>th σ H2 fun u H3=>r x l u H3 Q
theorem DY{r:V->Option Int->Option Int->Hp->VK->Prop}(hr:Os X r)(he:PE X e te)(hl:PO X lo tl)(hu:PO X hi th):PE X (.Subscript e (.Slice lo hi none p2) pos) (Ss r te tl th):=by
 intro pins s σ H Q I h
 refine Subscript_ (gs (he pins s σ H _ I h) fun v s1 ⟨x,H1,I1,r1,q1⟩=>?_)
 refine wpAny_Slice (gs (hl pins s1 σ H1 _ I1 q1) fun vl s2 ⟨l,H2,I2,pl,q2⟩=>gs (hu pins s2 σ H2 _ I2 q2) fun vu s3 ⟨u,H3,I3,pu,q3⟩=>?_)
 rw[evalPart_none]
 refine aJ ?_
 have I4:bt X pins σ H3 { s3 with heap:=s3.heap.push { cls:=.type "slice",data:=.fields #[vl,vu,.none] } }:=I3.kept (t':=s3.toks) fun b ob q=>ar _ q
 obtain⟨T,id,hT,ht,hg⟩:=hr pins { s3 with heap:=s3.heap.push { cls:=.type "slice",data:=.fields #[vl,vu,.none] } } σ H3 x v vl vu l u s3.heap.objs.size Q I4 r1 (Heap.IsSliceOf.new ..) pl pu q3
 show wpAny (model X.prog X.w) X.A (subscriptTail e (.Slice lo hi none p2) v (.ref s3.heap.objs.size)) (EP X pins σ Q) X.xe { s3 with heap:=s3.heap.push { cls:=.type "slice",data:=.fields #[vl,vu,.none] } }
 exact tail_any (ops:=[.ref s3.heap.objs.size,v]) ht hT hg (by with_unfolding_all rfl)
def sU(xs:List V)(lo hi:Option Int):List V:=(xs.drop (HT.sIx xs.length 0 lo)).take (HT.sIx xs.length xs.length hi-HT.sIx xs.length 0 lo)
theorem rG(xs:List V)(lo hi:Option Int):(sU xs lo hi).length<=xs.length:=by
 unfold sU
 rw[bb,dH]
 omega
def Rn(K:Frag):V->Option Int->Option Int->Hp->VK->Prop:=fun x lo hi H Q=>∃a xs,x=.ref a/\fS K H a xs /\
 ¬ (HT.sIx xs.length 0 lo=0/\HT.sIx xs.length xs.length hi=xs.length)/\∀p,H p=none->Q (.ref p) (eS H p (.tup (sU xs lo hi)))
theorem Lv:Os X (Rn X.K):=by
 intro pins s σ H x v vl vu lo hi sl Q I rx hs pl pu h
 obtain⟨a,xs,rfl,hx,hw,q⟩:=h
 cases rx
 obtain⟨bJ,r,ht,hz⟩:=I.tuple hx
 have cR:bJ.toArray.size=xs.length:=by rw[aX];exact r.length.symm
 refine⟨"tuple",_,d7.lookup,ht.typeIs,?_⟩
 refine HT.getItem_tuple_cut ht hs pl pu (by rw[cR];exact hw) ?_ (by rw[cR];exact hz)
 rw[cR]
 refine⟨.ref s.heap.objs.size,_,I.laid (t':=s.toks) (o:=.tup (sU xs lo hi)) (fun b ob q=>ar _ q) (ay _) ?_,rfl,q _ (I.hok.fresh (ay _))⟩
 exact⟨a7 (rG xs lo hi) hz,_,(r.drop (HT.sIx xs.length 0 lo)).take (HT.sIx xs.length xs.length hi-HT.sIx xs.length 0 lo),rC _ _⟩
def Rp(K:Frag):R2:=fun x y H Q=>∃a b ns ms,x=.ref a/\y=.ref b/\fS K H a (ns.map V.int)/\fS K H b (ms.map V.int)/\Q (.bl (HT.lexLt ns ms)) H
theorem Lw(hu:X.A.units<cLine):lD X (compareOp .Lt) (Rp X.K):=by
 intro pins s σ H x y v u Q I rx ry h
 obtain⟨a,b,ns,ms,rfl,rfl,ha,hb,q⟩:=h
 cases rx
 cases ry
 obtain⟨bJ,r1,p1,_⟩:=I.tuple ha
 obtain⟨its2,r2,p2,_⟩:=I.tuple hb
 have i1:IntsAre bJ.toArray.toList ns:=lF r1
 have i2:IntsAre its2.toArray.toList ms:=lF r2
 exact HT.lt_tupInts p1 p2 i1 i2 hu ⟨.bl (HT.lexLt ns ms),H,I,rfl,q⟩
def Ot(K:Frag):R2:=fun x y H Q=>∃a b xs ys,x=.ref a/\y=.ref b/\fS K H a xs/\fS K H b ys/\xs≠[]/\xs.length+ys.length<=sizeLine /\
 (ys=[]->Q (.ref a) H)/\(ys≠[]->∀p,H p=none->Q (.ref p) (eS H p (.tup (xs++ys))))
theorem cV.nil_iff{xs:List V}{us:List Value}(r:cV xs us):us=[]↔xs=[]:=by
 cases r with
 |nil=>simp
 |cons _ _=>simp
theorem HW:lD X (binaryOp .Add) (Ot X.K):=by
 intro pins s σ H x y v u Q I rx ry h
 obtain⟨a,b,xs,ys,rfl,rfl,ha,hb,hx,hz,q1,q2⟩:=h
 cases rx
 cases ry
 obtain⟨bJ,r1,p1,_⟩:=I.tuple ha
 obtain⟨its2,r2,p2,_⟩:=I.tuple hb
 refine HT.cat_tup p1 p2 (fun z=>hx (r1.nil_iff.mp z)) (fun z=>⟨.ref a,H,I,rfl,q1 (r2.nil_iff.mp z)⟩) (fun z=>?_) (by rw[<- r1.length,<- r2.length];exact hz)
 refine⟨.ref s.heap.objs.size,_,I.laid (t':=s.toks) (o:=.tup (xs++ys)) (fun b ob q=>ar _ q) (ay _) ?_,rfl,q2 (fun w=>z (r2.nil_iff.mpr w)) _ (I.hok.fresh (ay _))⟩
 exact⟨by rw[aK];exact hz,_,r1.append r2,rC _ _⟩
theorem x5:gZ X (.type "tuple") (fun xs H Q=>∃a ys,xs=[.ref a]/\fS X.K H a ys/\Q (.ref a) H):=by
 intro pins s σ H xs us Q I r h
 obtain⟨a,ys,rfl,ha,q⟩:=h
 obtain⟨u,rfl,ru⟩:=mC r
 cases ru
 obtain⟨bJ,_,p1,_⟩:=I.tuple ha
 exact call_tuple_same (items:=bJ.toArray) p1 ⟨.ref a,H,I,rfl,q⟩
end
def Bh(n:Nat)(i:Int):Option Nat:=if 0<=i then(if i<n then some i.toNat else none)else if -(n:Int)<=i then some (i+n).toNat else none
def pJ{α:Type}(xs:List α)(i:Int):Option α:=(Bh xs.length i).bind fun j=>xs[j]?
theorem Bi{n:Nat}{i:Int}{j:Nat}(h:Bh n i=some j):seqIndex? i n=some j/\j<n/\-(n:Int)<=i/\i<n:=by
 unfold Bh at h
 by_cases h0:0<=i
 ·rw[aB h0]at h
  by_cases h1:i<n
  ·rw[aB h1]at h
   have e:i.toNat=j:=aZ h
   exact⟨by rw[seqIndex_of h0 h1,e],by omega,by omega,h1⟩
  ·rw[aE h1]at h;cases h
 ·rw[aE h0]at h
  by_cases h1:-(n:Int)<=i
  ·rw[aB h1]at h
   have e:(i+n).toNat=j:=aZ h
   exact⟨by rw[qz (by omega) h1,e],by omega,h1,by omega⟩
  ·rw[aE h1]at h;cases h
theorem v_{α:Type}{xs:List α}{i:Int}{v:α}(h:pJ xs i=some v):∃j,seqIndex? i xs.length=some j/\xs[j]?=some v/\j<xs.length/\-(xs.length:Int)<=i/\i<xs.length:=by
 unfold pJ at h
 cases e:Bh xs.length i with
 |none=>rw[e]at h;cases h
 |some j=>
  rw[e]at h
  obtain⟨h1,h2,h3,h4⟩:=Bi e
  exact⟨j,h1,h,h2,h3,h4⟩
def Bj(b:Expr):Prop:=∀o i,subscripted b false o i=operate [o,i] (getItem o i)
def Ht(X:Cx)(r:R2):Prop:=
 ∀(value slice:Expr) (pins:List (Addr×Obj)) (s:Shared) (σ:St) (H:Hp) (x y:V) (v u:Value) (Q:VK),bt X pins σ H s->cb x v->cb y u->r x y H Q ->
  subscripted slice false v u=operate [v,u] (getItem v u)->wpAny (model X.prog X.w) X.A (subscriptTail value slice v u) (EP X pins σ Q) X.xe s
def Hu(X:Cx)(id:String)(r:V->List V->Hp->VK->Prop):Prop:=
 ∀(pins:List (Addr×Obj)) (s:Shared) (σ:St) (H:Hp) (x:V) (xs:List V) (v:Value) (us:List Value) (Q:VK),bt X pins σ H s->cb x v->cV xs us->r x xs H Q ->
  wpAny (model X.prog X.w) X.A (call (.builtin id) (v::us)) (EP X pins σ Q) X.xe s
section
variable{X:Cx}{a b:Expr}{ta tb:TE}{pos:Pos}
theorem Ht.or{r r':R2}(h:Ht X r)(h':Ht X r'):Ht X (fun x y H Q=>r x y H Q\/r' x y H Q):=by
 intro value slice pins s σ H x y v u Q I rx ry q hs
 rcases q with q|q
 ·exact h value slice pins s σ H x y v u Q I rx ry q hs
 ·exact h' value slice pins s σ H x y v u Q I rx ry q hs
theorem Ou{r:R2}(hr:Ht X r)(ha:PE X a ta)(hb:PE X b tb)(hs:Bj b):PE X (.Subscript a b pos) (Of r ta tb):=by
 intro pins s σ H Q I h
 exact Subscript_ (Lg ha hb I h fun v u s2 x y H2 I2 rx ry q=>hr a b pins s2 σ H2 x y v u Q I2 rx ry q (hs _ _))
def Ov(K:Frag):R2:=fun x y H Q=>∃p xs i v,x=.ref p/\y=.int i/\rE K H p xs/\pJ xs i=some v/\Q v H
def Ow(K:Frag):R2:=fun x y H Q=>∃p xs i v,x=.ref p/\y=.int i/\fS K H p xs/\pJ xs i=some v/\Q v H
def Ox:R2:=fun x y H Q=>∃z i c,x=.str z/\y=.int i/\z.length<=sizeLine/\pJ z.cps.toList i=some c/\Q (.str ⟨#[c]⟩) H
theorem HX:Ht X (Ov X.K):=by
 intro value slice pins s σ H x y v u Q I rx ry h hs
 obtain⟨p,xs,i,z,rfl,rfl,hq,he,q⟩:=h
 cases rx
 obtain⟨t,rfl⟩:=ry
 obtain⟨bJ,r,pl,hz⟩:=I.list hq
 obtain⟨j,h1,h2,h3,h4,h5⟩:=v_ he
 obtain⟨w,ew,m5⟩:=r.get h2
 have hl:=r.length
 have hn:=qH
 have fin:EP X pins σ Q w s:=⟨z,H,I,m5,q⟩
 by_cases h0:0<=i
 ·have hj:i.toNat=j:=by
   rw[seqIndex_of h0 h5]at h1
   exact aZ h1
  exact item_listR pl.isList h0 (by omega) (by rw[hj];simpa using ew) fin hs
 ·have hj:(i+(bJ.toArray.size:Int)).toNat=j:=by
   rw[qz (by omega) h4]at h1
   rw[aX,<- hl]
   exact aZ h1
  exact mf (x:=w) pl.isList.typeIs slot_list_getitem.lookup
   (wpAny_getItem_list_neg (Q:=fun r s'=>r=w/\EP X pins σ Q r s') pl.isList (by omega) (by rw[aX]<;>omega) (by omega) (by rw[hj];simpa using ew) ⟨rfl,fin⟩) hs
theorem Lx:Ht X (Ow X.K):=by
 intro value slice pins s σ H x y v u Q I rx ry h hs
 obtain⟨p,xs,i,z,rfl,rfl,hq,he,q⟩:=h
 cases rx
 obtain⟨t,rfl⟩:=ry
 obtain⟨bJ,r,pl,hz⟩:=I.tuple hq
 obtain⟨j,h1,h2,h3,h4,h5⟩:=v_ he
 obtain⟨w,ew,m5⟩:=r.get h2
 have hl:=r.length
 have hn:=qH
 have fin:EP X pins σ Q w s:=⟨z,H,I,m5,q⟩
 exact mf (x:=w) pl.typeIs slot_tuple_getitem.lookup
  (getItem_tuple (j:=j) (Q:=fun r s'=>r=w/\EP X pins σ Q r s') pl (by omega) (by omega) (by rw[aX,<- hl];exact h1) (by simpa using ew) ⟨rfl,fin⟩) hs
theorem Ly:Ht X Ox:=by
 intro value slice pins s σ H x y v u Q I rx ry h hs
 obtain⟨z,i,c,rfl,rfl,hz,he,q⟩:=h
 obtain⟨t,rfl⟩:=rx
 obtain⟨t',rfl⟩:=ry
 obtain⟨j,h1,h2,h3,h4,h5⟩:=v_ he
 have hl:z.cps.toList.length=z.length:=by simp[Str.length]
 rw[hl]at h1 h4 h5
 have hn:=qH
 exact tail_any (ja s z t) slot_str_getitem.lookup (getItem_str (c:=c) (by
  have e1:decide (i < -(2^63:Int))=false:=aU (by omega)
  have e2:decide (i≥2^63)=false:=aU (by omega)
  rw[e1,e2,Bool.or_false]) (by rw[h1];simpa using h2) ⟨.str ⟨#[c]⟩,H,I.tok _,⟨_,rfl⟩,q⟩) hs
def Su(K:Frag):R2:=fun x y H Q=>Ov K x y H Q\/Ow K x y H Q\/Ox x y H Q
theorem Lz:Ht X (Su X.K):=HX.or (Lx.or Ly)
theorem zY(bJ:List Value)(n j:Nat)(u:Value):Obj.mapSeq (·.setIfInBounds j u) { cls:=.type "list",data:=.seq bJ.toArray n }={ cls:=.type "list",data:=.seq (bJ.set j u).toArray n }:=by
 simp[Obj.mapSeq]
theorem bt.lst{pins:List (Addr×Obj)}{σ:St}{H:Hp}{s:Shared}{p:Addr}{xs:List V}(I:bt X pins σ H s)(h:H p=some (.lst xs)) :
  ∃(bJ:List Value) (n:Nat),cV xs bJ/\s.heap.get? p=some { cls:=.type "list",data:=.seq bJ.toArray n }/\xs.length<=sizeLine:=by
 obtain⟨z,bJ,n,r,e⟩:=I.hok p _ h
 exact⟨bJ,n,r,e,z⟩
theorem bt.lstUpd{pins:List (Addr×Obj)}{σ:St}{H:Hp}{s:Shared}{p:Addr}{xs ys:List V}{bJ its':List Value}{n n':Nat}{f:Obj->Obj}(I:bt X pins σ H s)(h:H p=some (.lst xs))
  (ho:s.heap.get? p=some { cls:=.type "list",data:=.seq bJ.toArray n }) (hf:f { cls:=.type "list",data:=.seq bJ.toArray n }={ cls:=.type "list",data:=.seq its'.toArray n' }) (r:cV ys its') (hz:ys.length<=sizeLine) (t:Nat) :
  bt X pins σ (eS H p (.lst ys)) { s with heap:=s.heap.update p f,toks:=t }:=by
 have e:(s.heap.update p f).get? p=some { cls:=.type "list",data:=.seq its'.toArray n' }:=by
  rw[gw f ho (by rw[hf]<;>rfl),hf]
 refine I.write (x:=p) (e:=p) (by rw[h];trivial) (.inl rfl) (fun b u hb q=>(eW _ _ (Ne.symm hb)).trans q) ⟨_,e⟩ ?_
 exact⟨hz,its',n',r,e⟩
def Oy:V->V->V->Hp->(Hp->Prop)->Prop:=fun o i v H Q=>∃p xs k j,o=.ref p/\i=.int k/\H p=some (.lst xs)/\Bh xs.length k=some j/\Q (eS H p (.lst (xs.set j v)))
theorem DZ:Cn X Oy:=by
 intro pins s σ H o i v ov iv u Q I ro ri rv h
 obtain⟨p,xs,k,j,rfl,rfl,hp,hj,q⟩:=h
 cases ro
 obtain⟨t,rfl⟩:=ri
 obtain⟨bJ,n,r,ho,hz⟩:=I.lst hp
 obtain⟨h1,h2,h3,h4⟩:=Bi hj
 have hl:=r.length
 have hn:=qH
 have I':bt X pins σ (eS H p (.lst (xs.set j v))) { s with heap:=s.heap.update p (Obj.mapSeq (·.setIfInBounds j u)) }:=
  I.lstUpd hp ho (zY bJ n j u) (r.set rv j) (by rw[eO];exact hz) s.toks
 by_cases h0:0<=k
 ·have hk:k.toNat=j:=by
   rw[seqIndex_of h0 h4]at h1
   exact aZ h1
  exact PySem.W.ki_setAt ho h0 (by omega) (by rw[aX,<- hl];exact h4) (by rw[hk];exact⟨_,I',q⟩)
 ·have hk:(k+(bJ.toArray.size:Int)).toNat=j:=by
   rw[qz (by omega) h3]at h1
   rw[aX,<- hl]
   exact aZ h1
  exact PySem.W.ki_setBack ho (by omega) (by rw[aX,<- hl];exact h3) (by omega) (by rw[hk];exact⟨_,I',q⟩)
theorem wa(lo hi:Option Int)(n:Nat):(sliceBounds lo hi none n).1=((HT.sIx n 0 lo:Nat):Int)/\(sliceBounds lo hi none n).2.1=((HT.sIx n n hi:Nat):Int)/\(sliceBounds lo hi none n).2.2=1:=by
 refine⟨?_,?_,rfl⟩
 ·cases lo with
  |none=>simp[sliceBounds,HT.sIx]
  |some i=>
   simp only[sliceBounds,HT.sIx,Option.getD_none,show(1:Int)>0 by decide,fN]
   by_cases h:i<0
   ·simp only[h,fN]<;>omega
   ·simp only[h,lv]<;>omega
 ·cases hi with
  |none=>simp[sliceBounds,HT.sIx]
  |some i=>
   simp only[sliceBounds,HT.sIx,Option.getD_none,show(1:Int)>0 by decide,fN]
   by_cases h:i<0
   ·simp only[h,fN]<;>omega
   ·simp only[h,lv]<;>omega
theorem uL(bJ:List Value)(lo hi:Option Int):slicePick bJ.toArray lo hi none=((bJ.drop (HT.sIx bJ.length 0 lo)).take (HT.sIx bJ.length bJ.length hi-HT.sIx bJ.length 0 lo)).toArray:=by
 obtain⟨h1,h2,h3⟩:=wa lo hi bJ.toArray.size
 unfold slicePick
 rw[h1,h2,h3]
 simp only[sliceRange_one,pick_run,aX]<;>rfl
def Rq(K:Frag):V->Option Int->Option Int->Hp->VK->Prop:=fun x lo hi H Q=>∃a xs,x=.ref a/\rE K H a xs/\∀p,H p=none->Q (.ref p) (eS H p (.lst (sU xs lo hi)))
theorem HY:Os X (Rq X.K):=by
 intro pins s σ H x v vl vu lo hi sl Q I rx hs pl pu h
 obtain⟨a,xs,rfl,hx,q⟩:=h
 cases rx
 obtain⟨bJ,r,ht,hz⟩:=I.list hx
 have cR:=r.length
 refine⟨"list",_,slot_list_getitem.lookup,ht.isList.typeIs,?_⟩
 refine wpAny_getItem_list_slice ht.isList hs pl pu .none (by simp) ?_ (by rw[aX]<;>omega)
 rw[uL,<- cR]
 refine⟨.ref s.heap.objs.size,_,I.laid (t':=s.toks) (o:=.lst (sU xs lo hi)) (fun b ob q=>ar _ q) (ay _) ?_,rfl,q _ (I.hok.fresh (ay _))⟩
 exact⟨a7 (rG xs lo hi) hz,_,0,(r.drop (HT.sIx xs.length 0 lo)).take (HT.sIx xs.length xs.length hi-HT.sIx xs.length 0 lo),aR _ rfl⟩
theorem pM:gZ X (.builtin "len") (fun xs H Q=>∃p ys,xs=[.ref p]/\(rE X.K H p ys\/fS X.K H p ys)/\Q (.int ys.length) H):=by
 intro pins s σ H xs us Q I r h
 obtain⟨p,ys,rfl,hq,q⟩:=h
 obtain⟨u,rfl,rx⟩:=mC r
 cases rx
 have hn:=qH
 rcases hq with hq|hq
 ·obtain⟨bJ,r',pl,hz⟩:=I.list hq
  have cR:=r'.length
  exact Calls.call_len_list pl.isList (by simp only[aX]<;>omega) ⟨.int ys.length,H,I.tok _,⟨s.toks+1,by rw[aX,cR]⟩,q⟩
 ·obtain⟨bJ,r',pl,hz⟩:=I.tuple hq
  have cR:=r'.length
  exact len_tuple pl (by simp only[aX]<;>omega) ⟨.int ys.length,H,I.tok _,⟨s.toks+1,by rw[aX,cR]⟩,q⟩
theorem wb:gZ X (.builtin "len") (fun xs H Q=>∃z,xs=[.str z]/\z.length<=sizeLine/\Q (.int z.length) H):=by
 intro pins s σ H xs us Q I r h
 obtain⟨z,rfl,hz,q⟩:=h
 obtain⟨u,rfl,t,rfl⟩:=mC r
 have hn:=qH
 exact len_str (by omega) ⟨.int z.length,H,I.tok _,⟨_,rfl⟩,q⟩
theorem wc:gZ X (.type "list") (fun xs H Q=>∃p ys,xs=[.ref p]/\(rE X.K H p ys\/fS X.K H p ys)/\∀l,H l=none->Q (.ref l) (eS H l (.lst ys))):=by
 intro pins s σ H xs us Q I r h
 obtain⟨p,ys,rfl,hq,q⟩:=h
 obtain⟨u,rfl,rx⟩:=mC r
 cases rx
 have fin:∀(bJ:List Value),cV ys bJ->ys.length<=sizeLine->∀(h':Heap) (c':Nat),(∀b o',s.heap.get? b=some o'->h'.get? b=some o') ->
   h'.get? s.heap.objs.size=some { cls:=.type "list",dict:=none,data:=.seq bJ.toArray c',slots:=#[] }->EP X pins σ Q (.ref s.heap.objs.size) { s with heap:=h' }:=fun bJ r' hz h' c' kp e=>
  ⟨.ref s.heap.objs.size,_,I.laid (t':=s.toks) kp (ay _) (show fg X.prog X.w _ h' _ (.lst ys)from⟨hz,bJ,c',r',e⟩),rfl,q _ (I.hok.fresh (ay _))⟩
 rcases hq with hq|hq
 ·obtain⟨bJ,r',pl,hz⟩:=I.list hq
  have cR:=r'.length
  obtain⟨o,ho,hc,n,hd⟩:=pl.isList
  exact call_list_seq p (.inl rfl) ho hc hd (fun h' c' kp e=>fin bJ r' hz h' c' kp e) (by simp only[aX]<;>omega)
 ·obtain⟨bJ,r',pl,hz⟩:=I.tuple hq
  have cR:=r'.length
  obtain⟨o,ho,hc,n,hd⟩:=pl
  exact call_list_seq p (.inr rfl) ho hc hd (fun h' c' kp e=>fin bJ r' hz h' c' kp e) (by simp only[aX]<;>omega)
theorem uM:gZ X (.type "tuple") (fun xs H Q=>∃p ys,xs=[.ref p]/\((rE X.K H p ys/\∀l,H l=none->Q (.ref l) (eS H l (.tup ys)))\/(fS X.K H p ys/\Q (.ref p) H))):=by
 intro pins s σ H xs us Q I r h
 obtain⟨p,ys,rfl,h⟩:=h
 obtain⟨u,rfl,rx⟩:=mC r
 cases rx
 rcases h with⟨hq,q⟩|⟨hq,q⟩
 ·obtain⟨bJ,r',pl,hz⟩:=I.list hq
  have cR:=r'.length
  refine call_tuple_list pl.isList (fun h' kp=>?_) (by simp only[aX]<;>omega)
  have I1:bt X pins σ H { s with heap:=h' }:=I.kept (t':=s.toks) kp
  have I2:bt X pins σ (eS H h'.objs.size (.tup ys)) { s with heap:=h'.push { cls:=.type "tuple",data:=.seq bJ.toArray } }:=
   I1.laid (t':=s.toks) (fun b o e=>ar _ e) (ay _) (show fg X.prog X.w _ _ _ (.tup ys)from⟨hz,bJ,r',rC _ _⟩)
  exact⟨.ref h'.objs.size,_,I2,rfl,q _ (I1.hok.fresh (ay _))⟩
 ·obtain⟨bJ,r',pl,hz⟩:=I.tuple hq
  exact call_tuple_same pl ⟨.ref p,H,I,rfl,q⟩
def QN(K:Frag)(T:String)(x:V)(H:Hp):Prop:=match x with
 |.str _=>T="str"
 |.int _=>T="int"
 |.ref p=>(T="list"/\∃xs,rE K H p xs)\/(T="tuple"/\∃o,K.lookup p=some o/\o.cls=.type "tuple"/\o.dict=none) \/
   (T="dict"/\((∃kvs,H p=some (.dK kvs))\/∃kvs,H p=some (.dT kvs)))\/(T="set"/\∃S n,H p=some (.set S n))
 |_=>False
theorem LA{pins:List (Addr×Obj)}{σ:St}{H:Hp}{s:Shared}{T:String}{x:V}{v:Value}(I:bt X pins σ H s)(r:cb x v)(ty:QN X.K T x H) :
  s.TypeIs v T/\∀a,v=.ref a->∃ob,s.heap.get? a=some ob/\ob.dict=none:=by
 cases x with
 |str z=>
  obtain⟨t,rfl⟩:=r
  cases(show T="str" from ty)
  exact⟨ja s z t,fun _ e=>nomatch e⟩
 |int i=>
  obtain⟨t,rfl⟩:=r
  cases(show T="int" from ty)
  exact⟨typeIs_int s i t,fun _ e=>nomatch e⟩
 |ref p=>
  cases r
  rcases ty with⟨rfl,xs,hq⟩|⟨rfl,o,hk,hc,hd⟩|⟨rfl,hk⟩|⟨rfl,S,n,hk⟩
  ·obtain⟨bJ,_,pl,_⟩:=I.list hq
   refine⟨pl.isList.typeIs,fun a e=>?_⟩
   cases e
   obtain⟨o,n,e,c,hd,_⟩:=pl
   exact⟨o,e,hd⟩
  ·refine⟨⟨o,I.kIn p o hk,hc⟩,fun a e=>?_⟩
   cases e
   exact⟨o,I.kIn _ o hk,hd⟩
  ·have z:∃o,s.heap.get? p=some o/\o.ExactDict:=by
    rcases hk with⟨kvs,hk⟩|⟨kvs,hk⟩
    ·obtain⟨_,_,_,_,o,_,_,e,ex,_⟩:=I.hok p _ hk
     exact⟨o,e,ex⟩
    ·obtain⟨_,_,_,_,o,_,_,e,ex,_⟩:=I.hok p _ hk
     exact⟨o,e,ex⟩
   obtain⟨o,e,ex⟩:=z
   refine⟨⟨o,e,ex.1⟩,fun a e2=>?_⟩
   cases e2
   exact⟨o,e,ex.2.1⟩
  ·obtain⟨o,_,_,_,e,ex,_⟩:=I.hok p _ hk
   refine⟨⟨o,e,ex.1⟩,fun a e2=>?_⟩
   cases e2
   exact⟨o,e,ex.2.1⟩
 |_=>exact False.elim ty
variable{o e:Expr}{es:List Expr}{to:TE}{t:TA}{name:Str}{gG dW:Pos}{T id:String}{r:V->List V->Hp->VK->Prop}
end
def R8(X:Cx)(id:String)(r:V->List V->Hp->VK->Prop):Prop:=
 ∀(pins:List (Addr×Obj)) (s:Shared) (σ:St) (H:Hp) (x:V) (xs:List V) (v:Value) (us:List Value) (Q:VK),bt X pins σ H s->cb x v->cV xs us->r x xs H Q ->
  wpAny (model X.prog X.w) X.A (call (.builtin id) (v::us)) (EP X pins σ Q) X.xe s
theorem cV.one:∀{x:V} {us:List Value},cV [x] us->∃u,us=[u]/\cb x u
 |_,_,.cons r .nil=>⟨_,rfl,r⟩
theorem cV.two:∀{x y:V} {us:List Value},cV [x,y] us->∃u v,us=[u,v]/\cb x u/\cb y v
 |_,_,_,.cons r (.cons q .nil)=>⟨_,_,rfl,r,q⟩
section
variable{X:Cx}{pins:List (Addr×Obj)}{σ:St}{H:Hp}{s:Shared}{l b:Addr}{xs ys zs:List V}
theorem bt.lset{bJ its':List Value}{n:Nat}{f:Array Value->Array Value}{t':Nat}(I:bt X pins σ H s)(hH:H l=some (.lst xs))
  (e:s.heap.get? l=some { cls:=.type "list",data:=.seq bJ.toArray n }) (hf:f bJ.toArray=its'.toArray) (hv:cV ys its') (hz:ys.length<=sizeLine) :
  bt X pins σ (eS H l (.lst ys)) { s with heap:=s.heap.update l (Obj.mapSeq f),toks:=t' }:=by
 have q:=PySem.IsL.update e f
 rw[hf]at q
 refine I.write (x:=l) (e:=l) (by rw[hH];exact trivial) (.inl rfl) (fun b' u hb hu=>(eW s.heap (Obj.mapSeq f) (Ne.symm hb)).trans hu) ⟨_,q⟩ ?_
 exact⟨hz,its',_,hv,q⟩
theorem bt.lnew{bJ:List Value}{t':Nat}(I:bt X pins σ H s)(hv:cV ys bJ)(hz:ys.length<=sizeLine) :
  bt X pins σ (eS H s.heap.objs.size (.lst ys)) { s with heap:=s.heap.push { cls:=.type "list",data:=.seq bJ.toArray },toks:=t' }:=
 I.laid (fun _ _ q=>ar _ q) (ay _) ⟨hz,bJ,0,hv,aR _ rfl⟩
theorem bt.fresh(I:bt X pins σ H s):H s.heap.objs.size=none:=I.hok.fresh (ay _)
theorem bt.lstM(I:bt X pins σ H s)(hH:H l=some (.lst xs)):xs.length<=sizeLine/\∃(bJ:List Value) (n:Nat),cV xs bJ/\xs.length=bJ.length/\s.heap.get? l=some { cls:=.type "list",data:=.seq bJ.toArray n }:=by
 obtain⟨z,bJ,n,r,e⟩:=I.hok l _ hH
 exact⟨z,bJ,n,r,r.length,e⟩
end
section
variable{X:Cx}
def Bm:V->List V->Hp->VK->Prop:=fun x vs H Q=>∃l xs y,x=.ref l/\vs=[y]/\H l=some (.lst xs)/\xs.length<sizeLine/\Q .non (eS H l (.lst (xs++[y])))
theorem CA:R8 X "list.append" Bm:=by
 intro pins s σ H x vs v us Q I rx rv h
 obtain⟨l,xs,y,rfl,rfl,hH,hz,q⟩:=h
 cases rx
 obtain⟨u,rfl,ru⟩:=rv.one
 obtain⟨z,bJ,n,r,hl,e⟩:=I.lstM hH
 refine call_meets F.slot_list_append ⟨_,e,rfl⟩ F.entry_list_append (F.args_list_append_2 _ _) (PySem.list_append l bJ.toArray n u (by rw[aX];omega)) ⟨e,?_⟩
 refine⟨.non,_,I.lset (its':=bJ++[u]) hH e (by simp) (r.append (.cons ru .nil)) ?_,rfl,q⟩
 rw[aK,List.length_singleton]
 omega
def Rs:R2:=fun x y H Q=>∃l b xs zs,x=.ref l/\y=.ref b/\H l=some (.lst xs)/\H b=some (.lst zs)/\xs.length+zs.length<=sizeLine/\∀p,H p=none->Q (.ref p) (eS H p (.lst (xs++zs)))
theorem LB:lD X (binaryOp .Add) Rs:=by
 intro pins s σ H x y v u Q I rx ry h
 obtain⟨l,b,xs,zs,rfl,rfl,hH,hB,hz,q⟩:=h
 cases rx
 cases ry
 obtain⟨z,bJ,n,r,hl,e⟩:=I.lstM hH
 obtain⟨z2,its2,n2,r2,hl2,e2⟩:=I.lstM hB
 refine PySem.P.add_list e e2 ?_ (by rw[aX,aX];omega)
 have ea:bJ.toArray++its2.toArray=(bJ++its2).toArray:=by simp
 rw[ea]
 exact⟨.ref _,_,I.lnew (t':=s.toks) (r.append r2) (by rw[aK];omega),rfl,q _ I.fresh⟩
end
section
variable{prog:Program}{w:World}{A:Around}{E:Value->Shared->Prop}{s:Shared}
end
section
variable{X:Cx}
end
end L2
namespace Att
open PySem PySem.W PySem.Calls PyProof.Rows
theorem r_{P:Params}{h:Heap}:∀(ns:List Int) (vs:List Value),WellAll P h vs (ns.map WData.int)->IntsAre vs ns:=by
 intro ns
 induction ns with
 |nil=>
  intro vs w
  rw[c_]at w
  cases w
  exact .nil
 |cons n ns ih=>
  intro vs w
  rw[aT]at w
  cases w with
  |cons a b=>
   cases a
   exact .cons _ _ (ih _ b)
theorem CB{l:OpenLaw}{n:Nat}(hn:l.most=some n){P:Params}{h:Heap}{args:List WData}{lZ:List Value}
  (zI:l.row.toRowW.claim.pre args=true) (GS:WellAll P h lZ args) :
  ∃a vs ns,lZ=[Value.ref a]/\args=[WData.list (ns.map WData.int)]/\h.get? a=some { cls:=.type "list",data:=.seq vs.toArray }/\IntsAre vs ns/\ns.length<=n:=by
 have hsh:WShape.hasAll [] args [.list .int]=true:=(pre_splitW zI).1
 have hc:l.pre.holds [] { args:=args }=true:=(pre_splitW zI).2
 obtain⟨d,r,rfl,h1,h2⟩:=hasAllW_cons hsh
 obtain rfl:=hasAllW_nil h2
 obtain⟨xs,rfl,h3⟩:=hasW_list h1
 obtain⟨ns,rfl⟩:=items_int h3
 have cR:ns.length<=n:=by
  unfold OpenLaw.pre at hc
  have h4:(WTm.not (.lt (.lit (.int (n:Int))) (.len (.arg 0)))).holds [] { args:=[.list (ns.map .int)] }=true:=by
   have h4:=(holds_andW hc).1
   rw[hn]at h4
   exact h4
  have h5:=condW_of h4 (w_not (w_lt w_lit (w_len_list (w_arg rfl))))
  rw[az]at h5
  refine dL fun q=>?_
  have q':(n:Int)<((ns.length:Nat):Int):=by omega
  first
   |(rw[a_ q']at h5;exact absurd h5 (by decide))
   |(simp at h5;omega)
 cases GS with
 |cons w1 w2=>
  cases w2
  cases w1 with
  |list ho zH=>exact⟨_,_,ns,rfl,rfl,ho,r_ ns _ zH,cR⟩
theorem CC(l:OpenLaw)(args:List WData):l.row.toRowW.claim.post args (.bool true) args=true:=
 postW_of (r:=l.row.toRowW) (X:=(true==true))
  (show WShape.has [] (.bool true) .bool=true by first|rfl|decide|simp[WShape.has,WShape.arms,WShape.armsAll])
  (show(WTm.eq .res (.lit (.bool true))).value [] { args:=args,res:=some (.bool true),after:=args }=some (.bool (true==true))from w_eq_bool (w_res rfl) w_lit) rfl
theorem attach_call{l:OpenLaw}{n:Nat}{q:Program}{Ce:List Str}{XP:(Str->Option Value)->Heap->Prop}{YP:World->Heap->Prop}{d:DefRec}
  (hn:l.most=some n) (RV:d.params.defaults=[])
  (call:∀(w:World) (s₀ s₁:Shared) (mg mb:Str->Option Value) (fa:Addr) (o:Obj) (pm cd sO:Value) (a:Addr) (vs:List Value) (ns:List Int),
   Ground q Ce [] XP w s₀ mg mb s₁.heap->YP w s₁.heap ->
   s₁.heap.get? fa=some o->o.data=.func (docDef d.name d.params d.body d.scope pm cd sO)->s₁.heap.CodeRec cd d.name->mg d.name=some (.ref fa) ->
   s₁.heap.get? a=some { cls:=.type "list",data:=.seq vs.toArray }->IntsAre vs ns->ns.length<=n->s₁.gens=#[] ->
   codeAny (model l.prog w) callerA (.call (.ref fa) ⟨[.ref a],[]⟩) (fun r s'=>r=.ok (.ret (.bool true))/\OldK s₁.heap s'.heap/\s'.os=s₁.os/\AllBare s'.gens) s₁) :
  WalkO q Ce XP YP l.row.toRowW d [] (fun f vs=>PySem.call f vs):=by
 intro w s₀ s₁ mg mb G Y fa o pm cd sO dV kV ho hd nK hD hmg hg args lZ as zI hlay hrd GS hlo
 obtain rfl:dV=.none:=Dflts.none hD RV
 obtain rfl:kV=.none:=Dflts.noKw hD
 obtain⟨a,vs,ns,rfl,rfl,hobj,hints,cR⟩:=CB hn zI GS
 refine enter_call (mh (call w s₀ s₁ mg mb fa o pm cd sO a vs ns G Y ho (fd_plain hd) nK hmg hobj hints cR hg) fun r s' hq=>?_)
 obtain⟨rfl,h2,h3,h4⟩:=hq
 exact⟨.inl ⟨.bool true,.bool true,[],rfl,fun _=>rfl,.bool true,CC l _,fun _=>⟨List.Pairwise.nil,fun _ hm=>(nomatch hm)⟩⟩,h2,h3,h4⟩
section
variable{prog:Program}{w:World}{A:Around}{E:Value->Shared->Prop}{s:Shared}{K:Frag}
end
end Att
namespace L2
open PySem PySem.Spec PyProof.Rows
theorem vk:∀{vs:List Value} {ns:List Int},IntsAre vs ns->cV (ns.map V.int) vs
 |_,_,.nil=>.nil
 |_,_,.cons n t h=>.cons ⟨t,rfl⟩ (vk h)
def iD(s:Stmt):Arguments:=match s with
 |.FunctionDef _ a _ _ _ _ _ _ _ _=>a
 |_=>{ posonlyargs:=[],args:=[],vararg:=none,kwonlyargs:=[],kw_defaults:=[],kwarg:=none,defaults:=[] }
def gS(s:Stmt):List Stmt:=match s with
 |.FunctionDef _ _ b _ _ _ _ _ _ _=>b
 |_=>[]
def bg(s:Stmt):Scope:=match s with
 |.FunctionDef _ _ _ _ _ _ sc _ _ _=>sc
 |_=>{ kind:=.function,names:=[],isGenerator:=false,isCoroutine:=false }
structure kQ(K:Frag)(x qual:Str)(st:Stmt)(f:Addr)(fd:FuncData):Prop where
 ex:∃(oc:Value) (od:Option Addr) (kV sO pm:Value) (an:Option Addr) (gI ct:Value) (KM:Array (Option Value)),
  fd=fnOf x qual (iD st) (gS st) (bg st) .none kV sO pm an gI ct/\K.lookup f=some ⟨oc,od,.func fd,KM⟩/\codeIn K gI qual=true
 kp:keepIn K (.ref f)=true
section
variable{P:Program}{w:World}{K:Frag}{mg:Str->Option Value}{base:Heap}
theorem kQ.binds{x qual:Str}{st:Stmt}{f:Addr}{fd:FuncData}{ps:List Str}(F:kQ K x qual st f fd)
  (h:∀(kV sO pm:Value) (an:Option Addr) (gI ct:Value) (us:List Value),us.length=ps.length->bindArgs (fnOf x qual (iD st) (gS st) (bg st) .none kV sO pm an gI ct) ⟨us,[]⟩=pure (ps.zip us)):xZ K fd ps []:=by
 obtain⟨oc,od,kV,sO,pm,an,gI,ct,KM,rfl,lk,nK⟩:=F.ex
 exact .all (h kV sO pm an gI ct)
theorem zZ{x qual:Str}{st:Stmt}{f:Addr}{oc:Value}{od an:Option Addr}{KM:Array (Option Value)}{kV sO pm gI ct:Value}(l:K.lookup f=some ⟨oc,od,.func (fnOf x qual (iD st) (gS st) (bg st) .none kV sO pm an gI ct),KM⟩)
  (c:codeIn K gI qual=true) (k:keepIn K (.ref f)=true):kQ K x qual st f (fnOf x qual (iD st) (gS st) (bg st) .none kV sO pm an gI ct):=⟨⟨oc,od,kV,sO,pm,an,gI,ct,KM,rfl,l,c⟩,k⟩
end
theorem x6{A:Around}{k:Nat}(hr:iA k A):A.units+1<cLine:=ku (Nat.add_le_add_left (by decide:1<=64) _) hr.units
section
variable{X:Cx}
theorem pv(i:Nat){x:Str}{pos:Pos}(hN:X.N[i]?=some x:=by rfl)(hv:N1 X.env.scope x:=by first|exact Or.inl rfl|exact Or.inr (Or.inl rfl)|exact Or.inr (Or.inr rfl))(hd:(x==("__debug__":Str))=false:=by decide)
  (nK:(x==("__classdict__":Str))=false:=by decide):PE X (.Name x pos) (N2 i):=KW hN hv hd nK
end
def qI(H H':Hp):Prop:=∀b o,H b=some o->H' b=some o
theorem qI.refl(H:Hp):qI H H:=fun _ _ h=>h
section
variable{κ:Type}[DecidableEq κ]
def jU(kvs:List (κ×V))(k:κ):Option V:=(kvs.find? fun kv=>decide (kv.1=k)).map (·.2)
def mT(kvs:List (κ×V))(k:κ)(v:V):List (κ×V):=
 if (kvs.any fun kv=>decide (kv.1=k))=true then kvs.map (fun kv=>if kv.1=k then(kv.1,v)else kv)else kvs++[(k,v)]
def mD(kvs:List (κ×V))(k:κ):List (κ×V):=kvs.filter fun kv=>decide (kv.1≠k)
theorem m_{p:κ×V}{r:List (κ×V)}{k:κ}(e:p.1=k):jU (p::r) k=some p.2:=by simp[jU,d5,e]
theorem pO{p:κ×V}{r:List (κ×V)}{k:κ}(e:¬ p.1=k):jU (p::r) k=jU r k:=by simp[jU,d5,e]
theorem x8(k:κ):∀kvs:List (κ×V),(kvs.any fun kv=>decide (kv.1=k))=(jU kvs k).isSome
 |[]=>rfl
 |p::r=>by
  rw[oY]
  by_cases e:p.1=k
  ·simp only[m_ e,a_ e,Bool.true_or,Option.isSome_some]
  ·rw[pO e,aU e,Bool.false_or];exact x8 k r
theorem nb(kvs:List (κ×V))(k:κ)(v:V):(mT kvs k v).length<=kvs.length+1:=by
 unfold mT
 split
 ·rw[az];omega
 ·rw[aK,bf,cQ];omega
theorem pd.isSome_eq{o:Option V}{u:Option Value}(r:pd o u):o.isSome=u.isSome:=by
 cases o with
 |none=>cases u with
  |none=>rfl
  |some _=>exact(show False from r).elim
 |some _=>cases u with
  |none=>exact(show False from r).elim
  |some _=>rfl
theorem pd.getD{o:Option V}{u:Option Value}{d:V}{d':Value}(r:pd o u)(rd:cb d d'):cb (o.getD d) (u.getD d'):=by
 cases o with
 |none=>cases u with
  |none=>exact rd
  |some _=>exact(show False from r).elim
 |some _=>cases u with
  |none=>exact(show False from r).elim
  |some _=>exact r
theorem KV.val{kvs:List (κ×V)}{vs:List (κ×Value)}(r:KV kvs vs)(k:κ):pd (jU kvs k) (valueAt vs k):=by
 unfold KV at r
 induction r with
 |nil=>exact True.intro
 |@cons p q ps qs h t ih=>
  obtain⟨h1,h2⟩:=h
  by_cases e:p.1=k
  ·have e':q.1=k:=h1.symm.trans e
   have b:valueAt (q::qs) k=some q.2:=by simp[valueAt,d5,e']
   rw[m_ e,b];exact h2
  ·have e':¬ q.1=k:=fun z=>e (h1.trans z)
   have b:valueAt (q::qs) k=valueAt qs k:=by simp[valueAt,d5,e']
   rw[pO e,b];exact ih
theorem KV.any{kvs:List (κ×V)}{vs:List (κ×Value)}(r:KV kvs vs)(k:κ):(kvs.any fun kv=>decide (kv.1=k))=vs.any fun kv=>decide (kv.1=k):=by
 unfold KV at r
 induction r with
 |nil=>rfl
 |cons h t ih=>rw[oY,oY,ih,h.1]
theorem KV.repl{kvs:List (κ×V)}{vs:List (κ×Value)}(r:KV kvs vs)(k:κ){y:V}{u:Value}(ry:cb y u) :
  KV (kvs.map fun kv=>if kv.1=k then(kv.1,y)else kv) (vs.map fun kv=>if kv.1=k then(kv.1,u)else kv):=by
 unfold KV at r ⊢
 induction r with
 |nil=>exact .nil
 |@cons p q ps qs h t ih=>
  rw[aT,aT]
  refine .cons ?_ ih
  obtain⟨h1,h2⟩:=h
  by_cases e:p.1=k
  ·rw[aB e,aB (h1.symm.trans e)];exact⟨h1,ry⟩
  ·rw[aE e,aE (fun z=>e (h1.trans z))];exact⟨h1,h2⟩
theorem KV.put{kvs:List (κ×V)}{vs:List (κ×Value)}(r:KV kvs vs)(k:κ){y:V}{u:Value}(ry:cb y u):KV (mT kvs k y) (stored vs k u):=by
 unfold mT stored
 rw[r.any k]
 by_cases e:(vs.any fun kv=>decide (kv.1=k))=true
 ·rw[aB e,aB e];exact r.repl k ry
 ·rw[aE e,aE e];exact Paired.snoc r ⟨rfl,ry⟩
theorem KV.drop{kvs:List (κ×V)}{vs:List (κ×Value)}(r:KV kvs vs)(k:κ):KV (mD kvs k) (without vs k):=by
 unfold KV at r ⊢
 unfold mD without
 induction r with
 |nil=>exact .nil
 |@cons p q ps qs h t ih=>
  obtain⟨h1,h2⟩:=h
  rw[cI,cI]
  by_cases e:p.1=k
  ·have a:¬ decide (p.1≠k)=true:=by simp[e]
   have b:¬ decide (q.1≠k)=true:=by simp[h1.symm.trans e]
   rw[aE a,aE b];exact ih
  ·have e':¬ q.1=k:=fun z=>e (h1.trans z)
   have a:decide (p.1≠k)=true:=by simp[e]
   have b:decide (q.1≠k)=true:=by simp[e']
   rw[aB a,aB b];exact .cons ⟨h1,h2⟩ ih
theorem KV.keys{kvs:List (κ×V)}{vs:List (κ×Value)}(r:KV kvs vs):kvs.map (·.1)=vs.map (·.1):=by
 unfold KV at r
 induction r with
 |nil=>rfl
 |cons h t ih=>rw[aT,aT,ih,h.1]
theorem KV.length{kvs:List (κ×V)}{vs:List (κ×Value)}(r:KV kvs vs):kvs.length=vs.length:=Paired.length r
theorem D0(kvs:List (κ×V))(k:κ):(mD kvs k).length<=kvs.length:=ej _ _
end
theorem pP{P:Program}{w:World}{k:f_}{u:Value}(r:cb (kV k) u):(d8 P w).is k u=true:=by
 cases k with
 |inl i=>obtain⟨t,e⟩:=(show ∃t,u=Value.int i t from r);subst e;exact xU P w i t
 |inr x=>obtain⟨t,e⟩:=(show ∃t,u=Value.str x t from r);subst e;exact xV P w x t
theorem vm{P:Program}{w:World}:∀{ks:List f_} {us:List Value},cV (ks.map kV) us->ItemsAre (d8 P w) ks us
 |[],_,r=>by rw[c_]at r;cases r;exact .nil
 |k::ks,_,r=>by
  rw[aT]at r
  cases r with
  |cons h t=>exact .cons (pP h) (vm t)
abbrev KT(H:Hp):List (List f_×V)->List (List f_×Addr×Value)->Prop:=Paired fun p q=>p.1=q.1/\H q.2.1=some (.tup (p.1.map kV))/\cb p.2 q.2.2
theorem KT.val{H:Hp}{kvs:List (List f_×V)}{xs:List (List f_×Addr×Value)}(r:KT H kvs xs)(k:List f_):pd (jU kvs k) ((atKey xs k).map (·.2)):=by
 induction r with
 |nil=>exact True.intro
 |@cons p q ps qs h t ih=>
  obtain⟨h1,_,h2⟩:=h
  by_cases e:p.1=k
  ·have e':q.1=k:=h1.symm.trans e
   have b:atKey (q::qs) k=some q.2:=by simp[atKey,d5,e']
   rw[m_ e,b];exact h2
  ·have e':¬ q.1=k:=fun z=>e (h1.trans z)
   have b:atKey (q::qs) k=atKey qs k:=by simp[atKey,d5,e']
   rw[pO e,b];exact ih
theorem KT.repl{H:Hp}{kvs:List (List f_×V)}{xs:List (List f_×Addr×Value)}(r:KT H kvs xs)(k:List f_){y:V}{u:Value}(ry:cb y u) :
  KT H (kvs.map fun kv=>if kv.1=k then(kv.1,y)else kv) (xs.map (putAt k u)):=by
 induction r with
 |nil=>exact .nil
 |@cons p q ps qs h t ih=>
  rw[aT,aT]
  refine .cons ?_ ih
  obtain⟨h1,h2,h3⟩:=h
  unfold putAt
  by_cases e:p.1=k
  ·rw[aB e,aB (h1.symm.trans e)];exact⟨h1,h2,ry⟩
  ·rw[aE e,aE (fun z=>e (h1.trans z))];exact⟨h1,h2,h3⟩
theorem KT.put{H:Hp}{kvs:List (List f_×V)}{xs:List (List f_×Addr×Value)}(r:KT H kvs xs)(k:List f_){b:Addr}{y:V}{u:Value}(hb:H b=some (.tup (k.map kV)))(ry:cb y u) :
  KT H (mT kvs k y) (storedH xs k b u):=by
 have e:(kvs.any fun kv=>decide (kv.1=k))=(atKey xs k).isSome:=by
  rw[x8,(r.val k).isSome_eq,gC]
 unfold mT storedH
 rw[e]
 by_cases q:(atKey xs k).isSome=true
 ·rw[aB q,aB q];exact r.repl k ry
 ·rw[aE q,aE q];exact Paired.snoc r ⟨rfl,hb,ry⟩
theorem KT.keeps{H H':Hp}{kvs:List (List f_×V)}{xs:List (List f_×Addr×Value)}(r:KT H kvs xs)(ht:∀b ys,H b=some (.tup ys)->H' b=some (.tup ys)):KT H' kvs xs:=
 Paired.mapP r fun _ _ z=>⟨z.1,ht _ _ z.2.1,z.2.2⟩
section
variable{P:Program}{w:World}{H:Hp}{h:Heap}{a:Addr}
theorem JL{u:HO}(ok:pe P w H h)(e:Rd H a u):fg P w H h a u:=e.ok ok
theorem oJ{kvs:List (f_×V)}(ok:pe P w H h)(e:Rd H a (.dK kvs)):kvs.length<=sizeLine/\(a==sysModules)=false/\∃vs,KV kvs vs/\h.DictOf (d8 P w) a vs:=
 show fg P w H h a (.dK kvs)from JL ok e
theorem Bn{kvs:List (f_×V)}(ok:pe P w H h)(e:H a=some (.dK kvs)):kvs.length<=sizeLine/\(a==sysModules)=false/\∃vs,KV kvs vs/\h.DictOf (d8 P w) a vs:=oJ ok (.inl e)
theorem qJ{ks:List f_}(ok:pe P w H h)(e:H a=some (.tup (ks.map kV))):(tupleKind (d8 P w)).is h ks a:=by
 obtain⟨_,bJ,r,o,h1,h2,n,h3⟩:=(show fg P w H h a (.tup (ks.map kV))from ok a _ e)
 exact⟨o,bJ.toArray,n,h1,h2,h3,by simpa using vm r⟩
theorem sV{kvs:List (List f_×V)}(ok:pe P w H h)(e:Rd H a (.dT kvs)):kvs.length<=sizeLine/\(a==sysModules)=false /\
  ∃xs,KT H kvs xs/\h.DictOfH (tupleKind (d8 P w)) a xs:=by
 obtain⟨z,y,xs,r,o,es,ep,h1,h2,h3,h4,h5⟩:=(show fg P w H h a (.dT kvs)from JL ok e)
 refine⟨z,y,xs,r,o,es,ep,h1,h2,h3,h4,fun x hx=>?_,h5⟩
 have all:∀{l:List (List f_×V)} {m:List (List f_×Addr×Value)},KT H l m->∀x∈m,(tupleKind (d8 P w)).is h x.1 x.2.1:=by
  intro l m q
  induction q with
  |nil=>intro x hx;exact nomatch hx
  |@cons p q ps qs hq t ih=>
   intro x hx
   rcases a8.mp hx with e|hx
   ·subst e
    exact qJ ok (by rw[<- hq.1];exact hq.2.1)
   ·exact ih x hx
 exact all r x hx
theorem Oz{kvs:List (List f_×V)}(ok:pe P w H h)(e:H a=some (.dT kvs)):kvs.length<=sizeLine/\(a==sysModules)=false /\
  ∃xs,KT H kvs xs/\h.DictOfH (tupleKind (d8 P w)) a xs:=sV ok (.inl e)
end
def pQ(H:Hp)(a:Addr)(y:V)(r:Option V):Prop:=
 (∃kvs k,Rd H a (.dK kvs)/\y=kV k/\r=jU kvs k)\/∃kvs k b,Rd H a (.dT kvs)/\y=.ref b/\H b=some (.tup (k.map kV))/\r=jU kvs k
def HZ(H:Hp)(a:Addr)(y v:V)(H':Hp):Prop:=
 (∃kvs k,H a=some (.dK kvs)/\y=kV k/\kvs.length<sizeLine/\H'=eS H a (.dK (mT kvs k v))) \/
 ∃kvs k b,H a=some (.dT kvs)/\y=.ref b/\H b=some (.tup (k.map kV))/\kvs.length<sizeLine/\H'=eS H a (.dT (mT kvs k v))
theorem HZ.k{H:Hp}{a:Addr}{kvs:List (f_×V)}{k:f_}{v:V}(e:H a=some (.dK kvs))(hl:kvs.length<sizeLine):HZ H a (kV k) v (eS H a (.dK (mT kvs k v))):=.inl ⟨kvs,k,e,rfl,hl,rfl⟩
section
variable{X:Cx}{pins:List (Addr×Obj)}{σ:St}{H:Hp}{s:Shared}{a:Addr}{y v:V}{u r:Value}{o:Option V}{A:Around}{E:Value->Shared->Prop}
theorem bt.big(I:bt X pins σ H s):sysModules<s.heap.objs.size:=by
 have h:mainGlobals<s.heap.objs.size:=(I.mod.glob.keeps I.bk).lt
 exact qA (by decide) h
theorem CD{Q:Value->Shared->Prop}(hu:A.units+1<cLine)(I:bt X pins σ H s)(g:pQ H a y (some v))(ry:cb y u)(h:∀w' s',bt X pins σ H s'->cb v w'->Q w' s') :
  wpAny (model X.prog X.w) A (getItem (.ref a) u) Q E s:=by
 rcases g with⟨kvs,k,e,ey,l⟩|⟨kvs,k,b,e,ey,eb,l⟩
 ·subst ey
  obtain⟨z,hd,vs,rel,dd⟩:=oJ I.hok e
  obtain⟨w',hw,m5⟩:=pd.some_of (v:=v) (o:=valueAt vs k) (by rw[l];exact rel.val k)
  exact wpAny_getItem_of (pP ry) dd.mapOf hw (h w' _ (I.tok _) m5)
 ·subst ey
  cases(show u=Value.ref b from ry)
  obtain⟨z,hd,xs,rel,dd⟩:=sV I.hok e
  obtain⟨w',hw,m5⟩:=pd.some_of (v:=v) (o:=(atKey xs k).map (·.2)) (by rw[l];exact rel.val k)
  obtain⟨p,hp,hp2⟩:=dY.mp hw
  refine wpAny_getItem_heap (gk hu) (qJ I.hok eb) dd hp ?_
  rw[hp2]
  exact h w' _ (I.tok _) m5
theorem Rt{Q:Value->Shared->Prop}(hu:A.units+1<cLine)(I:bt X pins σ H s)(g:pQ H a y o)(ry:cb y u)(h:∀s',bt X pins σ H s'->Q (.bool o.isSome) s') :
  wpAny (model X.prog X.w) A (compareOp .In u (.ref a)) Q E s:=by
 rcases g with⟨kvs,k,e,ey,l⟩|⟨kvs,k,b,e,ey,eb,l⟩
 ·subst ey
  obtain⟨z,hd,vs,rel,dd⟩:=oJ I.hok e
  refine wpAny_in_of (pP ry) hd dd.mapOf ?_
  rw[<- (rel.val k).isSome_eq,<- l]
  exact h _ (I.tok _)
 ·subst ey
  cases(show u=Value.ref b from ry)
  obtain⟨z,hd,xs,rel,dd⟩:=sV I.hok e
  refine wpAny_in_heap (gk hu) (qJ I.hok eb) hd dd ?_
  have q:=(rel.val k).isSome_eq
  rw[gC]at q
  rw[<- q,<- l]
  exact h _ (I.tok _)
theorem H9{Q:Value->Shared->Prop}(hu:A.units+1<cLine)(I:bt X pins σ H s)(g:pQ H a y o)(ry:cb y u)(h:∀s',bt X pins σ H s'->Q (.bool (!o.isSome)) s') :
  wpAny (model X.prog X.w) A (compareOp .NotIn u (.ref a)) Q E s:=by
 rcases g with⟨kvs,k,e,ey,l⟩|⟨kvs,k,b,e,ey,eb,l⟩
 ·subst ey
  obtain⟨z,hd,vs,rel,dd⟩:=oJ I.hok e
  refine wpAny_notIn_of (pP ry) hd dd.mapOf ?_
  rw[<- (rel.val k).isSome_eq,<- l]
  exact h _ (I.tok _)
 ·subst ey
  cases(show u=Value.ref b from ry)
  obtain⟨z,hd,xs,rel,dd⟩:=sV I.hok e
  refine wpAny_notIn_heap (gk hu) (qJ I.hok eb) hd dd ?_
  have q:=(rel.val k).isSome_eq
  rw[gC]at q
  rw[<- q,<- l]
  exact h _ (I.tok _)
theorem sA{h':Heap}{t':Nat}{ob:HO}(I:bt X pins σ H s)(mu:NZ (H a))(hs:Heap.SameBut a s.heap h')(he:∃q,h'.get? a=some q)(new:fg X.prog X.w (eS H a ob) h' a ob) :
  bt X pins σ (eS H a ob) { s with heap:=h',toks:=t' }:=
 I.write (x:=a) (e:=a) mu (.inl rfl) (fun b q hb z=>(hs.2 b hb).trans z) he new
theorem z4{P:Program}{w:World}{H':Hp}{h':Heap}{kvs:List (f_×V)}{vs:List (f_×Value)}(z:kvs.length<=sizeLine)(hd:(a==sysModules)=false)(rel:KV kvs vs)(dd:h'.DictOf (d8 P w) a vs) :
  fg P w H' h' a (.dK kvs):=⟨z,hd,vs,rel,dd⟩
theorem CF{H':Hp}{Q:Unit->Shared->Prop}(hu:A.units+1<cLine)(I:bt X pins σ H s)(g:HZ H a y v H')(ry:cb y u)(rv:cb v r)(h:∀s',bt X pins σ H' s'->Q () s') :
  wpAny (model X.prog X.w) A (setItem (.ref a) u r) Q E s:=by
 rcases g with⟨kvs,k,e,ey,l,eH⟩|⟨kvs,k,b,e,ey,eb,l,eH⟩
 ·subst ey eH
  obtain⟨z,hd,vs,rel,dd⟩:=Bn I.hok e
  have hz:vs.length<=sizeLine:=by rw[<- rel.length];exact z
  have hl:(mT kvs k v).length<=sizeLine:=by have:=nb kvs k v;omega
  refine wpAny_setItem_pairs (hsz:=hz) (pP ry) dd fun h' Cf hs=>h _ ?_
  have he:∃q,h'.get? a=some q:=let ⟨q,_,_,hq,_⟩:=Cf;⟨q,hq⟩
  exact sA I (by rw[e];exact True.intro) hs he (z4 hl hd (rel.put k rv) Cf)
 ·subst ey eH
  cases(show u=Value.ref b from ry)
  obtain⟨z,hd,xs,rel,dd⟩:=Oz I.hok e
  have hz:xs.length<=sizeLine:=by rw[<- Paired.length rel];exact z
  have hl:(mT kvs k v).length<=sizeLine:=by have:=nb kvs k v;omega
  refine wpAny_setItem_heap (hsz:=hz) (gk hu) (qJ I.hok eb) dd fun h' Cf hs=>h _ ?_
  obtain⟨q,es,ep,hq,h2,h3,h4,_,h5⟩:=Cf
  refine sA I (by rw[e];exact True.intro) hs ⟨q,hq⟩ ⟨hl,hd,_,(rel.put k eb rv).keeps fun c ys ec=>?_,q,es,ep,hq,h2,h3,h4,h5⟩
  rw[bX (NY ec e (fun z=>nomatch z))]
  exact ec
end
section
variable{X:Cx}{pins:List (Addr×Obj)}{σ:St}{H:Hp}{s:Shared}{a:Addr}{kvs:List (f_×V)}{k:f_}{u:Value}{A:Around}{E:Value->Shared->Prop}
theorem OA{v:V}{kH:List Value}{Q:Value->Shared->Prop}(I:bt X pins σ H s)(e:H a=some (.dK kvs))(ry:cb (kV k) u)(l:jU kvs k=some v)(hm:kH=[]\/∃x,kH=[x])
  (h:∀w' s',bt X pins σ (eS H a (.dK (mD kvs k))) s'->cb v w'->Q w' s'):wpAny (model X.prog X.w) A (call (.builtin "dict.pop") (.ref a::u::kH)) Q E s:=by
 obtain⟨z,hd,vs,rel,dd⟩:=Bn I.hok e
 obtain⟨w',hw,m5⟩:=pd.some_of (v:=v) (o:=valueAt vs k) (by rw[<- l];exact rel.val k)
 have hp:(keyPart u).isSome=true:=by
  cases k with
  |inl i=>obtain⟨t,q⟩:=(show ∃t,u=Value.int i t from ry);subst q;rfl
  |inr x=>obtain⟨t,q⟩:=(show ∃t,u=Value.str x t from ry);subst q;rfl
 have ha:argsOk "dict.pop" ⟨.ref a::u::kH,[]⟩:=by
  rcases hm with q|⟨x,q⟩
  ·subst q;exact PySem.F.args_dict_pop_2 _ _
  ·subst q;exact PySem.F.args_dict_pop_3 _ _ _
 refine qB PySem.F.slot_dict_pop dd.typeIs PySem.F.entry_dict_pop ha (meets_dict_pop_there (d8 X.prog X.w) a (pP ry) kH hm hp)
  ⟨vs,w',dd,by rw[<- rel.length];exact z,hw,fun h' Cf hs=>h w' _ ?_ m5⟩
 have he:∃q,h'.get? a=some q:=let ⟨q,_,_,hq,_⟩:=Cf;⟨q,hq⟩
 exact sA I (by rw[e];exact True.intro) hs he (z4 (a7 (D0 kvs k) z) hd (rel.drop k) Cf)
theorem OB{Q:Value->Shared->Prop}(I:bt X pins σ H s)(e:Rd H a (.dK kvs))(h:∀t s',bt X pins σ H s'->Q (.int kvs.length t) s'):wpAny (model X.prog X.w) A (call (.builtin "len") [.ref a]) Q E s:=by
 obtain⟨z,hd,vs,rel,dd⟩:=oJ I.hok e
 refine call_len_dict hd dd (by rw[<- rel.length];rw[kO]at z;omega) ?_
 rw[<- rel.length]
 exact h _ _ (I.tok _)
end
def LC(i:Expr):Prop:=∀ov iv,subscripted i false ov iv=operate [ov,iv] (getItem ov iv)
theorem Bo{prog:Program}{w:World}{A:Around}{E:Value->Shared->Prop}{s:Shared}{env:Env}{value slice:Expr}{pos:Pos}{T id:String}{Q:Value->Shared->Prop}
  (hl:typeLookup (.type T) "__getitem__"=pure (some (.builtin id))) (hs:LC slice)
  (h:wpAny (model prog w) A (eval value env) (fun o s₁=>wpAny (model prog w) A (eval slice env) (fun i s₂=>s₂.TypeIs o T/\wpAny (model prog w) A (getItem o i) Q E s₂) E s₁) E s) :
  wpAny (model prog w) A (eval (.Subscript value slice pos) env) Q E s:=by
 refine Subscript_ (cH h (fun o s₁ h₁=>cH h₁ (fun i s₂ h₂=>?_) fun _ _ x=>x) fun _ _ x=>x)
 obtain⟨hT,h₂⟩:=h₂
 unfold subscriptTail
 refine ak ?_
 rw[getitemInPython_of_ne hT.not_modules]
 refine ak (jB hT hl ?_)
 have fin:wpAny (model prog w) A (subscripted slice false o i) (fun r s₃=>wpAny (model prog w) A (letTemporaryGo value o r >>= fun _=>pure r) Q E s₃) E s₂:=by
  rw[hs o i]
  exact wpAny_operating (cH h₂ (fun r s₃ h₃=>ak (wpAny_letTemporaryGo (aJ h₃))) fun _ _ x=>x)
 first
  |exact aJ (ak fin)
  |exact ak (aJ (ak fin))
  |exact ak fin
theorem x9{X:Cx}{pins:List (Addr×Obj)}{σ:St}{H:Hp}{s:Shared}{a:Addr}{y:V}{o:Option V}(I:bt X pins σ H s)(g:pQ H a y o):s.TypeIs (.ref a) "dict":=by
 rcases g with⟨kvs,k,e,_,_⟩|⟨kvs,k,b,e,_,_,_⟩
 ·obtain⟨_,_,vs,_,dd⟩:=oJ I.hok e
  exact dd.typeIs
 ·obtain⟨_,_,xs,_,dd⟩:=sV I.hok e
  exact dd.typeIs
def OC(td ty:TE):TE:=fun σ H Q=>td σ H fun x H1=>ty σ H1 fun y H2=>∃a v,x=.ref a/\pQ H2 a y (some v)/\Q v H2
section
variable{X:Cx}{o i e value:Expr}{pos jA RU:Pos}{td ty tv:TE}
theorem H_(hu:X.A.units+1<cLine)(ho:PE X o td)(hi:PE X i ty)(hs:LC i):PE X (.Subscript o i pos) (OC td ty):=by
 intro pins s σ H Q I h
 refine Bo PySem.F.slot_dict_getitem.lookup hs (gs (ho pins s σ H _ I h) fun u s1 ⟨x,H1,I1,rx,q1⟩=>gs (hi pins s1 σ H1 _ I1 q1) fun iv s2 ⟨y,H2,I2,ry,a,v,ex,g,q2⟩=>?_)
 subst ex
 obtain rfl:u=Value.ref a:=rx
 exact⟨x9 I2 g,CD hu I2 g ry fun w' s3 I3 m5=>⟨v,H2,I3,m5,q2⟩⟩
end
theorem x_{P:Program}{w:World}{H:Hp}(h:Heap)(hb:sysModules<h.objs.size):fg P w H (h.push { cls:=.type "dict",data:=.dict #[] }) h.objs.size (.dK []):=
 ⟨b_ _,aS.mpr (Ne.symm (be hb)),[],.nil,Heap.DictOf.new h⟩
def LD:TE:=fun _ H Q=>∀p,H p=none->Q (.ref p) (eS H p (.dK []))
section
variable{X:Cx}{pos:Pos}
theorem D1:PE X (.Dict [] [] pos) LD:=fun pins s σ H Q I h=>
 wpAny_Dict_empty ⟨.ref s.heap.objs.size,_,I.laid (a:=s.heap.objs.size) (o:=.dK []) (t':=s.toks) (fun _ _ q=>ar _ q) (ay _) (x_ s.heap I.big),rfl,h _ (I.hok.fresh (ay _))⟩
end
def wd:List (TE×TE)->St->Hp->(List (V×V)->Hp->Prop)->Prop
 |[],_,H,Q=>Q [] H
 |(tk,tv)::r,σ,H,Q=>tk σ H fun x H1=>tv σ H1 fun y H2=>wd r σ H2 fun ps H3=>Q ((x,y)::ps) H3
abbrev VV:List (V×V)->List (Value×Value)->Prop:=Paired fun p q=>cb p.1 q.1/\cb p.2 q.2
def OD(X:Cx)(pos:Pos)(keys:List (Option Expr))(kj:List Expr)(AY:List (TE×TE)):Prop:=
 ∀(pins:List (Addr×Obj)) (s:Shared) (σ:St) (H:Hp) (Q:List (V×V)->Hp->Prop),bt X pins σ H s->wd AY σ H Q ->
  wpAny (model X.prog X.w) X.A (evalPairs (pairTrees keys kj X.env pos)) (fun vs s'=>∃ps H',bt X pins σ H' s'/\VV ps vs/\Q ps H') X.xe s
theorem Ia{X:Cx}{pos:Pos}:OD X pos [] [] []:=fun pins s σ H Q I h=>pairTrees_nil_walk ⟨[],H,I,.nil,h⟩
theorem D2{X:Cx}{pos:Pos}{k v:Expr}{ks:List (Option Expr)}{vs:List Expr}{tk tv:TE}{AY:List (TE×TE)}(hk:PE X k tk)(hv:PE X v tv)(hr:OD X pos ks vs AY) :
  OD X pos (some k::ks) (v::vs) ((tk,tv)::AY):=fun pins s σ H Q I h=>
 pairTrees_cons_walk (gs (hk pins s σ H _ I h) fun u s1 ⟨x,H1,I1,rx,q1⟩=>gs (hv pins s1 σ H1 _ I1 q1) fun w2 s2 ⟨y,H2,I2,ry,q2⟩=>
  gs (hr pins s2 σ H2 _ I2 q2) fun ws s3 ⟨ps,H3,I3,rel,q3⟩=>⟨(x,y)::ps,H3,I3,.cons ⟨rx,ry⟩ rel,q3⟩)
def nc(kvs kH:List (f_×V)):List (f_×V):=kH.foldl (fun acc kv=>mT acc kv.1 kv.2) kvs
theorem KV.merge:∀{kH:List (f_×V)} {rs:List (f_×Value)} {kvs:List (f_×V)} {vs:List (f_×Value)},KV kH rs->KV kvs vs->KV (nc kvs kH) (merged vs rs):=by
 intro kH rs kvs vs r
 unfold KV at r
 induction r generalizing kvs vs with
 |nil=>intro q;exact q
 |@cons p q ps qs h t ih=>
  intro r0
  have e:KV (mT kvs p.1 p.2) (stored vs q.1 q.2):=by
   have:=r0.put p.1 h.2
   rw[<- h.1];exact this
  exact ih e
theorem oK:∀(kH kvs:List (f_×V)),(nc kvs kH).length<=kvs.length+kH.length
 |[],kvs=>by show kvs.length<=kvs.length+0;omega
 |p::r,kvs=>by
  have h1:=oK r (mT kvs p.1 p.2)
  have h2:=nb kvs p.1 p.2
  show(nc (mT kvs p.1 p.2) r).length<=_
  rw[bf];omega
theorem sW{P:Program}{w:World}:∀{kvs:List (f_×V)} {ws:List (Value×Value)},VV (kvs.map fun kv=>(kV kv.1,kv.2)) ws->∃rs,Carries (d8 P w) ws rs/\KV kvs rs
 |[],_,r=>by rw[c_]at r;cases r;exact⟨[],True.intro,.nil⟩
 |p::kvs,_,r=>by
  rw[aT]at r
  cases r with
  |@cons a b as bs h t=>
   obtain⟨rs,c,q⟩:=sW (P:=P) (w:=w) t
   obtain⟨b1,b2⟩:=b
   exact⟨(p.1,b2)::rs,⟨pP h.1,rfl,c⟩,.cons ⟨rfl,h.2⟩ q⟩
def OE(AY:List (TE×TE)):TE:=fun σ H Q=>∀p,H p=none->wd AY σ (eS H p (.dK [])) fun ps H2=>H2 p=some (.dK [])/\∃kvs:List (f_×V),ps=kvs.map (fun kv=>(kV kv.1,kv.2))/\kvs.length<=15/\Q (.ref p) (eS H2 p (.dK (nc [] kvs)))
theorem Ib{X:Cx}{pos:Pos}{keys:List (Option Expr)}{kj:List Expr}{AY:List (TE×TE)}(h:OD X pos keys kj AY)(zH:keys.all (·.isSome)=true)(hl:keys.length=kj.length)(h0:keys≠[])
  (RO:keys.length<=15):PE X (.Dict keys kj pos) (OE AY):=by
 intro pins s σ H Q I q
 have hn:=I.hok.fresh (ay s.heap.objs.size)
 have I1:=I.laid (a:=s.heap.objs.size) (o:=.dK []) (h':=s.heap.push { cls:=.type "dict",data:=.dict #[] }) (t':=s.toks) (fun _ _ q=>ar _ q) (ay _) (x_ s.heap I.big)
 refine wpAny_Dict_walk (knd:=d8 X.prog X.w) zH hl h0 RO (gs (h pins _ σ _ _ I1 (q _ hn)) fun ws s2 ⟨ps,H2,I2,rel,e,kvs,ep,lk,q2⟩=>?_)
 subst ep
 obtain⟨rs,c,rk⟩:=sW (P:=X.prog) (w:=X.w) rel
 obtain⟨z,hd,vs0,r0,dd⟩:=Bn I2.hok e
 cases r0
 refine⟨rs,c,dd,fun h' Cf hs=>⟨.ref s.heap.objs.size,_,?_,rfl,q2⟩⟩
 have hz:(nc [] kvs).length<=sizeLine:=by
  have h1:=oK kvs []
  rw[cQ]at h1
  rw[kO];omega
 have he:∃q,h'.get? s.heap.objs.size=some q:=let ⟨q,_,_,hq,_⟩:=Cf;⟨q,hq⟩
 exact sA I2 (by rw[e];exact True.intro) hs he (z4 hz hd (rk.merge .nil) Cf)
structure M1(X:Cx)(o:Expr)(m:Str)(gG:Pos)(e:Expr)(dW:Pos):Prop where
 base:attributeBase o m X.env (eval o X.env)=eval o X.env
 few:((backTo dW (starEach [e] X.env)).all (fun x=>!x.1)&&(backToKw dW (keywordEach [] X.env)).all (fun x=>x.1.isSome)
  && decide (([e]:List Expr).length+([]:List Keyword).length+(if ([]:List Keyword).isEmpty then 0 else 1)<30))=true
 line:(gG.endLine==dW.line)=true
 trees:backTo dW (starEach [e] X.env)=[(false,eval e X.env)]
structure M2(X:Cx)(o:Expr)(m:Str)(gG:Pos)(e f:Expr)(dW:Pos):Prop where
 base:attributeBase o m X.env (eval o X.env)=eval o X.env
 few:((backTo dW (starEach [e,f] X.env)).all (fun x=>!x.1)&&(backToKw dW (keywordEach [] X.env)).all (fun x=>x.1.isSome)
  && decide (([e,f]:List Expr).length+([]:List Keyword).length+(if ([]:List Keyword).isEmpty then 0 else 1)<30))=true
 line:(gG.endLine==dW.line)=true
 trees:backTo dW (starEach [e,f] X.env)=[(false,eval e X.env),(false,eval f X.env)]
def Ru(H:Hp)(a:Addr):Prop:=(∃kvs,Rd H a (.dK kvs))\/∃kvs,Rd H a (.dT kvs)
theorem D3{X:Cx}{pins:List (Addr×Obj)}{σ:St}{H:Hp}{s:Shared}{a:Addr}(I:bt X pins σ H s)(d:Ru H a) :
  s.TypeIs (.ref a) "dict"/\(∀b,Value.ref a=.ref b->∃ob,s.heap.get? b=some ob/\ob.dict=none)/\(a==sysModules)=false:=by
 rcases d with⟨kvs,e⟩|⟨kvs,e⟩
 ·obtain⟨_,hd,vs,_,dd⟩:=oJ I.hok e
  refine⟨dd.typeIs,fun b q=>?_,hd⟩
  cases q
  obtain⟨ob,_,_,h1,h2,_⟩:=dd
  exact⟨ob,h1,h2.2.1⟩
 ·obtain⟨_,hd,xs,_,dd⟩:=sV I.hok e
  refine⟨dd.typeIs,fun b q=>?_,hd⟩
  cases q
  obtain⟨ob,_,_,h1,h2,_⟩:=dd
  exact⟨ob,h1,h2.2.1⟩
section
variable{X:Cx}{pins:List (Addr×Obj)}{σ:St}{H:Hp}{s:Shared}{a:Addr}{y d:V}{u r:Value}{o:Option V}{A:Around}{E:Value->Shared->Prop}
theorem LF{Q:Value->Shared->Prop}(hu:A.units+1<cLine)(I:bt X pins σ H s)(g:pQ H a y o)(ry:cb y u)(h:∀w' s',bt X pins σ H s'->cb (o.getD .non) w'->Q w' s') :
  wpAny (model X.prog X.w) A (call (.builtin "dict.get") [.ref a,u]) Q E s:=by
 rcases g with⟨kvs,k,e,ey,l⟩|⟨kvs,k,b,e,ey,eb,l⟩
 ·subst ey
  obtain⟨z,hd,vs,rel,dd⟩:=oJ I.hok e
  refine qB PySem.F.slot_dict_get dd.typeIs PySem.F.entry_dict_get (PySem.F.args_dict_get_2 _ _) (meets_dict_get (d8 X.prog X.w) a (pP ry) hd) ⟨_,dd.mapOf,h _ _ (I.tok _) ?_⟩
  rw[l]
  exact(rel.val k).getD rfl
 ·subst ey
  cases(show u=Value.ref b from ry)
  obtain⟨z,hd,xs,rel,dd⟩:=sV I.hok e
  refine qB PySem.F.slot_dict_get dd.typeIs PySem.F.entry_dict_get (PySem.F.args_dict_get_2 _ _) (meetsH_dict_get (tupleKind (d8 X.prog X.w)) a b hd) ⟨gk hu,k,xs,qJ I.hok eb,dd,h _ _ (I.tok _) ?_⟩
  rw[l]
  exact(rel.val k).getD rfl
end
def LG(td ty:TE):TE:=fun σ H Q=>td σ H fun x H1=>∃a,x=.ref a/\Ru H1 a/\ty σ H1 fun y H2=>∃o,pQ H2 a y o/\Q (o.getD .non) H2
def LH(td ty:TE):TE:=fun σ H Q=>td σ H fun x H1=>∃a,x=.ref a/\Ru H1 a/\ty σ H1 fun y H2=>∃kvs k v,H2 a=some (.dK kvs)/\y=kV k/\jU kvs k=some v/\Q v (eS H2 a (.dK (mD kvs k)))
section
variable{X:Cx}{o e f:Expr}{gG dW:Pos}{td ty tx:TE}
theorem D4(hu:X.A.units+1<cLine)(ho:PE X o td)(he:PE X e ty)(m:M1 X o "get" gG e dW):PE X (.Call (.Attribute o "get" gG) [e] [] dW) (LG td ty):=by
 intro pins s σ H Q I h
 refine wpAny_Call_method m.base m.few m.line PySem.F.plainAttrs_dict PySem.F.slot_dict_get PySem.F.type_dict_get (gs (ho pins s σ H _ I h) fun u s1 ⟨x,H1,I1,rx,a,ex,d,q1⟩=>?_)
 subst ex
 obtain rfl:u=Value.ref a:=rx
 obtain⟨t1,t2,_⟩:=D3 I1 d
 refine⟨t1,t2,?_⟩
 rw[m.trees]
 refine iQ rfl (gN (iw (gs (he pins s1 σ H1 _ I1 q1) fun iv s2 ⟨y,H2,I2,ry,ov,g,q2⟩=>iP ?_)))
 exact LF hu I2 g ry fun w' s3 I3 m5=>⟨_,H2,I3,m5,q2⟩
theorem D5(ho:PE X o td)(he:PE X e ty)(m:M1 X o "pop" gG e dW):PE X (.Call (.Attribute o "pop" gG) [e] [] dW) (LH td ty):=by
 intro pins s σ H Q I h
 refine wpAny_Call_method m.base m.few m.line PySem.F.plainAttrs_dict PySem.F.slot_dict_pop PySem.F.type_dict_pop (gs (ho pins s σ H _ I h) fun u s1 ⟨x,H1,I1,rx,a,ex,d,q1⟩=>?_)
 subst ex
 obtain rfl:u=Value.ref a:=rx
 obtain⟨t1,t2,_⟩:=D3 I1 d
 refine⟨t1,t2,?_⟩
 rw[m.trees]
 refine iQ rfl (gN (iw (gs (he pins s1 σ H1 _ I1 q1) fun iv s2 ⟨y,H2,I2,ry,kvs,k,v,ea,ey,l,q2⟩=>iP ?_)))
 subst ey
 exact OA I2 ea ry l (.inl rfl) fun w' s3 I3 m5=>⟨v,_,I3,m5,q2⟩
end
section
variable{X:Cx}{pins:List (Addr×Obj)}{σ:St}{H:Hp}{s:Shared}{a:Addr}{kvs:List (f_×V)}{A:Around}{E:Value->Shared->Prop}
end
section
variable{X:Cx}{pins:List (Addr×Obj)}{σ:St}{H:Hp}{s:Shared}{a:Addr}{y:V}{u:Value}{A:Around}{E:Value->Shared->Prop}
end
section
variable{X:Cx}
end
section
variable{κ:Type}[DecidableEq κ]
theorem CG{p:κ×V}{r:List (κ×V)}{k:κ}(e:p.1=k):mD (p::r) k=mD r k:=by
 unfold mD
 rw[cI,aE (by simp[e])]
theorem CI{p:κ×V}{r:List (κ×V)}{k:κ}(e:¬ p.1=k):mD (p::r) k=p::mD r k:=by
 unfold mD
 rw[cI,aB (by simp[e])]
end
end L2
set_option maxHeartbeats 4000000
namespace L2
open PySem PySem.Spec PyProof.Rows
abbrev bP(X:Cx)(nm:List Str)(scope:Scope)(cl:List (Str×Addr))(C:Addr)(s0:Shared)(H0:Hp)(fp:List Addr):Cx:=
 { X with N:=nm,s₀:=s0,H₀:=H0,env:=compEnvC scope cl C X.env,outer:=X.stack,stack:=X.stack,ex:=fp,fn:=fun _=>false,pn:=[],xe:=fun _ _=>False }
def Ic(X:Cx)(m6:List Expr)(t:TT):Prop:=
 ∀(pins:List (Addr×Obj)) (s:Shared) (σ:St) (H:Hp) (Q:Bool->Hp->Prop),bt X pins σ H s->t σ H Q ->
  wpAny (model X.prog X.w) X.A (forIn m6 true fun c r=>if r=true then do let ok <- isTrue c X.env (eval c X.env);pure (ForInStep.yield ok)else pure (ForInStep.yield r)) (TP X pins σ Q) X.xe s
def Rv:TT:=fun _ H Q=>Q true H
theorem Ie{X:Cx}:Ic X [] Rv:=fun _ _ _ H _ I h=>wpAny_tests_nil ⟨H,I,h⟩
theorem Ig{X:Cx}{c:Expr}{t:TT}(hc:PT X c t):Ic X [c] t:=fun pins s σ H Q I h=>wpAny_tests_one (hc pins s σ H Q I h)
def lg(cap:List (Option Nat))(σ:St):St:=cap.map fun o=>o.bind fun j=>(σ[j]?).join
def vn(cap:List (Option Nat))(wi:TI)(g:TG)(tc:TT)(te:TE):TE:=fun σ H Q=>wi σ H fun J H1=>∃W:Nat->Nat->List V->Hp->Prop,(∃m,W 0 m [] H1)/\∀i m ys H2,W i m ys H2 ->
 (J.stop i H2/\ys.length<=sizeLine/\∀p,H2 p=none->Q (.ref p) (eS H2 p (.lst ys))) \/
 (J.go i H2/\∀x H3,J.yld i H2 x H3->g x (lg cap σ) H3 fun σ2 H4=>tc σ2 H4 fun b H5=>if b=true then te σ2 H5 fun y H6=>ys.length<sizeLine/\∃m',m'<m/\W (i+1) m' (ys++[y]) H6 else ∃m',m'<m/\W (i+1) m' ys H5)
theorem Un.cellK{fs ex:List Addr}{H H':Hp}{h h':Heap}(u:Un fs ex H H' h h'){c:Addr}{v:Option Value}(x:h.IsCell c v)(n:H c=none)(he:c∉ex):h'.IsCell c v:=by
 obtain⟨o,ho,hd⟩:=x
 obtain⟨sl,q⟩:=u.any ho n he
 exact⟨_,q,hd⟩
structure D6(X:Cx)(scope:Scope)(cl:List (Str×Addr))(x:Str):Prop where
 vis:N1 X.env.scope x
 nl:X.env.scope.names.lookup x≠some .local
 cl:cl.lookup x=X.env.cells.lookup x
 kd:(relabel scope X.env).names.lookup x=some .cell\/(relabel scope X.env).names.lookup x=some .free
section
variable{X:Cx}{oG tg iter:Expr}{m6:List Expr}{scope:Scope}{pos:Pos}{nm:List Str}{cl:List (Str×Addr)}{cap:List (Option Nat)}{wi:TI}{g:TG}{tc:TT}{te:TE}
theorem Bp{pins KN:List (Addr×Obj)}{σ σ2:St}{H1 H:Hp}{s2 s:Shared}{C:Addr}{fp:List Addr}
  (AZ:∀(i j:Nat),cap[i]?=some (some j)->∃x,nm[i]?=some x/\X.N[j]?=some x/\D6 X scope cl x) (cR:cap.length=nm.length)
  (I2:bt X pins σ H1 s2) (SJ:∀b∈fp,∀x c,X.env.cells.lookup x=some c->c≠b)
  (I:bt (bP X nm scope cl C s2 H1 fp) KN σ2 H s):bt (bP X nm scope cl C s2 H1 fp) KN (lg cap σ) H s:=by
 refine⟨I.ok,I.os,I.bare,I.base,?_,I.cell,I.free,I.freeC,I.pin,I.hok,by show(lg cap σ).length=nm.length;unfold lg;rw[az];exact cR⟩
 obtain⟨m,hn,_⟩:=I.loc
 refine⟨m,hn,fun i x v e1 e2 e3=>?_⟩
 unfold lg at e2
 rw[ax]at e2
 cases hc:cap[i]? with
 |none=>rw[hc]at e2;cases e2
 |some oj=>
  cases oj with
  |none=>rw[hc]at e2;cases e2
  |some j=>
   rw[hc]at e2
   have e2':(σ[j]?).join=some v:=by simpa using e2
   have e2:σ[j]?=some (some v):=by
    cases hs:σ[j]? with
    |none=>rw[hs]at e2';cases e2'
    |some ov=>rw[hs]at e2';simp at e2';rw[e2']
   obtain⟨x',f1,f2,k⟩:=AZ i j hc
   have hx:x'=x:=by
    have z:nm[i]?=some x:=e1
    rw[f1]at z;exact aZ z
   subst hx
   obtain⟨m2,_,hl2⟩:=I2.loc
   obtain⟨u,r,l⟩:=hl2 j x' v f2 e2 k.vis
   refine⟨u,r,?_⟩
   rcases l with⟨kl,_⟩|⟨_,c,hcc,i6⟩
   ·exact absurd kl k.nl
   ·refine .inr ⟨k.kd,c,by rw[<- hcc];exact k.cl,?_⟩
    exact I.base.cellK i6 (I2.freeC _ _ hcc) fun z=>SJ c z _ _ hcc rfl
theorem pR{prog:Program}{w:World}{A:Around}{E:Value->Shared->Prop}{s:Shared}{l:Addr}{bJ:List Value}{n:Nat}{u:Value}{Q:Value->Shared->Prop}
  (e:s.heap.get? l=some { cls:=.type "list",data:=.seq bJ.toArray n }) (hz:bJ.length<sizeLine)
  (h:∀(h':Heap) (n' tk:Nat),h'.get? l=some { cls:=.type "list",data:=.seq (bJ++[u]).toArray n' }->(∀b o,b≠l->s.heap.get? b=some o->h'.get? b=some o)->Q .none { s with heap:=h',toks:=tk }) :
  wpAny (model prog w) A (call (.builtin "list.append") [.ref l,u]) Q E s:=by
 refine call_meets F.slot_list_append ⟨_,e,rfl⟩ F.entry_list_append (F.args_list_append_2 _ _) (PySem.list_append l bJ.toArray n u (by rw[aX];omega)) ⟨e,?_⟩
 have q:=PySem.IsL.update e (fun a=>a.push u)
 have q2:(s.heap.update l (Obj.mapSeq fun x=>x.push u)).get? l=some { cls:=.type "list",data:=.seq (bJ++[u]).toArray (if ((bJ.toArray.push u).size==bJ.toArray.size)=true then n else n+1) }:=by
  rw[show(s.heap.update l (Obj.mapSeq fun x=>x.push u)).get? l=_ from q];simp
 exact h _ _ s.toks q2 fun b o hb ho=>(eW s.heap (Obj.mapSeq _) (Ne.symm hb)).trans ho
theorem Bq(ia:X.calm=true)(GW:closureFor scope X.env=pure cl)(oW:∀x c,cl.lookup x=some c->X.env.cells.lookup x=some c)
  (h_:scope.kind=.function) (A9:∀x∈scope.names,x.2=.local->scope.names.lookup x.1=some .local) (i6:∀y∈scope.names,y.2≠.cell)
  (Nx:∀x,((relabel scope X.env).names.lookup x=some .cell\/(relabel scope X.env).names.lookup x=some .free)->∃c,cl.lookup x=some c)
  (AZ:∀(i j:Nat),cap[i]?=some (some j)->∃x,nm[i]?=some x/\X.N[j]?=some x/\D6 X scope cl x) (cR:cap.length=nm.length)
  (hi:PI X tg iter wi) (hg:∀C s0 H0 fp,PG (bP X nm scope cl C s0 H0 fp) tg g) (ht:∀C s0 H0 fp,Ic (bP X nm scope cl C s0 H0 fp) m6 tc)
  (he:∀C s0 H0 fp,PE (bP X nm scope cl C s0 H0 fp) oG te) (hs:∀x,foldedSetIterable iter X.env x=pure x:=by intro _;rfl) :
  PE X (.ListComp oG [⟨tg,iter,m6,0⟩] scope pos) (vn cap wi g tc te):=by
 intro pins s σ H Q I h
 rw[eval_ListComp]
 refine kZ (use:=none) rfl hs GW h_ A9 (gs (hi pins s σ H _ I h) fun v s1 h1=>gs h1 fun QY s2 h2=>?_)
 obtain⟨it,fp,tn,J,H1,e,I2,T,st2,f2,W,⟨m0,w0⟩,turn⟩:=h2
 subst e
 have hfpn:∀b∈fp,b<s2.heap.objs.size:=fun b hb=>let ⟨o,ho,_⟩:=T.obj _ _ st2 b hb;aI ho
 have hfpc:∀b∈fp,∀x c,X.env.cells.lookup x=some c->c≠b:=fun b hb=>(f2 b hb).2.2.2.2.1
 refine cw (jr i6 (by intro y hy;simp at hy) (fun h₁ hns₁ hsb₁=>?_) h_)
 dsimp only at hns₁ hsb₁ ⊢
 generalize hH2:s2.heap.push { cls:=.type "list",dict:=none,data:=.seq ([]:List Value).toArray }=G2 at hns₁ hsb₁ ⊢
 have hC:G2.objs.size=s2.heap.objs.size+1:=by rw[<- hH2,iR]
 have hDC:s2.heap.objs.size≠G2.objs.size:=by rw[hC];exact be (jb _)
 have old:∀b o,s2.heap.get? b=some o->h₁.get? b=some o:=fun b o e=>hsb₁.extBut b o (by rw[hC];exact be (fO (aI e))) (ar _ (hH2▸ar _ e))
 have hacc:h₁.get? s2.heap.objs.size=some { cls:=.type "list",data:=.seq ([]:List Value).toArray }:=hsb₁.extBut _ _ hDC (ar _ (hH2▸aR _ rfl))
 have okB:(bP X nm scope cl G2.objs.size s2 H1 fp).Ok:=by
  refine⟨I2.ok.mod,h_,I2.ok.glob,I2.ok.blt,by show s2.heap.objs.size<=G2.objs.size;omega,fun x y c h1 h2=>I2.ok.inj x y c (oW _ _ h1) (oW _ _ h2),fun x hx=>Nx x hx,fun x c h0=>(by cases h0),fun hc=>I2.ok.hd ia,I2.ok.frames,.inl rfl,?_,?_,?_,?_,?_,?_,?_⟩
  ·intro b hb
   exact⟨be (aV (hfpn b hb) (by show _<=G2.objs.size;omega)),fun x c hx=>hfpc b hb x c (oW _ _ hx)⟩
  ·exact fun b o hb=>I2.bs b o hb
  ·exact a7 I2.ok.bsz I2.sz
  ·intro b o hb z
   rcases(f2 b z).2.2.2.1 with q|q
   ·exact I2.ok.noex b o hb q
   ·exact absurd (aI (I2.ok.bs b o hb).1) (pI.mpr q)
  ·intro b hb z
   rcases a8.mp (I2.stkSub b z)with q|q
   ·exact(f2 b hb).2.1 q
   ·exact(f2 b hb).2.2.1 q
  ·exact I2.stack
  ·exact I2.stkFree
 have I4:bt (bP X nm scope cl G2.objs.size s2 H1 fp) [] (lg cap σ) H1 { s2 with heap:=h₁,toks:=s2.toks+([]:List (Str×Value)).length }:=by
  refine Bp AZ cR I2 hfpc (σ2:=List.replicate nm.length none) ⟨okB,rfl,I2.bare,Un.kept old,⟨_,hns₁,fun i x v _ e2=>?_⟩,fun x c hx=>?_,?_,fun x c hx=>I2.freeC x c (oW _ _ hx),fun p hp=>absurd hp (by simp),I2.hok.kept old,by simp⟩
  ·rw[iy]at e2;split at e2<;>cases e2
  ·obtain⟨v,hv⟩:=I2.cell x c (oW _ _ hx)
   exact⟨v,hv.keeps old⟩
  ·exact I2.hok.fresh (by show _<=G2.objs.size;omega)
 have hsz0:∀{Hx:Hp} {sx:Shared} {px:List (Addr×Obj)} {σx:St},bt (bP X nm scope cl G2.objs.size s2 H1 fp) px σx Hx sx->Hx s2.heap.objs.size=none->∀{oa:Obj},sx.heap.get? s2.heap.objs.size=some oa->(∀v,oa.data≠.cell v) ->
   bt (bP X nm scope cl G2.objs.size s2 H1 fp) [(s2.heap.objs.size,oa)] σx Hx sx:=fun{Hx sx px σx} Ix hn {oa} ho hd=>Ix.pins_of fun p hp=>by
  have e:p=(s2.heap.objs.size,oa):=by simpa using hp
  subst e
  exact⟨ho,hn,hDC,fun z=>by
   obtain⟨_,o,q,_⟩:=I2.stack.mem z
   exact absurd (aI q) (bo _),hd⟩
 have hfpB:∀{Hx:Hp} {oa:Obj},(∀b∈fp,Hx b=none)->∀b∈fp,pf (bP X nm scope cl G2.objs.size s2 H1 fp) [(s2.heap.objs.size,oa)] Hx b:=fun{Hx oa} hn b hb=>
  ⟨hn b hb,(okB.exf b hb).1,okB.exfs b hb,.inl hb,(okB.exf b hb).2,fun p hp=>by
   have e:p=(s2.heap.objs.size,oa):=by simpa using hp
   subst e
   exact ma (hfpn b hb)⟩
 have hcalmB:(bP X nm scope cl G2.objs.size s2 H1 fp).calm=true:=ia
 have loop:∀sx:Shared,sx={ s2 with heap:=h₁,toks:=s2.toks+([]:List (Str×Value)).length } ->
   codeAny (model X.prog X.w) X.A (.compLoop (.ListComp oG [⟨tg,iter,m6,0⟩] scope pos) 0 (.ref it) (.ref s2.heap.objs.size) (compEnvC scope cl G2.objs.size X.env))
    (compPost (model X.prog X.w) X.A X.xe none (EP X pins σ Q) (.ref s2.heap.objs.size) G2.objs.size) sx:=by
  rintro sx rfl
  refine codeAny_loop rfl (fun n s'=>∃i ys H',bt (bP X nm scope cl G2.objs.size s2 H1 fp) [] (lg cap σ) H' s'/\tn i s'.heap/\(∀b∈fp,H' b=none)/\H' s2.heap.objs.size=none /\
   (∃bJ k,cV ys bJ/\s'.heap.get? s2.heap.objs.size=some { cls:=.type "list",data:=.seq bJ.toArray k })/\W i n ys H') ?_ m0
   ⟨0,[],H1,I4,T.keep _ _ _ st2 (fun b _ o e=>old b o e),fun b hb=>(f2 b hb).1,I2.fresh,⟨[],0,.nil,hacc⟩,w0⟩
  rintro n s3 ⟨i,ys,H3,I3,jT,fr3,na3,⟨bJ,ka,rv,ea⟩,w3⟩
  show wpAny _ X.A ((compTurn (.ListComp oG [⟨tg,iter,m6,0⟩] scope pos) 0 (.ref it) (.ref s2.heap.objs.size) (compEnvC scope cl G2.objs.size X.env)).onRaise (fun x=>do noteFrame x (compEnvC scope cl G2.objs.size X.env);theTreesLotGoes x)) _ _ s3
  refine wpAny_noted ?_
  rw[compTurn_list]
  refine ak (ib ?_)
  have I3p:=hsz0 I3 na3 ea (fun v z=>by cases z)
  rcases turn i n ys H3 w3 with⟨stop,hz,qn⟩|⟨go,step⟩
  ·refine ak (cH (T.done (bP X nm scope cl G2.objs.size s2 H1 fp) rfl rfl rfl hcalmB i _ s3 _ H3 (fun _ _=>False) I3p (hfpB fr3) jT stop) (fun r s4 hr=>?_) fun _ _ z=>z.elim)
   obtain⟨hr,I4'⟩:=hr
   subst hr
   refine aJ ?_
   obtain⟨m4,hn4,_⟩:=id I4'.loc
   refine⟨m4,hn4,fun h' hs'=>?_⟩
   have pa:=I4'.pin (s2.heap.objs.size,{ cls:=.type "list",data:=.seq bJ.toArray ka }) (by simp)
   have ne:∀b o,s2.heap.get? b=some o->b≠s2.heap.objs.size/\b≠G2.objs.size:=fun b o e=>⟨be (aI e),be (by rw[hC];exact fO (aI e))⟩
   have kp:∀b o,b≠G2.objs.size->s4.heap.get? b=some o->h'.get? b=some o:=fun b o hb e=>hs'.extBut b o hb e
   refine⟨.ref s2.heap.objs.size,eS H3 s2.heap.objs.size (.lst ys),?_,rfl,qn _ na3⟩
   refine I2.call' (ch:=fp) I4'.os ⟨fun b o e n hb hx=>?_,fun b o e n hb hx=>?_,fun b o e n hx=>?_,fun b o e hx=>?_,fun b xs e=>?_,fun b o u e=>?_,fun b ps e=>?_⟩ ?_ I4'.bare fun b hb=>?_
   ·exact kp b o (ne b o e).2 (I4'.base.keep b o e n hb hx)
   ·obtain⟨sl,q⟩:=I4'.base.slot b o e n hb hx
    exact⟨sl,kp b _ (ne b o e).2 q⟩
   ·rw[bX (ne b o e).1];exact I4'.base.free b o e n hx
   ·obtain⟨o',q⟩:=I4'.base.there b o e hx
    exact⟨o',kp b _ (ne b o e).2 q⟩
   ·have q:=I4'.base.tups b xs e
    rw[bX (dh q na3)];exact q
   ·have q:=I4'.base.frzs b o u e
    rw[bX (dh q na3)];exact q
   ·obtain⟨mr,q⟩:=I4'.base.tbls b ps e
    exact⟨mr,by rw[bX (dh q na3)];exact q⟩
   ·intro b o e
    by_cases hb:b=s2.heap.objs.size
    ·subst hb
     rw[dC]at e;cases e
     exact⟨hz,bJ,ka,rv,kp _ _ hDC pa.1⟩
    ·rw[bX hb]at e
     refine(I4'.hok b o e).stay (fun c u hc q=>kp c u (fun z=>?_) q) (fun c q=>by rw[bX (dh q na3)];exact q) fun c xs q=>by rw[bX (dh q na3)];exact q
     subst z
     have fr:H3 G2.objs.size=none:=I4'.free
     rcases hc with rfl|hc
     ·rw[fr]at e;cases e
     ·rw[fr]at hc;cases hc
   ·obtain⟨_,g1,_,g3,g4,g5⟩:=f2 b hb
    exact⟨g3,g1,g4,g5⟩
  ·refine ak (cH (T.item (bP X nm scope cl G2.objs.size s2 H1 fp) rfl rfl rfl hcalmB i _ s3 _ H3 (fun _ _=>False) I3p (hfpB fr3) jT go) (fun r s4 hr=>?_) fun _ _ z=>z.elim)
   obtain⟨u,hr,h4⟩:=hr
   subst hr
   dsimp only
   refine ak (cH h4 (fun _ s5 h5=>?_) fun _ _ z=>z.elim)
   obtain⟨x,H5,I5,r5,y5,st5,fr5⟩:=h5
   have I5':=I5.pinned (hfpB fr5) (T.obj _ _ st5)
   refine ak (cH (hg _ _ _ _ _ s5 _ H5 x u _ I5' r5 (step x H5 y5)) (fun _ s6 h6=>?_) fun _ _ z=>z.elim)
   obtain⟨σ6,H6,I6,q6⟩:=h6
   refine ak (cH (ht _ _ _ _ _ s6 σ6 H6 _ I6 q6) (fun ok s7 h7=>?_) fun _ _ z=>z.elim)
   obtain⟨H7,I7,q7⟩:=h7
   have back:∀{H8:Hp} {s8:Shared} {JH:List V} {its':List Value} {k':Nat},bt (bP X nm scope cl G2.objs.size s2 H1 fp) [] σ6 H8 s8->(∀b∈fp,∀o,s5.heap.get? b=some o->s8.heap.get? b=some o)->(∀b∈fp,H8 b=none)->H8 s2.heap.objs.size=none ->
     cV JH its'->s8.heap.get? s2.heap.objs.size=some { cls:=.type "list",data:=.seq its'.toArray k' }->(∃m',m'<n/\W (i+1) m' JH H8) ->
     ∃m,m<n/\∃i ys H',bt (bP X nm scope cl G2.objs.size s2 H1 fp) [] (lg cap σ) H' s8/\tn i s8.heap/\(∀b∈fp,H' b=none)/\H' s2.heap.objs.size=none /\
      (∃bJ k,cV ys bJ/\s8.heap.get? s2.heap.objs.size=some { cls:=.type "list",data:=.seq bJ.toArray k })/\W i m ys H':=
    fun{H8 s8 JH its' k'} I8 kf f8 n8 rv8 e8 ⟨m',hm,w8⟩=>⟨m',hm,i+1,JH,H8,Bp AZ cR I2 hfpc I8,T.keep _ _ _ st5 kf,f8,n8,⟨its',k',rv8,e8⟩,w8⟩
   cases ok with
   |false=>
    refine aJ ⟨rfl,?_⟩
    have q7':∃m',m'<n/\W (i+1) m' ys H7:=by simpa using q7
    have pa:=I7.pin (s2.heap.objs.size,{ cls:=.type "list",data:=.seq bJ.toArray ka }) (by simp)
    refine back (I7.pins_of fun p hp=>absurd hp (by simp)) (fun b hb o e=>?_) (fun b hb=>?_) pa.2.1 rv pa.1 q7'
    ·exact(I7.pin (b,o) (aM _ (aM _ (fR hb e)))).1
    ·obtain⟨o,e,d⟩:=T.obj _ _ st5 b hb
     exact(I7.pin (b,o) (aM _ (aM _ (fR hb e)))).2.1
   |true=>
    rw[aB rfl]at q7
    refine ak (ak (cH (he _ _ _ _ _ s7 σ6 H7 _ I7 q7) (fun xv s8 h8=>?_) fun _ _ z=>z.elim))
    obtain⟨y,H8,I8,r8,hzy,q8⟩:=h8
    have pa:=I8.pin (s2.heap.objs.size,{ cls:=.type "list",data:=.seq bJ.toArray ka }) (by simp)
    refine ak (pR pa.1 (by rw[<- rv.length];exact hzy) fun h' k' tk e9 sb=>?_)
    refine aJ (aJ ⟨rfl,?_⟩)
    have I9:bt (bP X nm scope cl G2.objs.size s2 H1 fp) [] σ6 H8 { s8 with heap:=h',toks:=tk }:=
     (bt.pins_of (pins':=[]) I8 fun p hp=>absurd hp (by simp)).turned (it:=s2.heap.objs.size) (fun b o hb e=>sb b o hb e) pa.2.1 hDC (.inr (ay _)) (fun x c hx z=>by
      obtain⟨v,hv⟩:=I2.cell x c (oW _ _ hx)
      exact absurd hv.lt (by rw[z];exact bo _)) (fun p hp=>absurd hp (by simp))
    refine back I9 (fun b hb o e=>?_) (fun b hb=>?_) pa.2.1 (rv.append (.cons r8 .nil)) e9 q8
    ·exact sb b o (be (hfpn b hb)) (I8.pin (b,o) (aM _ (aM _ (fR hb e)))).1
    ·obtain⟨o,e,d⟩:=T.obj _ _ st5 b hb
     exact(I8.pin (b,o) (aM _ (aM _ (fR hb e)))).2.1
 exact mi (loop _ rfl) (T.self _ _ _ _ _ (T.keep _ _ _ st2 fun b _ o e=>old b o e) (loop _ rfl))
end
def tx(l:List Nat):Str:=⟨l.toArray⟩
theorem LI(l:List Nat):(tx l).cps.toList=l:=rfl
theorem ip(l:List Nat):(tx l).length=l.length:=by show l.toArray.size=_;simp
theorem z5(a b:List Nat):tx a++tx b=tx (a++b):=by
 show(⟨a.toArray++b.toArray⟩:Str)=⟨(a++b).toArray⟩
 simp
theorem z6{a b:List Nat}:tx a=tx b↔a=b:=⟨fun h=>by have:=fM (fun z:Str=>z.cps.toList) h;exact this,fun h=>by rw[h]⟩
def OF(lZ:List V):It:=⟨fun i _=>i<lZ.length,fun i H x H'=>H'=H/\lZ[i]?=some x,fun i _=>lZ.length<=i⟩
theorem pi{P:Program}{w:World}{K:Frag}{tg:Expr}{it:Addr}{lZ:List V}{Pr:Nat->Value->Prop}{S:Nat->Heap->Prop}{ty:String}
  (W:∀A:Around,A.handled=none->Walks P w A it [it] [it] lZ.length Pr S) (hv:∀i v,i<lZ.length->Pr i v->∃x,lZ[i]?=some x/\cb x v)
  (Dw:∀i h,S i h->∃o vs,h.get? it=some o/\o.cls=.type ty/\o.data=.fields vs)
  (Dx:["enumerate","zip","dict_itemiterator","dict_reverseitemiterator","odict_iterator","itertools.zip_longest","itertools.pairwise"].contains ty=false)
  (zv:∀(A:Around) (i:Nat) (s:Shared) (Q:Value->Shared->Prop) (E:Value->Shared->Prop),S i s.heap->Q (.ref it) s->wpAny (model P w) A (pyIter (.ref it)) Q E s) :
  zP P w K tg (OF lZ) [it] it (fun i h=>i<=lZ.length/\S i h) where
 mem:=by simp
 obj:=fun i h st b hb=>by
  have e:b=it:=by simpa using hb
  subst e
  obtain⟨o,vs,e,c,d⟩:=Dw i h st.2
  exact⟨o,e,fun v z=>by rw[d]at z;cases z⟩
 keep:=fun i h h' st k=>⟨st.1,(W { depth:=0,handled:=none,frames:=none } rfl).frame i h h' st.2 k⟩
 item:=by
  intro X hP hw hK hc i pins s σ H E I hf st hg
  subst hP hw hK
  obtain⟨f0,f1,f2,f3,f4,f5⟩:=hf it (by simp)
  refine(W X.A (I.ok.hd hc)).item i s _ _ hg st.2 fun v h' tk hp bI kk=>?_
  have I1:bt X pins σ H { s with heap:=h',toks:=tk }:=I.turned (fun b o hb e=>kk b o (by simpa using hb) e) f0 f1 f3 f4 f5
  obtain⟨x,hx,rx⟩:=hv i v hg hp
  obtain⟨o,vs,e,c,d⟩:=Dw _ _ bI
  exact⟨v,rfl,xX (s:={ s with heap:=h',toks:=tk }) e c d Dx ⟨x,H,I1,rx,⟨rfl,hx⟩,⟨hg,bI⟩,fun b hb=>(hf b hb).1⟩⟩
 done:=by
  intro X hP hw hK hc i pins s σ H E I hf st hg
  subst hP hw hK
  obtain⟨f0,f1,f2,f3,f4,f5⟩:=hf it (by simp)
  have e:i=lZ.length:=ij st.1 hg
  refine(W X.A (I.ok.hd hc)).done s _ _ (e▸st.2) fun h' tk kk=>⟨rfl,I.turned (fun b o hb e=>kk b o (by simpa using hb) e) f0 f1 f3 f4 f5⟩
 self:=fun A i s Q E st h=>zv A i s Q E st.2 h
section
variable{X:Cx}{tg:Expr}
def jV(l:List Nat):List V:=l.map fun c=>.str (tx [c])
def Rw(tl:TE):TI:=fun σ H R=>tl σ H fun x H1=>∃l,x=.str (tx l)/\R (OF (jV l)) H1
theorem CJ{l:List Nat}(i:Nat)(v:Value)(hi:i<(jV l).length)(h:SignAt (tx l) i v):∃x,(jV l)[i]?=some x/\cb x v:=by
 obtain⟨c,u,hc,e⟩:=h
 refine⟨.str (tx [c]),?_,u,e⟩
 unfold jV
 rw[ax]
 have:l[i]?=some c:=by simpa[tx]using hc
 rw[this];rfl
theorem LJ{l:Expr}{tl:TE}(hl:PE X l tl):PI X tg l (Rw tl):=by
 intro pins s σ H R I h
 refine gs (hl pins s σ H _ I h) fun v s1 ⟨x,H1,I1,r1,q1⟩=>?_
 obtain⟨l,e,q⟩:=q1
 subst e
 obtain⟨t,rfl⟩:=r1
 have hn:(tx l).cps.size=(jV l).length:=by unfold jV;simp[tx]
 have fin:∀(ob:Obj) (S:Nat->Heap->Prop) (ty:String),(∀A:Around,A.handled=none->Walks X.prog X.w A s1.heap.objs.size [s1.heap.objs.size] [s1.heap.objs.size] (tx l).cps.size (SignAt (tx l)) S)->S 0 (s1.heap.push ob) ->
   (∀i h,S i h->∃o vs,h.get? s1.heap.objs.size=some o/\o.cls=.type ty/\o.data=.fields vs) ->
   ["enumerate","zip","dict_itemiterator","dict_reverseitemiterator","odict_iterator","itertools.zip_longest","itertools.pairwise"].contains ty=false ->
   (∀(A:Around) (i:Nat) (s:Shared) (Q:Value->Shared->Prop) (E:Value->Shared->Prop),S i s.heap->Q (.ref s1.heap.objs.size) s->wpAny (model X.prog X.w) A (pyIter (.ref s1.heap.objs.size)) Q E s) ->
   QM X pins σ tg R (.ref s1.heap.objs.size) { s1 with heap:=s1.heap.push ob }:=fun ob S ty W h0 Dw Dx zv=>by
  rw[hn]at W
  refine⟨s1.heap.objs.size,[s1.heap.objs.size],_,_,H1,rfl,I1.kept (t':=s1.toks) fun b o e=>ar _ e,pi W (fun i v hi hp=>CJ i v hi hp) Dw Dx zv,⟨b_ _,h0⟩,fun b hb=>?_,q⟩
  have e:b=s1.heap.objs.size:=by simpa using hb
  subst e
  exact I1.fpOk (ay _) I1.fresh
 cases ha:(tx l).cps.all (· < 128)
 ·exact wpAny_pyIter_wide ha (fin _ _ _ (fun A hA=>Walks.strWide hA _ (tx l) t) ⟨_,aR _ rfl,rfl,rfl⟩ (fun i h st=>by obtain⟨o,a,b,c⟩:=st;exact⟨o,_,a,b,c⟩) (by decide) fun A i s Q E st h=>wpAny_pyIter_striter_wide st h)
 ·exact wpAny_pyIter_ascii ha (fin _ _ _ (fun A hA=>Walks.strAscii hA _ (tx l) t) ⟨_,aR _ rfl,rfl,rfl⟩ (fun i h st=>by obtain⟨o,a,b,c⟩:=st;exact⟨o,_,a,b,c⟩) (by decide) fun A i s Q E st h=>wpAny_pyIter_striter_ascii st h)
def CK(l:List Nat)(lo hi:Option Int):List Nat:=(l.drop (HT.sIx l.length 0 lo)).take (HT.sIx l.length l.length hi-HT.sIx l.length 0 lo)
theorem ya(l:List Nat)(lo hi:Option Int):(CK l lo hi).length<=l.length:=by unfold CK;rw[bb,dH];omega
theorem z7(l:List Nat)(i k:Nat):((List.range k).map fun(m:Nat)=>i+m).filterMap (fun j=>l[j]?)=(l.drop i).take k:=by
 induction k generalizing i with
 |zero=>simp
 |succ k ih=>
  rw[mj,aT,bx]
  have e:((fun m=>i+m)∘Nat.succ)=fun m=>(i+1)+m:=by funext m;simp[Function.comp];omega
  rw[e]
  by_cases h:i<l.length
  ·rw[fV]
   simp only[ml,ae h]
   rw[ih (i+1),eh h,List.take_succ_cons]
  ·rw[fV]
   have h':l.length<=i:=by omega
   simp only[ml,bO h']
   rw[ih (i+1),mn h',mn (by omega)]
   simp
theorem JM(v:Int)(n d:Nat):(if (1:Int)>0 then max 0 (min (if v<0 then v+(n:Int)else v) (n:Int))else max (-1) (min (if v<0 then v+(n:Int)else v) ((n:Int)-1)))=((HT.sIx n d (some v):Nat):Int):=by
 rw[aB (by omega)]
 show _=(((if v<0 then(v+(n:Int)).toNat else min v.toNat n):Nat):Int)
 by_cases hv:v<0
 ·simp only[aB hv];omega
 ·simp only[aE hv];omega
theorem LK(lo hi:Option Int)(n:Nat):Builtin.Str.strSliceIndices lo hi 1 n=(List.range (HT.sIx n n hi-HT.sIx n 0 lo)).map fun(m:Nat)=>HT.sIx n 0 lo+m:=by
 have key:∀a b:Nat,sliceRange (a:Int) (b:Int) 1=(List.range (b-a)).map fun(m:Nat)=>a+m:=fun a b=>by
  unfold sliceRange
  have e:(if (1:Int)>0 then(if (a:Int)<(b:Int)then((b:Int)-a+1-1)/1 else 0)else(if (a:Int)>b then((a:Int)-b-1-1)/(-1)else 0)).toNat=b-a:=by
   rw[aB (by omega)]
   by_cases h:(a:Int)<b
   ·rw[aB h];omega
   ·rw[aE h];omega
  dsimp only
  rw[e]
  refine ce fun k _=>?_
  omega
 unfold Builtin.Str.strSliceIndices
 rw[<- key]
 dsimp only
 congr 1
 ·cases lo with
  |none=>rfl
  |some v=>exact JM v n 0
 ·cases hi with
  |none=>rfl
  |some v=>exact JM v n n
theorem D7(l:List Nat)(lo hi:Option Int):Txt.slice (tx l) lo hi=tx (CK l lo hi):=by
 unfold Txt.slice
 rw[LK,ip]
 split
 ·rename_i h
  simp only[beq_self_eq_true,Bool.true_and,cz,az,bj]at h
  unfold CK
  have h1:=HT.sIx_le l.length l.length (ay _) hi
  have h2:=HT.sIx_le l.length 0 (b_ _) lo
  by_cases hz:l.length=0
  ·have:l=[]:=List.eq_nil_of_length_eq_zero hz
   subst this;simp
  ·have e0:HT.sIx l.length 0 lo=0:=by omega
   rw[e0,List.drop_zero,cL (by omega)]
 ·unfold CK tx
  have:∀j:Nat,(l.toArray)[j]?=l[j]?:=fun j=>by simp
  simp only[this]
  rw[z7]
def Rx:V->Option Int->Option Int->Hp->VK->Prop:=fun x lo hi H Q=>∃l,x=.str (tx l)/\l.length<=sizeLine/\Q (.str (tx (CK l lo hi))) H
theorem Br{v:Value}{o:Option Int}(p:IsPart v o):∃q:Option (Int×Tok),v=partValue q/\q.map (·.1)=o:=by
 cases p with
 |none=>exact⟨none,rfl,rfl⟩
 |int i t=>exact⟨some (i,t),rfl,rfl⟩
theorem LM:Os X Rx:=by
 intro pins s σ H x v vl vu lo hi sl Q I rx hs pl pu h
 obtain⟨l,e,hz,q⟩:=h
 subst e
 obtain⟨t,rfl⟩:=rx
 obtain⟨pl',rfl,rfl⟩:=Br pl
 obtain⟨pu',rfl,rfl⟩:=Br pu
 refine⟨"str",_,F.slot_str_getitem.lookup,ja _ _ _,?_⟩
 refine wpAny_getItem_str_slice (l:=pl') (u:=pu') (st:=none) hs rfl (post_val_or_str ?_)
 have e:=D7 l (pl'.map (·.1)) (pu'.map (·.1))
 unfold Txt.slice at e
 show(if ((1:Int)==1&&(Builtin.Str.strSliceIndices (pl'.map (·.1)) (pu'.map (·.1)) 1 (tx l).length).length==(tx l).length)=true then tx l else⟨((Builtin.Str.strSliceIndices (pl'.map (·.1)) (pu'.map (·.1)) 1 (tx l).length).filterMap ((tx l).cps[·]?)).toArray⟩:Str).length<=sizeLine /\
  ∀t' k,EP X pins σ Q (.str (if ((1:Int)==1&&(Builtin.Str.strSliceIndices (pl'.map (·.1)) (pu'.map (·.1)) 1 (tx l).length).length==(tx l).length)=true then tx l else⟨((Builtin.Str.strSliceIndices (pl'.map (·.1)) (pu'.map (·.1)) 1 (tx l).length).filterMap ((tx l).cps[·]?)).toArray⟩:Str) t') { s with toks:=k }
 rw[e,ip]
 exact⟨a7 (ya l _ _) hz,fun t' k=>⟨.str _,H,I.tok k,⟨t',rfl⟩,q⟩⟩
theorem D8(c:Nat)(l:List Nat):(!(Builtin.Str.occurrences (tx l) (tx [c]) 0 (tx l).length 1).isEmpty)=decide (c∈l):=StrLaws.found_one (tx l) c
def OG(Hb:Bool):R2:=fun x y H Q=>∃c l,x=.str (tx [c])/\y=.str (tx l)/\Q (.bl (if Hb then !decide (c∈l)else decide (c∈l))) H
theorem CL:lD X (compareOp .In) (OG false):=by
 intro pins s σ H x y v u Q I rx ry h
 obtain⟨c,l,rfl,rfl,q⟩:=h
 exact Ct pins s σ H _ _ v u Q I rx ry ⟨_,_,rfl,rfl,by rw[D8];exact q⟩
theorem we:lD X (compareOp .NotIn) (OG true):=by
 intro pins s σ H x y v u Q I rx ry h
 obtain⟨c,l,rfl,rfl,q⟩:=h
 exact v9 pins s σ H _ _ v u Q I rx ry ⟨_,_,rfl,rfl,by rw[D8];exact q⟩
theorem CM:lD X (compareOp .LtE) (fun x y H Q=>∃c d,x=.str (tx [c])/\y=.str (tx [d])/\Q (.bl (decide (c<=d))) H):=by
 intro pins s σ H x y v u Q I rx ry h
 obtain⟨c,d,rfl,rfl,q⟩:=h
 obtain⟨t,rfl⟩:=rx
 obtain⟨t',rfl⟩:=ry
 refine PySem.P.le_str ⟨.bl _,H,I,?_,q⟩
 show Value.bool _=Value.bool _
 congr 1
 show(!decide ([d]<[c]))=decide (c<=d)
 by_cases nK:c<=d
 ·rw[a_ nK,aU];rfl
  intro z
  cases z with
  |rel z=>omega
  |cons z=>cases z
 ·rw[aU nK,a_];rfl
  exact .rel (by omega)
theorem pj:∀{ys:List (List Nat)} {bJ:List Value},cV (ys.map fun l=>V.str (tx l)) bJ->StrsAre bJ (ys.map tx)
 |[],_,r=>by cases r;exact .nil
 |y::ys,_,r=>by
  cases r with
  |cons r rr=>
   obtain⟨t,rfl⟩:=r
   exact .cons _ _ (pj rr)
theorem pq:∀{bJ:List Value} {ss:List Str},StrsAre bJ ss->cV (ss.map fun z=>V.str z) bJ
 |_,_,.nil=>.nil
 |_,_,.cons y t r=>.cons ⟨t,rfl⟩ (pq r)
def oM(sep:List Nat):List (List Nat)->List Nat
 |[]=>[]
 |[x]=>x
 |x::y::r=>x++sep++oM sep (y::r)
theorem qK:∀ys:List (List Nat),oM [] ys=ys.flatten
 |[]=>rfl
 |[x]=>by simp[oM]
 |x::y::r=>by rw[oM,qK (y::r)];simp
theorem Ih(sep:List Nat):∀ys:List (List Nat),Txt.join (tx sep) (ys.map tx)=tx (oM sep ys):=fun ys=>by
 show Builtin.Str.glued (tx sep) (ys.map tx)=_
 rw[StrLaws.glued_eq_join]
 induction ys with
 |nil=>rfl
 |cons x r ih=>
  cases r with
  |nil=>rfl
  |cons y r=>
   show tx x++tx sep++Str.join (tx sep) ((y::r).map tx)=tx (x++sep++oM sep (y::r))
   rw[ih,z5,z5]
def OH(K:Frag):V->List V->Hp->VK->Prop:=fun x vs H Q=>∃(sep:List Nat) (a:Addr) (ys:List (List Nat)),x=.str (tx sep)/\vs=[.ref a]/\rE K H a (ys.map fun l=>V.str (tx l))/\(ys.map List.length).sum+ys.length*sep.length<=16777216/\Q (.str (tx (oM sep ys))) H
theorem Ii:Hu X "str.join" (OH X.K):=by
 intro pins s σ H x vs v us Q I rx rv h
 obtain⟨sep,a,ys,rfl,rfl,hS,hz,q⟩:=h
 obtain⟨t,rfl⟩:=rx
 obtain⟨u,rfl,ru⟩:=rv.one
 cases ru
 obtain⟨bJ,r,p,_⟩:=I.list hS
 refine join_list p.isList (pj (by simpa using r)) ?_ fun t' k=>?_
 ·rw[bx,ip,az]
  have e:((fun z:Str=>z.length)∘tx)=List.length:=by funext l;exact ip l
  rw[e];exact hz
 ·rw[Ih]
  exact⟨.str _,H,I.tok k,⟨t',rfl⟩,q⟩
end
inductive D where
 |non|bl (b:Bool)|int (i:Int)|str (l:List Nat)|tnil|tcons (d r:D)
 deriving DecidableEq
structure eD(K:Frag)(H H':Hp):Prop where
 t:∀p xs,fS K H p xs->fS K H' p xs
 z:∀b o u,H b=some (.frz o u)->H' b=some (.frz o u)
instance {K:Frag} {H H':Hp}:CoeFun (eD K H H') (fun _=>∀p xs,fS K H p xs->fS K H' p xs):=⟨eD.t⟩
theorem fS.same{K:Frag}{H H':Hp}(e:qI H H'):eD K H H':=⟨fun p xs h=>by
 rcases h with(h|⟨o,h⟩)|h
 ·exact .inl (.inl (e _ _ h))
 ·exact .inl (.inr ⟨o,e _ _ h⟩)
 ·exact .inr h,fun b o u h=>e _ _ h⟩
theorem cN{H:Hp}{p:Addr}(h:H p=none)(o:HO):qI H (eS H p o):=fun b u q=>by rw[bX (dh q h)];exact q
def QO(l:Addr)(H H':Hp):Prop:=∀b o,b≠l->H b=some o->H' b=some o
theorem ig{l:Addr}{H:Hp}{o:HO}:QO l H (eS H l o):=fun b u h q=>by rw[bX h];exact q
theorem fS.but{K:Frag}{l:Addr}{xs:List V}{H H':Hp}(e:QO l H H')(hl:H l=some (.lst xs)):eD K H H':=by
 have oz:∀{p:Addr} {o:HO},H p=some o->(∀zs,o≠.lst zs)->p≠l:=fun{p o} q hn z=>by subst z;rw[hl]at q;cases q;exact hn _ rfl
 refine⟨fun p ys h=>?_,fun b o u h=>e _ _ (oz h (fun _ z=>by cases z)) h⟩
 rcases h with(h|⟨o,h⟩)|h
 ·exact .inl (.inl (e _ _ (oz h (fun _ z=>by cases z)) h))
 ·exact .inl (.inr ⟨o,e _ _ (oz h (fun _ z=>by cases z)) h⟩)
 ·exact .inr h
theorem eD.refl{K:Frag}{H:Hp}:eD K H H:=⟨fun _ _ h=>h,fun _ _ _ h=>h⟩
theorem eD.trans{K:Frag}{H H1 H2:Hp}(a:eD K H H1)(b:eD K H1 H2):eD K H H2:=⟨fun p xs h=>b p xs (a p xs h),fun c o u h=>b.z c o u (a.z c o u h)⟩
theorem fS.new{K:Frag}{H:Hp}{p:Addr}{xs:List V}:fS K (eS H p (.tup xs)) p xs:=fS.of dC
theorem OI{X:Cx}{x:Str}{v:V}{pos:Pos}(h:∃u,X.mg x=some u/\cb v u)(hg:Gl X x:=by rfl)(hd:(x==("__debug__":Str))=false:=by decide):PE X (.Name x pos) (tC v):=by
 obtain⟨u,a,b⟩:=h
 exact v7 hg a b hd
section
variable{X:Cx}{o e:Expr}{es:List Expr}{to:TE}{t:TA}{name:Str}{gG dW:Pos}{id:String}{r:V->List V->Hp->VK->Prop}
def Sv(r:V->List V->Hp->VK->Prop)(to:TE)(t:TA):TE:=fun σ H Q=>to σ H fun x H1=>(∃l ys,x=.ref l/\H1 l=some (.lst ys))/\t σ H1 fun xs H2=>r x xs H2 Q
def Sw(r:V->List V->Hp->VK->Prop)(to:TE)(t:TA):TE:=fun σ H Q=>to σ H fun x H1=>(∃l,x=.str (tx l))/\t σ H1 fun xs H2=>r x xs H2 Q
theorem D9{K:Frag}{x:V}{H:Hp}(h:∃l ys,x=.ref l/\H l=some (.lst ys)):QN K "list" x H:=by
 obtain⟨l,ys,rfl,h⟩:=h
 exact .inl ⟨rfl,_,.of h⟩
theorem Ij{K:Frag}{x:V}{H:Hp}(h:∃l,x=.str (tx l)):QN K "str" x H:=by
 obtain⟨l,rfl⟩:=h
 exact rfl
theorem D_{T:String}{ty:V->Hp->Prop}(RP:∀x H,ty x H->QN X.K T x H)(pa:PlainAttrs T)(slot:Slot T name id)(Dx:typeOf (.builtin id)=pure (.type "method_descriptor"))(hm:Hu X id r)(ho:PE X o to)(ha:PA X (e::es) t)
  (nN:attributeBase o name X.env (eval o X.env)=eval o X.env)
  (xG:((backTo dW (starEach (e::es) X.env)).all (fun x=>!x.1)&&(backToKw dW (keywordEach [] X.env)).all (fun x=>x.1.isSome)
   && decide ((e::es).length+([]:List Keyword).length+(if ([]:List Keyword).isEmpty then 0 else 1)<30))=true)
  (qv:(gG.endLine==dW.line)=true) (hs:starEach (e::es) X.env=(false,eval e X.env)::starEach es X.env) (l7:(backTo dW (starEach es X.env)).any (·.1)=false) :
  PE X (.Call (.Attribute o name gG) (e::es) [] dW) (fun σ H Q=>to σ H fun x H1=>ty x H1/\t σ H1 fun xs H2=>r x xs H2 Q):=by
 intro pins s σ H Q I h
 refine wpAny_Call_method_late nN xG qv rfl (gs (ho pins s σ H _ I h) fun v s1 ⟨x,H1,I1,r1,ty,q1⟩=>?_)
 obtain⟨h1,h2⟩:=LA I1 r1 (RP _ _ ty)
 refine⟨T,id,pa,slot,Dx,h1,h2,?_⟩
 have hA:=ha dW pins s1 σ H1 _ I1 q1
 rw[hs]at hA ⊢
 refine iQ (by show(false||(backTo dW (starEach es X.env)).any (·.1))=false;rw[l7]<;>rfl) (gN ?_)
 exact gs hA fun us s2 ⟨vs,H2,I2,r2,q2⟩=>hm pins s2 σ H2 x vs v us Q I2 r1 r2 q2
theorem OJ(slot:Slot "list" name id)(Dx:typeOf (.builtin id)=pure (.type "method_descriptor"))(hm:Hu X id r)(ho:PE X o to)(ha:PA X (e::es) t)
  (nN:attributeBase o name X.env (eval o X.env)=eval o X.env:=by rfl)
  (xG:((backTo dW (starEach (e::es) X.env)).all (fun x=>!x.1)&&(backToKw dW (keywordEach [] X.env)).all (fun x=>x.1.isSome)
   && decide ((e::es).length+([]:List Keyword).length+(if ([]:List Keyword).isEmpty then 0 else 1)<30))=true:=by rfl)
  (qv:(gG.endLine==dW.line)=true:=by rfl) (hs:starEach (e::es) X.env=(false,eval e X.env)::starEach es X.env:=by rfl) (l7:(backTo dW (starEach es X.env)).any (·.1)=false:=by rfl) :
  PE X (.Call (.Attribute o name gG) (e::es) [] dW) (Sv r to t):=D_ (ty:=fun x H1=>∃l ys,x=.ref l/\H1 l=some (.lst ys)) (fun _ _ h=>D9 h) F.plainAttrs_list slot Dx hm ho ha nN xG qv hs l7
theorem OK(slot:Slot "str" name id)(Dx:typeOf (.builtin id)=pure (.type "method_descriptor"))(hm:Hu X id r)(ho:PE X o to)(ha:PA X (e::es) t)
  (nN:attributeBase o name X.env (eval o X.env)=eval o X.env:=by rfl)
  (xG:((backTo dW (starEach (e::es) X.env)).all (fun x=>!x.1)&&(backToKw dW (keywordEach [] X.env)).all (fun x=>x.1.isSome)
   && decide ((e::es).length+([]:List Keyword).length+(if ([]:List Keyword).isEmpty then 0 else 1)<30))=true:=by rfl)
  (qv:(gG.endLine==dW.line)=true:=by rfl) (hs:starEach (e::es) X.env=(false,eval e X.env)::starEach es X.env:=by rfl) (l7:(backTo dW (starEach es X.env)).any (·.1)=false:=by rfl) :
  PE X (.Call (.Attribute o name gG) (e::es) [] dW) (Sw r to t):=D_ (ty:=fun x H1=>∃l,x=.str (tx l)) (fun _ _ h=>Ij h) F.plainAttrs_str slot Dx hm ho ha nN xG qv hs l7
end
section
variable{X:Cx}{e:Expr}{es:List Expr}{te:TE}{t:TA}{pos:Pos}
def OL(t:TA):TE:=fun σ H Q=>t σ H fun xs H1=>xs.length<=sizeLine/\∀p H2,H1 p=none->H2=eS H1 p (.tup xs)->Q (.ref p) H2
def OM(t:TA):TE:=fun σ H Q=>t σ H fun xs H1=>xs.length<=sizeLine/\∀p H2,H1 p=none->H2=eS H1 p (.lst xs)->Q (.ref p) H2
theorem Bs{x1}(h:PA X es t):PE X (.Tuple es x1 pos) (OL t):=by
 intro pins s σ H Q I hq
 refine wpAny_Tuple_spliced (gs (h pos pins s σ H _ I hq) fun us s1 ⟨xs,H1,I1,r,z,q⟩=>⟨by rw[<- r.length];exact z,?_⟩)
 have hf:H1 s1.heap.objs.size=none:=I1.hok.fresh (ay _)
 refine⟨.ref s1.heap.objs.size,eS H1 s1.heap.objs.size (.tup xs),I1.laid (t':=s1.toks) (fun b u e=>ar _ e) (ay _) ?_,rfl,q _ _ hf rfl⟩
 exact⟨z,us,r,⟨_,aR _ rfl,rfl,_,rfl⟩⟩
theorem Ik(h:PA X es t):PE X (.List es pos) (OM t):=by
 intro pins s σ H Q I hq
 refine wpAny_List_spliced (gs (h pos pins s σ H _ I hq) fun us s1 ⟨xs,H1,I1,r,z,q⟩=>⟨by rw[<- r.length];exact z,?_⟩)
 have hf:H1 s1.heap.objs.size=none:=I1.hok.fresh (ay _)
 refine⟨.ref s1.heap.objs.size,eS H1 s1.heap.objs.size (.lst xs),I1.laid (t':=s1.toks) (fun b u e=>ar _ e) (ay _) ?_,rfl,q _ _ hf rfl⟩
 exact⟨z,us,0,r,aR _ rfl⟩
theorem Hu.imp{id:String}{r r':V->List V->Hp->VK->Prop}(h:Hu X id r)(i:∀x xs H Q,r' x xs H Q->r x xs H Q):Hu X id r':=fun pins s σ H x xs v us Q I rx rv q=>h pins s σ H x xs v us Q I rx rv (i _ _ _ _ q)
theorem gZ.imp{f:Value}{r r':List V->Hp->VK->Prop}(h:gZ X f r)(i:∀xs H Q,r' xs H Q->r xs H Q):gZ X f r':=fun pins s σ H xs us Q I rv q=>h pins s σ H xs us Q I rv (i _ _ _ q)
theorem lD.imp{f:Value->Value->Sem Value}{r r':R2}(h:lD X f r)(i:∀x y H Q,r' x y H Q->r x y H Q):lD X f r':=fun pins s σ H x y v u Q I rx ry q=>h pins s σ H x y v u Q I rx ry (i _ _ _ _ q)
def Ea:V->List V->Hp->VK->Prop:=fun x vs H Q=>∃l xs y,x=.ref l/\vs=[y]/\H l=some (.lst xs)/\xs.length<sizeLine/\∀H2,H2=eS H l (.lst (xs++[y]))->Q .non H2
theorem z8:Hu X "list.append" Ea:=Hu.imp (r:=Bm) CA fun _ _ _ _ ⟨l,xs,y,a,b,c,d,q⟩=>⟨l,xs,y,a,b,c,d,q _ rfl⟩
def LN:V->V->V->Hp->(Hp->Prop)->Prop:=fun o i v H Q=>∃p xs k j,o=.ref p/\i=.int k/\H p=some (.lst xs)/\Bh xs.length k=some j/\∀H2,H2=eS H p (.lst (xs.set j v))->Q H2
theorem CN:Cn X LN:=fun pins s σ H o i v ov iv u Q I r1 r2 r3 q=>by
 obtain⟨p,xs,k,j,a,b,c,d,q⟩:=q
 exact DZ pins s σ H o i v ov iv u Q I r1 r2 r3 ⟨p,xs,k,j,a,b,c,d,q _ rfl⟩
def Eb(K:Frag):List V->Hp->VK->Prop:=fun xs H Q=>∃p ys,xs=[.ref p]/\rE K H p ys/\∀l H2,H l=none->H2=eS H l (.tup ys)->Q (.ref l) H2
theorem yb:gZ X (.type "tuple") (Eb X.K):=gZ.imp uM fun _ _ _ ⟨p,ys,a,b,q⟩=>⟨p,ys,a,.inl ⟨b,fun l hl=>q l _ hl rfl⟩⟩
def Il(K:Frag):List V->Hp->VK->Prop:=fun xs H Q=>∃p ys,xs=[.ref p]/\(rE K H p ys\/fS K H p ys)/\∀l H2,H l=none->H2=eS H l (.lst ys)->Q (.ref l) H2
theorem sX:gZ X (.type "list") (Il X.K):=gZ.imp wc fun _ _ _ ⟨p,ys,a,b,q⟩=>⟨p,ys,a,b,fun l hl=>q l _ hl rfl⟩
def ON:R2:=fun x y H Q=>∃l b xs zs,x=.ref l/\y=.ref b/\H l=some (.lst xs)/\H b=some (.lst zs)/\xs.length+zs.length<=sizeLine/\∀p H2,H p=none->H2=eS H p (.lst (xs++zs))->Q (.ref p) H2
theorem Im:lD X (binaryOp .Add) ON:=lD.imp LB fun _ _ _ _ ⟨l,b,xs,zs,h1,h2,h3,h4,h5,q⟩=>⟨l,b,xs,zs,h1,h2,h3,h4,h5,fun p hp=>q p _ hp rfl⟩
end
def Ec(T:String):Prop:=T="tuple"\/T="bool"\/T="int"\/T="str"
end L2
namespace L2
end L2
namespace L2
open PySem PySem.Spec PyProof.Rows
structure QE(X:Cx)(e:Expr)(t:TE):Prop where
 h:PE X e t
structure QA(X:Cx)(es:List Expr)(t:TA):Prop where
 h:PA X es t
structure QS(X:Cx)(s:Stmt)(t:TS):Prop where
 h:PS X s t
structure QG(X:Cx)(e:Expr)(t:TG):Prop where
 h:PG X e t
structure QI(X:Cx)(tg it:Expr)(t:TI):Prop where
 h:PI X tg it t
structure QP(X:Cx)(es:List Expr)(t:TT):Prop where
 h:Ic X es t
structure R9(X:Cx)(f:Value->Value->Sem Value)(r:R2):Prop where
 h:lD X f r
structure OO(X:Cx)(f:Value)(r:List V->Hp->VK->Prop):Prop where
 h:gZ X f r
section
variable{X:Cx}{a b c e o:Expr}{es:List Expr}{ta tb tc te to:TE}{t u:TA}{pos p p2 gG dW:Pos}{x name:Str}{j:Nat}{tA Qz:TT}{fz:List Expr}
theorem Bt:R9 X (binaryOp .LShift) (rI Li fun i j=>.int (i*2^j.toNat)):=⟨DS⟩
variable{st:Stmt}{sr:List Stmt}{ts us:TS}{g:TG}
variable{tg:Expr}
end
section
variable{X:Cx}{tg iter c:Expr}{body:List Stmt}{wi:TI}{g:TG}{tb:TS}{pos:Pos}{tA:TT}
end
def gu(env:Env):List (Str×NameKind)->List (Str×Addr)->List (Str×Addr)
 |[],cs=>cs
 |(n,k)::r,cs=>gu env r (if k==.free then(n,(env.cells.lookup n).getD 0)::cs else cs)
theorem Bu{scope:Scope}{env:Env}(h:∀x∈scope.names,x.2=.free->∃c,env.cells.lookup x.1=some c):closureFor scope env=pure (gu env scope.names []):=by
 unfold closureFor
 have key:∀(ns:List (Str×NameKind)) (cs:List (Str×Addr)),(∀x∈ns,x.2=.free->∃c,env.cells.lookup x.1=some c) ->
   (forIn ns cs fun(x:Str×NameKind) (r:List (Str×Addr))=>if (x.2==NameKind.free)=true then(do let a <- cellOf env x.1;pure (ForInStep.yield ((x.1,a)::r)))else(pure (ForInStep.yield r):Sem _))=pure (gu env ns cs):=by
  intro ns
  induction ns with
  |nil=>intro cs _;rfl
  |cons y r ih=>
   intro cs hc
   obtain⟨n,k⟩:=y
   rw[List.forIn_cons]
   have ihr:=fun cs=>ih cs fun x hx=>hc x (cv _ hx)
   by_cases hk:(k==NameKind.free)=true
   ·obtain⟨c,e⟩:=hc (n,k) dA (oD hk)
    have e2:cellOf env n=pure c:=by unfold cellOf;rw[e]
    show((if (k==NameKind.free)=true then _ else _) >>= _)=pure (gu env r (if (k==NameKind.free)=true then _ else _))
    rw[aB hk,aB hk,e2]
    simp only[pure_bind]
    have e3:(env.cells.lookup n).getD 0=c:=by rw[show env.cells.lookup n=some c from e];rfl
    rw[e3]
    exact ihr _
   ·show((if (k==NameKind.free)=true then _ else _) >>= _)=pure (gu env r (if (k==NameKind.free)=true then _ else _))
    rw[aE hk,aE hk]
    simp only[pure_bind]
    exact ihr _
 have:=key scope.names [] h
 dsimp only
 rw[this];simp only[pure_bind]
theorem nZ{env:Env}:∀(ns:List (Str×NameKind)) (cs:List (Str×Addr)),(∀x∈ns,x.2=.free->∃c,env.cells.lookup x.1=some c)->(∀y∈cs,env.cells.lookup y.1=some y.2)->∀y∈gu env ns cs,env.cells.lookup y.1=some y.2
 |[],cs,_,h=>h
 |(n,k)::r,cs,hf,h=>by
  refine nZ r _ (fun x hx=>hf x (cv _ hx)) ?_
  by_cases hk:(k==NameKind.free)=true
  ·rw[aB hk]
   intro y hy
   rcases a8.mp hy with rfl|hy
   ·obtain⟨c,e⟩:=hf (n,k) dA (oD hk)
    show env.cells.lookup n=some ((env.cells.lookup n).getD 0)
    rw[show env.cells.lookup n=some c from e];rfl
   ·exact h y hy
  ·rw[aE hk];exact h
theorem sY{env:Env}:∀(ns:List (Str×NameKind)) (cs:List (Str×Addr)) (y:Str×Addr),y∈cs->y∈gu env ns cs
 |[],_,_,h=>h
 |(n,k)::r,cs,y,h=>by
  refine sY r _ y ?_
  split
  ·exact cv _ h
  ·exact h
theorem lG{env:Env}:∀(ns:List (Str×NameKind)) (cs:List (Str×Addr)) (x:Str),(x,NameKind.free)∈ns->∃c,(x,c)∈gu env ns cs
 |[],_,_,h=>by simp at h
 |(n,k)::r,cs,x,h=>by
  rcases a8.mp h with e|h
  ·obtain⟨e1,e2⟩:=Prod.mk.inj e
   subst e1;subst e2
   exact⟨_,sY r _ (x,_) (by rw[aB (by rfl:(NameKind.free==NameKind.free)=true)];exact dA)⟩
  ·exact lG r _ x h
theorem dD{β:Type}:∀{l:List (Str×β)} {x:Str} {b:β},l.lookup x=some b->(x,b)∈l
 |[],_,_,h=>by simp at h
 |(y,c)::r,x,b,h=>by
  rw[jc]at h
  cases hx:x==y with
  |true=>rw[hx]at h;have:=oD hx;subst this;cases h;exact dA
  |false=>rw[hx]at h;exact cv _ (dD h)
theorem lH{β:Type}:∀{l:List (Str×β)} {x:Str} {b:β},(x,b)∈l->∃c,l.lookup x=some c
 |(y,c)::r,x,b,h=>by
  rw[jc]
  cases hx:x==y with
  |true=>exact⟨c,rfl⟩
  |false=>
   rcases a8.mp h with e|h
   ·cases e;simp at hx
   ·exact lH h
theorem kI{env:Env}{g:Str×NameKind->Bool}:∀{names:List (Str×NameKind)} {x:Str},names.lookup x=some .free ->
  (names.map fun y=>if g y then(y.1,NameKind.cell)else y).lookup x=some .cell\/(names.map fun y=>if g y then(y.1,NameKind.cell)else y).lookup x=some .free
 |[],_,h=>by simp at h
 |(n,k)::r,x,h=>by
  rw[jc]at h
  rw[aT]
  have e1:∀y:Str×NameKind,(if g y then(y.1,NameKind.cell)else y).1=y.1:=fun y=>by split<;>rfl
  have e2:∀(y:Str×NameKind) (l:List (Str×NameKind)),(y::l).lookup x=if (x==y.1)=true then some y.2 else l.lookup x:=fun y l=>by
   obtain⟨a,b⟩:=y
   rw[jc]
   cases x==a<;>rfl
  rw[e2,e1]
  cases hx:x==n with
  |true=>
   rw[hx]at h
   cases h
   rw[aB rfl]
   by_cases hg:g (n,.free)=true
   ·rw[aB hg];exact .inl rfl
   ·rw[aE hg];exact .inr rfl
  |false=>
   rw[hx]at h
   rw[aE (by exact eu)]
   exact kI (env:=env) h
def wf(dn:List (Str×NameKind))(sn:List (Str×NameKind))(nm:List Str)(cap:List (Option Nat))(N:List Str):Bool:=
 (sn.all fun x=>!(x.2==.local)||sn.lookup x.1==some .local)&&(sn.all fun y=>!(y.2==.cell))&&(sn.all fun x=>!(x.2==.free)||dn.lookup x.1==some .cell)&&(cap.length==nm.length) &&
 ((List.range cap.length).all fun i=>match cap[i]? with
  |some (some j)=>(match nm[i]?,N[j]? with
   |some x,some y=>x==y&&dn.lookup x==some .cell&&sn.lookup x==some .free
   |_,_=>false)
  |_=>true)
theorem LO{X:Cx}{oG tg iter:Expr}{m6:List Expr}{scope:Scope}{pos:Pos}{nm:List Str}{cap:List (Option Nat)}{wi:TI}{g:TG}{tc:TT}{te:TE}{m:Nat}(ia:X.calm=true)
  (l8:X.env.cells=cellsFrom m X.env.scope.names []) (h_:scope.kind=.function) (hB:wf X.env.scope.names scope.names nm cap X.N=true)
  (hi:QI X tg iter wi) (hg:∀cl C s0 H0 fp,QG (bP X nm scope cl C s0 H0 fp) tg g) (ht:∀cl C s0 H0 fp,QP (bP X nm scope cl C s0 H0 fp) m6 tc)
  (he:∀cl C s0 H0 fp,QE (bP X nm scope cl C s0 H0 fp) oG te) (hs:∀x,foldedSetIterable iter X.env x=pure x:=by intro _;rfl) :
  QE X (.ListComp oG [⟨tg,iter,m6,0⟩] scope pos) (vn cap wi g tc te):=by
 simp only[wf,cq,lw,ik,gD,cz,aS]at hB
 obtain⟨⟨⟨⟨b1,b2⟩,b3⟩,b4⟩,b5⟩:=hB
 have has:∀x∈scope.names,x.2=.free->∃c,X.env.cells.lookup x.1=some c:=fun x hx hk=>by
  rw[l8]
  rcases b3 x hx with z|z
  ·exact absurd hk z
  ·exact m8 z
 have oW:∀x c,(gu X.env scope.names []).lookup x=some c->X.env.cells.lookup x=some c:=fun x c h=>nZ scope.names [] has (by simp) (x,c) (dD h)
 have hin:∀x,(x,NameKind.free)∈scope.names->∃c,(gu X.env scope.names []).lookup x=some c:=fun x h=>let ⟨_,q⟩:=lG (env:=X.env) scope.names [] x h;lH q
 have hmap:(relabel scope X.env).names=scope.names.map fun y=>if (y.2==.free&&X.env.scope.kind==.function&&X.env.kindOf y.1==some .cell)then(y.1,NameKind.cell)else y:=by
  show scope.names.map _=_
  refine ce fun y _=>?_
  obtain⟨a,b⟩:=y
  rfl
 have fr:∀x,((relabel scope X.env).names.lookup x=some .cell\/(relabel scope X.env).names.lookup x=some .free)->(x,NameKind.free)∈scope.names:=fun x h=>by
  have h':∃k,(x,k)∈(relabel scope X.env).names/\(k=.cell\/k=.free):=by
   rcases h with h|h
   ·exact⟨_,dD h,.inl rfl⟩
   ·exact⟨_,dD h,.inr rfl⟩
  obtain⟨k,hm,hk⟩:=h'
  rw[hmap]at hm
  obtain⟨y,hy,e⟩:=aL.mp hm
  obtain⟨a,b⟩:=y
  by_cases hb:b=.free
  ·subst hb
   have:a=x:=by split at e<;>(cases e;rfl)
   subst this;exact hy
  ·rw[aE (by simp[hb])]at e
   cases e
   rcases hk with rfl|rfl
   ·exact absurd rfl (b2 _ hy)
   ·exact absurd rfl hb
 refine⟨Bq (cl:=gu X.env scope.names []) (cap:=cap) (nm:=nm) ia (Bu has) oW h_ (fun x hx hk=>(b1 x hx).resolve_left fun z=>z hk) (fun y hy=>b2 y hy) (fun x hx=>hin x (fr x hx)) (fun i j e=>?_) b4 hi.h (fun C s0 H0 fp=>(hg _ C s0 H0 fp).h) (fun C s0 H0 fp=>(ht _ C s0 H0 fp).h) (fun C s0 H0 fp=>(he _ C s0 H0 fp).h) hs⟩
 have hi':i<cap.length:=(aa.mp e).1
 have q:=b5 i (bi.mpr hi')
 rw[e]at q
 dsimp only at q
 cases hx:nm[i]? with
 |none=>rw[hx]at q;simp at q
 |some x=>
  cases hy:X.N[j]? with
  |none=>rw[hx,hy]at q;simp at q
  |some y=>
   rw[hx,hy]at q
   simp only[cq,cz]at q
   obtain⟨⟨rfl,q1⟩,q2⟩:=q
   refine⟨x,rfl,rfl,.inr (.inl q1),(by rw[q1];decide),?_,?_⟩
   ·obtain⟨c,hc⟩:=hin x (dD q2)
    rw[hc,oW _ _ hc]
   ·rw[hmap];exact kI (env:=X.env) q2
def Io(K:Frag):List V->Hp->VK->Prop:=fun xs H Q=>∃(p:Addr) (ys:List (List Nat)),xs=[.ref p]/\rE K H p (ys.map fun l=>V.str (tx l))/\ys.length<64 /\
 ∀zs:List (List Nat),zs.Perm ys->sortedS (zs.map tx)=true->∀l H2,H l=none->H2=eS H l (.lst (zs.map fun l=>V.str (tx l)))->Q (.ref l) H2
theorem Bv(z:Str):tx z.cps.toList=z:=by cases z;rfl
theorem uN{X:Cx}:OO X (.builtin "sorted") (Io X.K):=⟨by
 intro pins s σ H xs us Q I r h
 obtain⟨p,ys,rfl,hS,h64,q⟩:=h
 obtain⟨u,rfl,ru⟩:=mC r
 cases ru
 obtain⟨bJ,rv,pl,hz⟩:=I.list hS
 have hl:=rv.length
 rw[az]at hl
 refine sorted_strs (ss:=ys.map tx) pl.isList (pj (by simpa using rv)) (by omega) fun out ss' h1 h2 h3=>?_
 obtain⟨ep,hat⟩:=sortedAll_at s.heap bJ out
 have xL:H (s.heap.objs.size+1)=none:=I.hok.fresh (kP _)
 have hmap:(ss'.map fun z=>z.cps.toList).map tx=ss':=by
  rw[bx]
  have:(tx∘fun z:Str=>z.cps.toList)=id:=funext fun z=>Bv z
  rw[this,List.map_id]
 have hperm:(ss'.map fun z=>z.cps.toList).Perm ys:=by
  have e:=h2.map fun z:Str=>z.cps.toList
  rw[bx]at e
  have:((fun z:Str=>z.cps.toList)∘tx)=id:=funext fun l=>by simp[tx]
  rw[this,List.map_id]at e
  exact e
 have hvals:cV ((ss'.map fun z=>z.cps.toList).map fun l=>V.str (tx l)) out.toList:=by
  have e:=pq h1
  rw[<- hmap,bx]at e
  exact e
 refine⟨.ref (s.heap.objs.size+1),_,I.laid (t':=s.toks) (fun b o e=>sortedAll_old e) (kP _) ?_,rfl,q _ hperm (by rw[hmap];exact h3) _ _ xL rfl⟩
 refine⟨?_,out.toList,ep,hvals,hat⟩
 rw[az,hperm.length_eq]
 exact a7 (gX h64) (by decide)⟩
theorem bt.turned2{X:Cx}{pins:List (Addr×Obj)}{σ:St}{H:Hp}{s:Shared}{h':Heap}{t':Nat}{e it:Addr}(I:bt X pins σ H s)(k:∀b o,b≠e->b≠it->s.heap.get? b=some o->h'.get? b=some o)
  (he:∃o,h'.get? e=some o) (f1:pf X pins H e) (f2:pf X pins H it):bt X pins σ H { s with heap:=h',toks:=t' }:=by
 have nit:∀b u,H b=some u->b≠e/\b≠it:=fun b u q=>⟨fun z=>(by rw[z,f1.1]at q;cases q),fun z=>(by rw[z,f2.1]at q;cases q)⟩
 have nin:∀b,b∉[e,it]->b≠e/\b≠it:=fun b h=>⟨fun z=>h (by simp[z]),fun z=>h (by simp[z])⟩
 refine I.step (g':=s.gens) (d':=s.drawn) (ch:=[e,it]) (fun b hb=>?_) (fun b o _ _ hc q _=>k b o (nin b hc).1 (nin b hc).2 q) (fun b o _ _ hc q _=>⟨o.slots,k b o (nin b hc).1 (nin b hc).2 q⟩) (fun _ _ _ _ n=>n)
  (fun b o hc q=>⟨o,k b o (nin b hc).1 (nin b hc).2 q⟩) (fun _ _ q=>q) (fun _ _ _ q=>q) (fun b ps q=>⟨#[],by rw[q];simp⟩) (fun m hm=>?_) (fun b u q=>?_) I.bare
 ·have z:b=e\/b=it:=by simpa using hb
  rcases z with rfl|rfl
  ·exact⟨f1.2.2.2.1,f1.2.1,f1.2.2.2.2.1,f1.2.2.2.2.2⟩
  ·exact⟨f2.2.2.2.1,f2.2.1,f2.2.2.2.2.1,f2.2.2.2.2.2⟩
 ·obtain⟨o,es,ep,ho,r⟩:=hm
  exact⟨o,es,ep,k _ o (Ne.symm f1.2.1) (Ne.symm f2.2.1) ho,r⟩
 ·refine(I.hok b u q).stay (fun c v hc z=>?_) (fun _ z=>z) fun _ _ z=>z
  rcases hc with y|y
  ·rw[y]at z ⊢;exact k b v (nit b u q).1 (nit b u q).2 z
  ·exact k c v (nit c _ y).1 (nit c _ y).2 z
section
variable{prog:Program}{w:World}{A:Around}{E:Value->Shared->Prop}{s:Shared}
theorem uO{it t:Addr}{i:Nat}{bJ:Array Value}{x:Value}{Q:Value->Shared->Prop}(st:s.heap.IsTupleIter it t i)(ht:s.heap.IsTuple t bJ)(hx:bJ[i]?=some x)
  (q:∀g,g.IsTupleIter it t (i+1)->Heap.SameBut it s.heap g->Q x { s with heap:=g }):wpAny (model prog w) A (Builtin.SmallTypes.nextOf (.ref it)) Q E s:=by
 obtain⟨ob,e1,e2,e3⟩:=id st
 obtain⟨ot,g1,_,nt,g3⟩:=ht
 have T:=st.typeIs
 unfold Builtin.SmallTypes.nextOf
 refine ak (cX (name:=Str.ofString "__next__") T fm (dJ fm T jS ?_ (jC _)))
 show wpAny _ _ (field (.ref it) 0 >>= _) _ _ s
 refine ak (dG e1 e3 (x:=.ref t) rfl ?_)
 dsimp only
 rw[aE (show ¬ ((Value.ref t==Value.none)=true)from eu)]
 refine ak (dG e1 e3 (x:=.int i 0) rfl ?_)
 dsimp only
 refine ak (iS g1 g3 ?_)
 simp only[a6,hx]
 refine ak (iT e1 e3 (by simp) (aJ ⟨x,rfl,aJ (q _ ?_ (eR ..))⟩))
 exact⟨_,gw _ e1 (i7 (fq e3 _)),(Obj.cls_mapFields ..).trans e2,by rw[fq e3];simp[rawInt]⟩
theorem pS{it t:Addr}{i:Nat}{bJ:Array Value}{Q:Value->Shared->Prop}(hh:A.handled=none)(st:s.heap.IsTupleIter it t i)(ht:s.heap.IsTuple t bJ)(hx:bJ[i]?=none)
  (q:∀g e,Heap.ExtBut it s.heap g->(∃o,g.get? e=some o/\o.cls=.type "StopIteration")->E (.ref e) { s with heap:=g }):wpAny (model prog w) A (Builtin.SmallTypes.nextOf (.ref it)) Q E s:=by
 obtain⟨ob,e1,e2,e3⟩:=id st
 obtain⟨ot,g1,_,nt,g3⟩:=ht
 have T:=st.typeIs
 unfold Builtin.SmallTypes.nextOf
 refine ak (cX (name:=Str.ofString "__next__") T fm (dJ fm T jS ?_ (jC _)))
 show wpAny _ _ (field (.ref it) 0 >>= _) _ _ s
 refine ak (dG e1 e3 (x:=.ref t) rfl ?_)
 dsimp only
 rw[aE (show ¬ ((Value.ref t==Value.none)=true)from eu)]
 refine ak (dG e1 e3 (x:=.int i 0) rfl ?_)
 dsimp only
 refine ak (iS g1 g3 ?_)
 simp only[a6,hx]
 refine ak (pH (ak (iT e1 e3 (by simp) (ak ?_))))
 simp only[newExc,newTuple]
 refine ak (cw (ak (m:=firstArgMember _ _) (gb (a:=Value.none) (by first|rfl|(simp only[firstArgMember];rfl)) (cw ?_ (by size_fits)))) (by size_fits))
 simp only[raiseNew]
 refine ak (wpAny_handled ?_)
 rw[show A.in1.handled=none from hh]
 exact ak (aJ (wpAny_throw (q _ _ (((eR ..).extBut.push _).push _) ⟨_,aR _ rfl,rfl⟩)))
end
theorem Ed{prog:Program}{w:World}{A:Around}(hh:A.handled=none)(it t:Addr)(oz:t≠it)(bJ:Array Value) :
  Draws prog w A it [it,t] bJ.size (fun i v=>bJ[i]?=some v) (fun i h=>h.IsTupleIter it t i/\h.IsTuple t bJ) where
 live:=fun _ _ st=>let ⟨o,e,_⟩:=st.1;⟨o,e⟩
 frame:=fun _ h h' st k=>⟨st.1.at fun o e=>k it (by simp) o e,let ⟨o,e,r⟩:=st.2;⟨o,k t (by simp) o e,r⟩⟩
 item:=fun i s Q E hi st q=>uO st.1 st.2 (x:=bJ[i]) (by simp[hi]) fun g a b=>q _ g s.toks (by simp[hi]) ⟨a,st.2.extBut b.extBut oz⟩ b
 done:=fun s Q E st q=>pS hh st.1 st.2 (by simp) q
open AutoSeq1 (wpAny_loadPart')
def R_(K:Frag)(a:Addr):It:=
 ⟨fun i H=>∃xs x,fS K H a xs/\xs[i]?=some x,fun i H v H'=>∃p,H p=none/\v=.ref p/\∀xs x,fS K H a xs->xs[i]?=some x->H'=eS H p (.tup [.int i,x]),fun i H=>∃xs,fS K H a xs/\xs.length<=i⟩
theorem CO{P:Program}{w:World}{K:Frag}{G_:List Expr}{kk:Nat}{pos:Pos}(a it e:Addr)(R0:e≠it) :
  zP P w K (.Tuple G_ kk pos) (R_ K a) [e,it] e (fun i h=>(∃old,IsEnum h e it i old)/\h.IsTupleIter it a i) where
 mem:=by simp
 obj:=fun i h st b hb=>by
  have z:b=e\/b=it:=by simpa using hb
  rcases z with rfl|rfl
  ·obtain⟨old,q⟩:=st.1
   exact⟨_,q,fun v z=>by cases z⟩
  ·obtain⟨o,q,c,d⟩:=st.2
   exact⟨o,q,fun v z=>by rw[d]at z;cases z⟩
 keep:=fun i h h' st k=>⟨let ⟨old,q⟩:=st.1;⟨old,k e (by simp) _ q⟩,st.2.at fun o q=>k it (by simp) o q⟩
 item:=by
  intro X hP hw hK hc i pins s σ H E I hf st hg
  subst hP hw hK
  obtain⟨xs,x,hq,hx⟩:=hg
  obtain⟨bJ,rv,p,hz⟩:=I.tuple hq
  obtain⟨u,hu,ru⟩:=rv.get hx
  obtain⟨⟨old,he⟩,xQ⟩:=st
  have hT:s.heap.IsTuple a bJ.toArray:=p
  obtain⟨oa,ha,hca,_⟩:=id hT
  obtain⟨oi,hi,hci,_⟩:=id xQ
  have nai:a≠it:=fun z=>by
   rw[z,hi]at ha;cases ha
   rw[hci]at hca;injection hca with z;exact absurd z (by decide)
  have nae:a≠e:=fun z=>by
   rw[z,he]at ha;cases ha
   injection hca with z;exact absurd z (by decide)
  have kE:i<bJ.toArray.size:=by
   have:=(aa.mp hu).1
   simpa using this
  refine wpAny_pyNext_enum_itemD (Ed (A:=X.A.in1) (I.ok.hd hc) it a nai bJ.toArray) he ⟨xQ,hT⟩ kE R0 (by simp[R0,Ne.symm nae]) fun x' g tk hx' ho' bI htup hsz hk=>⟨_,rfl,?_⟩
  have ex:x'=u:=by
   have e1:bJ[i]?=some x':=by simpa using hx'
   rw[hu]at e1;exact(aZ e1).symm
  subst ex
  refine wpAny_letOwnedTupleGo_enum ho' fun g2 JG xP=>?_
  have xL:H s.heap.objs.size=none:=I.hok.fresh (ay _)
  have I1:bt X pins σ (eS H s.heap.objs.size (.tup [.int i,x])) { s with heap:=s.heap.push { cls:=.type "tuple",data:=.seq #[.int i tk,x'] },toks:=tk+1 }:=I.laid (fun b o q=>ar _ q) (ay _)
   ⟨by show 2<=sizeLine;decide,[.int i tk,x'],.cons ⟨tk,rfl⟩ (.cons ru .nil),⟨_,aR _ rfl,rfl,_,rfl⟩⟩
  have nf:∀b∈[e,it],b≠s.heap.objs.size:=fun b hb=>by
   have z:b=e\/b=it:=by simpa using hb
   rcases z with rfl|rfl
   ·exact be (aI he)
   ·exact be (aI hi)
  have fp:∀b∈[e,it],pf X pins (eS H s.heap.objs.size (.tup [.int i,x])) b:=fun b hb=>by
   obtain⟨f0,f⟩:=hf b hb
   exact⟨by rw[bX (nf b hb)];exact f0,f⟩
  have he2':IsEnum g2 e it ((i:Int)+1) x':=JG
  have I2:bt X pins σ (eS H s.heap.objs.size (.tup [.int i,x])) { s with heap:=g2,toks:=tk+1 }:=I1.turned2 (t':=tk+1) (fun b o hbe hbi q=>?_) ⟨_,he2'⟩ (fp e (by simp)) (fp it (by simp))
  ·refine⟨.ref s.heap.objs.size,_,I2,rfl,⟨_,xL,rfl,fun ys y hy hy'=>?_⟩,⟨⟨x',by simpa using he2'⟩,bI.1.extBut xP.extBut (Ne.symm R0)⟩,fun b hb=>(fp b hb).1⟩
   have e1:=I.tuple_inj hy hq
   subst e1
   rw[hx]at hy';cases hy';rfl
  ·have q':(s.heap.push { cls:=.type "tuple",data:=.seq #[.int i tk,x'] }).get? b=some o:=q
   refine xP.extBut b o hbe ?_
   by_cases hb:b=s.heap.objs.size
   ·subst hb
    have e1:=aR s.heap (o:={ cls:=.type "tuple",data:=.seq #[.int i tk,x'] }) rfl
    rw[e1]at q';cases q'
    exact htup
   ·rw[Heap.get?_push_ne _ _ _ hb]at q'
    exact hk b o hbe hbi q'
 done:=by
  intro X hP hw hK hc i pins s σ H E I hf st hg
  subst hP hw hK
  obtain⟨xs,hq,hx⟩:=hg
  obtain⟨bJ,rv,p,hz⟩:=I.tuple hq
  obtain⟨⟨old,he⟩,xQ⟩:=st
  have hT:s.heap.IsTuple a bJ.toArray:=p
  have hl:=rv.length
  have hT':Shared.TypeIs s (.ref e) "enumerate":=⟨_,he,rfl⟩
  unfold pyNext
  refine ak (k6 (cX (name:=Str.ofString "__next__") hT' mX (dJ mX hT' F.entry_enumerate_next ?_ (F.args_enumerate_next_1 _))))
  show wpAny _ _ (field (.ref e) 2 >>= _) _ _ _
  refine ak (dG he rfl (x:=.ref it) rfl (ak (pS (show X.A.in1.handled=none from I.ok.hd hc) xQ hT (by simp;omega) fun g y hx' hy=>?_)))
  obtain⟨o,ho,oW⟩:=hy
  refine ak (lx (T:="StopIteration") (b:=true) ⟨o,ho,oW⟩ isSubtype_stop (aJ ⟨rfl,?_⟩))
  obtain⟨f0,f1,f2,f3,f4,f5⟩:=hf it (by simp)
  exact I.turned (t':=s.toks) (fun b o hb q=>hx' b o hb q) f0 f1 f3 f4 f5
 self:=fun A i s Q E st h=>let ⟨_,q⟩:=st.1;wpAny_pyIter_enum q h
open AutoSeq1 (wpAny_loadPart')
abbrev pU(t:Addr):Obj:={ cls:=.type "tuple_iterator",data:=.fields #[.ref t,.int 0 0] }
abbrev z9(it:Addr):Obj:={ cls:=.type "enumerate",data:=.fields #[.none,.bool false,.ref it,rawInt 0,.none,.none] }
theorem LP(t:Addr)(bJ:Array Value)(n:Nat)(dc:Option Addr)(sl:Array (Option Value)) :
  Meets (Builtin.«enumerate.__new__» ⟨[.type "enumerate",.ref t],[]⟩) (fun _ R s=>s.heap.get? t=some { cls:=.type "tuple",dict:=dc,data:=.seq bJ n,slots:=sl } /\
   R (.ok (.ret (.ref (s.heap.push (pU t)).objs.size))) { s with heap:=(s.heap.push (pU t)).push (z9 s.heap.objs.size) }):=
 .of_wp fun prog w A R s h=>by
  obtain⟨hp,g,d,tk,os⟩:=s
  obtain⟨ht,h⟩:=h
  have sb:=sub_enumerate
  have hT:Heap.IsTuple (Shared.heap ⟨hp,g,d,tk,os⟩) t bJ:=⟨_,ht,rfl,n,rfl⟩
  wp_walk using cE ht
  refine wpAny_stack_any fun st=>aJ ?_
  split
  ·rename_i c _ _ _ _ _
   cases(c==Value.type "enumerate")<;>(wp_walk using cE ht,ko hT;exact⟨_,rfl,h⟩)
  ·wp_walk using cE ht,ko hT
   exact⟨_,rfl,h⟩
section
variable{prog:Program}{w:World}{A:Around}{E:Value->Shared->Prop}{s:Shared}
theorem uP{t:Addr}{bJ:Array Value}{Q:Value->Shared->Prop}(hT:s.heap.IsTuple t bJ)
  (q:∀g,IsEnum g (s.heap.objs.size+1) s.heap.objs.size 0 .none->g.IsTupleIter s.heap.objs.size t 0->(∀b o,s.heap.get? b=some o->g.get? b=some o)->Q (.ref (s.heap.objs.size+1)) { s with heap:=g }) :
  wpAny (model prog w) A (call (.type "enumerate") [.ref t]) Q E s:=by
 obtain⟨⟨c,dc,dt,sl⟩,ht,hc,n,hd⟩:=hT
 obtain rfl:c=.type "tuple":=hc
 obtain rfl:dt=.seq bJ n:=hd
 refine callType_new F.called_enumerate (by decide) (F.typeCall_enumerate_1 _) (F.newCall_enumerate_1 _) (fun ob=>F.args_object_init_2 ob _) F.entry_enumerate_new (LP t bJ n dc sl) ⟨ht,?_⟩
 have z:(s.heap.push (pU t)).objs.size=s.heap.objs.size+1:=iR ..
 show _/\_
 rw[z]
 have e1:IsEnum ((s.heap.push (pU t)).push (z9 s.heap.objs.size)) (s.heap.objs.size+1) s.heap.objs.size 0 .none:=by
  have y:=aR (s.heap.push (pU t)) (o:=z9 s.heap.objs.size) rfl
  rw[z]at y;exact y
 exact⟨⟨_,e1,rfl⟩,q _ e1 ⟨_,ar _ (aR _ rfl),rfl,rfl⟩ fun b o y=>ar _ (ar _ y)⟩
end
section
variable{X:Cx}
def Ry(K:Frag)(ta:TA):TI:=fun σ H R=>ta σ H fun vs H1=>∃a,vs=[.ref a]/\(∃xs,fS K H1 a xs)/\R (R_ K a) H1
theorem Ee{a:Expr}{ta:TA}{p pos tp:Pos}{G_:List Expr}{kk:Nat}(hm:X.mg "enumerate"=none)(ha:QA X [a] ta)(hg:Gl X "enumerate":=by rfl)(hs:starEach [a] X.env=[(false,eval a X.env)]:=by rfl) :
  QI X (.Tuple G_ kk tp) (.Call (.Name "enumerate" p) [a] [] pos) (Ry X.K ta):=⟨by
 intro pins s σ H R I h
 refine Call_ (lE I hg hm boot_enumerate (cW (gs (ha.h pos pins s σ H _ I h) fun us s1 ⟨vs,H1,I1,r1,q1⟩=>?_) hs rfl))
 obtain⟨t,e,⟨xs,hq⟩,q⟩:=q1
 subst e
 obtain⟨u,rfl,ru⟩:=mC r1
 cases ru
 obtain⟨bJ,rv,pt,hz⟩:=I1.tuple hq
 refine uP (show s1.heap.IsTuple t bJ.toArray from pt) fun g e1 e2 kp=>?_
 refine wpAny_pyIter_enum e1 ?_
 refine⟨s1.heap.objs.size+1,[s1.heap.objs.size+1,s1.heap.objs.size],_,_,H1,rfl,I1.kept (t':=s1.toks) kp,CO t _ _ (Nat.succ_ne_self _),⟨⟨_,e1⟩,e2⟩,fun b hb=>?_,q⟩
 have z:b=s1.heap.objs.size+1\/b=s1.heap.objs.size:=by simpa using hb
 rcases z with rfl|rfl
 ·exact I1.fpOk (kP _) (I1.hok.fresh (kP _))
 ·exact I1.fpOk (ay _) (I1.hok.fresh (ay _))⟩
end
section
variable{cap:List (Option Nat)}{g:TG}{tc:TT}{te:TE}{σ:St}{H1:Hp}{Q:VK}{n:Nat}
end
section
variable{prog:Program}{w:World}
variable{A:Around}{E:Value->Shared->Prop}{s:Shared}
end
section
variable{prog:Program}{w:World}{A:Around}{R:Result->Shared->Prop}{I:Addr}{fp wr:List Addr}{n:Nat}{P:Nat->Value->Prop}{St:Nat->Heap->Prop}
end
section
variable{prog:Program}{w:World}{A:Around}{E:Value->Shared->Prop}{s:Shared}
end
section
variable{M:Model}{A:Around}{E:Value->Shared->Prop}
end
section
variable{prog:Program}{w:World}{A:Around}{E:Value->Shared->Prop}{s:Shared}
end
section
variable{prog:Program}{w:World}{A:Around}{E:Value->Shared->Prop}{s:Shared}
end
section
variable{prog:Program}{w:World}{A:Around}{E:Value->Shared->Prop}{s:Shared}
end
section
variable{prog:Program}{w:World}{A:Around}{E:Value->Shared->Prop}{s:Shared}
end
section
variable{prog:Program}{w:World}{A:Around}{E:Value->Shared->Prop}{s:Shared}
end
section
variable{prog:Program}{w:World}{A:Around}{E:Value->Shared->Prop}{s:Shared}
end
theorem bt.kept2{X:Cx}{pins:List (Addr×Obj)}{σ:St}{H:Hp}{s:Shared}{h':Heap}{t':Nat}{d':Drawn}(I:bt X pins σ H s)(k:∀b o,s.heap.get? b=some o->h'.get? b=some o):bt X pins σ H { s with heap:=h',drawn:=d',toks:=t' }:=
 I.step (g':=s.gens) (ch:=[]) (fun _ z=>nomatch z) (fun b o _ _ _ e _=>k b o e) (fun b o _ _ _ e _=>⟨o.slots,k b o e⟩) (fun _ _ _ _ n=>n) (fun b o _ e=>⟨o,k b o e⟩) (fun _ _ e=>e) (fun _ _ _ e=>e) (fun b ps e=>⟨#[],by rw[e];simp⟩)
  (fun m hm=>let ⟨o,es,ep,ho,r⟩:=hm;⟨o,es,ep,k _ o ho,r⟩) (I.hok.kept k) I.bare
theorem jl:Slot "reversed" "__next__" "reversed.__next__":=.of (owner:="reversed") (n:="__next__") (by rw[jD,gy];kernel_rfl) (by decide +kernel) (by decide +kernel) (by decide +kernel) (by first|exact .inl (by decide +kernel)|exact .inr (by decide +kernel)) (by rw[kx];kernel_rfl)
theorem rH:Slot "reversed" "__iter__" "reversed.__iter__":=.of (owner:="reversed") (n:="__iter__") (by rw[jD,gy];kernel_rfl) (by decide +kernel) (by decide +kernel) (by decide +kernel) (by first|exact .inl (by decide +kernel)|exact .inr (by decide +kernel)) (by rw[kx];kernel_rfl)
theorem yc:Slot "reversed" "__init__" "object.__init__":=.of (owner:="object") (n:="__init__") (by rw[jD,gy];kernel_rfl) (by decide +kernel) (by decide +kernel) (by decide +kernel) (by first|exact .inl (by decide +kernel)|exact .inr (by decide +kernel)) (by rw[kx];kernel_rfl)
theorem rJ:entryFor table "reversed.__next__"=some Builtin.«reversed.__next__»:=entryFor_of_tree (by kernel_rfl)
theorem yd:entryFor table "reversed.__iter__"=some Builtin.«dict_keyiterator.__iter__»:=entryFor_alias (id':="dict_keyiterator.__iter__") (by kernel_rfl) (by first|rfl|decide +kernel|(unfold String.splitOn;simp +decide [String.splitOnAux])) (by decide +kernel) (by kernel_rfl)
theorem rK(a:Value):argsOk "reversed.__next__" ⟨[a],[]⟩:=by unfold argsOk;kernel_rfl
theorem ye(a:Value):argsOk "reversed.__iter__" ⟨[a],[]⟩:=by unfold argsOk;kernel_rfl
theorem z_:TypeCalled "reversed" "reversed.__new__" "object.__init__":=⟨by decide +kernel,PySem.F.create_reversed,⟨_,_,PySem.F.mro_reversed⟩,PySem.F.made_reversed,PySem.F.plain_reversed_new,PySem.F.sub_reversed_self,yc⟩
theorem Aa:typeLookup (.type "str") "__reversed__"=pure none:=by rw[jD,gy];kernel_rfl
abbrev JN(x:Str)(t:Tok)(i:Int):Obj:={ cls:=.type "reversed",data:=.fields #[.str x t,rawInt i] }
def jW(h:Heap)(it:Addr)(x:Str)(t:Tok)(i:Int):Prop:=∃o,h.get? it=some o/\o.cls=.type "reversed"/\o.data=.fields #[.str x t,rawInt i]
theorem Ip(x:Str)(t:Tok)(hx:¬ (x.length:Int)≥2^63) :
  Meets (Builtin.«reversed.__new__» ⟨[.type "reversed",.str x t],[]⟩) (fun _ R s=>∀tk,R (.ok (.ret (.ref s.heap.objs.size))) { s with heap:=s.heap.push (JN x t ((x.length:Int)-1)),toks:=tk }):=
 .of_wp fun prog w A R s h=>by
  unfold Builtin.«reversed.__new__»
  refine ak (gb (newClass_reversed _) ?_)
  try dsimp only
  refine ak (gb (a:=()) (by first|rfl|kernel_rfl) (ak (gb (a:=()) (by first|rfl|kernel_rfl) ?_)))
  try dsimp only
  refine ak (jB (ja _ _ _) Aa ?_)
  show wpAny _ _ (_ >>= _) _ _ _
  refine ak ?_
  wp_delta
  refine ak (lx (T:="str") (b:=false) (ja _ _ _) (by rw[kx];kernel_rfl) ?_)
  try dsimp only
  try rw[aE eu]
  refine ak (jB (ja _ _ _) PySem.F.slot_str_getitem.lookup ?_)
  try dsimp only
  rw[aB (by decide +kernel)]
  refine aJ ?_
  rw[aE (by decide)]
  refine ak (len_str hx (ak (gb (a:=some (x.length:Int)) rfl ?_)))
  try dsimp only
  unfold Builtin.SmallTypes.newRecord
  try dsimp only
  exact ak (cw (aJ ⟨_,rfl,h _⟩))
theorem jW.typeIs{s:Shared}{a:Addr}{x:Str}{t:Tok}{i:Int}(z:jW s.heap a x t i):s.TypeIs (.ref a) "reversed":=let ⟨o,ho,hc,_⟩:=z;⟨o,ho,hc⟩
theorem jW.keep{h h':Heap}{a:Addr}{x:Str}{t:Tok}{i:Int}(z:jW h a x t i)(e:∀o,h.get? a=some o->h'.get? a=some o):jW h' a x t i:=let ⟨o,ho,r⟩:=z;⟨o,e _ ho,r⟩
section
variable{prog:Program}{w:World}{A:Around}{E:Value->Shared->Prop}{s:Shared}
theorem Ef{x:Str}{t:Tok}{Q:Value->Shared->Prop}(hx:¬ (x.length:Int)≥2^63)(q:∀tk,Q (.ref s.heap.objs.size) { s with heap:=s.heap.push (JN x t ((x.length:Int)-1)),toks:=tk }) :
  wpAny (model prog w) A (call (.type "reversed") [.str x t]) Q E s:=by
 refine callType_new z_ (by decide) (PySem.F.typeCall_reversed_1 _) (PySem.F.newCall_reversed_1 _) (fun ob=>PySem.F.args_object_init_2 ob _) PySem.F.entry_reversed_new (Ip x t hx) fun tk=>?_
 exact⟨⟨_,aR _ rfl,rfl⟩,q tk⟩
theorem Eg{it:Addr}{x:Str}{t:Tok}{i c:Nat}{Q:Option Value->Shared->Prop}(xQ:jW s.heap it x t (i:Int))(hc:x.cps[i]?=some c)(hi:(i:Int)<2^63)
  (q:∀g tk u,jW g it x t ((i:Int)-1)->Heap.SameBut it s.heap g->Q (some (.str ⟨#[c]⟩ u)) { s with heap:=g,toks:=tk }):wpAny (model prog w) A (pyNext (.ref it)) Q E s:=by
 obtain⟨o,ho,oW,hd⟩:=id xQ
 have T:=xQ.typeIs
 unfold pyNext
 refine ak (k6 (cX (name:=Str.ofString "__next__") T jl (dJ jl T rJ ?_ (rK _))))
 unfold Builtin.«reversed.__next__»
 refine ak (gb (a:=(Value.ref it,[])) rfl ?_)
 try dsimp only
 refine ak (dG ho hd (x:=.str x t) rfl (ak (dG ho hd (x:=rawInt (i:Int)) rfl ?_)))
 show wpAny _ _ (if (i:Int)<0 then _ else _) _ _ s
 rw[aE (by omega)]
 refine ak (jB (ja _ _ _) PySem.F.slot_str_getitem.lookup ?_)
 rw[aE (by simp)]
 have kE:i<x.cps.size:=(kA.mp hc).1
 refine ak (wpAny_mkInt (ak (k6 (getItem_str (c:=c) (by simp;omega) ?_ ?_))))
 ·rw[show seqIndex? (i:Int) x.length=some i from by rw[PySem.StrLaws.seqIndex_nonneg (by omega) (by have:x.length=x.cps.size:=rfl;omega)];simp]
  exact hc
 try dsimp only
 refine ak (dG ho hd (x:=rawInt (i:Int)) rfl ?_)
 show wpAny _ _ (setField (.ref it) 1 (rawInt ((i:Int)-1)) >>= fun _=>ret _) _ _ _
 refine ak (iT ho hd (by simp) (aJ ⟨_,rfl,aJ (q _ _ _ ?_ (eR ..))⟩))
 exact⟨_,gw _ ho (i7 (fq hd _)),(Obj.cls_mapFields ..).trans oW,by rw[fq hd];simp⟩
theorem Iq{it:Addr}{x:Str}{t:Tok}{Q:Option Value->Shared->Prop}(hh:A.handled=none)(xQ:jW s.heap it x t (-1))(q:∀g,(∀b o,b≠it->s.heap.get? b=some o->g.get? b=some o)->Q none { s with heap:=g }):wpAny (model prog w) A (pyNext (.ref it)) Q E s:=by
 obtain⟨o,ho,oW,hd⟩:=id xQ
 have T:=xQ.typeIs
 unfold pyNext
 refine ak (k6 (cX (name:=Str.ofString "__next__") T jl (dJ jl T rJ ?_ (rK _))))
 unfold Builtin.«reversed.__next__»
 refine ak (gb (a:=(Value.ref it,[])) rfl ?_)
 try dsimp only
 refine ak (dG ho hd (x:=.str x t) rfl (ak (dG ho hd (x:=rawInt (-1)) rfl ?_)))
 show wpAny _ _ (if (-1:Int)<0 then _ else _) _ _ s
 rw[aB (by decide)]
 refine ak (pH (ak ?_))
 wp_delta
 refine ak (iT ho hd (by simp) ?_)
 have ho2:=gw (Obj.mapFields fun a=>a.set! 1 (rawInt (-1))) ho (i7 (fq hd _))
 refine iT ho2 (fq hd _) (by simp) ?_
 refine ak ?_
 show wpAny _ _ (newExc (.type "StopIteration") [] >>= _) _ _ _
 refine ak ?_
 simp only[newExc,newTuple]
 refine ak (cw (ak (m:=firstArgMember _ _) (gb (a:=Value.none) (by first|rfl|(simp only[firstArgMember];rfl)) (cw ?_ (by size_fits)))) (by size_fits))
 simp only[raiseNew]
 refine ak (wpAny_handled ?_)
 rw[show A.in1.handled=none from hh]
 refine ak (aJ (wpAny_throw ?_))
 refine ak (lx (T:="StopIteration") (b:=true) ⟨_,aR _ rfl,rfl⟩ isSubtype_stop ?_)
 refine aJ (q _ fun b o hb e=>ar _ (ar _ ?_))
 exact(eW _ _ (Ne.symm hb)).trans ((eW _ _ (Ne.symm hb)).trans e)
theorem sZ{it:Addr}{x:Str}{t:Tok}{i:Int}{Q:Value->Shared->Prop}(xQ:jW s.heap it x t i)(q:Q (.ref it) s):wpAny (model prog w) A (pyIter (.ref it)) Q E s:=by
 have T:=xQ.typeIs
 refine wpAny_pyIter_slot T rH (dJ rH T yd ?_ (ye _))
 show wpAny _ _ (ret (.ref it)) _ _ s
 exact aJ ⟨_,rfl,"reversed",_,T,jl.lookup,q⟩
end
theorem CP{prog:Program}{w:World}{A:Around}(hh:A.handled=none)(it:Addr)(x:Str)(t:Tok)(hx:(x.length:Int)<2^63) :
  Walks prog w A it [it] [it] x.length (fun i v=>∃c u,x.cps[x.length-1-i]?=some c/\v=.str ⟨#[c]⟩ u) (fun i h=>i<=x.length/\jW h it x t ((x.length:Int)-1-(i:Int))) where
 sub:=fun _ hb=>hb
 frame:=fun _ _ _ st hk=>⟨st.1,st.2.keep fun o e=>hk it (by simp) o e⟩
 item:=fun i s Q E hi st q=>by
  have e:(x.length:Int)-1-(i:Int)=((x.length-1-i:Nat):Int):=by omega
  have xQ:=st.2
  rw[e]at xQ
  have kE:x.length-1-i<x.cps.size:=by have:x.length=x.cps.size:=rfl;omega
  have hc:x.cps[x.length-1-i]?=some (x.cps[x.length-1-i]'kE):=Array.getElem?_eq_getElem kE
  refine Eg xQ hc (by omega) fun g tk u hg sb=>?_
  have e2:((x.length-1-i:Nat):Int)-1=(x.length:Int)-1-((i+1:Nat):Int):=by omega
  rw[e2]at hg
  exact q _ g tk ⟨_,u,hc,rfl⟩ ⟨hi,hg⟩ fun b o hb eo=>sb.extBut b o (fun h=>hb (by simp[h])) eo
 done:=fun s Q E st q=>by
  have e:(x.length:Int)-1-(x.length:Int)=-1:=by omega
  have xQ:=st.2
  rw[e]at xQ
  exact Iq hh xQ fun g kp=>q g s.toks fun b o hb eo=>kp b o (fun h=>hb (by simp[h])) eo
 self:=fun _ _ _ _ st q=>sZ st.2 q
def OP(ta:TA):TI:=fun σ H R=>ta σ H fun vs H1=>∃l,vs=[.str (tx l)]/\l.length<=1000000/\R (OF (jV l.reverse)) H1
theorem Ir{X:Cx}{tg a:Expr}{ta:TA}{p pos:Pos}(hm:X.mg "reversed"=none)(ha:QA X [a] ta)(hg:Gl X "reversed":=by rfl)(hs:starEach [a] X.env=(false,eval a X.env)::starEach [] X.env:=by rfl) :
  QI X tg (.Call (.Name "reversed" p) [a] [] pos) (OP ta):=⟨by
 intro pins s σ H R I h
 refine Call_ (lE I hg hm boot_reversed (cW (gs (ha.h pos pins s σ H _ I h) fun us s1 ⟨vs,H1,I1,r1,q1⟩=>?_) hs rfl))
 obtain⟨l,e,hl,q⟩:=q1
 subst e
 cases r1 with
 |cons x1 r1=>
  cases r1
  obtain⟨t,rfl⟩:=x1
  have hn:(tx l).length=(jV l.reverse).length:=by unfold jV;rw[ip];simp
  have hb:((tx l).length:Int)<2^63:=by rw[ip];omega
  refine Ef (by omega) fun tk=>?_
  refine sZ (x:=tx l) (t:=t) (i:=((tx l).length:Int)-1) ⟨_,aR _ rfl,rfl,rfl⟩ ?_
  refine⟨s1.heap.objs.size,[s1.heap.objs.size],_,_,H1,rfl,I1.kept (t':=tk) fun b o e=>ar _ e,pi (ty:="reversed") (S:=fun i h=>i<=(tx l).length/\jW h s1.heap.objs.size (tx l) t (((tx l).length:Int)-1-(i:Int))) (fun A hA=>by rw[<- hn];exact CP hA _ (tx l) t hb) (fun k v hk hp=>?_) (fun k h st=>?_) (by decide) (fun A k s Q E st h=>sZ st.2 h),⟨b_ _,b_ _,⟨_,aR _ rfl,rfl,?_⟩⟩,fun b hb=>?_,q⟩
  ·obtain⟨c,u,hc,rfl⟩:=hp
   refine⟨.str (tx [c]),?_,u,rfl⟩
   rw[<- hn]at hk
   rw[ip]at hc hk
   have hc':l[l.length-1-k]?=some c:=by simpa[tx]using hc
   unfold jV
   rw[ax,fx hk,hc'];rfl
  ·obtain⟨_,o,e1,e2,e3⟩:=st
   exact⟨o,_,e1,e2,e3⟩
  ·simp
  ·have e:b=s1.heap.objs.size:=by simpa using hb
   subst e
   exact I1.fpOk (ay _) I1.fresh⟩
section
variable{X:Cx}{oG tg iter:Expr}{m6:List Expr}{scope:Scope}{pos:Pos}{nm:List Str}{cl:List (Str×Addr)}{cap:List (Option Nat)}{wi:TI}{g:TG}{tc:TT}{te:TE}
theorem Ab{x0:Str}{p0 p1:Pos}{gx:TG}(Qk:PG X (.Name x0 p0) gx)(Qq:swapsWith (.ListComp oG [⟨tg,iter,m6,0⟩] scope pos) (some (.Name x0 p0)) p1.line X.env=pure true)(ia:X.calm=true)(GW:closureFor scope X.env=pure cl)(oW:∀x c,cl.lookup x=some c->X.env.cells.lookup x=some c)
  (h_:scope.kind=.function) (A9:∀x∈scope.names,x.2=.local->scope.names.lookup x.1=some .local) (i6:∀y∈scope.names,y.2≠.cell)
  (Nx:∀x,((relabel scope X.env).names.lookup x=some .cell\/(relabel scope X.env).names.lookup x=some .free)->∃c,cl.lookup x=some c)
  (AZ:∀(i j:Nat),cap[i]?=some (some j)->∃x,nm[i]?=some x/\X.N[j]?=some x/\D6 X scope cl x) (cR:cap.length=nm.length)
  (hi:PI X tg iter wi) (hg:∀C s0 H0 fp,PG (bP X nm scope cl C s0 H0 fp) tg g) (ht:∀C s0 H0 fp,Ic (bP X nm scope cl C s0 H0 fp) m6 tc)
  (he:∀C s0 H0 fp,PE (bP X nm scope cl C s0 H0 fp) oG te) (hs:∀x,foldedSetIterable iter X.env x=pure x:=by intro _;rfl) :
  PS X (.Assign [.Name x0 p0] (.ListComp oG [⟨tg,iter,m6,0⟩] scope pos) p1) (DN (vn cap wi g tc te) gx):=by
 intro pins s σ H D I h
 rw[exec_Assign_Name_used _ _ _ _ Qq]
 suffices main:wpAny (model X.prog X.w) X.A (comprehension (.ListComp oG [⟨tg,iter,m6,0⟩] scope pos) scope X.env (firstIterPos [⟨tg,iter,m6,0⟩] pos) (newList []) (firstAsync [⟨tg,iter,m6,0⟩]) (firstIter [⟨tg,iter,m6,0⟩] X.env) (some (assign (.Name x0 p0) X.env))) (fun _ s'=>SP X pins D .next s') X.xe s from
  ak (ib (ak (ak (cH main (fun _ s' h=>aJ (aJ h)) fun _ _ z=>z))))
 refine kZ (use:=some (assign (.Name x0 p0) X.env)) rfl hs GW h_ A9 (gs (hi pins s σ H _ I h) fun v s1 h1=>gs h1 fun QY s2 h2=>?_)
 obtain⟨it,fp,tn,J,H1,e,I2,T,st2,f2,W,⟨m0,w0⟩,turn⟩:=h2
 subst e
 have hfpn:∀b∈fp,b<s2.heap.objs.size:=fun b hb=>let ⟨o,ho,_⟩:=T.obj _ _ st2 b hb;aI ho
 have hfpc:∀b∈fp,∀x c,X.env.cells.lookup x=some c->c≠b:=fun b hb=>(f2 b hb).2.2.2.2.1
 refine cw (jr i6 (by intro y hy;simp at hy) (fun h₁ hns₁ hsb₁=>?_) h_)
 dsimp only at hns₁ hsb₁ ⊢
 generalize hH2:s2.heap.push { cls:=.type "list",dict:=none,data:=.seq ([]:List Value).toArray }=G2 at hns₁ hsb₁ ⊢
 have hC:G2.objs.size=s2.heap.objs.size+1:=by rw[<- hH2,iR]
 have hDC:s2.heap.objs.size≠G2.objs.size:=by rw[hC];exact be (jb _)
 have old:∀b o,s2.heap.get? b=some o->h₁.get? b=some o:=fun b o e=>hsb₁.extBut b o (by rw[hC];exact be (fO (aI e))) (ar _ (hH2▸ar _ e))
 have hacc:h₁.get? s2.heap.objs.size=some { cls:=.type "list",data:=.seq ([]:List Value).toArray }:=hsb₁.extBut _ _ hDC (ar _ (hH2▸aR _ rfl))
 have okB:(bP X nm scope cl G2.objs.size s2 H1 fp).Ok:=by
  refine⟨I2.ok.mod,h_,I2.ok.glob,I2.ok.blt,by show s2.heap.objs.size<=G2.objs.size;omega,fun x y c h1 h2=>I2.ok.inj x y c (oW _ _ h1) (oW _ _ h2),fun x hx=>Nx x hx,fun x c h0=>(by cases h0),fun hc=>I2.ok.hd ia,I2.ok.frames,.inl rfl,?_,?_,?_,?_,?_,?_,?_⟩
  ·intro b hb
   exact⟨be (aV (hfpn b hb) (by show _<=G2.objs.size;omega)),fun x c hx=>hfpc b hb x c (oW _ _ hx)⟩
  ·exact fun b o hb=>I2.bs b o hb
  ·exact a7 I2.ok.bsz I2.sz
  ·intro b o hb z
   rcases(f2 b z).2.2.2.1 with q|q
   ·exact I2.ok.noex b o hb q
   ·exact absurd (aI (I2.ok.bs b o hb).1) (pI.mpr q)
  ·intro b hb z
   rcases a8.mp (I2.stkSub b z)with q|q
   ·exact(f2 b hb).2.1 q
   ·exact(f2 b hb).2.2.1 q
  ·exact I2.stack
  ·exact I2.stkFree
 have I4:bt (bP X nm scope cl G2.objs.size s2 H1 fp) [] (lg cap σ) H1 { s2 with heap:=h₁,toks:=s2.toks+([]:List (Str×Value)).length }:=by
  refine Bp AZ cR I2 hfpc (σ2:=List.replicate nm.length none) ⟨okB,rfl,I2.bare,Un.kept old,⟨_,hns₁,fun i x v _ e2=>?_⟩,fun x c hx=>?_,?_,fun x c hx=>I2.freeC x c (oW _ _ hx),fun p hp=>absurd hp (by simp),I2.hok.kept old,by simp⟩
  ·rw[iy]at e2;split at e2<;>cases e2
  ·obtain⟨v,hv⟩:=I2.cell x c (oW _ _ hx)
   exact⟨v,hv.keeps old⟩
  ·exact I2.hok.fresh (by show _<=G2.objs.size;omega)
 have hsz0:∀{Hx:Hp} {sx:Shared} {px:List (Addr×Obj)} {σx:St},bt (bP X nm scope cl G2.objs.size s2 H1 fp) px σx Hx sx->Hx s2.heap.objs.size=none->∀{oa:Obj},sx.heap.get? s2.heap.objs.size=some oa->(∀v,oa.data≠.cell v) ->
   bt (bP X nm scope cl G2.objs.size s2 H1 fp) [(s2.heap.objs.size,oa)] σx Hx sx:=fun{Hx sx px σx} Ix hn {oa} ho hd=>Ix.pins_of fun p hp=>by
  have e:p=(s2.heap.objs.size,oa):=by simpa using hp
  subst e
  exact⟨ho,hn,hDC,fun z=>by
   obtain⟨_,o,q,_⟩:=I2.stack.mem z
   exact absurd (aI q) (bo _),hd⟩
 have hfpB:∀{Hx:Hp} {oa:Obj},(∀b∈fp,Hx b=none)->∀b∈fp,pf (bP X nm scope cl G2.objs.size s2 H1 fp) [(s2.heap.objs.size,oa)] Hx b:=fun{Hx oa} hn b hb=>
  ⟨hn b hb,(okB.exf b hb).1,okB.exfs b hb,.inl hb,(okB.exf b hb).2,fun p hp=>by
   have e:p=(s2.heap.objs.size,oa):=by simpa using hp
   subst e
   exact ma (hfpn b hb)⟩
 have hcalmB:(bP X nm scope cl G2.objs.size s2 H1 fp).calm=true:=ia
 have loop:∀sx:Shared,sx={ s2 with heap:=h₁,toks:=s2.toks+([]:List (Str×Value)).length } ->
   codeAny (model X.prog X.w) X.A (.compLoop (.ListComp oG [⟨tg,iter,m6,0⟩] scope pos) 0 (.ref it) (.ref s2.heap.objs.size) (compEnvC scope cl G2.objs.size X.env))
    (compPost (model X.prog X.w) X.A X.xe (some (assign (.Name x0 p0) X.env)) (fun _ s'=>SP X pins D .next s') (.ref s2.heap.objs.size) G2.objs.size) sx:=by
  rintro sx rfl
  refine codeAny_loop rfl (fun n s'=>∃i ys H',bt (bP X nm scope cl G2.objs.size s2 H1 fp) [] (lg cap σ) H' s'/\tn i s'.heap/\(∀b∈fp,H' b=none)/\H' s2.heap.objs.size=none /\
   (∃bJ k,cV ys bJ/\s'.heap.get? s2.heap.objs.size=some { cls:=.type "list",data:=.seq bJ.toArray k })/\W i n ys H') ?_ m0
   ⟨0,[],H1,I4,T.keep _ _ _ st2 (fun b _ o e=>old b o e),fun b hb=>(f2 b hb).1,I2.fresh,⟨[],0,.nil,hacc⟩,w0⟩
  rintro n s3 ⟨i,ys,H3,I3,jT,fr3,na3,⟨bJ,ka,rv,ea⟩,w3⟩
  show wpAny _ X.A ((compTurn (.ListComp oG [⟨tg,iter,m6,0⟩] scope pos) 0 (.ref it) (.ref s2.heap.objs.size) (compEnvC scope cl G2.objs.size X.env)).onRaise (fun x=>do noteFrame x (compEnvC scope cl G2.objs.size X.env);theTreesLotGoes x)) _ _ s3
  refine wpAny_noted ?_
  rw[compTurn_list]
  refine ak (ib ?_)
  have I3p:=hsz0 I3 na3 ea (fun v z=>by cases z)
  rcases turn i n ys H3 w3 with⟨stop,hz,qn⟩|⟨go,step⟩
  ·refine ak (cH (T.done (bP X nm scope cl G2.objs.size s2 H1 fp) rfl rfl rfl hcalmB i _ s3 _ H3 (fun _ _=>False) I3p (hfpB fr3) jT stop) (fun r s4 hr=>?_) fun _ _ z=>z.elim)
   obtain⟨hr,I4'⟩:=hr
   subst hr
   refine aJ ?_
   obtain⟨m4,hn4,_⟩:=id I4'.loc
   have pa:=I4'.pin (s2.heap.objs.size,{ cls:=.type "list",data:=.seq bJ.toArray ka }) (by simp)
   have ne:∀b o,s2.heap.get? b=some o->b≠s2.heap.objs.size/\b≠G2.objs.size:=fun b o e=>⟨be (aI e),be (by rw[hC];exact fO (aI e))⟩
   have I5:bt X pins σ (eS H3 s2.heap.objs.size (.lst ys)) s4:=by
    refine I2.call' (ch:=fp) I4'.os ⟨fun b o e n hb hx=>?_,fun b o e n hb hx=>?_,fun b o e n hx=>?_,fun b o e hx=>?_,fun b xs e=>?_,fun b o u e=>?_,fun b ps e=>?_⟩ ?_ I4'.bare fun b hb=>?_
    ·exact I4'.base.keep b o e n hb hx
    ·exact I4'.base.slot b o e n hb hx
    ·rw[bX (ne b o e).1];exact I4'.base.free b o e n hx
    ·exact I4'.base.there b o e hx
    ·have q:=I4'.base.tups b xs e
     rw[bX (dh q na3)];exact q
    ·have q:=I4'.base.frzs b o u e
     rw[bX (dh q na3)];exact q
    ·obtain⟨mr,q⟩:=I4'.base.tbls b ps e
     exact⟨mr,by rw[bX (dh q na3)];exact q⟩
    ·intro b o e
     by_cases hb:b=s2.heap.objs.size
     ·subst hb
      rw[dC]at e;cases e
      exact⟨hz,bJ,ka,rv,pa.1⟩
     ·rw[bX hb]at e
      exact(I4'.hok b o e).stay (fun c u hc q=>q) (fun c q=>by rw[bX (dh q na3)];exact q) fun c xs q=>by rw[bX (dh q na3)];exact q
    ·obtain⟨_,g1,_,g3,g4,g5⟩:=f2 b hb
     exact⟨g3,g1,g4,g5⟩
   obtain⟨oC,es,ep,hoC,hdC,hrC⟩:=hn4
   have fr:H3 G2.objs.size=none:=I4'.free
   have lC:s2.heap.objs.size<=G2.objs.size:=by rw[hC];exact kP _
   have neL:G2.objs.size≠X.env.locals:=ma (aV I2.lt lC)
   have I5p:bt X (pins++[(G2.objs.size,oC)]) σ (eS H3 s2.heap.objs.size (.lst ys)) s4:=I5.pins_of fun p hp=>by
    rcases a9.mp hp with z|z
    ·exact I5.pin p (aM _ z)
    ·have e:p=(G2.objs.size,oC):=by simpa using z
     subst e
     exact⟨hoC,by rw[bX (Ne.symm hDC)];exact fr,neL,I2.nofs lC,fun v z=>by rw[hdC]at z;cases z⟩
   refine cH (Qk _ s4 σ _ (.ref s2.heap.objs.size) (.ref s2.heap.objs.size) _ I5p rfl (qn _ na3)) (fun _ s5 h5=>?_) fun _ _ z=>z
   obtain⟨σ',H',I6,nx⟩:=h5
   have pC:=I6.pin (G2.objs.size,oC) (aM _ (aM _ (bU.mpr rfl)))
   have I7:bt X pins σ' H' s5:=I6.pins_of fun p hp=>I6.pin p (aM _ (dF _ hp))
   refine⟨m4,⟨oC,es,ep,pC.1,hdC,hrC⟩,fun h' hs'=>?_⟩
   refine⟨σ',H',I7.turned (t':=s5.toks) (it:=G2.objs.size) (fun b o hb e=>hs'.extBut b o hb e) pC.2.1 neL (.inr (a7 I2.sz lC)) (fun x c hx z=>?_) (fun p hp z=>?_),nx⟩
   ·obtain⟨v,o,ho,_⟩:=I2.cell x c hx
    exact absurd (aI ho) (by rw[z];exact pI.mpr lC)
   ·have:=(I2.pin p hp).1
    exact absurd (aI this) (by rw[z];exact pI.mpr lC)
  ·refine ak (cH (T.item (bP X nm scope cl G2.objs.size s2 H1 fp) rfl rfl rfl hcalmB i _ s3 _ H3 (fun _ _=>False) I3p (hfpB fr3) jT go) (fun r s4 hr=>?_) fun _ _ z=>z.elim)
   obtain⟨u,hr,h4⟩:=hr
   subst hr
   dsimp only
   refine ak (cH h4 (fun _ s5 h5=>?_) fun _ _ z=>z.elim)
   obtain⟨x,H5,I5,r5,y5,st5,fr5⟩:=h5
   have I5':=I5.pinned (hfpB fr5) (T.obj _ _ st5)
   refine ak (cH (hg _ _ _ _ _ s5 _ H5 x u _ I5' r5 (step x H5 y5)) (fun _ s6 h6=>?_) fun _ _ z=>z.elim)
   obtain⟨σ6,H6,I6,q6⟩:=h6
   refine ak (cH (ht _ _ _ _ _ s6 σ6 H6 _ I6 q6) (fun ok s7 h7=>?_) fun _ _ z=>z.elim)
   obtain⟨H7,I7,q7⟩:=h7
   have back:∀{H8:Hp} {s8:Shared} {JH:List V} {its':List Value} {k':Nat},bt (bP X nm scope cl G2.objs.size s2 H1 fp) [] σ6 H8 s8->(∀b∈fp,∀o,s5.heap.get? b=some o->s8.heap.get? b=some o)->(∀b∈fp,H8 b=none)->H8 s2.heap.objs.size=none ->
     cV JH its'->s8.heap.get? s2.heap.objs.size=some { cls:=.type "list",data:=.seq its'.toArray k' }->(∃m',m'<n/\W (i+1) m' JH H8) ->
     ∃m,m<n/\∃i ys H',bt (bP X nm scope cl G2.objs.size s2 H1 fp) [] (lg cap σ) H' s8/\tn i s8.heap/\(∀b∈fp,H' b=none)/\H' s2.heap.objs.size=none /\
      (∃bJ k,cV ys bJ/\s8.heap.get? s2.heap.objs.size=some { cls:=.type "list",data:=.seq bJ.toArray k })/\W i m ys H':=
    fun{H8 s8 JH its' k'} I8 kf f8 n8 rv8 e8 ⟨m',hm,w8⟩=>⟨m',hm,i+1,JH,H8,Bp AZ cR I2 hfpc I8,T.keep _ _ _ st5 kf,f8,n8,⟨its',k',rv8,e8⟩,w8⟩
   cases ok with
   |false=>
    refine aJ ⟨rfl,?_⟩
    have q7':∃m',m'<n/\W (i+1) m' ys H7:=by simpa using q7
    have pa:=I7.pin (s2.heap.objs.size,{ cls:=.type "list",data:=.seq bJ.toArray ka }) (by simp)
    refine back (I7.pins_of fun p hp=>absurd hp (by simp)) (fun b hb o e=>?_) (fun b hb=>?_) pa.2.1 rv pa.1 q7'
    ·exact(I7.pin (b,o) (aM _ (aM _ (fR hb e)))).1
    ·obtain⟨o,e,d⟩:=T.obj _ _ st5 b hb
     exact(I7.pin (b,o) (aM _ (aM _ (fR hb e)))).2.1
   |true=>
    rw[aB rfl]at q7
    refine ak (ak (cH (he _ _ _ _ _ s7 σ6 H7 _ I7 q7) (fun xv s8 h8=>?_) fun _ _ z=>z.elim))
    obtain⟨y,H8,I8,r8,hzy,q8⟩:=h8
    have pa:=I8.pin (s2.heap.objs.size,{ cls:=.type "list",data:=.seq bJ.toArray ka }) (by simp)
    refine ak (pR pa.1 (by rw[<- rv.length];exact hzy) fun h' k' tk e9 sb=>?_)
    refine aJ (aJ ⟨rfl,?_⟩)
    have I9:bt (bP X nm scope cl G2.objs.size s2 H1 fp) [] σ6 H8 { s8 with heap:=h',toks:=tk }:=
     (bt.pins_of (pins':=[]) I8 fun p hp=>absurd hp (by simp)).turned (it:=s2.heap.objs.size) (fun b o hb e=>sb b o hb e) pa.2.1 hDC (.inr (ay _)) (fun x c hx z=>by
      obtain⟨v,hv⟩:=I2.cell x c (oW _ _ hx)
      exact absurd hv.lt (by rw[z];exact bo _)) (fun p hp=>absurd hp (by simp))
    refine back I9 (fun b hb o e=>?_) (fun b hb=>?_) pa.2.1 (rv.append (.cons r8 .nil)) e9 q8
    ·exact sb b o (be (hfpn b hb)) (I8.pin (b,o) (aM _ (aM _ (fR hb e)))).1
    ·obtain⟨o,e,d⟩:=T.obj _ _ st5 b hb
     exact(I8.pin (b,o) (aM _ (aM _ (fR hb e)))).2.1
 exact mi (loop _ rfl) (T.self _ _ _ _ _ (T.keep _ _ _ st2 fun b _ o e=>old b o e) (loop _ rfl))
end
theorem Ac{X:Cx}{x0:Str}{p0 p1:Pos}{gx:TG}{oG tg iter:Expr}{m6:List Expr}{scope:Scope}{pos:Pos}{nm:List Str}{cap:List (Option Nat)}{wi:TI}{g:TG}{tc:TT}{te:TE}{m:Nat}(Qk:QG X (.Name x0 p0) gx)(ia:X.calm=true)
  (l8:X.env.cells=cellsFrom m X.env.scope.names []) (h_:scope.kind=.function) (hB:wf X.env.scope.names scope.names nm cap X.N=true)
  (hi:QI X tg iter wi) (hg:∀cl C s0 H0 fp,QG (bP X nm scope cl C s0 H0 fp) tg g) (ht:∀cl C s0 H0 fp,QP (bP X nm scope cl C s0 H0 fp) m6 tc)
  (he:∀cl C s0 H0 fp,QE (bP X nm scope cl C s0 H0 fp) oG te) (hs:∀x,foldedSetIterable iter X.env x=pure x:=by intro _;rfl) (Qq:swapsWith (.ListComp oG [⟨tg,iter,m6,0⟩] scope pos) (some (.Name x0 p0)) p1.line X.env=pure true:=by first|rfl|kernel_rfl) :
  QS X (.Assign [.Name x0 p0] (.ListComp oG [⟨tg,iter,m6,0⟩] scope pos) p1) (DN (vn cap wi g tc te) gx):=by
 simp only[wf,cq,lw,ik,gD,cz,aS]at hB
 obtain⟨⟨⟨⟨b1,b2⟩,b3⟩,b4⟩,b5⟩:=hB
 have has:∀x∈scope.names,x.2=.free->∃c,X.env.cells.lookup x.1=some c:=fun x hx hk=>by
  rw[l8]
  rcases b3 x hx with z|z
  ·exact absurd hk z
  ·exact m8 z
 have oW:∀x c,(gu X.env scope.names []).lookup x=some c->X.env.cells.lookup x=some c:=fun x c h=>nZ scope.names [] has (by simp) (x,c) (dD h)
 have hin:∀x,(x,NameKind.free)∈scope.names->∃c,(gu X.env scope.names []).lookup x=some c:=fun x h=>let ⟨_,q⟩:=lG (env:=X.env) scope.names [] x h;lH q
 have hmap:(relabel scope X.env).names=scope.names.map fun y=>if (y.2==.free&&X.env.scope.kind==.function&&X.env.kindOf y.1==some .cell)then(y.1,NameKind.cell)else y:=by
  show scope.names.map _=_
  refine ce fun y _=>?_
  obtain⟨a,b⟩:=y
  rfl
 have fr:∀x,((relabel scope X.env).names.lookup x=some .cell\/(relabel scope X.env).names.lookup x=some .free)->(x,NameKind.free)∈scope.names:=fun x h=>by
  have h':∃k,(x,k)∈(relabel scope X.env).names/\(k=.cell\/k=.free):=by
   rcases h with h|h
   ·exact⟨_,dD h,.inl rfl⟩
   ·exact⟨_,dD h,.inr rfl⟩
  obtain⟨k,hm,hk⟩:=h'
  rw[hmap]at hm
  obtain⟨y,hy,e⟩:=aL.mp hm
  obtain⟨a,b⟩:=y
  by_cases hb:b=.free
  ·subst hb
   have:a=x:=by split at e<;>(cases e;rfl)
   subst this;exact hy
  ·rw[aE (by simp[hb])]at e
   cases e
   rcases hk with rfl|rfl
   ·exact absurd rfl (b2 _ hy)
   ·exact absurd rfl hb
 refine⟨Ab Qk.h Qq (cl:=gu X.env scope.names []) (cap:=cap) (nm:=nm) ia (Bu has) oW h_ (fun x hx hk=>(b1 x hx).resolve_left fun z=>z hk) (fun y hy=>b2 y hy) (fun x hx=>hin x (fr x hx)) (fun i j e=>?_) b4 hi.h (fun C s0 H0 fp=>(hg _ C s0 H0 fp).h) (fun C s0 H0 fp=>(ht _ C s0 H0 fp).h) (fun C s0 H0 fp=>(he _ C s0 H0 fp).h) hs⟩
 have hi':i<cap.length:=(aa.mp e).1
 have q:=b5 i (bi.mpr hi')
 rw[e]at q
 dsimp only at q
 cases hx:nm[i]? with
 |none=>rw[hx]at q;simp at q
 |some x=>
  cases hy:X.N[j]? with
  |none=>rw[hx,hy]at q;simp at q
  |some y=>
   rw[hx,hy]at q
   simp only[cq,cz]at q
   obtain⟨⟨rfl,q1⟩,q2⟩:=q
   refine⟨x,rfl,rfl,.inr (.inl q1),(by rw[q1];decide),?_,?_⟩
   ·obtain⟨c,hc⟩:=hin x (dD q2)
    rw[hc,oW _ _ hc]
   ·rw[hmap];exact kI (env:=X.env) q2
open AutoSeq1 (wpAny_loadPart')
theorem Eh(l b:Addr)(i1 i2:Array Value)(n1 n2:Nat)(d1 d2:Option Addr)(s1 s2:Array (Option Value))(h0:i1.isEmpty=true) :
  Meets (Builtin.«tuple.__add__» ⟨[.ref l,.ref b],[]⟩) (fun _ R s=>s.heap.get? l=some { cls:=.type "tuple",dict:=d1,data:=.seq i1 n1,slots:=s1 }/\s.heap.get? b=some { cls:=.type "tuple",dict:=d2,data:=.seq i2 n2,slots:=s2 }/\R (.ok (.ret (.ref b))) s):=
 .of_wp fun prog w A R s h=>by
  obtain⟨hp,g,d,tk,os⟩:=s
  obtain⟨e1,e2,h⟩:=h
  have a2:=PyProof.Rows.sub_tuple_tuple
  wp_walk using cE e1,cE e2
  exact⟨_,rfl,h⟩
def OQ(K:Frag):R2:=fun x y H Q=>∃a b xs ys,x=.ref a/\y=.ref b/\fS K H a xs/\fS K H b ys/\xs.length+ys.length<=sizeLine/\∀p H2,qI H H2->fS K H2 p (xs++ys)->Q (.ref p) H2
theorem LQ{X:Cx}:R9 X (binaryOp .Add) (OQ X.K):=⟨by
 intro pins s σ H x y v u Q I rx ry h
 obtain⟨a,b,xs,ys,rfl,rfl,ha,hb,hz,q⟩:=h
 by_cases hx:xs=[]
 ·subst hx
  cases rx
  cases ry
  obtain⟨bJ,r1,p1,_⟩:=I.tuple ha
  obtain⟨its2,r2,p2,_⟩:=I.tuple hb
  have e1:bJ=[]:=r1.nil_iff.mpr rfl
  obtain⟨⟨c1,d1,g1,l1⟩,f1,hc1,n1,Bd⟩:=id p1
  obtain⟨⟨c2,d2,g2,l2⟩,f2,hc2,n2,A'⟩:=id p2
  simp only at hc1 Bd hc2 A'
  subst hc1 Bd hc2 A'
  refine qx ⟨_,f1,rfl⟩ ⟨_,f2,rfl⟩ lu oX PySem.F.slot_tuple_add PySem.F.entry_tuple_add (PySem.F.args_tuple_add_2 _ _) (Eh a b bJ.toArray its2.toArray n1 n2 d1 d2 l1 l2 (by rw[e1];rfl)) ⟨f1,f2,?_⟩
  exact⟨.ref b,H,I,rfl,q b H (qI.refl H) hb⟩
 ·exact HW pins s σ H _ _ v u Q I rx ry ⟨a,b,xs,ys,rfl,rfl,ha,hb,hx,hz,fun e=>q a H (qI.refl H) (by rw[e,cP];exact ha),fun _ p hp=>q p _ (cN hp _) (fS.of dC)⟩⟩
inductive W where
 |non|bl (b:Bool)|int (i:Int)|str (l:List Nat)|tup (ws:List W)|loc (n:Nat)
inductive DK where
 |i (z:Int)|s (l:List Nat)
deriving DecidableEq
def DK.key:DK->f_
 |.i z=>.inl z
 |.s l=>.inr (tx l)
inductive am where
 |lst (ws:List W)
 |ro (ws:List W)
 |exc (c:Str)
 |dct (kvs:List (DK×W))
 |tab (P:Addr) (pos:Pos) (q:Str)
 |rod (kvs:List (DK×W))
abbrev kJ:Nat:=1000000
theorem lI{n:Nat}(h:n<=kJ):n<=sizeLine:=a7 h (by decide)
theorem LR{n:Nat}(h:n<=kJ):n<sizeLine:=ku h (by decide)
inductive R(α:Type) where
 |ok (a:α) (st:List am)
 |ex (c:Str) (st:List am)
 |bad
def R.bind{α β:Type}:R α->(α->List am->R β)->R β
 |.ok a st,k=>k a st
 |.ex c st,_=>.ex c st
 |.bad,_=>.bad
@[simp] theorem R.bind_ok{α β:Type}(a:α)(st:List am)(k:α->List am->R β):(R.ok a st).bind k=k a st:=rfl
@[simp] theorem R.bind_ex{α β:Type}(c:Str)(st:List am)(k:α->List am->R β):(R.ex c st:R α).bind k=.ex c st:=rfl
@[simp] theorem R.bind_bad{α β:Type}(k:α->List am->R β):(R.bad:R α).bind k=.bad:=rfl
abbrev cf:=List (Option W)
inductive RS where
 |nx (ρ:cf) (st:List am)|rt (w:W) (st:List am)|bk (ρ:cf) (st:List am)|ct (ρ:cf) (st:List am)
 |ex (c:Str) (ρ:cf) (st:List am)|bad
abbrev FE:=cf->List am->R W
abbrev FT:=cf->List am->R Bool
abbrev FA:=cf->List am->R (List W)
abbrev FS:=cf->List am->RS
section
variable(K:Frag)
mutual
def bF(μ:List Addr)(H:Hp):W->V->Prop
 |.non,v=>v=.non
 |.bl b,v=>v=.bl b
 |.int i,v=>v=.int i
 |.str l,v=>v=.str (tx l)
 |.tup ws,v=>∃p vs,v=.ref p/\fS K H p vs/\RelWs μ H ws vs
 |.loc n,v=>∃a,μ[n]?=some a/\v=.ref a
def RelWs(μ:List Addr)(H:Hp):List W->List V->Prop
 |[],vs=>vs=[]
 |w::ws,vs=>∃x xs,vs=x::xs/\bF μ H w x/\RelWs μ H ws xs
end
end
theorem pre_get{μ μ':List Addr}(h:μ <+: μ'){n:Nat}{a:Addr}(e:μ[n]?=some a):μ'[n]?=some a:=by
 obtain⟨t,rfl⟩:=h
 rw[av (aa.mp e).1];exact e
section
variable{K:Frag}{μ μ':List Addr}{H H':Hp}
mutual
theorem bF.mono(h:μ <+: μ')(e:eD K H H'):∀{w:W} {v:V},bF K μ H w v->bF K μ' H' w v
 |.non,_,r=>by unfold bF at r ⊢;exact r
 |.bl _,_,r=>by unfold bF at r ⊢;exact r
 |.int _,_,r=>by unfold bF at r ⊢;exact r
 |.str _,_,r=>by unfold bF at r ⊢;exact r
 |.tup _,_,r=>by unfold bF at r ⊢;obtain⟨p,vs,a,b,c⟩:=r;exact⟨p,vs,a,e _ _ b,RelWs.mono h e c⟩
 |.loc _,_,r=>by unfold bF at r ⊢;obtain⟨a,b,c⟩:=r;exact⟨a,pre_get h b,c⟩
theorem RelWs.mono(h:μ <+: μ')(e:eD K H H'):∀{ws:List W} {vs:List V},RelWs K μ H ws vs->RelWs K μ' H' ws vs
 |[],_,r=>by unfold RelWs at r ⊢;exact r
 |_::_,_,r=>by unfold RelWs at r ⊢;obtain⟨x,xs,a,b,c⟩:=r;exact⟨x,xs,a,bF.mono h e b,RelWs.mono h e c⟩
end
theorem RelWs.nilI:RelWs K μ H [] []:=by unfold RelWs;rfl
theorem RelWs.consI{w:W}{ws:List W}{x:V}{xs:List V}(a:bF K μ H w x)(b:RelWs K μ H ws xs):RelWs K μ H (w::ws) (x::xs):=by unfold RelWs;exact⟨x,xs,rfl,a,b⟩
theorem RelWs.nilE{vs:List V}(h:RelWs K μ H [] vs):vs=[]:=by unfold RelWs at h;exact h
theorem RelWs.consE{w:W}{ws:List W}{vs:List V}(h:RelWs K μ H (w::ws) vs):∃x xs,vs=x::xs/\bF K μ H w x/\RelWs K μ H ws xs:=by unfold RelWs at h;exact h
theorem RelWs.pr:∀{ws:List W} {vs:List V},RelWs K μ H ws vs↔Paired (fun w v=>bF K μ H w v) ws vs
 |[],vs=>⟨fun h=>by rw[h.nilE];exact .nil,fun h=>by cases h;exact .nilI⟩
 |w::ws,vs=>⟨fun h=>by obtain⟨x,xs,rfl,a,b⟩:=h.consE;exact .cons a (RelWs.pr.mp b),fun h=>by cases h with|cons a b=>exact .consI a (RelWs.pr.mpr b)⟩
theorem RelWs.len{ws:List W}{vs:List V}(h:RelWs K μ H ws vs):ws.length=vs.length:=Paired.length (RelWs.pr.mp h)
theorem RelWs.app:∀{as:List W} {xs:List V} {bs:List W} {ys:List V},RelWs K μ H as xs->RelWs K μ H bs ys->RelWs K μ H (as++bs) (xs++ys)
 |[],xs,bs,ys,a,b=>by rw[a.nilE];exact b
 |w::as,xs,bs,ys,a,b=>by obtain⟨x,xs,rfl,c,d⟩:=a.consE;exact .consI c (RelWs.app d b)
theorem RelWs.get:∀{ws:List W} {vs:List V} {i:Nat} {w:W},RelWs K μ H ws vs->ws[i]?=some w->∃v,vs[i]?=some v/\bF K μ H w v
 |[],_,_,_,_,e=>by simp at e
 |x::ws,vs,0,w,h,e=>by obtain⟨y,ys,rfl,a,b⟩:=h.consE;simp at e;subst e;exact⟨y,rfl,a⟩
 |x::ws,vs,i+1,w,h,e=>by obtain⟨y,ys,rfl,a,b⟩:=h.consE;simpa using RelWs.get (i:=i) b (by simpa using e)
theorem RelWs.take:∀{ws:List W} {vs:List V} (n:Nat),RelWs K μ H ws vs->RelWs K μ H (ws.take n) (vs.take n)
 |_,_,0,_=>by simp only[nT];exact .nilI
 |[],vs,n+1,h=>by rw[h.nilE];exact .nilI
 |x::ws,vs,n+1,h=>by obtain⟨y,ys,rfl,a,b⟩:=h.consE;exact .consI a (RelWs.take n b)
theorem RelWs.drop:∀{ws:List W} {vs:List V} (n:Nat),RelWs K μ H ws vs->RelWs K μ H (ws.drop n) (vs.drop n)
 |_,_,0,h=>h
 |[],vs,n+1,h=>by rw[h.nilE];exact .nilI
 |x::ws,vs,n+1,h=>by obtain⟨y,ys,rfl,a,b⟩:=h.consE;exact RelWs.drop n b
theorem RelWs.setI:∀{ws:List W} {vs:List V} (i:Nat) {w:W} {v:V},bF K μ H w v->RelWs K μ H ws vs->RelWs K μ H (ws.set i w) (vs.set i v)
 |[],vs,_,_,_,_,h=>by rw[h.nilE];exact .nilI
 |x::ws,vs,0,w,v,r,h=>by obtain⟨y,ys,rfl,a,b⟩:=h.consE;exact .consI r b
 |x::ws,vs,i+1,w,v,r,h=>by obtain⟨y,ys,rfl,a,b⟩:=h.consE;exact .consI a (RelWs.setI i r b)
theorem bF.intE{i:Int}{v:V}(h:bF K μ H (.int i) v):v=.int i:=by unfold bF at h;exact h
theorem bF.blE{b:Bool}{v:V}(h:bF K μ H (.bl b) v):v=.bl b:=by unfold bF at h;exact h
theorem bF.nonE{v:V}(h:bF K μ H .non v):v=.non:=by unfold bF at h;exact h
theorem bF.strE{l:List Nat}{v:V}(h:bF K μ H (.str l) v):v=.str (tx l):=by unfold bF at h;exact h
theorem bF.tupE{ws:List W}{v:V}(h:bF K μ H (.tup ws) v):∃p vs,v=.ref p/\fS K H p vs/\RelWs K μ H ws vs:=by unfold bF at h;exact h
theorem bF.locE{n:Nat}{v:V}(h:bF K μ H (.loc n) v):∃a,μ[n]?=some a/\v=.ref a:=by unfold bF at h;exact h
theorem bF.int{i:Int}:bF K μ H (.int i) (.int i):=by unfold bF;rfl
theorem bF.bl{i:Bool}:bF K μ H (.bl i) (.bl i):=by unfold bF;rfl
theorem bF.non:bF K μ H .non .non:=by unfold bF;rfl
theorem bF.str{l:List Nat}:bF K μ H (.str l) (.str (tx l)):=by unfold bF;rfl
theorem bF.tupI{ws:List W}{p:Addr}{vs:List V}(a:fS K H p vs)(b:RelWs K μ H ws vs):bF K μ H (.tup ws) (.ref p):=by unfold bF;exact⟨p,vs,rfl,a,b⟩
theorem bF.locI{n:Nat}{a:Addr}(e:μ[n]?=some a):bF K μ H (.loc n) (.ref a):=by unfold bF;exact⟨a,e,rfl⟩
end
def s_(a:Addr)(C:Value):HO:=.ext fun h=>∃o vs,h.get? a=some o/\o.cls=C/\o.data=.fields vs
def oN(b:Addr)(q:Str):HO:=.ext fun h=>∃o vs t,h.get? b=some o/\o.data=.fields vs/\vs[1]?=some (.str q t)
def QQ(K:Frag)(H:Hp)(a:Addr)(xs:List V):Prop:=
 (∃o,H a=some (.frz o (.lst xs)))\/∃(o:Obj) (bJ:Array Value) (n:Nat),K.lookup a=some o/\o.cls=.type "list"/\o.dict=none/\o.data=.seq bJ n/\bJ.size<=sizeLine/\cV xs bJ.toList
theorem QQ.sq{K:Frag}{H:Hp}{a:Addr}{xs:List V}(h:QQ K H a xs):rE K H a xs:=by
 rcases h with⟨o,h⟩|h
 ·exact .inl (.inr ⟨o,h⟩)
 ·exact .inr h
def am.isRo:am->Bool
 |.ro _=>true
 |_=>false
def kK(K:Frag)(mg:Str->Option Value)(μ:List Addr)(H:Hp):am->Addr->Prop
 |.lst ws,a=>∃vs,H a=some (.lst vs)/\RelWs K μ H ws vs
 |.ro ws,a=>∃vs,QQ K H a vs/\RelWs K μ H ws vs
 |.exc c,a=>∃C,mg c=some C/\H a=some (s_ a C)
 |.dct kvs,a=>∃vs,H a=some (.dK ((kvs.map fun p=>p.1.key).zip vs))/\RelWs K μ H (kvs.map fun p=>p.2) vs
 |.rod kvs,a=>∃vs o,H a=some (.frz o (.dK ((kvs.map fun p=>p.1.key).zip vs)))/\RelWs K μ H (kvs.map fun p=>p.2) vs
 |.tab P pos q,a=>a=P/\∃ps,H a=some (.tbl ps)/\TriplesOk ps.toList/\(codeAmong pos ps.toList=none\/∃c,codeAmong pos ps.toList=some (.ref c)/\H c=some (oN c q))
structure gT(K:Frag)(mg:Str->Option Value)(μ:List Addr)(st:List am)(H:Hp):Prop where
 nd:∀(i j:Nat) (a:Addr) (ci cj:am),st[i]?=some ci->st[j]?=some cj->ci.isRo=false->cj.isRo=false->μ[i]?=some a->μ[j]?=some a->i=j
 len:st.length=μ.length
 at':∀(i:Nat) (c:am) (a:Addr),st[i]?=some c->μ[i]?=some a->kK K mg μ H c a
section
variable{K:Frag}{mg:Str->Option Value}{μ μ':List Addr}{H H':Hp}{st:List am}
theorem kK.keep(h:μ <+: μ')(x:eD K H H'){c:am}{a:Addr}(e:∀o,H a=some o->H' a=some o)(e2:∀b q,H b=some (oN b q)->H' b=some (oN b q))(r:kK K mg μ H c a):kK K mg μ' H' c a:=by
 cases c with
 |lst ws=>obtain⟨vs,p,y⟩:=r;exact⟨vs,e _ p,y.mono h x⟩
 |ro ws=>
  obtain⟨vs,p,y⟩:=r
  refine⟨vs,?_,y.mono h x⟩
  rcases p with⟨o,p⟩|p
  ·exact .inl ⟨o,e _ p⟩
  ·exact .inr p
 |exc c=>obtain⟨C,p,y⟩:=r;exact⟨C,p,e _ y⟩
 |dct kvs=>obtain⟨vs,p,y⟩:=r;exact⟨vs,e _ p,y.mono h x⟩
 |rod kvs=>obtain⟨vs,o,p,y⟩:=r;exact⟨vs,o,e _ p,y.mono h x⟩
 |tab P pos q=>
  obtain⟨ea,ps,p,t,y⟩:=r
  refine⟨ea,ps,e _ p,t,?_⟩
  rcases y with y|⟨c,y,z⟩
  ·exact .inl y
  ·exact .inr ⟨c,y,e2 _ _ z⟩
theorem kK.ro_ne{c:am}{a:Addr}(r:kK K mg μ H c a)(h:c.isRo=false):∃o,H a=some o:=by
 cases c with
 |lst ws=>obtain⟨vs,p,y⟩:=r;exact⟨_,p⟩
 |ro ws=>cases h
 |exc c=>obtain⟨C,p,y⟩:=r;exact⟨_,y⟩
 |dct kvs=>obtain⟨vs,p,y⟩:=r;exact⟨_,p⟩
 |rod kvs=>obtain⟨vs,o,p,y⟩:=r;exact⟨_,p⟩
 |tab P pos q=>obtain⟨_,ps,p,_⟩:=r;exact⟨_,p⟩
theorem gT.same(S:gT K mg μ st H)(e:qI H H'):gT K mg μ st H':=⟨S.nd,S.len,fun i c a h1 h2=>(S.at' i c a h1 h2).keep (al _) (fS.same e) (e a) fun b q h=>e b _ h⟩
theorem gT.get(S:gT K mg μ st H){n:Nat}{c:am}(h:st[n]?=some c):∃a,μ[n]?=some a/\kK K mg μ H c a:=by
 have hn:n<μ.length:=by rw[<- S.len];exact(aa.mp h).1
 exact⟨μ[n],ae hn,S.at' n c _ h (ae hn)⟩
theorem gT.push(S:gT K mg μ st H){p:Addr}{o:HO}{c:am}(hp:H p=none)(hc:kK K mg (μ++[p]) (eS H p o) c p):gT K mg (μ++[p]) (st++[c]) (eS H p o):=by
 have hs:qI H (eS H p o):=cN hp o
 have zI:μ <+: μ++[p]:=aC _ _
 have old:∀{i:Nat} {d:am} {a:Addr},i<st.length->(st++[c])[i]?=some d->(μ++[p])[i]?=some a->st[i]?=some d/\μ[i]?=some a:=fun{i d a} hi h1 h2=>by
  rw[av hi]at h1
  rw[av (by rw[<- S.len];exact hi)]at h2
  exact⟨h1,h2⟩
 have new:∀{i:Nat} {d:am} {a:Addr},¬ i<st.length->(st++[c])[i]?=some d->(μ++[p])[i]?=some a->i=st.length/\d=c/\a=p:=fun{i d a} hi h1 h2=>by
  have hi':i=st.length:=by
   have:=(aa.mp h1).1
   simp at this;omega
  subst hi'
  simp at h1
  rw[S.len,dX (ay _)]at h2
  simp at h2
  exact⟨rfl,h1.symm,h2.symm⟩
 refine⟨fun i j a ci cj h1 h2 r1 r2 m1 m2=>?_,by simp[S.len],fun i d a h1 h2=>?_⟩
 ·by_cases hi:i<st.length
  ·obtain⟨x1,x2⟩:=old hi h1 m1
   by_cases hj:j<st.length
   ·obtain⟨y1,y2⟩:=old hj h2 m2
    exact S.nd i j a ci cj x1 y1 r1 r2 x2 y2
   ·obtain⟨_,_,rfl⟩:=new hj h2 m2
    obtain⟨o',z⟩:=(S.at' i ci a x1 x2).ro_ne r1
    rw[hp]at z;cases z
  ·obtain⟨e1,_,rfl⟩:=new hi h1 m1
   by_cases hj:j<st.length
   ·obtain⟨y1,y2⟩:=old hj h2 m2
    obtain⟨o',z⟩:=(S.at' j cj a y1 y2).ro_ne r2
    rw[hp]at z;cases z
   ·obtain⟨e2,_,_⟩:=new hj h2 m2
    omega
 ·by_cases hi:i<st.length
  ·obtain⟨x1,x2⟩:=old hi h1 h2
   exact(S.at' i d a x1 x2).keep zI (fS.same hs) (hs a) fun b q h=>hs b _ h
  ·obtain⟨_,rfl,rfl⟩:=new hi h1 h2
   exact hc
theorem gT.setG(S:gT K mg μ st H){n:Nat}{a:Addr}{c c':am}{o o':HO}(hn:st[n]?=some c)(Dz:c.isRo=false)(hm:μ[n]?=some a)(ha:H a=some o)(hf:∀q u,o≠.frz q u)(hg:∀φ,o≠.ext φ)(hx:eD K H (eS H a o'))(SH:c'.isRo=false)(hr:kK K mg μ (eS H a o') c' a):gT K mg μ (st.set n c') (eS H a o'):=by
 have hl:n<st.length:=(aa.mp hn).1
 have back:∀{i:Nat} {d:am},(st.set n c')[i]?=some d->∃d',st[i]?=some d'/\(d'=d\/(i=n/\d=c')):=fun{i d} h=>by
  by_cases e:i=n
  ·subst e
   rw[ba hl]at h
   exact⟨_,hn,.inr ⟨rfl,(aZ h).symm⟩⟩
  ·rw[aQ (Ne.symm e)]at h
   exact⟨d,h,.inl rfl⟩
 refine⟨fun i j b ci cj h1 h2 r1 r2 m1 m2=>?_,by simp[S.len],fun i d b h1 h2=>?_⟩
 ·obtain⟨di,x1,y1⟩:=back h1
  obtain⟨dj,x2,y2⟩:=back h2
  refine S.nd i j b di dj x1 x2 ?_ ?_ m1 m2
  ·rcases y1 with rfl|⟨rfl,rfl⟩
   ·exact r1
   ·rw[hn]at x1;cases x1;exact Dz
  ·rcases y2 with rfl|⟨rfl,rfl⟩
   ·exact r2
   ·rw[hn]at x2;cases x2;exact Dz
 ·by_cases e:i=n
  ·subst e
   rw[ba hl]at h1
   cases h1
   rw[hm]at h2;cases h2
   exact hr
  ·rw[aQ (Ne.symm e)]at h1
   have r:=S.at' i d b h1 h2
   by_cases hrd:d.isRo=true
   ·cases d with
    |ro zs=>
     obtain⟨us,p,q⟩:=r
     refine⟨us,?_,q.mono (al _) hx⟩
     rcases p with⟨o2,p⟩|p
     ·exact .inl ⟨o2,by rw[bX (by rintro rfl;rw[ha]at p;cases p;exact hf _ _ rfl)];exact p⟩
     ·exact .inr p
    |lst _=>cases hrd
    |exc _=>cases hrd
    |dct _=>cases hrd
    |rod _=>cases hrd
    |tab _ _ _=>cases hrd
   ·refine r.keep (al _) hx (fun o ho=>?_) fun b' q h=>by rw[bX (by rintro rfl;rw[ha]at h;cases h;exact hg _ rfl)];exact h
    have hb:b≠a:=by
     rintro rfl
     exact e (S.nd i n b d _ h1 hn (by simpa using hrd) Dz h2 hm)
    rw[bX hb];exact ho
theorem gT.set(S:gT K mg μ st H){n:Nat}{a:Addr}{ws Qi:List W}{vs Hz:List V}(hn:st[n]?=some (.lst ws))(hm:μ[n]?=some a)(ha:H a=some (.lst vs))(hr:RelWs K μ H Qi Hz):gT K mg μ (st.set n (.lst Qi)) (eS H a (.lst Hz)):=by
 have hx:eD K H (eS H a (.lst Hz)):=fS.but ig ha
 have hl:n<st.length:=(aa.mp hn).1
 have back:∀{i:Nat} {d:am},(st.set n (.lst Qi))[i]?=some d->∃d',st[i]?=some d'/\(d'=d\/(i=n/\d=.lst Qi)):=fun{i d} h=>by
  by_cases e:i=n
  ·subst e
   rw[ba hl]at h
   exact⟨_,hn,.inr ⟨rfl,(aZ h).symm⟩⟩
  ·rw[aQ (Ne.symm e)]at h
   exact⟨d,h,.inl rfl⟩
 refine⟨fun i j b ci cj h1 h2 r1 r2 m1 m2=>?_,by simp[S.len],fun i d b h1 h2=>?_⟩
 ·obtain⟨di,x1,y1⟩:=back h1
  obtain⟨dj,x2,y2⟩:=back h2
  refine S.nd i j b di dj x1 x2 ?_ ?_ m1 m2
  ·rcases y1 with rfl|⟨rfl,rfl⟩
   ·exact r1
   ·rw[hn]at x1;cases x1;rfl
  ·rcases y2 with rfl|⟨rfl,rfl⟩
   ·exact r2
   ·rw[hn]at x2;cases x2;rfl
 ·by_cases e:i=n
  ·subst e
   rw[ba hl]at h1
   cases h1
   rw[hm]at h2;cases h2
   exact⟨Hz,dC,hr.mono (al _) hx⟩
  ·rw[aQ (Ne.symm e)]at h1
   have r:=S.at' i d b h1 h2
   by_cases Dz:d.isRo=true
   ·cases d with
    |ro zs=>
     obtain⟨us,p,q⟩:=r
     refine⟨us,?_,q.mono (al _) hx⟩
     rcases p with⟨o',p⟩|p
     ·exact .inl ⟨o',by rw[bX (by rintro rfl;rw[ha]at p;cases p)];exact p⟩
     ·exact .inr p
    |lst _=>cases Dz
    |exc _=>cases Dz
    |dct _=>cases Dz
    |rod _=>cases Dz
    |tab _ _ _=>cases Dz
   ·refine r.keep (al _) hx (fun o ho=>?_) fun b' q h=>by rw[bX (by rintro rfl;rw[ha]at h;cases h)];exact h
    have hb:b≠a:=by
     rintro rfl
     exact e (S.nd i n b d _ h1 hn (by simpa using Dz) rfl h2 hm)
    rw[bX hb];exact ho
end
structure Rl(X:Cx)(μ:List Addr)(ρ:cf)(st:List am)(σ:St)(H:Hp):Prop where
 env:Paired (fun(o:Option W) (s:Option V)=>∀w,o=some w->∃v,s=some v/\bF X.K μ H w v) ρ σ
 sto:gT X.K X.mg μ st H
theorem qL{K:Frag}{μ μ':List Addr}{H H':Hp}(h:μ <+: μ')(x:eD K H H'):∀{ρ:cf} {σ:St},Paired (fun(o:Option W) (s:Option V)=>∀w,o=some w->∃v,s=some v/\bF K μ H w v) ρ σ ->
  Paired (fun(o:Option W) (s:Option V)=>∀w,o=some w->∃v,s=some v/\bF K μ' H' w v) ρ σ
 |_,_,.nil=>.nil
 |_,_,.cons a t=>.cons (fun w e=>let ⟨v,p,q⟩:=a w e;⟨v,p,q.mono h x⟩) (qL h x t)
theorem Rl.to{X:Cx}{μ μ':List Addr}{ρ:cf}{st bI:List am}{σ:St}{H H':Hp}(r:Rl X μ ρ st σ H)(h:μ <+: μ')(x:eD X.K H H')(s:gT X.K X.mg μ' bI H'):Rl X μ' ρ bI σ H':=⟨qL h x r.env,s⟩
theorem pV{K:Frag}{μ:List Addr}{H:Hp}:∀{ρ:cf} {σ:St} {i:Nat} {w:W},Paired (fun(o:Option W) (s:Option V)=>∀w,o=some w->∃v,s=some v/\bF K μ H w v) ρ σ->ρ[i]?=some (some w)->∃v,σ[i]?=some (some v)/\bF K μ H w v
 |_,_,_,_,.nil,e=>by simp at e
 |_,_,0,w,.cons a t,e=>by simp at e;obtain⟨v,p,q⟩:=a w e;exact⟨v,by simp[p],q⟩
 |_,_,i+1,w,.cons a t,e=>by simpa using pV (i:=i) t (by simpa using e)
theorem lh{K:Frag}{μ:List Addr}{H:Hp}{w:W}{v:V}(r:bF K μ H w v):∀{ρ:cf} {σ:St} (i:Nat),Paired (fun(o:Option W) (s:Option V)=>∀w,o=some w->∃v,s=some v/\bF K μ H w v) ρ σ ->
  Paired (fun(o:Option W) (s:Option V)=>∀w,o=some w->∃v,s=some v/\bF K μ H w v) (ρ.set i (some w)) (σ.set i (some v))
 |_,_,_,.nil=>.nil
 |_,_,0,.cons a t=>.cons (fun w' e=>⟨v,rfl,by cases e;exact r⟩) t
 |_,_,i+1,.cons a t=>.cons a (lh r i t)
structure rL(X:Cx)(pins:List (Addr×Obj))(σ:St)(c:Str)(H:Hp)(e:Value)(s:Shared):Prop where
 inv:bt X pins σ H s
 ex:∃x C t B,e=.ref x/\X.mg c=some C/\H x=none/\B.StaysIn s.heap/\B.get? x=none/\s.heap.FunFrames B X.stack /\
  (s.heap.TracedW B x C (.ref t)\/(∃oe vs,s.heap.get? x=some oe/\oe.cls=C/\oe.dict=none/\oe.data=.fields vs/\vs[1]?=some .none/\vs[0]?=some (.ref t))\/∃L,X.env.frame=some L/\s.heap.TracedAtW B x C (.ref t) (rawInt L)) /\
  ∀b o,s.heap.get? b=some o->(H b≠none\/((∃o0,X.s₀.heap.get? b=some o0)/\b∉X.fs/\b∉X.ex)\/((∃y,X.env.cells.lookup y=some b)/\b∉pL X.stack)\/∃p∈X.pn++pins,p.1=b)->B.get? b=some o
def XS(X:Cx)(c:Str)(μ:List Addr)(ρ:cf)(st:List am)(H:Hp):Prop:=
 ∀pins μ' σ' H' e s',μ <+: μ'->eD X.K H H'->Rl X μ' ρ st σ' H'->rL X pins σ' c H' e s'->X.xe e s'
def XE(X:Cx)(c:Str)(μ:List Addr)(st:List am)(σ:St)(H:Hp):Prop:=
 ∀pins μ' H' e s',μ <+: μ'->eD X.K H H'->gT X.K X.mg μ' st H'->rL X pins σ c H' e s'->X.xe e s'
theorem XE.mono{X:Cx}{c:Str}{μ μ1:List Addr}{st:List am}{σ:St}{H H1:Hp}(h:XE X c μ st σ H)(p:μ <+: μ1)(x:eD X.K H H1):XE X c μ1 st σ H1:=fun pins μ' H' e s' a b=>h pins μ' H' e s' (p.trans a) (x.trans b)
theorem XS.mono{X:Cx}{c:Str}{μ μ1:List Addr}{ρ:cf}{st:List am}{H H1:Hp}(h:XS X c μ ρ st H)(p:μ <+: μ1)(x:eD X.K H H1):XS X c μ1 ρ st H1:=fun pins μ' σ' H' e s' a b=>h pins μ' σ' H' e s' (p.trans a) (x.trans b)
theorem XS.toE{X:Cx}{c:Str}{μ:List Addr}{ρ:cf}{QZ st:List am}{σ:St}{H:Hp}(h:XS X c μ ρ st H)(r:Rl X μ ρ QZ σ H):XE X c μ st σ H:=fun pins μ' H' e s' a b s f=>h pins μ' σ H' e s' a b (r.to a b s) f
def RK{α β:Type}(X:Cx)(rel:List Addr->Hp->α->β->Prop)(μ:List Addr)(σ:St)(H:Hp)(Q:β->Hp->Prop):R α->Prop
 |.ok a bI=>∀μ' b H',μ <+: μ'->eD X.K H H'->gT X.K X.mg μ' bI H'->rel μ' H' a b->Q b H'
 |.ex c bI=>XE X c μ bI σ H
 |.bad=>False
theorem RK.mono{α β:Type}{X:Cx}{rel:List Addr->Hp->α->β->Prop}{μ μ1:List Addr}{σ:St}{H H1:Hp}{Q:β->Hp->Prop}{r:R α}(h:RK X rel μ σ H Q r)(p:μ <+: μ1)(x:eD X.K H H1):RK X rel μ1 σ H1 Q r:=by
 cases r with
 |ok a st=>exact fun μ' b H' a1 b1=>h μ' b H' (p.trans a1) (x.trans b1)
 |ex c st=>exact XE.mono h p x
 |bad=>exact h
def tG{α β:Type}(X:Cx)(rel:List Addr->Hp->α->β->Prop)(f:cf->List am->R α)(σ:St)(H:Hp)(Q:β->Hp->Prop):Prop:=
 ∃μ ρ st,Rl X μ ρ st σ H/\RK X rel μ σ H Q (f ρ st)
abbrev uQ(X:Cx):List Addr->Hp->W->V->Prop:=fun μ H w v=>bF X.K μ H w v
abbrev Rz(X:Cx):List Addr->Hp->List W->List V->Prop:=fun μ H w v=>RelWs X.K μ H w v
abbrev LS:List Addr->Hp->Bool->Bool->Prop:=fun _ _ a b=>a=b
abbrev tE(X:Cx)(f:FE):TE:=tG X (uQ X) f
abbrev tT(X:Cx)(f:FT):TT:=tG X LS f
abbrev RA(X:Cx)(f:FA):TA:=tG X (Rz X) f
theorem RK.bind{α β α' β':Type}{X:Cx}{rel:List Addr->Hp->α->β->Prop}{QC:List Addr->Hp->α'->β'->Prop}{μ:List Addr}{ρ:cf}{st:List am}{σ:St}{H:Hp}{r:R α}{k:α->List am->R α'}{Q:β'->Hp->Prop}{T:β->Hp->Prop}
  (h:RK X QC μ σ H Q (r.bind k)) (l:Rl X μ ρ st σ H)
  (hk:∀μ' bI x v H',μ <+: μ'->eD X.K H H'->Rl X μ' ρ bI σ H'->rel μ' H' x v->RK X QC μ' σ H' Q (k x bI)->T v H'):RK X rel μ σ H T r:=by
 cases r with
 |ok a bI=>exact fun μ' b H' p x s q=>hk μ' bI a b H' p x (l.to p x s) q (RK.mono h p x)
 |ex c bI=>exact h
 |bad=>exact h
def SK(X:Cx)(μ:List Addr)(H:Hp)(D:v5):RS->Prop
 |.nx ρ st=>∀μ' σ' H',μ <+: μ'->eD X.K H H'->Rl X μ' ρ st σ' H'->D.nx σ' H'
 |.bk ρ st=>∀μ' σ' H',μ <+: μ'->eD X.K H H'->Rl X μ' ρ st σ' H'->D.bk σ' H'
 |.ct ρ st=>∀μ' σ' H',μ <+: μ'->eD X.K H H'->Rl X μ' ρ st σ' H'->D.ct σ' H'
 |.rt w st=>∀μ' v H',μ <+: μ'->eD X.K H H'->gT X.K X.mg μ' st H'->bF X.K μ' H' w v->D.rt v H'
 |.ex c ρ st=>XS X c μ ρ st H
 |.bad=>False
theorem SK.mono{X:Cx}{μ μ1:List Addr}{H H1:Hp}{D:v5}{r:RS}(h:SK X μ H D r)(p:μ <+: μ1)(x:eD X.K H H1):SK X μ1 H1 D r:=by
 cases r with
 |nx ρ st=>exact fun μ' b H' a1 b1=>h μ' b H' (p.trans a1) (x.trans b1)
 |bk ρ st=>exact fun μ' b H' a1 b1=>h μ' b H' (p.trans a1) (x.trans b1)
 |ct ρ st=>exact fun μ' b H' a1 b1=>h μ' b H' (p.trans a1) (x.trans b1)
 |rt w st=>exact fun μ' b H' a1 b1=>h μ' b H' (p.trans a1) (x.trans b1)
 |ex c ρ st=>exact XS.mono h p x
 |bad=>exact h
def QR(X:Cx)(g:FS):TS:=fun D σ H=>∃μ ρ st,Rl X μ ρ st σ H/\SK X μ H D (g ρ st)
structure SE(X:Cx)(e:Expr)(f:FE):Prop where
 h:PE X e (tE X f)
structure ST(X:Cx)(e:Expr)(f:FT):Prop where
 h:PT X e (tT X f)
structure SW(X:Cx)(e:Expr)(f:FT):Prop where
 h:PW X e (tT X f)
structure SA(X:Cx)(es:List Expr)(f:FA):Prop where
 h:PA X es (RA X f)
structure SS(X:Cx)(s:Stmt)(g:FS):Prop where
 h:PS X s (QR X g)
structure SB(X:Cx)(s:List Stmt)(g:FS):Prop where
 h:Cm X s (QR X g)
theorem PE.imp{X:Cx}{e:Expr}{t t':TE}(h:PE X e t)(i:∀σ H Q,t' σ H Q->t σ H Q):PE X e t':=fun pins s σ H Q I q=>h pins s σ H Q I (i _ _ _ q)
theorem PT.imp{X:Cx}{e:Expr}{t t':TT}(h:PT X e t)(i:∀σ H Q,t' σ H Q->t σ H Q):PT X e t':=fun pins s σ H Q I q=>h pins s σ H Q I (i _ _ _ q)
theorem PW.imp{X:Cx}{e:Expr}{t t':TT}(h:PW X e t)(i:∀σ H Q,t' σ H Q->t σ H Q):PW X e t':=fun wh pins s σ H Q I q=>h wh pins s σ H Q I (i _ _ _ q)
theorem PA.imp{X:Cx}{e:List Expr}{t t':TA}(h:PA X e t)(i:∀σ H Q,t' σ H Q->t σ H Q):PA X e t':=fun pos pins s σ H Q I q=>h pos pins s σ H Q I (i _ _ _ q)
theorem PS.imp{X:Cx}{e:Stmt}{t t':TS}(h:PS X e t)(i:∀D σ H,t' D σ H->t D σ H):PS X e t':=fun pins s σ H D I q=>h pins s σ H D I (i _ _ _ q)
theorem Cm.imp{X:Cx}{e:List Stmt}{t t':TS}(h:Cm X e t)(i:∀D σ H,t' D σ H->t D σ H):Cm X e t':=fun pins s σ H D I q=>h pins s σ H D I (i _ _ _ q)
section
variable{X:Cx}{a b c e o:Expr}{es:List Expr}{pos p p2 gG dW:Pos}{x name:Str}{j:Nat}{fz:List Expr}{fa fb fc fe:FE}{ft fu:FT}{fs:FA}
def ah(i:Nat):FE:=fun ρ st=>match ρ[i]? with
 |some (some w)=>.ok w st
 |_=>.bad
theorem af(i:Nat){x:Str}{pos:Pos}(hN:X.N[i]?=some x:=by rfl)(hv:N1 X.env.scope x:=by first|exact Or.inl rfl|exact Or.inr (Or.inl rfl)|exact Or.inr (Or.inr rfl))(hd:(x==("__debug__":Str))=false:=by decide)
  (nK:(x==("__classdict__":Str))=false:=by decide):SE X (.Name x pos) (ah i):=⟨(pv i hN hv hd nK).imp fun σ H Q h=>by
 obtain⟨μ,ρ,st,r,h⟩:=h
 unfold ah at h
 cases e:ρ[i]? with
 |none=>rw[e]at h;exact h.elim
 |some ow=>
  cases ow with
  |none=>rw[e]at h;exact h.elim
  |some w=>
   rw[e]at h
   obtain⟨v,e1,e2⟩:=pV r.env e
   exact⟨v,e1,h μ v H (al _) eD.refl r.sto e2⟩⟩
def eC(w:W):FE:=fun _ st=>.ok w st
abbrev eI(n:Int):FE:=eC (.int n)
theorem OR{w:W}{v:V}(hc:PE X e (tC v))(hr:∀μ H,bF X.K μ H w v):SE X e (eC w):=⟨hc.imp fun σ H Q h=>by
 obtain⟨μ,ρ,st,r,h⟩:=h
 exact h μ v H (al _) eD.refl r.sto (hr _ _)⟩
theorem au{i:Int}:SE X (.Constant (.int i) j pos) (eC (.int i)):=OR KY fun _ _=>.int
theorem iZ{k:Bool}:SE X (.Constant (.bool k) j pos) (eC (.bl k)):=OR N3 fun _ _=>.bl
theorem OS:SE X (.Constant .none j pos) (eC .non):=OR KZ fun _ _=>.non
theorem mE{l:List Nat}(h:x=tx l:=by decide +kernel):SE X (.Constant (.str x) j pos) (eC (.str l)):=OR K0 fun _ _=>by rw[h];exact .str
theorem RB{w:W}(h:∃u v,X.mg x=some u/\cb v u/\∀μ H,bF X.K μ H w v)(hg:Gl X x:=by rfl)(hd:(x==("__debug__":Str))=false:=by decide):SE X (.Name x pos) (eC w):=by
 obtain⟨u,v,a,b,c⟩:=h
 exact OR (OI ⟨u,a,b⟩ hg hd) c
def e2(f:W->W->List am->R W)(fa fb:FE):FE:=fun ρ st=>(fa ρ st).bind fun x st=>(fb ρ st).bind fun y st=>f x y st
def DD(X:Cx)(μ:List Addr)(H:Hp)(Q:VK):R W->Prop
 |.ok w bI=>∀μ' v H',μ <+: μ'->eD X.K H H'->gT X.K X.mg μ' bI H'->bF X.K μ' H' w v->Q v H'
 |_=>False
def se{α:Type}:R α->Prop
 |.ex _ _=>False
 |_=>True
def RC(X:Cx)(f:W->W->List am->R W):R2:=fun x y H Q=>∃μ st wx wy,gT X.K X.mg μ st H/\bF X.K μ H wx x/\bF X.K μ H wy y/\DD X μ H Q (f wx wy st)
structure qG(X:Cx)(g:Value->Value->Sem Value)(f:W->W->List am->R W):Prop where
 h:lD X g (RC X f)
 n:∀x y st,se (f x y st)
theorem tj{μ:List Addr}{σ:St}{H:Hp}{Q:VK}{r:R W}(h:RK X (uQ X) μ σ H Q r)(n:se r):DD X μ H Q r:=by
 cases r with
 |ok a st=>exact h
 |ex c st=>exact n.elim
 |bad=>exact h
theorem Bw{f:W->W->List am->R W}{σ:St}{H:Hp}{Q:VK}(n:∀x y st,se (f x y st))(h:tE X (e2 f fa fb) σ H Q):Of (RC X f) (tE X fa) (tE X fb) σ H Q:=by
 obtain⟨μ,ρ,st,l,h⟩:=h
 refine⟨μ,ρ,st,l,RK.bind h l fun μ1 st1 x v H1 p1 x1 l1 q1 h1=>⟨μ1,ρ,st1,l1,RK.bind h1 l1 fun μ2 st2 y u H2 p2 x2 l2 q2 h2=>?_⟩⟩
 exact⟨μ2,st2,x,y,l2.sto,q1.mono p2 x2,q2,tj h2 (n _ _ _)⟩
theorem bv{op:Operator}{f:W->W->List am->R W}(ho:qG X (binaryOp op) f)(ha:SE X a fa)(hb:SE X b fb):SE X (.BinOp a op b pos) (e2 f fa fb):=⟨(Og ho.h ha.h hb.h).imp fun _ _ _ h=>Bw ho.n h⟩
theorem rM{op:CmpOp}{f:W->W->List am->R W}(ho:qG X (compareOp op) f)(ha:SE X a fa)(hb:SE X b fb)(hm:behindInMarks op b=false:=by first|exact DU _|rfl):SE X (.Compare a [op] [b] pos) (e2 f fa fb):=⟨(HN ho.h ha.h hb.h hm).imp fun _ _ _ h=>Bw ho.n h⟩
def eZ(fa:FE):FT:=fun ρ st=>(fa ρ st).bind fun x st=>match x with
 |.bl k=>.ok k st
 |_=>.bad
theorem tm{σ:St}{H:Hp}{Q:Bool->Hp->Prop}(h:tT X (eZ fa) σ H Q):tE X fa σ H fun x H1=>∃k,x=.bl k/\Q k H1:=by
 obtain⟨μ,ρ,st,l,h⟩:=h
 refine⟨μ,ρ,st,l,RK.bind h l fun μ1 st1 x v H1 p1 x1 l1 q1 h1=>?_⟩
 cases x with
 |bl k=>exact⟨k,q1.blE,h1 μ1 k H1 (al _) eD.refl l1.sto rfl⟩
 |_=>exact h1.elim
theorem bQ{op:CmpOp}{f:W->W->List am->R W}(ho:qG X (compareOp op) f)(ha:SE X a fa)(hb:SE X b fb)(hm:behindInMarks op b=false:=by first|exact DU _|rfl):ST X (.Compare a [op] [b] pos) (eZ (e2 f fa fb)):=⟨(HP ho.h ha.h hb.h hm).imp fun σ H Q h=>by
 have h':tE X (e2 f fa fb) σ H fun x H1=>∃k,x=.bl k/\Q k H1:=tm h
 exact Bw ho.n h'⟩
theorem iq(h:SE X e fe)(he:∀uC,isTrue e X.env uC=(do let v <- uC;standAt e.pos;holding [v] (truthy v)):=by intro _;rfl):ST X e (eZ fe):=⟨(K3 h.h he).imp fun σ H Q h=>tm h⟩
def Ei(t u:FT):FT:=fun ρ st=>(t ρ st).bind fun k st=>if k then u ρ st else .ok false st
def uR(t u:FT):FT:=fun ρ st=>(t ρ st).bind fun k st=>if k then .ok true st else u ρ st
def zK(t:FT):FT:=fun ρ st=>(t ρ st).bind fun k st=>.ok (!k) st
theorem wg(ha:ST X a ft):SW X (.BoolOp .And [a] pos) ft:=⟨HC ha.h⟩
theorem ng(ha:ST X a ft):SW X (.BoolOp .Or [a] pos) ft:=⟨K4 ha.h⟩
theorem Ad(ha:ST X a ft)(hb:SW X (.BoolOp .And (b::fz) pos) fu):SW X (.BoolOp .And (a::b::fz) pos) (Ei ft fu):=⟨(K5 ha.h hb.h).imp fun σ H Q h=>by
 obtain⟨μ,ρ,st,l,h⟩:=h
 refine⟨μ,ρ,st,l,RK.bind h l fun μ1 st1 x v H1 p1 x1 l1 q1 h1=>?_⟩
 cases q1
 cases x with
 |true=>exact⟨μ1,ρ,st1,l1,h1⟩
 |false=>exact h1 μ1 false H1 (al _) eD.refl l1.sto rfl⟩
theorem jX(ha:ST X a ft)(hb:SW X (.BoolOp .Or (b::fz) pos) fu):SW X (.BoolOp .Or (a::b::fz) pos) (uR ft fu):=⟨(N5 ha.h hb.h).imp fun σ H Q h=>by
 obtain⟨μ,ρ,st,l,h⟩:=h
 refine⟨μ,ρ,st,l,RK.bind h l fun μ1 st1 x v H1 p1 x1 l1 q1 h1=>?_⟩
 cases q1
 cases x with
 |false=>exact⟨μ1,ρ,st1,l1,h1⟩
 |true=>exact h1 μ1 true H1 (al _) eD.refl l1.sto rfl⟩
theorem tu(h:SW X e ft):ST X e ft:=⟨h.h.pt⟩
theorem ju(ha:ST X a ft):ST X (.UnaryOp .Not a pos) (zK ft):=⟨(K6 ha.h).imp fun σ H Q h=>by
 obtain⟨μ,ρ,st,l,h⟩:=h
 refine⟨μ,ρ,st,l,RK.bind h l fun μ1 st1 x v H1 p1 x1 l1 q1 h1=>?_⟩
 cases q1
 exact h1 μ1 _ H1 (al _) eD.refl l1.sto rfl⟩
def Ae(fa fb:FE):FE:=fun ρ st=>(fa ρ st).bind fun x st=>match x with
 |.bl true=>fb ρ st
 |.bl false=>.ok (.bl false) st
 |_=>.bad
def Iu(fa:FE):FE:=fun ρ st=>(fa ρ st).bind fun x st=>match x with
 |.bl k=>.ok (.bl (!k)) st
 |_=>.bad
theorem Ej{op:BoolOp}(h:SE X a fa):SE X (.BoolOp op [a] pos) fa:=⟨K7 h.h⟩
theorem Bx(ha:SE X a fa)(hb:SE X (.BoolOp .And (b::fz) pos) fb):SE X (.BoolOp .And (a::b::fz) pos) (Ae fa fb):=⟨(K8 ha.h hb.h).imp fun σ H Q h=>by
 obtain⟨μ,ρ,st,l,h⟩:=h
 refine⟨μ,ρ,st,l,RK.bind h l fun μ1 st1 x v H1 p1 x1 l1 q1 h1=>?_⟩
 cases x with
 |bl k=>
  refine⟨k,q1.blE,?_⟩
  cases k with
  |true=>exact⟨μ1,ρ,st1,l1,h1⟩
  |false=>exact h1 μ1 _ H1 (al _) eD.refl l1.sto .bl
 |_=>exact h1.elim⟩
theorem OT(ha:SE X a fa):SE X (.UnaryOp .Not a pos) (Iu fa):=⟨(K9 ha.h).imp fun σ H Q h=>by
 obtain⟨μ,ρ,st,l,h⟩:=h
 refine⟨μ,ρ,st,l,RK.bind h l fun μ1 st1 x v H1 p1 x1 l1 q1 h1=>?_⟩
 cases x with
 |bl k=>exact⟨k,q1.blE,h1 μ1 _ H1 (al _) eD.refl l1.sto .bl⟩
 |_=>exact h1.elim⟩
def W.isNon:W->Bool
 |.non=>true
 |_=>false
def Af(fa:FE):FE:=fun ρ st=>(fa ρ st).bind fun x st=>.ok (.bl x.isNon) st
def JO(fa:FE):FE:=fun ρ st=>(fa ρ st).bind fun x st=>.ok (.bl (!x.isNon)) st
theorem OU{μ:List Addr}{H:Hp}{w:W}{v:V}(r:bF X.K μ H w v):decide (v=.non)=w.isNon:=by
 cases w with
 |non=>rw[r.nonE];rfl
 |bl b=>rw[r.blE];rfl
 |int b=>rw[r.intE];rfl
 |str b=>rw[r.strE];rfl
 |tup b=>obtain⟨p,vs,rfl,_⟩:=r.tupE;rfl
 |loc b=>obtain⟨p,_,rfl⟩:=r.locE;rfl
theorem JP{σ:St}{H:Hp}{Q:VK}(h:tE X (Af fa) σ H Q):N4 (tE X fa) σ H Q:=by
 obtain⟨μ,ρ,st,l,h⟩:=h
 refine⟨μ,ρ,st,l,RK.bind h l fun μ1 st1 x v H1 p1 x1 l1 q1 h1=>?_⟩
 show Q (.bl (decide (v=.non))) H1
 rw[OU q1]
 exact h1 μ1 _ H1 (al _) eD.refl l1.sto .bl
theorem OV{jA:Pos}(ha:SE X a fa):SE X (.Compare a [.Is] [.Constant .none j jA] pos) (Af fa):=⟨(K1 (DI ha.h)).imp fun _ _ _ h=>JP h⟩
theorem LU{jA:Pos}(ha:SE X a fa):ST X (.Compare a [.Is] [.Constant .none j jA] pos) (eZ (Af fa)):=⟨(K2 (DI ha.h)).imp fun _ _ _ h=>JP (tm h)⟩
def aD:FA:=fun _ st=>.ok [] st
def ai(fa:FE)(fs:FA):FA:=fun ρ st=>(fa ρ st).bind fun x st=>(fs ρ st).bind fun xs st=>.ok (x::xs) st
theorem ao:SA X [] aD:=⟨ph.imp fun σ H Q h=>by
 obtain⟨μ,ρ,st,l,h⟩:=h
 exact h μ [] H (al _) eD.refl l.sto .nilI⟩
theorem ac(ha:SE X e fe)(hr:SA X es fs)(hs:starEach (e::es) X.env=(false,eval e X.env)::starEach es X.env:=by rfl):SA X (e::es) (ai fe fs):=⟨(iC ha.h hr.h hs).imp fun σ H Q h=>by
 obtain⟨μ,ρ,st,l,h⟩:=h
 refine⟨μ,ρ,st,l,RK.bind h l fun μ1 st1 x v H1 p1 x1 l1 q1 h1=>⟨μ1,ρ,st1,l1,RK.bind h1 l1 fun μ2 st2 xs vs H2 p2 x2 l2 q2 h2=>?_⟩⟩
 exact h2 μ2 _ H2 (al _) eD.refl l2.sto (.consI (q1.mono p2 x2) q2)⟩
def OW(zs:List (List Nat)):FA:=fun _ st=>.ok (zs.map W.str) st
def nh(ws:List W)(st:List am):R W:=if ws.length<=kJ then .ok (.tup ws) st else .bad
def mF(ws:List W)(st:List am):R W:=if ws.length<=kJ then .ok (.loc st.length) (st++[.lst ws])else .bad
def dy(fs:FA):FE:=fun ρ st=>(fs ρ st).bind fun ws st=>nh ws st
def kF(fs:FA):FE:=fun ρ st=>(fs ρ st).bind fun ws st=>mF ws st
theorem gT.newLst{K:Frag}{mg:Str->Option Value}{μ:List Addr}{st:List am}{H:Hp}(S:gT K mg μ st H){p:Addr}{ws:List W}{vs:List V}(hp:H p=none)(r:RelWs K μ H ws vs):gT K mg (μ++[p]) (st++[.lst ws]) (eS H p (.lst vs)):=
 S.push hp ⟨vs,dC,r.mono (aC _ _) (fS.same (cN hp _))⟩
theorem ni{K:Frag}{mg:Str->Option Value}{μ:List Addr}{st:List am}{H H':Hp}(S:gT K mg μ st H){p:Addr}:bF K (μ++[p]) H' (.loc st.length) (.ref p):=.locI (by rw[S.len];simp)
theorem Ek{μ:List Addr}{st:List am}{σ:St}{H:Hp}{Q:VK}{ws:List W}{vs:List V}(S:gT X.K X.mg μ st H)(q:RelWs X.K μ H ws vs)(h:RK X (uQ X) μ σ H Q (nh ws st)):vs.length<=sizeLine/\∀p H2,H p=none->H2=eS H p (.tup vs)->Q (.ref p) H2:=by
 unfold nh at h
 by_cases hz:ws.length<=kJ
 ·rw[aB hz]at h
  refine⟨by rw[<- q.len];exact lI hz,fun p H2 hp e=>?_⟩
  subst e
  have x:=fS.same (K:=X.K) (cN hp (.tup vs))
  exact h μ _ _ (al _) x (S.same (cN hp _)) (.tupI fS.new (q.mono (al _) x))
 ·rw[aE hz]at h;exact h.elim
theorem tw{μ:List Addr}{st:List am}{σ:St}{H:Hp}{Q:VK}{ws:List W}{vs:List V}(S:gT X.K X.mg μ st H)(q:RelWs X.K μ H ws vs)(h:RK X (uQ X) μ σ H Q (mF ws st)):vs.length<=sizeLine/\∀p H2,H p=none->H2=eS H p (.lst vs)->Q (.ref p) H2:=by
 unfold mF at h
 by_cases hz:ws.length<=kJ
 ·rw[aB hz]at h
  refine⟨by rw[<- q.len];exact lI hz,fun p H2 hp e=>?_⟩
  subst e
  exact h (μ++[p]) _ _ (aC _ _) (fS.same (cN hp _)) (S.newLst hp q) (ni S)
 ·rw[aE hz]at h;exact h.elim
theorem cM{k:Nat}(h:SA X es fs):SE X (.Tuple es k pos) (dy fs):=⟨(Bs h.h).imp fun σ H Q h=>by
 obtain⟨μ,ρ,st,l,h⟩:=h
 exact⟨μ,ρ,st,l,RK.bind h l fun μ1 st1 x v H1 p1 x1 l1 q1 h1=>Ek l1.sto q1 h1⟩⟩
theorem iE(h:SA X es fs):SE X (.List es pos) (kF fs):=⟨(Ik h.h).imp fun σ H Q h=>by
 obtain⟨μ,ρ,st,l,h⟩:=h
 exact⟨μ,ρ,st,l,RK.bind h l fun μ1 st1 x v H1 p1 x1 l1 q1 h1=>tw l1.sto q1 h1⟩⟩
end
section
variable{X:Cx}
theorem jL{μ:List Addr}{st:List am}{H:Hp}{Q:VK}{i:Int}(S:gT X.K X.mg μ st H)(h:DD X μ H Q (.ok (.int i) st)):Q (.int i) H:=h μ _ H (al _) eD.refl S .int
theorem iF{μ:List Addr}{st:List am}{H:Hp}{Q:VK}{i:Bool}(S:gT X.K X.mg μ st H)(h:DD X μ H Q (.ok (.bl i) st)):Q (.bl i) H:=h μ _ H (al _) eD.refl S .bl
theorem pW{μ:List Addr}{st:List am}{H:Hp}{Q:VK}{i:List Nat}(S:gT X.K X.mg μ st H)(h:DD X μ H Q (.ok (.str i) st)):Q (.str (tx i)) H:=h μ _ H (al _) eD.refl S .str
theorem LV{μ:List Addr}{σ:St}{H:Hp}{Q:VK}{r:R W}(h:DD X μ H Q r):RK X (uQ X) μ σ H Q r:=by
 cases r with
 |ok a st=>exact h
 |ex c st=>exact h.elim
 |bad=>exact h
def CQ(C:Int->Int->Prop)[∀i j,Decidable (C i j)](f:Int->Int->Int):W->W->List am->R W
 |.int i,.int j,st=>if C i j then .ok (.int (f i j)) st else .bad
 |_,_,_=>.bad
theorem yf{g:Value->Value->Sem Value}{C C':Int->Int->Prop}[∀i j,Decidable (C' i j)]{f:Int->Int->Int}(h:lD X g (rI C fun i j=>.int (f i j)))(hC:∀i j,C' i j->C i j):qG X g (CQ C' f):=⟨h.imp fun x y H Q ⟨μ,st,wx,wy,S,rx,ry,q⟩=>by
 cases wx with
 |int i=>
  cases wy with
  |int j=>
   simp only[CQ]at q
   by_cases c:C' i j
   ·rw[aB c]at q;exact⟨i,j,rx.intE,ry.intE,hC i j c,jL S q⟩
   ·rw[aE c]at q;exact q.elim
  |_=>exact q.elim
 |_=>cases wy<;>exact q.elim,fun x y st=>by
 unfold CQ
 split
 ·split<;>trivial
 ·trivial⟩
def CS(f:Int->Int->Bool):W->W->List am->R W
 |.int i,.int j,st=>.ok (.bl (f i j)) st
 |_,_,_=>.bad
theorem El{g:Value->Value->Sem Value}{f:Int->Int->Bool}(h:lD X g (DR fun i j=>.bl (f i j))):qG X g (CS f):=⟨h.imp fun x y H Q ⟨μ,st,wx,wy,S,rx,ry,q⟩=>by
 cases wx with
 |int i=>
  cases wy with
  |int j=>exact⟨i,j,rx.intE,ry.intE,iF S q⟩
  |_=>exact q.elim
 |_=>cases wy<;>exact q.elim,fun x y st=>by
 unfold CS
 split<;>trivial⟩
abbrev wj(i j:Int):Prop:=(-(2^64)<i/\i<2^64)\/(-(2^64)<j/\j<2^64)
abbrev jM:=CQ (fun _ _=>True) fun i j=>i-j
abbrev OX:=CQ wj fun i j=>i*j
abbrev dQ:=CQ (fun _ j=>0<j) fun i j=>i%j
abbrev nj:=CQ (fun _ j=>0<j/\j<1073741824) fun i j=>i/j
abbrev OY:=CQ (fun i j=>0<=j/\j<=1000000/\i.natAbs<2^64) fun i j=>i^j.toNat
abbrev tz:=CQ (fun i j=>0<=j/\j<=1000000/\i.natAbs<2^64) fun i j=>i*2^j.toNat
abbrev yg:=CQ (fun _ j=>0<=j) fun i j=>i/2^j.toNat
abbrev yh:=CQ (fun _ _=>True) fun i j=>Builtin.bitAnd i j
theorem Em{g:Value->Value->Sem Value}{f:Int->Int->V}(h:lD X g (DR f)):lD X g (rI (fun _ _=>True) f):=h.imp fun _ _ _ _ ⟨i,j,a,b,_,q⟩=>⟨i,j,a,b,q⟩
theorem kL:qG X (binaryOp .Sub) jM:=yf (Em Ll) fun _ _ _=>trivial
theorem OZ:qG X (binaryOp .Mult) OX:=yf Lm fun _ _ h=>h
theorem dP:qG X (binaryOp .Mod) dQ:=yf Ln fun _ _ h=>h
theorem tD:qG X (binaryOp .FloorDiv) nj:=yf HM fun _ _ h=>h
theorem O0:qG X (binaryOp .Pow) OY:=yf Lo fun _ _ h=>h
theorem By:qG X (binaryOp .LShift) tz:=yf DS fun _ _ h=>h
theorem JQ:qG X (binaryOp .RShift) yg:=yf Lp fun _ _ h=>h
theorem En:qG X (binaryOp .BitAnd) yh:=yf (Em Lq) fun _ _ _=>trivial
def cF:W->W->List am->R W
 |.int i,.int j,st=>.ok (.int (i+j)) st
 |.str a,.str b,st=>if a.length+b.length<=kJ then .ok (.str (a++b)) st else .bad
 |.tup a,.tup b,st=>nh (a++b) st
 |.loc n,.loc m,st=>match st[n]?,st[m]? with
  |some (.lst a),some (.lst b)=>mF (a++b) st
  |_,_=>.bad
 |_,_,_=>.bad
theorem Iv(ws:List W)(st:List am):se (nh ws st):=by unfold nh;split<;>trivial
theorem Iw(ws:List W)(st:List am):se (mF ws st):=by unfold mF;split<;>trivial
theorem cy:qG X (binaryOp .Add) cF:=⟨fun pins s σ H x y v u Q I rv ru ⟨μ,st,wx,wy,S,rx,ry,q⟩=>by
 cases wx with
 |int i=>
  cases wy with
  |int j=>exact Lk pins s σ H x y v u Q I rv ru ⟨i,j,rx.intE,ry.intE,jL S q⟩
  |_=>exact q.elim
 |str a=>
  cases wy with
  |str b=>
   simp only[cF]at q
   by_cases c:a.length+b.length<=kJ
   ·rw[aB c]at q
    exact zU pins s σ H x y v u Q I rv ru ⟨_,_,rx.strE,ry.strE,by rw[ip,ip];exact lI c,by rw[z5];exact pW S q⟩
   ·rw[aE c]at q;exact q.elim
  |_=>exact q.elim
 |tup a=>
  cases wy with
  |tup b=>
   obtain⟨p1,vs1,rfl,h1,r1⟩:=rx.tupE
   obtain⟨p2,vs2,rfl,h2,r2⟩:=ry.tupE
   have q':DD X μ H Q (nh (a++b) st):=q
   unfold nh at q'
   by_cases c:(a++b).length<=kJ
   ·rw[aB c]at q'
    refine LQ.h pins s σ H _ _ v u Q I rv ru ⟨p1,p2,vs1,vs2,rfl,rfl,h1,h2,by rw[<- r1.len,<- r2.len,<- aK];exact lI c,fun p H2 e t=>?_⟩
    exact q' μ _ _ (al _) (fS.same e) (S.same e) (.tupI t ((r1.app r2).mono (al _) (fS.same e)))
   ·rw[aE c]at q';exact q'.elim
  |_=>exact q.elim
 |loc n=>
  cases wy with
  |loc m=>
   simp only[cF]at q
   cases e1:st[n]? with
   |none=>rw[e1]at q;exact q.elim
   |some c1=>
    cases e2:st[m]? with
    |none=>rw[e1,e2]at q;cases c1<;>exact q.elim
    |some c2=>
     cases c1 with
     |lst a=>
      cases c2 with
      |lst b=>
       rw[e1,e2]at q
       obtain⟨a1,g1,vs1,k1,r1⟩:=S.get e1
       obtain⟨a2,g2,vs2,k2,r2⟩:=S.get e2
       obtain⟨b1,f1,rfl⟩:=rx.locE
       obtain⟨b2,f2,rfl⟩:=ry.locE
       rw[g1]at f1;cases f1
       rw[g2]at f2;cases f2
       obtain⟨hz,qq⟩:=tw (σ:=σ) S (r1.app r2) (LV q)
       exact Im pins s σ H _ _ v u Q I rv ru ⟨a1,a2,vs1,vs2,rfl,rfl,k1,k2,by rw[<- aK];exact hz,qq⟩
      |_=>rw[e1,e2]at q;exact q.elim
     |_=>rw[e1,e2]at q;exact q.elim
  |_=>exact q.elim
 |_=>cases wy<;>exact q.elim,fun x y st=>by
 unfold cF
 split
 ·trivial
 ·split<;>trivial
 ·exact Iv _ _
 ·split
  ·exact Iw _ _
  ·trivial
 ·trivial⟩
abbrev LW:=CS fun i j=>decide (i<j)
abbrev yi:=CS fun i j=>decide (j<i)
abbrev QT:=CS fun i j=>decide (j<=i)
theorem w_lt:qG X (compareOp .Lt) LW:=El Oi
theorem uS:qG X (compareOp .Gt) yi:=El Ol
theorem LX:qG X (compareOp .GtE) QT:=El Om
end
mutual
def db:W->W->Option Bool
 |.non,.non=>some true
 |.bl a,.bl b=>some (a==b)
 |.bl a,.int b=>some ((if a then 1 else 0)==b)
 |.int a,.bl b=>some (a==(if b then 1 else 0))
 |.int a,.int b=>some (a==b)
 |.str a,.str b=>some (a==b)
 |.tup a,.tup b=>eqWs a b
 |.loc _,_=>none
 |.non,.loc _=>none
 |.bl _,.loc _=>none
 |.int _,.loc _=>none
 |.str _,.loc _=>none
 |.tup _,.loc _=>none
 |.non,.bl _=>some false
 |.non,.int _=>some false
 |.non,.str _=>some false
 |.non,.tup _=>some false
 |.bl _,.non=>some false
 |.bl _,.str _=>some false
 |.bl _,.tup _=>some false
 |.int _,.non=>some false
 |.int _,.str _=>some false
 |.int _,.tup _=>some false
 |.str _,.non=>some false
 |.str _,.bl _=>some false
 |.str _,.int _=>some false
 |.str _,.tup _=>some false
 |.tup _,.non=>some false
 |.tup _,.bl _=>some false
 |.tup _,.int _=>some false
 |.tup _,.str _=>some false
def eqWs:List W->List W->Option Bool
 |[],[]=>some true
 |[],_::_=>some false
 |_::_,[]=>some false
 |x::xs,y::ys=>match db x y,eqWs xs ys with
  |some a,some b=>some (a&&b)
  |_,_=>none
end
mutual
def W.dep:W->Nat
 |.tup ws=>depWs ws+1
 |_=>0
def depWs:List W->Nat
 |[]=>0
 |w::ws=>max w.dep (depWs ws)
end
theorem lJ:∀(xs ys:List W) (b:Bool),eqWs xs ys=some b->∃e:Nat->Bool,(∀j (h1:j<xs.length) (h2:j<ys.length),db xs[j] ys[j]=some (e j))/\((List.range (min xs.length ys.length)).all e&&xs.length==ys.length)=b
 |[],[],b,h=>by unfold eqWs at h;cases h;exact⟨fun _=>true,fun j h1=>absurd h1 (bz _),rfl⟩
 |[],y::ys,b,h=>by unfold eqWs at h;cases h;exact⟨fun _=>true,fun j h1=>absurd h1 (bz _),by simp⟩
 |x::xs,[],b,h=>by unfold eqWs at h;cases h;exact⟨fun _=>true,fun j _ h1=>absurd h1 (bz _),by simp⟩
 |x::xs,y::ys,b,h=>by
  unfold eqWs at h
  cases e1:db x y with
  |none=>rw[e1]at h;simp at h
  |some a=>
   cases e2:eqWs xs ys with
   |none=>rw[e1,e2]at h;simp at h
   |some c=>
    rw[e1,e2]at h
    simp at h
    obtain⟨e,he,hb⟩:=lJ xs ys c e2
    refine⟨fun j=>match j with|0=>a|j+1=>e j,fun j h1 h2=>?_,?_⟩
    ·cases j with
     |zero=>exact e1
     |succ j=>exact he j (iU h1) (iU h2)
    ·have m:min (x::xs).length (y::ys).length=min xs.length ys.length+1:=by simp only[bf];omega
     rw[m,mj,List.all_cons,List.all_map,<- h,<- hb]
     simp[iV,Bool.and_assoc]
theorem Eo{X:Cx}{pins:List (Addr×Obj)}{σ:St}{H:Hp}{s:Shared}{μ:List Addr}(I:bt X pins σ H s):∀(n:Nat) (a b:W) (x:V) (k:Bool),a.dep<=n->bF X.K μ H a x->bF X.K μ H b x->db a b=some k->k=true:=by
 intro n
 induction n with
 |zero=>
  intro a b x k hn ra rb he
  cases a with
  |tup i=>unfold W.dep at hn;omega
  |non=>cases ra.nonE;cases b<;>first|(unfold db at he;cases he;rfl)|cases rb.blE|cases rb.intE|cases rb.strE|(obtain⟨_,_,z,_⟩:=rb.tupE;cases z)|(unfold db at he;cases he)
  |bl i=>cases ra.blE;cases b<;>first|(cases rb.blE;unfold db at he;simp at he;exact he)|cases rb.nonE|cases rb.intE|cases rb.strE|(obtain⟨_,_,z,_⟩:=rb.tupE;cases z)|(unfold db at he;cases he)
  |int i=>cases ra.intE;cases b<;>first|(cases rb.intE;unfold db at he;simp at he;exact he)|cases rb.nonE|cases rb.blE|cases rb.strE|(obtain⟨_,_,z,_⟩:=rb.tupE;cases z)|(unfold db at he;cases he)
  |str i=>cases ra.strE;cases b<;>first|(have z:=rb.strE;injection z with z;rw[z6.mp z]at he;unfold db at he;simp at he;exact he)|cases rb.nonE|cases rb.blE|cases rb.intE|(obtain⟨_,_,z,_⟩:=rb.tupE;cases z)|(unfold db at he;cases he)
  |loc i=>cases b<;>(unfold db at he;cases he)
 |succ n ih=>
  intro a b x k hn ra rb he
  cases a with
  |non=>cases ra.nonE;cases b<;>first|(unfold db at he;cases he;rfl)|cases rb.blE|cases rb.intE|cases rb.strE|(obtain⟨_,_,z,_⟩:=rb.tupE;cases z)|(unfold db at he;cases he)
  |bl i=>cases ra.blE;cases b<;>first|(cases rb.blE;unfold db at he;simp at he;exact he)|cases rb.nonE|cases rb.intE|cases rb.strE|(obtain⟨_,_,z,_⟩:=rb.tupE;cases z)|(unfold db at he;cases he)
  |int i=>cases ra.intE;cases b<;>first|(cases rb.intE;unfold db at he;simp at he;exact he)|cases rb.nonE|cases rb.blE|cases rb.strE|(obtain⟨_,_,z,_⟩:=rb.tupE;cases z)|(unfold db at he;cases he)
  |str i=>cases ra.strE;cases b<;>first|(have z:=rb.strE;injection z with z;rw[z6.mp z]at he;unfold db at he;simp at he;exact he)|cases rb.nonE|cases rb.blE|cases rb.intE|(obtain⟨_,_,z,_⟩:=rb.tupE;cases z)|(unfold db at he;cases he)
  |loc i=>cases b<;>(unfold db at he;cases he)
  |tup i=>
   obtain⟨p',Hz,rfl,hS',r'⟩:=ra.tupE
   cases b with
   |tup z=>
    obtain⟨p,vs,e,hS,r⟩:=rb.tupE
    cases e
    obtain rfl:=I.tuple_inj hS hS'
    have he':eqWs i z=some k:=by unfold db at he;exact he
    have dn:depWs i<=n:=by unfold W.dep at hn;omega
    have key:∀(i z:List W) (vs:List V) (k:Bool),depWs i<=n->RelWs X.K μ H i vs->RelWs X.K μ H z vs->eqWs i z=some k->k=true:=by
     intro i
     induction i with
     |nil=>
      intro z vs k _ r' r he
      have e1:=r'.nilE
      subst e1
      cases z with
      |nil=>unfold eqWs at he;cases he;rfl
      |cons _ _=>have e2:=r.len;simp at e2
     |cons w i ih2=>
      intro z vs k dn r' r he
      obtain⟨x,xs,rfl,rx,rxs⟩:=r'.consE
      cases z with
      |nil=>have e2:=r.len;simp at e2
      |cons y z=>
       obtain⟨x2,xs2,e3,ry,rys⟩:=r.consE
       cases e3
       unfold eqWs at he
       cases e1:db w y with
       |none=>rw[e1]at he;simp at he
       |some k1=>
        cases e2:eqWs i z with
        |none=>rw[e1,e2]at he;simp at he
        |some k2=>
         rw[e1,e2]at he
         simp at he
         unfold depWs at dn
         have q1:=ih w y x k1 (by omega) rx ry e1
         have q2:=ih2 z xs k2 (by omega) rxs rys e2
         rw[<- he,q1,q2];rfl
    exact key i z _ k dn r' r he'
   |non=>cases rb.nonE
   |bl z=>cases rb.blE
   |int z=>cases rb.intE
   |str z=>cases rb.strE
   |loc z=>unfold db at he;cases he
theorem li:∀{ws:List W} {j:Nat} (h:j<ws.length),ws[j].dep<=depWs ws
 |w::ws,0,_=>by unfold depWs;exact Nat.le_max_left _ _
 |w::ws,j+1,h=>by unfold depWs;exact a7 (li (j:=j) (iU h)) (Nat.le_max_right _ _)
theorem vo{X:Cx}{pins:List (Addr×Obj)}{σ:St}{H:Hp}{s:Shared}{μ:List Addr}(I:bt X pins σ H s)(n:Nat)
  (ih:∀m,m+1=n->∀(a b:W) (A:Around) (x y:V) (u v:Value) (k:Bool),a.dep<=m->bF X.K μ H a x->bF X.K μ H b y->cb x u->cb y v->A.units+m<cLine->db a b=some k->SeqAt.EqAt A s u v k) :
  ∀(a b:W) (A:Around) (x y:V) (u v:Value) (k:Bool),a.dep<=n->bF X.K μ H a x->bF X.K μ H b y->cb x u->cb y v->A.units+n<cLine->db a b=some k->SeqAt.EqAt A s u v k:=by
 intro a b A x y u v k hn ra rb ru rv hu he
 have hu0:A.units<cLine:=by omega
 cases a with
 |non=>
  cases ra.nonE;cases ru
  cases b with
  |non=>cases rb.nonE;cases rv;unfold db at he;cases he;exact SeqAt.EqAt.same _
  |bl z=>cases rb.blE;cases rv;unfold db at he;cases he;exact SeqAt.EqAt.none_bool z
  |int z=>cases rb.intE;obtain⟨t,rfl⟩:=rv;unfold db at he;cases he;exact SeqAt.EqAt.none_int z t
  |str z=>cases rb.strE;obtain⟨t,rfl⟩:=rv;unfold db at he;cases he;exact SeqAt.EqAt.none_str _ t
  |tup z=>obtain⟨p,vs,rfl,hS,_⟩:=rb.tupE;cases rv;obtain⟨bJ,_,ht,_⟩:=I.tuple hS;unfold db at he;cases he;exact SeqAt.EqAt.none_tuple ht hu0
  |loc z=>unfold db at he;cases he
 |bl i=>
  cases ra.blE;cases ru
  cases b with
  |non=>cases rb.nonE;cases rv;unfold db at he;cases he;exact SeqAt.EqAt.bool_none i
  |bl z=>cases rb.blE;cases rv;unfold db at he;cases he;exact SeqAt.EqAt.bool_bool i z
  |int z=>cases rb.intE;obtain⟨t,rfl⟩:=rv;unfold db at he;cases he;exact SeqAt.EqAt.bool_int i z t
  |str z=>cases rb.strE;obtain⟨t,rfl⟩:=rv;unfold db at he;cases he;exact SeqAt.EqAt.bool_str i _ t
  |tup z=>obtain⟨p,vs,rfl,hS,_⟩:=rb.tupE;cases rv;obtain⟨bJ,_,ht,_⟩:=I.tuple hS;unfold db at he;cases he;exact SeqAt.EqAt.bool_tuple i ht hu0
  |loc z=>unfold db at he;cases he
 |int i=>
  cases ra.intE;obtain⟨t',rfl⟩:=ru
  cases b with
  |non=>cases rb.nonE;cases rv;unfold db at he;cases he;exact SeqAt.EqAt.int_none i t'
  |bl z=>cases rb.blE;cases rv;unfold db at he;cases he;exact SeqAt.EqAt.int_bool i t' z
  |int z=>cases rb.intE;obtain⟨t,rfl⟩:=rv;unfold db at he;cases he;exact SeqAt.EqAt.int_int i t' z t
  |str z=>cases rb.strE;obtain⟨t,rfl⟩:=rv;unfold db at he;cases he;exact SeqAt.EqAt.int_str i t' _ t
  |tup z=>obtain⟨p,vs,rfl,hS,_⟩:=rb.tupE;cases rv;obtain⟨bJ,_,ht,_⟩:=I.tuple hS;unfold db at he;cases he;exact SeqAt.EqAt.int_tuple i t' ht hu0
  |loc z=>unfold db at he;cases he
 |str i=>
  cases ra.strE;obtain⟨t',rfl⟩:=ru
  cases b with
  |non=>cases rb.nonE;cases rv;unfold db at he;cases he;exact SeqAt.EqAt.str_none _ t'
  |bl z=>cases rb.blE;cases rv;unfold db at he;cases he;exact SeqAt.EqAt.str_bool _ t' z
  |int z=>cases rb.intE;obtain⟨t,rfl⟩:=rv;unfold db at he;cases he;exact SeqAt.EqAt.str_int _ t' z t
  |str z=>
   cases rb.strE;obtain⟨t,rfl⟩:=rv;unfold db at he;cases he
   have:=SeqAt.EqAt.str_str (A:=A) (s:=s) (tx i) t' (tx z) t
   rw[<- oZ]at this
   exact this
  |tup z=>obtain⟨p,vs,rfl,hS,_⟩:=rb.tupE;cases rv;obtain⟨bJ,_,ht,_⟩:=I.tuple hS;unfold db at he;cases he;exact SeqAt.EqAt.str_tuple _ t' ht hu0
  |loc z=>unfold db at he;cases he
 |tup i=>
  obtain⟨p',Hz,rfl,hS',r'⟩:=ra.tupE;cases ru;obtain⟨its',w',ht',_⟩:=I.tuple hS'
  cases b with
  |non=>cases rb.nonE;cases rv;unfold db at he;cases he;exact SeqAt.EqAt.tuple_none ht' hu0
  |bl z=>cases rb.blE;cases rv;unfold db at he;cases he;exact SeqAt.EqAt.tuple_bool z ht' hu0
  |int z=>cases rb.intE;obtain⟨t,rfl⟩:=rv;unfold db at he;cases he;exact SeqAt.EqAt.tuple_int z t ht' hu0
  |str z=>cases rb.strE;obtain⟨t,rfl⟩:=rv;unfold db at he;cases he;exact SeqAt.EqAt.tuple_str _ t ht' hu0
  |tup z=>
   obtain⟨p,vs,rfl,hS,r⟩:=rb.tupE;cases rv;obtain⟨bJ,w,ht,_⟩:=I.tuple hS
   have he':eqWs i z=some k:=by unfold db at he;exact he
   by_cases hpp:p'=p
   ·subst hpp
    rw[Eo I n (.tup i) (.tup z) (.ref p') k hn ra rb he]
    exact SeqAt.EqAt.same _
   ·obtain⟨e,h1,h2⟩:=lJ i z k he'
    have l1:its'.length=i.length:=by rw[<- w'.length,<- r'.len]
    have l2:bJ.length=z.length:=by rw[<- w.length,<- r.len]
    have hd:depWs i+1<=n:=by unfold W.dep at hn;exact hn
    obtain⟨m,rfl⟩:∃m,n=m+1:=⟨n-1,by omega⟩
    have R:=SeqAt.RcAt.tuples (A:=A) (e:=e) ht' ht hu0 (fun j j1 j2=>by
     have j1':j<i.length:=by rw[<- l1];simpa using j1
     have j2':j<z.length:=by rw[<- l2];simpa using j2
     obtain⟨x1,g1,q1⟩:=r'.get (ae j1')
     obtain⟨x2,g2,q2⟩:=r.get (ae j2')
     obtain⟨u1,f1,v1⟩:=w'.get g1
     obtain⟨u2,f2,v2⟩:=w.get g2
     have E:=ih m rfl i[j] z[j] A.in1 x1 x2 u1 u2 (e j) (a7 (li j1') (by omega)) q1 q2 v1 v2 (by show A.units+1+m<cLine;omega) (h1 j j1' j2')
     have t1:its'.toArray[j]=u1:=by
      have:=(aa.mp f1).2
      simpa using this
     have t2:bJ.toArray[j]=u2:=by
      have:=(aa.mp f2).2
      simpa using this
     rw[t1,t2];exact E)
    have sz1:its'.toArray.size=i.length:=by simp[l1]
    have sz2:bJ.toArray.size=z.length:=by simp[l2]
    rw[sz1,sz2,h2]at R
    exact SeqAt.EqAt.of_refs hpp R
  |loc z=>unfold db at he;cases he
 |loc i=>cases b<;>(unfold db at he;cases he)
theorem Ag{X:Cx}{pins:List (Addr×Obj)}{σ:St}{H:Hp}{s:Shared}{μ:List Addr}(I:bt X pins σ H s):∀(n:Nat) (a b:W) (A:Around) (x y:V) (u v:Value) (k:Bool),a.dep<=n->bF X.K μ H a x->bF X.K μ H b y->cb x u->cb y v->A.units+n<cLine->db a b=some k->SeqAt.EqAt A s u v k:=by
 intro n
 induction n with
 |zero=>exact vo I 0 fun m h=>absurd h (by omega)
 |succ n ih=>exact vo I (n+1) fun m h=>(show m=n by omega)▸ih
theorem LY{X:Cx}{pins:List (Addr×Obj)}{σ:St}{H:Hp}{s:Shared}{μ:List Addr}(I:bt X pins σ H s)(n:Nat) :
  ∀(a b:W) (A:Around) (x y:V) (u v:Value) (k:Bool),(b.dep=0\/a.dep<=n)->bF X.K μ H a x->bF X.K μ H b y->cb x u->cb y v->A.units+n<cLine->db a b=some k->SeqAt.RcAt A s u v k:=by
 intro a b A x y u v k hn ra rb ru rv hu he
 have hu0:A.units<cLine:=by omega
 cases a with
 |non=>
  cases ra.nonE;cases ru
  cases b with
  |non=>cases rb.nonE;cases rv;unfold db at he;cases he;exact SeqAt.RcAt.none_none
  |bl z=>cases rb.blE;cases rv;unfold db at he;cases he;exact SeqAt.RcAt.none_bool z
  |int z=>cases rb.intE;obtain⟨t,rfl⟩:=rv;unfold db at he;cases he;exact SeqAt.RcAt.none_int z t
  |str z=>cases rb.strE;obtain⟨t,rfl⟩:=rv;unfold db at he;cases he;exact SeqAt.RcAt.none_str _ t
  |tup z=>obtain⟨p,vs,rfl,hS,_⟩:=rb.tupE;cases rv;obtain⟨bJ,_,ht,_⟩:=I.tuple hS;unfold db at he;cases he;exact SeqAt.RcAt.none_tuple ht hu0
  |loc z=>unfold db at he;cases he
 |bl i=>
  cases ra.blE;cases ru
  cases b with
  |non=>cases rb.nonE;cases rv;unfold db at he;cases he;exact SeqAt.RcAt.bool_none i
  |bl z=>cases rb.blE;cases rv;unfold db at he;cases he;exact SeqAt.RcAt.bool_bool i z
  |int z=>cases rb.intE;obtain⟨t,rfl⟩:=rv;unfold db at he;cases he;exact SeqAt.RcAt.bool_int i z t
  |str z=>cases rb.strE;obtain⟨t,rfl⟩:=rv;unfold db at he;cases he;exact SeqAt.RcAt.bool_str i _ t
  |tup z=>obtain⟨p,vs,rfl,hS,_⟩:=rb.tupE;cases rv;obtain⟨bJ,_,ht,_⟩:=I.tuple hS;unfold db at he;cases he;exact SeqAt.RcAt.bool_tuple i ht hu0
  |loc z=>unfold db at he;cases he
 |int i=>
  cases ra.intE;obtain⟨t',rfl⟩:=ru
  cases b with
  |non=>cases rb.nonE;cases rv;unfold db at he;cases he;exact SeqAt.RcAt.int_none i t'
  |bl z=>cases rb.blE;cases rv;unfold db at he;cases he;exact SeqAt.RcAt.int_bool i t' z
  |int z=>cases rb.intE;obtain⟨t,rfl⟩:=rv;unfold db at he;cases he;exact SeqAt.RcAt.int_int i t' z t
  |str z=>cases rb.strE;obtain⟨t,rfl⟩:=rv;unfold db at he;cases he;exact SeqAt.RcAt.int_str i t' _ t
  |tup z=>obtain⟨p,vs,rfl,hS,_⟩:=rb.tupE;cases rv;obtain⟨bJ,_,ht,_⟩:=I.tuple hS;unfold db at he;cases he;exact SeqAt.RcAt.int_tuple i t' ht hu0
  |loc z=>unfold db at he;cases he
 |str i=>
  cases ra.strE;obtain⟨t',rfl⟩:=ru
  cases b with
  |non=>cases rb.nonE;cases rv;unfold db at he;cases he;exact SeqAt.RcAt.str_none _ t'
  |bl z=>cases rb.blE;cases rv;unfold db at he;cases he;exact SeqAt.RcAt.str_bool _ t' z
  |int z=>cases rb.intE;obtain⟨t,rfl⟩:=rv;unfold db at he;cases he;exact SeqAt.RcAt.str_int _ t' z t
  |str z=>
   cases rb.strE;obtain⟨t,rfl⟩:=rv;unfold db at he;cases he
   have:=SeqAt.RcAt.str_str (A:=A) (s:=s) (tx i) t' (tx z) t
   rw[<- oZ]at this
   exact this
  |tup z=>obtain⟨p,vs,rfl,hS,_⟩:=rb.tupE;cases rv;obtain⟨bJ,_,ht,_⟩:=I.tuple hS;unfold db at he;cases he;exact SeqAt.RcAt.str_tuple _ t' ht hu0
  |loc z=>unfold db at he;cases he
 |tup i=>
  obtain⟨p',Hz,rfl,hS',r'⟩:=ra.tupE;cases ru;obtain⟨its',w',ht',_⟩:=I.tuple hS'
  cases b with
  |non=>cases rb.nonE;cases rv;unfold db at he;cases he;exact SeqAt.RcAt.tuple_none ht' hu0
  |bl z=>cases rb.blE;cases rv;unfold db at he;cases he;exact SeqAt.RcAt.tuple_bool z ht' hu0
  |int z=>cases rb.intE;obtain⟨t,rfl⟩:=rv;unfold db at he;cases he;exact SeqAt.RcAt.tuple_int z t ht' hu0
  |str z=>cases rb.strE;obtain⟨t,rfl⟩:=rv;unfold db at he;cases he;exact SeqAt.RcAt.tuple_str _ t ht' hu0
  |tup z=>
   obtain⟨p,vs,rfl,hS,r⟩:=rb.tupE;cases rv;obtain⟨bJ,w,ht,_⟩:=I.tuple hS
   have he':eqWs i z=some k:=by unfold db at he;exact he
   obtain⟨e,h1,h2⟩:=lJ i z k he'
   have l1:its'.length=i.length:=by rw[<- w'.length,<- r'.len]
   have l2:bJ.length=z.length:=by rw[<- w.length,<- r.len]
   have hd:depWs i+1<=n:=by
    rcases hn with hn|hn
    ·unfold W.dep at hn;omega
    ·unfold W.dep at hn;exact hn
   obtain⟨m,rfl⟩:∃m,n=m+1:=⟨n-1,by omega⟩
   have R:=SeqAt.RcAt.tuples (A:=A) (e:=e) ht' ht hu0 (fun j j1 j2=>by
    have j1':j<i.length:=by rw[<- l1];simpa using j1
    have j2':j<z.length:=by rw[<- l2];simpa using j2
    obtain⟨x1,g1,q1⟩:=r'.get (ae j1')
    obtain⟨x2,g2,q2⟩:=r.get (ae j2')
    obtain⟨u1,f1,v1⟩:=w'.get g1
    obtain⟨u2,f2,v2⟩:=w.get g2
    have E:=Ag I m i[j] z[j] A.in1 x1 x2 u1 u2 (e j) (a7 (li j1') (by omega)) q1 q2 v1 v2 (by show A.units+1+m<cLine;omega) (h1 j j1' j2')
    have t1:its'.toArray[j]=u1:=by
     have:=(aa.mp f1).2
     simpa using this
    have t2:bJ.toArray[j]=u2:=by
     have:=(aa.mp f2).2
     simpa using this
    rw[t1,t2];exact E)
   have sz1:its'.toArray.size=i.length:=by simp[l1]
   have sz2:bJ.toArray.size=z.length:=by simp[l2]
   rw[sz1,sz2,h2]at R
   exact R
  |loc z=>unfold db at he;cases he
 |loc i=>cases b<;>(unfold db at he;cases he)
def jY:W->W->List am->R W:=fun x y st=>match db x y with
 |some k=>if y.dep=0\/x.dep<=64 then .ok (.bl k) st else .bad
 |none=>.bad
theorem i9{X:Cx}{k:Nat}(hr:iA k X.A):qG X (compareOp .Eq) jY:=⟨fun pins s σ H x y v u Q I rv ru ⟨μ,st,wx,wy,S,rx,ry,q⟩=>by
 unfold jY at q
 cases e:db wx wy with
 |none=>rw[e]at q;exact q.elim
 |some b=>
  rw[e]at q
  simp only at q
  by_cases c:wy.dep=0\/wx.dep<=64
  ·rw[aB c]at q
   have:=hr.units
   exact LY I 64 wx wy X.A x y v u b c rx ry rv ru this e X.prog X.w X.xe _ ⟨.bl b,H,I,rfl,iF S q⟩
  ·rw[aE c]at q;exact q.elim,fun x y st=>by
 unfold jY
 split
 ·split<;>trivial
 ·trivial⟩
theorem Ep{X:Cx}{pins:List (Addr×Obj)}{σ:St}{H:Hp}{s:Shared}{μ:List Addr}(I:bt X pins σ H s)(n:Nat) :
  ∀(a b:W) (A:Around) (x y:V) (u v:Value) (k:Bool),(b.dep=0\/a.dep<=n)->bF X.K μ H a x->bF X.K μ H b y->cb x u->cb y v->A.units+n<cLine->db a b=some k->SeqAt.RcNeAt A s u v (!k):=by
 intro a b A x y u v k hn ra rb ru rv hu he
 have hu0:A.units<cLine:=by omega
 cases a with
 |non=>
  cases ra.nonE;cases ru
  cases b with
  |non=>cases rb.nonE;cases rv;unfold db at he;cases he;exact SeqAt.RcNeAt.none_none
  |bl z=>cases rb.blE;cases rv;unfold db at he;cases he;exact SeqAt.RcNeAt.none_bool z
  |int z=>cases rb.intE;obtain⟨t,rfl⟩:=rv;unfold db at he;cases he;exact SeqAt.RcNeAt.none_int z t
  |str z=>cases rb.strE;obtain⟨t,rfl⟩:=rv;unfold db at he;cases he;exact SeqAt.RcNeAt.none_str _ t
  |tup z=>obtain⟨p,vs,rfl,hS,_⟩:=rb.tupE;cases rv;obtain⟨bJ,_,ht,_⟩:=I.tuple hS;unfold db at he;cases he;exact SeqAt.RcNeAt.none_tuple ht hu0
  |loc z=>unfold db at he;cases he
 |bl i=>
  cases ra.blE;cases ru
  cases b with
  |non=>cases rb.nonE;cases rv;unfold db at he;cases he;exact SeqAt.RcNeAt.bool_none i
  |bl z=>cases rb.blE;cases rv;unfold db at he;cases he;exact SeqAt.RcNeAt.bool_bool i z
  |int z=>cases rb.intE;obtain⟨t,rfl⟩:=rv;unfold db at he;cases he;exact SeqAt.RcNeAt.bool_int i z t
  |str z=>cases rb.strE;obtain⟨t,rfl⟩:=rv;unfold db at he;cases he;exact SeqAt.RcNeAt.bool_str i _ t
  |tup z=>obtain⟨p,vs,rfl,hS,_⟩:=rb.tupE;cases rv;obtain⟨bJ,_,ht,_⟩:=I.tuple hS;unfold db at he;cases he;exact SeqAt.RcNeAt.bool_tuple i ht hu0
  |loc z=>unfold db at he;cases he
 |int i=>
  cases ra.intE;obtain⟨t',rfl⟩:=ru
  cases b with
  |non=>cases rb.nonE;cases rv;unfold db at he;cases he;exact SeqAt.RcNeAt.int_none i t'
  |bl z=>cases rb.blE;cases rv;unfold db at he;cases he;exact SeqAt.RcNeAt.int_bool i t' z
  |int z=>cases rb.intE;obtain⟨t,rfl⟩:=rv;unfold db at he;cases he;exact SeqAt.RcNeAt.int_int i t' z t
  |str z=>cases rb.strE;obtain⟨t,rfl⟩:=rv;unfold db at he;cases he;exact SeqAt.RcNeAt.int_str i t' _ t
  |tup z=>obtain⟨p,vs,rfl,hS,_⟩:=rb.tupE;cases rv;obtain⟨bJ,_,ht,_⟩:=I.tuple hS;unfold db at he;cases he;exact SeqAt.RcNeAt.int_tuple i t' ht hu0
  |loc z=>unfold db at he;cases he
 |str i=>
  cases ra.strE;obtain⟨t',rfl⟩:=ru
  cases b with
  |non=>cases rb.nonE;cases rv;unfold db at he;cases he;exact SeqAt.RcNeAt.str_none _ t'
  |bl z=>cases rb.blE;cases rv;unfold db at he;cases he;exact SeqAt.RcNeAt.str_bool _ t' z
  |int z=>cases rb.intE;obtain⟨t,rfl⟩:=rv;unfold db at he;cases he;exact SeqAt.RcNeAt.str_int _ t' z t
  |str z=>
   cases rb.strE;obtain⟨t,rfl⟩:=rv;unfold db at he;cases he
   have:=SeqAt.RcNeAt.str_str (A:=A) (s:=s) (tx i) t' (tx z) t
   rw[<- oZ]at this
   exact this
  |tup z=>obtain⟨p,vs,rfl,hS,_⟩:=rb.tupE;cases rv;obtain⟨bJ,_,ht,_⟩:=I.tuple hS;unfold db at he;cases he;exact SeqAt.RcNeAt.str_tuple _ t' ht hu0
  |loc z=>unfold db at he;cases he
 |tup i=>
  obtain⟨p',Hz,rfl,hS',r'⟩:=ra.tupE;cases ru;obtain⟨its',w',ht',_⟩:=I.tuple hS'
  cases b with
  |non=>cases rb.nonE;cases rv;unfold db at he;cases he;exact SeqAt.RcNeAt.tuple_none ht' hu0
  |bl z=>cases rb.blE;cases rv;unfold db at he;cases he;exact SeqAt.RcNeAt.tuple_bool z ht' hu0
  |int z=>cases rb.intE;obtain⟨t,rfl⟩:=rv;unfold db at he;cases he;exact SeqAt.RcNeAt.tuple_int z t ht' hu0
  |str z=>cases rb.strE;obtain⟨t,rfl⟩:=rv;unfold db at he;cases he;exact SeqAt.RcNeAt.tuple_str _ t ht' hu0
  |tup z=>
   obtain⟨p,vs,rfl,hS,r⟩:=rb.tupE;cases rv;obtain⟨bJ,w,ht,_⟩:=I.tuple hS
   have he':eqWs i z=some k:=by unfold db at he;exact he
   obtain⟨e,h1,h2⟩:=lJ i z k he'
   have l1:its'.length=i.length:=by rw[<- w'.length,<- r'.len]
   have l2:bJ.length=z.length:=by rw[<- w.length,<- r.len]
   have hd:depWs i+1<=n:=by
    rcases hn with hn|hn
    ·unfold W.dep at hn;omega
    ·unfold W.dep at hn;exact hn
   obtain⟨m,rfl⟩:∃m,n=m+1:=⟨n-1,by omega⟩
   have R:=SeqAt.RcNeAt.tuples (A:=A) (e:=e) ht' ht hu0 (fun j j1 j2=>by
    have j1':j<i.length:=by rw[<- l1];simpa using j1
    have j2':j<z.length:=by rw[<- l2];simpa using j2
    obtain⟨x1,g1,q1⟩:=r'.get (ae j1')
    obtain⟨x2,g2,q2⟩:=r.get (ae j2')
    obtain⟨u1,f1,v1⟩:=w'.get g1
    obtain⟨u2,f2,v2⟩:=w.get g2
    have E:=Ag I m i[j] z[j] A.in1 x1 x2 u1 u2 (e j) (a7 (li j1') (by omega)) q1 q2 v1 v2 (by show A.units+1+m<cLine;omega) (h1 j j1' j2')
    have t1:its'.toArray[j]=u1:=by
     have:=(aa.mp f1).2
     simpa using this
    have t2:bJ.toArray[j]=u2:=by
     have:=(aa.mp f2).2
     simpa using this
    rw[t1,t2];exact E)
   have sz1:its'.toArray.size=i.length:=by simp[l1]
   have sz2:bJ.toArray.size=z.length:=by simp[l2]
   rw[sz1,sz2,h2]at R
   exact R
  |loc z=>unfold db at he;cases he
 |loc i=>cases b<;>(unfold db at he;cases he)
def CU:W->W->List am->R W:=fun x y st=>match db x y with
 |some k=>if y.dep=0\/x.dep<=64 then .ok (.bl (!k)) st else .bad
 |none=>.bad
theorem Ah{X:Cx}{k:Nat}(hr:iA k X.A):qG X (compareOp .NotEq) CU:=⟨fun pins s σ H x y v u Q I rv ru ⟨μ,st,wx,wy,S,rx,ry,q⟩=>by
 unfold CU at q
 cases e:db wx wy with
 |none=>rw[e]at q;exact q.elim
 |some b=>
  rw[e]at q
  simp only at q
  by_cases c:wy.dep=0\/wx.dep<=64
  ·rw[aB c]at q
   have:=hr.units
   exact Ep I 64 wx wy X.A x y v u b c rx ry rv ru this e X.prog X.w X.xe _ ⟨.bl (!b),H,I,rfl,iF S q⟩
  ·rw[aE c]at q;exact q.elim,fun x y st=>by
 unfold CU
 split
 ·split<;>trivial
 ·trivial⟩
def pX(x:W):List W->Option Bool
 |[]=>some false
 |y::ys=>match db y x,pX x ys with
  |some a,some b=>some (a||b)
  |_,_=>none
def zL(Hb:Bool)(x y:W)(st:List am):R W:=match y with
 |.str l=>(match x with
  |.str [c]=>.ok (.bl (if Hb then !decide (c∈l)else decide (c∈l))) st
  |_=>.bad)
 |.tup ys=>(match pX x ys with
  |some k=>if depWs ys<=63 then .ok (.bl (if Hb then !k else k)) st else .bad
  |none=>.bad)
 |.loc n=>(match st[n]? with
  |some (.lst ys)=>(match pX x ys with
   |some k=>if depWs ys<=63 then .ok (.bl (if Hb then !k else k)) st else .bad
   |none=>.bad)
  |_=>.bad)
 |_=>.bad
theorem yj{x:W}:∀{ys:List W} {k:Bool},pX x ys=some k->(∀(j:Nat) w,ys[j]?=some w->∃b,db w x=some b)/\(k=true↔∃(j:Nat) (w:W),ys[j]?=some w/\db w x=some true)
 |[],k,h=>by
  unfold pX at h;cases h
  exact⟨fun j w e=>by simp at e,fun z=>(by cases z),fun⟨j,w,e,_⟩=>(by simp at e)⟩
 |y::ys,k,h=>by
  unfold pX at h
  cases e1:db y x with
  |none=>rw[e1]at h;simp at h
  |some a=>
   cases e2:pX x ys with
   |none=>rw[e1,e2]at h;simp at h
   |some b=>
    rw[e1,e2]at h
    simp at h
    obtain⟨q1,q2⟩:=yj e2
    refine⟨fun j w e=>?_,fun z=>?_,fun⟨j,w,e,f⟩=>?_⟩
    ·cases j with
     |zero=>simp at e;subst e;exact⟨a,e1⟩
     |succ j=>exact q1 j w (by simpa using e)
    ·rw[<- h]at z
     cases a with
     |true=>exact⟨0,y,rfl,e1⟩
     |false=>
      obtain⟨j,w,p,q⟩:=q2.mp (by simpa using z)
      exact⟨j+1,w,by simpa using p,q⟩
    ·rw[<- h]
     cases j with
     |zero=>simp at e;subst e;rw[e1]at f;cases f;rfl
     |succ j=>rw[q2.mpr ⟨j,w,by simpa using e,f⟩];simp
theorem lK{X:Cx}{pins:List (Addr×Obj)}{σ:St}{H:Hp}{s:Shared}{μ:List Addr}(I:bt X pins σ H s){wx:W}{x:V}{v:Value}(rx:bF X.K μ H wx x)(rv:cb x v)(n:Nat){A:Around}(hu:A.units+n<cLine)
  {ys:List W} {vs:List V} {us:List Value} {k:Bool} (hd:depWs ys<=n) (rs:RelWs X.K μ H ys vs) (m5:cV vs us) (ha:pX wx ys=some k):∃e:Value->Bool,(∀u,u∈us.toArray->SeqAt.EqAt A s u v (e u))/\us.toArray.any e=k:=by
 classical
 obtain⟨q1,q2⟩:=yj ha
 have at':∀(j:Nat) (u:Value),us[j]?=some u->∃w b,ys[j]?=some w/\db w wx=some b/\SeqAt.EqAt A s u v b:=fun j u e=>by
  have hj:j<ys.length:=by
   have h1:=(aa.mp e).1
   rw[rs.len,m5.length];exact h1
  obtain⟨b,hb⟩:=q1 j ys[j] (ae hj)
  obtain⟨y,g1,r1⟩:=rs.get (ae hj)
  obtain⟨u',f1,v1⟩:=m5.get g1
  rw[e]at f1;cases f1
  exact⟨_,b,ae hj,hb,Ag I n ys[j] wx A y x u v b (a7 (li hj) hd) r1 rx v1 rv hu hb⟩
 refine⟨fun u=>decide (∃(j:Nat) (w:W),us[j]?=some u/\ys[j]?=some w/\db w wx=some true),fun u hu=>?_,?_⟩
 ·by_cases c:∃(j:Nat) (w:W),us[j]?=some u/\ys[j]?=some w/\db w wx=some true
  ·show SeqAt.EqAt A s u v (decide _)
   rw[a_ c]
   obtain⟨j,w,e1,e2,e3⟩:=c
   obtain⟨w',b,f1,f2,f3⟩:=at' j u e1
   rw[e2]at f1;cases f1
   rw[e3]at f2;cases f2
   exact f3
  ·show SeqAt.EqAt A s u v (decide _)
   rw[aU c]
   obtain⟨j,hj,e⟩:=List.mem_iff_getElem.mp (show u∈us by simpa using hu)
   have e':us[j]?=some u:=by rw[ae hj,e]
   obtain⟨w',b,f1,f2,f3⟩:=at' j u e'
   cases b with
   |false=>exact f3
   |true=>exact absurd ⟨j,w',e',f1,f2⟩ c
 ·rw[List.any_toArray]
  cases k with
  |true=>
   obtain⟨j,w,e1,e2⟩:=q2.mp rfl
   have hj:j<us.length:=by rw[<- m5.length,<- rs.len];exact(aa.mp e1).1
   exact ly.mpr ⟨us[j],f9 hj,a_ ⟨j,w,ae hj,e1,e2⟩⟩
  |false=>
   refine List.any_eq_false.mpr fun u _ c=>?_
   obtain⟨j,w,_,e1,e2⟩:=fP c
   have:=q2.mpr ⟨j,w,e1,e2⟩
   cases this
theorem LZ{X:Cx}{k:Nat}(hr:iA k X.A):qG X (compareOp .In) (zL false):=⟨fun pins s σ H x y v u Q I rv ru ⟨μ,st,wx,wy,S,rx,ry,q⟩=>by
 have hu:=hr.units
 cases wy with
 |str l=>
  simp only[zL]at q
  split at q
  ·exact CL pins s σ H x y v u Q I rv ru ⟨_,_,rx.strE,ry.strE,iF S q⟩
  ·exact q.elim
 |tup ys=>
  simp only[zL]at q
  cases hk:pX wx ys with
  |none=>rw[hk]at q;exact q.elim
  |some kk=>
   rw[hk]at q
   simp only at q
   by_cases c:depWs ys<=63
   ·rw[aB c]at q
    obtain⟨p,vs,rfl,hS,r⟩:=ry.tupE
    cases ru
    obtain⟨bJ,w,ht,_⟩:=I.tuple hS
    obtain⟨e,he,ha⟩:=lK (A:=X.A.in1) I rx rv 63 (by show X.A.units+1+63<cLine;omega) c r w hk
    exact SeqAt.in_tupleAt e ht he ⟨.bl _,H,I,rfl,by rw[ha];exact iF S q⟩
   ·rw[aE c]at q;exact q.elim
 |loc n=>
  simp only[zL]at q
  cases e1:st[n]? with
  |none=>rw[e1]at q;exact q.elim
  |some cc=>
   rw[e1]at q
   cases cc with
   |lst ys=>
    simp only at q
    cases hk:pX wx ys with
    |none=>rw[hk]at q;exact q.elim
    |some kk=>
     rw[hk]at q
     simp only at q
     by_cases c:depWs ys<=63
     ·rw[aB c]at q
      obtain⟨a1,g1,vs,k1,r⟩:=S.get e1
      obtain⟨b1,f1,rfl⟩:=ry.locE
      rw[g1]at f1;cases f1
      cases ru
      obtain⟨bJ,w,ht,_⟩:=I.list (rE.of k1)
      obtain⟨e,he,ha⟩:=lK (A:=X.A.in1) I rx rv 63 (by show X.A.units+1+63<cLine;omega) c r w hk
      exact SeqAt.in_listAt e ht.isList he ⟨.bl _,H,I,rfl,by rw[ha];exact iF S q⟩
     ·rw[aE c]at q;exact q.elim
   |_=>exact q.elim
 |_=>exact q.elim,fun x y st=>by
 unfold zL
 repeat' split
 all_goals trivial⟩
theorem vp{X:Cx}{k:Nat}(hr:iA k X.A):qG X (compareOp .NotIn) (zL true):=⟨fun pins s σ H x y v u Q I rv ru ⟨μ,st,wx,wy,S,rx,ry,q⟩=>by
 have hu:=hr.units
 cases wy with
 |str l=>
  simp only[zL]at q
  split at q
  ·exact we pins s σ H x y v u Q I rv ru ⟨_,_,rx.strE,ry.strE,iF S q⟩
  ·exact q.elim
 |tup ys=>
  simp only[zL]at q
  cases hk:pX wx ys with
  |none=>rw[hk]at q;exact q.elim
  |some kk=>
   rw[hk]at q
   simp only at q
   by_cases c:depWs ys<=63
   ·rw[aB c]at q
    obtain⟨p,vs,rfl,hS,r⟩:=ry.tupE
    cases ru
    obtain⟨bJ,w,ht,_⟩:=I.tuple hS
    obtain⟨e,he,ha⟩:=lK (A:=X.A.in1) I rx rv 63 (by show X.A.units+1+63<cLine;omega) c r w hk
    exact SeqAt.notIn_tupleAt e ht he ⟨.bl _,H,I,rfl,by rw[ha];exact iF S q⟩
   ·rw[aE c]at q;exact q.elim
 |loc n=>
  simp only[zL]at q
  cases e1:st[n]? with
  |none=>rw[e1]at q;exact q.elim
  |some cc=>
   rw[e1]at q
   cases cc with
   |lst ys=>
    simp only at q
    cases hk:pX wx ys with
    |none=>rw[hk]at q;exact q.elim
    |some kk=>
     rw[hk]at q
     simp only at q
     by_cases c:depWs ys<=63
     ·rw[aB c]at q
      obtain⟨a1,g1,vs,k1,r⟩:=S.get e1
      obtain⟨b1,f1,rfl⟩:=ry.locE
      rw[g1]at f1;cases f1
      cases ru
      obtain⟨bJ,w,ht,_⟩:=I.list (rE.of k1)
      obtain⟨e,he,ha⟩:=lK (A:=X.A.in1) I rx rv 63 (by show X.A.units+1+63<cLine;omega) c r w hk
      exact SeqAt.notIn_listAt e ht.isList he ⟨.bl _,H,I,rfl,by rw[ha];exact iF S q⟩
     ·rw[aE c]at q;exact q.elim
   |_=>exact q.elim
 |_=>exact q.elim,fun x y st=>by
 unfold zL
 repeat' split
 all_goals trivial⟩
section
variable{prog:Program}{w:World}{A:Around}{E:Value->Shared->Prop}{s:Shared}
theorem yk{t sl:Addr}{items:Array Value}{vl vu:Value}{lo hi:Option Int}{Q:Value->Shared->Prop}(ht:IsTup s.heap t items)(hs:s.heap.IsSliceOf sl vl vu .none)(pl:IsPart vl lo)(pu:IsPart vu hi)
  (hw:HT.sIx items.size 0 lo=0/\HT.sIx items.size items.size hi=items.size) (h:Q (.ref t) s):wpAny (model prog w) A (getItem (.ref t) (.ref sl)) Q E s:=by
 obtain⟨os,hos,hcs,rA⟩:=id hs
 have hTs:s.TypeIs (.ref sl) "slice":=⟨os,hos,hcs⟩
 unfold getItem
 try with_reducible refine eA ?_
 first|refine ak (aJ ?_)|skip
 refine ak (wpAny_sequenceKey ht.typeIs (by decide) ?_)
 refine ak (cX (name:=Str.ofString "__getitem__") ht.typeIs d7
  (dJ d7 ht.typeIs entry_tuple_getitem ?_ (args_tuple_getitem _ _)))
 show wpAny _ _ (Builtin.Tuple.tupleItemsOf (.ref t) >>= _) _ _ s
 refine ak (tupleItemsOf_ ht ?_)
 refine ak (qy hTs ?_)
 rw[aB (by decide)]
 refine ak (HT.sliceApplied_gen hs pl pu ?_)
 have hyes:(((HT.sIx items.size 0 lo:Nat):Int)==0&&(1:Int)==1&&(HT.sIx items.size items.size hi-HT.sIx items.size 0 lo)==items.size)=true:=by
  rw[hw.1,hw.2];simp
 show wpAny _ _ (if (((HT.sIx items.size 0 lo:Nat):Int)==0&&(1:Int)==1&&(HT.sIx items.size items.size hi-HT.sIx items.size 0 lo)==items.size)=true then _ else _) _ _ s
 rw[aB hyes]
 unfold Builtin.Tuple.tupleIsExact
 obtain⟨ot,hot,Q3,nt,hdt⟩:=id ht
 refine ak (ak (qy (T:="tuple") ht.typeIs ?_))
 refine aJ ?_
 rw[aB (by decide)]
 exact ak (pH (aJ ⟨_,rfl,aJ h⟩))
end
section
variable{X:Cx}{a b c e o:Expr}{es:List Expr}{pos p p2 gG dW:Pos}{x name:Str}{j:Nat}{fa fb fc fe:FE}{fs:FA}
def lstOf(st:List am)(n:Nat):Option (List W):=match st[n]? with
 |some (.lst ws)=>some ws
 |some (.ro ws)=>some ws
 |_=>none
theorem gT.lstOf{K:Frag}{mg:Str->Option Value}{μ:List Addr}{st:List am}{H:Hp}(S:gT K mg μ st H){n:Nat}{ws:List W}(h:lstOf st n=some ws):∃a vs,μ[n]?=some a/\rE K H a vs/\RelWs K μ H ws vs:=by
 unfold L2.lstOf at h
 cases e:st[n]? with
 |none=>rw[e]at h;cases h
 |some cc=>
  rw[e]at h
  cases cc with
  |lst zs=>cases h;obtain⟨a,g,vs,k,r⟩:=S.get e;exact⟨a,vs,g,rE.of k,r⟩
  |ro zs=>cases h;obtain⟨a,g,vs,k,r⟩:=S.get e;exact⟨a,vs,g,k.sq,r⟩
  |exc zs=>cases h
  |dct zs=>cases h
  |rod zs=>cases h
  |tab _ _ _=>cases h
def sf{α:Type}(o:Option α)(k:α->R W):R W:=match o with
 |some a=>k a
 |none=>.bad
@[simp] theorem eE{α:Type}(a:α)(k:α->R W):sf (some a) k=k a:=rfl
def bC(x y:W)(st:List am):R W:=match x,y with
 |.tup ws,.int i=>sf (pJ ws i) fun w=>.ok w st
 |.str l,.int i=>if l.length<=kJ then sf (pJ l i) (fun c=>.ok (.str [c]) st)else .bad
 |.loc n,.int i=>sf (lstOf st n) fun ws=>sf (pJ ws i) fun w=>.ok w st
 |_,_=>.bad
theorem Bz{K:Frag}{μ:List Addr}{H:Hp}{ws:List W}{vs:List V}{i:Int}{w:W}(r:RelWs K μ H ws vs)(h:pJ ws i=some w):∃v,pJ vs i=some v/\bF K μ H w v:=by
 unfold pJ at h ⊢
 rw[<- r.len]
 cases e:Bh ws.length i with
 |none=>rw[e]at h;cases h
 |some k=>rw[e]at h;exact r.get h
theorem RD:Ht X (RC X bC):=fun value slice pins s σ H x y v u Q I rv ru ⟨μ,st,wx,wy,S,rx,ry,q⟩ hs=>by
 refine Lz value slice pins s σ H x y v u Q I rv ru ?_ hs
 cases wy with
 |int i=>
  cases wx with
  |tup ws=>
   simp only[bC]at q
   cases e1:pJ ws i with
   |none=>rw[e1]at q;exact q.elim
   |some w=>
    rw[e1]at q
    obtain⟨p,vs,rfl,hS,r⟩:=rx.tupE
    obtain⟨z,f,g⟩:=Bz r e1
    exact .inr (.inl ⟨p,vs,i,z,rfl,ry.intE,hS,f,q μ z H (al _) eD.refl S g⟩)
  |str l=>
   simp only[bC]at q
   by_cases c:l.length<=kJ
   ·rw[aB c]at q
    cases e1:pJ l i with
    |none=>rw[e1]at q;exact q.elim
    |some w=>
     rw[e1]at q
     exact .inr (.inr ⟨_,i,w,rx.strE,ry.intE,by rw[ip];exact lI c,by rw[LI];exact e1,pW S q⟩)
   ·rw[aE c]at q;exact q.elim
  |loc n=>
   simp only[bC]at q
   cases e0:lstOf st n with
   |none=>rw[e0]at q;exact q.elim
   |some ws=>
    rw[e0]at q
    cases e1:pJ ws i with
    |none=>rw[eE,e1]at q;exact q.elim
    |some w=>
     rw[eE,e1]at q
     obtain⟨a,vs,g,hS,r⟩:=S.lstOf e0
     obtain⟨b1,f1,rfl⟩:=rx.locE
     rw[g]at f1;cases f1
     obtain⟨z,f,g⟩:=Bz r e1
     exact .inl ⟨_,vs,i,z,rfl,ry.intE,hS,f,q μ z H (al _) eD.refl S g⟩
  |_=>exact q.elim
 |_=>cases wx<;>exact q.elim
theorem rO{α:Type}{o:Option α}{k:α->R W}(h:∀a,se (k a)):se (sf o k):=by
 unfold sf
 split
 ·exact h _
 ·trivial
theorem O1(x y:W)(st:List am):se (bC x y st):=by
 unfold bC
 split
 ·exact rO fun _=>trivial
 ·split
  ·exact rO fun _=>trivial
  ·trivial
 ·exact rO fun _=>rO fun _=>trivial
 ·trivial
theorem bp(ha:SE X a fa)(hb:SE X b fb)(hs:Bj b:=by intro _ _;rfl):SE X (.Subscript a b pos) (e2 bC fa fb):=⟨(Ou RD ha.h hb.h hs).imp fun _ _ _ h=>Bw O1 h⟩
abbrev FO:=cf->List am->R (Option Int)
abbrev RE:List Addr->Hp->Option Int->Option Int->Prop:=fun _ _ a b=>a=b
structure SO(X:Cx)(e:Option Expr)(f:FO):Prop where
 h:PO X e (tG X RE f)
def mG:FO:=fun _ st=>.ok none st
def jm(fa:FE):FO:=fun ρ st=>(fa ρ st).bind fun x st=>match x with
 |.int i=>.ok (some i) st
 |_=>.bad
theorem PO.imp{X:Cx}{e:Option Expr}{t t':TO}(h:PO X e t)(i:∀σ H Q,t' σ H Q->t σ H Q):PO X e t':=fun pins s σ H Q I q=>h pins s σ H Q I (i _ _ _ q)
theorem jN:SO X none mG:=⟨HU.imp fun σ H Q h=>by
 obtain⟨μ,ρ,st,l,h⟩:=h
 exact h μ none H (al _) eD.refl l.sto rfl⟩
theorem gU(ha:SE X a fa):SO X (some a) (jm fa):=⟨(HV ha.h).imp fun σ H Q h=>by
 obtain⟨μ,ρ,st,l,h⟩:=h
 refine⟨μ,ρ,st,l,RK.bind h l fun μ1 st1 x v H1 p1 x1 l1 q1 h1=>?_⟩
 cases x with
 |int k=>exact⟨k,q1.intE,h1 μ1 _ H1 (al _) eD.refl l1.sto rfl⟩
 |_=>exact h1.elim⟩
def jv{α:Type}(xs:List α)(lo hi:Option Int):List α:=(xs.drop (HT.sIx xs.length 0 lo)).take (HT.sIx xs.length xs.length hi-HT.sIx xs.length 0 lo)
def CV(x:W)(lo hi:Option Int)(st:List am):R W:=match x with
 |.tup ws=>.ok (.tup (jv ws lo hi)) st
 |.str l=>if l.length<=kJ then .ok (.str (jv l lo hi)) st else .bad
 |.loc n=>sf (lstOf st n) fun ws=>.ok (.loc st.length) (st++[.lst (jv ws lo hi)])
 |_=>.bad
theorem O2(x:W)(lo hi:Option Int)(st:List am):se (CV x lo hi st):=by
 unfold CV sf
 repeat' split
 all_goals trivial
def Ai(fa:FE)(fl fh:FO):FE:=fun ρ st=>(fa ρ st).bind fun x st=>(fl ρ st).bind fun l st=>(fh ρ st).bind fun h st=>CV x l h st
theorem RF:Os X (fun x lo hi H Q=>∃μ st wx,gT X.K X.mg μ st H/\bF X.K μ H wx x/\DD X μ H Q (CV wx lo hi st)):=by
 intro pins s σ H x v vl vu lo hi sl Q I rv hs pl pu ⟨μ,st,wx,S,rx,q⟩
 cases wx with
 |tup ws=>
  obtain⟨p,vs,rfl,hS,r⟩:=rx.tupE
  have hl:=r.len
  by_cases hw:HT.sIx vs.length 0 lo=0/\HT.sIx vs.length vs.length hi=vs.length
  ·cases rv
   obtain⟨bJ,w,ht,hz⟩:=I.tuple hS
   have cR:bJ.toArray.size=vs.length:=by rw[aX];exact w.length.symm
   refine⟨"tuple",_,d7.lookup,ht.typeIs,yk ht hs pl pu (by rw[cR];exact hw) ⟨.ref p,H,I,rfl,?_⟩⟩
   have e:jv ws lo hi=ws:=by
    unfold jv
    rw[hl,hw.1,hw.2,List.drop_zero,Nat.sub_zero,<- hl,jd]
   have q':DD X μ H Q (.ok (.tup (jv ws lo hi)) st):=q
   rw[e]at q'
   exact q' μ _ H (al _) eD.refl S rx
  ·refine Lv pins s σ H _ v vl vu lo hi sl Q I rv hs pl pu ⟨p,vs,rfl,hS,hw,fun p2 hp2=>?_⟩
   have x:=fS.same (K:=X.K) (cN hp2 (.tup (sU vs lo hi)))
   have rc:RelWs X.K μ H (jv ws lo hi) (sU vs lo hi):=by
    unfold jv sU
    rw[hl]
    exact(r.drop _).take _
   exact q μ _ _ (al _) x (S.same (cN hp2 _)) (.tupI fS.new (rc.mono (al _) x))
 |str l=>
  simp only[CV]at q
  by_cases c:l.length<=kJ
  ·rw[aB c]at q
   exact LM pins s σ H _ v vl vu lo hi sl Q I rv hs pl pu ⟨l,rx.strE,lI c,pW S q⟩
  ·rw[aE c]at q;exact q.elim
 |loc n=>
  simp only[CV]at q
  cases e0:lstOf st n with
  |none=>rw[e0]at q;exact q.elim
  |some ws=>
   rw[e0]at q
   obtain⟨a,vs,g,hS,r⟩:=S.lstOf e0
   obtain⟨b1,f1,rfl⟩:=rx.locE
   rw[g]at f1;cases f1
   have hl:=r.len
   refine HY pins s σ H _ v vl vu lo hi sl Q I rv hs pl pu ⟨_,vs,rfl,hS,fun p2 hp2=>?_⟩
   have rc:RelWs X.K μ H (jv ws lo hi) (sU vs lo hi):=by
    unfold jv sU
    rw[hl]
    exact(r.drop _).take _
   exact q (μ++[p2]) _ _ (aC _ _) (fS.same (cN hp2 _)) (S.newLst hp2 rc) (ni S)
 |_=>exact q.elim
theorem tF{lo hi:Option Expr}{fl fh:FO}(ha:SE X a fa)(hl:SO X lo fl)(hh:SO X hi fh):SE X (.Subscript a (.Slice lo hi none p2) pos) (Ai fa fl fh):=⟨(DY RF ha.h hl.h hh.h).imp fun σ H Q h=>by
 obtain⟨μ,ρ,st,l,h⟩:=h
 refine⟨μ,ρ,st,l,RK.bind h l fun μ1 st1 x v H1 p1 x1 l1 q1 h1=>⟨μ1,ρ,st1,l1,RK.bind h1 l1 fun μ2 st2 y u H2 p2 x2 l2 q2 h2=>⟨μ2,ρ,st2,l2,RK.bind h2 l2 fun μ3 jT z t H3 p3 x3 l3 q3 h3=>?_⟩⟩⟩
 cases q2;cases q3
 exact⟨μ3,jT,x,l3.sto,(q1.mono p2 x2).mono p3 x3,tj h3 (O2 _ _ _ _)⟩⟩
def Sa(X:Cx)(F:List W->List am->R W):List V->Hp->VK->Prop:=fun vs H Q=>∃μ st ws,gT X.K X.mg μ st H/\RelWs X.K μ H ws vs/\DD X μ H Q (F ws st)
structure nn(X:Cx)(f:Value)(F:List W->List am->R W):Prop where
 h:gZ X f (Sa X F)
 n:∀ws st,se (F ws st)
def bh(F:List W->List am->R W)(fs:FA):FE:=fun ρ st=>(fs ρ st).bind fun ws st=>F ws st
theorem BA{F:List W->List am->R W}{σ:St}{H:Hp}{Q:VK}(n:∀ws st,se (F ws st))(h:tE X (bh F fs) σ H Q):Rm (Sa X F) (RA X fs) σ H Q:=by
 obtain⟨μ,ρ,st,l,h⟩:=h
 exact⟨μ,ρ,st,l,RK.bind h l fun μ1 st1 x v H1 p1 x1 l1 q1 h1=>⟨μ1,st1,x,l1.sto,q1,tj h1 (n _ _)⟩⟩
theorem bE{id:String}{F:List W->List am->R W}(hc:nn X (.builtin id) F)(hm:X.mg x=none)(hv:bootBuiltins x=some (.builtin id))(ha:SA X (e::es) fs)(hg:Gl X x:=by rfl)(hn:x ≠ "__name__":=by decide)(Jz:(x==("__debug__":Str))=false:=by decide)
  (he:starEach (e::es) X.env=(false,eval e X.env)::starEach es X.env:=by rfl) (qo:(backTo pos (starEach es X.env)).any (·.1)=false:=by rfl):SE X (.Call (.Name x p) (e::es) [] pos) (bh F fs):=⟨(m9 hc.h hg hm hv ha.h hn Jz he qo).imp fun _ _ _ h=>BA hc.n h⟩
theorem cO{T:String}{F:List W->List am->R W}(hc:nn X (.type T) F)(hm:X.mg x=none)(hv:bootBuiltins x=some (.type T))(ha:SA X (e::es) fs)(hg:Gl X x:=by rfl)(hn:x ≠ "__name__":=by decide)(Jz:(x==("__debug__":Str))=false:=by decide)
  (he:starEach (e::es) X.env=(false,eval e X.env)::starEach es X.env:=by rfl) (qo:(backTo pos (starEach es X.env)).any (·.1)=false:=by rfl):SE X (.Call (.Name x p) (e::es) [] pos) (bh F fs):=⟨(Cz hc.h hg hm hv ha.h hn Jz he qo).imp fun _ _ _ h=>BA hc.n h⟩
theorem RelWs.two{K:Frag}{μ:List Addr}{H:Hp}{a b:W}{vs:List V}(r:RelWs K μ H [a,b] vs):∃x y,vs=[x,y]/\bF K μ H a x/\bF K μ H b y:=by
 obtain⟨x,xs,rfl,rx,rn⟩:=r.consE
 obtain⟨y,ys,rfl,ry,rm⟩:=rn.consE
 rw[rm.nilE];exact⟨x,y,rfl,rx,ry⟩
theorem RelWs.one{K:Frag}{μ:List Addr}{H:Hp}{a:W}{vs:List V}(r:RelWs K μ H [a] vs):∃x,vs=[x]/\bF K μ H a x:=by
 obtain⟨x,xs,rfl,rx,rn⟩:=r.consE
 rw[rn.nilE];exact⟨x,rfl,rx⟩
def de(ws:List W)(st:List am):R W:=match ws with
 |[.tup xs]=>.ok (.int xs.length) st
 |[.str l]=>if l.length<=kJ then .ok (.int l.length) st else .bad
 |[.loc n]=>sf (lstOf st n) fun xs=>.ok (.int xs.length) st
 |_=>.bad
theorem cY:nn X (.builtin "len") de:=⟨fun pins s σ H vs us Q I rv ⟨μ,st,ws,S,r,q⟩=>by
 unfold de at q
 split at q
 ·obtain⟨x,rfl,rx⟩:=r.one
  obtain⟨p,ys,rfl,hS,r'⟩:=rx.tupE
  exact pM pins s σ H _ us Q I rv ⟨p,ys,rfl,.inr hS,by rw[<- r'.len];exact jL S q⟩
 ·obtain⟨x,rfl,rx⟩:=r.one
  split at q
  ·rename_i c
   exact wb pins s σ H _ us Q I rv ⟨_,by rw[rx.strE],by rw[ip];exact lI c,by rw[ip];exact jL S q⟩
  ·exact q.elim
 ·obtain⟨x,rfl,rx⟩:=r.one
  unfold sf at q
  split at q
  ·rename_i ys e0
   obtain⟨a,vs,g,hS,r'⟩:=S.lstOf e0
   obtain⟨b1,f1,rfl⟩:=rx.locE
   rw[g]at f1;cases f1
   exact pM pins s σ H _ us Q I rv ⟨_,vs,rfl,.inl hS,by rw[<- r'.len];exact jL S q⟩
  ·exact q.elim
 ·exact q.elim,fun ws st=>by
 unfold de sf
 repeat' split
 all_goals trivial⟩
def Er(ws:List W)(st:List am):R W:=match ws with
 |[.int i,.int j]=>.ok (.int (if j>i then j else i)) st
 |_=>.bad
def Aj(ws:List W)(st:List am):R W:=match ws with
 |[.int i,.int j]=>.ok (.int (if j<i then j else i)) st
 |_=>.bad
theorem O3(hc:X.calm=true:=by rfl):nn X (.builtin "max") Er:=⟨fun pins s σ H vs us Q I rv ⟨μ,st,ws,S,r,q⟩=>by
 unfold Er at q
 split at q
 ·obtain⟨x,y,rfl,rx,ry⟩:=r.two
  exact Cu hc pins s σ H _ us Q I rv ⟨_,_,by rw[rx.intE,ry.intE],jL S q⟩
 ·exact q.elim,fun ws st=>by unfold Er;split<;>trivial⟩
theorem JR(hc:X.calm=true:=by rfl):nn X (.builtin "min") Aj:=⟨fun pins s σ H vs us Q I rv ⟨μ,st,ws,S,r,q⟩=>by
 unfold Aj at q
 split at q
 ·obtain⟨x,y,rfl,rx,ry⟩:=r.two
  exact Cv hc pins s σ H _ us Q I rv ⟨_,_,by rw[rx.intE,ry.intE],jL S q⟩
 ·exact q.elim,fun ws st=>by unfold Aj;split<;>trivial⟩
def cS(ws:List W)(st:List am):R W:=match ws with
 |[.tup xs]=>.ok (.tup xs) st
 |[.loc n]=>sf (lstOf st n) fun xs=>.ok (.tup xs) st
 |_=>.bad
theorem eJ:nn X (.type "tuple") cS:=⟨fun pins s σ H vs us Q I rv ⟨μ,st,ws,S,r,q⟩=>by
 unfold cS at q
 split at q
 ·obtain⟨x,rfl,rx⟩:=r.one
  obtain⟨p,ys,rfl,hS,r'⟩:=id rx.tupE
  exact x5 pins s σ H _ us Q I rv ⟨p,ys,rfl,hS,q μ _ H (al _) eD.refl S rx⟩
 ·obtain⟨x,rfl,rx⟩:=r.one
  unfold sf at q
  split at q
  ·rename_i ys e0
   obtain⟨a,vs,g,hS,r'⟩:=S.lstOf e0
   obtain⟨b1,f1,rfl⟩:=rx.locE
   rw[g]at f1;cases f1
   refine yb pins s σ H _ us Q I rv ⟨_,vs,rfl,hS,fun l H2 hl e=>?_⟩
   subst e
   have x:=fS.same (K:=X.K) (cN hl (.tup vs))
   exact q μ _ _ (al _) x (S.same (cN hl _)) (.tupI fS.new (r'.mono (al _) x))
  ·exact q.elim
 ·exact q.elim,fun ws st=>by
 unfold cS sf
 repeat' split
 all_goals trivial⟩
def tH(ws:List W)(st:List am):R W:=match ws with
 |[.tup xs]=>.ok (.loc st.length) (st++[.lst xs])
 |[.loc n]=>sf (lstOf st n) fun xs=>.ok (.loc st.length) (st++[.lst xs])
 |_=>.bad
theorem Ak:nn X (.type "list") tH:=⟨fun pins s σ H vs us Q I rv ⟨μ,st,ws,S,r,q⟩=>by
 unfold tH at q
 split at q
 ·obtain⟨x,rfl,rx⟩:=r.one
  obtain⟨p,ys,rfl,hS,r'⟩:=id rx.tupE
  refine sX pins s σ H _ us Q I rv ⟨p,ys,rfl,.inr hS,fun l H2 hl e=>?_⟩
  subst e
  exact q (μ++[l]) _ _ (aC _ _) (fS.same (cN hl _)) (S.newLst hl r') (ni S)
 ·obtain⟨x,rfl,rx⟩:=r.one
  unfold sf at q
  split at q
  ·rename_i ys e0
   obtain⟨a,vs,g,hS,r'⟩:=S.lstOf e0
   obtain⟨b1,f1,rfl⟩:=rx.locE
   rw[g]at f1;cases f1
   refine sX pins s σ H _ us Q I rv ⟨_,vs,rfl,.inl hS,fun l H2 hl e=>?_⟩
   subst e
   exact q (μ++[l]) _ _ (aC _ _) (fS.same (cN hl _)) (S.newLst hl r') (ni S)
  ·exact q.elim
 ·exact q.elim,fun ws st=>by
 unfold tH sf
 repeat' split
 all_goals trivial⟩
def CW(ws:List W)(st:List am):R W:=match ws with
 |[.int i]=>.ok (.int i) st
 |[.bl k]=>.ok (.int (if k then 1 else 0)) st
 |_=>.bad
theorem JS:nn X (.type "int") CW:=⟨fun pins s σ H vs us Q I rv ⟨μ,st,ws,S,r,q⟩=>by
 unfold CW at q
 split at q
 ·obtain⟨x,rfl,rx⟩:=r.one
  exact vf pins s σ H _ us Q I rv (.inl ⟨_,by rw[rx.intE],jL S q⟩)
 ·obtain⟨x,rfl,rx⟩:=r.one
  exact vf pins s σ H _ us Q I rv (.inr ⟨_,by rw[rx.blE],jL S q⟩)
 ·exact q.elim,fun ws st=>by unfold CW;split<;>trivial⟩
end
section
variable{X:Cx}{a b c e o:Expr}{es:List Expr}{pos p p2 gG dW:Pos}{x name:Str}{j:Nat}{fa fb fc fe:FE}{fs:FA}{ft:FT}{st1:Stmt}{sr sa sb:List Stmt}{g g':FS}
def aW(g g':FS):FS:=fun ρ st=>match g ρ st with
 |.nx ρ' bI=>g' ρ' bI
 |r=>r
def cK:FS:=fun ρ st=>.nx ρ st
theorem cr:SB X [] cK:=⟨HD.imp fun D σ H h=>by
 obtain⟨μ,ρ,st,l,h⟩:=h
 exact h μ σ H (al _) eD.refl l⟩
theorem aO(h1:SS X st1 g):SB X [st1] g:=⟨HE h1.h⟩
theorem aw(h1:SS X st1 g)(h2:SB X sr g'):SB X (st1::sr) (aW g g'):=⟨(DJ h1.h h2.h).imp fun D σ H h=>by
 obtain⟨μ,ρ,st,l,h⟩:=h
 refine⟨μ,ρ,st,l,?_⟩
 unfold aW at h
 cases e:g ρ st with
 |nx ρ' bI=>rw[e]at h;exact fun μ' σ' H' p x l'=>⟨μ',ρ',bI,l',SK.mono h p x⟩
 |rt w bI=>rw[e]at h;exact h
 |bk ρ' bI=>rw[e]at h;exact h
 |ct ρ' bI=>rw[e]at h;exact h
 |ex c ρ' bI=>rw[e]at h;exact h
 |bad=>rw[e]at h;exact h⟩
def wm:FS:=fun ρ st=>.bk ρ st
theorem Es:SS X (.Break pos) wm:=⟨DL.imp fun D σ H h=>by
 obtain⟨μ,ρ,st,l,h⟩:=h
 exact h μ σ H (al _) eD.refl l⟩
def R.stmt{α:Type}(r:R α)(ρ:cf)(k:α->List am->RS):RS:=match r with
 |.ok a st=>k a st
 |.ex c st=>.ex c ρ st
 |.bad=>.bad
@[simp] theorem R.stmt_ok{α:Type}(a:α)(st:List am)(ρ:cf)(k:α->List am->RS):(R.ok a st).stmt ρ k=k a st:=rfl
theorem RK.stmt{α β:Type}{rel:List Addr->Hp->α->β->Prop}{μ:List Addr}{ρ:cf}{st:List am}{σ:St}{H:Hp}{D:v5}{r:R α}{k:α->List am->RS}{T:β->Hp->Prop}
  (h:SK X μ H D (r.stmt ρ k)) (l:Rl X μ ρ st σ H)
  (hk:∀μ' bI x v H',μ <+: μ'->eD X.K H H'->Rl X μ' ρ bI σ H'->rel μ' H' x v->SK X μ' H' D (k x bI)->T v H'):RK X rel μ σ H T r:=by
 cases r with
 |ok a bI=>exact fun μ' b H' p x s q=>hk μ' bI a b H' p x (l.to p x s) q (SK.mono h p x)
 |ex c bI=>exact XS.toE h l
 |bad=>exact h
def eQ(fe:FE):FS:=fun ρ st=>(fe ρ st).stmt ρ fun _ st=>.nx ρ st
theorem d9(he:SE X e fe)(hs:swapsWith e none pos.line X.env=pure false:=by rfl):SS X (.Expr e pos) (eQ fe):=⟨(HF he.h hs).imp fun D σ H h=>by
 obtain⟨μ,ρ,st,l,h⟩:=h
 exact⟨μ,ρ,st,l,RK.stmt h l fun μ1 st1 x v H1 p1 x1 l1 q1 h1=>h1 μ1 σ H1 (al _) eD.refl l1⟩⟩
def dk(fe:FE):FS:=fun ρ st=>(fe ρ st).stmt ρ fun w st=>.rt w st
theorem bM(he:SE X e fe):SS X (.Return (some e) pos) (dk fe):=⟨(K' he.h).imp fun D σ H h=>by
 obtain⟨μ,ρ,st,l,h⟩:=h
 exact⟨μ,ρ,st,l,RK.stmt h l fun μ1 st1 x v H1 p1 x1 l1 q1 h1=>h1 μ1 v H1 (al _) eD.refl l1.sto q1⟩⟩
def hV(t:FT)(g g':FS):FS:=fun ρ st=>(t ρ st).stmt ρ fun k st=>if k then g ρ st else g' ρ st
theorem cZ(hc:ST X c ft)(ha:SB X sa g)(hb:SB X sb g'):SS X (.If c sa sb pos) (hV ft g g'):=⟨(N_ hc.h ha.h hb.h).imp fun D σ H h=>by
 obtain⟨μ,ρ,st,l,h⟩:=h
 refine⟨μ,ρ,st,l,RK.stmt h l fun μ1 st1 x v H1 p1 x1 l1 q1 h1=>?_⟩
 cases q1
 cases x with
 |true=>exact⟨μ1,ρ,st1,l1,h1⟩
 |false=>exact⟨μ1,ρ,st1,l1,h1⟩⟩
abbrev FG:=W->cf->Option cf
abbrev JT:=List W->cf->Option cf
def O4(X:Cx)(f:FG):TG:=fun v σ H Q=>∃μ ρ st w ρ',Rl X μ ρ st σ H/\bF X.K μ H w v/\f w ρ=some ρ'/\∀σ',Rl X μ ρ' st σ' H->Q σ' H
def RG(X:Cx)(f:JT):HG:=fun vs σ H Q=>∃μ ρ st ws ρ',Rl X μ ρ st σ H/\RelWs X.K μ H ws vs/\f ws ρ=some ρ'/\∀σ',Rl X μ ρ' st σ' H->Q σ' H
theorem PG.imp{X:Cx}{e:Expr}{t t':TG}(h:PG X e t)(i:∀v σ H Q,t' v σ H Q->t v σ H Q):PG X e t':=fun pins s σ H x u Q I r q=>h pins s σ H x u Q I r (i _ _ _ _ q)
theorem JI.imp{X:Cx}{e:List Expr}{t t':HG}(h:JI X e t)(i:∀v σ H Q,t' v σ H Q->t v σ H Q):JI X e t':=fun pins s σ H x u Q I r q=>h pins s σ H x u Q I r (i _ _ _ _ q)
structure SG(X:Cx)(e:Expr)(f:FG):Prop where
 h:PG X e (O4 X f)
structure QU(X:Cx)(e:List Expr)(f:JT):Prop where
 h:JI X e (RG X f)
def eU(i:Nat):FG:=fun w ρ=>some (ρ.set i (some w))
theorem BB{i:Nat}(hN:X.N.Nodup)(hi:X.N[i]?=some x)(hx:Hr X.env.scope x)(hf:X.fn x=true\/X.env.scope.names.lookup x=some .local:=by first|exact .inl rfl|exact .inr rfl|assumption):SG X (.Name x pos) (eU i):=⟨(HI hN hi hx hf).imp fun v σ H Q h=>by
 obtain⟨μ,ρ,st,w,ρ',l,r,e,q⟩:=h
 cases e
 exact q _ ⟨lh r i l.env,l.sto⟩⟩
def nq:JT:=fun ws ρ=>match ws with
 |[]=>some ρ
 |_=>none
def eL(f:FG)(fs:JT):JT:=fun ws ρ=>match ws with
 |w::ws=>(f w ρ).bind fun ρ'=>fs ws ρ'
 |[]=>none
theorem jO:QU X [] nq:=⟨HJ.imp fun vs σ H Q h=>by
 obtain⟨μ,ρ,st,ws,ρ',l,r,e,q⟩:=h
 cases ws with
 |nil=>cases e;exact⟨r.nilE,q σ l⟩
 |cons _ _=>cases e⟩
theorem dv{f:FG}{fs:JT}(h1:SG X e f)(h2:QU X es fs)(hs:(assignEach (e::es) X.env).map (·.2)=assign e X.env::(assignEach es X.env).map (·.2):=by rfl):QU X (e::es) (eL f fs):=⟨(DM h1.h h2.h hs).imp fun vs σ H Q h=>by
 obtain⟨μ,ρ,st,ws,ρ',l,r,e,q⟩:=h
 cases ws with
 |nil=>cases e
 |cons w ws=>
  obtain⟨x,xs,rfl,rx,rs⟩:=r.consE
  simp only[eL]at e
  cases e1:f w ρ with
  |none=>rw[e1]at e;cases e
  |some ρ1=>
   rw[e1]at e
   exact⟨x,xs,rfl,μ,ρ,st,w,ρ1,l,rx,e1,fun σ1 l1=>⟨μ,ρ1,st,ws,ρ',l1,rs,e,q⟩⟩⟩
def DE(n:Nat)(fs:JT):FG:=fun w ρ=>match w with
 |.tup ws=>if ws.length=n then fs ws ρ else none
 |_=>none
theorem lL{k n:Nat}{fs:JT}(hc:X.calm=true)(h:QU X es fs)(hn:(assignEach es X.env).length=n:=by rfl)(nM:(assignEach es X.env).findIdx? (·.1)=none:=by rfl):SG X (.Tuple es k pos) (DE n fs):=⟨(La hc h.h hn nM).imp fun v σ H Q h=>by
 obtain⟨μ,ρ,st,w,ρ',l,r,e,q⟩:=h
 cases w with
 |tup ws=>
  obtain⟨p,vs,rfl,hS,rs⟩:=r.tupE
  simp only[DE]at e
  by_cases c:ws.length=n
  ·rw[aB c]at e
   exact⟨p,vs,rfl,hS,by rw[<- rs.len];exact c,μ,ρ,st,ws,ρ',l,rs,e,q⟩
  ·rw[aE c]at e;cases e
 |_=>cases e⟩
def sg(fe:FE)(f:FG):FS:=fun ρ st=>(fe ρ st).stmt ρ fun w st=>match f w ρ with
 |some ρ'=>.nx ρ' st
 |none=>.bad
theorem O5{f:FG}{D:v5}{σ:St}{H:Hp}(h:QR X (sg fe f) D σ H):DN (tE X fe) (O4 X f) D σ H:=by
 obtain⟨μ,ρ,st,l,h⟩:=h
 refine⟨μ,ρ,st,l,RK.stmt h l fun μ1 st1 x v H1 p1 x1 l1 q1 h1=>?_⟩
 cases e1:f x ρ with
 |none=>rw[e1]at h1;exact h1.elim
 |some ρ'=>rw[e1]at h1;exact⟨μ1,ρ,st1,x,ρ',l1,q1,e1,fun σ' l'=>h1 μ1 σ' H1 (al _) eD.refl l'⟩
theorem wn{tg:Expr}{f:FG}(he:SE X e fe)(hg:SG X tg f)(hs:swapsWithSole [tg] e pos.line X.env=pure false:=by rfl)(hw:swappedStores [tg] e X.env=pure none:=by rfl)(h1:(assignEach [tg] X.env).map (·.2)=[assign tg X.env]:=by rfl):SS X (.Assign [tg] e pos) (sg fe f):=⟨(DO he.h hg.h hs hw h1).imp fun D σ H h=>O5 h⟩
def bH(i:Nat)(fe:FE):FS:=fun ρ st=>(fe ρ st).stmt ρ fun w st=>.nx (ρ.set i (some w)) st
theorem L0{i:Nat}{jA:Pos}(hN:X.N.Nodup)(hi:X.N[i]?=some x)(hx:Hr X.env.scope x)(he:SE X e fe)(hs:swapsWith e (some (.Name x jA)) pos.line X.env=pure false:=by rfl)(hf:X.fn x=true\/X.env.scope.names.lookup x=some .local:=by first|exact .inl rfl|exact .inr rfl|assumption) :
  SS X (.Assign [.Name x jA] e pos) (bH i fe):=⟨(Lc hN hi hx he.h hs hf).imp fun D σ H h=>by
 obtain⟨μ,ρ,st,l,h⟩:=h
 exact⟨μ,ρ,st,l,RK.stmt h l fun μ1 st1 x v H1 p1 x1 l1 q1 h1=>h1 μ1 _ H1 (al _) eD.refl ⟨lh q1 i l1.env,l1.sto⟩⟩⟩
def nr(x i v:W)(st:List am):Option (List am):=match x,i with
 |.loc n,.int k=>(match st[n]? with
  |some (.lst ws)=>(Bh ws.length k).map fun j=>st.set n (.lst (ws.set j v))
  |_=>none)
 |_,_=>none
def nu(fo fi fe:FE)(f:W->W->W->List am->Option (List am)):FS:=fun ρ st=>(fe ρ st).stmt ρ fun v st=>(fo ρ st).stmt ρ fun x st=>(fi ρ st).stmt ρ fun i st=>match f x i v st with
 |some bI=>.nx ρ bI
 |none=>.bad
def Et(X:Cx)(f:W->W->W->List am->Option (List am)):HH:=fun o i v H Q=>∃μ st wo wi wv bI,gT X.K X.mg μ st H/\bF X.K μ H wo o/\bF X.K μ H wi i/\bF X.K μ H wv v/\f wo wi wv st=some bI/\∀H',eD X.K H H'->gT X.K X.mg μ bI H'->Q H'
theorem tI:Cn X (Et X nr):=fun pins s σ H o i v ov iv u Q I r1 r2 r3 ⟨μ,st,wo,wi,wv,bI,S,ro,ri,rv,e,q⟩=>by
 cases wo with
 |loc n=>
  cases wi with
  |int k=>
   simp only[nr]at e
   cases e1:st[n]? with
   |none=>rw[e1]at e;cases e
   |some cc=>
    rw[e1]at e
    cases cc with
    |lst ws=>
     simp only at e
     cases e2:Bh ws.length k with
     |none=>rw[e2]at e;cases e
     |some jj=>
      rw[e2]at e
      cases e
      obtain⟨a1,g1,vs,k1,r⟩:=S.get e1
      obtain⟨b1,f1,rfl⟩:=ro.locE
      rw[g1]at f1;cases f1
      refine CN pins s σ H _ i v ov iv u Q I r1 r2 r3 ⟨a1,vs,k,jj,rfl,ri.intE,k1,by rw[<- r.len];exact e2,fun H2 eH=>?_⟩
      subst eH
      exact q _ (fS.but ig k1) (S.set e1 g1 k1 (r.setI jj rv))
    |_=>cases e
  |_=>cases e
 |_=>cases wi<;>cases e
theorem jZ{f:W->W->W->List am->Option (List am)}{i:Expr}{jA:Pos}{fi:FE}{fo:FE}(RY:Cn X (Et X f))(he:SE X e fe)(ho:SE X o fo)(hi:SE X i fi)
  (ha:∀v,assign (.Subscript o i jA) X.env v=(do
   let ov <- holding [v] (eval o X.env)
   let iv <- holding [v,ov] (eval i X.env)
   standAt jA
   holding [v,ov,iv] (setItem ov iv v)
   release [v,ov,iv] []):=by intro _;rfl)
  (hs:swapsWithSole [.Subscript o i jA] e pos.line X.env=pure false:=by rfl) (hw:swappedStores [.Subscript o i jA] e X.env=pure none:=by rfl) (h1:(assignEach [.Subscript o i jA] X.env).map (·.2)=[assign (.Subscript o i jA) X.env]:=by rfl) :
  SS X (.Assign [.Subscript o i jA] e pos) (nu fo fi fe f):=⟨(DO he.h (Lb ho.h hi.h RY ha) hs hw h1).imp fun D σ H h=>by
 obtain⟨μ,ρ,st,l,h⟩:=h
 refine⟨μ,ρ,st,l,RK.stmt h l fun μ1 st1 v vv H1 p1 x1 l1 q1 h1=>⟨μ1,ρ,st1,l1,RK.stmt h1 l1 fun μ2 st2 x xv H2 p2 x2 l2 q2 h2=>⟨μ2,ρ,st2,l2,RK.stmt h2 l2 fun μ3 jT i iv H3 p3 x3 l3 q3 h3=>?_⟩⟩⟩
 cases e1:f x i v jT with
 |none=>rw[e1]at h3;exact h3.elim
 |some bI=>
  rw[e1]at h3
  exact⟨μ3,jT,x,i,v,bI,l3.sto,q2.mono p3 x3,q3,(q1.mono p2 x2).mono p3 x3,e1,fun H' xx S'=>h3 μ3 σ H' (al _) xx (l3.to (al _) xx S')⟩⟩
end
def iG(st:List am):Option (Nat×List W)->Prop
 |none=>True
 |some (n,ws)=>lstOf st n=some ws
abbrev Al:=List W×Option (Nat×List W)
abbrev FI:=cf->List am->R Al
def wp(X:Cx)(J:It)(k:Al)(μ:List Addr)(H:Hp):Prop:=
 ∀(i:Nat) μ' bI H',μ <+: μ'->eD X.K H H'->gT X.K X.mg μ' bI H'->iG bI k.2 ->
  (∀w,k.1[i]?=some w->J.go i H'/\∀x H'',J.yld i H' x H''->eD X.K H' H''/\gT X.K X.mg μ' bI H''/\bF X.K μ' H'' w x)/\(k.1.length<=i->J.stop i H')
abbrev O6(X:Cx):List Addr->Hp->Al->It->Prop:=fun μ H k J=>wp X J k μ H
structure SI(X:Cx)(tg it:Expr)(f:FI):Prop where
 h:PI X tg it (fun σ H R=>tG X (O6 X) f σ H R)
theorem PI.imp{X:Cx}{tg it:Expr}{t t':TI}(h:PI X tg it t)(i:∀σ H Q,t' σ H Q->t σ H Q):PI X tg it t':=fun pins s σ H Q I q=>h pins s σ H Q I (i _ _ _ q)
open Classical in
def pY(f:FG)(body:FS)(ck:Option (Nat×List W)):List W->FS
 |[],ρ,st=>if iG st ck then .nx ρ st else .bad
 |w::ws,ρ,st=>if iG st ck then(match f w ρ with
  |none=>.bad
  |some ρ'=>(match body ρ' st with
   |.nx ρ2 st2=>pY f body ck ws ρ2 st2
   |.ct ρ2 st2=>pY f body ck ws ρ2 st2
   |.bk ρ2 st2=>.nx ρ2 st2
   |.rt w st2=>.rt w st2
   |.ex c ρ2 st2=>.ex c ρ2 st2
   |.bad=>.bad))else .bad
def gn(fi:FI)(f:FG)(body:FS):FS:=fun ρ st=>(fi ρ st).stmt ρ fun k st=>pY f body k.2 k.1 ρ st
section
variable{X:Cx}{a b c e o tg iter:Expr}{es:List Expr}{pos p p2:Pos}{fa fb fe:FE}{fs:FA}{ft:FT}{body:List Stmt}{g:FS}{f:FG}{fi:FI}
theorem dz(hi:SI X tg iter fi)(hg:SG X tg f)(hb:SB X body g)(hc:X.calm=true:=by rfl)(hp:PassesOwn (model X.prog X.w) X.A X.env X.xe:=by passes_own)(hs:∀x,foldedSetIterable iter X.env x=pure x:=by intro _;rfl):SS X (.For tg iter body [] pos) (gn fi f g):=⟨(Lf hp hc hi.h hg.h hb.h hs).imp fun D σ H h=>by
 obtain⟨μ,ρ,st,l,h⟩:=h
 refine⟨μ,ρ,st,l,RK.stmt h l fun μ1 st1 k J H1 p1 x1 l1 wk h1=>?_⟩
 refine⟨fun i m σ' H'=>i<=k.1.length/\m=k.1.length-i/\∃μ' ρ' bI,μ1 <+: μ'/\eD X.K H1 H'/\Rl X μ' ρ' bI σ' H'/\SK X μ' H' D (pY f g k.2 (k.1.drop i) ρ' bI),
  ⟨_,b_ _,rfl,μ1,ρ,st1,al _,eD.refl,l1,h1⟩,?_⟩
 rintro i m σ' H' ⟨hi,rfl,μ',ρ',bI,pm,xm,lm,hm⟩
 by_cases kE:i<k.1.length
 ·rw[eh kE]at hm
  unfold pY at hm
  by_cases ck:iG bI k.2
  ·rw[aB ck]at hm
   obtain⟨go,yld⟩:=(wk i μ' bI H' pm xm lm.sto ck).1 _ (ae kE)
   cases hf:f k.1[i] ρ' with
   |none=>rw[hf]at hm;exact hm.elim
   |some ρ2=>
    rw[hf]at hm
    simp only at hm
    refine .inr ⟨go,fun σ2 H2=>∃μ2 ρ3 st2,μ' <+: μ2/\eD X.K H' H2/\Rl X μ2 ρ3 st2 σ2 H2/\SK X μ2 H2 D (pY f g k.2 (k.1.drop (i+1)) ρ3 st2),fun σ2 H2 ⟨μ2,ρ3,st2,q1,q2,q3,q4⟩=>
     ⟨_,by omega,kE,rfl,μ2,ρ3,st2,pm.trans q1,xm.trans q2,q3,q4⟩,fun x H2 hy=>?_⟩
    obtain⟨y1,y2,y3⟩:=yld x H2 hy
    refine⟨μ',ρ',bI,k.1[i],ρ2,lm.to (al _) y1 y2,y3,hf,fun σ2 l2=>⟨μ',ρ2,bI,l2,?_⟩⟩
    cases e:g ρ2 bI with
    |nx ρ3 jT=>rw[e]at hm;exact fun μ4 σ4 H4 p4 x4 l4=>⟨μ4,ρ3,jT,p4,y1.trans x4,l4,SK.mono hm p4 (y1.trans x4)⟩
    |ct ρ3 jT=>rw[e]at hm;exact fun μ4 σ4 H4 p4 x4 l4=>⟨μ4,ρ3,jT,p4,y1.trans x4,l4,SK.mono hm p4 (y1.trans x4)⟩
    |bk ρ3 jT=>rw[e]at hm;exact fun μ4 σ4 H4 p4 x4 l4=>hm μ4 σ4 H4 p4 (y1.trans x4) l4
    |rt w jT=>rw[e]at hm;exact fun μ4 v4 H4 p4 x4=>hm μ4 v4 H4 p4 (y1.trans x4)
    |ex c ρ3 jT=>rw[e]at hm;exact XS.mono hm (al _) y1
    |bad=>rw[e]at hm;exact hm
  ·rw[aE ck]at hm;exact hm.elim
 ·have hi':i=k.1.length:=by omega
  subst hi'
  rw[mq (ay _)]at hm
  unfold pY at hm
  by_cases ck:iG bI k.2
  ·rw[aB ck]at hm
   exact .inl ⟨(wk _ μ' bI H' pm xm lm.sto ck).2 (ay _),hm μ' σ' H' (al _) eD.refl lm⟩
  ·rw[aE ck]at hm;exact hm.elim⟩
def fX(t:FT)(body:FS):Nat->FS
 |0,_,_=>.bad
 |n+1,ρ,st=>(t ρ st).stmt ρ fun k st=>if k then(match body ρ st with
   |.nx ρ2 st2=>fX t body n ρ2 st2
   |.ct ρ2 st2=>fX t body n ρ2 st2
   |.bk ρ2 st2=>.nx ρ2 st2
   |.rt w st2=>.rt w st2
   |.ex c ρ2 st2=>.ex c ρ2 st2
   |.bad=>.bad)else .nx ρ st
open Classical in
def lM(t:FT)(body:FS):FS:=fun ρ st=>if h:∃n,fX t body n ρ st≠.bad then fX t body h.choose ρ st else .bad
theorem nv(t:FT)(g:FS):∀(n:Nat) (ρ:cf) (st:List am),fX t g n ρ st≠.bad->fX t g (n+1) ρ st=fX t g n ρ st
 |0,_,_,h=>absurd rfl h
 |n+1,ρ,st,h=>by
  unfold fX at h ⊢
  cases e:t ρ st with
  |ex c st1=>rfl
  |bad=>rfl
  |ok k st1=>
   rw[e]at h
   simp only[R.stmt_ok]at h ⊢
   cases k with
   |false=>rfl
   |true=>
    simp only[fN]at h ⊢
    cases e2:g ρ st1 with
    |nx ρ2 st2=>rw[e2]at h;exact nv t g n ρ2 st2 h
    |ct ρ2 st2=>rw[e2]at h;exact nv t g n ρ2 st2 h
    |_=>rfl
theorem vq{t:FT}{g:FS}{n m:Nat}{ρ:cf}{st:List am}(h:fX t g n ρ st≠.bad)(hm:n<=m):fX t g m ρ st=fX t g n ρ st:=by
 induction hm with
 |refl=>rfl
 |@step m _ ih=>rw[nv t g m ρ st (by rw[ih];exact h),ih]
theorem CY{t:FT}{g:FS}{n:Nat}{ρ:cf}{st:List am}{r:RS}(h:fX t g n ρ st=r)(hr:r≠.bad):lM t g ρ st=r:=by
 have hx:∃n,fX t g n ρ st≠.bad:=⟨n,by rw[h];exact hr⟩
 unfold lM
 rw[dif_pos hx]
 have c:=hx.choose_spec
 have a:=vq c (Nat.le_max_left hx.choose n)
 have b:=vq (n:=n) (m:=max hx.choose n) (by rw[h];exact hr) (Nat.le_max_right _ _)
 rw[<- a,b,h]
theorem yl{X:Cx}{t:FT}{g:FS}{D:v5}:∀(n:Nat) (σ:St) (H:Hp) (μ:List Addr) (ρ:cf) (st:List am),Rl X μ ρ st σ H->SK X μ H D (fX t g n ρ st)->DP (tT X t) (QR X g) D σ H:=by
 intro n σ H μ ρ st l h
 refine⟨fun m σ' H'=>∃μ' ρ' bI,Rl X μ' ρ' bI σ' H'/\SK X μ' H' D (fX t g m ρ' bI),⟨n,μ,ρ,st,l,h⟩,?_⟩
 rintro m σ' H' ⟨μ',ρ',bI,l',h'⟩
 cases m with
 |zero=>exact h'.elim
 |succ m=>
  refine⟨μ',ρ',bI,l',RK.stmt h' l' fun μ1 st1 k v H1 p1 x1 l1 q1 h1=>?_⟩
  cases q1
  cases k with
  |false=>exact h1 μ1 σ' H1 (al _) eD.refl l1
  |true=>
   refine⟨fun σ2 H2=>∃μ2 ρ2 st2,Rl X μ2 ρ2 st2 σ2 H2/\SK X μ2 H2 D (fX t g m ρ2 st2),fun σ2 H2 z=>⟨m,jb m,z⟩,μ1,ρ',st1,l1,?_⟩
   simp only[fN]at h1
   cases e:g ρ' st1 with
   |nx ρ3 jT=>rw[e]at h1;exact fun μ4 σ4 H4 p4 x4 l4=>⟨μ4,ρ3,jT,l4,SK.mono h1 p4 x4⟩
   |ct ρ3 jT=>rw[e]at h1;exact fun μ4 σ4 H4 p4 x4 l4=>⟨μ4,ρ3,jT,l4,SK.mono h1 p4 x4⟩
   |bk ρ3 jT=>rw[e]at h1;exact h1
   |rt w jT=>rw[e]at h1;exact h1
   |ex c ρ3 jT=>rw[e]at h1;exact h1
   |bad=>rw[e]at h1;exact h1
theorem ym{t:FT}(hc:ST X c t)(hb:SB X body g)(hp:PassesOwn (model X.prog X.w) X.A X.env X.xe:=by passes_own):SS X (.While c body [] pos) (lM t g):=⟨(DQ hp hc.h hb.h).imp fun D σ H h=>by
 obtain⟨μ,ρ,st,l,h⟩:=h
 unfold lM at h
 by_cases hx:∃n,fX t g n ρ st≠.bad
 ·rw[dif_pos hx]at h;exact yl _ σ H μ ρ st l h
 ·rw[dif_neg hx]at h;exact h.elim⟩
def Eu(fe:FE):FI:=fun ρ st=>(fe ρ st).bind fun x st=>match x with
 |.tup ws=>.ok (ws,none) st
 |_=>.bad
theorem Ev(he:SE X e fe):SI X tg e (Eu fe):=⟨(Le he.h).imp fun σ H R h=>by
 obtain⟨μ,ρ,st,l,h⟩:=h
 refine⟨μ,ρ,st,l,RK.bind h l fun μ1 st1 x v H1 p1 x1 l1 q1 h1=>?_⟩
 cases x with
 |tup ws=>
  obtain⟨p,vs,rfl,hS,r⟩:=q1.tupE
  refine⟨p,rfl,⟨vs,hS⟩,h1 μ1 _ H1 (al _) eD.refl l1.sto fun i μ' bI H' pp xx S _=>⟨fun w hw=>?_,fun hl=>⟨vs,xx _ _ hS,by rw[<- r.len];exact hl⟩⟩⟩
  have r':=r.mono pp xx
  obtain⟨v,g1,g2⟩:=r'.get hw
  refine⟨⟨vs,v,xx _ _ hS,g1⟩,fun y H'' hy=>?_⟩
  obtain⟨rfl,hy⟩:=hy
  have:=hy vs (xx _ _ hS)
  rw[g1]at this;cases this
  exact⟨eD.refl,S,g2⟩
 |_=>exact h1.elim⟩
def JU(fe:FE):FI:=fun ρ st=>(fe ρ st).bind fun x st=>match x with
 |.loc n=>(match lstOf st n with
  |some ws=>.ok (ws,some (n,ws)) st
  |none=>.bad)
 |_=>.bad
theorem L1(he:SE X e fe):SI X tg e (JU fe):=⟨(HK he.h).imp fun σ H R h=>by
 obtain⟨μ,ρ,st,l,h⟩:=h
 refine⟨μ,ρ,st,l,RK.bind h l fun μ1 st1 x v H1 p1 x1 l1 q1 h1=>?_⟩
 cases x with
 |loc n=>
  obtain⟨a,ha,rfl⟩:=q1.locE
  simp only at h1
  cases e1:lstOf st1 n with
  |none=>rw[e1]at h1;exact h1.elim
  |some ws=>
   rw[e1]at h1
   obtain⟨a',vs0,g0,hS0,r0⟩:=l1.sto.lstOf e1
   rw[ha]at g0;cases g0
   refine⟨a,rfl,⟨vs0,hS0⟩,h1 μ1 _ H1 (al _) eD.refl l1.sto fun i μ' bI H' pp xx S ck=>?_⟩
   obtain⟨a2,vs,g2,hS,r⟩:=S.lstOf (show lstOf bI n=some ws from ck)
   have:μ'[n]?=some a:=pre_get pp ha
   rw[g2]at this;cases this
   refine⟨fun w hw=>?_,fun hl=>⟨vs,hS,by rw[<- r.len];exact hl⟩⟩
   obtain⟨v,g1,g3⟩:=r.get hw
   refine⟨⟨vs,v,hS,g1⟩,fun y H'' hy=>?_⟩
   obtain⟨rfl,hy⟩:=hy
   have:=hy vs hS
   rw[g1]at this;cases this
   exact⟨eD.refl,S,g3⟩
 |_=>exact h1.elim⟩
def bK(lo:Int)(n:Nat):List W:=(List.range n).map fun(i:Nat)=>W.int (lo+i)
theorem cG(lo:Int)(n:Nat):(bK lo n).length=n:=by simp[bK]
theorem tJ{μ:List Addr}{H:Hp}{lo:Int}{n:Nat}:wp X (Ob lo n) (bK lo n,none) μ H:=fun i μ' bI H' pp xx S _=>by
 refine⟨fun w hw=>?_,fun hl=>by rw[cG]at hl;exact hl⟩
 have hi:i<n:=by
  have:=(aa.mp hw).1
  rw[cG]at this;exact this
 refine⟨hi,fun y H'' hy=>?_⟩
 obtain⟨rfl,rfl⟩:=hy
 have e:w=.int (lo+i):=by
  unfold bK at hw
  rw[ax,bq hi]at hw
  exact(aZ hw).symm
 subst e
 exact⟨eD.refl,S,.int⟩
def bw(fs:FA):FI:=fun ρ st=>(fs ρ st).bind fun ws st=>match ws with
 |[.int j]=>if -(2^62)<=j/\j<2^62 then .ok (bK 0 j.toNat,none) st else .bad
 |_=>.bad
def j4(fs:FA):FI:=fun ρ st=>(fs ρ st).bind fun ws st=>match ws with
 |[.int i,.int j]=>if -(2^62)<=i/\i<2^62/\-(2^62)<=j/\j<2^62 then .ok (bK i (j-i).toNat,none) st else .bad
 |_=>.bad
theorem b9(hm:X.mg "range"=none)(ha:SA X [a] fs)(hg:Gl X "range":=by rfl)(hs:starEach [a] X.env=[(false,eval a X.env)]:=by rfl):SI X tg (.Call (.Name "range" p) [a] [] pos) (bw fs):=⟨(Cp hg hm ha.h hs).imp fun σ H R h=>by
 obtain⟨μ,ρ,st,l,h⟩:=h
 refine⟨μ,ρ,st,l,RK.bind h l fun μ1 st1 x v H1 p1 x1 l1 q1 h1=>?_⟩
 split at h1
 ·obtain⟨y,rfl,ry⟩:=q1.one
  split at h1
  ·rename_i c
   exact⟨_,by rw[ry.intE],c.1,c.2,h1 μ1 _ H1 (al _) eD.refl l1.sto tJ⟩
  ·exact h1.elim
 ·exact h1.elim⟩
theorem vt(hm:X.mg "range"=none)(ha:SA X [a,b] fs)(hg:Gl X "range":=by rfl)(hs:starEach [a,b] X.env=[(false,eval a X.env),(false,eval b X.env)]:=by rfl)(xP:starEach [b] X.env=[(false,eval b X.env)]:=by rfl):SI X tg (.Call (.Name "range" p) [a,b] [] pos) (j4 fs):=⟨(Cq hg hm ha.h hs xP).imp fun σ H R h=>by
 obtain⟨μ,ρ,st,l,h⟩:=h
 refine⟨μ,ρ,st,l,RK.bind h l fun μ1 st1 x v H1 p1 x1 l1 q1 h1=>?_⟩
 split at h1
 ·obtain⟨y,z,rfl,ry,rz⟩:=q1.two
  split at h1
  ·rename_i c
   exact⟨_,_,by rw[ry.intE,rz.intE],c,h1 μ1 _ H1 (al _) eD.refl l1.sto tJ⟩
  ·exact h1.elim
 ·exact h1.elim⟩
end
mutual
def W.und(n:Nat):W->Bool
 |.loc m=>decide (m<n)
 |.tup ws=>undWs n ws
 |_=>true
def undWs(n:Nat):List W->Bool
 |[]=>true
 |w::ws=>w.und n&&undWs n ws
end
def am.und(n:Nat):am->Bool
 |.lst ws=>undWs n ws
 |.ro ws=>undWs n ws
 |.exc _=>true
 |.dct kvs=>undWs n (kvs.map fun p=>p.2)
 |.rod kvs=>undWs n (kvs.map fun p=>p.2)
 |.tab _ _ _=>true
section
variable{K:Frag}{mg:Str->Option Value}{μ μ':List Addr}{H H':Hp}
mutual
theorem bF.und:∀{w:W} {v:V},bF K μ H w v->w.und μ.length=true
 |.non,_,_=>by simp[W.und]
 |.bl _,_,_=>by simp[W.und]
 |.int _,_,_=>by simp[W.und]
 |.str _,_,_=>by simp[W.und]
 |.tup _,_,r=>by obtain⟨p,vs,_,_,c⟩:=r.tupE;unfold W.und;exact RelWs.und c
 |.loc _,_,r=>by obtain⟨a,e,_⟩:=r.locE;unfold W.und;exact a_ (aa.mp e).1
theorem RelWs.und:∀{ws:List W} {vs:List V},RelWs K μ H ws vs->undWs μ.length ws=true
 |[],_,_=>by unfold undWs;rfl
 |_::_,_,r=>by obtain⟨x,xs,_,b,c⟩:=r.consE;unfold undWs;rw[bF.und b,RelWs.und c];rfl
end
mutual
theorem bF.take{n:Nat}:∀{w:W} {v:V},bF K μ H w v->w.und n=true->bF K (μ.take n) H w v
 |.non,_,r,_=>by rw[r.nonE];exact .non
 |.bl _,_,r,_=>by rw[r.blE];exact .bl
 |.int _,_,r,_=>by rw[r.intE];exact .int
 |.str _,_,r,_=>by rw[r.strE];exact .str
 |.tup _,_,r,b=>by obtain⟨p,vs,rfl,h,c⟩:=r.tupE;unfold W.und at b;exact .tupI h (RelWs.takeN c b)
 |.loc _,_,r,b=>by obtain⟨a,e,rfl⟩:=r.locE;unfold W.und at b;exact .locI (by rw[aN (fP b)];exact e)
theorem RelWs.takeN{n:Nat}:∀{ws:List W} {vs:List V},RelWs K μ H ws vs->undWs n ws=true->RelWs K (μ.take n) H ws vs
 |[],_,r,_=>by rw[r.nilE];exact .nilI
 |_::_,_,r,b=>by
  obtain⟨x,xs,rfl,b1,c1⟩:=r.consE
  unfold undWs at b
  rw[cq]at b
  exact .consI (bF.take b1 b.1) (RelWs.takeN c1 b.2)
end
theorem kK.und{c:am}{a:Addr}(r:kK K mg μ H c a):c.und μ.length=true:=by
 cases c with
 |lst ws=>obtain⟨vs,_,y⟩:=r;exact y.und
 |ro ws=>obtain⟨vs,_,y⟩:=r;exact y.und
 |exc c=>rfl
 |dct kvs=>obtain⟨vs,_,y⟩:=r;exact y.und
 |rod kvs=>obtain⟨vs,_,_,y⟩:=r;exact y.und
 |tab _ _ _=>rfl
theorem kK.take{n:Nat}{c:am}{a:Addr}(r:kK K mg μ H c a)(b:c.und n=true):kK K mg (μ.take n) H c a:=by
 cases c with
 |lst ws=>obtain⟨vs,x,y⟩:=r;exact⟨vs,x,y.takeN b⟩
 |ro ws=>obtain⟨vs,x,y⟩:=r;exact⟨vs,x,y.takeN b⟩
 |exc c=>exact r
 |dct kvs=>obtain⟨vs,x,y⟩:=r;exact⟨vs,x,y.takeN b⟩
 |rod kvs=>obtain⟨vs,o,x,y⟩:=r;exact⟨vs,o,x,y.takeN b⟩
 |tab _ _ _=>exact r
end
theorem fg.ex{P:Program}{w:World}{H:Hp}{h:Heap}{a:Addr}{o:HO}(x:fg P w H h a o):∃ob,h.get? a=some ob:=by
 cases o with
 |lst xs=>obtain⟨_,_,_,_,e⟩:=x;exact⟨_,e⟩
 |tup xs=>obtain⟨_,_,_,o,e,_⟩:=x;exact⟨_,e⟩
 |dK kvs=>obtain⟨_,_,_,_,o,_,_,e,_⟩:=x;exact⟨_,e⟩
 |dT kvs=>obtain⟨_,_,_,_,o,_,_,e,_⟩:=x;exact⟨_,e⟩
 |set S n=>obtain⟨o,_,_,_,e,_⟩:=x;exact⟨_,e⟩
 |ins C dx fs=>obtain⟨_,_,_,e,_⟩:=x;exact⟨_,e⟩
 |own y=>obtain⟨_,e⟩:=x;exact⟨_,e⟩
 |xd fs=>obtain⟨_,⟨_,_,_,e,_⟩,_⟩:=x;exact⟨_,e⟩
 |rng lo hi=>obtain⟨_,_,_,e⟩:=x;exact⟨_,e⟩
 |frz ob u=>obtain⟨e,_⟩:=x;exact⟨_,e⟩
 |tbl ps=>exact⟨_,(show h.get? a=some _ from x)⟩
 |met f y=>exact⟨_,(show h.get? a=some _ from x)⟩
 |ext φ=>obtain⟨_,⟨_,e⟩,_⟩:=x;exact⟨_,e⟩
def JV(st bI:List am)(ws:List W):Prop:=undWs st.length ws=true/\st.length<=bI.length/\∀(i:Nat),i<st.length->bI[i]?=st[i]?\/∃c,bI[i]?=some c/\c.und st.length=true
open Classical in
def j6(st bI:List am)(ws:List W):List am:=if JV st bI ws then bI.take st.length else bI
theorem tK{K:Frag}{mg:Str->Option Value}{μ μ':List Addr}{H H':Hp}{st bI:List am}{ws:List W}{vs:List V}(S:gT K mg μ st H)(S':gT K mg μ' bI H')(p:μ <+: μ')(r:RelWs K μ' H' ws vs) :
  ∃μ2,μ <+: μ2/\gT K mg μ2 (j6 st bI ws) H'/\RelWs K μ2 H' ws vs:=by
 unfold j6
 by_cases k:JV st bI ws
 ·rw[aB k]
  obtain⟨k1,k2,k3⟩:=k
  have e:μ'.take st.length=μ:=by
   obtain⟨t,rfl⟩:=p
   rw[S.len,List.take_left]
  refine⟨μ'.take st.length,by rw[e];exact al _,⟨fun i j a ci cj h1 h2 r1 r2 m1 m2=>?_,by rw[bb,bb,S'.len],fun i c a h1 h2=>?_⟩,r.takeN k1⟩
  ·have hi:i<st.length:=by have:=(aa.mp h1).1;rw[bb]at this;omega
   have hj:j<st.length:=by have:=(aa.mp h2).1;rw[bb]at this;omega
   rw[aN hi]at h1 m1
   rw[aN hj]at h2 m2
   exact S'.nd i j a ci cj h1 h2 r1 r2 m1 m2
  ·have hi:i<st.length:=by have:=(aa.mp h1).1;rw[bb]at this;omega
   rw[aN hi]at h1 h2
   refine(S'.at' i c a h1 h2).take ?_
   rcases k3 i hi with q|⟨c',q,b⟩
   ·rw[h1]at q
    obtain⟨a0,g0,r0⟩:=S.get q.symm
    have:=r0.und
    rw[S.len];exact this
   ·rw[h1]at q;cases q;exact b
 ·rw[aE k]
  exact⟨μ',p,S',r⟩
def eF(N:Nat)(body:FS)(ws:List W)(st:List am):R W:=match body (ws.map some++List.replicate (N-ws.length) none) st with
 |.rt w bI=>.ok w (j6 st bI [w])
 |.nx _ bI=>.ok .non (j6 st bI [])
 |.ex c _ bI=>.ex c (j6 st bI [])
 |_=>.bad
def kG(P:Program)(w:World):Hs:=fun outer H s E e s'=>∃x C t B H',e=.ref x/\E C none H'/\s'.os=s.os/\AllBare s'.gens/\Un (pL outer) [] H H' s.heap s'.heap/\pe P w H' s'.heap/\H' x=none/\Heap.FlyingW B outer x C (.ref t) s'.heap /\
 ∀b o,s'.heap.get? b=some o->(H' b≠none\/((∃o0,s.heap.get? b=some o0)/\b∉pL outer))->B.get? b=some o
def lc(K:Frag)(mg:Str->Option Value)(n:Nat)(F:List W->List am->R W):Sp:=fun vs H Q E=>vs.length=n/\∃μ ws st,gT K mg μ st H/\RelWs K μ H ws vs/\(match F ws st with
 |.ok w bI=>∀μ' v H',μ <+: μ'->eD K H H'->gT K mg μ' bI H'->bF K μ' H' w v->Q v H'
 |.ex c bI=>∀C μ' H',mg c=some C->μ <+: μ'->eD K H H'->gT K mg μ' bI H'->E C none H'
 |.bad=>False)
theorem rL.noted{X:Cx}{pins:List (Addr×Obj)}{σ:St}{c:Str}{H:Hp}{e:Value}{s:Shared}{Q:Unit->Shared->Prop}{E:Value->Shared->Prop}{M:Model}{outer:List Env}(f:rL X pins σ c H e s)(nM:X.stack=X.env::outer)(xL:X.env.frame=some X.env.locals)(hA:X.A.frames=some X.stack)
  (h:∀x C t B h',e=.ref x->X.mg c=some C->H x=none->Heap.FlyingW B X.stack x C (.ref t) h'->s.heap.UpToSlots h' ->
   (∀b o,s.heap.get? b=some o->(H b≠none\/((∃o0,X.s₀.heap.get? b=some o0)/\b∉X.fs/\b∉X.ex)\/((∃y,X.env.cells.lookup y=some b)/\b∉pL X.stack)\/∃p∈X.pn++pins,p.1=b)->B.get? b=some o)->Q () { s with heap:=h' }) :
  wpAny M X.A (leaving X.env e) Q E s:=by
 obtain⟨x,C,t,B,rfl,hC,hx,st,nx,ff,tr,cov⟩:=f.ex
 rw[nM]at ff hA
 rcases tr with tr|⟨oe,vs,he,rfl,_,hd,h1,h0⟩|⟨L,hL,tr⟩
 ·refine wpAny_leaving_nextW hA ff xL tr st nx fun h' hL=>?_
  obtain⟨k1,k2,k3,k4⟩:=hL
  exact h x C t B h' rfl hC hx ⟨k1,nx,by rw[nM];exact k2,k3⟩ k4 cov
 ·refine wpAny_leaving_firstW hA ff xL he st nx hd h1 h0 fun h' hL=>?_
  obtain⟨k1,k2,k3,k4⟩:=hL
  exact h x _ t B h' rfl hC hx ⟨k1,nx,by rw[nM];exact k2,k3⟩ k4 cov
 ·unfold leaving
  refine ak (mv hL tr (qC ⟨st,nx,ff,tr⟩ fun h' fl up=>?_))
  exact h x C t B h' rfl hC hx (by rw[nM];exact fl) up cov
theorem rL.leaves{X:Cx}{pins:List (Addr×Obj)}{σ:St}{c:Str}{H:Hp}{e:Value}{s:Shared}{E:XK}{E':Value->Shared->Prop}{M:Model}(f:rL X pins σ c H e s)(nM:X.stack=X.env::X.outer)(xL:X.env.frame=some X.env.locals)(hA:X.A.frames=some X.stack)(Qf:X.ex=[])
  (hE:∀C,X.mg c=some C->E C none H):wpAny M X.A (leaving X.env e) (fun _ s''=>kG X.prog X.w X.outer X.H₀ X.s₀ E e s'') E' s:=by
 refine f.noted nM xL hA fun x C t B h' he hC hx fl up cov=>?_
 have I:=f.inv
 have un:=I.base
 rw[Qf]at un
 have fsE:X.fs=pL X.outer:=rfl
 obtain⟨f1,f2,f3,f4⟩:=fl
 rw[nM]at f3
 obtain⟨_,_,f3'⟩:=f3
 have frames:∀b∈pL X.outer,∀o,s.heap.get? b=some o->∃sl,h'.get? b=some { o with slots:=sl }:=fun b hb o ho=>by
  obtain⟨_,o',ho',hd⟩:=I.funs.mem hb
  rw[ho]at ho';cases ho'
  exact up b o ho hd
 have kept:∀b o,s.heap.get? b=some o->(∃o0,X.s₀.heap.get? b=some o0)->b∉pL X.outer->h'.get? b=some o:=fun b o ho h0 hb=>f1 b o (cov b o ho (.inr (.inl ⟨h0,hb,by rw[Qf];simp⟩)))
 have keptH:∀b o,s.heap.get? b=some o->H b≠none->h'.get? b=some o:=fun b o ho h0=>f1 b o (cov b o ho (.inl h0))
 refine⟨x,C,t,B,H,he,hE C hC,I.os,I.bare,⟨fun b o q n hb hx=>?_,fun b o q n hb hx=>?_,fun b o q n hx=>un.free b o q n hx,fun b o q hx=>?_,un.tups,un.frzs,un.tbls⟩,fun b u hb=>?_,hx,⟨f1,f2,f3',f4⟩,fun b o ho hr=>?_⟩
 ·exact kept b o (un.keep b o q n hb hx) ⟨o,q⟩ hb
 ·obtain⟨sl,q1⟩:=un.slot b o q n hb hx
  obtain⟨DG,q2⟩:=frames b hb _ q1
  exact⟨DG,q2⟩
 ·obtain⟨o',q1⟩:=un.there b o q hx
  by_cases hb:b∈pL X.outer
  ·obtain⟨DG,q2⟩:=frames b hb _ q1;exact⟨_,q2⟩
  ·exact⟨o',kept b o' q1 ⟨o,q⟩ hb⟩
 ·refine(I.hok b u hb).stay (fun c v hc q=>?_) (fun _ q=>q) fun _ _ q=>q
  refine keptH c v q ?_
  rcases hc with rfl|hc
  ·rw[hb];simp
  ·rw[hc];simp
 ·rcases hr with hr|⟨⟨o0,h0⟩,hb⟩
  ·cases hu:H b with
   |none=>exact absurd hu hr
   |some u=>
    have lt:=I.hok.lt hu
    obtain⟨ob,Dw⟩:∃ob,s.heap.get? b=some ob:=by
     exact(I.hok b u hu).ex
    have:=keptH b ob Dw hr
    rw[ho]at this;cases this
    exact cov b o Dw (.inl hr)
  ·obtain⟨o',q1⟩:=un.there b o0 h0 (by simp)
   have:=kept b o' q1 ⟨o0,h0⟩ hb
   rw[ho]at this;cases this
   exact cov b o q1 (.inr (.inl ⟨⟨o0,h0⟩,hb,by rw[Qf];simp⟩))
structure cu(P:Program)(w:World)(K:Frag)(mg:Str->Option Value)(base:Heap)(k:Nat)(x:Str)(n:Nat)(F:List W->List am->R W):Prop where
 ex:∃(f:Addr) (fd:FuncData) (ps:List Str),mg x=some (.ref f)/\keepIn K (.ref f)=true/\ps.length=n/\xZ K fd ps []/\fA P w K mg base (kG P w) k f fd ps (lc K mg n F)
theorem cu.mono{P:Program}{w:World}{K:Frag}{mg:Str->Option Value}{base:Heap}{j k:Nat}{x:Str}{n:Nat}{F:List W->List am->R W}(h:cu P w K mg base j x n F)(hj:j<=k):cu P w K mg base k x n F:=by
 obtain⟨f,fd,ps,a,b,c,d,e⟩:=h.ex
 exact⟨f,fd,ps,a,b,c,d,e.mono hj⟩
def dq(n:Nat)(F:List W->List am->R W)(fs:FA):FE:=fun ρ st=>(fs ρ st).bind fun ws st=>if ws.length=n then F ws st else .bad
section
variable{X:Cx}
theorem O7{k n:Nat}{f:Addr}{fd:FuncData}{ps:List Str}{F:List W->List am->R W}{pins:List (Addr×Obj)}{σ:St}{H:Hp}{s:Shared}{Q:VK}{us:List Value}{vs:List V}{μ:List Addr}{st:List am}{ws:List W}
  (Fn:fA X.prog X.w X.K X.mg X.base (kG X.prog X.w) k f fd ps (lc X.K X.mg n F)) (hn:ps.length=n) (hr:iA k X.A) (hb:xZ X.K fd ps []) (I:bt X pins σ H s) (S:gT X.K X.mg μ st H) (r:RelWs X.K μ H ws vs) (rv:cV vs us) (hl:ws.length=n)
  (h:RK X (uQ X) μ σ H Q (F ws st)):wpAny (model X.prog X.w) X.A (call (.ref f) us) (EP X pins σ Q) X.xe s:=by
 have xO:(us++([]:List Value)).length=ps.length:=by rw[cP,<- rv.length,<- r.len,hl,hn]
 cases e:F ws st with
 |bad=>rw[e]at h;exact h.elim
 |ok w bI=>
  rw[e]at h
  refine wpAny_call (mh (Fn.run X.A X.stack s H ⟨us,[]⟩ us vs Q (fun _ _ _=>False) hr I.env0 (by have:=hb s us I.kIn xO;rwa[cP]at this) rv ⟨by rw[<- r.len];exact hl,μ,ws,st,S,r,by rw[e];exact h⟩) fun r s' hq=>?_)
  cases r with
  |error e=>obtain⟨_,_,_,_,_,_,z,_⟩:=hq;exact z.elim
  |ok fl=>
   cases fl with
   |ret u=>exact I.after hq
   |next=>exact False.elim hq
   |brk=>exact False.elim hq
   |cont=>exact False.elim hq
 |ex c bI=>
  rw[e]at h
  refine wpAny_call (mh (Fn.run X.A X.stack s H ⟨us,[]⟩ us vs (fun _ _=>False) (fun C _ H'=>X.mg c=some C/\∃μ',μ <+: μ'/\eD X.K H H'/\gT X.K X.mg μ' bI H') hr I.env0 (by have:=hb s us I.kIn xO;rwa[cP]at this) rv
   ⟨by rw[<- r.len];exact hl,μ,ws,st,S,r,by rw[e];exact fun C μ' H' hC p x S'=>⟨hC,μ',p,x,S'⟩⟩) fun r s' hq=>?_)
  cases r with
  |ok fl=>
   cases fl with
   |ret u=>obtain⟨_,_,_,_,_,_,_,z⟩:=hq;exact z.elim
   |next=>exact False.elim hq
   |brk=>exact False.elim hq
   |cont=>exact False.elim hq
  |error ev=>
   obtain⟨x,C,t,B,H',rfl,⟨hC,μ',p,xx,S'⟩,os,bare,un,hok,hx,fl,cov⟩:=hq
   have I':bt X pins σ H' s':=I.call' os un hok bare fun b hb=>absurd hb (by simp)
   refine h pins μ' H' (.ref x) s' p xx S' ⟨I',x,C,t,B,rfl,hC,hx,fl.1,fl.2.1,fl.2.2.1,.inl fl.2.2.2,fun b o ho hrel=>?_⟩
   refine cov b o ho ?_
   rcases hrel with q|⟨⟨o0,h0⟩,hb,hbx⟩|⟨⟨y,hy⟩,hb⟩|⟨pp,hp,rfl⟩
   ·exact .inl q
   ·refine .inr ⟨?_,fun z=>?_⟩
    ·obtain⟨o',q1⟩:=I.base.there b o0 h0 hbx
     exact⟨o',q1⟩
    ·rcases a8.mp (I.stkSub b z)with z|z
     ·rw[z]at h0
      exact absurd (aV (aI h0) I.ok.above) (bo _)
     ·exact hb z
   ·obtain⟨v,ov,hov,_⟩:=I.cell y b hy
    exact .inr ⟨⟨_,hov⟩,hb⟩
   ·obtain⟨g1,g2,g3,g4,_⟩:=I.pin pp hp
    refine .inr ⟨⟨_,g1⟩,fun z=>?_⟩
    rcases a8.mp (I.stkSub _ z)with z|z
    ·exact g3 z
    ·exact g4 z
variable{e:Expr}{es:List Expr}{pos p:Pos}{x:Str}{fs:FA}
theorem cJ{k k' n:Nat}{F:List W->List am->R W}(Fn:cu X.prog X.w X.K X.mg X.base k x n F)(hr:iA k' X.A)(hk:k<=k')(ha:SA X (e::es) fs)(hg:Gl X x:=by rfl)(Jz:(x==("__debug__":Str))=false:=by decide)
  (he:starEach (e::es) X.env=(false,eval e X.env)::starEach es X.env:=by rfl) (qo:(backTo pos (starEach es X.env)).any (·.1)=false:=by rfl):SE X (.Call (.Name x p) (e::es) [] pos) (dq n F fs):=⟨by
 intro pins s σ H Q I h
 obtain⟨f,fd,ps,hm,hkp,hn,hb,Fo⟩:=(Fn.mono hk).ex
 refine ix (sy I hg hm ?_ Jz)
 obtain⟨μ,ρ,st,l,h⟩:=h
 have h':RA X fs σ H fun vs H1=>∃μ1 st1 ws,Rl X μ1 ρ st1 σ H1/\RelWs X.K μ1 H1 ws vs/\RK X (uQ X) μ1 σ H1 Q (if ws.length=n then F ws st1 else .bad):=
  ⟨μ,ρ,st,l,RK.bind h l fun μ1 st1 x v H1 p1 x1 l1 q1 h1=>⟨μ1,st1,x,l1,q1,h1⟩⟩
 refine PySem.W.callWith_K (h₀:=X.base) I.ok.mod.kin hkp (gs (ha.h pos pins s σ H _ I h') fun us s1 ⟨vs,H1,I1,r,μ1,st1,ws,l1,r1,q⟩=>⟨I1.kIn,?_⟩) he qo
 by_cases c:ws.length=n
 ·rw[aB c]at q
  exact O7 Fo hn hr hb I1 l1.sto r1 r c q
 ·rw[aE c]at q;exact q.elim⟩
end
theorem BC{P:Program}{w:World}{K:Frag}{mg:Str->Option Value}{base:Heap}{x qual:Str}{st:Stmt}{f:Addr}{fd:FuncData}{N ps:List Str}{k n:Nat}{g:FS}(F:kQ K x qual st f fd)(S:bT N ps (bg st))(hn:ps.length=n)
  (zw:∀(gI:Value) (A:Around) (outer:List Env) (s:Shared) (H:Hp) (E:XK),fd.code=gI->iA k (A.deeper (envOfC qual (bg st) s.heap.objs.size f gI)) ->
   SB (zV (kG P w) P w K mg base N qual (bg st) f gI A outer s H E) (gS st) g):fA P w K mg base (kG P w) (k+1) f fd ps (lc K mg n (eF N.length g)):=by
 obtain⟨oc,od,kV,sO,pm,an,gI,ct,KM,rfl,lk,nK⟩:=F.ex
 refine Op lk nK S (fun vs H Q E h=>by rw[hn];exact h.1) fun A outer s H vs Q E hr NU=>?_
 obtain⟨hl,μ,ws,QZ,Sr,r,h⟩:=NU
 refine⟨_,(zw gI A outer s H E rfl hr).h,μ,ws.map some++List.replicate (N.length-ws.length) none,QZ,⟨?_,Sr⟩,?_⟩
 ·unfold rF
  rw[<- r.len]
  have base:∀(ws:List W) (vs:List V) (m:Nat),RelWs K μ H ws vs->Paired (fun(o:Option W) (s:Option V)=>∀w,o=some w->∃v,s=some v/\bF K μ H w v) (ws.map some++List.replicate m none) (vs.map some++List.replicate m none):=by
   intro ws
   induction ws with
   |nil=>
    intro vs m r
    rw[r.nilE]
    induction m with
    |zero=>exact .nil
    |succ m ih=>exact .cons (fun w z=>nomatch z) ih
   |cons w ws ih=>
    intro vs m r
    obtain⟨y,ys,rfl,ry,rys⟩:=r.consE
    exact .cons (fun w' z=>⟨y,rfl,by cases z;exact ry⟩) (ih ys m rys)
  exact base ws vs _ r
 ·unfold eF at h
  cases e:g (ws.map some++List.replicate (N.length-ws.length) none) QZ with
  |rt w bI=>
   rw[e]at h
   intro μ' v H' p x S' m5
   obtain⟨μ2,p2,S2,r2⟩:=tK Sr S' p (.consI m5 .nilI)
   obtain⟨_,e2,r3⟩:=r2.one
   cases e2
   exact h μ2 v H' p2 x S2 r3
  |nx ρ' bI=>
   rw[e]at h
   intro μ' σ' H' p x l'
   obtain⟨μ2,p2,S2,_⟩:=tK (ws:=[]) (vs:=[]) Sr l'.sto p .nilI
   exact h μ2 .non H' p2 x S2 .non
  |ex c ρ' bI=>
   rw[e]at h
   intro pins μ' σ' H' ev s' p x l' fl
   obtain⟨μ2,p2,S2,_⟩:=tK (ws:=[]) (vs:=[]) Sr l'.sto p .nilI
   exact fl.leaves rfl rfl fl.inv.ok.frames rfl fun C hC=>h C μ2 H' hC p2 x S2
  |bk ρ' bI=>rw[e]at h;exact h.elim
  |ct ρ' bI=>rw[e]at h;exact h.elim
  |bad=>rw[e]at h;exact h.elim
theorem dm{P:Program}{w:World}{K:Frag}{mg:Str->Option Value}{base:Heap}{x qual:Str}{st:Stmt}{f:Addr}{fd:FuncData}{N ps:List Str}{k n:Nat}{g:FS}(F:kQ K x qual st f fd)(S:bT N ps (bg st))(hn:ps.length=n)
  (zw:∀(gI:Value) (A:Around) (outer:List Env) (s:Shared) (H:Hp) (E:XK),iA k (A.deeper (envOfC qual (bg st) s.heap.objs.size f gI)) ->
   SB (zV (kG P w) P w K mg base N qual (bg st) f gI A outer s H E) (gS st) g):fA P w K mg base (kG P w) (k+1) f fd ps (lc K mg n (eF N.length g)):=BC F S hn fun gI A outer s H E _ hr=>zw gI A outer s H E hr
theorem wq{P:Program}{w:World}{K:Frag}{mg:Str->Option Value}{base:Heap}{k n:Nat}{x:Str}{st:Stmt}{f:Addr}{fd:FuncData}{ps:List Str}{G:List W->List am->R W}
  (F:kQ K x x st f fd) (hm:mg x=some (.ref f)) (hn:ps.length=n)
  (hb:∀(kV sO pm:Value) (an:Option Addr) (gI ct:Value) (us:List Value),us.length=ps.length->bindArgs (fnOf x x (iD st) (gS st) (bg st) .none kV sO pm an gI ct) ⟨us,[]⟩=pure (ps.zip us))
  (ok:fA P w K mg base (kG P w) k f fd ps (lc K mg n G)):cu P w K mg base k x n G:=⟨f,fd,ps,hm,F.kp,hn,F.binds hb,ok⟩
section
variable{X:Cx}{a b c e o tg:Expr}{es:List Expr}{pos p p2 gG dW:Pos}{x name:Str}{fa fb fe fo:FE}{fs:FA}{id:String}
structure O8(X:Cx)(id:String)(F:W->List W->List am->R W):Prop where
 h:Hu X id (fun x vs H Q=>∃μ st wx ws,gT X.K X.mg μ st H/\bF X.K μ H wx x/\RelWs X.K μ H ws vs/\DD X μ H Q (F wx ws st))
 n:∀x ws st,se (F x ws st)
def tL(st:List am):W->Bool
 |.loc n=>(match st[n]? with|some (.lst _)=>true|_=>false)
 |_=>false
def Ew:W->Bool
 |.str _=>true
 |_=>false
theorem Ex{μ:List Addr}{st:List am}{H:Hp}{w:W}{v:V}(S:gT X.K X.mg μ st H)(r:bF X.K μ H w v)(h:tL st w=true):∃l ys,v=.ref l/\H l=some (.lst ys):=by
 cases w with
 |loc n=>
  obtain⟨a,ha,rfl⟩:=r.locE
  simp only[tL]at h
  cases e1:st[n]? with
  |none=>rw[e1]at h;cases h
  |some cc=>
   rw[e1]at h
   cases cc with
   |lst ws=>obtain⟨a1,g1,vs,k1,_⟩:=S.get e1;rw[ha]at g1;cases g1;exact⟨_,vs,rfl,k1⟩
   |_=>cases h
 |_=>cases h
def si(F:W->List W->List am->R W)(fo:FE)(fs:FA):FE:=fun ρ st=>(fo ρ st).bind fun x st=>if tL st x then(fs ρ st).bind fun ws st=>F x ws st else .bad
def JW(F:W->List W->List am->R W)(fo:FE)(fs:FA):FE:=fun ρ st=>(fo ρ st).bind fun x st=>if Ew x then(fs ρ st).bind fun ws st=>F x ws st else .bad
theorem mU{F:W->List W->List am->R W}(slot:Slot "list" name id)(Dx:typeOf (.builtin id)=pure (.type "method_descriptor"))(hm:O8 X id F)(ho:SE X o fo)(ha:SA X (e::es) fs)
  (nN:attributeBase o name X.env (eval o X.env)=eval o X.env:=by rfl)
  (xG:((backTo dW (starEach (e::es) X.env)).all (fun x=>!x.1)&&(backToKw dW (keywordEach [] X.env)).all (fun x=>x.1.isSome)
   && decide ((e::es).length+([]:List Keyword).length+(if ([]:List Keyword).isEmpty then 0 else 1)<30))=true:=by rfl)
  (qv:(gG.endLine==dW.line)=true:=by rfl) (hs:starEach (e::es) X.env=(false,eval e X.env)::starEach es X.env:=by rfl) (l7:(backTo dW (starEach es X.env)).any (·.1)=false:=by rfl) :
  SE X (.Call (.Attribute o name gG) (e::es) [] dW) (si F fo fs):=⟨(OJ slot Dx hm.h ho.h ha.h nN xG qv hs l7).imp fun σ H Q h=>by
 obtain⟨μ,ρ,st,l,h⟩:=h
 refine⟨μ,ρ,st,l,RK.bind h l fun μ1 st1 x v H1 p1 x1 l1 q1 h1=>?_⟩
 by_cases c:tL st1 x=true
 ·rw[aB c]at h1
  refine⟨Ex l1.sto q1 c,μ1,ρ,st1,l1,RK.bind h1 l1 fun μ2 st2 ws vs H2 p2 x2 l2 q2 h2=>?_⟩
  exact⟨μ2,st2,x,ws,l2.sto,q1.mono p2 x2,q2,tj h2 (hm.n _ _ _)⟩
 ·rw[aE c]at h1;exact h1.elim⟩
theorem O9{F:W->List W->List am->R W}(slot:Slot "str" name id)(Dx:typeOf (.builtin id)=pure (.type "method_descriptor"))(hm:O8 X id F)(ho:SE X o fo)(ha:SA X (e::es) fs)
  (nN:attributeBase o name X.env (eval o X.env)=eval o X.env:=by rfl)
  (xG:((backTo dW (starEach (e::es) X.env)).all (fun x=>!x.1)&&(backToKw dW (keywordEach [] X.env)).all (fun x=>x.1.isSome)
   && decide ((e::es).length+([]:List Keyword).length+(if ([]:List Keyword).isEmpty then 0 else 1)<30))=true:=by rfl)
  (qv:(gG.endLine==dW.line)=true:=by rfl) (hs:starEach (e::es) X.env=(false,eval e X.env)::starEach es X.env:=by rfl) (l7:(backTo dW (starEach es X.env)).any (·.1)=false:=by rfl) :
  SE X (.Call (.Attribute o name gG) (e::es) [] dW) (JW F fo fs):=⟨(OK slot Dx hm.h ho.h ha.h nN xG qv hs l7).imp fun σ H Q h=>by
 obtain⟨μ,ρ,st,l,h⟩:=h
 refine⟨μ,ρ,st,l,RK.bind h l fun μ1 st1 x v H1 p1 x1 l1 q1 h1=>?_⟩
 cases x with
 |str z=>
  rw[aB (show Ew (W.str z)=true from rfl)]at h1
  refine⟨⟨z,q1.strE⟩,μ1,ρ,st1,l1,RK.bind h1 l1 fun μ2 st2 ws vs H2 p2 x2 l2 q2 h2=>?_⟩
  exact⟨μ2,st2,_,ws,l2.sto,q1.mono p2 x2,q2,tj h2 (hm.n _ _ _)⟩
 |_=>exact h1.elim⟩
def c9(x:W)(ws:List W)(st:List am):R W:=match x,ws with
 |.loc n,[y]=>(match st[n]? with
  |some (.lst zs)=>if zs.length<kJ then .ok .non (st.set n (.lst (zs++[y])))else .bad
  |_=>.bad)
 |_,_=>.bad
theorem dE:O8 X "list.append" c9:=⟨fun pins s σ H x vs v us Q I rv rus ⟨μ,st,wx,ws,S,rx,rs,q⟩=>by
 unfold c9 at q
 split at q
 ·rename_i n y
  obtain⟨y1,rfl,ry⟩:=rs.one
  split at q
  ·rename_i zs e1
   split at q
   ·rename_i c
    obtain⟨a1,g1,vs,k1,r⟩:=S.get e1
    obtain⟨b1,f1,rfl⟩:=rx.locE
    rw[g1]at f1;cases f1
    refine z8 pins s σ H _ _ v us Q I rv rus ⟨a1,vs,y1,rfl,rfl,k1,by rw[<- r.len];exact LR (gX c),fun H2 e=>?_⟩
    subst e
    exact q μ _ _ (al _) (fS.but ig k1) (S.set e1 g1 k1 (r.app (.consI ry .nilI))) .non
   ·exact q.elim
  ·exact q.elim
 ·exact q.elim,fun x ws st=>by
 unfold c9
 repeat' split
 all_goals trivial⟩
def mH:List W->Option (List (List Nat))
 |[]=>some []
 |.str l::ws=>(mH ws).map (l :: ·)
 |_=>none
theorem tM{K:Frag}{μ:List Addr}{H:Hp}:∀{ws:List W} {ls:List (List Nat)} {vs:List V},mH ws=some ls->RelWs K μ H ws vs->vs=ls.map fun l=>V.str (tx l)
 |[],ls,vs,h,r=>by simp only[mH]at h;cases h;exact r.nilE
 |w::ws,ls,vs,h,r=>by
  obtain⟨x,xs,rfl,rx,rs⟩:=r.consE
  cases w with
  |str l=>
   simp only[mH]at h
   cases e:mH ws with
   |none=>rw[e]at h;cases h
   |some ls'=>rw[e]at h;cases h;rw[rx.strE,tM e rs];rfl
  |_=>simp only[mH]at h;cases h
theorem vw(ls:List (List Nat)):mH (ls.map W.str)=some ls:=by
 induction ls with
 |nil=>rfl
 |cons a r ih=>show(mH (r.map W.str)).map (a :: ·)=_;rw[ih];rfl
def oO(x:W)(ws:List W)(st:List am):R W:=match x,ws with
 |.str sep,[.loc n]=>sf (lstOf st n) fun zs=>sf (mH zs) fun ls=>if (ls.map List.length).sum+ls.length*sep.length<=kJ then .ok (.str (oM sep ls)) st else .bad
 |_,_=>.bad
theorem BD:O8 X "str.join" oO:=⟨fun pins s σ H x vs v us Q I rv rus ⟨μ,st,wx,ws,S,rx,rs,q⟩=>by
 unfold oO at q
 split at q
 ·rename_i sep n
  obtain⟨y1,rfl,ry⟩:=rs.one
  cases e1:lstOf st n with
  |none=>rw[e1]at q;exact q.elim
  |some zs=>
   rw[e1,eE]at q
   cases e2:mH zs with
   |none=>rw[e2]at q;exact q.elim
   |some ls=>
    rw[e2,eE]at q
    split at q
    ·rename_i c
     obtain⟨a,vs,g,hS,r⟩:=S.lstOf e1
     obtain⟨b1,f1,rfl⟩:=ry.locE
     rw[g]at f1;cases f1
     have:=tM e2 r
     subst this
     exact Ii pins s σ H _ _ v us Q I rv rus ⟨sep,_,ls,rx.strE,rfl,hS,a7 c (by decide),pW S q⟩
    ·exact q.elim
 ·exact q.elim,fun x ws st=>by
 unfold oO
 split
 ·exact rO fun _=>rO fun _=>by split<;>trivial
 ·trivial⟩
end
def lN(cap:List (Option Nat))(ρ:cf):cf:=cap.map fun o=>o.bind fun j=>(ρ[j]?).join
theorem O_{X:Cx}{μ:List Addr}{H:Hp}{ρ:cf}{σ:St}(r:Paired (fun(o:Option W) (s:Option V)=>∀w,o=some w->∃v,s=some v/\bF X.K μ H w v) ρ σ):∀cap:List (Option Nat),
  Paired (fun(o:Option W) (s:Option V)=>∀w,o=some w->∃v,s=some v/\bF X.K μ H w v) (lN cap ρ) (lg cap σ)
 |[]=>.nil
 |o::cap=>by
  refine .cons (fun w e=>?_) (O_ r cap)
  cases o with
  |none=>cases e
  |some j=>
   have e':(ρ[j]?).join=some w:=e
   have e2:ρ[j]?=some (some w):=by
    cases h:ρ[j]? with
    |none=>rw[h]at e';cases e'
    |some ow=>rw[h]at e';simp at e';rw[e']
   obtain⟨v,g1,g2⟩:=pV r e2
   exact⟨v,by show(σ[j]?).join=some v;rw[g1];rfl,g2⟩
open Classical in
def mI(f:FG)(t:FT)(el:FE)(ck:Option (Nat×List W))(ρ0:cf):List W->List W->List am->R (List W)
 |[],acc,st=>if iG st ck then .ok acc st else .bad
 |w::ws,acc,st=>if iG st ck then(match f w ρ0 with
  |none=>.bad
  |some ρ'=>(match t ρ' st with
   |.ok true st1=>(match el ρ' st1 with
    |.ok y st2=>mI f t el ck ρ0 ws (acc++[y]) st2
    |_=>.bad)
   |.ok false st1=>mI f t el ck ρ0 ws acc st1
   |_=>.bad))else .bad
def dR(cap:List (Option Nat))(fi:FI)(f:FG)(t:FT)(el:FE):FE:=fun ρ st=>(fi ρ st).bind fun k st=>if k.1.length<=kJ then(mI f t el k.2 (lN cap ρ) k.1 [] st).bind fun ys st=>mF ys st else .bad
def QV{α β:Type}(X:Cx)(rel:List Addr->Hp->α->β->Prop)(f:cf->List am->R α)(σ:St)(H:Hp)(Q:β->Hp->Prop):Prop:=
 ∃μ ρ st a bI,Rl X μ ρ st σ H/\f ρ st=.ok a bI/\∀μ' b H',μ <+: μ'->eD X.K H H'->gT X.K X.mg μ' bI H'->rel μ' H' a b->Q b H'
def iB:FT:=fun _ st=>.ok true st
structure NN(X:Cx)(es:List Expr)(f:FT):Prop where
 h:Ic X es (tT X f)
theorem Ic.imp{X:Cx}{e:List Expr}{t t':TT}(h:Ic X e t)(i:∀σ H Q,t' σ H Q->t σ H Q):Ic X e t':=fun pins s σ H Q I q=>h pins s σ H Q I (i _ _ _ q)
theorem gW{X:Cx}:NN X [] iB:=⟨Ie.imp fun σ H Q h=>by
 obtain⟨μ,ρ,st,l,h⟩:=h
 exact h μ true H (al _) eD.refl l.sto rfl⟩
theorem wt{X:Cx}{c:Expr}{t:FT}(hc:ST X c t):NN X [c] t:=⟨Ig hc.h⟩
theorem Am{X:Cx}{cap:List (Option Nat)}{fi:FI}{f:FG}{t:FT}{el:FE}{σ:St}{H:Hp}{Q:VK}(h:tE X (dR cap fi f t el) σ H Q) :
  vn cap (fun σ H R=>tG X (O6 X) fi σ H R) (O4 X f) (QV X LS t) (QV X (uQ X) el) σ H Q:=by
 obtain⟨μ,ρ,st,l,h⟩:=h
 refine⟨μ,ρ,st,l,RK.bind h l fun μ1 st1 k J H1 p1 x1 l1 wk h1=>?_⟩
 by_cases hz:k.1.length<=kJ
 ·rw[aB hz]at h1
  refine⟨fun i m ys H'=>i<=k.1.length/\m=k.1.length-i/\ys.length<=i/\∃μ' acc bI,μ1 <+: μ'/\eD X.K H1 H'/\Rl X μ' ρ bI σ H'/\RelWs X.K μ' H' acc ys/\RK X (uQ X) μ' σ H' Q ((mI f t el k.2 (lN cap ρ) (k.1.drop i) acc bI).bind fun ys st=>mF ys st),
   ⟨_,b_ _,rfl,ay _,μ1,[],st1,al _,eD.refl,l1,.nilI,h1⟩,?_⟩
  rintro i m ys H' ⟨hi,rfl,hy,μ',acc,bI,pm,xm,lm,ra,hm⟩
  by_cases kE:i<k.1.length
  ·rw[eh kE]at hm
   unfold mI at hm
   by_cases ck:iG bI k.2
   ·rw[aB ck]at hm
    obtain⟨go,yld⟩:=(wk i μ' bI H' pm xm lm.sto ck).1 _ (ae kE)
    refine .inr ⟨go,fun x H2 hy2=>?_⟩
    obtain⟨y1,y2,y3⟩:=yld x H2 hy2
    cases hf:f k.1[i] (lN cap ρ)with
    |none=>rw[hf]at hm;exact hm.elim
    |some ρ2=>
     rw[hf]at hm
     simp only at hm
     have lb:Rl X μ' (lN cap ρ) bI (lg cap σ) H2:=⟨O_ (lm.to (al _) y1 y2).env cap,y2⟩
     refine⟨μ',lN cap ρ,bI,k.1[i],ρ2,lb,y3,hf,fun σ2 l2=>?_⟩
     cases ht:t ρ2 bI with
     |bad=>rw[ht]at hm;exact hm.elim
     |ex c s=>rw[ht]at hm;exact hm.elim
     |ok kk st2=>
      rw[ht]at hm
      refine⟨μ',ρ2,bI,kk,st2,l2,ht,fun μ3 b3 H3 p3 x3 S3 q3=>?_⟩
      cases q3
      cases kk with
      |false=>
       exact⟨_,by omega,kE,rfl,by omega,μ3,acc,st2,pm.trans p3,xm.trans (y1.trans x3),lm.to p3 (y1.trans x3) S3,ra.mono p3 (y1.trans x3),RK.mono hm p3 (y1.trans x3)⟩
      |true=>
       rw[aB rfl]
       simp only at hm
       cases he:el ρ2 st2 with
       |bad=>rw[he]at hm;exact hm.elim
       |ex c s=>rw[he]at hm;exact hm.elim
       |ok w jT=>
        rw[he]at hm
        refine⟨μ3,ρ2,st2,w,jT,l2.to p3 x3 S3,he,fun μ4 b4 H4 p4 x4 S4 q4=>?_⟩
        have pp:=p3.trans p4
        have xx:=y1.trans (x3.trans x4)
        exact⟨ku hy (aV kE (lI hz)),_,by omega,kE,rfl,by simp;omega,μ4,acc++[w],jT,pm.trans pp,xm.trans xx,lm.to pp xx S4,(ra.mono pp xx).app (.consI q4 .nilI),RK.mono hm pp xx⟩
   ·rw[aE ck]at hm;exact hm.elim
  ·have hi':i=k.1.length:=by omega
   subst hi'
   rw[mq (ay _)]at hm
   unfold mI at hm
   by_cases ck:iG bI k.2
   ·rw[aB ck]at hm
    obtain⟨z1,z2⟩:=tw lm.sto ra hm
    exact .inl ⟨(wk _ μ' bI H' pm xm lm.sto ck).2 (ay _),z1,fun p hp=>z2 p _ hp rfl⟩
   ·rw[aE ck]at hm;exact hm.elim
 ·rw[aE hz]at h1;exact h1.elim
section
variable{X:Cx}{oG tg iter:Expr}{m6:List Expr}{scope:Scope}{pos:Pos}{nm:List Str}{cap:List (Option Nat)}{fi:FI}{f:FG}{t:FT}{el:FE}{m:Nat}
theorem RH{X X':Cx}{e:Expr}{f:FE}(hK:X'.K=X.K)(hm:X'.mg=X.mg)(h:SE X' e f):QE X' e (QV X (uQ X) f):=⟨h.h.imp fun σ H Q ⟨μ,ρ,st,a,bI,l,e,q⟩=>⟨μ,ρ,st,⟨by rw[hK];exact l.env,by rw[hK,hm];exact l.sto⟩,by rw[e];exact fun μ' b H' p x S r=>q μ' b H' p (by rw[<- hK];exact x) (by rw[<- hK,<- hm];exact S) (by show bF X.K μ' H' a b;rw[<- hK];exact r)⟩⟩
theorem RI{X X':Cx}{e:List Expr}{f:FT}(hK:X'.K=X.K)(hm:X'.mg=X.mg)(h:NN X' e f):QP X' e (QV X LS f):=⟨h.h.imp fun σ H Q ⟨μ,ρ,st,a,bI,l,e,q⟩=>⟨μ,ρ,st,⟨by rw[hK];exact l.env,by rw[hK,hm];exact l.sto⟩,by rw[e];exact fun μ' b H' p x S r=>q μ' b H' p (by rw[<- hK];exact x) (by rw[<- hK,<- hm];exact S) r⟩⟩
theorem RJ{X X':Cx}{e:Expr}{f:FG}(hK:X'.K=X.K)(hm:X'.mg=X.mg)(h:SG X' e f):QG X' e (O4 X f):=⟨h.h.imp fun v σ H Q ⟨μ,ρ,st,w,ρ',l,r,e,q⟩=>⟨μ,ρ,st,w,ρ',⟨by rw[hK];exact l.env,by rw[hK,hm];exact l.sto⟩,by rw[hK];exact r,e,fun σ' l'=>q σ' ⟨by rw[<- hK];exact l'.env,by rw[<- hK,<- hm];exact l'.sto⟩⟩⟩
theorem jw(hB:wf X.env.scope.names scope.names nm cap X.N=true)(l8:X.env.cells=cellsFrom m X.env.scope.names [])(hi:SI X tg iter fi)(hg:∀cl C s0 H0 fp,SG (bP X nm scope cl C s0 H0 fp) tg f)(ht:∀cl C s0 H0 fp,NN (bP X nm scope cl C s0 H0 fp) m6 t)
  (he:∀cl C s0 H0 fp,SE (bP X nm scope cl C s0 H0 fp) oG el) (ia:X.calm=true:=by rfl) (h_:scope.kind=.function:=by rfl) (hs:∀x,foldedSetIterable iter X.env x=pure x:=by intro _;rfl) :
  SE X (.ListComp oG [⟨tg,iter,m6,0⟩] scope pos) (dR cap fi f t el):=
 ⟨(LO ia l8 h_ hB ⟨hi.h⟩ (fun cl C s0 H0 fp=>RJ (X:=X) rfl rfl (hg cl C s0 H0 fp)) (fun cl C s0 H0 fp=>RI (X:=X) rfl rfl (ht cl C s0 H0 fp)) (fun cl C s0 H0 fp=>RH (X:=X) rfl rfl (he cl C s0 H0 fp)) hs).h.imp fun _ _ _ h=>Am h⟩
theorem tN{x0:Str}{p0 p1:Pos}{i:Nat}(Qk:SG X (.Name x0 p0) (eU i))(hB:wf X.env.scope.names scope.names nm cap X.N=true)(l8:X.env.cells=cellsFrom m X.env.scope.names [])(hi:SI X tg iter fi)(hg:∀cl C s0 H0 fp,SG (bP X nm scope cl C s0 H0 fp) tg f)(ht:∀cl C s0 H0 fp,NN (bP X nm scope cl C s0 H0 fp) m6 t)
  (he:∀cl C s0 H0 fp,SE (bP X nm scope cl C s0 H0 fp) oG el) (ia:X.calm=true:=by rfl) (h_:scope.kind=.function:=by rfl) (hs:∀x,foldedSetIterable iter X.env x=pure x:=by intro _;rfl)
  (Qq:swapsWith (.ListComp oG [⟨tg,iter,m6,0⟩] scope pos) (some (.Name x0 p0)) p1.line X.env=pure true:=by first|rfl|kernel_rfl) :
  SS X (.Assign [.Name x0 p0] (.ListComp oG [⟨tg,iter,m6,0⟩] scope pos) p1) (sg (dR cap fi f t el) (eU i)):=
 ⟨(Ac ⟨Qk.h⟩ ia l8 h_ hB ⟨hi.h⟩ (fun cl C s0 H0 fp=>RJ (X:=X) rfl rfl (hg cl C s0 H0 fp)) (fun cl C s0 H0 fp=>RI (X:=X) rfl rfl (ht cl C s0 H0 fp)) (fun cl C s0 H0 fp=>RH (X:=X) rfl rfl (he cl C s0 H0 fp)) hs Qq).h.imp fun D σ H h=>by
  obtain⟨μ,ρ,st,l,h⟩:=h
  have h':tE X (dR cap fi f t el) σ H fun x H1=>O4 X (eU i) x σ H1 D.nx:=⟨μ,ρ,st,l,RK.stmt h l fun μ1 st1 x v H1 p1 x1 l1 q1 h1=>⟨μ1,ρ,st1,x,ρ.set i (some x),l1,q1,rfl,fun σ' l'=>h1 μ1 σ' H1 (al _) eD.refl l'⟩⟩
  exact Am h'⟩
end
section
variable{X:Cx}{a b c e o tg:Expr}{es:List Expr}{pos p p2 gG dW:Pos}{x name:Str}{fa fb fc fe fo:FE}{fs:FA}
theorem qM{μ:List Addr}{H:Hp}{ws:List W}{lZ:List V}(hr:∀μ H,RelWs X.K μ H ws lZ):wp X (OF lZ) (ws,none) μ H:=fun i μ' bI H' pp xx S _=>by
 have hl:ws.length=lZ.length:=(hr μ H).len
 refine⟨fun w hw=>?_,fun h=>by show lZ.length<=i;rw[<- hl];exact h⟩
 obtain⟨v,g1,g2⟩:=(hr μ' H').get hw
 refine⟨(aa.mp g1).1,fun y H'' hy=>?_⟩
 obtain⟨rfl,hy⟩:=hy
 rw[g1]at hy;cases hy
 exact⟨eD.refl,S,g2⟩
def nw(l:List Nat):List W:=l.map fun c=>.str [c]
theorem vx(l:List Nat)(μ:List Addr)(H:Hp):RelWs X.K μ H (nw l) (jV l):=by
 induction l with
 |nil=>exact .nilI
 |cons a r ih=>exact .consI .str ih
def JX(fe:FE):FI:=fun ρ st=>(fe ρ st).bind fun x st=>match x with
 |.str l=>.ok (nw l,none) st
 |_=>.bad
theorem L3(he:SE X e fe):SI X tg e (JX fe):=⟨(LJ he.h).imp fun σ H R h=>by
 obtain⟨μ,ρ,st,l,h⟩:=h
 refine⟨μ,ρ,st,l,RK.bind h l fun μ1 st1 x v H1 p1 x1 l1 q1 h1=>?_⟩
 cases x with
 |str z=>exact⟨z,q1.strE,h1 μ1 _ H1 (al _) eD.refl l1.sto (qM (vx z))⟩
 |_=>exact h1.elim⟩
def eY(fe:FE):FI:=fun ρ st=>(fe ρ st).bind fun x st=>match x with
 |.tup ws=>.ok (ws,none) st
 |.loc n=>(match lstOf st n with
  |some ws=>.ok (ws,some (n,ws)) st
  |none=>.bad)
 |.str l=>.ok (nw l,none) st
 |_=>.bad
theorem iH(he:SE X e fe):SI X tg e (eY fe):=⟨fun pins s σ H Rr I h=>by
 obtain⟨μ,ρ,st,l,h⟩:=h
 cases e1:fe ρ st with
 |bad=>simp only[eY,e1,R.bind_bad]at h;exact h.elim
 |ex c st1=>
  refine(Ev (tg:=tg) he).h pins s σ H Rr I ⟨μ,ρ,st,l,?_⟩
  simp only[eY,Eu,e1,R.bind_ex]at h ⊢;exact h
 |ok w st1=>
  cases w with
  |tup ws=>
   refine(Ev (tg:=tg) he).h pins s σ H Rr I ⟨μ,ρ,st,l,?_⟩
   simp only[eY,Eu,e1,R.bind_ok]at h ⊢;exact h
  |loc n=>
   refine(L1 (tg:=tg) he).h pins s σ H Rr I ⟨μ,ρ,st,l,?_⟩
   simp only[eY,JU,e1,R.bind_ok]at h ⊢;exact h
  |str z=>
   refine(L3 (tg:=tg) he).h pins s σ H Rr I ⟨μ,ρ,st,l,?_⟩
   simp only[eY,JX,e1,R.bind_ok]at h ⊢;exact h
  |_=>simp only[eY,e1,R.bind_ok]at h;exact h.elim⟩
def tO(ws:List W):List W:=(List.range ws.length).map fun(i:Nat)=>W.tup [.int i,ws.getD i .non]
theorem vy{ws:List W}{i:Nat}{w:W}(h:(tO ws)[i]?=some w):∃y,ws[i]?=some y/\w=.tup [.int i,y]:=by
 unfold tO at h
 rw[ax]at h
 by_cases hi:i<ws.length
 ·rw[bq hi]at h
  refine⟨ws[i],ae hi,?_⟩
  have:=(aZ h).symm
  rw[this]
  show W.tup [W.int i,ws.getD i W.non]=_
  rw[aG,ae hi];rfl
 ·rw[bO (by simpa using hi)]at h;cases h
theorem CZ(ws:List W):(tO ws).length=ws.length:=by simp[tO]
def wu(fs:FA):FI:=fun ρ st=>(fs ρ st).bind fun ws st=>match ws with
 |[.tup zs]=>.ok (tO zs,none) st
 |_=>.bad
theorem Iy{G_:List Expr}{kk:Nat}{tp:Pos}(hm:X.mg "enumerate"=none)(ha:SA X [a] fs)(hg:Gl X "enumerate":=by rfl)(hs:starEach [a] X.env=[(false,eval a X.env)]:=by rfl) :
  SI X (.Tuple G_ kk tp) (.Call (.Name "enumerate" p) [a] [] pos) (wu fs):=⟨(Ee hm ⟨ha.h⟩ hg hs).h.imp fun σ H R h=>by
 obtain⟨μ,ρ,st,l,h⟩:=h
 refine⟨μ,ρ,st,l,RK.bind h l fun μ1 st1 x v H1 p1 x1 l1 q1 h1=>?_⟩
 split at h1
 ·rename_i zs
  obtain⟨y,rfl,ry⟩:=q1.one
  obtain⟨p,vs,rfl,hS,r⟩:=ry.tupE
  refine⟨p,rfl,⟨vs,hS⟩,h1 μ1 _ H1 (al _) eD.refl l1.sto fun i μ' bI H' pp xx S _=>⟨fun w hw=>?_,fun hl=>⟨vs,xx _ _ hS,by rw[CZ]at hl;rw[<- r.len];exact hl⟩⟩⟩
  obtain⟨y,hy,rfl⟩:=vy hw
  have r':=r.mono pp xx
  obtain⟨v,g1,g2⟩:=r'.get hy
  refine⟨⟨vs,v,xx _ _ hS,g1⟩,fun z H'' hz=>?_⟩
  obtain⟨q,hq,rfl,hH⟩:=hz
  have e:=hH vs v (xx _ _ hS) g1
  subst e
  have ex:=fS.same (K:=X.K) (cN hq (.tup [.int i,v]))
  exact⟨ex,S.same (cN hq _),.tupI fS.new (.consI .int (.consI (g2.mono (al _) ex) .nilI))⟩
 ·exact h1.elim⟩
def An(fa:FE):FE:=fun ρ st=>(fa ρ st).bind fun x st=>match x with
 |.int i=>.ok (.int (-i)) st
 |_=>.bad
theorem Ey(ha:SE X a fa):SE X (.UnaryOp .USub a pos) (An fa):=⟨(Oh Lr ha.h).imp fun σ H Q h=>by
 obtain⟨μ,ρ,st,l,h⟩:=h
 refine⟨μ,ρ,st,l,RK.bind h l fun μ1 st1 x v H1 p1 x1 l1 q1 h1=>?_⟩
 cases x with
 |int k=>exact⟨k,q1.intE,h1 μ1 _ H1 (al _) eD.refl l1.sto .int⟩
 |_=>exact h1.elim⟩
def Ez(x y:W)(st:List am):R W:=match x,y with
 |.int i,.int j=>.ok (.bl (decide (i<=j))) st
 |.str [c],.str [d]=>.ok (.bl (decide (c<=d))) st
 |_,_=>.bad
theorem O':qG X (compareOp .LtE) Ez:=⟨fun pins s σ H x y v u Q I rv ru ⟨μ,st,wx,wy,S,rx,ry,q⟩=>by
 unfold Ez at q
 split at q
 ·exact Oj pins s σ H x y v u Q I rv ru ⟨_,_,rx.intE,ry.intE,iF S q⟩
 ·exact CM pins s σ H x y v u Q I rv ru ⟨_,_,rx.strE,ry.strE,iF S q⟩
 ·exact q.elim,fun x y st=>by unfold Ez;split<;>trivial⟩
end
def Ao(c:List Nat):List (List Nat)->List (List Nat)
 |[]=>[c]
 |d::r=>if c<d then c::d::r else d::Ao c r
def lj(l:List (List Nat)):List (List Nat):=l.foldr Ao []
theorem qN(c:List Nat):∀l:List (List Nat),(Ao c l).Perm (c::l)
 |[]=>nU _
 |d::r=>by
  unfold Ao
  split
  ·exact nU _
  ·exact((qN c r).cons d).trans (List.Perm.swap c d r)
theorem j7(l:List (List Nat)):(lj l).Perm l:=by
 induction l with
 |nil=>exact nU _
 |cons a r ih=>exact(qN a _).trans (ih.cons a)
def Iz:List (List Nat)->Prop:=List.Pairwise fun a b=>¬ b<a
theorem BE(c:List Nat):∀{l:List (List Nat)},Iz l->Iz (Ao c l)
 |[],_=>by simp[Ao,Iz]
 |d::r,h=>by
  obtain⟨h1,h2⟩:=dB.mp h
  unfold Ao
  split
  ·rename_i hc
   refine dB.mpr ⟨fun x hx=>?_,h⟩
   rcases a8.mp hx with rfl|hx
   ·exact fun z=>List.lt_irrefl _ (List.lt_trans z hc)
   ·exact fun z=>h1 x hx (List.lt_trans z hc)
  ·rename_i hc
   refine dB.mpr ⟨fun x hx=>?_,BE c h2⟩
   rcases a8.mp ((qN c r).mem_iff.mp hx)with rfl|hx
   ·exact hc
   ·exact h1 x hx
theorem yn(l:List (List Nat)):Iz (lj l):=by
 induction l with
 |nil=>exact List.Pairwise.nil
 |cons a r ih=>exact BE a ih
theorem ww:∀{l m:List (List Nat)},Iz l->Iz m->l.Perm m->l=m
 |[],m,_,_,h=>(List.Perm.nil_eq h)
 |a::l,[],_,_,h=>(by have:=h.length_eq;simp at this)
 |a::l,b::m,h1,h2,h=>by
  obtain⟨p1,p2⟩:=dB.mp h1
  obtain⟨q1,q2⟩:=dB.mp h2
  have e:a=b:=by
   rcases a8.mp (h.mem_iff.mp (by simp:a∈a::l))with z|z
   ·exact z
   ·rcases a8.mp (h.mem_iff.mpr (by simp:b∈b::m))with y|y
    ·exact y.symm
    ·exact List.le_antisymm (show a<=b from p1 b y) (show b<=a from q1 a z)
  subst e
  rw[ww p2 q2 (List.perm_cons a |>.mp h)]
theorem tP:∀{zs:List (List Nat)},sortedS (zs.map tx)=true->Iz zs:=by
 have key:∀(zs:List (List Nat)) (p:List Nat),risingS (tx p) (zs.map tx)=true->Iz (p::zs):=by
  intro zs
  induction zs with
  |nil=>intro p _;simp[Iz]
  |cons a r ih=>
   intro p h
   have h':(!ltCps a p&&risingS (tx a) (r.map tx))=true:=h
   rw[cq,gD,ltCps_eq,decide_eq_false_iff_not]at h'
   have u:=ih a h'.2
   refine dB.mpr ⟨fun x hx=>?_,u⟩
   rcases a8.mp hx with rfl|hx
   ·exact h'.1
   ·have:=(dB.mp u).1 x hx
    exact List.not_lt.mpr (List.le_trans (List.not_lt.mp h'.1) (List.not_lt.mp this))
 intro zs h
 cases zs with
 |nil=>exact List.Pairwise.nil
 |cons a r=>exact key r a h
section
variable{X:Cx}{a b c e o tg:Expr}{es:List Expr}{pos p p2 gG dW:Pos}{x name:Str}{fa fb fc fe fo:FE}{fs:FA}
def n5(ws:List W)(st:List am):R W:=match ws with
 |[.loc n]=>sf (lstOf st n) fun zs=>sf (mH zs) fun ls=>if ls.length<64 then .ok (.loc st.length) (st++[.lst ((lj ls).map W.str)])else .bad
 |_=>.bad
theorem yo{K:Frag}{μ:List Addr}{H:Hp}(ls:List (List Nat)):RelWs K μ H (ls.map W.str) (ls.map fun l=>V.str (tx l)):=by
 induction ls with
 |nil=>exact .nilI
 |cons a r ih=>exact .consI .str ih
theorem yp:nn X (.builtin "sorted") n5:=⟨fun pins s σ H vs us Q I rv ⟨μ,st,ws,S,r,q⟩=>by
 unfold n5 at q
 split at q
 ·rename_i n
  obtain⟨y,rfl,ry⟩:=r.one
  cases e1:lstOf st n with
  |none=>rw[e1]at q;exact q.elim
  |some zs=>
   rw[e1,eE]at q
   cases e2:mH zs with
   |none=>rw[e2]at q;exact q.elim
   |some ls=>
    rw[e2,eE]at q
    split at q
    ·rename_i c
     obtain⟨a,vs,g,hS,rz⟩:=S.lstOf e1
     obtain⟨b1,f1,rfl⟩:=ry.locE
     rw[g]at f1;cases f1
     have:=tM e2 rz
     subst this
     refine uN.h pins s σ H _ us Q I rv ⟨_,ls,rfl,hS,c,fun zs hp hs l H2 hl eH=>?_⟩
     subst eH
     have ez:zs=lj ls:=ww (tP hs) (yn ls) (hp.trans (j7 ls).symm)
     subst ez
     exact q (μ++[l]) _ _ (aC _ _) (fS.same (cN hl _)) (S.newLst hl (yo _)) (ni S)
    ·exact q.elim
 ·exact q.elim,fun ws st=>by
 unfold n5
 split
 ·exact rO fun _=>rO fun _=>by split<;>trivial
 ·trivial⟩
theorem oP{m l:List Nat}(hm:m.Nodup)(h:∀c∈m,c∈l):m.length<=l.length:=by
 induction m generalizing l with
 |nil=>exact b_ _
 |cons a r ih=>
  obtain⟨h1,h2⟩:=eN.mp hm
  have ha:a∈l:=h a (by simp)
  have:=ih h2 (l:=l.erase a) fun c hc=>by
   have:c≠a:=fun z=>h1 (z▸hc)
   exact(List.mem_erase_of_ne this).mpr (h c (cv _ hc))
  rw[List.length_erase_of_mem ha]at this
  have:0<l.length:=mw ha
  simp;omega
end
def W.ty:W->Option String
 |.non=>some "NoneType" | .bl _=>some "bool" | .int _=>some "int" | .str _=>some "str" | .tup _=>some "tuple" | .loc _=>none
def IA(t T:String):Bool:=(t==T)||(t == "bool" && T == "int")
theorem Pa{K:Frag}{T:String}(h:Ec T){w:W}{t:String}(hw:w.ty=some t):kitOne K (.type t) (.type T)=some (IA t T):=by
 cases w<;>simp only[W.ty]at hw<;>cases hw<;>(rcases h with rfl|rfl|rfl|rfl<;>rfl)
def oF(T:String)(fa:FE):FE:=fun ρ st=>(fa ρ st).bind fun x st=>match x.ty with
 |some t=>.ok (.bl (IA t T)) st
 |none=>.bad
section
variable{X:Cx}{a b c e o tg:Expr}{es:List Expr}{pos p p2 gG dW:Pos}{x name:Str}{fa fb fc fe fo:FE}{fs:FA}
theorem ln{T:String}{xT:Str}(hm:X.mg "isinstance"=none)(hT:X.mg xT=none)(hv:bootBuiltins xT=some (.type T))(ha:SE X a fa)(hk:Ec T:=by first|exact .inl rfl|exact .inr (.inl rfl)|exact .inr (.inr (.inl rfl))|exact .inr (.inr (.inr rfl)))
  (hg:Gl X "isinstance":=by rfl) (Ql:Gl X xT:=by rfl) (hn:xT ≠ "__name__":=by decide) (hd:(xT==("__debug__":Str))=false:=by decide)
  (he:starEach [a,.Name xT p2] X.env=(false,eval a X.env)::starEach [.Name xT p2] X.env:=by rfl) (JG:starEach [.Name xT p2] X.env=(false,eval (.Name xT p2) X.env)::starEach [] X.env:=by rfl) (qo:(backTo pos (starEach [.Name xT p2] X.env)).any (·.1)=false:=by rfl) :
  SE X (.Call (.Name "isinstance" p) [a,.Name xT p2] [] pos) (oF T fa):=by
 have C:gZ X (.builtin "isinstance") (fun xs H Q=>∃x μ st w t,xs=[x,.ty T]/\gT X.K X.mg μ st H/\bF X.K μ H w x/\w.ty=some t/\Q (.bl (IA t T)) H):=by
  intro pins s σ H xs us Q I r h
  obtain⟨x,μ,st,w,t,rfl,S,rx,ht,q⟩:=h
  obtain⟨u,u2,rfl,r1,r2⟩:=cV.two r
  obtain rfl:u2=.type T:=r2
  have e:=Pa (K:=X.K) hk ht
  cases w with
  |tup ws=>
   cases ht
   obtain⟨p,vs,rfl,hS,_⟩:=rx.tupE
   cases(show u=Value.ref p from r1)
   obtain⟨bJ,_,hp,_⟩:=I.tuple hS
   obtain⟨o,h1,h2,_⟩:=hp
   exact kia_one PySem.W.kitx_tuple I.kIn ⟨o,h1,h2⟩ e (fun z=>nomatch z) fun tk=>⟨.bl _,H,I.tok tk,rfl,q⟩
  |non=>cases ht;cases rx.nonE;exact nY I r1 .non e fun tk=>⟨.bl _,H,I.tok tk,rfl,q⟩
  |bl b=>cases ht;cases rx.blE;exact nY I r1 (.bl _) e fun tk=>⟨.bl _,H,I.tok tk,rfl,q⟩
  |int b=>cases ht;cases rx.intE;exact nY I r1 (.int _) e fun tk=>⟨.bl _,H,I.tok tk,rfl,q⟩
  |str b=>cases ht;cases rx.strE;exact nY I r1 (.str _) e fun tk=>⟨.bl _,H,I.tok tk,rfl,q⟩
  |loc b=>cases ht
 refine⟨(m9 C hg hm im (iC ha.h (iC (Bf Ql hT hv (v:=.ty T) rfl hn hd) ph JG) he) (by decide) (by decide) he qo).imp fun σ H Q h=>?_⟩
 obtain⟨μ,ρ,st,l,h⟩:=h
 refine⟨μ,ρ,st,l,RK.bind h l fun μ1 st1 x v H1 p1 x1 l1 q1 h1=>?_⟩
 cases ht:x.ty with
 |none=>rw[ht]at h1;exact h1.elim
 |some t=>
  rw[ht]at h1
  exact⟨v,μ1,st1,x,t,rfl,l1.sto,q1,ht,h1 μ1 _ H1 (al _) eD.refl l1.sto .bl⟩
theorem EA{P:Program}{w:World}{K:Frag}{mg:Str->Option Value}{base:Heap}{k n:Nat}{x:Str}{st:Stmt}{f:Addr}{fd:FuncData}{ps:List Str}
  (F:kQ K x x st f fd) (hm:mg x=some (.ref f)) (hn:ps.length=n)
  (hb:∀(kV sO pm:Value) (an:Option Addr) (gI ct:Value) (us:List Value),us.length=ps.length->bindArgs (fnOf x x (iD st) (gS st) (bg st) .none kV sO pm an gI ct) ⟨us,[]⟩=pure (ps.zip us)) :
  cu P w K mg base k x n (fun _ _=>.bad):=wq F hm hn hb ⟨fun vs H Q E h=>by rw[hn];exact h.1,fun _ _ _ _ _ _ _ _ _ _ _ _ _ h=>by obtain⟨_,_,_,_,_,_,z⟩:=h;exact z.elim⟩
end
abbrev pZ:List Value:=[.type "ValueError",.type "Exception",.type "BaseException",.type "object"]
abbrev rP:String:="ValueError.__new__"
def C0(K:Frag)(C:Addr):List Value:=match K.lookup C with
 |some ⟨_,_,.cls cd,_⟩=>cd.mro
 |_=>[]
theorem n6{K:Frag}{h:Heap}{C:Addr}{Sj:List Value}{nL:String}(X:K.In h)(q:excIn K C Sj nL=true) :
  ∃bm N nm qn bs hdct sn sub ab col dd k0 k1 k2 k3 k5 mN,h.get? C=some (excClassObj nm qn C N bs bm hdct sn sub ab col dd k0 k1 k2 k3 k5 nL)/\h.Ns N mN/\mN "__init__"=none/\OwnTail h Sj bm/\C0 K C=.ref C::bm:=by
 have q0:=q
 unfold excIn at q
 split at q
 ·rename_i dd cd sl ho
  split at q
  ·rename_i C' bm k0 k1 k2 k3 n k5 hm hs
   simp only[cq,cz,gD]at q
   obtain⟨⟨⟨⟨⟨rfl,rfl⟩,hdel⟩,ht⟩,hok⟩,hni⟩:=q
   have hmro:C0 K C'=cd.mro:=by unfold C0;rw[ho]
   obtain⟨nm,bs,mro,ns,qn,hd,sn,sub,ab,col,del⟩:=cd
   dsimp only at hm hdel hok hni hmro
   subst hm hdel
   have hsl:sl=#[k0,k1,k2,k3,some (.builtin n),k5]:=by
    obtain⟨l⟩:=sl
    simp only at hs
    rw[hs]
   subst hsl
   exact⟨bm,ns,nm,qn,bs,hd,sn,sub,ab,col,dd,k0,k1,k2,k3,k5,_,X _ _ ho,.of_isNs (PySem.W.isNs_of_in X hok),PySem.W.nsMap_none_of_in X hok hni,PySem.W.tail_of_in X ht,hmro⟩
  ·cases q
 ·cases q
structure L5(K:Frag)(mg:Str->Option Value)(x:Str):Prop where
 ex:∃C,mg x=some (.ref C)/\excIn K C pZ rP=true
def Ap(c:Str):FS:=fun ρ st=>.ex c ρ st
theorem EB{X:Cx}{x:Str}{np dW pos p':Pos}{z:Str}{j:Nat}(hC:L5 X.K X.mg x)(ia:X.calm=true:=by rfl)(hg:Gl X x:=by rfl)(hd:(x==("__debug__":Str))=false:=by decide)
  (he:starEach [.Constant (.str z) j p'] X.env=(false,eval (.Constant (.str z) j p') X.env)::starEach [] X.env:=by rfl):SS X (.Raise (some (.Call (.Name x np) [.Constant (.str z) j p'] [] dW)) none pos) (Ap x):=⟨by
 intro pins s σ H D I h
 obtain⟨μ,ρ,st,l,h⟩:=h
 obtain⟨C,hm,q⟩:=hC.ex
 have hh:X.A.handled=none:=I.ok.hd ia
 obtain⟨bm,N,nm,qn,bs,hdct,sn,sub,ab,col,dd,k0,k1,k2,k3,k5,mN,g1,g2,g3,g4,g5⟩:=n6 I.kIn q
 refine wpAny_Raise_call_subT (C:=C) (nm:=nm) (q:=qn) (N:=N) (bs:=bs) (bm:=bm) (hdct:=hdct) (sn:=sn) (sub:=sub) (ab:=ab) (col:=col) (dd:=dd) (k0:=k0) (k1:=k1) (k2:=k2) (k3:=k3) (k5:=k5)
  F.excBase_ValueError (mN:=mN) (g4.hasType F.excBase_ValueError.hasBase) hh (by rw[he];rfl) g3 (sy I hg hm ⟨rfl,?_⟩ hd)
 rw[he]
 refine gN ?_
 show wpAny _ _ (spliced ((false,eval (.Constant (.str z) j p') X.env)::[])) _ _ s
 refine iw (wpAny_Constant_str (iP ?_))
 refine⟨rfl,(by show 1<=sizeLine;decide),g1,g2,g4,fun h' e hx=>?_⟩
 have I2:bt X pins σ H { s with heap:=h',toks:=s.toks+1 }:=I.kept hx.keeps
 have en:H e=none:=by
  cases hu:H e with
  |none=>rfl
  |some u=>
   obtain⟨ob,Dw⟩:=(I.hok e u hu).ex
   have:=hx.new
   rw[show({ s with toks:=s.toks+1 }:Shared).heap=s.heap from rfl]at this
   rw[Dw]at this;cases this
 obtain⟨t,Dy,ht2,ht3⟩:=hx.there
 have hin:∀env∈X.stack,∀b,env.frame=some b->b∈pL X.stack:=fun env he b hb=>kq.mpr ⟨env,he,hb⟩
 refine h pins μ σ H (.ref e) _ (al _) eD.refl l ⟨I2,e,.ref C,t,hideAll s.heap (pL X.stack),rfl,hm,en,fun b o hb=>hx.keeps b o (PySem.W.of_hideAll _ hb),?_,?_,.inr (.inl ⟨_,_,Dy,rfl,rfl,rfl,rfl,rfl⟩),fun b o hb hr=>?_⟩
 ·cases hq:(hideAll s.heap (pL X.stack)).get? e with
  |none=>rfl
  |some o=>have z:=PySem.W.of_hideAll _ hq;have y:=hx.new;rw[show({ s with toks:=s.toks+1 }:Shared).heap=s.heap from rfl,z]at y;cases y
 ·exact(PySem.W.funFrames_hide I.stack hin).of_keeps fun b o hb _=>⟨o,hx.keeps b o hb,rfl⟩
 ·have old:∀o0,s.heap.get? b=some o0->s.heap.get? b=some o:=fun o0 h0=>by
   have h1:h'.get? b=some o0:=hx.keeps b o0 h0
   have h2:h'.get? b=some o:=hb
   rw[h1]at h2;rw[<- h2];exact h0
  have fin:∀o0,s.heap.get? b=some o0->b∉pL X.stack->(hideAll s.heap (pL X.stack)).get? b=some o:=fun o0 h0 hn=>PySem.W.hideAll_get _ (old o0 h0) hn
  rcases hr with hr|⟨⟨o0,h0⟩,hf,hbx⟩|⟨⟨y,hy⟩,hf⟩|⟨pp,hp,rfl⟩
  ·cases hu:H b with
   |none=>exact absurd hu hr
   |some u=>
    obtain⟨ob,Dw⟩:=(I.hok b u hu).ex
    exact fin ob Dw fun z=>by have:=I.stkFree b z;rw[hu]at this;cases this
  ·obtain⟨o1,h1⟩:=I.base.there b o0 h0 hbx
   refine fin o1 h1 fun z=>?_
   rcases a8.mp (I.stkSub b z)with z|z
   ·rw[z]at h0;exact absurd (aV (aI h0) I.ok.above) (bo _)
   ·exact hf z
  ·obtain⟨v,ov,hov,_⟩:=I.cell y b hy
   exact fin ov hov hf
  ·obtain⟨p1,p2,p3,p4,_⟩:=I.pin pp hp
   refine fin _ p1 fun z=>?_
   rcases a8.mp (I.stkSub _ z)with z|z
   ·exact p3 z
   ·exact p4 z⟩
theorem bt.unbound{X:Cx}{pins:List (Addr×Obj)}{σ:St}{H:Hp}{s:Shared}{h':Heap}{t' i:Nat}{x:Str}{v:Option Value}{m:Str->Option Value}(I:bt X pins σ H s)(hN:X.N.Nodup)(hi:X.N[i]?=some x)(hn:s.heap.Ns X.env.locals m)
  (RT:h'.Ns X.env.locals (fun y=>if y=x then v else m y)) (hs:Heap.SameBut X.env.locals s.heap h'):bt X pins (σ.set i none) H { s with heap:=h',toks:=t' }:=by
 obtain⟨m0,hn0,hl⟩:=id I.loc
 have em:m0=m:=by
  obtain⟨o,es,ep,a1,a2,a3,a4⟩:=hn0
  obtain⟨o',es',ep',b1,b2,b3,b4⟩:=hn
  rw[a1]at b1;cases b1
  rw[a2]at b2;cases b2
  funext y;rw[<- a4,<- b4]
 subst em
 obtain⟨oL,_,_,hoL,_⟩:=id hn0
 have cne:=I.cne
 refine⟨I.ok,I.os,I.bare,⟨fun b o e n hb hx=>?_,fun b o e n hb hx=>?_,I.base.free,fun b o e hx=>?_,I.base.tups,I.base.frzs,I.base.tbls⟩,⟨_,RT,fun j y w e1 e2 e3=>?_⟩,fun y c e=>?_,I.free,I.freeC,fun p hp=>?_,fun b ob e=>?_,by simpa using I.len⟩
 ·exact(hs.2 b (be (aV (aI e) I.ok.above))).trans (I.base.keep b o e n hb hx)
 ·obtain⟨sl,e1⟩:=I.base.slot b o e n hb hx
  exact⟨sl,(hs.2 b (be (aV (aI e) I.ok.above))).trans e1⟩
 ·obtain⟨o',e1⟩:=I.base.there b o e hx
  exact⟨o',(hs.2 b (be (aV (aI e) I.ok.above))).trans e1⟩
 ·by_cases hj:j=i
  ·subst hj
   by_cases kE:j<σ.length
   ·rw[ba kE]at e2;cases e2
   ·rw[bO (by simpa using kE)]at e2;cases e2
  ·rw[aQ (Ne.symm hj)]at e2
   obtain⟨u',r',q⟩:=hl j y w e1 e2 e3
   refine⟨u',r',?_⟩
   rcases q with⟨k,e⟩|⟨k,c,e,z⟩
   ·refine .inl ⟨k,?_⟩
    have:y≠x:=fun e=>hj (sP hN e1 (e▸hi))
    simp[this,e]
   ·exact .inr ⟨k,c,e,z.sameBut hs (cne y c e)⟩
 ·obtain⟨w',z⟩:=I.cell y c e
  exact⟨w',z.sameBut hs (cne y c e)⟩
 ·obtain⟨e,n,ne,nf,d⟩:=I.pin p hp
  exact⟨(hs.2 p.1 ne).trans e,n,ne,nf,d⟩
 ·refine(I.hok b ob e).stay (fun c w' hc q=>(hs.2 c ?_).trans q) (fun _ q=>q) fun _ _ q=>q
  rintro rfl
  rcases hc with rfl|hc
  ·rw[I.free]at e;cases e
  ·rw[I.free]at hc;cases hc
theorem rL.lands{X:Cx}{pins:List (Addr×Obj)}{σ:St}{c:Str}{H:Hp}{e:Value}{s:Shared}{Q:Unit->Shared->Prop}{E:Value->Shared->Prop}{M:Model}{outer:List Env}(f:rL X pins σ c H e s)(nM:X.stack=X.env::outer)(xL:X.env.frame=some X.env.locals)(hA:X.A.frames=some X.stack)
  (h:∀x C t B h',e=.ref x->X.mg c=some C->H x=none->Heap.FlyingW B X.stack x C (.ref t) h'->s.heap.UpToSlots h' ->
   (∀b o,s.heap.get? b=some o->(H b≠none\/((∃o0,X.s₀.heap.get? b=some o0)/\b∉X.fs/\b∉X.ex)\/((∃y,X.env.cells.lookup y=some b)/\b∉pL X.stack)\/∃p∈X.pn++pins,p.1=b)->B.get? b=some o)->Q () { s with heap:=h' }) :
  wpAny M X.A (noteFrame e X.env) (fun _ s₂=>wpAny M X.A (setFlight e none) Q E s₂) E s:=by
 obtain⟨x,C,t,B,rfl,hC,hx,st,nx,ff,tr,cov⟩:=f.ex
 rw[nM]at ff hA
 rcases tr with tr|⟨oe,vs,he,rfl,_,hd,h1,h0⟩|⟨L,hL,tr⟩
 ·refine wpAny_looks_onW hA xL ⟨st,nx,ff,tr⟩ fun h1 hh u1=>qC hh fun h2 fl u2=>?_
  exact h x C t B h2 rfl hC hx (by rw[nM];exact fl) (u1.trans u2) cov
 ·unfold noteFrame
  simp only[xL]
  refine ak (dG he hd h1 ?_)
  rw[aE (by decide)]
  refine wpAny_newEntryW hA ff xL he st nx hd (kA.mp h1).1 h0 fun h' hL=>?_
  obtain⟨k1,k2,k3,k4⟩:=hL
  exact h x _ t B h' rfl hC hx ⟨k1,nx,by rw[nM];exact k2,k3⟩ k4 cov
 ·refine mv hL tr (qC ⟨st,nx,ff,tr⟩ fun h' fl up=>?_)
  exact h x C t B h' rfl hC hx (by rw[nM];exact fl) up cov
theorem bt.landed{X:Cx}{pins:List (Addr×Obj)}{σ:St}{H:Hp}{s:Shared}{h' B:Heap}{x:Addr}{C:Value}{t:Addr}(I:bt X pins σ H s)(fl:Heap.FlyingW B X.stack x C (.ref t) h')(up:s.heap.UpToSlots h')(nM:X.stack=X.env::X.outer)
  (cov:∀b o,s.heap.get? b=some o->(H b≠none\/((∃o0,X.s₀.heap.get? b=some o0)/\b∉X.fs/\b∉X.ex)\/((∃y,X.env.cells.lookup y=some b)/\b∉pL X.stack)\/∃p∈X.pn++pins,p.1=b)->B.get? b=some o) :
  bt X pins σ H { s with heap:=h' }:=by
 obtain⟨f1,f2,f3,f4⟩:=fl
 obtain⟨m,hn,hl⟩:=id I.loc
 have cellK:∀y c,X.env.cells.lookup y=some c->∀v,s.heap.IsCell c v->h'.IsCell c v:=fun y c e v ⟨o,ho,hd⟩=>by
  by_cases hc:c∈pL X.stack
  ·obtain⟨sl,q⟩:=up c o ho fun vs z=>by rw[hd]at z;cases z
   exact⟨_,q,hd⟩
  ·exact⟨o,f1 c o (cov c o ho (.inr (.inr (.inl ⟨⟨y,e⟩,hc⟩)))),hd⟩
 have frames:∀b∈X.fs,∀o,s.heap.get? b=some o->∃sl,h'.get? b=some { o with slots:=sl }:=fun b hb o ho=>by
  obtain⟨_,o',ho',hd⟩:=I.funs.mem hb
  rw[ho]at ho';cases ho'
  exact up b o ho hd
 have kept:∀b o,s.heap.get? b=some o->(∃o0,X.s₀.heap.get? b=some o0)->b∉X.fs->b∉X.ex->h'.get? b=some o:=fun b o ho h0 hb hx=>f1 b o (cov b o ho (.inr (.inl ⟨h0,hb,hx⟩)))
 refine⟨I.ok,I.os,I.bare,⟨fun b o q n hb hx=>kept b o (I.base.keep b o q n hb hx) ⟨o,q⟩ hb hx,fun b o q n hb hx=>?_,I.base.free,fun b o q hx=>?_,I.base.tups,I.base.frzs,I.base.tbls⟩,⟨m,up.ns hn,fun i y v e1 e2 e3=>?_⟩,fun y c e=>?_,I.free,I.freeC,fun p hp=>?_,fun b u hb=>?_,I.len⟩
 ·obtain⟨sl,q1⟩:=I.base.slot b o q n hb hx
  obtain⟨DG,q2⟩:=frames b hb _ q1
  exact⟨DG,q2⟩
 ·obtain⟨o',q1⟩:=I.base.there b o q hx
  by_cases hb:b∈X.fs
  ·obtain⟨DG,q2⟩:=frames b hb _ q1;exact⟨_,q2⟩
  ·exact⟨o',kept b o' q1 ⟨o,q⟩ hb hx⟩
 ·obtain⟨u,r,lk⟩:=hl i y v e1 e2 e3
  refine⟨u,r,?_⟩
  rcases lk with lk|⟨k,c,e,z⟩
  ·exact .inl lk
  ·exact .inr ⟨k,c,e,cellK y c e _ z⟩
 ·obtain⟨v,z⟩:=I.cell y c e
  exact⟨v,cellK y c e v z⟩
 ·obtain⟨e,n,ne,nf,d⟩:=I.pin p hp
  exact⟨f1 _ _ (cov _ _ e (.inr (.inr (.inr ⟨p,hp,rfl⟩)))),n,ne,nf,d⟩
 ·refine(I.hok b u hb).stay (fun c v hc q=>f1 c v (cov c v q (.inl ?_))) (fun _ q=>q) fun _ _ q=>q
  rcases hc with rfl|hc
  ·rw[hb];simp
  ·rw[hc];simp
abbrev Cx.trying(X:Cx)(pn:List (Addr×Obj))(E:Value->Shared->Prop):Cx:={ X with pn:=pn,xe:=E }
abbrev Cx.within(X:Cx)(v:Value):Cx:={ X with A:=X.A.mark (some v),calm:=false,xe:=fun _ _=>False }
theorem Cx.Ok.trying{X:Cx}(k:X.Ok)(pn:List (Addr×Obj))(E:Value->Shared->Prop):(X.trying pn E).Ok:=⟨k.mod,k.kind,k.glob,k.blt,k.above,k.inj,k.has,k.cab,k.hd,k.frames,k.stk,k.exf,k.bs,k.bsz,k.noex,k.exfs,k.funs,k.frf⟩
theorem Cx.Ok.within{X:Cx}(k:X.Ok)(v:Value):(X.within v).Ok:=⟨k.mod,k.kind,k.glob,k.blt,k.above,k.inj,k.has,k.cab,(fun z=>by cases z),k.frames,k.stk,k.exf,k.bs,k.bsz,k.noex,k.exfs,k.funs,k.frf⟩
section
variable{X:Cx}{pins:List (Addr×Obj)}{σ:St}{H:Hp}{s:Shared}
theorem bt.trying(I:bt X pins σ H s)(E:Value->Shared->Prop):bt (X.trying (X.pn++pins) E) [] σ H s:=⟨I.ok.trying _ _,I.os,I.bare,I.base,I.loc,I.cell,I.free,I.freeC,fun p hp=>I.pin p (by simpa using hp),I.hok,I.len⟩
theorem bt.tried{E:Value->Shared->Prop}{pins':List (Addr×Obj)}(ok:X.Ok)(I:bt (X.trying (X.pn++pins) E) pins' σ H s):bt X pins σ H s:=⟨ok,I.os,I.bare,I.base,I.loc,I.cell,I.free,I.freeC,fun p hp=>I.pin p (dF _ hp),I.hok,I.len⟩
theorem bt.within(I:bt X pins σ H s)(v:Value):bt (X.within v) pins σ H s:=⟨I.ok.within v,I.os,I.bare,I.base,I.loc,I.cell,I.free,I.freeC,I.pin,I.hok,I.len⟩
theorem bt.out{v:Value}(ok:X.Ok)(I:bt (X.within v) pins σ H s):bt X pins σ H s:=⟨ok,I.os,I.bare,I.base,I.loc,I.cell,I.free,I.freeC,I.pin,I.hok,I.len⟩
theorem bt.adopt{x:Addr}{ob:HO}(I:bt X pins σ H s)(hx:H x=none)(h0:X.s₀.heap.get? x=none)(hL:x≠X.env.locals)(hc:∀y c,X.env.cells.lookup y=some c->c≠x)(hp:∀p∈X.pn++pins,p.1≠x)(ok:fg X.prog X.w (eS H x ob) s.heap x ob):bt X pins σ (eS H x ob) s:=by
 have hs:qI H (eS H x ob):=cN hx ob
 refine⟨I.ok,I.os,I.bare,⟨I.base.keep,I.base.slot,fun b o q n hb=>?_,I.base.there,fun b xs q=>hs _ _ (I.base.tups b xs q),fun b o u q=>hs _ _ (I.base.frzs b o u q),fun b ps q=>?_⟩,I.loc,I.cell,?_,fun y c e=>?_,fun p h=>?_,fun b u hb=>?_,I.len⟩
 ·rw[bX (fun z=>by rw[z,h0]at q;cases q)];exact I.base.free b o q n hb
 ·obtain⟨m,e⟩:=I.base.tbls b ps q;exact⟨m,hs _ _ e⟩
 ·rw[bX (Ne.symm hL)];exact I.free
 ·rw[bX (hc y c e)];exact I.freeC y c e
 ·obtain⟨a,b,c,d,e⟩:=I.pin p h;exact⟨a,by rw[bX (hp p h)];exact b,c,d,e⟩
 ·by_cases e:b=x
  ·subst e;rw[dC]at hb;cases hb;exact ok
  ·rw[bX e]at hb
   exact(I.hok b u hb).stay (fun _ _ _ q=>q) (fun c q=>hs _ _ q) fun c xs q=>hs _ _ q
end
theorem tR{M:Model}{A:Around}{E:Value->Shared->Prop}{h:Heap}{g:Array GenState}{d:Drawn}{t:Nat}{os:OsState}{e:Addr}{oe:Obj}{Q:Bool->Shared->Prop}{nm qn Se Sd:Str}{C N D N':Addr}{bs bm Sk Q0:List Value}{hdct KO:Bool}{sn Sh:List Str}{sub Qg:List Value}{ab Sg:Bool}{col Qy:Option Bool}{dd Cf:Option Addr}{k0 k1 k2 k3 k5 j0 j1 j2 j3 j5:Option Value}{nL NF:String}
  (hC:h.get? C=some (excClassObj nm qn C N bs bm hdct sn sub ab col dd k0 k1 k2 k3 k5 nL)) (hD:h.get? D=some (excClassObj Se Sd D N' Sk Q0 KO Sh Qg Sg Qy Cf j0 j1 j2 j3 j5 NF)) (he:h.get? e=some oe) (Hn:oe.cls=.ref C) (nN:Q0.contains (.type "BaseException")=true)
  {b:Bool} (hb:(Value.ref C::bm).contains (.ref D)=b) (hq:Q b ⟨h,g,d,t,os⟩):wpAny M A (excMatches (.ref e) (.ref D)) Q E ⟨h,g,d,t,os⟩:=by
 have hcB:(Value.ref D::Q0).contains (.type "BaseException")=true:=by rw[kB,nN,Bool.or_true]
 have f:=tc_notTuple
 unfold excMatches
 repeat(first|(with_reducible refine eK he ?_;rw[Hn])|with_reducible refine eK hD ?_|(with_reducible refine hJ hD ?_;rw[hcB])|(with_reducible refine hJ hC ?_;rw[hb])|wp_step)
 cases b<;>(wp_walk;exact hq)
open AutoSeq1 (wpAny_loadPart')
section
variable{X:Cx}
end
section
variable{X:Cx}{a b c e o tg:Expr}{es:List Expr}{pos p p2:Pos}{fa fb fe fo:FE}{fs:FA}
def Aq(fs:FA):FI:=fun ρ st=>(fs ρ st).bind fun ws st=>match ws with
 |[.str l]=>if l.length<=1000000 then .ok (nw l.reverse,none) st else .bad
 |_=>.bad
theorem IB(hm:X.mg "reversed"=none)(ha:SA X [a] fs)(hg:Gl X "reversed":=by rfl)(hs:starEach [a] X.env=(false,eval a X.env)::starEach [] X.env:=by rfl) :
  SI X tg (.Call (.Name "reversed" p) [a] [] pos) (Aq fs):=⟨(Ir hm ⟨ha.h⟩ hg hs).h.imp fun σ H R h=>by
 obtain⟨μ,ρ,st,l,h⟩:=h
 refine⟨μ,ρ,st,l,RK.bind h l fun μ1 st1 x v H1 p1 x1 l1 q1 h1=>?_⟩
 split at h1
 ·obtain⟨y,rfl,ry⟩:=q1.one
  split at h1
  ·rename_i cc
   exact⟨_,by rw[ry.strE],cc,h1 μ1 _ H1 (al _) eD.refl l1.sto (qM (vx _))⟩
  ·exact h1.elim
 ·exact h1.elim⟩
theorem EC{α:Type}(xs:List α)(k:Nat)(y:α):((xs.toArray.extract 0 k).push y++xs.toArray.extract k).toList=xs.take k++y::xs.drop k:=by
 simp
 exact cL (by simp)
def IC:V->List V->Hp->VK->Prop:=fun x vs H Q=>∃(l:Addr) (xs:List V) (k:Nat) (y:V),x=.ref l/\vs=[.int k,y]/\H l=some (.lst xs)/\k<=xs.length/\xs.length+1<=sizeLine/\k<1000000/\Q .non (eS H l (.lst (xs.take k++y::xs.drop k)))
theorem C1:R8 X "list.insert" IC:=by
 intro pins s σ H x vs v us Q I rx rv h
 obtain⟨l,xs,k,y,rfl,rfl,hH,hk,hz,DB,q⟩:=h
 cases rx
 obtain⟨u,u2,rfl,r1,r2⟩:=cV.two rv
 obtain⟨t,rfl⟩:=r1
 obtain⟨z,bJ,n,r,hl,e⟩:=I.lstM hH
 have hfit:¬ (!Builtin.List.listFitsIndex (k:Int))=true:=by
  unfold Builtin.List.listFitsIndex
  simp;omega
 have hsz:bJ.toArray.size<=sizeLine:=by rw[aX];omega
 obtain⟨q0,hq0⟩:∃q0:Int,q0=k:=⟨_,rfl⟩
 rw[<- hq0]at hfit ⊢
 have M:=AutoSeq1.list_insert_list_int_val_1 l bJ.toArray n q0 t u2 hfit hsz
 refine call_meets F.slot_list_insert ⟨_,e,rfl⟩ F.entry_list_insert (F.args_list_insert_3 _ _ _) M ⟨e,?_⟩
 refine⟨.non,_,I.lset (its':=bJ.take k++u2::bJ.drop k) hH e ?_ ((r.take k).append (.cons r2 (r.drop k))) ?_,rfl,q⟩
 ·have h0:¬ (q0<0):=by omega
  have hm:min q0.toNat bJ.toArray.size=k:=by rw[aX];omega
  simp only[aE h0,hm]
  apply Array.toList_inj.mp
  rw[EC]
 ·rw[aK,bb,bf,dH]
  omega
def n_(x:W)(ws:List W)(st:List am):R W:=match x,ws with
 |.loc n,[.int k,y]=>(match st[n]? with
  |some (.lst zs)=>if 0<=k/\k.toNat<=zs.length/\zs.length<kJ/\k<1000000 then .ok .non (st.set n (.lst (zs.take k.toNat++y::zs.drop k.toNat)))else .bad
  |_=>.bad)
 |_,_=>.bad
theorem C2:O8 X "list.insert" n_:=⟨fun pins s σ H x vs v us Q I rv rus ⟨μ,st,wx,ws,S,rx,rs,q⟩=>by
 unfold n_ at q
 split at q
 ·rename_i n k y
  obtain⟨y1,y2,rfl,ry1,ry2⟩:=rs.two
  split at q
  ·rename_i zs e1
   split at q
   ·rename_i cc
    obtain⟨c1,c2,c3,c4⟩:=cc
    obtain⟨k,rfl⟩:=lz c1
    rw[a6]at c2 q
    obtain⟨a1,g1,vs1,k1,r1⟩:=S.get e1
    obtain⟨b1,f1,rfl⟩:=rx.locE
    rw[g1]at f1;cases f1
    have hl:=r1.len
    have hL:vs1.length+1<=sizeLine:=by rw[<- hl];exact lI c3
    refine C1 pins s σ H _ _ v us Q I rv rus ⟨a1,vs1,k,y2,rfl,by rw[ry1.intE],k1,by omega,hL,by omega,?_⟩
    exact q μ _ _ (al _) (fS.but ig k1) (S.set e1 g1 k1 ((r1.take k).app (.consI ry2 (r1.drop k)))) .non
   ·exact q.elim
  ·exact q.elim
 ·exact q.elim,fun x ws st=>by
 unfold n_
 repeat' split
 all_goals trivial⟩
end
def L6(i:Nat):RS->RS
 |.nx ρ st=>.nx (ρ.set i none) st
 |.bk ρ st=>.bk (ρ.set i none) st
 |.ct ρ st=>.ct (ρ.set i none) st
 |.rt w st=>.rt w st
 |_=>.bad
def Ar(g:FS)(cs:List Str)(i:Nat)(gh:FS):FS:=fun ρ st=>match g ρ st with
 |.ex c ρ' bI=>if c∈cs then L6 i (gh (ρ'.set i (some (.loc bI.length))) (bI++[.exc c]))else .bad
 |r=>r
structure ED(K:Frag)(mg:Str->Option Value)(T:Str)(cs:List Str):Prop where
 h:∀c∈cs,∃C Ta,mg c=some (.ref C)/\mg T=some (.ref Ta)/\excIn K C pZ rP=true/\excIn K Ta pZ rP=true/\(C0 K C).contains (.ref Ta)=true
theorem lO{K:Frag}{μ:List Addr}{H:Hp}:∀{ρ:cf} {σ:St} (i:Nat),Paired (fun(o:Option W) (s:Option V)=>∀w,o=some w->∃v,s=some v/\bF K μ H w v) ρ σ ->
  Paired (fun(o:Option W) (s:Option V)=>∀w,o=some w->∃v,s=some v/\bF K μ H w v) (ρ.set i none) (σ.set i none)
 |_,_,_,.nil=>.nil
 |_,_,0,.cons a t=>.cons (fun w e=>by cases e) t
 |_,_,i+1,.cons a t=>.cons a (lO i t)
theorem gT.pushE{K:Frag}{mg:Str->Option Value}{μ:List Addr}{st:List am}{H:Hp}(S:gT K mg μ st H){x:Addr}{c:Str}{C:Value}(hx:H x=none)(hc:mg c=some C):gT K mg (μ++[x]) (st++[.exc c]) (eS H x (s_ x C)):=
 S.push (c:=.exc c) hx ⟨C,hc,dC⟩
theorem L7{X:Cx}{body KJ:List Stmt}{b₀:Stmt}{T n:Str}{i:Nat}{g gh:FS}{cs:List Str}{pos u9 np:Pos}(hC:ED X.K X.mg T cs)(hN:X.N.Nodup)(hi:X.N[i]?=some n)(hx:Hr X.env.scope n)
  (hb:∀pn E,SB (X.trying pn E) body g) (hs:∀v,SB (X.within v) (b₀::KJ) gh) (Qf:X.ex=[]:=by rfl) (nM:X.stack=X.env::X.outer:=by rfl) (xL:X.env.frame=some X.env.locals:=by rfl) (hk:X.env.kindOf n=some .local:=by rfl) (hg:Gl X T:=by rfl) (hd:(T==("__debug__":Str))=false:=by decide)
  (hf:X.fn n=true\/X.env.scope.names.lookup n=some .local:=by first|exact .inl rfl|exact .inr rfl) :
  SS X (.Try body [.ExceptHandler (some (.Name T np)) (some n) (b₀::KJ) u9] [] [] pos) (Ar g cs i gh):=⟨by
 intro pins s σ H D I h
 obtain⟨μ,ρ,st,l,h⟩:=h
 refine wpAny_Try_except ?_
 refine cH ((hb (X.pn++pins) _).h [] s σ H D (I.trying _) ⟨μ,ρ,st,⟨l.env,l.sto⟩,?_⟩) (fun f s1 q=>?_) (fun _ _ q=>q)
 ·unfold Ar at h
  cases e:g ρ st with
  |nx ρ' bI=>rw[e]at h;exact fun μ' σ' H' p x r=>h μ' σ' H' p x ⟨r.env,r.sto⟩
  |bk ρ' bI=>rw[e]at h;exact fun μ' σ' H' p x r=>h μ' σ' H' p x ⟨r.env,r.sto⟩
  |ct ρ' bI=>rw[e]at h;exact fun μ' σ' H' p x r=>h μ' σ' H' p x ⟨r.env,r.sto⟩
  |rt w bI=>rw[e]at h;exact h
  |bad=>rw[e]at h;exact h
  |ex c ρ' bI=>
   rw[e]at h
   intro pins' μ' σ' H' ev s' pp xx r f
   dsimp only at h
   split at h
   ·rename_i hc
    obtain⟨Ca,Ta,m1,m2,q1,q2,hsub⟩:=hC.h c hc
    have I0:=f.inv
    refine f.lands nM xL I.ok.frames fun ex C t B h' he hCc hxn fl up cov=>?_
    subst he
    obtain rfl:C=.ref Ca:=by have:=hCc.symm.trans m1;exact aZ this
    have I1:=I0.landed fl up nM cov
    have I2:bt X pins σ' H' { s' with heap:=h' }:=bt.tried I.ok I1
    obtain⟨oe,vs,_,_,_,Hy,⟨Hn,_⟩,hdat,_⟩:=fl.2.2.2
    have cov2:∀b o,h'.get? b=some o->(H' b≠none\/((∃o0,X.s₀.heap.get? b=some o0)/\b∉X.fs/\b∉X.ex)\/((∃y,X.env.cells.lookup y=some b)/\b∉pL X.stack)\/∃p∈X.pn++pins,p.1=b)->B.get? b=some o:=by
     intro b o hbo hr
     have fin:∀o1,s'.heap.get? b=some o1->(H' b≠none\/((∃o0,X.s₀.heap.get? b=some o0)/\b∉X.fs/\b∉X.ex)\/((∃y,X.env.cells.lookup y=some b)/\b∉pL X.stack)\/∃p∈(X.pn++pins)++pins',p.1=b)->B.get? b=some o:=fun o1 h1 hr=>by
      have h2:=cov b o1 h1 hr
      have h3:=fl.1 b o1 h2
      rw[h3]at hbo;cases hbo;exact h2
     rcases hr with hr|⟨⟨o0,h0⟩,hbf,hbx⟩|⟨⟨y,hy⟩,hbf⟩|⟨p,hp,rfl⟩
     ·cases hu:H' b with
      |none=>exact absurd hu hr
      |some u=>obtain⟨ob,Dw⟩:=(I0.hok b u hu).ex;exact fin ob Dw (.inl hr)
     ·obtain⟨o1,h1⟩:=I0.base.there b o0 h0 hbx
      exact fin o1 h1 (.inr (.inl ⟨⟨o0,h0⟩,hbf,hbx⟩))
     ·obtain⟨v,ov,hov,_⟩:=I0.cell y b hy
      exact fin ov hov (.inr (.inr (.inl ⟨⟨y,hy⟩,hbf⟩)))
     ·obtain⟨p1,_⟩:=I0.pin p (dF _ hp)
      exact fin _ p1 (.inr (.inr (.inr ⟨p,dF _ hp,rfl⟩)))
    have noB:∀o,B.get? ex=some o->False:=fun o z=>by have:=fl.2.1;rw[z]at this;cases this
    obtain⟨bm,N,nm,qn,bs,hdct,sn,sub,ab,col,dd,k0,k1,k2,k3,k5,mN,g1,g2,g3,g4,g5⟩:=n6 I2.kIn q1
    obtain⟨Q0,N',Se,Sd,Sk,KO,Sh,Qg,Sg,Qy,Cf,j0,j1,j2,j3,j5,mN',g1',g2',g3',g4',g5'⟩:=n6 I2.kIn q2
    refine wpAny_handleBy_cons (codeAny_handlers_test ?_) (by intro z;cases z)
    refine sy (X:=X.within (.ref ex)) (I2.within _) hg m2 ?_ hd
    refine tR g1 g1' Hy Hn (g4'.hasType F.excBase_ValueError.hasBase) (b:=true) (by rw[<- g5];exact hsub) ?_
    refine codeAny_handlers_suite_as ?_
    refine lands_againW fl fun h2 fl2 up2=>?_
    have I3:bt X pins σ' H' { s' with heap:=h2 }:=I2.landed fl2 up2 nM cov2
    obtain⟨oe2,vs2,_,_,_,heo2,⟨hcls2,_⟩,hdat2,_⟩:=fl2.2.2.2
    have I4:bt X pins σ' (eS H' ex (s_ ex (.ref Ca))) { s' with heap:=h2 }:=by
     refine I3.adopt hxn ?_ ?_ ?_ ?_ ?_
     ·cases h0:X.s₀.heap.get? ex with
      |none=>rfl
      |some o0=>
       exfalso
       by_cases hfs:ex∈X.fs
       ·obtain⟨_,o',ho',hd'⟩:=I3.funs.mem hfs
        have ho':h2.get? ex=some o':=ho'
        rw[heo2]at ho';cases ho'
        exact hd' _ hdat2
       ·exact noB _ (cov2 ex oe Hy (.inr (.inl ⟨⟨o0,h0⟩,hfs,by rw[Qf];simp⟩)))
     ·rintro rfl
      obtain⟨m,⟨o,es,ep,a1,a2,_⟩,_⟩:=I3.loc
      have a1:h2.get? _=some o:=a1
      rw[heo2]at a1;cases a1
      rw[hdat2]at a2;cases a2
     ·rintro y c' hy rfl
      obtain⟨v,o,a1,a2⟩:=I3.cell y _ hy
      have a1:h2.get? _=some o:=a1
      rw[heo2]at a1;cases a1
      rw[hdat2]at a2;cases a2
     ·rintro p hp rfl
      exact noB _ (cov2 p.1 oe Hy (.inr (.inr (.inr ⟨p,hp,rfl⟩))))
     ·refine⟨⟨oe2,vs2,heo2,hcls2,hdat2⟩,⟨oe2,heo2⟩,?_⟩
      rintro ha hb' ⟨o,vs,z1,z2,z3⟩ keep
      exact⟨o,vs,keep o z1,z2,z3⟩
    have hxt:eD X.K H' (eS H' ex (s_ ex (.ref Ca))):=fS.same (cN hxn _)
    refine m7 (X:=X.within (.ref ex)) (I4.within _) hN hi hx (v:=.ref ex) rfl (fun s5 I5=>?_) hf
    have S4:gT X.K X.mg (μ'++[ex]) (bI++[.exc c]) (eS H' ex (s_ ex (.ref Ca))):=gT.pushE r.sto hxn m1
    have L4:Rl (X.within (.ref ex)) (μ'++[ex]) (ρ'.set i (some (.loc bI.length))) (bI++[.exc c]) (σ'.set i (some (.ref ex))) (eS H' ex (s_ ex (.ref Ca))):=
     ⟨lh (ni r.sto) i (qL (aC _ _) hxt r.env),S4⟩
    have pm:μ <+: μ'++[ex]:=pp.trans (aC _ _)
    have xm:eD X.K H (eS H' ex (s_ ex (.ref Ca))):=xx.trans hxt
    have hp:(X.env.scope.kind==.class||(X.env.scope.kind==.module&&X.env.locals != X.env.globals))=false:=by rw[I.ok.kind];rfl
    refine cH ((hs (.ref ex)).h pins s5 _ _ { nx:=fun σ H=>D.nx (σ.set i none) H,rt:=D.rt,bk:=fun σ H=>D.bk (σ.set i none) H,ct:=fun σ H=>D.ct (σ.set i none) H } I5 ⟨μ'++[ex],_,_,L4,?_⟩) (fun f6 s6 q=>?_) (fun _ _ z=>z.elim)
    ·cases e2:gh (ρ'.set i (some (.loc bI.length))) (bI++[.exc c])with
     |nx ρ2 st2=>rw[e2]at h;exact fun μ3 σ3 H3 p3 x3 r3=>h μ3 (σ3.set i none) H3 (pm.trans p3) (xm.trans x3) ⟨lO i r3.env,r3.sto⟩
     |bk ρ2 st2=>rw[e2]at h;exact fun μ3 σ3 H3 p3 x3 r3=>h μ3 (σ3.set i none) H3 (pm.trans p3) (xm.trans x3) ⟨lO i r3.env,r3.sto⟩
     |ct ρ2 st2=>rw[e2]at h;exact fun μ3 σ3 H3 p3 x3 r3=>h μ3 (σ3.set i none) H3 (pm.trans p3) (xm.trans x3) ⟨lO i r3.env,r3.sto⟩
     |rt w st2=>rw[e2]at h;exact fun μ3 v H3 p3 x3 S3 r3=>h μ3 v H3 (pm.trans p3) (xm.trans x3) S3 r3
     |ex c2 ρ2 st2=>rw[e2]at h;exact h.elim
     |bad=>rw[e2]at h;exact h.elim
    ·cases f6 with
     |next=>
      obtain⟨σ6,H6,I6,q⟩:=q
      have I6':bt X pins σ6 H6 s6:=bt.out I.ok I6
      obtain⟨m,hn,hl⟩:=id I6'.loc
      exact gO hk hn hp fun h7 v hn7 hs7=>⟨_,H6,I6'.unbound hN hi hn hn7 hs7,q⟩
     |brk=>
      obtain⟨σ6,H6,I6,q⟩:=q
      have I6':bt X pins σ6 H6 s6:=bt.out I.ok I6
      obtain⟨m,hn,hl⟩:=id I6'.loc
      exact gO hk hn hp fun h7 v hn7 hs7=>⟨_,H6,I6'.unbound hN hi hn hn7 hs7,q⟩
     |cont=>
      obtain⟨σ6,H6,I6,q⟩:=q
      have I6':bt X pins σ6 H6 s6:=bt.out I.ok I6
      obtain⟨m,hn,hl⟩:=id I6'.loc
      exact gO hk hn hp fun h7 v hn7 hs7=>⟨_,H6,I6'.unbound hN hi hn hn7 hs7,q⟩
     |ret u=>
      obtain⟨v6,σ6,H6,I6,rr,q⟩:=q
      have I6':bt X pins σ6 H6 s6:=bt.out I.ok I6
      obtain⟨m,hn,hl⟩:=id I6'.loc
      exact gO hk hn hp fun h7 v hn7 hs7=>⟨v6,_,H6,I6'.unbound hN hi hn hn7 hs7,rr,q⟩
   ·exact h.elim
 ·cases f with
  |next=>
   obtain⟨σ',H',I',q⟩:=q
   exact ii ⟨σ',H',bt.tried I.ok I',q⟩
  |brk=>obtain⟨σ',H',I',q⟩:=q;exact⟨σ',H',bt.tried I.ok I',q⟩
  |cont=>obtain⟨σ',H',I',q⟩:=q;exact⟨σ',H',bt.tried I.ok I',q⟩
  |ret u=>obtain⟨v,σ',H',I',rr,q⟩:=q;exact⟨v,σ',H',bt.tried I.ok I',rr,q⟩⟩
section
variable{prog:Program}{w:World}{A:Around}{E:Value->Shared->Prop}{h:Heap}{g:Array GenState}{d:Drawn}{t:Nat}{os:OsState}{a:Addr}{o:Obj}
 {nm q:Str} {C N:Addr} {bs bm:List Value} {hdct:Bool} {sn:List Str} {sub:List Value} {ab:Bool} {col:Option Bool} {dd:Option Addr} {k0 k1 k2 k3 k5:Option Value} {nL:String} {K:Frag}
theorem L8{R:Result->Shared->Prop}(hC:h.get? C=some (excClassObj nm q C N bs bm hdct sn sub ab col dd k0 k1 k2 k3 k5 nL))(T:OwnTail h pZ bm)(hx:h.get? a=some o)(hc:o.cls=.ref C)(hq:R (.ok (.ret (.ref C))) ⟨h,g,d,t,os⟩) :
  codeAny (model prog w) A (.call (.builtin "getset_descriptor.__get__") ⟨[.builtin "object.__class__",.ref a,.ref C],[]⟩) R ⟨h,g,d,t,os⟩:=by
 have hT5:(⟨h,g,d,t,os⟩:Shared).TypeIs (.builtin "object.__class__") "getset_descriptor":=i8
 have hcB:(Value.ref C::bm).contains (.type (".".intercalate ("object.__class__".cutAt '.').dropLast))=true:=by
  rw[F.owner_object_class,kB,T.hasType (X:="object") (b:=true) (by decide)]
  rfl
 refine codeAny_call_builtin F.slot_gs_get.plain F.entry_gs_get (F.slot_gs_get.check _ _ _ _ _ _ _ _ hT5 (F.args_gs_get _ _ _) ?_)
 repeat(any_goals (first|assumption|(with_reducible refine eK hx ?_;rw[hc])|(with_reducible refine hJ hC ?_;rw[hcB])|wp_step))
 refine⟨Code.quiet_builtin _ (by decide +kernel),jE F.entry_object_class ?_⟩
 repeat(any_goals (first|assumption|(with_reducible refine eK hx ?_;rw[hc])|wp_step))
theorem wz{Q:Option Value->Shared->Prop}{x:Str}{r:Option Value}(X:K.In h)(f:findIn K (.ref C) x=some r)(hq:Q r ⟨h,g,d,t,os⟩):wpAny (model prog w) A (typeLookup (.ref C) x) Q E ⟨h,g,d,t,os⟩:=
 PySem.W.looks_findIn X f A Q E _ (fun _ _ z=>z) hq
theorem EE{tk:Tok}{Q:Fin->Shared->Prop}(X:K.In h)(f2:findIn K (.ref C) "__class__"=some (some (.builtin "object.__class__")))(hC:h.get? C=some (excClassObj nm q C N bs bm hdct sn sub ab col dd k0 k1 k2 k3 k5 nL))(T:OwnTail h pZ bm)(hx:h.get? a=some o)(hc:o.cls=.ref C)
  (hq:Q (.done (.ret (.ref C))) ⟨h,g,d,t,os⟩):wpAny (model prog w) A (Builtin.«object.__getattribute__» ⟨[.ref a,.str "__class__" tk],[]⟩) Q E ⟨h,g,d,t,os⟩:=by
 have hT5:(⟨h,g,d,t,os⟩:Shared).TypeIs (.builtin "object.__class__") "getset_descriptor":=i8
 have f5:=i8
 have f6:=F.slot_gs_get.lookup
 have f7:=F.slot_gs_set.lookup
 repeat(any_goals (first|assumption|(with_reducible refine eK hx ?_;rw[hc])|with_reducible refine wz X f2 ?_|wp_step))
 refine L8 hC T hx hc ?_
 repeat(any_goals (first|assumption|wp_step))
theorem EF{M:Model}{v:Value}{Q:Unit->Shared->Prop}(hC:h.get? C=some (excClassObj nm q C N bs bm hdct sn sub ab col dd k0 k1 k2 k3 k5 nL))(T:OwnTail h pZ bm)(hx:h.get? a=some o)(hc:o.cls=.ref C)(hq:Q () ⟨h,g,d,t,os⟩) :
  wpAny M A (checkBuiltinCall "BaseException.__getattribute__" ⟨[.ref a,v],[]⟩) Q E ⟨h,g,d,t,os⟩:=by
 have hcB:(Value.ref C::bm).contains (.type "BaseException")=true:=by
  rw[kB,T.hasType (X:="BaseException") (b:=true) (by decide)]
  rfl
 have ha:=F.args_bexc_ga (.ref a) v
 have kd:builtinKind "BaseException.__getattribute__"=some .slot:=by decide +kernel
 have sp:splitId "BaseException.__getattribute__"=some ("BaseException","__getattribute__"):=by decide +kernel
 simp only[checkBuiltinCall,kd,sp]
 refine ak ?_
 unfold isInstance
 repeat(first|(with_reducible refine eK hx ?_;rw[hc])|(with_reducible refine hJ hC ?_;rw[hcB])|wp_step)
 exact hq
theorem ID{tk:Tok}{R:Result->Shared->Prop}(X:K.In h)(f2:findIn K (.ref C) "__class__"=some (some (.builtin "object.__class__")))(hC:h.get? C=some (excClassObj nm q C N bs bm hdct sn sub ab col dd k0 k1 k2 k3 k5 nL))(T:OwnTail h pZ bm)(hx:h.get? a=some o)(hc:o.cls=.ref C)
  (hq:R (.ok (.ret (.ref C))) ⟨h,g,d,t,os⟩):codeAny (model prog w) A (.call (.builtin "BaseException.__getattribute__") ⟨[.ref a,.str "__class__" tk],[]⟩) R ⟨h,g,d,t,os⟩:=
 codeAny_call_builtin F.attrBase_ValueError.ga.plain F.entry_bexc_ga (EF hC T hx hc (EE X f2 hC T hx hc hq))
theorem Pc{tk:Tok}{Q:Value->Shared->Prop}(X:K.In h)(f1:findIn K (.ref C) "__getattribute__"=some (some (.builtin "BaseException.__getattribute__")))(f3:findIn K (.ref C) "__getattr__"=some none)(f2:findIn K (.ref C) "__class__"=some (some (.builtin "object.__class__")))
  (hC:h.get? C=some (excClassObj nm q C N bs bm hdct sn sub ab col dd k0 k1 k2 k3 k5 nL)) (T:OwnTail h pZ bm) (hx:h.get? a=some o) (hc:o.cls=.ref C) (hq:Q (.ref C) ⟨h,g,d,t,os⟩) :
  wpAny (model prog w) A (getAttrBy (.ref a) (.str "__class__" tk) false) Q E ⟨h,g,d,t,os⟩:=by
 have f4:=F.attrBase_ValueError.ga.bind (.ref a)
 have hx2:(Value.builtin "BaseException.__getattribute__" == Value.builtin "object.__getattribute__")=false:=by decide +kernel
 have hx1:(onTheHeap (Value.ref C)&&Value.builtin "BaseException.__getattribute__" == Value.builtin "object.__getattribute__")=false:=by rw[hx2];rfl
 repeat(any_goals (first|assumption|(with_reducible refine eK hx ?_;rw[hc])|with_reducible refine wz X f1 ?_|with_reducible refine wz X f3 ?_|wp_step))
 refine ID X f2 hC T hx hc ?_
 repeat(any_goals (first|assumption|wp_step))
theorem IE{Q:Option Value->Shared->Prop}(X:K.In h)(f1:findIn K (.ref C) "__getattribute__"=some (some (.builtin "BaseException.__getattribute__")))(f3:findIn K (.ref C) "__getattr__"=some none)(f2:findIn K (.ref C) "__class__"=some (some (.builtin "object.__class__")))
  (hC:h.get? C=some (excClassObj nm q C N bs bm hdct sn sub ab col dd k0 k1 k2 k3 k5 nL)) (T:OwnTail h pZ bm) (hx:h.get? a=some o) (hc:o.cls=.ref C) (hq:Q (some (.ref C)) ⟨h,g,d,t+1,os⟩) :
  wpAny (model prog w) A (getAttr? (.ref a) "__class__") Q E ⟨h,g,d,t,os⟩:=by
 unfold getAttr? getAttrBy?
 repeat(any_goals (first|assumption|with_reducible apply Pc X f1 f3 f2 hC T hx hc|wp_step))
end
structure EG(K:Frag)(C:Addr):Prop where
 ga:findIn K (.ref C) "__getattribute__"=some (some (.builtin "BaseException.__getattribute__"))
 gt:findIn K (.ref C) "__getattr__"=some none
 cl:findIn K (.ref C) "__class__"=some (some (.builtin "object.__class__"))
theorem yq{K:Frag}{x C:Addr}(q:excIn K C pZ rP=true)(n:EG K C):PySem.W.KitX K (.ref x) (.ref C) (fun h=>∃o,h.get? x=some o/\o.cls=.ref C) where
 ty:=fun M h X ⟨o,h1,h2⟩ A Q E s k z=>by
  unfold typeOf
  refine ak (wpAny_loadPart (k _ _ h1) ?_)
  rw[h2]
  exact aJ z
 it:=fun M h X _ A Q E s k z=>by
  obtain⟨bm,N,nm,qn,bs,hdct,sn,sub,ab,col,dd,k0,k1,k2,k3,k5,mN,g1,_⟩:=n6 X q
  unfold isType loadHead
  exact ak (wpAny_loadPart (k _ _ g1) (aJ z))
 ne:=fun h tp dd bJ m sl X htp=>by
  obtain⟨bm,N,nm,qn,bs,hdct,sn,sub,ab,col,Cf,k0,k1,k2,k3,k5,mN,g1,_⟩:=n6 X q
  refine Bool.eq_false_iff.mpr fun z=>?_
  have e:C=tp:=Value.ref.inj (cz.mp z)
  subst e
  rw[g1]at htp
  have z2:(Value.type "type")=.type "tuple":=fM Obj.cls (aZ htp)
  exact absurd z2 (by decide)
 ca:=fun{prog w A E Q s} X p z=>by
  obtain⟨o,h1,h2⟩:=p
  obtain⟨bm,N,nm,qn,bs,hdct,sn,sub,ab,col,dd,k0,k1,k2,k3,k5,mN,g1,g2,g3,g4,g5⟩:=n6 X q
  obtain⟨h,g,d,t,os⟩:=s
  exact IE X n.ga n.gt n.cl g1 g4 h1 h2 z
structure EH(K:Frag)(mg:Str->Option Value)(T:Value)(f:Str->Option Bool):Prop where
 h:∀c b,f c=some b->∃C,mg c=some (.ref C)/\excIn K C pZ rP=true/\EG K C/\kitOne K (.ref C) T=some b
theorem vz{X:Cx}{T:V}{Tv:Value}(hT:∀u,cb T u->u=Tv){f:Str->Option Bool}(hI:EH X.K X.mg Tv f) :
  gZ X (.builtin "isinstance") (fun xs H Q=>∃x μ st n c b,xs=[x,T]/\gT X.K X.mg μ st H/\bF X.K μ H (.loc n) x/\st[n]?=some (.exc c)/\f c=some b/\Q (.bl b) H):=by
 intro pins s σ H xs us Q I r h
 obtain⟨x,μ,st,n,c,b,rfl,S,rx,hn,hf,q⟩:=h
 obtain⟨u,u2,rfl,r1,r2⟩:=cV.two r
 obtain rfl:=hT u2 r2
 obtain⟨C,hm,hq,uD,hk⟩:=hI.h c b hf
 obtain⟨a,ha,C',hm',hH⟩:=S.get hn
 obtain⟨a',ha',rfl⟩:=rx.locE
 rw[ha]at ha';cases ha'
 rw[hm]at hm';cases hm'
 cases(show u=Value.ref a from r1)
 obtain⟨⟨o,vs,h1,h2,h3⟩,_⟩:=I.hok a _ hH
 exact kia_one (yq hq uD) I.kIn ⟨o,h1,h2⟩ hk (fun z=>nomatch z) fun tk=>⟨.bl _,H,I.tok tk,rfl,q⟩
def wA(f:Str->Option Bool)(fa:FE):FE:=fun ρ st=>(fa ρ st).bind fun x st=>match x with
 |.loc n=>(match st[n]? with
  |some (.exc c)=>(match f c with
   |some b=>.ok (.bl b) st
   |none=>.bad)
  |_=>.bad)
 |_=>.bad
section
variable{X:Cx}{a:Expr}{pos p p2:Pos}{fa:FE}
theorem EI{T:V}{f:Str->Option Bool}{t:TE}{e:Expr}(h:PE X e t)(hi:∀σ H Q,(tE X fa) σ H (fun x H1=>∃x' μ st n c b,([x,T]:List V)=[x',T]/\gT X.K X.mg μ st H1/\bF X.K μ H1 (.loc n) x'/\st[n]?=some (.exc c)/\f c=some b/\Q (.bl b) H1)->t σ H Q):SE X e (wA f fa):=⟨h.imp fun σ H Q z=>by
 refine hi σ H Q ?_
 obtain⟨μ,ρ,st,l,z⟩:=z
 refine⟨μ,ρ,st,l,RK.bind z l fun μ1 st1 x v H1 p1 x1 l1 q1 h1=>?_⟩
 split at h1
 ·rename_i n
  split at h1
  ·rename_i c e1
   split at h1
   ·rename_i b e2
    exact⟨v,μ1,st1,n,c,b,rfl,l1.sto,q1,e1,e2,h1 μ1 _ H1 (al _) eD.refl l1.sto .bl⟩
   ·exact h1.elim
  ·exact h1.elim
 ·exact h1.elim⟩
theorem Pd{xT:Str}{Ta:Addr}{f:Str->Option Bool}(hm:X.mg "isinstance"=none)(hT:X.mg xT=some (.ref Ta))(hI:EH X.K X.mg (.ref Ta) f)(ha:SE X a fa)(hg:Gl X "isinstance":=by rfl)(Ql:Gl X xT:=by rfl)(hd:(xT==("__debug__":Str))=false:=by decide)
  (he:starEach [a,.Name xT p2] X.env=(false,eval a X.env)::starEach [.Name xT p2] X.env:=by rfl) (JG:starEach [.Name xT p2] X.env=(false,eval (.Name xT p2) X.env)::starEach [] X.env:=by rfl) (qo:(backTo pos (starEach [.Name xT p2] X.env)).any (·.1)=false:=by rfl) :
  SE X (.Call (.Name "isinstance" p) [a,.Name xT p2] [] pos) (wA f fa):=
 EI (T:=.ref Ta) (m9 (vz (T:=.ref Ta) (Tv:=.ref Ta) (fun _ r=>r) hI) hg hm im (iC ha.h (iC (v7 Ql hT (v:=.ref Ta) rfl hd) ph JG) he) (by decide) (by decide) he qo) fun _ _ _ z=>z
theorem Pe{xT:Str}{T:String}{f:Str->Option Bool}(hm:X.mg "isinstance"=none)(hT:X.mg xT=none)(hv:bootBuiltins xT=some (.type T))(hI:EH X.K X.mg (.type T) f)(ha:SE X a fa)(hg:Gl X "isinstance":=by rfl)(Ql:Gl X xT:=by rfl)(hn:xT ≠ "__name__":=by decide)(hd:(xT==("__debug__":Str))=false:=by decide)
  (he:starEach [a,.Name xT p2] X.env=(false,eval a X.env)::starEach [.Name xT p2] X.env:=by rfl) (JG:starEach [.Name xT p2] X.env=(false,eval (.Name xT p2) X.env)::starEach [] X.env:=by rfl) (qo:(backTo pos (starEach [.Name xT p2] X.env)).any (·.1)=false:=by rfl) :
  SE X (.Call (.Name "isinstance" p) [a,.Name xT p2] [] pos) (wA f fa):=
 EI (T:=.ty T) (m9 (vz (T:=.ty T) (Tv:=.type T) (fun _ r=>r) hI) hg hm im (iC ha.h (iC (Bf Ql hT hv (v:=.ty T) rfl hn hd) ph JG) he) (by decide) (by decide) he qo) fun _ _ _ z=>z
end
inductive Pf(X:Cx):List Expr->List Addr->Prop
 |nil:Pf X [] []
 |cons {x:Str} {p:Pos} {C:Addr} {es:List Expr} {cs:List Addr}:X.mg x=some (.ref C)->Gl X x->(x==("__debug__":Str))=false->Pf X es cs->Pf X (.Name x p::es) (C::cs)
def Sx(vs:List V):TA:=fun _ H Q=>Q vs H
theorem L9{X:Cx}{es:List Expr}{cs:List Addr}(h:Pf X es cs):PA X es (Sx (cs.map V.ref)):=by
 induction h with
 |nil=>exact ph
 |cons hm hg hd _ ih=>exact(iC (v7 hg hm (v:=.ref _) rfl hd) ih rfl).imp fun _ _ _ z=>z
structure EJ(K:Frag)(mg:Str->Option Value)(Cs:List Addr)(f:Str->Option Bool):Prop where
 h:∀c b,f c=some b->∃C,mg c=some (.ref C)/\excIn K C pZ rP=true/\EG K C/\PySem.W.kitAny K (.ref C) (Cs.map Value.ref)=some b
theorem vA:∀{Cs:List Addr} {us:List Value},cV (Cs.map V.ref) us->us=Cs.map Value.ref
 |[],us,r=>by cases r;rfl
 |C::Cs,us,r=>by
  cases r with
  |cons a t=>rw[vA t,show _=Value.ref C from a];rfl
theorem C3{X:Cx}{Cs:List Addr}{f:Str->Option Bool}(hI:EJ X.K X.mg Cs f) :
  gZ X (.builtin "isinstance") (fun xs H Q=>∃x tp μ st n c b,xs=[x,.ref tp]/\gT X.K X.mg μ st H/\bF X.K μ H (.loc n) x/\st[n]?=some (.exc c)/\f c=some b/\fS X.K H tp (Cs.map V.ref)/\Q (.bl b) H):=by
 intro pins s σ H xs us Q I r h
 obtain⟨x,tp,μ,st,n,c,b,rfl,S,rx,hn,hf,hS,q⟩:=h
 obtain⟨u,u2,rfl,r1,r2⟩:=cV.two r
 cases(show u2=Value.ref tp from r2)
 obtain⟨C,hm,hq,uD,hk⟩:=hI.h c b hf
 obtain⟨a,ha,C',hm',hH⟩:=S.get hn
 obtain⟨a',ha',rfl⟩:=rx.locE
 rw[ha]at ha';cases ha'
 rw[hm]at hm';cases hm'
 cases(show u=Value.ref a from r1)
 obtain⟨⟨o,vs,h1,h2,h3⟩,_⟩:=I.hok a _ hH
 obtain⟨bJ,rt,⟨ot,e2,hc,n2,hd⟩,z2⟩:=I.tuple hS
 have hits:=vA rt
 subst hits
 obtain⟨cls,dd,data,sl⟩:=ot
 dsimp only at hc hd
 subst hc hd
 exact PySem.W.kia_tup (yq hq uD) I.kIn ⟨o,h1,h2⟩ e2 hk (fun z=>nomatch z) fun tk=>⟨.bl _,H,I.tok tk,rfl,q⟩
section
variable{X:Cx}{a:Expr}{pos p p2:Pos}{fa:FE}{es:List Expr}{k:Nat}
theorem L_{Cs:List Addr}{f:Str->Option Bool}(hm:X.mg "isinstance"=none)(hT:Pf X es Cs)(hI:EJ X.K X.mg Cs f)(hz:Cs.length<=sizeLine)(ha:SE X a fa)(hg:Gl X "isinstance":=by rfl)
  (he:starEach [a,.Tuple es k p2] X.env=(false,eval a X.env)::starEach [.Tuple es k p2] X.env:=by rfl) (JG:starEach [.Tuple es k p2] X.env=(false,eval (.Tuple es k p2) X.env)::starEach [] X.env:=by rfl) (qo:(backTo pos (starEach [.Tuple es k p2] X.env)).any (·.1)=false:=by rfl) :
  SE X (.Call (.Name "isinstance" p) [a,.Tuple es k p2] [] pos) (wA f fa):=⟨(m9 (C3 hI) hg hm im (iC ha.h (iC (Bs (L9 hT)) ph JG) he) (by decide) (by decide) he qo).imp fun σ H Q h=>by
 obtain⟨μ,ρ,st,l,h⟩:=h
 refine⟨μ,ρ,st,l,RK.bind h l fun μ1 st1 x v H1 p1 x1 l1 q1 h1=>?_⟩
 split at h1
 ·rename_i n
  split at h1
  ·rename_i c e1
   split at h1
   ·rename_i b e2
    refine⟨by rw[az];exact hz,fun tp H2 hp e=>?_⟩
    subst e
    have xx:eD X.K H1 (eS H1 tp (.tup (Cs.map V.ref))):=fS.same (cN hp _)
    exact⟨v,tp,μ1,st1,n,c,b,rfl,l1.sto.same (cN hp _),q1.mono (al _) xx,e1,e2,fS.new,h1 μ1 _ _ (al _) xx (l1.sto.same (cN hp _)) .bl⟩
   ·exact h1.elim
  ·exact h1.elim
 ·exact h1.elim⟩
end
section
variable{X:Cx}
end
section
variable{X:Cx}
theorem tS{α:Type}(l:List α):∀(k:Nat) (acc:List α),List.foldl (fun x1 x2=>x1++x2) acc.toArray (List.replicate k l.toArray)=(acc++(List.replicate k l).flatten).toArray
 |0,acc=>by simp
 |k+1,acc=>by
  have e:acc.toArray++l.toArray=(acc++l).toArray:=by simp
  rw[List.replicate_succ,List.foldl_cons,e,tS l k (acc++l),List.replicate_succ,List.flatten_cons,aY]
theorem L'(l:List Nat)(n:Int):Txt.mul (tx l) n=tx (List.replicate n.toNat l).flatten:=by
 unfold Txt.mul
 by_cases h:n<1
 ·rw[aB h,show n.toNat=0 by omega];rfl
 ·rw[aE h]
  split
  ·rename_i hc
   rw[ik,cz,cz,ip]at hc
   rcases hc with rfl|hc
   ·simp
   ·have:l=[]:=lA.mp hc
    subst this
    simp
  ·have:=tS l n.toNat []
   rw[List.nil_append]at this
   show Str.mk _=Str.mk _
   congr 1
theorem IF:lD X (binaryOp .Mult) (fun x y H Q=>∃(l:List Nat) (k:Int),x=.str (tx l)/\y=.int k/\-(2^62)<=k/\k<2^62/\l.length*k.toNat<=1000000/\Q (.str (tx (List.replicate k.toNat l).flatten)) H):=by
 intro pins s σ H x y v u Q I rx ry h
 obtain⟨l,k,rfl,rfl,h1,h2,h3,q⟩:=h
 obtain⟨t,rfl⟩:=rx
 obtain⟨t',rfl⟩:=ry
 refine SB.mul ⟨?_,?_,?_⟩ fun t2 tk=>⟨.str _,H,I.tok _,⟨t2,?_⟩,q⟩
 ·simp;omega
 ·intro hk hx
  rw[ip]
  intro hg
  have hk1:1<=k:=by omega
  have:k*((2^63-1)/k)<=2^63-1:=Int.mul_ediv_self_le (by omega)
  have h4:(2^63-1)<k*(l.length:Int):=by
   have:=Int.lt_mul_of_ediv_lt (a:=2^63-1) (b:=(l.length:Int)) (c:=k) (by omega) hg
   rw[qD];exact this
  have h5:k*(l.length:Int)=((l.length*k.toNat:Nat):Int):=by
   rw[jF,jK (by omega),qD]
  rw[h5]at h4
  omega
 ·intro hk hx
  rw[ip]
  unfold Builtin.Str.tooLong
  rw[aU]
  have:(1000000:Nat)<=sizeLine:=by decide
  omega
 ·rw[L']
def g6:W->W->List am->R W
 |.int i,.int j,st=>if wj i j then .ok (.int (i*j)) st else .bad
 |.str l,.int k,st=>if -(2^62)<=k/\k<2^62/\l.length*k.toNat<=kJ then .ok (.str (List.replicate k.toNat l).flatten) st else .bad
 |_,_,_=>.bad
theorem iu:qG X (binaryOp .Mult) g6:=⟨fun pins s σ H x y v u Q I rv ru ⟨μ,st,wx,wy,S,rx,ry,q⟩=>by
 cases wx with
 |int i=>
  cases wy with
  |int j=>
   have q':DD X μ H Q (OX (.int i) (.int j) st):=q
   exact OZ.h pins s σ H x y v u Q I rv ru ⟨μ,st,.int i,.int j,S,rx,ry,q'⟩
  |_=>exact q.elim
 |str l=>
  cases wy with
  |int k=>
   simp only[g6]at q
   split at q
   ·rename_i cc
    exact IF pins s σ H x y v u Q I rv ru ⟨l,k,rx.strE,ry.intE,cc.1,cc.2.1,cc.2.2,pW S q⟩
   ·exact q.elim
  |_=>exact q.elim
 |_=>cases wy<;>exact q.elim,fun x y st=>by
 unfold g6
 repeat' split
 all_goals trivial⟩
end
section
variable{X:Cx}
variable{e:Expr}{es:List Expr}{pos p:Pos}{x:Str}{fs:FA}
end
section
variable{prog:Program}{w:World}{A:Around}{E:Value->Shared->Prop}{s:Shared}
theorem tU:∀(l:List Nat) (vs:List Value),vs.length=l.length->(∀(j:Nat) (v:Value),vs[j]?=some v->∃c u,l[j]?=some c/\v=.str (tx [c]) u)->StrsAre vs (l.map fun c=>tx [c])
 |[],[],_,_=>.nil
 |c::l,v::vs,hl,h=>by
  obtain⟨d,u,e,rfl⟩:=h 0 v rfl
  cases e
  exact .cons _ _ (tU l vs (Nat.succ.inj hl) fun j v hj=>h (j+1) v hj)
 |[],_::_,hl,_=>nomatch hl
 |_::_,[],hl,_=>nomatch hl
theorem yr{l:List Nat}{t:Tok}{Q:Value->Shared->Prop}(few:l.length<64)(hh:A.handled=none)
  (q:∀(s1:Shared) (g1:Heap) (out:Array Value) (ss:List Str) (e:Nat),(∀b o,s.heap.get? b=some o->s1.heap.get? b=some o)->s1.gens=s.gens->s1.drawn=s.drawn->s1.os=s.os->(∀b o,s1.heap.get? b=some o->g1.get? b=some o)->g1.get? s1.heap.objs.size=some (seqObj "list" out e) ->
   StrsAre out.toList ss->ss.Perm (l.map fun c=>tx [c])->sortedS ss=true->Q (.ref s1.heap.objs.size) { s1 with heap:=g1 }):wpAny (model prog w) A (call (.builtin "sorted") [.str (tx l) t]) Q E s:=by
 have hn:(tx l).cps.size=l.length:=by simp[tx]
 apply Calls.call_function_entry kind_sorted plain_sorted entry_sorted (args_sorted1 _)
 show wpAny _ _ (checkCount "sorted" 1 1 _ >>= _) _ _ _
 refine ak (aJ (ak (wpAny_collect_str (by simpa using hh) _ _ (fun s1 acc kp eg ed eo ha=>?_) (by rw[kO];omega))))
 have nM:StrsAre acc.toList (l.map fun c=>tx [c]):=by
  refine tU l _ (by rw[fW,ha.1,hn]) fun j v hj=>?_
  obtain⟨c,u,hc,e⟩:=ha.2 j v (by simpa using hj)
  exact⟨c,u,by simpa[tx]using hc,e⟩
 have hvl:acc.toList.length<64:=by rw[fW,ha.1,hn];exact few
 refine ak (wpAny_newList ?_ (by rw[kO];omega))
 have oL:(s1.heap.push (seqObj "list" acc.toList.toArray 0)).get? s1.heap.objs.size=some (seqObj "list" acc.toList.toArray 0):=aR _ rfl
 refine ak (eA (dJ slot_list_sort ⟨_,oL,rfl⟩ entry_list_sort (list_sort_treeK strKind_oneLt oL nM.keysOf (fun a b r e=>keyKind_strs (by rw[<- e];exact nM)) hvl fun st a1 a2=>⟨_,rfl,?_⟩) (args_list_sort _)))
 obtain⟨ss,h1,h2,h3⟩:=sorted_out_str nM a1 a2
 obtain⟨e,he⟩:=sortedHeap_at (out:=(arrOf st).map (·.2)) oL
 refine aJ ⟨_,rfl,q s1 _ _ ss e kp eg ed eo (fun b o hb=>?_) he h1 h2 h3⟩
 rw[sortedHeap_old (be (aI hb)) (by rw[iR];exact fO (aI hb))]
 exact ar _ hb
end
section
variable{X:Cx}
def qO(ws:List W)(st:List am):R W:=match ws with
 |[.str l]=>if l.length<64 then .ok (.loc st.length) (st++[.lst ((lj (l.map fun c=>[c])).map W.str)])else .bad
 |[.loc n]=>n5 [.loc n] st
 |_=>.bad
theorem IG(hc:X.calm=true:=by rfl):nn X (.builtin "sorted") qO:=⟨fun pins s σ H vs us Q I rv ⟨μ,st,ws,S,r,q⟩=>by
 unfold qO at q
 split at q
 ·rename_i l
  split at q
  ·rename_i c
   obtain⟨y,rfl,ry⟩:=r.one
   have:=ry.strE;subst this
   obtain⟨u,rfl,ru⟩:=mC rv
   obtain⟨t,rfl⟩:=ru
   refine yr c (I.ok.hd hc) fun s1 g1 out ss e kp eg ed eo k1 gL nM hp hsr=>?_
   have es:s1={ s with heap:=s1.heap,toks:=s1.toks }:=by cases s1;cases s;cases eg;cases ed;cases eo;rfl
   generalize s1.heap=g0,s1.toks=tk at es kp k1 gL ⊢
   subst es
   have I2:bt X pins σ H { s with heap:=g0,toks:=tk }:=I.kept2 (d':=s.drawn) fun b o e=>kp b o e
   have xL:H g0.objs.size=none:=I2.hok.fresh (ay _)
   have hmap:(ss.map fun z=>z.cps.toList).map tx=ss:=by
    rw[bx]
    have:(tx∘fun z:Str=>z.cps.toList)=id:=funext fun z=>Bv z
    rw[this,List.map_id]
   have hperm:(ss.map fun z=>z.cps.toList).Perm (l.map fun c=>[c]):=by
    have e:=hp.map fun z:Str=>z.cps.toList
    rw[bx]at e
    exact e
   have ez:(ss.map fun z=>z.cps.toList)=lj (l.map fun c=>[c]):=ww (tP (by rw[hmap];exact hsr)) (yn _) (hperm.trans (j7 _).symm)
   have hvals:cV ((lj (l.map fun c=>[c])).map fun l=>V.str (tx l)) out.toList:=by
    have e:=pq nM
    rw[<- hmap,ez,bx]at e
    exact e
   refine⟨.ref g0.objs.size,_,I2.laid (o:=.lst ((lj (l.map fun c=>[c])).map fun l=>V.str (tx l))) (t':=tk) k1 (ay _) ⟨?_,out.toList,e,hvals,gL⟩,rfl,?_⟩
   ·rw[az,(j7 _).length_eq,az]
    exact a7 (gX c) (by decide)
   ·exact q (μ++[g0.objs.size]) _ _ (aC _ _) (fS.same (cN xL _)) (S.newLst xL (yo _)) (ni S)
  ·exact q.elim
 ·exact yp.h pins s σ H _ us Q I rv ⟨μ,st,_,S,r,q⟩
 ·exact q.elim,fun ws st=>by
 unfold qO
 split
 ·split<;>trivial
 ·exact(yp (X:=X)).n _ _
 ·trivial⟩
end
def oQ(a b k:Int):Nat:=if a<b then((b-a-1)/k+1).toNat else 0
theorem vB{a b k:Int}(hk:0<k):Builtin.Range.rangeSize a b k=(oQ a b k:Int):=by
 unfold Builtin.Range.rangeSize oQ
 rw[aB hk]
 split
 ·have:=Int.ediv_nonneg (a:=b-a-1) (b:=k) (by omega) (by omega)
  omega
 ·rfl
theorem IH{a b k:Int}(hk:0<k)(h:a<b):(b-a-1)/k<=b-a-1:=Int.ediv_le_self _ (by omega)
theorem lP{a b k:Int}(h1:-(2^60)<=a)(h2:a<2^60)(h3:-(2^60)<=b)(h4:b<2^60)(hk:0<k)(DB:k<=1000):Builtin.Range.small a b k=true:=by
 unfold Builtin.Range.small
 rw[vB hk]
 simp only[Builtin.Range.rangeFitsLong,cq,ik,decide_eq_true_eq,cz,aB hk]
 unfold oQ
 split
 ·have:=IH hk (by assumption)
  have:=Int.ediv_nonneg (a:=b-a-1) (b:=k) (by omega) (by omega)
  have:=Int.ediv_mul_le (a:=b-a-1) (b:=k) (by omega)
  omega
 ·omega
def vC(i k:Int)(n:Nat):List V:=(List.range n).map fun m:Nat=>V.int (i+m*k)
def Pg(ta:TA):TI:=fun σ H R=>ta σ H fun vs H1=>∃i j k:Int,vs=[.int i,.int j,.int k]/\(-(2^60)<=i/\i<2^60/\-(2^60)<=j/\j<2^60/\0<k/\k<=1000)/\R (OF (vC i k (oQ i j k))) H1
theorem wB{X:Cx}{tg a b c:Expr}{ta:TA}{p pos:Pos}(hm:X.mg "range"=none)(ha:QA X [a,b,c] ta)(hg:Gl X "range":=by rfl)(hs:starEach [a,b,c] X.env=(false,eval a X.env)::starEach [b,c] X.env:=by rfl)
  (xP:(backTo pos (starEach [b,c] X.env)).any (·.1)=false:=by rfl):QI X tg (.Call (.Name "range" p) [a,b,c] [] pos) (Pg ta):=⟨by
 intro pins s σ H R I h
 refine Call_ (lE I hg hm boot_range (cW (gs (ha.h pos pins s σ H _ I h) fun us s1 ⟨vs,H1,I1,r1,q1⟩=>?_) hs xP))
 obtain⟨i,j,k,e,⟨b1,b2,b3,b4,b5,b6⟩,q⟩:=q1
 subst e
 cases r1 with
 |cons x1 r1=>cases r1 with
  |cons x2 r1=>cases r1 with
   |cons x3 r1=>
    cases r1
    obtain⟨t1,rfl⟩:=x1
    obtain⟨t2,rfl⟩:=x2
    obtain⟨t3,rfl⟩:=x3
    refine call_range_3 (by omega) ?_ (Or.inl (me (by omega)))
    refine wpAny_pyIter_range (IsRange.new ..) (lP b1 b2 b3 b4 b5 b6) ?_
    generalize hN:oQ i j k=n at q
    have hl:(vC i k n).length=n:=by unfold vC;simp
    have I2:bt X pins σ H1 { s1 with heap:=s1.heap.push { cls:=.type "range",data:=.fields #[.int i t1,.int j t2,.int k t3] },toks:=s1.toks }:=I1.kept fun b o e=>ar _ e
    refine⟨(s1.heap.push { cls:=.type "range",data:=.fields #[.int i t1,.int j t2,.int k t3] }).objs.size,[(s1.heap.push { cls:=.type "range",data:=.fields #[.int i t1,.int j t2,.int k t3] }).objs.size],_,_,H1,rfl,
     I2.kept (t':=s1.toks) fun b o e=>ar _ e,pi (ty:="range_iterator") (fun A hA=>by rw[hl];exact Walks.range hA _ i k n) (fun m v hk hp=>?_) (fun k h st=>⟨_,_,st,rfl,rfl⟩) (by decide) (fun A k s Q E st h=>md st h),⟨b_ _,?_⟩,fun b hb=>?_,q⟩
    ·obtain⟨t,rfl⟩:=hp
     rw[hl]at hk
     refine⟨.int (i+m*k),?_,t,rfl⟩
     unfold vC
     rw[ax,bq hk]
     rfl
    ·have e1:i+((0:Nat):Int)*k=i:=by simp
     have e2:((n:Nat):Int)-((0:Nat):Int)=Builtin.Range.rangeSize i j k:=by rw[vB b5,hN];simp
     rw[e1,e2]
     exact aR _ rfl
    ·have e:b=(s1.heap.push { cls:=.type "range",data:=.fields #[.int i t1,.int j t2,.int k t3] }).objs.size:=by simpa using hb
     subst e
     exact I2.fpOk (ay _) (I2.hok.fresh (ay _))⟩
section
variable{X:Cx}{a b c tg:Expr}{fs:FA}{p pos:Pos}
def rQ(i k:Int)(n:Nat):List W:=(List.range n).map fun m:Nat=>W.int (i+m*k)
theorem EK(i k:Int)(n:Nat)(μ:List Addr)(H:Hp):RelWs X.K μ H (rQ i k n) (vC i k n):=by
 unfold rQ vC
 induction (List.range n)with
 |nil=>exact .nilI
 |cons a r ih=>exact .consI .int ih
def wC(fs:FA):FI:=fun ρ st=>(fs ρ st).bind fun ws st=>match ws with
 |[.int i,.int j,.int k]=>if -(2^60)<=i/\i<2^60/\-(2^60)<=j/\j<2^60/\0<k/\k<=1000 then .ok (rQ i k (oQ i j k),none) st else .bad
 |_=>.bad
theorem II(hm:X.mg "range"=none)(ha:SA X [a,b,c] fs)(hg:Gl X "range":=by rfl)(hs:starEach [a,b,c] X.env=(false,eval a X.env)::starEach [b,c] X.env:=by rfl)(qo:(backTo pos (starEach [b,c] X.env)).any (·.1)=false:=by rfl) :
  SI X tg (.Call (.Name "range" p) [a,b,c] [] pos) (wC fs):=⟨(wB hm ⟨ha.h⟩ hg hs qo).h.imp fun σ H R h=>by
 obtain⟨μ,ρ,st,l,h⟩:=h
 refine⟨μ,ρ,st,l,RK.bind h l fun μ1 st1 x v H1 p1 x1 l1 q1 h1=>?_⟩
 split at h1
 ·rename_i i j k
  obtain⟨y,ys,rfl,ry,r1⟩:=q1.consE
  obtain⟨z,zs,rfl,rz,r2⟩:=r1.consE
  obtain⟨w,rfl,m5⟩:=r2.one
  split at h1
  ·rename_i cc
   exact⟨_,_,_,by rw[ry.intE,rz.intE,m5.intE],cc,h1 μ1 _ H1 (al _) eD.refl l1.sto (qM (EK _ _ _))⟩
  ·exact h1.elim
 ·exact h1.elim⟩
end
theorem IJ{X:Cx}{oG tg iter:Expr}{m6:List Expr}{scope:Scope}{pos:Pos}{nm:List Str}{cap:List (Option Nat)}{wi:TI}{g:TG}{tc:TT}{te:TE}(ia:X.calm=true)
  (h_:scope.kind=.function) (hB:wf X.env.scope.names scope.names nm cap X.N=true)
  (hi:QI X tg iter wi) (hg:∀cl C s0 H0 fp,QG (bP X nm scope cl C s0 H0 fp) tg g) (ht:∀cl C s0 H0 fp,QP (bP X nm scope cl C s0 H0 fp) m6 tc)
  (he:∀cl C s0 H0 fp,QE (bP X nm scope cl C s0 H0 fp) oG te) (hs:∀x,foldedSetIterable iter X.env x=pure x:=by intro _;rfl) :
  QE X (.ListComp oG [⟨tg,iter,m6,0⟩] scope pos) (vn cap wi g tc te):=by
 simp only[wf,cq,lw,ik,gD,cz,aS]at hB
 obtain⟨⟨⟨⟨b1,b2⟩,b3⟩,b4⟩,b5⟩:=hB
 refine⟨fun pins s σ H Q I h=>?_⟩
 have has:∀x∈scope.names,x.2=.free->∃c,X.env.cells.lookup x.1=some c:=fun x hx hk=>by
  rcases b3 x hx with z|z
  ·exact absurd hk z
  ·exact I.ok.has x.1 (.inl z)
 have oW:∀x c,(gu X.env scope.names []).lookup x=some c->X.env.cells.lookup x=some c:=fun x c h=>nZ scope.names [] has (by simp) (x,c) (dD h)
 have hin:∀x,(x,NameKind.free)∈scope.names->∃c,(gu X.env scope.names []).lookup x=some c:=fun x h=>let ⟨_,q⟩:=lG (env:=X.env) scope.names [] x h;lH q
 have hmap:(relabel scope X.env).names=scope.names.map fun y=>if (y.2==.free&&X.env.scope.kind==.function&&X.env.kindOf y.1==some .cell)then(y.1,NameKind.cell)else y:=by
  show scope.names.map _=_
  refine ce fun y _=>?_
  obtain⟨a,b⟩:=y
  rfl
 have fr:∀x,((relabel scope X.env).names.lookup x=some .cell\/(relabel scope X.env).names.lookup x=some .free)->(x,NameKind.free)∈scope.names:=fun x h=>by
  have h':∃k,(x,k)∈(relabel scope X.env).names/\(k=.cell\/k=.free):=by
   rcases h with h|h
   ·exact⟨_,dD h,.inl rfl⟩
   ·exact⟨_,dD h,.inr rfl⟩
  obtain⟨k,hm,hk⟩:=h'
  rw[hmap]at hm
  obtain⟨y,hy,e⟩:=aL.mp hm
  obtain⟨a,b⟩:=y
  by_cases hb:b=.free
  ·subst hb
   have:a=x:=by split at e<;>(cases e;rfl)
   subst this;exact hy
  ·rw[aE (by simp[hb])]at e
   cases e
   rcases hk with rfl|rfl
   ·exact absurd rfl (b2 _ hy)
   ·exact absurd rfl hb
 refine Bq (cl:=gu X.env scope.names []) (cap:=cap) (nm:=nm) ia (Bu has) oW h_ (fun x hx hk=>(b1 x hx).resolve_left fun z=>z hk) (fun y hy=>b2 y hy) (fun x hx=>hin x (fr x hx)) (fun i j e=>?_) b4 hi.h (fun C s0 H0 fp=>(hg _ C s0 H0 fp).h) (fun C s0 H0 fp=>(ht _ C s0 H0 fp).h) (fun C s0 H0 fp=>(he _ C s0 H0 fp).h) hs pins s σ H Q I h
 have hi':i<cap.length:=(aa.mp e).1
 have q:=b5 i (bi.mpr hi')
 rw[e]at q
 dsimp only at q
 cases hx:nm[i]? with
 |none=>rw[hx]at q;simp at q
 |some x=>
  cases hy:X.N[j]? with
  |none=>rw[hx,hy]at q;simp at q
  |some y=>
   rw[hx,hy]at q
   simp only[cq,cz]at q
   obtain⟨⟨rfl,q1⟩,q2⟩:=q
   refine⟨x,rfl,rfl,.inr (.inl q1),(by rw[q1];decide),?_,?_⟩
   ·obtain⟨c,hc⟩:=hin x (dD q2)
    rw[hc,oW _ _ hc]
   ·rw[hmap];exact kI (env:=X.env) q2
section
variable{X:Cx}{oG tg iter:Expr}{m6:List Expr}{scope:Scope}{pos:Pos}{nm:List Str}{cap:List (Option Nat)}{fi:FI}{f:FG}{t:FT}{el:FE}
theorem BF(hB:wf X.env.scope.names scope.names nm cap X.N=true)(hi:SI X tg iter fi)(hg:∀cl C s0 H0 fp,SG (bP X nm scope cl C s0 H0 fp) tg f)(ht:∀cl C s0 H0 fp,NN (bP X nm scope cl C s0 H0 fp) m6 t)
  (he:∀cl C s0 H0 fp,SE (bP X nm scope cl C s0 H0 fp) oG el) (ia:X.calm=true:=by rfl) (h_:scope.kind=.function:=by rfl) (hs:∀x,foldedSetIterable iter X.env x=pure x:=by intro _;rfl) :
  SE X (.ListComp oG [⟨tg,iter,m6,0⟩] scope pos) (dR cap fi f t el):=
 ⟨(IJ ia h_ hB ⟨hi.h⟩ (fun cl C s0 H0 fp=>RJ (X:=X) rfl rfl (hg cl C s0 H0 fp)) (fun cl C s0 H0 fp=>RI (X:=X) rfl rfl (ht cl C s0 H0 fp)) (fun cl C s0 H0 fp=>RH (X:=X) rfl rfl (he cl C s0 H0 fp)) hs).h.imp fun _ _ _ h=>Am h⟩
end
section
variable{prog:Program}{w:World}{A:Around}{E:Value->Shared->Prop}{s:Shared}
variable{z P O i j a b:Addr}{n m:Nat}{xs ys:Array Value}{x y u v:Value}
end
open AutoSeq1 (wpAny_loadPart')
section
variable{prog:Program}{w:World}{A:Around}{E:Value->Shared->Prop}{s:Shared}
end
section
variable{X:Cx}{a b:Expr}{fs:FA}{p pos:Pos}
end
open Builtin.Str (tooLong)
section
variable{prog:Program}{w:World}{A:Around}{E:Value->Shared->Prop}{s:Shared}
end
section
variable{X:Cx}
end
section
variable{X:Cx}
def ny:List W->Option (List Int)
 |[]=>some []
 |.int z::ws=>(ny ws).map (z :: ·)
 |_=>none
theorem p5{K:Frag}{μ:List Addr}{H:Hp}:∀{ws:List W} {l:List Int} {vs:List V},ny ws=some l->RelWs K μ H ws vs->vs=l.map V.int
 |[],l,vs,h,r=>by simp only[ny]at h;cases h;exact r.nilE
 |w::ws,l,vs,h,r=>by
  obtain⟨x,xs,rfl,rx,rs⟩:=r.consE
  unfold ny at h
  split at h
  ·rename_i e;cases e
  ·rename_i z Qi e
   cases e
   cases e2:ny ws with
   |none=>rw[e2]at h;cases h
   |some l'=>rw[e2]at h;cases h;rw[rx.intE,p5 e2 rs];rfl
  ·cases h
end
section
variable{X:Cx}
end
abbrev Ph:=List W×List (Nat×List W)
abbrev Sy:=cf->List am->R Ph
section
variable{X:Cx}{oG tg iter:Expr}{m6:List Expr}{scope:Scope}{pos:Pos}{nm:List Str}{cap:List (Option Nat)}{fi:Sy}{f:FG}{t:FT}{el:FE}{m:Nat}
end
section
variable{X:Cx}{a b:Expr}{fs:FA}{p pos:Pos}
end
section
variable{X:Cx}
end
section
variable{X:Cx}{oG tg iter:Expr}{scope:Scope}{pos:Pos}{nm:List Str}{wi:TI}{g:TG}{te:Cx->TE}
def noB(sn:List (Str×NameKind)):Bool:=sn.all fun x=>!(x.2==.cell)&&!(x.2==.free)&&(!(x.2==.local)||sn.lookup x.1==some .local)
end
section
variable{X:Cx}{oG tg iter:Expr}{scope:Scope}{pos:Pos}{nm:List Str}{fi:FI}{f:FG}{el:FE}
end
theorem DK.key_inj{a b:DK}:a.key=b.key↔a=b:=by
 cases a<;>cases b<;>simp[DK.key,z6]
def DK.w:DK->W
 |.i z=>.int z
 |.s l=>.str l
def iI:W->Option DK
 |.int z=>some (.i z)
 |.str l=>some (.s l)
 |_=>none
theorem lQ{K:Frag}{μ:List Addr}{H:Hp}{w:W}{k:DK}{v:V}(h:iI w=some k)(r:bF K μ H w v):v=kV k.key:=by
 cases w with
 |int z=>cases h;exact r.intE
 |str l=>cases h;exact r.strE
 |_=>cases h
theorem DK.w_rel{K:Frag}{μ:List Addr}{H:Hp}(k:DK):bF K μ H k.w (kV k.key):=by
 cases k with
 |i z=>exact .int
 |s l=>exact .str
def hX(kvs:List (DK×W))(k:DK):Option W:=(kvs.find? fun p=>decide (p.1=k)).map fun p=>p.2
def p9(kvs:List (DK×W))(k:DK)(v:W):List (DK×W):=if (kvs.any fun p=>decide (p.1=k))=true then kvs.map fun p=>if p.1=k then(p.1,v)else p else kvs++[(k,v)]
def j8(kvs:List (DK×W))(k:DK):List (DK×W):=kvs.filter fun p=>decide (p.1≠k)
abbrev dV(kvs:List (DK×W))(vs:List V):List (f_×V):=(kvs.map fun p=>p.1.key).zip vs
section
variable{K:Frag}{μ:List Addr}{H:Hp}
theorem tV:∀{kvs:List (DK×W)} {vs:List V} (k:DK),RelWs K μ H (kvs.map fun p=>p.2) vs->(∃w v,hX kvs k=some w/\jU (dV kvs vs) k.key=some v/\bF K μ H w v)\/(hX kvs k=none/\jU (dV kvs vs) k.key=none)
 |[],vs,k,r=>.inr ⟨rfl,rfl⟩
 |p::kvs,vs,k,r=>by
  obtain⟨x,xs,rfl,a,b⟩:=RelWs.consE r
  have ih:=tV (kvs:=kvs) k b
  by_cases h:p.1=k
  ·refine .inl ⟨p.2,x,?_,?_,a⟩
   ·unfold hX;rw[d5];simp[h]
   ·show jU ((p.1.key,x)::dV kvs xs) k.key=some x
    exact m_ (by rw[h])
  ·have e1:hX (p::kvs) k=hX kvs k:=by unfold hX;rw[d5];simp[h]
   have e2:jU (dV (p::kvs) (x::xs)) k.key=jU (dV kvs xs) k.key:=pO (p:=(p.1.key,x)) fun z=>h (DK.key_inj.mp z)
   rw[e1,e2];exact ih
theorem EL:∀{kvs:List (DK×W)} {vs:List V} (k:DK),RelWs K μ H (kvs.map fun p=>p.2) vs->((dV kvs vs).any fun kv=>decide (kv.1=k.key))=(kvs.any fun p=>decide (p.1=k))
 |[],vs,k,r=>rfl
 |p::kvs,vs,k,r=>by
  obtain⟨x,xs,rfl,a,b⟩:=RelWs.consE r
  show(decide (p.1.key=k.key)||(dV kvs xs).any _)=(decide (p.1=k)||kvs.any _)
  rw[EL k b]
  congr 1
  rw[decide_eq_decide];exact DK.key_inj
theorem EM{k:DK}{w:W}{v:V}:∀{kvs:List (DK×W)} {vs:List V},RelWs K μ H (kvs.map fun p=>p.2) vs->bF K μ H w v->∃us,(dV kvs vs).map (fun kv=>if kv.1=k.key then(kv.1,v)else kv)=dV (kvs.map fun p=>if p.1=k then(p.1,w)else p) us/\RelWs K μ H ((kvs.map fun p=>if p.1=k then(p.1,w)else p).map fun p=>p.2) us
 |[],vs,r,m5=>⟨[],rfl,.nilI⟩
 |p::kvs,vs,r,m5=>by
  obtain⟨x,xs,rfl,a,b⟩:=RelWs.consE r
  obtain⟨us,e,q⟩:=EM (k:=k) b m5
  by_cases h:p.1=k
  ·refine⟨v::us,?_,?_⟩
   ·show(if p.1.key=k.key then(p.1.key,v)else(p.1.key,x))::(dV kvs xs).map _=_
    rw[aB (by rw[h]),e,aT,aB h];rfl
   ·rw[aT,aB h];exact .consI m5 q
  ·refine⟨x::us,?_,?_⟩
   ·show(if p.1.key=k.key then(p.1.key,v)else(p.1.key,x))::(dV kvs xs).map _=_
    rw[aE (fun z=>h (DK.key_inj.mp z)),e,aT,aE h];rfl
   ·rw[aT,aE h];exact .consI a q
theorem EN{kvs:List (DK×W)}{vs:List V}{k:DK}{w:W}{v:V}(r:RelWs K μ H (kvs.map fun p=>p.2) vs)(m5:bF K μ H w v):∃us,mT (dV kvs vs) k.key v=dV (p9 kvs k w) us/\RelWs K μ H ((p9 kvs k w).map fun p=>p.2) us:=by
 unfold mT p9
 rw[EL k r]
 by_cases h:(kvs.any fun p=>decide (p.1=k))=true
 ·rw[aB h,aB h]
  exact EM r m5
 ·rw[aE h,aE h]
  refine⟨vs++[v],?_,?_⟩
  ·unfold dV
   rw[bu,List.zip_append (by rw[az,<- r.len,az])];rfl
  ·rw[bu];exact r.app (.consI m5 .nilI)
theorem BG{k:DK}:∀{kvs:List (DK×W)} {vs:List V},RelWs K μ H (kvs.map fun p=>p.2) vs->∃us,mD (dV kvs vs) k.key=dV (j8 kvs k) us/\RelWs K μ H ((j8 kvs k).map fun p=>p.2) us
 |[],vs,r=>⟨[],rfl,.nilI⟩
 |p::kvs,vs,r=>by
  obtain⟨x,xs,rfl,a,b⟩:=RelWs.consE r
  obtain⟨us,e,q⟩:=BG (k:=k) b
  by_cases h:p.1=k
  ·refine⟨us,?_,?_⟩
   ·have e1:j8 (p::kvs) k=j8 kvs k:=by unfold j8;rw[cI];simp[h]
    rw[e1]
    exact(CG (p:=(p.1.key,x)) (by rw[h])).trans e
   ·have e1:j8 (p::kvs) k=j8 kvs k:=by unfold j8;rw[cI];simp[h]
    rw[e1];exact q
  ·have e1:j8 (p::kvs) k=p::j8 kvs k:=by unfold j8;rw[cI];simp[h]
   refine⟨x::us,?_,?_⟩
   ·rw[e1]
    exact(CI (p:=(p.1.key,x)) fun z=>h (DK.key_inj.mp z)).trans (fM (List.cons (p.1.key,x)) e)
   ·rw[e1];exact .consI a q
theorem tX{kvs:List (DK×W)}{vs:List V}(r:RelWs K μ H (kvs.map fun p=>p.2) vs):(dV kvs vs).length=kvs.length:=by
 unfold dV;rw[List.length_zip,az,<- r.len,az,Nat.min_self]
theorem fS.butD{l:Addr}{xs:List (f_×V)}{H':Hp}(e:QO l H H')(hl:H l=some (.dK xs)):eD K H H':=by
 have oz:∀{p:Addr} {o:HO},H p=some o->(∀zs,o≠.dK zs)->p≠l:=fun{p o} q hn z=>by subst z;rw[hl]at q;cases q;exact hn _ rfl
 refine⟨fun p ys h=>?_,fun b o u h=>e _ _ (oz h (fun _ z=>by cases z)) h⟩
 rcases h with(h|⟨o,h⟩)|h
 ·exact .inl (.inl (e _ _ (oz h (fun _ z=>by cases z)) h))
 ·exact .inl (.inr ⟨o,e _ _ (oz h (fun _ z=>by cases z)) h⟩)
 ·exact .inr h
end
theorem gT.setD{K:Frag}{mg:Str->Option Value}{μ:List Addr}{st:List am}{H:Hp}(S:gT K mg μ st H){n:Nat}{a:Addr}{kvs Nw:List (DK×W)}{xs:List (f_×V)}{us:List V}(hn:st[n]?=some (.dct kvs))(hm:μ[n]?=some a)(ha:H a=some (.dK xs))(hr:RelWs K μ H (Nw.map fun p=>p.2) us) :
  gT K mg μ (st.set n (.dct Nw)) (eS H a (.dK (dV Nw us))):=
 S.setG hn rfl hm ha (fun _ _ z=>by cases z) (fun _ z=>by cases z) (fS.butD ig ha) rfl ⟨us,dC,hr.mono (al _) (fS.butD ig ha)⟩
def fI(st:List am):W->Option (Nat×List (DK×W))
 |.loc n=>(match st[n]? with
  |some (.dct kvs)=>some (n,kvs)
  |some (.rod kvs)=>some (n,kvs)
  |_=>none)
 |_=>none
def sj(st:List am):W->Option (Nat×List (DK×W))
 |.loc n=>(match st[n]? with
  |some (.dct kvs)=>some (n,kvs)
  |_=>none)
 |_=>none
theorem j9{K:Frag}{mg:Str->Option Value}{μ:List Addr}{st:List am}{H:Hp}(S:gT K mg μ st H){x:W}{v:V}{n:Nat}{kvs:List (DK×W)}(h:fI st x=some (n,kvs))(r:bF K μ H x v) :
  ∃a vs,(st[n]?=some (.dct kvs)\/st[n]?=some (.rod kvs))/\μ[n]?=some a/\v=.ref a/\Rd H a (.dK (dV kvs vs))/\RelWs K μ H (kvs.map fun p=>p.2) vs:=by
 cases x with
 |loc m=>
  simp only[fI]at h
  cases e:st[m]? with
  |none=>rw[e]at h;cases h
  |some c=>
   rw[e]at h
   cases c with
   |dct z=>
    cases h
    obtain⟨a,g,vs,k,rr⟩:=S.get e
    obtain⟨b,f,rfl⟩:=r.locE
    rw[g]at f;cases f
    exact⟨a,vs,.inl e,g,rfl,.inl k,rr⟩
   |rod z=>
    cases h
    obtain⟨a,g,vs,o,k,rr⟩:=S.get e
    obtain⟨b,f,rfl⟩:=r.locE
    rw[g]at f;cases f
    exact⟨a,vs,.inr e,g,rfl,.inr ⟨o,k⟩,rr⟩
   |_=>cases h
 |_=>cases h
theorem sB{K:Frag}{mg:Str->Option Value}{μ:List Addr}{st:List am}{H:Hp}(S:gT K mg μ st H){x:W}{v:V}{n:Nat}{kvs:List (DK×W)}(h:sj st x=some (n,kvs))(r:bF K μ H x v) :
  ∃a vs,st[n]?=some (.dct kvs)/\μ[n]?=some a/\v=.ref a/\H a=some (.dK (dV kvs vs))/\RelWs K μ H (kvs.map fun p=>p.2) vs:=by
 cases x with
 |loc m=>
  simp only[sj]at h
  cases e:st[m]? with
  |none=>rw[e]at h;cases h
  |some c=>
   rw[e]at h
   cases c with
   |dct z=>
    cases h
    obtain⟨a,g,vs,k,rr⟩:=S.get e
    obtain⟨b,f,rfl⟩:=r.locE
    rw[g]at f;cases f
    exact⟨a,vs,e,g,rfl,k,rr⟩
   |_=>cases h
 |_=>cases h
theorem pQ.r{H:Hp}{a:Addr}{kvs:List (f_×V)}{k:f_}(e:Rd H a (.dK kvs)):pQ H a (kV k) (jU kvs k):=.inl ⟨kvs,k,e,rfl,rfl⟩
section
variable{X:Cx}{a b c d e o i:Expr}{es:List Expr}{pos p p2 jA gG dW:Pos}{x name:Str}{fa fb fc fe fo fi:FE}{fs:FA}{kk:Nat}
def lp(Hb:Bool)(x y:W)(st:List am):R W:=match fI st y with
 |some (_,kvs)=>(match iI x with
  |some k=>.ok (.bl (if Hb then !(hX kvs k).isSome else(hX kvs k).isSome)) st
  |none=>.bad)
 |none=>zL Hb x y st
theorem vD{K:Frag}{μ:List Addr}{H:Hp}{kvs:List (DK×W)}{vs:List V}{k:DK}(r:RelWs K μ H (kvs.map fun p=>p.2) vs):(jU (dV kvs vs) k.key).isSome=(hX kvs k).isSome:=by
 rcases tV k r with⟨w,v,e1,e2,_⟩|⟨e1,e2⟩<;>rw[e1,e2]<;>rfl
theorem JY(hr:iA kk X.A)(ho:qG X (compareOp .In) (zL false)):qG X (compareOp .In) (lp false):=⟨fun pins s σ H x y v u Q I rv ru ⟨μ,st,wx,wy,S,rx,ry,q⟩=>by
 unfold lp at q
 cases e:fI st wy with
 |none=>rw[e]at q;exact ho.h pins s σ H x y v u Q I rv ru ⟨μ,st,wx,wy,S,rx,ry,q⟩
 |some nk=>
  obtain⟨n,kvs⟩:=nk
  rw[e]at q
  cases ek:iI wx with
  |none=>simp only[ek]at q;exact q.elim
  |some k=>
   simp only[ek]at q
   obtain⟨a,vs,_,_,rfl,ha,r⟩:=j9 S e ry
   have:=lQ ek rx
   subst this
   obtain rfl:u=Value.ref a:=ru
   refine Rt (x6 hr) I (pQ.r ha) rv fun s' I'=>?_
   rw[vD r]
   exact⟨.bl _,H,I',rfl,iF S q⟩,fun x y st=>by
 unfold lp
 split
 ·split<;>trivial
 ·exact ho.n x y st⟩
theorem lq(hr:iA kk X.A)(ho:qG X (compareOp .NotIn) (zL true)):qG X (compareOp .NotIn) (lp true):=⟨fun pins s σ H x y v u Q I rv ru ⟨μ,st,wx,wy,S,rx,ry,q⟩=>by
 unfold lp at q
 cases e:fI st wy with
 |none=>rw[e]at q;exact ho.h pins s σ H x y v u Q I rv ru ⟨μ,st,wx,wy,S,rx,ry,q⟩
 |some nk=>
  obtain⟨n,kvs⟩:=nk
  rw[e]at q
  cases ek:iI wx with
  |none=>simp only[ek]at q;exact q.elim
  |some k=>
   simp only[ek]at q
   obtain⟨a,vs,_,_,rfl,ha,r⟩:=j9 S e ry
   have:=lQ ek rx
   subst this
   obtain rfl:u=Value.ref a:=ru
   refine H9 (x6 hr) I (pQ.r ha) rv fun s' I'=>?_
   rw[vD r]
   exact⟨.bl _,H,I',rfl,iF S q⟩,fun x y st=>by
 unfold lp
 split
 ·split<;>trivial
 ·exact ho.n x y st⟩
def jx(x y:W)(st:List am):R W:=match fI st x,iI y with
 |some (_,kvs),some k=>sf (hX kvs k) fun w=>.ok w st
 |_,_=>.bad
theorem jH(hr:iA kk X.A)(ha:SE X a fa)(hb:SE X b fb)(hs:LC b:=by intro _ _;rfl):SE X (.Subscript a b pos) (e2 jx fa fb):=⟨(H_ (x6 hr) ha.h hb.h hs).imp fun σ H Q h=>by
 obtain⟨μ,ρ,st,l,h⟩:=h
 refine⟨μ,ρ,st,l,RK.bind h l fun μ1 st1 x v H1 p1 x1 l1 q1 h1=>⟨μ1,ρ,st1,l1,RK.bind h1 l1 fun μ2 st2 y u H2 p2 x2 l2 q2 h2=>?_⟩⟩
 unfold jx at h2
 cases e1:fI st2 x with
 |none=>rw[e1]at h2;exact h2.elim
 |some nk=>
  obtain⟨n,kvs⟩:=nk
  cases e2:iI y with
  |none=>rw[e1,e2]at h2;exact h2.elim
  |some k=>
   rw[e1,e2]at h2
   simp only at h2
   obtain⟨a,vs,_,_,rfl,ha,r⟩:=j9 l2.sto e1 (q1.mono p2 x2)
   have:=lQ e2 q2
   subst this
   rcases tV k r with⟨w,z,g1,g2,g3⟩|⟨g1,g2⟩
   ·rw[g1]at h2
    exact⟨a,z,rfl,by rw[<- g2];exact pQ.r ha,h2 μ2 z H2 (al _) eD.refl l2.sto g3⟩
   ·rw[g1]at h2;exact h2.elim⟩
def mJ(x i v:W)(st:List am):Option (List am):=match sj st x,iI i with
 |some (n,kvs),some k=>if kvs.length<kJ then some (st.set n (.dct (p9 kvs k v)))else none
 |_,_=>none
theorem qP(hr:iA kk X.A):Cn X (Et X mJ):=fun pins s σ H o i v ov iv u Q I r1 r2 r3 ⟨μ,st,wo,wi,wv,bI,S,ro,ri,rv,e,q⟩=>by
 unfold mJ at e
 cases e1:sj st wo with
 |none=>rw[e1]at e;cases e
 |some nk=>
  obtain⟨n,kvs⟩:=nk
  cases e2:iI wi with
  |none=>rw[e1,e2]at e;cases e
  |some k=>
   rw[e1,e2]at e
   simp only at e
   split at e
   ·rename_i hl
    cases e
    obtain⟨a,vs,hn,hm,rfl,ha,r⟩:=sB S e1 ro
    have:=lQ e2 ri
    subst this
    obtain rfl:ov=Value.ref a:=r1
    obtain⟨us,g1,g2⟩:=EN (k:=k) r rv
    refine CF (x6 hr) I (HZ.k ha (by rw[tX r];exact aV hl (by decide))) r2 r3 fun s' I'=>⟨_,I',?_⟩
    rw[g1]
    exact q _ (fS.butD ig ha) (S.setD hn hm ha g2)
   ·cases e
def tY(ws:List W)(st:List am):R W:=match ws with
 |[x]=>(match fI st x with
  |some (_,kvs)=>.ok (.int kvs.length) st
  |none=>de ws st)
 |_=>de ws st
theorem Ma:nn X (.builtin "len") tY:=⟨fun pins s σ H vs us Q I rv ⟨μ,st,ws,S,r,q⟩=>by
 unfold tY at q
 split at q
 ·rename_i x
  split at q
  ·rename_i n kvs e
   obtain⟨y,rfl,ry⟩:=r.one
   obtain⟨a,vs,_,_,rfl,ha,rr⟩:=j9 S e ry
   obtain⟨u,rfl,ru⟩:=mC rv
   obtain rfl:u=Value.ref a:=ru
   refine OB I ha fun t s' I'=>⟨.int kvs.length,H,I',⟨t,by rw[tX rr]⟩,?_⟩
   exact q μ _ H (al _) eD.refl S .int
  ·exact cY.h pins s σ H _ us Q I rv ⟨μ,st,_,S,r,q⟩
 ·exact cY.h pins s σ H _ us Q I rv ⟨μ,st,_,S,r,q⟩,fun ws st=>by
 unfold tY
 split
 ·split
  ·trivial
  ·exact(cY (X:=X)).n _ _
 ·exact(cY (X:=X)).n _ _⟩
def EO:FE:=fun _ st=>.ok (.loc st.length) (st++[.dct []])
theorem Mb:SE X (.Dict [] [] pos) EO:=⟨D1.imp fun σ H Q h=>by
 obtain⟨μ,ρ,st,l,h⟩:=h
 intro p hp
 have hs:qI H (eS H p (.dK [])):=cN hp _
 exact h (μ++[p]) (.ref p) _ (aC _ _) (fS.same hs) (l.sto.push (c:=.dct []) hp ⟨[],dC,.nilI⟩) (ni l.sto)⟩
abbrev FP:=cf->List am->R (List (W×W))
def nz:FP:=fun _ st=>.ok [] st
def j_(fk fv:FE)(fr:FP):FP:=fun ρ st=>(fk ρ st).bind fun k st=>(fv ρ st).bind fun v st=>(fr ρ st).bind fun ps st=>.ok ((k,v)::ps) st
abbrev RL(X:Cx):List Addr->Hp->List (W×W)->List (V×V)->Prop:=fun μ H ws vs=>RelWs X.K μ H (ws.map fun p=>p.1) (vs.map fun p=>p.1)/\RelWs X.K μ H (ws.map fun p=>p.2) (vs.map fun p=>p.2)
structure QW(X:Cx)(pos:Pos)(keys:List (Option Expr))(kj:List Expr)(f:FP):Prop where
 h:∃AY,OD X pos keys kj AY/\∀σ H Q,tG X (RL X) f σ H Q->wd AY σ H Q
theorem tZ:QW X pos [] [] nz:=⟨[],Ia,fun σ H Q h=>by
 obtain⟨μ,ρ,st,l,h⟩:=h
 exact h μ [] H (al _) eD.refl l.sto ⟨.nilI,.nilI⟩⟩
theorem p_{k v:Expr}{fk fv:FE}{fr:FP}{ks:List (Option Expr)}{vs:List Expr}(hk:SE X k fk)(hv:SE X v fv)(hr:QW X pos ks vs fr):QW X pos (some k::ks) (v::vs) (j_ fk fv fr):=by
 obtain⟨AY,h1,h2⟩:=hr.h
 refine⟨(tE X fk,tE X fv)::AY,D2 hk.h hv.h h1,fun σ H Q h=>?_⟩
 obtain⟨μ,ρ,st,l,h⟩:=h
 refine⟨μ,ρ,st,l,RK.bind h l fun μ1 st1 x1 v1 H1 p1 e1 l1 q1 h1=>⟨μ1,ρ,st1,l1,RK.bind h1 l1 fun μ2 st2 x2 v2 H2 p2 e2 l2 q2 h2'=>h2 _ _ _ ⟨μ2,ρ,st2,l2,RK.bind h2' l2 fun μ3 jT x3 v3 H3 p3 e3 l3 q3 h3=>?_⟩⟩⟩
 exact h3 μ3 _ H3 (al _) eD.refl l3.sto ⟨.consI (q1.mono (p2.trans p3) (e2.trans e3)) q3.1,.consI (q2.mono p3 e3) q3.2⟩
def keysOf:List (W×W)->Option (List (DK×W))
 |[]=>some []
 |(k,v)::r=>match iI k,keysOf r with
  |some k,some r=>some ((k,v)::r)
  |_,_=>none
theorem vE{K:Frag}{μ:List Addr}{H:Hp}:∀{ps:List (W×W)} {kvs:List (DK×W)} {vs:List (V×V)},keysOf ps=some kvs->RelWs K μ H (ps.map fun p=>p.1) (vs.map fun p=>p.1)->RelWs K μ H (ps.map fun p=>p.2) (vs.map fun p=>p.2) ->
  ∃us,vs=(dV kvs us).map (fun kv=>(kV kv.1,kv.2))/\RelWs K μ H (kvs.map fun p=>p.2) us
 |[],kvs,vs,h,r1,r2=>by
  cases h
  have:vs=[]:=by simpa using r1.nilE
  subst this
  exact⟨[],rfl,.nilI⟩
 |(k,v)::r,kvs,vs,h,r1,r2=>by
  unfold keysOf at h
  cases e1:iI k with
  |none=>rw[e1]at h;cases h
  |some k'=>
   cases e2:keysOf r with
   |none=>rw[e1,e2]at h;cases h
   |some r'=>
    rw[e1,e2]at h
    cases h
    cases vs with
    |nil=>obtain⟨_,_,z,_⟩:=r1.consE;cases z
    |cons q vs=>
     obtain⟨x,xs,z,a1,b1⟩:=r1.consE
     cases z
     obtain⟨x,xs,z,a2,b2⟩:=r2.consE
     cases z
     obtain⟨us,f1,f2⟩:=vE e2 b1 b2
     refine⟨q.2::us,?_,.consI a2 f2⟩
     obtain⟨q1,q2⟩:=q
     show(q1,q2)::vs=(kV k'.key,q2)::_
     rw[f1,show q1=kV k'.key from lQ e1 a1]
     rfl
def As(acc kvs:List (DK×W)):List (DK×W):=kvs.foldl (fun acc p=>p9 acc p.1 p.2) acc
theorem yt{K:Frag}{μ:List Addr}{H:Hp}:∀{kvs acc:List (DK×W)} {vs us:List V},RelWs K μ H (kvs.map fun p=>p.2) vs->RelWs K μ H (acc.map fun p=>p.2) us->∃zs,nc (dV acc us) (dV kvs vs)=dV (As acc kvs) zs/\RelWs K μ H ((As acc kvs).map fun p=>p.2) zs
 |[],acc,vs,us,r1,r2=>⟨us,rfl,r2⟩
 |p::kvs,acc,vs,us,r1,r2=>by
  obtain⟨x,xs,rfl,a,b⟩:=RelWs.consE r1
  obtain⟨zs,e,q⟩:=EN (k:=p.1) r2 a
  obtain⟨ys,e2,q2⟩:=yt b q
  refine⟨ys,?_,q2⟩
  show nc (mT (dV acc us) p.1.key x) (dV kvs xs)=_
  rw[e,e2];rfl
def oR(f:FP):FE:=fun ρ st=>(f ρ (st++[.dct []])).bind fun ps st2=>match st2[st.length]?,keysOf ps with
 |some (.dct []),some kvs=>if kvs.length<=15 then .ok (.loc st.length) (st2.set st.length (.dct (As [] kvs)))else .bad
 |_,_=>.bad
theorem t5{keys:List (Option Expr)}{kj:List Expr}{f:FP}(h:QW X pos keys kj f)(zH:keys.all (·.isSome)=true:=by rfl)(hl:keys.length=kj.length:=by rfl)(h0:keys≠[]:=by intro z;cases z)(RO:keys.length<=15:=by decide) :
  SE X (.Dict keys kj pos) (oR f):=by
 obtain⟨AY,h1,h2⟩:=h.h
 refine⟨(Ib h1 zH hl h0 RO).imp fun σ H Q hh=>?_⟩
 obtain⟨μ,ρ,st,l,hh⟩:=hh
 intro p hp
 have hs:qI H (eS H p (.dK [])):=cN hp _
 have S0:gT X.K X.mg (μ++[p]) (st++[.dct []]) (eS H p (.dK [])):=l.sto.push (c:=.dct []) hp ⟨[],dC,.nilI⟩
 have l0:Rl X (μ++[p]) ρ (st++[.dct []]) σ (eS H p (.dK [])):=l.to (aC _ _) (fS.same hs) S0
 refine h2 σ _ _ ⟨μ++[p],ρ,st++[.dct []],l0,RK.bind (RK.mono hh (aC _ _) (fS.same hs)) l0 fun μ2 st2 ps vs H2 p2 e2 l2 q2 h2'=>?_⟩
 have hm:μ2[st.length]?=some p:=L2.pre_get p2 (by rw[l.sto.len];simp)
 split at h2'
 ·rename_i kvs ec ek
  split at h2'
  ·rename_i uG
   obtain⟨us,f1,f2⟩:=vE ek q2.1 q2.2
   have hd:H2 p=some (.dK []):=by
    obtain⟨a,g,vs0,k,_⟩:=l2.sto.get ec
    rw[hm]at g;cases g
    exact k
   obtain⟨zs,g1,g2⟩:=yt (acc:=[]) (us:=[]) f2 .nilI
   have cR:(dV kvs us).length=kvs.length:=tX f2
   refine⟨hd,dV kvs us,f1,by rw[cR];exact uG,?_⟩
   rw[show nc ([]:List (f_×V)) (dV kvs us)=_ from g1]
   exact h2' μ2 (.ref p) _ (al _) (fS.butD ig hd) (l2.sto.setD ec hm hd g2) (.locI hm)
  ·exact h2'.elim
 ·exact h2'.elim
def BH(fo fk:FE):FE:=fun ρ st=>(fo ρ st).bind fun x st=>match sj st x with
 |some _=>(fk ρ st).bind fun y st=>(match sj st x,iI y with
  |some (n,kvs),some k=>sf (hX kvs k) fun w=>.ok w (st.set n (.dct (j8 kvs k)))
  |_,_=>.bad)
 |none=>.bad
theorem Md(ho:SE X o fo)(he:SE X e fe)(m:M1 X o "pop" gG e dW:=by exact⟨by rfl,by rfl,by rfl,by rfl⟩):SE X (.Call (.Attribute o "pop" gG) [e] [] dW) (BH fo fe):=⟨(D5 ho.h he.h m).imp fun σ H Q h=>by
 obtain⟨μ,ρ,st,l,h⟩:=h
 refine⟨μ,ρ,st,l,RK.bind h l fun μ1 st1 x v H1 p1 x1 l1 q1 h1=>?_⟩
 cases e0:sj st1 x with
 |none=>rw[e0]at h1;exact h1.elim
 |some nk0=>
  obtain⟨n0,kvs0⟩:=nk0
  rw[e0]at h1
  simp only at h1
  obtain⟨a0,vs0,_,hm0,rfl,Cg,_⟩:=sB l1.sto e0 q1
  refine⟨a0,rfl,.inl ⟨_,.inl Cg⟩,μ1,ρ,st1,l1,RK.bind h1 l1 fun μ2 st2 y u H2 p2 x2 l2 q2 h2=>?_⟩
  cases e1:sj st2 x with
  |none=>rw[e1]at h2;exact h2.elim
  |some nk=>
   obtain⟨n,kvs⟩:=nk
   cases e2:iI y with
   |none=>rw[e1,e2]at h2;exact h2.elim
   |some k=>
    rw[e1,e2]at h2
    simp only at h2
    obtain⟨a,vs,hn,hm,ea,ha,r⟩:=sB l2.sto e1 (q1.mono p2 x2)
    cases ea
    have:=lQ e2 q2
    subst this
    rcases tV k r with⟨w,z,g1,g2,g3⟩|⟨g1,g2⟩
    ·rw[g1]at h2
     obtain⟨us,f1,f2⟩:=BG (k:=k) r
     refine⟨_,k.key,z,ha,rfl,g2,?_⟩
     rw[f1]
     exact h2 μ2 z _ (al _) (fS.butD ig ha) (l2.sto.setD hn hm ha f2) (g3.mono (al _) (fS.butD ig ha))
    ·rw[g1]at h2;exact h2.elim⟩
end
def yu(h:Heap)(mg:Str->Option Value):Prop:=∃bm o,mg "__builtins__"=some (.ref bm)/\bm≠builtinsNs/\h.get? bm=some o/\o.cls=.type "module"/\o.dict=some builtinsNs/\o.data=.plain
structure JZ(ts:List Addr)(H:Hp):Prop where
 all:∀b,H b=none\/(∃o xs,H b=some (.frz o (.lst xs)))\/(b∈ts/\H b=some (.tbl #[]))
 tab:∀T∈ts,H T=some (.tbl #[])
theorem C4{P:Program}{w:World}{K:Frag}{mg mb:Str->Option Value}{CX:Hs}{k:Nat}{fa a:Addr}{fd:FuncData}{x:Str}{sp:Sp}{s₁:Shared}{vs:List Value}{ns:List Int}{ts:List Addr}
  (KX:K.In s₁.heap) (QJ:s₁.heap.Ns mainGlobals mg) (hb:s₁.heap.Ns builtinsNs mb) (SQ:∀x:Str,x ≠ "__name__"->mb x=bootBuiltins x) (R5:s₁.heap.NoLimit) (hg:s₁.gens=#[])
  (ha:s₁.heap.get? a=some { cls:=.type "list",data:=.seq vs.toArray }) (hi:IntsAre vs ns) (hl:ns.length<=sizeLine) (hr:iA k callerA)
  (ht:∀T∈ts,s₁.heap.get? T=some { cls:=.none,data:=.fields #[] }) (RW:∀T∈ts,K.lookup T=none) (Q3:∀T∈ts,isCodeTable s₁.heap T)
  (SF:yu s₁.heap mg) (F:∀base:Heap,K.In base->base.Ns mainGlobals mg->yu base mg->fA P w K mg base CX k fa fd [x] sp) (Qc:∀(s:Shared) (u:Value),BindsTo s fd ⟨[u],[]⟩ [(x,u)])
  (NU:∀H:Hp,JZ ts H->rE K H a (ns.map V.int)->sp [.ref a] H (fun v _=>v=.bl true) fun _ _ _=>False)
  (SD:∀H e s',CX [] H s₁ (fun _ _ _=>False) e s'->False) :
  codeAny (model P w) callerA (.call (.ref fa) ⟨[.ref a],[]⟩) (fun r s'=>r=.ok (.ret (.bool true))/\OldK s₁.heap s'.heap/\s'.os=s₁.os/\AllBare s'.gens) s₁:=by
 have rv:=vk hi
 have lenV:=hi.length
 have hta:∀T∈ts,T≠a:=fun T hT z=>by
  have:=ht T hT
  rw[z,ha]at this
  have h2:=fM Obj.cls (aZ this)
  cases h2
 have core:∀H:Hp,JZ ts H->rE K H a (ns.map V.int)->pe P w H s₁.heap->(∀b,H b≠none->b=a\/b∈ts)->(H a≠none->K.lookup a=none) ->
   codeAny (model P w) callerA (.call (.ref fa) ⟨[.ref a],[]⟩) (fun r s'=>r=.ok (.ret (.bool true))/\OldK s₁.heap s'.heap/\s'.os=s₁.os/\AllBare s'.gens) s₁:=by
  intro H hO hS hok hA hK
  have base_of:∀{b:Addr} {o:Obj},s₁.heap.get? b=some o->H b=none->(uJ s₁.heap H).get? b=some o:=fun e n=>DH e n
  have noA:∀{b:Addr} {o:Obj} {es:Array DictEntry} {ep:Nat},s₁.heap.get? b=some o->o.data=.dict es ep->H b=none:=fun{b o es ep} e d=>by
   cases q:H b with
   |none=>rfl
   |some u=>
    rcases hA b (by rw[q];simp)with e'|e'
    ·subst e'
     rw[ha]at e;cases e
     have d':Data.seq vs.toArray _=Data.dict es ep:=d
     cases d'
    ·rw[ht b e']at e;cases e
     have d':Data.fields _=Data.dict es ep:=d
     cases d'
  have nsK:∀{b:Addr} {m:Str->Option Value},s₁.heap.Ns b m->(uJ s₁.heap H).Ns b m:=fun{b m} ⟨o,es,ep,e,d,r⟩=>⟨o,es,ep,base_of e (noA e d),d,r⟩
  have hKb:K.In (uJ s₁.heap H):=fun b o e=>base_of (KX b o e) (by
   cases q:H b with
   |none=>rfl
   |some u=>
    rcases hA b (by rw[q];simp)with e'|e'
    ·subst e'
     rw[hK (by rw[q];simp)]at e;cases e
    ·rw[RW b e']at e;cases e)
  have hbk':yu (uJ s₁.heap H) mg:=by
   obtain⟨bm,o,b1,b2,b3,b4,b5,b6⟩:=SF
   refine⟨bm,o,b1,b2,base_of b3 ?_,b4,b5,b6⟩
   cases q:H bm with
   |none=>rfl
   |some u=>
    rcases hA bm (by rw[q];simp)with e'|e'
    ·subst e'
     rw[ha]at b3;cases b3;exact absurd b4 (by simp)
    ·rw[ht bm e']at b3;cases b3;cases b4
  have hM:Mod K mg (uJ s₁.heap H):=⟨hKb,nsK QJ,⟨mb,nsK hb,SQ⟩,let ⟨mc,h1,h2⟩:=R5;⟨mc,nsK h1,h2⟩⟩
  have e0:HR P w K mg (uJ s₁.heap H) callerA [] s₁ H:=⟨rfl,hM,fun b o e=>HA e,Nat.le_of_eq (Cj _ _),trivial,fun b hb=>absurd (show b∈([]:List Addr)from hb) (by simp),hok,.of_eq hg⟩
  refine mh ((F _ hKb (nsK QJ) hbk').run callerA [] s₁ H ⟨[.ref a],[]⟩ [.ref a] [.ref a] _ _ hr e0 (Qc s₁ (.ref a)) (.cons rfl .nil) (NU H hO hS)) fun r s' h=>?_
  cases r with
  |error e=>exact(SD H e s' h).elim
  |ok fl=>
   cases fl with
   |next=>exact False.elim h
   |brk=>exact False.elim h
   |cont=>exact False.elim h
   |ret u=>
    obtain⟨v,H',os,bare,un,hok',r',q⟩:=h
    have q':v=.bl true:=q
    subst q'
    obtain rfl:u=Value.bool true:=r'
    have was:∀b o,s₁.heap.get? b=some o->asItWas s₁.heap s'.heap b o/\∃o',s'.heap.get? b=some o':=fun b o e=>by
     cases q:H b with
     |none=>
      have:=un.keep b o e q (by intro z;exact absurd (show b∈([]:List Addr)from z) (by simp)) (by simp)
      exact⟨.inl this,_,this⟩
     |some u=>
      rcases hO.all b with z|⟨ob,xs,z⟩|⟨hbt,z⟩
      ·rw[q]at z;cases z
      ·have z2:=un.frzs b ob _ z
       obtain⟨e1,_⟩:=hok b _ z
       obtain⟨e2,_⟩:=hok' b _ z2
       rw[e]at e1;cases e1
       exact⟨.inl e2,_,e2⟩
      ·obtain⟨kH,z2⟩:=un.tbls b _ z
       have e2:s'.heap.get? b=some { cls:=.none,data:=.fields (#[]++kH) }:=hok' b _ z2
       rw[ht b hbt]at e
       cases e
       exact⟨.inr (.inl ⟨Q3 b hbt,rfl,#[],kH,rfl,e2⟩),_,e2⟩
    exact⟨rfl,⟨fun b o e=>(was b o e).1,fun b o e=>(was b o e).2⟩,os,bare⟩
 have tb:∀(f:Hp),(∀T∈ts,f T=some (.tbl #[]))->∀T∈ts,fg P w f s₁.heap T (.tbl #[]):=fun f _ T hT=>ht T hT
 have dec:∀b:Addr,b∈ts\/b∉ts:=fun b=>Classical.em _
 open Classical in
 cases hk:K.lookup a with
 |some o=>
  have e:=KX a o hk
  rw[ha]at e
  cases e
  refine core (fun b=>if b∈ts then some (.tbl #[])else none) ⟨fun b=>?_,fun T hT=>aB hT⟩ (.inr ⟨_,vs.toArray,_,hk,rfl,rfl,rfl,by rw[aX,lenV];exact hl,by simpa using rv⟩) (fun b u z=>?_) (fun b z=>?_) (fun z=>?_)
  ·by_cases hb:b∈ts
   ·exact .inr (.inr ⟨hb,aB hb⟩)
   ·exact .inl (aE hb)
  ·by_cases hb:b∈ts
   ·have z':=(aB hb).symm.trans z
    cases z'
    exact ht b hb
   ·have z':=(aE hb).symm.trans z
    cases z'
  ·by_cases hb:b∈ts
   ·exact .inr hb
   ·exact absurd (aE hb) z
  ·exact absurd (aE (fun q=>hta a q rfl)) z
 |none=>
  refine core (fun b=>if b=a then some (.frz { cls:=.type "list",data:=.seq vs.toArray } (.lst (ns.map V.int)))else if b∈ts then some (.tbl #[])else none) ⟨fun b=>?_,fun T hT=>(aE (hta T hT)).trans (aB hT)⟩ (.inl (.inr ⟨{ cls:=.type "list",data:=.seq vs.toArray },aB rfl⟩)) (fun b u z=>?_) (fun b z=>?_) (fun _=>hk)
  ·by_cases hb:b=a
   ·exact .inr (.inl ⟨_,_,aB hb⟩)
   ·by_cases hb2:b∈ts
    ·exact .inr (.inr ⟨hb2,(aE hb).trans (aB hb2)⟩)
    ·exact .inl ((aE hb).trans (aE hb2))
  ·by_cases hb:b=a
   ·have z':=(aB hb).symm.trans z
    cases z'
    subst hb
    exact⟨ha,by rw[az];exact hl,vs,_,rv,ha⟩
   ·by_cases hb2:b∈ts
    ·have z':=((aE hb).trans (aB hb2)).symm.trans z
     cases z'
     exact ht b hb2
    ·have z':=((aE hb).trans (aE hb2)).symm.trans z
     cases z'
  ·by_cases hb:b=a
   ·exact .inl hb
   ·by_cases hb2:b∈ts
    ·exact .inr hb2
    ·exact absurd ((aE hb).trans (aE hb2)) z
def EQ(tc:List am)(F:List W->List am->R W):Prop:=∀ns:List Int,ns.length<=63->∃bI,F [.loc 0] (.ro (ns.map W.int)::tc)=.ok (.bl true) bI
def wD(L:List (Addr×Pos×Str)):List am:=L.map fun t=>.tab t.1 t.2.1 t.2.2
theorem walkT{l:PySem.W.OpenLaw}{k:Nat}{q:Program}{Ce:List Str}{XP:(Str->Option Value)->Heap->Prop}{YP:World->Heap->Prop}{d:DefRec}{K:Params->Frag}{x:Str}{G:List W->List am->R W}(L:List (Addr×Pos×Str))(hL:(L.map fun t=>t.1).Nodup)(hn:l.most=some 63)(RV:d.params.defaults=[])(hr:iA k callerA)
  (hY:∀(w:World) (h:Heap),YP w h->(K w.params).In h) (hT:∀(w:World) (h:Heap),YP w h->∀T∈L.map (fun t=>t.1),h.get? T=some { cls:=.none,data:=.fields #[] })
  (RW:∀(w:World),∀T∈L.map (fun t=>t.1),(K w.params).lookup T=none) (Q3:∀(w:World),∀T∈L.map (fun t=>t.1),∃c,codeHdIn (K w.params) c T=true)
  (F:∀(w:World) (mg:Str->Option Value) (fa:Addr) (h:Heap),(K w.params).In h->h.Ns mainGlobals mg->mg d.name=some (.ref fa) ->
   ∃fd:FuncData,(∀(s:Shared) (u:Value),BindsTo s fd ⟨[u],[]⟩ [(x,u)])/\∀base:Heap,(K w.params).In base->base.Ns mainGlobals mg->yu base mg->fA l.prog w (K w.params) mg base (kG l.prog w) k fa fd [x] (lc (K w.params) mg 1 G))
  (ok:EQ (wD L) G):PySem.W.WalkO q Ce XP YP l.row.toRowW d [] (fun f vs=>PySem.call f vs):=by
 refine Att.attach_call hn RV fun w s₀ s₁ mg mb fa o pm cd sO a vs ns G' Y ho hd nK hmg hobj hints cR hg=>?_
 have KX:=hY w _ Y
 obtain⟨fd,hb,hF⟩:=F w mg fa _ KX G'.T.g hmg
 refine C4 (ts:=L.map fun t=>t.1) (CX:=kG l.prog w) (sp:=lc (K w.params) mg 1 G) KX G'.T.g G'.T.b G'.T.builtins G'.T.nolimit hg hobj hints (a7 cR (by decide)) hr (hT w _ Y) (RW w) (fun T hT'=>?_) G'.T.bmain hF hb (fun H hO hS=>?_) fun H e s' z=>?_
 ·obtain⟨c,hc⟩:=Q3 w T hT'
  obtain⟨o,vs,_,_,_,_,_,_,_,e1,e2,e3,e4,_⟩:=PySem.W.codeHd_of_K KX hc
  exact⟨c,o,vs,e1,e2,e3,e4⟩
 ·obtain⟨bI,e⟩:=ok ns cR
  have Dz:QQ (K w.params) H a (ns.map V.int):=by
   rcases hS with(z|⟨o,z⟩)|z
   ·rcases hO.all a with y|⟨o,xs,y⟩|⟨_,y⟩
    ·rw[z]at y;cases y
    ·rw[z]at y;cases y
    ·rw[z]at y;cases y
   ·exact .inl ⟨o,z⟩
   ·exact .inr z
  have hta:∀T∈L.map (fun t=>t.1),T≠a:=fun T hT' z=>by
   have:=hT w _ Y T hT'
   rw[z,hobj]at this
   have h2:=fM Obj.cls (aZ this)
   cases h2
  have hri:∀μ:List Addr,RelWs (K w.params) μ H (ns.map W.int) (ns.map V.int):=fun μ=>by
   clear hS Dz e cR hints
   induction ns with
   |nil=>exact .nilI
   |cons n r ih=>exact .consI .int ih
  refine⟨rfl,a::L.map (fun t=>t.1),[.loc 0],.ro (ns.map W.int)::wD L,⟨fun i j b ci cj c1 c2 r1 r2 m1 m2=>?_,by simp[wD],fun i c b c1 c2=>?_⟩,.consI (.locI rfl) .nilI,?_⟩
  ·cases i with
   |zero=>cases c1;cases r1
   |succ i=>
    cases j with
    |zero=>cases c2;cases r2
    |succ j=>
     simp only[iz]at m1 m2
     rw[(List.getElem?_inj (aa.mp m1).1 hL).mp (m1.trans m2.symm)]
  ·cases i with
   |zero=>cases c1;cases c2;exact⟨_,Dz,hri _⟩
   |succ i=>
    simp only[iz]at c1 c2
    unfold wD at c1
    rw[ax]at c1 c2
    cases e1:L[i]? with
    |none=>rw[e1]at c1;cases c1
    |some t=>
     rw[e1]at c1 c2
     cases c1;cases c2
     exact⟨rfl,#[],hO.tab _ (aL.mpr ⟨t,aA e1,rfl⟩),trivial,.inl rfl⟩
  ·rw[e]
   intro μ' v H' _ _ _ rv
   exact rv.blE
 ·obtain⟨_,_,_,_,_,_,z,_⟩:=z
  exact z
structure ER(en dn:Str)(pr:Arguments)(b:Expr)(sc:Scope):Prop where
 co:sc.isCoroutine=false
 gen:sc.isGenerator=false
 kind:sc.kind=.function
 cell:∀x∈sc.names,x.2≠.cell
 ke:sc.names.lookup en=some .local
 kd:sc.names.lookup dn=some .free
 bind:∀(nm q:Str) (cl:List (Str×Addr)) (pm gI ct v:Value),bindArgs (PySem.W.kla_fn nm q pr b sc cl pm gI ct) ⟨[v],[]⟩=pure [(en,v)]
 nd:(dn==("__classdict__":Str))=false
 d1:(en==("__debug__":Str))=false
 d2:(dn==("__debug__":Str))=false
section
variable{X:Cx}{pins:List (Addr×Obj)}{σ:St}{H:Hp}{s:Shared}{A:Around}{E:Value->Shared->Prop}{Q:Value->Shared->Prop}
theorem yv{f c0 cd a:Addr}{en dn nm q:Str}{pr:Arguments}{p2 p3 p4:Pos}{sc:Scope}{pm ct u:Value}{kvs:List (f_×V)}{k:f_}{v:V}
  (T:ER en dn pr (.Subscript (.Name dn p2) (.Name en p3) p4) sc) (I:bt X pins σ H s)
  (hf:s.heap.get? f=some (kla_obj nm q pr (.Subscript (.Name dn p2) (.Name en p3) p4) sc [(dn,c0)] pm cd ct)) (nK:s.heap.CodeRec (.ref cd) q)
  (JB:s.heap.IsCell c0 (some (.ref a))) (ha:H a=some (.dK kvs)) (hv:jU kvs k=some v) (ru:cb (kV k) u) (nO:A.depth<recursionLimit) (hu:A.units+8<cLine)
  (h:∀z h' t,(∀b o,s.heap.get? b=some o->h'.get? b=some o)->bt X pins σ H { s with heap:=h',toks:=t }->cb v z->Q z { s with heap:=h',toks:=t }) :
  wpAny (model X.prog X.w) A (call (.ref f) [u]) Q E s:=by
 refine wpAny_call ?_
 refine PySem.W.kla_callFunE nO hf rfl T.co T.gen rfl nK ?_
 rw[T.bind]
 refine aJ (jr T.cell (fun y hy=>?_) (fun h₁ QJ hsb=>?_) T.kind)
 ·have:y=(en,u):=by simpa using hy
  rw[this];exact T.ke
 ·have hk1:∀b o,s.heap.get? b=some o->h₁.get? b=some o:=fun b o e=>hsb.extBut b o (be (aI e)) (ar _ e)
  have I1:bt X pins σ H { s with heap:=h₁,toks:=s.toks+[(en,u)].length }:=I.kept hk1
  refine⟨I1.nolimit,PySem.W.kla_codeExpr ?_⟩
  obtain⟨z0,hd,vs,rel,dd⟩:=oJ I1.hok (.inl ha)
  refine Bo PySem.F.slot_dict_getitem.lookup (fun _ _=>rfl) (l_ ?_ T.d2)
  refine wpAny_loadName_free (c:=c0) (v:=.ref a) T.kind ?_ ?_ (JB.keeps hk1) ?_ T.nd
  ·show List.lookup dn sc.names=some .free
   exact T.kd
  ·show List.lookup dn [(dn,c0)]=some c0
   simp[List.lookup]
  refine l_ ?_ T.d1
  refine wpAny_loadName_local (v:=u) T.kind ?_ QJ ?_ ?_
  ·show List.lookup en sc.names=some .local
   exact T.ke
  ·simp[List.lookup]
  obtain⟨z,hz,rz⟩:=pd.some_of (v:=v) (o:=valueAt vs k) (by rw[<- hv];exact rel.val k)
  refine⟨dd.typeIs,wpAny_getItem_of (pP ru) dd.mapOf hz ?_⟩
  exact h z h₁ _ hk1 (I1.tok _) rz
def kc(kf:Nat->List Int):Nat->Nat
 |0=>0
 |j+1=>if HT.lexLt (kf (j+1)) (kf (kc kf j))=true then j+1 else kc kf j
theorem wE(kf:Nat->List Int):∀j,kc kf j<=j
 |0=>ay _
 |j+1=>by unfold kc;have:=wE kf j;split<;>omega
theorem wF{P:Program}{w:World}{k:f_}{v:Value}(h:(d8 P w).is k v=true):cb (kV k) v:=by
 rcases eX h with⟨i,t,rfl,rfl⟩|⟨x,t,rfl,rfl⟩
 ·exact⟨t,rfl⟩
 ·exact⟨t,rfl⟩
structure nA(X:Cx)(pins:List (Addr×Obj))(σ:St)(H:Hp)(s:Shared)(f c0 cd a it:Addr)(fo:Obj)(q:Str)(vs:List (f_×Value))(ep j:Nat):Prop where
 inv:bt X pins σ H s
 fn:s.heap.get? f=some fo
 code:s.heap.CodeRec (.ref cd) q
 cell:s.heap.IsCell c0 (some (.ref a))
 dict:s.heap.DictAt (d8 X.prog X.w) a vs ep
 iter:s.heap.IsKeyIter it a j vs.length ep
theorem nA.go{f c0 cd a it:Addr}{fo:Obj}{q:Str}{vs:List (f_×Value)}{ep j j':Nat}{h':Heap}{t':Nat}{b0:Addr}(M:nA X pins σ H s f c0 cd a it fo q vs ep j)(I:bt X pins σ H { s with heap:=h',toks:=t' })
  (k:∀b o,b≠b0->s.heap.get? b=some o->h'.get? b=some o) (n1:f≠b0) (n2:cd≠b0) (n3:c0≠b0) (n4:a≠b0) (hi:h'.IsKeyIter it a j' vs.length ep):nA X pins σ H { s with heap:=h',toks:=t' } f c0 cd a it fo q vs ep j':=by
 obtain⟨c2,oc,ws,tt,e2,hoc,hd,hv⟩:=M.code
 cases e2
 refine⟨I,k f _ n1 M.fn,⟨_,oc,ws,tt,rfl,k _ _ n2 hoc,hd,hv⟩,?_,M.dict.at' fun o e=>k a o n4 e,hi⟩
 obtain⟨o,ho,hd⟩:=M.cell
 exact⟨o,k c0 o n3 ho,hd⟩
theorem ES{f c0 cd a it ls:Addr}{en dn nm q:Str}{pr:Arguments}{p2 p3 p4:Pos}{sc:Scope}{pm ct:Value}{kvs:List (f_×V)}{vs:List (f_×Value)}{ep:Nat}{kf:Nat->List Int}{tv:Nat->Addr}{R:Result->Shared->Prop}{g0:Array GenState}{d0:Drawn}{sN:OsState}
  (T:ER en dn pr (.Subscript (.Name dn p2) (.Name en p3) p4) sc) (hh:A.handled=none) (nO:A.depth<recursionLimit) (hu:A.units+16<cLine) (ha:H a=some (.dK kvs)) (rel:KV kvs vs) (DF:(kvs.map (·.1)).Nodup)
  (A_:∀(i:Nat) (k:f_) (x:V),kvs[i]?=some (k,x)->x=.ref (tv i)/\fS X.K H (tv i) ((kf i).map V.int))
  (xS:pf X pins H it) (xR:pf X pins H ls) (Nr:it≠ls) (nf:f≠it/\f≠ls) (NS:cd≠it/\cd≠ls) (NW:c0≠it/\c0≠ls)
  (hR:∀v h t k x,kvs[kc kf (kvs.length-1)]?=some (k,x)->cb (kV k) v->bt X pins σ H ⟨h,g0,d0,t,sN⟩->R (.ok (.ret v)) ⟨h,g0,d0,t,sN⟩) :
  ∀(r j:Nat) (h:Heap) (t:Nat) (vb:Value) (c:Nat),kvs.length-(j+1)=r->j+1<=kvs.length->nA X pins σ H ⟨h,g0,d0,t,sN⟩ f c0 cd a it (kla_obj nm q pr (.Subscript (.Name dn p2) (.Name en p3) p4) sc [(dn,c0)] pm cd ct) q vs ep (j+1) ->
   h.get? ls=some (seqObj "list" #[vb,.ref (tv (kc kf j))] c)->(∀k x,kvs[kc kf j]?=some (k,x)->cb (kV k) vb) ->
   codeAny (model X.prog X.w) A (.builtin "min.loop" ⟨[.ref it,.ref f,.ref ls],[]⟩) R ⟨h,g0,d0,t,sN⟩:=by
 have hname:(toString "min"++toString ".loop":String)="min.loop":=by decide
 have hna:a≠it/\a≠ls:=⟨fun z=>(by rw[z,xS.1]at ha;cases ha),fun z=>(by rw[z,xR.1]at ha;cases ha)⟩
 have cR:kvs.length=vs.length:=rel.length
 intro r
 induction r with
 |zero=>
  intro j h t vb c hr hj M hls hvb
  have hin:j+1=kvs.length:=by omega
  refine jE PySem.F.entry_min_loop ?_
  rw[js PySem.F.plain_min_loop _]
  show wpAny _ A.in1 (seqItems? (.ref ls) >>= _) _ _ _
  refine ak (iS hls rfl ?_)
  show wpAny _ A.in1 (tryCatch (pyNext (.ref it)) _ >>= _) _ _ _
  refine ak (gP (mY hh M.iter M.dict (by rw[bO];omega) fun h1 hk1=>?_))
  have I1:bt X pins σ H ⟨h1,g0,d0,t,sN⟩:=M.inv.turned (it:=it) (fun b o hb e=>hk1 b o hb e) xS.1 xS.2.1 xS.2.2.2.1 xS.2.2.2.2.1 xS.2.2.2.2.2
  have hls1:=hk1 ls _ (Ne.symm Nr) hls
  show wpAny _ A.in1 (updateSeq ls (fun _=>#[]) >>= _) _ _ _
  refine ak ?_
  refine mR hls1 rfl (ak (nV (aJ ?_)))
  have sb:=eR h1 ls (Obj.mapSeq fun _=>(#[]:Array Value))
  obtain⟨⟨k,x⟩,hx⟩:∃p,kvs[kc kf j]?=some p:=⟨_,ae (by have:=wE kf j;omega)⟩
  refine hR vb _ _ k x (by rw[show kvs.length-1=j by omega];exact hx) (hvb k x hx) ?_
  exact I1.turned (it:=ls) (fun b o hb e=>sb.extBut b o hb e) xR.1 xR.2.1 xR.2.2.2.1 xR.2.2.2.2.1 xR.2.2.2.2.2
 |succ r ih=>
  intro j h t vb c hr hj M hls hvb
  have kE:j+1<kvs.length:=by omega
  obtain⟨⟨k,x⟩,hx⟩:∃p,kvs[j+1]?=some p:=⟨_,ae kE⟩
  obtain⟨⟨k',y⟩,hy⟩:∃p,vs[j+1]?=some p:=⟨_,ae (by omega)⟩
  have ek:k=k':=by
   have:=fM (fun l:List f_=>l[j+1]?) rel.keys
   simp only[ax,hx,hy]at this
   exact aZ this
  subst ek
  obtain⟨rfl,hS⟩:=A_ (j+1) k x hx
  refine jE PySem.F.entry_min_loop ?_
  rw[js PySem.F.plain_min_loop _]
  show wpAny _ A.in1 (seqItems? (.ref ls) >>= _) _ _ _
  refine ak (iS hls rfl ?_)
  show wpAny _ A.in1 (tryCatch (pyNext (.ref it)) _ >>= _) _ _ _
  refine ak (gP (iW M.iter M.dict hy fun v h1 hv hit1 oI=>?_))
  have rv:cb (kV k) v:=wF hv
  have I1:bt X pins σ H ⟨h1,g0,d0,t,sN⟩:=M.inv.turned (it:=it) (fun b o hb e=>oI.extBut b o hb e) xS.1 xS.2.1 xS.2.2.2.1 xS.2.2.2.2.1 xS.2.2.2.2.2
  have M1:nA X pins σ H ⟨h1,g0,d0,t,sN⟩ f c0 cd a it _ q vs ep (j+1+1):=M.go (s:=⟨h,g0,d0,t,sN⟩) (b0:=it) I1 (fun b o hb e=>oI.extBut b o hb e) nf.1 NS.1 NW.1 hna.1 hit1
  have hls1:=oI.extBut ls _ (Ne.symm Nr) hls
  have hvk:jU kvs k=some (.ref (tv (j+1))):=by
   unfold jU
   have hm:(k,V.ref (tv (j+1)))∈kvs:=aA hx
   cases hf:kvs.find? (fun kv=>decide (kv.1=k))with
   |none=>
    have:=List.find?_eq_none.mp hf _ hm
    simp at this
   |some p=>
    have h1:=List.find?_some hf
    have h2:=List.mem_of_find?_eq_some hf
    have e1:p.1=k:=by simpa using h1
    obtain⟨i1,hi1⟩:=br h2
    have e2:i1=j+1:=by
     refine(List.getElem?_inj (l:=kvs.map (·.1)) (by rw[az];exact(aa.mp hi1).1) DF).mp ?_
     rw[ax,ax,hi1,hx]
     show some p.1=some k
     rw[e1]
    subst e2
    rw[hx]at hi1;cases hi1;rfl
  show wpAny _ A.in1 (tryCatch (holding [v] (call (.ref f) [v])) _ >>= _) _ _ _
  refine ak (gP (eA (yv T M1.inv M1.fn M1.code M1.cell ha hvk rv nO (by show A.units+1+8<cLine;omega) fun z h2 t2 DB I2 rz=>?_)))
  obtain rfl:z=Value.ref (tv (j+1)):=rz
  have M2:nA X pins σ H ⟨h2,g0,d0,t2,sN⟩ f c0 cd a it _ q vs ep (j+1+1):=M1.go (s:=⟨h1,g0,d0,t,sN⟩) (b0:=h1.objs.size) I2 (fun b o _ e=>DB b o e)
   (fun q=>by have:=aI M1.fn;rw[q]at this;exact bo _ this) (fun q=>by obtain⟨_,_,_,_,e2,ho,_⟩:=M1.code;cases e2;have:=aI ho;rw[q]at this;exact bo _ this) (fun q=>by have:=M1.cell.lt;rw[q]at this;exact bo _ this)
   (fun q=>by obtain⟨o,_,ho,_⟩:=M1.dict;have:=aI ho;rw[q]at this;exact bo _ this) (by obtain⟨o,ho,r1,r2⟩:=hit1;exact⟨o,DB _ _ ho,r1,r2⟩)
  have hls2:=DB ls _ hls1
  obtain⟨⟨kb,xb⟩,hxb⟩:∃p,kvs[kc kf j]?=some p:=⟨_,ae (by have:=wE kf j;omega)⟩
  obtain⟨rfl,hSb⟩:=A_ (kc kf j) kb xb hxb
  obtain⟨bJ,r1,p1,_⟩:=I2.tuple hS
  obtain⟨its2,r2,p2,_⟩:=I2.tuple hSb
  have i1:IntsAre bJ.toArray.toList (kf (j+1)):=lF r1
  have i2:IntsAre its2.toArray.toList (kf (kc kf j)):=lF r2
  show wpAny _ A.in1 (tryCatch (holding [v,.ref (tv (j+1))] (richCompare .Lt (.ref (tv (j+1))) (.ref (tv (kc kf j))) >>= _)) _ >>= _) _ _ _
  refine ak (gP (eA (ak ?_)))
  refine HT.lt_tupInts p1 p2 i1 i2 (by show A.units+1<cLine;omega) ?_
  refine ak (eA (fL ?_))
  refine ak (nV (aJ ?_))
  by_cases hb:HT.lexLt (kf (j+1)) (kf (kc kf j))=true
  ·have em:kc kf (j+1)=j+1:=by show(if _ then _ else _)=_;rw[aB hb]
   have sb:=eR h2 ls (Obj.mapSeq fun _=>#[v,Value.ref (tv (j+1))])
   obtain⟨c2,hc2⟩:∃c2,(h2.update ls (Obj.mapSeq fun _=>#[v,Value.ref (tv (j+1))])).get? ls=some (seqObj "list" #[v,.ref (tv (j+1))] c2):=⟨_,get?_update_seq hls2 fun _=>#[v,Value.ref (tv (j+1))]⟩
   simp only[hb,fN]
   refine ak ?_
   refine mR hls2 rfl (ak (nV ?_))
   rw[hname]
   have I3:bt X pins σ H ⟨h2.update ls (Obj.mapSeq fun _=>#[v,Value.ref (tv (j+1))]),g0,d0,t2,sN⟩:=I2.turned (it:=ls) (fun b o hb e=>sb.extBut b o hb e) xR.1 xR.2.1 xR.2.2.2.1 xR.2.2.2.2.1 xR.2.2.2.2.2
   have M3:nA X pins σ H ⟨h2.update ls (Obj.mapSeq fun _=>#[v,Value.ref (tv (j+1))]),g0,d0,t2,sN⟩ f c0 cd a it _ q vs ep (j+1+1):=
    M2.go (s:=⟨h2,g0,d0,t2,sN⟩) (b0:=ls) I3 (fun b o hb e=>sb.extBut b o hb e) nf.2 NS.2 NW.2 hna.2 (by obtain⟨o,ho,r1,r2⟩:=M2.iter;exact⟨o,sb.extBut _ _ Nr ho,r1,r2⟩)
   exact aJ ⟨k_ PySem.F.plain_min_loop _,ih (j+1) _ _ v c2 (by omega) kE M3 (by rw[em];exact hc2) fun k2 x2 e2=>by rw[em,hx]at e2;cases e2;exact rv⟩
  ·have em:kc kf (j+1)=kc kf j:=by show(if _ then _ else _)=_;rw[aE hb]
   simp only[hb,Bool.false_eq_true,lv]
   refine ak (nV ?_)
   rw[hname]
   exact aJ ⟨k_ PySem.F.plain_min_loop _,ih (j+1) _ _ vb c (by omega) kE M2 (by rw[em];exact hls2) fun k2 x2 e2=>by rw[em]at e2;exact hvb k2 x2 e2⟩
theorem ET{f c0 cd a:Addr}{en dn nm q:Str}{pr:Arguments}{p2 p3 p4:Pos}{sc:Scope}{pm ct:Value}{kvs:List (f_×V)}{kf:Nat->List Int}{tv:Nat->Addr}
  (T:ER en dn pr (.Subscript (.Name dn p2) (.Name en p3) p4) sc) (hh:A.handled=none) (nO:A.depth<recursionLimit) (hu:A.units+16<cLine) (I:bt X pins σ H s) (ha:H a=some (.dK kvs))
  (hf:s.heap.get? f=some (kla_obj nm q pr (.Subscript (.Name dn p2) (.Name en p3) p4) sc [(dn,c0)] pm cd ct)) (nK:s.heap.CodeRec (.ref cd) q) (JB:s.heap.IsCell c0 (some (.ref a))) (oz:0<kvs.length)
  (A_:∀(i:Nat) (k:f_) (x:V),kvs[i]?=some (k,x)->x=.ref (tv i)/\fS X.K H (tv i) ((kf i).map V.int))
  (hQ:∀v h t k x,kvs[kc kf (kvs.length-1)]?=some (k,x)->cb (kV k) v->bt X pins σ H { s with heap:=h,toks:=t }->Q v { s with heap:=h,toks:=t }) :
  wpAny (model X.prog X.w) A (call (.builtin "min") [.ref a] [(Str.ofString "key",.ref f)]) Q E s:=by
 have hname:(toString "min"++toString ".loop":String)="min.loop":=by decide
 obtain⟨hz,hsys,vs,rel,o,es,ep,hdo⟩:=oJ I.hok (.inl ha)
 have dd:s.heap.DictAt (d8 X.prog X.w) a vs ep:=⟨o,es,hdo⟩
 have DF:(kvs.map (·.1)).Nodup:=by rw[rel.keys];exact hdo.2.2.2.2.2
 have cR:kvs.length=vs.length:=rel.length
 obtain⟨h0,g0,d0,t0,sN⟩:=s
 refine kmk_tree PySem.F.kind_min PySem.F.plain_min PySem.F.entry_min (kmk_min_key _ _) ?_
 show wpAny _ A.in1 (Builtin.Builtins.bindParams "min" ["key","default"] 0 ⟨[],[(Str.ofString "key",.ref f)]⟩ >>= _) _ _ _
 refine ak (gb (show Builtin.Builtins.bindParams "min" ["key","default"] 0 ⟨[],[(Str.ofString "key",.ref f)]⟩=pure [some (.ref f),none]from rfl) ?_)
 refine ak (aJ ?_)
 refine ak (wpAny_pyIter_dict hsys dd ?_)
 refine ak (wpAny_newList ?_ (b_ _))
 rw[hname]
 dsimp only
 generalize hG1:h0.push { cls:=.type "dict_keyiterator",data:=.fields #[.ref a,.int 0 0,.int vs.length 0,.int ep 0] }=G1
 have sz1:G1.objs.size=h0.objs.size+1:=by rw[<- hG1,iR]
 have k1:∀b o,h0.get? b=some o->(G1.push { cls:=.type "list",data:=.seq ([]:List Value).toArray }).get? b=some o:=fun b o e=>ar _ (hG1▸ar _ e)
 have git:(G1.push { cls:=.type "list",data:=.seq ([]:List Value).toArray }).get? h0.objs.size=some { cls:=.type "dict_keyiterator",data:=.fields #[.ref a,.int 0 0,.int vs.length 0,.int ep 0] }:=ar _ (hG1▸aR _ rfl)
 have gls:(G1.push { cls:=.type "list",data:=.seq ([]:List Value).toArray }).get? G1.objs.size=some (seqObj "list" #[] 0):=aR _ rfl
 generalize hG2:G1.push { cls:=.type "list",data:=.seq ([]:List Value).toArray }=G2 at k1 git gls
 have I2:bt X pins σ H ⟨G2,g0,d0,t0,sN⟩:=I.kept k1
 have Nr:h0.objs.size≠G1.objs.size:=by omega
 have xS:pf X pins H h0.objs.size:=I.fpOk (ay _) I.fresh
 have xR:pf X pins H G1.objs.size:=I.fpOk (by show h0.objs.size<=_;omega) (I.hok.fresh (by show h0.objs.size<=_;omega))
 have old:∀b o,h0.get? b=some o->b≠h0.objs.size/\b≠G1.objs.size:=fun b o e=>⟨be (aI e),be (by rw[sz1];exact fO (aI e))⟩
 obtain⟨c2,oc,ws,tt,e2,hoc,hdc,hvc⟩:=id nK
 cases e2
 obtain⟨oc0,hoc0,hdc0⟩:=id JB
 have M0:nA X pins σ H ⟨G2,g0,d0,t0,sN⟩ f c0 cd a h0.objs.size (kla_obj nm q pr (.Subscript (.Name dn p2) (.Name en p3) p4) sc [(dn,c0)] pm cd ct) q vs ep 0:=
  ⟨I2,k1 _ _ hf,⟨_,oc,ws,tt,rfl,k1 _ _ hoc,hdc,hvc⟩,JB.keeps k1,dd.at' fun o e=>k1 a o e,⟨_,git,rfl,rfl⟩⟩
 refine aJ ⟨k_ PySem.F.plain_min_loop _,?_⟩
 obtain⟨⟨k,x⟩,hx⟩:∃p,kvs[0]?=some p:=⟨_,ae oz⟩
 obtain⟨⟨k',y⟩,hy⟩:∃p,vs[0]?=some p:=⟨_,ae (by omega)⟩
 have ek:k=k':=by
  have:=fM (fun l:List f_=>l[0]?) rel.keys
  simp only[ax,hx,hy]at this
  exact aZ this
 subst ek
 obtain⟨rfl,hS⟩:=A_ 0 k x hx
 have hvk:jU kvs k=some (.ref (tv 0)):=by
  cases kvs with
  |nil=>cases hx
  |cons p r=>
   have:p=(k,.ref (tv 0)):=aZ hx
   subst this
   exact m_ rfl
 refine jE PySem.F.entry_min_loop ?_
 rw[js PySem.F.plain_min_loop _]
 show wpAny _ A.in1 (seqItems? (.ref G1.objs.size) >>= _) _ _ _
 refine ak (iS gls rfl ?_)
 show wpAny _ A.in1 (tryCatch (pyNext (.ref h0.objs.size)) _ >>= _) _ _ _
 refine ak (gP (iW M0.iter M0.dict hy fun v h1 hv hit1 oI=>?_))
 have rv:cb (kV k) v:=wF hv
 have I1:bt X pins σ H ⟨h1,g0,d0,t0,sN⟩:=M0.inv.turned (it:=h0.objs.size) (fun b o hb e=>oI.extBut b o hb e) xS.1 xS.2.1 xS.2.2.2.1 xS.2.2.2.2.1 xS.2.2.2.2.2
 have nf:=old f _ hf
 have NS:=old cd _ hoc
 have NW:=old c0 _ hoc0
 have na:=old a _ hdo.1
 have M1:nA X pins σ H ⟨h1,g0,d0,t0,sN⟩ f c0 cd a h0.objs.size _ q vs ep (0+1):=M0.go (s:=⟨G2,g0,d0,t0,sN⟩) (b0:=h0.objs.size) I1 (fun b o hb e=>oI.extBut b o hb e) nf.1 NS.1 NW.1 na.1 hit1
 have hls1:=oI.extBut _ _ (Ne.symm Nr) gls
 show wpAny _ A.in1 (tryCatch (holding [v] (call (.ref f) [v])) _ >>= _) _ _ _
 refine ak (gP (eA (yv T M1.inv M1.fn M1.code M1.cell ha hvk rv nO (by show A.units+1+8<cLine;omega) fun z h2 t2 DB I2' rz=>?_)))
 obtain rfl:z=Value.ref (tv 0):=rz
 have M2:nA X pins σ H ⟨h2,g0,d0,t2,sN⟩ f c0 cd a h0.objs.size _ q vs ep (0+1):=M1.go (s:=⟨h1,g0,d0,t0,sN⟩) (b0:=h1.objs.size) I2' (fun b o _ e=>DB b o e)
  (fun q=>by have:=aI M1.fn;rw[q]at this;exact bo _ this) (fun q=>by obtain⟨_,_,_,_,e2,ho,_⟩:=M1.code;cases e2;have:=aI ho;rw[q]at this;exact bo _ this) (fun q=>by have:=M1.cell.lt;rw[q]at this;exact bo _ this)
  (fun q=>by obtain⟨o,_,ho,_⟩:=M1.dict;have:=aI ho;rw[q]at this;exact bo _ this) (by obtain⟨o,ho,r1,r2⟩:=hit1;exact⟨o,DB _ _ ho,r1,r2⟩)
 have hls2:=DB _ _ hls1
 have sb:=eR h2 G1.objs.size (Obj.mapSeq fun _=>#[v,Value.ref (tv 0)])
 obtain⟨c3,hc3⟩:∃c3,(h2.update G1.objs.size (Obj.mapSeq fun _=>#[v,Value.ref (tv 0)])).get? G1.objs.size=some (seqObj "list" #[v,.ref (tv 0)] c3):=⟨_,get?_update_seq hls2 fun _=>#[v,Value.ref (tv 0)]⟩
 show wpAny _ A.in1 (updateSeq G1.objs.size (fun _=>#[v,Value.ref (tv 0)]) >>= _) _ _ _
 refine ak ?_
 refine mR hls2 rfl ?_
 rw[hname]
 have I3:bt X pins σ H ⟨h2.update G1.objs.size (Obj.mapSeq fun _=>#[v,Value.ref (tv 0)]),g0,d0,t2,sN⟩:=I2'.turned (it:=G1.objs.size) (fun b o hb e=>sb.extBut b o hb e) xR.1 xR.2.1 xR.2.2.2.1 xR.2.2.2.2.1 xR.2.2.2.2.2
 have M3:nA X pins σ H ⟨h2.update G1.objs.size (Obj.mapSeq fun _=>#[v,Value.ref (tv 0)]),g0,d0,t2,sN⟩ f c0 cd a h0.objs.size _ q vs ep (0+1):=
  M2.go (s:=⟨h2,g0,d0,t2,sN⟩) (b0:=G1.objs.size) I3 (fun b o hb e=>sb.extBut b o hb e) nf.2 NS.2 NW.2 na.2 (by obtain⟨o,ho,r1,r2⟩:=M2.iter;exact⟨o,sb.extBut _ _ Nr ho,r1,r2⟩)
 exact aJ ⟨k_ PySem.F.plain_min_loop _,ES T hh nO hu ha rel DF A_ xS xR Nr nf NS NW (fun v h t k x e1 e2 e3=>hQ v h t k x e1 e2 e3) _ 0 _ _ v c3 rfl (by omega) M3 hc3 fun k2 x2 e2=>by rw[show kc kf 0=0 from rfl,hx]at e2;cases e2;exact rv⟩
end
abbrev EU(ns:List (Str×NameKind)):Scope:=⟨.function,ns,false,false,[]⟩
def RM(K:Frag)(fd:FuncData)(P:Addr):Prop:=∃c,fd.code=.ref c/\codeHdIn K c P=true/\K.lookup P=none
theorem wG{a b:Int}{t u:Tok}{c:Value}(l:List Value)(h:TriplesOk l):TriplesOk (l++[.int a t,.int b u,c]):=by
 fun_induction TriplesOk l with
 |case1=>exact trivial
 |case2 _ _ _ _ _ fz ih=>exact ih h
 |case3=>exact h.elim
section
variable{K:Frag}{mg:Str->Option Value}{μ:List Addr}{st:List am}{H:Hp}
abbrev uT(H:Hp)(P cd:Addr)(q:Str)(ps:Array Value)(pos:Pos):Hp:=eS (eS H cd (oN cd q)) P (.tbl (ps++#[rawInt pos.line,rawInt pos.col,.ref cd]))
theorem sD{P cd b:Addr}{q:Str}{ps:Array Value}{pos:Pos}(n1:b≠P)(n2:b≠cd):uT H P cd q ps pos b=H b:=by
 show eS (eS H cd _) P _ b=_
 rw[bX n1,bX n2]
theorem EV{P cd:Addr}{q:Str}{ps:Array Value}{pos:Pos}:uT H P cd q ps pos P=some (.tbl (ps++#[rawInt pos.line,rawInt pos.col,.ref cd])):=dC
theorem BI{P cd:Addr}{q:Str}{ps:Array Value}{pos:Pos}(h:P≠cd):uT H P cd q ps pos cd=some (oN cd q):=by
 show eS (eS H cd _) P _ cd=_
 rw[bX (Ne.symm h),dC]
theorem fS.butT{l:Addr}{xs:Array Value}{H':Hp}(e:QO l H H')(hl:H l=some (.tbl xs)):eD K H H':=by
 have oz:∀{p:Addr} {o:HO},H p=some o->(∀zs,o≠.tbl zs)->p≠l:=fun{p o} q hn z=>by subst z;rw[hl]at q;cases q;exact hn _ rfl
 refine⟨fun p ys h=>?_,fun b o u h=>e _ _ (oz h (fun _ z=>by cases z)) h⟩
 rcases h with(h|⟨o,h⟩)|h
 ·exact .inl (.inl (e _ _ (oz h (fun _ z=>by cases z)) h))
 ·exact .inl (.inr ⟨o,e _ _ (oz h (fun _ z=>by cases z)) h⟩)
 ·exact .inr h
theorem yw{α:Type}{l:List α}{i:Nat}{x:α}(h:l[i]?=some x):l.set i x=l:=by
 refine gE fun j=>?_
 by_cases e:i=j
 ·subst e;rw[ba (aa.mp h).1,h]
 ·rw[aQ e]
theorem gT.tabbed{i:Nat}{P cd:Addr}{pos:Pos}{q:Str}{ps:Array Value}(S:gT K mg μ st H)(hi:st[i]?=some (.tab P pos q))(hP:H P=some (.tbl ps))(nK:H cd=none)(ht:TriplesOk ps.toList)(hn:codeAmong pos ps.toList=none) :
  gT K mg μ st (uT H P cd q ps pos)/\eD K H (uT H P cd q ps pos):=by
 have hs:qI H (eS H cd (oN cd q)):=cN nK _
 have oz:P≠cd:=fun z=>by rw[z,nK]at hP;cases hP
 have hP1:eS H cd (oN cd q) P=some (.tbl ps):=hs _ _ hP
 have hx:eD K (eS H cd (oN cd q)) (uT H P cd q ps pos):=fS.butT ig hP1
 obtain⟨a,hm,ea,_⟩:=S.get hi
 subst ea
 have:=(S.same hs).setG (c':=.tab a pos q) hi rfl hm hP1 (fun _ _ z=>by cases z) (fun _ z=>by cases z) hx rfl ⟨rfl,_,dC,?_,.inr ⟨cd,?_,?_⟩⟩
 ·rw[yw hi]at this
  exact⟨this,(fS.same hs).trans hx⟩
 ·rw[Array.toList_append];exact wG _ ht
 ·rw[Array.toList_append];exact codeAmong_snoc _ ht hn
 ·exact BI oz
end
section
variable{X:Cx}{pins:List (Addr×Obj)}{σ:St}{H:Hp}{s:Shared}{E:Value->Shared->Prop}{Q:Value->Shared->Prop}
theorem bt.tabbed{h':Heap}{t':Nat}{P cd:Addr}{pos:Pos}{q:Str}{ps:Array Value}(I:bt X pins σ H s)(hP:H P=some (.tbl ps))(Qn:s.heap.objs.size<=cd)(hx:∀b o,b≠P->s.heap.get? b=some o->h'.get? b=some o)
  (G6:h'.CodeRec (.ref cd) q) (KP:h'.get? P=some { cls:=.none,data:=.fields (ps++#[rawInt pos.line,rawInt pos.col,.ref cd]) }):bt X pins σ (uT H P cd q ps pos) { s with heap:=h',toks:=t' }:=by
 have nK:H cd=none:=I.hok.fresh Qn
 have oz:P≠cd:=fun z=>by rw[z,nK]at hP;cases hP
 have notP:∀b,H b=none->b≠P:=fun b n z=>by rw[z,hP]at n;cases n
 have old:∀b o,s.heap.get? b=some o->b≠cd:=fun b o e=>be (aV (aI e) Qn)
 have keepH:∀b u,H b=some u->b≠P->uT H P cd q ps pos b=some u:=fun b u e n=>by
  rw[sD n (fun z=>by rw[z,nK]at e;cases e)];exact e
 have Hcd:uT H P cd q ps pos cd=some (oN cd q):=BI oz
 refine I.call' (ch:=[]) rfl ⟨fun b o e n hb hx'=>hx b o (notP b n) e,fun b o e n hb hx'=>⟨o.slots,hx b o (notP b n) e⟩,fun b o e n hx'=>?_,fun b o e hx'=>?_,fun b xs e=>?_,fun b o u e=>?_,fun b ps' e=>?_⟩ (fun b u e=>?_) I.bare fun b hb=>absurd hb (by simp)
 ·rw[sD (notP b n) (old b o e)];exact n
 ·by_cases hb:b=P
  ·subst hb;exact⟨_,KP⟩
  ·exact⟨o,hx b o hb e⟩
 ·exact keepH b _ e fun z=>by rw[z,hP]at e;cases e
 ·exact keepH b _ e fun z=>by rw[z,hP]at e;cases e
 ·by_cases hb:b=P
  ·subst hb
   rw[hP]at e;cases e
   exact⟨_,EV⟩
  ·exact⟨#[],by rw[keepH b _ e hb];simp⟩
 ·by_cases hb:b=P
  ·subst hb
   rw[EV]at e;cases e
   exact KP
  ·by_cases hb2:b=cd
   ·subst hb2
    rw[Hcd]at e;cases e
    obtain⟨c2,oc,vs,t,e2,hoc,hd,hv⟩:=G6
    cases e2
    refine⟨⟨oc,vs,t,hoc,hd,hv⟩,⟨oc,hoc⟩,fun h1 h2 p k=>?_⟩
    obtain⟨o,vs,t,ho,r⟩:=p
    exact⟨o,vs,t,k o ho,r⟩
   ·rw[sD hb hb2]at e
    refine(I.hok b u e).stay (fun c v hc q'=>hx c v (fun z=>?_) q') (fun c q'=>keepH c _ q' fun z=>by rw[z,hP]at q';cases q') fun c xs q'=>keepH c _ q' fun z=>by rw[z,hP]at q';cases q'
    rcases hc with rfl|hc
    ·exact hb z
    ·rw[z,hP]at hc;cases hc
theorem EW{P c:Addr}{pr:Arguments}{b:Expr}{sc:Scope}{u5:Pos}{cl:List (Str×Addr)}{q:Str}{ps:Array Value}(Nz:defaultsOf pr X.env=([],[]))(hq:X.env.qual++"<lambda>"=q)(Cc:X.env.code=.ref c)(RQ:codeHdIn X.K c P=true)(Sl:X.K.lookup P=none)(hB:yu X.base X.mg)
  (oW:closureFor sc X.env=pure cl) (I:bt X pins σ H s) (hP:H P=some (.tbl ps)) (ht:TriplesOk ps.toList) (RZ:codeAmong u5 ps.toList=none\/∃cd,codeAmong u5 ps.toList=some (.ref cd)/\H cd=some (oN cd q))
  (h:∀f cd ct pm h' t H',((codeAmong u5 ps.toList=none/\H cd=none/\H'=uT H P cd q ps u5)\/H'=H)->bt X pins σ H' { s with heap:=h',toks:=t }->h'.get? f=some (kla_obj "<lambda>" q pr b sc cl pm cd ct)->h'.CodeRec (.ref cd) q ->
   (∀b o,b≠P->s.heap.get? b=some o->h'.get? b=some o)->Q (.ref f) { s with heap:=h',toks:=t }) :
  wpAny (model X.prog X.w) X.A (eval (.Lambda pr b sc u5) X.env) Q E s:=by
 subst hq
 have hPo:s.heap.get? P=some { cls:=.none,data:=.fields ps }:=I.hok P _ hP
 have hgs:s.heap.Ns mainGlobals X.mg:=I.mod.glob.keeps I.bk
 have hgP:mainGlobals≠P:=fun z=>by
  obtain⟨o,es,ep,e,hd,_⟩:=hgs
  rw[z,hPo]at e;cases e;cases hd
 obtain⟨bm,ob,b1,b2,b4,b5,b6,b7⟩:=hB
 have b4':=I.bk _ _ b4
 have hbP:bm≠P:=fun z=>by rw[z,hPo]at b4';cases b4';cases b5
 have b3:bm≠mainGlobals:=fun z=>by
  obtain⟨o,es,ep,e,hd,_⟩:=hgs
  rw[z,e]at b4';cases b4';rw[b7]at hd;cases hd
 have hb:s.heap.BuiltinsAt X.mg P:=⟨bm,ob,b1,b2,b3,hbP,b4',b5,b6,b7⟩
 have CH:=PySem.W.codeHd_of_K I.kIn RQ
 refine PySem.W.kla_eval Nz ?_
 rcases RZ with hn|⟨cd,hhit,hH⟩
 ·refine PySem.W.kla_makeFunction (mg:=X.mg) oW I.ok.glob hgs Cc CH hPo ht hn hgP hb fun cd ct h' tk hx Qn kE G6 KP=>?_
  have hx':∀b o,b≠P->s.heap.get? b=some o->h'.get? b=some o:=fun b o hb e=>hx b o hb e
  have hrec2:(h'.push (kla_obj "<lambda>" (X.env.qual++"<lambda>") pr b sc cl ((X.mg "__name__").getD .none) cd ct)).CodeRec (.ref cd) (X.env.qual++"<lambda>"):=by
   obtain⟨c2,oc,vs,t,e2,hoc,hd,hv⟩:=G6
   exact⟨c2,oc,vs,t,e2,ar _ hoc,hd,hv⟩
  exact h _ cd ct _ _ tk _ (.inl ⟨hn,I.hok.fresh Qn,rfl⟩) (I.tabbed hP Qn (fun b o hb e=>ar _ (hx' b o hb e)) hrec2 (ar _ KP)) (aR _ rfl) hrec2 fun b o hb e=>ar _ (hx' b o hb e)
 ·refine PySem.W.kla_makeFunctionHit (mg:=X.mg) oW I.ok.glob hgs Cc CH hPo ht hhit hb fun ct h' tk hk hsz=>?_
  obtain⟨⟨oc,vs,t,hoc,hd,hv⟩,_⟩:=I.hok cd _ hH
  exact h _ cd ct _ _ tk _ (.inr rfl) (I.kept fun b o e=>ar _ (hk b o e)) (aR _ rfl) ⟨cd,oc,vs,t,rfl,ar _ (hk _ _ hoc),hd,hv⟩ fun b o _ e=>ar _ (hk b o e)
end
def At:W->Option (List Int)
 |.tup ws=>ny ws
 |_=>none
def jP:List (DK×W)->Option (List (List Int))
 |[]=>some []
 |p::r=>match At p.2,jP r with
  |some a,some b=>some (a::b)
  |_,_=>none
def EX(st:List am)(j:Nat)(P:Addr)(pos:Pos)(q:Str):Prop:=st[j]?=some (.tab P pos q)
open Classical in
def t6(i j:Nat)(P:Addr)(pos:Pos)(q:Str):FE:=fun ρ st=>match ρ[i]? with
 |some (some x)=>(match sj st x with
  |some (_,kvs)=>(match jP kvs with
   |some ks=>if EX st j P pos q then sf (kvs[kc (fun a=>ks.getD a []) (kvs.length-1)]?) fun p=>.ok p.1.w st else .bad
   |none=>.bad)
  |none=>.bad)
 |_=>.bad
theorem t7{K:Frag}{μ:List Addr}{H:Hp}:∀{kvs:List (DK×W)} {ks:List (List Int)} {vs:List V},jP kvs=some ks->RelWs K μ H (kvs.map fun p=>p.2) vs->∃ts:List Addr,vs=ts.map V.ref/\∀(i:Nat) (t:Addr),ts[i]?=some t->fS K H t ((ks.getD i []).map V.int)
 |[],ks,vs,h,r=>by
  have:=r.nilE
  subst this
  exact⟨[],rfl,fun i t e=>by simp at e⟩
 |p::r,ks,vs,h,rr=>by
  unfold jP at h
  cases e1:At p.2 with
  |none=>rw[e1]at h;cases h
  |some a=>
   cases e2:jP r with
   |none=>rw[e1,e2]at h;cases h
   |some b=>
    rw[e1,e2]at h;cases h
    obtain⟨x,xs,rfl,q1,q2⟩:=RelWs.consE rr
    obtain⟨ts,rfl,ht⟩:=t7 e2 q2
    obtain⟨k,w⟩:=p
    cases w with
    |tup ws=>
     obtain⟨t,us,rfl,hS,r1⟩:=bF.tupE q1
     have:=p5 (show ny ws=some a from e1) r1
     subst this
     refine⟨t::ts,rfl,fun i t' e=>?_⟩
     cases i with
     |zero=>cases e;exact hS
     |succ i=>exact ht i t' (by simpa using e)
    |_=>cases e1
theorem EY{K:Frag}{μ:List Addr}{H:Hp}{kvs:List (DK×W)}{ts:List Addr}(r:RelWs K μ H (kvs.map fun p=>p.2) (ts.map V.ref)){i:Nat}{k:f_}{x:V}(h:(dV kvs (ts.map V.ref))[i]?=some (k,x)) :
  ∃p t,kvs[i]?=some p/\k=p.1.key/\ts[i]?=some t/\x=.ref t:=by
 unfold dV at h
 rw[ei]at h
 obtain⟨h1,h2⟩:=h
 rw[ax]at h1 h2
 obtain⟨p,e1,e2⟩:=dY.mp h1
 obtain⟨t,e3,e4⟩:=dY.mp h2
 exact⟨p,t,e1,e2.symm,e3,e4.symm⟩
section
variable{X:Cx}{en dn q:Str}{pr:Arguments}{p p1 p2 p3 p4 u5 Qv pos:Pos}{sc:Scope}{i j kk m:Nat}{c P:Addr}
theorem IK(hr:iA kk X.A)(T:ER en dn pr (.Subscript (.Name dn p2) (.Name en p3) p4) sc)(Cc:X.env.code=.ref c)(RQ:codeHdIn X.K c P=true)(Sl:X.K.lookup P=none)(hB:yu X.base X.mg)(hm:X.mg "min"=none)
  (l8:X.env.cells=cellsFrom m X.env.scope.names []) (hN:X.N[i]?=some dn:=by rfl) (hk:X.env.scope.names.lookup dn=some .cell:=by rfl) (R4:∀env:Env,gu env sc.names []=[(dn,(env.cells.lookup dn).getD 0)]:=by intro _;rfl) (xL:∀x∈sc.names,x.2=.free->x.1=dn:=by decide)
  (hq:X.env.qual++"<lambda>"=q:=by rfl) (Nz:defaultsOf pr X.env=([],[]):=by rfl) (ia:X.calm=true:=by rfl) (hg:Gl X "min":=by rfl) (Bd:(dn==("__debug__":Str))=false:=by decide) (A':(dn==("__classdict__":Str))=false:=by decide)
  (he:starEach [.Name dn p1] X.env=(false,eval (.Name dn p1) X.env)::starEach [] X.env:=by rfl) :
  SE X (.Call (.Name "min" p) [.Name dn p1] [⟨some "key",.Lambda pr (.Subscript (.Name dn p2) (.Name en p3) p4) sc u5,Qv⟩] pos) (t6 i j P u5 q):=⟨fun pins s σ H Q I h=>by
 obtain⟨μ,ρ,st,l,h⟩:=h
 unfold t6 at h
 cases e1:ρ[i]? with
 |none=>rw[e1]at h;exact h.elim
 |some ox=>
  cases ox with
  |none=>rw[e1]at h;exact h.elim
  |some x=>
   rw[e1]at h
   simp only at h
   cases e2:sj st x with
   |none=>rw[e2]at h;exact h.elim
   |some nk=>
    obtain⟨n,kvs⟩:=nk
    rw[e2]at h
    simp only at h
    cases e3:jP kvs with
    |none=>rw[e3]at h;exact h.elim
    |some ks=>
     rw[e3]at h
     simp only at h
     by_cases e4:EX st j P u5 q
     ·rw[aB e4]at h
      cases e5:kvs[kc (fun a=>ks.getD a []) (kvs.length-1)]? with
      |none=>rw[e5]at h;exact h.elim
      |some pk=>
       rw[e5]at h
       simp only[eE]at h
       obtain⟨v,hσ,rx⟩:=pV l.env e1
       obtain⟨a,vs,hn,hmu,rfl,ha,rr⟩:=sB l.sto e2 rx
       obtain⟨ts,rfl,hts⟩:=t7 e3 rr
       have hc:∃c0,X.env.cells.lookup dn=some c0:=by rw[l8];exact m8 hk
       obtain⟨c0,JB⟩:=hc
       obtain⟨aP,hP0,eP,ps,hP,ht,RZ⟩:=l.sto.get e4
       subst eP
       refine ix (lE I hg hm (by rfl) ?_ (by decide) (by decide))
       refine callWith_builtin_kwB (by rfl) (by rfl) (evalArgs_kw2 (by rfl) ?_ he)
       refine gs ((iC (pv i hN (.inr (.inl hk)) Bd A') ph) pos pins s σ H (fun vs H1=>vs=[.ref a]/\H1=H) I ⟨_,hσ,rfl,rfl⟩) fun us s1 oI=>?_
       obtain⟨vs1,H1,I1,r1,rfl,rfl⟩:=oI
       obtain⟨u1,rfl,ru1⟩:=mC r1
       obtain rfl:u1=Value.ref a:=ru1
       obtain⟨mm,QJ,hlk⟩:=id I1.loc
       obtain⟨u,ru,lk⟩:=hlk i dn (.ref a) hN hσ (.inr (.inl hk))
       obtain rfl:u=Value.ref a:=ru
       have i6:s1.heap.IsCell c0 (some (.ref a)):=by
        rcases lk with⟨kl,_⟩|⟨_,c1,hc1,hcc⟩
        ·have:X.env.scope.names.lookup dn=some .local:=kl
         rw[hk]at this;cases this
        ·rw[JB]at hc1;cases hc1;exact hcc
       have oW:closureFor sc X.env=pure [(dn,c0)]:=by
        rw[Bu (fun x hx hf=>by rw[xL x hx hf];exact⟨c0,JB⟩),R4,JB];rfl
       show wpAny _ _ (evalAll ((do let v <- eval (.Lambda pr (.Subscript (.Name dn p2) (.Name en p3) p4) sc u5) X.env;standAt pos;pure v)::[])) _ _ s1
       refine wpAny_evalAll_cons (ak (EW Nz hq Cc RQ Sl hB oW I1 hP ht RZ fun f cd ct pm h' t H' hH I2 hf G6 hx=>ak (ib (aJ (wpAny_evalAll_nil ?_)))))
       have hS':gT X.K X.mg μ st H'/\eD X.K H1 H':=by
        rcases hH with⟨g1,g2,rfl⟩|rfl
        ·exact l.sto.tabbed e4 hP g2 ht g1
        ·exact⟨l.sto,eD.refl⟩
       obtain⟨S',X'⟩:=hS'
       have ha':H' a=some (.dK (dV kvs (ts.map V.ref))):=by
        rcases hH with⟨g1,g2,rfl⟩|rfl
        ·rw[sD (fun z=>by rw[z,hP]at ha;cases ha) (fun z=>by rw[z,g2]at ha;cases ha)];exact ha
        ·exact ha
       have hcell':h'.IsCell c0 (some (.ref a)):=by
        obtain⟨o,ho,hd⟩:=i6
        exact⟨o,hx c0 o (fun z=>by have:=I1.freeC _ _ JB;rw[z,hP]at this;cases this) ho,hd⟩
       have cR:(dV kvs (ts.map V.ref)).length=kvs.length:=tX rr
       have u9:0<kvs.length:=by
        cases kvs with
        |nil=>simp at e5
        |cons _ _=>simp
       have A_:∀(i:Nat) (k:f_) (x:V),(dV kvs (ts.map V.ref))[i]?=some (k,x)->x=.ref (ts.getD i 0)/\fS X.K H' (ts.getD i 0) ((ks.getD i []).map V.int):=fun i k x e=>by
        obtain⟨p',t',f1,f2,f3,f4⟩:=EY rr e
        have:ts.getD i 0=t':=by rw[aG,f3];rfl
        rw[this]
        exact⟨f4,X' _ _ (hts i t' f3)⟩
       refine ET (pins:=pins) (H:=H') (kvs:=dV kvs (ts.map V.ref)) (kf:=fun a=>ks.getD a []) (tv:=fun a=>ts.getD a 0) T (I.ok.hd ia) (by have:=hr.dp;omega) (by have:=hr.un;omega) I2 ha' hf G6 hcell' (by rw[cR];exact u9) A_ fun v h2 t2 k x ek rk I3=>?_
       rw[cR]at ek
       obtain⟨p',t',f1,f2,_,_⟩:=EY rr ek
       rw[e5]at f1;cases f1
       subst f2
       exact⟨_,H',I3,rk,h μ _ H' (al _) X' S' (DK.w_rel _)⟩
     ·rw[aE e4]at h;exact h.elim⟩
end
def sk(x y:W)(st:List am):R W:=match x,y with
 |.int i,.int j=>.ok (.bl (decide (i<j))) st
 |.tup a,.tup b=>(match ny a,ny b with
  |some ns,some ms=>.ok (.bl (HT.lexLt ns ms)) st
  |_,_=>.bad)
 |_,_=>.bad
theorem BJ{X:Cx}{k:Nat}(hr:iA k X.A):qG X (compareOp .Lt) sk:=⟨fun pins s σ H x y v u Q I rv ru ⟨μ,st,wx,wy,S,rx,ry,q⟩=>by
 cases wx with
 |int i=>
  cases wy with
  |int j=>exact w_lt.h pins s σ H x y v u Q I rv ru ⟨μ,st,.int i,.int j,S,rx,ry,q⟩
  |_=>exact q.elim
 |tup a=>
  cases wy with
  |tup b=>
   simp only[sk]at q
   cases e1:ny a with
   |none=>rw[e1]at q;exact q.elim
   |some ns=>
    cases e2:ny b with
    |none=>rw[e1,e2]at q;exact q.elim
    |some ms=>
     rw[e1,e2]at q
     obtain⟨p,vs,rfl,hS,r⟩:=rx.tupE
     obtain⟨p2,vs2,rfl,hS2,r2⟩:=ry.tupE
     have:=p5 e1 r;subst this
     have:=p5 e2 r2;subst this
     exact Lw (by have:=hr.un;omega) pins s σ H _ _ v u Q I rv ru ⟨p,p2,ns,ms,rfl,rfl,hS,hS2,iF S q⟩
  |_=>exact q.elim
 |_=>cases wy<;>exact q.elim,fun x y st=>by
 unfold sk
 split
 ·trivial
 ·split<;>trivial
 ·trivial⟩
theorem bt.freeze{X:Cx}{pins:List (Addr×Obj)}{σ:St}{H:Hp}{s:Shared}{a:Addr}{kvs:List (f_×V)}{o:Obj}(I:bt X pins σ H s)(ha:H a=some (.dK kvs))(ho:s.heap.get? a=some o):bt X pins σ (eS H a (.frz o (.dK kvs))) s:=by
 have ne:∀b u,H b=some u->(∀z,u≠.dK z)->eS H a (.frz o (.dK kvs)) b=some u:=fun b u e n=>by rw[bX (fun z=>by rw[z,ha]at e;cases e;exact n _ rfl)];exact e
 have:bt X pins σ (eS H a (.frz o (.dK kvs))) { s with heap:=s.heap,toks:=s.toks }:=by
  refine I.un ⟨fun b o e n hb hx=>e,fun b o e n hb hx=>⟨o.slots,e⟩,fun b o e n hx=>?_,fun b o e hx=>⟨o,e⟩,fun b xs e=>ne b _ e fun _ z=>(by cases z),fun b o u e=>ne b _ e fun _ z=>(by cases z),fun b ps e=>⟨#[],by rw[ne b _ e fun _ z=>(by cases z)];simp⟩⟩ fun b u e=>?_
  ·rw[bX (fun z=>by rw[z,ha]at n;cases n)];exact n
  ·by_cases hb:b=a
   ·subst hb
    rw[dC]at e;cases e
    exact⟨ho,I.hok b _ ha⟩
   ·rw[bX hb]at e
    exact(I.hok b u e).stay (fun _ _ _ q=>q) (fun c q=>ne c _ q fun _ z=>(by cases z)) fun c xs q=>ne c _ q fun _ z=>(by cases z)
 exact this
def EZ(o:Obj):Nat:=match o.data with
 |.dict _ ep=>ep
 |_=>0
def NO(a:Addr)(o:Obj)(kvs:List (f_×V)):It where
 go:=fun i H=>H a=some (.frz o (.dK kvs))/\i<kvs.length
 yld:=fun i H x H'=>H'=H/\∃p,kvs[i]?=some p/\x=kV p.1
 stop:=fun i H=>H a=some (.frz o (.dK kvs))/\kvs.length<=i
theorem Au{X:Cx}{pins:List (Addr×Obj)}{σ:St}{H:Hp}{s:Shared}{a:Addr}{kvs:List (f_×V)}{o:Obj}(I:bt X pins σ H s)(ha:H a=some (.frz o (.dK kvs))):∃vs,KV kvs vs/\(a==sysModules)=false/\s.heap.DictAt (d8 X.prog X.w) a vs (EZ o):=by
 obtain⟨e,_,hs,vs,rel,o',es,ep,e',r1,r2,r⟩:=I.hok a _ ha
 rw[e]at e';cases e'
 refine⟨vs,rel,hs,o,es,e,r1,?_,r⟩
 have:EZ o=ep:=by unfold EZ;rw[r2]
 rw[this];exact r2
theorem C5{P:Program}{w:World}{K:Frag}{tg:Expr}(a it:Addr)(o:Obj)(kvs:List (f_×V)):zP P w K tg (NO a o kvs) [it] it (fun i h=>h.IsKeyIter it a i kvs.length (EZ o)) where
 mem:=by simp
 obj:=fun i h st b hb=>by
  have e:b=it:=by simpa using hb
  subst e
  obtain⟨o,e,c,d⟩:=st
  exact⟨o,e,fun v z=>by rw[d]at z;cases z⟩
 keep:=fun i h h' st k=>st.at fun o e=>k it (by simp) o e
 item:=by
  intro X hP hw hK hc i pins s σ H E I hf st hg
  subst hP hw hK
  obtain⟨ha,hi⟩:=hg
  obtain⟨vs,rel,_,dd⟩:=Au I ha
  have cR:kvs.length=vs.length:=rel.length
  obtain⟨f0,f1,f2,f3,f4,f5⟩:=hf it (by simp)
  obtain⟨⟨k,y⟩,hy⟩:∃p,vs[i]?=some p:=⟨_,ae (by omega)⟩
  obtain⟨⟨k',x⟩,hx⟩:∃p,kvs[i]?=some p:=⟨_,ae hi⟩
  have ek:k'=k:=by
   have:=fM (fun l:List f_=>l[i]?) rel.keys
   simp only[ax,hx,hy]at this
   exact aZ this
  subst ek
  rw[cR]at st
  refine iW st dd hy fun u h' hu bI sb=>?_
  have I1:bt X pins σ H { s with heap:=h' }:=I.turned (t':=s.toks) (fun b o hb e=>sb.extBut b o hb e) f0 f1 f3 f4 f5
  rw[<- cR]at bI
  obtain⟨o2,e2,c2,d2⟩:=id bI
  exact⟨u,rfl,xX (s:={ s with heap:=h' }) e2 c2 d2 (by decide) ⟨kV k',H,I1,wF hu,⟨rfl,_,hx,rfl⟩,bI,fun b hb=>(hf b hb).1⟩⟩
 done:=by
  intro X hP hw hK hc i pins s σ H E I hf st hg
  subst hP hw hK
  obtain⟨ha,hi⟩:=hg
  obtain⟨vs,rel,_,dd⟩:=Au I ha
  have cR:kvs.length=vs.length:=rel.length
  obtain⟨f0,f1,f2,f3,f4,f5⟩:=hf it (by simp)
  rw[cR]at st
  exact mY (I.ok.hd hc) st dd (by rw[bO];omega) fun h' eb=>⟨rfl,I.turned (t':=s.toks) (fun b o hb e=>eb b o hb e) f0 f1 f3 f4 f5⟩
 self:=fun _ _ _ _ _ st h=>wpAny_pyIter_keyiter st h
def Pi(te:TE):TI:=fun σ H R=>te σ H fun x H1=>∃a kvs,x=.ref a/\((H1 a=some (.dK kvs)/\∀o,R (NO a o kvs) (eS H1 a (.frz o (.dK kvs))))\/∃o,H1 a=some (.frz o (.dK kvs))/\R (NO a o kvs) H1)
theorem IL{X:Cx}{tg iter:Expr}{te:TE}(he:PE X iter te):PI X tg iter (Pi te):=fun pins s σ H R I h=>by
 refine gs (he pins s σ H _ I h) fun u s1 hh=>?_
 obtain⟨x,H1,I1,rx,a,kvs,rfl,hc⟩:=hh
 obtain rfl:u=Value.ref a:=rx
 have walk:∀(o:Obj) (H2:Hp),bt X pins σ H2 s1->H2 a=some (.frz o (.dK kvs))->R (NO a o kvs) H2->wpAny (model X.prog X.w) X.A (pyIter (.ref a)) (QM X pins σ tg R) X.xe s1:=fun o H2 I2 ha q=>by
  obtain⟨vs,rel,hs,dd⟩:=Au I2 ha
  have cR:kvs.length=vs.length:=rel.length
  refine wpAny_pyIter_dict hs dd ?_
  have k1:∀b o',s1.heap.get? b=some o'->(s1.heap.push { cls:=.type "dict_keyiterator",data:=.fields #[.ref a,.int 0 0,.int vs.length 0,.int (EZ o) 0] }).get? b=some o':=fun b o' e=>ar _ e
  refine⟨s1.heap.objs.size,[s1.heap.objs.size],_,NO a o kvs,H2,rfl,I2.kept k1,C5 a _ o kvs,?_,fun b hb=>?_,q⟩
  ·rw[cR];exact⟨_,aR _ rfl,rfl,rfl⟩
  ·have e:b=s1.heap.objs.size:=by simpa using hb
   subst e
   exact I2.fpOk (ay _) I2.fresh
 rcases hc with⟨ha,q⟩|⟨o,ha,q⟩
 ·obtain⟨_,_,vs,_,o,es,ep,ho,_⟩:=Bn I1.hok ha
  exact walk o _ (I1.freeze ha ho) dC (q o)
 ·exact walk o H1 I1 ha q
def qQ(fe:FE):FI:=fun ρ st=>(fe ρ st).bind fun x st=>match fI st x with
 |some (n,kvs)=>.ok (kvs.map (fun p=>p.1.w),none) (st.set n (.rod kvs))
 |none=>.bad
theorem BK{X:Cx}{tg iter:Expr}{fe:FE}(he:SE X iter fe):SI X tg iter (qQ fe):=⟨(IL he.h).imp fun σ H R h=>by
 obtain⟨μ,ρ,st,l,h⟩:=h
 refine⟨μ,ρ,st,l,RK.bind h l fun μ1 st1 x v H1 p1 x1 l1 q1 h1=>?_⟩
 cases e:fI st1 x with
 |none=>rw[e]at h1;exact h1.elim
 |some nk=>
  obtain⟨n,kvs⟩:=nk
  rw[e]at h1
  simp only at h1
  obtain⟨a,vs,hn,hm,rfl,ha,r⟩:=j9 l1.sto e q1
  have wk:∀(o:Obj) (H2:Hp),H2 a=some (.frz o (.dK (dV kvs vs)))->wp X (NO a o (dV kvs vs)) (kvs.map (fun p=>p.1.w),none) μ1 H2:=fun o H2 hz i μ' bI H' pm xm S _=>by
   have hz':=xm.z _ _ _ hz
   have cR:(dV kvs vs).length=kvs.length:=tX r
   refine⟨fun w hw=>?_,fun hi=>⟨hz',by rw[cR];simpa using hi⟩⟩
   rw[ax]at hw
   obtain⟨p,hp,rfl⟩:=dY.mp hw
   refine⟨⟨hz',by rw[cR];exact(aa.mp hp).1⟩,fun x H'' hy=>?_⟩
   obtain⟨rfl,q,hq,rfl⟩:=hy
   refine⟨eD.refl,S,?_⟩
   have:q.1=p.1.key:=by
    unfold dV at hq
    have:=(ei.mp hq).1
    rw[ax,hp]at this
    exact(aZ this).symm
   rw[this];exact DK.w_rel _
  refine⟨a,dV kvs vs,rfl,?_⟩
  rcases hn with hn|hn
  ·have hd:H1 a=some (.dK (dV kvs vs)):=by
    obtain⟨a',g,Hz,k,_⟩:=l1.sto.get hn
    rw[hm]at g;cases g
    rcases ha with ha|⟨o,ha⟩
    ·exact ha
    ·rw[k]at ha;cases ha
   refine .inl ⟨hd,fun o=>?_⟩
   have hx:eD X.K H1 (eS H1 a (.frz o (.dK (dV kvs vs)))):=fS.butD ig hd
   have S2:gT X.K X.mg μ1 (st1.set n (.rod kvs)) (eS H1 a (.frz o (.dK (dV kvs vs)))):=l1.sto.setG hn rfl hm hd (fun _ _ z=>by cases z) (fun _ z=>by cases z) hx rfl ⟨vs,o,dC,r.mono (al _) hx⟩
   exact h1 μ1 _ _ (al _) hx S2 (wk o _ dC)
  ·have hd:∃o,H1 a=some (.frz o (.dK (dV kvs vs))):=by
    obtain⟨a',g,Hz,o,k,_⟩:=l1.sto.get hn
    rw[hm]at g;cases g
    rcases ha with ha|ha
    ·rw[k]at ha;cases ha
    ·exact ha
   obtain⟨o,hd⟩:=hd
   refine .inr ⟨o,hd,?_⟩
   rw[yw hn]at h1
   exact h1 μ1 _ H1 (al _) eD.refl l1.sto (wk o H1 hd)⟩
section
variable{X:Cx}{o e f:Expr}{fo fk fd fe:FE}{gG dW:Pos}{kk:Nat}
def wH(fo fk:FE):FE:=fun ρ st=>(fo ρ st).bind fun x st=>match fI st x with
 |some _=>(fk ρ st).bind fun y st=>(match fI st x,iI y with
  |some (_,kvs),some k=>.ok ((hX kvs k).getD .non) st
  |_,_=>.bad)
 |none=>.bad
theorem IM(hr:iA kk X.A)(ho:SE X o fo)(he:SE X e fe)(m:M1 X o "get" gG e dW:=by exact⟨by rfl,by rfl,by rfl,by rfl⟩):SE X (.Call (.Attribute o "get" gG) [e] [] dW) (wH fo fe):=⟨(D4 (x6 hr) ho.h he.h m).imp fun σ H Q h=>by
 obtain⟨μ,ρ,st,l,h⟩:=h
 refine⟨μ,ρ,st,l,RK.bind h l fun μ1 st1 x v H1 p1 x1 l1 q1 h1=>?_⟩
 cases e0:fI st1 x with
 |none=>rw[e0]at h1;exact h1.elim
 |some nk0=>
  obtain⟨n0,kvs0⟩:=nk0
  rw[e0]at h1
  simp only at h1
  obtain⟨a0,vs0,_,hm0,rfl,Cg,_⟩:=j9 l1.sto e0 q1
  refine⟨a0,rfl,.inl ⟨_,Cg⟩,μ1,ρ,st1,l1,RK.bind h1 l1 fun μ2 st2 y u H2 p2 x2 l2 q2 h2=>?_⟩
  cases e1:fI st2 x with
  |none=>rw[e1]at h2;exact h2.elim
  |some nk=>
   obtain⟨n,kvs⟩:=nk
   cases e2:iI y with
   |none=>rw[e1,e2]at h2;exact h2.elim
   |some k=>
    rw[e1,e2]at h2
    simp only at h2
    obtain⟨a,vs,_,hm,ea,ha,r⟩:=j9 l2.sto e1 (q1.mono p2 x2)
    cases ea
    have:=lQ e2 q2
    subst this
    rcases tV k r with⟨w,z,g1,g2,g3⟩|⟨g1,g2⟩
    ·rw[g1]at h2
     exact⟨some z,by rw[<- g2];exact pQ.r ha,h2 μ2 z H2 (al _) eD.refl l2.sto g3⟩
    ·rw[g1]at h2
     exact⟨none,by rw[<- g2];exact pQ.r ha,h2 μ2 .non H2 (al _) eD.refl l2.sto .non⟩⟩
end
section
variable{X:Cx}{x y:Str}{a b:Expr}{fs:FA}{pos:Pos}
def E0(i j:Nat)(fs:FA):FS:=fun ρ st=>(fs ρ st).stmt ρ fun ws st=>match ws with
 |[v,w]=>.nx ((ρ.set i (some v)).set j (some w)) st
 |_=>.bad
theorem Me{i j:Nat}{px py pt:Pos}{kt k2 pt2}(hN:X.N.Nodup)(ha:SA X [a,b] fs)(hi:X.N[i]?=some x:=by rfl)(hj:X.N[j]?=some y:=by rfl)(QB:i≠j:=by decide)
  (hx:X.env.scope.names.lookup x=some .local:=by rfl) (hy:X.env.scope.names.lookup y=some .local:=by rfl) (hc:X.calm=true:=by rfl)
  (hw:swappedStores [.Tuple [.Name x px,.Name y py] kt pt] (.Tuple [a,b] k2 pt2) X.env=pure (some [x,y]):=by rfl)
  (hs:swapsWithSole [.Tuple [.Name x px,.Name y py] kt pt] (.Tuple [a,b] k2 pt2) pos.line X.env=pure false:=by rfl) :
  SS X (.Assign [.Tuple [.Name x px,.Name y py] kt pt] (.Tuple [a,b] k2 pt2) pos) (E0 i j fs):=⟨(Ld hc hN hi hj QB hx hy ha.h hw hs).imp fun D σ H h=>by
 obtain⟨μ,ρ,st,l,h⟩:=h
 refine⟨μ,ρ,st,l,RK.stmt h l fun μ1 st1 ws vs H1 p1 x1 l1 q1 h1=>?_⟩
 match ws,h1,q1 with
 |[],h1,_=>exact h1.elim
 |[_],h1,_=>exact h1.elim
 |[w1,w2],h1,q1=>
  obtain⟨v1,v2,rfl,r1,r2⟩:=q1.two
  exact⟨v1,v2,rfl,h1 μ1 _ H1 (al _) eD.refl ⟨lh r2 j (lh r1 i l1.env),l1.sto⟩⟩
 |_::_::_::_,h1,_=>exact h1.elim⟩
end
inductive DefIn(K:Frag)(x:Str)(st:Stmt):Prop
 |mk {ad:Addr} {od an:Option Addr} {sl:Array (Option Value)} {oc kV dc pm cd ct:Value} (a:nsIn K mainGlobals x=some (some (.ref ad)))
   (l:K.lookup ad=some ⟨oc,od,.func (fnOf x x (iD st) (gS st) (bg st) .none kV dc pm an cd ct),sl⟩) (c:codeIn K cd x=true) (k:keepIn K (.ref ad)=true):DefIn K x st
theorem DefIn.fn{K:Frag}{x:Str}{st:Stmt}{h:Heap}{mg:Str->Option Value}(d:DefIn K x st)(X:K.In h)(G:h.Ns mainGlobals mg):∃f fd,kQ K x x st f fd/\mg x=some (.ref f):=by
 obtain⟨a,l,c,k⟩:=d
 exact⟨_,_,zZ (st:=st) l c k,mg_of X G a⟩
section
variable{P:Program}{w:World}{K:Frag}{mg:Str->Option Value}{base:Heap}{k n:Nat}{x:Str}{st:Stmt}{f:Addr}{fd:FuncData}{ps:List Str}{G:List W->List am->R W}
theorem dw(F:kQ K x x st f fd)(hm:mg x=some (.ref f))(ok:fA P w K mg base (kG P w) k f fd ps (lc K mg n G))(hn:ps.length=n:=by rfl)
  (hb:∀(kV sO pm:Value) (an:Option Addr) (gI ct:Value) (us:List Value),us.length=ps.length->bindArgs (fnOf x x (iD st) (gS st) (bg st) .none kV sO pm an gI ct) ⟨us,[]⟩=pure (ps.zip us):=by walk_at "hb"):cu P w K mg base k x n G:=wq F hm hn hb ok
end
section
variable{X:Cx}{e:Expr}{pos:Pos}{x:Str}{fe:FE}{ps:List Str}{sp scope:Scope}
theorem og{N:List Str}(a:sp.kind=.function:=by rfl)(b:sp.isCoroutine=false:=by rfl)(c:sp.isGenerator=false:=by rfl)(d:N.Nodup:=by decide +kernel)(f:N.take ps.length=ps:=by rfl)(g:∀x∈ps,sp.names.lookup x=some .local\/sp.names.lookup x=some .cell:=by decide +kernel)(h:∀y∈sp.names,y.2≠.free:=by decide +kernel):bT N ps sp:=⟨a,b,c,d,f,g,h⟩
theorem sS(i:Nat){jA:Pos}(sc:bT X.N ps sp)(he:SE X e fe)(hi:X.N[i]?=some x:=by rfl)(hx:Hr X.env.scope x:=by first|exact .inl rfl|exact .inr rfl)(hs:swapsWith e (some (.Name x jA)) pos.line X.env=pure false:=by rfl)(hf:X.fn x=true\/X.env.scope.names.lookup x=some .local:=by first|exact .inl rfl|exact .inr rfl|assumption) :
  SS X (.Assign [.Name x jA] e pos) (bH i fe):=L0 sc.nd hi hx he hs hf
theorem sG(i:Nat)(sc:bT X.N ps sp)(hi:X.N[i]?=some x:=by rfl)(hx:Hr X.env.scope x:=by first|exact .inl rfl|exact .inr rfl)(hf:X.fn x=true\/X.env.scope.names.lookup x=some .local:=by first|exact .inl rfl|exact .inr rfl|assumption):SG X (.Name x pos) (eU i):=BB sc.nd hi hx hf
theorem sC{nm:List Str}{cl:List (Str×Addr)}{C s0 H0 fp}(i:Nat)(hN:nm.Nodup:=by decide +kernel)(hi:nm[i]?=some x:=by rfl)(hx:Hr (bP X nm scope cl C s0 H0 fp).env.scope x:=by first|exact .inl rfl|exact .inr rfl)(hf:(bP X nm scope cl C s0 H0 fp).fn x=true\/(bP X nm scope cl C s0 H0 fp).env.scope.names.lookup x=some .local:=by first|exact .inl rfl|exact .inr rfl|assumption) :
  SG (bP X nm scope cl C s0 H0 fp) (.Name x pos) (eU i):=BB (X:=bP X nm scope cl C s0 H0 fp) hN hi hx hf
end
theorem d_(st x:List am)(k:Nat):(st++x)[st.length+k]?=x[k]?:=by rw[dX (by omega)];congr 1;omega
theorem dS(st x:List am):(st++x)[st.length]?=x[0]?:=d_ st x 0
theorem gJ(st x:List am)(k:Nat)(c:am):(st++x).set (st.length+k) c=st++x.set k c:=by rw[mZ _ _ (by omega)];congr 2;omega
theorem fF(st x:List am)(c:am):(st++x).set st.length c=st++x.set 0 c:=gJ st x 0 c
theorem bN{st x:List am}{n:Nat}{c:am}(h:st[n]?=some c):(st++x)[n]?=some c:=by
 rw[av (aa.mp h).1];exact h
theorem Av(st:List am)(ws:List W):j6 st st ws=st:=by unfold j6;split<;>simp
theorem qR{st x:List am}{ws:List W}(h:undWs st.length ws=true):j6 st (st++x) ws=st:=by
 unfold j6
 rw[aB ⟨h,by simp,fun i hi=>.inl (av hi)⟩]
 simp
theorem vF{st bI:List am}{ws:List W}(h:undWs st.length ws=false):j6 st bI ws=bI:=by
 unfold j6
 rw[aE fun k=>by have:=k.1;rw[h]at this;cases this]
theorem oh{N:Nat}{body:FS}{ws:List W}{st bI:List am}{w:W}(h:body (ws.map some++List.replicate (N-ws.length) none) st=.rt w bI):eF N body ws st=.ok w (j6 st bI [w]):=by
 unfold eF;rw[h]
theorem ol{N:Nat}{body:FS}{ws:List W}{st:List am}{w:W}(h:body (ws.map some++List.replicate (N-ws.length) none) st=.rt w st):eF N body ws st=.ok w st:=by
 rw[oh h,Av]
theorem yx{N:Nat}{body:FS}{ws:List W}{st x:List am}{w:W}(h:body (ws.map some++List.replicate (N-ws.length) none) st=.rt w (st++x))(hu:undWs st.length [w]=true):eF N body ws st=.ok w st:=by
 rw[oh h,qR hu]
theorem yy{N:Nat}{body:FS}{ws:List W}{st x:List am}{k:Nat}(h:body (ws.map some++List.replicate (N-ws.length) none) st=.rt (.loc (st.length+k)) (st++x)):eF N body ws st=.ok (.loc (st.length+k)) (st++x):=by
 rw[oh h,vF (by simp[undWs,W.und])]
theorem E1{g g':FS}{ρ ρ':cf}{st bI:List am}(h:g ρ st=.nx ρ' bI):aW g g' ρ st=g' ρ' bI:=by unfold aW;rw[h]
theorem wI{fi:FI}{f:FG}{body:FS}{ρ:cf}{st bI:List am}{k:Al}(h:fi ρ st=.ok k bI):gn fi f body ρ st=pY f body k.2 k.1 ρ bI:=by unfold gn;rw[h];rfl
theorem t8{f:FG}{body:FS}{ck:Option (Nat×List W)}(I:Nat->cf->List am->Prop):∀{ws:List W} {ρ:cf} {st:List am} (i0:Nat),I i0 ρ st->(∀i ρ st,I i ρ st->iG st ck) ->
  (∀i w ρ st,ws[i]?=some w->I (i0+i) ρ st->∃ρ' ρ2 st2,f w ρ=some ρ'/\body ρ' st=.nx ρ2 st2/\I (i0+i+1) ρ2 st2) ->
  ∃ρ2 st2,pY f body ck ws ρ st=.nx ρ2 st2/\I (i0+ws.length) ρ2 st2
 |[],ρ,st,i0,h0,hc,hs=>⟨ρ,st,by unfold pY;rw[aB (hc _ _ _ h0)],h0⟩
 |w::ws,ρ,st,i0,h0,hc,hs=>by
  obtain⟨ρ',ρ2,st2,e1,e2,h1⟩:=hs 0 w ρ st rfl h0
  obtain⟨ρ3,jT,e3,h3⟩:=t8 I (ws:=ws) (ρ:=ρ2) (st:=st2) (i0+1) h1 hc fun i w ρ st hw hI=>by
   obtain⟨a,b,c,d,e,g⟩:=hs (i+1) w ρ st (by simpa using hw) (by rw[show i0+(i+1)=i0+1+i by omega];exact hI)
   exact⟨a,b,c,d,e,by rw[show i0+1+i+1=i0+(i+1)+1 by omega];exact g⟩
  refine⟨ρ3,jT,?_,by rw[bf,show i0+(ws.length+1)=i0+1+ws.length by omega];exact h3⟩
  unfold pY
  rw[aB (hc _ _ _ h0),e1]
  simp only[e2]
  exact e3
theorem C6{t:FT}{g:FS}(I:Nat->cf->List am->Prop):∀(n:Nat) {ρ:cf} {st:List am},I n ρ st ->
  (∀n ρ st,I n ρ st->t ρ st=.ok false st\/(t ρ st=.ok true st/\∃ρ2 st2 m,g ρ st=.nx ρ2 st2/\m<n/\I m ρ2 st2)) ->
  ∃m ρ2 st2,lM t g ρ st=.nx ρ2 st2/\I m ρ2 st2/\t ρ2 st2=.ok false st2:=by
 intro n ρ st h hs
 have key:∀(k n:Nat) (ρ:cf) (st:List am),n<k->I n ρ st->∃m ρ2 st2,fX t g k ρ st=.nx ρ2 st2/\I m ρ2 st2/\t ρ2 st2=.ok false st2:=by
  intro k
  induction k with
  |zero=>intro n _ _ h;exact absurd h (bz _)
  |succ k ih=>
   intro n ρ st hk hI
   rcases hs n ρ st hI with e|⟨e,ρ2,st2,m,e2,hm,h2⟩
   ·exact⟨n,ρ,st,by unfold fX;rw[e];rfl,hI,e⟩
   ·obtain⟨m',ρ3,jT,e3,h3⟩:=ih m ρ2 st2 (by omega) h2
    exact⟨m',ρ3,jT,by unfold fX;rw[e];simp only[R.stmt_ok,fN,e2];exact e3,h3⟩
 obtain⟨m,ρ2,st2,e,h2⟩:=key (n+1) n ρ st (jb n) h
 exact⟨m,ρ2,st2,CY e (by simp),h2⟩
section
variable{ρ ρ':cf}{st st1 st2 jT Q2:List am}{fa fb fe fo fi:FE}{fs:FA}{t u:FT}{x y z w v:W}{ws xs zs:List W}{i j n m:Nat}{a b k:Bool}{g g':FS}
theorem ag(h:ρ[i]?=some (some w)):ah i ρ st=.ok w st:=by unfold ah;rw[h]
theorem bD:eC w ρ st=.ok w st:=rfl
theorem bc{f:W->W->List am->R W}(h1:fa ρ st=.ok x st1)(h2:fb ρ st1=.ok y st2)(h3:f x y st2=.ok z jT):e2 f fa fb ρ st=.ok z jT:=by unfold e2;rw[h1];simp only[R.bind_ok];rw[h2];exact h3
theorem aF:aD ρ st=.ok [] st:=rfl
theorem aj(h1:fa ρ st=.ok x st1)(h2:fs ρ st1=.ok xs st2):ai fa fs ρ st=.ok (x::xs) st2:=by unfold ai;rw[h1];simp only[R.bind_ok];rw[h2];rfl
theorem Mf{ls:List (List Nat)}:OW ls ρ st=.ok (ls.map W.str) st:=rfl
theorem fj(h1:fs ρ st=.ok ws st1)(h2:ws.length<=kJ):dy fs ρ st=.ok (.tup ws) st1:=by unfold dy;rw[h1];simp only[R.bind_ok,nh];rw[aB h2]
theorem t9(h1:fs ρ st=.ok ws st1)(h2:ws.length<=kJ):kF fs ρ st=.ok (.loc st1.length) (st1++[.lst ws]):=by unfold kF;rw[h1];simp only[R.bind_ok,mF];rw[aB h2]
theorem bA{F:List W->List am->R W}(h1:fs ρ st=.ok ws st1)(h2:F ws st1=.ok w st2):bh F fs ρ st=.ok w st2:=by unfold bh;rw[h1];exact h2
theorem cA{F:List W->List am->R W}(h1:fs ρ st=.ok ws st1)(h2:F ws st1=.ok w st2)(hn:ws.length=n):dq n F fs ρ st=.ok w st2:=by unfold dq;rw[h1];simp only[R.bind_ok];rw[aB hn];exact h2
theorem bR(h:fa ρ st=.ok (.bl k) st1):eZ fa ρ st=.ok k st1:=by unfold eZ;rw[h];rfl
theorem lR(h1:t ρ st=.ok true st1)(h2:u ρ st1=.ok k st2):Ei t u ρ st=.ok k st2:=by unfold Ei;rw[h1];exact h2
theorem lS(h1:t ρ st=.ok false st1):Ei t u ρ st=.ok false st1:=by unfold Ei;rw[h1];rfl
theorem gA(h1:t ρ st=.ok false st1)(h2:u ρ st1=.ok k st2):uR t u ρ st=.ok k st2:=by unfold uR;rw[h1];exact h2
theorem wJ(h1:t ρ st=.ok true st1):uR t u ρ st=.ok true st1:=by unfold uR;rw[h1];rfl
theorem nB(h1:t ρ st=.ok a st1)(h2:(!a)=k):zK t ρ st=.ok k st1:=by unfold zK;rw[h1,<- h2];rfl
theorem sE(h1:fa ρ st=.ok (.bl true) st1)(h2:fb ρ st1=.ok w st2):Ae fa fb ρ st=.ok w st2:=by unfold Ae;rw[h1];exact h2
theorem Pj(h1:fa ρ st=.ok (.bl a) st1)(h2:(!a)=k):Iu fa ρ st=.ok (.bl k) st1:=by unfold Iu;rw[h1,<- h2];rfl
theorem mV{F:W->List W->List am->R W}(h1:fo ρ st=.ok x st1)(hl:tL st1 x=true)(h2:fs ρ st1=.ok ws st2)(h3:F x ws st2=.ok w jT):si F fo fs ρ st=.ok w jT:=by unfold si;rw[h1];simp only[R.bind_ok];rw[aB hl,h2];exact h3
theorem Mg{F:W->List W->List am->R W}(h1:fo ρ st=.ok x st1)(hl:Ew x=true)(h2:fs ρ st1=.ok ws st2)(h3:F x ws st2=.ok w jT):JW F fo fs ρ st=.ok w jT:=by unfold JW;rw[h1];simp only[R.bind_ok];rw[aB hl,h2];exact h3
theorem eV(h:st[n]?=some (.lst ws)):tL st (.loc n)=true:=by simp only[tL,h]
theorem yz{q:Int}(h:fa ρ st=.ok (.int q) st1):An fa ρ st=.ok (.int (-q)) st1:=by unfold An;rw[h];rfl
theorem J0{T c:String}(h:fa ρ st=.ok x st1)(hx:x.ty=some c)(hk:IA c T=k):oF T fa ρ st=.ok (.bl k) st1:=by unfold oF;rw[h];simp only[R.bind_ok,hx,hk]
theorem Pk(h:fa ρ st=.ok x st1)(hk:x.isNon=k):Af fa ρ st=.ok (.bl k) st1:=by unfold Af;rw[h,<- hk];rfl
theorem Mh(h:fa ρ st=.ok x st1)(hk:(!x.isNon)=k):JO fa ρ st=.ok (.bl k) st1:=by unfold JO;rw[h,<- hk];rfl
theorem yA:mG ρ st=.ok none st:=rfl
theorem sv{q:Int}(h:fa ρ st=.ok (.int q) st1):jm fa ρ st=.ok (some q) st1:=by unfold jm;rw[h];rfl
theorem uU{fl fh:FO}{l h:Option Int}(h1:fa ρ st=.ok x st1)(h2:fl ρ st1=.ok l st2)(h3:fh ρ st2=.ok h jT)(h4:CV x l h jT=.ok w Q2):Ai fa fl fh ρ st=.ok w Q2:=by unfold Ai;rw[h1];simp only[R.bind_ok];rw[h2];simp only[R.bind_ok];rw[h3];exact h4
theorem bS(h:fe ρ st=.ok w st1):bH i fe ρ st=.nx (ρ.set i (some w)) st1:=by unfold bH;rw[h];rfl
theorem fC(h:fe ρ st=.ok w st1):eQ fe ρ st=.nx ρ st1:=by unfold eQ;rw[h];rfl
theorem yB(h:fe ρ st=.ok w st1):dk fe ρ st=.rt w st1:=by unfold dk;rw[h];rfl
theorem mK{f:W->W->W->List am->Option (List am)}(h1:fe ρ st=.ok v st1)(h2:fo ρ st1=.ok x st2)(h3:fi ρ st2=.ok y jT)(h4:f x y v jT=some Q2):nu fo fi fe f ρ st=.nx ρ Q2:=by
 unfold nu;rw[h1];simp only[R.stmt_ok];rw[h2];simp only[R.stmt_ok];rw[h3];simp only[R.stmt_ok];rw[h4]
theorem nC{r:RS}(h1:t ρ st=.ok true st1)(h2:g ρ st1=r):hV t g g' ρ st=r:=by unfold hV;rw[h1];exact h2
theorem qS{r:RS}(h1:t ρ st=.ok false st1)(h2:g' ρ st1=r):hV t g g' ρ st=r:=by unfold hV;rw[h1];exact h2
theorem E3:cK ρ st=.nx ρ st:=rfl
theorem rR{r:RS}(h:g ρ st=.nx ρ' st1)(h2:g' ρ' st1=r):aW g g' ρ st=r:=by rw[E1 h];exact h2
theorem Aw(h:g ρ st=.rt w st1):aW g g' ρ st=.rt w st1:=by unfold aW;rw[h]
theorem cU{p q:Int}:cF (.int p) (.int q) st=.ok (.int (p+q)) st:=rfl
theorem Ax{p q:List Nat}(h:p.length+q.length<=kJ):cF (.str p) (.str q) st=.ok (.str (p++q)) st:=by simp only[cF];rw[aB h]
theorem E4(h1:st[n]?=some (.lst ws))(h2:st[m]?=some (.lst xs))(h:(ws++xs).length<=kJ):cF (.loc n) (.loc m) st=.ok (.loc st.length) (st++[.lst (ws++xs)]):=by
 unfold cF;simp only[h1,h2,mF];rw[aB h]
theorem gF{C:Int->Int->Prop}[∀i j,Decidable (C i j)]{f:Int->Int->Int}{p q:Int}(h:C p q):CQ C f (.int p) (.int q) st=.ok (.int (f p q)) st:=by simp only[CQ];rw[aB h]
theorem nD{p q:Int}(h:wj p q):g6 (.int p) (.int q) st=.ok (.int (p*q)) st:=by simp only[g6];rw[aB h]
theorem iJ{f:Int->Int->Bool}{p q:Int}(h:f p q=k):CS f (.int p) (.int q) st=.ok (.bl k) st:=by rw[<- h];rfl
theorem E5{p q:Int}(h:decide (p<=q)=k):Ez (.int p) (.int q) st=.ok (.bl k) st:=by rw[<- h];rfl
theorem fY{p q:Int}(h:(p==q)=k):jY (.int p) (.int q) st=.ok (.bl k) st:=by rw[<- h];rfl
theorem BL{p q:Int}(h:(!(p==q))=k):CU (.int p) (.int q) st=.ok (.bl k) st:=by rw[<- h];rfl
theorem Pl{p q:List Nat}(h:(p==q)=k):jY (.str p) (.str q) st=.ok (.bl k) st:=by rw[<- h];rfl
theorem cn{q:Int}(h:pJ ws q=some w):bC (.tup ws) (.int q) st=.ok w st:=by unfold bC;simp only[h,eE]
theorem E6{l:List Nat}{q:Int}{c:Nat}(hl:l.length<=kJ)(h:pJ l q=some c):bC (.str l) (.int q) st=.ok (.str [c]) st:=by unfold bC;simp only[h,eE];rw[aB hl]
theorem iK{q:Int}(hl:lstOf st n=some ws)(h:pJ ws q=some w):bC (.loc n) (.int q) st=.ok w st:=by unfold bC;simp only[hl,h,eE]
theorem gc:de [.tup ws] st=.ok (.int ws.length) st:=rfl
theorem qT{l:List Nat}(h:l.length<=kJ):de [.str l] st=.ok (.int l.length) st:=by unfold de;simp only;rw[aB h]
theorem gv(hl:lstOf st n=some ws):de [.loc n] st=.ok (.int ws.length) st:=by unfold de;simp only[hl,eE]
theorem bd(h:st[n]?=some (.lst ws)):lstOf st n=some ws:=by unfold lstOf;rw[h]
theorem sF(h:st[n]?=some (.ro ws)):lstOf st n=some ws:=by unfold lstOf;rw[h]
theorem nE(h:st[n]?=some (.lst ws))(hl:ws.length<kJ):c9 (.loc n) [y] st=.ok .non (st.set n (.lst (ws++[y]))):=by unfold c9;simp only[h];rw[aB hl]
theorem Ay{q:Int}(h:st[n]?=some (.lst ws))(hi:Bh ws.length q=some j):nr (.loc n) (.int q) v st=some (st.set n (.lst (ws.set j v))):=by unfold nr;simp only[h,hi];rfl
theorem E7{sep:List Nat}{ls:List (List Nat)}(h:lstOf st n=some (ls.map W.str))(hl:(ls.map List.length).sum+ls.length*sep.length<=kJ):oO (.str sep) [.loc n] st=.ok (.str (oM sep ls)) st:=by
 unfold oO;simp only[h,eE,vw];rw[aB hl]
theorem E8{l h:Option Int}(hl:lstOf st n=some ws):CV (.loc n) l h st=.ok (.loc st.length) (st++[.lst (jv ws l h)]):=by unfold CV;simp only[hl,eE]
theorem BM{l h:Option Int}{z:List Nat}(hl:z.length<=kJ):CV (.str z) l h st=.ok (.str (jv z l h)) st:=by unfold CV;simp only;rw[aB hl]
theorem BN{l h:Option Int}:CV (.tup ws) l h st=.ok (.tup (jv ws l h)) st:=rfl
theorem jQ(h:fe ρ st=.ok (.tup ws) st1):eY fe ρ st=.ok (ws,none) st1:=by unfold eY;rw[h];rfl
theorem lT(h:fe ρ st=.ok (.loc n) st1)(hl:lstOf st1 n=some ws):eY fe ρ st=.ok (ws,some (n,ws)) st1:=by unfold eY;rw[h];simp only[R.bind_ok,hl]
theorem df{q:Int}(h:fs ρ st=.ok [.int q] st1)(hq:-(2^62)<=q/\q<2^62):bw fs ρ st=.ok (bK 0 q.toNat,none) st1:=by unfold bw;rw[h];simp only[R.bind_ok];rw[aB hq]
theorem Az{l:List W}{q:Nat}{x:W}(h:l.reverse[q]?=some x):pJ l (-((q:Int)+1))=some x:=by
 have hq:q<l.length:=by have:=(aa.mp h).1;simpa using this
 unfold pJ Bh
 rw[aE (by omega),aB (by omega)]
 rw[fx hq]at h
 simp only[Option.bind_some]
 rw[show((-((q:Int)+1))+(l.length:Int)).toNat=l.length-1-q by omega]
 exact h
theorem d6{α:Type}{l:List α}{q:Nat}{x:α}(h:l[q]?=some x):pJ l (q:Int)=some x:=by
 have hq:q<l.length:=(aa.mp h).1
 unfold pJ Bh
 rw[aB (by omega),aB (by omega)]
 simpa using h
def gH(P:RS->Prop)(r:RS):Prop:=P r
def E9(I:cf->List am->Prop):RS->Prop:=fun r=>∃ρ st,r=.nx ρ st/\I ρ st
def uI(I:W->List am->Prop):RS->Prop:=fun r=>∃w st,r=.rt w st/\I w st
variable{P:RS->Prop}{fz:FS}
theorem et{r r':RS}(h:r=r')(h2:P r'):gH P r:=by rw[h];exact h2
theorem aH(h:g ρ st=.nx ρ' st1)(h2:gH P (g' ρ' st1)):gH P (aW g g' ρ st):=by rw[E1 h];exact h2
theorem jp(h1:t ρ st=.ok true st1)(h2:gH P (g ρ st1)):gH P (hV t g g' ρ st):=by rw[nC h1 rfl];exact h2
theorem f'(h1:t ρ st=.ok false st1)(h2:gH P (g' ρ st1)):gH P (hV t g g' ρ st):=by rw[qS h1 rfl];exact h2
theorem e_(h1:t ρ st=.ok true st1)(h2:gH P (aW g fz ρ st1)):gH P (aW (hV t g g') fz ρ st):=by
 unfold aW at h2 ⊢;rw[nC h1 rfl];exact h2
theorem bG(h1:t ρ st=.ok false st1)(h2:gH P (aW g' fz ρ st1)):gH P (aW (hV t g g') fz ρ st):=by
 unfold aW at h2 ⊢;rw[qS h1 rfl];exact h2
theorem om{h:FS}(h2:gH P (aW g (aW g' h) ρ st)):gH P (aW (aW g g') h ρ st):=by
 unfold aW at h2 ⊢
 cases e:g ρ st<;>simp only[e]at h2 ⊢ <;> exact h2
theorem bY(h2:gH P (fz ρ st)):gH P (aW cK fz ρ st):=h2
theorem cB(h:fe ρ st=.ok w st1)(h2:P (.rt w st1)):gH P (dk fe ρ st):=by rw[yB h];exact h2
theorem fJ(h:fe ρ st=.ok w st1)(h2:P (.rt w st1)):gH P (aW (dk fe) fz ρ st):=by rw[Aw (yB h)];exact h2
theorem dO{fi:FI}{f:FG}{body:FS}{k:Al}(I:Nat->cf->List am->Prop)(h:fi ρ st=.ok k st1)(h0:I 0 ρ st1)(hc:∀i ρ st,I i ρ st->iG st k.2)
  (hs:∀i w ρ st,k.1[i]?=some w->I i ρ st->∃ρ',f w ρ=some ρ'/\gH (E9 (I (i+1))) (body ρ' st)) (he:∀ρ st,I k.1.length ρ st->gH P (fz ρ st)):gH P (aW (gn fi f body) fz ρ st):=by
 obtain⟨ρ2,st2,e,h2⟩:=t8 (f:=f) (body:=body) (ck:=k.2) I (ws:=k.1) (ρ:=ρ) (st:=st1) 0 h0 hc fun i w ρ st hw hI=>by
  rw[gm]at hI ⊢
  obtain⟨ρ',e1,ρ2,st2,e2,h2⟩:=hs i w ρ st hw hI
  exact⟨ρ',ρ2,st2,e1,e2,h2⟩
 rw[gm]at h2
 exact aH (by rw[wI h];exact e) (he _ _ h2)
theorem vG{body:FS}(I:Nat->cf->List am->Prop)(n:Nat)(h0:I n ρ st)
  (hs:∀n ρ st,I n ρ st->t ρ st=.ok false st\/(t ρ st=.ok true st/\gH (E9 fun ρ2 st2=>∃m,m<n/\I m ρ2 st2) (body ρ st))) (he:∀m ρ st,I m ρ st->t ρ st=.ok false st->gH P (fz ρ st)):gH P (aW (lM t body) fz ρ st):=by
 obtain⟨m,ρ2,st2,e,h2,h3⟩:=C6 (t:=t) (g:=body) I n h0 fun n ρ st hI=>by
  rcases hs n ρ st hI with e|⟨e,ρ2,st2,e2,m,hm,h2⟩
  ·exact .inl e
  ·exact .inr ⟨e,ρ2,st2,m,e2,hm,h2⟩
 exact aH e (he _ _ _ h2 h3)
theorem lU{N:Nat}{body:FS}{Q:W->Prop}(h:gH (uI fun w bI=>(∃x,bI=st++x)/\undWs st.length [w]=true/\Q w) (body (ws.map some++List.replicate (N-ws.length) none) st)):∃w,Q w/\eF N body ws st=.ok w st:=by
 obtain⟨w,bI,e,⟨x,rfl⟩,hu,q⟩:=h
 exact⟨w,q,yx e hu⟩
theorem fZ{N:Nat}{body:FS}(h:gH (uI fun w' bI=>w'=w/\∃x,bI=st++x) (body (ws.map some++List.replicate (N-ws.length) none) st))(hu:undWs st.length [w]=true):eF N body ws st=.ok w st:=by
 obtain⟨w,bI,e,rfl,x,rfl⟩:=h
 exact yx e hu
theorem qa{N:Nat}{body:FS}{Q:Nat->List am->Prop}(h:gH (uI fun w bI=>∃j x,w=.loc (st.length+j)/\bI=st++x/\Q j x) (body (ws.map some++List.replicate (N-ws.length) none) st)):∃j x,Q j x/\eF N body ws st=.ok (.loc (st.length+j)) (st++x):=by
 obtain⟨w,bI,e,j,x,rfl,rfl,q⟩:=h
 exact⟨j,x,q,yy e⟩
theorem du{q i:Nat}{lo:Int}{w:W}(h:(bK lo q)[i]?=some w):i<q/\w=.int (lo+i):=by
 unfold bK at h
 obtain⟨h1,h2⟩:=aa.mp h
 simp only[az,bj]at h1
 exact⟨h1,by rw[<- h2];simp⟩
theorem qb{α:Type}{l:List α}{q:Nat}(h:q<=l.length):jv l none (some (q:Int))=l.take q:=by
 unfold jv;rw[HT.sIx_none,HT.sIx_nat,fH h];simp
theorem on{α:Type}{l:List α}{q:Nat}(h:q<=l.length):jv l (some (q:Int)) none=l.drop q:=by
 unfold jv;rw[HT.sIx_none,HT.sIx_nat,fH h];rw[cL (by simp)]
theorem fU{q:Int}{n:Nat}(h:0<n):∃m:Nat,m<n/\q%(n:Int)=m:=by
 have h0:0<=q%(n:Int):=io _ (by omega)
 have h1:q%(n:Int)<n:=kC _ (by omega)
 exact⟨(q%(n:Int)).toNat,by omega,by omega⟩
end
section
variable{ρ:cf}{st st1:List am}{t u:FT}{a b k:Bool}{P:RS->Prop}{g g' fz:FS}{w:W}{ws:List W}
theorem Mi(h1:t ρ st=.ok a st)(h2:u ρ st=.ok b st):Ei t u ρ st=.ok (a&&b) st:=by cases a;exact lS h1;exact lR h1 h2
theorem Mj(h1:t ρ st=.ok a st)(h2:u ρ st=.ok b st):uR t u ρ st=.ok (a||b) st:=by cases a;exact gA h1 h2;exact wJ h1
theorem Mk(h1:t ρ st=.ok a st):zK t ρ st=.ok (!a) st:=nB h1 rfl
theorem oo{N:Nat}{body:FS}(h:gH (uI fun w' bI=>w'=w/\bI=st) (body (ws.map some++List.replicate (N-ws.length) none) st)):eF N body ws st=.ok w st:=by
 obtain⟨w,bI,e,rfl,rfl⟩:=h
 exact ol e
end
end L2
open L2
local macro_rules | `(tactic| walk_at "ev1") => `(tactic| first
 | (with_reducible apply ag) <;> rfl
 | (with_reducible apply cn) <;> rfl
 | with_reducible first
  | exact bD | exact aF | exact Mf | exact yA | exact cU | exact gc | exact E3 | exact BN
  | apply bc | apply aj | apply fj | apply t9 | apply bA | apply cA | apply bR | apply nB | apply Pj
  | apply mV | apply Mg | apply yz | apply J0 | apply Pk | apply Mh | apply sv | apply uU | apply bS | apply fC | apply yB | apply mK
  | apply gF | apply nD | apply iJ | apply E5 | apply fY | apply BL | apply Pl | apply Ax
 | decide
 | (show List.length _ <= kJ; exact aq rfl)
 | (show @Eq Nat _ _; exact rfl)
 | (show @Eq Bool _ _; exact rfl)
 | (show @Eq (Option String) _ _; exact rfl)
 | (show @Eq _ _ _; with_reducible assumption))
local macro_rules | `(tactic| walk_at "evs") => `(tactic| repeat' walk_at "ev1")
local macro_rules | `(tactic| walk_at "tst") => `(tactic| first
 | (walk_at "evs"; done)
 | (apply lS; (focus walk_at "tst"); done)
 | (apply lR; (focus walk_at "tst"); (focus walk_at "tst"); done)
 | (apply wJ; (focus walk_at "tst"); done)
 | (apply gA; (focus walk_at "tst"); (focus walk_at "tst"); done))
local macro_rules | `(tactic| walk_at "go1") => `(tactic| first
 | apply bY
 | (apply fJ; (focus (walk_at "evs"; done)))
 | (apply cB; (focus (walk_at "evs"; done)))
 | (apply e_; (focus walk_at "tst"))
 | (apply bG; (focus walk_at "tst"))
 | (apply jp; (focus walk_at "tst"))
 | (apply f'; (focus walk_at "tst"))
 | (apply aH; (focus (walk_at "evs"; done))))
local macro_rules | `(tactic| walk_at "go") => `(tactic| repeat walk_at "go1")
local macro_rules | `(tactic| walk_at "tb") => `(tactic| repeat' (first | with_reducible apply Mi | with_reducible apply Mj | with_reducible apply Mk | walk_at "ev1"))
local macro_rules | `(tactic| walk_at "len") => `(tactic| (simp only [aK, bf, cQ]; show _ <= 1000000; omega))
namespace L2
open PySem PySem.Spec PyProof.Rows
section
variable{ρ ρ' ρ2:cf}{st st1 st2:List am}{fa fe:FE}{fs:FA}{g gh fz:FS}{ws:List W}{w:W}{n i:Nat}{c:Str}{cs:List Str}{P:RS->Prop}{b:Bool}
def Sz(c:Str)(I:List am->Prop):RS->Prop:=fun r=>∃ρ st,r=.ex c ρ st/\I st
theorem wK{N:Nat}{body:FS}(h:gH (Sz c fun bI=>∃x,bI=st++x) (body (ws.map some++List.replicate (N-ws.length) none) st)):eF N body ws st=.ex c st:=by
 obtain⟨ρ,bI,e,x,rfl⟩:=h
 unfold eF
 rw[e]
 simp only[qR (st:=st) (x:=x) (ws:=[]) rfl]
theorem E_{N:Nat}{body:FS}(h:gH (E9 fun _ bI=>∃x,bI=st++x) (body (ws.map some++List.replicate (N-ws.length) none) st)):eF N body ws st=.ok .non st:=by
 obtain⟨ρ,bI,e,x,rfl⟩:=h
 unfold eF
 rw[e]
 simp only[qR (st:=st) (x:=x) (ws:=[]) rfl]
theorem C7(h:P (.ex c ρ st)):gH P (Ap c ρ st):=h
theorem t_{F:List W->List am->R W}(h1:fs ρ st=.ok ws st1)(h2:F ws st1=.ex c st2)(hn:ws.length=n):dq n F fs ρ st=.ex c st2:=by unfold dq;rw[h1];simp only[R.bind_ok];rw[aB hn];exact h2
theorem Fa(h:fe ρ st=.ex c st1):bH i fe ρ st=.ex c ρ st1:=by unfold bH;rw[h];rfl
theorem C8(h:fe ρ st=.ex c st1):eQ fe ρ st=.ex c ρ st1:=by unfold eQ;rw[h];rfl
theorem Fb(h:fe ρ st=.ex c st1):dk fe ρ st=.ex c ρ st1:=by unfold dk;rw[h];rfl
theorem ua(h:g ρ st=.ex c ρ' st1)(h2:P (.ex c ρ' st1)):gH P (aW g fz ρ st):=by unfold aW;rw[h];exact h2
theorem Fc(h:g ρ st=.nx ρ' st1):Ar g cs i gh ρ st=.nx ρ' st1:=by unfold Ar;rw[h]
theorem Fd(h:g ρ st=.ex c ρ' st1)(hc:c∈cs)(h2:gh (ρ'.set i (some (.loc st1.length))) (st1++[.exc c])=.nx ρ2 st2):Ar g cs i gh ρ st=.nx (ρ2.set i none) st2:=by
 unfold Ar;rw[h];simp only;rw[aB hc,h2];rfl
theorem Fe{f:Str->Option Bool}(h:fa ρ st=.ok (.loc n) st1)(hc:st1[n]?=some (.exc c))(hf:f c=some b):wA f fa ρ st=.ok (.bl b) st1:=by
 unfold wA;rw[h];simp only[R.bind_ok,hc,hf]
theorem Pm{p q:Bool}(h:(p==q)=b):jY (.bl p) (.bl q) st=.ok (.bl b) st:=by rw[<- h];rfl
theorem yC{zs:List W}{k:Nat}{y:W}(h:st[n]?=some (.lst zs))(hk:k<=zs.length)(hl:zs.length<kJ)(DB:k<1000000):n_ (.loc n) [.int k,y] st=.ok .non (st.set n (.lst (zs.take k++y::zs.drop k))):=by
 unfold n_;simp only[h,a6];rw[aB ⟨by omega,hk,hl,by omega⟩]
theorem kM(I:cf->List am->Prop)(h:gH (E9 I) (g ρ st))(h2:∀ρ st,I ρ st->gH P (fz ρ st)):gH P (aW g fz ρ st):=by
 obtain⟨ρ',bI,e,hi⟩:=h
 exact aH e (h2 _ _ hi)
end
section
variable{ρ:cf}{st st1:List am}{fi:FI}{f:FG}{t:FT}{el:FE}{cap:List (Option Nat)}
theorem yD{ck:Option (Nat×List W)}{ρ0:cf}(hc:iG st ck)(T:W->Bool)(Y:W->W):∀(ws acc:List W),(∀w∈ws,∃ρ',f w ρ0=some ρ'/\t ρ' st=.ok (T w) st/\(T w=true->el ρ' st=.ok (Y w) st)) ->
  mI f t el ck ρ0 ws acc st=.ok (acc++(ws.filter T).map Y) st
 |[],acc,_=>by unfold mI;rw[aB hc];simp
 |w::ws,acc,h=>by
  obtain⟨ρ',e1,e2,e3⟩:=h w (by simp)
  have ih:=fun acc=>yD hc T Y ws acc fun w' hw'=>h w' (by simp[hw'])
  unfold mI
  rw[aB hc,e1]
  simp only[e2]
  cases hT:T w with
  |true=>
   simp only[e3 hT]
   rw[ih]
   simp[cI,hT]
  |false=>
   simp only
   rw[ih]
   simp[cI,hT]
theorem wL{ws:List W}{ck:Option (Nat×List W)}(T:W->Bool)(Y:W->W)(h:fi ρ st=.ok (ws,ck) st1)(hl:ws.length<=kJ)(hc:iG st1 ck)
  (hs:∀w∈ws,∃ρ',f w (lN cap ρ)=some ρ'/\t ρ' st1=.ok (T w) st1/\(T w=true->el ρ' st1=.ok (Y w) st1)):dR cap fi f t el ρ st=.ok (.loc st1.length) (st1++[.lst ((ws.filter T).map Y)]):=by
 unfold dR
 rw[h]
 simp only[R.bind_ok]
 rw[aB hl,yD hc T Y ws [] hs]
 simp only[R.bind_ok,List.nil_append,mF]
 rw[aB]
 rw[az]
 exact a7 (ej _ _) hl
theorem lV{ws:List W}{ck:Option (Nat×List W)}(Y:W->W)(h:fi ρ st=.ok (ws,ck) st1)(hl:ws.length<=kJ)(hc:iG st1 ck)
  (hs:∀w∈ws,∃ρ',f w (lN cap ρ)=some ρ'/\el ρ' st1=.ok (Y w) st1):dR cap fi f iB el ρ st=.ok (.loc st1.length) (st1++[.lst (ws.map Y)]):=by
 have:=wL (fi:=fi) (f:=f) (t:=iB) (el:=el) (cap:=cap) (fun _=>true) Y h hl hc fun w hw=>by
  obtain⟨ρ',e1,e2⟩:=hs w hw
  exact⟨ρ',e1,rfl,fun _=>e2⟩
 rw[List.filter_eq_self.mpr (fun _ _=>rfl)]at this
 exact this
theorem qU{q:Nat}{lo:Int}{w:W}(h:w∈bK lo q):∃i:Nat,i<q/\w=.int (lo+i):=by
 unfold bK at h
 obtain⟨i,hi,rfl⟩:=aL.mp h
 exact⟨i,bi.mp hi,rfl⟩
theorem g8{n:Nat}{ws:List W}(h:lstOf st n=some ws):cS [.loc n] st=.ok (.tup ws) st:=by unfold cS;simp only[h,eE]
theorem ub{ws xs:List W}(h:(ws++xs).length<=kJ):cF (.tup ws) (.tup xs) st=.ok (.tup (ws++xs)) st:=by simp only[cF,nh];rw[aB h]
theorem Ml{α:Type}{l:List α}{i j:Nat}(hj:j<=l.length)(hi:i<=j):jv l (some (i:Int)) (some (j:Int))=(l.drop i).take (j-i):=by
 unfold jv;rw[HT.sIx_nat,HT.sIx_nat,fH hj,fH (by omega)]
end
end L2
namespace P
open PySem L2
open PyProof.Rows (boot_sorted boot_set boot_ord boot_all boot_enumerate boot_int boot_str boot_bool boot_list boot_tuple boot_isinstance boot_max boot_min)
def top(i:Nat):Stmt:=PySem.Challenge.pw_trunksay_k23_first_trees.main.body.getD i (.Pass ⟨0,0,0,0⟩)
abbrev Mm:Stmt:=top 12
abbrev AA:List Str:=["names","number","marks","rest","name"]
abbrev Pn:List Str:=["names","number"]
theorem vH:bT AA Pn (bg Mm):=og
abbrev Mn:Stmt:=top 14
abbrev wM:List Str:=["newest"]
abbrev Po:List Str:=["newest"]
theorem Pp:bT wM Po (bg Mn):=og
abbrev Mo:Stmt:=top 17
abbrev wN:List Str:=["size"]
abbrev Pq:List Str:=["size"]
theorem Ps:bT wN Pq (bg Mo):=og
abbrev Mp:Stmt:=top 18
abbrev AB:List Str:=["left","right","marks","branches"]
abbrev Pt:List Str:=["left","right","marks"]
theorem BO:bT AB Pt (bg Mp):=og
abbrev Mq:Stmt:=top 19
abbrev Ff:List Str:=["left","right","marks"]
abbrev Pu:List Str:=["left","right","marks"]
theorem Pv:bT Ff Pu (bg Mq):=og
abbrev Mr:Stmt:=top 21
abbrev AC:List Str:=["machine","rows","told","best","left","right","size","letter","leads","room","way"]
abbrev Pw:List Str:=["machine","rows","told","best"]
theorem rS:bT AC Pw (bg Mr):=og
abbrev C9:Stmt:=top 22
abbrev yE:List Str:=["machine","rows","told","best","room","way"]
abbrev Px:List Str:=["machine"]
theorem vI:bT yE Px (bg C9):=og
abbrev Ms:Stmt:=top 23
abbrev IN:List Str:=["machine","rows","room","trees","row","marks"]
abbrev Py:List Str:=["machine","rows","room"]
theorem BP:bT IN Py (bg Ms):=og
abbrev Mt:Stmt:=top 24
abbrev yF:List Str:=["machine","rows","row"]
abbrev Pz:List Str:=["machine","rows","row"]
theorem PB:bT yF Pz (bg Mt):=og
abbrev Mu:Stmt:=top 25
abbrev wO:List Str:=["machine","room","rows","row"]
abbrev PD:List Str:=["machine","room"]
theorem Fg:bT wO PD (bg Mu):=og
abbrev Fh:Stmt:=top 27
abbrev yG:List Str:=["_law_left","_law_right","_law_marks"]
abbrev J1:List Str:=["_law_left","_law_right","_law_marks"]
theorem Mv:bT yG J1 (bg Fh):=og
abbrev Fi:Stmt:=top 28
abbrev wP:List Str:=["_law_names_here","_law_letter"]
abbrev J2:List Str:=["_law_names_here","_law_letter"]
theorem Mw:bT wP J2 (bg Fi):=og
abbrev Fj:Stmt:=top 29
abbrev yH:List Str:=["_law_found","_law_due","_law_k"]
abbrev Fk:List Str:=["_law_found","_law_due"]
theorem Fl:bT yH Fk (bg Fj):=og
abbrev Fm:Stmt:=top 30
abbrev yI:List Str:=["_law_machine_here","_law_ranks","_law_keys","_law_letter","_law_l","_law_r","_law_led","_law_key"]
abbrev J3:List Str:=["_law_machine_here","_law_ranks","_law_keys"]
theorem qV:bT yI J3 (bg Fm):=og
abbrev Fp:Stmt:=top 31
abbrev uV:List Str:=["_law_machine_here","_law_rows","_law_ranks","_law_keys","_law_row","_law_number","_law_l","_law_r","_law_letter","_law_key"]
abbrev J4:List Str:=["_law_machine_here","_law_rows"]
theorem lW:bT uV J4 (bg Fp):=og
abbrev Fq:Stmt:=top 32
abbrev wQ:List Str:=["_law_many","_law_extra","_law_draws_here","_law_row","_law_k","_law_room"]
abbrev J5:List Str:=["_law_many","_law_extra","_law_draws_here"]
theorem uc:bT wQ J5 (bg Fq):=og
abbrev Fs:Stmt:=top 33
abbrev wR:List Str:=["_law_cell_here","_law_k","_law_salt","_law_first"]
abbrev J6:List Str:=["_law_cell_here","_law_k","_law_salt"]
theorem Ft:bT wR J6 (bg Fs):=og
abbrev Fu:Stmt:=top 34
abbrev wS:List Str:=["_law_cell_here","_law_many","_law_salt","_law_found","_law_rest","_law_k"]
abbrev J7:List Str:=["_law_cell_here","_law_many","_law_salt"]
theorem qW:bT wS J7 (bg Fu):=og
abbrev Fv:Stmt:=top 35
abbrev yJ:List Str:=["_law_cell_here","_law_many","_law_salt","_law_rest","_law_found","_law_d","_law_at"]
abbrev J8:List Str:=["_law_cell_here","_law_many","_law_salt"]
theorem pA:bT yJ J8 (bg Fv):=og
abbrev Fw:Stmt:=top 36
abbrev yK:List Str:=["_law_script","_law_k"]
abbrev J9:List Str:=["_law_script","_law_k"]
theorem Mx:bT yK J9 (bg Fw):=og
abbrev Fx:Stmt:=top 37
abbrev wT:List Str:=["_law_d","_law_shapes"]
abbrev J_:List Str:=["_law_d"]
theorem Fy:bT wT J_ (bg Fx):=og
abbrev Fz:Stmt:=top 38
abbrev wU:List Str:=["_law_pool_here","_law_many"]
abbrev J':List Str:=["_law_pool_here","_law_many"]
theorem My:bT wU J' (bg Fz):=og
abbrev FB:Stmt:=top 39
abbrev uW:List Str:=["_law_script","_law_at","_law_many","_law_salt","_law_found","_law_k"]
abbrev Ka:List Str:=["_law_script","_law_at","_law_many","_law_salt"]
theorem wV:bT uW Ka (bg FB):=og
abbrev FC:Stmt:=top 40
abbrev wW:List Str:=["_law_way","_law_l","_law_r"]
abbrev Kb:List Str:=["_law_way","_law_l","_law_r"]
theorem Mz:bT wW Kb (bg FC):=og
abbrev FD:Stmt:=top 41
abbrev uX:List Str:=["_law_names_here","_law_many","_law_draws_here","_law_table","_law_letter","_law_more","_law_rows","_law_l","_law_only"]
abbrev Kc:List Str:=["_law_names_here","_law_many","_law_draws_here"]
theorem lX:bT uX Kc (bg FD):=og
abbrev FF:Stmt:=top 42
abbrev ud:List Str:=["_law_machine_here","_law_spot","_law_many","_law_table","_law_at","_law_rows","_law_row"]
abbrev Kd:List Str:=["_law_machine_here","_law_spot"]
theorem qX:bT ud Kd (bg FF):=og
abbrev FH:Stmt:=top 43
abbrev wX:List Str:=["_law_machine_here","_law_owner_here","_law_draws_here","_law_many","_law_at","_law_table","_law_rows","_law_made","_law_x","_law_row","_law_y","_law_due","_law_some"]
abbrev Ke:List Str:=["_law_machine_here","_law_owner_here","_law_draws_here"]
theorem jy:bT wX Ke (bg FH):=og
abbrev FJ:Stmt:=top 44
abbrev ue:List Str:=["_law_names_here","_law_many","_law_top","_law_draws_here","_law_good","_law_table","_law_at","_law_letter","_law_rows","_law_l"]
abbrev Kf:List Str:=["_law_names_here","_law_many","_law_top","_law_draws_here"]
theorem nF:bT ue Kf (bg FJ):=og
abbrev FK:Stmt:=top 45
abbrev AD:List Str:=["_law_script","_law_at","_law_pool_here","_law_head","_law_count","_law_many","_law_names_here","_law_draws_here","_law_machine_here","_law_top"]
abbrev Kg:List Str:=["_law_script","_law_at","_law_pool_here"]
theorem kR:bT AD Kg (bg FK):=og
abbrev FL:Stmt:=top 46
abbrev yL:List Str:=["_law_machine_here","_law_room","_law_found","_law_own","_law_base","_law_other","e"]
abbrev Kh:List Str:=["_law_machine_here","_law_room"]
theorem nG:bT yL Kh (bg FL):=og
abbrev FM:Stmt:=top 47
abbrev wY:List Str:=["_law_machine_here","_law_most","_law_trees","_law_first","_law_size","_law_fresh","_law_i","_law_left","_law_l","_law_right","_law_r","_law_letter","_law_tree","_law_room"]
abbrev Ki:List Str:=["_law_machine_here"]
theorem iL:bT wY Ki (bg FM):=og
abbrev FN:Stmt:=top 48
abbrev qY:List Str:=["_law_machine_here","_law_rows","_law_trees","_law_great","_law_room","_law_size","_law_why","_law_small_here","_law_due"]
abbrev Kj:List Str:=["_law_machine_here"]
theorem kg:bT qY Kj (bg FN):=og
abbrev FQ:Stmt:=top 49
abbrev wZ:List Str:=["_law_number","_law_draws_here","_law_path","_law_many","_law_place","_law_table","_law_letter","_law_trees","_law_k","_law_l","_law_r","_law_made","_law_machine_here"]
abbrev Kk:List Str:=["_law_number","_law_draws_here"]
theorem gK:bT wZ Kk (bg FQ):=og
abbrev qc:Stmt:=top 50
abbrev PF:List Str:=["_law_script","_law_pool_here","_law_head","_law_number","_law_machine_here","_law_room","_law_trees","_law_sizes","_law_due"]
abbrev FR:List Str:=["_law_script"]
theorem jz:bT PF FR (bg qc):=og
structure Bl(mg:Str->Option Value):Prop where
 ValueError:mg "ValueError"=Option.none
 bool:mg "bool"=Option.none
 enumerate:mg "enumerate"=Option.none
 int:mg "int"=Option.none
 isinstance:mg "isinstance"=Option.none
 len:mg "len"=Option.none
 list:mg "list"=Option.none
 max:mg "max"=Option.none
 min:mg "min"=Option.none
 range:mg "range"=Option.none
 reversed:mg "reversed"=Option.none
 sorted:mg "sorted"=Option.none
 str:mg "str"=Option.none
 tuple:mg "tuple"=Option.none
def jf:W:=.int 100
structure Gc(K:Frag)(mg:Str->Option Value):Prop where
 MOST_PLACES:∃u v,mg "MOST_PLACES"=some u/\cb v u/\∀μ H,bF K μ H jf v
abbrev oS:List Str:=["TrunkError","TooGreat"]
def jq:Str->Option Bool:=fun c=>if c="TrunkError" then some false else if c="TooGreat" then some true else none
def yM:Str->Option Bool:=fun c=>if c="TrunkError" then some false else if c="TooGreat" then some false else none
def hZ:Str->Option Bool:=fun c=>if c="TrunkError" then some true else if c="TooGreat" then some true else none
theorem IP:bootBuiltins "ValueError"=some (.type "ValueError"):=by first|rfl|kernel_rfl|decide +kernel
structure Lu(K:Frag)(mg:Str->Option Value):Prop where
 TrunkError:L5 K mg "TrunkError"
 TooGreat:L5 K mg "TooGreat"
 isi_TooGreat:∃Ta,mg "TooGreat"=some (.ref Ta)/\EH K mg (.ref Ta) jq
 isi_t0:∃A0,∃A1,∃A2,∃A3,∃A4,∃A5,∃A6,∃A7,mg "NoLine"=some (.ref A0)/\mg "NoName"=some (.ref A1)/\mg "NoNumber"=some (.ref A2)/\mg "NoPlace"=some (.ref A3)/\mg "NoStatement"=some (.ref A4)/\mg "NoTree"=some (.ref A5)/\mg "NothingDone"=some (.ref A6)/\mg "NothingHeld"=some (.ref A7)/\EJ K mg [A0,A1,A2,A3,A4,A5,A6,A7] yM
 isi_ValueError:EH K mg (.type "ValueError") hZ
 catch_TrunkError:ED K mg "TrunkError" oS
def tabL:List (Addr×Pos×Str):=[(177,⟨64,29,64,52⟩,"firsts_of.<locals>.<lambda>")]
section
variable{P:Program}{w:World}{K:Frag}{mg:Str->Option Value}{base:Heap}{f:Addr}{fd:FuncData}
def PH:FS:=(aW (bH 2 (eC (.str []))) (aW (bH 3 (ah 1)) (aW (gn (Aq (ai (ah 0) aD)) (eU 4) (aW (hV (eZ (e2 jY (e2 yh (ah 3) (eI 1)) (eI 1))) (bH 2 (e2 cF (ah 4) (ah 2))) cK) (bH 3 (e2 yg (ah 3) (eI 1))))) (dk (ah 2)))))
def C_:List W->List am->R W:=eF 5 PH
theorem PJ(F:kQ K "marks_of" "marks_of" Mm f fd)(B:Bl mg) :fA P w K mg base (kG P w) 1 f fd Pn (lc K mg 2 C_):=
 dm (k:=0) F vH rfl fun gI A outer s H E hr=>(aw (sS 2 vH mE) (aw (sS 3 vH (af 1)) (aw (dz (IB B.reversed (ac (af 0) ao)) (sG 4 vH) (aw (cZ (bQ (i9 hr) (bv En (af 3) au) au) (aO (sS 2 vH (bv cy (af 4) (af 2)))) cr) (aO (sS 3 vH (bv JQ (af 3) au))))) (aO (bM (af 2))))))
def PK:FS:=(dk (e2 cF (dR [none,some 0] (bw (ai (e2 cF (ah 0) (eI 1)) aD)) (eU 0) iB (dy (ai (ah 1) (ai (ah 0) aD)))) (dR [none,some 0] (bw (ai (ah 0) aD)) (eU 0) iB (dy (ai (ah 0) (ai (ah 1) aD))))))
def Da:List W->List am->R W:=eF 1 PK
theorem PL(F:kQ K "pairs_with" "pairs_with" Mn f fd)(B:Bl mg) :fA P w K mg base (kG P w) 1 f fd Po (lc K mg 1 Da):=
 dm (k:=0) F Pp rfl fun gI A outer s H E hr=>(aO (bM (bv cy (jw (nm:=["other","newest"]) (cap:=[none,some 0]) (by first|rfl|kernel_rfl) rfl (b9 B.range (ac (bv cy (af 0) au) ao)) (fun _ _ _ _ _=>(sC 0)) (fun _ _ _ _ _=>gW) (fun _ _ _ _ _=>(cM (ac (af 1) (ac (af 0) ao))))) (jw (nm:=["other","newest"]) (cap:=[none,some 0]) (by first|rfl|kernel_rfl) rfl (b9 B.range (ac (af 0) ao)) (fun _ _ _ _ _=>(sC 0)) (fun _ _ _ _ _=>gW) (fun _ _ _ _ _=>(cM (ac (af 0) (ac (af 1) ao))))))))
def FU:FS:=(hV (eZ (e2 yi (ah 0) (eC jf))) (Ap "TooGreat") cK)
def yN:List W->List am->R W:=eF 1 FU
theorem PM(F:kQ K "check_size" "check_size" Mo f fd)(G:Gc K mg)(C:Lu K mg) :fA P w K mg base (kG P w) 1 f fd Pq (lc K mg 1 yN):=
 dm (k:=0) F Ps rfl fun gI A outer s H E hr=>(aO (cZ (bQ uS (af 0) (RB G.MOST_PLACES)) (aO (EB C.TooGreat)) cr))
def PN:FS:=(aW (bH 3 (eI 0)) (aW (hV (eZ (e2 yi (bh de (ai (ah 0) aD)) (eI 0))) (bH 3 (e2 cF (ah 3) (eI 1))) cK) (aW (hV (eZ (e2 yi (bh de (ai (ah 1) aD)) (eI 0))) (bH 3 (e2 cF (ah 3) (eI 2))) cK) (dk (e2 cF (e2 cF (ah 0) (ah 1)) (dy (ai (dy (ai (ah 3) (ai (ah 2) aD))) aD)))))))
def FV:List W->List am->R W:=eF 4 PN
theorem PP(F:kQ K "with_top" "with_top" Mp f fd)(B:Bl mg) :fA P w K mg base (kG P w) 1 f fd Pt (lc K mg 3 FV):=
 dm (k:=0) F BO rfl fun gI A outer s H E hr=>(aw (sS 3 BO au) (aw (cZ (bQ uS (bE cY B.len bB (ac (af 0) ao)) au) (aO (sS 3 BO (bv cy (af 3) au))) cr) (aw (cZ (bQ uS (bE cY B.len bB (ac (af 1) ao)) au) (aO (sS 3 BO (bv cy (af 3) au))) cr) (aO (bM (bv cy (bv cy (af 0) (af 1)) (cM (ac (cM (ac (af 3) (ac (af 2) ao))) ao))))))))
def PQ:FS:=(aW (eQ (dq 1 yN (ai (e2 cF (e2 cF (bh de (ai (ah 0) aD)) (bh de (ai (ah 1) aD))) (eI 1)) aD))) (dk (dq 3 FV (ai (ah 0) (ai (ah 1) (ai (ah 2) aD))))))
def Db:List W->List am->R W:=eF 3 PQ
theorem PR(F:kQ K "joined" "joined" Mq f fd)(B:Bl mg)(Dv:cu P w K mg base 1 "check_size" 1 yN)(NB:cu P w K mg base 1 "with_top" 3 FV):fA P w K mg base (kG P w) 2 f fd Pu (lc K mg 3 Db):=
 dm (k:=1) F Pv rfl fun gI A outer s H E hr=>(aw (d9 (cJ Dv hr (by omega) (ac (bv cy (bv cy (bE cY B.len bB (ac (af 0) ao)) (bE cY B.len bB (ac (af 1) ao))) au) ao))) (aO (bM (cJ NB hr (by omega) (ac (af 0) (ac (af 1) (ac (af 2) ao)))))))
def PU:FS:=(gn (eY (dq 1 Da (ai (e2 jM (bh de (ai (ah 1) aD)) (eI 1)) aD))) (DE 2 (eL (eU 4) (eL (eU 5) nq))) (aW (bH 6 (e2 cF (e2 cF (e2 bC (e2 bC (ah 1) (ah 4)) (eI 1)) (e2 bC (e2 bC (ah 1) (ah 5)) (eI 1))) (eI 1))) (gn (wu (ai (e2 bC (ah 0) (eI 2)) aD)) (DE 2 (eL (eU 7) (eL (eU 8) nq))) (aW (bH 9 (e2 bC (e2 bC (ah 8) (e2 bC (e2 bC (ah 1) (ah 4)) (eI 0))) (e2 bC (e2 bC (ah 1) (ah 5)) (eI 0)))) (aW (bH 10 (dy (ai (ah 6) (ai (ah 4) (ai (ah 5) (ai (ah 7) aD)))))) (hV (Ei (eZ (e2 (lp true) (ah 9) (ah 2))) (uR (eZ (e2 (lp true) (ah 9) (ah 3))) (eZ (e2 sk (ah 10) (e2 jx (ah 3) (ah 9)))))) (nu (ah 3) (ah 9) (ah 10) mJ) cK))))))
def Dc:List W->List am->R W:=eF 11 PU
theorem PV(F:kQ K "put_ways" "put_ways" Mr f fd)(B:Bl mg)(NG:cu P w K mg base 1 "pairs_with" 1 Da):fA P w K mg base (kG P w) 2 f fd Pw (lc K mg 4 Dc):=
 dm (k:=1) F rS rfl fun gI A outer s H E hr=>(aO (dz (iH (cJ NG hr (by omega) (ac (bv kL (bE cY B.len bB (ac (af 1) ao)) au) ao))) (lL rfl (dv (sG 4 rS) (dv (sG 5 rS) jO))) (aw (sS 6 rS (bv cy (bv cy (bp (bp (af 1) (af 4)) au) (bp (bp (af 1) (af 5)) au)) au)) (aO (dz (Iy B.enumerate (ac (bp (af 0) au) ao)) (lL rfl (dv (sG 7 rS) (dv (sG 8 rS) jO))) (aw (sS 9 rS (bp (bp (af 8) (bp (bp (af 1) (af 4)) au)) (bp (bp (af 1) (af 5)) au))) (aw (sS 10 rS (cM (ac (af 6) (ac (af 4) (ac (af 5) (ac (af 7) ao)))))) (aO (cZ (tu (Ad (bQ (lq hr (vp hr)) (af 9) (af 2)) (wg (tu (jX (bQ (lq hr (vp hr)) (af 9) (af 3)) (ng (bQ (BJ hr) (af 10) (jH hr (af 3) (af 9))))))))) (aO (jZ (qP hr) (af 10) (af 3) (af 9))) cr)))))))))
theorem uY(p2 p3 p4:Pos):ER "each" "best" ⟨[],[⟨"each",none,⟨64,36,64,40⟩⟩],none,[],[],none,[]⟩ (.Subscript (.Name "best" p2) (.Name "each" p3) p4) (EU [("each",.local),("best",.free)]):=⟨rfl,rfl,rfl,by decide,rfl,rfl,fun _ _ _ _ _ _ _=>rfl,by decide,by decide,by decide⟩
def PX:FS:=(aW (bH 1 (kF (ai (dy (ai (eI 0) (ai (eI 0) (ai (dy aD) aD)))) aD))) (aW (bH 2 (oR (j_ (eI 0) (eC (.bl true)) nz))) (aW (bH 3 EO) (aW (eQ (dq 4 Dc (ai (ah 0) (ai (ah 1) (ai (ah 2) (ai (ah 3) aD)))))) (aW (lM (eZ (e2 yi (bh tY (ai (ah 3) aD)) (eI 0))) (aW (bH 4 (t6 3 1 177 ⟨64,29,64,52⟩ "firsts_of.<locals>.<lambda>")) (aW (bH 5 (BH (ah 3) (ah 4))) (aW (eQ (si c9 (ah 1) (ai (dy (ai (ah 4) (ai (e2 bC (ah 5) (eI 0)) (ai (dy (ai (e2 bC (e2 bC (ah 1) (e2 bC (ah 5) (eI 1))) (eI 0)) (ai (e2 bC (e2 bC (ah 1) (e2 bC (ah 5) (eI 2))) (eI 0)) (ai (e2 bC (ah 5) (eI 3)) aD)))) aD)))) aD))) (aW (nu (ah 2) (ah 4) (eC (.bl true)) mJ) (eQ (dq 4 Dc (ai (ah 0) (ai (ah 1) (ai (ah 2) (ai (ah 3) aD))))))))))) (dk (bh cS (ai (ah 1) aD))))))))
def uf:List W->List am->R W:=eF 6 PX
theorem PY(F:kQ K "firsts_of" "firsts_of" C9 f fd)(Tc:RM K fd 177)(Bk:yu base mg)(B:Bl mg)(JD:cu P w K mg base 2 "put_ways" 4 Dc):fA P w K mg base (kG P w) 3 f fd Px (lc K mg 1 uf):=
 Tc.elim fun cT hT=>BC (k:=2) F vI rfl fun gI A outer s H E nK hr=>(aw (sS 1 vI (iE (ac (cM (ac au (ac au (ac (cM ao) ao)))) ao))) (aw (sS 2 vI (t5 (p_ au iZ tZ))) (aw (sS 3 vI Mb) (aw (d9 (cJ JD hr (by omega) (ac (af 0) (ac (af 1) (ac (af 2) (ac (af 3) ao)))))) (aw (ym (bQ uS (bE Ma B.len bB (ac (af 3) ao)) au) (aw (sS 4 vI (IK (i:=3) (j:=1) hr (uY _ _ _) (nK.symm.trans hT.1) hT.2.1 hT.2.2 Bk B.min rfl)) (aw (sS 5 vI (Md (af 3) (af 4))) (aw (d9 (mU PySem.F.slot_list_append PySem.F.type_list_append dE (af 1) (ac (cM (ac (af 4) (ac (bp (af 5) au) (ac (cM (ac (bp (bp (af 1) (bp (af 5) au)) au) (ac (bp (bp (af 1) (bp (af 5) au)) au) (ac (bp (af 5) au) ao)))) ao)))) ao))) (aw (jZ (qP hr) iZ (af 2) (af 4)) (aO (d9 (cJ JD hr (by omega) (ac (af 0) (ac (af 1) (ac (af 2) (ac (af 3) ao)))))))))))) (aO (bM (cO eJ B.tuple bV (ac (af 1) ao)))))))))
def PZ:FS:=(aW (bH 3 (oR (j_ (eI 0) (dy aD) nz))) (aW (gn (eY (ah 1)) (eU 4) (aW (hV (eZ (e2 yi (bh de (ai (e2 bC (ah 4) (eI 2)) aD)) (eI 0))) (aW (bH 5 (dq 2 C_ (ai (e2 bC (ah 0) (eI 0)) (ai (e2 bC (e2 bC (ah 4) (eI 2)) (eI 2)) aD)))) (nu (ah 3) (e2 bC (ah 4) (eI 0)) (dq 3 Db (ai (e2 jx (ah 3) (e2 bC (e2 bC (ah 4) (eI 2)) (eI 0))) (ai (e2 jx (ah 3) (e2 bC (e2 bC (ah 4) (eI 2)) (eI 1))) (ai (ah 5) aD)))) mJ)) cK) (hV (eZ (e2 jY (e2 bC (ah 4) (eI 0)) (ah 2))) wm cK))) (dk (e2 jx (ah 3) (ah 2)))))
def FW:List W->List am->R W:=eF 6 PZ
theorem P0(F:kQ K "built" "built" Ms f fd)(B:Bl mg)(Np:cu P w K mg base 2 "joined" 3 Db)(Nv:cu P w K mg base 1 "marks_of" 2 C_):fA P w K mg base (kG P w) 3 f fd Py (lc K mg 3 FW):=
 dm (k:=2) F BP rfl fun gI A outer s H E hr=>(aw (sS 3 BP (t5 (p_ au (cM ao) tZ))) (aw (dz (iH (af 1)) (sG 4 BP) (aw (cZ (bQ uS (bE cY B.len bB (ac (bp (af 4) au) ao)) au) (aw (sS 5 BP (cJ Nv hr (by omega) (ac (bp (af 0) au) (ac (bp (bp (af 4) au) au) ao)))) (aO (jZ (qP hr) (cJ Np hr (by omega) (ac (jH hr (af 3) (bp (bp (af 4) au) au)) (ac (jH hr (af 3) (bp (bp (af 4) au) au)) (ac (af 5) ao)))) (af 3) (bp (af 4) au)))) cr) (aO (cZ (bQ (i9 hr) (bp (af 4) au) (af 2)) (aO Es) cr)))) (aO (bM (jH hr (af 3) (af 2))))))
def MA:FS:=(aW (eQ (dq 1 yN (ai (e2 bC (ah 2) (eI 1)) aD))) (dk (dq 3 FW (ai (ah 0) (ai (ah 1) (ai (e2 bC (ah 2) (eI 0)) aD))))))
def Dd:List W->List am->R W:=eF 3 MA
theorem P1(F:kQ K "told_tree" "told_tree" Mt f fd) (NE:cu P w K mg base 3 "built" 3 FW)(Dv:cu P w K mg base 1 "check_size" 1 yN):fA P w K mg base (kG P w) 4 f fd Pz (lc K mg 3 Dd):=
 dm (k:=3) F PB rfl fun gI A outer s H E hr=>(aw (d9 (cJ Dv hr (by omega) (ac (bp (af 2) au) ao))) (aO (bM (cJ NE hr (by omega) (ac (af 0) (ac (af 1) (ac (bp (af 2) au) ao)))))))
def IQ:FS:=(aW (bH 2 (dq 1 uf (ai (ah 0) aD))) (aW (gn (eY (ah 2)) (eU 3) (hV (eZ (e2 jY (e2 bC (ah 3) (eI 0)) (ah 1))) (dk (dq 3 Dd (ai (ah 0) (ai (ah 2) (ai (ah 3) aD))))) cK)) (dk (eC .non))))
def yO:List W->List am->R W:=eF 4 IQ
theorem P2(F:kQ K "first_tree" "first_tree" Mu f fd) (xD:cu P w K mg base 3 "firsts_of" 1 uf)(NC:cu P w K mg base 4 "told_tree" 3 Dd):fA P w K mg base (kG P w) 5 f fd PD (lc K mg 2 yO):=
 dm (k:=4) F Fg rfl fun gI A outer s H E hr=>(aw (sS 2 Fg (cJ xD hr (by omega) (ac (af 0) ao))) (aw (dz (iH (af 2)) (sG 3 Fg) (aO (cZ (bQ (i9 hr) (bp (af 3) au) (af 1)) (aO (bM (cJ NC hr (by omega) (ac (af 0) (ac (af 2) (ac (af 3) ao)))))) cr))) (aO (bM OS))))
def Kl:FS:=(dk (e2 cF (e2 cF (ah 0) (ah 1)) (dy (ai (dy (ai (e2 cF (bh CW (ai (e2 yi (bh de (ai (ah 0) aD)) (eI 0)) aD)) (e2 g6 (eI 2) (bh CW (ai (e2 yi (bh de (ai (ah 1) aD)) (eI 0)) aD)))) (ai (ah 2) aD))) aD))))
def oT:List W->List am->R W:=eF 3 Kl
theorem MB(F:kQ K "_law_join" "_law_join" Fh f fd)(B:Bl mg) :fA P w K mg base (kG P w) 1 f fd J1 (lc K mg 3 oT):=
 dm (k:=0) F Mv rfl fun gI A outer s H E hr=>(aO (bM (bv cy (bv cy (af 0) (af 1)) (cM (ac (cM (ac (bv cy (cO JS B.int nX (ac (rM uS (bE cY B.len bB (ac (af 0) ao)) au) ao)) (bv iu au (cO JS B.int nX (ac (rM uS (bE cY B.len bB (ac (af 1) ao)) au) ao)))) (ac (af 2) ao))) ao)))))
def Km:FS:=(dk (JW oO (eC (.str [])) (ai (dR [none,some 0,some 1] (bw (ai (bh de (ai (ah 0) aD)) aD)) (eU 0) (eZ (e2 jY (e2 yh (e2 yg (ah 2) (e2 jM (e2 jM (bh de (ai (ah 1) aD)) (eI 1)) (ah 0))) (eI 1)) (eI 1))) (e2 bC (ah 1) (ah 0))) aD)))
def ug:List W->List am->R W:=eF 2 Km
theorem MC(F:kQ K "_law_given" "_law_given" Fi f fd)(B:Bl mg) :fA P w K mg base (kG P w) 1 f fd J2 (lc K mg 2 ug):=
 dm (k:=0) F Mw rfl fun gI A outer s H E hr=>(aO (bM (O9 PySem.F.slot_str_join PySem.F.type_str_join BD mE (ac (jw (nm:=["_law_k","_law_names_here","_law_letter"]) (cap:=[none,some 0,some 1]) (by first|rfl|kernel_rfl) rfl (b9 B.range (ac (bE cY B.len bB (ac (af 0) ao)) ao)) (fun _ _ _ _ _=>(sC 0)) (fun _ _ _ _ _=>(wt (bQ (i9 hr) (bv En (bv JQ (af 2) (bv kL (bv kL (bE cY B.len bB (ac (af 1) ao)) au) (af 0))) au) au))) (fun _ _ _ _ _=>(bp (af 1) (af 0)))) ao))))
def vJ(QH:List W->List am->R W):FS:=(aW (hV (eZ (oF "tuple" (ah 1))) (aW (hV (uR (zK (eZ (oF "tuple" (ah 0)))) (eZ (e2 CU (bh de (ai (ah 0) aD)) (bh de (ai (ah 1) aD))))) (dk (eC (.bl false))) cK) (aW (gn (bw (ai (bh de (ai (ah 1) aD)) aD)) (eU 2) (hV (zK (eZ (dq 2 QH (ai (e2 bC (ah 0) (ah 2)) (ai (e2 bC (ah 1) (ah 2)) aD))))) (dk (eC (.bl false))) cK)) (dk (eC (.bl true))))) cK) (aW (hV (eZ (Af (ah 1))) (dk (Af (ah 0))) cK) (aW (hV (eZ (oF "bool" (ah 1))) (dk (Ae (oF "bool" (ah 0)) (e2 jY (ah 0) (ah 1)))) cK) (aW (hV (eZ (oF "int" (ah 1))) (dk (Ae (oF "int" (ah 0)) (Ae (Iu (oF "bool" (ah 0))) (e2 jY (ah 0) (ah 1))))) cK) (dk (Ae (oF "str" (ah 0)) (e2 jY (ah 0) (ah 1))))))))
def gp:Nat->List W->List am->R W
 |0=>fun _ _=>.bad
 |k+1=>eF 3 (vJ (gp k))
theorem BQ{G9:Addr}{Ny:FuncData}(vZ:kQ K "_law_same" "_law_same" Fj G9 Ny)(zy:mg "_law_same"=some (.ref G9))(B:Bl mg) :∀k:Nat,cu P w K mg base (0+k) "_law_same" 2 (gp k)
 |0=>EA (ps:=Fk) vZ zy rfl (fun _ _ _ _ _ _ us hl=>match us,hl with|[_,_],_=>rfl)
 |k+1=>by
  have mO:=BQ vZ zy B  k
  exact wq (ps:=Fk) vZ zy rfl (fun _ _ _ _ _ _ us hl=>match us,hl with|[_,_],_=>rfl) (dm (k:=0+k) vZ Fl rfl fun gI A outer s H E hr=>(aw (cZ (iq (ln B.isinstance B.tuple bV (af 1))) (aw (cZ (tu (jX (ju (iq (ln B.isinstance B.tuple bV (af 0)))) (ng (bQ (Ah hr) (bE cY B.len bB (ac (af 0) ao)) (bE cY B.len bB (ac (af 1) ao)))))) (aO (bM iZ)) cr) (aw (dz (b9 B.range (ac (bE cY B.len bB (ac (af 1) ao)) ao)) (sG 2 Fl) (aO (cZ (ju (iq (cJ mO hr (by omega) (ac (bp (af 0) (af 2)) (ac (bp (af 1) (af 2)) ao))))) (aO (bM iZ)) cr))) (aO (bM iZ)))) cr) (aw (cZ (LU (af 1)) (aO (bM (OV (af 0)))) cr) (aw (cZ (iq (ln B.isinstance B.bool oE (af 1))) (aO (bM (Bx (ln B.isinstance B.bool oE (af 0)) (Ej (rM (i9 hr) (af 0) (af 1)))))) cr) (aw (cZ (iq (ln B.isinstance B.int nX (af 1))) (aO (bM (Bx (ln B.isinstance B.int nX (af 0)) (Bx (OT (ln B.isinstance B.bool oE (af 0))) (Ej (rM (i9 hr) (af 0) (af 1))))))) cr) (aO (bM (Bx (ln B.isinstance B.str boot_str (af 0)) (Ej (rM (i9 hr) (af 0) (af 1)))))))))))
def Kn:FS:=(aW (gn (bw (ai (bh de (ai (e2 bC (ah 0) (eI 2)) aD)) aD)) (eU 3) (gn (qQ (ah 1)) (eU 4) (gn (qQ (ah 1)) (eU 5) (aW (bH 6 (e2 bC (e2 bC (e2 bC (e2 bC (ah 0) (eI 2)) (ah 3)) (ah 4)) (ah 5))) (aW (hV (eZ (e2 (lp true) (ah 6) (ah 1))) (dk (eC (.bl false))) cK) (aW (bH 7 (dy (ai (e2 cF (e2 cF (eI 1) (e2 bC (e2 bC (ah 2) (e2 jx (ah 1) (ah 4))) (eI 0))) (e2 bC (e2 bC (ah 2) (e2 jx (ah 1) (ah 5))) (eI 0))) (ai (e2 jx (ah 1) (ah 4)) (ai (e2 jx (ah 1) (ah 5)) (ai (ah 3) aD)))))) (hV (eZ (e2 sk (ah 7) (e2 bC (ah 2) (e2 jx (ah 1) (ah 6))))) (dk (eC (.bl false))) cK))))))) (dk (eC (.bl true))))
def yP:List W->List am->R W:=eF 8 Kn
theorem MD(F:kQ K "_law_shut" "_law_shut" Fm f fd)(B:Bl mg) :fA P w K mg base (kG P w) 1 f fd J3 (lc K mg 3 yP):=
 dm (k:=0) F qV rfl fun gI A outer s H E hr=>(aw (dz (b9 B.range (ac (bE cY B.len bB (ac (bp (af 0) au) ao)) ao)) (sG 3 qV) (aO (dz (BK (af 1)) (sG 4 qV) (aO (dz (BK (af 1)) (sG 5 qV) (aw (sS 6 qV (bp (bp (bp (bp (af 0) au) (af 3)) (af 4)) (af 5))) (aw (cZ (bQ (lq hr (vp hr)) (af 6) (af 1)) (aO (bM iZ)) cr) (aw (sS 7 qV (cM (ac (bv cy (bv cy au (bp (bp (af 2) (jH hr (af 1) (af 4))) au)) (bp (bp (af 2) (jH hr (af 1) (af 5))) au)) (ac (jH hr (af 1) (af 4)) (ac (jH hr (af 1) (af 5)) (ac (af 3) ao)))))) (aO (cZ (bQ (BJ hr) (af 7) (bp (af 2) (jH hr (af 1) (af 6)))) (aO (bM iZ)) cr)))))))))) (aO (bM iZ)))
def Ko:FS:=(aW (hV (uR (zK (eZ (oF "tuple" (ah 1)))) (uR (eZ (e2 jY (bh de (ai (ah 1) aD)) (eI 0))) (zK (eZ (dq 2 (gp 40) (ai (e2 bC (ah 1) (eI 0)) (ai (dy (ai (eI 0) (ai (eI 0) (ai (dy aD) aD)))) aD))))))) (dk (eC (.bl false))) cK) (aW (bH 2 (oR (j_ (eI 0) (eI 0) nz))) (aW (bH 3 (kF (ai (dy (ai (eI 0) aD)) aD))) (aW (gn (eY (Ai (ah 1) (jm (eI 1)) mG)) (eU 4) (aW (hV (uR (zK (eZ (oF "tuple" (ah 4)))) (uR (eZ (e2 CU (bh de (ai (ah 4) aD)) (eI 3))) (uR (zK (eZ (oF "tuple" (e2 bC (ah 4) (eI 2))))) (eZ (e2 CU (bh de (ai (e2 bC (ah 4) (eI 2)) aD)) (eI 3)))))) (dk (eC (.bl false))) cK) (aW (gn (eY (e2 cF (Ai (ah 4) mG (jm (eI 2))) (e2 bC (ah 4) (eI 2)))) (eU 5) (hV (uR (zK (eZ (oF "int" (ah 5)))) (eZ (oF "bool" (ah 5)))) (dk (eC (.bl false))) cK)) (aW (sg (e2 bC (ah 4) (eI 2)) (DE 3 (eL (eU 6) (eL (eU 7) (eL (eU 8) nq))))) (aW (hV (uR (eZ (e2 (lp true) (ah 6) (ah 2))) (uR (eZ (e2 (lp true) (ah 7) (ah 2))) (uR (eZ (e2 sk (ah 8) (eI 0))) (eZ (e2 QT (ah 8) (bh de (ai (e2 bC (ah 0) (eI 2)) aD))))))) (dk (eC (.bl false))) cK) (aW (bH 9 (dy (ai (e2 cF (e2 cF (eI 1) (e2 bC (e2 bC (ah 3) (e2 jx (ah 2) (ah 6))) (eI 0))) (e2 bC (e2 bC (ah 3) (e2 jx (ah 2) (ah 7))) (eI 0))) (ai (e2 jx (ah 2) (ah 6)) (ai (e2 jx (ah 2) (ah 7)) (ai (ah 8) aD)))))) (aW (hV (uR (eZ (e2 (lp false) (e2 bC (ah 4) (eI 0)) (ah 2))) (uR (eZ (e2 CU (e2 bC (e2 bC (e2 bC (e2 bC (ah 0) (eI 2)) (ah 8)) (ah 6)) (ah 7)) (e2 bC (ah 4) (eI 0)))) (uR (eZ (e2 CU (e2 bC (ah 4) (eI 1)) (e2 bC (ah 9) (eI 0)))) (zK (eZ (e2 sk (e2 bC (ah 3) (An (eI 1))) (ah 9))))))) (dk (eC (.bl false))) cK) (aW (nu (ah 2) (e2 bC (ah 4) (eI 0)) (bh de (ai (ah 3) aD)) mJ) (eQ (si c9 (ah 3) (ai (ah 9) aD))))))))))) (dk (dq 3 yP (ai (ah 0) (ai (ah 2) (ai (ah 3) aD)))))))))
def yQ:List W->List am->R W:=eF 10 Ko
theorem ME(F:kQ K "_law_ranked" "_law_ranked" Fp f fd)(B:Bl mg)(mO:cu P w K mg base 40 "_law_same" 2 (gp 40))(He:cu P w K mg base 1 "_law_shut" 3 yP):fA P w K mg base (kG P w) 41 f fd J4 (lc K mg 2 yQ):=
 dm (k:=40) F lW rfl fun gI A outer s H E hr=>(aw (cZ (tu (jX (ju (iq (ln B.isinstance B.tuple bV (af 1)))) (jX (bQ (i9 hr) (bE cY B.len bB (ac (af 1) ao)) au) (ng (ju (iq (cJ mO hr (by omega) (ac (bp (af 1) au) (ac (cM (ac au (ac au (ac (cM ao) ao)))) ao))))))))) (aO (bM iZ)) cr) (aw (sS 2 lW (t5 (p_ au au tZ))) (aw (sS 3 lW (iE (ac (cM (ac au ao)) ao))) (aw (dz (iH (tF (af 1) (gU au) jN)) (sG 4 lW) (aw (cZ (tu (jX (ju (iq (ln B.isinstance B.tuple bV (af 4)))) (jX (bQ (Ah hr) (bE cY B.len bB (ac (af 4) ao)) au) (jX (ju (iq (ln B.isinstance B.tuple bV (bp (af 4) au)))) (ng (bQ (Ah hr) (bE cY B.len bB (ac (bp (af 4) au) ao)) au)))))) (aO (bM iZ)) cr) (aw (dz (iH (bv cy (tF (af 4) jN (gU au)) (bp (af 4) au))) (sG 5 lW) (aO (cZ (tu (jX (ju (iq (ln B.isinstance B.int nX (af 5)))) (ng (iq (ln B.isinstance B.bool oE (af 5)))))) (aO (bM iZ)) cr))) (aw (wn (bp (af 4) au) (lL rfl (dv (sG 6 lW) (dv (sG 7 lW) (dv (sG 8 lW) jO))))) (aw (cZ (tu (jX (bQ (lq hr (vp hr)) (af 6) (af 2)) (jX (bQ (lq hr (vp hr)) (af 7) (af 2)) (jX (bQ (BJ hr) (af 8) au) (ng (bQ LX (af 8) (bE cY B.len bB (ac (bp (af 0) au) ao)))))))) (aO (bM iZ)) cr) (aw (sS 9 lW (cM (ac (bv cy (bv cy au (bp (bp (af 3) (jH hr (af 2) (af 6))) au)) (bp (bp (af 3) (jH hr (af 2) (af 7))) au)) (ac (jH hr (af 2) (af 6)) (ac (jH hr (af 2) (af 7)) (ac (af 8) ao)))))) (aw (cZ (tu (jX (bQ (JY hr (LZ hr)) (bp (af 4) au) (af 2)) (jX (bQ (Ah hr) (bp (bp (bp (bp (af 0) au) (af 8)) (af 6)) (af 7)) (bp (af 4) au)) (jX (bQ (Ah hr) (bp (af 4) au) (bp (af 9) au)) (ng (ju (bQ (BJ hr) (bp (af 3) (Ey au)) (af 9)))))))) (aO (bM iZ)) cr) (aw (jZ (qP hr) (bE cY B.len bB (ac (af 3) ao)) (af 2) (bp (af 4) au)) (aO (d9 (mU PySem.F.slot_list_append PySem.F.type_list_append dE (af 3) (ac (af 9) ao)))))))))))) (aO (bM (cJ He hr (by omega) (ac (af 0) (ac (af 2) (ac (af 3) ao))))))))))
def FX:FS:=(aW (bH 3 (kF (ai (eI 0) aD))) (aW (gn (j4 (ai (eI 1) (ai (e2 cF (ah 0) (ah 1)) aD))) (eU 4) (aW (bH 5 (ah 4)) (aW (hV (eZ (e2 QT (ah 4) (ah 0))) (bH 5 (e2 dQ (e2 bC (ah 2) (e2 cF (e2 g6 (eI 2) (ah 4)) (eI 1))) (ah 0))) cK) (eQ (si n_ (ah 3) (ai (e2 cF (eI 1) (e2 dQ (e2 bC (ah 2) (e2 g6 (eI 2) (ah 4))) (bh de (ai (ah 3) aD)))) (ai (ah 5) aD))))))) (dk (ah 3))))
def rT:List W->List am->R W:=eF 6 FX
theorem MF(F:kQ K "_law_owner" "_law_owner" Fq f fd)(B:Bl mg) :fA P w K mg base (kG P w) 1 f fd J5 (lc K mg 3 rT):=
 dm (k:=0) F uc rfl fun gI A outer s H E hr=>(aw (sS 3 uc (iE (ac au ao))) (aw (dz (vt B.range (ac au (ac (bv cy (af 0) (af 1)) ao))) (sG 4 uc) (aw (sS 5 uc (af 4)) (aw (cZ (bQ LX (af 4) (af 0)) (aO (sS 5 uc (bv dP (bp (af 2) (bv cy (bv iu au (af 4)) au)) (af 0)))) cr) (aO (d9 (mU PySem.F.slot_list_insert PySem.F.type_list_insert C2 (af 3) (ac (bv cy au (bv dP (bp (af 2) (bv iu au (af 4))) (bE cY B.len bB (ac (af 3) ao)))) (ac (af 5) ao)))))))) (aO (bM (af 3)))))
def P3:FS:=(aW (bH 3 (e2 dQ (e2 g6 (e2 cF (e2 cF (e2 cF (ah 0) (e2 g6 (e2 g6 (eI 7) (ah 1)) (ah 1))) (e2 g6 (eI 13) (ah 1))) (ah 2)) (eI 69621)) (eI 2147483647))) (dk (e2 dQ (e2 g6 (e2 dQ (e2 cF (e2 cF (e2 g6 (ah 3) (e2 cF (e2 nj (ah 3) (eI 1009)) (eI 3))) (e2 g6 (eI 31) (ah 1))) (ah 2)) (eI 2147483629)) (eI 48271)) (eI 1000000007))))
def vK:List W->List am->R W:=eF 4 P3
theorem MG(F:kQ K "_law_mixed" "_law_mixed" Fs f fd)  :fA P w K mg base (kG P w) 1 f fd J6 (lc K mg 3 vK):=
 dm (k:=0) F Ft rfl fun gI A outer s H E hr=>(aw (sS 3 Ft (bv dP (bv iu (bv cy (bv cy (bv cy (af 0) (bv iu (bv iu au (af 1)) (af 1))) (bv iu au (af 1))) (af 2)) au) au)) (aO (bM (bv dP (bv iu (bv dP (bv cy (bv cy (bv iu (af 3) (bv cy (bv tD (af 3) au) au)) (bv iu au (af 1))) (af 2)) au) au) au))))
def Kp:FS:=(aW (bH 3 (kF aD)) (aW (bH 4 (eI 0)) (aW (hV (eZ (e2 QT (ah 0) (e2 OY (eI 10) (eI 18)))) (bH 4 (ah 0)) cK) (aW (gn (bw (ai (ah 1) aD)) (eU 5) (hV (eZ (e2 yi (ah 4) (eI 0))) (aW (eQ (si c9 (ah 3) (ai (e2 dQ (ah 4) (eI 64)) aD))) (bH 4 (e2 nj (ah 4) (eI 64)))) (eQ (si c9 (ah 3) (ai (dq 3 vK (ai (ah 0) (ai (ah 5) (ai (ah 2) aD)))) aD))))) (dk (ah 3))))))
def mM:List W->List am->R W:=eF 6 Kp
theorem MH(F:kQ K "_law_draws" "_law_draws" Fu f fd)(B:Bl mg)(Ha:cu P w K mg base 1 "_law_mixed" 3 vK):fA P w K mg base (kG P w) 2 f fd J7 (lc K mg 3 mM):=
 dm (k:=1) F qW rfl fun gI A outer s H E hr=>(aw (sS 3 qW (iE ao)) (aw (sS 4 qW au) (aw (cZ (bQ LX (af 0) (bv O0 au au)) (aO (sS 4 qW (af 0))) cr) (aw (dz (b9 B.range (ac (af 1) ao)) (sG 5 qW) (aO (cZ (bQ uS (af 4) au) (aw (d9 (mU PySem.F.slot_list_append PySem.F.type_list_append dE (af 3) (ac (bv dP (af 4) au) ao))) (aO (sS 4 qW (bv tD (af 4) au)))) (aO (d9 (mU PySem.F.slot_list_append PySem.F.type_list_append dE (af 3) (ac (cJ Ha hr (by omega) (ac (af 0) (ac (af 5) (ac (af 2) ao)))) ao))))))) (aO (bM (af 3)))))))
def Kq:FS:=(aW (bH 3 (eC (.str [65,66,67,68,69,70,71,72,73,74,75,76,77,78,79,80,81,82,83,84,85,86,87,88,89,90,97,98,99,100,101,102,103,104,105,106,107,108,109,110,111,112,113,114,115,116,117,118,119,120,121,122]))) (aW (bH 4 (eC (.str []))) (aW (gn (eY (dq 3 mM (ai (ah 0) (ai (ah 1) (ai (ah 2) aD))))) (eU 5) (aW (bH 6 (e2 dQ (ah 5) (bh de (ai (ah 3) aD)))) (aW (bH 4 (e2 cF (ah 4) (e2 bC (ah 3) (ah 6)))) (bH 3 (e2 cF (Ai (ah 3) mG (jm (ah 6))) (Ai (ah 3) (jm (e2 cF (ah 6) (eI 1))) mG)))))) (dk (ah 4)))))
def yR:List W->List am->R W:=eF 7 Kq
theorem MI(F:kQ K "_law_pool" "_law_pool" Fv f fd)(B:Bl mg)(mP:cu P w K mg base 2 "_law_draws" 3 mM):fA P w K mg base (kG P w) 3 f fd J8 (lc K mg 3 yR):=
 dm (k:=2) F pA rfl fun gI A outer s H E hr=>(aw (sS 3 pA mE) (aw (sS 4 pA mE) (aw (dz (iH (cJ mP hr (by omega) (ac (af 0) (ac (af 1) (ac (af 2) ao))))) (sG 5 pA) (aw (sS 6 pA (bv dP (af 5) (bE cY B.len bB (ac (af 3) ao)))) (aw (sS 4 pA (bv cy (af 4) (bp (af 3) (af 6)))) (aO (sS 3 pA (bv cy (tF (af 3) jN (gU (af 6))) (tF (af 3) (gU (bv cy (af 6) au)) jN))))))) (aO (bM (af 4))))))
def P4:FS:=(aW (hV (eZ (e2 jY (bh de (ai (ah 0) aD)) (eI 0))) (dk (eI 0)) cK) (dk (e2 bC (ah 0) (e2 dQ (ah 1) (bh de (ai (ah 0) aD))))))
def nH:List W->List am->R W:=eF 2 P4
theorem MJ(F:kQ K "_law_cell" "_law_cell" Fw f fd)(B:Bl mg) :fA P w K mg base (kG P w) 1 f fd J9 (lc K mg 2 nH):=
 dm (k:=0) F Mx rfl fun gI A outer s H E hr=>(aw (cZ (bQ (i9 hr) (bE cY B.len bB (ac (af 0) ao)) au) (aO (bM au)) cr) (aO (bM (bp (af 0) (bv dP (af 1) (bE cY B.len bB (ac (af 0) ao)))))))
def Kr:FS:=(aW (bH 1 (dy (ai (dy (ai (eI 0) (ai (eI 1) aD))) (ai (dy (ai (eI 0) (ai (eI 5) aD))) (ai (dy (ai (eI 0) (ai (eI 9) aD))) (ai (dy (ai (eI 1) (ai (eI 2) aD))) (ai (dy (ai (eI 1) (ai (eI 4) aD))) (ai (dy (ai (eI 1) (ai (eI 6) aD))) (ai (dy (ai (eI 2) (ai (eI 1) aD))) (ai (dy (ai (eI 2) (ai (eI 3) aD))) (ai (dy (ai (eI 2) (ai (eI 5) aD))) (ai (dy (ai (eI 3) (ai (eI 2) aD))) (ai (dy (ai (eI 3) (ai (eI 4) aD))) (ai (dy (ai (eI 5) (ai (eI 2) aD))) aD)))))))))))))) (dk (e2 bC (ah 1) (e2 dQ (ah 0) (eI 12)))))
def yS:List W->List am->R W:=eF 2 Kr
theorem MK(F:kQ K "_law_shape" "_law_shape" Fx f fd)  :fA P w K mg base (kG P w) 1 f fd J_ (lc K mg 1 yS):=
 dm (k:=0) F Fy rfl fun gI A outer s H E hr=>(aw (sS 1 Fy (cM (ac (cM (ac au (ac au ao))) (ac (cM (ac au (ac au ao))) (ac (cM (ac au (ac au ao))) (ac (cM (ac au (ac au ao))) (ac (cM (ac au (ac au ao))) (ac (cM (ac au (ac au ao))) (ac (cM (ac au (ac au ao))) (ac (cM (ac au (ac au ao))) (ac (cM (ac au (ac au ao))) (ac (cM (ac au (ac au ao))) (ac (cM (ac au (ac au ao))) (ac (cM (ac au (ac au ao))) ao)))))))))))))) (aO (bM (bp (af 1) (bv dP (af 0) au)))))
def Ks:FS:=(dk (JW oO (eC (.str [])) (ai (bh qO (ai (dR [none,some 0] (bw (ai (ah 1) aD)) (eU 0) iB (e2 bC (ah 1) (ah 0))) aD)) aD)))
def yT:List W->List am->R W:=eF 2 Ks
theorem ML(F:kQ K "_law_names" "_law_names" Fz f fd)(B:Bl mg) :fA P w K mg base (kG P w) 1 f fd J' (lc K mg 2 yT):=
 dm (k:=0) F My rfl fun gI A outer s H E hr=>(aO (bM (O9 PySem.F.slot_str_join PySem.F.type_str_join BD mE (ac (bE IG B.sorted boot_sorted (ac (jw (nm:=["_law_k","_law_pool_here"]) (cap:=[none,some 0]) (by first|rfl|kernel_rfl) rfl (b9 B.range (ac (af 1) ao)) (fun _ _ _ _ _=>(sC 0)) (fun _ _ _ _ _=>gW) (fun _ _ _ _ _=>(bp (af 1) (af 0)))) ao)) ao))))
def Kt:FS:=(aW (bH 4 (kF aD)) (aW (gn (wC (ai (eI 0) (ai (ah 2) (ai (eI 50) aD)))) (eU 5) (bH 4 (e2 cF (ah 4) (dq 3 mM (ai (dq 2 nH (ai (ah 0) (ai (e2 cF (ah 1) (e2 nj (ah 5) (eI 50))) aD))) (ai (bh Aj (ai (eI 50) (ai (e2 jM (ah 2) (ah 5)) aD))) (ai (e2 cF (ah 3) (e2 g6 (eI 1009) (ah 5))) aD))))))) (dk (ah 4))))
def uh:List W->List am->R W:=eF 6 Kt
theorem MM(F:kQ K "_law_blocks" "_law_blocks" FB f fd)(B:Bl mg)(nS:cu P w K mg base 1 "_law_cell" 2 nH)(mP:cu P w K mg base 2 "_law_draws" 3 mM):fA P w K mg base (kG P w) 3 f fd Ka (lc K mg 4 uh):=
 dm (k:=2) F wV rfl fun gI A outer s H E hr=>(aw (sS 4 wV (iE ao)) (aw (dz (II B.range (ac au (ac (af 2) (ac au ao)))) (sG 5 wV) (aO (sS 4 wV (bv cy (af 4) (cJ mP hr (by omega) (ac (cJ nS hr (by omega) (ac (af 0) (ac (bv cy (af 1) (bv tD (af 5) au)) ao))) (ac (bE JR B.min boot_min (ac au (ac (bv kL (af 2) (af 5)) ao))) (ac (bv cy (af 3) (bv iu au (af 5))) ao)))))))) (aO (bM (af 4)))))
def P5:FS:=(aW (hV (eZ (e2 jY (ah 0) (eI 0))) (dk (e2 cF (ah 1) (ah 2))) cK) (aW (hV (eZ (e2 jY (ah 0) (eI 1))) (dk (bh Er (ai (ah 1) (ai (ah 2) aD)))) cK) (aW (hV (eZ (e2 jY (ah 0) (eI 2))) (dk (ah 1)) cK) (dk (ah 2)))))
def vL:List W->List am->R W:=eF 3 P5
theorem MN(F:kQ K "_law_grown" "_law_grown" FC f fd)(B:Bl mg) :fA P w K mg base (kG P w) 1 f fd Kb (lc K mg 3 vL):=
 dm (k:=0) F Mz rfl fun gI A outer s H E hr=>(aw (cZ (bQ (i9 hr) (af 0) au) (aO (bM (bv cy (af 1) (af 2)))) cr) (aw (cZ (bQ (i9 hr) (af 0) au) (aO (bM (bE O3 B.max boot_max (ac (af 1) (ac (af 2) ao))))) cr) (aw (cZ (bQ (i9 hr) (af 0) au) (aO (bM (af 1))) cr) (aO (bM (af 2))))))
def Ku:FS:=(aW (bH 3 (kF aD)) (aW (gn (bw (ai (e2 tz (eI 1) (bh de (ai (ah 0) aD))) aD)) (eU 4) (aW (bH 5 (e2 cF (e2 dQ (ah 4) (eI 2)) (e2 dQ (e2 bC (ah 2) (eI 1)) (eI 2)))) (aW (hV (eZ (e2 jY (bh de (ai (ah 0) aD)) (eI 0))) (bH 5 (eI 1)) cK) (aW (bH 6 (kF aD)) (aW (gn (bw (ai (ah 1) aD)) (eU 7) (eQ (si c9 (ah 6) (ai (bh cS (ai (dR [none,some 1,some 5,some 7,some 2] (bw (ai (ah 1) aD)) (eU 0) iB (bh Aj (ai (e2 jM (ah 1) (eI 1)) (ai (e2 cF (dq 3 vL (ai (e2 dQ (e2 bC (ah 4) (eI 0)) (eI 4)) (ai (ah 3) (ai (ah 0) aD)))) (ah 2)) aD)))) aD)) aD)))) (eQ (si c9 (ah 3) (ai (bh cS (ai (ah 6) aD)) aD)))))))) (aW (bH 8 (e2 jM (ah 1) (eI 1))) (aW (hV (eZ (e2 jY (e2 dQ (e2 bC (ah 2) (eI 2)) (eI 2)) (eI 1))) (bH 8 (e2 dQ (e2 bC (ah 2) (eI 3)) (ah 1))) cK) (dk (dy (ai (ah 0) (ai (bh cS (ai (dR [none,some 8] (bw (ai (ah 1) aD)) (eU 0) iB (e2 jY (ah 0) (ah 1))) aD)) (ai (bh cS (ai (ah 3) aD)) aD)))))))))
def yU:List W->List am->R W:=eF 9 Ku
theorem MO(F:kQ K "_law_graded" "_law_graded" FD f fd)(B:Bl mg)(GX:cu P w K mg base 1 "_law_grown" 3 vL):fA P w K mg base (kG P w) 2 f fd Kc (lc K mg 3 yU):=
 dm (k:=1) F lX rfl fun gI A outer s H E hr=>(aw (sS 3 lX (iE ao)) (aw (dz (b9 B.range (ac (bv By au (bE cY B.len bB (ac (af 0) ao))) ao)) (sG 4 lX) (aw (sS 5 lX (bv cy (bv dP (af 4) au) (bv dP (bp (af 2) au) au))) (aw (cZ (bQ (i9 hr) (bE cY B.len bB (ac (af 0) ao)) au) (aO (sS 5 lX au)) cr) (aw (sS 6 lX (iE ao)) (aw (dz (b9 B.range (ac (af 1) ao)) (sG 7 lX) (aO (d9 (mU PySem.F.slot_list_append PySem.F.type_list_append dE (af 6) (ac (cO eJ B.tuple bV (ac (jw (nm:=["_law_r","_law_many","_law_more","_law_l","_law_draws_here"]) (cap:=[none,some 1,some 5,some 7,some 2]) (by first|rfl|kernel_rfl) rfl (b9 B.range (ac (af 1) ao)) (fun _ _ _ _ _=>(sC 0)) (fun _ _ _ _ _=>gW) (fun _ _ _ _ _=>(bE JR B.min boot_min (ac (bv kL (af 1) au) (ac (bv cy (cJ GX hr (by omega) (ac (bv dP (bp (af 4) au) au) (ac (af 3) (ac (af 0) ao)))) (af 2)) ao))))) ao)) ao))))) (aO (d9 (mU PySem.F.slot_list_append PySem.F.type_list_append dE (af 3) (ac (cO eJ B.tuple bV (ac (af 6) ao)) ao))))))))) (aw (sS 8 lX (bv kL (af 1) au)) (aw (cZ (bQ (i9 hr) (bv dP (bp (af 2) au) au) au) (aO (sS 8 lX (bv dP (bp (af 2) au) (af 1)))) cr) (aO (bM (cM (ac (af 0) (ac (cO eJ B.tuple bV (ac (jw (nm:=["_law_room","_law_only"]) (cap:=[none,some 8]) (by first|rfl|kernel_rfl) rfl (b9 B.range (ac (af 1) ao)) (fun _ _ _ _ _=>(sC 0)) (fun _ _ _ _ _=>gW) (fun _ _ _ _ _=>(rM (i9 hr) (af 0) (af 1)))) ao)) (ac (cO eJ B.tuple bV (ac (af 3) ao)) ao))))))))))
def Kv:FS:=(aW (bH 2 (bh de (ai (e2 bC (ah 0) (eI 1)) aD))) (aW (bH 3 (bh tH (ai (e2 bC (ah 0) (eI 2)) aD))) (aW (bH 4 (e2 dQ (e2 bC (ah 1) (eI 0)) (bh de (ai (ah 3) aD)))) (aW (bH 5 (bh tH (ai (e2 bC (ah 3) (ah 4)) aD))) (aW (bH 6 (bh tH (ai (e2 bC (ah 5) (e2 dQ (e2 bC (ah 1) (eI 1)) (ah 2))) aD))) (aW (nu (ah 6) (e2 dQ (e2 bC (ah 1) (eI 2)) (ah 2)) (e2 dQ (e2 bC (ah 1) (eI 3)) (ah 2)) nr) (aW (nu (ah 5) (e2 dQ (e2 bC (ah 1) (eI 1)) (ah 2)) (bh cS (ai (ah 6) aD)) nr) (aW (nu (ah 3) (ah 4) (bh cS (ai (ah 5) aD)) nr) (dk (dy (ai (e2 bC (ah 0) (eI 0)) (ai (e2 bC (ah 0) (eI 1)) (ai (bh cS (ai (ah 3) aD)) aD)))))))))))))
def yV:List W->List am->R W:=eF 7 Kv
theorem MP(F:kQ K "_law_spotted" "_law_spotted" FF f fd)(B:Bl mg) :fA P w K mg base (kG P w) 1 f fd Kd (lc K mg 2 yV):=
 dm (k:=0) F qX rfl fun gI A outer s H E hr=>(aw (sS 2 qX (bE cY B.len bB (ac (bp (af 0) au) ao))) (aw (sS 3 qX (cO Ak B.list rD (ac (bp (af 0) au) ao))) (aw (sS 4 qX (bv dP (bp (af 1) au) (bE cY B.len bB (ac (af 3) ao)))) (aw (sS 5 qX (cO Ak B.list rD (ac (bp (af 3) (af 4)) ao))) (aw (sS 6 qX (cO Ak B.list rD (ac (bp (af 5) (bv dP (bp (af 1) au) (af 2))) ao))) (aw (jZ tI (bv dP (bp (af 1) au) (af 2)) (af 6) (bv dP (bp (af 1) au) (af 2))) (aw (jZ tI (cO eJ B.tuple bV (ac (af 6) ao)) (af 5) (bv dP (bp (af 1) au) (af 2))) (aw (jZ tI (cO eJ B.tuple bV (ac (af 5) ao)) (af 3) (af 4)) (aO (bM (cM (ac (bp (af 0) au) (ac (bp (af 0) au) (ac (cO eJ B.tuple bV (ac (af 3) ao)) ao))))))))))))))
def Kw:FS:=(aW (bH 3 (bh de (ai (ah 1) aD))) (aW (bH 4 (eI 0)) (aW (bH 5 (kF aD)) (aW (gn (eY (e2 bC (ah 0) (eI 2))) (eU 6) (aW (bH 7 (kF aD)) (aW (gn (bw (ai (ah 3) aD)) (eU 8) (aW (bH 9 (kF aD)) (aW (gn (bw (ai (ah 3) aD)) (eU 10) (aW (bH 11 (e2 bC (e2 bC (ah 6) (e2 bC (ah 1) (ah 8))) (e2 bC (ah 1) (ah 10)))) (aW (sg (dR [none,some 11,some 1] (bw (ai (ah 3) aD)) (eU 0) (eZ (e2 jY (e2 bC (ah 2) (ah 0)) (ah 1))) (ah 0)) (eU 12)) (aW (eQ (si c9 (ah 9) (ai (e2 bC (ah 12) (e2 dQ (e2 bC (ah 2) (e2 dQ (ah 4) (bh de (ai (ah 2) aD)))) (bh de (ai (ah 12) aD)))) aD))) (bH 4 (e2 cF (ah 4) (eI 1))))))) (eQ (si c9 (ah 7) (ai (bh cS (ai (ah 9) aD)) aD)))))) (eQ (si c9 (ah 5) (ai (bh cS (ai (ah 7) aD)) aD)))))) (dk (dy (ai (e2 bC (ah 0) (eI 0)) (ai (bh cS (ai (dR [none,some 0] (eY (ah 1)) (eU 0) iB (e2 bC (e2 bC (ah 1) (eI 1)) (ah 0))) aD)) (ai (bh cS (ai (ah 5) aD)) aD)))))))))
def yW:List W->List am->R W:=eF 13 Kw
theorem MQ(F:kQ K "_law_blown" "_law_blown" FH f fd)(B:Bl mg) :fA P w K mg base (kG P w) 1 f fd Ke (lc K mg 3 yW):=
 dm (k:=0) F jy rfl fun gI A outer s H E hr=>(aw (sS 3 jy (bE cY B.len bB (ac (af 1) ao))) (aw (sS 4 jy au) (aw (sS 5 jy (iE ao)) (aw (dz (iH (bp (af 0) au)) (sG 6 jy) (aw (sS 7 jy (iE ao)) (aw (dz (b9 B.range (ac (af 3) ao)) (sG 8 jy) (aw (sS 9 jy (iE ao)) (aw (dz (b9 B.range (ac (af 3) ao)) (sG 10 jy) (aw (sS 11 jy (bp (bp (af 6) (bp (af 1) (af 8))) (bp (af 1) (af 10)))) (aw (tN (sG 12 jy) (nm:=["_law_z","_law_due","_law_owner_here"]) (cap:=[none,some 11,some 1]) (by first|rfl|kernel_rfl) rfl (b9 B.range (ac (af 3) ao)) (fun _ _ _ _ _=>(sC 0)) (fun _ _ _ _ _=>(wt (bQ (i9 hr) (bp (af 2) (af 0)) (af 1)))) (fun _ _ _ _ _=>(af 0))) (aw (d9 (mU PySem.F.slot_list_append PySem.F.type_list_append dE (af 9) (ac (bp (af 12) (bv dP (bp (af 2) (bv dP (af 4) (bE cY B.len bB (ac (af 2) ao)))) (bE cY B.len bB (ac (af 12) ao)))) ao))) (aO (sS 4 jy (bv cy (af 4) au))))))) (aO (d9 (mU PySem.F.slot_list_append PySem.F.type_list_append dE (af 7) (ac (cO eJ B.tuple bV (ac (af 9) ao)) ao))))))) (aO (d9 (mU PySem.F.slot_list_append PySem.F.type_list_append dE (af 5) (ac (cO eJ B.tuple bV (ac (af 7) ao)) ao))))))) (aO (bM (cM (ac (bp (af 0) au) (ac (cO eJ B.tuple bV (ac (jw (nm:=["_law_room","_law_machine_here"]) (cap:=[none,some 0]) (by first|rfl|kernel_rfl) rfl (iH (af 1)) (fun _ _ _ _ _=>(sC 0)) (fun _ _ _ _ _=>gW) (fun _ _ _ _ _=>(bp (bp (af 1) au) (af 0)))) ao)) (ac (cO eJ B.tuple bV (ac (af 5) ao)) ao))))))))))
def Kx:FS:=(aW (bH 4 (bh cS (ai (dR [none,some 3] (bw (ai (ah 1) aD)) (eU 0) iB (e2 jY (e2 dQ (e2 bC (ah 1) (ah 0)) (eI 2)) (eI 1))) aD))) (aW (bH 5 (kF aD)) (aW (bH 6 (ah 1)) (aW (gn (bw (ai (e2 tz (eI 1) (bh de (ai (ah 0) aD))) aD)) (eU 7) (aW (bH 8 (kF aD)) (aW (gn (bw (ai (ah 1) aD)) (eU 9) (aW (eQ (si c9 (ah 8) (ai (bh cS (ai (dR [none,some 2,some 3,some 6] (bw (ai (ah 1) aD)) (eU 0) iB (e2 dQ (e2 bC (ah 2) (e2 cF (ah 3) (ah 0))) (ah 1))) aD)) aD))) (bH 6 (e2 cF (ah 6) (ah 1))))) (eQ (si c9 (ah 5) (ai (bh cS (ai (ah 8) aD)) aD)))))) (dk (dy (ai (ah 0) (ai (ah 4) (ai (bh cS (ai (ah 5) aD)) aD)))))))))
def yX:List W->List am->R W:=eF 10 Kx
theorem MR(F:kQ K "_law_machine" "_law_machine" FJ f fd)(B:Bl mg) :fA P w K mg base (kG P w) 1 f fd Kf (lc K mg 4 yX):=
 dm (k:=0) F nF rfl fun gI A outer s H E hr=>(aw (sS 4 nF (cO eJ B.tuple bV (ac (jw (nm:=["_law_k","_law_draws_here"]) (cap:=[none,some 3]) (by first|rfl|kernel_rfl) rfl (b9 B.range (ac (af 1) ao)) (fun _ _ _ _ _=>(sC 0)) (fun _ _ _ _ _=>gW) (fun _ _ _ _ _=>(rM (i9 hr) (bv dP (bp (af 1) (af 0)) au) au))) ao))) (aw (sS 5 nF (iE ao)) (aw (sS 6 nF (af 1)) (aw (dz (b9 B.range (ac (bv By au (bE cY B.len bB (ac (af 0) ao))) ao)) (sG 7 nF) (aw (sS 8 nF (iE ao)) (aw (dz (b9 B.range (ac (af 1) ao)) (sG 9 nF) (aw (d9 (mU PySem.F.slot_list_append PySem.F.type_list_append dE (af 8) (ac (cO eJ B.tuple bV (ac (jw (nm:=["_law_r","_law_top","_law_draws_here","_law_at"]) (cap:=[none,some 2,some 3,some 6]) (by first|rfl|kernel_rfl) rfl (b9 B.range (ac (af 1) ao)) (fun _ _ _ _ _=>(sC 0)) (fun _ _ _ _ _=>gW) (fun _ _ _ _ _=>(bv dP (bp (af 2) (bv cy (af 3) (af 0))) (af 1)))) ao)) ao))) (aO (sS 6 nF (bv cy (af 6) (af 1)))))) (aO (d9 (mU PySem.F.slot_list_append PySem.F.type_list_append dE (af 5) (ac (cO eJ B.tuple bV (ac (af 8) ao)) ao))))))) (aO (bM (cM (ac (af 0) (ac (af 4) (ac (cO eJ B.tuple bV (ac (af 5) ao)) ao))))))))))
def Ky:FS:=(aW (bH 3 (dq 3 mM (ai (dq 2 nH (ai (ah 0) (ai (ah 1) aD))) (ai (eI 10) (ai (eI 1000003) aD))))) (aW (sg (dq 1 yS (ai (e2 bC (ah 3) (eI 0)) aD)) (DE 2 (eL (eU 4) (eL (eU 5) nq)))) (aW (bH 6 (dq 2 yT (ai (ah 2) (ai (ah 4) aD)))) (aW (bH 7 (dq 4 uh (ai (ah 0) (ai (e2 cF (ah 1) (eI 1)) (ai (e2 cF (e2 cF (ah 5) (e2 g6 (e2 g6 (ah 5) (ah 5)) (e2 tz (eI 1) (ah 4)))) (eI 40)) (ai (eI 3000017) aD)))))) (aW (hV (eZ (e2 jY (e2 dQ (e2 bC (ah 3) (eI 3)) (eI 3)) (eI 0))) (aW (bH 8 (dq 3 yU (ai (ah 6) (ai (ah 5) (ai (ah 7) aD))))) (aW (hV (eZ (e2 jY (e2 dQ (e2 bC (ah 3) (eI 4)) (eI 3)) (eI 0))) (bH 8 (dq 2 yV (ai (ah 8) (ai (Ai (ah 7) (jm (eI 4)) (jm (eI 8))) aD)))) cK) (dk (dq 3 yW (ai (ah 8) (ai (dq 3 rT (ai (ah 5) (ai (eI 0) (ai (Ai (ah 7) (jm (eI 8)) (jm (eI 30))) aD)))) (ai (ah 7) aD))))))) cK) (aW (bH 9 (ah 5)) (aW (hV (eZ (e2 jY (e2 dQ (e2 bC (ah 3) (eI 1)) (eI 3)) (eI 0))) (bH 9 (e2 cF (eI 1) (e2 dQ (e2 bC (ah 3) (eI 2)) (ah 5)))) cK) (dk (dq 4 yX (ai (ah 6) (ai (ah 5) (ai (ah 9) (ai (ah 7) aD)))))))))))))
def yY:List W->List am->R W:=eF 10 Ky
theorem MS(F:kQ K "_law_any" "_law_any" FK f fd) (vY:cu P w K mg base 3 "_law_blocks" 4 uh)(GT:cu P w K mg base 1 "_law_blown" 3 yW)(nS:cu P w K mg base 1 "_law_cell" 2 nH)(mP:cu P w K mg base 2 "_law_draws" 3 mM)(G3:cu P w K mg base 2 "_law_graded" 3 yU)(Hm:cu P w K mg base 1 "_law_machine" 4 yX)(GQ:cu P w K mg base 1 "_law_names" 2 yT)(vX:cu P w K mg base 1 "_law_owner" 3 rT)(Hc:cu P w K mg base 1 "_law_shape" 1 yS)(Hd:cu P w K mg base 1 "_law_spotted" 2 yV):fA P w K mg base (kG P w) 4 f fd Kg (lc K mg 3 yY):=
 dm (k:=3) F kR rfl fun gI A outer s H E hr=>(aw (sS 3 kR (cJ mP hr (by omega) (ac (cJ nS hr (by omega) (ac (af 0) (ac (af 1) ao))) (ac au (ac au ao))))) (aw (wn (cJ Hc hr (by omega) (ac (bp (af 3) au) ao)) (lL rfl (dv (sG 4 kR) (dv (sG 5 kR) jO)))) (aw (sS 6 kR (cJ GQ hr (by omega) (ac (af 2) (ac (af 4) ao)))) (aw (sS 7 kR (cJ vY hr (by omega) (ac (af 0) (ac (bv cy (af 1) au) (ac (bv cy (bv cy (af 5) (bv iu (bv iu (af 5) (af 5)) (bv By au (af 4)))) au) (ac au ao)))))) (aw (cZ (bQ (i9 hr) (bv dP (bp (af 3) au) au) au) (aw (sS 8 kR (cJ G3 hr (by omega) (ac (af 6) (ac (af 5) (ac (af 7) ao))))) (aw (cZ (bQ (i9 hr) (bv dP (bp (af 3) au) au) au) (aO (sS 8 kR (cJ Hd hr (by omega) (ac (af 8) (ac (tF (af 7) (gU au) (gU au)) ao))))) cr) (aO (bM (cJ GT hr (by omega) (ac (af 8) (ac (cJ vX hr (by omega) (ac (af 5) (ac au (ac (tF (af 7) (gU au) (gU au)) ao)))) (ac (af 7) ao)))))))) cr) (aw (sS 9 kR (af 5)) (aw (cZ (bQ (i9 hr) (bv dP (bp (af 3) au) au) au) (aO (sS 9 kR (bv cy au (bv dP (bp (af 3) au) (af 5))))) cr) (aO (bM (cJ Hm hr (by omega) (ac (af 6) (ac (af 5) (ac (af 9) (ac (af 7) ao))))))))))))))
def FY:FS:=(aW (bH 2 (dy (ai (eC (.str [114,101,102,117,115,101,100])) (ai (eC (.bl false)) (ai (eC (.bl false)) (ai (eC (.bl true)) aD)))))) (aW (Ar (bH 2 (dq 2 yO (ai (ah 0) (ai (ah 1) aD)))) oS 6 (aW (bH 3 (wA jq (ah 6))) (aW (bH 4 (wA hZ (ah 6))) (aW (bH 5 (wA yM (ah 6))) (bH 2 (dy (ai (eC (.str [114,101,102,117,115,101,100])) (ai (ah 3) (ai (ah 4) (ai (ah 5) aD)))))))))) (dk (ah 2))))
def rV:List W->List am->R W:=eF 7 FY
theorem MT(F:kQ K "_law_told" "_law_told" FL f fd)(B:Bl mg)(C:Lu K mg)(NA:cu P w K mg base 5 "first_tree" 2 yO):fA P w K mg base (kG P w) 6 f fd Kh (lc K mg 2 rV):=
 dm (k:=5) F nG rfl fun gI A outer s H E hr=>(aw (sS 2 nG (cM (ac mE (ac iZ (ac iZ (ac iZ ao)))))) (aw (L7 (i:=6) C.catch_TrunkError nG.nd rfl (Or.inl rfl) (fun _ _=>(aO (sS 2 nG (cJ NA hr (by omega) (ac (af 0) (ac (af 1) ao)))))) (fun _=>(aw (sS 3 nG (C.isi_TooGreat.elim fun _ h=>Pd B.isinstance h.1 h.2 (af 6))) (aw (sS 4 nG (Pe B.isinstance B.ValueError IP C.isi_ValueError (af 6))) (aw (sS 5 nG (C.isi_t0.elim fun _ h=>h.elim fun _ h=>h.elim fun _ h=>h.elim fun _ h=>h.elim fun _ h=>h.elim fun _ h=>h.elim fun _ h=>h.elim fun _ h=>L_ B.isinstance (.cons h.1 rfl (by decide) (.cons h.2.1 rfl (by decide) (.cons h.2.2.1 rfl (by decide) (.cons h.2.2.2.1 rfl (by decide) (.cons h.2.2.2.2.1 rfl (by decide) (.cons h.2.2.2.2.2.1 rfl (by decide) (.cons h.2.2.2.2.2.2.1 rfl (by decide) (.cons h.2.2.2.2.2.2.2.1 rfl (by decide) .nil)))))))) h.2.2.2.2.2.2.2.2 (aq rfl) (af 6))) (aO (sS 2 nG (cM (ac mE (ac (af 3) (ac (af 4) (ac (af 5) ao)))))))))))) (aO (bM (af 2)))))
def FZ:FS:=(aW (bH 1 (e2 bC (dy (ai (eI 5) (ai (eI 4) (ai (eI 3) (ai (eI 2) (ai (eI 1) (ai (eI 1) aD))))))) (bh de (ai (e2 bC (ah 0) (eI 0)) aD)))) (aW (bH 2 (kF (ai (kF (ai (dy (ai (dy aD) (ai (eI 0) aD))) aD)) aD))) (aW (bH 3 (oR (j_ (eI 0) (dy aD) nz))) (aW (gn (j4 (ai (eI 1) (ai (e2 cF (ah 1) (eI 1)) aD))) (eU 4) (aW (bH 5 (kF aD)) (aW (gn (bw (ai (ah 4) aD)) (eU 6) (gn (eY (e2 bC (ah 2) (ah 6))) (DE 2 (eL (eU 7) (eL (eU 8) nq))) (gn (eY (e2 bC (ah 2) (e2 jM (e2 jM (ah 4) (eI 1)) (ah 6)))) (DE 2 (eL (eU 9) (eL (eU 10) nq))) (gn (bw (ai (bh de (ai (e2 bC (ah 0) (eI 2)) aD)) aD)) (eU 11) (aW (bH 12 (dq 3 oT (ai (ah 7) (ai (ah 9) (ai (dq 2 ug (ai (e2 bC (ah 0) (eI 0)) (ai (ah 11) aD))) aD))))) (aW (bH 13 (e2 bC (e2 bC (e2 bC (e2 bC (ah 0) (eI 2)) (ah 11)) (ah 8)) (ah 10))) (aW (eQ (si c9 (ah 5) (ai (dy (ai (ah 12) (ai (ah 13) aD))) aD))) (hV (eZ (e2 (lp true) (ah 13) (ah 3))) (nu (ah 3) (ah 13) (ah 12) mJ) cK)))))))) (eQ (si c9 (ah 2) (ai (ah 5) aD)))))) (dk (ah 3))))))
def yZ:List W->List am->R W:=eF 14 FZ
theorem MU(F:kQ K "_law_small" "_law_small" FM f fd)(B:Bl mg)(vW:cu P w K mg base 1 "_law_given" 2 ug)(qw:cu P w K mg base 1 "_law_join" 3 oT):fA P w K mg base (kG P w) 2 f fd Ki (lc K mg 1 yZ):=
 dm (k:=1) F iL rfl fun gI A outer s H E hr=>(aw (sS 1 iL (bp (cM (ac au (ac au (ac au (ac au (ac au (ac au ao))))))) (bE cY B.len bB (ac (bp (af 0) au) ao)))) (aw (sS 2 iL (iE (ac (iE (ac (cM (ac (cM ao) (ac au ao))) ao)) ao))) (aw (sS 3 iL (t5 (p_ au (cM ao) tZ))) (aw (dz (vt B.range (ac au (ac (bv cy (af 1) au) ao))) (sG 4 iL) (aw (sS 5 iL (iE ao)) (aw (dz (b9 B.range (ac (af 4) ao)) (sG 6 iL) (aO (dz (iH (bp (af 2) (af 6))) (lL rfl (dv (sG 7 iL) (dv (sG 8 iL) jO))) (aO (dz (iH (bp (af 2) (bv kL (bv kL (af 4) au) (af 6)))) (lL rfl (dv (sG 9 iL) (dv (sG 10 iL) jO))) (aO (dz (b9 B.range (ac (bE cY B.len bB (ac (bp (af 0) au) ao)) ao)) (sG 11 iL) (aw (sS 12 iL (cJ qw hr (by omega) (ac (af 7) (ac (af 9) (ac (cJ vW hr (by omega) (ac (bp (af 0) au) (ac (af 11) ao))) ao))))) (aw (sS 13 iL (bp (bp (bp (bp (af 0) au) (af 11)) (af 8)) (af 10))) (aw (d9 (mU PySem.F.slot_list_append PySem.F.type_list_append dE (af 5) (ac (cM (ac (af 12) (ac (af 13) ao))) ao))) (aO (cZ (bQ (lq hr (vp hr)) (af 13) (af 3)) (aO (jZ (qP hr) (af 12) (af 3) (af 13))) cr)))))))))))) (aO (d9 (mU PySem.F.slot_list_append PySem.F.type_list_append dE (af 2) (ac (af 5) ao))))))) (aO (bM (af 3)))))))
def Kz:FS:=(aW (bH 1 (dq 1 uf (ai (ah 0) aD))) (aW (hV (zK (eZ (dq 2 yQ (ai (ah 0) (ai (ah 1) aD))))) (dk (eC (.bl false))) cK) (aW (bH 2 (oR (j_ (eI 0) (dy aD) nz))) (aW (bH 3 (kF aD)) (aW (gn (eY (Ai (ah 1) (jm (eI 1)) mG)) (DE 3 (eL (eU 4) (eL (eU 5) (eL (eU 6) nq)))) (hV (eZ (e2 yi (ah 5) (eI 100))) (eQ (si c9 (ah 3) (ai (ah 4) aD))) (nu (ah 2) (ah 4) (dq 3 oT (ai (e2 jx (ah 2) (e2 bC (ah 6) (eI 0))) (ai (e2 jx (ah 2) (e2 bC (ah 6) (eI 1))) (ai (dq 2 ug (ai (e2 bC (ah 0) (eI 0)) (ai (e2 bC (ah 6) (eI 2)) aD))) aD)))) mJ))) (aW (bH 7 (dq 1 yZ (ai (ah 0) aD))) (aW (gn (bw (ai (bh de (ai (e2 bC (ah 0) (eI 1)) aD)) aD)) (eU 4) (aW (bH 8 (wH (ah 2) (ah 4))) (aW (hV (eZ (e2 (zL false) (ah 4) (ah 3))) (bH 8 (dy (ai (eC (.str [114,101,102,117,115,101,100])) (ai (eC (.bl true)) (ai (eC (.bl true)) (ai (eC (.bl false)) aD)))))) cK) (aW (hV (Ei (eZ (e2 (lp false) (ah 4) (ah 7))) (eZ (e2 CU (ah 8) (e2 jx (ah 7) (ah 4))))) (dk (eC (.bl false))) cK) (hV (zK (eZ (dq 2 (gp 40) (ai (dq 2 rV (ai (ah 0) (ai (ah 4) aD))) (ai (ah 8) aD))))) (dk (eC (.bl false))) cK))))) (dk (eC (.bl true))))))))))
def y0:List W->List am->R W:=eF 9 Kz
theorem MV(F:kQ K "_law_rows_told" "_law_rows_told" FN f fd)(B:Bl mg)(vW:cu P w K mg base 1 "_law_given" 2 ug)(qw:cu P w K mg base 1 "_law_join" 3 oT)(Hh:cu P w K mg base 41 "_law_ranked" 2 yQ)(mO:cu P w K mg base 40 "_law_same" 2 (gp 40))(GV:cu P w K mg base 2 "_law_small" 1 yZ)(v0:cu P w K mg base 6 "_law_told" 2 rV)(xD:cu P w K mg base 3 "firsts_of" 1 uf):fA P w K mg base (kG P w) 42 f fd Kj (lc K mg 1 y0):=
 dm (k:=41) F kg rfl fun gI A outer s H E hr=>(aw (sS 1 kg (cJ xD hr (by omega) (ac (af 0) ao))) (aw (cZ (ju (iq (cJ Hh hr (by omega) (ac (af 0) (ac (af 1) ao))))) (aO (bM iZ)) cr) (aw (sS 2 kg (t5 (p_ au (cM ao) tZ))) (aw (sS 3 kg (iE ao)) (aw (dz (iH (tF (af 1) (gU au) jN)) (lL rfl (dv (sG 4 kg) (dv (sG 5 kg) (dv (sG 6 kg) jO)))) (aO (cZ (bQ uS (af 5) au) (aO (d9 (mU PySem.F.slot_list_append PySem.F.type_list_append dE (af 3) (ac (af 4) ao)))) (aO (jZ (qP hr) (cJ qw hr (by omega) (ac (jH hr (af 2) (bp (af 6) au)) (ac (jH hr (af 2) (bp (af 6) au)) (ac (cJ vW hr (by omega) (ac (bp (af 0) au) (ac (bp (af 6) au) ao))) ao)))) (af 2) (af 4)))))) (aw (sS 7 kg (cJ GV hr (by omega) (ac (af 0) ao))) (aw (dz (b9 B.range (ac (bE cY B.len bB (ac (bp (af 0) au) ao)) ao)) (sG 4 kg) (aw (sS 8 kg (IM hr (af 2) (af 4))) (aw (cZ (bQ (LZ hr) (af 4) (af 3)) (aO (sS 8 kg (cM (ac mE (ac iZ (ac iZ (ac iZ ao))))))) cr) (aw (cZ (tu (Ad (bQ (JY hr (LZ hr)) (af 4) (af 7)) (wg (bQ (Ah hr) (af 8) (jH hr (af 7) (af 4)))))) (aO (bM iZ)) cr) (aO (cZ (ju (iq (cJ mO hr (by omega) (ac (cJ v0 hr (by omega) (ac (af 0) (ac (af 4) ao))) (ac (af 8) ao))))) (aO (bM iZ)) cr)))))) (aO (bM iZ)))))))))
def KA:FS:=(aW (bH 2 (kF aD)) (aW (lM (eZ (e2 yi (ah 0) (eI 1))) (aW (eQ (si c9 (ah 2) (ai (e2 dQ (ah 0) (eI 2)) aD))) (hV (eZ (e2 jY (e2 dQ (ah 0) (eI 2)) (eI 1))) (bH 0 (e2 nj (ah 0) (eI 2))) (bH 0 (e2 jM (ah 0) (eI 1)))))) (aW (bH 3 (e2 cF (bh de (ai (ah 2) aD)) (eI 3))) (aW (bH 4 (dq 3 rT (ai (ah 3) (ai (eI 0) (ai (Ai (ah 1) (jm (eI 96)) mG) aD))))) (aW (bH 5 (kF aD)) (aW (gn (bw (ai (e2 cF (eI 1) (e2 dQ (e2 bC (ah 1) (eI 0)) (eI 2))) aD)) (eU 6) (eQ (si c9 (ah 5) (ai (dR [none,some 4,some 3] (bw (ai (ah 3) aD)) (eU 0) iB (dR [none,some 1,some 2] (bw (ai (ah 2) aD)) (eU 0) iB (e2 bC (ah 1) (e2 jM (ah 2) (eI 1))))) aD)))) (aW (bH 6 (e2 dQ (e2 bC (ah 1) (eI 1)) (bh de (ai (ah 5) aD)))) (aW (nu (e2 bC (e2 bC (ah 5) (ah 6)) (eI 0)) (eI 0) (e2 bC (ah 4) (eI 1)) nr) (aW (bH 7 (kF (ai (dy aD) (ai (dy (ai (dy (ai (eI 0) (ai (Ai (eC (.str [81])) mG (jm (ah 6))) aD))) aD)) aD)))) (aW (gn (bw (ai (bh de (ai (ah 2) aD)) aD)) (eU 8) (aW (sg (e2 bC (dy (ai (dy (ai (eI 0) (ai (e2 cF (ah 8) (eI 1)) aD))) (ai (dy (ai (e2 cF (ah 8) (eI 1)) (ai (eI 0) aD))) aD))) (e2 dQ (e2 bC (ah 1) (e2 cF (e2 g6 (eI 2) (ah 8)) (eI 1))) (eI 2))) (DE 2 (eL (eU 9) (eL (eU 10) nq)))) (aW (hV (eZ (e2 jY (e2 bC (ah 2) (e2 jM (An (eI 1)) (ah 8))) (eI 1))) (E0 9 10 (ai (e2 cF (ah 8) (eI 1)) (ai (e2 cF (ah 8) (eI 1)) aD))) cK) (aW (bH 6 (e2 dQ (e2 nj (e2 bC (ah 1) (e2 g6 (eI 2) (ah 8))) (eI 2)) (bh de (ai (ah 5) aD)))) (aW (nu (e2 bC (e2 bC (ah 5) (ah 6)) (e2 bC (ah 4) (ah 9))) (e2 bC (ah 4) (ah 10)) (e2 bC (ah 4) (e2 cF (ah 8) (eI 2))) nr) (hV (Ei (eZ (e2 jY (bh de (ai (ah 7) aD)) (e2 cF (ah 8) (eI 2)))) (eZ (e2 LW (e2 cF (bh de (ai (e2 bC (ah 7) (ah 9)) aD)) (bh de (ai (e2 bC (ah 7) (ah 10)) aD))) (eI 100)))) (eQ (si c9 (ah 7) (ai (dq 3 oT (ai (e2 bC (ah 7) (ah 9)) (ai (e2 bC (ah 7) (ah 10)) (ai (Ai (eC (.str [81])) mG (jm (ah 6))) aD)))) aD))) cK)))))) (aW (bH 11 (bh cS (ai (dR [none] (eY (ah 5)) (eU 0) iB (bh cS (ai (dR [none] (eY (ah 0)) (eU 0) iB (bh cS (ai (ah 0) aD))) aD))) aD))) (aW (bH 12 (dy (ai (Ai (eC (.str [81])) mG (jm (e2 jM (bh de (ai (ah 5) aD)) (eI 1)))) (ai (bh cS (ai (dR [none] (bw (ai (ah 3) aD)) (eU 0) iB (e2 jY (e2 dQ (ah 0) (eI 2)) (eI 0))) aD)) (ai (ah 11) aD))))) (dk (dy (ai (ah 12) (ai (e2 bC (ah 4) (e2 jM (ah 3) (eI 2))) (ai (ah 7) aD)))))))))))))))))
def y4:List W->List am->R W:=eF 13 KA
theorem MW(F:kQ K "_law_tower" "_law_tower" FQ f fd)(B:Bl mg)(qw:cu P w K mg base 1 "_law_join" 3 oT)(vX:cu P w K mg base 1 "_law_owner" 3 rT):fA P w K mg base (kG P w) 2 f fd Kk (lc K mg 2 y4):=
 dm (k:=1) F gK rfl fun gI A outer s H E hr=>(aw (sS 2 gK (iE ao)) (aw (ym (bQ uS (af 0) au) (aw (d9 (mU PySem.F.slot_list_append PySem.F.type_list_append dE (af 2) (ac (bv dP (af 0) au) ao))) (aO (cZ (bQ (i9 hr) (bv dP (af 0) au) au) (aO (sS 0 gK (bv tD (af 0) au))) (aO (sS 0 gK (bv kL (af 0) au))))))) (aw (sS 3 gK (bv cy (bE cY B.len bB (ac (af 2) ao)) au)) (aw (sS 4 gK (cJ vX hr (by omega) (ac (af 3) (ac au (ac (tF (af 1) (gU au) jN) ao))))) (aw (sS 5 gK (iE ao)) (aw (dz (b9 B.range (ac (bv cy au (bv dP (bp (af 1) au) au)) ao)) (sG 6 gK) (aO (d9 (mU PySem.F.slot_list_append PySem.F.type_list_append dE (af 5) (ac (jw (nm:=["_law_l","_law_place","_law_many"]) (cap:=[none,some 4,some 3]) (by first|rfl|kernel_rfl) rfl (b9 B.range (ac (af 3) ao)) (fun _ _ _ _ _=>(sC 0)) (fun _ _ _ _ _=>gW) (fun _ _ _ _ _=>(BF (nm:=["_law_r","_law_place","_law_many"]) (cap:=[none,some 1,some 2]) (by first|rfl|kernel_rfl) (b9 B.range (ac (af 2) ao)) (fun _ _ _ _ _=>(sC 0)) (fun _ _ _ _ _=>gW) (fun _ _ _ _ _=>(bp (af 1) (bv kL (af 2) au)))))) ao))))) (aw (sS 6 gK (bv dP (bp (af 1) au) (bE cY B.len bB (ac (af 5) ao)))) (aw (jZ tI (bp (af 4) au) (bp (bp (af 5) (af 6)) au) au) (aw (sS 7 gK (iE (ac (cM ao) (ac (cM (ac (cM (ac au (ac (tF mE jN (gU (af 6))) ao))) ao)) ao)))) (aw (dz (b9 B.range (ac (bE cY B.len bB (ac (af 2) ao)) ao)) (sG 8 gK) (aw (wn (bp (cM (ac (cM (ac au (ac (bv cy (af 8) au) ao))) (ac (cM (ac (bv cy (af 8) au) (ac au ao))) ao))) (bv dP (bp (af 1) (bv cy (bv iu au (af 8)) au)) au)) (lL rfl (dv (sG 9 gK) (dv (sG 10 gK) jO)))) (aw (cZ (bQ (i9 hr) (bp (af 2) (bv kL (Ey au) (af 8))) au) (aO (Me (i:=9) (j:=10) gK.nd (ac (bv cy (af 8) au) (ac (bv cy (af 8) au) ao)))) cr) (aw (sS 6 gK (bv dP (bv tD (bp (af 1) (bv iu au (af 8))) au) (bE cY B.len bB (ac (af 5) ao)))) (aw (jZ tI (bp (af 4) (bv cy (af 8) au)) (bp (bp (af 5) (af 6)) (bp (af 4) (af 9))) (bp (af 4) (af 10))) (aO (cZ (tu (Ad (bQ (i9 hr) (bE cY B.len bB (ac (af 7) ao)) (bv cy (af 8) au)) (wg (bQ w_lt (bv cy (bE cY B.len bB (ac (bp (af 7) (af 9)) ao)) (bE cY B.len bB (ac (bp (af 7) (af 10)) ao))) au)))) (aO (d9 (mU PySem.F.slot_list_append PySem.F.type_list_append dE (af 7) (ac (cJ qw hr (by omega) (ac (bp (af 7) (af 9)) (ac (bp (af 7) (af 10)) (ac (tF mE jN (gU (af 6))) ao)))) ao)))) cr))))))) (aw (sS 11 gK (cO eJ B.tuple bV (ac (jw (nm:=["_law_rows"]) (cap:=[none]) (by first|rfl|kernel_rfl) rfl (iH (af 5)) (fun _ _ _ _ _=>(sC 0)) (fun _ _ _ _ _=>gW) (fun _ _ _ _ _=>(cO eJ B.tuple bV (ac (BF (nm:=["_law_row"]) (cap:=[none]) (by first|rfl|kernel_rfl) (iH (af 0)) (fun _ _ _ _ _=>(sC 0)) (fun _ _ _ _ _=>gW) (fun _ _ _ _ _=>(cO eJ B.tuple bV (ac (af 0) ao)))) ao)))) ao))) (aw (sS 12 gK (cM (ac (tF mE jN (gU (bv kL (bE cY B.len bB (ac (af 5) ao)) au))) (ac (cO eJ B.tuple bV (ac (jw (nm:=["_law_room"]) (cap:=[none]) (by first|rfl|kernel_rfl) rfl (b9 B.range (ac (af 3) ao)) (fun _ _ _ _ _=>(sC 0)) (fun _ _ _ _ _=>gW) (fun _ _ _ _ _=>(rM (i9 hr) (bv dP (af 0) au) au))) ao)) (ac (af 11) ao))))) (aO (bM (cM (ac (af 12) (ac (bp (af 4) (bv kL (af 3) au)) (ac (af 7) ao))))))))))))))))))
def KB:FS:=(aW (bH 1 (dq 3 yR (ai (dq 2 nH (ai (ah 0) (ai (eI 0) aD))) (ai (eI 6) (ai (eI 2000003) aD))))) (aW (hV (zK (eZ (dq 1 y0 (ai (dq 3 yY (ai (ah 0) (ai (eI 1) (ai (ah 1) aD)))) aD)))) (dk (eC (.bl false))) cK) (aW (bH 2 (dq 3 mM (ai (dq 2 nH (ai (ah 0) (ai (eI 10) aD))) (ai (eI 4) (ai (eI 4000037) aD))))) (aW (bH 3 (e2 cF (eI 1) (e2 dQ (dq 2 nH (ai (ah 0) (ai (eI 11) aD))) (eI 20000)))) (aW (hV (eZ (e2 jY (e2 dQ (e2 bC (ah 2) (eI 2)) (eI 4)) (eI 1))) (bH 3 (e2 jM (e2 tz (e2 cF (e2 dQ (ah 3) (eI 1000)) (eI 2)) (e2 dQ (e2 bC (ah 2) (eI 3)) (eI 31))) (eI 1))) cK) (aW (hV (eZ (e2 jY (e2 dQ (e2 bC (ah 2) (eI 0)) (eI 2)) (eI 0))) (bH 3 (e2 cF (eI 95) (e2 dQ (e2 bC (ah 2) (eI 1)) (eI 11)))) cK) (aW (sg (dq 2 y4 (ai (ah 3) (ai (dq 4 uh (ai (ah 0) (ai (eI 12) (ai (eI 200) (ai (eI 5000011) aD))))) aD))) (DE 3 (eL (eU 4) (eL (eU 5) (eL (eU 6) nq))))) (aW (sg (dR [none,some 5] (eY (dq 1 uf (ai (ah 4) aD))) (eU 0) (eZ (e2 jY (e2 bC (ah 0) (eI 0)) (ah 1))) (e2 bC (ah 0) (eI 1))) (eU 7)) (aW (hV (uR (eZ (e2 CU (bh de (ai (ah 7) aD)) (eI 1))) (zK (eZ (dq 2 (gp 40) (ai (e2 bC (ah 7) (eI 0)) (ai (ah 3) aD)))))) (dk (eC (.bl false))) cK) (aW (bH 8 (dy (ai (eC (.str [114,101,102,117,115,101,100])) (ai (eC (.bl true)) (ai (eC (.bl true)) (ai (eC (.bl false)) aD)))))) (aW (hV (eZ (e2 Ez (ah 3) (eI 100))) (bH 8 (e2 bC (ah 6) (An (eI 1)))) cK) (dk (dq 2 (gp 40) (ai (dq 2 rV (ai (ah 4) (ai (ah 5) aD))) (ai (ah 8) aD)))))))))))))))
def f_q33:List W->List am->R W:=eF 9 KB
theorem MX(F:kQ K "law" "law" qc f fd)(B:Bl mg)(Hl:cu P w K mg base 4 "_law_any" 3 yY)(vY:cu P w K mg base 3 "_law_blocks" 4 uh)(nS:cu P w K mg base 1 "_law_cell" 2 nH)(mP:cu P w K mg base 2 "_law_draws" 3 mM)(GY:cu P w K mg base 3 "_law_pool" 3 yR)(Hg:cu P w K mg base 42 "_law_rows_told" 1 y0)(mO:cu P w K mg base 40 "_law_same" 2 (gp 40))(v0:cu P w K mg base 6 "_law_told" 2 rV)(Hk:cu P w K mg base 2 "_law_tower" 2 y4)(xD:cu P w K mg base 3 "firsts_of" 1 uf):fA P w K mg base (kG P w) 43 f fd FR (lc K mg 1 f_q33):=
 dm (k:=42) F jz rfl fun gI A outer s H E hr=>(aw (sS 1 jz (cJ GY hr (by omega) (ac (cJ nS hr (by omega) (ac (af 0) (ac au ao))) (ac au (ac au ao))))) (aw (cZ (ju (iq (cJ Hg hr (by omega) (ac (cJ Hl hr (by omega) (ac (af 0) (ac au (ac (af 1) ao)))) ao)))) (aO (bM iZ)) cr) (aw (sS 2 jz (cJ mP hr (by omega) (ac (cJ nS hr (by omega) (ac (af 0) (ac au ao))) (ac au (ac au ao))))) (aw (sS 3 jz (bv cy au (bv dP (cJ nS hr (by omega) (ac (af 0) (ac au ao))) au))) (aw (cZ (bQ (i9 hr) (bv dP (bp (af 2) au) au) au) (aO (sS 3 jz (bv kL (bv By (bv cy (bv dP (af 3) au) au) (bv dP (bp (af 2) au) au)) au))) cr) (aw (cZ (bQ (i9 hr) (bv dP (bp (af 2) au) au) au) (aO (sS 3 jz (bv cy au (bv dP (bp (af 2) au) au)))) cr) (aw (wn (cJ Hk hr (by omega) (ac (af 3) (ac (cJ vY hr (by omega) (ac (af 0) (ac au (ac au (ac au ao))))) ao))) (lL rfl (dv (sG 4 jz) (dv (sG 5 jz) (dv (sG 6 jz) jO))))) (aw (tN (sG 7 jz) (nm:=["_law_row","_law_room"]) (cap:=[none,some 5]) (by first|rfl|kernel_rfl) rfl (iH (cJ xD hr (by omega) (ac (af 4) ao))) (fun _ _ _ _ _=>(sC 0)) (fun _ _ _ _ _=>(wt (bQ (i9 hr) (bp (af 0) au) (af 1)))) (fun _ _ _ _ _=>(bp (af 0) au))) (aw (cZ (tu (jX (bQ (Ah hr) (bE cY B.len bB (ac (af 7) ao)) au) (ng (ju (iq (cJ mO hr (by omega) (ac (bp (af 7) au) (ac (af 3) ao)))))))) (aO (bM iZ)) cr) (aw (sS 8 jz (cM (ac mE (ac iZ (ac iZ (ac iZ ao)))))) (aw (cZ (bQ O' (af 3) au) (aO (sS 8 jz (bp (af 6) (Ey au)))) cr) (aO (bM (cJ mO hr (by omega) (ac (cJ v0 hr (by omega) (ac (af 4) (ac (af 5) ao))) (ac (af 8) ao))))))))))))))))
end
theorem MY{α:Type}(ns:List α)(hl:0<ns.length)(k:Int):∃c∈ns,pJ ns (k%((ns.length:Nat):Int))=some c:=by
 have h0:0<=k%((ns.length:Nat):Int):=io _ (by omega)
 have h1:k%((ns.length:Nat):Int)<ns.length:=kC _ (by omega)
 obtain⟨m,hm⟩:=lz h0
 rw[hm]at h1 ⊢
 have h2:m<ns.length:=by omega
 exact⟨ns[m],f9 _,d6 (by simp[h2])⟩
theorem qd{n:Nat}{st:List am}{ns:List Int}(h:st[n]?=some (.ro (ns.map W.int)))(k:Int):∃c,nH [.loc n,.int k] st=.ok (.int c) st:=by
 by_cases hn:ns=[]
 ·subst hn
  refine⟨0,?_⟩
  apply ol;apply Aw;apply nC
  ·(repeat' (first|with_reducible exact gv (sF h)|walk_at "ev1"))
  ·(walk_at "evs")
 ·have hl:0<ns.length:=List.length_pos_iff.mpr hn
  obtain⟨c,hc,e⟩:=MY (ns.map W.int) (by simpa using hl) k
  obtain⟨c,_,rfl⟩:=aL.mp hc
  refine⟨c,?_⟩
  apply ol;apply rR
  ·apply qS
   ·(repeat' (first|with_reducible exact gv (sF h)|walk_at "ev1"))
    rw[aS,az];omega
   ·(walk_at "evs")
  ·(repeat' (first|with_reducible exact gv (sF h)|with_reducible exact iK (sF h) e|walk_at "ev1"))
   rw[az];omega
theorem F0(c k s:Int)(hk:-(2^64)<k/\k<2^64)(st:List am):∃r,0<=r/\vK [.int c,.int k,.int s] st=.ok (.int r) st:=by
 have big:∀q:Int,0<=q%2147483647/\q%2147483647<2147483647:=fun q=>⟨io _ (by decide),kC _ (by decide)⟩
 refine⟨(((c+7*k*k+13*k+s)*69621%2147483647*((c+7*k*k+13*k+s)*69621%2147483647/1009+3)+31*k+s)%2147483629*48271)%1000000007,io _ (by decide),?_⟩
 apply ol;apply rR
 ·(walk_at "evs")<;>first|exact .inl (by decide)|exact .inr (by decide)|exact .inr hk
 ·(walk_at "evs")<;>first|exact .inl (by decide)|exact .inr (by decide)|exact .inl (by have:=big ((c+7*k*k+13*k+s)*69621);omega)
theorem qe(c s:Int)(m:Nat)(hm:m<=1000)(st:List am):∃ds:List Int,ds.length=m/\(∀d∈ds,0<=d)/\mM [.int c,.int m,.int s] st=.ok (.loc st.length) (st++[.lst (ds.map W.int)]):=by
 suffices hh:gH (uI fun w bI=>∃j x,w=.loc (st.length+j)/\bI=st++x/\j=0/\∃ds:List Int,x=[.lst (ds.map W.int)]/\ds.length=m/\∀d∈ds,0<=d) (Kp ([W.int c,.int m,.int s].map some++List.replicate (6-3) none) st) by
  obtain⟨j,x,⟨rfl,ds,rfl,h1,h2⟩,e⟩:=qa hh
  exact⟨ds,h1,h2,e⟩
 apply aH
 ·(walk_at "evs")
 apply aH
 ·(walk_at "evs")
 have main:∀r0:Int,gH (uI fun w bI=>∃j x,w=.loc (st.length+j)/\bI=st++x/\j=0/\∃ds:List Int,x=[.lst (ds.map W.int)]/\ds.length=m/\∀d∈ds,0<=d)
   (aW (gn (bw (ai (ah 1) aD)) (eU 5) (hV (eZ (e2 yi (ah 4) (eI 0))) (aW (eQ (si c9 (ah 3) (ai (e2 dQ (ah 4) (eI 64)) aD))) (bH 4 (e2 nj (ah 4) (eI 64)))) (eQ (si c9 (ah 3) (ai (dq 3 vK (ai (ah 0) (ai (ah 5) (ai (ah 2) aD)))) aD))))) (dk (ah 3))
   [some (.int c),some (.int m),some (.int s),some (.loc st.length),some (.int r0),none] (st++[.lst []])):=by
  intro r0
  refine dO (fun i ρ bI=>∃(r:Int) (o:Option W) (ds:List Int),ρ=[some (.int c),some (.int m),some (.int s),some (.loc st.length),some (.int r),o]/\bI=st++[.lst (ds.map W.int)]/\ds.length=i/\∀d∈ds,0<=d) (df (by(walk_at "evs");rfl) (by omega))
   ⟨r0,none,[],rfl,rfl,rfl,by simp⟩ (fun _ _ _ _=>trivial) ?_ ?_
  ·rintro i w ρ bI hw ⟨r,o,ds,rfl,rfl,hd,h⟩
   obtain⟨hi,rfl⟩:=du hw
   refine⟨_,rfl,?_⟩
   have i6:(st++[am.lst (ds.map W.int)])[st.length]?=some (.lst (ds.map W.int)):=by rw[dS];rfl
   have hsh:(ds.map W.int).length<kJ:=by rw[az,hd];show i<1000000;omega
   by_cases hr:0<r
   ·apply jp
    ·(walk_at "evs");simpa using hr
    apply aH
    ·(repeat' (first|with_reducible exact eV i6|with_reducible exact nE i6 hsh|walk_at "ev1"))
    rw[fF]
    apply et
    ·(walk_at "evs")
    ·refine⟨_,_,rfl,r/64,_,ds++[r%64],rfl,by simp,by simp[hd],fun d hd'=>?_⟩
     rcases a9.mp hd' with hd'|hd'
     ·exact h d hd'
     ·rw[bU.mp hd'];exact io _ (by decide)
   ·obtain⟨q,hq,e⟩:=F0 c (0+i) s (by omega) (st++[am.lst (ds.map W.int)])
    apply f'
    ·(walk_at "evs");simpa using hr
    apply et
    ·(repeat' (first|with_reducible exact eV i6|with_reducible exact nE i6 hsh|with_reducible exact e|walk_at "ev1"))
    ·refine⟨_,_,rfl,r,_,ds++[q],rfl,by rw[fF];simp,by simp[hd],fun d hd'=>?_⟩
     rcases a9.mp hd' with hd'|hd'
     ·exact h d hd'
     ·rw[bU.mp hd'];exact hq
  ·rintro ρ bI ⟨r,o,ds,rfl,rfl,hd,h⟩
   apply cB
   ·(walk_at "evs")
   ·exact⟨_,_,rfl,0,_,rfl,rfl,rfl,ds,rfl,by rw[hd];simpa using cG 0 m,h⟩
 by_cases hc:(10:Int)^18<=c
 ·apply aH
  ·apply nC
   ·(walk_at "evs")<;>simpa using hc
   ·(walk_at "evs")
  ·exact main c
 ·apply aH
  ·apply qS
   ·(walk_at "evs")<;>simpa using hc
   ·(walk_at "evs")
  ·exact main 0
abbrev LL:List Nat:=[65,66,67,68,69,70,71,72,73,74,75,76,77,78,79,80,81,82,83,84,85,86,87,88,89,90,97,98,99,100,101,102,103,104,105,106,107,108,109,110,111,112,113,114,115,116,117,118,119,120,121,122]
theorem IR(c s:Int)(m:Nat)(hm:m<=52)(st:List am):∃l:List Nat,l.length=m/\l.Nodup/\(∀d∈l,d∈LL)/\yR [.int c,.int m,.int s] st=.ok (.str l) st:=by
 suffices hh:gH (uI fun w bI=>(∃x,bI=st++x)/\undWs st.length [w]=true/\∃l:List Nat,w=.str l/\l.length=m/\l.Nodup/\∀d∈l,d∈LL) (Kq ([W.int c,.int m,.int s].map some++List.replicate (7-3) none) st) by
  obtain⟨w,⟨l,rfl,h1,h2,h3⟩,e⟩:=lU hh
  exact⟨l,h1,h2,h3,e⟩
 obtain⟨ds,h1,h2,e⟩:=qe c s m (by omega) st
 apply aH
 ·(walk_at "evs")
 apply aH
 ·(walk_at "evs")
 have i6:lstOf (st++[am.lst (ds.map W.int)]) st.length=some (ds.map W.int):=bd (by rw[dS];rfl)
 refine dO (fun i ρ bI=>∃(r f:List Nat) (o o2:Option W),ρ=[some (.int c),some (.int m),some (.int s),some (.str r),some (.str f),o,o2]/\bI=st++[.lst (ds.map W.int)]/\f.length=i/\r.length+i=52/\(f++r).Perm LL) (lT (by(repeat' (first|with_reducible exact e|walk_at "ev1"))) i6)
  ⟨LL,[],none,none,rfl,rfl,rfl,rfl,.refl _⟩ (fun i ρ bI h=>?_) ?_ ?_
 ·obtain⟨r,f,o,o2,rfl,rfl,_⟩:=h
  exact i6
 ·rintro i w ρ bI hw ⟨r,f,o,o2,rfl,rfl,hf,hr,hfl⟩
  obtain⟨d,hd,rfl⟩:∃d,ds[i]?=some d/\w=.int d:=by
   simp only[ax,dY]at hw
   obtain⟨d,h1,rfl⟩:=hw
   exact⟨d,h1,rfl⟩
  have hi:i<m:=by rw[<- h1];exact(aa.mp hd).1
  obtain⟨q,hq,eq⟩:=fU (q:=d) (n:=r.length) (by omega)
  have hL:r.length<=kJ:=by show _<=1000000;omega
  have hLf:f.length<=kJ:=by show _<=1000000;omega
  have hat:pJ r (d%(r.length:Int))=some r[q]:=by rw[eq];exact d6 (by simp[hq])
  refine⟨_,rfl,?_⟩
  apply aH
  ·(repeat' (first|with_reducible exact qT hL|walk_at "ev1"))
   show 0<(r.length:Int);omega
  apply aH
  ·have ha:f.length+[r[q]].length<=kJ:=by show _+1<=1000000;omega
   (repeat' (first|with_reducible exact E6 hL hat|with_reducible exact Ax ha|walk_at "ev1"))
  apply et
  ·(repeat' (first|with_reducible exact BM hL|walk_at "ev1"))
   rw[eq,qb (by omega),show((q:Int)+1)=((q+1:Nat):Int)from rfl,on (by omega),bb,dH]
   show _<=1000000;omega
  ·refine⟨_,_,rfl,_,_,_,_,rfl,rfl,by simp[hf],?_,?_⟩
   ·rw[eq,qb (by omega),show((q:Int)+1)=((q+1:Nat):Int)from rfl,on (by omega),aK,bb,dH]
    omega
   ·rw[eq,qb (by omega),show((q:Int)+1)=((q+1:Nat):Int)from rfl,on (by omega)]
    refine List.Perm.trans ?_ hfl
    rw[aY]
    refine List.Perm.append_left f ?_
    have e:r=r.take q++r[q]::r.drop (q+1):=by rw[<- eh hq,fy]
    have e2:(r[q]::(r.take q++r.drop (q+1))).Perm r:=(List.perm_middle.symm).trans (by rw[<- e])
    exact e2
 ·rintro ρ bI ⟨r,f,o,o2,rfl,rfl,hf,hr,hfl⟩
  apply cB
  ·(walk_at "evs")
  ·exact⟨_,_,rfl,⟨_,rfl⟩,rfl,f,rfl,by rw[hf];simpa using h1,(fQ.mp (hfl.nodup_iff.mpr (by decide))).1,fun d hd=>hfl.mem_iff.mp (dF _ hd)⟩
theorem iM{st s:List am}{p:Nat}{c:am}(h:st <+: s)(hp:st.length<=p):st <+: s.set p c:=by
 obtain⟨x,rfl⟩:=h
 rw[show p=st.length+(p-st.length) by omega,gJ]
 exact aC _ _
theorem jg{st s y:List am}(h:st <+: s):st <+: s++y:=h.trans (aC _ _)
theorem pre_get{st s:List am}{i:Nat}{c:am}(h:st <+: s)(e:st[i]?=some c):s[i]?=some c:=by
 obtain⟨x,rfl⟩:=h
 exact bN e
theorem kS{s:List am}{p:Nat}{c d:am}(h:s[p]?=some d):(s.set p c)[p]?=some c:=by
 rw[ba (aa.mp h).1]
theorem AE{s:List am}{p q:Nat}{c:am}(h:p≠q):(s.set p c)[q]?=s[q]?:=aQ h
theorem MZ{s:List am}{p:Nat}{c:am}(h:s[p]?=some c):p<s.length:=(aa.mp h).1
theorem cp{s:List am}{c:am}:(s++[c])[s.length]?=some c:=by rw[dS];rfl
def lf(l:List Int):List W:=l.map W.int
theorem dU{s:List am}{p i:Nat}{ds:List Int}{d:Int}(h:s[p]?=some (.lst (lf ds)))(e:ds[i]?=some d):bC (.loc p) (.int i) s=.ok (.int d) s:=iK (bd h) (d6 (by rw[lf,ax,e];rfl))
theorem F1(d:Int)(st:List am):∃c n:Nat,c<=5/\1<=n/\n<=9/\n*n*2^c<=200/\yS [.int d] st=.ok (.tup [.int c,.int n]) st:=by
 suffices hh:gH (uI fun w bI=>(∃x,bI=st++x)/\undWs st.length [w]=true/\∃c n:Nat,w=.tup [.int c,.int n]/\c<=5/\1<=n/\n<=9/\n*n*2^c<=200) (Kr ([W.int d].map some++List.replicate (2-1) none) st) by
  obtain⟨w,⟨c,n,rfl,h1,h2,h3,h4⟩,e⟩:=lU hh
  exact⟨c,n,h1,h2,h3,h4,e⟩
 apply aH
 ·(walk_at "evs")
 have hd:d%12=0\/d%12=1\/d%12=2\/d%12=3\/d%12=4\/d%12=5\/d%12=6\/d%12=7\/d%12=8\/d%12=9\/d%12=10\/d%12=11:=by
  obtain⟨m,hm,em⟩:=fU (q:=d) (n:=12) (by decide)
  rw[show d%12=_ from em]
  clear em
  revert m
  decide
 have hm:e2 dQ (ah 0) (eI 12) (([W.int d].map some++List.replicate (2-1) none).set 1 (some (.tup [.tup [.int 0,.int 1],.tup [.int 0,.int 5],.tup [.int 0,.int 9],.tup [.int 1,.int 2],.tup [.int 1,.int 4],.tup [.int 1,.int 6],.tup [.int 2,.int 1],.tup [.int 2,.int 3],.tup [.int 2,.int 5],.tup [.int 3,.int 2],.tup [.int 3,.int 4],.tup [.int 5,.int 2]]))) st=.ok (.int (d%12)) st:=bc (ag rfl) bD (gF (by decide))
 have fin:∀(c n:Nat),c<=5->1<=n->n<=9->n*n*2^c<=200->pJ [W.tup [.int 0,.int 1],.tup [.int 0,.int 5],.tup [.int 0,.int 9],.tup [.int 1,.int 2],.tup [.int 1,.int 4],.tup [.int 1,.int 6],.tup [.int 2,.int 1],.tup [.int 2,.int 3],.tup [.int 2,.int 5],.tup [.int 3,.int 2],.tup [.int 3,.int 4],.tup [.int 5,.int 2]] (d%12)=some (.tup [.int c,.int n]) ->
   gH (uI fun w bI=>(∃x,bI=st++x)/\undWs st.length [w]=true/\∃c n:Nat,w=.tup [.int c,.int n]/\c<=5/\1<=n/\n<=9/\n*n*2^c<=200) (dk (e2 bC (ah 1) (e2 dQ (ah 0) (eI 12))) (([W.int d].map some++List.replicate (2-1) none).set 1 (some (.tup [.tup [.int 0,.int 1],.tup [.int 0,.int 5],.tup [.int 0,.int 9],.tup [.int 1,.int 2],.tup [.int 1,.int 4],.tup [.int 1,.int 6],.tup [.int 2,.int 1],.tup [.int 2,.int 3],.tup [.int 2,.int 5],.tup [.int 3,.int 2],.tup [.int 3,.int 4],.tup [.int 5,.int 2]]))) st):=fun c n h1 h2 h3 h4 e=>by
  apply cB
  ·exact bc (ag rfl) hm (cn e)
  ·exact⟨_,_,rfl,⟨[],by simp⟩,rfl,c,n,rfl,h1,h2,h3,h4⟩
 rcases hd with h|h|h|h|h|h|h|h|h|h|h|h
 ·exact fin 0 1 (by decide) (by decide) (by decide) (by decide) (by rw[h];rfl)
 ·exact fin 0 5 (by decide) (by decide) (by decide) (by decide) (by rw[h];rfl)
 ·exact fin 0 9 (by decide) (by decide) (by decide) (by decide) (by rw[h];rfl)
 ·exact fin 1 2 (by decide) (by decide) (by decide) (by decide) (by rw[h];rfl)
 ·exact fin 1 4 (by decide) (by decide) (by decide) (by decide) (by rw[h];rfl)
 ·exact fin 1 6 (by decide) (by decide) (by decide) (by decide) (by rw[h];rfl)
 ·exact fin 2 1 (by decide) (by decide) (by decide) (by decide) (by rw[h];rfl)
 ·exact fin 2 3 (by decide) (by decide) (by decide) (by decide) (by rw[h];rfl)
 ·exact fin 2 5 (by decide) (by decide) (by decide) (by decide) (by rw[h];rfl)
 ·exact fin 3 2 (by decide) (by decide) (by decide) (by decide) (by rw[h];rfl)
 ·exact fin 3 4 (by decide) (by decide) (by decide) (by decide) (by rw[h];rfl)
 ·exact fin 5 2 (by decide) (by decide) (by decide) (by decide) (by rw[h];rfl)
theorem F2{st:List am}{n:Nat}{ls:List (List Nat)}(h:lstOf st n=some (ls.map W.str))(hl:ls.length<64):qO [.loc n] st=.ok (.loc st.length) (st++[.lst ((lj ls).map W.str)]):=by
 show n5 [.loc n] st=_
 unfold n5
 simp only[h,eE,vw]
 rw[aB hl]
theorem y6{a b:List (List Nat)}(h:a.Perm b):(a.map List.length).sum=(b.map List.length).sum:=by
 induction h with
 |nil=>rfl
 |cons x _ ih=>simp only[aT,o_,ih]
 |swap x y l=>simp only[aT,o_];omega
 |trans _ _ ih1 ih2=>rw[ih1,ih2]
theorem ui(l:List Nat):(((l.map fun c=>[c])).map List.length).sum=l.length:=by
 induction l with
 |nil=>rfl
 |cons a r ih=>simp only[aT,o_,bf,ih,cQ];omega
def F3(l:List Nat):List Nat:=oM [] (lj (l.map fun c=>[c]))
theorem IS(l:List Nat):(F3 l).length=l.length:=by
 unfold F3;rw[qK,List.length_flatten,y6 (j7 _),ui]
theorem IT{fe:FE}{ρ:cf}{st s1:List am}{n:Nat}{l:List Nat}(h:fe ρ st=.ok (.loc n) s1)(hc:lstOf s1 n=some ((l.map fun c=>[c]).map W.str))(hl:l.length<64) :
  JW oO (eC (.str [])) (ai (bh qO (ai fe aD)) aD) ρ st=.ok (.str (F3 l)) (s1++[.lst ((lj (l.map fun c=>[c])).map W.str)]):=by
 have hs:=F2 hc (by simpa using hl)
 have hcell2:lstOf (s1++[am.lst ((lj (l.map fun c=>[c])).map W.str)]) s1.length=some ((lj (l.map fun c=>[c])).map W.str):=bd cp
 have hj:=E7 (sep:=[]) hcell2 (by rw[y6 (j7 _),ui];show _<=1000000;simp;omega)
 exact Mg bD rfl (aj (bA (aj h aF) hs) aF) hj
theorem F4(gi:List Nat)(c:Nat)(hp:gi.length<=50)(hc:c<=gi.length)(st:List am):yT [.str gi,.int c] st=.ok (.str (F3 (gi.take c))) st:=by
 have hL:gi.length<=kJ:=by show _<=1000000;omega
 have hcm:dR [none,some 0] (bw (ai (ah 1) aD)) (eU 0) iB (e2 bC (ah 1) (ah 0)) [some (.str gi),some (.int c)] st=.ok (.loc st.length) (st++[.lst (((gi.take c).map fun c=>[c]).map W.str)]):=by
  have:=lV (fi:=bw (ai (ah 1) aD)) (f:=eU 0) (el:=e2 bC (ah 1) (ah 0)) (cap:=[none,some 0]) (ρ:=[some (.str gi),some (.int c)]) (st:=st) (st1:=st) (ws:=bK 0 c) (ck:=none) (fun w=>match w with|.int i=>.str [gi.getD i.toNat 0]|_=>.non)
   (by
    have:=df (fs:=ai (ah 1) aD) (ρ:=[some (.str gi),some (.int c)]) (st:=st) (st1:=st) (q:=(c:Int)) (aj (ag rfl) aF) (by omega)
    rw[a6]at this
    exact this) (by rw[cG];show _<=1000000;omega) trivial ?_
  ·have e:(bK 0 c).map (fun w=>match w with|.int i=>W.str [gi.getD i.toNat 0]|_=>.non)=((gi.take c).map fun c=>[c]).map W.str:=by
    refine List.ext_getElem (by simp[cG];omega) fun i h1 h2=>?_
    have hi:i<c:=by simpa[cG]using h1
    rw[dM,dM,dM,List.getElem_take]
    unfold bK
    rw[dM,List.getElem_range]
    show W.str [gi.getD ((0:Int)+(i:Int)).toNat 0]=_
    rw[show((0:Int)+(i:Int)).toNat=i by omega,aG,ae (by omega)];rfl
   rw[this,e]
  ·intro w hw
   obtain⟨i,hi,rfl⟩:=qU hw
   refine⟨[some (.int (0+(i:Int))),some (.str gi)],rfl,bc (ag rfl) (ag rfl) ?_⟩
   rw[show((0:Int)+(i:Int))=(i:Int) by omega]
   have e2:pJ gi (i:Int)=some (gi.getD i 0):=d6 (by rw[aG,ae (by omega)];rfl)
   rw[E6 hL e2]
   simp
 have cR:(gi.take c).length=c:=by rw[bb];omega
 have hj:=IT hcm (bd cp) (by omega)
 refine fZ (N:=2) (ws:=[.str gi,.int c]) (body:=Ks) ?_ rfl
 apply cB
 ·exact hj
 ·exact⟨_,_,rfl,rfl,_,by rw[aY]⟩
theorem M4{fs:FA}{ρ:cf}{st st1:List am}{i j k:Int}(h:fs ρ st=.ok [.int i,.int j,.int k] st1)(hq:-(2^60)<=i/\i<2^60/\-(2^60)<=j/\j<2^60/\0<k/\k<=1000):wC fs ρ st=.ok (rQ i k (oQ i j k),none) st1:=by
 unfold wC;rw[h];simp only[R.bind_ok];rw[aB hq]
theorem F5{i k:Int}{n m:Nat}{w:W}(h:(rQ i k n)[m]?=some w):m<n/\w=.int (i+m*k):=by
 unfold rQ at h
 obtain⟨h1,h2⟩:=aa.mp h
 simp only[az,bj]at h1
 exact⟨h1,by rw[<- h2];simp⟩
theorem De(i k:Int)(n:Nat):(rQ i k n).length=n:=by simp[rQ]
theorem vM{n0:Nat}{st:List am}{ns:List Int}(h0:st[n0]?=some (.ro (ns.map W.int)))(a:Int)(oH:Nat)(JC:Int)(hm:oH<=1000) :
  ∃(j:Nat) (x:List am) (ds:List Int),ds.length=oH/\(∀d∈ds,0<=d)/\x[j]?=some (.lst (lf ds))/\uh [.loc n0,.int a,.int oH,.int JC] st=.ok (.loc (st.length+j)) (st++x):=by
 suffices hh:gH (uI fun w bI=>∃j x,w=.loc (st.length+j)/\bI=st++x/\∃ds:List Int,ds.length=oH/\(∀d∈ds,0<=d)/\x[j]?=some (.lst (lf ds))) (Kt ([W.loc n0,.int a,.int oH,.int JC].map some++List.replicate (6-4) none) st) by
  obtain⟨j,x,⟨ds,h1,h2,h3⟩,e⟩:=qa hh
  exact⟨j,x,ds,h1,h2,h3,e⟩
 apply aH
 ·(walk_at "evs")
 refine dO (fun i ρ s=>∃(p:Nat) (ds:List Int) (o5:Option W),ρ=[some (.loc n0),some (.int a),some (.int oH),some (.int JC),some (.loc p),o5]/\st <+: s/\st.length<=p/\s[p]?=some (.lst (lf ds))/\ds.length=min oH (50*i)/\∀d∈ds,0<=d) (M4 (i:=0) (j:=oH) (k:=50) (st1:=st++[am.lst []]) (by(walk_at "evs")) (by omega))
  ⟨st.length,[],none,rfl,aC _ _,ay _,cp,by simp,by simp⟩ (fun _ _ _ _=>trivial) ?_ ?_
 ·rintro i w ρ s hw ⟨p,ds,o5,rfl,hp,qo,hc,hl,u9⟩
  obtain⟨hi,rfl⟩:=F5 hw
  refine⟨_,rfl,?_⟩
  have kE:(50:Int)*i<oH:=by
   unfold oQ at hi
   split at hi
   ·omega
   ·omega
  obtain⟨c,ec⟩:=qd (pre_get hp h0) (a+(0+(i:Int)*50)/50)
  obtain⟨mm,hmm,emm⟩:∃mm:Nat,mm=min 50 (oH-50*i)/\Aj [.int 50,.int ((oH:Int)-(0+(i:Int)*50))] s=.ok (.int mm) s:=by
   refine⟨min 50 (oH-50*i),rfl,?_⟩
   show R.ok (W.int (if (oH:Int)-(0+(i:Int)*50)<50 then(oH:Int)-(0+(i:Int)*50)else 50)) s=_
   congr 2
   split<;>omega
  obtain⟨es,hes,hep,ee⟩:=qe c (JC+1009*(0+(i:Int)*50)) mm (by omega) s
  have ad:=E4 (st:=s++[am.lst (es.map W.int)]) (pre_get (aC _ _) hc) cp (by simp[lf];show _<=1000000;omega)
  have cm:wj 1009 (0+(i:Int)*50):=.inl (by decide)
  apply et
  ·(walk_at "evs")
   all_goals first|exact cm|exact(by decide)
  ·refine⟨_,_,rfl,_,ds++es,_,rfl,jg (jg hp),?_,?_,?_,?_⟩
   ·have:=MZ hc;simp;omega
   ·rw[cp];simp[lf]
   ·rw[aK];omega
   ·intro d hd
    rcases a9.mp hd with z|z
    ·exact u9 d z
    ·exact hep d z
 ·rintro ρ s ⟨p,ds,o5,rfl,⟨x,rfl⟩,qo,hc,hl,u9⟩
  rw[De]at hl
  have hmn:oH<=50*oQ 0 oH 50:=by
   unfold oQ
   split
   ·omega
   ·omega
  apply cB
  ·(walk_at "evs")
  ·refine⟨_,_,rfl,p-st.length,x,by rw[show st.length+(p-st.length)=p by omega],rfl,ds,by omega,u9,?_⟩
   rw[dX qo]at hc
   exact hc
theorem F6(g l r:Nat)(st:List am):∃k:Nat,vL [.int g,.int l,.int r] st=.ok (.int k) st:=by
 by_cases h0:g=0
 ·subst h0
  refine⟨l+r,?_⟩
  apply oo
  apply e_
  ·(walk_at "evs")
  apply fJ
  ·(walk_at "evs")
  ·exact⟨_,_,rfl,rfl,rfl⟩
 ·have t0:((g:Int)==0)=false:=by rw[aS];omega
  by_cases h1:g=1
  ·subst h1
   refine⟨if r>l then r else l,?_⟩
   have mx:Er [.int l,.int r] st=.ok (.int ((if r>l then r else l:Nat):Int)) st:=by
    show R.ok (W.int (if (r:Int)>(l:Int)then(r:Int)else(l:Int))) st=_
    congr 2
    split<;>split<;>omega
   apply oo
   apply bG
   ·(walk_at "evs")
   apply bY
   apply e_
   ·(walk_at "evs")
   apply fJ
   ·(walk_at "evs")
   ·exact⟨_,_,rfl,rfl,rfl⟩
  ·have t1:((g:Int)==1)=false:=by rw[aS];omega
   by_cases h2:g=2
   ·subst h2
    refine⟨l,?_⟩
    apply oo
    apply bG
    ·(walk_at "evs")
    apply bY
    apply bG
    ·(walk_at "evs")
    apply bY
    apply e_
    ·(walk_at "evs")
    apply fJ
    ·(walk_at "evs")
    ·exact⟨_,_,rfl,rfl,rfl⟩
   ·have t2:((g:Int)==2)=false:=by rw[aS];omega
    refine⟨r,?_⟩
    apply oo
    apply bG
    ·(walk_at "evs")
    apply bY
    apply bG
    ·(walk_at "evs")
    apply bY
    apply bG
    ·(walk_at "evs")
    apply bY
    apply cB
    ·(walk_at "evs")
    ·exact⟨_,_,rfl,rfl,rfl⟩
section
variable{cap:List (Option Nat)}{ρ:cf}{st:List am}{el:FE}{fs:FA}{n:Nat}
theorem IU{β:Type}(V:β->W)(Pb:Nat->β->Prop)(hr:fs ρ st=.ok [.int n] st)(hn:n<=100000)(h:∀i:Nat,i<n->∃b,Pb i b/\el ((lN cap ρ).set 0 (some (.int i))) st=.ok (V b) st) :
  ∃r:List β,r.length=n/\(∀i b,r[i]?=some b->Pb i b)/\dR cap (bw fs) (eU 0) iB el ρ st=.ok (.loc st.length) (st++[.lst (r.map V)]):=by
 let f:Fin n->β:=fun i=>Classical.choose (h i i.2)
 have hf:∀i:Fin n,Pb i (f i)/\el ((lN cap ρ).set 0 (some (.int (i:Nat)))) st=.ok (V (f i)) st:=fun i=>Classical.choose_spec (h i i.2)
 let Y:W->W:=fun w=>match w with
  |.int z=>if hz:z.toNat<n then V (f ⟨z.toNat,hz⟩)else .non
  |_=>.non
 have ir:bw fs ρ st=.ok (bK 0 n,none) st:=by
  have:=df hr (by omega)
  rw[a6]at this
  exact this
 have hc:=lV (fi:=bw fs) (f:=eU 0) (el:=el) (cap:=cap) (ρ:=ρ) Y ir (by rw[cG];show _<=1000000;omega) trivial fun w hw=>by
  obtain⟨i,hi,rfl⟩:=qU hw
  refine⟨_,rfl,?_⟩
  rw[show((0:Int)+(i:Int))=(i:Int) by omega]
  show _=R.ok (if hz:(i:Int).toNat<n then V (f ⟨(i:Int).toNat,hz⟩)else .non) st
  rw[dif_pos (show(i:Int).toNat<n by omega)]
  exact(hf ⟨i,hi⟩).2
 refine⟨List.ofFn f,by simp,fun i b hb=>?_,?_⟩
 ·obtain⟨h1,h2⟩:=aa.mp hb
  rw[List.getElem_ofFn]at h2
  rw[<- h2]
  exact(hf ⟨i,by simpa using h1⟩).1
 ·rw[hc]
  have e:(bK 0 n).map Y=(List.ofFn f).map V:=by
   refine List.ext_getElem (by simp[cG]) fun i h1 h2=>?_
   have hi:i<n:=by simpa[cG]using h1
   rw[dM,dM,List.getElem_ofFn]
   unfold bK
   rw[dM,List.getElem_range,show((0:Int)+(i:Int))=(i:Int) by omega]
   show(if hz:(i:Int).toNat<n then V (f ⟨(i:Int).toNat,hz⟩)else .non)=_
   rw[dif_pos (show(i:Int).toNat<n by omega)]
  rw[e]
theorem uj{β:Type}(V:β->W)(Pb:Nat->β->Prop)(hr:fs ρ st=.ok [.int n] st)(hn:n<=100000)(h:∀i:Nat,i<n->∃b,Pb i b/\el ((lN cap ρ).set 0 (some (.int i))) st=.ok (V b) st) :
  ∃r:List β,r.length=n/\(∀i b,r[i]?=some b->Pb i b)/\bh cS (ai (dR cap (bw fs) (eU 0) iB el) aD) ρ st=.ok (.tup (r.map V)) (st++[.lst (r.map V)]):=by
 obtain⟨r,h1,h2,e⟩:=IU (cap:=cap) (el:=el) V Pb hr hn h
 exact⟨r,h1,h2,bA (aj e aF) (g8 (bd cp))⟩
end
structure Mc where
 nm:List Nat
 gd:List Bool
 tb:List (List (List Nat))
def i5(r:List Nat):W:=.tup (r.map fun k=>W.int (k:Nat))
def gf(t:List (List Nat)):W:=.tup (t.map i5)
def Mc.w(M:Mc):W:=.tup [.str M.nm,.tup (M.gd.map W.bl),.tup (M.tb.map gf)]
def QX(n:Nat)(t:List (List Nat)):Prop:=t.length=n/\∀r∈t,r.length=n/\∀k∈r,k<n
structure sH(M:Mc)(n:Nat):Prop where
 gd:M.gd.length=n
 tb:M.tb.length=2^M.nm.length
 t:∀t∈M.tb,QX n t
theorem IV(r:List Nat)(n:Nat):(i5 r).und n=true:=by
 unfold i5 W.und
 induction r with
 |nil=>rfl
 |cons x r ih=>simp only[aT,undWs,ih,bL];rfl
theorem IW(t:List (List Nat))(n:Nat):(gf t).und n=true:=by
 unfold gf W.und
 induction t with
 |nil=>rfl
 |cons x r ih=>simp only[aT,undWs,ih,bL];exact IV x n
theorem F7(t:List (List (List Nat)))(n:Nat):undWs n (t.map gf)=true:=by
 induction t with
 |nil=>rfl
 |cons x r ih=>simp only[aT,undWs,ih,bL];exact IW x n
theorem IX(t:List Bool)(n:Nat):undWs n (t.map W.bl)=true:=by
 induction t with
 |nil=>rfl
 |cons x r ih=>simp only[aT,undWs,ih,bL];rfl
theorem qZ(M:Mc)(n:Nat):M.w.und n=true:=by
 unfold Mc.w
 simp[W.und,undWs,F7,IX]
theorem Bt{c:Nat}{st:List am}(h:c<=100):tz (.int 1) (.int c) st=.ok (.int ((2^c:Nat):Int)) st:=by
 have:=gF (C:=fun i j=>0<=j/\j<=1000000/\i.natAbs<2^64) (f:=fun i j=>i*2^j.toNat) (p:=1) (q:=(c:Int)) (st:=st) ⟨by omega,by omega,by decide⟩
 rw[show tz (.int 1) (.int c) st=_ from this]
 simp
theorem pB{s:List am}{p:Nat}{ws:List W}{y:W}(h:s[p]?=some (.lst ws))(hl:ws.length<1000000):c9 (.loc p) [y] s=.ok .non (s.set p (.lst (ws++[y]))):=nE h hl
theorem Df(nm:List Nat)(n dl:Nat)(ds:List Int)(st:List am)(uD:nm.length<=6)(hn:1<=n)(zO:n<=9)(hd:st[dl]?=some (.lst (lf ds)))(rA:4<=ds.length)(u9:∀d∈ds,0<=d) :
  ∃M:Mc,M.nm=nm/\sH M n/\yU [.str nm,.int n,.loc dl] st=.ok M.w st:=by
 suffices hh:gH (uI fun w bI=>(∃x,bI=st++x)/\undWs st.length [w]=true/\∃M:Mc,w=M.w/\M.nm=nm/\sH M n) (Ku ([W.str nm,.int n,.loc dl].map some++List.replicate (9-3) none) st) by
  obtain⟨w,⟨M,rfl,h1,h2⟩,e⟩:=lU hh
  exact⟨M,h1,h2,e⟩
 obtain⟨d0,d1,d2,d3,dr,rfl⟩:∃a b c d r,ds=a::b::c::d::r:=by
  match ds,rA with
  |a::b::c::d::r,_=>exact⟨_,_,_,_,_,rfl⟩
 have cR:∀s:List am,de [.str nm] s=.ok (.int nm.length) s:=fun s=>qT (by show _<=1000000;omega)
 have p2:2^nm.length<=64:=eG (by omega) uD
 obtain⟨N,hN⟩:∃N,N=2^nm.length:=⟨_,rfl⟩
 have sh:∀s:List am,tz (.int 1) (.int nm.length) s=.ok (.int N) s:=fun s=>by rw[hN];exact Bt (by omega)
 rw[<- hN]at p2
 have ix0:∀s:List am,st <+: s->bC (.loc dl) (.int 0) s=.ok (.int d0) s:=fun s h=>dU (i:=0) (pre_get h hd) rfl
 have ix1:∀s:List am,st <+: s->bC (.loc dl) (.int 1) s=.ok (.int d1) s:=fun s h=>dU (i:=1) (pre_get h hd) rfl
 have ix2:∀s:List am,st <+: s->bC (.loc dl) (.int 2) s=.ok (.int d2) s:=fun s h=>dU (i:=2) (pre_get h hd) rfl
 have ix3:∀s:List am,st <+: s->bC (.loc dl) (.int 3) s=.ok (.int d3) s:=fun s h=>dU (i:=3) (pre_get h hd) rfl
 apply aH
 ·(walk_at "evs")
 refine dO (fun i ρ s=>∃(tb:List (List (List Nat))) (o4 o5 o6 o7:Option W),ρ=[some (.str nm),some (.int n),some (.loc dl),some (.loc st.length),o4,o5,o6,o7,none]/\st <+: s/\s[st.length]?=some (.lst (tb.map gf))/\tb.length=i/\∀t∈tb,QX n t)
  (df (q:=(N:Int)) (st1:=st++[am.lst []]) (aj (bc bD (bA (aj (ag rfl) aF) (cR _)) (sh _)) aF) (by omega))
  ⟨[],none,none,none,none,rfl,aC _ _,cp,rfl,by simp⟩ (fun _ _ _ _=>trivial) ?_ ?_
 ·rintro i w ρ s hw ⟨tb,o4,o5,o6,o7,rfl,hp,hc,hl,ht⟩
  obtain⟨hi,rfl⟩:=du hw
  refine⟨_,rfl,?_⟩
  have hl1:=cR s
  have i1:=ix1 s hp
  apply aH
  ·(walk_at "evs")
  refine kM (fun ρ s'=>∃(m:Nat) (o4:Option W),ρ=[some (.str nm),some (.int n),some (.loc dl),some (.loc st.length),o4,some (.int m),o6,o7,none]/\s'=s) ?_ ?_
  ·by_cases h0:nm.length=0
   ·have t0:((nm.length:Int)==0)=true:=by rw[cz];omega
    apply jp
    ·(walk_at "evs")
    apply et
    ·(walk_at "evs")
    ·exact⟨_,_,rfl,1,_,rfl,rfl⟩
   ·have t0:((nm.length:Int)==0)=false:=by rw[aS];omega
    apply f'
    ·(walk_at "evs")
    apply et
    ·(walk_at "evs")
    ·exact⟨_,_,rfl,((0+(i:Int))%2+d1%2).toNat,_,by rw[jK (by omega)];rfl,rfl⟩
  rintro ρ s' ⟨m,o4,rfl,rfl⟩
  apply aH
  ·(walk_at "evs")
  refine dO (fun j ρ z=>∃(rows:List (List Nat)) (o7:Option W),ρ=[some (.str nm),some (.int n),some (.loc dl),some (.loc st.length),o4,some (.int m),some (.loc s'.length),o7,none]/\s' <+: z/\z[s'.length]?=some (.lst (rows.map i5))/\rows.length=j/\∀r∈rows,r.length=n/\∀k∈r,k<n)
   (df (q:=(n:Int)) (st1:=s'++[am.lst []]) (by(walk_at "evs")) (by omega)) ⟨[],_,rfl,aC _ _,cp,rfl,by simp⟩ (fun _ _ _ _=>trivial) ?_ ?_
  ·rintro j w ρ z hw ⟨rows,o7,rfl,hz,hcz,hrl,hr⟩
   obtain⟨hj,rfl⟩:=du hw
   refine⟨_,rfl,?_⟩
   obtain⟨g,hg,eg⟩:=fU (q:=d0) (n:=4) (by omega)
   have eg:d0%4=(g:Int):=eg
   obtain⟨r,hrn,hrb,er⟩:=uj (cap:=[none,some 1,some 5,some 7,some 2]) (ρ:=[some (.str nm),some (.int n),some (.loc dl),some (.loc st.length),o4,some (.int m),some (.loc s'.length),some (.int (0+(j:Int))),none]) (st:=z) (fs:=ai (ah 1) aD) (n:=n)
    (el:=bh Aj (ai (e2 jM (ah 1) (eI 1)) (ai (e2 cF (dq 3 vL (ai (e2 dQ (e2 bC (ah 4) (eI 0)) (eI 4)) (ai (ah 3) (ai (ah 0) aD)))) (ah 2)) aD))) (fun k:Nat=>W.int (k:Nat)) (fun _ k=>k<n) (aj (ag rfl) aF) (by omega) fun q hq=>by
     obtain⟨k,ek⟩:=F6 g j q z
     rw[<- eg,show(j:Int)=0+(j:Int) by omega]at ek
     refine⟨min (n-1) (k+m),by omega,?_⟩
     refine bA (aj (bc (ag rfl) bD (gF trivial)) (aj (bc (cA (aj (bc (bc (ag rfl) bD (ix0 z (hp.trans hz))) bD (gF (by decide))) (aj (ag rfl) (aj (ag rfl) aF))) ek rfl) (ag rfl) cU) aF)) ?_
     show R.ok (W.int (if (k:Int)+(m:Int)<(n:Int)-1 then(k:Int)+(m:Int)else(n:Int)-1)) z=_
     congr 2
     split<;>omega
   have ap:=pB (y:=i5 r) (pre_get (s:=z++[.lst (r.map fun k:Nat=>W.int k)]) (aC _ _) hcz) (by rw[az];omega)
   apply et
   ·exact fC (mV (ag rfl) (eV hcz) (aj er aF) ap)
   ·refine⟨_,_,rfl,rows++[r],_,rfl,iM (jg hz) (ay _),?_,by simp[hrl],?_⟩
    ·rw[kS (pre_get (aC _ _) hcz)];simp
    ·intro x hx
     rcases a9.mp hx with y|y
     ·exact hr x y
     ·simp at y;subst y
      refine⟨hrn,fun k hk=>?_⟩
      obtain⟨q,hq⟩:=br hk
      exact hrb q k hq
  ·rintro ρ z ⟨rows,o7,rfl,hz,hcz,hrl,hr⟩
   have hrl:rows.length=n:=by rw[hrl];simp[cG]
   have hcp:=pre_get hz hc
   have ap:=pB (y:=gf rows) hcp (by rw[az,hl];omega)
   apply et
   ·exact fC (mV (ag rfl) (eV hcp) (aj (bA (aj (ag rfl) aF) (g8 (bd hcz))) aF) ap)
   ·refine⟨_,_,rfl,tb++[rows],_,_,_,_,rfl,iM (hp.trans hz) (ay _),?_,by simp[hl],?_⟩
    ·rw[kS hcp];simp
    ·intro x hx
     rcases a9.mp hx with y|y
     ·exact ht x y
     ·simp at y;subst y
      exact⟨hrl,hr⟩
 ·rintro ρ s ⟨tb,o4,o5,o6,o7,rfl,hp,hc,hl,ht⟩
  have hl:tb.length=N:=by rw[hl];simp[cG]
  have i2:=ix2 s hp
  have i3:=ix3 s hp
  apply aH
  ·(walk_at "evs")
  refine kM (fun ρ s'=>∃k:Int,ρ=[some (.str nm),some (.int n),some (.loc dl),some (.loc st.length),o4,o5,o6,o7,some (.int k)]/\s'=s) ?_ ?_
  ·by_cases h1:d2%2=1
   ·have t1:(d2%2==1)=true:=cz.mpr h1
    have pn:(0:Int)<(n:Int):=by omega
    apply jp
    ·(walk_at "evs")
    apply et
    ·(walk_at "evs")
     all_goals exact pn
    ·exact⟨_,_,rfl,_,rfl,rfl⟩
   ·have t1:(d2%2==1)=false:=aS.mpr h1
    apply f'
    ·(walk_at "evs")
    apply et
    ·(walk_at "evs")
    ·exact⟨_,_,rfl,_,rfl,rfl⟩
  rintro ρ s' ⟨k,rfl,rfl⟩
  obtain⟨gd,hgl,_,eg⟩:=uj (cap:=[none,some 8]) (ρ:=[some (.str nm),some (.int n),some (.loc dl),some (.loc st.length),o4,o5,o6,o7,some (.int k)]) (st:=s') (fs:=ai (ah 1) aD) (n:=n)
   (el:=e2 jY (ah 0) (ah 1)) W.bl (fun _ _=>True) (aj (ag rfl) aF) (by omega) fun q hq=>⟨_,trivial,bc (ag rfl) (ag rfl) (fY rfl)⟩
  obtain⟨x,rfl⟩:=hp
  apply cB
  ·exact fj (aj (ag rfl) (aj eg (aj (bA (aj (ag rfl) aF) (g8 (bd (pre_get (aC _ _) hc)))) aF))) (aq rfl)
  ·exact⟨_,_,rfl,⟨_,by rw[aY]⟩,by simp only[undWs,bL];exact qZ ⟨nm,gd,tb⟩ _,⟨nm,gd,tb⟩,rfl,rfl,hgl,by rw[hl,hN],ht⟩
theorem AF{n q:Nat}(h:q<n):Bh n (q:Int)=some q:=by
 unfold Bh
 rw[aB (by omega),aB (by omega)];simp
theorem AG{s:List am}{p q:Nat}{ws:List W}{v:W}(h:s[p]?=some (.lst ws))(hq:q<ws.length):nr (.loc p) (.int q) v s=some (s.set p (.lst (ws.set q v))):=Ay h (AF hq)
theorem y7{fs:FA}{ρ:cf}{st st1:List am}{i j:Int}(h:fs ρ st=.ok [.int i,.int j] st1)(hq:-(2^62)<=i/\i<2^62/\-(2^62)<=j/\j<2^62):j4 fs ρ st=.ok (bK i (j-i).toNat,none) st1:=by
 unfold j4;rw[h];simp only[R.bind_ok];rw[aB hq]
theorem AH{ws:List W}{s:List am}:tH [.tup ws] s=.ok (.loc s.length) (s++[.lst ws]):=rfl
theorem w6{α:Type}{l:List α}{i:Nat}{x y:α}(h:y∈l.set i x):y∈l\/y=x:=List.mem_or_eq_of_mem_set h
theorem AI(M:Mc)(n sl:Nat)(ds:List Int)(st:List am)(hM:sH M n)(hn:1<=n)(zO:n<=9)(hd:st[sl]?=some (.lst (lf ds)))(rA:ds.length=4) :
  ∃M':Mc,M'.nm=M.nm/\sH M' n/\yV [M.w,.loc sl] st=.ok M'.w st:=by
 obtain⟨d0,d1,d2,d3,rfl⟩:∃a b c d,ds=[a,b,c,d]:=by
  match ds,rA with
  |[a,b,c,d],_=>exact⟨_,_,_,_,rfl⟩
 have hT:0<M.tb.length:=by rw[hM.tb];exact Nat.pow_pos (by omega)
 obtain⟨a,ha,ea⟩:=fU (q:=d0) (n:=M.tb.length) hT
 obtain⟨b,hb,eb⟩:=fU (q:=d1) (n:=n) (by omega)
 obtain⟨c,hc,ec⟩:=fU (q:=d2) (n:=n) (by omega)
 obtain⟨v,hv,ev⟩:=fU (q:=d3) (n:=n) (by omega)
 have pT:(0:Int)<(M.tb.length:Int):=by omega
 have pn:(0:Int)<(n:Int):=by omega
 obtain⟨rows,hrows⟩:∃r,M.tb[a]?=some r:=⟨_,ae ha⟩
 obtain⟨r1,r2⟩:=hM.t rows (aA hrows)
 obtain⟨row,Du⟩:∃r,rows[b]?=some r:=⟨_,ae (by omega)⟩
 obtain⟨q1,q2⟩:=r2 row (aA Du)
 have g0:bC M.w (.int 0) st=.ok (.str M.nm) st:=rfl
 have g1:∀s,bC M.w (.int 1) s=.ok (.tup (M.gd.map W.bl)) s:=fun _=>rfl
 have g2:∀s,bC M.w (.int 2) s=.ok (.tup (M.tb.map gf)) s:=fun _=>rfl
 generalize hs3:st++[am.lst (M.tb.map gf)]=s3
 have c3:s3[st.length]?=some (.lst (M.tb.map gf)):=by rw[<- hs3];exact cp
 have h3:st <+: s3:=by rw[<- hs3];exact aC _ _
 generalize hs5:s3++[am.lst (rows.map i5)]=s5
 have c5:s5[s3.length]?=some (.lst (rows.map i5)):=by rw[<- hs5];exact cp
 have h5:s3 <+: s5:=by rw[<- hs5];exact aC _ _
 generalize hs6:s5++[am.lst (row.map fun k:Nat=>W.int k)]=s6
 have c6:s6[s5.length]?=some (.lst (row.map fun k:Nat=>W.int k)):=by rw[<- hs6];exact cp
 have h6:s5 <+: s6:=by rw[<- hs6];exact aC _ _
 have l3:st.length<s3.length:=by rw[<- hs3];simp
 have l5:s3.length<s5.length:=by rw[<- hs5];simp
 have l6:s5.length<s6.length:=by rw[<- hs6];simp
 have dx:∀(s:List am) (i:Nat) (d:Int),st <+: s->[d0,d1,d2,d3][i]?=some d->bC (.loc sl) (.int i) s=.ok (.int d) s:=fun s i d h e=>dU (pre_get h hd) e
 have ix4:∀s:List am,st <+: s->bC (.loc sl) (.int 0) s=.ok (.int d0) s:=fun s h=>dx s 0 d0 h rfl
 have ix1:∀s:List am,st <+: s->bC (.loc sl) (.int 1) s=.ok (.int d1) s:=fun s h=>dx s 1 d1 h rfl
 have ix2:∀s:List am,st <+: s->bC (.loc sl) (.int 2) s=.ok (.int d2) s:=fun s h=>dx s 2 d2 h rfl
 have ix3:∀s:List am,st <+: s->bC (.loc sl) (.int 3) s=.ok (.int d3) s:=fun s h=>dx s 3 d3 h rfl
 have p6:=AG (v:=.int v) c6 (q:=c) (by rw[az];omega)
 generalize hs7:s6.set s5.length (.lst ((row.map fun k:Nat=>W.int k).set c (.int v)))=s7 at p6
 have k7:st <+: s7:=by rw[<- hs7];exact iM (h3.trans (h5.trans h6)) (by omega)
 have e6:s7[s5.length]?=some (.lst ((row.set c v).map fun k:Nat=>W.int k)):=by rw[<- hs7,kS c6];simp[qE]
 have e5:s7[s3.length]?=some (.lst (rows.map i5)):=by rw[<- hs7,AE (by omega)];exact pre_get h6 c5
 have e3:s7[st.length]?=some (.lst (M.tb.map gf)):=by rw[<- hs7,AE (by omega)];exact pre_get (h5.trans h6) c3
 have p7:=AG (v:=i5 (row.set c v)) e5 (q:=b) (by rw[az];omega)
 generalize hs8:s7.set s3.length (.lst ((rows.map i5).set b (i5 (row.set c v))))=s8 at p7
 have k8:st <+: s8:=by rw[<- hs8];exact iM k7 (by omega)
 have f5:s8[s3.length]?=some (.lst ((rows.set b (row.set c v)).map i5)):=by rw[<- hs8,kS e5];simp[qE]
 have f3:s8[st.length]?=some (.lst (M.tb.map gf)):=by rw[<- hs8,AE (by omega)];exact e3
 have p8:=AG (v:=gf (rows.set b (row.set c v))) f3 (q:=a) (by rw[az];omega)
 generalize hs9:s8.set st.length (.lst ((M.tb.map gf).set a (gf (rows.set b (row.set c v)))))=s9 at p8
 have k9:st <+: s9:=by rw[<- hs9];exact iM k8 (by omega)
 have z3:s9[st.length]?=some (.lst ((M.tb.set a (rows.set b (row.set c v))).map gf)):=by rw[<- hs9,kS f3];simp[qE]
 refine⟨⟨M.nm,M.gd,M.tb.set a (rows.set b (row.set c v))⟩,rfl,⟨hM.gd,by rw[<- hM.tb];simp,?_⟩,?_⟩
 ·intro t ht
  rcases w6 ht with h|rfl
  ·exact hM.t t h
  ·refine⟨by simpa using r1,fun r hr=>?_⟩
   rcases w6 hr with h|rfl
   ·exact r2 r h
   ·refine⟨by simpa using q1,fun k hk=>?_⟩
    rcases w6 hk with h|rfl
    ·exact q2 k h
    ·exact hv
 ·refine fZ (N:=7) (ws:=[M.w,.loc sl]) (body:=Kv) ?_ (by simp only[undWs,bL];exact qZ _ _)
  apply aH
  ·exact bS (bA (aj (bc (ag rfl) bD (g1 st)) aF) gc)
  rw[az,hM.gd]
  apply aH
  ·exact bS (bA (aj (bc (ag rfl) bD (g2 st)) aF) AH)
  rw[hs3]
  apply aH
  ·refine bS (bc (bc (ag rfl) bD (ix4 s3 h3)) (bA (aj (ag rfl) aF) (gv (bd c3))) (gF ?_))
   rw[az];exact pT
  rw[az,ea]
  apply aH
  ·exact bS (bA (aj (bc (ag rfl) (ag rfl) (iK (bd c3) (d6 (by rw[ax,hrows];rfl)))) aF) AH)
  rw[hs5]
  apply aH
  ·have iv:bC (.loc s3.length) (.int (d1%(n:Int))) s5=.ok (.tup (row.map fun k:Nat=>W.int k)) s5:=by
    rw[eb]
    exact iK (bd c5) (d6 (by rw[ax,Du];rfl))
   exact bS (bA (aj (bc (ag rfl) (bc (bc (ag rfl) bD (ix1 s5 (h3.trans h5))) (ag rfl) (gF pn)) iv) aF) AH)
  rw[hs6]
  apply aH
  ·rw[<- ec,<- ev]at p6
   exact mK (bc (bc (ag rfl) bD (ix3 s6 (h3.trans (h5.trans h6)))) (ag rfl) (gF pn)) (ag rfl) (bc (bc (ag rfl) bD (ix2 s6 (h3.trans (h5.trans h6)))) (ag rfl) (gF pn)) p6
  apply aH
  ·rw[<- eb]at p7
   exact mK (bA (aj (ag rfl) aF) (g8 (bd e6))) (ag rfl) (bc (bc (ag rfl) bD (ix1 s7 k7)) (ag rfl) (gF pn)) p7
  apply aH
  ·exact mK (bA (aj (ag rfl) aF) (g8 (bd f5))) (ag rfl) (ag rfl) p8
  obtain⟨x,rfl⟩:=k9
  apply cB
  ·exact fj (aj (bc (ag rfl) bD rfl) (aj (bc (ag rfl) bD (g1 _)) (aj (bA (aj (ag rfl) aF) (g8 (bd z3))) aF))) (aq rfl)
  ·exact⟨_,_,rfl,rfl,x,rfl⟩
def nW(l:List Nat):List W:=l.map fun k=>W.int (k:Nat)
theorem rW{s:List am}{p i:Nat}{l:List Nat}{k:Nat}(h:s[p]?=some (.lst (nW l)))(e:l[i]?=some k):bC (.loc p) (.int i) s=.ok (.int k) s:=iK (bd h) (d6 (by rw[nW,ax,e];rfl))
theorem M5{s:List am}{i:Nat}{l:List Nat}{k:Nat}(e:l[i]?=some k):bC (i5 l) (.int i) s=.ok (.int k) s:=cn (d6 (by rw[ax,e];rfl))
theorem M6{s:List am}{i:Nat}{t:List (List Nat)}{r:List Nat}(e:t[i]?=some r):bC (gf t) (.int i) s=.ok (i5 r) s:=cn (d6 (by rw[ax,e];rfl))
def RN(n:Nat)(zs:List Nat):Prop:=zs.length=n/\∀r,r∈zs↔r<n
theorem F8(n dl:Nat)(ds:List Int)(st:List am)(hn:1<=n)(zO:n<=9)(hd:st[dl]?=some (.lst (lf ds)))(rA:20<=ds.length) :
  ∃zs,RN n zs/\rT [.int n,.int 0,.loc dl] st=.ok (.loc st.length) (st++[.lst (nW zs)]):=by
 suffices hh:gH (uI fun w bI=>∃j x,w=.loc (st.length+j)/\bI=st++x/\j=0/\∃zs,RN n zs/\x=[.lst (nW zs)]) (FX ([W.int n,.int 0,.loc dl].map some++List.replicate (6-3) none) st) by
  obtain⟨j,x,⟨rfl,zs,h1,rfl⟩,e⟩:=qa hh
  exact⟨zs,h1,e⟩
 apply aH
 ·(walk_at "evs")
 refine dO (fun i ρ s=>∃(zs:List Nat) (o4 o5:Option W),ρ=[some (.int n),some (.int 0),some (.loc dl),some (.loc st.length),o4,o5]/\s=st++[.lst (nW zs)]/\zs.length=i+1/\∀r,r∈zs↔r<i+1)
  (y7 (i:=1) (j:=(n:Int)+0) (st1:=st++[am.lst [.int 0]]) (by(walk_at "evs")) (by omega))
  ⟨[0],none,none,rfl,rfl,rfl,by simp⟩ (fun _ _ _ _=>trivial) ?_ ?_
 ·rintro i w ρ s hw ⟨zs,o4,o5,rfl,rfl,hl,hm⟩
  obtain⟨hi,rfl⟩:=du hw
  refine⟨_,rfl,?_⟩
  have hc:(st++[am.lst (nW zs)])[st.length]?=some (.lst (nW zs)):=cp
  have t0:decide ((n:Int)<=1+(i:Int))=false:=aU (by omega)
  apply aH
  ·(walk_at "evs")
  apply bG
  ·(walk_at "evs")
  apply bY
  obtain⟨d,hdd⟩:∃d,ds[2*(1+i)]?=some d:=⟨_,ae (by omega)⟩
  have id:=dU (s:=st++[am.lst (nW zs)]) (bN hd) hdd
  rw[show((2*(1+i):Nat):Int)=2*(1+(i:Int)) by omega]at id
  obtain⟨q,hq,eq⟩:=fU (q:=d) (n:=zs.length) (by omega)
  have ll:=gv (bd hc)
  rw[show(nW zs).length=zs.length by simp[nW]]at ll
  have pl:(0:Int)<(zs.length:Int):=by omega
  have ins:=yC (y:=.int (1+(i:Int))) hc (k:=1+q) (by simp[nW];omega) (by simp[nW];show _<1000000;omega) (by omega)
  rw[fF,show((1+q:Nat):Int)=1+d%(zs.length:Int) by omega]at ins
  have cm:wj 2 (1+(i:Int)):=.inl (by decide)
  apply et
  ·exact fC (mV (ag rfl) (eV hc) (aj (bc bD (bc (bc (ag rfl) (bc bD (ag rfl) (nD cm)) id) (bA (aj (ag rfl) aF) ll) (gF pl)) cU) (aj (ag rfl) aF)) ins)
  ·refine⟨_,_,rfl,zs.take (1+q)++(1+i)::zs.drop (1+q),_,_,rfl,?_,?_,?_⟩
   ·simp[nW,ie,la]
   ·simp;omega
   ·intro r
    rw[a9,a8]
    have:=hm r
    have h2:r∈zs↔r∈zs.take (1+q)\/r∈zs.drop (1+q):=by
     rw[<- a9,fy]
    constructor
    ·rintro(h|h|h)
     ·have:=this.mp (h2.mpr (.inl h));omega
     ·omega
     ·have:=this.mp (h2.mpr (.inr h));omega
    ·intro h
     by_cases e:r=1+i
     ·exact .inr (.inl e)
     ·rcases h2.mp (this.mpr (by omega))with h|h
      ·exact .inl h
      ·exact .inr (.inr h)
 ·rintro ρ s ⟨zs,o4,o5,rfl,rfl,hl,hm⟩
  rw[show(bK 1 ((n:Int)+0-1).toNat,(none:Option (Nat×List W))).fst.length=n-1 by simp[cG]]at hl hm
  apply cB
  ·(walk_at "evs")
  ·exact⟨_,_,rfl,0,_,rfl,rfl,rfl,zs,⟨by omega,fun r=>by rw[hm r];omega⟩,rfl⟩
theorem IY{cap:List (Option Nat)}{ρ:cf}{st:List am}{t:FT}{fs:FA}{n:Nat}(Pb:Nat->Bool)(hr:fs ρ st=.ok [.int n] st)(hn:n<=100000)(h0:0<cap.length)(h:∀i:Nat,i<n->t ((lN cap ρ).set 0 (some (.int i))) st=.ok (Pb i) st) :
  dR cap (bw fs) (eU 0) t (ah 0) ρ st=.ok (.loc st.length) (st++[.lst (nW ((List.range n).filter Pb))]):=by
 have ir:bw fs ρ st=.ok (bK 0 n,none) st:=by
  have:=df hr (by omega)
  rw[a6]at this
  exact this
 rw[wL (fi:=bw fs) (f:=eU 0) (t:=t) (el:=ah 0) (cap:=cap) (ρ:=ρ) (fun w=>match w with|.int z=>Pb z.toNat|_=>false) id ir (by rw[cG];show _<=1000000;omega) trivial fun w hw=>by
  obtain⟨i,hi,rfl⟩:=qU hw
  rw[show((0:Int)+(i:Int))=(i:Int) by omega]
  exact⟨_,rfl,h i hi,fun _=>ag (by rw[ba (by simp[lN];exact h0)];rfl)⟩]
 congr 4
 unfold bK nW
 rw[mS,bx]
 have e:((fun w=>match w with|W.int z=>Pb z.toNat|_=>false)∘fun k:Nat=>W.int (0+(k:Int)))=Pb:=by
  funext k
  show Pb (0+(k:Int)).toNat=Pb k
  congr 1;omega
 rw[e]
 refine ce fun k _=>?_
 show W.int (0+(k:Int))=_
 rw[eB]
theorem vN{fe:FE}{f:FG}{ρ ρ':cf}{st st1:List am}{w:W}(h:fe ρ st=.ok w st1)(h2:f w ρ=some ρ'):sg fe f ρ st=.nx ρ' st1:=by
 unfold sg;rw[h];simp only[R.stmt_ok];rw[h2]
theorem F9(M:Mc)(n ow dl:Nat)(zs:List Nat)(ds:List Int)(st:List am)(hM:sH M n)(zO:n<=200)(ho:RN n zs)(hc:st[ow]?=some (.lst (nW zs)))(hd:st[dl]?=some (.lst (lf ds)))(rA:0<ds.length)(SL:ds.length<=1000)(uD:M.nm.length<=10) :
  ∃M':Mc,M'.nm=M.nm/\sH M' n/\yW [M.w,.loc ow,.loc dl] st=.ok M'.w st:=by
 suffices hh:gH (uI fun w bI=>(∃x,bI=st++x)/\undWs st.length [w]=true/\∃M':Mc,w=M'.w/\M'.nm=M.nm/\sH M' n) (Kw ([M.w,.loc ow,.loc dl].map some++List.replicate (13-3) none) st) by
  obtain⟨w,⟨M',rfl,h1,h2⟩,e⟩:=lU hh
  exact⟨M',h1,h2,e⟩
 obtain⟨hz,hm⟩:=ho
 have p2:M.tb.length<=1024:=by rw[hM.tb];exact a7 (eG (by omega) uD) (by decide)
 have ll:=gv (bd hc)
 rw[show(nW zs).length=n by simp[nW,hz]]at ll
 have g2:bC M.w (.int 2) (st++[am.lst []])=.ok (.tup (M.tb.map gf)) (st++[am.lst []]):=rfl
 apply aH
 ·(walk_at "evs")
 apply aH
 ·(walk_at "evs")
 apply aH
 ·(walk_at "evs")
 refine dO (fun i ρ s=>∃(tb:List (List (List Nat))) (a:Nat) (o6 o7 o8 o9 o10 oA nQ:Option W),ρ=[some M.w,some (.loc ow),some (.loc dl),some (.int n),some (.int a),some (.loc st.length),o6,o7,o8,o9,o10,oA,nQ]/\st <+: s/\s[st.length]?=some (.lst (tb.map gf))/\tb.length=i/\∀t∈tb,QX n t)
  (jQ (st1:=st++[am.lst []]) (bc (ag rfl) bD g2))
  ⟨[],0,none,none,none,none,none,none,none,rfl,aC _ _,cp,rfl,by simp⟩ (fun _ _ _ _=>trivial) ?_ ?_
 ·rintro i w ρ s hw ⟨tb,a,o6,o7,o8,o9,o10,oA,nQ,rfl,hp,hcT,hl,ht⟩
  obtain⟨t,hti,rfl⟩:∃t,M.tb[i]?=some t/\w=gf t:=by
   simp only[ax,dY]at hw
   obtain⟨t,h1,rfl⟩:=hw
   exact⟨t,h1,rfl⟩
  obtain⟨t1,t2⟩:=hM.t t (aA hti)
  have hi:i<M.tb.length:=(aa.mp hti).1
  refine⟨_,rfl,?_⟩
  apply aH
  ·(walk_at "evs")
  refine dO (fun j ρ z=>∃(rows:List (List Nat)) (a:Nat) (o8 o9 o10 oA nQ:Option W),ρ=[some M.w,some (.loc ow),some (.loc dl),some (.int n),some (.int a),some (.loc st.length),some (gf t),some (.loc s.length),o8,o9,o10,oA,nQ]/\s <+: z/\z[s.length]?=some (.lst (rows.map i5))/\rows.length=j/\∀r∈rows,r.length=n/\∀k∈r,k<n)
   (df (q:=(n:Int)) (st1:=s++[am.lst []]) (by(walk_at "evs")) (by omega)) ⟨[],a,_,_,_,_,_,rfl,aC _ _,cp,rfl,by simp⟩ (fun _ _ _ _=>trivial) ?_ ?_
  ·rintro x w ρ s1 hw ⟨rows,a,o8,o9,o10,oA,nQ,rfl,h1,hc1,hrl,hr⟩
   obtain⟨hx,rfl⟩:=du hw
   rw[a6]at hx
   refine⟨_,rfl,?_⟩
   apply aH
   ·(walk_at "evs")
   obtain⟨ox,hox⟩:∃k,zs[x]?=some k:=⟨_,ae (by omega)⟩
   have hox':ox<n:=(hm ox).mp (aA hox)
   obtain⟨rx,hrx⟩:∃r,t[ox]?=some r:=⟨_,ae (by omega)⟩
   obtain⟨rx1,rx2⟩:=t2 rx (aA hrx)
   refine dO (fun j ρ z=>∃(row:List Nat) (a:Nat) (o10 oA nQ:Option W),ρ=[some M.w,some (.loc ow),some (.loc dl),some (.int n),some (.int a),some (.loc st.length),some (gf t),some (.loc s.length),some (.int (0+(x:Int))),some (.loc s1.length),o10,oA,nQ]/\s1 <+: z/\z[s1.length]?=some (.lst (nW row))/\row.length=j/\∀k∈row,k<n)
    (df (q:=(n:Int)) (st1:=s1++[am.lst []]) (by(walk_at "evs")) (by omega)) ⟨[],a,_,_,_,rfl,aC _ _,cp,rfl,by simp⟩ (fun _ _ _ _=>trivial) ?_ ?_
   ·rintro y w ρ z hw ⟨row,a,o10,oA,nQ,rfl,h2,hc2,GS,hr2⟩
    obtain⟨hy,rfl⟩:=du hw
    rw[a6]at hy
    refine⟨_,rfl,?_⟩
    have hz0:st <+: z:=hp.trans (h1.trans h2)
    obtain⟨oy,hoy⟩:∃k,zs[y]?=some k:=⟨_,ae (by omega)⟩
    have hoy':oy<n:=(hm oy).mp (aA hoy)
    obtain⟨Qp,hdue⟩:∃k,rx[oy]?=some k:=⟨_,ae (by omega)⟩
    have hdue':=rx2 Qp (aA hdue)
    have wx:bC (.loc ow) (.int (0+(x:Int))) z=.ok (.int ox) z:=by rw[eB];exact rW (pre_get hz0 hc) hox
    have wy:bC (.loc ow) (.int (0+(y:Int))) z=.ok (.int oy) z:=by rw[eB];exact rW (pre_get hz0 hc) hoy
    apply aH
    ·exact bS (bc (bc (ag rfl) (bc (ag rfl) (ag rfl) wx) (M6 hrx)) (bc (ag rfl) (ag rfl) wy) (M5 hdue))
    have hcomp:=IY (cap:=[none,some 11,some 1]) (ρ:=[some M.w,some (.loc ow),some (.loc dl),some (.int n),some (.int a),some (.loc st.length),some (gf t),some (.loc s.length),some (.int (0+(x:Int))),some (.loc s1.length),some (.int (0+(y:Int))),some (.int Qp),nQ]) (st:=z) (t:=eZ (e2 jY (e2 bC (ah 2) (ah 0)) (ah 1))) (fs:=ai (ah 3) aD) (n:=n) (fun i=>((zs.getD i 0:Nat):Int)==(Qp:Int)) (aj (ag rfl) aF) (by omega) (by simp) fun q hq=>by
     have:zs[q]?=some (zs.getD q 0):=by rw[aG,ae (by omega)];rfl
     exact bR (bc (bc (ag rfl) (ag rfl) (rW (pre_get hz0 hc) this)) (ag rfl) (fY rfl))
    generalize hso:(List.range n).filter (fun i=>((zs.getD i 0:Nat):Int)==(Qp:Int))=some' at hcomp
    have hsn:0<some'.length:=by
     obtain⟨q,hq⟩:=br ((hm Qp).mpr hdue')
     have hqn:q<n:=by have:=(aa.mp hq).1;omega
     refine mw (a:=q) ?_
     rw[<- hso]
     exact cD.mpr ⟨bi.mpr hqn,by rw[aG,hq];simp⟩
    have hsm:∀k∈some',k<n:=fun k hk=>by
     rw[<- hso]at hk
     exact bi.mp (cD.mp hk).1
    have hsl:some'.length<=n:=by rw[<- hso];exact a7 (ej _ _) (by simp)
    apply aH
    ·exact vN hcomp rfl
    obtain⟨q,hq,eq⟩:=fU (q:=(a:Int)) (n:=ds.length) (by omega)
    obtain⟨d,hdd⟩:∃d,ds[q]?=some d:=⟨_,ae hq⟩
    obtain⟨k,hk,ek⟩:=fU (q:=d) (n:=some'.length) hsn
    obtain⟨c,hcc⟩:∃c,some'[k]?=some c:=⟨_,ae hk⟩
    have hz3:st <+: z++[am.lst (nW some')]:=jg hz0
    have ld:=gv (bd (pre_get hz3 hd))
    rw[show(lf ds).length=ds.length by simp[lf]]at ld
    have ls:=gv (st:=z++[am.lst (nW some')]) (n:=z.length) (bd cp)
    rw[show(nW some').length=some'.length by simp[nW]]at ls
    have id:=dU (pre_get hz3 hd) hdd
    rw[<- eq]at id
    have ic:=rW (s:=z++[am.lst (nW some')]) (p:=z.length) cp hcc
    rw[<- ek]at ic
    have pl:(0:Int)<(ds.length:Int):=by omega
    have ps:(0:Int)<(some'.length:Int):=by omega
    have hc3:(z++[am.lst (nW some')])[s1.length]?=some (.lst (nW row)):=bN hc2
    have ap:=pB (y:=.int c) hc3 (by simp[nW];omega)
    apply aH
    ·exact fC (mV (ag rfl) (eV hc3) (aj (bc (ag rfl) (bc (bc (ag rfl) (bc (ag rfl) (bA (aj (ag rfl) aF) ld) (gF pl)) id) (bA (aj (ag rfl) aF) ls) (gF ps)) ic) aF) ap)
    apply et
    ·exact bS (bc (ag rfl) bD cU)
    ·refine⟨_,_,rfl,row++[c],a+1,_,_,_,rfl,iM (jg h2) (ay _),?_,by simp[GS],?_⟩
     ·rw[kS hc3];simp[nW]
     ·intro k' hk'
      rcases a9.mp hk' with u|u
      ·exact hr2 k' u
      ·simp at u;subst u;exact hsm _ (aA hcc)
   ·rintro ρ z ⟨row,a,o10,oA,nQ,rfl,h2,hc2,GS,hr2⟩
    have GS:row.length=n:=by rw[GS];simp[cG]
    have hc3:=pre_get h2 hc1
    have ap:=pB (y:=i5 row) hc3 (by rw[az,hrl];omega)
    apply et
    ·exact fC (mV (ag rfl) (eV hc3) (aj (bA (aj (ag rfl) aF) (g8 (bd hc2))) aF) ap)
    ·refine⟨_,_,rfl,rows++[row],a,_,_,_,_,_,rfl,iM (h1.trans h2) (ay _),?_,by simp[hrl],?_⟩
     ·rw[kS hc3];simp
     ·intro r hr'
      rcases a9.mp hr' with u|u
      ·exact hr r u
      ·simp at u;subst u;exact⟨GS,hr2⟩
  ·rintro ρ z ⟨rows,a,o8,o9,o10,oA,nQ,rfl,h1,hc1,hrl,hr⟩
   have hrl:rows.length=n:=by rw[hrl];simp[cG]
   have hc3:=pre_get h1 hcT
   have ap:=pB (y:=gf rows) hc3 (by rw[az,hl];omega)
   apply et
   ·exact fC (mV (ag rfl) (eV hc3) (aj (bA (aj (ag rfl) aF) (g8 (bd hc1))) aF) ap)
   ·refine⟨_,_,rfl,tb++[rows],a,_,_,_,_,_,_,_,rfl,iM (hp.trans h1) (ay _),?_,by simp[hl],?_⟩
    ·rw[kS hc3];simp
    ·intro r hr'
     rcases a9.mp hr' with u|u
     ·exact ht r u
     ·simp at u;subst u;exact⟨hrl,hr⟩
 ·rintro ρ s ⟨tb,a,o6,o7,o8,o9,o10,oA,nQ,rfl,hp,hcT,hl,ht⟩
  have hl:tb.length=M.tb.length:=by rw[hl];simp
  have hc':=pre_get hp hc
  have cg:=lV (cap:=[none,some 0]) (ρ:=[some M.w,some (.loc ow),some (.loc dl),some (.int n),some (.int a),some (.loc st.length),o6,o7,o8,o9,o10,oA,nQ]) (st:=s) (st1:=s) (f:=eU 0) (el:=e2 bC (e2 bC (ah 1) (eI 1)) (ah 0)) (fun w=>match w with|.int z=>W.bl (M.gd.getD z.toNat false)|_=>.non)
   (lT (fe:=ah 1) (ag rfl) (bd hc')) (by simp[nW];show _<=1000000;omega) (bd hc') fun w hw=>by
    obtain⟨r,hr,rfl⟩:=aL.mp hw
    have hrn:=(hm r).mp hr
    have hg:M.gd[r]?=some (M.gd.getD r false):=by rw[aG,ae (by rw[hM.gd];exact hrn)];rfl
    have g1:bC M.w (.int 1) s=.ok (.tup (M.gd.map W.bl)) s:=rfl
    exact⟨_,rfl,bc (bc (ag rfl) bD g1) (ag rfl) (cn (d6 (by rw[ax,hg];rfl)))⟩
  rw[show(nW zs).map (fun w=>match w with|.int z=>W.bl (M.gd.getD z.toNat false)|_=>.non)=(zs.map fun r=>M.gd.getD r false).map W.bl by
   unfold nW;rw[bx,bx];refine ce fun k _=>?_;show W.bl (M.gd.getD (k:Int).toNat false)=_;rw[a6];rfl]at cg
  obtain⟨x,rfl⟩:=hp
  apply cB
  ·exact fj (aj (bc (ag rfl) bD rfl) (aj (bA (aj cg aF) (g8 (bd cp))) (aj (bA (aj (ag rfl) aF) (g8 (bd (bN hcT)))) aF))) (aq rfl)
  ·exact⟨_,_,rfl,⟨_,by rw[aY]⟩,by simp only[undWs,bL];exact qZ ⟨M.nm,zs.map fun r=>M.gd.getD r false,tb⟩ _,⟨M.nm,zs.map fun r=>M.gd.getD r false,tb⟩,rfl,rfl,by simp[hz],by rw[hl,hM.tb],ht⟩
theorem AJ(nm:List Nat)(n top dl:Nat)(ds:List Int)(st:List am)(uD:nm.length<=6)(hn:1<=n)(zO:n<=9)(Dy:1<=top)(SX:top<=n)(hd:st[dl]?=some (.lst (lf ds)))(rA:n+2^nm.length*(n*n)<=ds.length) :
  ∃M:Mc,M.nm=nm/\sH M n/\yX [.str nm,.int n,.int top,.loc dl] st=.ok M.w st:=by
 suffices hh:gH (uI fun w bI=>(∃x,bI=st++x)/\undWs st.length [w]=true/\∃M:Mc,w=M.w/\M.nm=nm/\sH M n) (Kx ([W.str nm,.int n,.int top,.loc dl].map some++List.replicate (10-4) none) st) by
  obtain⟨w,⟨M,rfl,h1,h2⟩,e⟩:=lU hh
  exact⟨M,h1,h2,e⟩
 have cR:∀s:List am,de [.str nm] s=.ok (.int nm.length) s:=fun s=>qT (by show _<=1000000;omega)
 have p2:2^nm.length<=64:=eG (by omega) uD
 obtain⟨N,hN⟩:∃N,N=2^nm.length:=⟨_,rfl⟩
 have sh:∀s:List am,tz (.int 1) (.int nm.length) s=.ok (.int N) s:=fun s=>by rw[hN];exact Bt (by omega)
 rw[<- hN]at p2 rA
 have hdn:n<=ds.length:=by omega
 obtain⟨gd,hgl,_,eg⟩:=uj (cap:=[none,some 3]) (ρ:=[some (.str nm),some (.int n),some (.int top),some (.loc dl),none,none,none,none,none,none]) (st:=st) (fs:=ai (ah 1) aD) (n:=n)
  (el:=e2 jY (e2 dQ (e2 bC (ah 1) (ah 0)) (eI 2)) (eI 1)) W.bl (fun _ _=>True) (aj (ag rfl) aF) (by omega) fun q hq=>by
   obtain⟨d,hdd⟩:∃d,ds[q]?=some d:=⟨_,ae (by omega)⟩
   exact⟨_,trivial,bc (bc (bc (ag rfl) (ag rfl) (dU hd hdd)) bD (gF (by decide))) bD (fY rfl)⟩
 apply aH
 ·exact bS eg
 generalize hs0:st++[am.lst (gd.map W.bl)]=s0
 have hst0:st <+: s0:=by rw[<- hs0];exact aC _ _
 apply aH
 ·(walk_at "evs")
 apply aH
 ·(walk_at "evs")
 refine dO (fun i ρ s=>∃(tb:List (List (List Nat))) (a:Nat) (o7 o8 o9:Option W),ρ=[some (.str nm),some (.int n),some (.int top),some (.loc dl),some (.tup (gd.map W.bl)),some (.loc s0.length),some (.int a),o7,o8,o9]/\s0 <+: s/\s[s0.length]?=some (.lst (tb.map gf))/\tb.length=i/\(∀t∈tb,QX n t)/\a+(N-i)*(n*n)<=ds.length)
  (df (q:=(N:Int)) (st1:=s0++[am.lst []]) (aj (bc bD (bA (aj (ag rfl) aF) (cR _)) (sh _)) aF) (by omega))
  ⟨[],n,none,none,none,rfl,aC _ _,cp,rfl,by simp,by simpa using rA⟩ (fun _ _ _ _=>trivial) ?_ ?_
 ·rintro i w ρ s hw ⟨tb,a,o7,o8,o9,rfl,hp,hc,hl,ht,hal⟩
  obtain⟨hi,rfl⟩:=du hw
  rw[a6]at hi
  refine⟨_,rfl,?_⟩
  rw[show N-i=(N-(i+1))+1 by omega,iX]at hal
  apply aH
  ·(walk_at "evs")
  refine dO (fun j ρ z=>∃(rows:List (List Nat)) (a:Nat) (o9:Option W),ρ=[some (.str nm),some (.int n),some (.int top),some (.loc dl),some (.tup (gd.map W.bl)),some (.loc s0.length),some (.int a),some (.int (0+(i:Int))),some (.loc s.length),o9]/\s <+: z/\z[s.length]?=some (.lst (rows.map i5))/\rows.length=j/\(∀r∈rows,r.length=n/\∀k∈r,k<n)/\a+((N-(i+1))*(n*n)+(n-j)*n)<=ds.length)
   (df (q:=(n:Int)) (st1:=s++[am.lst []]) (by(walk_at "evs")) (by omega)) ⟨[],a,_,rfl,aC _ _,cp,rfl,by simp,by simpa using hal⟩ (fun _ _ _ _=>trivial) ?_ ?_
  ·rintro j w ρ z hw ⟨rows,a,o9,rfl,hz,hcz,hrl,hr,hal⟩
   obtain⟨hj,rfl⟩:=du hw
   rw[a6]at hj
   refine⟨_,rfl,?_⟩
   rw[show n-j=(n-(j+1))+1 by omega,iX]at hal
   have pt:(0:Int)<(top:Int):=by omega
   obtain⟨r,hrn,hrb,er⟩:=uj (cap:=[none,some 2,some 3,some 6]) (ρ:=[some (.str nm),some (.int n),some (.int top),some (.loc dl),some (.tup (gd.map W.bl)),some (.loc s0.length),some (.int a),some (.int (0+(i:Int))),some (.loc s.length),some (.int (0+(j:Int)))]) (st:=z) (fs:=ai (ah 1) aD) (n:=n)
    (el:=e2 dQ (e2 bC (ah 2) (e2 cF (ah 3) (ah 0))) (ah 1)) (fun k:Nat=>W.int (k:Nat)) (fun _ k=>k<n) (aj (ag rfl) aF) (by omega) fun q hq=>by
     obtain⟨d,hdd⟩:∃d,ds[a+q]?=some d:=⟨_,ae (by omega)⟩
     obtain⟨k,hk,ek⟩:=fU (q:=d) (n:=top) (by omega)
     refine⟨k,by omega,?_⟩
     rw[<- ek]
     exact bc (bc (ag rfl) (bc (ag rfl) (ag rfl) cU) (dU (pre_get (hst0.trans (hp.trans hz)) hd) hdd)) (ag rfl) (gF pt)
   have ap:=pB (y:=i5 r) (pre_get (s:=z++[.lst (r.map fun k:Nat=>W.int k)]) (aC _ _) hcz) (by rw[az];omega)
   apply aH
   ·exact fC (mV (ag rfl) (eV hcz) (aj er aF) ap)
   apply et
   ·exact bS (bc (ag rfl) (ag rfl) cU)
   ·refine⟨_,_,rfl,rows++[r],a+n,_,rfl,iM (jg hz) (ay _),?_,by simp[hrl],?_,by omega⟩
    ·rw[kS (pre_get (aC _ _) hcz)];simp
    ·intro x hx
     rcases a9.mp hx with y|y
     ·exact hr x y
     ·simp at y;subst y
      refine⟨hrn,fun k hk=>?_⟩
      obtain⟨q,hq⟩:=br hk
      exact hrb q k hq
  ·rintro ρ z ⟨rows,a,o9,rfl,hz,hcz,hrl,hr,hal⟩
   have hrl:rows.length=n:=by rw[hrl];simp[cG]
   have hcp:=pre_get hz hc
   have ap:=pB (y:=gf rows) hcp (by rw[az,hl];omega)
   apply et
   ·exact fC (mV (ag rfl) (eV hcp) (aj (bA (aj (ag rfl) aF) (g8 (bd hcz))) aF) ap)
   ·refine⟨_,_,rfl,tb++[rows],a,_,_,_,rfl,iM (hp.trans hz) (ay _),?_,by simp[hl],?_,by omega⟩
    ·rw[kS hcp];simp
    ·intro x hx
     rcases a9.mp hx with y|y
     ·exact ht x y
     ·simp at y;subst y
      exact⟨hrl,hr⟩
 ·rintro ρ s ⟨tb,a,o7,o8,o9,rfl,hp,hc,hl,ht,hal⟩
  have hl:tb.length=N:=by rw[hl];simp[cG]
  obtain⟨x,rfl⟩:=hst0.trans hp
  apply cB
  ·exact fj (aj (ag rfl) (aj (ag rfl) (aj (bA (aj (ag rfl) aF) (g8 (bd hc))) aF))) (aq rfl)
  ·exact⟨_,_,rfl,⟨_,rfl⟩,by simp only[undWs,bL];exact qZ ⟨nm,gd,tb⟩ _,⟨nm,gd,tb⟩,rfl,rfl,hgl,by rw[hl,hN],ht⟩
theorem BR{ds:List Int}{i j:Nat}(hj:j<=ds.length)(hi:i<=j):jv (lf ds) (some (i:Int)) (some (j:Int))=lf ((ds.drop i).take (j-i)):=by
 rw[Ml (by simpa[lf]using hj) hi]
 simp[lf,ie,la]
theorem M7{n0:Nat}{st:List am}{ns:List Int}(h0:st[n0]?=some (.ro (ns.map W.int)))(a:Int)(gi:List Nat)(S6:5<=gi.length)(hp:gi.length<=50) :
  ∃(M:Mc) (n:Nat),sH M n/\1<=n/\n<=9/\M.nm.length<=5/\n*n*2^M.nm.length<=200/\M.nm=F3 (gi.take M.nm.length)/\yY [.loc n0,.int a,.str gi] st=.ok M.w st:=by
 suffices hh:gH (uI fun w bI=>(∃x,bI=st++x)/\undWs st.length [w]=true/\∃(M:Mc) (n:Nat),w=M.w/\sH M n/\1<=n/\n<=9/\M.nm.length<=5/\n*n*2^M.nm.length<=200/\M.nm=F3 (gi.take M.nm.length)) (Ky ([W.loc n0,.int a,.str gi].map some++List.replicate (10-3) none) st) by
  obtain⟨w,⟨M,n,rfl,h1,h2,h3,h4,h5,h6⟩,e⟩:=lU hh
  exact⟨M,n,h1,h2,h3,h4,h5,h6,e⟩
 obtain⟨c0,e0⟩:=qd h0 a
 obtain⟨hs,hhl,hhp,e1⟩:=qe c0 1000003 10 (by omega) st
 have e1:mM [.int c0,.int 10,.int 1000003] st=_:=e1
 obtain⟨d0,d1,d2,d3,d4,dr,rfl⟩:∃a b c d e r,hs=a::b::c::d::e::r:=by
  match hs,hhl with
  |a::b::c::d::e::r,_=>exact⟨_,_,_,_,_,_,rfl⟩
 apply aH
 ·(walk_at "evs")
 generalize oI:st++[am.lst ((d0::d1::d2::d3::d4::dr).map W.int)]=s1
 have k1:st <+: s1:=by rw[<- oI];exact aC _ _
 have hc1:s1[st.length]?=some (.lst (lf (d0::d1::d2::d3::d4::dr))):=by rw[<- oI];exact cp
 clear e0 e1 oI
 have i0:∀s:List am,s1 <+: s->bC (.loc st.length) (.int 0) s=.ok (.int d0) s:=fun s h=>dU (i:=0) (pre_get h hc1) rfl
 have i1:∀s:List am,s1 <+: s->bC (.loc st.length) (.int 1) s=.ok (.int d1) s:=fun s h=>dU (i:=1) (pre_get h hc1) rfl
 have i2:∀s:List am,s1 <+: s->bC (.loc st.length) (.int 2) s=.ok (.int d2) s:=fun s h=>dU (i:=2) (pre_get h hc1) rfl
 have i3:∀s:List am,s1 <+: s->bC (.loc st.length) (.int 3) s=.ok (.int d3) s:=fun s h=>dU (i:=3) (pre_get h hc1) rfl
 have i4:∀s:List am,s1 <+: s->bC (.loc st.length) (.int 4) s=.ok (.int d4) s:=fun s h=>dU (i:=4) (pre_get h hc1) rfl
 obtain⟨c,n,Cd,hn1,zO,hcn,es⟩:=F1 d0 s1
 apply aH
 ·exact vN (cA (aj (bc (ag rfl) bD (i0 s1 (al _))) aF) es rfl) rfl
 have en:=F4 gi c hp (by omega) s1
 have uD:(F3 (gi.take c)).length=c:=by rw[IS,bb];omega
 have hnm2:F3 (gi.take c)=F3 (gi.take (F3 (gi.take c)).length):=by rw[uD]
 generalize F3 (gi.take c)=nm at en uD hnm2
 apply aH
 ·exact bS (cA (aj (ag rfl) (aj (ag rfl) aF)) en rfl)
 obtain⟨T,hT⟩:∃T,T=n+n*n*2^c+40:=⟨_,rfl⟩
 have hnn:n*n<=81:=Nat.mul_le_mul zO zO
 obtain⟨j,x,ds,hdl,hdp,hxj,eb⟩:=vM (pre_get k1 h0) (a+1) T 3000017 (by omega)
 have eT:(n:Int)+(n:Int)*(n:Int)*((2^c:Nat):Int)+40=(T:Int):=by rw[hT];simp only[gq,jF];rfl
 have cm1:wj (n:Int) (n:Int):=.inl ⟨by omega,by omega⟩
 have cm2:wj ((n:Int)*(n:Int)) ((2^c:Nat):Int):=.inl (by rw[<- jF];omega)
 rw[<- eT]at eb
 apply aH
 ·exact bS (cA (aj (ag rfl) (aj (bc (ag rfl) bD cU) (aj (bc (bc (ag rfl) (bc (bc (ag rfl) (ag rfl) (nD cm1)) (bc bD (ag rfl) (Bt (by omega))) (nD cm2)) cU) bD cU) (aj bD aF)))) eb rfl)
 clear eb en es
 generalize xP:s1++x=s2
 have k2:s1 <+: s2:=by rw[<- xP];exact aC _ _
 have nK:s2[s1.length+j]?=some (.lst (lf ds)):=by rw[<- xP,d_];exact hxj
 generalize hdlo:s1.length+j=dl at nK
 have kk2:st <+: s2:=k1.trans k2
 have hT2:n+2^nm.length*(n*n)+40<=ds.length:=by rw[uD,my,hdl,hT];omega
 have h3:=i3 s2 k2
 have hnc:n*n*2^nm.length<=200:=by rw[uD];exact hcn
 generalize n*n*2^c=q1 at hcn hT
 by_cases w3:d3%3=0
 ·have t3:(d3%3==0)=true:=cz.mpr w3
  obtain⟨M,eM,hM,egr⟩:=Df nm n dl ds s2 (by omega) hn1 zO nK (by omega) hdp
  apply e_
  ·(walk_at "evs")
  apply om
  apply aH
  ·exact bS (cA (aj (ag rfl) (aj (ag rfl) (aj (ag rfl) aF))) egr rfl)
  apply om
  refine kM (fun ρ s=>∃M':Mc,M'.nm=nm/\sH M' n/\ρ=[some (.loc n0),some (.int a),some (.str gi),some (.loc st.length),some (.int c),some (.int n),some (.str nm),some (.loc dl),some M'.w,none]/\s2 <+: s) ?_ ?_
  ·have h4:=i4 s2 k2
   by_cases w4:d4%3=0
   ·have t4:(d4%3==0)=true:=cz.mpr w4
    have sl:=E8 (st:=s2) (n:=dl) (l:=some 4) (h:=some 8) (bd nK)
    rw[show(some (4:Int))=some ((4:Nat):Int)from rfl,show(some (8:Int))=some ((8:Nat):Int)from rfl,BR (by omega) (by omega)]at sl
    obtain⟨M',eM',hM',esp⟩:=AI M n s2.length ((ds.drop 4).take (8-4)) (s2++[.lst (lf ((ds.drop 4).take (8-4)))]) hM hn1 zO cp (by simp;omega)
    apply jp
    ·(walk_at "evs")
    apply et
    ·exact bS (cA (aj (ag rfl) (aj (uU (ag rfl) (sv bD) (sv bD) sl) aF)) esp rfl)
    ·exact⟨_,_,rfl,M',by rw[eM',eM],hM',rfl,aC _ _⟩
   ·have t4:(d4%3==0)=false:=aS.mpr w4
    apply f'
    ·(walk_at "evs")
    apply et
    ·(walk_at "evs")
    ·exact⟨_,_,rfl,M,eM,hM,rfl,al _⟩
  rintro ρ s3 ⟨M',eM',hM',rfl,k3⟩
  have sl:=E8 (st:=s3) (n:=dl) (l:=some 8) (h:=some 30) (bd (pre_get k3 nK))
  rw[show(some (8:Int))=some ((8:Nat):Int)from rfl,show(some (30:Int))=some ((30:Nat):Int)from rfl,BR (by omega) (by omega)]at sl
  obtain⟨zs,hzs,eo⟩:=F8 n s3.length ((ds.drop 8).take (30-8)) (s3++[.lst (lf ((ds.drop 8).take (30-8)))]) hn1 zO cp (by simp;omega)
  obtain⟨M2,eM2,hM2,ebl⟩:=F9 M' n _ dl zs ds (s3++[.lst (lf ((ds.drop 8).take (30-8)))]++[.lst (nW zs)]) hM' (by omega) hzs cp (bN (bN (pre_get k3 nK))) (by omega) (by omega) (by rw[eM',uD];omega)
  obtain⟨y,rfl⟩:=kk2.trans k3
  apply fJ
  ·exact cA (aj (ag rfl) (aj (cA (aj (ag rfl) (aj bD (aj (uU (ag rfl) (sv bD) (sv bD) sl) aF))) eo rfl) (aj (ag rfl) aF))) ebl rfl
  ·exact⟨_,_,rfl,⟨_,by rw[aY,aY]⟩,by simp only[undWs,bL];exact qZ _ _,M2,n,rfl,hM2,hn1,zO,by rw[eM2,eM',uD];exact Cd,by rw[eM2,eM'];exact hnc,by rw[eM2,eM'];exact hnm2⟩
 ·have t3:(d3%3==0)=false:=aS.mpr w3
  apply bG
  ·(walk_at "evs")
  apply bY
  apply aH
  ·(walk_at "evs")
  have h1:=i1 s2 k2
  have h2:=i2 s2 k2
  have pn:(0:Int)<(n:Int):=by omega
  refine kM (fun ρ s=>∃top:Nat,1<=top/\top<=n/\ρ=[some (.loc n0),some (.int a),some (.str gi),some (.loc st.length),some (.int c),some (.int n),some (.str nm),some (.loc dl),none,some (.int top)]/\s=s2) ?_ ?_
  ·by_cases w1:d1%3=0
   ·have t1:(d1%3==0)=true:=cz.mpr w1
    obtain⟨q,hq,eq⟩:=fU (q:=d2) (n:=n) (by omega)
    apply jp
    ·(walk_at "evs")
    apply et
    ·exact bS (bc bD (bc (bc (ag rfl) bD h2) (ag rfl) (gF pn)) cU)
    ·rw[eq];exact⟨_,_,rfl,1+q,by omega,by omega,rfl,rfl⟩
   ·have t1:(d1%3==0)=false:=aS.mpr w1
    apply f'
    ·(walk_at "evs")
    apply et
    ·(walk_at "evs")
    ·exact⟨_,_,rfl,n,hn1,ay _,rfl,rfl⟩
  rintro ρ s3 ⟨top,Dy,ht2,rfl,rfl⟩
  obtain⟨M,eM,hM,em⟩:=AJ nm n top dl ds s3 (by omega) hn1 zO Dy ht2 nK (by omega)
  obtain⟨y,rfl⟩:=kk2
  apply cB
  ·exact cA (aj (ag rfl) (aj (ag rfl) (aj (ag rfl) (aj (ag rfl) aF)))) em rfl
  ·exact⟨_,_,rfl,⟨_,rfl⟩,by simp only[undWs,bL];exact qZ _ _,M,n,rfl,hM,hn1,zO,by rw[eM,uD];exact Cd,by rw[eM];exact hnc,by rw[eM];exact hnm2⟩
structure Wy where
 s:Nat
 l:Nat
 r:Nat
 a:Nat
def Wy.z(p:Wy):List Int:=[(p.s:Int),(p.l:Int),(p.r:Int),(p.a:Int)]
def Wy.lt(p q:Wy):Prop:=p.s<q.s\/p.s=q.s/\(p.l<q.l\/p.l=q.l/\(p.r<q.r\/p.r=q.r/\p.a<q.a))
theorem Wy.lex(p q:Wy):HT.lexLt p.z q.z=true↔p.lt q:=by
 obtain⟨a,b,c,d⟩:=p
 obtain⟨e,f,g,h⟩:=q
 simp only[Wy.z,Wy.lt,HT.lexLt_cons,HT.lexLt_nil_nil]
 by_cases h1:(a:Int)=e
 ·rw[aB h1]
  by_cases h2:(b:Int)=f
  ·rw[aB h2]
   by_cases h3:(c:Int)=g
   ·rw[aB h3]
    by_cases h4:(d:Int)=h
    ·rw[aB h4];constructor
     ·intro z;cases z
     ·intro z;omega
    ·rw[aE h4,bZ];omega
   ·rw[aE h3,bZ];omega
  ·rw[aE h2,bZ];omega
 ·rw[aE h1,bZ];omega
theorem M8{a b c:Nat}{A B C:Prop}(t:A->B->C)(h1:a<b\/a=b/\A)(h2:b<c\/b=c/\B):a<c\/a=c/\C:=by
 rcases h1 with z|⟨rfl,p⟩
 ·rcases h2 with y|⟨rfl,_⟩
  ·exact .inl (qA z y)
  ·exact .inl z
 ·rcases h2 with y|⟨rfl,q⟩
  ·exact .inl y
  ·exact .inr ⟨rfl,t p q⟩
theorem Wy.trans{p q r:Wy}(h1:p.lt q)(h2:q.lt r):p.lt r:=M8 (M8 (M8 qA)) h1 h2
theorem Wy.irr(p:Wy):¬ p.lt p:=fun h=>by
 rcases h with z|⟨_,z|⟨_,z|⟨_,z⟩⟩⟩<;>exact bo _ z
theorem Wy.tri{p q:Wy}(h1:¬ p.lt q)(h2:¬ q.lt p):p=q:=by
 obtain⟨a,b,c,d⟩:=p
 obtain⟨e,f,g,h⟩:=q
 obtain rfl:a=e:=ij (dL fun z=>h2 (.inl z)) (dL fun z=>h1 (.inl z))
 obtain rfl:b=f:=ij (dL fun z=>h2 (.inr ⟨rfl,.inl z⟩)) (dL fun z=>h1 (.inr ⟨rfl,.inl z⟩))
 obtain rfl:c=g:=ij (dL fun z=>h2 (.inr ⟨rfl,.inr ⟨rfl,.inl z⟩⟩)) (dL fun z=>h1 (.inr ⟨rfl,.inr ⟨rfl,.inl z⟩⟩))
 obtain rfl:d=h:=ij (dL fun z=>h2 (.inr ⟨rfl,.inr ⟨rfl,.inr ⟨rfl,z⟩⟩⟩)) (dL fun z=>h1 (.inr ⟨rfl,.inr ⟨rfl,.inr ⟨rfl,z⟩⟩⟩))
 rfl
theorem Wy.ge{p q r:Wy}(h:p.lt q)(n:¬ r.lt q):p.lt r:=by
 by_cases z:q.lt r
 ·exact Wy.trans h z
 ·exact Wy.tri z n▸h
abbrev Ro:=Nat×Wy
abbrev M9(T:Nat->Nat->Nat->Nat)(L:Nat)(E:List Ro)(p:Ro):Prop:=∃el er:Ro,E[p.2.l]?=some el/\E[p.2.r]?=some er/\p.2.a<L/\T p.2.a el.1 er.1=p.1/\p.2.s=el.2.s+er.2.s+1
structure g9(T:Nat->Nat->Nat->Nat)(L N:Nat)(E:List Ro):Prop where
 zero:∃r,E=(0,⟨0,0,0,0⟩)::r
 lt:∀e∈E,e.1<N
 nd:(E.map Prod.fst).Nodup
 row:∀(i:Nat) (e:Ro),E[i]?=some e->0<i->e.2.l<i/\e.2.r<i/\M9 T L E e
 rise:∀(i:Nat) (e f:Ro),E[i]?=some e->E[i+1]?=some f->e.2.lt f.2
structure y8(T:Nat->Nat->Nat->Nat)(L N:Nat)(E B:List Ro):Prop where
 nd:(B.map Prod.fst).Nodup
 ok:∀p∈B,M9 T L E p/\p.1∉E.map Prod.fst/\p.1<N
 up:∀p∈B,∀e,E[E.length-1]?=some e->e.2.lt p.2
abbrev lr(l r a:Nat)(el er:Ro):Wy:=⟨el.2.s+er.2.s+1,l,r,a⟩
def F_(T:Nat->Nat->Nat->Nat)(E B:List Ro)(l r a:Nat):Prop:=∀el er,E[l]?=some el->E[r]?=some er->(∃(i:Nat) (e:Ro),E[i]?=some e/\e.1=T a el.1 er.1/\¬ (lr l r a el er).lt e.2)\/∃p∈B,p.1=T a el.1 er.1/\¬ (lr l r a el er).lt p.2
section
variable{T:Nat->Nat->Nat->Nat}{L N:Nat}{E B:List Ro}
theorem g9.mono(h:g9 T L N E):∀(k i:Nat) (e f:Ro),E[i]?=some e->E[i+k]?=some f->e.2.s<=f.2.s
 |0,i,e,f,h1,h2=>by rw[ml,h1]at h2;cases h2;exact ay _
 |k+1,i,e,f,h1,h2=>by
  have hk:i+k<E.length:=by have:=(aa.mp h2).1;omega
  have e1:E[i+k]?=some E[i+k]:=ae hk
  have a:=h.mono k i e _ h1 e1
  have b:=h.rise (i+k) _ f e1 (by rw[<- h2];congr 1)
  unfold Wy.lt at b
  omega
theorem g9.top(h:g9 T L N E){i:Nat}{e f:Ro}(h1:E[i]?=some e)(h2:E[E.length-1]?=some f):e.2.s<=f.2.s:=by
 have hi:=(aa.mp h1).1
 exact h.mono (E.length-1-i) i e f h1 (by rw[show i+(E.length-1-i)=E.length-1 by omega];exact h2)
theorem g9.len(h:g9 T L N E):E.length<=N:=by
 have:=oP (l:=List.range N) h.nd fun c hc=>by
  obtain⟨e,he,rfl⟩:=aL.mp hc
  exact bi.mpr (h.lt e he)
 simpa using this
theorem g9.len0(h:g9 T L N E):0<E.length:=by obtain⟨r,e⟩:=h.zero;rw[e];simp
theorem y8.len(h:y8 T L N E B):B.length<=N:=by
 have:=oP (l:=List.range N) h.nd fun c hc=>by
  obtain⟨e,he,rfl⟩:=aL.mp hc
  exact bi.mpr (h.ok e he).2.2
 simpa using this
theorem qf{B:List Ro}(h:(B.map Prod.fst).Nodup):∀{p q:Ro},p∈B->q∈B->p.1=q.1->p=q:=by
 induction B with
 |nil=>intro p q hp;cases hp
 |cons b B ih=>
  intro p q hp hq e
  simp only[aT,eN]at h
  rcases a8.mp hp with rfl|hp'<;>rcases a8.mp hq with rfl|hq'
  ·rfl
  ·exact(h.1 (aL.mpr ⟨q,hq',e.symm⟩)).elim
  ·exact(h.1 (aL.mpr ⟨p,hp',e⟩)).elim
  ·exact ih h.2 hp' hq' e
theorem M9.app{E x:List Ro}{p:Ro}(h:M9 T L E p):M9 T L (E++x) p:=by
 obtain⟨el,er,h1,h2,h3⟩:=h
 exact⟨el,er,by rw[av (aa.mp h1).1];exact h1,by rw[av (aa.mp h2).1];exact h2,h3⟩
def q5(B:List Ro)(p:Ro):List Ro:=if p.1∈B.map Prod.fst then B.map fun q=>if q.1=p.1 then p else q else B++[p]
theorem y9{p q:Ro}(h:q∈q5 B p):q=p\/q∈B/\q.1≠p.1:=by
 unfold q5 at h
 split at h
 ·obtain⟨x,hx,e⟩:=aL.mp h
  split at e
  ·exact .inl e.symm
  ·rename_i hn;subst e;exact .inr ⟨hx,hn⟩
 ·rename_i hn
  rcases a9.mp h with h|h
  ·exact .inr ⟨h,fun e=>hn (aL.mpr ⟨q,h,e⟩)⟩
  ·exact .inl (bU.mp h)
theorem y_{p:Ro}:p∈q5 B p:=by
 unfold q5
 split
 ·rename_i h
  obtain⟨x,hx,e⟩:=aL.mp h
  exact aL.mpr ⟨x,hx,by rw[aB e]⟩
 ·exact a9.mpr (.inr (bU.mpr rfl))
theorem F'{p q:Ro}(h:q∈B)(hn:q.1≠p.1):q∈q5 B p:=by
 unfold q5
 split
 ·exact aL.mpr ⟨q,h,by rw[aE hn]⟩
 ·exact a9.mpr (.inl h)
theorem IZ{p:Ro}(h:(B.map Prod.fst).Nodup):((q5 B p).map Prod.fst).Nodup:=by
 unfold q5
 split
 ·rw[bx]
  have e:B.map (Prod.fst∘fun q:Ro=>if q.1=p.1 then p else q)=B.map Prod.fst:=by
   refine ce fun q _=>?_
   show(if q.1=p.1 then p else q).1=q.1
   split
   ·rename_i e;exact e.symm
   ·rfl
  rw[e];exact h
 ·rename_i hn
  rw[bu,fQ]
  refine⟨h,by simp,fun a ha b hb=>?_⟩
  simp only[aT,c_,bU]at hb
  subst hb
  exact fun z=>hn (z▸ha)
def Ga(E B:List Ro)(p:Ro)(B':List Ro):Prop:=(p.1∈E.map Prod.fst/\B'=B)\/(p.1∉E.map Prod.fst/\(∃q∈B,q.1=p.1/\¬ p.2.lt q.2)/\B'=B)\/(p.1∉E.map Prod.fst/\(∀q∈B,q.1=p.1->p.2.lt q.2)/\B'=q5 B p)
theorem Gb(h:g9 T L N E)(b:y8 T L N E B){B':List Ro}{p:Ro}(hw:M9 T L E p)(hN:p.1<N)(sw:p.2.l=E.length-1\/p.2.r=E.length-1)(o:Ga E B p B'):y8 T L N E B':=by
 rcases o with⟨_,rfl⟩|⟨_,_,rfl⟩|⟨h1,h2,rfl⟩
 ·exact b
 ·exact b
 ·refine⟨IZ b.nd,fun q hq=>?_,fun q hq e he=>?_⟩
  ·rcases y9 hq with rfl|⟨hq,_⟩
   ·exact⟨hw,h1,hN⟩
   ·exact b.ok q hq
  ·rcases y9 hq with rfl|⟨hq,_⟩
   ·obtain⟨el,er,e1,e2,_,_,e5⟩:=hw
    rcases sw with z|z
    ·rw[z,he]at e1;cases e1
     unfold Wy.lt;omega
    ·rw[z,he]at e2;cases e2
     unfold Wy.lt;omega
   ·exact b.up q hq e he
theorem I_{l r a:Nat}{B':List Ro}{p:Ro}(o:Ga E B p B')(b:(B.map Prod.fst).Nodup)(c:F_ T E B l r a):F_ T E B' l r a:=by
 rcases o with⟨_,rfl⟩|⟨_,_,rfl⟩|⟨h1,h2,rfl⟩
 ·exact c
 ·exact c
 ·intro el er e1 e2
  rcases c el er e1 e2 with x|⟨q,hq,e,n⟩
  ·exact .inl x
  ·by_cases z:q.1=p.1
   ·have:=h2 q hq z
    exact .inr ⟨p,y_,z▸e,fun y=>n (Wy.trans y this)⟩
   ·exact .inr ⟨q,F' hq z,e,n⟩
theorem Gd(h:g9 T L N E){l r a:Nat}{B':List Ro}{el er:Ro}(e1:E[l]?=some el)(e2:E[r]?=some er)(sw:l=E.length-1\/r=E.length-1)(o:Ga E B (T a el.1 er.1,lr l r a el er) B'):F_ T E B' l r a:=by
 intro el' er' f1 f2
 rw[e1]at f1;rw[e2]at f2
 cases f1;cases f2
 rcases o with⟨h1,rfl⟩|⟨_,⟨q,hq,e,n⟩,rfl⟩|⟨h1,h2,rfl⟩
 ·obtain⟨x,hx,e⟩:=aL.mp h1
  obtain⟨i,hi⟩:=br hx
  refine .inl ⟨i,x,hi,e,fun z=>?_⟩
  rcases sw with y|y
  ·have:=h.top hi (by rw[<- y];exact e1)
   unfold Wy.lt at z;simp only at z;omega
  ·have:=h.top hi (by rw[<- y];exact e2)
   unfold Wy.lt at z;simp only at z;omega
 ·exact .inr ⟨q,hq,e,n⟩
 ·exact .inr ⟨_,y_,rfl,fun z=>by unfold Wy.lt at z;simp only at z;omega⟩
theorem Dg(h:g9 T L N E)(b:y8 T L N E B){p:Ro}(hp:p∈B):g9 T L N (E++[p]):=by
 obtain⟨w,hn,hN⟩:=b.ok p hp
 obtain⟨r,hr⟩:=h.zero
 refine⟨⟨r++[p],by rw[hr];rfl⟩,fun e he=>?_,?_,fun i e he hi=>?_,fun i e f h1 h2=>?_⟩
 ·rcases a9.mp he with he|he
  ·exact h.lt e he
  ·rw[bU.mp he];exact hN
 ·rw[bu,fQ]
  refine⟨h.nd,by simp,fun a ha c hc=>?_⟩
  simp only[aT,c_,bU]at hc
  subst hc
  exact fun z=>hn (z▸ha)
 ·by_cases hl:i<E.length
  ·rw[av hl]at he
   obtain⟨a,c,d⟩:=h.row i e he hi
   exact⟨a,c,d.app⟩
  ·have:i=E.length:=by have:=(aa.mp he).1;simp at this;omega
   subst this
   rw[bn]at he;cases he
   obtain⟨el,er,e1,e2,e3⟩:=w
   exact⟨(aa.mp e1).1,(aa.mp e2).1,M9.app ⟨el,er,e1,e2,e3⟩⟩
 ·by_cases hl:i+1<E.length
  ·rw[av hl]at h2
   rw[av (by omega)]at h1
   exact h.rise i e f h1 h2
  ·have:i+1=E.length:=by have:=(aa.mp h2).1;simp at this;omega
   rw[this,bn]at h2;cases h2
   rw[av (by omega)]at h1
   exact b.up p hp e (by rw[<- h1];congr 1;omega)
theorem Dh(h:g9 T L N E)(b:y8 T L N E B){p:Ro}(hp:p∈B)(Nt:∀q∈B,¬ q.2.lt p.2):y8 T L N (E++[p]) (B.filter fun q=>decide (q.1≠p.1)):=by
 refine⟨(fw (List.filter_sublist.map _) b.nd),fun q hq=>?_,fun q hq e he=>?_⟩
 ·obtain⟨hq,oz⟩:=cD.mp hq
  obtain⟨w,hn,hN⟩:=b.ok q hq
  refine⟨w.app,?_,hN⟩
  rw[bu,a9]
  rintro(z|z)
  ·exact hn z
  ·simp only[aT,c_,bU]at z
   exact fP oz z
 ·obtain⟨hq,oz⟩:=cD.mp hq
  have he:(E++[p])[E.length]?=some e:=by rw[<- he];congr 1;simp
  rw[bn]at he;cases he
  have h1:=Nt q hq
  obtain⟨el,er,a1,a2,a3,a4,a5⟩:=(b.ok q hq).1
  obtain⟨fl,fr,c1,c2,c3,c4,c5⟩:=(b.ok p hp).1
  obtain⟨q1,⟨s,l,r,a⟩⟩:=q
  obtain⟨p1,⟨s',l',r',a'⟩⟩:=p
  simp only at a1 a2 a3 a4 a5 c1 c2 c3 c4 c5
  by_cases z:l=l'/\r=r'/\a=a'
  ·obtain⟨rfl,rfl,rfl⟩:=z
   rw[a1]at c1;rw[a2]at c2
   cases c1;cases c2
   exact(fP oz (a4.symm.trans c4)).elim
  ·by_cases y:Wy.lt ⟨s',l',r',a'⟩ ⟨s,l,r,a⟩
   ·exact y
   ·have:=Wy.tri h1 y
    cases this
    exact(z ⟨rfl,rfl,rfl⟩).elim
theorem Ge{l r a:Nat}{p:Ro}(hp:p∈B)(nd:(B.map Prod.fst).Nodup)(hl:l<E.length)(hr:r<E.length)(c:F_ T E B l r a):F_ T (E++[p]) (B.filter fun q=>decide (q.1≠p.1)) l r a:=by
 intro el er e1 e2
 rw[av hl]at e1
 rw[av hr]at e2
 rcases c el er e1 e2 with⟨i,e,f1,f2,f3⟩|⟨q,hq,f2,f3⟩
 ·exact .inl ⟨i,e,by rw[av (aa.mp f1).1];exact f1,f2,f3⟩
 ·by_cases z:q.1=p.1
  ·obtain rfl:=qf nd hq hp z
   exact .inl ⟨E.length,q,bn,f2,f3⟩
  ·exact .inr ⟨q,cD.mpr ⟨hq,a_ z⟩,f2,f3⟩
end
def dI{α:Type}(f:α->Nat)(g:α->W)(l:List α):List (DK×W):=l.map fun a=>(DK.i (f a:Nat),g a)
section
variable{α:Type}{f:α->Nat}{g:α->W}{l:List α}
theorem AK(q:Nat)(a:α):decide ((DK.i (f a:Nat))=DK.i (q:Nat))=decide (f a=q):=by
 rw[jG,bZ,bZ]
 constructor
 ·intro h;injection h with h;omega
 ·intro h;rw[h]
theorem AL(q:Nat):hX (dI f g l) (.i q)=(l.find? fun a=>decide (f a=q)).map g:=by
 unfold hX dI
 rw[List.find?_map]
 simp only[iV,AK,Option.map_map]
theorem rX(q:Nat):(hX (dI f g l) (.i q)).isSome=decide (q∈l.map f):=by
 rw[AL,gC,jG,List.find?_isSome,bZ,aL]
 simp
theorem uk{a:α}(h:(l.map f).Nodup)(ha:a∈l):hX (dI f g l) (.i (f a:Nat))=some (g a):=by
 rw[AL]
 induction l with
 |nil=>cases ha
 |cons b l ih=>
  simp only[aT,eN]at h
  rw[d5]
  rcases a8.mp ha with rfl|ha'
  ·simp
  ·have:f b≠f a:=fun z=>h.1 (z▸aL.mpr ⟨a,ha',rfl⟩)
   rw[show decide (f b=f a)=false from aU this]
   exact ih h.2 ha'
theorem q9{a:α}(h:f a∉l.map f):p9 (dI f g l) (.i (f a:Nat)) (g a)=dI f g (l++[a]):=by
 unfold p9
 rw[aE]
 ·unfold dI;rw[bu];rfl
 ·intro z
  unfold dI at z
  rw[List.any_map,ly]at z
  obtain⟨x,hx,e⟩:=z
  simp only[iV,AK,bZ]at e
  exact h (aL.mpr ⟨x,hx,e⟩)
theorem Ja(q:Nat):j8 (dI f g l) (.i q)=dI f g (l.filter fun a=>decide (f a≠q)):=by
 unfold j8 dI
 rw[mS]
 congr 1
 refine List.filter_congr fun a _=>?_
 show decide ((DK.i (f a:Nat))≠DK.i (q:Nat))=decide (f a≠q)
 rw[decide_not,AK,decide_not]
theorem lY:(dI f g l).length=l.length:=by simp[dI]
end
def rY(w:Wy):W:=.tup (w.z.map W.int)
abbrev bW(B:List Ro):List (DK×W):=dI (fun p:Ro=>p.1) (fun p=>rY p.2) B
abbrev tW(E:List Ro):List (DK×W):=dI (fun p:Ro=>p.1) (fun _=>W.bl true) E
theorem M_(B:List Ro)(p:Ro):p9 (bW B) (.i (p.1:Nat)) (rY p.2)=bW (q5 B p):=by
 by_cases h:p.1∈B.map Prod.fst
 ·unfold q5
  rw[aB h]
  unfold p9
  rw[aB]
  ·unfold bW dI
   rw[bx,bx]
   refine ce fun q _=>?_
   show(if DK.i (q.1:Nat)=DK.i (p.1:Nat)then _ else _)=_
   by_cases e:q.1=p.1
   ·rw[aB (by rw[e])]
    show _=(DK.i ((if q.1=p.1 then p else q).1:Nat),rY (if q.1=p.1 then p else q).2)
    rw[aB e];show(DK.i (q.1:Nat),_)=_;rw[e]
   ·rw[aE (by intro z;injection z with z;omega)]
    show _=(DK.i ((if q.1=p.1 then p else q).1:Nat),rY (if q.1=p.1 then p else q).2)
    rw[aE e]
  ·unfold bW dI
   rw[List.any_map,ly]
   obtain⟨x,hx,e⟩:=aL.mp h
   exact⟨x,hx,by simp only[iV,bZ];rw[e]⟩
 ·unfold q5
  rw[aE h]
  exact q9 (f:=fun p:Ro=>p.1) (g:=fun p=>rY p.2) (a:=p) h
theorem um:∀B:List Ro,jP (bW B)=some (B.map fun p=>p.2.z)
 |[]=>rfl
 |p::B=>by
  show(match At (rY p.2),jP (bW B)with|some a,some b=>some (a::b)|_,_=>none)=_
  rw[um B];rfl
theorem y'(B:List Ro):∀j,j<B.length->∃p,B[kc (fun a=>(B.map fun p=>p.2.z).getD a []) j]?=some p/\∀i q,i<=j->B[i]?=some q->¬ q.2.lt p.2
 |0,h=>⟨B[0],ae h,fun i q hi hq=>by
   obtain rfl:i=0:=by omega
   rw[ae h]at hq;cases hq
   exact Wy.irr _⟩
 |j+1,h=>by
  obtain⟨p,hp,hm⟩:=y' B j (by omega)
  have hj:B[j+1]?=some B[j+1]:=ae h
  have kz:∀(i:Nat) (q:Ro),B[i]?=some q->(B.map fun p=>p.2.z).getD i []=q.2.z:=fun i q e=>by
   rw[aG,ax,e];rfl
  unfold kc
  simp only[kz _ _ hj,kz _ _ hp]
  split
  ·rename_i z
   rw[Wy.lex]at z
   refine⟨B[j+1],hj,fun i q hi hq=>?_⟩
   rcases cx i (j+1)with y|y
   ·have:=hm i q (by omega) hq
    exact fun y=>this (Wy.trans y z)
   ·obtain rfl:i=j+1:=by omega
    rw[hj]at hq;cases hq
    exact Wy.irr _
  ·rename_i z
   refine⟨p,hp,fun i q hi hq=>?_⟩
   rcases cx i (j+1)with y|y
   ·exact hm i q (by omega) hq
   ·obtain rfl:i=j+1:=by omega
    rw[hj]at hq;cases hq
    intro y;exact z ((Wy.lex _ _).mpr y)
section
variable{st st1:List am}{n:Nat}{kvs:List (DK×W)}{ρ:cf}
theorem fK(h:st[n]?=some (.dct kvs)):fI st (.loc n)=some (n,kvs):=by simp only[fI,h]
theorem Jb(h:st[n]?=some (.rod kvs)):fI st (.loc n)=some (n,kvs):=by simp only[fI,h]
theorem w9(h:st[n]?=some (.dct kvs)):sj st (.loc n)=some (n,kvs):=by simp only[sj,h]
theorem nI{q:Nat}{Hb b:Bool}(h:fI st (.loc n)=some (n,kvs))(hb:(if Hb then !(hX kvs (.i q)).isSome else(hX kvs (.i q)).isSome)=b):lp Hb (.int q) (.loc n) st=.ok (.bl b) st:=by
 rw[<- hb];simp only[lp,h,iI]
theorem jI{q:Nat}{w:W}(h:fI st (.loc n)=some (n,kvs))(hb:hX kvs (.i q)=some w):jx (.loc n) (.int q) st=.ok w st:=by
 simp only[jx,h,iI,hb,eE]
theorem q_{q:Nat}{v:W}(h:st[n]?=some (.dct kvs))(hl:kvs.length<kJ):mJ (.loc n) (.int q) v st=some (st.set n (.dct (p9 kvs (.i q) v))):=by
 simp only[mJ,w9 h,iI];rw[aB hl]
theorem AM(h:fI st (.loc n)=some (n,kvs)):tY [.loc n] st=.ok (.int kvs.length) st:=by
 simp only[tY,h]
theorem Na{fo fk:FE}{q:Nat}{w:W}(h1:fo ρ st=.ok (.loc n) st)(h2:fk ρ st=.ok (.int q) st)(h:st[n]?=some (.dct kvs))(hg:hX kvs (.i q)=some w):BH fo fk ρ st=.ok w (st.set n (.dct (j8 kvs (.i q)))):=by
 unfold BH
 rw[h1];simp only[R.bind_ok,w9 h]
 rw[h2];simp only[R.bind_ok,w9 h,iI,hg,eE]
theorem Jc{i j:Nat}{T:Addr}{pos:Pos}{q:Str}{ks:List (List Int)}{p:DK×W}(h0:ρ[i]?=some (some (.loc n)))(h:st[n]?=some (.dct kvs))(hk:jP kvs=some ks)(ht:st[j]?=some (.tab T pos q))(hp:kvs[kc (fun a=>ks.getD a []) (kvs.length-1)]?=some p) :
  t6 i j T pos q ρ st=.ok p.1.w st:=by
 unfold t6
 rw[h0];simp only[w9 h,hk]
 rw[aB (show EX st j T pos q from ht),hp];rfl
theorem Gf{w v:Wy}{b:Bool}(h:HT.lexLt w.z v.z=b):sk (rY w) (rY v) st=.ok (.bl b) st:=by
 rw[<- h];rfl
theorem Jd{N:Nat}{body:FS}{ws:List W}{c:Nat}{d:am}(hc:c<st.length)(hd:d.und st.length=true)(h:gH (E9 fun _ bI=>∃x,bI=st.set c d++x) (body (ws.map some++List.replicate (N-ws.length) none) st)):eF N body ws st=.ok .non (st.set c d):=by
 obtain⟨ρ',bI,e,x,rfl⟩:=h
 unfold eF
 rw[e]
 show R.ok W.non (j6 st (st.set c d++x) [.non])=_
 unfold j6
 rw[aB]
 ·congr 1
  rw[List.take_append_of_le_length (by simp),cL (by simp)]
 ·refine⟨rfl,by simp,fun i hi=>?_⟩
  rw[av (by simpa using hi)]
  by_cases z:c=i
  ·subst z
   exact .inr ⟨d,by rw[ba hi],hd⟩
  ·exact .inl (by rw[aQ z])
end
theorem kh{ρ:cf}{st st1:List am}{P:RS->Prop}{fi:FI}{f:FG}{body:FS}{k:Al}(I:Nat->cf->List am->Prop)(h:fi ρ st=.ok k st1)(h0:I 0 ρ st1)(hc:∀i ρ st,I i ρ st->iG st k.2)
  (hs:∀i w ρ st,k.1[i]?=some w->I i ρ st->∃ρ',f w ρ=some ρ'/\gH (E9 (I (i+1))) (body ρ' st)) (he:∀ρ st,I k.1.length ρ st->P (.nx ρ st)):gH P (gn fi f body ρ st):=by
 obtain⟨ρ2,st2,e,h2⟩:=t8 (f:=f) (body:=body) (ck:=k.2) I (ws:=k.1) (ρ:=ρ) (st:=st1) 0 h0 hc fun i w ρ st hw hI=>by
  rw[gm]at hI ⊢
  obtain⟨ρ',e1,ρ2,st2,e2,h2⟩:=hs i w ρ st hw hI
  exact⟨ρ',ρ2,st2,e1,e2,h2⟩
 rw[gm]at h2
 rw[wI h,e];exact he _ _ h2
def xM(n:Nat):List (Nat×Nat):=(List.range (n+1)).map (fun o=>(n,o))++(List.range n).map (fun o=>(o,n))
def Nb(p:Nat×Nat):W:=.tup [.int (p.1:Nat),.int (p.2:Nat)]
theorem pD{β:Type}(q:Nat)(F:W->β):(bK 0 q).map F=(List.range q).map fun i=>F (.int (i:Nat)):=by
 unfold bK
 rw[bx]
 refine ce fun i _=>?_
 show F (.int (0+(i:Int)))=_
 rw[eB]
theorem Gh(n:Nat)(hn:n<=1000)(st:List am):∃x y,Da [.int n] st=.ok (.loc (st.length+2)) (st++[.lst x,.lst y,.lst ((xM n).map Nb)]):=by
 refine⟨List.map (fun w=>W.tup [.int n,w]) (bK 0 ((n:Int)+1).toNat),List.map (fun w=>W.tup [w,.int n]) (bK 0 (n:Int).toNat),yy (N:=1) (body:=PK) (ws:=[.int n]) (k:=2) ?_⟩
 refine yB ?_
 refine bc (lV (fun w=>.tup [.int n,w]) (df (aj (bc (ag rfl) bD cU) aF) (by omega)) ?_ trivial ?_) (lV (fun w=>.tup [w,.int n]) (df (aj (ag rfl) aF) (by omega)) ?_ trivial ?_) ?_
 ·rw[bK,az,bj];show _<=1000000;omega
 ·intro w hw
  exact⟨_,rfl,(by(walk_at "evs"))⟩
 ·rw[bK,az,bj];show _<=1000000;omega
 ·intro w hw
  exact⟨_,rfl,(by(walk_at "evs"))⟩
 ·have ea:(xM n).map Nb=List.map (fun w=>W.tup [.int n,w]) (bK 0 ((n:Int)+1).toNat)++List.map (fun w=>W.tup [w,.int n]) (bK 0 (n:Int).toNat):=by
   rw[pD,pD,xM,bu,bx,bx]
   rfl
  rw[E4 (ws:=List.map (fun w=>W.tup [.int n,w]) (bK 0 ((n:Int)+1).toNat)) (xs:=List.map (fun w=>W.tup [w,.int n]) (bK 0 (n:Int).toNat)) (bN (by rw[dS];rfl)) (by rw[dS];rfl),ea]
  ·simp
  ·simp[bK];show _<=1000000;omega
theorem Nc{n i:Nat}{p:Nat×Nat}(h:(xM n)[i]?=some p):p.1<=n/\p.2<=n/\(p.1=n\/p.2=n):=by
 have:=aA h
 unfold xM at this
 rcases a9.mp this with h|h
 ·obtain⟨o,ho,rfl⟩:=aL.mp h
  have:=bi.mp ho
  exact⟨ay _,by simp only;omega,.inl rfl⟩
 ·obtain⟨o,ho,rfl⟩:=aL.mp h
  have:=bi.mp ho
  exact⟨by simp only;omega,ay _,.inr rfl⟩
theorem Je{n l r:Nat}(hl:l<=n)(hr:r<=n)(h:l=n\/r=n):∃i:Nat,i<(xM n).length/\(xM n)[i]?=some (l,r):=by
 have:(l,r)∈xM n:=by
  unfold xM
  rw[a9]
  by_cases z:l=n
  ·subst z
   exact .inl (aL.mpr ⟨r,bi.mpr (by omega),rfl⟩)
  ·have:r=n:=by omega
   subst this
   exact .inr (aL.mpr ⟨l,bi.mpr (by omega),rfl⟩)
 obtain⟨i,hi⟩:=br this
 exact⟨i,(aa.mp hi).1,hi⟩
def vO(E:List Ro)(i:Nat)(e:Ro)(w:W):Prop:=(i=0/\w=.tup [.int (e.1:Nat),.int (e.2.s:Nat),.tup []])\/(0<i/\∃el er:Ro,E[e.2.l]?=some el/\E[e.2.r]?=some er/\w=.tup [.int (e.1:Nat),.int (e.2.s:Nat),.tup [.int (el.1:Nat),.int (er.1:Nat),.int (e.2.a:Nat)]])
structure Rows(E:List Ro)(R:List W):Prop where
 len:R.length=E.length
 at':∀(i:Nat) (e:Ro),E[i]?=some e->∃w,R[i]?=some w/\vO E i e w
theorem vO.sh{E:List Ro}{i:Nat}{e:Ro}{w:W}(h:vO E i e w):∃t,w=.tup [.int (e.1:Nat),.int (e.2.s:Nat),t]:=by
 rcases h with⟨_,rfl⟩|⟨_,_,_,_,_,rfl⟩<;>exact⟨_,rfl⟩
theorem vO.app{E x:List Ro}{i:Nat}{e:Ro}{w:W}(h:vO E i e w):vO (E++x) i e w:=by
 rcases h with h|⟨h0,el,er,h1,h2,h3⟩
 ·exact .inl h
 ·exact .inr ⟨h0,el,er,by rw[av (aa.mp h1).1];exact h1,by rw[av (aa.mp h2).1];exact h2,h3⟩
def cC(M:Mc)(a l r:Nat):Nat:=((M.tb.getD a []).getD l []).getD r 0
section
variable{M:Mc}{N:Nat}
theorem za(hM:sH M N){a:Nat}{t:List (List Nat)}(ht:M.tb[a]?=some t){l r:Nat}(hl:l<N)(hr:r<N):∃row,t[l]?=some row/\row[r]?=some (cC M a l r)/\cC M a l r<N:=by
 obtain⟨t1,t2⟩:=hM.t t (aA ht)
 have xO:l<t.length:=by omega
 have e1:t[l]?=some t[l]:=ae xO
 obtain⟨r1,r2⟩:=t2 t[l] (f9 xO)
 have hr':r<t[l].length:=by omega
 have e2:t[l][r]?=some t[l][r]:=ae hr'
 have e3:cC M a l r=t[l][r]:=by
  unfold cC
  rw[aG,aG,aG,ht]
  simp only[Option.getD_some,e1,e2]
 exact⟨t[l],e1,by rw[e2,e3],by rw[e3];exact r2 _ (f9 hr')⟩
theorem BS{t:List (List Nat)}{l:Nat}{row:List Nat}{st:List am}(h:t[l]?=some row):bC (gf t) (.int (l:Nat)) st=.ok (i5 row) st:=by
 unfold gf;exact cn (d6 (by rw[ax,h];rfl))
theorem BU{row:List Nat}{r k:Nat}{st:List am}(h:row[r]?=some k):bC (i5 row) (.int (r:Nat)) st=.ok (.int (k:Nat)) st:=by
 unfold i5;exact cn (d6 (by rw[ax,h];rfl))
end
structure Go(T:Nat->Nat->Nat->Nat)(L N:Nat)(E B:List Ro)(D:Nat->Nat->Nat->Prop):Prop where
 best:y8 T L N E B
 cov:∀l r a,D l r a->F_ T E B l r a
theorem Go.imp{T:Nat->Nat->Nat->Nat}{L N:Nat}{E B:List Ro}{D D':Nat->Nat->Nat->Prop}(g:Go T L N E B D)(h:∀l r a,D' l r a->D l r a):Go T L N E B D':=⟨g.best,fun l r a d=>g.cov l r a (h l r a d)⟩
theorem Go.one{T:Nat->Nat->Nat->Nat}{L N:Nat}{E B B':List Ro}{D:Nat->Nat->Nat->Prop}(h:g9 T L N E)(g:Go T L N E B D){l r a:Nat}{el er:Ro}(e1:E[l]?=some el)(e2:E[r]?=some er)(ha:a<L)(hN:T a el.1 er.1<N)
  (sw:l=E.length-1\/r=E.length-1) (o:Ga E B (T a el.1 er.1,lr l r a el er) B'):Go T L N E B' (fun l' r' a'=>D l' r' a'\/l'=l/\r'=r/\a'=a):=
 ⟨Gb h g.best ⟨el,er,e1,e2,ha,rfl,rfl⟩ hN sw o,fun l' r' a' d=>by
  rcases d with d|⟨rfl,rfl,rfl⟩
  ·exact I_ o g.best.nd (g.cov _ _ _ d)
  ·exact Gd h e1 e2 sw o⟩
theorem zb(n:Nat):∀l:List Int,undWs n (l.map W.int)=true
 |[]=>rfl
 |_::l=>by simp only[aT,undWs,zb n l,bL];rfl
theorem Nd(n:Nat)(B:List Ro):(am.dct (bW B)).und n=true:=by
 show undWs n ((bW B).map fun p=>p.2)=true
 unfold bW dI
 rw[bx]
 induction B with
 |nil=>rfl
 |cons b B ih=>
  simp only[aT,undWs,ih,bL]
  show(rY b.2).und n=true
  unfold rY W.und
  exact zb n _
section
variable{M:Mc}{N:Nat}{E B:List Ro}{R:List W}{st:List am}{ra rb rc:Nat}
theorem BV(hM:sH M N)(hN:N<=100)(Du:st[ra]?=some (.lst R))(Qb:st[rb]?=some (.dct (tW E)))(G7:st[rc]?=some (.dct (bW B)))(n1:rc≠ra)(n2:rc≠rb)(hR:Rows E R)(h:g9 (cC M) M.tb.length N E)
  (g:Go (cC M) M.tb.length N E B fun l r a=>l<E.length-1/\r<E.length-1/\a<M.tb.length) :
  ∃B',Go (cC M) M.tb.length N E B' (fun l r a=>l<E.length/\r<E.length/\a<M.tb.length)/\Dc [M.w,.loc ra,.loc rb,.loc rc] st=.ok .non (st.set rc (.dct (bW B'))):=by
 have hE:=h.len
 have hE0:=h.len0
 suffices hh:gH (E9 fun _ bI=>∃B',Go (cC M) M.tb.length N E B' (fun l r a=>l<E.length/\r<E.length/\a<M.tb.length)/\∃x,bI=st.set rc (.dct (bW B'))++x) (PU ([M.w,W.loc ra,.loc rb,.loc rc].map some++List.replicate (11-4) none) st) by
  obtain⟨ρ',bI,e,B',hg,hx⟩:=hh
  exact⟨B',hg,Jd (aa.mp G7).1 (Nd _ _) ⟨ρ',bI,e,hx⟩⟩
 obtain⟨x,y,ep⟩:=Gh (E.length-1) (by omega) st
 have hc:=(aa.mp G7).1
 have elen:((R.length:Int)-1)=((E.length-1:Nat):Int):=by rw[hR.len];omega
 generalize oI:st++[am.lst x,.lst y,.lst ((xM (E.length-1)).map Nb)]=s1 at ep
 have qo:s1[st.length+2]?=some (.lst ((xM (E.length-1)).map Nb)):=by rw[<- oI,d_];rfl
 have p1:st <+: s1:=by rw[<- oI];exact aC _ _
 have hq:∀(B':List Ro) (i:Nat) (c:am),i≠rc->s1[i]?=some c->(s1.set rc (.dct (bW B')))[i]?=some c:=fun B' i c hi e=>by rw[aQ (Ne.symm hi)];exact e
 have hq':∀(B':List Ro),(s1.set rc (.dct (bW B')))[rc]?=some (.dct (bW B')):=fun B'=>ba (aV hc p1.length_le)
 have zv:s1.set rc (.dct (bW B))=s1:=by
  refine gE fun i=>?_
  by_cases z:rc=i
  ·subst z;rw[hq',pre_get p1 G7]
  ·rw[aQ z]
 refine kh (fun i ρ s=>∃(B':List Ro) (o4 o5 o6 o7 o8 o9 o10:Option W),ρ=[some M.w,some (.loc ra),some (.loc rb),some (.loc rc),o4,o5,o6,o7,o8,o9,o10]/\s=s1.set rc (.dct (bW B')) /\
   Go (cC M) M.tb.length N E B' fun l r a=>(l<E.length-1/\r<E.length-1\/∃j,j<i/\(xM (E.length-1))[j]?=some (l,r))/\a<M.tb.length) (k:=((xM (E.length-1)).map Nb,some (st.length+2,(xM (E.length-1)).map Nb))) (st1:=s1)
  (lT (cA (aj (bc (bA (aj (ag rfl) aF) (gv (bd Du))) bD rfl) aF) (by show Da [W.int ((R.length:Int)-1)] st=_;rw[elen];exact ep) rfl) (bd qo))
  ⟨B,_,_,_,_,_,_,_,rfl,zv.symm,g.imp fun l r a d=>?_⟩ ?_ ?_ ?_
 ·obtain⟨d|⟨j,z,_⟩,da⟩:=d
  ·exact⟨d.1,d.2,da⟩
  ·exact absurd z (bz _)
 ·rintro i ρ s ⟨B',o4,o5,o6,o7,o8,o9,o10,rfl,rfl,gg⟩
  exact bd (hq B' _ _ (by omega) qo)
 ·rintro i w ρ s hw ⟨B0,o4,o5,o6,o7,o8,o9,o10,rfl,rfl,gg⟩
  rw[ax]at hw
  cases hp:(xM (E.length-1))[i]? with
  |none=>rw[hp]at hw;cases hw
  |some p=>
   obtain⟨l,r⟩:=p
   rw[hp]at hw
   cases hw
   obtain⟨hl,hr,sw⟩:=Nc hp
   simp only at hl hr sw
   have xO:l<E.length:=by omega
   have hr':r<E.length:=by omega
   obtain⟨el,hel⟩:∃el,E[l]?=some el:=⟨_,ae xO⟩
   obtain⟨er,her⟩:∃er,E[r]?=some er:=⟨_,ae hr'⟩
   obtain⟨wl,GS,rl⟩:=hR.at' l el hel
   obtain⟨wr,hwr,rr⟩:=hR.at' r er her
   obtain⟨tl,rfl⟩:=rl.sh
   obtain⟨tr,rfl⟩:=rr.sh
   clear rl rr
   have hlN:el.1<N:=h.lt el (aA hel)
   have hrN:er.1<N:=h.lt er (aA her)
   have xl:∀B',bC (.loc ra) (.int (l:Nat)) (s1.set rc (.dct (bW B')))=.ok _ _:=fun B'=>iK (bd (hq B' _ _ (Ne.symm n1) (pre_get p1 Du))) (d6 GS)
   have xr:∀B',bC (.loc ra) (.int (r:Nat)) (s1.set rc (.dct (bW B')))=.ok _ _:=fun B'=>iK (bd (hq B' _ _ (Ne.symm n1) (pre_get p1 Du))) (d6 hwr)
   refine⟨_,rfl,?_⟩
   apply aH
   ·exact bS (bc (bc (bc (bc (ag rfl) (ag rfl) (xl B0)) bD (cn rfl)) (bc (bc (ag rfl) (ag rfl) (xr B0)) bD (cn rfl)) cU) bD cU)
   refine kh (fun k ρ s=>∃(B':List Ro) (o7 o8 o9 o10:Option W),ρ=[some M.w,some (.loc ra),some (.loc rb),some (.loc rc),some (.int (l:Nat)),some (.int (r:Nat)),some (.int ((el.2.s:Int)+(er.2.s:Int)+1)),o7,o8,o9,o10]/\s=s1.set rc (.dct (bW B')) /\
     Go (cC M) M.tb.length N E B' fun l' r' a'=>((l'<E.length-1/\r'<E.length-1\/∃j,j<i/\(xM (E.length-1))[j]?=some (l',r'))/\a'<M.tb.length)\/l'=l/\r'=r/\a'<k) (k:=(tO (M.tb.map gf),none)) (st1:=s1.set rc (.dct (bW B0)))
    (by show wu (ai (e2 bC (ah 0) (eI 2)) aD) _ _=_;unfold wu;rfl) ⟨B0,_,_,_,_,rfl,rfl,gg.imp fun l' r' a' d=>?_⟩ (fun _ _ _ _=>trivial) ?_ ?_
   ·rcases d with d|⟨_,_,d⟩
    ·exact d
    ·exact absurd d (bz _)
   ·rintro k w ρ s hw ⟨B1,o7,o8,o9,o10,rfl,rfl,gg⟩
    obtain⟨y,hy,rfl⟩:=vy hw
    rw[ax]at hy
    cases ht:M.tb[k]? with
    |none=>rw[ht]at hy;cases hy
    |some t=>
     rw[ht]at hy
     cases hy
     have hk:k<M.tb.length:=(aa.mp ht).1
     obtain⟨row,t1e,t2e,t3e⟩:=za hM ht hlN hrN
     refine⟨_,rfl,?_⟩
     apply aH
     ·exact bS (bc (bc (ag rfl) (bc (bc (ag rfl) (ag rfl) (xl B1)) bD (cn rfl)) (BS t1e)) (bc (bc (ag rfl) (ag rfl) (xr B1)) bD (cn rfl)) (BU t2e))
     apply aH
     ·exact bS (fj (aj (ag rfl) (aj (ag rfl) (aj (ag rfl) (aj (ag rfl) aF)))) (aq rfl))
     have ew:W.tup [.int ((el.2.s:Int)+(er.2.s:Int)+1),.int (l:Nat),.int (r:Nat),.int (k:Nat)]=rY (lr l r k el er):=by
      unfold rY Wy.z
      simp only[aT,c_,gq];rfl
     have hto:fI (s1.set rc (.dct (bW B1))) (.loc rb)=some (rb,tW E):=fK (hq B1 _ _ (Ne.symm n2) (pre_get p1 Qb))
     have hbo:fI (s1.set rc (.dct (bW B1))) (.loc rc)=some (rc,bW B1):=fK (hq' B1)
     have fin:∀B',Ga E B1 (cC M k el.1 er.1,lr l r k el er) B'->Go (cC M) M.tb.length N E B' fun l' r' a'=>((l'<E.length-1/\r'<E.length-1\/∃j,j<i/\(xM (E.length-1))[j]?=some (l',r'))/\a'<M.tb.length)\/l'=l/\r'=r/\a'<k+1:=fun B' o=>
      (Go.one h gg hel her hk t3e sw o).imp fun l' r' a' d=>by
       rcases d with d|⟨rfl,rfl,d⟩
       ·exact .inl (.inl d)
       ·rcases cx a' k with z|z
        ·exact .inl (.inr ⟨rfl,rfl,z⟩)
        ·exact .inr ⟨rfl,rfl,by omega⟩
     have put:∀ρ:cf,ρ[3]?=some (some (.loc rc))->ρ[9]?=some (some (.int (cC M k el.1 er.1:Nat)))->ρ[10]?=some (some (rY (lr l r k el er)))->nu (ah 3) (ah 9) (ah 10) mJ ρ (s1.set rc (.dct (bW B1)))=.nx ρ (s1.set rc (.dct (bW (q5 B1 (cC M k el.1 er.1,lr l r k el er))))):=fun ρ r3 r9 r10=>by
      refine mK (ag r10) (ag r3) (ag r9) ?_
      rw[q_ (hq' B1) (by rw[lY];have:=gg.best.len;show _<1000000;omega),List.set_set,M_ B1 (cC M k el.1 er.1,lr l r k el er)]
     rw[ew]
     by_cases c1:cC M k el.1 er.1∈E.map Prod.fst
     ·refine f' (lS (bR (bc (ag rfl) (ag rfl) (nI (b:=false) hto (by rw[rX];simp only[fN];rw[a_ c1];rfl))))) ?_
      exact⟨_,_,rfl,B1,_,_,_,_,rfl,rfl,fin B1 (.inl ⟨c1,rfl⟩)⟩
     ·have t1:∀ρ:cf,ρ[9]?=some (some (.int (cC M k el.1 er.1:Nat)))->ρ[2]?=some (some (.loc rb))->eZ (e2 (lp true) (ah 9) (ah 2)) ρ (s1.set rc (.dct (bW B1)))=.ok true _:=fun ρ r9 r2=>
       bR (bc (ag r9) (ag r2) (nI (b:=true) hto (by rw[rX];simp only[fN];rw[aU c1];rfl)))
      by_cases c2:cC M k el.1 er.1∈B1.map Prod.fst
      ·obtain⟨q,hqB,hq1⟩:=aL.mp c2
       have t2:∀ρ:cf,ρ[9]?=some (some (.int (cC M k el.1 er.1:Nat)))->ρ[3]?=some (some (.loc rc))->eZ (e2 (lp true) (ah 9) (ah 3)) ρ (s1.set rc (.dct (bW B1)))=.ok false _:=fun ρ r9 r2=>
        bR (bc (ag r9) (ag r2) (nI (b:=false) hbo (by rw[rX];simp only[fN];rw[a_ c2];rfl)))
       have gt:hX (bW B1) (.i (cC M k el.1 er.1:Nat))=some (rY q.2):=by
        rw[<- hq1];exact uk (f:=fun p:Ro=>p.1) (g:=fun p=>rY p.2) gg.best.nd hqB
       have t3:∀(b:Bool) (ρ:cf),HT.lexLt (lr l r k el er).z q.2.z=b->ρ[9]?=some (some (.int (cC M k el.1 er.1:Nat)))->ρ[3]?=some (some (.loc rc))->ρ[10]?=some (some (rY (lr l r k el er)))->eZ (e2 sk (ah 10) (e2 jx (ah 3) (ah 9))) ρ (s1.set rc (.dct (bW B1)))=.ok b _:=fun b ρ hb r9 r3 r10=>
        bR (bc (ag r10) (bc (ag r3) (ag r9) (jI hbo gt)) (Gf hb))
       cases hb:HT.lexLt (lr l r k el er).z q.2.z with
       |true=>
        refine jp (lR (t1 _ rfl rfl) (gA (t2 _ rfl rfl) (t3 true _ hb rfl rfl rfl))) ?_
        exact⟨_,_,put _ rfl rfl rfl,_,_,_,_,_,rfl,rfl,fin _ (.inr (.inr ⟨c1,fun q' hq' e'=>by
         obtain rfl:=qf gg.best.nd hqB hq' (hq1.trans e'.symm)
         exact(Wy.lex _ _).mp hb,rfl⟩))⟩
       |false=>
        refine f' (lR (t1 _ rfl rfl) (gA (t2 _ rfl rfl) (t3 false _ hb rfl rfl rfl))) ?_
        exact⟨_,_,rfl,B1,_,_,_,_,rfl,rfl,fin B1 (.inr (.inl ⟨c1,⟨q,hqB,hq1,fun z=>by rw[(Wy.lex _ _).mpr z]at hb;cases hb⟩,rfl⟩))⟩
      ·refine jp (lR (t1 _ rfl rfl) (wJ (bR (bc (ag rfl) (ag rfl) (nI (b:=true) hbo (by rw[rX];simp only[fN];rw[aU c2];rfl)))))) ?_
       exact⟨_,_,put _ rfl rfl rfl,_,_,_,_,_,rfl,rfl,fin _ (.inr (.inr ⟨c1,fun q' hq' e'=>(c2 (aL.mpr ⟨q',hq',e'⟩)).elim,rfl⟩))⟩
   ·rintro ρ s ⟨B1,o7,o8,o9,o10,rfl,rfl,gg⟩
    refine⟨_,_,rfl,B1,_,_,_,_,_,_,_,rfl,rfl,gg.imp fun l' r' a' d=>?_⟩
    obtain⟨d|⟨j,hj,d⟩,da⟩:=d
    ·exact .inl ⟨.inl d,da⟩
    ·rcases cx j i with z|z
     ·exact .inl ⟨.inr ⟨j,z,d⟩,da⟩
     ·obtain rfl:j=i:=by omega
      rw[hp]at d;cases d
      exact .inr ⟨rfl,rfl,by simpa[tO]using da⟩
 ·rintro ρ s ⟨B',o4,o5,o6,o7,o8,o9,o10,rfl,rfl,gg⟩
  refine⟨_,_,rfl,B',gg.imp fun l r a d=>?_,[am.lst x,.lst y,.lst ((xM (E.length-1)).map Nb)],by rw[<- oI,List.set_append_left _ _ hc]⟩
  obtain⟨dl,dr,da⟩:=d
  refine⟨?_,da⟩
  by_cases z:l<E.length-1/\r<E.length-1
  ·exact .inl z
  ·obtain⟨j,hj,e⟩:=Je (n:=E.length-1) (l:=l) (r:=r) (by omega) (by omega) (by omega)
   exact .inr ⟨j,by simpa using hj,e⟩
end
theorem BW{ρ:cf}{st:List am}{z:Int}{v:W}:oR (j_ (eC (.int z)) (eC v) nz) ρ st=.ok (.loc st.length) (st++[.dct [(.i z,v)]]):=by
 unfold oR
 have e1:j_ (eC (.int z)) (eC v) nz ρ (st++[.dct []])=.ok [(.int z,v)] (st++[.dct []]):=rfl
 rw[e1]
 simp only[R.bind_ok,dS,fF]
 rfl
theorem w_{ρ:cf}{st:List am}{z:Int}:oR (j_ (eC (.int z)) (dy aD) nz) ρ st=.ok (.loc st.length) (st++[.dct [(.i z,.tup [])]]):=by
 unfold oR
 have e1:j_ (eC (.int z)) (dy aD) nz ρ (st++[.dct []])=.ok [(.int z,.tup [])] (st++[.dct []]):=by unfold j_ dy nh;simp[aD,eC,nz,R.bind]
 rw[e1]
 simp only[R.bind_ok,dS,fF]
 rfl
theorem Nf{ρ:cf}{st:List am}:EO ρ st=.ok (.loc st.length) (st++[.dct []]):=rfl
theorem Gi{E:List Ro}{R:List W}(h:Rows E R)(n:Nat):undWs n R=true:=by
 have zH:∀w∈R,w.und n=true:=fun w hw=>by
  obtain⟨i,hi⟩:=br hw
  have hl:=(aa.mp hi).1
  obtain⟨w',hw',ro⟩:=h.at' i (E[i]'(by rw[<- h.len];exact hl)) (ae (by rw[<- h.len];exact hl))
  rw[hi]at hw';cases hw'
  rcases ro with⟨_,rfl⟩|⟨_,_,_,_,_,rfl⟩<;>simp[W.und,undWs]
 clear h
 induction R with
 |nil=>rfl
 |cons w R ih=>
  simp only[undWs,cq]
  exact⟨zH w (dA ..),ih fun w hw=>zH w (cv _ hw)⟩
theorem Rows.next{E:List Ro}{R:List W}(h:Rows E R)(h0:0<E.length){p el er:Ro}(e1:E[p.2.l]?=some el)(e2:E[p.2.r]?=some er):Rows (E++[p]) (R++[.tup [.int (p.1:Nat),.int (p.2.s:Nat),.tup [.int (el.1:Nat),.int (er.1:Nat),.int (p.2.a:Nat)]]]):=
 ⟨by simp[h.len],fun i e he=>by
  by_cases hl:i<E.length
  ·rw[av hl]at he
   obtain⟨w,hw,ro⟩:=h.at' i e he
   exact⟨w,by rw[av (by rw[h.len];exact hl)];exact hw,ro.app⟩
  ·have:i=E.length:=by have:=(aa.mp he).1;simp at this;omega
   subst this
   rw[bn]at he;cases he
   exact⟨_,by rw[<- h.len,bn],.inr ⟨h0,el,er,by rw[av (aa.mp e1).1];exact e1,by rw[av (aa.mp e2).1];exact e2,rfl⟩⟩⟩
section
variable{M:Mc}{N:Nat}{st:List am}
theorem vP(hM:sH M N)(Qm:1<=N)(hN:N<=100)(ht:st[1]?=some (.tab 177 ⟨64,29,64,52⟩ "firsts_of.<locals>.<lambda>")) :
  ∃(E:List Ro) (R:List W),g9 (cC M) M.tb.length N E/\Rows E R/\(∀l r a,l<E.length->r<E.length->a<M.tb.length->F_ (cC M) E [] l r a)/\uf [M.w] st=.ok (.tup R) st:=by
 suffices hh:gH (uI fun w bI=>(∃x,bI=st++x)/\undWs st.length [w]=true/\∃(E:List Ro) (R:List W),w=.tup R/\g9 (cC M) M.tb.length N E/\Rows E R/\∀l r a,l<E.length->r<E.length->a<M.tb.length->F_ (cC M) E [] l r a) (PX ([M.w].map some++List.replicate (6-1) none) st) by
  obtain⟨w,⟨E,R,rfl,h1,h2,h3⟩,e⟩:=lU hh
  exact⟨E,R,h1,h2,h3,e⟩
 apply aH
 ·(walk_at "evs")
 apply aH
 ·exact bS BW
 apply aH
 ·exact bS Nf
 have kE:1<st.length:=(aa.mp ht).1
 rw[show(st++[am.lst [W.tup [.int 0,.int 0,.tup []]]]++[am.dct [(DK.i 0,W.bl true)]]).length=st.length+2 by simp,show(st++[am.lst [W.tup [.int 0,.int 0,.tup []]]]).length=st.length+1 by simp,
  show st++[am.lst [W.tup [.int 0,.int 0,.tup []]]]++[am.dct [(DK.i 0,W.bl true)]]++[am.dct []]=st++[am.lst [W.tup [.int 0,.int 0,.tup []]],.dct (tW [(0,⟨0,0,0,0⟩)]),.dct (bW [])] by simp only[aY];rfl]
 have hT0:g9 (cC M) M.tb.length N [(0,⟨0,0,0,0⟩)]:=by
  refine⟨⟨[],rfl⟩,fun e he=>?_,by simp,fun i e he hi=>?_,fun i e f h1 h2=>?_⟩
  ·rw[bU.mp he];exact Qm
  ·have:=(aa.mp he).1;simp at this;omega
  ·have:=(aa.mp h2).1;simp at this
 have hR0:Rows [(0,⟨0,0,0,0⟩)] [W.tup [.int 0,.int 0,.tup []]]:=⟨rfl,fun i e he=>by
  have:i=0:=by have:=(aa.mp he).1;simp at this;omega
  subst this
  cases he
  exact⟨_,rfl,.inl ⟨rfl,rfl⟩⟩⟩
 have g0:Go (cC M) M.tb.length N [(0,⟨0,0,0,0⟩)] [] fun l r a=>l<[((0:Nat),(⟨0,0,0,0⟩:Wy))].length-1/\r<[((0:Nat),(⟨0,0,0,0⟩:Wy))].length-1/\a<M.tb.length:=
  ⟨⟨by simp,fun p hp=>by simp at hp,fun p hp=>by simp at hp⟩,fun l r a d=>absurd d.1 (by simp)⟩
 obtain⟨B1,g1,ew⟩:=BV (st:=st++[am.lst [W.tup [.int 0,.int 0,.tup []]],.dct (tW [(0,⟨0,0,0,0⟩)]),.dct (bW [])]) (ra:=st.length) (rb:=st.length+1) (rc:=st.length+2) hM hN (by rw[dS];rfl) (by rw[d_];rfl) (by rw[d_];rfl) (by omega) (by omega) hR0 hT0 g0
 rw[gJ]at ew
 apply aH
 ·exact fC (cA (aj (ag rfl) (aj (ag rfl) (aj (ag rfl) (aj (ag rfl) aF)))) ew rfl)
 clear ew g0
 refine vG (fun m ρ s=>∃(E B:List Ro) (R:List W) (o4 o5:Option W),m=N-E.length/\ρ=[some M.w,some (.loc st.length),some (.loc (st.length+1)),some (.loc (st.length+2)),o4,o5]/\s=st++[.lst R,.dct (tW E),.dct (bW B)] /\
   Rows E R/\g9 (cC M) M.tb.length N E/\Go (cC M) M.tb.length N E B fun l r a=>l<E.length/\r<E.length/\a<M.tb.length) _ ⟨_,B1,_,_,_,rfl,rfl,rfl,hR0,hT0,g1⟩ ?_ ?_
 ·rintro m ρ s ⟨E,B,R,o4,o5,rfl,rfl,rfl,hR,hT,g⟩
  have hb:(st++[am.lst R,.dct (tW E),.dct (bW B)])[st.length+2]?=some (.dct (bW B)):=by rw[d_];rfl
  cases B with
  |nil=>exact .inl (bR (bc (bA (aj (ag rfl) aF) (AM (fK hb))) bD (iJ rfl)))
  |cons b B=>
   refine .inr ⟨bR (bc (bA (aj (ag rfl) aF) (AM (fK hb))) bD (iJ (by rw[lY];exact a_ (by simp only[bf];omega)))),?_⟩
   obtain⟨p,hp,Nt⟩:=y' (b::B) B.length (by simp)
   have hpB:p∈b::B:=aA hp
   have hmin':∀q∈b::B,¬ q.2.lt p.2:=fun q hq=>by
    obtain⟨i,hi⟩:=br hq
    exact Nt i q (by have:=(aa.mp hi).1;simp at this;omega) hi
   apply aH
   ·refine bS (Jc (p:=(DK.i (p.1:Nat),rY p.2)) rfl hb (um _) (bN ht) ?_)
    rw[lY,show(b::B).length-1=B.length from rfl]
    show((b::B).map _)[_]?=_
    rw[ax,hp];rfl
   apply aH
   ·exact bS (Na (n:=st.length+2) (q:=p.1) (ag rfl) (ag rfl) hb (uk (f:=fun p:Ro=>p.1) (g:=fun p=>rY p.2) g.best.nd hpB))
   rw[gJ,Ja]
   obtain⟨⟨el,er,w1,w2,w3,w4,w5⟩,pn,pN⟩:=g.best.ok p hpB
   obtain⟨vl,hvl,rl⟩:=hR.at' _ _ w1
   obtain⟨vr,hvr,rr⟩:=hR.at' _ _ w2
   obtain⟨tl,rfl⟩:=rl.sh
   obtain⟨tr,rfl⟩:=rr.sh
   clear rl rr
   have hT2:=Dg hT g.best hpB
   have b2:=Dh hT g.best hpB hmin'
   have hR2:=hR.next hT.len0 w1 w2
   have hel:E.length<N:=by have:=hT2.len;simp at this;omega
   generalize hB2:List.filter (fun q:Ro=>decide (q.1≠p.1)) (b::B)=B2 at b2
   have g2:Go (cC M) M.tb.length N (E++[p]) B2 fun l r a=>l<(E++[p]).length-1/\r<(E++[p]).length-1/\a<M.tb.length:=⟨b2,fun l r a d=>by
    rw[<- hB2]
    simp only[aK,bf,cQ]at d
    exact Ge hpB g.best.nd (by omega) (by omega) (g.cov l r a ⟨by omega,by omega,d.2.2⟩)⟩
   show gH _ (aW _ _ _ (st++[am.lst R,.dct (tW E),.dct (bW B2)]))
   have hr0:(st++[am.lst R,.dct (tW E),.dct (bW B2)])[st.length]?=some (.lst R):=by rw[dS];rfl
   have xl:bC (.loc st.length) (.int (p.2.l:Nat)) (st++[am.lst R,.dct (tW E),.dct (bW B2)])=.ok _ _:=iK (bd hr0) (d6 hvl)
   have xr:bC (.loc st.length) (.int (p.2.r:Nat)) (st++[am.lst R,.dct (tW E),.dct (bW B2)])=.ok _ _:=iK (bd hr0) (d6 hvr)
   have xw:∀(i:Int) (w:W) (s:List am),pJ (p.2.z.map W.int) i=some w->bC (rY p.2) (.int i) s=.ok w s:=fun i w s e=>cn e
   apply aH
   ·exact fC (mV (ag rfl) (eV hr0) (aj (fj (aj (ag rfl) (aj (bc (ag rfl) bD (xw 0 _ _ rfl)) (aj (fj (aj (bc (bc (ag rfl) (bc (ag rfl) bD (xw 1 _ _ rfl)) xl) bD (cn rfl)) (aj (bc (bc (ag rfl) (bc (ag rfl) bD (xw 2 _ _ rfl)) xr) bD (cn rfl)) (aj (bc (ag rfl) bD (xw 3 _ _ rfl)) aF))) (aq rfl)) aF))) (aq rfl)) aF) (nE hr0 (by rw[hR.len];show _<1000000;omega)))
   rw[fF]
   show gH _ (aW _ _ _ (st++[am.lst (R++[_]),.dct (tW E),.dct (bW B2)]))
   apply aH
   ·refine mK bD (ag rfl) (ag rfl) (q_ (kvs:=tW E) (q:=p.1) (by rw[d_];rfl) (by rw[lY];show _<1000000;omega))
   rw[gJ,show p9 (tW E) (.i (p.1:Nat)) (W.bl true)=tW (E++[p])from q9 (f:=fun p:Ro=>p.1) (g:=fun _=>W.bl true) (a:=p) pn]
   show gH _ (eQ _ _ (st++[am.lst (R++[_]),.dct (tW (E++[p])),.dct (bW B2)]))
   obtain⟨B3,g3,e3⟩:=BV (st:=st++[am.lst (R++[W.tup [.int (p.1:Nat),.int (p.2.s:Nat),.tup [.int (el.1:Nat),.int (er.1:Nat),.int (p.2.a:Nat)]]]),.dct (tW (E++[p])),.dct (bW B2)]) (ra:=st.length) (rb:=st.length+1) (rc:=st.length+2) hM hN (by rw[dS];rfl) (by rw[d_];rfl) (by rw[d_];rfl) (by omega) (by omega) hR2 hT2 g2
   rw[gJ]at e3
   exact⟨_,_,fC (cA (aj (ag rfl) (aj (ag rfl) (aj (ag rfl) (aj (ag rfl) aF)))) e3 rfl),N-(E++[p]).length,by simp only[aK,bf,cQ];omega,E++[p],B3,_,_,_,rfl,rfl,rfl,hR2,hT2,g3⟩
 ·rintro m ρ s ⟨E,B,R,o4,o5,rfl,rfl,rfl,hR,hT,g⟩ hf
  have hb:(st++[am.lst R,.dct (tW E),.dct (bW B)])[st.length+2]?=some (.dct (bW B)):=by rw[d_];rfl
  have hB:B=[]:=by
   cases B with
   |nil=>rfl
   |cons b B=>
    have t:eZ (e2 yi (bh tY (ai (ah 3) aD)) (eI 0)) [some M.w,some (.loc st.length),some (.loc (st.length+1)),some (.loc (st.length+2)),o4,o5] (st++[am.lst R,.dct (tW E),.dct (bW (b::B))])=.ok true _:=
     bR (bc (bA (aj (ag rfl) aF) (AM (fK hb))) bD (iJ (by rw[lY];exact a_ (by simp only[bf];omega))))
    rw[t]at hf
    cases hf
  subst hB
  refine cB (bA (aj (ag rfl) aF) (g8 (bd (by rw[dS];rfl)))) ⟨_,_,rfl,⟨_,rfl⟩,?_,E,R,rfl,hT,hR,fun l r a h1 h2 h3=>g.cov l r a ⟨h1,h2,h3⟩⟩
  simp only[undWs,bL]
  unfold W.und
  exact Gi hR _
end
theorem vQ{f:FG}{body:FS}{ck:Option (Nat×List W)}(I:Nat->cf->List am->Prop){Pr:RS->Prop}:∀{ws:List W} {ρ:cf} {st:List am} (i0 k:Nat) (w:W),ws[k]?=some w->I i0 ρ st->(∀i ρ st,I i ρ st->iG st ck) ->
  (∀i w ρ st,i<k->ws[i]?=some w->I (i0+i) ρ st->∃ρ' ρ2 st2,f w ρ=some ρ'/\body ρ' st=.nx ρ2 st2/\I (i0+i+1) ρ2 st2) ->
  (∀ρ st,I (i0+k) ρ st->∃ρ',f w ρ=some ρ'/\((∃v s,body ρ' st=.rt v s/\Pr (.rt v s))\/(∃c r s,body ρ' st=.ex c r s/\Pr (.ex c r s))\/∃r s,body ρ' st=.bk r s/\Pr (.nx r s))) ->
  Pr (pY f body ck ws ρ st)
 |[],ρ,st,i0,k,w,hw,h0,hc,hs,hx=>by simp at hw
 |x::ws,ρ,st,i0,0,w,hw,h0,hc,hs,hx=>by
  have:x=w:=by simpa using hw
  subst this
  obtain⟨ρ',e1,h⟩:=hx ρ st h0
  unfold pY
  rw[aB (hc _ _ _ h0),e1]
  rcases h with⟨v,s,e,p⟩|⟨c,r,s,e,p⟩|⟨r,s,e,p⟩<;>simp only[e]<;>exact p
 |x::ws,ρ,st,i0,k+1,w,hw,h0,hc,hs,hx=>by
  obtain⟨ρ',ρ2,st2,e1,e2,h1⟩:=hs 0 x ρ st (Nat.succ_pos _) rfl h0
  have:=vQ I (Pr:=Pr) (ws:=ws) (ρ:=ρ2) (st:=st2) (i0+1) k w (by simpa using hw) h1 hc (fun i w ρ st hi hw hI=>by
   obtain⟨a,b,c,d,e,g⟩:=hs (i+1) w ρ st (by omega) (by simpa using hw) (by rw[show i0+(i+1)=i0+1+i by omega];exact hI)
   exact⟨a,b,c,d,e,by rw[show i0+1+i+1=i0+(i+1)+1 by omega];exact g⟩) (fun ρ st hI=>hx ρ st (by rw[show i0+(k+1)=i0+1+k by omega];exact hI))
  unfold pY
  rw[aB (hc _ _ _ h0),e1]
  simp only[e2]
  exact this
theorem uo{ρ:cf}{st st1:List am}{P:RS->Prop}{fz:FS}{fi:FI}{f:FG}{body:FS}{kw:Al}(I:Nat->cf->List am->Prop)(k:Nat)(w:W)(h:fi ρ st=.ok kw st1)(hw:kw.1[k]?=some w)(h0:I 0 ρ st1)(hc:∀i ρ st,I i ρ st->iG st kw.2)
  (hs:∀i w ρ st,i<k->kw.1[i]?=some w->I i ρ st->∃ρ',f w ρ=some ρ'/\gH (E9 (I (i+1))) (body ρ' st))
  (hx:∀ρ st,I k ρ st->∃ρ',f w ρ=some ρ'/\((∃v s,body ρ' st=.rt v s/\P (.rt v s))\/(∃c r s,body ρ' st=.ex c r s/\P (.ex c r s))\/∃r s,body ρ' st=.bk r s/\gH P (fz r s))):gH P (aW (gn fi f body) fz ρ st):=by
 have:=vQ (f:=f) (body:=body) (ck:=kw.2) I (Pr:=fun r=>(∃v s,r=.rt v s/\P (.rt v s))\/(∃c q s,r=.ex c q s/\P (.ex c q s))\/∃q s,r=.nx q s/\gH P (fz q s)) (ws:=kw.1) (ρ:=ρ) (st:=st1) 0 k w hw h0 hc (fun i w ρ st hi hw hI=>by
  rw[gm]at hI ⊢
  obtain⟨ρ',e1,ρ2,st2,e2,h2⟩:=hs i w ρ st hi hw hI
  exact⟨ρ',ρ2,st2,e1,e2,h2⟩) (fun ρ st hI=>by
  rw[gm]at hI
  obtain⟨ρ',e1,h⟩:=hx ρ st hI
  refine⟨ρ',e1,?_⟩
  rcases h with⟨v,s,e,p⟩|⟨c,r,s,e,p⟩|⟨r,s,e,p⟩
  ·exact .inl ⟨v,s,e,.inl ⟨_,_,rfl,p⟩⟩
  ·exact .inr (.inl ⟨c,r,s,e,.inr (.inl ⟨_,_,_,rfl,p⟩)⟩)
  ·exact .inr (.inr ⟨r,s,e,.inr (.inr ⟨_,_,rfl,p⟩)⟩))
 rw[<- wI h]at this
 rcases this with⟨v,s,e,p⟩|⟨c,r,s,e,p⟩|⟨r,s,e,p⟩
 ·rw[Aw e];exact p
 ·exact ua e p
 ·exact aH e p
def uZ(n a k:Nat):Bool:=decide (a/2^(n-1-k)%2=1)
def xN(nm:List Nat)(a:Nat):List Nat:=((List.range nm.length).filter (uZ nm.length a)).map fun k=>nm.getD k 0
def Hv(nm:List Nat)(a i:Nat):List Nat:=((List.range' (nm.length-i) i).filter (uZ nm.length a)).map fun k=>nm.getD k 0
theorem Jf(m:Nat):Builtin.bitAnd (m:Int) 1=((m%2:Nat):Int):=by
 unfold Builtin.bitAnd
 rw[a_ (by omega),a_ (by omega)]
 show((((m:Int).toNat &&& 1:Nat)):Int)=_
 rw[a6,Nat.and_one_is_mod]
theorem xa{m:Nat}{st:List am}:yh (.int (m:Nat)) (.int 1) st=.ok (.int ((m%2:Nat):Int)) st:=by
 rw[<- Jf];exact gF trivial
theorem Gj{a c:Nat}{st:List am}:yg (.int (a:Nat)) (.int (c:Nat)) st=.ok (.int ((a/2^c:Nat):Int)) st:=by
 have:=gF (C:=fun(_ j:Int)=>0<=j) (f:=fun i j=>i/2^j.toNat) (p:=(a:Int)) (q:=(c:Int)) (st:=st) (by omega)
 rw[show yg (.int (a:Nat)) (.int (c:Nat)) st=_ from this,a6]
 simp
theorem Gk(nm:List Nat)(a i:Nat)(hi:i<nm.length):Hv nm a (i+1)=(if a/2^i%2=1 then[nm.getD (nm.length-1-i) 0]else[])++Hv nm a i:=by
 unfold Hv
 rw[List.range'_succ,show nm.length-(i+1)+1=nm.length-i by omega,cI]
 have e:uZ nm.length a (nm.length-(i+1))=decide (a/2^i%2=1):=by unfold uZ;rw[show nm.length-1-(nm.length-(i+1))=i by omega]
 rw[e,show nm.length-(i+1)=nm.length-1-i by omega]
 by_cases h:a/2^i%2=1
 ·simp[h]
 ·simp[h]
theorem BX(nm:List Nat)(a:Nat):Hv nm a nm.length=xN nm a:=by
 unfold Hv xN;rw[mz,List.range_eq_range']
theorem BY(nm:List Nat)(a i:Nat):(Hv nm a i).length<=i:=by
 unfold Hv
 rw[az]
 exact a7 (ej _ _) (by simp)
theorem Jg(nm:List Nat)(a:Nat):(xN nm a).length<=nm.length:=by rw[<- BX];exact BY nm a _
theorem Gm(nm:List Nat)(a:Nat)(hn:nm.length<=60)(st:List am):C_ [.str nm,.int (a:Nat)] st=.ok (.str (xN nm a)) st:=by
 refine fZ (N:=5) (ws:=[.str nm,.int (a:Nat)]) (body:=PH) ?_ rfl
 apply aH
 ·(walk_at "evs")
 apply aH
 ·(walk_at "evs")
 refine dO (fun i ρ s=>∃o:Option W,ρ=[some (.str nm),some (.int (a:Nat)),some (.str (Hv nm a i)),some (.int ((a/2^i:Nat):Int)),o]/\s=st) (k:=(nw nm.reverse,none)) (st1:=st)
  (by unfold Aq;rw[show ai (ah 0) aD _ st=.ok [.str nm] st from rfl];simp only[R.bind_ok];rw[aB (by omega)]) ⟨none,by rw[Nat.pow_zero,Nat.div_one];rfl,rfl⟩ (fun _ _ _ _=>trivial) ?_ ?_
 ·rintro i w ρ s hw ⟨o,rfl,rfl⟩
  unfold nw at hw
  rw[ax]at hw
  have hi:i<nm.length:=by
   rcases cx i nm.length with z|z
   ·exact z
   ·rw[bO (by simpa using z)]at hw;cases hw
  rw[fx hi,ae (by omega)]at hw
  have hw:some (W.str [nm[nm.length-1-i]])=some w:=hw
  cases hw
  have hg:nm[nm.length-1-i]'(by omega)=nm.getD (nm.length-1-i) 0:=by rw[aG,ae (by omega)];rfl
  have hl:=BY nm a i
  have hnext:∀m:List Nat,m=Hv nm a (i+1)->gH (E9 fun ρ s'=>∃o:Option W,ρ=[some (.str nm),some (.int (a:Nat)),some (.str (Hv nm a (i+1))),some (.int ((a/2^(i+1):Nat):Int)),o]/\s'=s) (bH 3 (e2 yg (ah 3) (eI 1)) [some (.str nm),some (.int (a:Nat)),some (.str m),some (.int ((a/2^i:Nat):Int)),some (.str [nm[nm.length-1-i]])] s):=fun m hm=>by
   subst hm
   refine⟨_,_,bS (bc (ag rfl) bD (Gj (c:=1))),some (.str [nm[nm.length-1-i]]),?_,rfl⟩
   rw[Nat.div_div_eq_div_mul,<- Nat.pow_add];rfl
  refine⟨_,rfl,?_⟩
  have nM:=Gk nm a i hi
  by_cases hb:a/2^i%2=1
  ·rw[aB hb]at nM
   apply e_
   ·exact bR (bc (bc (ag rfl) bD xa) bD (fY (by rw[hb];rfl)))
   apply aH
   ·exact bS (bc (ag rfl) (ag rfl) (Ax (by simp only[bf,cQ];show _<=1000000;omega)))
   exact hnext _ (by rw[nM,hg])
  ·rw[aE hb]at nM
   apply bG
   ·exact bR (bc (bc (ag rfl) bD xa) bD (fY (by rw[aS];omega)))
   apply bY
   exact hnext _ (by rw[nM];rfl)
 ·rintro ρ s ⟨o,rfl,rfl⟩
  refine cB (ag rfl) ⟨_,_,rfl,?_,[],by simp⟩
  rw[show(nw nm.reverse).length=nm.length by simp[nw],BX]
theorem zc{n:Nat}(h:n<=100)(st:List am):yN [.int n] st=.ok .non st:=by
 have d1:decide ((100:Int)<(n:Int))=false:=aU (by omega)
 refine E_ (N:=1) (ws:=[.int n]) (body:=FU) ?_
 simp only[FU,jf]
 apply f'
 ·(walk_at "evs")
 apply et
 ·(walk_at "evs")
 ·exact⟨_,_,rfl,[],by simp⟩
theorem Jh{n:Nat}(h:100<n)(st:List am):yN [.int n] st=.ex "TooGreat" st:=by
 have d1:decide ((100:Int)<(n:Int))=true:=a_ (by omega)
 refine wK (N:=1) (ws:=[.int n]) (body:=FU) ?_
 simp only[FU,jf]
 apply jp
 ·(walk_at "evs")
 apply C7
 exact⟨_,_,rfl,[],by simp⟩
def P6(tl tr:List W):Nat:=(if tl.length=0 then 0 else 1)+(if tr.length=0 then 0 else 2)
def jn(nm:List Nat)(tl tr:List W)(a:Nat):List W:=tl++tr++[.tup [.int (P6 tl tr:Nat),.str (xN nm a)]]
theorem uq(nm:List Nat)(tl tr:List W)(a:Nat):(jn nm tl tr a).length=tl.length+tr.length+1:=by simp[jn];omega
theorem re(n:Nat):∀a b:List W,undWs n (a++b)=(undWs n a&&undWs n b)
 |[],b=>by simp[undWs]
 |x::a,b=>by simp only[List.cons_append,undWs,re n a b,Bool.and_assoc]
theorem rf(nm:List Nat){tl tr:List W}(a n:Nat)(h1:undWs n tl=true)(h2:undWs n tr=true):undWs n (jn nm tl tr a)=true:=by
 unfold jn;rw[re,re,h1,h2];simp[undWs,W.und]
theorem Ng(nm:List Nat)(tl tr:List W)(a:Nat)(hl:tl.length+tr.length<=100)(h1:∀n,undWs n tl=true)(h2:∀n,undWs n tr=true)(st:List am):FV [.tup tl,.tup tr,.str (xN nm a)] st=.ok (.tup (jn nm tl tr a)) st:=by
 refine fZ (N:=4) (ws:=[.tup tl,.tup tr,.str (xN nm a)]) (body:=PN) ?_ (by simp only[undWs,bL];unfold W.und;exact rf nm a _ (h1 _) (h2 _))
 apply aH
 ·(walk_at "evs")
 refine kM (fun ρ s=>ρ=[some (.tup tl),some (.tup tr),some (.str (xN nm a)),some (.int ((if tl.length=0 then 0 else 1:Nat):Int))]/\s=st) ?_ ?_
 ·by_cases z:tl.length=0
  ·apply f'
   ·exact bR (bc (bA (aj (ag rfl) aF) gc) bD (iJ (k:=false) (by rw[z];rfl)))
   ·exact⟨_,_,rfl,by rw[aB z];rfl,rfl⟩
  ·apply jp
   ·exact bR (bc (bA (aj (ag rfl) aF) gc) bD (iJ (k:=true) (a_ (by omega))))
   ·exact⟨_,_,bS (bc (ag rfl) bD cU),by rw[aE z];rfl,rfl⟩
 ·rintro ρ s ⟨rfl,rfl⟩
  refine kM (fun ρ s'=>ρ=[some (.tup tl),some (.tup tr),some (.str (xN nm a)),some (.int (P6 tl tr:Nat))]/\s'=s) ?_ ?_
  ·unfold P6
   by_cases z:tr.length=0
   ·apply f'
    ·exact bR (bc (bA (aj (ag rfl) aF) gc) bD (iJ (k:=false) (by rw[z];rfl)))
    ·exact⟨_,_,rfl,by rw[aB z];rfl,rfl⟩
   ·apply jp
    ·exact bR (bc (bA (aj (ag rfl) aF) gc) bD (iJ (k:=true) (a_ (by omega))))
    ·refine⟨_,_,bS (bc (ag rfl) bD cU),?_,rfl⟩
     rw[aE z,gq];rfl
  ·rintro ρ s' ⟨rfl,rfl⟩
   refine cB (bc (bc (ag rfl) (ag rfl) (ub (by rw[aK];show _<=1000000;omega))) (fj (aj (fj (aj (ag rfl) (aj (ag rfl) aF)) (aq rfl)) aF) (aq rfl)) (ub (by simp only[aK,bf,cQ];show _<=1000000;omega))) ⟨_,_,rfl,rfl,[],by simp⟩
theorem Di(nm:List Nat)(tl tr:List W)(a:Nat)(hl:tl.length+tr.length+1<=100)(h1:∀n,undWs n tl=true)(h2:∀n,undWs n tr=true)(st:List am):Db [.tup tl,.tup tr,.str (xN nm a)] st=.ok (.tup (jn nm tl tr a)) st:=by
 refine fZ (N:=3) (ws:=[.tup tl,.tup tr,.str (xN nm a)]) (body:=PQ) ?_ (by simp only[undWs,bL];unfold W.und;exact rf nm a _ (h1 _) (h2 _))
 have e1:=zc (n:=tl.length+tr.length+1) hl st
 have e2:((tl.length+tr.length+1:Nat):Int)=(tl.length:Int)+(tr.length:Int)+1:=by omega
 rw[e2]at e1
 apply aH
 ·exact fC (cA (aj (bc (bc (bA (aj (ag rfl) aF) gc) (bA (aj (ag rfl) aF) gc) cU) bD cU) aF) e1 rfl)
 exact cB (cA (aj (ag rfl) (aj (ag rfl) (aj (ag rfl) aF))) (Ng nm tl tr a (by omega) h1 h2 st) rfl) ⟨_,_,rfl,rfl,[],by simp⟩
def ut(nm:List Nat)(T:List (List W))(i:Nat)(e:Ro)(t:List W):Prop:=t.length=e.2.s/\(∀n,undWs n t=true)/\((i=0/\t=[])\/(0<i/\∃tl tr,T[e.2.l]?=some tl/\T[e.2.r]?=some tr/\(∀n,undWs n tl=true)/\(∀n,undWs n tr=true)/\t=jn nm tl tr e.2.a))
structure rZ(nm:List Nat)(E:List Ro)(T:List (List W)):Prop where
 len:T.length=E.length
 at':∀(i:Nat) (e:Ro),E[i]?=some e->∃t,T[i]?=some t/\ut nm T i e t
theorem Gn{Tb:Nat->Nat->Nat->Nat}{L N:Nat}{E:List Ro}(nm:List Nat)(h:g9 Tb L N E):∃T,rZ nm E T:=by
 have key:∀n,n<=E.length->∃T:List (List W),T.length=n/\∀(i:Nat) (e:Ro),i<n->E[i]?=some e->∃t,T[i]?=some t/\ut nm T i e t:=by
  intro n
  induction n with
  |zero=>intro _;exact⟨[],rfl,fun i e hi=>absurd hi (bz _)⟩
  |succ n ih=>
   intro hn
   obtain⟨T,hl,hT⟩:=ih (by omega)
   have mono:∀(x:List W) (i:Nat) (e:Ro) (t:List W),ut nm T i e t->ut nm (T++[x]) i e t:=fun x i e t ⟨a,b,c⟩=>⟨a,b,by
    rcases c with c|⟨c0,tl,tr,c1,c2,c3⟩
    ·exact .inl c
    ·exact .inr ⟨c0,tl,tr,by rw[av (aa.mp c1).1];exact c1,by rw[av (aa.mp c2).1];exact c2,c3⟩⟩
   have he:E[n]?=some E[n]:=ae (by omega)
   suffices hx:∃x,ut nm (T++[x]) n E[n] x by
    obtain⟨x,hx⟩:=hx
    refine⟨T++[x],by simp[hl],fun i e hi hie=>?_⟩
    rcases cx i n with z|z
    ·obtain⟨t,ht,h2⟩:=hT i e z hie
     exact⟨t,by rw[av (by omega)];exact ht,mono x _ _ _ h2⟩
    ·obtain rfl:i=n:=by omega
     rw[he]at hie;cases hie
     exact⟨x,by rw[<- hl,bn],hx⟩
   cases n with
   |zero=>
    obtain⟨r,hr⟩:=h.zero
    refine⟨[],?_,fun _=>rfl,.inl ⟨rfl,rfl⟩⟩
    have:E[0]=(0,⟨0,0,0,0⟩):=by simp only[hr,mB]
    rw[this];rfl
   |succ n=>
    obtain⟨hl1,hr1,el,er,e1,e2,_,_,hs⟩:=h.row (n+1) _ he (by omega)
    obtain⟨tl,Dy,s1,u1,_⟩:=hT _ _ hl1 e1
    obtain⟨tr,ht2,s2,u2,_⟩:=hT _ _ hr1 e2
    refine⟨jn nm tl tr E[n+1].2.a,?_,fun m=>rf nm _ m (u1 m) (u2 m),.inr ⟨by omega,tl,tr,?_,?_,u1,u2,rfl⟩⟩
    ·rw[uq,s1,s2,hs]
    ·rw[av (by omega)];exact Dy
    ·rw[av (by omega)];exact ht2
 obtain⟨T,h1,h2⟩:=key E.length (ay _)
 exact⟨T,h1,fun i e he=>h2 i e (aa.mp he).1 he⟩
abbrev rg(l:List (Ro×List W)):List (DK×W):=dI (fun p:Ro×List W=>p.1.1) (fun p=>W.tup p.2) l
theorem zd(nm:List Nat){E:List Ro}{T:List (List W)}(h:rZ nm E T):(E.zip T).map (fun p:Ro×List W=>p.1.1)=E.map Prod.fst:=by
 have e:(E.zip T).map (fun p:Ro×List W=>p.1.1)=((E.zip T).map Prod.fst).map Prod.fst:=by rw[bx];rfl
 rw[e,List.map_fst_zip (by rw[h.len];exact ay _)]
theorem pE{nm:List Nat}{E:List Ro}{T:List (List W)}(h:rZ nm E T){i:Nat}{e:Ro}{t:List W}(he:E[i]?=some e)(ht:T[i]?=some t):(E.zip T)[i]?=some (e,t):=by
 rw[ei];exact⟨he,ht⟩
theorem oU{l:List Ro}(h:(l.map Prod.fst).Nodup){i j:Nat}{e f:Ro}(hi:l[i]?=some e)(hj:l[j]?=some f)(kE:i<j):e.1≠f.1:=by
 obtain⟨a1,a2⟩:=aa.mp hi
 obtain⟨b1,b2⟩:=aa.mp hj
 have:=g7.mp h i j (by simpa using a1) (by simpa using b1) kE
 rw[dM,dM,a2,b2]at this
 exact this
section
variable{M:Mc}{N:Nat}{E:List Ro}{R:List W}{T:List (List W)}{st:List am}
theorem Gp(hM:sH M N)(uD:M.nm.length<=60)(hN:N<=100)(hT:g9 (cC M) M.tb.length N E)(hR:Rows E R)(hE:rZ M.nm E T){i:Nat}{e:Ro}{t:List W}(he:E[i]?=some e)(ht:T[i]?=some t)(hs:e.2.s<=100) :
  FW [M.w,.tup R,.int (e.1:Nat)] st=.ok (.tup t) st:=by
 have cR:=hT.len
 obtain⟨t',ht',hta⟩:=hE.at' i e he
 rw[ht]at ht';cases ht'
 refine fZ (N:=6) (ws:=[M.w,.tup R,.int (e.1:Nat)]) (body:=PZ) ?_ (by simp only[undWs,bL];unfold W.und;exact hta.2.1 _)
 apply aH
 ·exact bS w_
 obtain⟨w,hw,ro⟩:=hR.at' i e he
 have hz1:rg ((E.zip T).take 1)=[(DK.i 0,W.tup [])]:=by
  obtain⟨r,hr⟩:=hT.zero
  obtain⟨t0,h0,_,_,h1|⟨h1,_⟩⟩:=hE.at' 0 (0,⟨0,0,0,0⟩) (by rw[hr];rfl)
  ·obtain⟨_,rfl⟩:=h1
   cases T with
   |nil=>cases h0
   |cons x T=>cases h0;rw[hr];rfl
  ·exact absurd h1 (bo _)
 rw[<- hz1]
 have DF:∀n,(((E.zip T).take n).map (fun p:Ro×List W=>p.1.1)).Nodup:=fun n=>by
  rw[ie,zd M.nm hE]
  exact fw (gB _ _) hT.nd
 have fin:∀n (o4 o5:Option W),i<n->gH (uI fun w' bI=>w'=.tup t/\∃x,bI=st++x) (dk (e2 jx (ah 3) (ah 2)) [some M.w,some (.tup R),some (.int (e.1:Nat)),some (.loc st.length),o4,o5] (st++[.dct (rg ((E.zip T).take n))])):=fun n o4 o5 hn=>by
  refine cB (bc (ag rfl) (ag rfl) (jI (w:=.tup t) (fK (by rw[dS];rfl)) ?_)) ⟨_,_,rfl,rfl,_,rfl⟩
  exact uk (f:=fun p:Ro×List W=>p.1.1) (g:=fun p=>W.tup p.2) (a:=(e,t)) (DF n) (aA (i:=i) (by rw[aN hn];exact pE hE he ht))
 have step:∀(j:Nat) (f:Ro) (v:W) (o4 o5:Option W),j<=i->E[j]?=some f->R[j]?=some v->∃NL,(aW (hV (eZ (e2 yi (bh de (ai (e2 bC (ah 4) (eI 2)) aD)) (eI 0))) (aW (bH 5 (dq 2 C_ (ai (e2 bC (ah 0) (eI 0)) (ai (e2 bC (e2 bC (ah 4) (eI 2)) (eI 2)) aD)))) (nu (ah 3) (e2 bC (ah 4) (eI 0)) (dq 3 Db (ai (e2 jx (ah 3) (e2 bC (e2 bC (ah 4) (eI 2)) (eI 0))) (ai (e2 jx (ah 3) (e2 bC (e2 bC (ah 4) (eI 2)) (eI 1))) (ai (ah 5) aD)))) mJ)) cK) (hV (eZ (e2 jY (e2 bC (ah 4) (eI 0)) (ah 2))) wm cK)) [some M.w,some (.tup R),some (.int (e.1:Nat)),some (.loc st.length),some v,o5] (st++[.dct (rg ((E.zip T).take (max j 1)))])
   = (if f.1=e.1 then RS.bk else RS.nx) [some M.w,some (.tup R),some (.int (e.1:Nat)),some (.loc st.length),some v,NL] (st++[.dct (rg ((E.zip T).take (j+1)))]):=by
  intro j f v o4 o5 hj hf hv
  obtain⟨v',hv',rv⟩:=hR.at' j f hf
  rw[hv]at hv';cases hv'
  obtain⟨tv,rfl⟩:=rv.sh
  have tail:∀(NL:Option W) (s:List am),hV (eZ (e2 jY (e2 bC (ah 4) (eI 0)) (ah 2))) wm cK [some M.w,some (.tup R),some (.int (e.1:Nat)),some (.loc st.length),some (.tup [.int (f.1:Nat),.int (f.2.s:Nat),tv]),NL] s=(if f.1=e.1 then RS.bk else RS.nx) [some M.w,some (.tup R),some (.int (e.1:Nat)),some (.loc st.length),some (.tup [.int (f.1:Nat),.int (f.2.s:Nat),tv]),NL] s:=fun NL s=>by
   by_cases z:f.1=e.1
   ·rw[aB z]
    exact nC (bR (bc (bc (ag rfl) bD (cn rfl)) (ag rfl) (fY (by rw[cz];omega)))) rfl
   ·rw[aE z]
    exact qS (bR (bc (bc (ag rfl) bD (cn rfl)) (ag rfl) (fY (by rw[aS];omega)))) rfl
  rcases rv with⟨rfl,hz⟩|⟨h0,el,er,q1,q2,hz⟩
  ·have hz:W.tup [.int (f.1:Nat),.int (f.2.s:Nat),tv]=.tup [.int (f.1:Nat),.int (f.2.s:Nat),.tup []]:=hz
   injection hz with hz
   injection hz with _ hz
   injection hz with _ hz
   injection hz with hz _
   subst hz
   refine⟨o5,?_⟩
   refine rR (qS (bR (bc (bA (aj (bc (ag rfl) bD (cn rfl)) aF) gc) bD (iJ rfl))) E3) ?_
   exact tail _ _
  ·injection hz with hz
   injection hz with _ hz
   injection hz with _ hz
   injection hz with hz _
   subst hz
   obtain⟨tf,htf,hl,hu,h1|⟨_,tl,tr,r1,r2,u1,u2,hj3⟩⟩:=hE.at' j f hf
   ·omega
   obtain⟨hl1,hr1,el',er',q1',q2',ha,hTe,hss⟩:=hT.row _ _ hf h0
   have hsz:f.2.s<=e.2.s:=hT.mono (i-j) j f e hf (by rw[show j+(i-j)=i by omega];exact he)
   have hjl:tl.length+tr.length+1<=100:=by
    have:=uq M.nm tl tr f.2.a
    rw[<- hj3,hl]at this;omega
   have hmx:max j 1=j:=by omega
   rw[hmx]
   have hd:(st++[am.dct (rg ((E.zip T).take j))])[st.length]?=some (.dct (rg ((E.zip T).take j))):=by rw[dS];rfl
   have gl:hX (rg ((E.zip T).take j)) (.i (el.1:Nat))=some (.tup tl):=uk (f:=fun p:Ro×List W=>p.1.1) (g:=fun p=>W.tup p.2) (a:=(el,tl)) (DF j) (aA (i:=f.2.l) (by rw[aN hl1];exact pE hE q1 r1))
   have gr:hX (rg ((E.zip T).take j)) (.i (er.1:Nat))=some (.tup tr):=uk (f:=fun p:Ro×List W=>p.1.1) (g:=fun p=>W.tup p.2) (a:=(er,tr)) (DF j) (aA (i:=f.2.r) (by rw[aN hr1];exact pE hE q2 r2))
   have hn:f.1∉((E.zip T).take j).map (fun p:Ro×List W=>p.1.1):=by
    have h1:=DF (j+1)
    rw[dZ,pE hE hf htf,bu,fQ]at h1
    intro z
    exact h1.2.2 _ z _ (by simp) rfl
   refine⟨some (.str (xN M.nm f.2.a)),?_⟩
   refine rR (nC (bR (bc (bA (aj (bc (ag rfl) bD (cn rfl)) aF) gc) bD (iJ rfl))) (rR (bS (cA (aj (bc (ag rfl) bD (cn rfl)) (aj (bc (bc (ag rfl) bD (cn rfl)) bD (cn rfl)) aF)) (Gm M.nm f.2.a uD _) rfl))
    (mK (cA (aj (bc (ag rfl) (bc (bc (ag rfl) bD (cn rfl)) bD (cn rfl)) (jI (fK hd) gl)) (aj (bc (ag rfl) (bc (bc (ag rfl) bD (cn rfl)) bD (cn rfl)) (jI (fK hd) gr)) (aj (ag rfl) aF))) (Di M.nm tl tr f.2.a hjl u1 u2 _) rfl) (ag rfl) (bc (ag rfl) bD (cn rfl)) (q_ (q:=f.1) hd (by rw[lY,bb];have:=(aa.mp hf).1;show _<1000000;omega))))) ?_
   rw[fF,<- hj3,show p9 (rg ((E.zip T).take j)) (.i (f.1:Nat)) (W.tup tf)=rg ((E.zip T).take (j+1))from ?_]
   ·exact tail _ _
   ·rw[dZ,pE hE hf htf]
    exact q9 (f:=fun p:Ro×List W=>p.1.1) (g:=fun p=>W.tup p.2) (a:=(f,tf)) hn
 refine uo (fun j ρ s=>j<=i/\∃o4 o5:Option W,ρ=[some M.w,some (.tup R),some (.int (e.1:Nat)),some (.loc st.length),o4,o5]/\s=st++[.dct (rg ((E.zip T).take (max j 1)))]) (kw:=(R,none)) (st1:=st++[.dct (rg ((E.zip T).take 1))]) i w (jQ (ag rfl)) hw ⟨b_ _,none,none,rfl,rfl⟩ (fun _ _ _ _=>trivial) ?_ ?_
 ·rintro j v ρ s hj hv ⟨_,o4,o5,rfl,rfl⟩
  have hjl:j<E.length:=by rw[<- hR.len];exact(aa.mp hv).1
  have hf:E[j]?=some E[j]:=ae hjl
  obtain⟨NL,e1⟩:=step j E[j] v o4 o5 (by omega) hf hv
  have oz:E[j].1≠e.1:=oU hT.nd hf he hj
  rw[aE oz]at e1
  exact⟨_,rfl,_,_,e1,by omega,_,_,rfl,by rw[show max (j+1) 1=j+1 by omega]⟩
 ·rintro ρ s ⟨_,o4,o5,rfl,rfl⟩
  obtain⟨NL,e1⟩:=step i e w o4 o5 (ay _) he hw
  rw[aB rfl]at e1
  exact⟨_,rfl,.inr (.inr ⟨_,_,e1,fin (i+1) _ _ (by omega)⟩)⟩
theorem Ji(hM:sH M N)(uD:M.nm.length<=60)(hN:N<=100)(hT:g9 (cC M) M.tb.length N E)(hR:Rows E R)(hE:rZ M.nm E T){i:Nat}{e:Ro}{t:List W}{w:W}(he:E[i]?=some e)(ht:T[i]?=some t)(hw:R[i]?=some w) :
  Dd [M.w,.tup R,w] st=if e.2.s<=100 then .ok (.tup t) st else .ex "TooGreat" st:=by
 obtain⟨t',ht',hta⟩:=hE.at' i e he
 rw[ht]at ht';cases ht'
 obtain⟨w',hw',ro⟩:=hR.at' i e he
 rw[hw]at hw';cases hw'
 obtain⟨tv,rfl⟩:=ro.sh
 by_cases hs:e.2.s<=100
 ·rw[aB hs]
  refine fZ (N:=3) (ws:=[M.w,.tup R,.tup [.int (e.1:Nat),.int (e.2.s:Nat),tv]]) (body:=MA) ?_ (by simp only[undWs,bL];unfold W.und;exact hta.2.1 _)
  apply aH
  ·exact fC (cA (aj (bc (ag rfl) bD (cn rfl)) aF) (zc hs st) rfl)
  exact cB (cA (aj (ag rfl) (aj (ag rfl) (aj (bc (ag rfl) bD (cn rfl)) aF))) (Gp hM uD hN hT hR hE he ht hs) rfl) ⟨_,_,rfl,rfl,[],by simp⟩
 ·rw[aE hs]
  refine wK (N:=3) (ws:=[M.w,.tup R,.tup [.int (e.1:Nat),.int (e.2.s:Nat),tv]]) (body:=MA) ?_
  exact ua (C8 (t_ (aj (bc (ag rfl) bD (cn rfl)) aF) (Jh (by omega) st) rfl)) ⟨_,_,rfl,[],by simp⟩
end
structure u0(T:Nat->Nat->Nat->Nat)(L N:Nat)(E:List Ro):Prop where
 told:g9 T L N E
 cov:∀l r a,l<E.length->r<E.length->a<L->F_ T E [] l r a
section
variable{T:Nat->Nat->Nat->Nat}{L N:Nat}{E E':List Ro}
theorem g9.up(h:g9 T L N E):∀(k i:Nat) (e f:Ro),E[i]?=some e->E[i+k]?=some f->¬ f.2.lt e.2
 |0,i,e,f,h1,h2=>by rw[ml,h1]at h2;cases h2;exact Wy.irr _
 |k+1,i,e,f,h1,h2=>by
  have hk:i+k<E.length:=by have:=(aa.mp h2).1;omega
  have e1:E[i+k]?=some E[i+k]:=ae hk
  have a:=h.up k i e _ h1 e1
  have b:=h.rise (i+k) _ f e1 (by rw[<- h2];congr 1)
  exact fun z=>a (Wy.trans b z)
theorem u0.least(h:u0 T L N E){i:Nat}(hi:0<i){l r a:Nat}{el er:Ro}(h1:E[l]?=some el)(h2:E[r]?=some er)(hl:l<i)(hr:r<i)(ha:a<L)(hn:T a el.1 er.1∉(E.take i).map Prod.fst) :
  ∃e,E[i]?=some e/\¬ (lr l r a el er).lt e.2:=by
 rcases h.cov l r a (aa.mp h1).1 (aa.mp h2).1 ha el er h1 h2 with⟨m,f,hm,e1,e2⟩|⟨p,hp,_⟩
 ·have hmi:i<=m:=by
   rcases cx m i with z|z
   ·exact(hn (e1▸aL.mpr ⟨f,aA (i:=m) (by rw[aN z];exact hm),rfl⟩)).elim
   ·exact z
  have hil:i<E.length:=by have:=(aa.mp hm).1;omega
  have he:E[i]?=some E[i]:=ae hil
  have:=h.told.up (m-i) i _ f he (by rw[show i+(m-i)=m by omega];exact hm)
  exact⟨_,he,fun z=>e2 (Wy.ge z this)⟩
 ·cases hp
theorem Gq(h:g9 T L N E){i:Nat}{e:Ro}(he:E[i]?=some e):e.1∉(E.take i).map Prod.fst:=fun z=>by
 obtain⟨f,hf,e1⟩:=aL.mp z
 obtain⟨j,hj⟩:=br hf
 have hji:j<i:=by have:=(aa.mp hj).1;rw[bb]at this;omega
 rw[aN hji]at hj
 exact oU h.nd hj he hji e1
theorem rh(h:u0 T L N E)(h':u0 T L N E'){i:Nat}(e0:E.take i=E'.take i){e:Ro}(hi:0<i)(he:E[i]?=some e):∃e',E'[i]?=some e'/\¬ e.2.lt e'.2:=by
 obtain⟨hl,hr,el,er,h1,h2,ha,hT,hs⟩:=h.told.row i e he hi
 have t1:E'[e.2.l]?=some el:=by rw[<- h1,<- aN hl,<- e0,aN hl]
 have t2:E'[e.2.r]?=some er:=by rw[<- h2,<- aN hr,<- e0,aN hr]
 obtain⟨e',h3,h4⟩:=h'.least hi t1 t2 hl hr ha (by rw[hT,<- e0];exact Gq h.told he)
 refine⟨e',h3,fun z=>h4 ?_⟩
 rw[show lr e.2.l e.2.r e.2.a el er=e.2 by rw[lr,<- hs]]
 exact z
theorem u0.uniq(h:u0 T L N E)(h':u0 T L N E'):E=E':=by
 have key:∀n,E.take n=E'.take n:=by
  intro n
  induction n with
  |zero=>simp
  |succ n ih=>
   rw[dZ,dZ,ih]
   congr 2
   cases n with
   |zero=>
    obtain⟨r,hr⟩:=h.told.zero
    obtain⟨r',hr'⟩:=h'.told.zero
    rw[hr,hr'];rfl
   |succ n=>
    cases e1:E[n+1]? with
    |none=>
     cases e2:E'[n+1]? with
     |none=>rfl
     |some e'=>
      obtain⟨e,h3,_⟩:=rh h' h ih.symm (by omega) e2
      rw[e1]at h3;cases h3
    |some e=>
     obtain⟨e',h3,h4⟩:=rh h h' ih (by omega) e1
     obtain⟨e'',h5,h6⟩:=rh h' h ih.symm (by omega) h3
     rw[e1]at h5;cases h5
     obtain⟨hl,hr,el,er,a1,a2,_,a4,a5⟩:=h.told.row _ _ e1 (by omega)
     obtain⟨xO,hr',el',er',b1,b2,_,b4,b5⟩:=h'.told.row _ _ h3 (by omega)
     rw[h3]
     have hw:=Wy.tri h4 h6
     obtain⟨q,w⟩:=e
     obtain⟨q',w'⟩:=e'
     obtain rfl:w=w':=hw
     simp only at a1 a2 a4 b1 b2 b4 hl hr
     rw[<- aN hl,ih,aN hl,b1]at a1
     rw[<- aN hr,ih,aN hr,b2]at a2
     cases a1;cases a2
     rw[<- a4,<- b4]
 have:=key (max E.length E'.length)
 rw[cL (by omega),cL (by omega)]at this
 exact this
end
theorem Rows.uniq{E:List Ro}{R R':List W}(h:Rows E R)(h':Rows E R'):R=R':=by
 refine gE fun i=>?_
 by_cases hi:i<E.length
 ·obtain⟨w,hw,ro⟩:=h.at' i _ (ae hi)
  obtain⟨w',hw',ro'⟩:=h'.at' i _ (ae hi)
  rw[hw,hw']
  rcases ro with⟨z,rfl⟩|⟨z,el,er,a,b,rfl⟩<;>rcases ro' with⟨z',rfl⟩|⟨z',el',er',a',b',rfl⟩
  ·rfl
  ·omega
  ·omega
  ·rw[a]at a';rw[b]at b';cases a';cases b';rfl
 ·rw[bO (by rw[h.len];omega),bO (by rw[h'.len];omega)]
structure All(M:Mc)(N:Nat)(E:List Ro)(R:List W)(T:List (List W)):Prop where
 ok:sH M N
 n1:1<=N
 n9:N<=100
 nm:M.nm.length<=6
 full:u0 (cC M) M.tb.length N E
 rows:Rows E R
 trees:rZ M.nm E T
theorem All.lam{M:Mc}{N:Nat}{E:List Ro}{R:List W}{T:List (List W)}(A:All M N E R T){st:List am}(ht:st[1]?=some (.tab 177 ⟨64,29,64,52⟩ "firsts_of.<locals>.<lambda>")):uf [M.w] st=.ok (.tup R) st:=by
 obtain⟨E',R',t1,t2,t3,e⟩:=vP (st:=st) A.ok A.n1 A.n9 ht
 have hE:=A.full.uniq ⟨t1,t3⟩
 subst hE
 rw[A.rows.uniq t2];exact e
theorem Gr{M:Mc}{N:Nat}(h1:sH M N)(h2:1<=N)(h3:N<=100)(h4:M.nm.length<=6):∃E R T,All M N E R T:=by
 obtain⟨E,R,t1,t2,t3,_⟩:=vP (st:=[.ro [],.tab 177 ⟨64,29,64,52⟩ "firsts_of.<locals>.<lambda>"]) h1 h2 h3 rfl
 obtain⟨T,hT⟩:=Gn M.nm t1
 exact⟨E,R,T,h1,h2,h3,h4,⟨t1,t3⟩,t2,hT⟩
theorem iN{ws:List W}{k:Nat}{st:List am}(hl:ws.length<=1000)(h:∀w∈ws,gp k [w,w] st=.ok (.bl true) st):gp (k+1) [.tup ws,.tup ws] st=.ok (.bl true) st:=by
 refine fZ (N:=3) (ws:=[.tup ws,.tup ws]) (body:=vJ (gp k)) ?_ rfl
 apply e_
 ·(walk_at "evs")
 apply om
 apply bG
 ·apply gA
  ·(walk_at "evs")
  ·(walk_at "evs")
   simp
 apply bY
 apply om
 refine dO (fun i ρ bI=>∃o,ρ=[some (.tup ws),some (.tup ws),o]/\bI=st) (df (by(walk_at "evs")) (by omega)) ⟨none,rfl,rfl⟩ (fun _ _ _ _=>trivial) ?_ ?_
 ·rintro i w ρ bI hw ⟨o,rfl,rfl⟩
  obtain⟨hi,rfl⟩:=du hw
  refine⟨_,rfl,?_⟩
  have hi':i<ws.length:=by simpa using hi
  have hat:bC (.tup ws) (.int (0+(i:Int))) bI=.ok ws[i] bI:=cn (by rw[eB];exact d6 (by simp[hi']))
  have hs:=h ws[i] (f9 _)
  apply f'
  ·(walk_at "evs")
  apply et
  ·(walk_at "evs")
  ·exact⟨_,_,rfl,_,rfl,rfl⟩
 ·rintro ρ bI ⟨o,rfl,rfl⟩
  apply fJ
  ·(walk_at "evs")
  ·exact⟨_,_,rfl,rfl,[],by simp⟩
theorem iO(z:Int)(k:Nat)(st:List am):gp (k+1) [.int z,.int z] st=.ok (.bl true) st:=by
 have hb:jY (.int z) (.int z) st=.ok (.bl true) st:=fY (by simp)
 refine fZ (N:=3) (ws:=[.int z,.int z]) (body:=vJ (gp k)) ?_ rfl
 apply bG
 ·(walk_at "evs")
 apply bY
 apply bG
 ·(walk_at "evs")
 apply bY
 apply bG
 ·(walk_at "evs")
 apply bY
 apply e_
 ·(walk_at "evs")
 apply fJ
 ·apply sE
  ·(walk_at "evs")
  ·apply sE
   ·(walk_at "evs")
   ·(walk_at "evs")
 ·exact⟨_,_,rfl,by simp,[],by simp⟩
theorem NP{E:List Ro}{R:List W}(h:Rows E R)(hl:E.length<=1000)(k:Nat)(st:List am):gp (k+4) [.tup R,.tup R] st=.ok (.bl true) st:=by
 refine iN (by rw[h.len];exact hl) fun w hw=>?_
 obtain⟨i,hi⟩:=br hw
 have hl:=(aa.mp hi).1
 obtain⟨w',hw',ro⟩:=h.at' i (E[i]'(by rw[<- h.len];exact hl)) (ae (by rw[<- h.len];exact hl))
 rw[hi]at hw';cases hw'
 have all:∀(t:List W) (h3:t.length<=1000) (h:∀w∈t,∃z,w=W.int z) (k:Nat),gp (k+2) [.tup t,.tup t] st=.ok (.bl true) st:=fun t h3 h k=>iN h3 fun w hw=>by
  obtain⟨z,rfl⟩:=h w hw
  exact iO z k st
 rcases ro with⟨_,rfl⟩|⟨_,el,er,_,_,rfl⟩
 ·refine iN (aq rfl) fun w hw=>?_
  simp only[a8,dN,jt]at hw
  rcases hw with rfl|rfl|rfl
  ·exact iO _ _ st
  ·exact iO _ _ st
  ·exact all [] (by simp) (by simp) k
 ·refine iN (aq rfl) fun w hw=>?_
  simp only[a8,dN,jt]at hw
  rcases hw with rfl|rfl|rfl
  ·exact iO _ _ st
  ·exact iO _ _ st
  ·exact all _ (aq rfl) (by simp) k
abbrev pK(E:List Ro):List (DK×W):=dI (fun p:Ro×Nat=>p.1.1) (fun p=>W.int (p.2:Nat)) E.zipIdx
def Gs(i:Nat)(e:Ro):W:=if i=0 then .tup [.int 0]else rY e.2
def kW(E:List Ro):List W:=E.zipIdx.map fun p=>Gs p.2 p.1
theorem xc(E:List Ro):E.zipIdx.map (fun p:Ro×Nat=>p.1.1)=E.map Prod.fst:=by
 have:E.zipIdx.map (fun p:Ro×Nat=>p.1.1)=(E.zipIdx.map Prod.fst).map Prod.fst:=by rw[bx];rfl
 rw[this,List.zipIdx_map_fst]
theorem ze{E:List Ro}(nd:(E.map Prod.fst).Nodup){i:Nat}{e:Ro}(h:E[i]?=some e):hX (pK E) (.i (e.1:Nat))=some (.int (i:Nat)):=
 uk (f:=fun p:Ro×Nat=>p.1.1) (g:=fun p=>W.int (p.2:Nat)) (a:=(e,i)) (by rw[xc];exact nd) (List.mem_zipIdx_iff_getElem?.mpr h)
theorem P7{E:List Ro}(q:Nat):(hX (pK E) (.i q)).isSome=decide (q∈E.map Prod.fst):=by
 rw[rX,xc]
theorem Gu{E:List Ro}{i:Nat}{e:Ro}(h:E[i]?=some e):(kW E)[i]?=some (Gs i e):=by
 unfold kW
 rw[ax,List.getElem?_zipIdx,h]
 simp
theorem Gv(E:List Ro):(kW E).length=E.length:=by simp[kW]
theorem Jj{T:Nat->Nat->Nat->Nat}{L N:Nat}{E:List Ro}(h:g9 T L N E){i:Nat}{e:Ro}{st:List am}(he:E[i]?=some e):bC (Gs i e) (.int 0) st=.ok (.int (e.2.s:Nat)) st:=by
 unfold Gs
 by_cases z:i=0
 ·subst z
  obtain⟨r,hr⟩:=h.zero
  rw[hr]at he
  cases he
  rw[aB rfl];rfl
 ·rw[aE z];rfl
theorem P8{w:Wy}{i:Nat}{e:Ro}{st:List am}(h:¬ w.lt e.2):sk (rY w) (Gs i e) st=.ok (.bl false) st:=by
 unfold Gs
 by_cases z:i=0
 ·rw[aB z]
  show L2.R.ok (W.bl (HT.lexLt w.z [0])) st=_
  unfold Wy.z
  rw[HT.lexLt_cons]
  by_cases y:(w.s:Int)=0
  ·rw[aB y];rfl
  ·rw[aE y,aU (by omega)]
 ·rw[aE z]
  refine Gf ?_
  cases hb:HT.lexLt w.z e.2.z with
  |false=>rfl
  |true=>exact(h ((Wy.lex _ _).mp hb)).elim
theorem Nh{T:Nat->Nat->Nat->Nat}{L N:Nat}{E:List Ro}(h:g9 T L N E){i:Nat}{e f:Ro}{st:List am}(he:E[i]?=some e)(hf:E[i+1]?=some f):sk (Gs i e) (rY f.2) st=.ok (.bl true) st:=by
 have kE:=h.rise i e f he hf
 unfold Gs
 by_cases z:i=0
 ·rw[aB z]
  show L2.R.ok (W.bl (HT.lexLt [0] f.2.z)) st=_
  unfold Wy.z
  rw[HT.lexLt_cons]
  by_cases y:(0:Int)=(f.2.s:Int)
  ·rw[aB y];rfl
  ·rw[aE y,a_ (by omega)]
 ·rw[aE z]
  exact Gf ((Wy.lex _ _).mpr kE)
theorem KC(l r a:Nat)(el er:Ro):W.tup [.int (1+(el.2.s:Int)+(er.2.s:Int)),.int (l:Nat),.int (r:Nat),.int (a:Nat)]=rY (lr l r a el er):=by
 unfold rY Wy.z
 simp only[aT,c_,gq]
 rw[show(1:Int)+(el.2.s:Int)+(er.2.s:Int)=(el.2.s:Int)+(er.2.s:Int)+((1:Nat):Int) by omega]
theorem Jk{N:Nat}{body:FS}{ws:List W}{st:List am}{w:W}{Q:List am->Prop}(h:gH (uI fun w' bI=>w'=w/\bI.length=st.length/\Q bI) (body (ws.map some++List.replicate (N-ws.length) none) st)):∃s,Q s/\eF N body ws st=.ok w s:=by
 obtain⟨w',bI,e,rfl,hl,q⟩:=h
 refine⟨bI,q,?_⟩
 rw[oh e]
 unfold j6
 split
 ·rw[cL (by omega)]
 ·rfl
section
variable{M:Mc}{N:Nat}{E:List Ro}{st:List am}{rk ky:Nat}
theorem Gw{fe:FE}{ρ:cf}{s:List am}{n:Nat}{kvs:List (DK×W)}(h:fe ρ s=.ok (.loc n) s)(hd:fI s (.loc n)=some (n,kvs)):qQ fe ρ s=.ok (kvs.map fun p=>p.1.w,none) (s.set n (.rod kvs)):=by
 unfold qQ;rw[h];simp only[R.bind_ok,hd]
theorem BZ{i:Nat}{w:W}(h:((pK E).map fun p=>p.1.w)[i]?=some w):∃e,E[i]?=some e/\w=.int (e.1:Nat):=by
 unfold pK dI at h
 rw[bx,ax,List.getElem?_zipIdx]at h
 cases he:E[i]? with
 |none=>rw[he]at h;cases h
 |some e=>rw[he]at h;cases h;exact⟨e,rfl,rfl⟩
theorem Jl(hM:sH M N)(hN:M.tb.length<=1000)(hT:g9 (cC M) M.tb.length N E)(NH:∀l r a,l<E.length->r<E.length->a<M.tb.length->F_ (cC M) E [] l r a)(h1:st[rk]?=some (.dct (pK E)))(h2:st[ky]?=some (.lst (kW E)))(oz:rk≠ky) :
  ∃s,(s=st\/s=st.set rk (.rod (pK E)))/\yP [M.w,.loc rk,.loc ky] st=.ok (.bl true) s:=by
 refine Jk (N:=8) (body:=Kn) (ws:=[M.w,.loc rk,.loc ky]) ?_
 have kE:=(aa.mp h1).1
 have hd0:fI st (.loc rk)=some (rk,pK E):=fK h1
 generalize oI:st.set rk (.rod (pK E))=s1
 have Bd:fI s1 (.loc rk)=some (rk,pK E):=Jb (by rw[<- oI];exact ba kE)
 have hk1:s1[ky]?=some (.lst (kW E)):=by rw[<- oI,aQ oz];exact h2
 have xP:s1.set rk (.rod (pK E))=s1:=by rw[<- oI,List.set_set]
 refine dO (fun i ρ s=>∃o3 o4 o5 o6 o7:Option W,ρ=[some M.w,some (.loc rk),some (.loc ky),o3,o4,o5,o6,o7]/\(s=st\/s=s1)) (k:=(bK 0 (M.tb.length:Int).toNat,none)) (st1:=st)
  (df (aj (bA (aj (bc (ag rfl) bD (cn rfl)) aF) (by rw[gc,az])) aF) (by omega)) ⟨_,_,_,_,_,rfl,.inl rfl⟩ (fun _ _ _ _=>trivial) ?_ ?_
 ·rintro a w ρ s hw ⟨o3,o4,o5,o6,o7,rfl,hs⟩
  obtain⟨ha,rfl⟩:=du hw
  have ha':a<M.tb.length:=by simpa using ha
  rw[eB]
  obtain⟨t,ht⟩:∃t,M.tb[a]?=some t:=⟨_,ae ha'⟩
  refine⟨_,rfl,?_⟩
  have rA:fI s (.loc rk)=some (rk,pK E):=by rcases hs with rfl|rfl;exact hd0;exact Bd
  have hss:s.set rk (.rod (pK E))=s1:=by rcases hs with rfl|rfl;exact oI;exact xP
  refine kh (fun i ρ s=>∃o4 o5 o6 o7:Option W,ρ=[some M.w,some (.loc rk),some (.loc ky),some (.int (a:Nat)),o4,o5,o6,o7]/\s=s1) (k:=((pK E).map fun p=>p.1.w,none)) (st1:=s1)
   (by rw[<- hss];exact Gw (ag rfl) rA) ⟨_,_,_,_,rfl,rfl⟩ (fun _ _ _ _=>trivial) ?_ ?_
  ·rintro l w ρ s hw ⟨o4,o5,o6,o7,rfl,rfl⟩
   obtain⟨el,hel,rfl⟩:=BZ hw
   refine⟨_,rfl,?_⟩
   refine kh (fun i ρ s'=>∃o5 o6 o7:Option W,ρ=[some M.w,some (.loc rk),some (.loc ky),some (.int (a:Nat)),some (.int (el.1:Nat)),o5,o6,o7]/\s'=s) (k:=((pK E).map fun p=>p.1.w,none)) (st1:=s)
    (by rw[show qQ (ah 1) _ s=.ok ((pK E).map fun p=>p.1.w,none) (s.set rk (.rod (pK E)))from Gw (ag rfl) Bd,xP]) ⟨_,_,_,rfl,rfl⟩ (fun _ _ _ _=>trivial) ?_ ?_
   ·rintro r w ρ s' hw ⟨o5,o6,o7,rfl,rfl⟩
    obtain⟨er,her,rfl⟩:=BZ hw
    refine⟨_,rfl,?_⟩
    have hlN:el.1<N:=hT.lt el (aA hel)
    have hrN:er.1<N:=hT.lt er (aA her)
    obtain⟨row,t1,t2,t3⟩:=za hM ht hlN hrN
    have hll:=(aa.mp hel).1
    have hrl:=(aa.mp her).1
    obtain⟨i,e,c1,c2,c3⟩:∃(i:Nat) (e:Ro),E[i]?=some e/\e.1=cC M a el.1 er.1/\¬ (lr l r a el er).lt e.2:=by
     rcases NH l r a hll hrl ha' el er hel her with h|⟨p,hp,_⟩
     ·exact h
     ·cases hp
    have gl:=ze hT.nd hel
    have gr:=ze hT.nd her
    have ge:=ze hT.nd c1
    rw[c2]at ge
    have xt:bC (.tup (M.tb.map gf)) (.int (a:Nat)) s'=.ok (gf t) s':=cn (d6 (by rw[ax,ht];rfl))
    apply aH
    ·exact bS (bc (bc (bc (bc (ag rfl) bD (cn rfl)) (ag rfl) xt) (ag rfl) (BS t1)) (ag rfl) (BU t2))
    refine bG (bR (bc (ag rfl) (ag rfl) (nI (b:=false) Bd (by simp only[fN];rw[ge];rfl)))) ?_
    apply bY
    have xk:∀(j:Nat) (f:Ro),E[j]?=some f->bC (.loc ky) (.int (j:Nat)) s'=.ok (Gs j f) s':=fun j f hf=>iK (bd hk1) (d6 (Gu hf))
    apply aH
    ·exact bS (fj (aj (bc (bc bD (bc (bc (ag rfl) (bc (ag rfl) (ag rfl) (jI Bd gl)) (xk _ _ hel)) bD (Jj hT hel)) cU) (bc (bc (ag rfl) (bc (ag rfl) (ag rfl) (jI Bd gr)) (xk _ _ her)) bD (Jj hT her)) cU) (aj (bc (ag rfl) (ag rfl) (jI Bd gl)) (aj (bc (ag rfl) (ag rfl) (jI Bd gr)) (aj (ag rfl) aF)))) (aq rfl))
    rw[KC]
    refine f' (bR (bc (ag rfl) (bc (ag rfl) (bc (ag rfl) (ag rfl) (jI Bd ge)) (xk _ _ c1)) (P8 c3))) ?_
    exact⟨_,_,rfl,_,_,_,rfl,rfl⟩
   ·rintro ρ s' ⟨o5,o6,o7,rfl,rfl⟩
    exact⟨_,_,rfl,_,_,_,_,rfl,rfl⟩
  ·rintro ρ s ⟨o4,o5,o6,o7,rfl,rfl⟩
   exact⟨_,_,rfl,_,_,_,_,_,rfl,.inr rfl⟩
 ·rintro ρ s ⟨o3,o4,o5,o6,o7,rfl,hs⟩
  refine cB bD ⟨_,_,rfl,rfl,?_,hs⟩
  rcases hs with rfl|rfl
  ·rfl
  ·rw[<- oI,eO]
end
theorem P9{p q:Int}{b:Bool}{st:List am}(h:decide (p<q)=b):sk (.int p) (.int q) st=.ok (.bl b) st:=by rw[<- h];rfl
theorem Jm{E:List Ro}{i:Nat}{e:Ro}(nd:(E.map Prod.fst).Nodup)(h:E[i]?=some e):p9 (pK (E.take i)) (.i (e.1:Nat)) (.int (i:Nat))=pK (E.take (i+1))/\kW (E.take i)++[if i=0 then .tup [.int 0]else rY e.2]=kW (E.take (i+1))/\e.1∉(E.take i).map Prod.fst:=by
 have hl:=(aa.mp h).1
 have e1:E.take (i+1)=E.take i++[e]:=by rw[dZ,h];rfl
 have e2:(E.take (i+1)).zipIdx=(E.take i).zipIdx++[(e,i)]:=by
  rw[e1,List.zipIdx_append]
  simp only[bb,fH (gX hl)]
  simp[List.zipIdx]
 have hn:e.1∉(E.take i).map Prod.fst:=fun z=>by
  have:=fw ((gB (i+1) E).map Prod.fst) nd
  rw[e1,bu,fQ]at this
  exact this.2.2 _ z _ (bU.mpr rfl) rfl
 refine⟨?_,?_,hn⟩
 ·show _=dI _ _ (E.take (i+1)).zipIdx
  rw[e2]
  exact q9 (f:=fun p:Ro×Nat=>p.1.1) (g:=fun p=>W.int (p.2:Nat)) (a:=(e,i)) (by rw[xc];exact hn)
 ·unfold kW
  rw[e2,bu];rfl
theorem qg{E:List Ro}{i j:Nat}{e:Ro}(h:E[j]?=some e)(hj:j<i):(E.take i)[j]?=some e:=by rw[aN hj];exact h
section
variable{M:Mc}{N:Nat}{E:List Ro}{R:List W}{st:List am}
theorem Dj(hM:sH M N)(hN:N<=100)(hL:M.tb.length<=1000)(hT:g9 (cC M) M.tb.length N E)(hR:Rows E R)(NH:∀l r a,l<E.length->r<E.length->a<M.tb.length->F_ (cC M) E [] l r a) :
  yQ [M.w,.tup R] st=.ok (.bl true) st:=by
 have hE:=hT.len
 have hE0:=hT.len0
 obtain⟨er0,hE1⟩:=hT.zero
 obtain⟨w0,hw0,ro0⟩:=hR.at' 0 (0,⟨0,0,0,0⟩) (by rw[hE1];rfl)
 obtain⟨_,rfl⟩:0=0/\w0=.tup [.int 0,.int 0,.tup []]:=by
  rcases ro0 with h|⟨h,_⟩
  ·exact h
  ·exact absurd h (bo _)
 have hsame:gp 40 [.tup [.int 0,.int 0,.tup []],.tup [.int 0,.int 0,.tup []]] st=.ok (.bl true) st:=by
  refine iN (aq rfl) fun w hw=>?_
  simp only[a8,dN,jt]at hw
  rcases hw with rfl|rfl|rfl
  ·exact iO _ _ st
  ·exact iO _ _ st
  ·exact iN (by simp) fun w hw=>by cases hw
 refine fZ (N:=10) (ws:=[M.w,.tup R]) (body:=Ko) ?_ rfl
 refine bG (gA (nB (a:=true) (bR (J0 (ag rfl) rfl rfl)) rfl) (gA (bR (bc (bA (aj (ag rfl) aF) gc) bD (fY (by rw[aS,hR.len];omega)))) (nB (a:=true) (bR (cA (aj (bc (ag rfl) bD (cn (d6 (q:=0) hw0))) (aj (by(walk_at "evs")) aF)) hsame rfl)) rfl))) ?_
 apply bY
 apply aH
 ·exact bS BW
 apply aH
 ·(walk_at "evs")
 rw[show(st++[am.dct [(DK.i 0,W.int 0)]]).length=st.length+1 by simp,show st++[am.dct [(DK.i 0,W.int 0)]]++[am.lst [W.tup [.int 0]]]=st++[.dct (pK (E.take 1)),.lst (kW (E.take 1))] by rw[hE1];simp only[aY];rfl]
 refine dO (fun i ρ s=>∃o4 o5 o6 o7 o8 o9:Option W,ρ=[some M.w,some (.tup R),some (.loc st.length),some (.loc (st.length+1)),o4,o5,o6,o7,o8,o9]/\s=st++[.dct (pK (E.take (i+1))),.lst (kW (E.take (i+1)))]) (k:=(R.drop 1,none)) (st1:=st++[.dct (pK (E.take 1)),.lst (kW (E.take 1))])
  (jQ (uU (ag rfl) (sv bD) yA (by rw[BN];exact fM (fun z=>L2.R.ok (W.tup z) _) (on (q:=1) (by rw[hR.len];exact hE0))))) ⟨_,_,_,_,_,_,rfl,rfl⟩ (fun _ _ _ _=>trivial) ?_ ?_
 ·rintro i w ρ s hw ⟨o4,o5,o6,o7,o8,o9,rfl,rfl⟩
  rw[List.getElem?_drop,Nat.add_comm]at hw
  have hi:i+1<E.length:=by rw[<- hR.len];exact(aa.mp hw).1
  obtain⟨e,he⟩:∃e,E[i+1]?=some e:=⟨_,ae hi⟩
  obtain⟨w',hw',ro⟩:=hR.at' _ _ he
  rw[hw]at hw';cases hw'
  obtain⟨_,el,er,q1,q2,rfl⟩:0<i+1/\∃el er:Ro,E[e.2.l]?=some el/\E[e.2.r]?=some er/\w=.tup [.int (e.1:Nat),.int (e.2.s:Nat),.tup [.int (el.1:Nat),.int (er.1:Nat),.int (e.2.a:Nat)]]:=by
   rcases ro with⟨h,_⟩|h
   ·omega
   ·exact h
  obtain⟨hl,hr,el',er',q1',q2',ha,hTe,hs⟩:=hT.row _ _ he (by omega)
  rw[q1]at q1';rw[q2]at q2'
  cases q1';cases q2'
  obtain⟨p1,p2,p3⟩:=Jm hT.nd he
  rw[aE (by omega)]at p2
  obtain⟨t,ht⟩:∃t,M.tb[e.2.a]?=some t:=⟨_,ae ha⟩
  obtain⟨row,t1,t2,t3⟩:=za hM ht (hT.lt el (aA q1)) (hT.lt er (aA q2))
  rw[hTe]at t2
  have nd':((E.take (i+1)).map Prod.fst).Nodup:=fw ((gB _ _).map _) hT.nd
  have gl:=ze nd' (qg q1 hl)
  have gr:=ze nd' (qg q2 hr)
  have hdk:(st++[am.dct (pK (E.take (i+1))),.lst (kW (E.take (i+1)))])[st.length]?=some (.dct (pK (E.take (i+1)))):=by rw[dS];rfl
  have hd:fI (st++[am.dct (pK (E.take (i+1))),.lst (kW (E.take (i+1)))]) (.loc st.length)=some (st.length,pK (E.take (i+1))):=fK hdk
  have hk:(st++[am.dct (pK (E.take (i+1))),.lst (kW (E.take (i+1)))])[st.length+1]?=some (.lst (kW (E.take (i+1)))):=by rw[d_];rfl
  generalize oI:st++[am.dct (pK (E.take (i+1))),.lst (kW (E.take (i+1)))]=s1 at hdk hd hk
  have xk:∀(j:Nat) (f:Ro),(E.take (i+1))[j]?=some f->bC (.loc (st.length+1)) (.int (j:Nat)) s1=.ok (Gs j f) s1:=fun j f hf=>iK (bd hk) (d6 (Gu hf))
  refine⟨_,rfl,?_⟩
  apply bG
  ·(walk_at "tst")
  apply bY
  refine dO (fun _ ρ s=>∃o5:Option W,ρ=[some M.w,some (.tup R),some (.loc st.length),some (.loc (st.length+1)),some (.tup [.int (e.1:Nat),.int (e.2.s:Nat),.tup [.int (el.1:Nat),.int (er.1:Nat),.int (e.2.a:Nat)]]),o5,o6,o7,o8,o9]/\s=s1) (k:=([.int (e.1:Nat),.int (e.2.s:Nat),.int (el.1:Nat),.int (er.1:Nat),.int (e.2.a:Nat)],none)) (st1:=s1)
   (jQ (bc (uU (ag rfl) yA (sv bD) BN) (bc (ag rfl) bD (cn rfl)) (by rw[ub (aq rfl)];rfl))) ⟨_,rfl,rfl⟩ (fun _ _ _ _=>trivial) ?_ ?_
  ·rintro j w ρ s hw ⟨o5,rfl,rfl⟩
   obtain⟨z,rfl⟩:∃z,w=W.int z:=by
    have:=aA hw
    simp only[a8,dN,jt]at this
    rcases this with rfl|rfl|rfl|rfl|rfl<;>exact⟨_,rfl⟩
   refine⟨_,rfl,?_⟩
   apply f'
   ·(walk_at "tst")
   ·exact⟨_,_,rfl,_,rfl,rfl⟩
  ·rintro ρ s ⟨o5,rfl,rfl⟩
   apply aH
   ·exact vN (bc (ag rfl) bD (cn rfl)) rfl
   refine bG (gA (bR (bc (ag rfl) (ag rfl) (nI (b:=false) hd (by simp only[fN];rw[gl];rfl)))) (gA (bR (bc (ag rfl) (ag rfl) (nI (b:=false) hd (by simp only[fN];rw[gr];rfl)))) (gA (bR (bc (ag rfl) bD (P9 (aU (by omega))))) (bR (bc (ag rfl) (bA (aj (bc (ag rfl) bD (cn rfl)) aF) gc) (iJ (aU (by rw[az];omega)))))))) ?_
   apply bY
   apply aH
   ·exact bS (fj (aj (bc (bc bD (bc (bc (ag rfl) (bc (ag rfl) (ag rfl) (jI hd gl)) (xk _ _ (qg q1 hl))) bD (Jj hT q1)) cU) (bc (bc (ag rfl) (bc (ag rfl) (ag rfl) (jI hd gr)) (xk _ _ (qg q2 hr))) bD (Jj hT q2)) cU) (aj (bc (ag rfl) (ag rfl) (jI hd gl)) (aj (bc (ag rfl) (ag rfl) (jI hd gr)) (aj (ag rfl) aF)))) (aq rfl))
   have hw9:lr e.2.l e.2.r e.2.a el er=e.2:=by
    obtain⟨e1,⟨s,l,r,a⟩⟩:=e
    simp only at hs ⊢
    rw[hs]
   rw[KC,hw9]
   obtain⟨f,hf⟩:∃f,E[i]?=some f:=⟨_,ae (by omega)⟩
   have hlast:bC (.loc (st.length+1)) (.int (-1)) s=.ok (Gs i f) s:=by
    refine iK (bd hk) ?_
    refine Az (q:=0) ?_
    have hkl:(kW (E.take (i+1))).length=i+1:=by rw[Gv,bb];omega
    rw[fx (by omega),hkl]
    exact Gu (qg hf (by omega))
   have xt:bC (.tup (M.tb.map gf)) (.int (e.2.a:Nat)) s=.ok (gf t) s:=cn (d6 (by rw[ax,ht];rfl))
   refine bG (gA (bR (bc (bc (ag rfl) bD (cn rfl)) (ag rfl) (nI (b:=false) hd (by rw[aE (by decide),P7];exact aU p3)))) (gA (bR (bc (bc (bc (bc (bc (ag rfl) bD (cn rfl)) (ag rfl) xt) (ag rfl) (BS t1)) (ag rfl) (BU t2)) (bc (ag rfl) bD (cn rfl)) (BL (by simp)))) (gA (bR (bc (bc (ag rfl) bD (cn rfl)) (bc (ag rfl) bD (show bC (rY e.2) (.int 0) s=.ok (.int (e.2.s:Nat)) s from rfl)) (BL (by simp)))) (nB (a:=true) (bR (bc (bc (ag rfl) (yz bD) hlast) (ag rfl) (Nh hT hf he))) rfl)))) ?_
   apply bY
   apply aH
   ·exact mK (bA (aj (ag rfl) aF) (gv (bd hk))) (ag rfl) (bc (ag rfl) bD (cn rfl)) (q_ (q:=e.1) hdk (by rw[lY,List.length_zipIdx,bb];show _<1000000;omega))
   have hkl:(kW (E.take (i+1))).length=i+1:=by rw[Gv,bb];omega
   rw[hkl,p1,<- oI,fF]
   show gH _ (eQ _ _ (st++[am.dct (pK (E.take (i+1+1))),.lst (kW (E.take (i+1)))]))
   have DB:(st++[am.dct (pK (E.take (i+1+1))),.lst (kW (E.take (i+1)))])[st.length+1]?=some (.lst (kW (E.take (i+1)))):=by rw[d_];rfl
   refine⟨_,_,fC (mV (ag rfl) (eV DB) (aj (ag rfl) aF) (nE DB (by rw[hkl];show _<1000000;omega))),_,_,_,_,_,_,rfl,?_⟩
   rw[gJ,p2];rfl
 ·rintro ρ s ⟨o4,o5,o6,o7,o8,o9,rfl,rfl⟩
  have Q1:E.take ((R.drop 1).length+1)=E:=by rw[dH,hR.len];exact cL (by omega)
  rw[Q1]
  obtain⟨s,hs,es⟩:=Jl (st:=st++[.dct (pK E),.lst (kW E)]) (rk:=st.length) (ky:=st.length+1) hM hL hT NH (by rw[dS];rfl) (by rw[d_];rfl) (by omega)
  refine cB (cA (aj (ag rfl) (aj (ag rfl) (aj (ag rfl) aF))) es rfl) ⟨_,_,rfl,rfl,?_⟩
  rcases hs with rfl|rfl
  ·exact⟨_,rfl⟩
  ·exact⟨_,by rw[fF]⟩
end
inductive Tr where
 |nil
 |nd (l r:Tr) (a:Nat)
def Tr.size:Tr->Nat
 |.nil=>0
 |.nd l r _=>l.size+r.size+1
def Tr.rm(T:Nat->Nat->Nat->Nat):Tr->Nat
 |.nil=>0
 |.nd l r a=>T a (l.rm T) (r.rm T)
def Tr.wood(nm:List Nat):Tr->List W
 |.nil=>[]
 |.nd l r a=>jn nm (l.wood nm) (r.wood nm) a
def Tr.ok(L:Nat):Tr->Prop
 |.nil=>True
 |.nd l r a=>l.ok L/\r.ok L/\a<L
def Tr.lt:Tr->Tr->Prop
 |.nil,.nil=>False
 |.nil,.nd _ _ _=>True
 |.nd _ _ _,.nil=>False
 |.nd l r a,.nd l' r' a'=>l.size+r.size<l'.size+r'.size\/(l.size+r.size=l'.size+r'.size/\(l.lt l'\/(l=l'/\(r.lt r'\/(r=r'/\a<a')))))
theorem Tr.size_le:∀{t u:Tr},t.lt u->t.size<=u.size
 |.nil,.nil,h=>h.elim
 |.nil,.nd _ _ _,_=>b_ _
 |.nd _ _ _,.nil,h=>h.elim
 |.nd l r a,.nd l' r' a',h=>by
  unfold Tr.lt at h
  show l.size+r.size+1<=l'.size+r'.size+1
  rcases h with h|⟨h,_⟩<;>omega
theorem Tr.lt_size{t u:Tr}(h:t.size<u.size):t.lt u:=by
 cases t with
 |nil=>
  cases u with
  |nil=>exact absurd h (bo _)
  |nd _ _ _=>exact trivial
 |nd l r a=>
  cases u with
  |nil=>exact absurd h (bz _)
  |nd l' r' a'=>
   have h:l.size+r.size+1<l'.size+r'.size+1:=h
   exact .inl (by omega)
theorem Tr.irr:∀{t:Tr},¬ t.lt t
 |.nil,h=>h
 |.nd l r a,h=>by
  unfold Tr.lt at h
  rcases h with h|⟨_,h|⟨_,h|⟨_,h⟩⟩⟩
  ·omega
  ·exact Tr.irr h
  ·exact Tr.irr h
  ·omega
theorem Tr.trans:∀{t u v:Tr},t.lt u->u.lt v->t.lt v
 |.nil,.nil,.nil,_,h2=>h2
 |.nil,.nd _ _ _,.nil,_,h2=>h2.elim
 |.nil,_,.nd _ _ _,_,_=>trivial
 |.nd _ _ _,.nil,_,h1,_=>h1.elim
 |.nd _ _ _,.nd _ _ _,.nil,_,h2=>h2.elim
 |.nd l r a,.nd l' r' a',.nd l2 r2 a2,h1,h2=>by
  unfold Tr.lt at h1 h2 ⊢
  rcases h1 with h1|⟨s1,h1⟩
  ·rcases h2 with h2|⟨s2,h2⟩
   ·exact .inl (by omega)
   ·exact .inl (by omega)
  ·rcases h2 with h2|⟨s2,h2⟩
   ·exact .inl (by omega)
   ·refine .inr ⟨by omega,?_⟩
    rcases h1 with h1|⟨rfl,h1⟩
    ·rcases h2 with h2|⟨rfl,h2⟩
     ·exact .inl (Tr.trans h1 h2)
     ·exact .inl h1
    ·rcases h2 with h2|⟨rfl,h2⟩
     ·exact .inl h2
     ·refine .inr ⟨rfl,?_⟩
      rcases h1 with h1|⟨rfl,h1⟩
      ·rcases h2 with h2|⟨rfl,h2⟩
       ·exact .inl (Tr.trans h1 h2)
       ·exact .inl h1
      ·rcases h2 with h2|⟨rfl,h2⟩
       ·exact .inl h2
       ·exact .inr ⟨rfl,by omega⟩
def Tr.le(t u:Tr):Prop:=t=u\/t.lt u
theorem Tr.le_trans{t u v:Tr}(h1:t.le u)(h2:u.le v):t.le v:=by
 rcases h1 with rfl|h1
 ·exact h2
 ·rcases h2 with rfl|h2
  ·exact .inr h1
  ·exact .inr (Tr.trans h1 h2)
theorem Tr.le_size{t u:Tr}(h:t.le u):t.size<=u.size:=by
 rcases h with rfl|h
 ·exact ay _
 ·exact Tr.size_le h
theorem Tr.le_lt{t u:Tr}(h1:t.le u)(h2:u.lt t):False:=by
 rcases h1 with rfl|h1
 ·exact Tr.irr h2
 ·exact Tr.irr (Tr.trans h1 h2)
theorem Tr.nd_le{l l' r r':Tr}{a:Nat}(h1:l.le l')(h2:r.le r'):(Tr.nd l r a).le (.nd l' r' a):=by
 have s1:=Tr.le_size h1
 have s2:=Tr.le_size h2
 rcases cx (l.size+r.size) (l'.size+r'.size)with h|h
 ·exact .inr (.inl h)
 ·have e:l.size+r.size=l'.size+r'.size:=by omega
  rcases h1 with rfl|h1
  ·rcases h2 with rfl|h2
   ·exact .inl rfl
   ·exact .inr (.inr ⟨e,.inr ⟨rfl,.inl h2⟩⟩)
  ·exact .inr (.inr ⟨e,.inl h1⟩)
def zf(T:Nat->Nat->Nat->Nat)(L:Nat)(nm:List Nat)(F:List Tr)(i:Nat)(e:Ro)(t:Tr):Prop:=t.size=e.2.s/\t.rm T=e.1/\t.ok L/\((i=0/\t=.nil)\/(0<i/\∃tl tr,F[e.2.l]?=some tl/\F[e.2.r]?=some tr/\t=.nd tl tr e.2.a))
structure zh(T:Nat->Nat->Nat->Nat)(L:Nat)(nm:List Nat)(E:List Ro)(F:List Tr):Prop where
 len:F.length=E.length
 at':∀(i:Nat) (e:Ro),E[i]?=some e->∃t,F[i]?=some t/\zf T L nm F i e t
section
variable{T:Nat->Nat->Nat->Nat}{L N:Nat}{E:List Ro}{F:List Tr}{nm:List Nat}
theorem Jn(nm:List Nat)(h:g9 T L N E):∃F,zh T L nm E F:=by
 have key:∀n,n<=E.length->∃F:List Tr,F.length=n/\∀(i:Nat) (e:Ro),i<n->E[i]?=some e->∃t,F[i]?=some t/\zf T L nm F i e t:=by
  intro n
  induction n with
  |zero=>intro _;exact⟨[],rfl,fun i e hi=>absurd hi (bz _)⟩
  |succ n ih=>
   intro hn
   obtain⟨F,hl,hF⟩:=ih (by omega)
   have mono:∀(x:Tr) (i:Nat) (e:Ro) (t:Tr),zf T L nm F i e t->zf T L nm (F++[x]) i e t:=fun x i e t ⟨a,b,c,d⟩=>⟨a,b,c,by
    rcases d with d|⟨c0,tl,tr,c1,c2,c3⟩
    ·exact .inl d
    ·exact .inr ⟨c0,tl,tr,by rw[av (aa.mp c1).1];exact c1,by rw[av (aa.mp c2).1];exact c2,c3⟩⟩
   have he:E[n]?=some E[n]:=ae (by omega)
   suffices hx:∃x,zf T L nm (F++[x]) n E[n] x by
    obtain⟨x,hx⟩:=hx
    refine⟨F++[x],by simp[hl],fun i e hi hie=>?_⟩
    rcases cx i n with z|z
    ·obtain⟨t,ht,h2⟩:=hF i e z hie
     exact⟨t,by rw[av (by omega)];exact ht,mono x _ _ _ h2⟩
    ·obtain rfl:i=n:=by omega
     rw[he]at hie;cases hie
     exact⟨x,by rw[<- hl,bn],hx⟩
   cases n with
   |zero=>
    obtain⟨r,hr⟩:=h.zero
    have:E[0]=(0,⟨0,0,0,0⟩):=by simp only[hr,mB]
    exact⟨.nil,by rw[this];rfl,by rw[this];rfl,trivial,.inl ⟨rfl,rfl⟩⟩
   |succ n=>
    obtain⟨hl1,hr1,el,er,e1,e2,ha,hT,hs⟩:=h.row (n+1) _ he (by omega)
    obtain⟨tl,Dy,s1,r1,o1,_⟩:=hF _ _ hl1 e1
    obtain⟨tr,ht2,s2,r2,o2,_⟩:=hF _ _ hr1 e2
    refine⟨.nd tl tr E[n+1].2.a,?_,?_,⟨o1,o2,ha⟩,.inr ⟨by omega,tl,tr,?_,?_,rfl⟩⟩
    ·show tl.size+tr.size+1=_;rw[s1,s2,hs]
    ·show T _ (tl.rm T) (tr.rm T)=_;rw[r1,r2,hT]
    ·rw[av (by omega)];exact Dy
    ·rw[av (by omega)];exact ht2
 obtain⟨F,h1,h2⟩:=key E.length (ay _)
 exact⟨F,h1,fun i e he=>h2 i e (aa.mp he).1 he⟩
theorem zh.wood(f:zh T L nm E F)(h:g9 T L N E){TT:List (List W)}(hT:rZ nm E TT):∀(n i:Nat) (t:Tr) (w:List W),i<n->F[i]?=some t->TT[i]?=some w->w=t.wood nm
 |0,i,t,w,hi,_,_=>absurd hi (bz _)
 |n+1,i,t,w,hi,ht,hw=>by
  have hl:i<E.length:=by rw[<- f.len];exact(aa.mp ht).1
  have he:E[i]?=some E[i]:=ae hl
  obtain⟨t',ht',_,_,_,h1⟩:=f.at' i _ he
  rw[ht]at ht';cases ht'
  obtain⟨w',hw',_,_,h2⟩:=hT.at' i _ he
  rw[hw]at hw';cases hw'
  rcases h1 with⟨rfl,rfl⟩|⟨h0,tl,tr,a1,a2,rfl⟩
  ·rcases h2 with⟨_,rfl⟩|⟨h,_⟩
   ·rfl
   ·exact absurd h (bo _)
  ·rcases h2 with⟨h,_⟩|⟨_,wl,wr,b1,b2,_,_,rfl⟩
   ·omega
   ·obtain⟨l1,l2,_⟩:=h.row i _ he h0
    rw[f.wood h hT n _ tl wl (by omega) a1 b1,f.wood h hT n _ tr wr (by omega) a2 b2];rfl
theorem Gx{j:Nat}(mono:∀(a b:Nat) (ta tq:Tr),a<b->b<j->F[a]?=some ta->F[b]?=some tq->ta.lt tq){p q:Wy}{pl pr ql qr:Tr}(h1:F[p.l]?=some pl)(h2:F[p.r]?=some pr)(h3:F[q.l]?=some ql)(h4:F[q.r]?=some qr)
  (oI:p.s=pl.size+pr.size+1) (xP:q.s=ql.size+qr.size+1) (hl:q.l<j) (hr:q.r<j) (h:p.lt q):(Tr.nd pl pr p.a).lt (.nd ql qr q.a):=by
 unfold Wy.lt at h
 unfold Tr.lt
 rcases h with h|⟨e,h⟩
 ·exact .inl (by omega)
 ·refine .inr ⟨by omega,?_⟩
  rcases h with h|⟨e1,h⟩
  ·exact .inl (mono _ _ _ _ h hl h1 h3)
  ·rw[e1,h3]at h1;cases h1
   refine .inr ⟨rfl,?_⟩
   rcases h with h|⟨e2,h⟩
   ·exact .inl (mono _ _ _ _ h hr h2 h4)
   ·rw[e2,h4]at h2;cases h2
    exact .inr ⟨rfl,h⟩
theorem zh.mono(f:zh T L nm E F)(h:g9 T L N E):∀(n a b:Nat) (ta tq:Tr),a<b->b<n->F[a]?=some ta->F[b]?=some tq->ta.lt tq
 |0,_,_,_,_,_,hb,_,_=>absurd hb (bz _)
 |n+1,a,b,ta,tq,hab,hb,h1,h2=>by
  have hlb:b<E.length:=by rw[<- f.len];exact(aa.mp h2).1
  have eb:E[b]?=some E[b]:=ae hlb
  have ea:E[a]?=some (E[a]'(by omega)):=ae (by omega)
  generalize E[b]=fb at eb
  generalize E[a]'(by omega)=fa at ea
  obtain⟨t',ht',sb,_,_,hb1⟩:=f.at' b _ eb
  rw[h2]at ht';cases ht'
  obtain⟨t',ht',sa,_,_,ha1⟩:=f.at' a _ ea
  rw[h1]at ht';cases ht'
  have kE:fa.2.lt fb.2:=by
   have h3:=h.up (b-(a+1)) (a+1) (E[a+1]'(by omega)) fb (ae (by omega)) (by rw[show a+1+(b-(a+1))=b by omega];exact eb)
   have h4:=h.rise a fa (E[a+1]'(by omega)) ea (ae (by omega))
   exact Wy.ge h4 h3
  rcases hb1 with⟨hz,_⟩|⟨hb0,tl,tr,b1,b2,rfl⟩
  ·omega
  ·obtain⟨l1,l2,el,er,_,_,_,_,hs⟩:=h.row b fb eb hb0
   rcases ha1 with⟨_,rfl⟩|⟨Cg,ul,ur,a1,a2,rfl⟩
   ·exact trivial
   ·exact Gx (j:=b) (fun x y tx ty hxy hy h1 h2=>f.mono h n x y tx ty hxy (by omega) h1 h2) a1 a2 b1 b2 (by rw[<- sa];rfl) (by rw[<- sb];rfl) l1 l2 kE
theorem zh.least(f:zh T L nm E F)(h:u0 T L N E):∀(t:Tr),t.ok L->∃(i:Nat) (e:Ro) (u:Tr),E[i]?=some e/\F[i]?=some u/\e.1=t.rm T/\u.le t
 |.nil,_=>by
  obtain⟨r,hr⟩:=h.told.zero
  obtain⟨t,ht,_,_,_,h1|⟨h1,_⟩⟩:=f.at' 0 (0,⟨0,0,0,0⟩) (by rw[hr];rfl)
  ·obtain⟨_,rfl⟩:=h1
   exact⟨0,_,.nil,by rw[hr];rfl,ht,rfl,.inl rfl⟩
  ·exact absurd h1 (bo _)
 |.nd l r a,ok=>by
  obtain⟨il,el,ul,e1,f1,r1,le1⟩:=f.least h l ok.1
  obtain⟨ir,er,ur,e2,f2,r2,le2⟩:=f.least h r ok.2.1
  have hil:=(aa.mp e1).1
  have hir:=(aa.mp e2).1
  rcases h.cov il ir a hil hir ok.2.2 el er e1 e2 with⟨m,e,hm,c1,c2⟩|⟨p,hp,_⟩
  ·obtain⟨u,hu,su,ru,_,hu1⟩:=f.at' m e hm
   refine⟨m,e,u,hm,hu,?_,?_⟩
   ·show e.1=T a (l.rm T) (r.rm T);rw[c1,r1,r2]
   ·refine Tr.le_trans ?_ (Tr.nd_le le1 le2)
    rcases hu1 with⟨_,rfl⟩|⟨h0,tl,tr,b1,b2,rfl⟩
    ·exact .inr trivial
    ·obtain⟨_,_,s1,_⟩:∃t,F[il]?=some t/\t.size=el.2.s/\True:=by
      obtain⟨t,ht,s,_⟩:=f.at' il el e1
      exact⟨t,ht,s,trivial⟩
     obtain⟨t1,Dy,sz1,_⟩:=f.at' il el e1
     obtain⟨t2,ht2,sz2,_⟩:=f.at' ir er e2
     rw[f1]at Dy;rw[f2]at ht2
     cases Dy;cases ht2
     have hsz:e.2.s=tl.size+tr.size+1:=by rw[<- su];rfl
     by_cases kE:e.2.lt (lr il ir a el er)
     ·exact .inr (Gx (F:=F) (j:=E.length) (fun x y tx ty hxy hy h1 h2=>f.mono h.told E.length x y tx ty hxy hy h1 h2) (p:=e.2) (q:=lr il ir a el er) b1 b2 f1 f2 hsz (by rw[sz1,sz2]) hil hir kE)
     ·have hw:=Wy.tri kE c2
      rw[hw,f1]at b1;rw[hw,f2]at b2
      cases b1;cases b2
      rw[hw]
      exact .inl rfl
  ·cases hp
end
def Gy(L:Nat)(T:List (List Tr))(s:Nat):List Tr:=(List.range s).flatMap fun i=>(T.getD i []).flatMap fun l=>(T.getD (s-1-i) []).flatMap fun r=>(List.range L).map fun a=>Tr.nd l r a
def zM(L:Nat):Nat->List (List Tr)
 |0=>[[.nil]]
 |n+1=>zM L n++[Gy L (zM L n) (n+1)]
def en(L i:Nat):List Tr:=(zM L i).getD i []
theorem qh(L:Nat):∀n,(zM L n).length=n+1
 |0=>rfl
 |n+1=>by simp[zM,qh L n]
theorem xf(L:Nat):∀(n i:Nat),i<=n->(zM L n)[i]?=some (en L i)
 |0,i,h=>by
  obtain rfl:i=0:=by omega
  rfl
 |n+1,i,h=>by
  rcases cx i (n+1)with z|z
  ·show(zM L n++_)[i]?=_
   rw[av (by rw[qh];omega)]
   exact xf L n i (by omega)
  ·obtain rfl:i=n+1:=by omega
   unfold en
   rw[aG]
   show(zM L n++_)[n+1]?=some ((zM L n++_)[n+1]?.getD _)
   rw[show n+1=(zM L n).length from(qh L n).symm,bn];rfl
theorem zi(L n i:Nat)(h:i<=n):(zM L n).getD i []=en L i:=by rw[aG,xf L n i h];rfl
theorem sI(L:Nat):en L 0=[.nil]:=rfl
theorem sJ(L n:Nat):en L (n+1)=(List.range (n+1)).flatMap fun i=>(en L i).flatMap fun l=>(en L (n-i)).flatMap fun r=>(List.range L).map fun a=>Tr.nd l r a:=by
 have h:(zM L (n+1))[n+1]?=some (Gy L (zM L n) (n+1)):=by
  show(zM L n++_)[n+1]?=_
  rw[show n+1=(zM L n).length from(qh L n).symm,bn]
 rw[xf L _ _ (ay _)]at h
 rw[aZ h]
 unfold Gy
 rw[lB,lB]
 congr 1
 refine ce fun i hi=>?_
 have hi:=bi.mp hi
 rw[zi L n i (by omega),show n+1-1-i=n-i by omega,zi L n (n-i) (by omega)]
theorem ki(L:Nat):∀(n s:Nat),s<n->∀t:Tr,t∈en L s↔t.size=s/\t.ok L
 |0,s,h,_=>absurd h (bz _)
 |n+1,0,_,t=>by
  rw[sI,bU]
  cases t with
  |nil=>exact⟨fun _=>⟨rfl,trivial⟩,fun _=>rfl⟩
  |nd l r a=>exact⟨fun h=>by(cases h),fun h=>by have:=h.1;exact absurd (show l.size+r.size+1=0 from this) (by omega)⟩
 |n+1,s+1,hs,t=>by
  rw[sJ]
  simp only[je,aL,bi]
  constructor
  ·rintro⟨i,hi,l,hl,r,hr,a,ha,rfl⟩
   have h1:=(ki L n i (by omega) l).mp hl
   have h2:=(ki L n (s-i) (by omega) r).mp hr
   exact⟨by show l.size+r.size+1=s+1;omega,h1.2,h2.2,ha⟩
  ·rintro⟨h1,h2⟩
   cases t with
   |nil=>exact absurd (show 0=s+1 from h1) (by omega)
   |nd l r a=>
    have h1:l.size+r.size+1=s+1:=h1
    exact⟨l.size,by omega,l,(ki L n l.size (by omega) l).mpr ⟨rfl,h2.1⟩,r,(ki L n (s-l.size) (by omega) r).mpr ⟨by omega,h2.2.1⟩,a,h2.2.2,rfl⟩
theorem rj(L:Nat):∀(n s:Nat),s<n->(en L s).Pairwise Tr.lt
 |0,s,h=>absurd h (bz _)
 |n+1,0,_=>by rw[sI];exact List.pairwise_singleton _ _
 |n+1,s+1,hs=>by
  rw[sJ,gz]
  have sz:∀i,i<s+1->∀l∈en L i,l.size=i:=fun i hi l hl=>((ki L (s+1) i hi l).mp hl).1
  refine⟨fun i hi=>?_,?_⟩
  ·have hi:=bi.mp hi
   rw[gz]
   refine⟨fun l hl=>?_,?_⟩
   ·rw[gz]
    refine⟨fun r hr=>?_,?_⟩
    ·rw[List.pairwise_map]
     refine List.pairwise_lt_range.imp fun{a b} hab=>?_
     exact .inr ⟨rfl,.inr ⟨rfl,.inr ⟨rfl,hab⟩⟩⟩
    ·refine(rj L n (s-i) (by omega)).imp_of_mem fun{r r'} hr hr' kE x hx y hy=>?_
     obtain⟨a,_,rfl⟩:=aL.mp hx
     obtain⟨b,_,rfl⟩:=aL.mp hy
     have:=sz (s-i) (by omega) r hr
     have:=sz (s-i) (by omega) r' hr'
     exact .inr ⟨by omega,.inr ⟨rfl,.inl kE⟩⟩
   ·refine(rj L n i (by omega)).imp_of_mem fun{l l'} hl xO kE x hx y hy=>?_
    simp only[je,aL]at hx hy
    obtain⟨r,hr,a,_,rfl⟩:=hx
    obtain⟨r',hr',b,_,rfl⟩:=hy
    have:=sz i hi l hl
    have:=sz i hi l' xO
    have:=sz (s-i) (by omega) r hr
    have:=sz (s-i) (by omega) r' hr'
    exact .inr ⟨by omega,.inl kE⟩
  ·refine List.pairwise_lt_range.imp_of_mem fun{i j} hi hj QB x hx y hy=>?_
   have hi:=bi.mp hi
   have hj:=bi.mp hj
   simp only[je,aL]at hx hy
   obtain⟨l,hl,r,hr,a,_,rfl⟩:=hx
   obtain⟨l',xO,r',hr',b,_,rfl⟩:=hy
   have:=sz i hi l hl
   have:=sz j hj l' xO
   have:=sz (s-i) (by omega) r hr
   have:=sz (s-j) (by omega) r' hr'
   exact .inr ⟨by omega,.inl (Tr.lt_size (by omega))⟩
def all(L n:Nat):List Tr:=(zM L n).flatten
theorem uu(L n:Nat):all L n=(List.range (n+1)).flatMap (en L):=by
 unfold all
 rw[lB]
 congr 1
 refine gE fun i=>?_
 by_cases h:i<n+1
 ·rw[xf L n i (by omega),ax,bq h];rfl
 ·rw[bO (by rw[qh];omega),bO (by simp;omega)]
theorem zj(L n:Nat):all L (n+1)=all L n++en L (n+1):=by
 rw[uu,uu,c8,hU];simp
theorem B4{L n:Nat}{t:Tr}:t∈all L n↔t.size<=n/\t.ok L:=by
 rw[uu,je]
 constructor
 ·rintro⟨s,hs,ht⟩
  have hs:=bi.mp hs
  have:=(ki L (s+1) s (by omega) t).mp ht
  exact⟨by omega,this.2⟩
 ·rintro⟨h1,h2⟩
  exact⟨t.size,bi.mpr (by omega),(ki L (t.size+1) t.size (by omega) t).mpr ⟨rfl,h2⟩⟩
theorem AN(L n:Nat):(all L n).Pairwise Tr.lt:=by
 rw[uu,gz]
 refine⟨fun s _=>rj L (s+1) s (by omega),List.pairwise_lt_range.imp fun{i j} QB x hx y hy=>?_⟩
 have h1:=(ki L (i+1) i (by omega) x).mp hx
 have h2:=(ki L (j+1) j (by omega) y).mp hy
 exact Tr.lt_size (by omega)
theorem Dk{T:Nat->Nat->Nat->Nat}{L N n q:Nat}{E:List Ro}{F:List Tr}{nm:List Nat}(f:zh T L nm E F)(h:u0 T L N E){t:Tr}(ht:(all L n).find? (fun u=>decide (u.rm T=q))=some t):∃(i:Nat) (e:Ro),E[i]?=some e/\F[i]?=some t/\e.1=q/\e.2.s<=n:=by
 rw[List.find?_eq_some_iff_append]at ht
 obtain⟨hq,as,bs,hl,hn⟩:=ht
 have hq:=fP hq
 have hm:t∈all L n:=by rw[hl];simp
 have ht2:=B4.mp hm
 obtain⟨i,e,u,e1,f1,r1,le1⟩:=f.least h t ht2.2
 obtain⟨u',hu',su,ru,ou,_⟩:=f.at' i e e1
 rw[f1]at hu';cases hu'
 have hus:=Tr.le_size le1
 have hum:u∈all L n:=B4.mpr ⟨by omega,ou⟩
 have hut:u=t:=by
  rw[hl]at hum
  rcases a9.mp hum with z|z
  ·have:=hn u z
   rw[ru,r1,hq]at this
   simp at this
  ·rcases a8.mp z with z|z
   ·exact z
   ·have hs:=AN L n
    rw[hl,List.pairwise_append]at hs
    have:=(dB.mp hs.2.1).1 u z
    exact(Tr.le_lt le1 this).elim
 subst hut
 exact⟨i,e,e1,f1,r1.trans hq,by omega⟩
theorem AO(L:Nat)(hL:1<=L):∀(n s:Nat),s<n->s<=5->(en L s).length<=(5*L)^s
 |0,s,h,_=>absurd h (bz _)
 |n+1,0,_,_=>by rw[sI];simp
 |n+1,s+1,hs,h5=>by
  rw[sJ]
  have key:∀(B:Nat) {α β:Type} (l:List α) (g:α->List β),(∀x∈l,(g x).length<=B)->(l.flatMap g).length<=l.length*B:=by
   intro B α β l g hg
   induction l with
   |nil=>simp
   |cons x l ih=>
    rw[List.flatMap_cons,aK,bf,iX]
    have:=hg x (by simp)
    have:=ih fun y hy=>hg y (by simp[hy])
    omega
  have h1:=key ((5*L)^s*L) (List.range (s+1)) (fun i=>(en L i).flatMap fun l=>(en L (s-i)).flatMap fun r=>(List.range L).map fun a=>Tr.nd l r a) fun i hi=>by
   have hi:=bi.mp hi
   have a1:=AO L hL n i (by omega) (by omega)
   have a2:=AO L hL n (s-i) (by omega) (by omega)
   refine a7 (key ((en L (s-i)).length*L) _ _ fun l _=>key L _ _ fun r _=>by simp) ?_
   have:(5*L)^s=(5*L)^i*(5*L)^(s-i):=by rw[<- Nat.pow_add];congr 1;omega
   rw[this,pb]
   exact Nat.mul_le_mul a1 (gQ _ a2)
  refine a7 h1 ?_
  rw[bj,qF,my (s+1),pb]
  refine Nat.mul_le_mul_left _ ?_
  rw[my]
  exact gQ _ (by omega)
theorem Dl(l:List Nat):(l.map fun c=>[c]).flatten=l:=by
 induction l with
 |nil=>rfl
 |cons x l ih=>simp only[aT,List.flatten_cons,ih,List.singleton_append]
theorem Jo{fe:FE}{ρ:cf}{st:List am}{n:Nat}{s1:List am}{l:List Nat}(h:fe ρ st=.ok (.loc n) s1)(hc:s1[n]?=some (.lst ((l.map fun c=>[c]).map W.str)))(hl:l.length<=1000):JW oO (eC (.str [])) (ai fe aD) ρ st=.ok (.str l) s1:=by
 refine Mg bD rfl (aj h aF) ?_
 have:=E7 (sep:=[]) (bd hc) (by rw[ui];simp;show _<=1000000;omega)
 rw[this,qK,Dl]
theorem Gz{ρ:cf}{st:List am}{nm:List Nat}{a i j:Nat}(h1:ρ[i]?=some (some (.str nm)))(h2:ρ[j]?=some (some (.int (a:Nat))))(hn:nm.length<=60) :
  ∃x,JW oO (eC (.str [])) (ai (dR [none,some i,some j] (bw (ai (bh de (ai (ah i) aD)) aD)) (eU 0) (eZ (e2 jY (e2 yh (e2 yg (ah 2) (e2 jM (e2 jM (bh de (ai (ah 1) aD)) (eI 1)) (ah 0))) (eI 1)) (eI 1))) (e2 bC (ah 1) (ah 0))) aD) ρ st=.ok (.str (xN nm a)) (st++[x]):=by
 have hL:nm.length<=kJ:=by show _<=1000000;omega
 refine⟨_,Jo (n:=st.length) (s1:=st++[.lst (((bK 0 (nm.length:Int).toNat).filter (fun w=>match w with|.int z=>uZ nm.length a z.toNat|_=>false)).map (fun w=>match w with|.int z=>.str [nm.getD z.toNat 0]|_=>.non))]) ?_ ?_ (by have:=Jg nm a;omega)⟩
 ·refine wL _ _ (df (aj (bA (aj (ag h1) aF) (qT hL)) aF) (by omega)) (by simp[bK];show _<=1000000;omega) trivial ?_
  intro w hw
  unfold bK at hw
  obtain⟨k,hk,rfl⟩:=aL.mp hw
  have hk:k<nm.length:=by simpa using hk
  have ec:lN [none,some i,some j] ρ=[none,some (.str nm),some (.int (a:Nat))]:=by simp[lN,h1,h2]
  rw[ec]
  refine⟨[some (.int (0+(k:Int))),some (.str nm),some (.int (a:Nat))],rfl,?_,fun _=>?_⟩
  ·have e1:(nm.length:Int)-1-(0+(k:Int))=((nm.length-1-k:Nat):Int):=by omega
   refine bR (bc (bc (bc (ag rfl) (bc (bc (bA (aj (ag rfl) aF) (qT hL)) bD rfl) (ag rfl) rfl) ?_) bD (xa (m:=a/2^(nm.length-1-k)))) bD (fY ?_))
   ·show yg _ (.int ((nm.length:Int)-1-(0+(k:Int)))) _=_
    rw[e1];exact Gj
   ·show _=uZ nm.length a (0+(k:Int)).toNat
    rw[show(0+(k:Int)).toNat=k by omega]
    unfold uZ
    rw[jG,cz,bZ]
    omega
  ·refine bc (ag rfl) (ag rfl) ?_
   rw[eB]
   exact E6 hL (d6 (by rw[aG,a6,ae hk];rfl))
 ·rw[dS]
  show some _=some _
  congr 2
  unfold bK xN
  rw[a6,mS,bx,bx,bx]
  have ef:(fun w:W=>match w with|.int z=>uZ nm.length a z.toNat|_=>false)∘(fun i:Nat=>W.int (0+(i:Int)))=uZ nm.length a:=by
   funext k
   show uZ nm.length a (0+(k:Int)).toNat=_
   rw[show(0+(k:Int)).toNat=k by omega]
  rw[ef]
  refine ce fun k _=>?_
  show W.str [nm.getD (0+(k:Int)).toNat 0]=W.str [nm.getD k 0]
  rw[show(0+(k:Int)).toNat=k by omega]
theorem zk(nm:List Nat)(a:Nat)(hn:nm.length<=60)(st:List am):ug [.str nm,.int (a:Nat)] st=.ok (.str (xN nm a)) st:=by
 refine fZ (N:=2) (ws:=[.str nm,.int (a:Nat)]) (body:=Km) ?_ rfl
 obtain⟨x,e⟩:=Gz (ρ:=[some (.str nm),some (.int (a:Nat))]) (st:=st) (nm:=nm) (a:=a) (i:=0) (j:=1) rfl rfl hn
 exact cB e ⟨_,_,rfl,rfl,_,rfl⟩
theorem xg(nm:List Nat)(tl tr:List W)(a:Nat)(hl:tl.length+tr.length<=1000)(h1:∀n,undWs n tl=true)(h2:∀n,undWs n tr=true)(st:List am):oT [.tup tl,.tup tr,.str (xN nm a)] st=.ok (.tup (jn nm tl tr a)) st:=by
 refine fZ (N:=3) (ws:=[.tup tl,.tup tr,.str (xN nm a)]) (body:=Kl) ?_ (by simp only[undWs,bL];unfold W.und;exact rf nm a _ (h1 _) (h2 _))
 have hi:∀(t:List W) (i:Nat) (ρ:cf),ρ[i]?=some (some (.tup t))->bh CW (ai (e2 yi (bh de (ai (ah i) aD)) (eI 0)) aD) ρ st=.ok (.int ((if t.length=0 then 0 else 1:Nat):Int)) st:=fun t i ρ hr=>by
  by_cases z:t.length=0
  ·rw[aB z]
   exact bA (aj (bc (bA (aj (ag hr) aF) gc) bD (iJ (k:=false) (by rw[z];rfl))) aF) rfl
  ·rw[aE z]
   exact bA (aj (bc (bA (aj (ag hr) aF) gc) bD (iJ (k:=true) (a_ (by omega)))) aF) rfl
 have e:(((if tl.length=0 then 0 else 1:Nat):Int))+2*((if tr.length=0 then 0 else 1:Nat):Int)=(P6 tl tr:Nat):=by
  unfold P6;split<;>split<;>rfl
 refine cB (bc (bc (ag rfl) (ag rfl) (ub (by rw[aK];show _<=1000000;omega))) (fj (aj (fj (aj (bc (hi tl 0 _ rfl) (bc bD (hi tr 1 _ rfl) (nD (.inl ⟨by omega,by omega⟩))) cU) (aj (ag rfl) aF)) (aq rfl)) aF) (aq rfl)) (ub (by simp only[aK,bf,cQ];show _<=1000000;omega))) ⟨_,_,rfl,?_,[],by simp⟩
 rw[e];rfl
theorem qi(nm:List Nat):∀(t:Tr) (n:Nat),undWs n (t.wood nm)=true
 |.nil,n=>rfl
 |.nd l r a,n=>rf nm a n (qi nm l n) (qi nm r n)
theorem qj(nm:List Nat):∀(t:Tr),(t.wood nm).length=t.size
 |.nil=>rfl
 |.nd l r a=>by show(jn nm _ _ a).length=_;rw[uq,qj nm l,qj nm r];rfl
def GA(T:Nat->Nat->Nat->Nat)(acc:List Tr):List Tr:=acc.foldl (fun d t=>if t.rm T∈d.map (Tr.rm T)then d else d++[t]) []
theorem uv(T:Nat->Nat->Nat->Nat)(acc:List Tr)(t:Tr):GA T (acc++[t])=if t.rm T∈(GA T acc).map (Tr.rm T)then GA T acc else GA T acc++[t]:=by
 unfold GA;rw[List.foldl_append];rfl
abbrev fD(T:Nat->Nat->Nat->Nat)(nm:List Nat)(acc:List Tr):List (DK×W):=dI (Tr.rm T) (fun t=>W.tup (t.wood nm)) (GA T acc)
theorem qk{P:List Tr->Prop}(h0:P [])(h1:∀acc t,P acc->P (acc++[t])):∀acc,P acc:=fun acc=>by
 have:∀n (acc:List Tr),acc.length=n->P acc:=by
  intro n
  induction n with
  |zero=>intro acc h;rw[lA.mp h];exact h0
  |succ n ih=>
   intro acc h
   have oz:acc≠[]:=fun z=>by rw[z]at h;cases h
   rw[<- List.dropLast_concat_getLast oz]
   exact h1 _ _ (ih _ (by rw[List.length_dropLast];omega))
 exact this _ acc rfl
theorem Jp(T:Nat->Nat->Nat->Nat):∀acc:List Tr,(GA T acc).length<=acc.length:=qk (ay _) fun acc t h=>by
 rw[uv,aK]
 split
 ·simp;omega
 ·rw[aK];simp;omega
theorem GB(T:Nat->Nat->Nat->Nat)(q:Nat):∀acc:List Tr,(GA T acc).find? (fun t=>decide (t.rm T=q))=acc.find? (fun t=>decide (t.rm T=q)):=qk rfl fun acc t h=>by
 rw[uv,List.find?_append,<- h]
 by_cases hm:t.rm T∈(GA T acc).map (Tr.rm T)
 ·rw[aB hm]
  cases hf:(GA T acc).find? (fun t=>decide (t.rm T=q))with
  |some u=>rfl
  |none=>
   have:¬ t.rm T=q:=fun z=>by
    obtain⟨u,hu,e⟩:=aL.mp hm
    have:=List.find?_eq_none.mp hf u hu
    rw[e,z]at this
    simp at this
   simp[this]
 ·rw[aE hm,List.find?_append]
theorem GC(T:Nat->Nat->Nat->Nat)(nm:List Nat)(acc:List Tr)(q:Nat):hX (fD T nm acc) (.i q)=(acc.find? (fun t=>decide (t.rm T=q))).map fun t=>W.tup (t.wood nm):=by
 rw[AL,GB]
theorem Dm{fs:FA}{ρ:cf}{st st1:List am}{i j:Int}(h:fs ρ st=.ok [.int i,.int j] st1)(hq:-(2^62)<=i/\i<2^62/\-(2^62)<=j/\j<2^62):j4 fs ρ st=.ok (bK i (j-i).toNat,none) st1:=by
 unfold j4;rw[h];simp only[R.bind_ok];rw[aB hq]
theorem rp{α β:Type}{l:List α}{j:Nat}{x:α}(h:l[j]?=some x)(f:α->List β):(l.take (j+1)).flatMap f=(l.take j).flatMap f++f x:=by
 rw[dZ,h,hU];simp
theorem uw{α β:Type}{l:List α}{j:Nat}{x:α}(h:l[j]?=some x)(f:α->List β){p:List β}(hp:p <+: f x):(l.take j).flatMap f++p <+: l.flatMap f:=by
 have e:l.flatMap f=(l.take j).flatMap f++(f x++(l.drop (j+1)).flatMap f):=by
  rw[<- aY,<- rp h,<- hU,fy]
 rw[e]
 exact(List.prefix_append_right_inj _).mpr (hp.trans (aC _ _))
section
variable{M:Mc}{N:Nat}{E:List Ro}{R:List W}{TT:List (List W)}{st:List am}
abbrev pw(M:Mc)(t:Tr):W:=.tup [.tup (t.wood M.nm),.int (t.rm (cC M):Nat)]
abbrev KD(n0 k:Nat):List W:=(List.range (k+1)).map fun i=>W.loc (n0+if i=0 then 0 else i+2)
abbrev Cs(M:Mc)(n0 k:Nat)(D:List (DK×W)):List am:=[am.lst ((en M.tb.length 0).map (pw M)),.lst (KD n0 k),.dct D]++(List.range k).map fun i=>am.lst ((en M.tb.length (i+1)).map (pw M))
theorem xh(M:Mc)(n0 k:Nat)(D:List (DK×W)):(Cs M n0 k D).length=3+k:=by simp[Cs];omega
abbrev Zs(M:Mc)(st:List am)(k:Nat)(D:List (DK×W))(x:List am):List am:=st++(Cs M st.length k D++x)
theorem zT(k:Nat)(D:List (DK×W))(x:List am):(Zs M st k D x)[st.length+1]?=some (.lst (KD st.length k)):=by rw[d_];rfl
theorem zD(k:Nat)(D:List (DK×W))(x:List am):(Zs M st k D x)[st.length+2]?=some (.dct D):=by rw[d_];rfl
theorem zE(k:Nat)(D:List (DK×W))(x:List am){i:Nat}(h:i<=k):(Zs M st k D x)[st.length+if i=0 then 0 else i+2]?=some (.lst ((en M.tb.length i).map (pw M))):=by
 rw[d_]
 by_cases z:i=0
 ·subst z;rfl
 ·rw[aE z]
  obtain⟨j,rfl⟩:∃j,i=j+1:=⟨i-1,by omega⟩
  show((_::_::_::List.map _ (List.range k))++x)[j+3]?=_
  simp only[List.cons_append,iz]
  rw[av (by simp;omega),ax,bq (by omega)];rfl
theorem zF(k:Nat)(D:List (DK×W))(c:am):(Zs M st k D [c])[st.length+(3+k)]?=some c:=by
 rw[d_,<- xh M st.length k D,bn]
theorem Ni(k:Nat)(D:List (DK×W))(c d:am):(Zs M st k D [c]).set (st.length+(3+k)) d=Zs M st k D [d]:=by
 rw[gJ]
 congr 1
 rw[mZ _ _ (by rw[xh];exact ay _),xh,mz];rfl
theorem Nj(k:Nat)(D D':List (DK×W))(x:List am):(Zs M st k D x).set (st.length+2) (.dct D')=Zs M st k D' x:=by
 rw[gJ];rfl
theorem B5(A:All M N E R TT):∀t:Tr,t.ok M.tb.length->t.rm (cC M)<N
 |.nil,_=>A.n1
 |.nd l r a,ok=>by
  obtain⟨_,_,_,h⟩:=za A.ok (ae ok.2.2) (B5 A l ok.1) (B5 A r ok.2.1)
  exact h
def oV(c:Nat):Nat:=[5,4,3,2,1,1].getD c 0
theorem GD(A:All M N E R TT)(Cd:M.nm.length<=5):∃(fd:Nat) (x:List am),yZ [M.w] st=.ok (.loc fd) (st++x)/\(st++x)[fd]?=some (.dct (fD (cC M) M.nm (all M.tb.length (oV M.nm.length))))/\st.length<=fd:=by
 have hL1:1<=M.tb.length:=by rw[A.ok.tb];exact kD
 have hLL:M.tb.length=2^M.nm.length:=A.ok.tb
 have hL64:M.tb.length<=64:=by rw[hLL];exact a7 (eG (by omega) (show M.nm.length<=6 by omega)) (by decide)
 obtain⟨most,hmost,hm5,ND⟩:∃most,oV M.nm.length=most/\most<=5/\∀s,s<=most->(5*M.tb.length)^s<=10000:=by
  refine⟨_,rfl,?_,?_⟩
  ·generalize M.nm.length=c at Cd
   match c,Cd with
   |0,_|1,_|2,_|3,_|4,_|5,_=>decide
  ·rw[hLL]
   generalize M.nm.length=c at Cd
   intro s hs
   refine a7 (eG (by have:=kD (n:=c);omega) hs) ?_
   match c,Cd with
   |0,_|1,_|2,_|3,_|4,_|5,_=>decide
 have hlenE:∀s,s<=most->(en M.tb.length s).length<=10000:=fun s hs=>a7 (AO _ hL1 (s+1) s (by omega) (by omega)) (ND s hs)
 rw[hmost]
 have hallL:∀k,k<=most->(all M.tb.length k).length<=10000*(k+1):=by
  intro k
  induction k with
  |zero=>intro _;rw[uu];simp[sI]
  |succ k ih=>
   intro hk
   rw[zj,aK]
   have:=ih (by omega)
   have:=hlenE (k+1) hk
   omega
 have hix:pJ ([5,4,3,2,1,1].map fun z:Int=>W.int z) (M.nm.length:Int)=some (.int (most:Nat)):=by
  rw[<- hmost]
  generalize M.nm.length=c at Cd
  match c,Cd with
  |0,_|1,_|2,_|3,_|4,_|5,_=>rfl
 suffices hh:gH (uI fun w bI=>∃j x,w=.loc (st.length+j)/\bI=st++x/\(st++x)[st.length+j]?=some (.dct (fD (cC M) M.nm (all M.tb.length most)))) (FZ ([M.w].map some++List.replicate (14-1) none) st) by
  obtain⟨j,x,h,e⟩:=qa (N:=14) (body:=FZ) (ws:=[M.w]) hh
  exact⟨st.length+j,x,e,h,Nat.le_add_right _ _⟩
 apply aH
 ·exact bS (bc (fj (aj bD (aj bD (aj bD (aj bD (aj bD (aj bD aF)))))) (aq rfl)) (bA (aj (bc (ag rfl) bD (cn rfl)) aF) (qT (by show _<=1000000;omega))) (cn hix))
 apply aH
 ·exact bS (t9 (aj (t9 (aj (fj (aj (fj aF (aq rfl)) (aj bD aF)) (aq rfl)) aF) (aq rfl)) aF) (aq rfl))
 apply aH
 ·exact bS w_
 rw[show(st++[am.lst [W.tup [.tup [],.int 0]]]).length=st.length+1 by simp,show(st++[am.lst [W.tup [.tup [],.int 0]]]++[am.lst [W.loc st.length]]).length=st.length+2 by simp,
  show st++[am.lst [W.tup [.tup [],.int 0]]]++[am.lst [W.loc st.length]]++[am.dct [(DK.i 0,W.tup [])]]=Zs M st 0 (fD (cC M) M.nm (all M.tb.length 0)) [] by simp only[aY];rfl]
 refine dO (fun k ρ s=>∃o4 o5 o6 o7 o8 o9 o10 oA nQ o13:Option W,k<=most/\ρ=[some M.w,some (.int (most:Nat)),some (.loc (st.length+1)),some (.loc (st.length+2)),o4,o5,o6,o7,o8,o9,o10,oA,nQ,o13]/\s=Zs M st k (fD (cC M) M.nm (all M.tb.length k)) []) (k:=(bK 1 (((most:Int)+1)-1).toNat,none)) (st1:=Zs M st 0 (fD (cC M) M.nm (all M.tb.length 0)) [])
  (Dm (aj bD (aj (bc (ag rfl) bD cU) aF)) (by omega)) ⟨_,_,_,_,_,_,_,_,_,_,b_ _,rfl,rfl⟩ (fun _ _ _ _=>trivial) ?_ ?_
 ·rintro k w ρ s hw ⟨o4,o5,o6,o7,o8,o9,o10,oA,nQ,o13,_,rfl,rfl⟩
  obtain⟨hk,rfl⟩:=du hw
  have hk:k<most:=by omega
  rw[show(1:Int)+(k:Int)=((k+1:Nat):Int) by omega]
  refine⟨_,rfl,?_⟩
  apply aH
  ·exact bS (t9 aF (aq rfl))
  rw[show(Zs M st k (fD (cC M) M.nm (all M.tb.length k)) []).length=st.length+(3+k) by rw[aK,aK,xh];rfl,
   show Zs M st k (fD (cC M) M.nm (all M.tb.length k)) []++[am.lst []]=Zs M st k (fD (cC M) M.nm (all M.tb.length k++[])) [.lst (([]:List Tr).map (pw M))] by
    show(st++(Cs M st.length k (fD (cC M) M.nm (all M.tb.length k))++[]))++[am.lst []]=st++(Cs M st.length k (fD (cC M) M.nm (all M.tb.length k++[]))++[am.lst []])
    rw[cP,cP,aY]]
  let Z:=fun acc:List Tr=>Zs M st k (fD (cC M) M.nm (all M.tb.length k++acc)) [.lst (acc.map (pw M))]
  let f0:=fun i=>(en M.tb.length i).flatMap fun l=>(en M.tb.length (k-i)).flatMap fun r=>(List.range M.tb.length).map fun a=>Tr.nd l r a
  have hen:en M.tb.length (k+1)=(List.range (k+1)).flatMap f0:=sJ _ _
  refine dO (fun i ρ s=>∃o6 o7 o8 o9 o10 oA nQ o13:Option W,i<=k+1/\ρ=[some M.w,some (.int (most:Nat)),some (.loc (st.length+1)),some (.loc (st.length+2)),some (.int ((k+1:Nat):Int)),some (.loc (st.length+(3+k))),o6,o7,o8,o9,o10,oA,nQ,o13]/\s=Z ((List.range i).flatMap f0)) (k:=(bK 0 ((k+1:Nat):Int).toNat,none)) (st1:=Z [])
   (df (aj (ag rfl) aF) (by omega)) ⟨_,_,_,_,_,_,_,_,b_ _,rfl,rfl⟩ (fun _ _ _ _=>trivial) ?_ ?_
  ·rintro i w ρ s hw ⟨o6,o7,o8,o9,o10,oA,nQ,o13,_,rfl,rfl⟩
   obtain⟨hi,rfl⟩:=du hw
   rw[a6]at hi
   rw[eB]
   refine⟨_,rfl,?_⟩
   let f1:=fun l:Tr=>(en M.tb.length (k-i)).flatMap fun r=>(List.range M.tb.length).map fun a=>Tr.nd l r a
   have locAt:∀j,j<=k->(KD st.length k)[j]?=some (.loc (st.length+if j=0 then 0 else j+2)):=fun j hj=>by
    rw[ax,bq (by omega)];rfl
   have zx:∀(acc:List Tr) (j:Nat),j<=k->bC (.loc (st.length+1)) (.int (j:Nat)) (Z acc)=.ok (.loc (st.length+if j=0 then 0 else j+2)) (Z acc):=fun acc j hj=>iK (bd (zT _ _ _)) (d6 (locAt j hj))
   have zl:∀(acc:List Tr) (j:Nat),j<=k->lstOf (Z acc) (st.length+if j=0 then 0 else j+2)=some ((en M.tb.length j).map (pw M)):=fun acc j hj=>bd (zE _ _ _ hj)
   refine kh (fun j ρ s=>∃o7 o8 o9 o10 oA nQ o13:Option W,ρ=[some M.w,some (.int (most:Nat)),some (.loc (st.length+1)),some (.loc (st.length+2)),some (.int ((k+1:Nat):Int)),some (.loc (st.length+(3+k))),some (.int (i:Nat)),o7,o8,o9,o10,oA,nQ,o13]/\s=Z ((List.range i).flatMap f0++((en M.tb.length i).take j).flatMap f1)) (k:=((en M.tb.length i).map (pw M),some (st.length+(if i=0 then 0 else i+2),(en M.tb.length i).map (pw M)))) (st1:=Z ((List.range i).flatMap f0))
    (lT (bc (ag rfl) (ag rfl) (zx _ i (by omega))) (zl _ i (by omega))) ⟨_,_,_,_,_,_,_,rfl,by rw[nT];simp⟩ ?_ ?_ ?_
   ·rintro j ρ s ⟨o7,o8,o9,o10,oA,nQ,o13,rfl,rfl⟩
    exact zl _ i (by omega)
   ·rintro j w ρ s hw ⟨o7,o8,o9,o10,oA,nQ,o13,rfl,rfl⟩
    rw[ax]at hw
    cases hlj:(en M.tb.length i)[j]? with
    |none=>rw[hlj]at hw;cases hw
    |some l=>
     rw[hlj]at hw;cases hw
     have hl:=(ki M.tb.length (i+1) i (by omega) l).mp (aA hlj)
     refine⟨_,rfl,?_⟩
     let f2:=fun r:Tr=>(List.range M.tb.length).map fun a=>Tr.nd l r a
     have ek:((k+1:Nat):Int)-1-(i:Int)=((k-i:Nat):Int):=by omega
     refine kh (fun m ρ s=>∃o9 o10 oA nQ o13:Option W,ρ=[some M.w,some (.int (most:Nat)),some (.loc (st.length+1)),some (.loc (st.length+2)),some (.int ((k+1:Nat):Int)),some (.loc (st.length+(3+k))),some (.int (i:Nat)),some (.tup (l.wood M.nm)),some (.int (l.rm (cC M):Nat)),o9,o10,oA,nQ,o13]/\s=Z (((List.range i).flatMap f0++((en M.tb.length i).take j).flatMap f1)++((en M.tb.length (k-i)).take m).flatMap f2)) (k:=((en M.tb.length (k-i)).map (pw M),some (st.length+(if k-i=0 then 0 else(k-i)+2),(en M.tb.length (k-i)).map (pw M)))) (st1:=Z ((List.range i).flatMap f0++((en M.tb.length i).take j).flatMap f1))
      (lT (bc (ag rfl) (bc (bc (ag rfl) bD rfl) (ag rfl) rfl) (by show bC _ (.int (((k+1:Nat):Int)-1-(i:Int))) _=_;rw[ek];exact zx _ (k-i) (by omega))) (zl _ (k-i) (by omega))) ⟨_,_,_,_,_,rfl,by rw[nT];simp⟩ ?_ ?_ ?_
     ·rintro m ρ s ⟨o9,o10,oA,nQ,o13,rfl,rfl⟩
      exact zl _ (k-i) (by omega)
     ·rintro m w ρ s hw ⟨o9,o10,oA,nQ,o13,rfl,rfl⟩
      rw[ax]at hw
      cases hrm:(en M.tb.length (k-i))[m]? with
      |none=>rw[hrm]at hw;cases hw
      |some r=>
       rw[hrm]at hw;cases hw
       have hr:=(ki M.tb.length (k-i+1) (k-i) (by omega) r).mp (aA hrm)
       refine⟨_,rfl,?_⟩
       refine kh (fun a ρ s=>a<=M.tb.length/\∃oA nQ o13:Option W,ρ=[some M.w,some (.int (most:Nat)),some (.loc (st.length+1)),some (.loc (st.length+2)),some (.int ((k+1:Nat):Int)),some (.loc (st.length+(3+k))),some (.int (i:Nat)),some (.tup (l.wood M.nm)),some (.int (l.rm (cC M):Nat)),some (.tup (r.wood M.nm)),some (.int (r.rm (cC M):Nat)),oA,nQ,o13]/\s=Z ((((List.range i).flatMap f0++((en M.tb.length i).take j).flatMap f1)++((en M.tb.length (k-i)).take m).flatMap f2)++(List.range a).map fun a=>Tr.nd l r a)) (k:=(bK 0 (M.tb.length:Int).toNat,none)) (st1:=Z (((List.range i).flatMap f0++((en M.tb.length i).take j).flatMap f1)++((en M.tb.length (k-i)).take m).flatMap f2))
        (df (aj (bA (aj (bc (ag rfl) bD (cn rfl)) aF) (by rw[gc,az])) aF) (by omega)) ⟨b_ _,_,_,_,rfl,by simp⟩ (fun _ _ _ _=>trivial) ?_ ?_
       ·rintro a w ρ s hw ⟨_,oA,nQ,o13,rfl,rfl⟩
        obtain⟨ha,rfl⟩:=du hw
        rw[a6]at ha
        rw[eB]
        have hok:(Tr.nd l r a).ok M.tb.length:=⟨hl.2,hr.2,ha⟩
        obtain⟨t,ht⟩:∃t,M.tb[a]?=some t:=⟨_,ae ha⟩
        obtain⟨row,t1,t2,t3⟩:=za A.ok ht (B5 A l hl.2) (B5 A r hr.2)
        generalize hacc:(((List.range i).flatMap f0++((en M.tb.length i).take j).flatMap f1)++((en M.tb.length (k-i)).take m).flatMap f2)++(List.range a).map (fun a=>Tr.nd l r a)=acc
        have zI:acc <+: en M.tb.length (k+1):=by
         rw[hen,<- hacc,aY,aY]
         have p3:(List.range a).map (fun a=>Tr.nd l r a) <+: f2 r:=by
          show(List.range a).map _ <+: (List.range M.tb.length).map _
          have:List.range a=(List.range M.tb.length).take a:=by rw[List.take_range,fH (by omega)]
          rw[this,ie];exact List.take_prefix _ _
         have p2:=uw hrm f2 p3
         have p1:=uw hlj f1 p2
         have p0:=uw (l:=List.range (k+1)) (j:=i) (x:=i) (by rw[bq hi]) f0 p1
         rw[List.take_range,fH (by omega)]at p0
         exact p0
        have hal:acc.length<=10000:=a7 zI.length_le (hlenE (k+1) (by omega))
        have xt:bC (.tup (M.tb.map gf)) (.int (a:Nat)) (Z acc)=.ok (gf t) (Z acc):=cn (d6 (by rw[ax,ht];rfl))
        have hszl:=hl.1
        have hszr:=hr.1
        have jo:=xg M.nm (l.wood M.nm) (r.wood M.nm) a (by rw[qj,qj];omega) (qi M.nm l) (qi M.nm r) (Z acc)
        refine⟨_,rfl,?_⟩
        apply aH
        ·exact bS (cA (aj (ag rfl) (aj (ag rfl) (aj (cA (aj (bc (ag rfl) bD (cn rfl)) (aj (ag rfl) aF)) (zk M.nm a (by omega) _) rfl) aF))) jo rfl)
        apply aH
        ·exact bS (bc (bc (bc (bc (ag rfl) bD (cn rfl)) (ag rfl) xt) (ag rfl) (BS t1)) (ag rfl) (BU t2))
        apply aH
        ·exact fC (mV (ag rfl) (eV (zF _ _ _)) (aj (fj (aj (ag rfl) (aj (ag rfl) aF)) (aq rfl)) aF) (nE (zF _ _ _) (by rw[az];show _<1000000;omega)))
        rw[Ni,show acc.map (pw M)++[W.tup [.tup (jn M.nm (l.wood M.nm) (r.wood M.nm) a),.int (cC M a (l.rm (cC M)) (r.rm (cC M)):Nat)]]=(acc++[Tr.nd l r a]).map (pw M) by rw[bu];rfl]
        have fin:∀D',D'=fD (cC M) M.nm (all M.tb.length k++(acc++[Tr.nd l r a]))->Zs M st k D' [.lst ((acc++[Tr.nd l r a]).map (pw M))]=Z ((((List.range i).flatMap f0++((en M.tb.length i).take j).flatMap f1)++((en M.tb.length (k-i)).take m).flatMap f2)++(List.range (a+1)).map fun a=>Tr.nd l r a):=fun D' hD=>by
         have hnx:(((List.range i).flatMap f0++((en M.tb.length i).take j).flatMap f1)++((en M.tb.length (k-i)).take m).flatMap f2)++((List.range (a+1)).map fun a=>Tr.nd l r a)=acc++[Tr.nd l r a]:=by
          rw[c8,bu,<- aY,hacc];rfl
         rw[hD,hnx]
        have rA:=uv (cC M) (all M.tb.length k++acc) (Tr.nd l r a)
        rw[aY]at rA
        have hdl:=Jp (cC M) (all M.tb.length k++acc)
        rw[aK]at hdl
        have:=hallL k (by omega)
        by_cases hin:cC M a (l.rm (cC M)) (r.rm (cC M))∈(GA (cC M) (all M.tb.length k++acc)).map (Tr.rm (cC M))
        ·rw[aB (show(Tr.nd l r a).rm (cC M)∈_ from hin)]at rA
         refine f' (bR (bc (ag rfl) (ag rfl) (nI (b:=false) (fK (zD _ _ _)) (by rw[rX];simp only[fN];rw[a_ hin];rfl)))) ?_
         exact⟨_,_,rfl,by omega,_,_,_,rfl,fin _ (by unfold fD;rw[rA])⟩
        ·rw[aE (show(Tr.nd l r a).rm (cC M)∉_ from hin)]at rA
         refine jp (bR (bc (ag rfl) (ag rfl) (nI (b:=true) (fK (zD _ _ _)) (by rw[rX];simp only[fN];rw[aU hin];rfl)))) ?_
         refine⟨_,_,mK (ag rfl) (ag rfl) (ag rfl) (q_ (q:=cC M a (l.rm (cC M)) (r.rm (cC M))) (zD _ _ _) (by rw[lY];show _<1000000;omega)),by omega,_,_,_,rfl,?_⟩
         rw[Nj]
         refine fin _ ?_
         unfold fD;rw[rA]
         exact q9 (f:=Tr.rm (cC M)) (g:=fun t:Tr=>W.tup (t.wood M.nm)) (a:=Tr.nd l r a) hin
       ·rintro ρ s ⟨_,oA,nQ,o13,rfl,rfl⟩
        refine⟨_,_,rfl,_,_,_,_,_,rfl,?_⟩
        rw[show(bK 0 (M.tb.length:Int).toNat).length=M.tb.length by simp[bK],rp hrm f2,aY]
     ·rintro ρ s ⟨o9,o10,oA,nQ,o13,rfl,rfl⟩
      refine⟨_,_,rfl,_,_,_,_,_,_,_,rfl,?_⟩
      rw[show((en M.tb.length (k-i)).map (pw M)).length=(en M.tb.length (k-i)).length by simp,jd,rp hlj f1,aY]
   ·rintro ρ s ⟨o7,o8,o9,o10,oA,nQ,o13,rfl,rfl⟩
    refine⟨_,_,rfl,_,_,_,_,_,_,_,_,by omega,rfl,?_⟩
    rw[show((en M.tb.length i).map (pw M)).length=(en M.tb.length i).length by simp,jd,c8,hU]
    simp only[List.flatMap_cons,List.flatMap_nil,cP]
    rfl
  ·rintro ρ s ⟨o6,o7,o8,o9,o10,oA,nQ,o13,_,rfl,rfl⟩
   rw[show(bK 0 ((k+1:Nat):Int).toNat).length=k+1 by simp[bK],<- hen]
   refine⟨_,_,fC (mV (ag rfl) (eV (zT _ _ _)) (aj (ag rfl) aF) (nE (zT _ _ _) (by simp;show _<1000000;omega))),_,_,_,_,_,_,_,_,_,_,by omega,rfl,?_⟩
   rw[gJ,zj]
   show st++([_,am.lst (KD st.length k++[W.loc (st.length+(3+k))]),_]++_++_)=st++([_,am.lst (KD st.length (k+1)),_]++_++[])
   have e1:KD st.length k++[W.loc (st.length+(3+k))]=KD st.length (k+1):=by
    unfold KD
    rw[c8 (n:=k+1),bu]
    simp only[aT,c_]
    rw[aE (by omega),show k+1+2=3+k by omega]
   rw[e1,c8,bu,cP,aY];rfl
 ·rintro ρ s ⟨o4,o5,o6,o7,o8,o9,o10,oA,nQ,o13,_,rfl,rfl⟩
  rw[show(bK 1 (((most:Int)+1)-1).toNat).length=most by simp[bK]]
  exact cB (ag rfl) ⟨_,_,rfl,2,_,rfl,rfl,zD _ _ _⟩
end
theorem zm(l:List Nat)(k:Nat)(st:List am):gp (k+1) [.str l,.str l] st=.ok (.bl true) st:=by
 refine fZ (N:=3) (ws:=[.str l,.str l]) (body:=vJ (gp k)) ?_ rfl
 (walk_at "go")
 apply cB
 ·apply sE
  ·(walk_at "evs")
  ·(walk_at "evs")
 ·exact⟨_,_,rfl,by simp,[],by simp⟩
theorem rq(b:Bool)(k:Nat)(st:List am):gp (k+1) [.bl b,.bl b] st=.ok (.bl true) st:=by
 have hb:jY (.bl b) (.bl b) st=.ok (.bl true) st:=Pm (by simp)
 refine fZ (N:=3) (ws:=[.bl b,.bl b]) (body:=vJ (gp k)) ?_ rfl
 apply bG
 ·(walk_at "evs")
 apply bY
 apply bG
 ·(walk_at "evs")
 apply bY
 apply e_
 ·(walk_at "evs")
 apply fJ
 ·apply sE
  ·(walk_at "evs")
  ·(walk_at "evs")
 ·exact⟨_,_,rfl,rfl,[],by simp⟩
theorem Dn(k:Nat)(st:List am):gp (k+1) [.non,.non] st=.ok (.bl true) st:=by
 refine fZ (N:=3) (ws:=[.non,.non]) (body:=vJ (gp k)) ?_ rfl
 apply bG
 ·(walk_at "evs")
 apply bY
 apply e_
 ·(walk_at "evs")
 apply fJ
 ·(walk_at "evs")
 ·exact⟨_,_,rfl,rfl,[],by simp⟩
theorem sK{nm:List Nat}{E:List Ro}{T:List (List W)}(h:rZ nm E T)(hT:∀(i:Nat) (e:Ro),E[i]?=some e->0<i->e.2.l<i/\e.2.r<i):∀(n i:Nat) (t:List W),i<n->T[i]?=some t->∀w∈t,∃(z:Int) (m:List Nat),w=.tup [.int z,.str m]
 |0,i,t,hi,_=>absurd hi (bz _)
 |n+1,i,t,hi,ht=>fun w hw=>by
  have hl:i<E.length:=by rw[<- h.len];exact(aa.mp ht).1
  obtain⟨t',ht',_,_,h1|⟨h0,tl,tr,r1,r2,_,_,rfl⟩⟩:=h.at' i _ (ae hl)
  ·rw[ht]at ht';cases ht'
   rw[h1.2]at hw;cases hw
  ·rw[ht]at ht';cases ht'
   obtain⟨a,b⟩:=hT i _ (ae hl) h0
   unfold jn at hw
   rcases a9.mp hw with hw|hw
   ·rcases a9.mp hw with hw|hw
    ·exact sK h hT n _ tl (by omega) r1 w hw
    ·exact sK h hT n _ tr (by omega) r2 w hw
   ·exact⟨_,_,bU.mp hw⟩
theorem vR{M:Mc}{N:Nat}{E:List Ro}{R:List W}{T:List (List W)}(A:All M N E R T){i:Nat}{e:Ro}{t:List W}(he:E[i]?=some e)(ht:T[i]?=some t)(hs:e.2.s<=100)(k:Nat)(st:List am):gp (k+3) [.tup t,.tup t] st=.ok (.bl true) st:=by
 obtain⟨t',ht',hta⟩:=A.trees.at' i e he
 rw[ht]at ht';cases ht'
 refine iN (by rw[hta.1];omega) fun w hw=>?_
 obtain⟨z,m,rfl⟩:=sK A.trees (fun i e he hi=>⟨(A.full.told.row i e he hi).1,(A.full.told.row i e he hi).2.1⟩) (i+1) i t (by omega) ht w hw
 refine iN (aq rfl) fun w hw=>?_
 simp only[a8,dN,jt]at hw
 rcases hw with rfl|rfl
 ·exact iO _ _ st
 ·exact zm _ _ st
theorem Jq{fo fk:FE}{ρ:cf}{st:List am}{n q:Nat}{kvs:List (DK×W)}(h1:fo ρ st=.ok (.loc n) st)(h2:fk ρ st=.ok (.int (q:Nat)) st)(h:fI st (.loc n)=some (n,kvs)):wH fo fk ρ st=.ok ((hX kvs (.i q)).getD .non) st:=by
 unfold wH
 rw[h1];simp only[R.bind_ok,h]
 rw[h2];simp only[R.bind_ok,h,iI]
theorem KF(q:Nat):∀l:List Nat,pX (.int (q:Nat)) (l.map fun k=>W.int (k:Nat))=some (decide (q∈l))
 |[]=>rfl
 |x::l=>by
  simp only[List.map,pX,KF q l]
  simp only[db]
  by_cases h:x=q
  ·subst h;simp
  ·have h1:((x:Int)==(q:Int))=false:=by rw[aS];omega
   have h2:(q∈x::l)↔q∈l:=by simp[Ne.symm h]
   simp[h1,h2,Ne.symm h]
theorem KG:∀l:List Nat,depWs (l.map fun k=>W.int (k:Nat))=0
 |[]=>rfl
 |l::ls=>by simp only[List.map,depWs,W.dep,KG ls];rfl
theorem GE{st:List am}{n q:Nat}{l:List Nat}(h:st[n]?=some (.lst (l.map fun k=>W.int (k:Nat)))):zL false (.int (q:Nat)) (.loc n) st=.ok (.bl (decide (q∈l))) st:=by
 simp[zL,h,KF,KG]
section
variable{M:Mc}{N:Nat}{E:List Ro}{R:List W}{T:List (List W)}{st:List am}
abbrev small(E:List Ro)(T:List (List W))(j:Nat):List (Ro×List W):=((E.zip T).take j).filter fun p=>decide (p.1.2.s<=100)
theorem GF(A:All M N E R T)(j:Nat):((small E T j).map (fun p:Ro×List W=>p.1.1)).Nodup:=by
 refine fw (List.filter_sublist.map _) ?_
 rw[ie,zd M.nm A.trees]
 exact fw (gB _ _) A.full.told.nd
theorem ux(A:All M N E R T){j i:Nat}{e:Ro}{t:List W}(he:E[i]?=some e)(ht:T[i]?=some t)(hi:i<j)(hs:e.2.s<=100):hX (rg (small E T j)) (.i (e.1:Nat))=some (.tup t):=
 uk (f:=fun p:Ro×List W=>p.1.1) (g:=fun p=>W.tup p.2) (a:=(e,t)) (GF A j) (cD.mpr ⟨aA (i:=i) (by rw[aN hi];exact pE A.trees he ht),a_ hs⟩)
theorem lP(A:All M N E R T){j:Nat}{f:Ro}{t:List W}(hf:E[j]?=some f)(ht:T[j]?=some t):small E T (j+1)=small E T j++(if f.2.s<=100 then[(f,t)]else[]):=by
 unfold small
 rw[dZ,pE A.trees hf ht,List.filter_append]
 congr 1
 by_cases z:f.2.s<=100
 ·rw[aB z];simp[z]
 ·rw[aE z];simp[z]
theorem Do(A:All M N E R T){j:Nat}{f:Ro}(hf:E[j]?=some f):f.1∉(small E T j).map (fun p:Ro×List W=>p.1.1):=fun z=>by
 obtain⟨p,hp,e⟩:=aL.mp z
 have hp:=(cD.mp hp).1
 obtain⟨k,hk⟩:=br hp
 have hkj:k<j:=by have:=(aa.mp hk).1;rw[bb]at this;omega
 rw[aN hkj]at hk
 exact oU A.full.told.nd (ei.mp hk).1 hf hkj e
end
abbrev GG:List Nat:=[114,101,102,117,115,101,100]
abbrev Nk:W:=.tup [.str GG,.bl true,.bl true,.bl false]
abbrev zn(st:List am):Prop:=st[1]?=some (.tab 177 ⟨64,29,64,52⟩ "firsts_of.<locals>.<lambda>")
section
variable{M:Mc}{N:Nat}{E:List Ro}{R:List W}{T:List (List W)}{st:List am}
theorem Dp(A:All M N E R T)(ht:zn st){q:Nat}(hq:q∉E.map Prod.fst):yO [M.w,.int (q:Nat)] st=.ok .non st:=by
 refine fZ (N:=4) (ws:=[M.w,.int (q:Nat)]) (body:=IQ) ?_ rfl
 apply aH
 ·exact bS (cA (aj (ag rfl) aF) (A.lam ht) rfl)
 refine dO (fun i ρ s=>∃o,ρ=[some M.w,some (.int (q:Nat)),some (.tup R),o]/\s=st) (k:=(R,none)) (st1:=st) (jQ (ag rfl)) ⟨_,rfl,rfl⟩ (fun _ _ _ _=>trivial) ?_ ?_
 ·rintro j v ρ s hv ⟨o,rfl,rfl⟩
  have hj:j<E.length:=by rw[<- A.rows.len];exact(aa.mp hv).1
  have hf:E[j]?=some E[j]:=ae hj
  generalize E[j]=f at hf
  obtain⟨v',hv',rv⟩:=A.rows.at' j f hf
  rw[hv]at hv';cases hv'
  obtain⟨tv,rfl⟩:=rv.sh
  have oz:f.1≠q:=fun z=>hq (z▸aL.mpr ⟨f,aA hf,rfl⟩)
  refine⟨_,rfl,f' (bR (bc (bc (ag rfl) bD (cn rfl)) (ag rfl) (fY (by rw[aS];omega)))) ⟨_,_,rfl,_,rfl,rfl⟩⟩
 ·rintro ρ s ⟨o,rfl,rfl⟩
  exact cB bD ⟨_,_,rfl,rfl,[],by simp⟩
theorem B6(A:All M N E R T)(ht:zn st){i:Nat}{e:Ro}{t:List W}(he:E[i]?=some e)(hi:T[i]?=some t):yO [M.w,.int (e.1:Nat)] st=if e.2.s<=100 then .ok (.tup t) st else .ex "TooGreat" st:=by
 obtain⟨w,hw,m5⟩:=A.rows.at' i e he
 obtain⟨t',ht',hta⟩:=A.trees.at' i e he
 rw[hi]at ht';cases ht'
 have tl:=Ji (st:=st) A.ok (by have:=A.nm;omega) A.n9 A.full.told A.rows A.trees he hi hw
 have miss:∀(j:Nat) (v:W),j<i->R[j]?=some v->∀o:Option W,∃ρ',eU 3 v [some M.w,some (.int (e.1:Nat)),some (.tup R),o]=some ρ'/\gH (E9 fun ρ s=>∃o,ρ=[some M.w,some (.int (e.1:Nat)),some (.tup R),o]/\s=st) ((hV (eZ (e2 jY (e2 bC (ah 3) (eI 0)) (ah 1))) (dk (dq 3 Dd (ai (ah 0) (ai (ah 2) (ai (ah 3) aD))))) cK) ρ' st):=fun j v hji hv o=>by
  have hj:j<E.length:=by rw[<- A.rows.len];exact(aa.mp hv).1
  have hf:E[j]?=some E[j]:=ae hj
  generalize E[j]=f at hf
  obtain⟨v',hv',rv⟩:=A.rows.at' j f hf
  rw[hv]at hv';cases hv'
  obtain⟨tv,rfl⟩:=rv.sh
  have oz:f.1≠e.1:=oU A.full.told.nd hf he hji
  exact⟨_,rfl,f' (bR (bc (bc (ag rfl) bD (cn rfl)) (ag rfl) (fY (by rw[aS];omega)))) ⟨_,_,rfl,_,rfl,rfl⟩⟩
 obtain⟨tv,rfl⟩:=m5.sh
 by_cases hs:e.2.s<=100
 ·rw[aB hs]at tl ⊢
  refine fZ (N:=4) (ws:=[M.w,.int (e.1:Nat)]) (body:=IQ) ?_ (by simp only[undWs,bL];unfold W.und;exact hta.2.1 _)
  apply aH
  ·exact bS (cA (aj (ag rfl) aF) (A.lam ht) rfl)
  refine uo (fun i ρ s=>∃o,ρ=[some M.w,some (.int (e.1:Nat)),some (.tup R),o]/\s=st) (kw:=(R,none)) (st1:=st) i _ (jQ (ag rfl)) hw ⟨_,rfl,rfl⟩ (fun _ _ _ _=>trivial) ?_ ?_
  ·rintro j v ρ s hj hv ⟨o,rfl,rfl⟩
   exact miss j v hj hv o
  ·rintro ρ s ⟨o,rfl,rfl⟩
   exact⟨_,rfl,.inl ⟨_,_,nC (bR (bc (bc (ag rfl) bD (cn rfl)) (ag rfl) (fY (by rw[cz])))) (yB (cA (aj (ag rfl) (aj (ag rfl) (aj (ag rfl) aF))) tl rfl)),_,_,rfl,rfl,[],by simp⟩⟩
 ·rw[aE hs]at tl ⊢
  refine wK (N:=4) (ws:=[M.w,.int (e.1:Nat)]) (body:=IQ) ?_
  apply aH
  ·exact bS (cA (aj (ag rfl) aF) (A.lam ht) rfl)
  refine uo (fun i ρ s=>∃o,ρ=[some M.w,some (.int (e.1:Nat)),some (.tup R),o]/\s=st) (kw:=(R,none)) (st1:=st) i _ (jQ (ag rfl)) hw ⟨_,rfl,rfl⟩ (fun _ _ _ _=>trivial) ?_ ?_
  ·rintro j v ρ s hj hv ⟨o,rfl,rfl⟩
   exact miss j v hj hv o
  ·rintro ρ s ⟨o,rfl,rfl⟩
   exact⟨_,rfl,.inr (.inl ⟨_,_,_,nC (bR (bc (bc (ag rfl) bD (cn rfl)) (ag rfl) (fY (by rw[cz])))) (Fb (t_ (aj (ag rfl) (aj (ag rfl) (aj (ag rfl) aF))) tl rfl)),_,_,rfl,[],by simp⟩)⟩
theorem xi{q:Nat}{v:W}(h:yO [M.w,.int (q:Nat)] st=.ok v st)(hu:undWs st.length [v]=true):rV [M.w,.int (q:Nat)] st=.ok v st:=by
 refine fZ (N:=7) (ws:=[M.w,.int (q:Nat)]) (body:=FY) ?_ hu
 apply aH
 ·exact bS (fj (aj bD (aj bD (aj bD (aj bD aF)))) (aq rfl))
 apply aH
 ·exact Fc (bS (cA (aj (ag rfl) (aj (ag rfl) aF)) h rfl))
 exact cB (ag rfl) ⟨_,_,rfl,rfl,[],by simp⟩
theorem B7{q:Nat}(h:yO [M.w,.int (q:Nat)] st=.ex "TooGreat" st):rV [M.w,.int (q:Nat)] st=.ok Nk st:=by
 refine fZ (N:=7) (ws:=[M.w,.int (q:Nat)]) (body:=FY) ?_ rfl
 apply aH
 ·exact bS (fj (aj bD (aj bD (aj bD (aj bD aF)))) (aq rfl))
 have hx:(st++[am.exc "TooGreat"])[st.length]?=some (.exc "TooGreat"):=by rw[dS];rfl
 apply aH
 ·exact Fd (c:="TooGreat") (st1:=st) (Fa (t_ (aj (ag rfl) (aj (ag rfl) aF)) h rfl)) (by decide) (rR (bS (Fe (ag rfl) hx rfl)) (rR (bS (Fe (ag rfl) hx rfl)) (rR (bS (Fe (ag rfl) hx rfl)) (bS (fj (aj bD (aj (ag rfl) (aj (ag rfl) (aj (ag rfl) aF)))) (aq rfl))))))
 exact cB (ag rfl) ⟨_,_,rfl,rfl,_,rfl⟩
end
theorem zo(k:Nat)(st:List am):gp (k+2) [Nk,Nk] st=.ok (.bl true) st:=by
 refine iN (aq rfl) fun w hw=>?_
 simp only[a8,dN,jt]at hw
 rcases hw with rfl|rfl|rfl|rfl
 ·exact zm _ _ st
 ·exact rq _ _ st
 ·exact rq _ _ st
 ·exact rq _ _ st
theorem GH:∀(l:List W),(∀w∈l,∃(z:Int) (m:List Nat),w=.tup [.int z,.str m])->eqWs l l=some true/\depWs l<=1
 |[],_=>⟨rfl,by simp[depWs]⟩
 |w::l,h=>by
  obtain⟨z,m,rfl⟩:=h w (by simp)
  obtain⟨h1,h2⟩:=GH l fun w hw=>h w (by simp[hw])
  refine⟨?_,?_⟩
  ·simp[eqWs,db,h1]
  ·simp only[depWs]
   have:(W.tup [.int z,.str m]).dep<=1:=by simp[W.dep,depWs]
   omega
section
variable{M:Mc}{N:Nat}{E:List Ro}{R:List W}{T:List (List W)}{st:List am}
abbrev g_(E:List Ro)(j:Nat):List Nat:=(((E.take j).filter fun e=>decide (100<e.2.s)).map Prod.fst)
theorem uy{E:List Ro}{j:Nat}{f:Ro}(hf:E[j]?=some f):g_ E (j+1)=g_ E j++(if 100<f.2.s then[f.1]else[]):=by
 unfold g_
 rw[dZ,hf,List.filter_append,bu]
 congr 1
 by_cases z:100<f.2.s
 ·rw[aB z];simp[z]
 ·rw[aE z];simp[z]
theorem xj(A:All M N E R T)(Cd:M.nm.length<=5)(SU:N<=9)(ht:zn st):y0 [M.w] st=.ok (.bl true) st:=by
 have cR:=A.full.told.len
 have hE0:=A.full.told.len0
 have hL:M.tb.length<=1000:=by rw[A.ok.tb];exact a7 (eG (by omega) Cd) (by decide)
 have hrk:=Dj (st:=st) A.ok A.n9 hL A.full.told A.rows A.full.cov
 obtain⟨F,hF⟩:=Jn M.nm A.full.told
 obtain⟨r0,hr0⟩:=A.full.told.zero
 refine fZ (N:=9) (ws:=[M.w]) (body:=Kz) ?_ rfl
 apply aH
 ·exact bS (cA (aj (ag rfl) aF) (A.lam ht) rfl)
 refine bG (nB (a:=true) (bR (cA (aj (ag rfl) (aj (ag rfl) aF)) hrk rfl)) rfl) ?_
 apply bY
 apply aH
 ·exact bS w_
 apply aH
 ·(walk_at "evs")
 have hz1:rg (small E T 1)=[(DK.i 0,W.tup [])]:=by
  obtain⟨t0,h0,_,_,h1|⟨h1,_⟩⟩:=A.trees.at' 0 (0,⟨0,0,0,0⟩) (by rw[hr0];rfl)
  ·obtain⟨_,rfl⟩:=h1
   have:=lP A (j:=0) (f:=(0,⟨0,0,0,0⟩)) (t:=[]) (by rw[hr0];rfl) h0
   rw[this];rfl
  ·exact absurd h1 (bo _)
 have hg1:g_ E 1=[]:=by
  have:=uy (E:=E) (j:=0) (f:=(0,⟨0,0,0,0⟩)) (by rw[hr0];rfl)
  rw[this];rfl
 rw[show(st++[am.dct [(DK.i 0,W.tup [])]]).length=st.length+1 by simp,show st++[am.dct [(DK.i 0,W.tup [])]]++[am.lst []]=st++[.dct (rg (small E T 1)),.lst ((g_ E 1).map fun k=>W.int (k:Nat))] by rw[hz1,hg1];simp]
 refine dO (fun j ρ s=>∃o4 o5 o6:Option W,ρ=[some M.w,some (.tup R),some (.loc st.length),some (.loc (st.length+1)),o4,o5,o6,none,none]/\s=st++[.dct (rg (small E T (j+1))),.lst ((g_ E (j+1)).map fun k=>W.int (k:Nat))]) (k:=(R.drop 1,none)) (st1:=st++[.dct (rg (small E T 1)),.lst ((g_ E 1).map fun k=>W.int (k:Nat))])
  (jQ (uU (ag rfl) (sv bD) yA (by rw[BN];exact fM (fun z=>L2.R.ok (W.tup z) _) (on (q:=1) (by rw[A.rows.len];exact hE0))))) ⟨_,_,_,rfl,rfl⟩ (fun _ _ _ _=>trivial) ?_ ?_
 ·rintro j v ρ s hv ⟨o4,o5,o6,rfl,rfl⟩
  rw[List.getElem?_drop,Nat.add_comm]at hv
  have hj:j+1<E.length:=by rw[<- A.rows.len];exact(aa.mp hv).1
  have hf:E[j+1]?=some E[j+1]:=ae hj
  generalize E[j+1]=f at hf
  obtain⟨v',hv',rv⟩:=A.rows.at' _ f hf
  rw[hv]at hv';cases hv'
  obtain⟨tf,htf,hl,hu,htr⟩:=A.trees.at' _ f hf
  obtain⟨_,el,er,q1,q2,rfl⟩:0<j+1/\∃el er:Ro,E[f.2.l]?=some el/\E[f.2.r]?=some er/\v=.tup [.int (f.1:Nat),.int (f.2.s:Nat),.tup [.int (el.1:Nat),.int (er.1:Nat),.int (f.2.a:Nat)]]:=by
   rcases rv with⟨h,_⟩|h
   ·omega
   ·exact h
  obtain⟨hl1,hr1,el',er',q1',q2',ha,hTe,hss⟩:=A.full.told.row _ _ hf (by omega)
  rw[q1]at q1';rw[q2]at q2'
  cases q1';cases q2'
  obtain⟨tl,tr,r1,r2,u1,u2,hj3⟩:∃tl tr,T[f.2.l]?=some tl/\T[f.2.r]?=some tr/\(∀n,undWs n tl=true)/\(∀n,undWs n tr=true)/\tf=jn M.nm tl tr f.2.a:=by
   rcases htr with⟨h,_⟩|⟨_,h⟩
   ·omega
   ·exact h
  have nM:=lP A hf htf
  have hgs:=uy hf
  have hd:(st++[am.dct (rg (small E T (j+1))),.lst ((g_ E (j+1)).map fun k=>W.int (k:Nat))])[st.length]?=some (.dct (rg (small E T (j+1)))):=by rw[dS];rfl
  have hg:(st++[am.dct (rg (small E T (j+1))),.lst ((g_ E (j+1)).map fun k=>W.int (k:Nat))])[st.length+1]?=some (.lst ((g_ E (j+1)).map fun k=>W.int (k:Nat))):=by rw[d_];rfl
  have hsl:(small E T (j+1)).length<=E.length:=a7 (ej _ _) (by rw[bb,List.length_zip];omega)
  have hgl:(g_ E (j+1)).length<=E.length:=by
   rw[az];exact a7 (ej _ _) (by rw[bb];omega)
  refine⟨_,rfl,?_⟩
  by_cases hs:100<f.2.s
  ·apply jp
   ·exact bR (bc (ag rfl) bD (iJ (a_ (by omega))))
   refine⟨_,_,fC (mV (ag rfl) (eV hg) (aj (ag rfl) aF) (nE hg (by rw[az];show _<1000000;omega))),_,_,_,rfl,?_⟩
   rw[gJ,nM,aE (by omega),cP,hgs,aB hs,bu];rfl
  ·apply f'
   ·exact bR (bc (ag rfl) bD (iJ (aU (by omega))))
   have gl:=ux A q1 r1 hl1 (by omega)
   have gr:=ux A q2 r2 hr1 (by omega)
   have hll:tl.length+tr.length+1<=100:=by have:=uq M.nm tl tr f.2.a;rw[<- hj3,hl]at this;omega
   refine⟨_,_,mK (cA (aj (bc (ag rfl) (bc (ag rfl) bD (cn rfl)) (jI (fK hd) gl)) (aj (bc (ag rfl) (bc (ag rfl) bD (cn rfl)) (jI (fK hd) gr)) (aj (cA (aj (bc (ag rfl) bD (cn rfl)) (aj (bc (ag rfl) bD (cn rfl)) aF)) (zk M.nm f.2.a (by omega) _) rfl) aF))) (xg M.nm tl tr f.2.a (by omega) u1 u2 _) rfl) (ag rfl) (ag rfl) (q_ (q:=f.1) hd (by rw[lY];show _<1000000;omega)),_,_,_,rfl,?_⟩
   rw[fF,<- hj3,nM,aB (by omega),hgs,aE hs,cP,show p9 (rg (small E T (j+1))) (.i (f.1:Nat)) (W.tup tf)=rg (small E T (j+1)++[(f,tf)])from q9 (f:=fun p:Ro×List W=>p.1.1) (g:=fun p=>W.tup p.2) (a:=(f,tf)) (Do A hf)]
   rfl
 ·rintro ρ s ⟨o4,o5,o6,rfl,rfl⟩
  rw[show(R.drop 1).length+1=E.length by rw[dH,A.rows.len];omega]
  generalize oI:st++[am.dct (rg (small E T E.length)),.lst ((g_ E E.length).map fun k=>W.int (k:Nat))]=s1
  have Bd:s1[st.length]?=some (.dct (rg (small E T E.length))):=by rw[<- oI,dS];rfl
  have hg1:s1[st.length+1]?=some (.lst ((g_ E E.length).map fun k=>W.int (k:Nat))):=by rw[<- oI,d_];rfl
  have p1:st <+: s1:=by rw[<- oI];exact aC _ _
  obtain⟨fd,x,es,hfd,_⟩:=GD (st:=s1) A Cd
  apply aH
  ·exact bS (cA (aj (ag rfl) aF) es rfl)
  generalize xP:s1++x=s2 at hfd
  have p2:s1 <+: s2:=by rw[<- xP];exact aC _ _
  have A':=pre_get p2 Bd
  have hg2:=pre_get p2 hg1
  have ht2:zn s2:=pre_get (p1.trans p2) ht
  have hlenG:∀s:List am,de [.tup (M.gd.map W.bl)] s=.ok (.int (N:Nat)) s:=fun s=>by rw[gc,az,A.ok.gd]
  refine dO (fun q ρ s=>∃o4 o8:Option W,ρ=[some M.w,some (.tup R),some (.loc st.length),some (.loc (st.length+1)),o4,o5,o6,some (.loc fd),o8]/\s=s2) (k:=(bK 0 (N:Int).toNat,none)) (st1:=s2)
   (df (aj (bA (aj (bc (ag rfl) bD (cn rfl)) aF) (hlenG _)) aF) (by omega)) ⟨_,_,rfl,rfl⟩ (fun _ _ _ _=>trivial) ?_ ?_
  ·rintro q w ρ s hw ⟨o4,o8,rfl,rfl⟩
   obtain⟨hq,rfl⟩:=du hw
   rw[a6]at hq
   rw[eB]
   refine⟨_,rfl,?_⟩
   have din:(hX (rg (small E T E.length)) (.i (q:Nat))).isSome=decide (∃p∈small E T E.length,p.1.1=q):=by
    rw[rX,jG,bZ,bZ,aL]
   have smallNo:∀t,(all M.tb.length (oV M.nm.length)).find? (fun t=>decide (t.rm (cC M)=q))=some t->∃(i:Nat) (e:Ro),E[i]?=some e/\F[i]?=some t/\e.1=q/\e.2.s<=5:=fun t hf=>by
    obtain⟨i,e,h1,h2,h3,h4⟩:=Dk hF A.full hf
    refine⟨i,e,h1,h2,h3,a7 h4 ?_⟩
    generalize M.nm.length=c at Cd
    match c,Cd with
    |0,_|1,_|2,_|3,_|4,_|5,_=>decide
   have inFd:∀ρ:cf,ρ[4]?=some (some (.int (q:Nat)))->ρ[7]?=some (some (.loc fd))->eZ (e2 (lp false) (ah 4) (ah 7)) ρ s=.ok (((all M.tb.length (oV M.nm.length)).find? (fun t=>decide (t.rm (cC M)=q))).isSome) s:=fun ρ r4 r7=>
    bR (bc (ag r4) (ag r7) (nI (fK hfd) (by rw[aE (by decide),GC,gC])))
   apply aH
   ·exact bS (Jq (q:=q) (ag rfl) (ag rfl) (fK A'))
   by_cases hr:q∈E.map Prod.fst
   ·obtain⟨e,hem,rfl⟩:=aL.mp hr
    obtain⟨i,he⟩:=br hem
    have hil:=(aa.mp he).1
    obtain⟨t,hti,hta⟩:=A.trees.at' i e he
    have tat:=B6 (st:=s) A ht2 he hti
    have one:∀(i':Nat) (e':Ro),E[i']?=some e'->e'.1=e.1->i'=i/\e'=e:=fun i' e' h1 h2=>by
     have:=qf A.full.told.nd (aA h1) hem h2
     subst this
     rcases iY i' i with z|z|z
     ·exact(oU A.full.told.nd h1 he z rfl).elim
     ·exact⟨z,rfl⟩
     ·exact(oU A.full.told.nd he h1 z rfl).elim
    by_cases hs:e.2.s<=100
    ·rw[aB hs]at tat
     rw[ux A he hti hil hs]
     have hng:e.1∉g_ E E.length:=fun z=>by
      obtain⟨f,hf,e1⟩:=aL.mp z
      obtain⟨hf1,hf2⟩:=cD.mp hf
      obtain⟨i',hi'⟩:=br (gR hf1)
      have:=(one i' f hi' e1).2
      rw[this]at hf2
      have:=fP hf2
      omega
     refine bG (bR (bc (ag rfl) (ag rfl) (by rw[GE hg2,aU hng]))) ?_
     apply bY
     have qo:=sK A.trees (fun i e he hi=>⟨(A.full.told.row i e he hi).1,(A.full.told.row i e he hi).2.1⟩) (i+1) i t (by omega) hti
     have tst:∀ρ:cf,ρ[4]?=some (some (.int (e.1:Nat)))->ρ[7]?=some (some (.loc fd))->ρ[8]?=some (some (.tup t))->Ei (eZ (e2 (lp false) (ah 4) (ah 7))) (eZ (e2 CU (ah 8) (e2 jx (ah 7) (ah 4)))) ρ s=.ok false s:=fun ρ r4 r7 r8=>by
      cases hf:(all M.tb.length (oV M.nm.length)).find? (fun t=>decide (t.rm (cC M)=e.1))with
      |none=>exact lS (by rw[inFd ρ r4 r7,hf];rfl)
      |some u=>
       obtain⟨i',e',h1,h2,h3,_⟩:=smallNo u hf
       obtain⟨rfl,rfl⟩:=one i' e' h1 h3
       have hwd:=hF.wood A.full.told A.trees (i'+1) i' u t (by omega) h2 hti
       have hget:hX (fD (cC M) M.nm (all M.tb.length (oV M.nm.length))) (.i (e'.1:Nat))=some (.tup t):=by rw[GC,hf,hwd];rfl
       obtain⟨q1,q2⟩:=GH t qo
       refine lR (by rw[inFd ρ r4 r7,hf];rfl) (bR (bc (ag r8) (bc (ag r7) (ag r4) (jI (fK hfd) hget)) ?_))
       have e1:db (.tup t) (.tup t)=some true:=by simp only[db,q1]
       unfold CU
       rw[e1]
       simp only
       rw[aB (.inr (by simp only[W.dep];omega))];rfl
     refine bG (tst _ rfl rfl rfl) ?_
     apply bY
     refine f' (nB (a:=true) (bR (cA (aj (cA (aj (ag rfl) (aj (ag rfl) aF)) (xi tat (by simp only[undWs,bL];unfold W.und;exact hta.2.1 _)) rfl) (aj (ag rfl) aF)) (vR A he hti hs 37 _) rfl)) rfl) ?_
     exact⟨_,_,rfl,_,_,rfl,rfl⟩
    ·rw[aE hs]at tat
     have hgt:e.1∈g_ E E.length:=aL.mpr ⟨e,cD.mpr ⟨by rw[jd];exact hem,a_ (by omega)⟩,rfl⟩
     have hno:(all M.tb.length (oV M.nm.length)).find? (fun t=>decide (t.rm (cC M)=e.1))=none:=by
      cases hf:(all M.tb.length (oV M.nm.length)).find? (fun t=>decide (t.rm (cC M)=e.1))with
      |none=>rfl
      |some u=>
       obtain⟨i',e',h1,h2,h3,h4⟩:=smallNo u hf
       obtain⟨rfl,rfl⟩:=one i' e' h1 h3
       omega
     apply e_
     ·exact bR (bc (ag rfl) (ag rfl) (by rw[GE hg2,a_ hgt]))
     apply aH
     ·exact bS (fj (aj bD (aj bD (aj bD (aj bD aF)))) (aq rfl))
     refine bG (lS (by rw[inFd _ rfl rfl,hno];rfl)) ?_
     apply bY
     refine f' (nB (a:=true) (bR (cA (aj (cA (aj (ag rfl) (aj (ag rfl) aF)) (B7 tat) rfl) (aj (ag rfl) aF)) (zo 38 _) rfl)) rfl) ?_
     exact⟨_,_,rfl,_,_,rfl,rfl⟩
   ·have hn1:hX (rg (small E T E.length)) (.i (q:Nat))=none:=by
     have:(hX (rg (small E T E.length)) (.i (q:Nat))).isSome=false:=by
      rw[din]
      refine aU fun⟨p,hp,e1⟩=>hr ?_
      obtain⟨k,hk⟩:=br (gR (cD.mp hp).1)
      exact e1▸aL.mpr ⟨p.1,aA (ei.mp hk).1,rfl⟩
     rwa[Option.isSome_eq_false_iff,Option.isNone_iff_eq_none]at this
    rw[hn1]
    have hng:q∉g_ E E.length:=fun z=>by
     obtain⟨f,hf,e1⟩:=aL.mp z
     exact hr (e1▸aL.mpr ⟨f,gR (cD.mp hf).1,rfl⟩)
    have hno:(all M.tb.length (oV M.nm.length)).find? (fun t=>decide (t.rm (cC M)=q))=none:=by
     cases hf:(all M.tb.length (oV M.nm.length)).find? (fun t=>decide (t.rm (cC M)=q))with
     |none=>rfl
     |some u=>
      obtain⟨i',e',h1,h2,h3,h4⟩:=smallNo u hf
      exact(hr (h3▸aL.mpr ⟨e',aA h1,rfl⟩)).elim
    refine bG (bR (bc (ag rfl) (ag rfl) (by rw[GE hg2,aU hng]))) ?_
    apply bY
    refine bG (lS (by rw[inFd _ rfl rfl,hno];rfl)) ?_
    apply bY
    refine f' (nB (a:=true) (bR (cA (aj (cA (aj (ag rfl) (aj (ag rfl) aF)) (xi (Dp A ht2 hr) rfl) rfl) (aj (ag rfl) aF)) (Dn 39 _) rfl)) rfl) ?_
    exact⟨_,_,rfl,_,_,rfl,rfl⟩
  ·rintro ρ s ⟨o4,o8,rfl,rfl⟩
   obtain⟨y,hy⟩:=p1.trans p2
   exact cB bD ⟨_,_,rfl,rfl,y,hy.symm⟩
end
theorem zp{f:FG}{el:FE}{ck:Option (Nat×List W)}{ρ0:cf}(I:Nat->List W->List am->Prop):∀{ws acc:List W} {st:List am} (i0:Nat),I i0 acc st->(∀i acc st,I i acc st->iG st ck) ->
  (∀i w acc st,ws[i]?=some w->I (i0+i) acc st->∃ρ' v st2,f w ρ0=some ρ'/\el ρ' st=.ok v st2/\I (i0+i+1) (acc++[v]) st2) ->
  ∃acc2 st2,mI f iB el ck ρ0 ws acc st=.ok acc2 st2/\I (i0+ws.length) acc2 st2
 |[],acc,st,i0,h0,hc,hs=>⟨acc,st,by unfold mI;rw[aB (hc _ _ _ h0)],h0⟩
 |w::ws,acc,st,i0,h0,hc,hs=>by
  obtain⟨ρ',v,st2,e1,e2,h1⟩:=hs 0 w acc st rfl h0
  obtain⟨acc3,jT,e3,h3⟩:=zp I (ws:=ws) (acc:=acc++[v]) (st:=st2) (i0+1) h1 hc fun i w acc st hw hI=>by
   obtain⟨a,b,c,d,e,g⟩:=hs (i+1) w acc st (by simpa using hw) (by rw[show i0+(i+1)=i0+1+i by omega];exact hI)
   exact⟨a,b,c,d,e,by rw[show i0+1+i+1=i0+(i+1)+1 by omega];exact g⟩
  refine⟨acc3,jT,?_,by rw[bf,show i0+(ws.length+1)=i0+1+ws.length by omega];exact h3⟩
  unfold mI
  rw[aB (hc _ _ _ h0),e1]
  simp only[iB,e2]
  exact e3
theorem B8{cap:List (Option Nat)}{fi:FI}{f:FG}{el:FE}{ρ:cf}{st st1:List am}{ws:List W}{ck:Option (Nat×List W)}(I:Nat->List W->List am->Prop)(h:fi ρ st=.ok (ws,ck) st1)(hl:ws.length<=kJ)(h0:I 0 [] st1)(hc:∀i acc st,I i acc st->iG st ck)
  (hs:∀i w acc st,ws[i]?=some w->I i acc st->∃ρ' v st2,f w (lN cap ρ)=some ρ'/\el ρ' st=.ok v st2/\I (i+1) (acc++[v]) st2) (hL:∀acc st,I ws.length acc st->acc.length<=kJ) :
  ∃acc s,I ws.length acc s/\dR cap fi f iB el ρ st=.ok (.loc s.length) (s++[.lst acc]):=by
 obtain⟨acc,s,e,h2⟩:=zp (f:=f) (el:=el) (ck:=ck) (ρ0:=lN cap ρ) I (ws:=ws) (acc:=[]) (st:=st1) 0 h0 hc fun i w acc st hw hI=>by
  rw[gm]at hI ⊢
  exact hs i w acc st hw hI
 rw[gm]at h2
 refine⟨acc,s,h2,?_⟩
 unfold dR
 rw[h]
 simp only[R.bind_ok]
 rw[aB hl,e]
 simp only[R.bind_ok,mF]
 rw[aB (hL _ _ h2)]
def fE:Nat->Nat->List Nat
 |0,_=>[]
 |k+1,n=>if n<=1 then[]else n%2::fE k (if n%2=1 then n/2 else n-1)
def hG:List Nat->Nat
 |[]=>1
 |b::p=>if b=1 then 2*hG p+1 else hG p+1
theorem oq:∀(k n:Nat),n<=k->1<=n->hG (fE k n)=n
 |0,n,h,h1=>by omega
 |k+1,n,h,h1=>by
  unfold fE
  by_cases z:n<=1
  ·rw[aB z];show 1=n;omega
  ·rw[aE z]
   by_cases o:n%2=1
   ·rw[aB o]
    show(if n%2=1 then 2*hG (fE k (n/2))+1 else _)=n
    rw[aB o,oq k (n/2) (by omega) (by omega)];omega
   ·rw[aE o]
    show(if n%2=1 then _ else hG (fE k (n-1))+1)=n
    rw[aE o,oq k (n-1) (by omega) (by omega)];omega
theorem qm:∀(k n e:Nat),n<2^(e+1)->(fE k n).length<=2*e
 |0,n,e,_=>by simp[fE]
 |k+1,n,e,h=>by
  unfold fE
  by_cases z:n<=1
  ·rw[aB z];simp
  ·rw[aE z]
   cases e with
   |zero=>simp at h;omega
   |succ e=>
    have h2:2^(e+1+1)=2*2^(e+1):=by rw[qF];omega
    by_cases o:n%2=1
    ·rw[aB o,bf]
     have:=qm k (n/2) e (by omega)
     omega
    ·rw[aE o,bf]
     cases k with
     |zero=>simp[fE];omega
     |succ k=>
      unfold fE
      by_cases z1:n-1<=1
      ·rw[aB z1];simp;omega
      ·have o1:(n-1)%2=1:=by omega
       rw[aE z1,aB o1,bf]
       have:=qm k ((n-1)/2) e (by omega)
       omega
theorem vS:∀(e k m:Nat),1<=m->(fE k (2^e*m-1)).length<=e+(fE (k-e) (m-1)).length
 |0,k,m,_=>by simp
 |e+1,0,m,_=>by simp[fE]
 |e+1,k+1,m,hm=>by
  have e0:fE (k+1) (2^(e+1)*m-1)=if 2^(e+1)*m-1<=1 then[]else(2^(e+1)*m-1)%2::fE k (if (2^(e+1)*m-1)%2=1 then(2^(e+1)*m-1)/2 else 2^(e+1)*m-1-1):=rfl
  rw[e0]
  have h1:2^(e+1)*m=2*(2^e*m):=by rw[qF];rw[my (2^e) 2,pb]
  have hp:1<=2^e*m:=Nat.mul_pos (Nat.two_pow_pos e) hm
  by_cases z:2^(e+1)*m-1<=1
  ·rw[aB z];simp
  ·rw[aE z,aB (by omega),bf,show(2^(e+1)*m-1)/2=2^e*m-1 by omega]
   have:=vS e k m hm
   rw[show k+1-(e+1)=k-e by omega]
   omega
structure zq(n:Nat)(zs:List Nat):Prop where
 len:zs.length=n
 mem:∀r,r∈zs↔r<n
 nd:zs.Nodup
 zero:zs[0]?=some 0
theorem Dq(n dl:Nat)(ds:List Int)(st:List am)(hn:1<=n)(zO:n<=51)(hd:st[dl]?=some (.lst (lf ds)))(rA:104<=ds.length) :
  ∃zs,zq n zs/\rT [.int n,.int 0,.loc dl] st=.ok (.loc st.length) (st++[.lst (nW zs)]):=by
 suffices hh:gH (uI fun w bI=>∃j x,w=.loc (st.length+j)/\bI=st++x/\j=0/\∃zs,zq n zs/\x=[.lst (nW zs)]) (FX ([W.int n,.int 0,.loc dl].map some++List.replicate (6-3) none) st) by
  obtain⟨j,x,⟨rfl,zs,h1,rfl⟩,e⟩:=qa hh
  exact⟨zs,h1,e⟩
 apply aH
 ·(walk_at "evs")
 refine dO (fun i ρ s=>∃(zs:List Nat) (o4 o5:Option W),ρ=[some (.int n),some (.int 0),some (.loc dl),some (.loc st.length),o4,o5]/\s=st++[.lst (nW zs)]/\zs.length=i+1/\(∀r,r∈zs↔r<i+1)/\zs.Nodup/\zs[0]?=some 0)
  (y7 (i:=1) (j:=(n:Int)+0) (st1:=st++[am.lst [.int 0]]) (by(walk_at "evs")) (by omega))
  ⟨[0],none,none,rfl,rfl,rfl,by simp,by simp,rfl⟩ (fun _ _ _ _=>trivial) ?_ ?_
 ·rintro i w ρ s hw ⟨zs,o4,o5,rfl,rfl,hl,hm,DF,hz0⟩
  obtain⟨hi,rfl⟩:=du hw
  refine⟨_,rfl,?_⟩
  have hc:(st++[am.lst (nW zs)])[st.length]?=some (.lst (nW zs)):=cp
  have t0:decide ((n:Int)<=1+(i:Int))=false:=aU (by omega)
  apply aH
  ·(walk_at "evs")
  apply bG
  ·(walk_at "evs")
  apply bY
  obtain⟨d,hdd⟩:∃d,ds[2*(1+i)]?=some d:=⟨_,ae (by omega)⟩
  have id:=dU (s:=st++[am.lst (nW zs)]) (bN hd) hdd
  rw[show((2*(1+i):Nat):Int)=2*(1+(i:Int)) by omega]at id
  obtain⟨q,hq,eq⟩:=fU (q:=d) (n:=zs.length) (by omega)
  have ll:=gv (bd hc)
  rw[show(nW zs).length=zs.length by simp[nW]]at ll
  have pl:(0:Int)<(zs.length:Int):=by omega
  have ins:=yC (y:=.int (1+(i:Int))) hc (k:=1+q) (by simp[nW];omega) (by simp[nW];show _<1000000;omega) (by omega)
  rw[fF,show((1+q:Nat):Int)=1+d%(zs.length:Int) by omega]at ins
  have cm:wj 2 (1+(i:Int)):=.inl (by decide)
  apply et
  ·exact fC (mV (ag rfl) (eV hc) (aj (bc bD (bc (bc (ag rfl) (bc bD (ag rfl) (nD cm)) id) (bA (aj (ag rfl) aF) ll) (gF pl)) cU) (aj (ag rfl) aF)) ins)
  ·refine⟨_,_,rfl,zs.take (1+q)++(1+i)::zs.drop (1+q),_,_,rfl,?_,?_,?_,?_,?_⟩
   ·simp[nW,ie,la]
   ·simp;omega
   ·intro r
    rw[a9,a8]
    have:=hm r
    have h2:r∈zs↔r∈zs.take (1+q)\/r∈zs.drop (1+q):=by
     rw[<- a9,fy]
    constructor
    ·rintro(h|h|h)
     ·have:=this.mp (h2.mpr (.inl h));omega
     ·omega
     ·have:=this.mp (h2.mpr (.inr h));omega
    ·intro h
     by_cases e:r=1+i
     ·exact .inr (.inl e)
     ·rcases h2.mp (this.mpr (by omega))with h|h
      ·exact .inl h
      ·exact .inr (.inr h)
   ·have sw:1+i∉zs:=fun z=>by have:=(hm _).mp z;omega
    have h3:(zs.take (1+q)++zs.drop (1+q)).Nodup:=by rw[fy];exact DF
    rw[fQ]at h3 ⊢
    refine⟨h3.1,eN.mpr ⟨fun z=>sw (List.mem_of_mem_drop z),h3.2.1⟩,fun a ha b hb=>?_⟩
    rcases a8.mp hb with rfl|hb
    ·exact fun z=>sw (z▸gR ha)
    ·exact h3.2.2 a ha b hb
   ·rw[av (by rw[bb];omega),aN (by omega)];exact hz0
 ·rintro ρ s ⟨zs,o4,o5,rfl,rfl,hl,hm,DF,hz0⟩
  rw[show(bK 1 ((n:Int)+0-1).toNat,(none:Option (Nat×List W))).fst.length=n-1 by simp[cG]]at hl hm
  apply cB
  ·(walk_at "evs")
  ·exact⟨_,_,rfl,0,_,rfl,rfl,rfl,zs,⟨by omega,fun r=>by rw[hm r];omega,DF,hz0⟩,rfl⟩
theorem pF{a i l n:Nat}(h:a<i)(hl:l<=n):a*(n+1)+l<i*(n+1):=by
 have:(a+1)*(n+1)<=i*(n+1):=gQ _ h
 rw[iX]at this
 omega
theorem B9{a a' l l' n:Nat}(hl:l<=n)(xO:l'<=n)(h:a*(n+1)+l=a'*(n+1)+l'):a=a'/\l=l':=by
 rcases iY a a' with z|z|z
 ·have:=pF z hl;omega
 ·subst z;exact⟨rfl,by omega⟩
 ·have:=pF z xO;omega
def rN(n:Nat)(f:Nat->Nat):List W:=(List.range n).map fun r=>W.int (f r:Nat)
theorem Nl{n r v:Nat}(f:Nat->Nat)(h:r<n):(rN n f).set r (.int (v:Nat))=rN n fun r'=>if r'=r then v else f r':=by
 refine gE fun i=>?_
 unfold rN
 by_cases z:r=i
 ·subst z
  rw[ba (by simpa using h),ax,bq h]
  simp
 ·rw[aQ z,ax,ax]
  by_cases hi:i<n
  ·rw[bq hi];simp[Ne.symm z]
  ·rw[bO (by simpa using hi)];rfl
structure vT(s:List am)(t0 n Lt:Nat)(tq:Nat->Nat->Nat->Nat):Prop where
 len:t0+1+Lt*(n+1)<=s.length
 t:s[t0]?=some (.lst ((List.range Lt).map fun a=>W.loc (t0+1+a*(n+1)+n)))
 l:∀a,a<Lt->s[t0+1+a*(n+1)+n]?=some (.lst ((List.range n).map fun l=>W.loc (t0+1+a*(n+1)+l)))
 r:∀a l,a<Lt->l<n->s[t0+1+a*(n+1)+l]?=some (.lst (rN n (tq a l)))
def uz(tq:Nat->Nat->Nat->Nat)(a l r v:Nat):Nat->Nat->Nat->Nat:=fun a' l' r'=>if a'=a/\l'=l/\r'=r then v else tq a' l' r'
section
variable{s:List am}{t0 n Lt:Nat}{tq:Nat->Nat->Nat->Nat}
theorem vT.put(h:vT s t0 n Lt tq){a l r v:Nat}(ha:a<Lt)(hl:l<n)(hr:r<n):vT (s.set (t0+1+a*(n+1)+l) (.lst ((rN n (tq a l)).set r (.int (v:Nat))))) t0 n Lt (uz tq a l r v):=by
 have cR:=h.len
 have hb:=pF (l:=l) (n:=n) ha (by omega)
 refine⟨by rw[eO];exact cR,?_,fun a' ha'=>?_,fun a' l' ha' xO=>?_⟩
 ·rw[aQ (by omega)];exact h.t
 ·rw[aQ fun z=>by have:=(B9 (a:=a) (a':=a') (l:=l) (l':=n) (n:=n) (by omega) (ay _) (by omega)).2;omega]
  exact h.l a' ha'
 ·by_cases z:a'=a/\l'=l
  ·obtain⟨rfl,rfl⟩:=z
   rw[ba (by omega),Nl _ hr]
   congr 3
   funext r'
   show _=if a'=a'/\l'=l'/\r'=r then v else tq a' l' r'
   simp
  ·rw[aQ fun y=>z (by have:=B9 (a:=a) (a':=a') (l:=l) (l':=l') (n:=n) (by omega) (by omega) (by omega);exact⟨this.1.symm,this.2.symm⟩),h.r a' l' ha' xO]
   congr 3
   funext r'
   show _=if a'=a/\l'=l/\r'=r then v else tq a' l' r'
   rw[aE fun y=>z ⟨y.1,y.2.1⟩]
theorem vT.keep(h:vT s t0 n Lt tq){p:Nat}{c:am}(hp:p<t0\/t0+1+Lt*(n+1)<=p):vT (s.set p c) t0 n Lt tq:=by
 have cR:=h.len
 refine⟨by rw[eO];exact cR,?_,fun a' ha'=>?_,fun a' l' ha' xO=>?_⟩
 ·rw[aQ (by omega)];exact h.t
 ·have:=pF (l:=n) (n:=n) ha' (ay _)
  rw[aQ (by omega)];exact h.l a' ha'
 ·have:=pF (l:=l') (n:=n) ha' (by omega)
  rw[aQ (by omega)];exact h.r a' l' ha' xO
theorem vT.app(h:vT s t0 n Lt tq)(x:List am):vT (s++x) t0 n Lt tq:=⟨by have:=h.len;rw[aK];omega,bN h.t,fun a ha=>bN (h.l a ha),fun a l ha hl=>bN (h.r a l ha hl)⟩
theorem vT.at(h:vT s t0 n Lt tq){a l:Nat}(ha:a<Lt)(hl:l<n){f1 f2 f3:FE}{ρ:cf}(h1:f1 ρ s=.ok (.loc t0) s)(h2:f2 ρ s=.ok (.int (a:Nat)) s)(h3:f3 ρ s=.ok (.int (l:Nat)) s):e2 bC (e2 bC f1 f2) f3 ρ s=.ok (.loc (t0+1+a*(n+1)+l)) s:=
 bc (bc h1 h2 (iK (bd h.t) (d6 (by rw[ax,bq ha];rfl)))) h3 (iK (bd (h.l a ha)) (d6 (by rw[ax,bq hl];rfl)))
end
theorem Jr{ρ:cf}{s:List am}{pl n z:Nat}{zs:List Nat}(hp:s[pl]?=some (.lst (nW zs)))(hz:zs[n-1]?=some z)(hn:1<=n)(Sm:n<=1000)(h1:ρ[1]?=some (some (.loc pl)))(h2:ρ[2]?=some (some (.int (n:Nat)))) :
  dR [none,some 1,some 2] (bw (ai (ah 2) aD)) (eU 0) iB (e2 bC (ah 1) (e2 jM (ah 2) (eI 1))) ρ s=.ok (.loc s.length) (s++[.lst (rN n fun _=>z)]):=by
 have e1:(n:Int)-1=((n-1:Nat):Int):=by omega
 have:=lV (cap:=[none,some 1,some 2]) (fi:=bw (ai (ah 2) aD)) (f:=eU 0) (el:=e2 bC (ah 1) (e2 jM (ah 2) (eI 1))) (ρ:=ρ) (st:=s) (st1:=s) (fun _=>W.int (z:Nat)) (df (aj (ag h2) aF) (by omega)) (by simp[bK];show _<=1000000;omega) trivial fun w hw=>by
  refine⟨[some w,some (.loc pl),some (.int (n:Nat))],by simp[lN,h1,h2,eU],bc (ag rfl) (bc (ag rfl) bD rfl) ?_⟩
  show bC (.loc pl) (.int ((n:Int)-1)) s=_
  rw[e1];exact rW hp hz
 rw[this,pD,a6];rfl
theorem Js{ρ:cf}{s:List am}{pl n z:Nat}{zs:List Nat}(hp:s[pl]?=some (.lst (nW zs)))(hz:zs[n-1]?=some z)(hn:1<=n)(Sm:n<=1000)(h1:ρ[4]?=some (some (.loc pl)))(h2:ρ[3]?=some (some (.int (n:Nat)))) :
  dR [none,some 4,some 3] (bw (ai (ah 3) aD)) (eU 0) iB (dR [none,some 1,some 2] (bw (ai (ah 2) aD)) (eU 0) iB (e2 bC (ah 1) (e2 jM (ah 2) (eI 1)))) ρ s
   = .ok (.loc (s.length+n)) (s++((List.range n).map (fun _=>am.lst (rN n fun _=>z))++[.lst ((List.range n).map fun l=>W.loc (s.length+l))])):=by
 obtain⟨acc,s',⟨hi,rfl,rfl⟩,e⟩:=B8 (cap:=[none,some 4,some 3]) (fi:=bw (ai (ah 3) aD)) (f:=eU 0) (el:=dR [none,some 1,some 2] (bw (ai (ah 2) aD)) (eU 0) iB (e2 bC (ah 1) (e2 jM (ah 2) (eI 1)))) (ρ:=ρ) (st:=s) (st1:=s) (ws:=bK 0 (n:Int).toNat) (ck:=none)
  (fun i acc s'=>i<=n/\acc=(List.range i).map (fun l=>W.loc (s.length+l))/\s'=s++(List.range i).map fun _=>am.lst (rN n fun _=>z)) (df (aj (ag h2) aF) (by omega)) (by simp[bK];show _<=1000000;omega) ⟨b_ _,rfl,by simp⟩ (fun _ _ _ _=>trivial) (fun i w acc s' hw ⟨hi,ha,hs⟩=>by
   obtain⟨hi2,rfl⟩:=du hw
   rw[a6]at hi2
   subst ha;subst hs
   refine⟨[some (.int (0+(i:Int))),some (.loc pl),some (.int (n:Nat))],_,_,by simp[lN,h1,h2,eU],Jr (bN hp) hz hn Sm rfl rfl,by omega,?_,?_⟩
   ·rw[c8,bu];simp
   ·rw[c8,bu,aY];rfl) (fun acc s' ⟨_,ha,_⟩=>by rw[ha];simp[bK];show _<=1000000;omega)
 rw[e,show(bK 0 (n:Int).toNat).length=n by simp[bK],aY,aK,az,bj]
theorem vT.new{s:List am}{t0 n i z:Nat}{tq:Nat->Nat->Nat->Nat}(h:vT s t0 n i tq)(cR:s.length=t0+1+i*(n+1))(KP:∀a l r,tq a l r=z) :
  vT ((s++((List.range n).map (fun _=>am.lst (rN n fun _=>z))++[am.lst ((List.range n).map fun l=>W.loc (s.length+l))])).set t0 (am.lst ((List.range i).map (fun a=>W.loc (t0+1+a*(n+1)+n))++[W.loc (s.length+n)]))) t0 n (i+1) tq:=by
 have h1:(i+1)*(n+1)=i*(n+1)+(n+1):=iX _ _
 refine⟨by simp;omega,?_,fun a ha=>?_,fun a l ha hl=>?_⟩
 ·rw[ba (by simp;omega),c8,bu]
  simp only[aT,c_]
  rw[cR]
 ·rw[aQ (by omega)]
  rcases cx a i with z1|z1
  ·exact bN (h.l a z1)
  ·obtain rfl:a=i:=by omega
   rw[show t0+1+a*(n+1)+n=s.length+n by omega,d_,dX (by simp)]
   rw[az,bj,mz,cR]
   rfl
 ·rw[aQ (by omega)]
  rcases cx a i with z1|z1
  ·exact bN (h.r a l z1 hl)
  ·obtain rfl:a=i:=by omega
   rw[show t0+1+a*(n+1)+l=s.length+l by omega,d_,av (by simpa using hl),ax,bq hl]
   simp only[Option.map_some]
   congr 3
   funext r
   exact(KP a l r).symm
def NQ(n Lt:Nat)(tq:Nat->Nat->Nat->Nat):List (List (List Nat)):=(List.range Lt).map fun a=>(List.range n).map fun l=>(List.range n).map fun r=>tq a l r
def Dr(gd:List Bool)(n Lt:Nat)(tq:Nat->Nat->Nat->Nat):Mc:=⟨[81].take (Lt-1),gd,NQ n Lt tq⟩
section
variable{s:List am}{t0 n Lt:Nat}{tq:Nat->Nat->Nat->Nat}
theorem Jt(tq:Nat->Nat->Nat->Nat)(a l:Nat):W.tup (rN n (tq a l))=i5 ((List.range n).map fun r=>tq a l r):=by
 unfold rN i5;rw[bx];rfl
theorem Ju(h:vT s t0 n Lt tq)(hn:n<=1000){a:Nat}(ha:a<Lt)(x:List am){ρ:cf}(h0:ρ[0]?=some (some (.loc (t0+1+a*(n+1)+n)))) :
  bh cS (ai (dR [none] (eY (ah 0)) (eU 0) iB (bh cS (ai (ah 0) aD))) aD) ρ (s++x)=.ok (gf ((List.range n).map fun l=>(List.range n).map fun r=>tq a l r)) ((s++x)++[.lst ((List.range n).map fun l=>i5 ((List.range n).map fun r=>tq a l r))]):=by
 have hT:=h.app x
 have hc:=lV (cap:=[none]) (fi:=eY (ah 0)) (f:=eU 0) (el:=bh cS (ai (ah 0) aD)) (ρ:=ρ) (st:=s++x) (fun w=>match w with|.loc p=>i5 ((List.range n).map fun r=>tq a (p-(t0+1+a*(n+1))) r)|w=>w) (lT (ag h0) (bd (hT.l a ha))) (by rw[az,bj];show _<=1000000;omega) (bd (hT.l a ha)) fun w hw=>by
  obtain⟨l,hl,rfl⟩:=aL.mp hw
  have hl:=bi.mp hl
  refine⟨[some (.loc (t0+1+a*(n+1)+l))],rfl,?_⟩
  have:=bA (F:=cS) (aj (ag (ρ:=[some (.loc (t0+1+a*(n+1)+l))]) (i:=0) (st:=s++x) rfl) aF) (g8 (bd (hT.r a l ha hl)))
  rw[this,Jt]
  simp only
  rw[show t0+1+a*(n+1)+l-(t0+1+a*(n+1))=l by omega]
 rw[bx]at hc
 have e:((fun w:W=>match w with|.loc p=>i5 ((List.range n).map fun r=>tq a (p-(t0+1+a*(n+1))) r)|w=>w)∘fun l=>W.loc (t0+1+a*(n+1)+l))=fun l=>i5 ((List.range n).map fun r=>tq a l r):=by
  funext l
  show i5 ((List.range n).map fun r=>tq a (t0+1+a*(n+1)+l-(t0+1+a*(n+1))) r)=_
  rw[show t0+1+a*(n+1)+l-(t0+1+a*(n+1))=l by omega]
 rw[e]at hc
 have:=bA (F:=cS) (aj hc aF) (g8 (bd cp))
 rw[this]
 unfold gf
 rw[bx];rfl
theorem Jv(h:vT s t0 n Lt tq)(hn:n<=1000)(hL:Lt<=2){ρ:cf}(h0:ρ[5]?=some (some (.loc t0))) :
  ∃x,bh cS (ai (dR [none] (eY (ah 5)) (eU 0) iB (bh cS (ai (dR [none] (eY (ah 0)) (eU 0) iB (bh cS (ai (ah 0) aD))) aD))) aD) ρ s=.ok (.tup ((NQ n Lt tq).map gf)) (s++x):=by
 obtain⟨acc,s',⟨hi,hacc,x,rfl⟩,e⟩:=B8 (cap:=[none]) (fi:=eY (ah 5)) (f:=eU 0) (el:=bh cS (ai (dR [none] (eY (ah 0)) (eU 0) iB (bh cS (ai (ah 0) aD))) aD)) (ρ:=ρ) (st:=s) (st1:=s)
  (fun i acc s'=>i<=Lt/\acc=(List.range i).map (fun a=>gf ((List.range n).map fun l=>(List.range n).map fun r=>tq a l r))/\∃x,s'=s++x) (lT (ag h0) (bd h.t)) (by rw[az,bj];show _<=1000000;omega) ⟨b_ _,rfl,[],by simp⟩ (fun i acc s' ⟨_,_,x,hx⟩=>by subst hx;exact bd (bN h.t)) (fun i w acc s' hw ⟨hi,ha,x,hx⟩=>by
   subst ha;subst hx
   rw[ax]at hw
   have hil:i<Lt:=by
    rcases cx i Lt with z|z
    ·exact z
    ·rw[bO (by simpa using z)]at hw;cases hw
   rw[bq hil]at hw
   cases hw
   refine⟨[some (.loc (t0+1+i*(n+1)+n))],_,_,rfl,Ju h hn hil x rfl,by omega,?_,_,aY _ _ _⟩
   rw[c8,bu];rfl) (fun acc s' ⟨_,ha,_⟩=>by rw[ha];simp;show _<=1000000;omega)
 have:=bA (F:=cS) (aj e aF) (g8 (bd cp))
 refine⟨x++[.lst acc],?_⟩
 rw[this,hacc]
 unfold NQ
 rw[bx,aY]
 simp only[az,bj]
 rfl
theorem Nm{gd:List Bool}(hg:gd.length=n)(hL:Lt=1\/Lt=2)(KP:∀a l r,a<Lt->l<n->r<n->tq a l r<n):sH (Dr gd n Lt tq) n:=by
 refine⟨hg,?_,fun t ht=>?_⟩
 ·rcases hL with rfl|rfl<;>rfl
 ·obtain⟨a,ha,rfl⟩:=aL.mp ht
  have ha:=bi.mp ha
  refine⟨by simp,fun r hr=>?_⟩
  obtain⟨l,hl,rfl⟩:=aL.mp hr
  have hl:=bi.mp hl
  refine⟨by simp,fun k hk=>?_⟩
  obtain⟨q,hq,rfl⟩:=aL.mp hk
  exact KP a l q ha hl (bi.mp hq)
theorem P_{gd:List Bool}{a l r:Nat}(ha:a<Lt)(hl:l<n)(hr:r<n):cC (Dr gd n Lt tq) a l r=tq a l r:=by
 unfold cC Dr NQ
 simp only
 have e1:∀(f:Nat->List (List Nat)),((List.range Lt).map f).getD a []=f a:=fun f=>by rw[aG,ax,bq ha];rfl
 have e2:∀(f:Nat->List Nat),((List.range n).map f).getD l []=f l:=fun f=>by rw[aG,ax,bq hl];rfl
 have e3:∀(f:Nat->Nat),((List.range n).map f).getD r 0=f r:=fun f=>by rw[aG,ax,bq hr];rfl
 rw[e1,e2,e3]
theorem Jw{gd:List Bool}:(Dr gd n Lt tq).tb.length=Lt:=by simp[Dr,NQ]
theorem P'(hL:Lt=1\/Lt=2){a:Nat}(ha:a<Lt):xN ([81].take (Lt-1)) a=[81].take a:=by
 rcases hL with rfl|rfl
 ·obtain rfl:a=0:=by omega
  rfl
 ·rcases cx a 1 with z|z
  ·obtain rfl:a=0:=by omega
   rfl
  ·obtain rfl:a=1:=by omega
   rfl
end
structure AQ where
 a:Nat
 l:Nat
 r:Nat
structure B_(n Lt p:Nat)(zs:List Nat)(lk:Nat->AQ)(T:Nat->Nat->Nat->Nat):Prop where
 own:zq n zs
 n3:n=p+3
 ok:∀k,k<=p->(lk k).a<Lt/\(lk k).l<=k/\(lk k).r<=k
 fwd:∀k x y z,k<=p->zs[(lk k).l]?=some x->zs[(lk k).r]?=some y->zs[k+1]?=some z->T (lk k).a x y=z
 only:∀k a x y z,k<=p->a<Lt->x<n->y<n->zs[k+1]?=some z->T a x y=z->a=(lk k).a/\zs[(lk k).l]?=some x/\zs[(lk k).r]?=some y
theorem xn{n:Nat}{zs:List Nat}(h:zq n zs){i j x:Nat}(h1:zs[i]?=some x)(h2:zs[j]?=some x):i=j:=by
 obtain⟨a1,a2⟩:=aa.mp h1
 obtain⟨b1,b2⟩:=aa.mp h2
 rcases iY i j with z|z|z
 ·exact(g7.mp h.nd i j a1 b1 z (a2.trans b2.symm)).elim
 ·exact z
 ·exact(g7.mp h.nd j i b1 a1 z (b2.trans a2.symm)).elim
theorem pG{n Lt p:Nat}{zs:List Nat}{lk:Nat->AQ}{M:Mc}{E:List Ro}{R:List W}{TT:List (List W)}(A:All M n E R TT)(hL:M.tb.length=Lt)(C:B_ n Lt p zs lk (cC M)){N0:Nat->Nat}(hN:N0 0=0)(Qm:∀k,k<=p->N0 (k+1)=N0 (lk k).l+N0 (lk k).r+1)
  {Wd:Nat->List W} (hW:Wd 0=[]) (RR:∀k,k<=p->Wd (k+1)=jn M.nm (Wd (lk k).l) (Wd (lk k).r) (lk k).a) :
  ∀(m j:Nat),j<m->j<=p+1->∃(i:Nat) (e:Ro),E[i]?=some e/\zs[j]?=some e.1/\e.2.s=N0 j/\TT[i]?=some (Wd j)
 |0,j,h,_=>absurd h (bz _)
 |m+1,0,_,_=>by
  obtain⟨r,hr⟩:=A.full.told.zero
  have he:E[0]?=some (0,⟨0,0,0,0⟩):=by rw[hr];rfl
  obtain⟨t,ht,_,_,h1|⟨h1,_⟩⟩:=A.trees.at' 0 _ he
  ·obtain⟨_,rfl⟩:=h1
   exact⟨0,_,he,C.own.zero,hN.symm,by rw[hW];exact ht⟩
  ·exact absurd h1 (bo _)
 |m+1,j+1,hj,hp=>by
  obtain⟨ha,hl,hr⟩:=C.ok j (by omega)
  obtain⟨il,el,e1,z1,s1,t1⟩:=pG A hL C hN Qm hW RR m (lk j).l (by omega) (by omega)
  obtain⟨ir,er,e2,z2,s2,t2⟩:=pG A hL C hN Qm hW RR m (lk j).r (by omega) (by omega)
  have hjn:j+1<zs.length:=by rw[C.own.len,C.n3];omega
  obtain⟨z,hz⟩:∃z,zs[j+1]?=some z:=⟨_,ae hjn⟩
  have hT:=C.fwd j el.1 er.1 z (by omega) z1 z2 hz
  rcases A.full.cov il ir (lk j).a (aa.mp e1).1 (aa.mp e2).1 (by omega) el er e1 e2 with⟨i,e,hi,c1,_⟩|⟨q,hq,_⟩
  ·rw[hT]at c1
   have h0:0<i:=by
    rcases Nat.eq_zero_or_pos i with y|y
    ·subst y
     obtain⟨r,hr⟩:=A.full.told.zero
     rw[hr]at hi;cases hi
     have:=xn C.own C.own.zero (by rw[<- c1]at hz;exact hz)
     omega
    ·exact y
   obtain⟨hl1,hr1,fl,fr,f1,f2,fa,fT,fs⟩:=A.full.told.row i e hi h0
   obtain⟨q1,q2,q3⟩:=C.only j e.2.a fl.1 fr.1 z (by omega) (by omega) (A.full.told.lt fl (aA f1)) (A.full.told.lt fr (aA f2)) hz (by rw[fT];exact c1)
   rw[z1]at q2;rw[z2]at q3
   have g1:=qf A.full.told.nd (aA e1) (aA f1) (aZ q2)
   have g2:=qf A.full.told.nd (aA e2) (aA f2) (aZ q3)
   subst g1;subst g2
   have one:∀(a b:Nat) (f:Ro),E[a]?=some f->E[b]?=some f->a=b:=fun a b f h1 h2=>by
    rcases iY a b with y|y|y
    ·exact(oU A.full.told.nd h1 h2 y rfl).elim
    ·exact y
    ·exact(oU A.full.told.nd h2 h1 y rfl).elim
   have k1:=one _ _ _ e1 f1
   have k2:=one _ _ _ e2 f2
   obtain⟨t,ht,_,_,h1|⟨_,tl,tr,r1,r2,_,_,rfl⟩⟩:=A.trees.at' i e hi
   ·omega
   ·rw[<- k1,t1]at r1;rw[<- k2,t2]at r2
    cases r1;cases r2
    exact⟨i,e,hi,by rw[c1];exact hz,by rw[fs,s1,s2,Qm j (by omega)],by rw[ht,RR j (by omega),q1]⟩
  ·cases hq
theorem vU:∀(k j n:Nat),n<=k->n<=j->fE k n=fE j n
 |0,j,n,h,_=>by
  obtain rfl:n=0:=by omega
  cases j with
  |zero=>rfl
  |succ j=>rfl
 |k+1,0,n,_,h=>by
  obtain rfl:n=0:=by omega
  rfl
 |k+1,j+1,n,h1,h2=>by
  unfold fE
  by_cases z:n<=1
  ·rw[aB z,aB z]
  ·rw[aE z,aE z]
   congr 1
   refine vU k j _ ?_ ?_
   ·split<;>omega
   ·split<;>omega
def fB(n:Nat):List Nat:=fE n n
theorem AR{n:Nat}(h:n<=1):fB n=[]:=by
 unfold fB
 cases n with
 |zero=>rfl
 |succ n=>unfold fE;rw[aB h]
theorem Ds{n:Nat}(h:1<n):fB n=n%2::fB (if n%2=1 then n/2 else n-1):=by
 unfold fB
 obtain⟨k,rfl⟩:∃k,n=k+1:=⟨n-1,by omega⟩
 rw[show fE (k+1) (k+1)=if k+1<=1 then[]else(k+1)%2::fE k (if (k+1)%2=1 then(k+1)/2 else k+1-1)from rfl,aE (by omega)]
 congr 1
 exact vU _ _ _ (by split<;>omega) (ay _)
def gM(P:List Nat)(a0:Nat)(lt sd:Nat->Nat):Nat->AQ
 |0=>⟨a0,0,0⟩
 |k+1=>if P.getD (P.length-1-k) 0=1 then⟨lt k,k+1,k+1⟩else if sd k=0 then⟨lt k,0,k+1⟩else⟨lt k,k+1,0⟩
def N0(P:List Nat):Nat->Nat
 |0=>0
 |j+1=>hG (P.drop (P.length-j))
section
variable{P:List Nat}{a0:Nat}{lt sd:Nat->Nat}
theorem kN(k:Nat):gM P a0 lt sd (k+1)=if P.getD (P.length-1-k) 0=1 then⟨lt k,k+1,k+1⟩else if sd k=0 then⟨lt k,0,k+1⟩else⟨lt k,k+1,0⟩:=rfl
theorem vV(k:Nat):(gM P a0 lt sd k).l<=k/\(gM P a0 lt sd k).r<=k:=by
 cases k with
 |zero=>exact⟨ay _,ay _⟩
 |succ k=>
  rw[kN]
  by_cases z:P.getD (P.length-1-k) 0=1
  ·rw[aB z];exact⟨ay _,ay _⟩
  ·rw[aE z]
   by_cases y:sd k=0
   ·rw[aB y];exact⟨b_ _,ay _⟩
   ·rw[aE y];exact⟨ay _,b_ _⟩
theorem GI(k:Nat):(gM P a0 lt sd (k+1)).l=k+1\/(gM P a0 lt sd (k+1)).r=k+1:=by
 rw[kN]
 by_cases z:P.getD (P.length-1-k) 0=1
 ·rw[aB z];exact .inl rfl
 ·rw[aE z]
  by_cases y:sd k=0
  ·rw[aB y];exact .inr rfl
  ·rw[aE y];exact .inl rfl
theorem sL{k:Nat}(hk:k<=P.length):N0 P (k+1)=N0 P (gM P a0 lt sd k).l+N0 P (gM P a0 lt sd k).r+1:=by
 cases k with
 |zero=>
  show hG (P.drop (P.length-0))=0+0+1
  rw[Nat.sub_zero,List.drop_length];rfl
 |succ k=>
  have hd:P.drop (P.length-(k+1))=P.getD (P.length-1-k) 0::P.drop (P.length-k):=by
   have kE:P.length-(k+1)<P.length:=by omega
   rw[eh kE,show P.length-(k+1)+1=P.length-k by omega,aG,show P.length-1-k=P.length-(k+1) by omega,ae kE];rfl
  show hG (P.drop (P.length-(k+1)))=_
  rw[hd]
  show(if P.getD (P.length-1-k) 0=1 then 2*hG (P.drop (P.length-k))+1 else hG (P.drop (P.length-k))+1)=_
  rw[kN]
  by_cases z:P.getD (P.length-1-k) 0=1
  ·rw[aB z,aB z];show _=hG (P.drop (P.length-k))+hG (P.drop (P.length-k))+1;omega
  ·rw[aE z,aE z]
   by_cases y:sd k=0
   ·rw[aB y];show _=0+hG (P.drop (P.length-k))+1;omega
   ·rw[aE y];show _=hG (P.drop (P.length-k))+0+1;omega
theorem Jx{k:Nat}(hk:k<=P.length):N0 P k<N0 P (k+1):=by
 rw[sL (a0:=0) (lt:=fun _=>0) (sd:=fun _=>0) hk]
 cases k with
 |zero=>show 0<0+0+1;omega
 |succ k=>
  rcases GI (P:=P) (a0:=0) (lt:=fun _=>0) (sd:=fun _=>0) k with h|h<;>rw[h]<;>omega
theorem KH:∀(d k:Nat),k+d<=P.length+1->N0 P k<=N0 P (k+d)
 |0,k,_=>ay _
 |d+1,k,h=>by
  have:=KH d k (by omega)
  have:=Jx (P:=P) (k:=k+d) (by omega)
  rw[show k+(d+1)=k+d+1 by omega];omega
theorem Cb:N0 P (P.length+1)=hG P:=by
 show hG (P.drop (P.length-P.length))=_
 rw[mz];rfl
def zg(zs:List Nat)(j:Nat):Nat:=zs.getD j 0
def zN(zs:List Nat)(n:Nat)(lk:Nat->AQ):Nat->Nat->Nat->Nat->Nat
 |0=>fun _ _ _=>zg zs (n-1)
 |k+1=>uz (zN zs n lk k) (lk k).a (zg zs (lk k).l) (zg zs (lk k).r) (zg zs (k+1))
theorem jJ{zs:List Nat}{j:Nat}(h:j<zs.length):zs[j]?=some (zg zs j):=by
 unfold zg;rw[aG,ae h];rfl
theorem GJ{n p:Nat}{zs:List Nat}{lk:Nat->AQ}(own:zq n zs)(n3:n=p+3)(uG:∀k,(lk k).l<=k/\(lk k).r<=k)(JF:∀k,(lk (k+1)).l=k+1\/(lk (k+1)).r=k+1) :
  ∀m,m<=p+1->(∀j,j<m->zN zs n lk m (lk j).a (zg zs (lk j).l) (zg zs (lk j).r)=zg zs (j+1))/\∀a x y,(∃j,j<m/\a=(lk j).a/\x=zg zs (lk j).l/\y=zg zs (lk j).r)\/zN zs n lk m a x y=zg zs (n-1)
 |0,_=>⟨fun j hj=>absurd hj (bz _),fun a x y=>.inr rfl⟩
 |m+1,hm=>by
  obtain⟨h1,h2⟩:=GJ own n3 uG JF m (by omega)
  have inj:∀i j,i<n->j<n->zg zs i=zg zs j->i=j:=fun i j hi hj e=>xn own (jJ (by rw[own.len];exact hi)) (by rw[e];exact jJ (by rw[own.len];exact hj))
  refine⟨fun j hj=>?_,fun a x y=>?_⟩
  ·show uz _ _ _ _ _ _ _ _=_
   unfold uz
   by_cases z:j=m
   ·subst z;rw[aB ⟨rfl,rfl,rfl⟩]
   ·rw[aE,h1 j (by omega)]
    rintro⟨_,e1,e2⟩
    have:=uG j
    have:=uG m
    have k1:=inj _ _ (by omega) (by omega) e1
    have k2:=inj _ _ (by omega) (by omega) e2
    cases m with
    |zero=>omega
    |succ m=>rcases JF m with y|y<;>omega
  ·show _\/uz _ _ _ _ _ a x y=_
   unfold uz
   by_cases z:a=(lk m).a/\x=zg zs (lk m).l/\y=zg zs (lk m).r
   ·exact .inl ⟨m,by omega,z⟩
   ·rw[aE z]
    rcases h2 a x y with⟨j,hj,e⟩|e
    ·exact .inl ⟨j,by omega,e⟩
    ·exact .inr e
theorem GK{n p:Nat}{zs:List Nat}{lk:Nat->AQ}(own:zq n zs)(n3:n=p+3):∀m,m<=p+1->∀a x y,zN zs n lk m a x y<n
 |0,_,a,x,y=>(own.mem _).mp (aA (jJ (by rw[own.len];omega)))
 |m+1,hm,a,x,y=>by
  show uz _ _ _ _ _ a x y<n
  unfold uz
  split
  ·exact(own.mem _).mp (aA (jJ (by rw[own.len];omega)))
  ·exact GK own n3 m (by omega) a x y
theorem Dt{n p Lt:Nat}{zs:List Nat}{lk:Nat->AQ}{T:Nat->Nat->Nat->Nat}(own:zq n zs)(n3:n=p+3)(uG:∀k,(lk k).l<=k/\(lk k).r<=k)(JF:∀k,(lk (k+1)).l=k+1\/(lk (k+1)).r=k+1)(ha:∀k,k<=p->(lk k).a<Lt)
  (hT:∀a x y,a<Lt->x<n->y<n->T a x y=zN zs n lk (p+1) a x y):B_ n Lt p zs lk T:=by
 obtain⟨h1,h2⟩:=GJ own n3 uG JF (p+1) (ay _)
 have lt:∀j,j<n->zg zs j<n:=fun j hj=>(own.mem _).mp (aA (jJ (by rw[own.len];exact hj)))
 have at':∀{j x:Nat},zs[j]?=some x->x=zg zs j:=fun{j x} h=>by
  have hl:=(aa.mp h).1
  rw[jJ hl]at h;exact(aZ h).symm
 refine⟨own,n3,fun k hk=>⟨ha k hk,uG k⟩,fun k x y z hk hx hy hz=>?_,fun k a x y z hk haL hx hy hz e=>?_⟩
 ·have:=uG k
  rw[at' hx,at' hy,at' hz,hT _ _ _ (ha k hk) (lt _ (by omega)) (lt _ (by omega))]
  exact h1 k (by omega)
 ·rw[hT a x y haL hx hy]at e
  rw[at' hz]at e
  have hz':=hz
  rw[at' hz]at hz'
  rcases h2 a x y with⟨j,hj,rfl,rfl,rfl⟩|e2
  ·rw[h1 j hj]at e
   have:=xn own (jJ (zs:=zs) (j:=j+1) (by rw[own.len];omega)) (by rw[e];exact hz')
   obtain rfl:j=k:=by omega
   have:=uG j
   exact⟨rfl,jJ (by rw[own.len];omega),jJ (by rw[own.len];omega)⟩
  ·rw[e2]at e
   have:=xn own (jJ (zs:=zs) (j:=n-1) (by rw[own.len];omega)) (by rw[e];exact hz')
   omega
def wl(nm:List Nat)(lk:Nat->AQ):Nat->List (List W)
 |0=>[[]]
 |k+1=>wl nm lk k++[jn nm ((wl nm lk k).getD (lk k).l []) ((wl nm lk k).getD (lk k).r []) (lk k).a]
def Wd(nm:List Nat)(lk:Nat->AQ)(j:Nat):List W:=(wl nm lk j).getD j []
theorem AS(nm:List Nat)(lk:Nat->AQ):∀k,(wl nm lk k).length=k+1
 |0=>rfl
 |k+1=>by simp[wl,AS nm lk k]
theorem GL(nm:List Nat)(lk:Nat->AQ):∀(k j:Nat),j<=k->(wl nm lk k).getD j []=Wd nm lk j
 |0,j,h=>by
  obtain rfl:j=0:=by omega
  rfl
 |k+1,j,h=>by
  rcases cx j (k+1)with z|z
  ·rw[<- GL nm lk k j (by omega),aG,aG]
   show((wl nm lk k++_)[j]?).getD _=_
   rw[av (by rw[AS];omega)]
  ·obtain rfl:j=k+1:=by omega
   rfl
theorem sM(nm:List Nat)(lk:Nat->AQ)(uG:∀k,(lk k).l<=k/\(lk k).r<=k)(k:Nat):Wd nm lk (k+1)=jn nm (Wd nm lk (lk k).l) (Wd nm lk (lk k).r) (lk k).a:=by
 rw[<- GL nm lk k _ (uG k).1,<- GL nm lk k _ (uG k).2]
 unfold Wd
 rw[aG]
 show((wl nm lk k++_)[k+1]?).getD _=_
 rw[show k+1=(wl nm lk k).length from(AS nm lk k).symm,bn];rfl
theorem uA(nm:List Nat)(lk:Nat->AQ)(uG:∀k,(lk k).l<=k/\(lk k).r<=k)(u:Nat):∀(m j:Nat),j<m->undWs u (Wd nm lk j)=true
 |0,j,h=>absurd h (bz _)
 |m+1,0,_=>rfl
 |m+1,j+1,h=>by
  rw[sM nm lk uG j]
  have:=uG j
  exact rf nm _ u (uA nm lk uG u m _ (by omega)) (uA nm lk uG u m _ (by omega))
theorem AT(nm:List Nat):∀(m j:Nat),j<m->j<=P.length+1->(Wd nm (gM P a0 lt sd) j).length=N0 P j
 |0,j,h,_=>absurd h (bz _)
 |m+1,0,_,_=>rfl
 |m+1,j+1,h,hp=>by
  have:=vV (P:=P) (a0:=a0) (lt:=lt) (sd:=sd) j
  rw[sM nm _ vV j,uq,AT nm m _ (by omega) (by omega),AT nm m _ (by omega) (by omega),sL (a0:=a0) (lt:=lt) (sd:=sd) (by omega)]
end
structure Fr(st s:List am)(dl pc pl:Nat)(ds:List Int)(P zs:List Nat):Prop where
 pre:st <+: s
 d:s[dl]?=some (.lst (lf ds))
 p:s[pc]?=some (.lst (nW P))
 z:s[pl]?=some (.lst (nW zs))
theorem Fr.set{st s:List am}{dl pc pl q:Nat}{ds:List Int}{P zs:List Nat}{c:am}(h:Fr st s dl pc pl ds P zs)(h0:st.length<=q)(h1:dl<q)(h2:pc<q)(h3:pl<q):Fr st (s.set q c) dl pc pl ds P zs:=
 ⟨iM h.pre h0,by rw[aQ (by omega)];exact h.d,by rw[aQ (by omega)];exact h.p,by rw[aQ (by omega)];exact h.z⟩
theorem Fr.app{st s:List am}{dl pc pl:Nat}{ds:List Int}{P zs:List Nat}(h:Fr st s dl pc pl ds P zs)(x:List am):Fr st (s++x) dl pc pl ds P zs:=⟨jg h.pre,bN h.d,bN h.p,bN h.z⟩
theorem AU{st:List am}{dl num:Nat}(u6:1<=num)(ND:(fB num).length<=1000){Q:RS->Prop}{fz:FS}(h:∀o,gH Q (fz [o,some (.loc dl),some (.loc st.length),none,none,none,none,none,none,none,none,none,none] (st++[.lst (nW (fB num))]))) :
  gH Q (aW (lM (eZ (e2 yi (ah 0) (eI 1))) (aW (eQ (si c9 (ah 2) (ai (e2 dQ (ah 0) (eI 2)) aD))) (hV (eZ (e2 jY (e2 dQ (ah 0) (eI 2)) (eI 1))) (bH 0 (e2 nj (ah 0) (eI 2))) (bH 0 (e2 jM (ah 0) (eI 1)))))) fz [some (.int (num:Nat)),some (.loc dl),some (.loc st.length),none,none,none,none,none,none,none,none,none,none] (st++[.lst []])):=by
 have hmod:∀(m:Nat) (s:List am),dQ (.int (m:Nat)) (.int 2) s=.ok (.int ((m%2:Nat):Int)) s:=fun m s=>by rw[gY];exact gF (by decide)
 have hdiv:∀(m:Nat) (s:List am),nj (.int (m:Nat)) (.int 2) s=.ok (.int ((m/2:Nat):Int)) s:=fun m s=>by rw[Int.natCast_ediv];exact gF (by decide)
 refine vG (fun m ρ s=>∃(n':Nat) (done:List Nat),m=n'/\1<=n'/\ρ=[some (.int (n':Nat)),some (.loc dl),some (.loc st.length),none,none,none,none,none,none,none,none,none,none]/\s=st++[.lst (nW done)]/\done++fB n'=fB num) num ⟨num,[],rfl,u6,rfl,rfl,rfl⟩ ?_ ?_
 ·rintro m ρ s ⟨n',done,rfl,h1,rfl,rfl,hp⟩
  by_cases z:1<m
  ·refine .inr ⟨bR (bc (ag rfl) bD (iJ (a_ (by omega)))),?_⟩
   have hc:(st++[am.lst (nW done)])[st.length]?=some (.lst (nW done)):=cp
   have hdl:done.length<=1000:=by rw[<- hp,aK]at ND;omega
   apply aH
   ·exact fC (mV (ag rfl) (eV hc) (aj (bc (ag rfl) bD (hmod _ _)) aF) (nE hc (by simp[nW];show _<1000000;omega)))
   rw[fF]
   show gH _ (hV _ _ _ _ (st++[am.lst (nW done++[W.int ((m%2:Nat):Int)])]))
   have ps:=Ds z
   by_cases o:m%2=1
   ·rw[aB o]at ps
    refine jp (bR (bc (bc (ag rfl) bD (hmod _ _)) bD (fY (by rw[o];rfl)))) ?_
    refine⟨_,_,bS (bc (ag rfl) bD (hdiv _ _)),m/2,by omega,m/2,done++[m%2],rfl,by omega,rfl,by simp[nW],?_⟩
    rw[<- hp,ps,aY];rfl
   ·rw[aE o]at ps
    refine f' (bR (bc (bc (ag rfl) bD (hmod _ _)) bD (fY (by rw[aS];omega)))) ?_
    refine⟨_,_,bS (bc (ag rfl) bD rfl),m-1,by omega,m-1,done++[m%2],rfl,by omega,?_,by simp[nW],?_⟩
    ·rw[show((m-1:Nat):Int)=(m:Int)-1 by omega];rfl
    ·rw[<- hp,ps,aY];rfl
  ·exact .inl (bR (bc (ag rfl) bD (iJ (aU (by omega)))))
 ·rintro m ρ s ⟨n',done,rfl,h1,rfl,rfl,hp⟩ hf
  have hm:m<=1:=by
   rcases cx 1 m with z|z
   ·have t:eZ (e2 yi (ah 0) (eI 1)) [some (.int (m:Nat)),some (.loc dl),some (.loc st.length),none,none,none,none,none,none,none,none,none,none] (st++[.lst (nW done)])=.ok true _:=bR (bc (ag rfl) bD (iJ (a_ (by omega))))
    rw[t]at hf;cases hf
   ·exact z
  rw[AR hm,cP]at hp
  rw[hp]
  exact h _
structure TI(st s:List am)(dl pc pl t0 tr n Lt:Nat)(ds:List Int)(P zs:List Nat)(lk:Nat->AQ)(k m:Nat):Prop where
 fr:Fr st s dl pc pl ds P zs
 tab:vT s t0 n Lt (zN zs n lk (k+1))
 t:s[tr]?=some (.lst ((List.range (m+1)).map fun j=>W.tup (Wd ([81].take (Lt-1)) lk j)))
 len:s.length=tr+1
 m1:1<=m
 m2:m<=k+1
 mo:m=k+1\/100<N0 P (m+1)
abbrev Sb:FT:=Ei (eZ (e2 jY (bh de (ai (ah 7) aD)) (e2 cF (ah 8) (eI 2)))) (eZ (e2 LW (e2 cF (bh de (ai (e2 bC (ah 7) (ah 9)) aD)) (bh de (ai (e2 bC (ah 7) (ah 10)) aD))) (eI 100)))
abbrev Sc:FS:=(aW (bH 6 (e2 dQ (e2 nj (e2 bC (ah 1) (e2 g6 (eI 2) (ah 8))) (eI 2)) (bh de (ai (ah 5) aD)))) (aW (nu (e2 bC (e2 bC (ah 5) (ah 6)) (e2 bC (ah 4) (ah 9))) (e2 bC (ah 4) (ah 10)) (e2 bC (ah 4) (e2 cF (ah 8) (eI 2))) nr) (hV (Sb) (eQ (si c9 (ah 7) (ai (dq 3 oT (ai (e2 bC (ah 7) (ah 9)) (ai (e2 bC (ah 7) (ah 10)) (ai (Ai (eC (.str [81])) mG (jm (ah 6))) aD)))) aD))) cK)))
abbrev SC:FS:=(aW (sg (e2 bC (dy (ai (dy (ai (eI 0) (ai (e2 cF (ah 8) (eI 1)) aD))) (ai (dy (ai (e2 cF (ah 8) (eI 1)) (ai (eI 0) aD))) aD))) (e2 dQ (e2 bC (ah 1) (e2 cF (e2 g6 (eI 2) (ah 8)) (eI 1))) (eI 2))) (DE 2 (eL (eU 9) (eL (eU 10) nq)))) (aW (hV (eZ (e2 jY (e2 bC (ah 2) (e2 jM (An (eI 1)) (ah 8))) (eI 1))) (E0 9 10 (ai (e2 cF (ah 8) (eI 1)) (ai (e2 cF (ah 8) (eI 1)) aD))) cK) Sc))
def tQ(st:List am)(dl pc pl t0 tr n Lt:Nat)(ds:List Int)(P zs:List Nat)(lk:Nat->AQ)(k:Nat)(o0:Option W):RS->Prop:=E9 fun ρ s=>∃o6 o9 o10 m,ρ=[o0,some (.loc dl),some (.loc pc),some (.int n),some (.loc pl),some (.loc t0),o6,some (.loc tr),some (.int (k:Nat)),o9,o10,none,none]/\TI st s dl pc pl t0 tr n Lt ds P zs lk (k+1) m
theorem KI{Lt a:Nat}(hL:Lt=1\/Lt=2)(ha:a<Lt):jv [81] none (some (a:Int))=[81].take a:=qb (by rcases hL with rfl|rfl<;>simp<;>omega)
theorem GM{st s:List am}{dl pc pl t0 tr n Lt k m a0:Nat}{ds:List Int}{P zs:List Nat}{lt sd dg:Nat->Nat}{o0 o6 o9 o10:Option W}(SZ:dl<pc)(SY:pc<t0)(S1:pl<t0)(SV:st.length<=pc)(S8:tr=t0+1+Lt*(n+1))(hn:n=P.length+3)(hP:P.length<=48)(own:zq n zs)(hL:Lt=1\/Lt=2)
  (NT:∀i,i<200->ds[i]?=some ((dg i:Nat):Int)) (kE:∀k,lt k=dg (2*k)/2%Lt) (Sf:∀k,sd k=dg (2*k+1)%2) (Cg:a0<Lt) (hk:k<P.length) (I:TI st s dl pc pl t0 tr n Lt ds P zs (gM P a0 lt sd) k m) :
  gH (tQ st dl pc pl t0 tr n Lt ds P zs (gM P a0 lt sd) k o0)
   (SC [o0,some (.loc dl),some (.loc pc),some (.int n),some (.loc pl),some (.loc t0),o6,some (.loc tr),some (.int (k:Nat)),o9,o10,none,none] s):=by
 obtain⟨fr,tab,ht,cR,hm1,hmk,hmo⟩:=I
 have i1:bC (.loc dl) (.int (2*(k:Int)+1)) s=.ok (.int (dg (2*k+1):Nat)) s:=by
  have:=dU fr.d (NT (2*k+1) (by omega))
  rw[show((2*k+1:Nat):Int)=2*(k:Int)+1 by omega]at this;exact this
 have i0:bC (.loc dl) (.int (2*(k:Int))) s=.ok (.int (dg (2*k):Nat)) s:=by
  have:=dU fr.d (NT (2*k) (by omega))
  rw[show((2*k:Nat):Int)=2*(k:Int) by omega]at this;exact this
 have cm:wj 2 (k:Int):=.inl (by decide)
 have m2:∀m:Nat,dQ (.int (m:Nat)) (.int 2) s=.ok (.int ((m%2:Nat):Int)) s:=fun m=>by rw[gY];exact gF (by decide)
 have d2:∀m:Nat,nj (.int (m:Nat)) (.int 2) s=.ok (.int ((m/2:Nat):Int)) s:=fun m=>by rw[Int.natCast_ediv];exact gF (by decide)
 have mL:∀m:Nat,dQ (.int (m:Nat)) (.int (Lt:Nat)) s=.ok (.int ((m%Lt:Nat):Int)) s:=fun m=>by rw[gY];exact gF (by show(0:Int)<_;omega)
 have hpk:bC (.loc pc) (.int (-1-(k:Int))) s=.ok (.int ((P.getD (P.length-1-k) 0:Nat):Int)) s:=by
  rw[show -1-(k:Int)=-((k:Int)+1) by omega]
  refine iK (bd fr.p) (Az ?_)
  rw[nW,<- List.map_reverse,ax,fx hk,ae (by omega),aG,ae (by omega)];rfl
 have uG:=vV (P:=P) (a0:=a0) (lt:=lt) (sd:=sd)
 obtain⟨L,hLk⟩:∃L,gM P a0 lt sd (k+1)=L:=⟨_,rfl⟩
 have hleL:=uG (k+1)
 rw[hLk]at hleL
 have hLa:L.a=lt k:=by
  rw[<- hLk,kN]
  split
  ·rfl
  ·split<;>rfl
 have haL:L.a<Lt:=by rw[hLa,kE];exact Nat.mod_lt _ (by omega)
 suffices key:gH (tQ st dl pc pl t0 tr n Lt ds P zs (gM P a0 lt sd) k o0)
   (Sc [o0,some (.loc dl),some (.loc pc),some (.int n),some (.loc pl),some (.loc t0),o6,some (.loc tr),some (.int (k:Nat)),some (.int (L.l:Nat)),some (.int (L.r:Nat)),none,none] s) by
  have e1:((k:Int)+1)=((k+1:Nat):Int):=by omega
  have tv:∀{fs:FE} {v:W} {q:Int} (ρ:cf),ρ[8]?=some (some (.int (k:Nat)))->fs ρ s=.ok (.int q) s->pJ [W.tup [.int 0,.int ((k:Int)+1)],W.tup [.int ((k:Int)+1),.int 0]] q=some v->e2 bC (dy (ai (dy (ai (eI 0) (ai (e2 cF (ah 8) (eI 1)) aD))) (ai (dy (ai (e2 cF (ah 8) (eI 1)) (ai (eI 0) aD))) aD))) fs ρ s=.ok v s:=fun ρ h8 hf hv=>
   bc (fj (aj (fj (aj bD (aj (bc (ag h8) bD cU) aF)) (aq rfl)) (aj (fj (aj (bc (ag h8) bD cU) (aj bD aF)) (aq rfl)) aF)) (aq rfl)) hf (cn hv)
  obtain⟨p,q,hat,hpq⟩:∃p q:Int,pJ [W.tup [.int 0,.int ((k:Int)+1)],W.tup [.int ((k:Int)+1),.int 0]] ((dg (2*k+1)%2:Nat):Int)=some (.tup [.int p,.int q])/\((sd k=0/\p=0/\q=(k:Int)+1)\/(sd k=1/\p=(k:Int)+1/\q=0)):=by
   rcases Nat.mod_two_eq_zero_or_one (dg (2*k+1))with z|z
   ·exact⟨_,_,by rw[z];rfl,.inl ⟨by rw[Sf,z],rfl,rfl⟩⟩
   ·exact⟨_,_,by rw[z];rfl,.inr ⟨by rw[Sf,z],rfl,rfl⟩⟩
  apply aH
  ·exact vN (tv _ rfl (bc (bc (ag rfl) (bc (bc bD (ag rfl) (nD cm)) bD cU) i1) bD (m2 _)) hat) rfl
  by_cases z:P.getD (P.length-1-k) 0=1
  ·apply e_
   ·exact bR (bc (bc (ag rfl) (bc (yz bD) (ag rfl) rfl) hpk) bD (fY (by rw[z];rfl)))
   apply aH
   ·show E0 _ _ _ _ _=.nx _ _
    unfold E0
    rw[show ∀ρ:cf,ρ[8]?=some (some (.int (k:Nat)))->(ai (e2 cF (ah 8) (eI 1)) (ai (e2 cF (ah 8) (eI 1)) aD)) ρ s=.ok [.int ((k:Int)+1),.int ((k:Int)+1)] s from fun ρ h8=>aj (bc (ag h8) bD cU) (aj (bc (ag h8) bD cU) aF)]<;>rfl
   ·have:L=⟨lt k,k+1,k+1⟩:=by rw[<- hLk,kN,aB z]
    rw[this]at key
    exact key
  ·apply bG
   ·exact bR (bc (bc (ag rfl) (bc (yz bD) (ag rfl) rfl) hpk) bD (fY (by rw[aS];omega)))
   apply bY
   rcases hpq with⟨y,rfl,rfl⟩|⟨y,rfl,rfl⟩
   ·have:L=⟨lt k,0,k+1⟩:=by rw[<- hLk,kN,aE z,aB y]
    rw[this]at key
    exact key
   ·have:L=⟨lt k,k+1,0⟩:=by rw[<- hLk,kN,aE z,aE (by omega)]
    rw[this]at key
    exact key
 have ll:de [.loc t0] s=.ok (.int (Lt:Nat)) s:=by
  have:=gv (bd tab.t)
  rw[az,bj]at this;exact this
 apply aH
 ·exact bS (bc (bc (bc (ag rfl) (bc bD (ag rfl) (nD cm)) i0) bD (d2 _)) (bA (aj (ag rfl) aF) ll) (mL _))
 have e6:((dg (2*k)/2%Lt:Nat):Int)=((L.a:Nat):Int):=by rw[hLa,kE]
 rw[e6]
 have pz:∀{j:Nat},j<n->bC (.loc pl) (.int (j:Nat)) s=.ok (.int (zg zs j:Nat)) s:=fun hj=>rW fr.z (jJ (by rw[own.len];exact hj))
 have ltz:∀{j:Nat},j<n->zg zs j<n:=fun hj=>(own.mem _).mp (aA (jJ (by rw[own.len];exact hj)))
 have hl:L.l<n:=by omega
 have hr:L.r<n:=by omega
 have htp:=tab.put (v:=zg zs (k+2)) haL (ltz hl) (ltz hr)
 have hbl:=pF (l:=zg zs L.l) (n:=n) haL (by have:=ltz hl;omega)
 have htl:=tab.len
 apply aH
 ·refine mK (bc (ag rfl) (bc (ag rfl) bD (z:=.int ((k+2:Nat):Int)) rfl) (pz (by omega))) (tab.at haL (ltz hl) (ag rfl) (ag rfl) (bc (ag rfl) (ag rfl) (pz hl))) (bc (ag rfl) (ag rfl) (pz hr)) (Ay (j:=zg zs L.r) (tab.r _ _ haL (ltz hl)) ?_)
  exact AF (by unfold rN;rw[az,bj];exact ltz hr)
 have hlk2:zN zs n (gM P a0 lt sd) (k+2)=uz (zN zs n (gM P a0 lt sd) (k+1)) L.a (zg zs L.l) (zg zs L.r) (zg zs (k+2)):=by
  rw[<- hLk];rfl
 rw[<- hlk2]at htp
 have fr2:=fr.set (q:=t0+1+L.a*(n+1)+zg zs L.l) (c:=.lst ((rN n (zN zs n (gM P a0 lt sd) (k+1) L.a (zg zs L.l))).set (zg zs L.r) (.int (zg zs (k+2):Nat)))) (by omega) (by omega) (by omega) (by omega)
 have ht2:(s.set (t0+1+L.a*(n+1)+zg zs L.l) (.lst ((rN n (zN zs n (gM P a0 lt sd) (k+1) L.a (zg zs L.l))).set (zg zs L.r) (.int (zg zs (k+2):Nat)))))[tr]?=some (.lst ((List.range (m+1)).map fun j=>W.tup (Wd ([81].take (Lt-1)) (gM P a0 lt sd) j))):=by
  rw[aQ (by omega)];exact ht
 have hlen2:(s.set (t0+1+L.a*(n+1)+zg zs L.l) (.lst ((rN n (zN zs n (gM P a0 lt sd) (k+1) L.a (zg zs L.l))).set (zg zs L.r) (.int (zg zs (k+2):Nat))))).length=tr+1:=by rw[eO];exact cR
 generalize s.set (t0+1+L.a*(n+1)+zg zs L.l) (.lst ((rN n (zN zs n (gM P a0 lt sd) (k+1) L.a (zg zs L.l))).set (zg zs L.r) (.int (zg zs (k+2):Nat))))=s2 at *
 have lt2:de [.loc tr] s2=.ok (.int ((m+1:Nat):Int)) s2:=by
  have:=gv (bd ht2)
  rw[az,bj]at this;exact this
 rcases cx m (k+1)with y|y
 ·-- no tree any kH
  refine f' (lS (bR (bc (bA (aj (ag rfl) aF) lt2) (bc (ag rfl) bD cU) (fY (by rw[aS];omega))))) ?_
  exact⟨_,_,rfl,_,_,_,m,rfl,fr2,htp,ht2,hlen2,hm1,by omega,.inr (hmo.resolve_left (by omega))⟩
 obtain rfl:m=k+1:=by omega
 have ixt:∀{j:Nat},j<=k+1->bC (.loc tr) (.int (j:Nat)) s2=.ok (.tup (Wd ([81].take (Lt-1)) (gM P a0 lt sd) j)) s2:=fun{j} hj=>iK (bd ht2) (d6 (by rw[ax,bq (by omega)];rfl))
 have wlen:∀{j:Nat},j<=k+1->(Wd ([81].take (Lt-1)) (gM P a0 lt sd) j).length=N0 P j:=fun{j} hj=>AT _ (j+1) j (by omega) (by omega)
 have hN:=sL (P:=P) (a0:=a0) (lt:=lt) (sd:=sd) (k:=k+1) (by omega)
 rw[hLk]at hN
 have ts:∀{c:Bool},decide (((N0 P L.l:Nat):Int)+((N0 P L.r:Nat):Int)<100)=c->Sb [o0,some (.loc dl),some (.loc pc),some (.int n),some (.loc pl),some (.loc t0),some (.int (L.a:Nat)),some (.loc tr),some (.int (k:Nat)),some (.int (L.l:Nat)),some (.int (L.r:Nat)),none,none] s2=.ok c s2:=fun{c} hc=>by
  refine lR (bR (bc (bA (aj (ag rfl) aF) lt2) (bc (ag rfl) bD cU) (fY (by rw[cz];omega)))) (bR (bc (bc (bA (aj (bc (ag rfl) (ag rfl) (ixt hleL.1)) aF) gc) (bA (aj (bc (ag rfl) (ag rfl) (ixt hleL.2)) aF) gc) cU) bD (iJ ?_)))
  rw[wlen hleL.1,wlen hleL.2];exact hc
 by_cases x:N0 P L.l+N0 P L.r<100
 ·refine jp (ts (a_ (by omega))) ?_
  have hj:=xg ([81].take (Lt-1)) (Wd ([81].take (Lt-1)) (gM P a0 lt sd) L.l) (Wd ([81].take (Lt-1)) (gM P a0 lt sd) L.r) L.a (by rw[wlen hleL.1,wlen hleL.2];omega) (fun u=>uA _ _ uG u (L.l+1) L.l (by omega)) (fun u=>uA _ _ uG u (L.r+1) L.r (by omega)) s2
  rw[P' hL haL,<- KI hL haL]at hj
  refine et (fC (mV (ag rfl) (eV ht2) (aj (cA (aj (bc (ag rfl) (ag rfl) (ixt hleL.1)) (aj (bc (ag rfl) (ag rfl) (ixt hleL.2)) (aj (uU bD yA (sv (ag rfl)) (BM (aq rfl))) aF))) hj rfl) aF) (nE ht2 (by rw[az,bj];show _<1000000;omega)))) ?_
  refine⟨_,_,rfl,_,_,_,k+2,rfl,fr2.set (by omega) (by omega) (by omega) (by omega),htp.keep (.inr (by omega)),?_,by rw[eO];exact hlen2,by omega,by omega,.inl rfl⟩
  rw[ba (by omega)]
  have:=sM ([81].take (Lt-1)) (gM P a0 lt sd) uG (k+1)
  rw[hLk]at this
  rw[c8 (n:=k+2),bu]
  simp only[aT,c_]
  rw[this]
 ·refine f' (ts (aU (by omega))) ?_
  exact⟨_,_,rfl,_,_,_,k+1,rfl,fr2,htp,ht2,hlen2,hm1,by omega,.inr (by rw[hN];omega)⟩
theorem GN{st:List am}{dl num:Nat}{ds:List Int}(hd:st[dl]?=some (.lst (lf ds)))(rA:ds.length=200)(u9:∀d∈ds,0<=d)(u6:1<=num)(hP:(fB num).length<=48) :
  ∃(Lt a0:Nat) (lt sd:Nat->Nat) (zs:List Nat) (M:Mc) (tr uF m:Nat) (x:List am),(Lt=1\/Lt=2)/\sH M ((fB num).length+3)/\M.nm.length<=1/\M.tb.length=Lt/\B_ ((fB num).length+3) Lt (fB num).length zs (gM (fB num) a0 lt sd) (cC M)/\zs[(fB num).length+1]?=some uF /\
   y4 [.int (num:Nat),.loc dl] st=.ok (.tup [M.w,.int (uF:Nat),.loc tr]) (st++x)/\(st++x)[tr]?=some (.lst ((List.range (m+1)).map fun j=>W.tup (Wd M.nm (gM (fB num) a0 lt sd) j)))/\1<=m/\m<=(fB num).length+1/\(m=(fB num).length+1\/100<N0 (fB num) (m+1)):=by
 obtain⟨dg,NT⟩:∃dg:Nat->Nat,∀i,i<200->ds[i]?=some ((dg i:Nat):Int):=⟨fun i=>(ds.getD i 0).toNat,fun i hi=>by
  have hl:i<ds.length:=by omega
  have:=u9 _ (f9 hl)
  show _=some (((ds.getD i 0).toNat:Nat):Int)
  rw[ae hl,aG,ae hl,Option.getD_some,jK this]⟩
 obtain⟨P,hPe⟩:∃P,fB num=P:=⟨_,rfl⟩
 obtain⟨Lt,hLt⟩:∃Lt,Lt=1+dg 0%2:=⟨_,rfl⟩
 have hL:Lt=1\/Lt=2:=by omega
 obtain⟨n,hn⟩:∃n,n=P.length+3:=⟨_,rfl⟩
 have Cg:dg 1%Lt<Lt:=Nat.mod_lt _ (by omega)
 have hdlt:dl<st.length:=(aa.mp hd).1
 suffices hh:gH (uI fun w s=>∃(zs:List Nat) (M:Mc) (tr uF m:Nat) (x:List am),s=st++x/\st.length<=tr/\w=.tup [M.w,.int (uF:Nat),.loc tr]/\sH M (P.length+3)/\M.nm.length<=1/\M.tb.length=Lt/\B_ (P.length+3) Lt P.length zs (gM P (dg 1%Lt) (fun k=>dg (2*k)/2%Lt) (fun k=>dg (2*k+1)%2)) (cC M)/\zs[P.length+1]?=some uF /\
   (st++x)[tr]?=some (.lst ((List.range (m+1)).map fun j=>W.tup (Wd M.nm (gM P (dg 1%Lt) (fun k=>dg (2*k)/2%Lt) (fun k=>dg (2*k+1)%2)) j)))/\1<=m/\m<=P.length+1/\(m=P.length+1\/100<N0 P (m+1))) (KA ([W.int (num:Nat),.loc dl].map some++List.replicate (13-2) none) st) by
  obtain⟨w,s,e,zs,M,tr,uF,m,x,rfl,htr,rfl,h1,h2,h3,h4,h5,h6,h7,h8,h9⟩:=hh
  rw[hPe]
  refine⟨Lt,dg 1%Lt,_,_,zs,M,tr,uF,m,x,hL,h1,h2,h3,h4,h5,?_,h6,h7,h8,h9⟩
  have:=oh (N:=13) (ws:=[W.int (num:Nat),.loc dl]) e
  rw[vF (by simp[undWs,W.und];omega)]at this
  exact this
 have hP':P.length<=48:=by rw[<- hPe];exact hP
 apply aH
 ·exact bS (t9 aF (aq rfl))
 refine AU (st:=st) (dl:=dl) (num:=num) u6 (by omega) fun o=>?_
 rw[hPe]
 apply aH
 ·exact bS (bc (bA (aj (ag rfl) aF) (gv (bd cp))) bD cU)
 have e3:(((nW P).length:Nat):Int)+3=((n:Nat):Int):=by rw[hn];simp[nW]
 rw[e3]
 have A':(st++[am.lst (nW P)])[dl]?=some (.lst (lf ds)):=bN hd
 have hcut:jv (lf ds) (some 96) none=lf (ds.drop 96):=by
  have:=on (l:=lf ds) (q:=96) (by simp[lf,rA])
  rw[lf,<- la]at this
  exact this
 obtain⟨zs,own,eo⟩:=Dq n (st++[am.lst (nW P)]).length (ds.drop 96) ((st++[am.lst (nW P)])++[am.lst (lf (ds.drop 96))]) (by omega) (by omega) cp (by rw[dH];omega)
 have sl:CV (.loc dl) (some 96) none (st++[am.lst (nW P)])=.ok (.loc (st++[am.lst (nW P)]).length) ((st++[am.lst (nW P)])++[am.lst (lf (ds.drop 96))]):=by
  have:=E8 (l:=some 96) (h:=none) (bd A')
  rw[hcut]at this;exact this
 apply aH
 ·exact bS (cA (aj (ag rfl) (aj bD (aj (uU (ag rfl) (sv bD) yA sl) aF))) eo rfl)
 apply aH
 ·exact bS (t9 aF (aq rfl))
 obtain⟨t0,ht0⟩:∃t0,t0=st.length+3:=⟨_,rfl⟩
 have l2:((st++[am.lst (nW P)])++[am.lst (lf (ds.drop 96))]).length=st.length+2:=by simp
 have l3:(((st++[am.lst (nW P)])++[am.lst (lf (ds.drop 96))])++[am.lst (nW zs)]).length=t0:=by simp[ht0]
 have fr0:Fr st ((((st++[am.lst (nW P)])++[am.lst (lf (ds.drop 96))])++[am.lst (nW zs)])++[am.lst []]) dl st.length (st.length+2) ds P zs:=by
  refine⟨jg (jg (jg (aC _ _))),bN (bN (bN A')),bN (bN (bN cp)),bN ?_⟩
  rw[<- l2];exact cp
 have tab0:vT ((((st++[am.lst (nW P)])++[am.lst (lf (ds.drop 96))])++[am.lst (nW zs)])++[am.lst []]) t0 n 0 (fun _ _ _=>zg zs (n-1)):=by
  refine⟨by rw[aK,l3];simp,?_,fun a ha=>absurd ha (bz _),fun a l ha=>absurd ha (bz _)⟩
  rw[<- l3];exact cp
 have len0:((((st++[am.lst (nW P)])++[am.lst (lf (ds.drop 96))])++[am.lst (nW zs)])++[am.lst []]).length=t0+1+0*(n+1):=by rw[aK,l3];simp
 rw[l2,l3]
 generalize (((st++[am.lst (nW P)])++[am.lst (lf (ds.drop 96))])++[am.lst (nW zs)])++[am.lst []]=s1 at *
 have hq:((dg 0:Nat):Int)%2+1=((Lt:Nat):Int):=by omega
 refine dO (fun i ρ s=>∃o6,ρ=[o,some (.loc dl),some (.loc st.length),some (.int (n:Nat)),some (.loc (st.length+2)),some (.loc t0),o6,none,none,none,none,none,none]/\i<=Lt/\Fr st s dl st.length (st.length+2) ds P zs/\vT s t0 n i (fun _ _ _=>zg zs (n-1))/\s.length=t0+1+i*(n+1))
  (df (q:=((Lt:Nat):Int)) (aj (bc bD (bc (bc (ag rfl) bD (dU (i:=0) fr0.d (NT 0 (by omega)))) bD (gF (by decide))) (by rw[<- hq,Int.add_comm];exact cU)) aF) (by omega)) ⟨none,rfl,b_ _,fr0,tab0,len0⟩ (fun _ _ _ _=>trivial) ?_ ?_
 ·rintro i w ρ s hw ⟨o6,rfl,hiL,fr,tab,cR⟩
  obtain⟨hi,rfl⟩:=du hw
  rw[a6]at hi
  refine⟨_,rfl,?_⟩
  have tn:=Js (ρ:=[o,some (.loc dl),some (.loc st.length),some (.int (n:Nat)),some (.loc (st.length+2)),some (.loc t0),some (.int (0+(i:Int))),none,none,none,none,none,none]) fr.z (jJ (j:=n-1) (by rw[own.len];omega)) (by omega) (by omega) rfl rfl
  refine et (fC (mV (ag rfl) (eV tab.t) (aj tn aF) (nE (bN tab.t) (by rw[az,bj];show _<1000000;omega)))) ?_
  refine⟨_,_,rfl,_,rfl,by omega,(fr.app _).set (by omega) (by omega) (by omega) (by omega),tab.new cR fun _ _ _=>rfl,?_⟩
  rw[eO,aK,cR,aK,az,bj]
  show t0+1+i*(n+1)+(n+1)=_
  rw[iX];omega
 rintro ρ s ⟨o6,rfl,hiL,fr,tab,cR⟩
 rw[show(bK 0 ((Lt:Nat):Int).toNat,(none:Option (Nat×List W))).fst.length=Lt by simp[cG]]at tab cR
 clear hiL len0 tab0 fr0
 have ll:de [.loc t0] s=.ok (.int (Lt:Nat)) s:=by
  have:=gv (bd tab.t)
  rw[az,bj]at this;exact this
 have mL:∀m:Nat,dQ (.int (m:Nat)) (.int (Lt:Nat)) s=.ok (.int ((m%Lt:Nat):Int)) s:=fun m=>by rw[gY];exact gF (by show(0:Int)<_;omega)
 apply aH
 ·exact bS (bc (bc (ag rfl) bD (dU (i:=1) fr.d (NT 1 (by omega)))) (bA (aj (ag rfl) aF) ll) (mL _))
 have hz0:zg zs 0=0:=by have:=jJ (zs:=zs) (j:=0) (by rw[own.len];omega);rw[own.zero]at this;exact(aZ this).symm
 have tp:=tab.put (v:=zg zs 1) (l:=0) (r:=0) Cg (by omega) (by omega)
 have hbl:=pF (l:=0) (n:=n) Cg (b_ _)
 apply aH
 ·exact mK (bc (ag rfl) bD (rW (i:=1) fr.z (jJ (by rw[own.len];omega)))) (tab.at Cg (by omega) (ag rfl) (ag rfl) (l:=0) bD) bD (Ay (j:=0) (tab.r _ _ Cg (by omega)) (AF (q:=0) (by unfold rN;rw[az,bj];omega)))
 have fr2:=fr.set (q:=t0+1+dg 1%Lt*(n+1)+0) (c:=.lst ((rN n fun _=>zg zs (n-1)).set 0 (.int (zg zs 1:Nat)))) (by omega) (by omega) (by omega) (by omega)
 have hlen2:(s.set (t0+1+dg 1%Lt*(n+1)+0) (.lst ((rN n fun _=>zg zs (n-1)).set 0 (.int (zg zs 1:Nat))))).length=t0+1+Lt*(n+1):=by rw[eO];exact cR
 generalize s.set (t0+1+dg 1%Lt*(n+1)+0) (.lst ((rN n fun _=>zg zs (n-1)).set 0 (.int (zg zs 1:Nat))))=s2 at *
 obtain⟨lk,hlk⟩:∃lk,lk=gM P (dg 1%Lt) (fun k=>dg (2*k)/2%Lt) (fun k=>dg (2*k+1)%2):=⟨_,rfl⟩
 have tp1:vT s2 t0 n Lt (zN zs n lk 1):=by
  have:zN zs n lk 1=uz (fun _ _ _=>zg zs (n-1)) (dg 1%Lt) 0 0 (zg zs 1):=by
   subst hlk
   show uz _ _ (zg zs 0) (zg zs 0) _=_
   rw[hz0];rfl
  rw[this];exact tp
 apply aH
 ·exact bS (t9 (aj (fj aF (aq rfl)) (aj (fj (aj (fj (aj bD (aj (uU bD yA (sv (ag rfl)) (BM (aq rfl))) aF)) (aq rfl)) aF) (aq rfl)) aF)) (aq rfl))
 rw[hlen2]
 have I0:TI st (s2++[am.lst [W.tup [],W.tup [W.tup [W.int 0,W.str (jv [81] none (some ((dg 1%Lt:Nat):Int)))]]]]) dl st.length (st.length+2) t0 (t0+1+Lt*(n+1)) n Lt ds P zs lk 0 1:=by
  refine⟨fr2.app _,tp1.app _,?_,by rw[aK,hlen2];rfl,ay _,ay _,.inl rfl⟩
  rw[<- hlen2,cp,KI hL Cg]
  subst hlk
  rw[<- P' hL Cg];rfl
 generalize s2++[am.lst [W.tup [],W.tup [W.tup [W.int 0,W.str (jv [81] none (some ((dg 1%Lt:Nat):Int)))]]]]=s3 at *
 obtain⟨tr,htr⟩:∃tr,tr=t0+1+Lt*(n+1):=⟨_,rfl⟩
 rw[<- htr]at I0 ⊢
 refine dO (fun i ρ s=>∃(o6 o8 o9 o10:Option W) (m:Nat),ρ=[o,some (.loc dl),some (.loc st.length),some (.int (n:Nat)),some (.loc (st.length+2)),some (.loc t0),o6,some (.loc tr),o8,o9,o10,none,none]/\TI st s dl st.length (st.length+2) t0 tr n Lt ds P zs lk i m)
  (df (q:=((P.length:Nat):Int)) (aj (bA (aj (ag rfl) aF) (by have:=gv (bd I0.fr.p);rw[show(nW P).length=P.length by simp[nW]]at this;exact this)) aF) (by omega)) ⟨_,none,none,none,1,rfl,I0⟩ (fun _ _ _ _=>trivial) ?_ ?_
 ·rintro i w ρ s hw ⟨o6,o8,o9,o10,m,rfl,I⟩
  obtain⟨hi,rfl⟩:=du hw
  rw[a6]at hi
  rw[eB]
  refine⟨_,rfl,?_⟩
  subst hlk
  have:=GM (o0:=o) (o6:=o6) (o9:=o9) (o10:=o10) hdlt (by omega) (by omega) (ay _) htr hn hP' own hL NT (fun _=>rfl) (fun _=>rfl) Cg hi I
  obtain⟨ρ2,s2,e,o6,o9,o10,m,rfl,I2⟩:=this
  exact⟨_,_,e,_,_,_,_,m,rfl,I2⟩
 rintro ρ s ⟨o6,o8,o9,o10,m,rfl,I⟩
 rw[show(bK 0 ((P.length:Nat):Int).toNat,(none:Option (Nat×List W))).fst.length=P.length by simp[cG]]at I
 obtain⟨x1,e1⟩:=Jv (ρ:=[o,some (.loc dl),some (.loc st.length),some (.int (n:Nat)),some (.loc (st.length+2)),some (.loc t0),o6,some (.loc tr),o8,o9,o10,none,none]) I.tab (by omega) (by omega) rfl
 apply aH
 ·exact bS e1
 have ll2:de [.loc t0] (s++x1)=.ok (.int (Lt:Nat)) (s++x1):=by
  have:=gv (bd (bN (x:=x1) I.tab.t))
  rw[az,bj]at this;exact this
 obtain⟨gd,hgl,_,eg⟩:=uj (fs:=ai (ah 3) aD) (cap:=[none]) (el:=e2 jY (e2 dQ (ah 0) (eI 2)) (eI 0)) (ρ:=[o,some (.loc dl),some (.loc st.length),some (.int (n:Nat)),some (.loc (st.length+2)),some (.loc t0),o6,some (.loc tr),o8,o9,o10,some (.tup ((NQ n Lt (zN zs n lk (P.length+1))).map gf)),none]) (st:=s++x1) (n:=n) W.bl (fun _ _=>True) (aj (ag rfl) aF) (by omega) (fun i hi=>⟨_,trivial,bc (bc (ag rfl) bD (gF (by decide))) bD (fY rfl)⟩)
 have hcut:jv [81] none (some ((Lt:Int)-1))=[81].take (Lt-1):=by
  rw[show(Lt:Int)-1=((Lt-1:Nat):Int) by omega]
  exact qb (by show _<=1;omega)
 apply aH
 ·exact bS (fj (aj (uU bD yA (sv (bc (bA (aj (ag rfl) aF) ll2) bD rfl)) (BM (aq rfl))) (aj eg (aj (ag rfl) aF))) (aq rfl))
 have nO:zs[P.length+1]?=some (zg zs (P.length+1)):=jJ (by rw[own.len];omega)
 have ir:bC (.loc (st.length+2)) (.int ((n:Int)-2)) ((s++x1)++[am.lst (gd.map W.bl)])=.ok (.int (zg zs (P.length+1):Nat)) ((s++x1)++[am.lst (gd.map W.bl)]):=by
  rw[show(n:Int)-2=((P.length+1:Nat):Int) by omega]
  exact rW (bN (bN I.fr.z)) nO
 have htl:=I.tab.len
 have htt:=bN (x:=[am.lst (gd.map W.bl)]) (bN (x:=x1) I.t)
 have hlen3:=I.len
 obtain⟨y,rfl⟩:=I.fr.pre
 refine cB (fj (aj (ag rfl) (aj (bc (ag rfl) (bc (ag rfl) bD rfl) ir) (aj (ag rfl) aF))) (aq rfl)) ?_
 refine⟨_,_,rfl,zs,Dr gd n Lt (zN zs n lk (P.length+1)),tr,zg zs (P.length+1),m,y++x1++[am.lst (gd.map W.bl)],by simp only[aY],by omega,?_,?_,?_,Jw,?_,nO,?_,I.m1,I.m2,I.mo⟩
 ·rw[hcut];rfl
 ·rw[<- hn];exact Nm hgl hL fun a l r _ _ _=>GK own hn _ (ay _) a l r
 ·show([81].take (Lt-1)).length<=1
  simp;omega
 ·subst hlk
  rw[<- hn]
  refine Dt own hn vV GI (fun k hk=>?_) fun a x y ha hx hy=>P_ ha hx hy
  cases k with
  |zero=>exact Cg
  |succ k=>
   rw[kN]
   have:=Nat.mod_lt (dg (2*k)/2) (y:=Lt) (by omega)
   split
   ·exact this
   ·split<;>exact this
 ·rw[<- hlk]
  simp only[aY]at htt ⊢
  exact htt
theorem uB{α:Type}{p:α->Bool}:∀{l:List α} {i:Nat} {x:α},l[i]?=some x->p x=true->(∀j y,l[j]?=some y->j≠i->p y=false)->l.filter p=[x]
 |[],i,x,h,_,_=>by simp at h
 |a::l,0,x,h,hp,hn=>by
  simp at h;subst h
  rw[cI,aB hp]
  congr 1
  rw[List.filter_eq_nil_iff]
  intro y hy
  obtain⟨j,hj⟩:=br hy
  rw[hn (j+1) y (by simpa using hj) (by omega)];simp
 |a::l,i+1,x,h,hp,hn=>by
  rw[cI,aE (by rw[hn 0 a rfl (by omega)];simp)]
  exact uB (i:=i) (by simpa using h) hp fun j y hj oz=>hn (j+1) y (by simpa using hj) (by omega)
def Nn(uF:Nat):W->Bool
 |.tup (.int q::_)=>q==(uF:Int)
 |_=>false
def GO:W->W
 |.tup (_::y::_)=>y
 |w=>w
theorem zr{num:Nat}(h:num<2^15):(fB num).length<=48:=by
 have:=qm num num 14 h
 unfold fB;omega
theorem GP{e m:Nat}(he:e<=30)(h1:1<=m)(h2:m<=1001):(fB (2^e*m-1)).length<=48:=by
 have:=vS e (2^e*m-1) m h1
 have:=qm (2^e*m-1-e) (m-1) 9 (by show _<1024;omega)
 unfold fB;omega
theorem law_ok:EQ (wD tabL) f_q33:=by
 intro ns hn
 suffices hh:gH (uI fun w bI=>w=.bl true) (KB ([W.loc 0].map some++List.replicate (9-1) none) (.ro (ns.map W.int)::wD tabL)) by
  obtain⟨w,bI,e,rfl⟩:=hh
  exact⟨_,oh e⟩
 have h0:(am.ro (ns.map W.int)::wD tabL)[0]?=some (.ro (ns.map W.int)):=rfl
 have ht:zn (am.ro (ns.map W.int)::wD tabL):=rfl
 generalize hs0:(am.ro (ns.map W.int)::wD tabL:List am)=s0 at h0 ht
 obtain⟨c0,e0⟩:=qd h0 0
 obtain⟨gi,qo,_,_,e1⟩:=IR c0 2000003 6 (by omega) s0
 apply aH
 ·exact bS (cA (aj (cA (aj (ag rfl) (aj bD aF)) e0 rfl) (aj bD (aj bD aF))) e1 rfl)
 obtain⟨M,n,hM,hn1,zO,uD,_,_,e2⟩:=M7 h0 1 gi (by omega) (by omega)
 obtain⟨E,R,T,A⟩:=Gr hM hn1 (by omega) (by omega)
 apply bG
 ·exact nB (bR (cA (aj (cA (aj (ag rfl) (aj bD (aj (ag rfl) aF))) e2 rfl) aF) (xj A uD zO ht) rfl)) rfl
 apply bY
 clear A hM e2 e1 e0
 obtain⟨c1,e3⟩:=qd h0 10
 obtain⟨hs,hhl,hhp,e4⟩:=qe c1 4000037 4 (by omega) s0
 apply aH
 ·exact bS (cA (aj (cA (aj (ag rfl) (aj bD aF)) e3 rfl) (aj bD (aj bD aF))) e4 rfl)
 generalize oI:s0++[am.lst (hs.map W.int)]=s1
 have p1:s0 <+: s1:=by rw[<- oI];exact aC _ _
 have hc1:s1[s0.length]?=some (.lst (lf hs)):=by rw[<- oI];exact cp
 have h1:=pre_get p1 h0
 have Dy:zn s1:=pre_get p1 ht
 obtain⟨d0,d1,d2,d3,rfl⟩:∃a b c d,hs=[a,b,c,d]:=by
  match hs,hhl with
  |[a,b,c,d],_=>exact⟨_,_,_,_,rfl⟩
 have i0:bC (.loc s0.length) (.int 0) s1=.ok (.int d0) s1:=dU (i:=0) hc1 rfl
 have i1:bC (.loc s0.length) (.int 1) s1=.ok (.int d1) s1:=dU (i:=1) hc1 rfl
 have i2:bC (.loc s0.length) (.int 2) s1=.ok (.int d2) s1:=dU (i:=2) hc1 rfl
 have i3:bC (.loc s0.length) (.int 3) s1=.ok (.int d3) s1:=dU (i:=3) hc1 rfl
 obtain⟨c2,e5⟩:=qd h1 11
 apply aH
 ·exact bS (bc bD (bc (cA (aj (ag rfl) (aj bD aF)) e5 rfl) bD (gF (by decide))) cU)
 obtain⟨q,hq,eq⟩:=fU (q:=c2) (n:=20000) (by omega)
 have eq:1+c2%20000=((1+q:Nat):Int):=by rw[gq,<- eq];rfl
 show gH _ (aW _ _ [some (.loc 0),some (.str gi),some (.loc s0.length),some (.int (1+c2%20000)),none,none,none,none,none] s1)
 rw[eq]
 refine kM (fun ρ s=>s=s1/\∃num:Nat,1<=num/\(fB num).length<=48/\ρ=[some (.loc 0),some (.str gi),some (.loc s0.length),some (.int (num:Nat)),none,none,none,none,none]) ?_ ?_
 ·by_cases z:d2%4=1
  ·refine jp (bR (bc (bc (bc (ag rfl) bD i2) bD (gF (by decide))) bD (fY (by rw[z];rfl)))) ?_
   obtain⟨e,he,ee⟩:=fU (q:=d3) (n:=31) (by omega)
   have ee:d3%31=((e:Nat):Int):=ee
   have m3:dQ (.int d3) (.int 31) s1=.ok (.int (e:Nat)) s1:=by rw[<- ee];exact gF (by decide)
   have m4:dQ (.int ((1+q:Nat):Int)) (.int 1000) s1=.ok (.int (((1+q)%1000:Nat):Int)) s1:=by rw[gY];exact gF (by decide)
   have hpw:1<=2^e:=kD
   have hpm:1<=2^e*((1+q)%1000+2):=Nat.mul_pos hpw (by omega)
   have hp2:2<=2^e*((1+q)%1000+2):=a7 (by omega:2<=1*((1+q)%1000+2)) (gQ _ hpw)
   have shl:tz (.int ((((1+q)%1000:Nat):Int)+2)) (.int (e:Nat)) s1=.ok (.int ((2^e*((1+q)%1000+2):Nat):Int)) s1:=by
    have:tz (.int ((((1+q)%1000:Nat):Int)+2)) (.int (e:Nat)) s1=.ok (.int (((((1+q)%1000:Nat):Int)+2)*2^(e:Int).toNat)) s1:=gF (by
     refine⟨by omega,by omega,?_⟩
     omega)
    rw[this,a6]
    congr 2
    rw[jF,qD];simp
   refine et (bS (bc (bc (bc (bc (ag rfl) bD m4) bD cU) (bc (bc (ag rfl) bD i3) bD m3) shl) bD rfl)) ?_
   refine⟨_,_,rfl,rfl,2^e*((1+q)%1000+2)-1,by omega,GP (by omega) (by omega) (by omega),?_⟩
   rw[show((2^e*((1+q)%1000+2)-1:Nat):Int)=((2^e*((1+q)%1000+2):Nat):Int)-1 by omega];rfl
  ·refine f' (bR (bc (bc (bc (ag rfl) bD i2) bD (gF (by decide))) bD (fY (by rw[aS];exact z)))) ?_
   exact⟨_,_,rfl,rfl,1+q,by omega,zr (by show _<32768;omega),rfl⟩
 rintro ρ s ⟨rfl,num,u6,hP,rfl⟩
 refine kM (fun ρ s'=>s'=s/\∃num:Nat,1<=num/\(fB num).length<=48/\ρ=[some (.loc 0),some (.str gi),some (.loc s0.length),some (.int (num:Nat)),none,none,none,none,none]) ?_ ?_
 ·by_cases z:d0%2=0
  ·refine jp (bR (bc (bc (bc (ag rfl) bD i0) bD (gF (by decide))) bD (fY (by rw[z];rfl)))) ?_
   obtain⟨e,he,ee⟩:=fU (q:=d1) (n:=11) (by omega)
   have m3:dQ (.int d1) (.int 11) s=.ok (.int (e:Nat)) s:=by rw[<- ee];exact gF (by decide)
   refine et (bS (bc bD (bc (bc (ag rfl) bD i1) bD m3) cU)) ?_
   refine⟨_,_,rfl,rfl,95+e,by omega,zr (by show _<32768;omega),?_⟩
   rw[gq];rfl
  ·refine f' (bR (bc (bc (bc (ag rfl) bD i0) bD (gF (by decide))) bD (fY (by rw[aS];exact z)))) ?_
   exact⟨_,_,rfl,rfl,num,u6,hP,rfl⟩
 clear u6 hP
 rintro ρ s' ⟨rfl,num,u6,hP,rfl⟩
 obtain⟨j,x,ds,rA,hdp,hdx,e6⟩:=vM h1 12 200 5000011 (by omega)
 have hdl:(s'++x)[s'.length+j]?=some (.lst (lf ds)):=by rw[d_];exact hdx
 obtain⟨Lt,a0,lt,sd,zs,M2,tr,uF,m,y,hL,hM2,hnm2,hL2,C,nO,e7,htr,hm1,hm2,hmo⟩:=GN hdl rA hdp u6 hP
 apply aH
 ·exact vN (cA (aj (ag rfl) (aj (cA (aj (ag rfl) (aj bD (aj bD (aj bD aF)))) e6 rfl) aF)) e7 rfl) rfl
 have ht2:zn ((s'++x)++y):=bN (bN Dy)
 generalize (s'++x)++y=s2 at htr ht2 e7 ⊢
 obtain⟨E2,R2,T2,A2⟩:=Gr hM2 (by omega) (by omega) (by omega)
 obtain⟨i,e,he,hz,hsz,hT⟩:=pG A2 hL2 C (N0:=N0 (fB num)) rfl (fun k hk=>sL hk) (Wd:=Wd M2.nm (gM (fB num) a0 lt sd)) rfl (fun k _=>sM _ _ vV k) ((fB num).length+2) ((fB num).length+1) (by omega) (by omega)
 rw[nO]at hz
 have hz:uF=e.1:=aZ hz
 subst hz
 rw[Cb]at hsz
 have hsz:e.2.s=num:=by rw[hsz];exact oq num num (ay _) u6
 obtain⟨w,hw,m5⟩:=A2.rows.at' i e he
 obtain⟨tv,rfl⟩:=m5.sh
 have hsh:∀(j:Nat) (v:W),R2[j]?=some v->∃f tv,E2[j]?=some f/\v=.tup [.int (f.1:Nat),.int (f.2.s:Nat),tv]:=fun j v hv=>by
  have hj:j<E2.length:=by rw[<- A2.rows.len];exact(aa.mp hv).1
  obtain⟨v',hv',rv⟩:=A2.rows.at' j _ (ae hj)
  rw[hv]at hv';cases hv'
  obtain⟨tv,rfl⟩:=rv.sh
  exact⟨_,tv,ae hj,rfl⟩
 have hfil:R2.filter (Nn e.1)=[.tup [.int (e.1:Nat),.int (e.2.s:Nat),tv]]:=uB hw (by simp[Nn]) fun j v hj oz=>by
  obtain⟨f,tv',hf,rfl⟩:=hsh j v hj
  show((f.1:Int)==(e.1:Int))=false
  rw[aS]
  intro hq
  have hq:f.1=e.1:=by omega
  rcases Nat.lt_or_gt_of_ne oz with z|z
  ·exact oU A2.full.told.nd hf he z hq
  ·exact oU A2.full.told.nd he hf z hq.symm
 have hR2:R2.length<=1000:=by rw[A2.rows.len];have:=A2.full.told.len;omega
 have hcomp:=wL (fi:=eY (dq 1 uf (ai (ah 4) aD))) (cap:=[none,some 5]) (f:=eU 0) (t:=eZ (e2 jY (e2 bC (ah 0) (eI 0)) (ah 1))) (el:=e2 bC (ah 0) (eI 1)) (ρ:=[some (.loc 0),some (.str gi),some (.loc s0.length),some (.int (num:Nat)),some M2.w,some (.int (e.1:Nat)),some (.loc tr),none,none]) (Nn e.1) GO (jQ (cA (aj (ag rfl) aF) (A2.lam ht2) rfl)) (by show _<=1000000;omega) trivial fun v hv=>by
  obtain⟨j,hj⟩:=br hv
  obtain⟨f,tv',hf,rfl⟩:=hsh j v hj
  exact⟨_,rfl,bR (bc (bc (ag rfl) bD (cn rfl)) (ag rfl) (fY rfl)),fun _=>bc (ag rfl) bD (cn rfl)⟩
 rw[hfil]at hcomp
 apply aH
 ·exact vN hcomp rfl
 have hsc:(s2++[am.lst ([W.tup [.int (e.1:Nat),.int (e.2.s:Nat),tv]].map GO)])[s2.length]?=some (.lst [.int (e.2.s:Nat)]):=cp
 have htr3:=bN (x:=[am.lst ([W.tup [.int (e.1:Nat),.int (e.2.s:Nat),tv]].map GO)]) htr
 have ht3:zn (s2++[am.lst ([W.tup [.int (e.1:Nat),.int (e.2.s:Nat),tv]].map GO)]):=bN ht2
 generalize s2++[am.lst ([W.tup [.int (e.1:Nat),.int (e.2.s:Nat),tv]].map GO)]=s3 at hsc htr3 ht3
 have sm:=iO ((num:Nat):Int) 39 s3
 apply bG
 ·refine gA (bR (bc (bA (aj (ag rfl) aF) (gv (bd hsc))) bD (BL rfl))) (nB (bR (cA (aj (bc (ag rfl) bD (iK (bd hsc) rfl)) (aj (ag rfl) aF)) (w:=.bl true) (st2:=s3) ?_ rfl)) rfl)
  rw[hsz];exact sm
 apply bY
 apply aH
 ·exact bS (fj (aj bD (aj bD (aj bD (aj bD aF)))) (aq rfl))
 have tat:=B6 A2 ht3 he hT
 rw[hsz]at tat
 by_cases z:num<=100
 ·apply e_
  ·exact bR (bc (ag rfl) bD (E5 (a_ (by omega))))
  have hmp:m=(fB num).length+1:=by
   rcases hmo with z1|z1
   ·exact z1
   ·rcases cx m ((fB num).length+1)with z2|z2
    ·have:=KH (P:=fB num) ((fB num).length+1-(m+1)) (m+1) (by omega)
     rw[show m+1+((fB num).length+1-(m+1))=(fB num).length+1 by omega,Cb]at this
     have:=oq num num (ay _) u6
     unfold fB at *;omega
    ·omega
  have hlast:pJ ((List.range (m+1)).map fun j=>W.tup (Wd M2.nm (gM (fB num) a0 lt sd) j)) (-1)=some (.tup (Wd M2.nm (gM (fB num) a0 lt sd) ((fB num).length+1))):=by
   have:=Az (l:=(List.range (m+1)).map fun j=>W.tup (Wd M2.nm (gM (fB num) a0 lt sd) j)) (q:=0) (x:=.tup (Wd M2.nm (gM (fB num) a0 lt sd) ((fB num).length+1))) (by
    rw[c8,bu,List.reverse_append,hmp];rfl)
   exact this
  apply aH
  ·exact bS (bc (ag rfl) (yz bD) (iK (bd htr3) hlast))
  rw[aB z]at tat
  have hu:undWs s3.length [W.tup (Wd M2.nm (gM (fB num) a0 lt sd) ((fB num).length+1))]=true:=by
   simp only[undWs,bL];unfold W.und
   exact uA _ _ vV _ ((fB num).length+2) _ (by omega)
  exact cB (cA (aj (cA (aj (ag rfl) (aj (ag rfl) aF)) (xi tat hu) rfl) (aj (ag rfl) aF)) (vR A2 he hT (by omega) 37 s3) rfl) ⟨_,_,rfl,rfl⟩
 ·apply bG
  ·exact bR (bc (ag rfl) bD (E5 (aU (by omega))))
  apply bY
  rw[aE z]at tat
  exact cB (cA (aj (cA (aj (ag rfl) (aj (ag rfl) aF)) (B7 tat) rfl) (aj (ag rfl) aF)) (zo 38 s3) rfl) ⟨_,_,rfl,rfl⟩
local macro_rules | `(tactic| walk_at "hb") => `(tactic| first | (exact fun _ _ _ _ _ _ us hl => match us, hl with | [_], _ => rfl) | (exact fun _ _ _ _ _ _ us hl => match us, hl with | [_, _], _ => rfl) | (exact fun _ _ _ _ _ _ us hl => match us, hl with | [_, _, _], _ => rfl) | (exact fun _ _ _ _ _ _ us hl => match us, hl with | [_, _, _, _], _ => rfl) | (exact fun _ _ _ _ _ _ us hl => match us, hl with | [_, _, _, _, _], _ => rfl))
theorem all_mk{l:PySem.W.OpenLaw}{w:World}{K:Frag}{h:Heap}{mg:Str->Option Value}{fa:Addr}(X:K.In h)(G:h.Ns mainGlobals mg)(SM:mg "law"=some (.ref fa))
  {G5 Bc:Addr} {Qs Qd NI Ho:Option Addr} {Qe Nu:Array (Option Value)} {Qu Qx QF Qr Qj NK GZ Hq GU A8 Hi:Value} {jR:Addr} {b8:Addr} {qt:Addr} {jh:Addr} {oB:Addr} {l9:Addr} {c7:Addr} {qu:Addr} {qp:Addr} {jk:Addr} {ji:Addr} {u8:Tok}
  (Bb:DefIn K "marks_of" Mm)
  (xJ:DefIn K "pairs_with" Mn)
  (xB:DefIn K "check_size" Mo)
  (AX:DefIn K "with_top" Mp)
  (Hj:DefIn K "joined" Mq)
  (Ba:DefIn K "put_ways" Mr)
  (JA:DefIn K "built" Ms)
  (zt:DefIn K "told_tree" Mt)
  (xp:DefIn K "first_tree" Mu)
  (zG:DefIn K "_law_join" Fh)
  (xE:DefIn K "_law_given" Fi)
  (zz:DefIn K "_law_same" Fj)
  (zA:DefIn K "_law_shut" Fm)
  (vd:DefIn K "_law_ranked" Fp)
  (xy:DefIn K "_law_owner" Fq)
  (xH:DefIn K "_law_mixed" Fs)
  (xF:DefIn K "_law_draws" Fu)
  (zJ:DefIn K "_law_pool" Fv)
  (zC:DefIn K "_law_cell" Fw)
  (xK:DefIn K "_law_shape" Fx)
  (xC:DefIn K "_law_names" Fz)
  (u7:DefIn K "_law_blocks" FB)
  (xu:DefIn K "_law_grown" FC)
  (u_:DefIn K "_law_graded" FD)
  (uE:DefIn K "_law_spotted" FF)
  (xz:DefIn K "_law_blown" FH)
  (uH:DefIn K "_law_machine" FJ)
  (AV:DefIn K "_law_any" FK)
  (zB:DefIn K "_law_told" FL)
  (xA:DefIn K "_law_small" FM)
  (rB:DefIn K "_law_rows_told" FN)
  (xq:DefIn K "_law_tower" FQ)
  (RX:nsIn K mainGlobals "firsts_of"=some (some (.ref G5)))
  (R1:K.lookup G5=some ⟨Qu,Qs,.func (fnOf "firsts_of" "firsts_of" (iD C9) (gS C9) (bg C9) .none Qx QF Qr Qd (.ref jR) Qj),Qe⟩)
  (G0:codeIn K (.ref jR) "firsts_of"=true)
  (R3:keepIn K (.ref G5)=true)
  (tc_firsts_of:codeHdIn K jR 177=true)
  (tk_firsts_of:K.lookup 177=none)
  (KL:nsIn K mainGlobals "law"=some (some (.ref Bc)))
  (QD:K.lookup Bc=some ⟨NK,NI,.func (fnOf "law" "law" (iD qc) (gS qc) (bg qc) .none GZ Hq GU Ho A8 Hi),Nu⟩)
  (DA:codeIn K A8 "law"=true)
  (Qo:keepIn K (.ref Bc)=true)
  (gj:nsIn K mainGlobals "TrunkError"=some (some (.ref b8)))
  (G8:nsIn K mainGlobals "NoTree"=some (some (.ref qt)))
  (va:nsIn K mainGlobals "NoStatement"=some (some (.ref jh)))
  (DC:nsIn K mainGlobals "NoPlace"=some (some (.ref oB)))
  (AW:nsIn K mainGlobals "NoNumber"=some (some (.ref l9)))
  (i_:nsIn K mainGlobals "TooGreat"=some (some (.ref c7)))
  (G4:nsIn K mainGlobals "NoName"=some (some (.ref qu)))
  (GR:nsIn K mainGlobals "NoLine"=some (some (.ref qp)))
  (vc:nsIn K mainGlobals "NothingDone"=some (some (.ref jk)))
  (u3:nsIn K mainGlobals "NothingHeld"=some (some (.ref ji)))
  (x_TrunkError:excIn K b8 pZ rP=true)
  (kY:findIn K (.ref b8) "__getattribute__"=some (some (.builtin "BaseException.__getattribute__")))
  (kU:findIn K (.ref b8) "__getattr__"=some none)
  (kX:findIn K (.ref b8) "__class__"=some (some (.builtin "object.__class__")))
  (w_TrunkError_TooGreat:kitOne K (.ref b8) (.ref c7)=some false)
  (w_TrunkError_t0:PySem.W.kitAny K (.ref b8) ([qp,qu,l9,oB,jh,qt,jk,ji].map Value.ref)=some false)
  (w_TrunkError_VE:kitOne K (.ref b8) (.type "ValueError")=some true)
  (x_TooGreat:excIn K c7 pZ rP=true)
  (nJ:findIn K (.ref c7) "__getattribute__"=some (some (.builtin "BaseException.__getattribute__")))
  (nP:findIn K (.ref c7) "__getattr__"=some none)
  (nR:findIn K (.ref c7) "__class__"=some (some (.builtin "object.__class__")))
  (w_TooGreat_TooGreat:kitOne K (.ref c7) (.ref c7)=some true)
  (w_TooGreat_t0:PySem.W.kitAny K (.ref c7) ([qp,qu,l9,oB,jh,qt,jk,ji].map Value.ref)=some false)
  (w_TooGreat_VE:kitOne K (.ref c7) (.type "ValueError")=some true)
  (u_TrunkError_TrunkError:(C0 K b8).contains (.ref b8)=true)
  (u_TooGreat_TrunkError:(C0 K c7).contains (.ref b8)=true)
  (xI:nsIn K mainGlobals "ValueError"=some none)
  (NJ:nsIn K mainGlobals "bool"=some none)
  (zu:nsIn K mainGlobals "enumerate"=some none)
  (Qt:nsIn K mainGlobals "int"=some none)
  (xo:nsIn K mainGlobals "isinstance"=some none)
  (QK:nsIn K mainGlobals "len"=some none)
  (Nq:nsIn K mainGlobals "list"=some none)
  (Qw:nsIn K mainGlobals "max"=some none)
  (Qh:nsIn K mainGlobals "min"=some none)
  (JE:nsIn K mainGlobals "range"=some none)
  (Be:nsIn K mainGlobals "reversed"=some none)
  (Hf:nsIn K mainGlobals "sorted"=some none)
  (Qa:nsIn K mainGlobals "str"=some none)
  (Jy:nsIn K mainGlobals "tuple"=some none)
  (u4:nsIn K mainGlobals "MOST_PLACES"=some (some (.int 100 u8))) :
  ∃fd:FuncData,(∀(s:Shared) (v:Value),BindsTo s fd ⟨[v],[]⟩ [("_law_script",v)])/\∀base:Heap,K.In base->base.Ns mainGlobals mg->yu base mg->fA l.prog w K mg base (kG l.prog w) 43 fa fd FR (lc K mg 1 f_q33):=by
 have e:=SM.symm.trans (mg_of X G KL)
 cases e
 obtain⟨_,_,F_q0,m_q0⟩:=Bb.fn X G
 obtain⟨_,_,F_q1,m_q1⟩:=xJ.fn X G
 obtain⟨_,_,F_q2,m_q2⟩:=xB.fn X G
 obtain⟨_,_,F_q3,m_q3⟩:=AX.fn X G
 obtain⟨_,_,F_q4,m_q4⟩:=Hj.fn X G
 obtain⟨_,_,F_q5,m_q5⟩:=Ba.fn X G
 have F_q6:=zZ (st:=C9) R1 G0 R3
 have m_q6:=mg_of X G RX
 obtain⟨_,_,F_q7,m_q7⟩:=JA.fn X G
 obtain⟨_,_,F_q8,m_q8⟩:=zt.fn X G
 obtain⟨_,_,F_q9,m_q9⟩:=xp.fn X G
 obtain⟨_,_,F_q10,m_q10⟩:=zG.fn X G
 obtain⟨_,_,F_q11,m_q11⟩:=xE.fn X G
 obtain⟨_,_,vZ,zy⟩:=zz.fn X G
 obtain⟨_,_,F_q13,m_q13⟩:=zA.fn X G
 obtain⟨_,_,F_q14,m_q14⟩:=vd.fn X G
 obtain⟨_,_,F_q15,m_q15⟩:=xy.fn X G
 obtain⟨_,_,F_q16,m_q16⟩:=xH.fn X G
 obtain⟨_,_,F_q17,m_q17⟩:=xF.fn X G
 obtain⟨_,_,F_q18,m_q18⟩:=zJ.fn X G
 obtain⟨_,_,F_q19,m_q19⟩:=zC.fn X G
 obtain⟨_,_,F_q20,m_q20⟩:=xK.fn X G
 obtain⟨_,_,F_q21,m_q21⟩:=xC.fn X G
 obtain⟨_,_,F_q22,m_q22⟩:=u7.fn X G
 obtain⟨_,_,F_q23,m_q23⟩:=xu.fn X G
 obtain⟨_,_,F_q24,m_q24⟩:=u_.fn X G
 obtain⟨_,_,F_q25,m_q25⟩:=uE.fn X G
 obtain⟨_,_,F_q26,m_q26⟩:=xz.fn X G
 obtain⟨_,_,F_q27,m_q27⟩:=uH.fn X G
 obtain⟨_,_,F_q28,m_q28⟩:=AV.fn X G
 obtain⟨_,_,F_q29,m_q29⟩:=zB.fn X G
 obtain⟨_,_,F_q30,m_q30⟩:=xA.fn X G
 obtain⟨_,_,F_q31,m_q31⟩:=rB.fn X G
 obtain⟨_,_,F_q32,m_q32⟩:=xq.fn X G
 have F_q33:=zZ (st:=qc) QD DA Qo
 have m_q33:=mg_of X G KL
 have B:Bl mg:=⟨mg_none_of X G xI,mg_none_of X G NJ,mg_none_of X G zu,mg_none_of X G Qt,mg_none_of X G xo,mg_none_of X G QK,mg_none_of X G Nq,mg_none_of X G Qw,mg_none_of X G Qh,mg_none_of X G JE,mg_none_of X G Be,mg_none_of X G Hf,mg_none_of X G Qa,mg_none_of X G Jy⟩
 have C:Lu K mg:=⟨⟨b8,mg_of X G gj,x_TrunkError⟩,⟨c7,mg_of X G i_,x_TooGreat⟩,⟨c7,mg_of X G i_,⟨fun c b hb=>by by_cases e0:c="TrunkError";(· subst e0;rw[show jq "TrunkError"=some false from by decide +kernel]at hb;cases hb;exact⟨b8,mg_of X G gj,x_TrunkError,⟨kY,kU,kX⟩,w_TrunkError_TooGreat⟩);by_cases e1:c="TooGreat";(· subst e1;rw[show jq "TooGreat"=some true from by decide +kernel]at hb;cases hb;exact⟨c7,mg_of X G i_,x_TooGreat,⟨nJ,nP,nR⟩,w_TooGreat_TooGreat⟩);simp only[jq,e0,e1,lv,reduceCtorEq]at hb⟩⟩,⟨qp,qu,l9,oB,jh,qt,jk,ji,mg_of X G GR,mg_of X G G4,mg_of X G AW,mg_of X G DC,mg_of X G va,mg_of X G G8,mg_of X G vc,mg_of X G u3,⟨fun c b hb=>by by_cases e0:c="TrunkError";(· subst e0;rw[show yM "TrunkError"=some false from by decide +kernel]at hb;cases hb;exact⟨b8,mg_of X G gj,x_TrunkError,⟨kY,kU,kX⟩,w_TrunkError_t0⟩);by_cases e1:c="TooGreat";(· subst e1;rw[show yM "TooGreat"=some false from by decide +kernel]at hb;cases hb;exact⟨c7,mg_of X G i_,x_TooGreat,⟨nJ,nP,nR⟩,w_TooGreat_t0⟩);simp only[yM,e0,e1,lv,reduceCtorEq]at hb⟩⟩,⟨fun c b hb=>by by_cases e0:c="TrunkError";(· subst e0;rw[show hZ "TrunkError"=some true from by decide +kernel]at hb;cases hb;exact⟨b8,mg_of X G gj,x_TrunkError,⟨kY,kU,kX⟩,w_TrunkError_VE⟩);by_cases e1:c="TooGreat";(· subst e1;rw[show hZ "TooGreat"=some true from by decide +kernel]at hb;cases hb;exact⟨c7,mg_of X G i_,x_TooGreat,⟨nJ,nP,nR⟩,w_TooGreat_VE⟩);simp only[hZ,e0,e1,lv,reduceCtorEq]at hb⟩,⟨fun c hc=>by simp only[a8,dN,jt]at hc;rcases hc with rfl|rfl;(· exact⟨b8,b8,mg_of X G gj,mg_of X G gj,x_TrunkError,x_TrunkError,u_TrunkError_TrunkError⟩);(· exact⟨c7,b8,mg_of X G i_,mg_of X G gj,x_TooGreat,x_TrunkError,u_TooGreat_TrunkError⟩)⟩⟩
 have Gg:Gc K mg:=⟨⟨_,.int 100,mg_of X G u4,⟨_,rfl⟩,fun μ H=>.int⟩⟩
 refine⟨fnOf "law" "law" (iD qc) (gS qc) (bg qc) .none GZ Hq GU Ho A8 Hi,fun s v=>.of_eq rfl,fun base _ _ Bk=>?_⟩
 have Nv:cu l.prog w K mg base 1 "marks_of" 2 C_:=dw F_q0 m_q0 (PJ F_q0 B)
 have NG:cu l.prog w K mg base 1 "pairs_with" 1 Da:=dw F_q1 m_q1 (PL F_q1 B)
 have Dv:cu l.prog w K mg base 1 "check_size" 1 yN:=dw F_q2 m_q2 (PM F_q2 Gg C)
 have NB:cu l.prog w K mg base 1 "with_top" 3 FV:=dw F_q3 m_q3 (PP F_q3 B)
 have Np:cu l.prog w K mg base 2 "joined" 3 Db:=dw F_q4 m_q4 (PR F_q4 B Dv NB)
 have JD:cu l.prog w K mg base 2 "put_ways" 4 Dc:=dw F_q5 m_q5 (PV F_q5 B NG)
 have xD:cu l.prog w K mg base 3 "firsts_of" 1 uf:=dw F_q6 m_q6 (PY F_q6 ⟨jR,rfl,tc_firsts_of,tk_firsts_of⟩ Bk B JD)
 have NE:cu l.prog w K mg base 3 "built" 3 FW:=dw F_q7 m_q7 (P0 F_q7 B Np Nv)
 have NC:cu l.prog w K mg base 4 "told_tree" 3 Dd:=dw F_q8 m_q8 (P1 F_q8  NE Dv)
 have NA:cu l.prog w K mg base 5 "first_tree" 2 yO:=dw F_q9 m_q9 (P2 F_q9  xD NC)
 have qw:cu l.prog w K mg base 1 "_law_join" 3 oT:=dw F_q10 m_q10 (MB F_q10 B)
 have vW:cu l.prog w K mg base 1 "_law_given" 2 ug:=dw F_q11 m_q11 (MC F_q11 B)
 have mO:=BQ (P:=l.prog) (w:=w) (base:=base) vZ zy B  40
 have He:cu l.prog w K mg base 1 "_law_shut" 3 yP:=dw F_q13 m_q13 (MD F_q13 B)
 have Hh:cu l.prog w K mg base 41 "_law_ranked" 2 yQ:=dw F_q14 m_q14 (ME F_q14 B mO He)
 have vX:cu l.prog w K mg base 1 "_law_owner" 3 rT:=dw F_q15 m_q15 (MF F_q15 B)
 have Ha:cu l.prog w K mg base 1 "_law_mixed" 3 vK:=dw F_q16 m_q16 (MG F_q16)
 have mP:cu l.prog w K mg base 2 "_law_draws" 3 mM:=dw F_q17 m_q17 (MH F_q17 B Ha)
 have GY:cu l.prog w K mg base 3 "_law_pool" 3 yR:=dw F_q18 m_q18 (MI F_q18 B mP)
 have nS:cu l.prog w K mg base 1 "_law_cell" 2 nH:=dw F_q19 m_q19 (MJ F_q19 B)
 have Hc:cu l.prog w K mg base 1 "_law_shape" 1 yS:=dw F_q20 m_q20 (MK F_q20)
 have GQ:cu l.prog w K mg base 1 "_law_names" 2 yT:=dw F_q21 m_q21 (ML F_q21 B)
 have vY:cu l.prog w K mg base 3 "_law_blocks" 4 uh:=dw F_q22 m_q22 (MM F_q22 B nS mP)
 have GX:cu l.prog w K mg base 1 "_law_grown" 3 vL:=dw F_q23 m_q23 (MN F_q23 B)
 have G3:cu l.prog w K mg base 2 "_law_graded" 3 yU:=dw F_q24 m_q24 (MO F_q24 B GX)
 have Hd:cu l.prog w K mg base 1 "_law_spotted" 2 yV:=dw F_q25 m_q25 (MP F_q25 B)
 have GT:cu l.prog w K mg base 1 "_law_blown" 3 yW:=dw F_q26 m_q26 (MQ F_q26 B)
 have Hm:cu l.prog w K mg base 1 "_law_machine" 4 yX:=dw F_q27 m_q27 (MR F_q27 B)
 have Hl:cu l.prog w K mg base 4 "_law_any" 3 yY:=dw F_q28 m_q28 (MS F_q28  vY GT nS mP G3 Hm GQ vX Hc Hd)
 have v0:cu l.prog w K mg base 6 "_law_told" 2 rV:=dw F_q29 m_q29 (MT F_q29 B C NA)
 have GV:cu l.prog w K mg base 2 "_law_small" 1 yZ:=dw F_q30 m_q30 (MU F_q30 B vW qw)
 have Hg:cu l.prog w K mg base 42 "_law_rows_told" 1 y0:=dw F_q31 m_q31 (MV F_q31 B vW qw Hh mO GV v0 xD)
 have Hk:cu l.prog w K mg base 2 "_law_tower" 2 y4:=dw F_q32 m_q32 (MW F_q32 B qw vX)
 exact MX F_q33 B Hl vY nS mP GY Hg mO v0 Hk xD
end P
end
namespace PySem.W.Fast
def tw12040391481400468350:=0
def tw2919296878635514461:=0
def tw3202423420181019133:=0
def tw2414495810404981213:=0
def tw6747981366380929211:=0
def tw8780742013148634202:=0
def tw6773171813537919863:=0
def tw5428968238812681622:=0
def tw5722957207077389780:=0
def tw4475122215426238644:=0
def tw2902583170869323924:=0
def tw12221336220494621649:=0
def tw7198621994324506577:=0
def tw5174520954503674641:=0
def tw6944738974457676783:=0
def tw12911892358139501871:=0
def tw14617213910469703726:=0
def tw1285791028908073964:=0
def tw4098139456703898316:=0
def tw13060479676168899180:=0
def tw12497402715664786572:=0
def tw5492260553149427275:=0
def tw9333080675496245128:=0
def tw3047793075178168072:=0
def tw13761379752239442951:=0
def tw2879588450790491590:=0
def tw3897510044651600326:=0
def tw75202548137419782:=0
def tw11805947965444550115:=0
def tw15554288117012798498:=0
def tw17057971555136134689:=0
def tw11159534897659184766:=0
def tw2280083648212900942:=0
def tw5903088070138302194:=0
def tw4541160046363784339:=0
def tw11021303933968258418:=0
def tw13197104016631552761:=0
def tw4850810645650396984:=0
def tw1938533457920331912:=0
def tw8334303182471720834:=0
def tw12765704649709145483:=0
def tw6705407095964215171:=0
def tw11055164962901260090:=0
def tw17418823177880632619:=0
def tw11967827427925994290:=0
def tw9767189742881006978:=0
def tw11758901850728052530:=0
def tw6626363085367613318:=0
def tw1214902359614726823:=0
def tw370760669426889242:=0
def tw9776507351963764557:=0
def tw4699113919316837174:=0
def tw15226527698807632405:=0
def tw4589260090608465743:=0
def tw300479051986889543:=0
def tw2644293448540708837:=0
def tw17154618349133888165:=0
def tw7345495238376649158:=0
def tw5381886438975665478:=0
def tw11129857911098579186:=0
def tw10842460282488871747:=0
def tw1919903655496465292:=0
def tw12463194875624413970:=0
def tw16629536065911071014:=0
def tw8427917920307133636:=0
def tw12775997023011094747:=0
def tw4939942060324458758:=0
def tw10939684559481801715:=0
def tw12559708798175028927:=0
def tw10167031929861653356:=0
def tw2279100870843741017:=0
def tw8884137823146873354:=0
def tw6406769074325431408:=0
def tw15172376747638837962:=0
def tw14649969506741748697:=0
def tw9796262404335490165:=0
def tw14088316557339686444:=0
def tw13915216896212460339:=0
def tw16212560034679100207:=0
def tw13446733106535218901:=0
def tw16948197609261799144:=0
def tw10817669296296426010:=0
def tw9691358081165870123:=0
def tw5907561052932796144:=0
def tw1626582545895280970:=0
def tw15602304210801234736:=0
def tw18352136117167859347:=0
def tw5529665657379085255:=0
def tw11192388106823700859:=0
def tw2721391409419900113:=0
def tw16881269632094938668:=0
def tw6325110716235441837:=0
def tw13532748383781136081:=0
def tw7273501916513879146:=0
def tw13070851473376545708:=0
def tw5461290921067651816:=0
def tw14096918960119798143:=0
def tw3254752545846079978:=0
def tw13337294207172565980:=0
def tw3369979151053443438:=0
def tw1941407646791508691:=0
def tw2904968286613507883:=0
def tw2599782089686176969:=0
def tw2636779177961549975:=0
def tw13558714440401773747:=0
def tw17643986025436127826:=0
def tw12802920932603381012:=0
def tw12748934946683600772:=0
def tw17624103675195490901:=0
def tw14954268870951516231:=0
def tw11557888187202415348:=0
def tw10263977107569566913:=0
def tw9176155600889523599:=0
def tw7452705758265340209:=0
def tw9406963006278341797:=0
def tw16547444789837600517:=0
def tw1603192510680905720:=0
def tw4449023310972682688:=0
def tw4938404696693902177:=0
def tw3702163824102623576:=0
def tw14968094415237314940:=0
def tw18069927056267296906:=0
def tw9311269937805749279:=0
def tw17745755986308048859:=0
def tw6510248841555199729:=0
def tw12232338805813630199:=0
def tw8885258483288002315:=0
def tw282298970719889945:=0
def tw12375307487500037434:=0
def tw5701032939631308944:=0
def tw823363845959508451:=0
def tw17192825595478446878:=0
def tw18336864309462419941:=0
def tw5910922503200996765:=0
def tw8718439989692610487:=0
def tw8205001508295749171:=0
def tw8015138121687999596:=0
def tw206704502170118515:=0
def tw16110917448352896376:=0
def tw15679645867446480172:=0
def tw13638912885857237157:=0
def tw16214944794895373709:=0
def tw13205197778874598162:=0
def tw6976291967285795868:=0
def tw3545175374329175355:=0
def tw1285056188651185274:=0
def tw6992709106181858921:=0
end PySem.W.Fast
open PySem PySem.W PyProof.Rows
set_option maxRecDepth 100000 in
set_option maxHeartbeats 0 in
theorem PySem.Challenge.cw_trunksay_k23_first_trees_holds : PySem.Challenge.rw_trunksay_k23_first_trees.Holds := by
 w_on; o_law; k_head; (case hw => w_witness2)
 k_fill
 refine L2.walkT (l := PySem.Challenge.rw_trunksay_k23_first_trees) (k := 43) (x := "_law_script") (G := P.f_q33) P.tabL (by decide) rfl rfl ⟨rfl, by decide, by decide⟩ (fun w h Y => PySem.W.km_in_of Y) (fun w h Y T hT => PySem.W.km_tabs_of Y T hT) (fun w T hT => ?KT) (fun w T hT => ?CT) ?F P.law_ok
 case KT =>
  simp only [P.tabL, aT, c_, a8, dN, jt] at hT
  rcases hT with rfl
  ·kernel_rfl
 case CT =>
  simp only [P.tabL, aT, c_, a8, dN, jt] at hT
  rcases hT with rfl
  ·exact ⟨181, by kernel_rfl⟩
 case F =>
  intro w mg fa h KX G hmg
  refine' P.all_mk KX G hmg ?_ ?_ ?_ ?_ ?_ ?_ ?_ ?_ ?_ ?_ ?_ ?_ ?_ ?_ ?_ ?_ ?_ ?_ ?_ ?_ ?_ ?_ ?_ ?_ ?_ ?_ ?_ ?_ ?_ ?_ ?_ ?_ ?_ ?_ ?_ ?_ ?tc_firsts_of ?tk_firsts_of ?_ ?_ ?_ ?_ ?_ ?_ ?_ ?_ ?_ ?_ ?_ ?_ ?_ ?_ ?x_TrunkError ?_ ?_ ?_ ?w_TrunkError_TooGreat ?w_TrunkError_t0 ?w_TrunkError_VE ?x_TooGreat ?_ ?_ ?_ ?w_TooGreat_TooGreat ?w_TooGreat_t0 ?w_TooGreat_VE ?u_TrunkError_TrunkError ?u_TooGreat_TrunkError ?_ ?_ ?_ ?_ ?_ ?_ ?_ ?_ ?_ ?_ ?_ ?_ ?_ ?_ ?_
  any_goals (refine' L2.DefIn.mk ?a ?l ?c ?k; (case a => k_is); (case l => k_is); (case c => k_is); (case k => k_is))
  any_goals k_is
  (case tc_firsts_of => kernel_rfl)
  (case tk_firsts_of => kernel_rfl)
  (case x_TrunkError => k_exc)
  (case w_TrunkError_TooGreat => kernel_rfl)
  (case w_TrunkError_t0 => kernel_rfl)
  (case w_TrunkError_VE => kernel_rfl)
  (case x_TooGreat => k_exc)
  (case w_TooGreat_TooGreat => kernel_rfl)
  (case w_TooGreat_t0 => kernel_rfl)
  (case w_TooGreat_VE => kernel_rfl)
  (case u_TrunkError_TrunkError => kernel_rfl)
  (case u_TooGreat_TrunkError => kernel_rfl)
