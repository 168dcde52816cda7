import PyProof.Rows.All
import Wide.All
import OpenK.AllK
import Wide.FinOn
import Lean
import PyProof.EqAt
import PyProof.EqKinds
import PyProof.TupleCall
import PyProof.StrLawsIn
import PyProof.StationsW
import PyProof.NeData
import OpenK.KOwn
import PyProof.NsDelKeeps
import PyProof.ExcArgsOwn
import PyProof.ExcAttrAll.ValueError
import PyProof.IsiH_tuple
import KE.KIsAll
import PyProof.CollectStr
import PyProof.ZipIter
import PyProof.Rows.ZipGen
import PyProof.JoinWalk
import PyProof.CollectIter
import PyProof.EnumMake
import PyProof.SumAny
import PySem.Challenge.RW_trunksay_k29_exchange
set_option Elab.async false
set_option linter.all false
set_option maxRecDepth 100000
def aa:=@List.getElem?_eq_some_iff
def ac:=@List.getElem?_eq_getElem
def ag:=@PySem.wpAny_bind
def al:=@List.prefix_refl
def aq:=@PySem.Heap.get?_push_of_some
def au:=@List.getElem?_append_left
def av:=@List.length_map
def ax:=@List.getD_eq_getElem?_getD
def ay:=@List.length_append
def aA:=@Nat.le_refl
def aB:=@List.getElem?_map
def aD:=@if_pos
def aE:=@List.prefix_append
def aG:=@PySem.Heap.lt_size
def aH:=@PySem.Heap.get?_push_size
def aI:=@PySem.wpAny_pure
def aK:=@List.map_cons
def aL:=@List.mem_append_right
def aM:=@Nat.le_of_ble_eq_true
def aN:=@List.getElem?_take_of_lt
def aO:=@beq_eq_false_iff_ne
def aQ:=@if_neg
def aR:=@decide_eq_false
def aT:=@List.mem_of_getElem?
def aU:=@List.size_toArray
def aW:=@List.append_assoc
def aX:=@Nat.lt_of_lt_of_le
def aY:=@List.length_take
def aZ:=@List.mem_cons_of_mem
def a7:=@List.mem_append
def a8:=@decide_eq_true
def a9:=@List.mem_map
def a_:=@Option.some.inj
def ba:=@List.length_cons
def bb:=@List.getElem?_set_self
def bc:=@Bool.and_true
def bd:=@Nat.ne_of_lt
def bf:=@List.take_append_of_le_length
def bg:=@List.getElem?_set_ne
def bn:=@Nat.le_trans
def bo:=@List.take_of_length_le
def br:=@List.mem_cons
def bt:=@List.getElem?_concat_length
def bA:=@List.mem_cons_self
def bB:=@Int.toNat_natCast
def bD:=@Nat.lt_irrefl
def bK:=@List.map_map
def bL:=@PySem.boot_len
def bQ:=@List.map_append
def bU:=@PySem.wpAny_loadPart'
def bV:=@PyProof.Rows.boot_tuple
def b9:=@List.length_nil
def ca:=@List.mem_range
def ce:=@PySem.wpAny_field
def cf:=@PySem.wpAny_callSpecial?_slot
def cv:=@beq_iff_eq
def cw:=@Bool.and_eq_true
def cz:=@PyProof.Rows.callWith_type1
def cD:=@List.map_congr_left
def cG:=@List.take_length
def cI:=@PySem.wpAny_newObj_type
def cL:=@List.getElem?_of_mem
def cM:=@List.mem_singleton
def cN:=@decide_eq_true_iff
def cQ:=@Nat.not_lt_zero
def cS:=@PySem.wpAny_call_entry
def cU:=@Nat.zero_le
def cW:=@PySem.wpAny_mono
def cX:=@List.getElem?_eq_none
def c9:=@List.cons.inj
def de:=@List.filter_cons
def df:=@Option.map_eq_some_iff
def dv:=@PySem.wpAny_seqItems
def dD:=@Nat.le_of_not_lt
def dE:=@List.getElem_map
def dN:=@List.map_nil
def dO:=@Nat.lt_or_ge
def dP:=@List.mem_filter
def dQ:=@List.find?_cons
def dR:=@Int.natCast_add
def dU:=@PyProof.Rows.slot_tuple_getitem
def dY:=@List.length_filter_le
def dZ:=@Bool.false_ne_true
def d6:=@List.pairwise_cons
def d8:=@PySem.wpAny_holding
def ef:=@PySem.Heap.size_push
def eB:=@PySem.wpAny_truthy_bool
def eD:=@List.take_add_one
def eG:=@PySem.Heap.SameBut.update
def eN:=@PySem.Heap.get?_update_other
def eU:=@List.getElem?_append_right
def eV:=@List.zip_cons_cons
def eW:=@PySem.F.slot_tuple_iterator_next
def eX:=@PySem.Obj.data_mapFields
def eY:=@PySem.wpAny_setField_rec
def eZ:=@Nat.add_sub_cancel
def fw:=@List.drop_eq_getElem_cons
def fy:=@PySem.wpAny_passesOwn
def fz:=@List.append_nil
def fA:=@List.nodup_cons
def fB:=@List.nil_append
def fF:=@Nat.lt_succ_of_lt
def fG:=@List.length_range
def fM:=@List.filterMap_cons
def fN:=@Array.length_toList
def fP:=@congrArg
def fQ:=@List.length_drop
def fR:=@List.take_left
def fT:=@PySem.wpAny_of_eq
def fV:=@PySem.wpAny_pyIter_tuple
def fW:=@Nat.zero_add
def f7:=@Int.natCast_mul
def f':=@PySem.Heap.get?_update_self
def ga:=@PySem.builtinLookup_eq_fast
def gb:=@List.getElem?_reverse
def gi:=@if_true
def gj:=@Bool.not_eq_true'
def gk:=@List.ext_getElem?
def gm:=@List.foldl_append
def gA:=@List.mem_append_left
def gB:=@PySem.wpAny_tryCatch
def gE:=@Nat.le_of_lt
def gF:=@List.getElem_mem
def gH:=@List.pairwise_iff_getElem
def gM:=@List.getElem?_range
def gS:=@PySem.wpAny_attempt
def gY:=@Nat.le_antisymm
def gZ:=@Bool.or_eq_true
def g6:=@Nat.min_eq_left
def g9:=@Int.emod_nonneg
def hJ:=@PySem.wpAny_Call_Name_kw
def hX:=@List.getElem?_replicate
def hZ:=@PySem.wpAny_letGo
def iw:=@Nat.ne_of_gt
def iy:=@PySem.Calls.callWith_builtin
def iz:=@Nat.add_zero
def iA:=@PySem.wpAny_setField
def iB:=@Nat.lt_of_succ_lt_succ
def iC:=@Function.comp_def
def iD:=@of_decide_eq_true
def iE:=@List.drop_of_length_le
def iF:=@List.nodup_append
def iG:=@List.reverse_cons
def iK:=@PySem.Obj.isFreed_of_fields
def iN:=@PySem.typeIs_str
def iO:=@Nat.lt_succ_self
def iP:=@List.lookup_cons
def iQ:=@PySem.wpAny_isInstance
def iT:=@PySem.wpAny_standAt
def iU:=@List.sum_cons
def iV:=@List.map_take
def iZ:=@PySem.Calls.evalArgs_plain
def i5:=@PySem.wpAny_newFunctionEnv
def i6:=@PySem.wpAny_updateSeq_pair
def i7:=@PySem.Around.under_plainId
def i8:=@Nat.pow_le_pow_right
def jc:=@PySem.wpAny_execs_nil
def jd:=@PySem.wpAny_specialOf
def je:=@PySem.F.args_tuple_iterator_next_1
def jf:=@PySem.typeLookup_type
def jg:=@PySem.F.slot_zip_next
def jh:=@List.filter_map
def jl:=@List.length_reverse
def jz:=@PySem.F.entry_tuple_iterator_next
def jA:=@Nat.add_comm
def jB:=@Int.zero_add
def jQ:=@PySem.Calls.Name_function_global
def jR:=@List.mem_filterMap
def jS:=@Int.fdiv_eq_ediv_of_nonneg
def jT:=@PySem.Calls.spliced_cons
def jU:=@Nat.lt_of_le_of_lt
def jV:=@PySem.tupleKind_room_in1
def jW:=@PySem.isSubtype_type
def jX:=@Int.emod_lt_of_pos
def jY:=@congrFun
def jZ:=@List.countP_append
def j5:=@List.getElem?_zip_eq_some
def ko:=@PySem.sizeLine_eq
def kq:=@PySem.Calls.spliced_nil
def kr:=@List.take_sublist
def kt:=@List.zip_nil_left
def ku:=@Option.isSome_map
def kx:=@Nat.le_succ
def ky:=@List.flatten_cons
def kE:=@PySem.AutoSeq1.sub_tuple_tuple
def kF:=@PySem.wpAny_comprehension_free
def kG:=@PySem.wpAny_onRaise
def kH:=@PySem.plainId_quiet
def kI:=@List.map_drop
def kX:=@PySem.noFill_tuple_add
def kY:=@List.all_eq_true
def kZ:=@List.any_eq_true
def k6:=@Int.eq_ofNat_of_zero_le
def k_:=@List.getElem?_cons_succ
def lc:=@PyProof.Rows.boot_int
def lF:=@PySem.wpAny_Name
def lG:=@PySem.wpAny_pyIter_rangeiter
def lH:=@PyProof.noPylong_small
def lI:=@PySem.richCompare_meets_room
def lJ:=@PyProof.Rows.subscriptTail_builtinR
def lK:=@PySem.codeAny_mono
def lL:=@PySem.codeAny_compStart_list
def lM:=@List.range_succ_eq_map
def lN:=@List.drop_eq_nil_of_le
def lO:=@PySem.wpAny_rule
def lP:=@List.length_pos_of_mem
def lQ:=@Int.mul_comm
def lR:=@Classical.em
def lS:=@PySem.wpAny_pyNext_dict_item
def lT:=@Nat.div_div_eq_div_mul
def lU:=@List.getElem_cons_zero
def l_:=@List.of_mem_zip
def ma:=@List.forIn_cons
def me:=@PySem.codeAny_builtin
def mf:=@PySem.wpAny_updateSeq
def mn:=@PySem.wpAny_isTrue_Compare1
def mo:=@PySem.F.slot_enumerate_next
def mv:=@List.take_append_drop
def mY:=@List.map_id
def mZ:=@PySem.isSubtype_stop
def m3:=@List.Perm.refl
def nj:=@LawfulBEq.eq_of_beq
def no:=@PyProof.Rows.boot_bool
def nG:=@PyProof.Rows.Constant_none
def nH:=@PySem.seq_tuple_add
def nI:=@List.any_cons
def nJ:=@PySem.SeqAt.str_beq
def n6:=@PySem.call_meets
def n_:=@Nat.not_lt
def oO:=@PySem.concat_meets
def oP:=@PySem.wpAny_typeOf
def oQ:=@PySem.seqIndex_neg
def oR:=@Nat.lt_trans
def oS:=@PySem.callType_new
def oT:=@List.map_set
def oU:=@List.set_set
def pK:=@PyProof.Rows.boot_list
set_option compiler.extract_closed false
noncomputable section
open PySem.W (Frag)
open PySem.W (hideAll kia_one keepIn fnOf codeIn excIn codeHdIn kla_obj nsIn mg_of mg_none_of)
namespace L2
open PySem PySem.Spec PyProof.Rows
abbrev fX:=Sum Int Str
def tj:fX->Value->Bool
 |.inl k,v=>Value.isInt k v
 |.inr x,v=>Value.isStrOf x v
def RH(w:World):fX->Int
 |.inl k=>hashInt k
 |.inr x=>hashStr w x
theorem eO:∀{k:fX} {v:Value},tj k v=true->(∃i t,k=Sum.inl i/\v=Value.int i t)\/(∃x t,k=Sum.inr x/\v=Value.str x t)
 |.inl i,v,h=>by
  obtain⟨t,e⟩:=Value.isInt_shape (k:=i) (v:=v) h
  exact .inl ⟨i,t,rfl,e⟩
 |.inr x,v,h=>by
  obtain⟨t,e⟩:=Value.isStrOf_shape (x:=x) (v:=v) h
  exact .inr ⟨x,t,rfl,e⟩
theorem Bp(i:Int)(t:Tok):tj (.inl i) (.int i t)=true:=by simp[tj,Value.isInt]
theorem Bq(x:Str)(t:Tok):tj (.inr x) (.str x t)=true:=by simp[tj,Value.isStrOf]
theorem KN(a b:Int):decide ((Sum.inl a:fX)=Sum.inl b)=(a==b):=by
 by_cases e:a=b
 ·subst e;simp
 ·have h:¬ (Sum.inl a:fX)=Sum.inl b:=fun q=>e (Sum.inl.inj q)
  rw[aR h]
  exact(aO.mpr e).symm
theorem KO(a b:Str):decide ((Sum.inr a:fX)=Sum.inr b)=decide (a=b):=by
 by_cases e:a=b
 ·subst e;simp
 ·have h:¬ (Sum.inr a:fX)=Sum.inr b:=fun q=>e (Sum.inr.inj q)
  rw[aR h,aR e]
theorem KP(a:Int)(b:Str):decide ((Sum.inl a:fX)=Sum.inr b)=false:=aR (fun q=>nomatch q)
theorem KQ(a:Str)(b:Int):decide ((Sum.inr a:fX)=Sum.inl b)=false:=aR (fun q=>nomatch q)
def eJ(prog:Program)(w:World):PySem.KeyKind prog w fX where
 is:=tj
 hash:=RH w
 inj:=fun v a b ha hb=>by
  rcases eO ha with⟨i,t,rfl,rfl⟩|⟨x,t,rfl,rfl⟩
  ·rcases eO hb with⟨j,u,rfl,e⟩|⟨y,u,rfl,e⟩
   ·injection e with e1 _;rw[e1]
   ·exact nomatch e
  ·rcases eO hb with⟨j,u,rfl,e⟩|⟨y,u,rfl,e⟩
   ·exact nomatch e
   ·injection e with e1 _;rw[e1]
 byValue:=fun k v h=>by
  rcases eO h with⟨i,t,rfl,rfl⟩|⟨x,t,rfl,rfl⟩<;>rfl
 pyHash:=fun hv h=>by
  rcases eO hv with⟨i,t,rfl,rfl⟩|⟨x,t,rfl,rfl⟩
  ·exact wpAny_pyHash_int h
  ·exact wpAny_pyHash_str h
 eqBool:=fun hu hv h=>by
  rcases eO hu with⟨i,t,rfl,rfl⟩|⟨x,t,rfl,rfl⟩
  ·rcases eO hv with⟨j,u,rfl,rfl⟩|⟨y,u,rfl,rfl⟩
   ·rw[KN]at h;exact wpAny_eqBool_int h
   ·rw[KP]at h;exact SeqAt.EqAt.int_str i t y u _ _ _ _ h
  ·rcases eO hv with⟨j,u,rfl,rfl⟩|⟨y,u,rfl,rfl⟩
   ·rw[KQ]at h;exact SeqAt.EqAt.str_int x t j u _ _ _ _ h
   ·rw[KO]at h;exact wpAny_eqBool_str h
 «strs»:=fun k x t v h=>by
  rcases eO h with⟨i,u,rfl,e⟩|⟨y,u,rfl,e⟩
  ·exact nomatch e
  ·injection e with e1 _
   subst e1
   cases v<;>rfl
theorem wp(prog:Program)(w:World)(i:Int)(t:Tok):(eJ prog w).is (.inl i) (.int i t)=true:=Bp i t
theorem wq(prog:Program)(w:World)(x:Str)(t:Tok):(eJ prog w).is (.inr x) (.str x t)=true:=Bq x t
inductive V where
 |non|bl (b:Bool)|int (i:Int)|str (x:Str)|byt (b:Array UInt8)|flt (b:UInt64)|ref (a:Addr)|ty (n:String)
 deriving DecidableEq
def cr:V->Value->Prop
 |.non,u=>u=Value.none
 |.bl b,u=>u=Value.bool b
 |.int i,u=>∃t,u=Value.int i t
 |.str x,u=>∃t,u=Value.str x t
 |.byt b,u=>∃t,u=Value.bytes b t
 |.flt b,u=>∃t,u=Value.float b t
 |.ref a,u=>u=Value.ref a
 |.ty n,u=>u=Value.type n
abbrev cJ:List V->List Value->Prop:=Paired cr
theorem cJ.length{xs:List V}{us:List Value}(r:cJ xs us):xs.length=us.length:=Paired.length r
theorem cJ.get:∀{xs:List V} {us:List Value} {i:Nat} {x:V},cJ xs us->xs[i]?=some x->∃u,us[i]?=some u/\cr x u
 |_,_,_,_,.nil,e=>by simp at e
 |_,_,0,_,.cons r _,e=>by simp at e;subst e;exact⟨_,rfl,r⟩
 |_,_,i+1,x,.cons _ t,e=>by
  obtain⟨u,h1,h2⟩:=cJ.get (i:=i) (x:=x) t (by simpa using e)
  exact⟨u,by simpa using h1,h2⟩
theorem cJ.set{x:V}{u:Value}(r:cr x u):∀{xs:List V} {us:List Value} (i:Nat),cJ xs us->cJ (xs.set i x) (us.set i u)
 |_,_,_,.nil=>.nil
 |_,_,0,.cons _ t=>.cons r t
 |_,_,i+1,.cons q t=>.cons q (cJ.set r i t)
theorem cJ.append:∀{xs ys:List V} {us ws:List Value},cJ xs us->cJ ys ws->cJ (xs++ys) (us++ws)
 |_,_,_,_,.nil,s=>s
 |_,_,_,_,.cons r t,s=>.cons r (cJ.append t s)
theorem cJ.take:∀{xs:List V} {us:List Value} (n:Nat),cJ xs us->cJ (xs.take n) (us.take n)
 |_,_,0,_=>.nil
 |_,_,_+1,.nil=>.nil
 |_,_,n+1,.cons r t=>.cons r (cJ.take n t)
theorem cJ.drop:∀{xs:List V} {us:List Value} (n:Nat),cJ xs us->cJ (xs.drop n) (us.drop n)
 |_,_,0,r=>r
 |_,_,_+1,.nil=>.nil
 |_,_,n+1,.cons _ t=>cJ.drop n t
def oX:Option V->Option Value->Prop
 |some v,some u=>cr v u
 |none,none=>True
 |_,_=>False
def KV{κ:Type}:List (κ×V)->List (κ×Value)->Prop:=Paired fun(p:κ×V) (q:κ×Value)=>p.1=q.1/\cr p.2 q.2
def kV:fX->V
 |.inl i=>.int i
 |.inr x=>.str x
inductive HO where
 /-- a list -/
 |lst (xs:List V)
 /-- a tuple (never changes) -/
 |tup (xs:List V)
 /-- a dict whose keys are ints and texts;one whose keys are tuples of ints and texts (the empty one is both) -/
 |dK (kvs:List (fX×V))|dT (kvs:List (List fX×V))
 /-- a set of ints: bC members,bC size -/
 |set (S:Int->Bool) (n:Nat)
 /-- an instance of the class at C,bC dict at dx,bC attributes -/
 |ins (C dx:Addr) (fs:List (Str×V))
 /-- the dict of the instance at x -/
 |own (x:Addr)
 /-- the dict of an exception -/
 |xd (fs:List (Str×V))
 /-- a bound method,f of x -/
 |met (f x:Addr)
 /-- a range object lo,lo+1,.. below hi -/
 |rng (lo hi:Int)
 /-- a thing that is known to the object (the script;a dict while a loop walks it): read,never written while it is so -/
 |frz (o:Obj) (u:HO)
 /-- a code object's table -/
 |tbl (ps:Array Value)
 /-- any other thing,by what is true of bC one object (a def of Ta own: SetO a S n:=HO.ext fun h=>..) -/
 |ext (φ:Heap->Prop)
abbrev Hp:=Addr->Option HO
def fm(H:Hp)(a:Addr)(o:HO):Hp:=fun b=>if b=a then some o else H b
theorem fC{H:Hp}{a:Addr}{o:HO}:fm H a o a=some o:=by unfold fm;rw[aD rfl]
theorem cx{H:Hp}{a b:Addr}{o:HO}(h:b≠a):fm H a o b=H b:=by unfold fm;rw[aQ h]
theorem On{H:Hp}{a b:Addr}{o u:HO}(h:H a=some o)(h':H b=some u)(d:o≠u):a≠b:=by
 intro e;subst e;rw[h]at h';exact d (a_ h')
theorem dh{H:Hp}{a b:Addr}{o:HO}(h:H a=some o)(h':H b=none):a≠b:=by
 intro e;subst e;rw[h]at h';cases h'
section
variable(P:Program)(w:World)
def e_(H:Hp)(h:Heap)(a:Addr):HO->Prop
 |.lst xs=>xs.length<=sizeLine/\∃(bC:List Value) (n:Nat),cJ xs bC/\h.get? a=some { cls:=.type "list",data:=.seq bC.toArray n }
 |.tup xs=>xs.length<=sizeLine/\∃bC:List Value,cJ xs bC/\IsTup h a bC.toArray
 |.dK kvs=>kvs.length<=sizeLine/\(a==sysModules)=false/\∃vs,KV kvs vs/\h.DictOf (eJ P w) a vs
 |.dT kvs=>kvs.length<=sizeLine/\(a==sysModules)=false/\∃xs:List (List fX×Addr×Value),
   Paired (fun(p:List fX×V) (q:List fX×Addr×Value)=>p.1=q.1/\H q.2.1=some (.tup (p.1.map kV))/\cr p.2 q.2.2) kvs xs /\
   ∃o es ep,h.get? a=some o/\o.ExactDict/\o.data=.dict es ep/\es.toList=xs.map (entryOfKey (tupleKind (eJ P w)))/\(xs.map (·.1)).Nodup
 |.set S n=>h.SetOf (intKind P w) a S n
 |.ins C dx fs=>H dx=some (.own a)/\fs.length<=1000/\dx≠a/\h.get? a=some (PySem.W.instObj C dx) /\
   ∃mA,h.Ns1 dx mA/\(∀f,oX (fs.lookup f) (mA f))/\PySem.Within mA (fs.map (·.1))
 |.own _=>∃o,h.get? a=some o
 |.xd fs=>∃mA,h.Ns1 a mA/\∀f,oX (fs.lookup f) (mA f)
 |.rng lo hi=>∃t u v,h.get? a=some { cls:=.type "range",data:=.fields #[.int lo t,.int hi u,.int 1 v] }
 |.frz o u=>h.get? a=some o/\e_ H h a u
 |.tbl ps=>h.get? a=some { cls:=.none,data:=.fields ps }
 |.met f x=>h.get? a=some (PySem.W.methodObj (.ref f) (.ref x))
 |.ext φ=>φ h/\(∃o,h.get? a=some o)/\∀h1 h2:Heap,φ h1->(∀o,h1.get? a=some o->h2.get? a=some o)->φ h2
def nK(H:Hp)(h:Heap):Prop:=∀a o,H a=some o->e_ P w H h a o
end
section
variable{P:Program}{w:World}{H H':Hp}{h h':Heap}{a:Addr}{o:HO}
theorem e_.lt(x:e_ P w H h a o):a<h.objs.size:=by
 cases o with
 |lst xs=>obtain⟨_,_,_,_,e⟩:=x;exact aG e
 |tup xs=>obtain⟨_,_,_,p⟩:=x;exact p.lt
 |dK kvs=>obtain⟨_,_,_,_,o,_,_,e,_⟩:=x;exact aG e
 |dT kvs=>obtain⟨_,_,_,_,o,_,_,e,_⟩:=x;exact aG e
 |set S n=>obtain⟨o,_,_,_,e,_⟩:=x;exact aG e
 |ins C dx fs=>obtain⟨_,_,_,e,_⟩:=x;exact aG e
 |own y=>obtain⟨_,e⟩:=x;exact aG e
 |xd fs=>obtain⟨_,⟨_,_,_,e,_⟩,_⟩:=x;exact aG e
 |rng lo hi=>obtain⟨_,_,_,e⟩:=x;exact aG e
 |frz ob u=>obtain⟨e,_⟩:=x;exact aG e
 |tbl ps=>exact aG (show h.get? a=some _ from x)
 |met f y=>exact aG (show h.get? a=some _ from x)
 |ext φ=>obtain⟨_,⟨_,e⟩,_⟩:=x;exact aG e
theorem Paired.mapP{α β:Type}{F G:α->β->Prop}:∀{l₁:List α} {l₂:List β},Paired F l₁ l₂->(∀a b,F a b->G a b)->Paired G l₁ l₂
 |_,_,.nil,_=>.nil
 |_,_,.cons r t,f=>.cons (f _ _ r) (Paired.mapP t f)
theorem e_.stay(x:e_ P w H h a o)(k:∀b u,(b=a\/H b=some (.own a))->h.get? b=some u->h'.get? b=some u)
  (ho:∀b,H b=some (.own a)->H' b=some (.own a)) (ht:∀b xs,H b=some (.tup xs)->H' b=some (.tup xs)):e_ P w H' h' a o:=by
 induction o with
 |lst xs=>obtain⟨z,bC,n,r,e⟩:=x;exact⟨z,bC,n,r,k _ _ (.inl rfl) e⟩
 |tup xs=>obtain⟨z,bC,r,ob,e,c⟩:=x;exact⟨z,bC,r,ob,k _ _ (.inl rfl) e,c⟩
 |dK kvs=>obtain⟨z,y,vs,r,ob,es,ep,e,c⟩:=x;exact⟨z,y,vs,r,ob,es,ep,k _ _ (.inl rfl) e,c⟩
 |dT kvs=>
  obtain⟨z,y,xs,r,ob,es,ep,e,c⟩:=x
  exact⟨z,y,xs,Paired.mapP r fun p q z=>⟨z.1,ht _ _ z.2.1,z.2.2⟩,ob,es,ep,k _ _ (.inl rfl) e,c⟩
 |set S n=>obtain⟨ob,es,ep,t,e,c⟩:=x;exact⟨ob,es,ep,t,k _ _ (.inl rfl) e,c⟩
 |ins C dx fs=>
  obtain⟨d,z,ne,e,mA,⟨od,es,ep,e2,c⟩,r⟩:=x
  exact⟨ho _ d,z,ne,k _ _ (.inl rfl) e,mA,⟨od,es,ep,k _ _ (.inr d) e2,c⟩,r⟩
 |own y=>obtain⟨ob,e⟩:=x;exact⟨ob,k _ _ (.inl rfl) e⟩
 |xd fs=>obtain⟨mA,⟨od,es,ep,e,c⟩,r⟩:=x;exact⟨mA,⟨od,es,ep,k _ _ (.inl rfl) e,c⟩,r⟩
 |rng lo hi=>obtain⟨t,u,v,e⟩:=x;exact⟨t,u,v,k _ _ (.inl rfl) e⟩
 |frz ob u ih=>obtain⟨e,q⟩:=x;exact⟨k _ _ (.inl rfl) e,ih q⟩
 |tbl ps=>
  have e:h.get? a=some { cls:=.none,data:=.fields ps }:=x
  show h'.get? a=some { cls:=.none,data:=.fields ps }
  exact k a _ (.inl rfl) e
 |met f y=>
  have e:h.get? a=some (PySem.W.methodObj (.ref f) (.ref y)):=x
  show h'.get? a=some (PySem.W.methodObj (.ref f) (.ref y))
  exact k a _ (.inl rfl) e
 |ext φ=>obtain⟨p,⟨o,e⟩,st⟩:=x;exact⟨st _ _ p fun o q=>k _ _ (.inl rfl) q,⟨o,k _ _ (.inl rfl) e⟩,st⟩
theorem nK.lt(x:nK P w H h)(e:H a=some o):a<h.objs.size:=(x a o e).lt
theorem nK.fresh(x:nK P w H h)(e:h.objs.size<=a):H a=none:=by
 cases q:H a with
 |none=>rfl
 |some u=>exact absurd (aX (x.lt q) e) (bD _)
theorem nK.kept(x:nK P w H h)(k:∀b u,h.get? b=some u->h'.get? b=some u):nK P w H h':=fun a o e=>
 (x a o e).stay (fun b u _ q=>k b u q) (fun _ q=>q) fun _ _ q=>q
theorem nK.laid(x:nK P w H h)(k:∀b u,h.get? b=some u->h'.get? b=some u)(hp:h.objs.size<=a)(new:e_ P w (fm H a o) h' a o):nK P w (fm H a o) h':=fun b u e=>by
 have hn:=x.fresh hp
 by_cases hb:b=a
 ·subst hb;rw[fC]at e;cases e;exact new
 ·rw[cx hb]at e
  exact(x b u e).stay (fun c v _ q=>k c v q) (fun c q=>by rw[cx (dh q hn)];exact q) fun c xs q=>by rw[cx (dh q hn)];exact q
end
def Rd(H:Hp)(a:Addr)(u:HO):Prop:=H a=some u\/∃o,H a=some (.frz o u)
theorem Rd.ok{P:Program}{w:World}{H:Hp}{h:Heap}{a:Addr}{u:HO}(r:Rd H a u)(x:nK P w H h):e_ P w H h a u:=by
 rcases r with r|⟨o,r⟩
 ·exact x a u r
 ·obtain⟨_,q⟩:=x a _ r
  exact q
def Oo:Option HO->Prop
 |some (.lst _)=>True
 |some (.dK _)=>True
 |some (.dT _)=>True
 |some (.set _ _)=>True
 |some (.ins _ _ _)=>True
 |some (.ext _)=>True
 |_=>False
section
variable{P:Program}{w:World}{H:Hp}{h h':Heap}{x e:Addr}{o':HO}
theorem nK.write(ok:nK P w H h)(mu:Oo (H x))(he:e=x\/H e=some (.own x))(k:∀b u,b≠e->h.get? b=some u->h'.get? b=some u)(Oj:∃u,h'.get? e=some u)
  (new:e_ P w (fm H x o') h' x o'):nK P w (fm H x o') h':=fun b u q=>by
 have nown:∀c y,H c=some (.own y)->c≠x:=fun c y r z=>by subst z;rw[r]at mu;exact mu
 have ntup:∀c xs,H c=some (.tup xs)->c≠x:=fun c xs r z=>by subst z;rw[r]at mu;exact mu
 by_cases hb:b=x
 ·subst hb;rw[fC]at q;cases q;exact new
 ·rw[cx hb]at q
  by_cases hbe:b=e
  ·have q':H b=some (.own x):=by
    rcases he with z|z
    ·exact absurd (hbe.trans z) hb
    ·rw[hbe];exact z
   rw[q]at q';cases q'
   obtain⟨v,hv⟩:=Oj
   exact⟨v,by rw[hbe];exact hv⟩
  ·refine(ok b u q).stay (fun c v hc r=>k c v ?_ r) (fun c r=>by rw[cx (nown c b r)];exact r) fun c xs r=>by rw[cx (ntup c xs r)];exact r
   rcases hc with rfl|hc
   ·exact hbe
   ·rintro rfl
    rcases he with z|z
    ·exact nown c b hc z
    ·rw[hc]at z;cases z;exact hb rfl
end
structure Un(fs ex:List Addr)(H H':Hp)(h h':Heap):Prop where
 keep:∀b o,h.get? b=some o->H b=none->b∉fs->b∉ex->h'.get? b=some o
 slot:∀b o,h.get? b=some o->H b=none->b∈fs->b∉ex->∃sl,h'.get? b=some { o with slots:=sl }
 free:∀b o,h.get? b=some o->H b=none->b∉ex->H' b=none
 there:∀b o,h.get? b=some o->b∉ex->∃o',h'.get? b=some o'
 tups:∀b xs,H b=some (.tup xs)->H' b=some (.tup xs)
 frzs:∀b o u,H b=some (.frz o u)->H' b=some (.frz o u)
 tbls:∀b ps,H b=some (.tbl ps)->∃kD,H' b=some (.tbl (ps++kD))
section
variable{fs TC ex TK:List Addr}{H H1 H2:Hp}{h h1 h2 h':Heap}{a x e:Addr}{o:HO}
theorem Un.any(u:Un fs ex H H1 h h1){b:Addr}{ob:Obj}(q:h.get? b=some ob)(n:H b=none)(hx:b∉ex):∃sl,h1.get? b=some { ob with slots:=sl }:=by
 by_cases hb:b∈fs
 ·exact u.slot b ob q n hb hx
 ·exact⟨ob.slots,u.keep b ob q n hb hx⟩
theorem Un.kept(k:∀b u,h.get? b=some u->h'.get? b=some u):Un fs ex H H h h':=
 ⟨fun b ob q _ _ _=>k b ob q,fun b ob q _ _ _=>⟨ob.slots,k b ob q⟩,fun _ _ _ n _=>n,fun b ob q _=>⟨ob,k b ob q⟩,fun _ _ q=>q,fun _ _ _ q=>q,fun _ ps q=>⟨#[],by rw[q];simp⟩⟩
theorem Un.refl:Un fs ex H H h h:=Un.kept fun _ _ q=>q
theorem Un.laid(k:∀b u,h.get? b=some u->h'.get? b=some u)(hp:h.objs.size<=a)(hn:H a=none):Un fs ex H (fm H a o) h h' where
 keep:=fun b u q _ _ _=>k b u q
 slot:=fun b u q _ _ _=>⟨u.slots,k b u q⟩
 free:=fun b u q n _=>by rw[cx (bd (aX (aG q) hp))];exact n
 there:=fun b u q _=>⟨u,k b u q⟩
 tups:=fun b xs q=>by rw[cx (dh q hn)];exact q
 frzs:=fun b u xs q=>by rw[cx (dh q hn)];exact q
 tbls:=fun b ps q=>⟨#[],by rw[cx (dh q hn),q];simp⟩
theorem Un.write(mu:Oo (H x))(he:e=x\/H e=some (.own x))(k:∀b u,b≠e->h.get? b=some u->h'.get? b=some u)(Oj:∃u,h'.get? e=some u):Un fs ex H (fm H x o) h h':=by
 have hx:∀b,H b=none->b≠x:=fun b n z=>by subst z;rw[n]at mu;exact mu
 have hb:∀b,H b=none->b≠e:=fun b n z=>by
  subst z
  rcases he with r|r
  ·exact hx b n r
  ·rw[n]at r;cases r
 have hm:∀b u,H b=some u->¬ Oo (some u)->b≠x:=fun b u q nm z=>by subst z;rw[q]at mu;exact nm mu
 refine⟨fun b u q n _ _=>k b u (hb b n) q,fun b u q n _ _=>⟨u.slots,k b u (hb b n) q⟩,fun b u q n _=>by rw[cx (hx b n)];exact n,fun b u q _=>?_,
  fun b xs q=>by rw[cx (hm b _ q fun z=>z)];exact q,fun b u xs q=>by rw[cx (hm b _ q fun z=>z)];exact q,fun b ps q=>⟨#[],by rw[cx (hm b _ q fun z=>z),q];simp⟩⟩
 by_cases hbe:b=e
 ·subst hbe;exact Oj
 ·exact⟨u,k b u hbe q⟩
end
def Rk(h:Heap)(H:Hp):List Addr:=(List.range h.objs.size).filter fun a=>(H a).isSome
def sH(h:Heap)(H:Hp):Heap:=hideAll h (Rk h H)
theorem Br(h:Heap)(H:Hp):(sH h H).objs.size=h.objs.size:=PySem.W.hideAll_size _ _
theorem CS{h:Heap}{H:Hp}{b:Addr}{o:Obj}(e:h.get? b=some o)(n:H b=none):(sH h H).get? b=some o:=
 PySem.W.hideAll_get _ e fun hm=>by
  have q:(H b).isSome=true:=(dP.mp hm).2
  rw[n]at q;simp at q
theorem G3{h:Heap}{H:Hp}{b:Addr}{o:Obj}(e:(sH h H).get? b=some o):h.get? b=some o/\H b=none:=by
 have e':h.get? b=some o:=PySem.W.of_hideAll (Rk h H) e
 refine⟨e',?_⟩
 cases q:H b with
 |none=>rfl
 |some x=>
  have hm:b∈Rk h H:=dP.mpr ⟨ca.mpr (aG e'),by simp[q]⟩
  have z:(sH h H).get? b=none:=PySem.W.hideAll_none (Rk h H) hm
  rw[z]at e;cases e
def G4(g h:Heap)(L:Addr):List (Addr×Obj):=(List.range h.objs.size).filterMap fun a=>if a=L\/(g.get? a).isSome=true then none else(h.get? a).map fun o=>(a,o)
def d7(g h:Heap)(L d:Addr):List (Addr×Obj):=(G4 g h L).filter fun p=>decide (p.1≠d)
structure Mod(K:Frag)(mg:Str->Option Value)(base:Heap):Prop where
 kin:K.In base
 glob:base.Ns mainGlobals mg
 blt:∃mb,base.Ns builtinsNs mb/\∀x:Str,x ≠ "__name__"->mb x=bootBuiltins x
 nolimit:base.NoLimit
structure Cx where
 prog:Program
 w:World
 K:Frag
 mg:Str->Option Value
 base:Heap
 A:Around
 N:List Str
 s₀:Shared
 H₀:Hp
 env:Env
 outer:List Env
 stack:List Env
 ex:List Addr
 fn:Str->Bool
 calm:Bool
 pn:List (Addr×Obj)
 xe:Value->Shared->Prop
def qm(l:List Env):List Addr:=l.filterMap (·.frame)
abbrev Cx.fs(X:Cx):List Addr:=qm X.outer
def Op(sc:Scope)(x:Str):Prop:=sc.names.lookup x=some .local\/sc.names.lookup x=some .cell\/sc.names.lookup x=some .free
def G5(sc:Scope)(x:Str):Prop:=sc.names.lookup x=some .local\/sc.names.lookup x=some .cell
def RI(env:Env)(h:Heap)(m:Str->Option Value)(x:Str)(u:Value):Prop:=
 (env.kindOf x=some .local/\m x=some u)\/((env.kindOf x=some .cell\/env.kindOf x=some .free)/\∃c,env.cells.lookup x=some c/\h.IsCell c (some u))
structure Cx.Ok(X:Cx):Prop where
 mod:Mod X.K X.mg X.base
 kind:X.env.scope.kind=.function
 glob:X.env.globals=mainGlobals
 blt:X.env.builtins=builtinsNs
 above:X.s₀.heap.objs.size<=X.env.locals
 inj:∀x y c,X.env.cells.lookup x=some c->X.env.cells.lookup y=some c->x=y
 has:∀x,(X.env.kindOf x=some .cell\/X.env.kindOf x=some .free)->∃c,X.env.cells.lookup x=some c
 cab:∀x c,X.fn x=true->X.env.cells.lookup x=some c->X.s₀.heap.objs.size<=c
 hd:X.calm=true->X.A.handled=none
 frames:X.A.frames=some X.stack
 stk:X.stack=X.outer\/(X.stack=X.env::X.outer/\X.env.frame=some X.env.locals)
 exf:∀b∈X.ex,b≠X.env.locals/\∀x c,X.env.cells.lookup x=some c->c≠b
 bs:∀b o,X.base.get? b=some o->X.s₀.heap.get? b=some o/\X.H₀ b=none
 bsz:X.base.objs.size<=X.s₀.heap.objs.size
 noex:∀b o,X.base.get? b=some o->b∉X.ex
 exfs:∀b∈X.ex,b∉X.fs
 funs:X.s₀.heap.FunFrames X.base X.outer
 frf:∀b∈X.fs,X.H₀ b=none
structure bE(X:Cx)(pins:List (Addr×Obj))(σ:List (Option V))(H:Hp)(s:Shared):Prop where
 ok:X.Ok
 os:s.os=X.s₀.os
 bare:AllBare s.gens
 base:Un X.fs X.ex X.H₀ H X.s₀.heap s.heap
 loc:∃m,s.heap.Ns X.env.locals m/\∀(i:Nat) (x:Str) (v:V),X.N[i]?=some x->σ[i]?=some (some v)->Op X.env.scope x->∃u,cr v u/\RI X.env s.heap m x u
 cell:∀x c,X.env.cells.lookup x=some c->∃v,s.heap.IsCell c v
 free:H X.env.locals=none
 freeC:∀x c,X.env.cells.lookup x=some c->H c=none
 pin:∀p∈X.pn++pins,s.heap.get? p.1=some p.2/\H p.1=none/\p.1≠X.env.locals/\p.1∉X.fs/\∀v,p.2.data≠.cell v
 hok:nK X.prog X.w H s.heap
 len:σ.length=X.N.length
section
variable{X:Cx}{pins:List (Addr×Obj)}{σ:List (Option V)}{H H':Hp}{s:Shared}{h':Heap}
theorem Cx.Ok.nofr(ok:X.Ok){b:Addr}{o:Obj}(e:X.base.get? b=some o):b∉X.fs:=fun hb=>by
 have:=(ok.funs.mem hb).1
 rw[e]at this;cases this
theorem bE.bs(I:bE X pins σ H s):∀b o,X.base.get? b=some o->s.heap.get? b=some o/\H b=none:=fun b o e=>
 ⟨I.base.keep b o (I.ok.bs b o e).1 (I.ok.bs b o e).2 (I.ok.nofr e) (I.ok.noex b o e),I.base.free b o (I.ok.bs b o e).1 (I.ok.bs b o e).2 (I.ok.noex b o e)⟩
theorem bE.bk(I:bE X pins σ H s):∀b o,X.base.get? b=some o->s.heap.get? b=some o:=fun b o e=>(I.bs b o e).1
theorem bE.mod(I:bE X pins σ H s):Mod X.K X.mg X.base:=I.ok.mod
theorem bE.kIn(I:bE X pins σ H s):X.K.In s.heap:=I.ok.mod.kin.keeps I.bk
theorem bE.nolimit(I:bE X pins σ H s):s.heap.NoLimit:=I.ok.mod.nolimit.keeps I.bk
theorem bE.lt(I:bE X pins σ H s):X.env.locals<s.heap.objs.size:=let ⟨_,hn,_⟩:=I.loc;hn.lt
theorem bE.sz(I:bE X pins σ H s):X.s₀.heap.objs.size<=s.heap.objs.size:=bn I.ok.above (gE I.lt)
theorem bE.nofs(I:bE X pins σ H s){a:Addr}(h:s.heap.objs.size<=a):a∉X.fs:=fun hb=>by
 obtain⟨_,o,ho,_⟩:=I.ok.funs.mem hb
 exact absurd (aX (aG ho) (bn I.sz h)) (bD _)
theorem bE.cne(I:bE X pins σ H s):∀x c,X.env.cells.lookup x=some c->c≠X.env.locals:=fun x c e z=>by
 obtain⟨v,o,ho,hd⟩:=I.cell x c e
 obtain⟨m,⟨o',es,ep,ho',hd',_⟩,_⟩:=I.loc
 rw[z,ho']at ho;cases ho;rw[hd']at hd;cases hd
theorem bE.funs(I:bE X pins σ H s):s.heap.FunFrames X.base X.outer:=by
 have all:∀(l:List Env),(∀b∈qm l,b∈X.fs)->X.s₀.heap.FunFrames X.base l->s.heap.FunFrames X.base l:=by
  intro l
  induction l with
  |nil=>intro _ _;trivial
  |cons env r ih=>
   intro hs hl
   obtain⟨hk,⟨L,o,hf,hn,ho,hd⟩,hr⟩:=hl
   have hL:L∈X.fs:=hs L (by unfold qm;rw[fM,hf];exact bA)
   obtain⟨sl,e⟩:=I.base.slot L o ho (I.ok.frf L hL) hL fun z=>I.ok.exfs L z hL
   exact⟨hk,⟨L,_,hf,hn,e,hd⟩,ih (fun b hb=>hs b (by unfold qm;rw[fM,hf];exact aZ _ hb)) hr⟩
 exact all X.outer (fun _ hb=>hb) I.ok.funs
theorem bE.stack(I:bE X pins σ H s):s.heap.FunFrames X.base X.stack:=by
 rcases I.ok.stk with e|⟨e,hf⟩
 ·rw[e];exact I.funs
 ·rw[e]
  obtain⟨m,hn,_⟩:=I.loc
  refine .cons (by rw[I.ok.kind];decide) hf hn ?_ I.funs
  exact Heap.get?_none_of_le (bn I.ok.bsz I.ok.above)
theorem bE.stkSub(I:bE X pins σ H s):∀b∈qm X.stack,b∈X.env.locals::X.fs:=fun b hb=>by
 rcases I.ok.stk with e|⟨e,hf⟩
 ·rw[e]at hb;exact aZ _ hb
 ·rw[e]at hb
  unfold qm at hb
  rw[fM,hf]at hb
  exact hb
theorem bE.stkFree(I:bE X pins σ H s):∀b∈qm X.stack,H b=none:=fun b hb=>by
 rcases br.mp (I.stkSub b hb)with e|hb
 ·rw[e];exact I.free
 ·obtain⟨_,o,ho,_⟩:=I.ok.funs.mem hb
  exact I.base.free b o ho (I.ok.frf b hb) fun z=>I.ok.exfs b z hb
theorem bE.step{g':Array GenState}{t':Nat}{d':Drawn}{ch:List Addr}(I:bE X pins σ H s)
  (GW:∀b∈ch,(b∈X.ex\/X.s₀.heap.objs.size<=b)/\b≠X.env.locals/\(∀x c,X.env.cells.lookup x=some c->c≠b)/\∀p∈X.pn++pins,p.1≠b)
  (keep:∀b o,b≠X.env.locals->b∉X.fs->b∉ch->s.heap.get? b=some o->H b=none->h'.get? b=some o)
  (slot:∀b o,b≠X.env.locals->b∈X.fs->b∉ch->s.heap.get? b=some o->H b=none->∃sl,h'.get? b=some { o with slots:=sl }) (free:∀b o,b∉ch->s.heap.get? b=some o->H b=none->H' b=none)
  (there:∀b o,b∉ch->s.heap.get? b=some o->∃o',h'.get? b=some o')
  (tups:∀b xs,H b=some (.tup xs)->H' b=some (.tup xs)) (frzs:∀b o u,H b=some (.frz o u)->H' b=some (.frz o u)) (tbls:∀b ps,H b=some (.tbl ps)->∃kD,H' b=some (.tbl (ps++kD)))
  (ns:∀m,s.heap.Ns X.env.locals m->h'.Ns X.env.locals m) (hok:nK X.prog X.w H' h') (hg:AllBare g') :
  bE X pins σ H' { s with heap:=h',gens:=g',drawn:=d',toks:=t' }:=by
 have neL:∀b o,X.s₀.heap.get? b=some o->b≠X.env.locals:=fun b o e=>bd (aX (aG e) I.ok.above)
 have neC:∀b o,X.s₀.heap.get? b=some o->b∉X.ex->b∉ch:=fun b o e hx hb=>by
  rcases(GW b hb).1 with z|z
  ·exact hx z
  ·exact absurd (aX (aG e) z) (bD _)
 have cellK:∀x c,X.env.cells.lookup x=some c->∀v,s.heap.IsCell c v->h'.IsCell c v:=fun x c e v ⟨o,ho,hd⟩=>by
  have nch:c∉ch:=fun z=>(GW c z).2.2.1 x c e rfl
  by_cases hc:c∈X.fs
  ·obtain⟨sl,q⟩:=slot c o (I.cne x c e) hc nch ho (I.freeC x c e)
   exact⟨_,q,hd⟩
  ·exact⟨o,keep c o (I.cne x c e) hc nch ho (I.freeC x c e),hd⟩
 refine⟨I.ok,I.os,hg,⟨fun b o e n hb hx=>?_,fun b o e n hb hx=>?_,fun b o e n hx=>?_,fun b o e hx=>?_,fun b xs e=>tups b xs (I.base.tups b xs e),fun b o xs e=>frzs b o xs (I.base.frzs b o xs e),fun b ps e=>?_⟩,?_,fun x c e=>?_,?_,fun x c e=>?_,fun p hp=>?_,hok,I.len⟩
 ·exact keep b o (neL b o e) hb (neC b o e hx) (I.base.keep b o e n hb hx) (I.base.free b o e n hx)
 ·obtain⟨sl,e1⟩:=I.base.slot b o e n hb hx
  obtain⟨sl',e2⟩:=slot b _ (neL b o e) hb (neC b o e hx) e1 (I.base.free b o e n hx)
  exact⟨sl',e2⟩
 ·obtain⟨o',e1⟩:=I.base.there b o e hx
  exact free b o' (neC b o e hx) e1 (I.base.free b o e n hx)
 ·obtain⟨o',e1⟩:=I.base.there b o e hx
  exact there b o' (neC b o e hx) e1
 ·obtain⟨m1,e1⟩:=I.base.tbls b ps e
  obtain⟨m2,e2⟩:=tbls b _ e1
  exact⟨m1++m2,by rw[e2,Array.append_assoc]⟩
 ·obtain⟨m,hn,hl⟩:=I.loc
  refine⟨m,ns m hn,fun i x v e1 e2 e3=>?_⟩
  obtain⟨u,r,l⟩:=hl i x v e1 e2 e3
  refine⟨u,r,?_⟩
  rcases l with l|⟨k,c,e,z⟩
  ·exact .inl l
  ·exact .inr ⟨k,c,e,cellK x c e _ z⟩
 ·obtain⟨v,z⟩:=I.cell x c e
  exact⟨v,cellK x c e v z⟩
 ·obtain⟨m,⟨o,_,_,ho,_⟩,_⟩:=I.loc
  exact free _ o (fun z=>(GW _ z).2.1 rfl) ho I.free
 ·obtain⟨v,o,ho,hd⟩:=I.cell x c e
  exact free c o (fun z=>(GW c z).2.2.1 x c e rfl) ho (I.freeC x c e)
 ·obtain⟨e,n,ne,nf,d⟩:=I.pin p hp
  have nch:p.1∉ch:=fun z=>(GW p.1 z).2.2.2 p hp rfl
  exact⟨keep p.1 p.2 ne nf nch e n,free p.1 p.2 nch e n,ne,nf,d⟩
theorem bE.un{t':Nat}(I:bE X pins σ H s)(u:Un X.fs [] H H' s.heap h')(hok:nK X.prog X.w H' h'):bE X pins σ H' { s with heap:=h',toks:=t' }:=by
 obtain⟨m,⟨o,es,ep,ho,r⟩,_⟩:=id I.loc
 obtain⟨sl,hL⟩:=u.any ho I.free (by simp)
 exact I.step (g':=s.gens) (d':=s.drawn) (ch:=[]) (fun _ z=>nomatch z) (fun b o _ hb _ e n=>u.keep b o e n hb (by simp)) (fun b o _ hb _ e n=>u.slot b o e n hb (by simp)) (fun b o _ e n=>u.free b o e n (by simp)) (fun b o _ e=>u.there b o e (by simp)) u.tups u.frzs u.tbls (fun m' hm=>by
  obtain⟨o',es',ep',ho',r'⟩:=hm
  rw[ho]at ho';cases ho'
  exact⟨_,es',ep',hL,r'⟩) hok I.bare
theorem bE.call{g':Array GenState}{t':Nat}{d':Drawn}{ch:List Addr}(I:bE X pins σ H s)(u:Un (qm X.stack) ch H H' s.heap h')(hok:nK X.prog X.w H' h')(hg:AllBare g')
  (GW:∀b∈ch,(b∈X.ex\/X.s₀.heap.objs.size<=b)/\b≠X.env.locals/\(∀x c,X.env.cells.lookup x=some c->c≠b)/\∀p∈X.pn++pins,p.1≠b) :
  bE X pins σ H' { s with heap:=h',gens:=g',drawn:=d',toks:=t' }:=by
 obtain⟨m,⟨o,es,ep,ho,r⟩,_⟩:=id I.loc
 obtain⟨sl,hL⟩:=u.any ho I.free fun z=>(GW _ z).2.1 rfl
 exact I.step (ch:=ch) GW (fun b o hL hb hc e n=>u.keep b o e n (fun z=>(br.mp (I.stkSub b z)).elim hL hb) hc) (fun b o _ _ hc e n=>u.any e n hc) (fun b o hc e n=>u.free b o e n hc) (fun b o hc e=>u.there b o e hc) u.tups u.frzs u.tbls (fun m' hm=>by
  obtain⟨o',es',ep',ho',r'⟩:=hm
  rw[ho]at ho';cases ho'
  exact⟨_,es',ep',hL,r'⟩) hok hg
theorem bE.turned{t':Nat}{it:Addr}(I:bE X pins σ H s)(k:∀b o,b≠it->s.heap.get? b=some o->h'.get? b=some o)(hn:H it=none)(hL:it≠X.env.locals)
  (h1:it∈X.ex\/X.s₀.heap.objs.size<=it) (h2:∀x c,X.env.cells.lookup x=some c->c≠it) (h3:∀p∈X.pn++pins,p.1≠it):bE X pins σ H { s with heap:=h',toks:=t' }:=by
 have nit:∀b u,H b=some u->b≠it:=fun b u e z=>by rw[z,hn]at e;cases e
 refine I.step (g':=s.gens) (d':=s.drawn) (ch:=[it]) (fun b hb=>?_) (fun b o _ _ hc e _=>k b o (fun z=>hc (by simp[z])) e) (fun b o _ _ hc e _=>⟨o.slots,k b o (fun z=>hc (by simp[z])) e⟩) (fun _ _ _ _ n=>n)
  (fun b o hc e=>⟨o,k b o (fun z=>hc (by simp[z])) e⟩) (fun _ _ e=>e) (fun _ _ _ e=>e) (fun b ps e=>⟨#[],by rw[e];simp⟩) (fun m hm=>?_) (fun b u e=>?_) I.bare
 ·have e:b=it:=by simpa using hb
  subst e
  exact⟨h1,hL,h2,h3⟩
 ·obtain⟨o,es,ep,ho,r⟩:=hm
  exact⟨o,es,ep,k _ o (Ne.symm hL) ho,r⟩
 ·refine(I.hok b u e).stay (fun c v hc q=>k c v ?_ q) (fun _ q=>q) fun _ _ q=>q
  rcases hc with z|z
  ·rw[z];exact nit b u e
  ·exact nit c _ z
theorem bE.tok(I:bE X pins σ H s)(t:Nat):bE X pins σ H { s with toks:=t }:=I.un (h':=s.heap) (t':=t) Un.refl I.hok
theorem bE.kept{t':Nat}(I:bE X pins σ H s)(k:∀b u,s.heap.get? b=some u->h'.get? b=some u):bE X pins σ H { s with heap:=h',toks:=t' }:=I.un (Un.kept k) (I.hok.kept k)
theorem bE.laid{a:Addr}{o:HO}{t':Nat}(I:bE X pins σ H s)(k:∀b u,s.heap.get? b=some u->h'.get? b=some u)(hp:s.heap.objs.size<=a)(new:e_ X.prog X.w (fm H a o) h' a o) :
  bE X pins σ (fm H a o) { s with heap:=h',toks:=t' }:=I.un (Un.laid k hp (I.hok.fresh hp)) (I.hok.laid k hp new)
theorem bE.write{x e:Addr}{o:HO}{t':Nat}(I:bE X pins σ H s)(mu:Oo (H x))(he:e=x\/H e=some (.own x))(k:∀b u,b≠e->s.heap.get? b=some u->h'.get? b=some u)(Oj:∃u,h'.get? e=some u)
  (new:e_ X.prog X.w (fm H x o) h' x o):bE X pins σ (fm H x o) { s with heap:=h',toks:=t' }:=I.un (Un.write mu he k Oj) (I.hok.write mu he k Oj new)
theorem bE.pins_of{pins':List (Addr×Obj)}(I:bE X pins σ H s)(h:∀p∈pins',s.heap.get? p.1=some p.2/\H p.1=none/\p.1≠X.env.locals/\p.1∉X.fs/\∀v,p.2.data≠.cell v):bE X pins' σ H s:=
 ⟨I.ok,I.os,I.bare,I.base,I.loc,I.cell,I.free,I.freeC,fun p hp=>(a7.mp hp).elim (fun z=>I.pin p (gA _ z)) (h p),I.hok,I.len⟩
theorem wt{N:List Str}(hN:N.Nodup){i j:Nat}{x:Str}(a:N[i]?=some x)(b:N[j]?=some x):i=j:=by
 obtain⟨h1,e1⟩:=aa.mp a
 obtain⟨h2,e2⟩:=aa.mp b
 exact(List.getElem_inj hN).mp (e1.trans e2.symm)
theorem Bs{M:Model}{A:Around}{E:Value->Shared->Prop}{i:Nat}{x:Str}{v:V}{u:Value}{Q:Unit->Shared->Prop}(I:bE X pins σ H s)(hN:X.N.Nodup)(hi:X.N[i]?=some x)(hx:G5 X.env.scope x)(r:cr v u)
  (h:∀s',bE X pins (σ.set i (some v)) H s'->(∃a,Heap.SameBut a s.heap s'.heap/\(a=X.env.locals\/X.env.cells.lookup x=some a))->Q () s') (hf:X.fn x=true\/X.env.scope.names.lookup x=some .local:=by first|exact .inl rfl|exact .inr rfl|assumption):wpAny M A (storeName X.env x u) Q E s:=by
 obtain⟨m,hn,hl⟩:=id I.loc
 have hcls:(X.env.scope.kind==.class||(X.env.scope.kind==.module&&X.env.locals != X.env.globals))=false:=by rw[I.ok.kind];rfl
 have hiσ:i<σ.length:=by rw[I.len];exact(aa.mp hi).1
 have cne:=I.cne
 have tracked:∀{a:Addr} {h':Heap},(∃o,s.heap.get? a=some o/\H a=none)->Heap.SameBut a s.heap h'->nK X.prog X.w H h':=fun{a h'} ha hs b ob e=>by
  obtain⟨_,_,hfree⟩:=ha
  refine(I.hok b ob e).stay (fun c w' hc q=>(hs.2 c ?_).trans q) (fun _ q=>q) fun _ _ q=>q
  rintro rfl
  rcases hc with rfl|hc
  ·rw[hfree]at e;cases e
  ·rw[hfree]at hc;cases hc
 rcases hx with hk|hk
 ·refine wpAny_storeName_local hk hn (fun h' hn' hs=>?_) hcls
  obtain⟨oL,_,_,hoL,_⟩:=id hn
  refine h _ ⟨I.ok,I.os,I.bare,⟨fun b o e n hb hx=>?_,fun b o e n hb hx=>?_,I.base.free,fun b o e hx=>?_,I.base.tups,I.base.frzs,I.base.tbls⟩,⟨_,hn',fun j y v' e1 e2 e3=>?_⟩,fun y c e=>?_,I.free,I.freeC,fun p hp=>?_,tracked ⟨oL,hoL,I.free⟩ hs,by simpa using I.len⟩ ⟨_,hs,.inl rfl⟩
  ·exact(hs.2 b (bd (aX (aG e) I.ok.above))).trans (I.base.keep b o e n hb hx)
  ·obtain⟨sl,e1⟩:=I.base.slot b o e n hb hx
   exact⟨sl,(hs.2 b (bd (aX (aG e) I.ok.above))).trans e1⟩
  ·obtain⟨o',e1⟩:=I.base.there b o e hx
   exact⟨o',(hs.2 b (bd (aX (aG e) I.ok.above))).trans e1⟩
  ·by_cases hj:j=i
   ·subst hj
    rw[hi]at e1;cases e1
    rw[bb hiσ]at e2
    cases e2
    exact⟨u,r,.inl ⟨hk,by simp⟩⟩
   ·rw[bg (Ne.symm hj)]at e2
    obtain⟨u',r',q⟩:=hl j y v' e1 e2 e3
    refine⟨u',r',?_⟩
    rcases q with⟨k,e⟩|⟨k,c,e,z⟩
    ·refine .inl ⟨k,?_⟩
     have:y≠x:=fun e=>hj (wt hN e1 (e▸hi))
     simp[this,e]
    ·exact .inr ⟨k,c,e,z.sameBut hs (cne y c e)⟩
  ·obtain⟨w',z⟩:=I.cell y c e
   exact⟨w',z.sameBut hs (cne y c e)⟩
  ·obtain⟨e,n,ne,nf,d⟩:=I.pin p hp
   exact⟨(hs.2 p.1 ne).trans e,n,ne,nf,d⟩
 ·have hfn:X.fn x=true:=by
   rcases hf with z|z
   ·exact z
   ·rw[z]at hk;cases hk
  obtain⟨c,hc⟩:=I.ok.has x (.inl hk)
  obtain⟨w',z⟩:=I.cell x c hc
  refine wpAny_storeName_cell I.ok.kind hk hc z (fun h' hc' hs=>?_)
  obtain⟨oc,hoc,hocd⟩:=id z
  refine h { s with heap:=h' } ⟨I.ok,I.os,I.bare,⟨fun b o e n hb hx=>?_,fun b o e n hb hx=>?_,I.base.free,fun b o e hx=>?_,I.base.tups,I.base.frzs,I.base.tbls⟩,⟨m,hn.sameBut hs (Ne.symm (cne x c hc)),fun j y v' e1 e2 e3=>?_⟩,fun y c' e=>?_,I.free,I.freeC,fun p hp=>?_,tracked ⟨oc,hoc,I.freeC x c hc⟩ hs,by simpa using I.len⟩ ⟨c,hs,.inr hc⟩
  ·exact(hs.2 b (bd (aX (aG e) (I.ok.cab x c hfn hc)))).trans (I.base.keep b o e n hb hx)
  ·obtain⟨sl,e1⟩:=I.base.slot b o e n hb hx
   exact⟨sl,(hs.2 b (bd (aX (aG e) (I.ok.cab x c hfn hc)))).trans e1⟩
  ·obtain⟨o',e1⟩:=I.base.there b o e hx
   exact⟨o',(hs.2 b (bd (aX (aG e) (I.ok.cab x c hfn hc)))).trans e1⟩
  ·by_cases hj:j=i
   ·subst hj
    rw[hi]at e1;cases e1
    rw[bb hiσ]at e2
    cases e2
    exact⟨u,r,.inr ⟨.inl hk,c,hc,hc'⟩⟩
   ·rw[bg (Ne.symm hj)]at e2
    obtain⟨u',r',q⟩:=hl j y v' e1 e2 e3
    refine⟨u',r',?_⟩
    rcases q with q|⟨k,c',e,z'⟩
    ·exact .inl q
    ·refine .inr ⟨k,c',e,z'.sameBut hs ?_⟩
     rintro rfl
     exact hj (wt hN e1 (I.ok.inj _ _ _ e hc▸hi))
  ·by_cases hcc:c'=c
   ·subst hcc;exact⟨_,hc'⟩
   ·obtain⟨w2,z2⟩:=I.cell y c' e
    exact⟨w2,z2.sameBut hs hcc⟩
  ·obtain⟨e,n,ne,nf,d⟩:=I.pin p hp
   refine⟨(hs.2 p.1 ?_).trans e,n,ne,nf,d⟩
   intro q
   rw[q,hoc]at e
   have q':oc=p.2:=a_ e
   exact d w' (by rw[<- q'];exact hocd)
theorem wu{M:Model}{A:Around}{E:Value->Shared->Prop}{i:Nat}{x:Str}{v:V}{u:Value}{Q:Unit->Shared->Prop}(I:bE X pins σ H s)(hN:X.N.Nodup)(hi:X.N[i]?=some x)(hx:G5 X.env.scope x)(r:cr v u)
  (h:∀s',bE X pins (σ.set i (some v)) H s'->Q () s') (hf:X.fn x=true\/X.env.scope.names.lookup x=some .local:=by first|exact .inl rfl|exact .inr rfl|assumption):wpAny M A (storeName X.env x u) Q E s:=
 Bs I hN hi hx r (fun s' I' _=>h s' I') hf
theorem bE.call'{s':Shared}{ch:List Addr}(I:bE X pins σ H s)(ho:s'.os=s.os)(u:Un (qm X.stack) ch H H' s.heap s'.heap)(hok:nK X.prog X.w H' s'.heap)(hg:AllBare s'.gens)
  (GW:∀b∈ch,(b∈X.ex\/X.s₀.heap.objs.size<=b)/\b≠X.env.locals/\(∀x c,X.env.cells.lookup x=some c->c≠b)/\∀p∈X.pn++pins,p.1≠b):bE X pins σ H' s':=by
 obtain⟨h',g',d',t',o'⟩:=s'
 have e:o'=s.os:=ho
 subst e
 exact I.call (g':=g') (t':=t') (d':=d') u hok hg GW
end
abbrev XK:=Value->Option Addr->Hp->Prop
abbrev St:=List (Option V)
abbrev VK:=V->Hp->Prop
abbrev TE:=St->Hp->VK->Prop
abbrev TT:=St->Hp->(Bool->Hp->Prop)->Prop
abbrev TA:=St->Hp->(List V->Hp->Prop)->Prop
structure uC where
 nx:St->Hp->Prop
 rt:VK
 bk:St->Hp->Prop:=fun _ _=>False
 ct:St->Hp->Prop:=fun _ _=>False
abbrev TS:=uC->St->Hp->Prop
def EP(X:Cx)(pins:List (Addr×Obj))(σ:St)(Q:VK)(u:Value)(s':Shared):Prop:=∃v H',bE X pins σ H' s'/\cr v u/\Q v H'
def TP(X:Cx)(pins:List (Addr×Obj))(σ:St)(Q:Bool->Hp->Prop)(b:Bool)(s':Shared):Prop:=∃H',bE X pins σ H' s'/\Q b H'
def AP(X:Cx)(pins:List (Addr×Obj))(σ:St)(Q:List V->Hp->Prop)(us:List Value)(s':Shared):Prop:=∃vs H',bE X pins σ H' s'/\cJ vs us/\Q vs H'
def SP(X:Cx)(pins:List (Addr×Obj))(D:uC)(f:Flow)(s':Shared):Prop:=
 match f with
 |.next=>∃σ' H',bE X pins σ' H' s'/\D.nx σ' H'
 |.brk=>∃σ' H',bE X pins σ' H' s'/\D.bk σ' H'
 |.cont=>∃σ' H',bE X pins σ' H' s'/\D.ct σ' H'
 |.ret u=>∃v σ' H',bE X pins σ' H' s'/\cr v u/\D.rt v H'
def PE(X:Cx)(e:Expr)(t:TE):Prop:=
 ∀(pins:List (Addr×Obj)) (s:Shared) (σ:St) (H:Hp) (Q:VK),bE X pins σ H s->t σ H Q->wpAny (model X.prog X.w) X.A (eval e X.env) (EP X pins σ Q) X.xe s
def PT(X:Cx)(e:Expr)(t:TT):Prop:=
 ∀(pins:List (Addr×Obj)) (s:Shared) (σ:St) (H:Hp) (Q:Bool->Hp->Prop),bE X pins σ H s->t σ H Q->wpAny (model X.prog X.w) X.A (isTrue e X.env (eval e X.env)) (TP X pins σ Q) X.xe s
def PW(X:Cx)(e:Expr)(t:TT):Prop:=
 ∀(sE:Sem Value) (pins:List (Addr×Obj)) (s:Shared) (σ:St) (H:Hp) (Q:Bool->Hp->Prop),bE X pins σ H s->t σ H Q->wpAny (model X.prog X.w) X.A (isTrue e X.env sE) (TP X pins σ Q) X.xe s
theorem PW.pt{X:Cx}{e:Expr}{t:TT}(h:PW X e t):PT X e t:=h _
def PA(X:Cx)(es:List Expr)(t:TA):Prop:=
 ∀(pos:Pos) (pins:List (Addr×Obj)) (s:Shared) (σ:St) (H:Hp) (Q:List V->Hp->Prop),bE X pins σ H s->t σ H Q->wpAny (model X.prog X.w) X.A (spliced (backTo pos (starEach es X.env))) (AP X pins σ Q) X.xe s
def PS(X:Cx)(st:Stmt)(t:TS):Prop:=
 ∀(pins:List (Addr×Obj)) (s:Shared) (σ:St) (H:Hp) (D:uC),bE X pins σ H s->t D σ H->wpAny (model X.prog X.w) X.A (exec st X.env) (SP X pins D) X.xe s
def Bt(X:Cx)(st:List Stmt)(t:TS):Prop:=
 ∀(pins:List (Addr×Obj)) (s:Shared) (σ:St) (H:Hp) (D:uC),bE X pins σ H s->t D σ H->wpAny (model X.prog X.w) X.A (execs st X.env) (SP X pins D) X.xe s
theorem fY{α:Type}{t:Sem α}{Q Q':α->Shared->Prop}{M:Model}{A:Around}{E:Value->Shared->Prop}{s:Shared}(h:wpAny M A t Q E s)(hQ:∀a s,Q a s->Q' a s):wpAny M A t Q' E s:=cW h hQ fun _ _ x=>x
section
variable{X:Cx}
def Oq(i:Nat):TE:=fun σ H Q=>∃v,σ[i]?=some (some v)/\Q v H
def tC(v:V):TE:=fun _ H Q=>Q v H
theorem KR{i:Nat}{x:Str}{pos:Pos}(hN:X.N[i]?=some x)(hv:Op X.env.scope x)(hd:(x==("__debug__":Str))=false:=by decide)(mW:(x==("__classdict__":Str))=false:=by decide):PE X (.Name x pos) (Oq i):=by
 intro pins s σ H Q I h
 obtain⟨v,e,h⟩:=h
 obtain⟨m,hn,hl⟩:=I.loc
 obtain⟨u,r,l⟩:=hl i x v hN e hv
 have fin:EP X pins σ Q u s:=⟨v,H,I,r,h⟩
 rcases l with⟨hk,hm⟩|⟨hk,c,hc,gz⟩
 ·exact lF (wpAny_loadName_local I.ok.kind hk hn hm fin) hd
 ·rcases hk with hk|hk
  ·exact lF (wpAny_loadName_cell I.ok.kind hk hc gz fin) hd
  ·exact lF (wpAny_loadName_free I.ok.kind hk hc gz fin mW) hd
theorem KS{i j pos}:PE X (.Constant (.int i) j pos) (tC (.int i)):=fun _ _ _ H _ I h=>wpAny_Constant_int ⟨.int i,H,I.tok _,⟨_,rfl⟩,h⟩
theorem Os{b j pos}:PE X (.Constant (.bool b) j pos) (tC (.bl b)):=fun _ _ _ H _ I h=>Constant_bool ⟨.bl b,H,I,rfl,h⟩
theorem KU{j pos}:PE X (.Constant .none j pos) (tC .non):=fun _ _ _ H _ I h=>nG ⟨.non,H,I,rfl,h⟩
theorem KW{x j pos}:PE X (.Constant (.str x) j pos) (tC (.str x)):=fun _ _ _ H _ I h=>Calls.Constant_str ⟨.str x,H,I.tok _,⟨_,rfl⟩,h⟩
def Gl(X:Cx)(x:Str):Prop:=X.env.kindOf x=some .globalImplicit
theorem uD{E:Value->Shared->Prop}{pins:List (Addr×Obj)}{s:Shared}{σ:St}{H:Hp}{x:Str}{u:Value}{pos:Pos}{Q:Value->Shared->Prop}(I:bE X pins σ H s)(hg:Gl X x)(hm:X.mg x=some u)(h:Q u s)
  (hd:(x==("__debug__":Str))=false:=by decide):wpAny (model X.prog X.w) X.A (eval (.Name x pos) X.env) Q E s:=
 jQ I.ok.kind hg (Calls.loadGlobal_global (by rw[I.ok.glob];exact I.mod.glob.keeps I.bk) hm h) hd
theorem kA{E:Value->Shared->Prop}{pins:List (Addr×Obj)}{s:Shared}{σ:St}{H:Hp}{x:Str}{u:Value}{pos:Pos}{Q:Value->Shared->Prop}(I:bE X pins σ H s)(hg:Gl X x)(hm:X.mg x=none)(hv:bootBuiltins x=some u)(h:Q u s)
  (hn:x ≠ "__name__":=by decide) (hd:(x==("__debug__":Str))=false:=by decide):wpAny (model X.prog X.w) X.A (eval (.Name x pos) X.env) Q E s:=by
 obtain⟨mb,h1,h2⟩:=I.mod.blt
 exact jQ I.ok.kind hg (Calls.loadGlobal_builtin (by rw[I.ok.glob];exact I.mod.glob.keeps I.bk) hm (by rw[I.ok.blt];exact h1.keeps I.bk) ((h2 x hn).trans hv) h) hd
theorem G6{x:Str}{v:V}{u:Value}{pos:Pos}(hg:Gl X x)(hm:X.mg x=some u)(r:cr v u)(hd:(x==("__debug__":Str))=false:=by decide):PE X (.Name x pos) (tC v):=
 fun _ _ _ H _ I h=>uD I hg hm ⟨v,H,I,r,h⟩ hd
theorem G7{x:Str}{v:V}{u:Value}{pos:Pos}(hg:Gl X x)(hm:X.mg x=none)(hv:bootBuiltins x=some u)(r:cr v u)(hn:x ≠ "__name__":=by decide)(hd:(x==("__debug__":Str))=false:=by decide):PE X (.Name x pos) (tC v):=
 fun _ _ _ H _ I h=>kA I hg hm hv ⟨v,H,I,r,h⟩ hn hd
variable{a b:Expr}{ta tb:TE}{pos:Pos}
def PC(X:Cx)(op:CmpOp)(a b:Expr)(t:TE):Prop:=
 ∀(pins:List (Addr×Obj)) (s:Shared) (σ:St) (H:Hp) (Q:VK),bE X pins σ H s->t σ H Q ->
  wpAny (model X.prog X.w) X.A (eval a X.env) (fun v s₁=>wpAny (model X.prog X.w) X.A (eval b X.env) (fun u s₂=>wpAny (model X.prog X.w) X.A (compareOp op v u) (EP X pins σ Q) X.xe s₂) X.xe s₁) X.xe s
theorem ww(b:Expr){op:CmpOp}(h:op≠.In)(h2:op≠.NotIn):behindInMarks op b=false:=by
 have e1:(op==CmpOp.In)=false:=by cases op<;>first|rfl|exact absurd rfl h
 have e2:(op==CmpOp.NotIn)=false:=by cases op<;>first|rfl|exact absurd rfl h2
 cases b<;>simp[behindInMarks,e1,e2]
def Ot(ta:TE):TE:=fun σ H Q=>ta σ H fun x H1=>Q (.bl (decide (x=.non))) H1
def Jk(ta:TE):TE:=fun σ H Q=>ta σ H fun x H1=>Q (.bl (!decide (x=.non))) H1
theorem cr.none_iff{x:V}{v:Value}(r:cr x v):(v==Value.none)=decide (x=.non):=by
 cases x with
 |non=>cases r;rfl
 |bl _=>cases r;rfl
 |int _=>obtain⟨t,rfl⟩:=r;rfl
 |str _=>obtain⟨t,rfl⟩:=r;rfl
 |byt _=>obtain⟨t,rfl⟩:=r;rfl
 |flt _=>obtain⟨t,rfl⟩:=r;rfl
 |ref _=>cases r;rfl
 |ty _=>cases r;rfl
theorem CU{j iu}(ha:PE X a ta):PC X .Is a (.Constant .none j iu) (Ot ta):=by
 intro pins s σ H Q I h
 refine fY (ha pins s σ H _ I h) fun v s1 ⟨x,H1,I1,r1,q1⟩=>?_
 exact nG (is_none_gen ⟨.bl _,H1,I1,by rw[r1.none_iff];rfl,q1⟩)
theorem G8{j iu}(ha:PE X a ta):PC X .IsNot a (.Constant .none j iu) (Jk ta):=by
 intro pins s σ H Q I h
 refine fY (ha pins s σ H _ I h) fun v s1 ⟨x,H1,I1,r1,q1⟩=>?_
 exact nG (isnot_none_gen ⟨.bl _,H1,I1,by rw[r1.none_iff];rfl,q1⟩)
def tB(t:TE):TT:=fun σ H Q=>t σ H fun x H1=>∃c,x=.bl c/\Q c H1
theorem KY{op:CmpOp}{t:TE}(h:PC X op a b t)(h1:behindInMarks op b=false:=by first|exact ww _ (by decide) (by decide)|rfl):PE X (.Compare a [op] [b] pos) t:=fun pins s σ H Q I hw=>wpAny_Compare1 (h pins s σ H Q I hw) h1
theorem CV{op:CmpOp}{t:TE}(h:PC X op a b t)(h1:behindInMarks op b=false:=by first|exact ww _ (by decide) (by decide)|rfl):PT X (.Compare a [op] [b] pos) (tB t):=by
 intro pins s σ H Q I hw
 refine mn (fY (h pins s σ H _ I hw) fun v s1 h1=>fY h1 fun u s2 h2=>fY h2 fun c s3 ⟨x,H1,I1,r1,q1⟩=>?_) h1
 obtain⟨d,rfl,q⟩:=q1
 cases r1
 exact eB ⟨H1,I1,q⟩
theorem KZ{e:Expr}{t:TE}(h:PE X e t)(he:∀sE,isTrue e X.env sE=(do let v <- sE;standAt e.pos;holding [v] (truthy v)):=by intro _;rfl):PT X e (tB t):=by
 intro pins s σ H Q I hw
 refine isTrue_plain (fY (h pins s σ H _ I hw) fun v s1 ⟨x,H1,I1,r1,q1⟩=>?_) (he _)
 obtain⟨d,rfl,q⟩:=q1
 cases r1
 exact eB ⟨H1,I1,q⟩
variable{tA Q9:TT}{d7:List Expr}
def RJ(t u:TT):TT:=fun σ H Q=>t σ H fun c H1=>if c=true then u σ H1 Q else Q false H1
def Td(t u:TT):TT:=fun σ H Q=>t σ H fun c H1=>if c=true then Q true H1 else u σ H1 Q
def RL(t:TT):TT:=fun σ H Q=>t σ H fun c H1=>Q (!c) H1
theorem G9(ha:PT X a tA):PW X (.BoolOp .And [a] pos) tA:=by
 intro wh pins s σ H Q I h
 refine isTrue_and (fY (ha pins s σ H Q I h) fun c s1 e=>?_)
 cases c with
 |true=>exact isTrue_and_nil e
 |false=>exact e
theorem K0(ha:PT X a tA):PW X (.BoolOp .Or [a] pos) tA:=by
 intro wh pins s σ H Q I h
 refine isTrue_or (fY (ha pins s σ H Q I h) fun c s1 e=>?_)
 cases c with
 |false=>exact isTrue_or_nil e
 |true=>exact e
theorem K1(ha:PT X a tA)(hb:PW X (.BoolOp .And (b::d7) pos) Q9):PW X (.BoolOp .And (a::b::d7) pos) (RJ tA Q9):=by
 intro wh pins s σ H Q I h
 refine isTrue_and (fY (ha pins s σ H _ I h) fun c s1 ⟨H1,I1,q1⟩=>?_)
 cases c with
 |true=>exact hb wh pins s1 σ H1 Q I1 q1
 |false=>exact⟨H1,I1,q1⟩
theorem Ou(ha:PT X a tA)(hb:PW X (.BoolOp .Or (b::d7) pos) Q9):PW X (.BoolOp .Or (a::b::d7) pos) (Td tA Q9):=by
 intro wh pins s σ H Q I h
 refine isTrue_or (fY (ha pins s σ H _ I h) fun c s1 ⟨H1,I1,q1⟩=>?_)
 cases c with
 |true=>exact⟨H1,I1,q1⟩
 |false=>exact hb wh pins s1 σ H1 Q I1 q1
theorem K2(ha:PT X a tA):PT X (.UnaryOp .Not a pos) (RL tA):=by
 intro pins s σ H Q I h
 exact isTrue_not (ha pins s σ H (fun c H1=>Q (!c) H1) I h)
def Ov(ta tb:TE):TE:=fun σ H Q=>ta σ H fun x H1=>∃c,x=.bl c/\if c=true then tb σ H1 Q else Q (.bl false) H1
def RM(ta tb:TE):TE:=fun σ H Q=>ta σ H fun x H1=>∃c,x=.bl c/\if c=true then Q (.bl true) H1 else tb σ H1 Q
def Ow(ta:TE):TE:=fun σ H Q=>ta σ H fun x H1=>∃c,x=.bl c/\Q (.bl (!c)) H1
theorem K3{op}{t:TE}(h:PE X a t):PE X (.BoolOp op [a] pos) t:=fun pins s σ H Q I hw=>BoolOp_one (h pins s σ H Q I hw)
theorem K4(ha:PE X a ta)(hb:PE X (.BoolOp .And (b::d7) pos) tb):PE X (.BoolOp .And (a::b::d7) pos) (Ov ta tb):=by
 intro pins s σ H Q I h
 refine BoolOp_and (fY (ha pins s σ H _ I h) fun v s1 ⟨x,H1,I1,r1,q1⟩=>?_)
 obtain⟨c,rfl,q1⟩:=q1
 cases r1
 refine eB ?_
 cases c with
 |true=>exact hb pins s1 σ H1 Q I1 q1
 |false=>exact⟨.bl false,H1,I1,rfl,q1⟩
theorem Ox(ha:PE X a ta)(hb:PE X (.BoolOp .Or (b::d7) pos) tb):PE X (.BoolOp .Or (a::b::d7) pos) (RM ta tb):=by
 intro pins s σ H Q I h
 refine BoolOp_or (fY (ha pins s σ H _ I h) fun v s1 ⟨x,H1,I1,r1,q1⟩=>?_)
 obtain⟨c,rfl,q1⟩:=q1
 cases r1
 refine eB ?_
 cases c with
 |false=>exact hb pins s1 σ H1 Q I1 q1
 |true=>exact⟨.bl true,H1,I1,rfl,q1⟩
theorem K5(ha:PE X a ta):PE X (.UnaryOp .Not a pos) (Ow ta):=by
 intro pins s σ H Q I h
 refine UnaryOp_ (fY (ha pins s σ H _ I h) fun v s1 ⟨x,H1,I1,r1,q1⟩=>?_)
 obtain⟨c,rfl,q1⟩:=q1
 cases r1
 exact not_of (eB ⟨.bl (!c),H1,I1,rfl,q1⟩)
def Te(t:TT)(ta tb:TE):TE:=fun σ H Q=>t σ H fun c H1=>if c=true then ta σ H1 Q else tb σ H1 Q
theorem CW{c:Expr}(hc:PT X c tA)(ha:PE X a ta)(hb:PE X b tb):PE X (.IfExp c a b pos) (Te tA ta tb):=by
 intro pins s σ H Q I h
 refine wpAny_IfExp (fY (hc pins s σ H _ I h) fun d s1 ⟨H1,I1,q1⟩=>?_)
 cases d with
 |true=>exact ha pins s1 σ H1 Q I1 q1
 |false=>exact hb pins s1 σ H1 Q I1 q1
end
def pL(K:Frag)(H:Hp)(a:Addr)(xs:List V):Prop:=
 Rd H a (.lst xs) \/
  ∃(o:Obj) (bC:Array Value) (n:Nat),K.lookup a=some o/\o.cls=.type "list"/\o.dict=none/\o.data=.seq bC n/\bC.size<=sizeLine/\cJ xs bC.toList
def fg(K:Frag)(H:Hp)(a:Addr)(xs:List V):Prop:=
 Rd H a (.tup xs) \/
  ∃(o:Obj) (bC:Array Value) (n:Nat),K.lookup a=some o/\o.cls=.type "tuple"/\o.data=.seq bC n/\bC.size<=sizeLine/\cJ xs bC.toList
def RN:Value->Option V
 |.none=>some .non
 |.bool b=>some (.bl b)
 |.int i _=>some (.int i)
 |.str x _=>some (.str x)
 |.bytes b _=>some (.byt b)
 |.float b _=>some (.flt b)
 |.ref a=>some (.ref a)
 |.type n=>some (.ty n)
 |_=>none
theorem cr.abs{x:V}{u:Value}(r:cr x u):RN u=some x:=by
 cases x with
 |non=>cases r;rfl
 |bl _=>cases r;rfl
 |int _=>obtain⟨t,rfl⟩:=r;rfl
 |str _=>obtain⟨t,rfl⟩:=r;rfl
 |byt _=>obtain⟨t,rfl⟩:=r;rfl
 |flt _=>obtain⟨t,rfl⟩:=r;rfl
 |ref _=>cases r;rfl
 |ty _=>cases r;rfl
theorem cr.inj{x y:V}{u:Value}(r:cr x u)(q:cr y u):x=y:=a_ (r.abs.symm.trans q.abs)
theorem cJ.inj:∀{xs ys:List V} {us:List Value},cJ xs us->cJ ys us->xs=ys
 |_,_,_,.nil,.nil=>rfl
 |_,_,_,.cons r t,.cons r' t'=>by rw[r.inj r',cJ.inj t t']
section
variable{X:Cx}{pins:List (Addr×Obj)}{σ:St}{H:Hp}{s:Shared}{a:Addr}{xs ys:List V}
theorem pL.of{K:Frag}(h:H a=some (.lst xs)):pL K H a xs:=.inl (.inl h)
theorem fg.of{K:Frag}(h:H a=some (.tup xs)):fg K H a xs:=.inl (.inl h)
theorem bE.list(I:bE X pins σ H s)(h:pL X.K H a xs):∃bC:List Value,cJ xs bC/\PlainL s.heap a bC.toArray/\xs.length<=sizeLine:=by
 rcases h with h|⟨o,bC,n,hk,hc,hd,hs,hz,r⟩
 ·obtain⟨z,bC,n,r,e⟩:=h.ok I.hok
  exact⟨bC,r,⟨_,n,e,rfl,rfl,rfl⟩,z⟩
 ·refine⟨bC.toList,r,⟨o,n,I.kIn a o hk,hc,hd,by simpa using hs⟩,?_⟩
  have e:=r.length
  simp only[fN]at e
  omega
theorem bE.tuple(I:bE X pins σ H s)(h:fg X.K H a xs):∃bC:List Value,cJ xs bC/\IsTup s.heap a bC.toArray/\xs.length<=sizeLine:=by
 rcases h with h|⟨o,bC,n,hk,hc,hs,hz,r⟩
 ·obtain⟨z,bC,r,p⟩:=h.ok I.hok
  exact⟨bC,r,p,z⟩
 ·refine⟨bC.toList,r,⟨o,I.kIn a o hk,hc,n,by simpa using hs⟩,?_⟩
  have e:=r.length
  simp only[fN]at e
  omega
theorem bE.list_inj(I:bE X pins σ H s)(h:pL X.K H a xs)(h':pL X.K H a ys):xs=ys:=by
 obtain⟨bC,r,⟨o,n,e,_,_,d⟩,_⟩:=I.list h
 obtain⟨its',r',⟨o',n',e',_,_,d'⟩,_⟩:=I.list h'
 rw[e]at e';cases e'
 rw[d]at d'
 injection d' with d1 _
 have:bC=its':=by simpa using fP Array.toList d1
 subst this
 exact r.inj r'
theorem bE.tuple_inj(I:bE X pins σ H s)(h:fg X.K H a xs)(h':fg X.K H a ys):xs=ys:=by
 obtain⟨bC,r,⟨o,e,_,n,d⟩,_⟩:=I.tuple h
 obtain⟨its',r',⟨o',e',_,n',d'⟩,_⟩:=I.tuple h'
 rw[e]at e';cases e'
 rw[d]at d'
 injection d' with d1 _
 have:bC=its':=by simpa using fP Array.toList d1
 subst this
 exact r.inj r'
end
section
variable{X:Cx}{pins:List (Addr×Obj)}{σ:St}{H:Hp}{s:Shared}{E:Value->Shared->Prop}
end
section
variable{X:Cx}{st:Stmt}{d7:List Stmt}{t u:TS}{e:Expr}{te:TE}{pos:Pos}
def Oy:TS:=fun D σ H=>D.nx σ H
def RO(t u:TS):TS:=fun D σ H=>t { D with nx:=u D } σ H
theorem G_:Bt X [] Oy:=fun _ _ σ H _ I h=>jc ⟨σ,H,I,h⟩
theorem CY(h1:PS X st t)(h2:Bt X d7 u):Bt X (st::d7) (RO t u):=by
 intro pins s σ H D I h
 refine wpAny_execs_cons (fY (h1 pins s σ H { D with nx:=u D } I h) fun f s1 q=>?_)
 cases f with
 |next=>
  obtain⟨σ',H',I',q⟩:=q
  exact h2 pins s1 σ' H' D I' q
 |ret v=>exact q
 |brk=>exact q
 |cont=>exact q
theorem Ha(h1:PS X st t):Bt X [st] t:=by
 intro pins s σ H D I h
 refine wpAny_execs_cons (fY (h1 pins s σ H D I h) fun f s1 q=>?_)
 cases f with
 |next=>exact jc q
 |ret v=>exact q
 |brk=>exact q
 |cont=>exact q
def K6:TS:=fun D σ H=>D.bk σ H
theorem CZ:PS X (.Break pos) K6:=fun _ _ σ H _ I h=>wpAny_Break ⟨σ,H,I,h⟩
theorem bE.quiet{pins:List (Addr×Obj)}{σ:St}{H:Hp}{s:Shared}(I:bE X pins σ H s):interactive X.env=false:=by simp[interactive,I.ok.kind]
def Oz(te:TE):TS:=fun D σ H=>te σ H fun _ H1=>D.nx σ H1
theorem Hb(he:PE X e te)(hs:swapsWith e none pos.line X.env=pure false:=by rfl):PS X (.Expr e pos) (Oz te):=by
 intro pins s σ H D I h
 exact wpAny_Expr_any (fY (he pins s σ H _ I h) fun v s1 ⟨x,H1,I1,r1,q1⟩=>⟨σ,H1,I1,q1⟩) I.quiet hs
def RP(te:TE):TS:=fun D σ H=>te σ H D.rt
theorem K7(he:PE X e te):PS X (.Return (some e) pos) (RP te):=by
 intro pins s σ H D I h
 exact wpAny_Return_some (fY (he pins s σ H _ I h) fun v s1 ⟨x,H1,I1,r1,q1⟩=>⟨x,σ,H1,I1,r1,q1⟩)
def RQ(c:TT)(t u:TS):TS:=fun D σ H=>c σ H fun b H1=>if b=true then t D σ H1 else u D σ H1
theorem OA{c:Expr}{a b:List Stmt}{tc:TT}(hc:PT X c tc)(ha:Bt X a t)(hb:Bt X b u):PS X (.If c a b pos) (RQ tc t u):=by
 intro pins s σ H D I h
 refine wpAny_If (fY (hc pins s σ H _ I h) fun d s1 ⟨H1,I1,q1⟩=>?_)
 cases d with
 |true=>exact ha pins s1 σ H1 D I1 q1
 |false=>exact hb pins s1 σ H1 D I1 q1
end
abbrev TG:=V->St->Hp->(St->Hp->Prop)->Prop
abbrev Hc:=List V->St->Hp->(St->Hp->Prop)->Prop
def PG(X:Cx)(N9:Expr)(t:TG):Prop:=
 ∀(pins:List (Addr×Obj)) (s:Shared) (σ:St) (H:Hp) (v:V) (u:Value) (Q:St->Hp->Prop),bE X pins σ H s->cr v u->t v σ H Q ->
  wpAny (model X.prog X.w) X.A (assign N9 X.env u) (fun _ s'=>∃σ' H',bE X pins σ' H' s'/\Q σ' H') X.xe s
def Jl(X:Cx)(ts:List Expr)(t:Hc):Prop:=
 ∀(pins:List (Addr×Obj)) (s:Shared) (σ:St) (H:Hp) (vs:List V) (us:List Value) (Q:St->Hp->Prop),bE X pins σ H s->cJ vs us->t vs σ H Q ->
  wpAny (model X.prog X.w) X.A (assignInOrder ((assignEach ts X.env).map (·.2)) us) (fun _ s'=>∃σ' H',bE X pins σ' H' s'/\Q σ' H') X.xe s
abbrev Hd:=V->V->V->Hp->(Hp->Prop)->Prop
def Bu(X:Cx)(t:Hd):Prop:=
 ∀(pins:List (Addr×Obj)) (s:Shared) (σ:St) (H:Hp) (o i v:V) (ov iv u:Value) (Q:Hp->Prop),bE X pins σ H s->cr o ov->cr i iv->cr v u->t o i v H Q ->
  wpAny (model X.prog X.w) X.A (setItem ov iv u) (fun _ s'=>∃H',bE X pins σ H' s'/\Q H') X.xe s
section
variable{X:Cx}{pos:Pos}
def Jm(i:Nat):TG:=fun v σ H Q=>Q (σ.set i (some v)) H
theorem He{i:Nat}{x:Str}(hN:X.N.Nodup)(hi:X.N[i]?=some x)(hx:G5 X.env.scope x)(hf:X.fn x=true\/X.env.scope.names.lookup x=some .local:=by first|exact .inl rfl|exact .inr rfl|assumption):PG X (.Name x pos) (Jm i):=by
 intro pins s σ H v u Q I r h
 exact wpAny_assign_Name (wu I hN hi hx r (fun s' I'=>⟨_,H,I',h⟩) hf)
def RT:Hc:=fun vs σ H Q=>vs=[]/\Q σ H
def OB(t:TG)(u:Hc):Hc:=fun vs σ H Q=>∃v r,vs=v::r/\t v σ H fun σ' H'=>u r σ' H' Q
theorem Hf:Jl X [] RT:=by
 intro pins s σ H vs us Q I r h
 obtain⟨e,h⟩:=h
 subst e
 cases r
 exact assignInOrder_nil ⟨σ,H,I,h⟩
theorem C0{e:Expr}{es:List Expr}{t:TG}{u:Hc}(h1:PG X e t)(h2:Jl X es u)
  (hs:(assignEach (e::es) X.env).map (·.2)=assign e X.env::(assignEach es X.env).map (·.2):=by rfl):Jl X (e::es) (OB t u):=by
 intro pins s σ H vs us Q I r h
 obtain⟨v,vr,e1,h⟩:=h
 subst e1
 cases r with
 |cons r rr=>
  rw[hs]
  refine assignInOrder_cons (fY (h1 pins s σ H _ _ _ I r h) fun _ s1 ⟨σ1,H1,I1,q1⟩=>?_)
  exact h2 pins s1 σ1 H1 _ _ Q I1 rr q1
def RU(K:Frag)(n:Nat)(t:Hc):TG:=fun v σ H Q=>∃a xs,v=.ref a/\fg K H a xs/\xs.length=n/\t xs σ H Q
theorem K8{es:List Expr}{k:Nat}{t:Hc}{n:Nat}(hc:X.calm=true)(h:Jl X es t)
  (hn:(assignEach es X.env).length=n:=by rfl) (p9:(assignEach es X.env).findIdx? (·.1)=none:=by rfl):PG X (.Tuple es k pos) (RU X.K n t):=by
 intro pins s σ H v u Q I r hw
 obtain⟨a,xs,e1,hq,hl,hw⟩:=hw
 subst e1
 cases r
 obtain⟨bC,rv,ht,hz⟩:=I.tuple hq
 refine assign_Tuple_tuple (I.ok.hd hc) ht (by simp[hn,<- hl,rv.length]) p9 fun h' hx=>?_
 have I1:bE X pins σ H { s with heap:=h' }:=I.kept (t':=s.toks) fun b o e=>hx b o (bd (aG e)) e
 exact h pins _ σ H xs _ Q I1 (by simpa using rv) hw
def RV(to ti:TE)(t:Hd):TG:=fun v σ H Q=>to σ H fun o H1=>ti σ H1 fun i H2=>t o i v H2 fun H3=>Q σ H3
theorem K9{o i:Expr}{to ti:TE}{t:Hd}(ho:PE X o to)(hi:PE X i ti)(hs:Bu X t)
  (ha:∀v,assign (.Subscript o i pos) X.env v=(do
   let ov <- holding [v] (eval o X.env)
   let iv <- holding [v,ov] (eval i X.env)
   standAt pos
   holding [v,ov,iv] (setItem ov iv v)
   release [v,ov,iv] []):=by intro _;rfl):PG X (.Subscript o i pos) (RV to ti t):=by
 intro pins s σ H v u Q I r h
 rw[ha]
 refine ag (d8 (fY (ho pins s σ H _ I h) fun ov s1 ⟨x,H1,I1,r1,q1⟩=>?_))
 refine ag (d8 (fY (hi pins s1 σ H1 _ I1 q1) fun iv s2 ⟨y,H2,I2,r2,q2⟩=>?_))
 refine ag (iT (ag (d8 (fY (hs pins s2 σ H2 x y v ov iv u _ I2 r1 r2 r q2) fun _ s3 ⟨H3,I3,q3⟩=>?_))))
 exact wpAny_release ⟨σ,H3,I3,q3⟩
def C1(te:TE)(g:TG):TS:=fun D σ H=>te σ H fun x H1=>g x σ H1 D.nx
theorem C2{tg e:Expr}{te:TE}{g:TG}(he:PE X e te)(hg:PG X tg g)(hs:swapsWithSole [tg] e pos.line X.env=pure false:=by rfl)(hw:swappedStores [tg] e X.env=pure none:=by rfl)
  (h1:(assignEach [tg] X.env).map (·.2)=[assign tg X.env]:=by rfl):PS X (.Assign [tg] e pos) (C1 te g):=by
 intro pins s σ H D I h
 refine wpAny_Assign_stores (fY (he pins s σ H _ I h) fun v s1 ⟨x,H1,I1,r1,q1⟩=>?_) hs hw
 rw[h1]
 exact fY (hg pins s1 σ H1 x v _ I1 r1 q1) fun _ s2 q=>q
theorem K_{i:Nat}{x:Str}{e:Expr}{te:TE}{iu:Pos}(hN:X.N.Nodup)(hi:X.N[i]?=some x)(hx:G5 X.env.scope x)(he:PE X e te)(hs:swapsWith e (some (.Name x iu)) pos.line X.env=pure false:=by rfl)(hf:X.fn x=true\/X.env.scope.names.lookup x=some .local:=by first|exact .inl rfl|exact .inr rfl|assumption) :
  PS X (.Assign [.Name x iu] e pos) (C1 te (Jm i)):=by
 intro pins s σ H D I h
 refine wpAny_Assign_Name (fY (he pins s σ H _ I h) fun v s1 ⟨y,H1,I1,r1,q1⟩=>?_) hs
 exact wu I1 hN hi hx r1 (fun s2 I2=>⟨_,H1,I2,q1⟩) hf
end
section
variable{X:Cx}{pos:Pos}
def C3(c:TT)(tb:TS):TS:=fun D σ H=>∃W:Nat->St->Hp->Prop,(∃m,W m σ H)/\∀m σ H,W m σ H ->
 c σ H fun b H1=>if b=true then ∃N:St->Hp->Prop,(∀σ' H',N σ' H'->∃m',m'<m/\W m' σ' H')/\tb { D with nx:=N,ct:=N,bk:=D.nx } σ H1 else D.nx σ H1
theorem C4{c:Expr}{body:List Stmt}{tc:TT}{tb:TS}(hp:PassesOwn (model X.prog X.w) X.A X.env X.xe)(hc:PT X c tc)(hb:Bt X body tb):PS X (.While c body [] pos) (C3 tc tb):=by
 intro pins s σ H D I h
 obtain⟨W,⟨m0,w0⟩,turn⟩:=h
 refine wpAny_While (codeAny_whileLoop (fun n s'=>∃σ' H',bE X pins σ' H' s'/\W n σ' H') ?_ m0 ⟨σ,H,I,w0⟩)
 rintro n s1 ⟨σ1,H1,I1,w1⟩
 refine fy hp (fY (hc pins s1 σ1 H1 _ I1 (turn n σ1 H1 w1)) fun b s2 ⟨H2,I2,q2⟩=>?_)
 cases b with
 |true=>
  obtain⟨N,hN,q2⟩:=q2
  rw[aD rfl]
  refine fy hp (fY (hb pins s2 σ1 H2 _ I2 q2) fun f s3 q3=>?_)
  cases f with
  |next=>
   obtain⟨σ3,H3,I3,n3⟩:=q3
   obtain⟨m',hm,w3⟩:=hN σ3 H3 n3
   exact⟨m',hm,σ3,H3,I3,w3⟩
  |cont=>
   obtain⟨σ3,H3,I3,n3⟩:=q3
   obtain⟨m',hm,w3⟩:=hN σ3 H3 n3
   exact⟨m',hm,σ3,H3,I3,w3⟩
  |brk=>exact q3
  |ret v=>exact q3
 |false=>
  rw[aQ dZ]
  exact jc ⟨σ1,H2,I2,q2⟩
end
structure It where
 go:Nat->Hp->Prop
 yld:Nat->Hp->V->Hp->Prop
 stop:Nat->Hp->Prop
def my(X:Cx)(pins:List (Addr×Obj))(H:Hp)(b:Addr):Prop:=
 H b=none/\b≠X.env.locals/\b∉X.fs/\(b∈X.ex\/X.s₀.heap.objs.size<=b)/\(∀x c,X.env.cells.lookup x=some c->c≠b)/\∀p∈X.pn++pins,p.1≠b
theorem bE.fpOk{X:Cx}{pins:List (Addr×Obj)}{σ:St}{H H':Hp}{s:Shared}{b:Addr}(I:bE X pins σ H s)(hb:s.heap.objs.size<=b)(hn:H' b=none):my X pins H' b:=by
 refine⟨hn,iw (aX I.lt hb),I.nofs hb,.inr (bn I.sz hb),fun x c e z=>?_,fun p hp z=>?_⟩
 ·obtain⟨v,q⟩:=I.cell x c e
  exact absurd (aX q.lt (by rw[z];exact hb)) (bD _)
 ·exact absurd (aX (aG (I.pin p hp).1) (by rw[z];exact hb)) (bD _)
structure yJ(P:Program)(w:World)(K:Frag)(tg:Expr)(J:It)(fp:List Addr)(it:Addr)(tn:Nat->Heap->Prop):Prop where
 mem:it∈fp
 obj:∀i h,tn i h->∀b∈fp,∃o,h.get? b=some o/\∀v,o.data≠.cell v
 keep:∀i h h',tn i h->(∀b∈fp,∀o,h.get? b=some o->h'.get? b=some o)->tn i h'
 item:∀(X:Cx),X.prog=P->X.w=w->X.K=K->X.calm=true->∀(i:Nat) (pins:List (Addr×Obj)) (s:Shared) (σ:St) (H:Hp) (E:Value->Shared->Prop),bE X pins σ H s->(∀b∈fp,my X pins H b)->tn i s.heap->J.go i H ->
  wpAny (model P w) X.A (pyNext (.ref it)) (fun r s1=>∃u,r=some u /\
   wpAny (model P w) X.A (letOwnedTupleGo tg (.ref it) u) (fun _ s2=>∃x H',bE X pins σ H' s2/\cr x u/\J.yld i H x H'/\tn (i+1) s2.heap/\∀b∈fp,H' b=none) E s1) E s
 done:∀(X:Cx),X.prog=P->X.w=w->X.K=K->X.calm=true->∀(i:Nat) (pins:List (Addr×Obj)) (s:Shared) (σ:St) (H:Hp) (E:Value->Shared->Prop),bE X pins σ H s->(∀b∈fp,my X pins H b)->tn i s.heap->J.stop i H ->
  wpAny (model P w) X.A (pyNext (.ref it)) (fun r s1=>r=none/\bE X pins σ H s1) E s
 self:∀(A:Around) (i:Nat) (s:Shared) (Q:Value->Shared->Prop) (E:Value->Shared->Prop),tn i s.heap->Q (.ref it) s->wpAny (model P w) A (pyIter (.ref it)) Q E s
abbrev TI:=St->Hp->(It->Hp->Prop)->Prop
def RW(X:Cx)(pins:List (Addr×Obj))(σ:St)(tg:Expr)(R:It->Hp->Prop)(RF:Value)(s2:Shared):Prop:=
 ∃(it:Addr) (fp:List Addr) (tn:Nat->Heap->Prop) (J:It) (H':Hp),RF=.ref it/\bE X pins σ H' s2/\yJ X.prog X.w X.K tg J fp it tn/\tn 0 s2.heap/\(∀b∈fp,my X pins H' b)/\R J H'
def PI(X:Cx)(tg iter:Expr)(wi:TI):Prop:=
 ∀(pins:List (Addr×Obj)) (s:Shared) (σ:St) (H:Hp) (R:It->Hp->Prop),bE X pins σ H s->wi σ H R ->
  wpAny (model X.prog X.w) X.A (eval iter X.env) (fun v s1=>wpAny (model X.prog X.w) X.A (pyIter v) (RW X pins σ tg R) X.xe s1) X.xe s
theorem Au    {M : Model} {A : Around} {E : Value -> Shared -> Prop} {s : Shared} {tg : Expr} {it : Addr} {u : Value} {o : Obj} {n : String} {vs : Array Value} {Q : Unit -> Shared -> Prop} (ho : s.heap.get? it = some o) (hc : o.cls = .type n) (hd : o.data = .fields vs)
    (hn : ["enumerate", "zip", "dict_itemiterator", "dict_reverseitemiterator", "odict_iterator", "itertools.zip_longest", "itertools.pairwise"].contains n = false) (hQ : Q () s) : wpAny M A (letOwnedTupleGo tg (.ref it) u) Q E s := by
  unfold letOwnedTupleGo
  cases tg <;> first
    | exact aI         hQ
    | (cases u <;> first
        | exact aI         hQ
        | (refine ag         (wpAny_load ho ?_)
           rw [hc, hd]
           show wpAny M A (if (["enumerate", "zip", "dict_itemiterator", "dict_reverseitemiterator", "odict_iterator", "itertools.zip_longest", "itertools.pairwise"].contains n && vs[0]? == some (rawInt _)) = true then _ else _) Q E s
           rw [aQ     (by intro h; rw [hn, Bool.false_and] at h; cases h)]
           exact aI         hQ))
def SV(K:Frag)(a:Addr):It:=
 ⟨fun i H=>∃xs x,pL K H a xs/\xs[i]?=some x,fun i H x H'=>H'=H/\∀xs,pL K H a xs->xs[i]?=some x,fun i H=>∃xs,pL K H a xs/\xs.length<=i⟩
def SX(K:Frag)(a:Addr):It:=
 ⟨fun i H=>∃xs x,fg K H a xs/\xs[i]?=some x,fun i H x H'=>H'=H/\∀xs,fg K H a xs->xs[i]?=some x,fun i H=>∃xs,fg K H a xs/\xs.length<=i⟩
def OC(lo:Int)(n:Nat):It:=⟨fun i _=>i<n,fun i H x H'=>H'=H/\x=.int (lo+i),fun i _=>n<=i⟩
theorem Bv{P:Program}{w:World}{K:Frag}{tg:Expr}(a it:Addr):yJ P w K tg (SV K a) [it] it (fun i h=>h.IsListIter it a i) where
 mem:=by simp
 obj:=fun i h st b hb=>by
  have e:b=it:=by simpa using hb
  subst e
  obtain⟨o,e,c,d⟩:=st
  exact⟨o,e,fun v z=>by rw[d]at z;cases z⟩
 keep:=fun i h h' st k=>st.at fun o e=>k it (by simp) o e
 item:=by
  intro X hP hw hK hc i pins s σ H E I hf st hg
  subst hP hw hK
  obtain⟨xs,x,hq,hx⟩:=hg
  obtain⟨bC,rv,p,hz⟩:=I.list hq
  obtain⟨u,hu,ru⟩:=rv.get hx
  obtain⟨f0,f1,f2,f3,f4,f5⟩:=hf it (by simp)
  refine wpAny_pyNext_list_item st p.isList (x:=u) (by simpa using hu) fun h' bH sb=>?_
  have I1:bE X pins σ H { s with heap:=h' }:=I.turned (t':=s.toks) (fun b o hb e=>(sb.2 b hb).trans e) f0 f1 f3 f4 f5
  obtain⟨o,e,c,d⟩:=id bH
  exact⟨u,rfl,Au (s:={ s with heap:=h' }) e c d (by decide) ⟨x,H,I1,ru,⟨rfl,fun ys hy=>by rw[I.list_inj hy hq];exact hx⟩,bH,fun b hb=>(hf b hb).1⟩⟩
 done:=by
  intro X hP hw hK hc i pins s σ H E I hf st hg
  subst hP hw hK
  obtain⟨xs,hq,hx⟩:=hg
  obtain⟨bC,rv,p,hz⟩:=I.list hq
  obtain⟨f0,f1,f2,f3,f4,f5⟩:=hf it (by simp)
  have hl:=rv.length
  exact wpAny_pyNext_list_end (I.ok.hd hc) st p.isList (by simp;omega) fun h' eb=>⟨rfl,I.turned (t':=s.toks) (fun b o hb e=>eb b o hb e) f0 f1 f3 f4 f5⟩
 self:=fun _ _ _ _ _ st h=>wpAny_pyIter_listiter st h
theorem yK{P:Program}{w:World}{K:Frag}{tg:Expr}(a it:Addr):yJ P w K tg (SX K a) [it] it (fun i h=>h.IsTupleIter it a i) where
 mem:=by simp
 obj:=fun i h st b hb=>by
  have e:b=it:=by simpa using hb
  subst e
  obtain⟨o,e,c,d⟩:=st
  exact⟨o,e,fun v z=>by rw[d]at z;cases z⟩
 keep:=fun i h h' st k=>st.at fun o e=>k it (by simp) o e
 item:=by
  intro X hP hw hK hc i pins s σ H E I hf st hg
  subst hP hw hK
  obtain⟨xs,x,hq,hx⟩:=hg
  obtain⟨bC,rv,p,hz⟩:=I.tuple hq
  obtain⟨u,hu,ru⟩:=rv.get hx
  obtain⟨f0,f1,f2,f3,f4,f5⟩:=hf it (by simp)
  refine wpAny_pyNext_tuple_item st (show s.heap.IsTuple a bC.toArray from p) (x:=u) (by simpa using hu) fun h' bH sb=>?_
  have I1:bE X pins σ H { s with heap:=h' }:=I.turned (t':=s.toks) (fun b o hb e=>(sb.2 b hb).trans e) f0 f1 f3 f4 f5
  obtain⟨o,e,c,d⟩:=id bH
  exact⟨u,rfl,Au (s:={ s with heap:=h' }) e c d (by decide) ⟨x,H,I1,ru,⟨rfl,fun ys hy=>by rw[I.tuple_inj hy hq];exact hx⟩,bH,fun b hb=>(hf b hb).1⟩⟩
 done:=by
  intro X hP hw hK hc i pins s σ H E I hf st hg
  subst hP hw hK
  obtain⟨xs,hq,hx⟩:=hg
  obtain⟨bC,rv,p,hz⟩:=I.tuple hq
  obtain⟨f0,f1,f2,f3,f4,f5⟩:=hf it (by simp)
  have hl:=rv.length
  exact wpAny_pyNext_tuple_end (I.ok.hd hc) st (show s.heap.IsTuple a bC.toArray from p) (by simp;omega) fun h' eb=>⟨rfl,I.turned (t':=s.toks) (fun b o hb e=>eb b o hb e) f0 f1 f3 f4 f5⟩
 self:=fun _ _ _ _ _ st h=>wpAny_pyIter_tupleiter st h
theorem yL{P:Program}{w:World}{K:Frag}{tg:Expr}(it:Addr)(lo:Int)(n:Nat):yJ P w K tg (OC lo n) [it] it (fun i h=>IsRangeIter h it (lo+(i:Nat)*1) ((n:Int)-(i:Nat)) 1) where
 mem:=by simp
 obj:=fun i h st b hb=>by
  have e:b=it:=by simpa using hb
  subst e
  exact⟨_,st,fun v z=>by
   have z':Data.fields _=Data.cell v:=z
   cases z'⟩
 keep:=fun i h h' st k=>k it (by simp) _ st
 item:=by
  intro X hP hw hK hc i pins s σ H E I hf st hg
  subst hP hw hK
  obtain⟨f0,f1,f2,f3,f4,f5⟩:=hf it (by simp)
  have W:=Walks.range (prog:=X.prog) (w:=X.w) (I.ok.hd hc) it lo 1 n
  refine W.item i s _ _ hg st fun v h' tk hv bH kk=>?_
  obtain⟨t,rfl⟩:=hv
  have I1:bE X pins σ H { s with heap:=h',toks:=tk }:=I.turned (fun b o hb e=>kk b o (by simpa using hb) e) f0 f1 f3 f4 f5
  refine⟨_,rfl,Au (s:={ s with heap:=h',toks:=tk }) (n:="range_iterator") bH rfl rfl (by decide) ⟨.int (lo+i),H,I1,⟨t,?_⟩,⟨rfl,rfl⟩,bH,fun b hb=>(hf b hb).1⟩⟩
  rw[Int.mul_one]
 done:=by
  intro X hP hw hK hc i pins s σ H E I hf st hg
  subst hP hw hK
  obtain⟨f0,f1,f2,f3,f4,f5⟩:=hf it (by simp)
  exact wpAny_pyNext_range_end (I.ok.hd hc) st (by have:n<=i:=hg;omega) fun h' eb=>⟨rfl,I.turned (t':=s.toks) (fun b o hb e=>eb b o hb e) f0 f1 f3 f4 f5⟩
 self:=fun _ _ _ _ _ st h=>lG st h
section
variable{X:Cx}{tg:Expr}
def OD(K:Frag)(tl:TE):TI:=fun σ H R=>tl σ H fun x H1=>∃a,x=.ref a/\(∃xs,pL K H1 a xs)/\R (SV K a) H1
def RX(K:Frag)(tl:TE):TI:=fun σ H R=>tl σ H fun x H1=>∃a,x=.ref a/\(∃xs,fg K H1 a xs)/\R (SX K a) H1
theorem Hg{l:Expr}{tl:TE}(hl:PE X l tl):PI X tg l (OD X.K tl):=by
 intro pins s σ H R I h
 refine fY (hl pins s σ H _ I h) fun v s1 ⟨x,H1,I1,r1,q1⟩=>?_
 obtain⟨a,e,⟨xs,hq⟩,q⟩:=q1
 subst e
 cases r1
 obtain⟨bC,rv,p,hz⟩:=I1.list hq
 refine wpAny_pyIter_list p.isList ?_
 refine⟨s1.heap.objs.size,[s1.heap.objs.size],_,_,H1,rfl,I1.kept (t':=s1.toks) fun b o e=>aq _ e,Bv a _,⟨_,aH _ rfl,rfl,rfl⟩,fun b hb=>?_,q⟩
 have e:b=s1.heap.objs.size:=by simpa using hb
 subst e
 exact I1.fpOk (aA _) (I1.hok.fresh (aA _))
theorem K'{l:Expr}{tl:TE}(hl:PE X l tl):PI X tg l (RX X.K tl):=by
 intro pins s σ H R I h
 refine fY (hl pins s σ H _ I h) fun v s1 ⟨x,H1,I1,r1,q1⟩=>?_
 obtain⟨a,e,⟨xs,hq⟩,q⟩:=q1
 subst e
 cases r1
 obtain⟨bC,rv,p,hz⟩:=I1.tuple hq
 refine fV (show s1.heap.IsTuple a bC.toArray from p) ?_
 refine⟨s1.heap.objs.size,[s1.heap.objs.size],_,_,H1,rfl,I1.kept (t':=s1.toks) fun b o e=>aq _ e,yK a _,⟨_,aH _ rfl,rfl,rfl⟩,fun b hb=>?_,q⟩
 have e:b=s1.heap.objs.size:=by simpa using hb
 subst e
 exact I1.fpOk (aA _) (I1.hok.fresh (aA _))
theorem wz{pins:List (Addr×Obj)}{σ:St}{H:Hp}{s:Shared}{R:It->Hp->Prop}{E:Value->Shared->Prop}{lo hi:Int}{t u v:Tok}{tk:Nat}(I:bE X pins σ H s)(h1:-(2^62)<=lo)(h2:lo<2^62)(h3:-(2^62)<=hi)(h4:hi<2^62)
  (q:R (OC lo (hi-lo).toNat) H):wpAny (model X.prog X.w) X.A (pyIter (.ref s.heap.objs.size)) (RW X pins σ tg R) E { s with heap:=s.heap.push { cls:=.type "range",data:=.fields #[.int lo t,.int hi u,.int 1 v] },toks:=tk }:=by
 refine wpAny_pyIter_range (IsRange.new ..) (small_one h1 h2 h3 h4) ?_
 have I1:bE X pins σ H { s with heap:=s.heap.push { cls:=.type "range",data:=.fields #[.int lo t,.int hi u,.int 1 v] },toks:=tk }:=I.kept fun b o e=>aq _ e
 refine⟨(s.heap.push { cls:=.type "range",data:=.fields #[.int lo t,.int hi u,.int 1 v] }).objs.size,[(s.heap.push { cls:=.type "range",data:=.fields #[.int lo t,.int hi u,.int 1 v] }).objs.size],_,_,H,rfl,
  I1.kept (t':=tk) fun b o e=>aq _ e,yL _ lo (hi-lo).toNat,?_,fun b hb=>?_,q⟩
 ·have e1:lo+((0:Nat):Int)*1=lo:=by simp
  have e2:(((hi-lo).toNat:Nat):Int)-((0:Nat):Int)=Builtin.Range.rangeSize lo hi 1:=by rw[rangeSize_one];split<;>omega
  show IsRangeIter _ _ (lo+((0:Nat):Int)*1) ((((hi-lo).toNat:Nat):Int)-((0:Nat):Int)) 1
  rw[e1,e2]
  exact aH _ rfl
 ·have e:b=(s.heap.push { cls:=.type "range",data:=.fields #[.int lo t,.int hi u,.int 1 v] }).objs.size:=by simpa using hb
  subst e
  exact I1.fpOk (aA _) (I1.hok.fresh (aA _))
def OE(ta:TA):TI:=fun σ H R=>ta σ H fun vs H1=>∃j:Int,vs=[.int j]/\-(2^62)<=j/\j<2^62/\R (OC 0 j.toNat) H1
def OF(ta:TA):TI:=fun σ H R=>ta σ H fun vs H1=>∃i j:Int,vs=[.int i,.int j]/\(-(2^62)<=i/\i<2^62/\-(2^62)<=j/\j<2^62)/\R (OC i (j-i).toNat) H1
theorem Bw{a:Expr}{ta:TA}{p pos:Pos}(hg:Gl X "range")(hm:X.mg "range"=none)(ha:PA X [a] ta)(hs:starEach [a] X.env=[(false,eval a X.env)]:=by rfl):PI X tg (.Call (.Name "range" p) [a] [] pos) (OE ta):=by
 intro pins s σ H R I h
 refine Call_ (kA I hg hm boot_range (cz (fY (ha pos pins s σ H _ I h) fun us s1 ⟨vs,H1,I1,r1,q1⟩=>?_) hs rfl))
 obtain⟨j,e,q1,q2,q⟩:=q1
 subst e
 cases r1 with
 |cons r rr=>
  cases rr
  obtain⟨t,rfl⟩:=r
  exact call_range_1 (wz I1 (by omega) (by omega) q1 q2 (by simpa using q))
theorem Bx{a b:Expr}{ta:TA}{p pos:Pos}(hg:Gl X "range")(hm:X.mg "range"=none)(ha:PA X [a,b] ta)(hs:starEach [a,b] X.env=[(false,eval a X.env),(false,eval b X.env)]:=by rfl)(uA:starEach [b] X.env=[(false,eval b X.env)]:=by rfl) :
  PI X tg (.Call (.Name "range" p) [a,b] [] pos) (OF ta):=by
 intro pins s σ H R I h
 refine Call_ (kA I hg hm boot_range (cz (fY (ha pos pins s σ H _ I h) fun us s1 ⟨vs,H1,I1,r1,q1⟩=>?_) (by rw[hs,uA]) (by rw[uA];rfl)))
 obtain⟨i,j,e,⟨q1,q2,q3,q4⟩,q⟩:=q1
 subst e
 cases r1 with
 |cons r rr=>
  cases rr with
  |cons r' rr=>
   cases rr
   obtain⟨t,rfl⟩:=r
   obtain⟨t',rfl⟩:=r'
   exact call_range_2 (wz I1 q1 q2 q3 q4 q)
def RY(wi:TI)(g:TG)(tb:TS):TS:=fun D σ H=>wi σ H fun J H1=>∃W:Nat->Nat->St->Hp->Prop,(∃m,W 0 m σ H1)/\∀i m σ H,W i m σ H ->
 (J.stop i H/\D.nx σ H)\/(J.go i H/\∃N:St->Hp->Prop,(∀σ' H',N σ' H'->∃m',m'<m/\W (i+1) m' σ' H')/\∀x H',J.yld i H x H'->g x σ H' fun σ2 H2=>tb { D with nx:=N,ct:=N,bk:=D.nx } σ2 H2)
def uE(fp:List Addr)(h:Heap):List (Addr×Obj):=fp.filterMap fun b=>(h.get? b).map fun o=>(b,o)
theorem fH{fp:List Addr}{h:Heap}{b:Addr}{o:Obj}(hb:b∈fp)(e:h.get? b=some o):(b,o)∈uE fp h:=jR.mpr ⟨b,hb,by rw[e];rfl⟩
theorem By{fp:List Addr}{h:Heap}{p:Addr×Obj}(hp:p∈uE fp h):p.1∈fp/\h.get? p.1=some p.2:=by
 obtain⟨b,hb,e⟩:=jR.mp hp
 cases q:h.get? b with
 |none=>rw[q]at e;cases e
 |some o=>
  rw[q]at e
  have e':(b,o)=p:=a_ e
  subst e'
  exact⟨hb,q⟩
theorem bE.pinned{pins:List (Addr×Obj)}{σ:St}{H:Hp}{s:Shared}{fp:List Addr}(I:bE X pins σ H s)(hf:∀b∈fp,my X pins H b)(ho:∀b∈fp,∃o,s.heap.get? b=some o/\∀v,o.data≠.cell v):bE X (pins++uE fp s.heap) σ H s:=
 I.pins_of fun p hp=>(a7.mp hp).elim (fun z=>I.pin p (aL _ z)) fun z=>by
  obtain⟨hb,e⟩:=By z
  obtain⟨f0,f1,f2,_⟩:=hf p.1 hb
  obtain⟨o,e',d⟩:=ho p.1 hb
  rw[e]at e';cases e'
  exact⟨e,f0,f1,f2,d⟩
theorem bE.unpinned{pins pl:List (Addr×Obj)}{σ:St}{H:Hp}{s:Shared}(I:bE X (pins++pl) σ H s):bE X pins σ H s:=I.pins_of fun p hp=>I.pin p (aL _ (gA _ hp))
theorem La{iter:Expr}{body:List Stmt}{wi:TI}{g:TG}{tb:TS}{pos:Pos}(hp:PassesOwn (model X.prog X.w) X.A X.env X.xe)(hc:X.calm=true)(hi:PI X tg iter wi)(hg:PG X tg g)(hb:Bt X body tb)
  (hs:∀x,foldedSetIterable iter X.env x=pure x:=by intro _;rfl):PS X (.For tg iter body [] pos) (RY wi g tb):=by
 intro pins s σ H D I h
 refine wpAny_For (fY (hi pins s σ H _ I h) fun v s1 h1=>fY h1 fun RF s2 h2=>?_) hs
 obtain⟨it,fp,tn,J,H2,e,I2,T,cZ,f2,W,⟨m0,w0⟩,turn⟩:=h2
 subst e
 have stat:∀{H':Hp},(∀b∈fp,H' b=none)->∀b∈fp,my X pins H' b:=fun hn b hb=>⟨hn b hb,(f2 b hb).2⟩
 refine codeAny_forLoop_any (fun n s'=>∃i σ' H',bE X pins σ' H' s'/\tn i s'.heap/\(∀b∈fp,H' b=none)/\W i n σ' H') ?_ m0 ⟨0,σ,H2,I2,cZ,fun b hb=>(f2 b hb).1,w0⟩
 rintro n s3 ⟨i,σ3,H3,I3,j0,fr3,w3⟩
 rcases turn i n σ3 H3 w3 with⟨stop,qn⟩|⟨go,N,hN,step⟩
 ·refine fy hp (fY (T.done X rfl rfl rfl hc i pins s3 σ3 H3 X.xe I3 (stat fr3) j0 stop) fun r s4 ⟨hr,I4⟩=>?_)
  subst hr
  exact jc ⟨σ3,H3,I4,qn⟩
 ·refine fy hp (fY (T.item X rfl rfl rfl hc i pins s3 σ3 H3 X.xe I3 (stat fr3) j0 go) fun r s4 ⟨u,hr,h4⟩=>?_)
  subst hr
  refine fy hp (fY h4 fun _ s5 ⟨x,H5,I5,r5,y5,st5,fr5⟩=>?_)
  have I5':=I5.pinned (stat fr5) (T.obj _ _ st5)
  refine fy hp (fY (hg _ s5 σ3 H5 x u _ I5' r5 (step x H5 y5)) fun _ s6 ⟨σ6,H6,I6,q6⟩=>?_)
  refine fy hp (fY (hb _ s6 σ6 H6 _ I6 q6) fun f s7 q7=>?_)
  have again:∀{σ7:St} {H7:Hp},bE X (pins++uE fp s5.heap) σ7 H7 s7->N σ7 H7->∃m,m<n/\∃i σ' H',bE X pins σ' H' s7/\tn i s7.heap/\(∀b∈fp,H' b=none)/\W i m σ' H':=fun{σ7 H7} I7 n7=>by
   obtain⟨m',hm,w7⟩:=hN σ7 H7 n7
   refine⟨m',hm,i+1,σ7,H7,I7.unpinned,T.keep _ _ _ st5 fun b hb o e=>(I7.pin (b,o) (aL _ (aL _ (fH hb e)))).1,fun b hb=>?_,w7⟩
   obtain⟨o,e,d⟩:=T.obj _ _ st5 b hb
   exact(I7.pin (b,o) (aL _ (aL _ (fH hb e)))).2.1
  cases f with
  |next=>obtain⟨σ7,H7,I7,n7⟩:=q7;exact again I7 n7
  |cont=>obtain⟨σ7,H7,I7,n7⟩:=q7;exact again I7 n7
  |brk=>obtain⟨σ7,H7,I7,q7⟩:=q7;exact⟨σ7,H7,I7.unpinned,q7⟩
  |ret v=>obtain⟨x7,σ7,H7,I7,r7,q7⟩:=q7;exact⟨x7,σ7,H7,I7.unpinned,r7,q7⟩
end
abbrev R2:=V->V->Hp->VK->Prop
def lf(X:Cx)(f:Value->Value->Sem Value)(r:R2):Prop:=
 ∀(pins:List (Addr×Obj)) (s:Shared) (σ:St) (H:Hp) (x y:V) (v u:Value) (Q:VK),bE X pins σ H s->cr x v->cr y u->r x y H Q ->
  wpAny (model X.prog X.w) X.A (f v u) (EP X pins σ Q) X.xe s
def RZ(X:Cx)(f:Value->Sem Value)(r:V->Hp->VK->Prop):Prop:=
 ∀(pins:List (Addr×Obj)) (s:Shared) (σ:St) (H:Hp) (x:V) (v:Value) (Q:VK),bE X pins σ H s->cr x v->r x H Q ->
  wpAny (model X.prog X.w) X.A (f v) (EP X pins σ Q) X.xe s
def hU(X:Cx)(f:Value)(r:List V->Hp->VK->Prop):Prop:=
 ∀(pins:List (Addr×Obj)) (s:Shared) (σ:St) (H:Hp) (xs:List V) (us:List Value) (Q:VK),bE X pins σ H s->cJ xs us->r xs H Q ->
  wpAny (model X.prog X.w) X.A (call f us) (EP X pins σ Q) X.xe s
def OG(r:R2)(ta tb:TE):TE:=fun σ H Q=>ta σ H fun x H1=>tb σ H1 fun y H2=>r x y H2 Q
def Tf(r:V->Hp->VK->Prop)(ta:TE):TE:=fun σ H Q=>ta σ H fun x H1=>r x H1 Q
def rI(C:Int->Int->Prop)(g:Int->Int->V):R2:=fun x y H Q=>∃i j,x=.int i/\y=.int j/\C i j/\Q (g i j) H
def C5(g:Int->Int->V):R2:=fun x y H Q=>∃i j,x=.int i/\y=.int j/\Q (g i j) H
def rU(g:Int->V):V->Hp->VK->Prop:=fun x H Q=>∃i,x=.int i/\Q (g i) H
section
variable{X:Cx}{a b c:Expr}{ta tb tc:TE}{pos:Pos}
theorem Lb(ha:PE X a ta)(hb:PE X b tb){pins:List (Addr×Obj)}{s:Shared}{σ:St}{H:Hp}{R:V->V->Hp->Prop}(I:bE X pins σ H s)
  (h:ta σ H fun x H1=>tb σ H1 fun y H2=>R x y H2) {Q:Value->Shared->Prop} {f:Value->Value->Sem Value}
  (hf:∀v u s2 x y H2,bE X pins σ H2 s2->cr x v->cr y u->R x y H2->wpAny (model X.prog X.w) X.A (f v u) Q X.xe s2) :
  wpAny (model X.prog X.w) X.A (eval a X.env) (fun v s₁=>wpAny (model X.prog X.w) X.A (eval b X.env) (fun u s₂=>wpAny (model X.prog X.w) X.A (f v u) Q X.xe s₂) X.xe s₁) X.xe s:=by
 refine fY (ha pins s σ H _ I h) fun v s1 ⟨x,H1,I1,r1,q1⟩=>?_
 refine fY (hb pins s1 σ H1 _ I1 q1) fun u s2 ⟨y,H2,I2,r2,q2⟩=>?_
 exact hf v u s2 x y H2 I2 r1 r2 q2
theorem OH{op:Operator}{r:R2}(ho:lf X (binaryOp op) r)(ha:PE X a ta)(hb:PE X b tb):PE X (.BinOp a op b pos) (OG r ta tb):=by
 intro pins s σ H Q I h
 exact wpAny_BinOp (Lb ha hb I h fun v u s2 x y H2 I2 rx ry q=>ho pins s2 σ H2 x y v u Q I2 rx ry q)
theorem OI{op:UnaryOp}{r:V->Hp->VK->Prop}(ho:RZ X (unaryOp op) r)(ha:PE X a ta):PE X (.UnaryOp op a pos) (Tf r ta):=by
 intro pins s σ H Q I h
 exact UnaryOp_ (fY (ha pins s σ H _ I h) fun v s1 ⟨x,H1,I1,r1,q1⟩=>ho pins s1 σ H1 x v Q I1 r1 q1)
theorem N'{f:Value->Value->Sem Value}{C:Int->Int->Prop}{g:Int->Int->Int}
  (rule:∀(i j:Int) (t u:Tok) (s:Shared) (Q:Value->Shared->Prop) (E:Value->Shared->Prop),C i j->Q (.int (g i j) s.toks) { s with toks:=s.toks+1 }->wpAny (model X.prog X.w) X.A (f (.int i t) (.int j u)) Q E s) :
  lf X f (rI C fun i j=>.int (g i j)):=by
 intro pins s σ H x y v u Q I rx ry h
 obtain⟨i,j,rfl,rfl,hc,q⟩:=h
 obtain⟨t,rfl⟩:=rx
 obtain⟨t',rfl⟩:=ry
 exact rule i j t t' s _ _ hc ⟨.int (g i j),H,I.tok _,⟨_,rfl⟩,q⟩
theorem Lc{f:Value->Value->Sem Value}{g:Int->Int->Int}
  (rule:∀(i j:Int) (t u:Tok) (s:Shared) (Q:Value->Shared->Prop) (E:Value->Shared->Prop),Q (.int (g i j) s.toks) { s with toks:=s.toks+1 }->wpAny (model X.prog X.w) X.A (f (.int i t) (.int j u)) Q E s) :
  lf X f (C5 fun i j=>.int (g i j)):=by
 intro pins s σ H x y v u Q I rx ry h
 obtain⟨i,j,rfl,rfl,q⟩:=h
 obtain⟨t,rfl⟩:=rx
 obtain⟨t',rfl⟩:=ry
 exact rule i j t t' s _ _ ⟨.int (g i j),H,I.tok _,⟨_,rfl⟩,q⟩
theorem Hh{f:Value->Value->Sem Value}{g:Int->Int->Bool}
  (rule:∀(i j:Int) (t u:Tok) (s:Shared) (Q:Value->Shared->Prop) (E:Value->Shared->Prop),Q (.bool (g i j)) s->wpAny (model X.prog X.w) X.A (f (.int i t) (.int j u)) Q E s) :
  lf X f (C5 fun i j=>.bl (g i j)):=by
 intro pins s σ H x y v u Q I rx ry h
 obtain⟨i,j,rfl,rfl,q⟩:=h
 obtain⟨t,rfl⟩:=rx
 obtain⟨t',rfl⟩:=ry
 exact rule i j t t' s _ _ ⟨.bl (g i j),H,I,rfl,q⟩
def R0(i j:Int):Prop:=0<j/\j<1073741824
def Ld(i j:Int):Prop:=0<=j/\j<=1000000/\i.natAbs<2^64
def Le(i j:Int):Prop:=(-(2^64)<i/\i<2^64)\/(-(2^64)<j/\j<2^64)
theorem Le.ok{i j:Int}(h:Le i j):IntMulOk i j:=by
 rcases h with⟨h1,h2⟩|⟨h1,h2⟩
 ·exact .of_left (intBits_le_64 h1 h2)
 ·exact .of_right (intBits_le_64 h1 h2)
theorem yM(k:Nat):(0:Int)<=2^k:=by
 rw[two_pow_cast]
 exact Int.natCast_nonneg _
theorem Lf:lf X (binaryOp .Add) (C5 fun i j=>.int (i+j)):=Lc fun _ _ _ _ _ _ _ q=>add_int q
theorem Lg:lf X (binaryOp .Sub) (C5 fun i j=>.int (i-j)):=Lc fun _ _ _ _ _ _ _ q=>sub_int q
theorem Lh:lf X (binaryOp .Mult) (rI Le fun i j=>.int (i*j)):=N' fun _ _ _ _ _ _ _ hc q=>mul_int q hc.ok
theorem Hi:lf X (binaryOp .FloorDiv) (rI R0 fun i j=>.int (i/j)):=N' fun i j _ _ _ _ _ hc q=>by
 have h1:(0:Int)<j:=hc.1
 have h2:j<1073741824:=hc.2
 exact floordiv_int (by omega) (by rw[jS i (by omega)];exact q) (.inl (lH (by omega)))
theorem Li:lf X (binaryOp .Mod) (rI (fun _ j=>0<j) fun i j=>.int (i%j)):=N' fun i j _ _ _ _ _ hc q=>by
 have h1:(0:Int)<j:=hc
 exact mod_int' (by omega) (by rw[Int.fmod_eq_emod_of_nonneg i (by omega)];exact q)
theorem Lj:lf X (binaryOp .Pow) (rI Ld fun i j=>.int (i^j.toNat)):=N' fun _ _ _ _ _ _ _ hc q=>pow_int_small hc.1 hc.2.1 hc.2.2 q
theorem C6:lf X (binaryOp .LShift) (rI Ld fun i j=>.int (i*2^j.toNat)):=N' fun _ _ _ _ _ _ _ hc q=>lshift_int_small hc.1 hc.2.1 hc.2.2 q
theorem Lk:lf X (binaryOp .RShift) (rI (fun _ j=>0<=j) fun i j=>.int (i/2^j.toNat)):=N' fun i j _ _ _ _ _ hc q=>
 rshift_int hc (by rw[jS i (yM _)];exact q)
theorem Ll:lf X (binaryOp .BitAnd) (C5 fun i j=>.int (Builtin.bitAnd i j)):=Lc fun _ _ _ _ _ _ _ q=>and_int q
theorem Tg{f:Value->Sem Value}{g:Int->Int}
  (rule:∀(i:Int) (t:Tok) (s:Shared) (Q:Value->Shared->Prop) (E:Value->Shared->Prop),Q (.int (g i) s.toks) { s with toks:=s.toks+1 }->wpAny (model X.prog X.w) X.A (f (.int i t)) Q E s) :
  RZ X f (rU fun i=>.int (g i)):=by
 intro pins s σ H x v Q I rx h
 obtain⟨i,rfl,q⟩:=h
 obtain⟨t,rfl⟩:=rx
 exact rule i t s _ _ ⟨.int (g i),H,I.tok _,⟨_,rfl⟩,q⟩
theorem Lm:RZ X (unaryOp .USub) (rU fun i=>.int (-i)):=Tg fun _ _ _ _ _ q=>neg_int q
end
section
variable{X:Cx}{a b c:Expr}{ta tb tc:TE}{pos:Pos}
theorem C7{pins:List (Addr×Obj)}{σ:St}{H:Hp}{s:Shared}{Q:VK}{k k':Bool}(I:bE X pins σ H s)(q:Q (.bl k) H)(e:k=k'):EP X pins σ Q (.bool k') s:=by
 subst e
 exact⟨.bl k,H,I,rfl,q⟩
theorem OJ:lf X (compareOp .Lt) (C5 fun i j=>.bl (decide (i<j))):=Hh fun _ _ _ _ _ _ _ q=>lt_int q
theorem OK:lf X (compareOp .LtE) (C5 fun i j=>.bl (decide (i<=j))):=Hh fun _ _ _ _ _ _ _ q=>le_int q
theorem OL:lf X (compareOp .Gt) (C5 fun i j=>.bl (decide (j<i))):=Hh fun _ _ _ _ _ _ _ q=>gt_int q
theorem OM:lf X (compareOp .GtE) (C5 fun i j=>.bl (decide (j<=i))):=Hh fun _ _ _ _ _ _ _ q=>ge_int q
theorem Bz:lf X (compareOp .In) (fun x y H Q=>∃i j,x=.str i/\y=.str j/\Q (.bl (!(Builtin.Str.occurrences j i 0 j.length 1).isEmpty)) H):=by
 intro pins s σ H x y v u Q I rx ry h
 obtain⟨i,j,rfl,rfl,q⟩:=h
 obtain⟨t,rfl⟩:=rx
 obtain⟨t',rfl⟩:=ry
 exact in_str (C7 I q rfl)
theorem uF:lf X (compareOp .NotIn) (fun x y H Q=>∃i j,x=.str i/\y=.str j/\Q (.bl (!(!(Builtin.Str.occurrences j i 0 j.length 1).isEmpty))) H):=by
 intro pins s σ H x y v u Q I rx ry h
 obtain⟨i,j,rfl,rfl,q⟩:=h
 obtain⟨t,rfl⟩:=rx
 obtain⟨t',rfl⟩:=ry
 exact notIn_str (C7 I q rfl)
theorem C8(b:Expr){op:CmpOp}(h:op≠.In:=by decide)(h2:op≠.NotIn:=by decide):behindInMarks op b=false:=by
 have e1:(op==CmpOp.In)=false:=by cases op<;>first|rfl|exact absurd rfl h
 have e2:(op==CmpOp.NotIn)=false:=by cases op<;>first|rfl|exact absurd rfl h2
 cases b<;>simp[behindInMarks,e1,e2]
theorem Hj{op:CmpOp}{r:R2}(ho:lf X (compareOp op) r)(ha:PE X a ta)(hb:PE X b tb)(hm:behindInMarks op b=false):PE X (.Compare a [op] [b] pos) (OG r ta tb):=by
 intro pins s σ H Q I h
 exact wpAny_Compare1 (Lb ha hb I h fun v u s2 x y H2 I2 rx ry q=>ho pins s2 σ H2 x y v u Q I2 rx ry q) hm
def ON(t:TE):TT:=fun σ H Q=>t σ H fun x H'=>∃k,x=.bl k/\Q k H'
theorem Hk{op:CmpOp}{r:R2}(ho:lf X (compareOp op) r)(ha:PE X a ta)(hb:PE X b tb)(hm:behindInMarks op b=false):PT X (.Compare a [op] [b] pos) (ON (OG r ta tb)):=by
 intro pins s σ H Q I h
 refine mn (fY (ha pins s σ H _ I h) fun v s1 ⟨x,H1,I1,r1,q1⟩=>fY (hb pins s1 σ H1 _ I1 q1) fun u s2 ⟨y,H2,I2,r2,q2⟩=>
  fY (ho pins s2 σ H2 x y v u _ I2 r1 r2 q2) fun c s3 ⟨z,H3,I3,r3,k,e,q3⟩=>?_) hm
 subst e
 cases r3
 exact eB ⟨H3,I3,q3⟩
theorem oY:(sizeLine:Nat)<2^63:=by rw[ko];decide
theorem yN:lf X (binaryOp .Add) (fun x y H Q=>∃i j,x=.str i/\y=.str j/\i.length+j.length<=sizeLine/\Q (.str (i++j)) H):=by
 intro pins s σ H x y v u Q I rx ry h
 obtain⟨i,j,rfl,rfl,hz,q⟩:=h
 obtain⟨t,rfl⟩:=rx
 obtain⟨t',rfl⟩:=ry
 exact add_str (fun t' tk=>⟨.str (i++j),H,I.tok _,⟨_,rfl⟩,q⟩) hz
theorem lV{x:V}{us:List Value}(r:cJ [x] us):∃u,us=[u]/\cr x u:=by
 cases r with
 |cons r1 r2=>cases r2;exact⟨_,rfl,r1⟩
theorem Jn{x y:V}{us:List Value}(r:cJ [x,y] us):∃u w',us=[u,w']/\cr x u/\cr y w':=by
 cases r with
 |cons r1 r2=>
  cases r2 with
  |cons r3 r4=>cases r4;exact⟨_,_,rfl,r1,r3⟩
theorem BA(hc:X.calm=true):hU X (.builtin "max") (fun xs H Q=>∃i j,xs=[.int i,.int j]/\Q (.int (if j>i then j else i)) H):=by
 intro pins s σ H xs us Q I r h
 obtain⟨i,j,rfl,q⟩:=h
 obtain⟨u,w',rfl,⟨t,rfl⟩,⟨t',rfl⟩⟩:=Jn r
 refine max_two_ints (I.ok.hd hc) fun h' tk k=>⟨_,H,I.kept k,?_,q⟩
 by_cases hj:j>i
 ·rw[aD hj,aD hj];exact⟨_,rfl⟩
 ·rw[aQ hj,aQ hj];exact⟨_,rfl⟩
theorem BB(hc:X.calm=true):hU X (.builtin "min") (fun xs H Q=>∃i j,xs=[.int i,.int j]/\Q (.int (if j<i then j else i)) H):=by
 intro pins s σ H xs us Q I r h
 obtain⟨i,j,rfl,q⟩:=h
 obtain⟨u,w',rfl,⟨t,rfl⟩,⟨t',rfl⟩⟩:=Jn r
 refine min_two_ints (I.ok.hd hc) fun h' tk k=>⟨_,H,I.kept k,?_,q⟩
 by_cases hj:j<i
 ·rw[aD hj,aD hj];exact⟨_,rfl⟩
 ·rw[aQ hj,aQ hj];exact⟨_,rfl⟩
theorem tm:hU X (.type "int") (fun xs H Q=>(∃i,xs=[.int i]/\Q (.int i) H)\/∃k,xs=[.bl k]/\Q (.int (if k then 1 else 0)) H):=by
 intro pins s σ H xs us Q I r h
 rcases h with⟨i,rfl,q⟩|⟨k,rfl,q⟩
 ·obtain⟨u,rfl,t,rfl⟩:=lV r
  exact call_int_int ⟨.int i,H,I,⟨_,rfl⟩,q⟩
 ·obtain⟨u,rfl,r1⟩:=lV r
  cases r1
  exact call_int_bool ⟨.int (if k then 1 else 0),H,I.tok _,⟨_,rfl⟩,q⟩
end
structure Ln(h:Heap)(x dx C:Addr)(mA:Str->Option Value):Prop where
 obj:h.get? x=some (PySem.W.instObj C dx)
 ns:h.Ns1 dx mA
 ne:dx≠x
theorem BC{h:Heap}{dx:Addr}{mA:Str->Option Value}(n:h.Ns1 dx mA):∃od,h.get? dx=some od/\∀name,PySem.W.lookIn name od=some (mA name):=by
 obtain⟨o,es,ep,ho,hd,hk,_,hm⟩:=n
 refine⟨o,ho,fun name=>?_⟩
 have e:=hm name
 unfold nsFind findBy at e
 rw[<- Array.find?_toList]at e
 unfold PySem.W.lookIn
 rw[hd]
 dsimp only
 split
 ·rename_i y q
  rw[q]at e
  exact fP some e
 ·rename_i q
  rw[q]at e
  have a:es.toList.any (·.refKey)=false:=by
   rw[List.any_eq_false]
   intro y hy
   obtain⟨z,t,hkey⟩:=hk y (Array.mem_toList_iff.mp hy)
   simp[DictEntry.refKey,hkey]
  have a':¬ es.toList.any (·.refKey)=true:=by rw[a];exact dZ
  rw[aQ a']
  exact fP some e
theorem Ln.look{h:Heap}{x dx C:Addr}{mA:Str->Option Value}(I:Ln h x dx C mA):∃od,PySem.W.InstAt h x (PySem.W.instObj C dx) C (some od)/\∀name,PySem.W.lookIn name od=some (mA name):=
 let ⟨od,ho,hl⟩:=BC I.ns
 ⟨od,⟨I.obj,rfl,rfl,ho⟩,hl⟩
section
variable{prog:Program}{w:World}{A:Around}{E:Value->Shared->Prop}{s:Shared}{K:Frag}{x dx C f:Addr}{mA:Str->Option Value}{name:Str}{v:Value}
end
theorem oX.some_of{v:V}{o:Option Value}(r:oX (some v) o):∃u,o=some u/\cr v u:=by
 cases o with
 |none=>exact(show False from r).elim
 |some u=>exact⟨u,rfl,r⟩
section
variable{P:Program}{w:World}{H H':Hp}{h h':Heap}{a C dx:Addr}{fs TC:List (Str×V)}
theorem Hl(hok:nK P w H h)(e:H a=some (.ins C dx fs)):∃mA,Ln h a dx C mA/\(∀f,oX (fs.lookup f) (mA f))/\PySem.Within mA (fs.map (·.1))/\fs.length<=1000/\H dx=some (.own a):=by
 obtain⟨d,z,ne,ob,mA,n,r,q⟩:=(show e_ P w H h a (.ins C dx fs)from hok a _ e)
 exact⟨mA,⟨ob,n,ne⟩,r,q,z,d⟩
end
structure Oa(K:Frag)(C:Addr):Prop where
 pg:PySem.W.plainGet K C Str.empty=true
 hd:PySem.W.hasDictIn K C=true
 po:PySem.W.plainOver K C=true
 sa:PySem.W.findIn K (.ref C) "__setattr__"=some (some (.builtin "object.__setattr__"))
theorem Oa.get{K:Frag}{C:Addr}(c:Oa K C)(f:Str):PySem.W.plainGet K C f=true:=c.pg
section
variable{X:Cx}{pins:List (Addr×Obj)}{σ:St}{H:Hp}{s:Shared}{a C dx:Addr}{fs:List (Str×V)}{f:Str}{v:V}{A:Around}{E:Value->Shared->Prop}
end
section
variable{X:Cx}{o e value:Expr}{f:Str}{pos iu SM:Pos}{ta tv:TE}
end
section
variable{X:Cx}{pins:List (Addr×Obj)}{σ:St}{H:Hp}{s:Shared}{A:Around}{E:Value->Shared->Prop}{Q:Value->Shared->Prop}{c:Value}{b:Bool}
inductive p_(K:Frag)(H:Hp):V->Value->Prop where
 |non:p_ K H .non (.type "NoneType")
 |bl (x:Bool):p_ K H (.bl x) (.type "bool")
 |int (i:Int):p_ K H (.int i) (.type "int")
 |str (x:Str):p_ K H (.str x) (.type "str")
 |flt (x:UInt64):p_ K H (.flt x) (.type "float")
 |lst {a:Addr} {xs:List V} (e:H a=some (.lst xs)):p_ K H (.ref a) (.type "list")
 |frz {a:Addr} {o:Obj} {xs:List V} (e:H a=some (.frz o (.lst xs))):p_ K H (.ref a) (.type "list")
 |tup {a:Addr} {xs:List V} (e:H a=some (.tup xs)):p_ K H (.ref a) (.type "tuple")
 |dK {a:Addr} {kvs:List (fX×V)} (e:H a=some (.dK kvs)):p_ K H (.ref a) (.type "dict")
 |dT {a:Addr} {kvs:List (List fX×V)} (e:H a=some (.dT kvs)):p_ K H (.ref a) (.type "dict")
 |ins {a C dx:Addr} {fs:List (Str×V)} (e:H a=some (.ins C dx fs)) (cl:Oa K C) (ha:PySem.W.findIn K (.ref C) "__class__"=some (some (.builtin "object.__class__")))
   (hn:PySem.W.specialIn K (.builtin "object.__class__") "__get__"=some (some (.builtin "getset_descriptor.__get__"))) (S9:PySem.W.takesIn K (.builtin "object.__class__")=some true)
   (hm:PySem.W.mroIn K C (.type "object")=some true):p_ K H (.ref a) (.ref C)
theorem m5{x:V}{u t:Value}(I:bE X pins σ H s)(rx:cr x u)(ty:p_ X.K H x t)(e:PySem.W.kitOne X.K t c=some b)(h:∀tk,Q (.bool b) { s with toks:=tk }) :
  wpAny (model X.prog X.w) A (call (.builtin "isinstance") [u,c]) Q E s:=by
 cases ty with
 |non=>cases(show u=Value.none from rx);exact kia_one PySem.W.kitx_none I.kIn True.intro e (fun z=>nomatch z) h
 |bl y=>cases(show u=Value.bool y from rx);exact kia_one PySem.W.kitx_bool I.kIn True.intro e (fun z=>nomatch z) h
 |int i=>obtain⟨t,q⟩:=(show ∃t,u=Value.int i t from rx);cases q;exact kia_one PySem.W.kitx_int I.kIn True.intro e (fun z=>nomatch z) h
 |str y=>obtain⟨t,q⟩:=(show ∃t,u=Value.str y t from rx);cases q;exact kia_one PySem.W.kitx_str I.kIn True.intro e (fun z=>nomatch z) h
 |flt y=>obtain⟨t,q⟩:=(show ∃t,u=Value.float y t from rx);cases q;exact kia_one PySem.W.kitx_float I.kIn True.intro e (fun z=>nomatch z) h
 |@lst a xs ea=>
  cases(show u=Value.ref a from rx)
  obtain⟨_,_,n,_,h1⟩:=(show e_ X.prog X.w H s.heap a (.lst xs)from I.hok a _ ea)
  exact kia_one PySem.W.kitx_list I.kIn ⟨_,h1,rfl⟩ e (fun z=>nomatch z) h
 |@frz a ob xs ea=>
  cases(show u=Value.ref a from rx)
  obtain⟨_,_,_,n,_,h1⟩:=(show e_ X.prog X.w H s.heap a (.frz ob (.lst xs))from I.hok a _ ea)
  exact kia_one PySem.W.kitx_list I.kIn ⟨_,h1,rfl⟩ e (fun z=>nomatch z) h
 |@tup a xs ea=>
  cases(show u=Value.ref a from rx)
  obtain⟨_,_,_,p⟩:=(show e_ X.prog X.w H s.heap a (.tup xs)from I.hok a _ ea)
  obtain⟨o,h1,h2,_⟩:=p
  exact kia_one PySem.W.kitx_tuple I.kIn ⟨o,h1,h2⟩ e (fun z=>nomatch z) h
 |@dK a kvs ea=>
  cases(show u=Value.ref a from rx)
  obtain⟨_,_,vs,_,p⟩:=(show e_ X.prog X.w H s.heap a (.dK kvs)from I.hok a _ ea)
  obtain⟨o,es,ep,h1,h2,_⟩:=p
  exact kia_one PySem.W.kitx_dict I.kIn ⟨o,h1,h2.1⟩ e (fun z=>nomatch z) h
 |@dT a kvs ea=>
  cases(show u=Value.ref a from rx)
  obtain⟨_,_,xs,_,o,es,ep,h1,h2,_⟩:=(show e_ X.prog X.w H s.heap a (.dT kvs)from I.hok a _ ea)
  exact kia_one PySem.W.kitx_dict I.kIn ⟨o,h1,h2.1⟩ e (fun z=>nomatch z) h
 |@ins a C dx fs ea cl ha hn S9 hm=>
  cases(show u=Value.ref a from rx)
  obtain⟨mA,O,_⟩:=Hl I.hok ea
  obtain⟨od,J,_⟩:=O.look
  exact kia_one (PySem.W.kitx_own (cl.get _) cl.hd ha hn S9 hm) I.kIn J e (fun z=>nomatch z) h
end
structure h_(k:Nat)(A:Around):Prop where
 hd:A.handled=none
 dp:A.depth+2*k+5<recursionLimit
 un:A.units+16*k+200<cLine
theorem h_.mono{j k:Nat}{A:Around}(r:h_ k A)(h:j<=k):h_ j A:=⟨r.hd,by have:=r.dp;omega,by have:=r.un;omega⟩
theorem h_.deeper{k:Nat}{A:Around}(r:h_ (k+1) A)(env:Env):h_ k (A.deeper env):=
 ⟨r.hd,by have:=r.dp;show A.depth+1+2*k+5<_;omega,by have:=r.un;show A.units+3+16*k+200<_;omega⟩
theorem h_.depth{k:Nat}{A:Around}(r:h_ k A):A.depth<recursionLimit:=by have:=r.dp;omega
theorem h_.units{k:Nat}{A:Around}(r:h_ k A):A.units+64<cLine:=by have:=r.un;omega
def R1:TA:=fun _ H Q=>Q [] H
def OO(ta:TE)(tr:TA):TA:=fun σ H Q=>ta σ H fun x H1=>tr σ H1 fun xs H2=>Q (x::xs) H2
section
variable{X:Cx}{e:Expr}{es:List Expr}{te:TE}{t:TA}{pos:Pos}
theorem yO:PA X [] R1:=fun _ _ _ _ H Q I h=>kq ⟨[],H,I,.nil,h⟩
theorem qo(ha:PE X e te)(hr:PA X es t)(hs:starEach (e::es) X.env=(false,eval e X.env)::starEach es X.env:=by rfl):PA X (e::es) (OO te t):=by
 intro pos pins s σ H Q I h
 rw[hs]
 show wpAny _ _ (spliced ((false,eval e X.env)::backTo pos (starEach es X.env))) _ _ s
 refine jT (fY (ha pins s σ H _ I h) fun u s1 ⟨x,H1,I1,r1,q1⟩=>?_)
 exact fY (hr pos pins s1 σ H1 _ I1 q1) fun us s2 ⟨xs,H2,I2,r2,q2⟩=>⟨x::xs,H2,I2,.cons r1 r2,q2⟩
end
abbrev Sp:=List V->Hp->VK->XK->Prop
abbrev GR:=List Env->Hp->Shared->XK->Value->Shared->Prop
structure Hm(P:Program)(w:World)(K:Frag)(mg:Str->Option Value)(base:Heap)(A:Around)(outer:List Env)(s:Shared)(H:Hp):Prop where
 frames:A.frames=some outer
 mod:Mod K mg base
 bs:∀b o,base.get? b=some o->s.heap.get? b=some o/\H b=none
 bsz:base.objs.size<=s.heap.objs.size
 funs:s.heap.FunFrames base outer
 frf:∀b∈qm outer,H b=none
 hok:nK P w H s.heap
 bare:AllBare s.gens
def CE(outer:List Env)(P:Program)(w:World)(H:Hp)(s:Shared)(Q:VK)(u:Value)(s':Shared):Prop:=
 ∃v H',s'.os=s.os/\AllBare s'.gens/\Un (qm outer) [] H H' s.heap s'.heap/\nK P w H' s'.heap/\cr v u/\Q v H'
def CR(CX:GR)(outer:List Env)(P:Program)(w:World)(H:Hp)(s:Shared)(Q:VK)(E:XK)(r:Result)(s':Shared):Prop:=
 match r with
 |.ok (.ret u)=>CE outer P w H s Q u s'
 |.ok _=>False
 |.error e=>CX outer H s E e s'
structure dG(P:Program)(w:World)(K:Frag)(mg:Str->Option Value)(base:Heap)(CX:GR)(k:Nat)(f:Addr)(fd:FuncData)(ps:List Str)(sp:Sp):Prop where
 len:∀vs H Q E,sp vs H Q E->vs.length=ps.length
 run:∀(A:Around) (outer:List Env) (s:Shared) (H:Hp) (args:Args) (us:List Value) (vs:List V) (Q:VK) (E:XK),h_ k A->Hm P w K mg base A outer s H->BindsTo s fd args (ps.zip us)->cJ vs us->sp vs H Q E ->
  codeAny (model P w) A (.call (.ref f) args) (CR CX outer P w H s Q E) s
theorem dG.mono{P:Program}{w:World}{K:Frag}{mg:Str->Option Value}{base:Heap}{CX:GR}{j k:Nat}{f:Addr}{fd:FuncData}{ps:List Str}{sp:Sp}(F:dG P w K mg base CX j f fd ps sp)(h:j<=k) :
  dG P w K mg base CX k f fd ps sp:=⟨F.len,fun A outer s H args us vs Q E hr=>F.run A outer s H args us vs Q E (hr.mono h)⟩
section
variable{X:Cx}{pins:List (Addr×Obj)}{σ:St}{H:Hp}{s s':Shared}
theorem bE.env0(I:bE X pins σ H s):Hm X.prog X.w X.K X.mg X.base X.A X.stack s H:=
 ⟨I.ok.frames,I.ok.mod,I.bs,bn I.ok.bsz I.sz,I.stack,I.stkFree,I.hok,I.bare⟩
theorem bE.after{Q:VK}{u:Value}(I:bE X pins σ H s)(h:CE X.stack X.prog X.w H s Q u s'):EP X pins σ Q u s':=by
 obtain⟨v,H',os,bare,un,hok,r,q⟩:=h
 obtain⟨hh,g,d,t,os'⟩:=s'
 obtain rfl:os'=s.os:=os
 exact⟨v,H',I.call (h':=hh) (g':=g) (d':=d) (t':=t) (ch:=[]) un hok bare (fun b z=>absurd z (by simp)),r,q⟩
end
def wA(K:Frag)(fd:FuncData)(ps:List Str)(ds:List Value):Prop:=
 ∀(s:Shared) (us:List Value),K.In s.heap->(us++ds).length=ps.length->BindsTo s fd ⟨us,[]⟩ (ps.zip (us++ds))
theorem wA.all{K:Frag}{fd:FuncData}{ps:List Str}(h:∀us:List Value,us.length=ps.length->bindArgs fd ⟨us,[]⟩=pure (ps.zip us)):wA K fd ps []:=fun s us _ hl=>by
 rw[fz]at hl ⊢
 exact .of_eq (h us hl)
section
variable{X:Cx}{CX:GR}{k:Nat}{f C:Addr}{fd:FuncData}{ps:List Str}{sp:Sp}{TH:List V}{ds:List Value}{E:XK}{x m:Str}{p pos gq:Pos}{e o:Expr}{es:List Expr}{ta:TE}{t:TA}
structure Mk(K:Frag)(C f:Addr):Prop where
 makes:PySem.W.makesIn K C=true
 init:PySem.W.findIn K (.ref C) "__init__"=some (some (.ref f))
 fn:PySem.W.isFn K (.ref f)=true
 kp:keepIn K (.ref C)=true
end
section
variable{X:Cx}{CX:GR}{k:Nat}{f C:Addr}{fd:FuncData}{ps ks:List Str}{sp:Sp}{E:XK}{x m:Str}{p pos gq QX:Pos}{e o:Expr}{es:List Expr}{TD:List Keyword}{te ta:TE}{t tk:TA}{nm:Option Str}
variable{g:List Value->List Value->List Value}{gV:List V->List V->List V}
end
structure bq(N P:List Str)(sc:Scope):Prop where
 kind:sc.kind=.function
 co:sc.isCoroutine=false
 gen:sc.isGenerator=false
 nd:N.Nodup
 pre:N.take P.length=P
 par:∀x∈P,sc.names.lookup x=some .local\/sc.names.lookup x=some .cell
 nofree:∀y∈sc.names,y.2≠.free
theorem tu{kindOf:Str->Option NameKind}{x:Str}:∀{binds:List (Str×Value)} {m:Str->Option Value},(∀v,(x,v)∉binds)->bindL kindOf binds m x=m x
 |[],_,_=>rfl
 |(n,v)::r,m,h=>by
  unfold bindL
  rw[tu fun w hw=>h w (aZ _ hw)]
  split
  ·have:x≠n:=by rintro rfl;exact h v bA
   simp[this]
  ·rfl
theorem tz{kindOf:Str->Option NameKind}{x:Str}:∀{binds:List (Str×Value)} {m:Str->Option Value},(∀v,(x,v)∉binds)->bindC kindOf binds m x=m x
 |[],_,_=>rfl
 |(n,v)::r,m,h=>by
  unfold bindC
  rw[tz fun w hw=>h w (aZ _ hw)]
  split
  ·rfl
  ·have:x≠n:=by rintro rfl;exact h v bA
   simp[this]
theorem tD{kindOf:Str->Option NameKind}{x:Str}{v:Value}:∀{P:List Str} {vs:List Value} {i:Nat} {m:Str->Option Value},P.Nodup->P[i]?=some x->vs[i]?=some v->kindOf x=some .local ->
  bindL kindOf (P.zip vs) m x=some v
 |[],_,_,_,_,h,_,_=>by simp at h
 |_::_,[],_,_,_,_,h,_=>by simp at h
 |p::P,w::vs,0,m,nd,h1,h2,hk=>by
  simp at h1 h2;subst h1;subst h2
  show bindL kindOf ((p,w)::P.zip vs) m p=_
  unfold bindL
  rw[tu fun v hv=>(fA.mp nd).1 (l_ hv).1,aD hk]
  simp
 |p::P,w::vs,i+1,m,nd,h1,h2,hk=>by
  show bindL kindOf ((p,w)::P.zip vs) m x=_
  unfold bindL
  exact tD (i:=i) (fA.mp nd).2 (by simpa using h1) (by simpa using h2) hk
theorem tF{kindOf:Str->Option NameKind}{x:Str}{v:Value}:∀{P:List Str} {vs:List Value} {i:Nat} {m:Str->Option Value},P.Nodup->P[i]?=some x->vs[i]?=some v->kindOf x≠some .local ->
  bindC kindOf (P.zip vs) m x=some v
 |[],_,_,_,_,h,_,_=>by simp at h
 |_::_,[],_,_,_,_,h,_=>by simp at h
 |p::P,w::vs,0,m,nd,h1,h2,hk=>by
  simp at h1 h2;subst h1;subst h2
  show bindC kindOf ((p,w)::P.zip vs) m p=_
  unfold bindC
  rw[tz fun v hv=>(fA.mp nd).1 (l_ hv).1,aQ hk]
  simp
 |p::P,w::vs,i+1,m,nd,h1,h2,hk=>by
  show bindC kindOf ((p,w)::P.zip vs) m x=_
  unfold bindC
  exact tF (i:=i) (fA.mp nd).2 (by simpa using h1) (by simpa using h2) hk
def pM(N:List Str)(vs:List V):St:=vs.map some++List.replicate (N.length-vs.length) none
def yP(CX:GR)(P:Program)(w:World)(K:Frag)(mg:Str->Option Value)(base:Heap)(N:List Str)(qual:Str)(scope:Scope)(f:Addr)(cd:Value)(A:Around)(outer:List Env)(s:Shared)(H:Hp)(E:XK):Cx where
 prog:=P
 w:=w
 K:=K
 mg:=mg
 base:=base
 A:=A.deeper (envOfC qual scope s.heap.objs.size f cd)
 N:=N
 s₀:=s
 H₀:=H
 env:=envOfC qual scope s.heap.objs.size f cd
 outer:=outer
 stack:=envOfC qual scope s.heap.objs.size f cd::outer
 ex:=[]
 calm:=true
 fn:=fun _=>true
 pn:=[]
 xe:=fun e s'=>wpAny (model P w) (A.deeper (envOfC qual scope s.heap.objs.size f cd)) (leaving (envOfC qual scope s.heap.objs.size f cd) e) (fun _ s''=>CX outer H s E e s'') (fun e' s''=>CX outer H s E e' s'') s'
theorem mz{sc:Scope}{n:Nat}{x:Str}(h:sc.names.lookup x=some .cell):∃c,(cellsFrom n sc.names []).lookup x=some c:=by
 have q:=PySem.W.cellsFrom_some sc.names n [] (.inl h)
 exact Option.isSome_iff_exists.mp q
theorem BD{CX:GR}{P:Program}{w:World}{K:Frag}{mg:Str->Option Value}{base:Heap}{N ps:List Str}{qual:Str}{scope:Scope}{f:Addr}{cd:Value}{A:Around}{outer:List Env}{s s1:Shared}{H:Hp}{E:XK}{us:List Value}{vs:List V}
  (S:bq N ps scope) (hd:A.handled=none) (e0:Hm P w K mg base A outer s H) (hl:vs.length=ps.length) (r:cJ vs us)
  (x:InCallC s s.heap.objs.size (bindL (envOfC qual scope s.heap.objs.size f cd).kindOf (ps.zip us) fun _=>none) (cellsFrom (s.heap.objs.size+1) scope.names []) (bindC (envOfC qual scope s.heap.objs.size f cd).kindOf (ps.zip us) fun _=>none) s1) :
  bE (yP CX P w K mg base N qual scope f cd A outer s H E) [] (pM N vs) H s1:=by
 have qJ:ps.length<=N.length:=by have:=fP List.length S.pre;rw[aY]at this;omega
 obtain⟨h1,tk,rfl,hk⟩:=x.done
 have noA:∀b:Addr,b∉(yP CX P w K mg base N qual scope f cd A outer s H E).ex:=fun b z=>absurd (show b∈([]:List Addr)from z) (by simp)
 refine⟨⟨e0.mod,S.kind,rfl,rfl,aA _,fun y z c h1 h2=>?_,fun y hy=>?_,fun y c _ h=>?_,fun _=>hd,Around.frames_deeper e0.frames,.inr ⟨rfl,rfl⟩,fun b z=>absurd z (noA b),e0.bs,e0.bsz,fun b _ _=>noA b,fun b z=>absurd z (noA b),e0.funs,e0.frf⟩,
  rfl,e0.bare,Un.kept hk,⟨_,x.toInCall.ns,fun i y v h1 h2 h3=>?_⟩,fun y c h=>⟨_,x.cell y c h⟩,e0.hok.fresh (aA _),fun y c h=>?_,fun p hp=>absurd (show p∈([]:List (Addr×Obj))from hp) (by simp),e0.hok.kept hk,?_⟩
 ·exact name_of_addr x.apart (PySem.mem_of_lookup h1) (PySem.mem_of_lookup h2)
 ·have hy:scope.names.lookup y=some .cell\/scope.names.lookup y=some .free:=hy
  rcases hy with hy|hy
  ·exact mz hy
  ·exact absurd rfl (S.nofree _ (PySem.mem_of_lookup hy))
 ·exact gE (x.above y c (PySem.mem_of_lookup h))
 ·have hi:i<vs.length:=by
   unfold pM at h2
   by_cases hi:i<vs.length
   ·exact hi
   ·rw[eU (by simpa using hi)]at h2
    rw[hX]at h2
    split at h2<;>cases h2
  have ha:vs[i]?=some v:=by
   unfold pM at h2
   rw[au (by simpa using hi),aB]at h2
   cases e:vs[i]? with
   |none=>rw[e]at h2;cases h2
   |some a=>rw[e]at h2;cases h2;rfl
  obtain⟨u,hu,rv⟩:=r.get ha
  have hp:ps[i]?=some y:=by
   rw[<- S.pre,aN (by omega)];exact h1
  have ndP:ps.Nodup:=by rw[<- S.pre];exact S.nd.sublist (kr _ _)
  refine⟨u,rv,?_⟩
  rcases S.par y (aT hp)with k|k
  ·exact .inl ⟨k,tD ndP hp hu k⟩
  ·obtain⟨c,e⟩:=mz (n:=s.heap.objs.size+1) k
   refine .inr ⟨.inl k,c,e,?_⟩
   have q:=x.cell y c e
   rw[tF ndP hp hu (by show scope.names.lookup y≠_;rw[k];decide)]at q
   exact q
 ·exact e0.hok.fresh (gE (x.above y c (PySem.mem_of_lookup h)))
 ·unfold pM
  show _=N.length
  rw[ay,av,List.length_replicate]
  omega
theorem OP{CX:GR}{P:Program}{w:World}{K:Frag}{mg:Str->Option Value}{base:Heap}{k:Nat}{f:Addr}{name qual:Str}{params:Arguments}{body:List Stmt}{scope:Scope}{dV kV qH pm fL ct oc:Value}{an od:Option Addr}
  {KJ:Array (Option Value)} {N ps:List Str} {sp:Sp} (lk:K.lookup f=some ⟨oc,od,.func (fnOf name qual params body scope dV kV qH pm an fL ct),KJ⟩) (mW:codeIn K fL qual=true) (S:bq N ps scope)
  (len:∀vs H Q E,sp vs H Q E->vs.length=ps.length)
  (yC:∀(A:Around) (outer:List Env) (s:Shared) (H:Hp) (vs:List V) (Q:VK) (E:XK),h_ k (A.deeper (envOfC qual scope s.heap.objs.size f fL))->sp vs H Q E ->
   ∃t,Bt (yP CX P w K mg base N qual scope f fL A outer s H E) body t/\t { nx:=fun _ H'=>Q .non H',rt:=Q } (pM N vs) H) :
  dG P w K mg base CX (k+1) f (fnOf name qual params body scope dV kV qH pm an fL ct) ps sp:=by
 refine⟨len,fun A outer s H args us vs Q E hr e0 hb r Oh=>?_⟩
 have hl:=len _ _ _ _ Oh
 have KX:K.In s.heap:=e0.mod.kin.keeps fun b o e=>(e0.bs b o e).1
 have lim:s.heap.NoLimit:=e0.mod.nolimit.keeps fun b o e=>(e0.bs b o e).1
 have gQ:∀y∈ps.zip us,scope.names.lookup y.1=some .local\/(scope.names.lookup y.1=some .cell/\((cellsFrom (s.heap.objs.size+1) scope.names []).lookup y.1).isSome=true):=fun⟨n,v⟩ hy=>by
  rcases S.par n (l_ hy).1 with q|q
  ·exact .inl q
  ·exact .inr ⟨q,PySem.W.cellsFrom_some _ _ _ (.inl q)⟩
 refine codeAny_call_function hr.depth (KX _ _ lk) rfl S.co S.gen rfl (PySem.W.codeRec_of KX mW) (hb _ _ _ _ ?_)
 refine wpAny_newFunctionEnv_cells S.kind gQ fun env he s1 x=>?_
 subst he
 refine⟨lim.keeps x.toInCall.keep,codeAny_func ?_⟩
 obtain⟨t,ht,hq⟩:=yC A outer s H vs Q E (hr.deeper _) Oh
 have I:bE (yP CX P w K mg base N qual scope f fL A outer s H E) [] (pM N vs) H s1:=BD S hr.hd e0 hl r x
 refine cW (ht [] s1 (pM N vs) H _ I hq) (fun fl s' hs=>?_) fun e s' hs=>hs
 have fin:∀{σ':St} {H':Hp} {v:V} {u:Value},bE (yP CX P w K mg base N qual scope f fL A outer s H E) [] σ' H' s'->cr v u->Q v H'->CE outer P w H s Q u s':=
  fun{σ' H' v u} J rv q=>⟨v,H',J.os,J.bare,J.base,J.hok,rv,q⟩
 cases fl with
 |ret u=>
  obtain⟨v,σ',H',J,rv,q⟩:=hs
  exact fin J rv q
 |next=>
  obtain⟨σ',H',J,q⟩:=hs
  exact fin (v:=V.non) (u:=Value.none) J rfl q
 |brk=>
  obtain⟨_,_,_,q⟩:=hs
  exact False.elim q
 |cont=>
  obtain⟨_,_,_,q⟩:=hs
  exact False.elim q
section
variable{X:Cx}{x:Str}{p pos:Pos}{e:Expr}{es:List Expr}{t:TA}{id T:String}{r:List V->Hp->VK->Prop}
def R3(r:List V->Hp->VK->Prop)(t:TA):TE:=fun σ H Q=>t σ H fun vs H1=>r vs H1 Q
theorem wB(hc:hU X (.builtin id) r)(hg:Gl X x)(hm:X.mg x=none)(hv:bootBuiltins x=some (.builtin id))(ha:PA X (e::es) t)(hn:x ≠ "__name__":=by decide)(Jd:(x==("__debug__":Str))=false:=by decide)
  (he:starEach (e::es) X.env=(false,eval e X.env)::starEach es X.env:=by rfl) (qJ:(backTo pos (starEach es X.env)).any (·.1)=false:=by rfl):PE X (.Call (.Name x p) (e::es) [] pos) (R3 r t):=by
 intro pins s σ H Q I h
 refine hJ (kA I hg hm hv ?_ hn Jd)
 exact PyProof.Rows.callWith_builtin1 (fY (ha pos pins s σ H _ I h) fun us s1 ⟨vs,H1,I1,r1,q1⟩=>hc pins s1 σ H1 vs us Q I1 r1 q1) he qJ
theorem BE(hc:hU X (.type T) r)(hg:Gl X x)(hm:X.mg x=none)(hv:bootBuiltins x=some (.type T))(ha:PA X (e::es) t)(hn:x ≠ "__name__":=by decide)(Jd:(x==("__debug__":Str))=false:=by decide)
  (he:starEach (e::es) X.env=(false,eval e X.env)::starEach es X.env:=by rfl) (qJ:(backTo pos (starEach es X.env)).any (·.1)=false:=by rfl):PE X (.Call (.Name x p) (e::es) [] pos) (R3 r t):=by
 intro pins s σ H Q I h
 refine hJ (kA I hg hm hv ?_ hn Jd)
 exact cz (fY (ha pos pins s σ H _ I h) fun us s1 ⟨vs,H1,I1,r1,q1⟩=>hc pins s1 σ H1 vs us Q I1 r1 q1) he qJ
end
end L2
namespace HT
open PySem PyProof.Rows
def lexLt:List Int->List Int->Bool
 |[],[]=>false
 |[],_::_=>true
 |_::_,[]=>false
 |x::xs,y::ys=>if x=y then lexLt xs ys else decide (x<y)
theorem lexLt_cons(x y:Int)(xs ys:List Int):lexLt (x::xs) (y::ys)=if x=y then lexLt xs ys else decide (x<y):=rfl
theorem lexLt_nil_nil:lexLt [] []=false:=rfl
theorem qK(y:Int)(ys:List Int):lexLt [] (y::ys)=true:=rfl
theorem qL(x:Int)(xs:List Int):lexLt (x::xs) []=false:=rfl
theorem C9(A:Around)(s:Shared)(a:Int)(t:Tok)(c:Int)(u:Tok):∃e,SeqAt.EqAt A s (.int a t) (.int c u) e/\(e=true↔a=c):=
 ⟨(a==c),SeqAt.EqAt.int_int a t c u,by simp⟩
theorem rcLt_int(A:Around)(s:Shared)(a:Int)(t:Tok)(c:Int)(u:Tok)(prog:Program)(w:World)(E:Value->Shared->Prop)(Q:Value->Shared->Prop)(h:Q (.bool (decide (a<c))) s) :
  wpAny (model prog w) A (richCompare .Lt (.int a t) (.int c u)) Q E s:=
 (PyProof.Rows.lt_int h:wpAny (model prog w) A (compareOp .Lt (.int a t) (.int c u)) Q E s)
section
open PySem.SeqAt
open PySem.AutoSeq1 (wpAny_loadPart')
open PySem.MeetsSeq PySem.MeetsSeq2 PySem.MeetsSeq3
theorem sI(l b:Addr)(items gK:Array Value)(n n2:Nat)(dd G0:Option Addr)(sl CG:Array (Option Value))(ns ms:List Int)(hi:IntsAre items.toList ns)(hj:IntsAre gK.toList ms) :
  Meets (Builtin.«tuple.__lt__» ⟨[.ref l,.ref b],[]⟩)
   (fun _ R s=>s.heap.get? l=some { cls:=.type "tuple",dict:=dd,data:=.seq items n,slots:=sl }/\s.heap.get? b=some { cls:=.type "tuple",dict:=G0,data:=.seq gK n2,slots:=CG } /\
    R (.ok (.ret (.bool (lexLt ns ms)))) s):=
 .of_wp fun prog w A R s h=>by
  obtain⟨hp,g,d,tk,os⟩:=s;obtain⟨hl,hb,h⟩:=h
  have f2:=kE
  have z1:items.size=ns.length:=by rw[<- hi.length];simp
  have z2:gK.size=ms.length:=by rw[<- hj.length];simp
  wp_walk using bU hl,bU hb,wpAny_forIn_list _ (fun d7 b s'=>b.1=none/\s'=⟨hp,g,d,tk,os⟩/\∃(vs ws:List Value) (Og Om:List Int),d7=vs.zip ws /\
   IntsAre vs Og/\IntsAre ws Om/\Og.length+gK.size=Om.length+items.size/\R (.ok (.ret (.bool (lexLt Og Om)))) ⟨hp,g,d,tk,os⟩) _
  case turn=>
   rintro⟨y,x⟩ d7 b s' ⟨hb',rfl,vs,ws,Og,Om,hz,hvi,hwi,cY,hR⟩
   cases hvi with
   |nil=>rw[kt]at hz;cases hz
   |cons a t hvi'=>
    cases hwi with
    |nil=>rw[List.zip_nil_right]at hz;cases hz
    |cons c u hwi'=>
     rw[eV]at hz
     injection hz with hyx hrest
     injection hyx with hy hx
     subst hy hx
     rw[lexLt_cons]at hR
     simp only[ba]at cY
     obtain⟨e,he,hiff⟩:=C9 A.in1 ⟨hp,g,d,tk,os⟩ a t c u
     refine ag (he prog w _ _ ?_)
     cases e with
     |true=>
      rw[aD (hiff.mp rfl)]at hR
      wp_walk
      exact⟨rfl,rfl,_,_,_,_,hrest,hvi',hwi',by omega,hR⟩
     |false=>
      rw[aQ (fun q=>absurd (hiff.mpr q) dZ)]at hR
      have hri:=rcLt_int A.in1 ⟨hp,g,d,tk,os⟩ a t c u prog w
      wp_walk using hri
      exact⟨_,rfl,by simpa using hR⟩
  case fin=>
   rintro⟨b1,b2⟩ s' ⟨hb',rfl,vs,ws,Og,Om,hz,hvi,hwi,cY,hR⟩
   simp only at hb'
   subst hb'
   have hv:lexLt Og Om=decide (items.size<gK.size):=by
    cases hvi with
    |nil=>
     cases hwi with
     |nil=>
      simp only[b9]at cY
      rw[lexLt_nil_nil]
      exact(aR (by omega)).symm
     |cons c u hw=>
      simp only[b9,ba]at cY
      rw[qK]
      exact(a8 (by omega)).symm
    |cons a t hv=>
     cases hwi with
     |nil=>
      simp only[b9,ba]at cY
      rw[qL]
      exact(aR (by omega)).symm
     |cons c u hw=>
      rw[eV]at hz
      cases hz
   rw[hv]at hR
   wp_walk
   exact⟨_,rfl,by simpa[Builtin.Tuple.tupleCompareSizes]using hR⟩
  case h=>
   exact⟨rfl,rfl,items.toList,gK.toList,ns,ms,rfl,hi,hj,by omega,h⟩
end
section
variable{prog:Program}{w:World}{A:Around}{E:Value->Shared->Prop}{s:Shared}
theorem lt_tupInts{l b:Addr}{items gK:Array Value}{ns ms:List Int}{Q:Value->Shared->Prop}(hl:IsTup s.heap l items)(hb:IsTup s.heap b gK)(hi:IntsAre items.toList ns)(hj:IntsAre gK.toList ms)
  (hu:A.units<cLine) (h:Q (.bool (lexLt ns ms)) s):wpAny (model prog w) A (compareOp .Lt (.ref l) (.ref b)) Q E s:=by
 obtain⟨⟨cls,dd,data,sl⟩,ho,hc,n,hd⟩:=id hl
 obtain⟨⟨cls2,G0,data2,CG⟩,ho2,hc2,n2,GX⟩:=id hb
 simp only at hc hd hc2 GX
 subst hc hd hc2 GX
 exact lI (op:=.Lt) ⟨_,ho,rfl⟩ ⟨_,ho2,rfl⟩ PySem.F.slot_tuple_lt PySem.F.entry_tuple_lt (PySem.F.args_tuple_lt_2 _ _) (sI l b items gK n n2 dd G0 sl CG ns ms hi hj)
  ⟨ho,ho2,show Value.bool (lexLt ns ms)≠Value.notImplemented/\Q (.bool (lexLt ns ms)) s from⟨(fun x=>nomatch x),h⟩⟩ hu
theorem cat_tup{t b:Addr}{vs ws:List Value}{Q:Value->Shared->Prop}(ht:IsTup s.heap t vs.toArray)(hb:IsTup s.heap b ws.toArray)(hv:vs≠[])
  (h1:ws=[]->Q (.ref t) s) (h2:ws≠[]->Q (.ref s.heap.objs.size) { s with heap:=s.heap.push { cls:=.type "tuple",data:=.seq (vs++ws).toArray } })
  (hsz:vs.length+ws.length<=sizeLine):wpAny (model prog w) A (binaryOp .Add (.ref t) (.ref b)) Q E s:=by
 obtain⟨⟨cls,dd,data,sl⟩,ho,hc,n,hd⟩:=id ht
 obtain⟨⟨cls2,G0,data2,CG⟩,ho2,hc2,n2,GX⟩:=id hb
 simp only at hc hd hc2 GX
 subst hc hd hc2 GX
 have e:vs.toArray++ws.toArray=(vs++ws).toArray:=by simp
 by_cases hw:ws=[]
 ·exact oO ⟨_,ho,rfl⟩ ⟨_,ho2,rfl⟩ kX nH PySem.F.slot_tuple_add PySem.F.entry_tuple_add (PySem.F.args_tuple_add_2 _ _)
   (tuple_addW1 t b vs.toArray ws.toArray n n2 dd G0 sl CG (by simpa using hv) (by simp[hw])) ⟨ho,ho2,h1 hw⟩
 ·refine oO ⟨_,ho,rfl⟩ ⟨_,ho2,rfl⟩ kX nH PySem.F.slot_tuple_add PySem.F.entry_tuple_add (PySem.F.args_tuple_add_2 _ _)
   (tuple_addW2 t b vs.toArray ws.toArray n n2 dd G0 sl CG (by simpa using hv) (by simpa using hw) (by rw[aU,aU];exact hsz)) ⟨ho,ho2,?_⟩
  rw[e]
  exact h2 hw
def sIx(n d:Nat):Option Int->Nat
 |none=>d
 |some v=>if v<0 then(v+(n:Int)).toNat else min v.toNat n
theorem sIx_none(n d:Nat):sIx n d none=d:=rfl
theorem sIx_nat(n d k:Nat):sIx n d (some (k:Int))=min k n:=by
 show(if (k:Int)<0 then((k:Int)+(n:Int)).toNat else min (k:Int).toNat n)=min k n
 rw[aQ (by omega),bB]
theorem sIx_le(n d:Nat)(hd:d<=n)(o:Option Int):sIx n d o<=n:=by
 cases o with
 |none=>exact hd
 |some v=>
  show(if v<0 then(v+(n:Int)).toNat else min v.toNat n)<=n
  by_cases hv:v<0
  ·rw[aD hv];omega
  ·rw[aQ hv];exact Nat.min_le_right _ _
theorem Av(v:Int)(n d:Nat):(if v<0 then max (v+(n:Int)) 0 else min v (n:Int))=((sIx n d (some v):Nat):Int):=by
 show(if v<0 then max (v+(n:Int)) 0 else min v (n:Int))=(((if v<0 then(v+(n:Int)).toNat else min v.toNat n):Nat):Int)
 by_cases hv:v<0
 ·simp only[aD hv];omega
 ·simp only[aQ hv];omega
theorem yQ(lo hi:Option Int)(n:Nat):Builtin.Slice.sliceAdjust lo hi 1 (n:Int)=(((sIx n 0 lo:Nat):Int),((sIx n n hi:Nat):Int)):=by
 have h1:¬ ((1:Int)<0):=by omega
 unfold Builtin.Slice.sliceAdjust
 simp only[h1,if_false]
 refine Prod.ext ?_ ?_
 ·cases lo with
  |none=>rfl
  |some v=>exact Av v n 0
 ·cases hi with
  |none=>rfl
  |some v=>exact Av v n n
theorem yR(i j:Nat):Builtin.Slice.slicePlaces (i:Int) (j:Int) 1=j-i:=by
 unfold Builtin.Slice.slicePlaces
 have h1:(1:Int)>0:=by omega
 simp only[h1,gi,Int.ediv_one]
 split<;>omega
theorem qM{v:Value}{o:Option Int}{Q:Option Int->Shared->Prop}(p:IsPart v o)(h:Q o s):wpAny (model prog w) A (Builtin.Slice.slicePartIndex v) Q E s:=by
 cases p with
 |none=>exact slicePart_none h
 |int i t=>exact slicePart_int h
theorem sliceApplied_gen{sl:Addr}{vl vu:Value}{lo hi:Option Int}{n:Nat}{Q:Int×Int×Nat->Shared->Prop}(hs:s.heap.IsSliceOf sl vl vu .none)(pl:IsPart vl lo)(pu:IsPart vu hi)
  (h:Q (((sIx n 0 lo:Nat):Int),1,sIx n n hi-sIx n 0 lo) s):wpAny (model prog w) A (Builtin.Slice.sliceApplied (.ref sl) (pure (n:Int))) Q E s:=by
 obtain⟨os,hos,hcs,Aj⟩:=id hs
 unfold Builtin.Slice.sliceApplied Builtin.Slice.sliceFields
 refine ag (ag (ce hos Aj (x:=vl) rfl (ag (ce hos Aj (x:=vu) rfl (ag (ce hos Aj (x:=.none) rfl (aI ?_)))))))
 refine ag (slicePart_none ?_)
 show wpAny _ _ (if ((1:Int)==0)=true then _ else _) _ _ s
 rw[aQ (by decide)]
 refine ag (qM pl (ag (qM pu (ag (aI ?_)))))
 show wpAny _ _ (match Builtin.Slice.sliceAdjust lo hi 1 (n:Int)with|(lo,hi)=>pure (lo,(1:Int),Builtin.Slice.slicePlaces lo hi 1)) _ _ s
 rw[yQ lo hi n]
 show wpAny _ _ (pure (((sIx n 0 lo:Nat):Int),(1:Int),Builtin.Slice.slicePlaces ((sIx n 0 lo:Nat):Int) ((sIx n n hi:Nat):Int) 1)) _ _ s
 rw[yR]
 exact aI h
theorem C_(xs:Array Value)(i k:Nat):((List.range k).filterMap fun(m:Nat)=>xs[((i:Int)+(m:Int)*1).toNat]?).toArray=((xs.toList.drop i).take k).toArray:=by
 have e:(fun(m:Nat)=>xs[((i:Int)+(m:Int)*1).toNat]?)=fun m=>xs[i+m]?:=by
  funext m
  have:((i:Int)+(m:Int)*1).toNat=i+m:=by omega
  rw[this]
 rw[e]
 have:=pick_run xs i k
 rw[List.filterMap_map]at this
 have e2:((fun x=>xs[x]?)∘fun x=>i+x)=fun m=>xs[i+m]?:=rfl
 rw[e2]at this
 rw[this]
theorem getItem_tuple_cut{t sl:Addr}{items:Array Value}{vl vu:Value}{lo hi:Option Int}{Q:Value->Shared->Prop}(ht:IsTup s.heap t items)(hs:s.heap.IsSliceOf sl vl vu .none)(pl:IsPart vl lo)(pu:IsPart vu hi)
  (hw:¬ (sIx items.size 0 lo=0/\sIx items.size items.size hi=items.size))
  (h:Q (.ref s.heap.objs.size) { s with heap:=s.heap.push { cls:=.type "tuple",data:=.seq ((items.toList.drop (sIx items.size 0 lo)).take (sIx items.size items.size hi-sIx items.size 0 lo)).toArray } })
  (hsz:items.size<=sizeLine):wpAny (model prog w) A (getItem (.ref t) (.ref sl)) Q E s:=by
 have htake:sizeOk (.seq ((items.toList.drop (sIx items.size 0 lo)).take (sIx items.size items.size hi-sIx items.size 0 lo)).toArray):=by
  show((items.toList.drop (sIx items.size 0 lo)).take (sIx items.size items.size hi-sIx items.size 0 lo)).toArray.size<=sizeLine
  rw[aU,aY,fQ,fN]
  omega
 have hj:sIx items.size items.size hi<=items.size:=sIx_le _ _ (aA _) hi
 obtain⟨os,hos,hcs,Aj⟩:=id hs
 have hTs:s.TypeIs (.ref sl) "slice":=⟨os,hos,hcs⟩
 unfold getItem
 try with_reducible refine d8 ?_
 first|refine ag (aI ?_)|skip
 refine ag (wpAny_sequenceKey ht.typeIs (by decide) ?_)
 refine ag (cf (name:=Str.ofString "__getitem__") ht.typeIs dU
  (cS dU ht.typeIs entry_tuple_getitem ?_ (args_tuple_getitem _ _)))
 show wpAny _ _ (Builtin.Tuple.tupleItemsOf (.ref t) >>= _) _ _ s
 refine ag (tupleItemsOf_ ht ?_)
 refine ag (oP hTs ?_)
 rw[aD (by decide)]
 refine ag (sliceApplied_gen hs pl pu ?_)
 have hno:¬ ((((sIx items.size 0 lo:Nat):Int)==0&&(1:Int)==1&&(sIx items.size items.size hi-sIx items.size 0 lo)==items.size)=true):=by
  intro q
  rw[cw,cw]at q
  have q1:((sIx items.size 0 lo:Nat):Int)=0:=nj q.1.1
  have q2:sIx items.size items.size hi-sIx items.size 0 lo=items.size:=nj q.2
  exact hw ⟨by omega,by omega⟩
 show wpAny _ _ (if (((sIx items.size 0 lo:Nat):Int)==0&&(1:Int)==1&&(sIx items.size items.size hi-sIx items.size 0 lo)==items.size)=true then _ else _) _ _ s
 rw[aQ hno,C_]
 first
  |exact ag (m:=Builtin.Tuple.tupleExact _) (cI (aI ⟨_,rfl,aI h⟩) htake)
  |exact ag (m:=Builtin.Tuple.tupleExact _) (cI (ag (aI (aI ⟨_,rfl,aI h⟩))) htake)
  |exact ag (ag (m:=Builtin.Tuple.tupleExact _) (cI (aI (aI ⟨_,rfl,aI h⟩)) htake))
  |exact ag (ag (m:=Builtin.Tuple.tupleExact _) (cI (aI ⟨_,rfl,aI h⟩) htake))
end
end HT
namespace L2
open PySem PySem.Spec PyProof.Rows
abbrev TO:=St->Hp->(Option Int->Hp->Prop)->Prop
def PO(X:Cx)(e:Option Expr)(t:TO):Prop:=
 ∀(pins:List (Addr×Obj)) (s:Shared) (σ:St) (H:Hp) (Q:Option Int->Hp->Prop),bE X pins σ H s->t σ H Q ->
  wpAny (model X.prog X.w) X.A (evalPart e X.env) (fun u s'=>∃o H',bE X pins σ H' s'/\IsPart u o/\Q o H') X.xe s
def Hn:TO:=fun _ H Q=>Q none H
def OQ(t:TE):TO:=fun σ H Q=>t σ H fun x H1=>∃i,x=.int i/\Q (some i) H1
theorem lg{ns:List Int}:∀{us:List Value},cJ (ns.map V.int) us->IntsAre us ns:=by
 induction ns with
 |nil=>intro us r;rw[dN]at r;cases r;exact .nil
 |cons n ns ih=>
  intro us r
  rw[aK]at r
  cases r with
  |cons r1 r2=>
   obtain⟨t,e⟩:=r1
   subst e
   exact .cons n t (ih r2)
section
variable{X:Cx}{e:Expr}{te:TE}{lo hi:Option Expr}{tl th:TO}{pos p2:Pos}
theorem Ho:PO X none Hn:=by
 intro pins s σ H Q I h
 rw[evalPart_none]
 exact aI ⟨none,H,I,.none,h⟩
theorem Hq(h:PE X e te):PO X (some e) (OQ te):=by
 intro pins s σ H Q I hw
 rw[evalPart_some]
 refine fY (h pins s σ H _ I hw) fun u s1 ⟨x,H1,I1,r1,q1⟩=>?_
 obtain⟨i,rfl,q⟩:=q1
 obtain⟨t,rfl⟩:=r1
 exact⟨some i,H1,I1,.int i t,q⟩
def OR(X:Cx)(r:V->Option Int->Option Int->Hp->VK->Prop):Prop:=
 ∀(pins:List (Addr×Obj)) (s:Shared) (σ:St) (H:Hp) (x:V) (v vl vu:Value) (lo hi:Option Int) (sl:Addr) (Q:VK),bE X pins σ H s->cr x v->s.heap.IsSliceOf sl vl vu .none->IsPart vl lo->IsPart vu hi->r x lo hi H Q ->
  ∃T id,typeLookup (.type T) "__getitem__"=pure (some (.builtin id))/\s.TypeIs v T/\wpAny (model X.prog X.w) X.A (getItem v (.ref sl)) (EP X pins σ Q) X.xe s
def Th(r:V->Option Int->Option Int->Hp->VK->Prop)(te:TE)(tl th:TO):TE:=fun σ H Q=>te σ H fun x H1=>tl σ H1 fun l H2=>th σ H2 fun u H3=>r x l u H3 Q
theorem Da{r:V->Option Int->Option Int->Hp->VK->Prop}(hr:OR X r)(he:PE X e te)(hl:PO X lo tl)(hu:PO X hi th):PE X (.Subscript e (.Slice lo hi none p2) pos) (Th r te tl th):=by
 intro pins s σ H Q I h
 refine Subscript_ (fY (he pins s σ H _ I h) fun v s1 ⟨x,H1,I1,r1,q1⟩=>?_)
 refine wpAny_Slice (fY (hl pins s1 σ H1 _ I1 q1) fun vl s2 ⟨l,H2,I2,pl,q2⟩=>fY (hu pins s2 σ H2 _ I2 q2) fun vu s3 ⟨u,H3,I3,pu,q3⟩=>?_)
 rw[evalPart_none]
 refine aI ?_
 have I4:bE X pins σ H3 { s3 with heap:=s3.heap.push { cls:=.type "slice",data:=.fields #[vl,vu,.none] } }:=I3.kept (t':=s3.toks) fun b ob q=>aq _ q
 obtain⟨T,id,hT,ht,hg⟩:=hr pins { s3 with heap:=s3.heap.push { cls:=.type "slice",data:=.fields #[vl,vu,.none] } } σ H3 x v vl vu l u s3.heap.objs.size Q I4 r1 (Heap.IsSliceOf.new ..) pl pu q3
 show wpAny (model X.prog X.w) X.A (subscriptTail e (.Slice lo hi none p2) v (.ref s3.heap.objs.size)) (EP X pins σ Q) X.xe { s3 with heap:=s3.heap.push { cls:=.type "slice",data:=.fields #[vl,vu,.none] } }
 exact tail_any (ops:=[.ref s3.heap.objs.size,v]) ht hT hg (by with_unfolding_all rfl)
def qN(xs:List V)(lo hi:Option Int):List V:=(xs.drop (HT.sIx xs.length 0 lo)).take (HT.sIx xs.length xs.length hi-HT.sIx xs.length 0 lo)
theorem pO(xs:List V)(lo hi:Option Int):(qN xs lo hi).length<=xs.length:=by
 unfold qN
 rw[aY,fQ]
 omega
def R4(K:Frag):V->Option Int->Option Int->Hp->VK->Prop:=fun x lo hi H Q=>∃a xs,x=.ref a/\fg K H a xs /\
 ¬ (HT.sIx xs.length 0 lo=0/\HT.sIx xs.length xs.length hi=xs.length)/\∀p,H p=none->Q (.ref p) (fm H p (.tup (qN xs lo hi)))
theorem Lo:OR X (R4 X.K):=by
 intro pins s σ H x v vl vu lo hi sl Q I rx hs pl pu h
 obtain⟨a,xs,rfl,hx,hw,q⟩:=h
 cases rx
 obtain⟨bC,r,ht,hz⟩:=I.tuple hx
 have cY:bC.toArray.size=xs.length:=by rw[aU];exact r.length.symm
 refine⟨"tuple",_,dU.lookup,ht.typeIs,?_⟩
 refine HT.getItem_tuple_cut ht hs pl pu (by rw[cY];exact hw) ?_ (by rw[cY];exact hz)
 rw[cY]
 refine⟨.ref s.heap.objs.size,_,I.laid (t':=s.toks) (o:=.tup (qN xs lo hi)) (fun b ob q=>aq _ q) (aA _) ?_,rfl,q _ (I.hok.fresh (aA _))⟩
 exact⟨bn (pO xs lo hi) hz,_,(r.drop (HT.sIx xs.length 0 lo)).take (HT.sIx xs.length xs.length hi-HT.sIx xs.length 0 lo),IsTup.new _ _⟩
def R5(K:Frag):R2:=fun x y H Q=>∃a b ns ms,x=.ref a/\y=.ref b/\fg K H a (ns.map V.int)/\fg K H b (ms.map V.int)/\Q (.bl (HT.lexLt ns ms)) H
theorem Lp(hu:X.A.units<cLine):lf X (compareOp .Lt) (R5 X.K):=by
 intro pins s σ H x y v u Q I rx ry h
 obtain⟨a,b,ns,ms,rfl,rfl,ha,hb,q⟩:=h
 cases rx
 cases ry
 obtain⟨bC,r1,p1,_⟩:=I.tuple ha
 obtain⟨its2,r2,p2,_⟩:=I.tuple hb
 have i1:IntsAre bC.toArray.toList ns:=lg r1
 have i2:IntsAre its2.toArray.toList ms:=lg r2
 exact HT.lt_tupInts p1 p2 i1 i2 hu ⟨.bl (HT.lexLt ns ms),H,I,rfl,q⟩
def OS(K:Frag):R2:=fun x y H Q=>∃a b xs ys,x=.ref a/\y=.ref b/\fg K H a xs/\fg K H b ys/\xs≠[]/\xs.length+ys.length<=sizeLine /\
 (ys=[]->Q (.ref a) H)/\(ys≠[]->∀p,H p=none->Q (.ref p) (fm H p (.tup (xs++ys))))
theorem cJ.nil_iff{xs:List V}{us:List Value}(r:cJ xs us):us=[]↔xs=[]:=by
 cases r with
 |nil=>simp
 |cons _ _=>simp
theorem Hr:lf X (binaryOp .Add) (OS X.K):=by
 intro pins s σ H x y v u Q I rx ry h
 obtain⟨a,b,xs,ys,rfl,rfl,ha,hb,hx,hz,q1,q2⟩:=h
 cases rx
 cases ry
 obtain⟨bC,r1,p1,_⟩:=I.tuple ha
 obtain⟨its2,r2,p2,_⟩:=I.tuple hb
 refine HT.cat_tup p1 p2 (fun z=>hx (r1.nil_iff.mp z)) (fun z=>⟨.ref a,H,I,rfl,q1 (r2.nil_iff.mp z)⟩) (fun z=>?_) (by rw[<- r1.length,<- r2.length];exact hz)
 refine⟨.ref s.heap.objs.size,_,I.laid (t':=s.toks) (o:=.tup (xs++ys)) (fun b ob q=>aq _ q) (aA _) ?_,rfl,q2 (fun w=>z (r2.nil_iff.mpr w)) _ (I.hok.fresh (aA _))⟩
 exact⟨by rw[ay];exact hz,_,r1.append r2,IsTup.new _ _⟩
theorem wC:hU X (.type "tuple") (fun xs H Q=>∃a ys,xs=[.ref a]/\fg X.K H a ys/\Q (.ref a) H):=by
 intro pins s σ H xs us Q I r h
 obtain⟨a,ys,rfl,ha,q⟩:=h
 obtain⟨u,rfl,ru⟩:=lV r
 cases ru
 obtain⟨bC,_,p1,_⟩:=I.tuple ha
 exact call_tuple_same (items:=bC.toArray) p1 ⟨.ref a,H,I,rfl,q⟩
end
def Aw(n:Nat)(i:Int):Option Nat:=if 0<=i then(if i<n then some i.toNat else none)else if -(n:Int)<=i then some (i+n).toNat else none
def oV{α:Type}(xs:List α)(i:Int):Option α:=(Aw xs.length i).bind fun j=>xs[j]?
theorem Ax{n:Nat}{i:Int}{j:Nat}(h:Aw n i=some j):seqIndex? i n=some j/\j<n/\-(n:Int)<=i/\i<n:=by
 unfold Aw at h
 by_cases h0:0<=i
 ·rw[aD h0]at h
  by_cases h1:i<n
  ·rw[aD h1]at h
   have e:i.toNat=j:=a_ h
   exact⟨by rw[seqIndex_of h0 h1,e],by omega,by omega,h1⟩
  ·rw[aQ h1]at h;cases h
 ·rw[aQ h0]at h
  by_cases h1:-(n:Int)<=i
  ·rw[aD h1]at h
   have e:(i+n).toNat=j:=a_ h
   exact⟨by rw[oQ (by omega) h1,e],by omega,h1,by omega⟩
  ·rw[aQ h1]at h;cases h
theorem uG{α:Type}{xs:List α}{i:Int}{v:α}(h:oV xs i=some v):∃j,seqIndex? i xs.length=some j/\xs[j]?=some v/\j<xs.length/\-(xs.length:Int)<=i/\i<xs.length:=by
 unfold oV at h
 cases e:Aw xs.length i with
 |none=>rw[e]at h;cases h
 |some j=>
  rw[e]at h
  obtain⟨h1,h2,h3,h4⟩:=Ax e
  exact⟨j,h1,h,h2,h3,h4⟩
def Ay(b:Expr):Prop:=∀o i,subscripted b false o i=operate [o,i] (getItem o i)
def GS(X:Cx)(r:R2):Prop:=
 ∀(value slice:Expr) (pins:List (Addr×Obj)) (s:Shared) (σ:St) (H:Hp) (x y:V) (v u:Value) (Q:VK),bE X pins σ H s->cr x v->cr y u->r x y H Q ->
  subscripted slice false v u=operate [v,u] (getItem v u)->wpAny (model X.prog X.w) X.A (subscriptTail value slice v u) (EP X pins σ Q) X.xe s
def BF(X:Cx)(id:String)(r:V->List V->Hp->VK->Prop):Prop:=
 ∀(pins:List (Addr×Obj)) (s:Shared) (σ:St) (H:Hp) (x:V) (xs:List V) (v:Value) (us:List Value) (Q:VK),bE X pins σ H s->cr x v->cJ xs us->r x xs H Q ->
  wpAny (model X.prog X.w) X.A (call (.builtin id) (v::us)) (EP X pins σ Q) X.xe s
section
variable{X:Cx}{a b:Expr}{ta tb:TE}{pos:Pos}
theorem GS.or{r r':R2}(h:GS X r)(h':GS X r'):GS X (fun x y H Q=>r x y H Q\/r' x y H Q):=by
 intro value slice pins s σ H x y v u Q I rx ry q hs
 rcases q with q|q
 ·exact h value slice pins s σ H x y v u Q I rx ry q hs
 ·exact h' value slice pins s σ H x y v u Q I rx ry q hs
theorem OT{r:R2}(hr:GS X r)(ha:PE X a ta)(hb:PE X b tb)(hs:Ay b):PE X (.Subscript a b pos) (OG r ta tb):=by
 intro pins s σ H Q I h
 exact Subscript_ (Lb ha hb I h fun v u s2 x y H2 I2 rx ry q=>hr a b pins s2 σ H2 x y v u Q I2 rx ry q (hs _ _))
def OU(K:Frag):R2:=fun x y H Q=>∃p xs i v,x=.ref p/\y=.int i/\pL K H p xs/\oV xs i=some v/\Q v H
def OV(K:Frag):R2:=fun x y H Q=>∃p xs i v,x=.ref p/\y=.int i/\fg K H p xs/\oV xs i=some v/\Q v H
def OW:R2:=fun x y H Q=>∃z i c,x=.str z/\y=.int i/\z.length<=sizeLine/\oV z.cps.toList i=some c/\Q (.str ⟨#[c]⟩) H
theorem Hs:GS X (OU X.K):=by
 intro value slice pins s σ H x y v u Q I rx ry h hs
 obtain⟨p,xs,i,z,rfl,rfl,hq,he,q⟩:=h
 cases rx
 obtain⟨t,rfl⟩:=ry
 obtain⟨bC,r,pl,hz⟩:=I.list hq
 obtain⟨j,h1,h2,h3,h4,h5⟩:=uG he
 obtain⟨w,ew,kn⟩:=r.get h2
 have hl:=r.length
 have hn:=oY
 have fin:EP X pins σ Q w s:=⟨z,H,I,kn,q⟩
 by_cases h0:0<=i
 ·have hj:i.toNat=j:=by
   rw[seqIndex_of h0 h5]at h1
   exact a_ h1
  exact item_listR pl.isList h0 (by omega) (by rw[hj];simpa using ew) fin hs
 ·have hj:(i+(bC.toArray.size:Int)).toNat=j:=by
   rw[oQ (by omega) h4]at h1
   rw[aU,<- hl]
   exact a_ h1
  exact lJ (x:=w) pl.isList.typeIs slot_list_getitem.lookup
   (wpAny_getItem_list_neg (Q:=fun r s'=>r=w/\EP X pins σ Q r s') pl.isList (by omega) (by rw[aU]<;>omega) (by omega) (by rw[hj];simpa using ew) ⟨rfl,fin⟩) hs
theorem Lq:GS X (OV X.K):=by
 intro value slice pins s σ H x y v u Q I rx ry h hs
 obtain⟨p,xs,i,z,rfl,rfl,hq,he,q⟩:=h
 cases rx
 obtain⟨t,rfl⟩:=ry
 obtain⟨bC,r,pl,hz⟩:=I.tuple hq
 obtain⟨j,h1,h2,h3,h4,h5⟩:=uG he
 obtain⟨w,ew,kn⟩:=r.get h2
 have hl:=r.length
 have hn:=oY
 have fin:EP X pins σ Q w s:=⟨z,H,I,kn,q⟩
 exact lJ (x:=w) pl.typeIs slot_tuple_getitem.lookup
  (getItem_tuple (j:=j) (Q:=fun r s'=>r=w/\EP X pins σ Q r s') pl (by omega) (by omega) (by rw[aU,<- hl];exact h1) (by simpa using ew) ⟨rfl,fin⟩) hs
theorem Lr:GS X OW:=by
 intro value slice pins s σ H x y v u Q I rx ry h hs
 obtain⟨z,i,c,rfl,rfl,hz,he,q⟩:=h
 obtain⟨t,rfl⟩:=rx
 obtain⟨t',rfl⟩:=ry
 obtain⟨j,h1,h2,h3,h4,h5⟩:=uG he
 have hl:z.cps.toList.length=z.length:=by simp[Str.length]
 rw[hl]at h1 h4 h5
 have hn:=oY
 exact tail_any (iN s z t) slot_str_getitem.lookup (getItem_str (c:=c) (by
  have e1:decide (i < -(2^63:Int))=false:=aR (by omega)
  have e2:decide (i≥2^63)=false:=aR (by omega)
  rw[e1,e2,Bool.or_false]) (by rw[h1];simpa using h2) ⟨.str ⟨#[c]⟩,H,I.tok _,⟨_,rfl⟩,q⟩) hs
def Ti(K:Frag):R2:=fun x y H Q=>OU K x y H Q\/OV K x y H Q\/OW x y H Q
theorem Ls:GS X (Ti X.K):=Hs.or (Lq.or Lr)
theorem yS(bC:List Value)(n j:Nat)(u:Value):Obj.mapSeq (·.setIfInBounds j u) { cls:=.type "list",data:=.seq bC.toArray n }={ cls:=.type "list",data:=.seq (bC.set j u).toArray n }:=by
 simp[Obj.mapSeq]
theorem bE.lst{pins:List (Addr×Obj)}{σ:St}{H:Hp}{s:Shared}{p:Addr}{xs:List V}(I:bE X pins σ H s)(h:H p=some (.lst xs)) :
  ∃(bC:List Value) (n:Nat),cJ xs bC/\s.heap.get? p=some { cls:=.type "list",data:=.seq bC.toArray n }/\xs.length<=sizeLine:=by
 obtain⟨z,bC,n,r,e⟩:=I.hok p _ h
 exact⟨bC,n,r,e,z⟩
theorem bE.lstUpd{pins:List (Addr×Obj)}{σ:St}{H:Hp}{s:Shared}{p:Addr}{xs ys:List V}{bC its':List Value}{n n':Nat}{f:Obj->Obj}(I:bE X pins σ H s)(h:H p=some (.lst xs))
  (ho:s.heap.get? p=some { cls:=.type "list",data:=.seq bC.toArray n }) (hf:f { cls:=.type "list",data:=.seq bC.toArray n }={ cls:=.type "list",data:=.seq its'.toArray n' }) (r:cJ ys its') (hz:ys.length<=sizeLine) (t:Nat) :
  bE X pins σ (fm H p (.lst ys)) { s with heap:=s.heap.update p f,toks:=t }:=by
 have e:(s.heap.update p f).get? p=some { cls:=.type "list",data:=.seq its'.toArray n' }:=by
  rw[f' f ho (by rw[hf]<;>rfl),hf]
 refine I.write (x:=p) (e:=p) (by rw[h];trivial) (.inl rfl) (fun b u hb q=>(eN _ _ (Ne.symm hb)).trans q) ⟨_,e⟩ ?_
 exact⟨hz,its',n',r,e⟩
def OX:V->V->V->Hp->(Hp->Prop)->Prop:=fun o i v H Q=>∃p xs k j,o=.ref p/\i=.int k/\H p=some (.lst xs)/\Aw xs.length k=some j/\Q (fm H p (.lst (xs.set j v)))
theorem Db:Bu X OX:=by
 intro pins s σ H o i v ov iv u Q I ro ri rv h
 obtain⟨p,xs,k,j,rfl,rfl,hp,hj,q⟩:=h
 cases ro
 obtain⟨t,rfl⟩:=ri
 obtain⟨bC,n,r,ho,hz⟩:=I.lst hp
 obtain⟨h1,h2,h3,h4⟩:=Ax hj
 have hl:=r.length
 have hn:=oY
 have I':bE X pins σ (fm H p (.lst (xs.set j v))) { s with heap:=s.heap.update p (Obj.mapSeq (·.setIfInBounds j u)) }:=
  I.lstUpd hp ho (yS bC n j u) (r.set rv j) (by rw[List.length_set];exact hz) s.toks
 by_cases h0:0<=k
 ·have hk:k.toNat=j:=by
   rw[seqIndex_of h0 h4]at h1
   exact a_ h1
  exact PySem.W.ki_setAt ho h0 (by omega) (by rw[aU,<- hl];exact h4) (by rw[hk];exact⟨_,I',q⟩)
 ·have hk:(k+(bC.toArray.size:Int)).toNat=j:=by
   rw[oQ (by omega) h3]at h1
   rw[aU,<- hl]
   exact a_ h1
  exact PySem.W.ki_setBack ho (by omega) (by rw[aU,<- hl];exact h3) (by omega) (by rw[hk];exact⟨_,I',q⟩)
theorem uH(lo hi:Option Int)(n:Nat):(sliceBounds lo hi none n).1=((HT.sIx n 0 lo:Nat):Int)/\(sliceBounds lo hi none n).2.1=((HT.sIx n n hi:Nat):Int)/\(sliceBounds lo hi none n).2.2=1:=by
 refine⟨?_,?_,rfl⟩
 ·cases lo with
  |none=>simp[sliceBounds,HT.sIx]
  |some i=>
   simp only[sliceBounds,HT.sIx,Option.getD_none,show(1:Int)>0 by decide,gi]
   by_cases h:i<0
   ·simp only[h,gi]<;>omega
   ·simp only[h,if_false]<;>omega
 ·cases hi with
  |none=>simp[sliceBounds,HT.sIx]
  |some i=>
   simp only[sliceBounds,HT.sIx,Option.getD_none,show(1:Int)>0 by decide,gi]
   by_cases h:i<0
   ·simp only[h,gi]<;>omega
   ·simp only[h,if_false]<;>omega
theorem sJ(bC:List Value)(lo hi:Option Int):slicePick bC.toArray lo hi none=((bC.drop (HT.sIx bC.length 0 lo)).take (HT.sIx bC.length bC.length hi-HT.sIx bC.length 0 lo)).toArray:=by
 obtain⟨h1,h2,h3⟩:=uH lo hi bC.toArray.size
 unfold slicePick
 rw[h1,h2,h3]
 simp only[sliceRange_one,pick_run,aU]<;>rfl
def R6(K:Frag):V->Option Int->Option Int->Hp->VK->Prop:=fun x lo hi H Q=>∃a xs,x=.ref a/\pL K H a xs/\∀p,H p=none->Q (.ref p) (fm H p (.lst (qN xs lo hi)))
theorem Ht:OR X (R6 X.K):=by
 intro pins s σ H x v vl vu lo hi sl Q I rx hs pl pu h
 obtain⟨a,xs,rfl,hx,q⟩:=h
 cases rx
 obtain⟨bC,r,ht,hz⟩:=I.list hx
 have cY:=r.length
 refine⟨"list",_,slot_list_getitem.lookup,ht.isList.typeIs,?_⟩
 refine wpAny_getItem_list_slice ht.isList hs pl pu .none (by simp) ?_ (by rw[aU]<;>omega)
 rw[sJ,<- cY]
 refine⟨.ref s.heap.objs.size,_,I.laid (t':=s.toks) (o:=.lst (qN xs lo hi)) (fun b ob q=>aq _ q) (aA _) ?_,rfl,q _ (I.hok.fresh (aA _))⟩
 exact⟨bn (pO xs lo hi) hz,_,0,(r.drop (HT.sIx xs.length 0 lo)).take (HT.sIx xs.length xs.length hi-HT.sIx xs.length 0 lo),aH _ rfl⟩
theorem oh:hU X (.builtin "len") (fun xs H Q=>∃p ys,xs=[.ref p]/\(pL X.K H p ys\/fg X.K H p ys)/\Q (.int ys.length) H):=by
 intro pins s σ H xs us Q I r h
 obtain⟨p,ys,rfl,hq,q⟩:=h
 obtain⟨u,rfl,rx⟩:=lV r
 cases rx
 have hn:=oY
 rcases hq with hq|hq
 ·obtain⟨bC,r',pl,hz⟩:=I.list hq
  have cY:=r'.length
  exact Calls.call_len_list pl.isList (by simp only[aU]<;>omega) ⟨.int ys.length,H,I.tok _,⟨s.toks+1,by rw[aU,cY]⟩,q⟩
 ·obtain⟨bC,r',pl,hz⟩:=I.tuple hq
  have cY:=r'.length
  exact len_tuple pl (by simp only[aU]<;>omega) ⟨.int ys.length,H,I.tok _,⟨s.toks+1,by rw[aU,cY]⟩,q⟩
theorem uI:hU X (.builtin "len") (fun xs H Q=>∃z,xs=[.str z]/\z.length<=sizeLine/\Q (.int z.length) H):=by
 intro pins s σ H xs us Q I r h
 obtain⟨z,rfl,hz,q⟩:=h
 obtain⟨u,rfl,t,rfl⟩:=lV r
 have hn:=oY
 exact len_str (by omega) ⟨.int z.length,H,I.tok _,⟨_,rfl⟩,q⟩
theorem uJ:hU X (.type "list") (fun xs H Q=>∃p ys,xs=[.ref p]/\(pL X.K H p ys\/fg X.K H p ys)/\∀l,H l=none->Q (.ref l) (fm H l (.lst ys))):=by
 intro pins s σ H xs us Q I r h
 obtain⟨p,ys,rfl,hq,q⟩:=h
 obtain⟨u,rfl,rx⟩:=lV r
 cases rx
 have fin:∀(bC:List Value),cJ ys bC->ys.length<=sizeLine->∀(h':Heap) (c':Nat),(∀b o',s.heap.get? b=some o'->h'.get? b=some o') ->
   h'.get? s.heap.objs.size=some { cls:=.type "list",dict:=none,data:=.seq bC.toArray c',slots:=#[] }->EP X pins σ Q (.ref s.heap.objs.size) { s with heap:=h' }:=fun bC r' hz h' c' kp e=>
  ⟨.ref s.heap.objs.size,_,I.laid (t':=s.toks) kp (aA _) (show e_ X.prog X.w _ h' _ (.lst ys)from⟨hz,bC,c',r',e⟩),rfl,q _ (I.hok.fresh (aA _))⟩
 rcases hq with hq|hq
 ·obtain⟨bC,r',pl,hz⟩:=I.list hq
  have cY:=r'.length
  obtain⟨o,ho,hc,n,hd⟩:=pl.isList
  exact call_list_seq p (.inl rfl) ho hc hd (fun h' c' kp e=>fin bC r' hz h' c' kp e) (by simp only[aU]<;>omega)
 ·obtain⟨bC,r',pl,hz⟩:=I.tuple hq
  have cY:=r'.length
  obtain⟨o,ho,hc,n,hd⟩:=pl
  exact call_list_seq p (.inr rfl) ho hc hd (fun h' c' kp e=>fin bC r' hz h' c' kp e) (by simp only[aU]<;>omega)
theorem sK:hU X (.type "tuple") (fun xs H Q=>∃p ys,xs=[.ref p]/\((pL X.K H p ys/\∀l,H l=none->Q (.ref l) (fm H l (.tup ys)))\/(fg X.K H p ys/\Q (.ref p) H))):=by
 intro pins s σ H xs us Q I r h
 obtain⟨p,ys,rfl,h⟩:=h
 obtain⟨u,rfl,rx⟩:=lV r
 cases rx
 rcases h with⟨hq,q⟩|⟨hq,q⟩
 ·obtain⟨bC,r',pl,hz⟩:=I.list hq
  have cY:=r'.length
  refine call_tuple_list pl.isList (fun h' kp=>?_) (by simp only[aU]<;>omega)
  have I1:bE X pins σ H { s with heap:=h' }:=I.kept (t':=s.toks) kp
  have I2:bE X pins σ (fm H h'.objs.size (.tup ys)) { s with heap:=h'.push { cls:=.type "tuple",data:=.seq bC.toArray } }:=
   I1.laid (t':=s.toks) (fun b o e=>aq _ e) (aA _) (show e_ X.prog X.w _ _ _ (.tup ys)from⟨hz,bC,r',IsTup.new _ _⟩)
  exact⟨.ref h'.objs.size,_,I2,rfl,q _ (I1.hok.fresh (aA _))⟩
 ·obtain⟨bC,r',pl,hz⟩:=I.tuple hq
  exact call_tuple_same pl ⟨.ref p,H,I,rfl,q⟩
def Rm(K:Frag)(T:String)(x:V)(H:Hp):Prop:=match x with
 |.str _=>T="str"
 |.int _=>T="int"
 |.ref p=>(T="list"/\∃xs,pL K H p xs)\/(T="tuple"/\∃o,K.lookup p=some o/\o.cls=.type "tuple"/\o.dict=none) \/
   (T="dict"/\((∃kvs,H p=some (.dK kvs))\/∃kvs,H p=some (.dT kvs)))\/(T="set"/\∃S n,H p=some (.set S n))
 |_=>False
theorem Dc{pins:List (Addr×Obj)}{σ:St}{H:Hp}{s:Shared}{T:String}{x:V}{v:Value}(I:bE X pins σ H s)(r:cr x v)(ty:Rm X.K T x H) :
  s.TypeIs v T/\∀a,v=.ref a->∃ob,s.heap.get? a=some ob/\ob.dict=none:=by
 cases x with
 |str z=>
  obtain⟨t,rfl⟩:=r
  cases(show T="str" from ty)
  exact⟨iN s z t,fun _ e=>nomatch e⟩
 |int i=>
  obtain⟨t,rfl⟩:=r
  cases(show T="int" from ty)
  exact⟨typeIs_int s i t,fun _ e=>nomatch e⟩
 |ref p=>
  cases r
  rcases ty with⟨rfl,xs,hq⟩|⟨rfl,o,hk,hc,hd⟩|⟨rfl,hk⟩|⟨rfl,S,n,hk⟩
  ·obtain⟨bC,_,pl,_⟩:=I.list hq
   refine⟨pl.isList.typeIs,fun a e=>?_⟩
   cases e
   obtain⟨o,n,e,c,hd,_⟩:=pl
   exact⟨o,e,hd⟩
  ·refine⟨⟨o,I.kIn p o hk,hc⟩,fun a e=>?_⟩
   cases e
   exact⟨o,I.kIn _ o hk,hd⟩
  ·have z:∃o,s.heap.get? p=some o/\o.ExactDict:=by
    rcases hk with⟨kvs,hk⟩|⟨kvs,hk⟩
    ·obtain⟨_,_,_,_,o,_,_,e,ex,_⟩:=I.hok p _ hk
     exact⟨o,e,ex⟩
    ·obtain⟨_,_,_,_,o,_,_,e,ex,_⟩:=I.hok p _ hk
     exact⟨o,e,ex⟩
   obtain⟨o,e,ex⟩:=z
   refine⟨⟨o,e,ex.1⟩,fun a e2=>?_⟩
   cases e2
   exact⟨o,e,ex.2.1⟩
  ·obtain⟨o,_,_,_,e,ex,_⟩:=I.hok p _ hk
   refine⟨⟨o,e,ex.1⟩,fun a e2=>?_⟩
   cases e2
   exact⟨o,e,ex.2.1⟩
 |_=>exact False.elim ty
variable{o e:Expr}{es:List Expr}{to:TE}{t:TA}{name:Str}{gq dM:Pos}{T id:String}{r:V->List V->Hp->VK->Prop}
end
def R7(X:Cx)(id:String)(r:V->List V->Hp->VK->Prop):Prop:=
 ∀(pins:List (Addr×Obj)) (s:Shared) (σ:St) (H:Hp) (x:V) (xs:List V) (v:Value) (us:List Value) (Q:VK),bE X pins σ H s->cr x v->cJ xs us->r x xs H Q ->
  wpAny (model X.prog X.w) X.A (call (.builtin id) (v::us)) (EP X pins σ Q) X.xe s
theorem cJ.one:∀{x:V} {us:List Value},cJ [x] us->∃u,us=[u]/\cr x u
 |_,_,.cons r .nil=>⟨_,rfl,r⟩
theorem cJ.two:∀{x y:V} {us:List Value},cJ [x,y] us->∃u v,us=[u,v]/\cr x u/\cr y v
 |_,_,_,.cons r (.cons q .nil)=>⟨_,_,rfl,r,q⟩
theorem cJ.zero:∀{us:List Value},cJ [] us->us=[]
 |_,.nil=>rfl
theorem cJ.dropLast{xs:List V}{us:List Value}(h:cJ xs us):cJ xs.dropLast us.dropLast:=by
 induction h with
 |nil=>exact .nil
 |cons r t ih=>
  cases t with
  |nil=>exact .nil
  |cons q t'=>exact .cons r ih
theorem yT{α:Type}(l:List α):l.eraseIdx (l.length-1)=l.dropLast:=by
 induction l with
 |nil=>rfl
 |cons a r ih=>
  cases r with
  |nil=>rfl
  |cons b r=>
   have e:(a::b::r).length-1=((b::r).length-1)+1:=by
    have h1:(a::b::r).length=r.length+2:=rfl
    have h2:(b::r).length=r.length+1:=rfl
    omega
   rw[e,List.eraseIdx_cons_succ,ih]
   all_goals rfl
section
variable{X:Cx}{pins:List (Addr×Obj)}{σ:St}{H:Hp}{s:Shared}{l b:Addr}{xs ys zs:List V}
theorem bE.lset{bC its':List Value}{n:Nat}{f:Array Value->Array Value}{t':Nat}(I:bE X pins σ H s)(hH:H l=some (.lst xs))
  (e:s.heap.get? l=some { cls:=.type "list",data:=.seq bC.toArray n }) (hf:f bC.toArray=its'.toArray) (hv:cJ ys its') (hz:ys.length<=sizeLine) :
  bE X pins σ (fm H l (.lst ys)) { s with heap:=s.heap.update l (Obj.mapSeq f),toks:=t' }:=by
 have q:=PySem.IsL.update e f
 rw[hf]at q
 refine I.write (x:=l) (e:=l) (by rw[hH];exact trivial) (.inl rfl) (fun b' u hb hu=>(eN s.heap (Obj.mapSeq f) (Ne.symm hb)).trans hu) ⟨_,q⟩ ?_
 exact⟨hz,its',_,hv,q⟩
theorem bE.lnew{bC:List Value}{t':Nat}(I:bE X pins σ H s)(hv:cJ ys bC)(hz:ys.length<=sizeLine) :
  bE X pins σ (fm H s.heap.objs.size (.lst ys)) { s with heap:=s.heap.push { cls:=.type "list",data:=.seq bC.toArray },toks:=t' }:=
 I.laid (fun _ _ q=>aq _ q) (aA _) ⟨hz,bC,0,hv,aH _ rfl⟩
theorem bE.fresh(I:bE X pins σ H s):H s.heap.objs.size=none:=I.hok.fresh (aA _)
theorem bE.lstM(I:bE X pins σ H s)(hH:H l=some (.lst xs)):xs.length<=sizeLine/\∃(bC:List Value) (n:Nat),cJ xs bC/\xs.length=bC.length/\s.heap.get? l=some { cls:=.type "list",data:=.seq bC.toArray n }:=by
 obtain⟨z,bC,n,r,e⟩:=I.hok l _ hH
 exact⟨z,bC,n,r,r.length,e⟩
end
section
variable{X:Cx}
def Az:V->List V->Hp->VK->Prop:=fun x vs H Q=>∃l xs y,x=.ref l/\vs=[y]/\H l=some (.lst xs)/\xs.length<sizeLine/\Q .non (fm H l (.lst (xs++[y])))
theorem BG:R7 X "list.append" Az:=by
 intro pins s σ H x vs v us Q I rx rv h
 obtain⟨l,xs,y,rfl,rfl,hH,hz,q⟩:=h
 cases rx
 obtain⟨u,rfl,ru⟩:=rv.one
 obtain⟨z,bC,n,r,hl,e⟩:=I.lstM hH
 refine n6 F.slot_list_append ⟨_,e,rfl⟩ F.entry_list_append (F.args_list_append_2 _ _) (PySem.list_append l bC.toArray n u (by rw[aU];omega)) ⟨e,?_⟩
 refine⟨.non,_,I.lset (its':=bC++[u]) hH e (by simp) (r.append (.cons ru .nil)) ?_,rfl,q⟩
 rw[ay,List.length_singleton]
 omega
def OY:V->List V->Hp->VK->Prop:=fun x vs H Q=>∃l xs y,x=.ref l/\vs=[]/\H l=some (.lst xs)/\xs[xs.length-1]?=some y/\Q y (fm H l (.lst xs.dropLast))
theorem Lu:R7 X "list.pop" OY:=by
 intro pins s σ H x vs v us Q I rx rv h
 obtain⟨l,xs,y,rfl,rfl,hH,hy,q⟩:=h
 cases rx
 have hus:=rv.zero
 subst hus
 obtain⟨z,bC,n,r,hl,e⟩:=I.lstM hH
 obtain⟨u,hu,ru⟩:=r.get hy
 have hy':bC.toArray[bC.toArray.size-1]?=some u:=by
  show bC.toArray[bC.length-1]?=some u
  rw[<- Array.getElem?_toList,<- hl]
  exact hu
 refine n6 F.slot_list_pop ⟨_,e,rfl⟩ F.entry_list_pop (F.args_list_pop_1 _) (MeetsSeq.list_pop_last l bC.toArray n u hy' (by rw[aU];omega)) ⟨e,?_⟩
 refine⟨y,_,I.lset (its':=bC.dropLast) hH e ?_ r.dropLast ?_,ru,q⟩
 ·show bC.toArray.eraseIdxIfInBounds (bC.toArray.size-1)=bC.dropLast.toArray
  rw[aU,List.eraseIdxIfInBounds_toArray,yT]
 ·rw[List.length_dropLast]
  omega
def R8:R2:=fun x y H Q=>∃l b xs zs,x=.ref l/\y=.ref b/\H l=some (.lst xs)/\H b=some (.lst zs)/\xs.length+zs.length<=sizeLine/\∀p,H p=none->Q (.ref p) (fm H p (.lst (xs++zs)))
theorem Lv:lf X (binaryOp .Add) R8:=by
 intro pins s σ H x y v u Q I rx ry h
 obtain⟨l,b,xs,zs,rfl,rfl,hH,hB,hz,q⟩:=h
 cases rx
 cases ry
 obtain⟨z,bC,n,r,hl,e⟩:=I.lstM hH
 obtain⟨z2,its2,n2,r2,hl2,e2⟩:=I.lstM hB
 refine PySem.P.add_list e e2 ?_ (by rw[aU,aU];omega)
 have ea:bC.toArray++its2.toArray=(bC++its2).toArray:=by simp
 rw[ea]
 exact⟨.ref _,_,I.lnew (t':=s.toks) (r.append r2) (by rw[ay];omega),rfl,q _ I.fresh⟩
end
section
variable{prog:Program}{w:World}{A:Around}{E:Value->Shared->Prop}{s:Shared}
end
section
variable{X:Cx}
end
end L2
namespace Att
open PySem PySem.W PySem.Calls PyProof.Rows
theorem qc{P:Params}{h:Heap}:∀(ns:List Int) (vs:List Value),WellAll P h vs (ns.map WData.int)->IntsAre vs ns:=by
 intro ns
 induction ns with
 |nil=>
  intro vs w
  rw[dN]at w
  cases w
  exact .nil
 |cons n ns ih=>
  intro vs w
  rw[aK]at w
  cases w with
  |cons a b=>
   cases a
   exact .cons _ _ (ih _ b)
theorem BH{l:OpenLaw}{n:Nat}(hn:l.most=some n){P:Params}{h:Heap}{args:List WData}{lD:List Value}
  (wc:l.row.toRowW.claim.pre args=true) (Gp:WellAll P h lD args) :
  ∃a vs ns,lD=[Value.ref a]/\args=[WData.list (ns.map WData.int)]/\h.get? a=some { cls:=.type "list",data:=.seq vs.toArray }/\IntsAre vs ns/\ns.length<=n:=by
 have hsh:WShape.hasAll [] args [.list .int]=true:=(pre_splitW wc).1
 have hc:l.pre.holds [] { args:=args }=true:=(pre_splitW wc).2
 obtain⟨d,r,rfl,h1,h2⟩:=hasAllW_cons hsh
 obtain rfl:=hasAllW_nil h2
 obtain⟨xs,rfl,h3⟩:=hasW_list h1
 obtain⟨ns,rfl⟩:=items_int h3
 have cY:ns.length<=n:=by
  unfold OpenLaw.pre at hc
  have h4:(WTm.not (.lt (.lit (.int (n:Int))) (.len (.arg 0)))).holds [] { args:=[.list (ns.map .int)] }=true:=by
   have h4:=(holds_andW hc).1
   rw[hn]at h4
   exact h4
  have h5:=condW_of h4 (w_not (w_lt w_lit (w_len_list (w_arg rfl))))
  rw[av]at h5
  refine dD fun q=>?_
  have q':(n:Int)<((ns.length:Nat):Int):=by omega
  first
   |(rw[a8 q']at h5;exact absurd h5 (by decide))
   |(simp at h5;omega)
 cases Gp with
 |cons w1 w2=>
  cases w2
  cases w1 with
  |list ho yB=>exact⟨_,_,ns,rfl,rfl,ho,qc ns _ yB,cY⟩
theorem BI(l:OpenLaw)(args:List WData):l.row.toRowW.claim.post args (.bool true) args=true:=
 postW_of (r:=l.row.toRowW) (X:=(true==true))
  (show WShape.has [] (.bool true) .bool=true by first|rfl|decide|simp[WShape.has,WShape.arms,WShape.armsAll])
  (show(WTm.eq .res (.lit (.bool true))).value [] { args:=args,res:=some (.bool true),after:=args }=some (.bool (true==true))from w_eq_bool (w_res rfl) w_lit) rfl
theorem attach_call{l:OpenLaw}{n:Nat}{q:Program}{Bn:List Str}{XP:(Str->Option Value)->Heap->Prop}{YP:World->Heap->Prop}{d:DefRec}
  (hn:l.most=some n) (SJ:d.params.defaults=[])
  (call:∀(w:World) (s₀ s₁:Shared) (mg mb:Str->Option Value) (fa:Addr) (o:Obj) (pm cd qH:Value) (a:Addr) (vs:List Value) (ns:List Int),
   Ground q Bn [] XP w s₀ mg mb s₁.heap->YP w s₁.heap ->
   s₁.heap.get? fa=some o->o.data=.func (docDef d.name d.params d.body d.scope pm cd qH)->s₁.heap.CodeRec cd d.name->mg d.name=some (.ref fa) ->
   s₁.heap.get? a=some { cls:=.type "list",data:=.seq vs.toArray }->IntsAre vs ns->ns.length<=n->s₁.gens=#[] ->
   codeAny (model l.prog w) callerA (.call (.ref fa) ⟨[.ref a],[]⟩) (fun r s'=>r=.ok (.ret (.bool true))/\OldK s₁.heap s'.heap/\s'.os=s₁.os/\AllBare s'.gens) s₁) :
  WalkO q Bn XP YP l.row.toRowW d [] (fun f vs=>PySem.call f vs):=by
 intro w s₀ s₁ mg mb G Y fa o pm cd qH dV kV ho hd mW hD hmg hg args lD as wc hlay hrd Gp hlo
 obtain rfl:dV=.none:=Dflts.none hD SJ
 obtain rfl:kV=.none:=Dflts.noKw hD
 obtain⟨a,vs,ns,rfl,rfl,hobj,hints,cY⟩:=BH hn wc Gp
 refine enter_call (lK (call w s₀ s₁ mg mb fa o pm cd qH a vs ns G Y ho (fd_plain hd) mW hmg hobj hints cY hg) fun r s' hq=>?_)
 obtain⟨rfl,h2,h3,h4⟩:=hq
 exact⟨.inl ⟨.bool true,.bool true,[],rfl,fun _=>rfl,.bool true,BI l _,fun _=>⟨List.Pairwise.nil,fun _ hm=>(nomatch hm)⟩⟩,h2,h3,h4⟩
section
variable{prog:Program}{w:World}{A:Around}{E:Value->Shared->Prop}{s:Shared}{K:Frag}
end
end Att
namespace L2
open PySem PySem.Spec PyProof.Rows
theorem tH:∀{vs:List Value} {ns:List Int},IntsAre vs ns->cJ (ns.map V.int) vs
 |_,_,.nil=>.nil
 |_,_,.cons n t h=>.cons ⟨t,rfl⟩ (tH h)
def ia(s:Stmt):Arguments:=match s with
 |.FunctionDef _ a _ _ _ _ _ _ _ _=>a
 |_=>{ posonlyargs:=[],args:=[],vararg:=none,kwonlyargs:=[],kw_defaults:=[],kwarg:=none,defaults:=[] }
def gC(s:Stmt):List Stmt:=match s with
 |.FunctionDef _ _ b _ _ _ _ _ _ _=>b
 |_=>[]
def aV(s:Stmt):Scope:=match s with
 |.FunctionDef _ _ _ _ _ _ sc _ _ _=>sc
 |_=>{ kind:=.function,names:=[],isGenerator:=false,isCoroutine:=false }
structure iI(K:Frag)(x qual:Str)(st:Stmt)(f:Addr)(fd:FuncData):Prop where
 ex:∃(oc:Value) (od:Option Addr) (kV qH pm:Value) (an:Option Addr) (fL ct:Value) (KJ:Array (Option Value)),
  fd=fnOf x qual (ia st) (gC st) (aV st) .none kV qH pm an fL ct/\K.lookup f=some ⟨oc,od,.func fd,KJ⟩/\codeIn K fL qual=true
 kp:keepIn K (.ref f)=true
section
variable{P:Program}{w:World}{K:Frag}{mg:Str->Option Value}{base:Heap}
theorem iI.binds{x qual:Str}{st:Stmt}{f:Addr}{fd:FuncData}{ps:List Str}(F:iI K x qual st f fd)
  (h:∀(kV qH pm:Value) (an:Option Addr) (fL ct:Value) (us:List Value),us.length=ps.length->bindArgs (fnOf x qual (ia st) (gC st) (aV st) .none kV qH pm an fL ct) ⟨us,[]⟩=pure (ps.zip us)):wA K fd ps []:=by
 obtain⟨oc,od,kV,qH,pm,an,fL,ct,KJ,rfl,lk,mW⟩:=F.ex
 exact .all (h kV qH pm an fL ct)
theorem yU{x qual:Str}{st:Stmt}{f:Addr}{oc:Value}{od an:Option Addr}{KJ:Array (Option Value)}{kV qH pm fL ct:Value}(l:K.lookup f=some ⟨oc,od,.func (fnOf x qual (ia st) (gC st) (aV st) .none kV qH pm an fL ct),KJ⟩)
  (c:codeIn K fL qual=true) (k:keepIn K (.ref f)=true):iI K x qual st f (fnOf x qual (ia st) (gC st) (aV st) .none kV qH pm an fL ct):=⟨⟨oc,od,kV,qH,pm,an,fL,ct,KJ,rfl,l,c⟩,k⟩
end
theorem Dd{A:Around}{k:Nat}(hr:h_ k A):A.units+1<cLine:=jU (Nat.add_le_add_left (by decide:1<=64) _) hr.units
section
variable{X:Cx}
theorem pv(i:Nat){x:Str}{pos:Pos}(hN:X.N[i]?=some x:=by rfl)(hv:Op X.env.scope x:=by first|exact Or.inl rfl|exact Or.inr (Or.inl rfl)|exact Or.inr (Or.inr rfl))(hd:(x==("__debug__":Str))=false:=by decide)
  (mW:(x==("__classdict__":Str))=false:=by decide):PE X (.Name x pos) (Oq i):=KR hN hv hd mW
end
def qd(H H':Hp):Prop:=∀b o,H b=some o->H' b=some o
theorem qd.refl(H:Hp):qd H H:=fun _ _ h=>h
section
variable{κ:Type}[DecidableEq κ]
def jD(kvs:List (κ×V))(k:κ):Option V:=(kvs.find? fun kv=>decide (kv.1=k)).map (·.2)
def mh(kvs:List (κ×V))(k:κ)(v:V):List (κ×V):=
 if (kvs.any fun kv=>decide (kv.1=k))=true then kvs.map (fun kv=>if kv.1=k then(kv.1,v)else kv)else kvs++[(k,v)]
def lW(kvs:List (κ×V))(k:κ):List (κ×V):=kvs.filter fun kv=>decide (kv.1≠k)
theorem mB{p:κ×V}{r:List (κ×V)}{k:κ}(e:p.1=k):jD (p::r) k=some p.2:=by simp[jD,dQ,e]
theorem ol{p:κ×V}{r:List (κ×V)}{k:κ}(e:¬ p.1=k):jD (p::r) k=jD r k:=by simp[jD,dQ,e]
theorem wD(k:κ):∀kvs:List (κ×V),(kvs.any fun kv=>decide (kv.1=k))=(jD kvs k).isSome
 |[]=>rfl
 |p::r=>by
  rw[nI]
  by_cases e:p.1=k
  ·simp only[mB e,a8 e,Bool.true_or,Option.isSome_some]
  ·rw[ol e,aR e,Bool.false_or];exact wD k r
theorem mC(kvs:List (κ×V))(k:κ)(v:V):(mh kvs k v).length<=kvs.length+1:=by
 unfold mh
 split
 ·rw[av];omega
 ·rw[ay,ba,b9];omega
theorem oX.isSome_eq{o:Option V}{u:Option Value}(r:oX o u):o.isSome=u.isSome:=by
 cases o with
 |none=>cases u with
  |none=>rfl
  |some _=>exact(show False from r).elim
 |some _=>cases u with
  |none=>exact(show False from r).elim
  |some _=>rfl
theorem KV.val{kvs:List (κ×V)}{vs:List (κ×Value)}(r:KV kvs vs)(k:κ):oX (jD kvs k) (valueAt vs k):=by
 unfold KV at r
 induction r with
 |nil=>exact True.intro
 |@cons p q ps qs h t ih=>
  obtain⟨h1,h2⟩:=h
  by_cases e:p.1=k
  ·have e':q.1=k:=h1.symm.trans e
   have b:valueAt (q::qs) k=some q.2:=by simp[valueAt,dQ,e']
   rw[mB e,b];exact h2
  ·have e':¬ q.1=k:=fun z=>e (h1.trans z)
   have b:valueAt (q::qs) k=valueAt qs k:=by simp[valueAt,dQ,e']
   rw[ol e,b];exact ih
theorem KV.any{kvs:List (κ×V)}{vs:List (κ×Value)}(r:KV kvs vs)(k:κ):(kvs.any fun kv=>decide (kv.1=k))=vs.any fun kv=>decide (kv.1=k):=by
 unfold KV at r
 induction r with
 |nil=>rfl
 |cons h t ih=>rw[nI,nI,ih,h.1]
theorem KV.repl{kvs:List (κ×V)}{vs:List (κ×Value)}(r:KV kvs vs)(k:κ){y:V}{u:Value}(ry:cr y u) :
  KV (kvs.map fun kv=>if kv.1=k then(kv.1,y)else kv) (vs.map fun kv=>if kv.1=k then(kv.1,u)else kv):=by
 unfold KV at r ⊢
 induction r with
 |nil=>exact .nil
 |@cons p q ps qs h t ih=>
  rw[aK,aK]
  refine .cons ?_ ih
  obtain⟨h1,h2⟩:=h
  by_cases e:p.1=k
  ·rw[aD e,aD (h1.symm.trans e)];exact⟨h1,ry⟩
  ·rw[aQ e,aQ (fun z=>e (h1.trans z))];exact⟨h1,h2⟩
theorem KV.put{kvs:List (κ×V)}{vs:List (κ×Value)}(r:KV kvs vs)(k:κ){y:V}{u:Value}(ry:cr y u):KV (mh kvs k y) (stored vs k u):=by
 unfold mh stored
 rw[r.any k]
 by_cases e:(vs.any fun kv=>decide (kv.1=k))=true
 ·rw[aD e,aD e];exact r.repl k ry
 ·rw[aQ e,aQ e];exact Paired.snoc r ⟨rfl,ry⟩
theorem KV.drop{kvs:List (κ×V)}{vs:List (κ×Value)}(r:KV kvs vs)(k:κ):KV (lW kvs k) (without vs k):=by
 unfold KV at r ⊢
 unfold lW without
 induction r with
 |nil=>exact .nil
 |@cons p q ps qs h t ih=>
  obtain⟨h1,h2⟩:=h
  rw[de,de]
  by_cases e:p.1=k
  ·have a:¬ decide (p.1≠k)=true:=by simp[e]
   have b:¬ decide (q.1≠k)=true:=by simp[h1.symm.trans e]
   rw[aQ a,aQ b];exact ih
  ·have e':¬ q.1=k:=fun z=>e (h1.trans z)
   have a:decide (p.1≠k)=true:=by simp[e]
   have b:decide (q.1≠k)=true:=by simp[e']
   rw[aD a,aD b];exact .cons ⟨h1,h2⟩ ih
theorem KV.keys{kvs:List (κ×V)}{vs:List (κ×Value)}(r:KV kvs vs):kvs.map (·.1)=vs.map (·.1):=by
 unfold KV at r
 induction r with
 |nil=>rfl
 |cons h t ih=>rw[aK,aK,ih,h.1]
theorem KV.length{kvs:List (κ×V)}{vs:List (κ×Value)}(r:KV kvs vs):kvs.length=vs.length:=Paired.length r
theorem De(kvs:List (κ×V))(k:κ):(lW kvs k).length<=kvs.length:=dY _ _
end
theorem qQ{P:Program}{w:World}{k:fX}{u:Value}(r:cr (kV k) u):(eJ P w).is k u=true:=by
 cases k with
 |inl i=>obtain⟨t,e⟩:=(show ∃t,u=Value.int i t from r);subst e;exact wp P w i t
 |inr x=>obtain⟨t,e⟩:=(show ∃t,u=Value.str x t from r);subst e;exact wq P w x t
theorem tI{P:Program}{w:World}:∀{ks:List fX} {us:List Value},cJ (ks.map kV) us->ItemsAre (eJ P w) ks us
 |[],_,r=>by rw[dN]at r;cases r;exact .nil
 |k::ks,_,r=>by
  rw[aK]at r
  cases r with
  |cons h t=>exact .cons (qQ h) (tI t)
abbrev KT(H:Hp):List (List fX×V)->List (List fX×Addr×Value)->Prop:=Paired fun p q=>p.1=q.1/\H q.2.1=some (.tup (p.1.map kV))/\cr p.2 q.2.2
theorem KT.val{H:Hp}{kvs:List (List fX×V)}{xs:List (List fX×Addr×Value)}(r:KT H kvs xs)(k:List fX):oX (jD kvs k) ((atKey xs k).map (·.2)):=by
 induction r with
 |nil=>exact True.intro
 |@cons p q ps qs h t ih=>
  obtain⟨h1,_,h2⟩:=h
  by_cases e:p.1=k
  ·have e':q.1=k:=h1.symm.trans e
   have b:atKey (q::qs) k=some q.2:=by simp[atKey,dQ,e']
   rw[mB e,b];exact h2
  ·have e':¬ q.1=k:=fun z=>e (h1.trans z)
   have b:atKey (q::qs) k=atKey qs k:=by simp[atKey,dQ,e']
   rw[ol e,b];exact ih
theorem KT.repl{H:Hp}{kvs:List (List fX×V)}{xs:List (List fX×Addr×Value)}(r:KT H kvs xs)(k:List fX){y:V}{u:Value}(ry:cr y u) :
  KT H (kvs.map fun kv=>if kv.1=k then(kv.1,y)else kv) (xs.map (putAt k u)):=by
 induction r with
 |nil=>exact .nil
 |@cons p q ps qs h t ih=>
  rw[aK,aK]
  refine .cons ?_ ih
  obtain⟨h1,h2,h3⟩:=h
  unfold putAt
  by_cases e:p.1=k
  ·rw[aD e,aD (h1.symm.trans e)];exact⟨h1,h2,ry⟩
  ·rw[aQ e,aQ (fun z=>e (h1.trans z))];exact⟨h1,h2,h3⟩
theorem KT.put{H:Hp}{kvs:List (List fX×V)}{xs:List (List fX×Addr×Value)}(r:KT H kvs xs)(k:List fX){b:Addr}{y:V}{u:Value}(hb:H b=some (.tup (k.map kV)))(ry:cr y u) :
  KT H (mh kvs k y) (storedH xs k b u):=by
 have e:(kvs.any fun kv=>decide (kv.1=k))=(atKey xs k).isSome:=by
  rw[wD,(r.val k).isSome_eq,ku]
 unfold mh storedH
 rw[e]
 by_cases q:(atKey xs k).isSome=true
 ·rw[aD q,aD q];exact r.repl k ry
 ·rw[aQ q,aQ q];exact Paired.snoc r ⟨rfl,hb,ry⟩
theorem KT.keeps{H H':Hp}{kvs:List (List fX×V)}{xs:List (List fX×Addr×Value)}(r:KT H kvs xs)(ht:∀b ys,H b=some (.tup ys)->H' b=some (.tup ys)):KT H' kvs xs:=
 Paired.mapP r fun _ _ z=>⟨z.1,ht _ _ z.2.1,z.2.2⟩
section
variable{P:Program}{w:World}{H:Hp}{h:Heap}{a:Addr}
theorem Jo{u:HO}(ok:nK P w H h)(e:Rd H a u):e_ P w H h a u:=e.ok ok
theorem pP{kvs:List (fX×V)}(ok:nK P w H h)(e:Rd H a (.dK kvs)):kvs.length<=sizeLine/\(a==sysModules)=false/\∃vs,KV kvs vs/\h.DictOf (eJ P w) a vs:=
 show e_ P w H h a (.dK kvs)from Jo ok e
theorem Df{kvs:List (fX×V)}(ok:nK P w H h)(e:H a=some (.dK kvs)):kvs.length<=sizeLine/\(a==sysModules)=false/\∃vs,KV kvs vs/\h.DictOf (eJ P w) a vs:=pP ok (.inl e)
theorem uK{ks:List fX}(ok:nK P w H h)(e:H a=some (.tup (ks.map kV))):(tupleKind (eJ P w)).is h ks a:=by
 obtain⟨_,bC,r,o,h1,h2,n,h3⟩:=(show e_ P w H h a (.tup (ks.map kV))from ok a _ e)
 exact⟨o,bC.toArray,n,h1,h2,h3,by simpa using tI r⟩
theorem wE{kvs:List (List fX×V)}(ok:nK P w H h)(e:Rd H a (.dT kvs)):kvs.length<=sizeLine/\(a==sysModules)=false /\
  ∃xs,KT H kvs xs/\h.DictOfH (tupleKind (eJ P w)) a xs:=by
 obtain⟨z,y,xs,r,o,es,ep,h1,h2,h3,h4,h5⟩:=(show e_ P w H h a (.dT kvs)from Jo ok e)
 refine⟨z,y,xs,r,o,es,ep,h1,h2,h3,h4,fun x hx=>?_,h5⟩
 have all:∀{l:List (List fX×V)} {m:List (List fX×Addr×Value)},KT H l m->∀x∈m,(tupleKind (eJ P w)).is h x.1 x.2.1:=by
  intro l m q
  induction q with
  |nil=>intro x hx;exact nomatch hx
  |@cons p q ps qs hq t ih=>
   intro x hx
   rcases br.mp hx with e|hx
   ·subst e
    exact uK ok (by rw[<- hq.1];exact hq.2.1)
   ·exact ih x hx
 exact all r x hx
theorem OZ{kvs:List (List fX×V)}(ok:nK P w H h)(e:H a=some (.dT kvs)):kvs.length<=sizeLine/\(a==sysModules)=false /\
  ∃xs,KT H kvs xs/\h.DictOfH (tupleKind (eJ P w)) a xs:=wE ok (.inl e)
end
def wF(H:Hp)(a:Addr)(y:V)(r:Option V):Prop:=
 (∃kvs k,Rd H a (.dK kvs)/\y=kV k/\r=jD kvs k)\/∃kvs k b,Rd H a (.dT kvs)/\y=.ref b/\H b=some (.tup (k.map kV))/\r=jD kvs k
def Hu(H:Hp)(a:Addr)(y v:V)(H':Hp):Prop:=
 (∃kvs k,H a=some (.dK kvs)/\y=kV k/\kvs.length<sizeLine/\H'=fm H a (.dK (mh kvs k v))) \/
 ∃kvs k b,H a=some (.dT kvs)/\y=.ref b/\H b=some (.tup (k.map kV))/\kvs.length<sizeLine/\H'=fm H a (.dT (mh kvs k v))
theorem Hu.k{H:Hp}{a:Addr}{kvs:List (fX×V)}{k:fX}{v:V}(e:H a=some (.dK kvs))(hl:kvs.length<sizeLine):Hu H a (kV k) v (fm H a (.dK (mh kvs k v))):=.inl ⟨kvs,k,e,rfl,hl,rfl⟩
section
variable{X:Cx}{pins:List (Addr×Obj)}{σ:St}{H:Hp}{s:Shared}{a:Addr}{y v:V}{u r:Value}{o:Option V}{A:Around}{E:Value->Shared->Prop}
theorem bE.big(I:bE X pins σ H s):sysModules<s.heap.objs.size:=by
 have h:mainGlobals<s.heap.objs.size:=(I.mod.glob.keeps I.bk).lt
 exact oR (by decide) h
theorem BJ{Q:Value->Shared->Prop}(hu:A.units+1<cLine)(I:bE X pins σ H s)(g:wF H a y (some v))(ry:cr y u)(h:∀w' s',bE X pins σ H s'->cr v w'->Q w' s') :
  wpAny (model X.prog X.w) A (getItem (.ref a) u) Q E s:=by
 rcases g with⟨kvs,k,e,ey,l⟩|⟨kvs,k,b,e,ey,eb,l⟩
 ·subst ey
  obtain⟨z,hd,vs,rel,dd⟩:=pP I.hok e
  obtain⟨w',hw,kn⟩:=oX.some_of (v:=v) (o:=valueAt vs k) (by rw[l];exact rel.val k)
  exact wpAny_getItem_of (qQ ry) dd.mapOf hw (h w' _ (I.tok _) kn)
 ·subst ey
  cases(show u=Value.ref b from ry)
  obtain⟨z,hd,xs,rel,dd⟩:=wE I.hok e
  obtain⟨w',hw,kn⟩:=oX.some_of (v:=v) (o:=(atKey xs k).map (·.2)) (by rw[l];exact rel.val k)
  obtain⟨p,hp,hp2⟩:=df.mp hw
  refine wpAny_getItem_heap (jV hu) (uK I.hok eb) dd hp ?_
  rw[hp2]
  exact h w' _ (I.tok _) kn
theorem Hv{Q:Value->Shared->Prop}(hu:A.units+1<cLine)(I:bE X pins σ H s)(g:wF H a y o)(ry:cr y u)(h:∀s',bE X pins σ H s'->Q (.bool (!o.isSome)) s') :
  wpAny (model X.prog X.w) A (compareOp .NotIn u (.ref a)) Q E s:=by
 rcases g with⟨kvs,k,e,ey,l⟩|⟨kvs,k,b,e,ey,eb,l⟩
 ·subst ey
  obtain⟨z,hd,vs,rel,dd⟩:=pP I.hok e
  refine wpAny_notIn_of (qQ ry) hd dd.mapOf ?_
  rw[<- (rel.val k).isSome_eq,<- l]
  exact h _ (I.tok _)
 ·subst ey
  cases(show u=Value.ref b from ry)
  obtain⟨z,hd,xs,rel,dd⟩:=wE I.hok e
  refine wpAny_notIn_heap (jV hu) (uK I.hok eb) hd dd ?_
  have q:=(rel.val k).isSome_eq
  rw[ku]at q
  rw[<- q,<- l]
  exact h _ (I.tok _)
theorem qp{h':Heap}{t':Nat}{ob:HO}(I:bE X pins σ H s)(mu:Oo (H a))(hs:Heap.SameBut a s.heap h')(he:∃q,h'.get? a=some q)(new:e_ X.prog X.w (fm H a ob) h' a ob) :
  bE X pins σ (fm H a ob) { s with heap:=h',toks:=t' }:=
 I.write (x:=a) (e:=a) mu (.inl rfl) (fun b q hb z=>(hs.2 b hb).trans z) he new
theorem yV{P:Program}{w:World}{H':Hp}{h':Heap}{kvs:List (fX×V)}{vs:List (fX×Value)}(z:kvs.length<=sizeLine)(hd:(a==sysModules)=false)(rel:KV kvs vs)(dd:h'.DictOf (eJ P w) a vs) :
  e_ P w H' h' a (.dK kvs):=⟨z,hd,vs,rel,dd⟩
theorem BK{H':Hp}{Q:Unit->Shared->Prop}(hu:A.units+1<cLine)(I:bE X pins σ H s)(g:Hu H a y v H')(ry:cr y u)(rv:cr v r)(h:∀s',bE X pins σ H' s'->Q () s') :
  wpAny (model X.prog X.w) A (setItem (.ref a) u r) Q E s:=by
 rcases g with⟨kvs,k,e,ey,l,eH⟩|⟨kvs,k,b,e,ey,eb,l,eH⟩
 ·subst ey eH
  obtain⟨z,hd,vs,rel,dd⟩:=Df I.hok e
  have hz:vs.length<=sizeLine:=by rw[<- rel.length];exact z
  have hl:(mh kvs k v).length<=sizeLine:=by have:=mC kvs k v;omega
  refine wpAny_setItem_pairs (hsz:=hz) (qQ ry) dd fun h' dd' hs=>h _ ?_
  have he:∃q,h'.get? a=some q:=let ⟨q,_,_,hq,_⟩:=dd';⟨q,hq⟩
  exact qp I (by rw[e];exact True.intro) hs he (yV hl hd (rel.put k rv) dd')
 ·subst ey eH
  cases(show u=Value.ref b from ry)
  obtain⟨z,hd,xs,rel,dd⟩:=OZ I.hok e
  have hz:xs.length<=sizeLine:=by rw[<- Paired.length rel];exact z
  have hl:(mh kvs k v).length<=sizeLine:=by have:=mC kvs k v;omega
  refine wpAny_setItem_heap (hsz:=hz) (jV hu) (uK I.hok eb) dd fun h' dd' hs=>h _ ?_
  obtain⟨q,es,ep,hq,h2,h3,h4,_,h5⟩:=dd'
  refine qp I (by rw[e];exact True.intro) hs ⟨q,hq⟩ ⟨hl,hd,_,(rel.put k eb rv).keeps fun c ys ec=>?_,q,es,ep,hq,h2,h3,h4,h5⟩
  rw[cx (On ec e (fun z=>nomatch z))]
  exact ec
end
section
variable{X:Cx}{pins:List (Addr×Obj)}{σ:St}{H:Hp}{s:Shared}{a:Addr}{kvs:List (fX×V)}{k:fX}{u:Value}{A:Around}{E:Value->Shared->Prop}
theorem O0{v:V}{kD:List Value}{Q:Value->Shared->Prop}(I:bE X pins σ H s)(e:H a=some (.dK kvs))(ry:cr (kV k) u)(l:jD kvs k=some v)(hm:kD=[]\/∃x,kD=[x])
  (h:∀w' s',bE X pins σ (fm H a (.dK (lW kvs k))) s'->cr v w'->Q w' s'):wpAny (model X.prog X.w) A (call (.builtin "dict.pop") (.ref a::u::kD)) Q E s:=by
 obtain⟨z,hd,vs,rel,dd⟩:=Df I.hok e
 obtain⟨w',hw,kn⟩:=oX.some_of (v:=v) (o:=valueAt vs k) (by rw[<- l];exact rel.val k)
 have hp:(keyPart u).isSome=true:=by
  cases k with
  |inl i=>obtain⟨t,q⟩:=(show ∃t,u=Value.int i t from ry);subst q;rfl
  |inr x=>obtain⟨t,q⟩:=(show ∃t,u=Value.str x t from ry);subst q;rfl
 have ha:argsOk "dict.pop" ⟨.ref a::u::kD,[]⟩:=by
  rcases hm with q|⟨x,q⟩
  ·subst q;exact PySem.F.args_dict_pop_2 _ _
  ·subst q;exact PySem.F.args_dict_pop_3 _ _ _
 refine call_meetsIn PySem.F.slot_dict_pop dd.typeIs PySem.F.entry_dict_pop ha (meets_dict_pop_there (eJ X.prog X.w) a (qQ ry) kD hm hp)
  ⟨vs,w',dd,by rw[<- rel.length];exact z,hw,fun h' dd' hs=>h w' _ ?_ kn⟩
 have he:∃q,h'.get? a=some q:=let ⟨q,_,_,hq,_⟩:=dd';⟨q,hq⟩
 exact qp I (by rw[e];exact True.intro) hs he (yV (bn (De kvs k) z) hd (rel.drop k) dd')
theorem O1{Q:Value->Shared->Prop}(I:bE X pins σ H s)(e:Rd H a (.dK kvs))(h:∀t s',bE X pins σ H s'->Q (.int kvs.length t) s'):wpAny (model X.prog X.w) A (call (.builtin "len") [.ref a]) Q E s:=by
 obtain⟨z,hd,vs,rel,dd⟩:=pP I.hok e
 refine call_len_dict hd dd (by rw[<- rel.length];rw[ko]at z;omega) ?_
 rw[<- rel.length]
 exact h _ _ (I.tok _)
end
def Lw(i:Expr):Prop:=∀ov iv,subscripted i false ov iv=operate [ov,iv] (getItem ov iv)
theorem AA{prog:Program}{w:World}{A:Around}{E:Value->Shared->Prop}{s:Shared}{env:Env}{value slice:Expr}{pos:Pos}{T id:String}{Q:Value->Shared->Prop}
  (hl:typeLookup (.type T) "__getitem__"=pure (some (.builtin id))) (hs:Lw slice)
  (h:wpAny (model prog w) A (eval value env) (fun o s₁=>wpAny (model prog w) A (eval slice env) (fun i s₂=>s₂.TypeIs o T/\wpAny (model prog w) A (getItem o i) Q E s₂) E s₁) E s) :
  wpAny (model prog w) A (eval (.Subscript value slice pos) env) Q E s:=by
 refine Subscript_ (cW h (fun o s₁ h₁=>cW h₁ (fun i s₂ h₂=>?_) fun _ _ x=>x) fun _ _ x=>x)
 obtain⟨hT,h₂⟩:=h₂
 unfold subscriptTail
 refine ag ?_
 rw[getitemInPython_of_ne hT.not_modules]
 refine ag (jd hT hl ?_)
 have fin:wpAny (model prog w) A (subscripted slice false o i) (fun r s₃=>wpAny (model prog w) A (letTemporaryGo value o r >>= fun _=>pure r) Q E s₃) E s₂:=by
  rw[hs o i]
  exact wpAny_operating (cW h₂ (fun r s₃ h₃=>ag (wpAny_letTemporaryGo (aI h₃))) fun _ _ x=>x)
 first
  |exact aI (ag fin)
  |exact ag (aI (ag fin))
  |exact ag fin
theorem wG{X:Cx}{pins:List (Addr×Obj)}{σ:St}{H:Hp}{s:Shared}{a:Addr}{y:V}{o:Option V}(I:bE X pins σ H s)(g:wF H a y o):s.TypeIs (.ref a) "dict":=by
 rcases g with⟨kvs,k,e,_,_⟩|⟨kvs,k,b,e,_,_,_⟩
 ·obtain⟨_,_,vs,_,dd⟩:=pP I.hok e
  exact dd.typeIs
 ·obtain⟨_,_,xs,_,dd⟩:=wE I.hok e
  exact dd.typeIs
def O6(td ty:TE):TE:=fun σ H Q=>td σ H fun x H1=>ty σ H1 fun y H2=>∃a v,x=.ref a/\wF H2 a y (some v)/\Q v H2
section
variable{X:Cx}{o i e value:Expr}{pos iu SM:Pos}{td ty tv:TE}
theorem Hw(hu:X.A.units+1<cLine)(ho:PE X o td)(hi:PE X i ty)(hs:Lw i):PE X (.Subscript o i pos) (O6 td ty):=by
 intro pins s σ H Q I h
 refine AA PySem.F.slot_dict_getitem.lookup hs (fY (ho pins s σ H _ I h) fun u s1 ⟨x,H1,I1,rx,q1⟩=>fY (hi pins s1 σ H1 _ I1 q1) fun iv s2 ⟨y,H2,I2,ry,a,v,ex,g,q2⟩=>?_)
 subst ex
 obtain rfl:u=Value.ref a:=rx
 exact⟨wG I2 g,BJ hu I2 g ry fun w' s3 I3 kn=>⟨v,H2,I3,kn,q2⟩⟩
end
theorem wH{P:Program}{w:World}{H:Hp}(h:Heap)(hb:sysModules<h.objs.size):e_ P w H (h.push { cls:=.type "dict",data:=.dict #[] }) h.objs.size (.dK []):=
 ⟨cU _,aO.mpr (Ne.symm (bd hb)),[],.nil,Heap.DictOf.new h⟩
def Lx:TE:=fun _ H Q=>∀p,H p=none->Q (.ref p) (fm H p (.dK []))
section
variable{X:Cx}{pos:Pos}
theorem Dg:PE X (.Dict [] [] pos) Lx:=fun pins s σ H Q I h=>
 wpAny_Dict_empty ⟨.ref s.heap.objs.size,_,I.laid (a:=s.heap.objs.size) (o:=.dK []) (t':=s.toks) (fun _ _ q=>aq _ q) (aA _) (wH s.heap I.big),rfl,h _ (I.hok.fresh (aA _))⟩
end
def uL:List (TE×TE)->St->Hp->(List (V×V)->Hp->Prop)->Prop
 |[],_,H,Q=>Q [] H
 |(tk,tv)::r,σ,H,Q=>tk σ H fun x H1=>tv σ H1 fun y H2=>uL r σ H2 fun ps H3=>Q ((x,y)::ps) H3
abbrev VV:List (V×V)->List (Value×Value)->Prop:=Paired fun p q=>cr p.1 q.1/\cr p.2 q.2
def O7(X:Cx)(pos:Pos)(keys:List (Option Expr))(jP:List Expr)(Aa:List (TE×TE)):Prop:=
 ∀(pins:List (Addr×Obj)) (s:Shared) (σ:St) (H:Hp) (Q:List (V×V)->Hp->Prop),bE X pins σ H s->uL Aa σ H Q ->
  wpAny (model X.prog X.w) X.A (evalPairs (pairTrees keys jP X.env pos)) (fun vs s'=>∃ps H',bE X pins σ H' s'/\VV ps vs/\Q ps H') X.xe s
theorem Hy{X:Cx}{pos:Pos}:O7 X pos [] [] []:=fun pins s σ H Q I h=>pairTrees_nil_walk ⟨[],H,I,.nil,h⟩
theorem Dh{X:Cx}{pos:Pos}{k v:Expr}{ks:List (Option Expr)}{vs:List Expr}{tk tv:TE}{Aa:List (TE×TE)}(hk:PE X k tk)(hv:PE X v tv)(hr:O7 X pos ks vs Aa) :
  O7 X pos (some k::ks) (v::vs) ((tk,tv)::Aa):=fun pins s σ H Q I h=>
 pairTrees_cons_walk (fY (hk pins s σ H _ I h) fun u s1 ⟨x,H1,I1,rx,q1⟩=>fY (hv pins s1 σ H1 _ I1 q1) fun w2 s2 ⟨y,H2,I2,ry,q2⟩=>
  fY (hr pins s2 σ H2 _ I2 q2) fun ws s3 ⟨ps,H3,I3,rel,q3⟩=>⟨(x,y)::ps,H3,I3,.cons ⟨rx,ry⟩ rel,q3⟩)
def mD(kvs kD:List (fX×V)):List (fX×V):=kD.foldl (fun acc kv=>mh acc kv.1 kv.2) kvs
theorem KV.merge:∀{kD:List (fX×V)} {rs:List (fX×Value)} {kvs:List (fX×V)} {vs:List (fX×Value)},KV kD rs->KV kvs vs->KV (mD kvs kD) (merged vs rs):=by
 intro kD rs kvs vs r
 unfold KV at r
 induction r generalizing kvs vs with
 |nil=>intro q;exact q
 |@cons p q ps qs h t ih=>
  intro r0
  have e:KV (mh kvs p.1 p.2) (stored vs q.1 q.2):=by
   have:=r0.put p.1 h.2
   rw[<- h.1];exact this
  exact ih e
theorem nw:∀(kD kvs:List (fX×V)),(mD kvs kD).length<=kvs.length+kD.length
 |[],kvs=>by show kvs.length<=kvs.length+0;omega
 |p::r,kvs=>by
  have h1:=nw r (mh kvs p.1 p.2)
  have h2:=mC kvs p.1 p.2
  show(mD (mh kvs p.1 p.2) r).length<=_
  rw[ba];omega
theorem qR{P:Program}{w:World}:∀{kvs:List (fX×V)} {ws:List (Value×Value)},VV (kvs.map fun kv=>(kV kv.1,kv.2)) ws->∃rs,Carries (eJ P w) ws rs/\KV kvs rs
 |[],_,r=>by rw[dN]at r;cases r;exact⟨[],True.intro,.nil⟩
 |p::kvs,_,r=>by
  rw[aK]at r
  cases r with
  |@cons a b as bs h t=>
   obtain⟨rs,c,q⟩:=qR (P:=P) (w:=w) t
   obtain⟨b1,b2⟩:=b
   exact⟨(p.1,b2)::rs,⟨qQ h.1,rfl,c⟩,.cons ⟨rfl,h.2⟩ q⟩
def O8(Aa:List (TE×TE)):TE:=fun σ H Q=>∀p,H p=none->uL Aa σ (fm H p (.dK [])) fun ps H2=>H2 p=some (.dK [])/\∃kvs:List (fX×V),ps=kvs.map (fun kv=>(kV kv.1,kv.2))/\kvs.length<=15/\Q (.ref p) (fm H2 p (.dK (mD [] kvs)))
theorem Hz{X:Cx}{pos:Pos}{keys:List (Option Expr)}{jP:List Expr}{Aa:List (TE×TE)}(h:O7 X pos keys jP Aa)(yB:keys.all (·.isSome)=true)(hl:keys.length=jP.length)(h0:keys≠[])
  (SC:keys.length<=15):PE X (.Dict keys jP pos) (O8 Aa):=by
 intro pins s σ H Q I q
 have hn:=I.hok.fresh (aA s.heap.objs.size)
 have I1:=I.laid (a:=s.heap.objs.size) (o:=.dK []) (h':=s.heap.push { cls:=.type "dict",data:=.dict #[] }) (t':=s.toks) (fun _ _ q=>aq _ q) (aA _) (wH s.heap I.big)
 refine wpAny_Dict_walk (knd:=eJ X.prog X.w) yB hl h0 SC (fY (h pins _ σ _ _ I1 (q _ hn)) fun ws s2 ⟨ps,H2,I2,rel,e,kvs,ep,lk,q2⟩=>?_)
 subst ep
 obtain⟨rs,c,rk⟩:=qR (P:=X.prog) (w:=X.w) rel
 obtain⟨z,hd,vs0,r0,dd⟩:=Df I2.hok e
 cases r0
 refine⟨rs,c,dd,fun h' dd' hs=>⟨.ref s.heap.objs.size,_,?_,rfl,q2⟩⟩
 have hz:(mD [] kvs).length<=sizeLine:=by
  have h1:=nw kvs []
  rw[b9]at h1
  rw[ko];omega
 have he:∃q,h'.get? s.heap.objs.size=some q:=let ⟨q,_,_,hq,_⟩:=dd';⟨q,hq⟩
 exact qp I2 (by rw[e];exact True.intro) hs he (yV hz hd (rk.merge .nil) dd')
structure M1(X:Cx)(o:Expr)(m:Str)(gq:Pos)(e:Expr)(dM:Pos):Prop where
 base:attributeBase o m X.env (eval o X.env)=eval o X.env
 few:((backTo dM (starEach [e] X.env)).all (fun x=>!x.1)&&(backToKw dM (keywordEach [] X.env)).all (fun x=>x.1.isSome)
  && decide (([e]:List Expr).length+([]:List Keyword).length+(if ([]:List Keyword).isEmpty then 0 else 1)<30))=true
 line:(gq.endLine==dM.line)=true
 trees:backTo dM (starEach [e] X.env)=[(false,eval e X.env)]
structure M2(X:Cx)(o:Expr)(m:Str)(gq:Pos)(e f:Expr)(dM:Pos):Prop where
 base:attributeBase o m X.env (eval o X.env)=eval o X.env
 few:((backTo dM (starEach [e,f] X.env)).all (fun x=>!x.1)&&(backToKw dM (keywordEach [] X.env)).all (fun x=>x.1.isSome)
  && decide (([e,f]:List Expr).length+([]:List Keyword).length+(if ([]:List Keyword).isEmpty then 0 else 1)<30))=true
 line:(gq.endLine==dM.line)=true
 trees:backTo dM (starEach [e,f] X.env)=[(false,eval e X.env),(false,eval f X.env)]
def SY(H:Hp)(a:Addr):Prop:=(∃kvs,Rd H a (.dK kvs))\/∃kvs,Rd H a (.dT kvs)
theorem Ly{X:Cx}{pins:List (Addr×Obj)}{σ:St}{H:Hp}{s:Shared}{a:Addr}(I:bE X pins σ H s)(d:SY H a) :
  s.TypeIs (.ref a) "dict"/\(∀b,Value.ref a=.ref b->∃ob,s.heap.get? b=some ob/\ob.dict=none)/\(a==sysModules)=false:=by
 rcases d with⟨kvs,e⟩|⟨kvs,e⟩
 ·obtain⟨_,hd,vs,_,dd⟩:=pP I.hok e
  refine⟨dd.typeIs,fun b q=>?_,hd⟩
  cases q
  obtain⟨ob,_,_,h1,h2,_⟩:=dd
  exact⟨ob,h1,h2.2.1⟩
 ·obtain⟨_,hd,xs,_,dd⟩:=wE I.hok e
  refine⟨dd.typeIs,fun b q=>?_,hd⟩
  cases q
  obtain⟨ob,_,_,h1,h2,_⟩:=dd
  exact⟨ob,h1,h2.2.1⟩
section
variable{X:Cx}{pins:List (Addr×Obj)}{σ:St}{H:Hp}{s:Shared}{a:Addr}{y d:V}{u r:Value}{o:Option V}{A:Around}{E:Value->Shared->Prop}
end
def Lz(td ty:TE):TE:=fun σ H Q=>td σ H fun x H1=>∃a,x=.ref a/\SY H1 a/\ty σ H1 fun y H2=>∃kvs k v,H2 a=some (.dK kvs)/\y=kV k/\jD kvs k=some v/\Q v (fm H2 a (.dK (lW kvs k)))
section
variable{X:Cx}{o e f:Expr}{gq dM:Pos}{td ty tx:TE}
theorem Di(ho:PE X o td)(he:PE X e ty)(m:M1 X o "pop" gq e dM):PE X (.Call (.Attribute o "pop" gq) [e] [] dM) (Lz td ty):=by
 intro pins s σ H Q I h
 refine wpAny_Call_method m.base m.few m.line PySem.F.plainAttrs_dict PySem.F.slot_dict_pop PySem.F.type_dict_pop (fY (ho pins s σ H _ I h) fun u s1 ⟨x,H1,I1,rx,a,ex,d,q1⟩=>?_)
 subst ex
 obtain rfl:u=Value.ref a:=rx
 obtain⟨t1,t2,_⟩:=Ly I1 d
 refine⟨t1,t2,?_⟩
 rw[m.trees]
 refine iy rfl (iZ (jT (fY (he pins s1 σ H1 _ I1 q1) fun iv s2 ⟨y,H2,I2,ry,kvs,k,v,ea,ey,l,q2⟩=>kq ?_)))
 subst ey
 exact O0 I2 ea ry l (.inl rfl) fun w' s3 I3 kn=>⟨v,_,I3,kn,q2⟩
end
section
variable{X:Cx}{pins:List (Addr×Obj)}{σ:St}{H:Hp}{s:Shared}{a:Addr}{kvs:List (fX×V)}{A:Around}{E:Value->Shared->Prop}
end
section
variable{X:Cx}{pins:List (Addr×Obj)}{σ:St}{H:Hp}{s:Shared}{a:Addr}{y:V}{u:Value}{A:Around}{E:Value->Shared->Prop}
end
section
variable{X:Cx}
end
section
variable{κ:Type}[DecidableEq κ]
theorem BL{p:κ×V}{r:List (κ×V)}{k:κ}(e:p.1=k):lW (p::r) k=lW r k:=by
 unfold lW
 rw[de,aQ (by simp[e])]
theorem BM{p:κ×V}{r:List (κ×V)}{k:κ}(e:¬ p.1=k):lW (p::r) k=p::lW r k:=by
 unfold lW
 rw[de,aD (by simp[e])]
end
end L2
set_option maxHeartbeats 4000000
namespace L2
open PySem PySem.Spec PyProof.Rows
abbrev bO(X:Cx)(nm:List Str)(scope:Scope)(cl:List (Str×Addr))(C:Addr)(s0:Shared)(H0:Hp)(fp:List Addr):Cx:=
 { X with N:=nm,s₀:=s0,H₀:=H0,env:=compEnvC scope cl C X.env,outer:=X.stack,stack:=X.stack,ex:=fp,fn:=fun _=>false,pn:=[],xe:=fun _ _=>False }
def HA(X:Cx)(mw:List Expr)(t:TT):Prop:=
 ∀(pins:List (Addr×Obj)) (s:Shared) (σ:St) (H:Hp) (Q:Bool->Hp->Prop),bE X pins σ H s->t σ H Q ->
  wpAny (model X.prog X.w) X.A (forIn mw true fun c r=>if r=true then do let ok <- isTrue c X.env (eval c X.env);pure (ForInStep.yield ok)else pure (ForInStep.yield r)) (TP X pins σ Q) X.xe s
def R9:TT:=fun _ H Q=>Q true H
theorem HB{X:Cx}:HA X [] R9:=fun _ _ _ H _ I h=>wpAny_tests_nil ⟨H,I,h⟩
theorem HC{X:Cx}{c:Expr}{t:TT}(hc:PT X c t):HA X [c] t:=fun pins s σ H Q I h=>wpAny_tests_one (hc pins s σ H Q I h)
def kK(cap:List (Option Nat))(σ:St):St:=cap.map fun o=>o.bind fun j=>(σ[j]?).join
def tJ(cap:List (Option Nat))(wi:TI)(g:TG)(tc:TT)(te:TE):TE:=fun σ H Q=>wi σ H fun J H1=>∃W:Nat->Nat->List V->Hp->Prop,(∃m,W 0 m [] H1)/\∀i m ys H2,W i m ys H2 ->
 (J.stop i H2/\ys.length<=sizeLine/\∀p,H2 p=none->Q (.ref p) (fm H2 p (.lst ys))) \/
 (J.go i H2/\∀x H3,J.yld i H2 x H3->g x (kK cap σ) H3 fun σ2 H4=>tc σ2 H4 fun b H5=>if b=true then te σ2 H5 fun y H6=>ys.length<sizeLine/\∃m',m'<m/\W (i+1) m' (ys++[y]) H6 else ∃m',m'<m/\W (i+1) m' ys H5)
theorem Un.cellK{fs ex:List Addr}{H H':Hp}{h h':Heap}(u:Un fs ex H H' h h'){c:Addr}{v:Option Value}(x:h.IsCell c v)(n:H c=none)(he:c∉ex):h'.IsCell c v:=by
 obtain⟨o,ho,hd⟩:=x
 obtain⟨sl,q⟩:=u.any ho n he
 exact⟨_,q,hd⟩
structure Dj(X:Cx)(scope:Scope)(cl:List (Str×Addr))(x:Str):Prop where
 vis:Op X.env.scope x
 nl:X.env.scope.names.lookup x≠some .local
 cl:cl.lookup x=X.env.cells.lookup x
 kd:(relabel scope X.env).names.lookup x=some .cell\/(relabel scope X.env).names.lookup x=some .free
section
variable{X:Cx}{nu tg iter:Expr}{mw:List Expr}{scope:Scope}{pos:Pos}{nm:List Str}{cl:List (Str×Addr)}{cap:List (Option Nat)}{wi:TI}{g:TG}{tc:TT}{te:TE}
theorem AB{pins KL:List (Addr×Obj)}{σ σ2:St}{H1 H:Hp}{s2 s:Shared}{C:Addr}{fp:List Addr}
  (z_:∀(i j:Nat),cap[i]?=some (some j)->∃x,nm[i]?=some x/\X.N[j]?=some x/\Dj X scope cl x) (cY:cap.length=nm.length)
  (I2:bE X pins σ H1 s2) (Tu:∀b∈fp,∀x c,X.env.cells.lookup x=some c->c≠b)
  (I:bE (bO X nm scope cl C s2 H1 fp) KL σ2 H s):bE (bO X nm scope cl C s2 H1 fp) KL (kK cap σ) H s:=by
 refine⟨I.ok,I.os,I.bare,I.base,?_,I.cell,I.free,I.freeC,I.pin,I.hok,by show(kK cap σ).length=nm.length;unfold kK;rw[av];exact cY⟩
 obtain⟨m,hn,_⟩:=I.loc
 refine⟨m,hn,fun i x v e1 e2 e3=>?_⟩
 unfold kK at e2
 rw[aB]at e2
 cases hc:cap[i]? with
 |none=>rw[hc]at e2;cases e2
 |some oj=>
  cases oj with
  |none=>rw[hc]at e2;cases e2
  |some j=>
   rw[hc]at e2
   have e2':(σ[j]?).join=some v:=by simpa using e2
   have e2:σ[j]?=some (some v):=by
    cases hs:σ[j]? with
    |none=>rw[hs]at e2';cases e2'
    |some ov=>rw[hs]at e2';simp at e2';rw[e2']
   obtain⟨x',f1,f2,k⟩:=z_ i j hc
   have hx:x'=x:=by
    have z:nm[i]?=some x:=e1
    rw[f1]at z;exact a_ z
   subst hx
   obtain⟨m2,_,hl2⟩:=I2.loc
   obtain⟨u,r,l⟩:=hl2 j x' v f2 e2 k.vis
   refine⟨u,r,?_⟩
   rcases l with⟨kl,_⟩|⟨_,c,hcc,gz⟩
   ·exact absurd kl k.nl
   ·refine .inr ⟨k.kd,c,by rw[<- hcc];exact k.cl,?_⟩
    exact I.base.cellK gz (I2.freeC _ _ hcc) fun z=>Tu c z _ _ hcc rfl
theorem om{prog:Program}{w:World}{A:Around}{E:Value->Shared->Prop}{s:Shared}{l:Addr}{bC:List Value}{n:Nat}{u:Value}{Q:Value->Shared->Prop}
  (e:s.heap.get? l=some { cls:=.type "list",data:=.seq bC.toArray n }) (hz:bC.length<sizeLine)
  (h:∀(h':Heap) (n' tk:Nat),h'.get? l=some { cls:=.type "list",data:=.seq (bC++[u]).toArray n' }->(∀b o,b≠l->s.heap.get? b=some o->h'.get? b=some o)->Q .none { s with heap:=h',toks:=tk }) :
  wpAny (model prog w) A (call (.builtin "list.append") [.ref l,u]) Q E s:=by
 refine n6 F.slot_list_append ⟨_,e,rfl⟩ F.entry_list_append (F.args_list_append_2 _ _) (PySem.list_append l bC.toArray n u (by rw[aU];omega)) ⟨e,?_⟩
 have q:=PySem.IsL.update e (fun a=>a.push u)
 have q2:(s.heap.update l (Obj.mapSeq fun x=>x.push u)).get? l=some { cls:=.type "list",data:=.seq (bC++[u]).toArray (if ((bC.toArray.push u).size==bC.toArray.size)=true then n else n+1) }:=by
  rw[show(s.heap.update l (Obj.mapSeq fun x=>x.push u)).get? l=_ from q];simp
 exact h _ _ s.toks q2 fun b o hb ho=>(eN s.heap (Obj.mapSeq _) (Ne.symm hb)).trans ho
theorem AC(gR:X.calm=true)(F':closureFor scope X.env=pure cl)(nF:∀x c,cl.lookup x=some c->X.env.cells.lookup x=some c)
  (gQ:scope.kind=.function) (z9:∀x∈scope.names,x.2=.local->scope.names.lookup x.1=some .local) (gz:∀y∈scope.names,y.2≠.cell)
  (N4:∀x,((relabel scope X.env).names.lookup x=some .cell\/(relabel scope X.env).names.lookup x=some .free)->∃c,cl.lookup x=some c)
  (z_:∀(i j:Nat),cap[i]?=some (some j)->∃x,nm[i]?=some x/\X.N[j]?=some x/\Dj X scope cl x) (cY:cap.length=nm.length)
  (hi:PI X tg iter wi) (hg:∀C s0 H0 fp,PG (bO X nm scope cl C s0 H0 fp) tg g) (ht:∀C s0 H0 fp,HA (bO X nm scope cl C s0 H0 fp) mw tc)
  (he:∀C s0 H0 fp,PE (bO X nm scope cl C s0 H0 fp) nu te) (hs:∀x,foldedSetIterable iter X.env x=pure x:=by intro _;rfl) :
  PE X (.ListComp nu [⟨tg,iter,mw,0⟩] scope pos) (tJ cap wi g tc te):=by
 intro pins s σ H Q I h
 rw[eval_ListComp]
 refine kF (use:=none) rfl hs F' gQ z9 (fY (hi pins s σ H _ I h) fun v s1 h1=>fY h1 fun RF s2 h2=>?_)
 obtain⟨it,fp,tn,J,H1,e,I2,T,cZ,f2,W,⟨m0,w0⟩,turn⟩:=h2
 subst e
 have hfpn:∀b∈fp,b<s2.heap.objs.size:=fun b hb=>let ⟨o,ho,_⟩:=T.obj _ _ cZ b hb;aG ho
 have hfpc:∀b∈fp,∀x c,X.env.cells.lookup x=some c->c≠b:=fun b hb=>(f2 b hb).2.2.2.2.1
 refine cI (i5 gz (by intro y hy;simp at hy) (fun h₁ hns₁ hsb₁=>?_) gQ)
 dsimp only at hns₁ hsb₁ ⊢
 generalize hH2:s2.heap.push { cls:=.type "list",dict:=none,data:=.seq ([]:List Value).toArray }=G2 at hns₁ hsb₁ ⊢
 have hC:G2.objs.size=s2.heap.objs.size+1:=by rw[<- hH2,ef]
 have hDC:s2.heap.objs.size≠G2.objs.size:=by rw[hC];exact bd (iO _)
 have old:∀b o,s2.heap.get? b=some o->h₁.get? b=some o:=fun b o e=>hsb₁.extBut b o (by rw[hC];exact bd (fF (aG e))) (aq _ (hH2▸aq _ e))
 have hacc:h₁.get? s2.heap.objs.size=some { cls:=.type "list",data:=.seq ([]:List Value).toArray }:=hsb₁.extBut _ _ hDC (aq _ (hH2▸aH _ rfl))
 have okB:(bO X nm scope cl G2.objs.size s2 H1 fp).Ok:=by
  refine⟨I2.ok.mod,gQ,I2.ok.glob,I2.ok.blt,by show s2.heap.objs.size<=G2.objs.size;omega,fun x y c h1 h2=>I2.ok.inj x y c (nF _ _ h1) (nF _ _ h2),fun x hx=>N4 x hx,fun x c h0=>(by cases h0),fun hc=>I2.ok.hd gR,I2.ok.frames,.inl rfl,?_,?_,?_,?_,?_,?_,?_⟩
  ·intro b hb
   exact⟨bd (aX (hfpn b hb) (by show _<=G2.objs.size;omega)),fun x c hx=>hfpc b hb x c (nF _ _ hx)⟩
  ·exact fun b o hb=>I2.bs b o hb
  ·exact bn I2.ok.bsz I2.sz
  ·intro b o hb z
   rcases(f2 b z).2.2.2.1 with q|q
   ·exact I2.ok.noex b o hb q
   ·exact absurd (aG (I2.ok.bs b o hb).1) (n_.mpr q)
  ·intro b hb z
   rcases br.mp (I2.stkSub b z)with q|q
   ·exact(f2 b hb).2.1 q
   ·exact(f2 b hb).2.2.1 q
  ·exact I2.stack
  ·exact I2.stkFree
 have I4:bE (bO X nm scope cl G2.objs.size s2 H1 fp) [] (kK cap σ) H1 { s2 with heap:=h₁,toks:=s2.toks+([]:List (Str×Value)).length }:=by
  refine AB z_ cY I2 hfpc (σ2:=List.replicate nm.length none) ⟨okB,rfl,I2.bare,Un.kept old,⟨_,hns₁,fun i x v _ e2=>?_⟩,fun x c hx=>?_,?_,fun x c hx=>I2.freeC x c (nF _ _ hx),fun p hp=>absurd hp (by simp),I2.hok.kept old,by simp⟩
  ·rw[hX]at e2;split at e2<;>cases e2
  ·obtain⟨v,hv⟩:=I2.cell x c (nF _ _ hx)
   exact⟨v,hv.keeps old⟩
  ·exact I2.hok.fresh (by show _<=G2.objs.size;omega)
 have hsz0:∀{Hx:Hp} {sx:Shared} {px:List (Addr×Obj)} {σx:St},bE (bO X nm scope cl G2.objs.size s2 H1 fp) px σx Hx sx->Hx s2.heap.objs.size=none->∀{oa:Obj},sx.heap.get? s2.heap.objs.size=some oa->(∀v,oa.data≠.cell v) ->
   bE (bO X nm scope cl G2.objs.size s2 H1 fp) [(s2.heap.objs.size,oa)] σx Hx sx:=fun{Hx sx px σx} Ix hn {oa} ho hd=>Ix.pins_of fun p hp=>by
  have e:p=(s2.heap.objs.size,oa):=by simpa using hp
  subst e
  exact⟨ho,hn,hDC,fun z=>by
   obtain⟨_,o,q,_⟩:=I2.stack.mem z
   exact absurd (aG q) (bD _),hd⟩
 have hfpB:∀{Hx:Hp} {oa:Obj},(∀b∈fp,Hx b=none)->∀b∈fp,my (bO X nm scope cl G2.objs.size s2 H1 fp) [(s2.heap.objs.size,oa)] Hx b:=fun{Hx oa} hn b hb=>
  ⟨hn b hb,(okB.exf b hb).1,okB.exfs b hb,.inl hb,(okB.exf b hb).2,fun p hp=>by
   have e:p=(s2.heap.objs.size,oa):=by simpa using hp
   subst e
   exact iw (hfpn b hb)⟩
 have hcalmB:(bO X nm scope cl G2.objs.size s2 H1 fp).calm=true:=gR
 have loop:∀sx:Shared,sx={ s2 with heap:=h₁,toks:=s2.toks+([]:List (Str×Value)).length } ->
   codeAny (model X.prog X.w) X.A (.compLoop (.ListComp nu [⟨tg,iter,mw,0⟩] scope pos) 0 (.ref it) (.ref s2.heap.objs.size) (compEnvC scope cl G2.objs.size X.env))
    (compPost (model X.prog X.w) X.A X.xe none (EP X pins σ Q) (.ref s2.heap.objs.size) G2.objs.size) sx:=by
  rintro sx rfl
  refine codeAny_loop rfl (fun n s'=>∃i ys H',bE (bO X nm scope cl G2.objs.size s2 H1 fp) [] (kK cap σ) H' s'/\tn i s'.heap/\(∀b∈fp,H' b=none)/\H' s2.heap.objs.size=none /\
   (∃bC k,cJ ys bC/\s'.heap.get? s2.heap.objs.size=some { cls:=.type "list",data:=.seq bC.toArray k })/\W i n ys H') ?_ m0
   ⟨0,[],H1,I4,T.keep _ _ _ cZ (fun b _ o e=>old b o e),fun b hb=>(f2 b hb).1,I2.fresh,⟨[],0,.nil,hacc⟩,w0⟩
  rintro n s3 ⟨i,ys,H3,I3,j0,fr3,na3,⟨bC,ka,rv,ea⟩,w3⟩
  show wpAny _ X.A ((compTurn (.ListComp nu [⟨tg,iter,mw,0⟩] scope pos) 0 (.ref it) (.ref s2.heap.objs.size) (compEnvC scope cl G2.objs.size X.env)).onRaise (fun x=>do noteFrame x (compEnvC scope cl G2.objs.size X.env);theTreesLotGoes x)) _ _ s3
  refine wpAny_noted ?_
  rw[compTurn_list]
  refine ag (iT ?_)
  have I3p:=hsz0 I3 na3 ea (fun v z=>by cases z)
  rcases turn i n ys H3 w3 with⟨stop,hz,qn⟩|⟨go,step⟩
  ·refine ag (cW (T.done (bO X nm scope cl G2.objs.size s2 H1 fp) rfl rfl rfl hcalmB i _ s3 _ H3 (fun _ _=>False) I3p (hfpB fr3) j0 stop) (fun r s4 hr=>?_) fun _ _ z=>z.elim)
   obtain⟨hr,I4'⟩:=hr
   subst hr
   refine aI ?_
   obtain⟨m4,hn4,_⟩:=id I4'.loc
   refine⟨m4,hn4,fun h' hs'=>?_⟩
   have pa:=I4'.pin (s2.heap.objs.size,{ cls:=.type "list",data:=.seq bC.toArray ka }) (by simp)
   have ne:∀b o,s2.heap.get? b=some o->b≠s2.heap.objs.size/\b≠G2.objs.size:=fun b o e=>⟨bd (aG e),bd (by rw[hC];exact fF (aG e))⟩
   have kp:∀b o,b≠G2.objs.size->s4.heap.get? b=some o->h'.get? b=some o:=fun b o hb e=>hs'.extBut b o hb e
   refine⟨.ref s2.heap.objs.size,fm H3 s2.heap.objs.size (.lst ys),?_,rfl,qn _ na3⟩
   refine I2.call' (ch:=fp) I4'.os ⟨fun b o e n hb hx=>?_,fun b o e n hb hx=>?_,fun b o e n hx=>?_,fun b o e hx=>?_,fun b xs e=>?_,fun b o u e=>?_,fun b ps e=>?_⟩ ?_ I4'.bare fun b hb=>?_
   ·exact kp b o (ne b o e).2 (I4'.base.keep b o e n hb hx)
   ·obtain⟨sl,q⟩:=I4'.base.slot b o e n hb hx
    exact⟨sl,kp b _ (ne b o e).2 q⟩
   ·rw[cx (ne b o e).1];exact I4'.base.free b o e n hx
   ·obtain⟨o',q⟩:=I4'.base.there b o e hx
    exact⟨o',kp b _ (ne b o e).2 q⟩
   ·have q:=I4'.base.tups b xs e
    rw[cx (dh q na3)];exact q
   ·have q:=I4'.base.frzs b o u e
    rw[cx (dh q na3)];exact q
   ·obtain⟨mr,q⟩:=I4'.base.tbls b ps e
    exact⟨mr,by rw[cx (dh q na3)];exact q⟩
   ·intro b o e
    by_cases hb:b=s2.heap.objs.size
    ·subst hb
     rw[fC]at e;cases e
     exact⟨hz,bC,ka,rv,kp _ _ hDC pa.1⟩
    ·rw[cx hb]at e
     refine(I4'.hok b o e).stay (fun c u hc q=>kp c u (fun z=>?_) q) (fun c q=>by rw[cx (dh q na3)];exact q) fun c xs q=>by rw[cx (dh q na3)];exact q
     subst z
     have fr:H3 G2.objs.size=none:=I4'.free
     rcases hc with rfl|hc
     ·rw[fr]at e;cases e
     ·rw[fr]at hc;cases hc
   ·obtain⟨_,g1,_,g3,g4,g5⟩:=f2 b hb
    exact⟨g3,g1,g4,g5⟩
  ·refine ag (cW (T.item (bO X nm scope cl G2.objs.size s2 H1 fp) rfl rfl rfl hcalmB i _ s3 _ H3 (fun _ _=>False) I3p (hfpB fr3) j0 go) (fun r s4 hr=>?_) fun _ _ z=>z.elim)
   obtain⟨u,hr,h4⟩:=hr
   subst hr
   dsimp only
   refine ag (cW h4 (fun _ s5 h5=>?_) fun _ _ z=>z.elim)
   obtain⟨x,H5,I5,r5,y5,st5,fr5⟩:=h5
   have I5':=I5.pinned (hfpB fr5) (T.obj _ _ st5)
   refine ag (cW (hg _ _ _ _ _ s5 _ H5 x u _ I5' r5 (step x H5 y5)) (fun _ s6 h6=>?_) fun _ _ z=>z.elim)
   obtain⟨σ6,H6,I6,q6⟩:=h6
   refine ag (cW (ht _ _ _ _ _ s6 σ6 H6 _ I6 q6) (fun ok s7 h7=>?_) fun _ _ z=>z.elim)
   obtain⟨H7,I7,q7⟩:=h7
   have back:∀{H8:Hp} {s8:Shared} {Ai:List V} {its':List Value} {k':Nat},bE (bO X nm scope cl G2.objs.size s2 H1 fp) [] σ6 H8 s8->(∀b∈fp,∀o,s5.heap.get? b=some o->s8.heap.get? b=some o)->(∀b∈fp,H8 b=none)->H8 s2.heap.objs.size=none ->
     cJ Ai its'->s8.heap.get? s2.heap.objs.size=some { cls:=.type "list",data:=.seq its'.toArray k' }->(∃m',m'<n/\W (i+1) m' Ai H8) ->
     ∃m,m<n/\∃i ys H',bE (bO X nm scope cl G2.objs.size s2 H1 fp) [] (kK cap σ) H' s8/\tn i s8.heap/\(∀b∈fp,H' b=none)/\H' s2.heap.objs.size=none /\
      (∃bC k,cJ ys bC/\s8.heap.get? s2.heap.objs.size=some { cls:=.type "list",data:=.seq bC.toArray k })/\W i m ys H':=
    fun{H8 s8 Ai its' k'} I8 kf f8 n8 rv8 e8 ⟨m',hm,w8⟩=>⟨m',hm,i+1,Ai,H8,AB z_ cY I2 hfpc I8,T.keep _ _ _ st5 kf,f8,n8,⟨its',k',rv8,e8⟩,w8⟩
   cases ok with
   |false=>
    refine aI ⟨rfl,?_⟩
    have q7':∃m',m'<n/\W (i+1) m' ys H7:=by simpa using q7
    have pa:=I7.pin (s2.heap.objs.size,{ cls:=.type "list",data:=.seq bC.toArray ka }) (by simp)
    refine back (I7.pins_of fun p hp=>absurd hp (by simp)) (fun b hb o e=>?_) (fun b hb=>?_) pa.2.1 rv pa.1 q7'
    ·exact(I7.pin (b,o) (aL _ (aL _ (fH hb e)))).1
    ·obtain⟨o,e,d⟩:=T.obj _ _ st5 b hb
     exact(I7.pin (b,o) (aL _ (aL _ (fH hb e)))).2.1
   |true=>
    rw[aD rfl]at q7
    refine ag (ag (cW (he _ _ _ _ _ s7 σ6 H7 _ I7 q7) (fun xv s8 h8=>?_) fun _ _ z=>z.elim))
    obtain⟨y,H8,I8,r8,hzy,q8⟩:=h8
    have pa:=I8.pin (s2.heap.objs.size,{ cls:=.type "list",data:=.seq bC.toArray ka }) (by simp)
    refine ag (om pa.1 (by rw[<- rv.length];exact hzy) fun h' k' tk e9 sb=>?_)
    refine aI (aI ⟨rfl,?_⟩)
    have I9:bE (bO X nm scope cl G2.objs.size s2 H1 fp) [] σ6 H8 { s8 with heap:=h',toks:=tk }:=
     (bE.pins_of (pins':=[]) I8 fun p hp=>absurd hp (by simp)).turned (it:=s2.heap.objs.size) (fun b o hb e=>sb b o hb e) pa.2.1 hDC (.inr (aA _)) (fun x c hx z=>by
      obtain⟨v,hv⟩:=I2.cell x c (nF _ _ hx)
      exact absurd hv.lt (by rw[z];exact bD _)) (fun p hp=>absurd hp (by simp))
    refine back I9 (fun b hb o e=>?_) (fun b hb=>?_) pa.2.1 (rv.append (.cons r8 .nil)) e9 q8
    ·exact sb b o (bd (hfpn b hb)) (I8.pin (b,o) (aL _ (aL _ (fH hb e)))).1
    ·obtain⟨o,e,d⟩:=T.obj _ _ st5 b hb
     exact(I8.pin (b,o) (aL _ (aL _ (fH hb e)))).2.1
 exact lL (loop _ rfl) (T.self _ _ _ _ _ (T.keep _ _ _ cZ fun b _ o e=>old b o e) (loop _ rfl))
end
def tx(l:List Nat):Str:=⟨l.toArray⟩
theorem LA(l:List Nat):(tx l).cps.toList=l:=rfl
theorem g_(l:List Nat):(tx l).length=l.length:=by show l.toArray.size=_;simp
theorem yW(a b:List Nat):tx a++tx b=tx (a++b):=by
 show(⟨a.toArray++b.toArray⟩:Str)=⟨(a++b).toArray⟩
 simp
theorem yX{a b:List Nat}:tx a=tx b↔a=b:=⟨fun h=>by have:=fP (fun z:Str=>z.cps.toList) h;exact this,fun h=>by rw[h]⟩
def O9(lD:List V):It:=⟨fun i _=>i<lD.length,fun i H x H'=>H'=H/\lD[i]?=some x,fun i _=>lD.length<=i⟩
theorem nL{P:Program}{w:World}{K:Frag}{tg:Expr}{it:Addr}{lD:List V}{Pr:Nat->Value->Prop}{S:Nat->Heap->Prop}{ty:String}
  (W:∀A:Around,A.handled=none->Walks P w A it [it] [it] lD.length Pr S) (hv:∀i v,i<lD.length->Pr i v->∃x,lD[i]?=some x/\cr x v)
  (GD:∀i h,S i h->∃o vs,h.get? it=some o/\o.cls=.type ty/\o.data=.fields vs)
  (yx:["enumerate","zip","dict_itemiterator","dict_reverseitemiterator","odict_iterator","itertools.zip_longest","itertools.pairwise"].contains ty=false)
  (yG:∀(A:Around) (i:Nat) (s:Shared) (Q:Value->Shared->Prop) (E:Value->Shared->Prop),S i s.heap->Q (.ref it) s->wpAny (model P w) A (pyIter (.ref it)) Q E s) :
  yJ P w K tg (O9 lD) [it] it (fun i h=>i<=lD.length/\S i h) where
 mem:=by simp
 obj:=fun i h st b hb=>by
  have e:b=it:=by simpa using hb
  subst e
  obtain⟨o,vs,e,c,d⟩:=GD i h st.2
  exact⟨o,e,fun v z=>by rw[d]at z;cases z⟩
 keep:=fun i h h' st k=>⟨st.1,(W { depth:=0,handled:=none,frames:=none } rfl).frame i h h' st.2 k⟩
 item:=by
  intro X hP hw hK hc i pins s σ H E I hf st hg
  subst hP hw hK
  obtain⟨f0,f1,f2,f3,f4,f5⟩:=hf it (by simp)
  refine(W X.A (I.ok.hd hc)).item i s _ _ hg st.2 fun v h' tk hp bH kk=>?_
  have I1:bE X pins σ H { s with heap:=h',toks:=tk }:=I.turned (fun b o hb e=>kk b o (by simpa using hb) e) f0 f1 f3 f4 f5
  obtain⟨x,hx,rx⟩:=hv i v hg hp
  obtain⟨o,vs,e,c,d⟩:=GD _ _ bH
  exact⟨v,rfl,Au (s:={ s with heap:=h',toks:=tk }) e c d yx ⟨x,H,I1,rx,⟨rfl,hx⟩,⟨hg,bH⟩,fun b hb=>(hf b hb).1⟩⟩
 done:=by
  intro X hP hw hK hc i pins s σ H E I hf st hg
  subst hP hw hK
  obtain⟨f0,f1,f2,f3,f4,f5⟩:=hf it (by simp)
  have e:i=lD.length:=gY st.1 hg
  refine(W X.A (I.ok.hd hc)).done s _ _ (e▸st.2) fun h' tk kk=>⟨rfl,I.turned (fun b o hb e=>kk b o (by simpa using hb) e) f0 f1 f3 f4 f5⟩
 self:=fun A i s Q E st h=>yG A i s Q E st.2 h
section
variable{X:Cx}{tg:Expr}
def jE(l:List Nat):List V:=l.map fun c=>.str (tx [c])
def R_(tl:TE):TI:=fun σ H R=>tl σ H fun x H1=>∃l,x=.str (tx l)/\R (O9 (jE l)) H1
theorem BN{l:List Nat}(i:Nat)(v:Value)(hi:i<(jE l).length)(h:SignAt (tx l) i v):∃x,(jE l)[i]?=some x/\cr x v:=by
 obtain⟨c,u,hc,e⟩:=h
 refine⟨.str (tx [c]),?_,u,e⟩
 unfold jE
 rw[aB]
 have:l[i]?=some c:=by simpa[tx]using hc
 rw[this];rfl
theorem LB{l:Expr}{tl:TE}(hl:PE X l tl):PI X tg l (R_ tl):=by
 intro pins s σ H R I h
 refine fY (hl pins s σ H _ I h) fun v s1 ⟨x,H1,I1,r1,q1⟩=>?_
 obtain⟨l,e,q⟩:=q1
 subst e
 obtain⟨t,rfl⟩:=r1
 have hn:(tx l).cps.size=(jE l).length:=by unfold jE;simp[tx]
 have fin:∀(ob:Obj) (S:Nat->Heap->Prop) (ty:String),(∀A:Around,A.handled=none->Walks X.prog X.w A s1.heap.objs.size [s1.heap.objs.size] [s1.heap.objs.size] (tx l).cps.size (SignAt (tx l)) S)->S 0 (s1.heap.push ob) ->
   (∀i h,S i h->∃o vs,h.get? s1.heap.objs.size=some o/\o.cls=.type ty/\o.data=.fields vs) ->
   ["enumerate","zip","dict_itemiterator","dict_reverseitemiterator","odict_iterator","itertools.zip_longest","itertools.pairwise"].contains ty=false ->
   (∀(A:Around) (i:Nat) (s:Shared) (Q:Value->Shared->Prop) (E:Value->Shared->Prop),S i s.heap->Q (.ref s1.heap.objs.size) s->wpAny (model X.prog X.w) A (pyIter (.ref s1.heap.objs.size)) Q E s) ->
   RW X pins σ tg R (.ref s1.heap.objs.size) { s1 with heap:=s1.heap.push ob }:=fun ob S ty W h0 GD yx yG=>by
  rw[hn]at W
  refine⟨s1.heap.objs.size,[s1.heap.objs.size],_,_,H1,rfl,I1.kept (t':=s1.toks) fun b o e=>aq _ e,nL W (fun i v hi hp=>BN i v hi hp) GD yx yG,⟨cU _,h0⟩,fun b hb=>?_,q⟩
  have e:b=s1.heap.objs.size:=by simpa using hb
  subst e
  exact I1.fpOk (aA _) I1.fresh
 cases ha:(tx l).cps.all (· < 128)
 ·exact wpAny_pyIter_wide ha (fin _ _ _ (fun A hA=>Walks.strWide hA _ (tx l) t) ⟨_,aH _ rfl,rfl,rfl⟩ (fun i h st=>by obtain⟨o,a,b,c⟩:=st;exact⟨o,_,a,b,c⟩) (by decide) fun A i s Q E st h=>wpAny_pyIter_striter_wide st h)
 ·exact wpAny_pyIter_ascii ha (fin _ _ _ (fun A hA=>Walks.strAscii hA _ (tx l) t) ⟨_,aH _ rfl,rfl,rfl⟩ (fun i h st=>by obtain⟨o,a,b,c⟩:=st;exact⟨o,_,a,b,c⟩) (by decide) fun A i s Q E st h=>wpAny_pyIter_striter_ascii st h)
def BO(l:List Nat)(lo hi:Option Int):List Nat:=(l.drop (HT.sIx l.length 0 lo)).take (HT.sIx l.length l.length hi-HT.sIx l.length 0 lo)
theorem wI(l:List Nat)(lo hi:Option Int):(BO l lo hi).length<=l.length:=by unfold BO;rw[aY,fQ];omega
theorem yY(l:List Nat)(i k:Nat):((List.range k).map fun(m:Nat)=>i+m).filterMap (fun j=>l[j]?)=(l.drop i).take k:=by
 induction k generalizing i with
 |zero=>simp
 |succ k ih=>
  rw[lM,aK,bK]
  have e:((fun m=>i+m)∘Nat.succ)=fun m=>(i+1)+m:=by funext m;simp[Function.comp];omega
  rw[e]
  by_cases h:i<l.length
  ·rw[fM]
   simp only[iz,ac h]
   rw[ih (i+1),fw h,List.take_succ_cons]
  ·rw[fM]
   have h':l.length<=i:=by omega
   simp only[iz,cX h']
   rw[ih (i+1),lN h',lN (by omega)]
   simp
theorem Jp(v:Int)(n d:Nat):(if (1:Int)>0 then max 0 (min (if v<0 then v+(n:Int)else v) (n:Int))else max (-1) (min (if v<0 then v+(n:Int)else v) ((n:Int)-1)))=((HT.sIx n d (some v):Nat):Int):=by
 rw[aD (by omega)]
 show _=(((if v<0 then(v+(n:Int)).toNat else min v.toNat n):Nat):Int)
 by_cases hv:v<0
 ·simp only[aD hv];omega
 ·simp only[aQ hv];omega
theorem LC(lo hi:Option Int)(n:Nat):Builtin.Str.strSliceIndices lo hi 1 n=(List.range (HT.sIx n n hi-HT.sIx n 0 lo)).map fun(m:Nat)=>HT.sIx n 0 lo+m:=by
 have key:∀a b:Nat,sliceRange (a:Int) (b:Int) 1=(List.range (b-a)).map fun(m:Nat)=>a+m:=fun a b=>by
  unfold sliceRange
  have e:(if (1:Int)>0 then(if (a:Int)<(b:Int)then((b:Int)-a+1-1)/1 else 0)else(if (a:Int)>b then((a:Int)-b-1-1)/(-1)else 0)).toNat=b-a:=by
   rw[aD (by omega)]
   by_cases h:(a:Int)<b
   ·rw[aD h];omega
   ·rw[aQ h];omega
  dsimp only
  rw[e]
  refine cD fun k _=>?_
  omega
 unfold Builtin.Str.strSliceIndices
 rw[<- key]
 dsimp only
 congr 1
 ·cases lo with
  |none=>rfl
  |some v=>exact Jp v n 0
 ·cases hi with
  |none=>rfl
  |some v=>exact Jp v n n
theorem Dk(l:List Nat)(lo hi:Option Int):Txt.slice (tx l) lo hi=tx (BO l lo hi):=by
 unfold Txt.slice
 rw[LC,g_]
 split
 ·rename_i h
  simp only[beq_self_eq_true,Bool.true_and,cv,av,fG]at h
  unfold BO
  have h1:=HT.sIx_le l.length l.length (aA _) hi
  have h2:=HT.sIx_le l.length 0 (cU _) lo
  by_cases hz:l.length=0
  ·have:l=[]:=List.eq_nil_of_length_eq_zero hz
   subst this;simp
  ·have e0:HT.sIx l.length 0 lo=0:=by omega
   rw[e0,List.drop_zero,bo (by omega)]
 ·unfold BO tx
  have:∀j:Nat,(l.toArray)[j]?=l[j]?:=fun j=>by simp
  simp only[this]
  rw[yY]
def Sa:V->Option Int->Option Int->Hp->VK->Prop:=fun x lo hi H Q=>∃l,x=.str (tx l)/\l.length<=sizeLine/\Q (.str (tx (BO l lo hi))) H
theorem AD{v:Value}{o:Option Int}(p:IsPart v o):∃q:Option (Int×Tok),v=partValue q/\q.map (·.1)=o:=by
 cases p with
 |none=>exact⟨none,rfl,rfl⟩
 |int i t=>exact⟨some (i,t),rfl,rfl⟩
theorem LD:OR X Sa:=by
 intro pins s σ H x v vl vu lo hi sl Q I rx hs pl pu h
 obtain⟨l,e,hz,q⟩:=h
 subst e
 obtain⟨t,rfl⟩:=rx
 obtain⟨pl',rfl,rfl⟩:=AD pl
 obtain⟨pu',rfl,rfl⟩:=AD pu
 refine⟨"str",_,F.slot_str_getitem.lookup,iN _ _ _,?_⟩
 refine wpAny_getItem_str_slice (l:=pl') (u:=pu') (st:=none) hs rfl (post_val_or_str ?_)
 have e:=Dk l (pl'.map (·.1)) (pu'.map (·.1))
 unfold Txt.slice at e
 show(if ((1:Int)==1&&(Builtin.Str.strSliceIndices (pl'.map (·.1)) (pu'.map (·.1)) 1 (tx l).length).length==(tx l).length)=true then tx l else⟨((Builtin.Str.strSliceIndices (pl'.map (·.1)) (pu'.map (·.1)) 1 (tx l).length).filterMap ((tx l).cps[·]?)).toArray⟩:Str).length<=sizeLine /\
  ∀t' k,EP X pins σ Q (.str (if ((1:Int)==1&&(Builtin.Str.strSliceIndices (pl'.map (·.1)) (pu'.map (·.1)) 1 (tx l).length).length==(tx l).length)=true then tx l else⟨((Builtin.Str.strSliceIndices (pl'.map (·.1)) (pu'.map (·.1)) 1 (tx l).length).filterMap ((tx l).cps[·]?)).toArray⟩:Str) t') { s with toks:=k }
 rw[e,g_]
 exact⟨bn (wI l _ _) hz,fun t' k=>⟨.str _,H,I.tok k,⟨t',rfl⟩,q⟩⟩
theorem Dl(c:Nat)(l:List Nat):(!(Builtin.Str.occurrences (tx l) (tx [c]) 0 (tx l).length 1).isEmpty)=decide (c∈l):=StrLaws.found_one (tx l) c
def O_(GP:Bool):R2:=fun x y H Q=>∃c l,x=.str (tx [c])/\y=.str (tx l)/\Q (.bl (if GP then !decide (c∈l)else decide (c∈l))) H
theorem BP:lf X (compareOp .In) (O_ false):=by
 intro pins s σ H x y v u Q I rx ry h
 obtain⟨c,l,rfl,rfl,q⟩:=h
 exact Bz pins s σ H _ _ v u Q I rx ry ⟨_,_,rfl,rfl,by rw[Dl];exact q⟩
theorem uM:lf X (compareOp .NotIn) (O_ true):=by
 intro pins s σ H x y v u Q I rx ry h
 obtain⟨c,l,rfl,rfl,q⟩:=h
 exact uF pins s σ H _ _ v u Q I rx ry ⟨_,_,rfl,rfl,by rw[Dl];exact q⟩
theorem BQ:lf X (compareOp .LtE) (fun x y H Q=>∃c d,x=.str (tx [c])/\y=.str (tx [d])/\Q (.bl (decide (c<=d))) H):=by
 intro pins s σ H x y v u Q I rx ry h
 obtain⟨c,d,rfl,rfl,q⟩:=h
 obtain⟨t,rfl⟩:=rx
 obtain⟨t',rfl⟩:=ry
 refine PySem.P.le_str ⟨.bl _,H,I,?_,q⟩
 show Value.bool _=Value.bool _
 congr 1
 show(!decide ([d]<[c]))=decide (c<=d)
 by_cases mW:c<=d
 ·rw[a8 mW,aR];rfl
  intro z
  cases z with
  |rel z=>omega
  |cons z=>cases z
 ·rw[aR mW,a8];rfl
  exact .rel (by omega)
theorem nM:∀{ys:List (List Nat)} {bC:List Value},cJ (ys.map fun l=>V.str (tx l)) bC->StrsAre bC (ys.map tx)
 |[],_,r=>by cases r;exact .nil
 |y::ys,_,r=>by
  cases r with
  |cons r rr=>
   obtain⟨t,rfl⟩:=r
   exact .cons _ _ (nM rr)
theorem nN:∀{bC:List Value} {ss:List Str},StrsAre bC ss->cJ (ss.map fun z=>V.str z) bC
 |_,_,.nil=>.nil
 |_,_,.cons y t r=>.cons ⟨t,rfl⟩ (nN r)
def lX(sep:List Nat):List (List Nat)->List Nat
 |[]=>[]
 |[x]=>x
 |x::y::r=>x++sep++lX sep (y::r)
theorem kL:∀ys:List (List Nat),lX [] ys=ys.flatten
 |[]=>rfl
 |[x]=>by simp[lX]
 |x::y::r=>by rw[lX,kL (y::r)];simp
theorem HD(sep:List Nat):∀ys:List (List Nat),Txt.join (tx sep) (ys.map tx)=tx (lX sep ys):=fun ys=>by
 show Builtin.Str.glued (tx sep) (ys.map tx)=_
 rw[StrLaws.glued_eq_join]
 induction ys with
 |nil=>rfl
 |cons x r ih=>
  cases r with
  |nil=>rfl
  |cons y r=>
   show tx x++tx sep++Str.join (tx sep) ((y::r).map tx)=tx (x++sep++lX sep (y::r))
   rw[ih,yW,yW]
def O'(K:Frag):V->List V->Hp->VK->Prop:=fun x vs H Q=>∃(sep:List Nat) (a:Addr) (ys:List (List Nat)),x=.str (tx sep)/\vs=[.ref a]/\pL K H a (ys.map fun l=>V.str (tx l))/\(ys.map List.length).sum+ys.length*sep.length<=16777216/\Q (.str (tx (lX sep ys))) H
theorem HE:BF X "str.join" (O' X.K):=by
 intro pins s σ H x vs v us Q I rx rv h
 obtain⟨sep,a,ys,rfl,rfl,hS,hz,q⟩:=h
 obtain⟨t,rfl⟩:=rx
 obtain⟨u,rfl,ru⟩:=rv.one
 cases ru
 obtain⟨bC,r,p,_⟩:=I.list hS
 refine join_list p.isList (nM (by simpa using r)) ?_ fun t' k=>?_
 ·rw[bK,g_,av]
  have e:((fun z:Str=>z.length)∘tx)=List.length:=by funext l;exact g_ l
  rw[e];exact hz
 ·rw[HD]
  exact⟨.str _,H,I.tok k,⟨t',rfl⟩,q⟩
end
inductive D where
 |non|bl (b:Bool)|int (i:Int)|str (l:List Nat)|tnil|tcons (d r:D)
 deriving DecidableEq
structure eE(K:Frag)(H H':Hp):Prop where
 t:∀p xs,fg K H p xs->fg K H' p xs
 z:∀b o u,H b=some (.frz o u)->H' b=some (.frz o u)
instance {K:Frag} {H H':Hp}:CoeFun (eE K H H') (fun _=>∀p xs,fg K H p xs->fg K H' p xs):=⟨eE.t⟩
theorem fg.same{K:Frag}{H H':Hp}(e:qd H H'):eE K H H':=⟨fun p xs h=>by
 rcases h with(h|⟨o,h⟩)|h
 ·exact .inl (.inl (e _ _ h))
 ·exact .inl (.inr ⟨o,e _ _ h⟩)
 ·exact .inr h,fun b o u h=>e _ _ h⟩
theorem dg{H:Hp}{p:Addr}(h:H p=none)(o:HO):qd H (fm H p o):=fun b u q=>by rw[cx (dh q h)];exact q
def Rn(l:Addr)(H H':Hp):Prop:=∀b o,b≠l->H b=some o->H' b=some o
theorem gT{l:Addr}{H:Hp}{o:HO}:Rn l H (fm H l o):=fun b u h q=>by rw[cx h];exact q
theorem fg.but{K:Frag}{l:Addr}{xs:List V}{H H':Hp}(e:Rn l H H')(hl:H l=some (.lst xs)):eE K H H':=by
 have kJ:∀{p:Addr} {o:HO},H p=some o->(∀zs,o≠.lst zs)->p≠l:=fun{p o} q hn z=>by subst z;rw[hl]at q;cases q;exact hn _ rfl
 refine⟨fun p ys h=>?_,fun b o u h=>e _ _ (kJ h (fun _ z=>by cases z)) h⟩
 rcases h with(h|⟨o,h⟩)|h
 ·exact .inl (.inl (e _ _ (kJ h (fun _ z=>by cases z)) h))
 ·exact .inl (.inr ⟨o,e _ _ (kJ h (fun _ z=>by cases z)) h⟩)
 ·exact .inr h
theorem eE.refl{K:Frag}{H:Hp}:eE K H H:=⟨fun _ _ h=>h,fun _ _ _ h=>h⟩
theorem eE.trans{K:Frag}{H H1 H2:Hp}(a:eE K H H1)(b:eE K H1 H2):eE K H H2:=⟨fun p xs h=>b p xs (a p xs h),fun c o u h=>b.z c o u (a.z c o u h)⟩
theorem fg.new{K:Frag}{H:Hp}{p:Addr}{xs:List V}:fg K (fm H p (.tup xs)) p xs:=fg.of fC
theorem Pa{X:Cx}{x:Str}{v:V}{pos:Pos}(h:∃u,X.mg x=some u/\cr v u)(hg:Gl X x:=by rfl)(hd:(x==("__debug__":Str))=false:=by decide):PE X (.Name x pos) (tC v):=by
 obtain⟨u,a,b⟩:=h
 exact G6 hg a b hd
section
variable{X:Cx}{o e:Expr}{es:List Expr}{to:TE}{t:TA}{name:Str}{gq dM:Pos}{id:String}{r:V->List V->Hp->VK->Prop}
def Tj(r:V->List V->Hp->VK->Prop)(to:TE)(t:TA):TE:=fun σ H Q=>to σ H fun x H1=>(∃l ys,x=.ref l/\H1 l=some (.lst ys))/\t σ H1 fun xs H2=>r x xs H2 Q
def Tk(r:V->List V->Hp->VK->Prop)(to:TE)(t:TA):TE:=fun σ H Q=>to σ H fun x H1=>(∃l,x=.str (tx l))/\t σ H1 fun xs H2=>r x xs H2 Q
def Sb(r:V->List V->Hp->VK->Prop)(to:TE):TE:=fun σ H Q=>to σ H fun x H1=>(∃l ys,x=.ref l/\H1 l=some (.lst ys))/\r x [] H1 Q
theorem wJ{K:Frag}{x:V}{H:Hp}(h:∃l ys,x=.ref l/\H l=some (.lst ys)):Rm K "list" x H:=by
 obtain⟨l,ys,rfl,h⟩:=h
 exact .inl ⟨rfl,_,.of h⟩
theorem HF{K:Frag}{x:V}{H:Hp}(h:∃l,x=.str (tx l)):Rm K "str" x H:=by
 obtain⟨l,rfl⟩:=h
 exact rfl
theorem Dm{T:String}{ty:V->Hp->Prop}(SR:∀x H,ty x H->Rm X.K T x H)(pa:PlainAttrs T)(slot:Slot T name id)(yx:typeOf (.builtin id)=pure (.type "method_descriptor"))(hm:BF X id r)(ho:PE X o to)(ha:PA X (e::es) t)
  (kU:attributeBase o name X.env (eval o X.env)=eval o X.env)
  (v9:((backTo dM (starEach (e::es) X.env)).all (fun x=>!x.1)&&(backToKw dM (keywordEach [] X.env)).all (fun x=>x.1.isSome)
   && decide ((e::es).length+([]:List Keyword).length+(if ([]:List Keyword).isEmpty then 0 else 1)<30))=true)
  (kT:(gq.endLine==dM.line)=true) (hs:starEach (e::es) X.env=(false,eval e X.env)::starEach es X.env) (lE:(backTo dM (starEach es X.env)).any (·.1)=false) :
  PE X (.Call (.Attribute o name gq) (e::es) [] dM) (fun σ H Q=>to σ H fun x H1=>ty x H1/\t σ H1 fun xs H2=>r x xs H2 Q):=by
 intro pins s σ H Q I h
 refine wpAny_Call_method_late kU v9 kT rfl (fY (ho pins s σ H _ I h) fun v s1 ⟨x,H1,I1,r1,ty,q1⟩=>?_)
 obtain⟨h1,h2⟩:=Dc I1 r1 (SR _ _ ty)
 refine⟨T,id,pa,slot,yx,h1,h2,?_⟩
 have hA:=ha dM pins s1 σ H1 _ I1 q1
 rw[hs]at hA ⊢
 refine iy (by show(false||(backTo dM (starEach es X.env)).any (·.1))=false;rw[lE]<;>rfl) (iZ ?_)
 exact fY hA fun us s2 ⟨vs,H2,I2,r2,q2⟩=>hm pins s2 σ H2 x vs v us Q I2 r1 r2 q2
theorem Pc(slot:Slot "list" name id)(yx:typeOf (.builtin id)=pure (.type "method_descriptor"))(hm:BF X id r)(ho:PE X o to)(ha:PA X (e::es) t)
  (kU:attributeBase o name X.env (eval o X.env)=eval o X.env:=by rfl)
  (v9:((backTo dM (starEach (e::es) X.env)).all (fun x=>!x.1)&&(backToKw dM (keywordEach [] X.env)).all (fun x=>x.1.isSome)
   && decide ((e::es).length+([]:List Keyword).length+(if ([]:List Keyword).isEmpty then 0 else 1)<30))=true:=by rfl)
  (kT:(gq.endLine==dM.line)=true:=by rfl) (hs:starEach (e::es) X.env=(false,eval e X.env)::starEach es X.env:=by rfl) (lE:(backTo dM (starEach es X.env)).any (·.1)=false:=by rfl) :
  PE X (.Call (.Attribute o name gq) (e::es) [] dM) (Tj r to t):=Dm (ty:=fun x H1=>∃l ys,x=.ref l/\H1 l=some (.lst ys)) (fun _ _ h=>wJ h) F.plainAttrs_list slot yx hm ho ha kU v9 kT hs lE
theorem Pd(slot:Slot "str" name id)(yx:typeOf (.builtin id)=pure (.type "method_descriptor"))(hm:BF X id r)(ho:PE X o to)(ha:PA X (e::es) t)
  (kU:attributeBase o name X.env (eval o X.env)=eval o X.env:=by rfl)
  (v9:((backTo dM (starEach (e::es) X.env)).all (fun x=>!x.1)&&(backToKw dM (keywordEach [] X.env)).all (fun x=>x.1.isSome)
   && decide ((e::es).length+([]:List Keyword).length+(if ([]:List Keyword).isEmpty then 0 else 1)<30))=true:=by rfl)
  (kT:(gq.endLine==dM.line)=true:=by rfl) (hs:starEach (e::es) X.env=(false,eval e X.env)::starEach es X.env:=by rfl) (lE:(backTo dM (starEach es X.env)).any (·.1)=false:=by rfl) :
  PE X (.Call (.Attribute o name gq) (e::es) [] dM) (Tk r to t):=Dm (ty:=fun x H1=>∃l,x=.str (tx l)) (fun _ _ h=>HF h) F.plainAttrs_str slot yx hm ho ha kU v9 kT hs lE
theorem LF(slot:Slot "list" name id)(yx:typeOf (.builtin id)=pure (.type "method_descriptor"))(hm:BF X id r)(ho:PE X o to)
  (kU:attributeBase o name X.env (eval o X.env)=eval o X.env:=by rfl) (kT:(gq.endLine==dM.line)=true:=by rfl):PE X (.Call (.Attribute o name gq) [] [] dM) (Sb r to):=by
 intro pins s σ H Q I h
 refine wpAny_Call_method0_late kU kT (fY (ho pins s σ H _ I h) fun v s1 ⟨x,H1,I1,r1,ty,q1⟩=>?_)
 obtain⟨h1,h2⟩:=Dc I1 r1 (wJ ty)
 exact⟨"list",id,F.plainAttrs_list,slot,yx,h1,h2,iy rfl (PySem.evalArgs_none (hm pins s1 σ H1 x [] v [] Q I1 r1 .nil q1))⟩
end
section
variable{X:Cx}{e:Expr}{es:List Expr}{te:TE}{t:TA}{pos:Pos}
def Pe(t:TA):TE:=fun σ H Q=>t σ H fun xs H1=>xs.length<=sizeLine/\∀p H2,H1 p=none->H2=fm H1 p (.tup xs)->Q (.ref p) H2
def Pf(t:TA):TE:=fun σ H Q=>t σ H fun xs H1=>xs.length<=sizeLine/\∀p H2,H1 p=none->H2=fm H1 p (.lst xs)->Q (.ref p) H2
theorem HG{x1}(h:PA X es t):PE X (.Tuple es x1 pos) (Pe t):=by
 intro pins s σ H Q I hq
 refine wpAny_Tuple_spliced (fY (h pos pins s σ H _ I hq) fun us s1 ⟨xs,H1,I1,r,z,q⟩=>⟨by rw[<- r.length];exact z,?_⟩)
 have hf:H1 s1.heap.objs.size=none:=I1.hok.fresh (aA _)
 refine⟨.ref s1.heap.objs.size,fm H1 s1.heap.objs.size (.tup xs),I1.laid (t':=s1.toks) (fun b u e=>aq _ e) (aA _) ?_,rfl,q _ _ hf rfl⟩
 exact⟨z,us,r,⟨_,aH _ rfl,rfl,_,rfl⟩⟩
theorem HH(h:PA X es t):PE X (.List es pos) (Pf t):=by
 intro pins s σ H Q I hq
 refine wpAny_List_spliced (fY (h pos pins s σ H _ I hq) fun us s1 ⟨xs,H1,I1,r,z,q⟩=>⟨by rw[<- r.length];exact z,?_⟩)
 have hf:H1 s1.heap.objs.size=none:=I1.hok.fresh (aA _)
 refine⟨.ref s1.heap.objs.size,fm H1 s1.heap.objs.size (.lst xs),I1.laid (t':=s1.toks) (fun b u e=>aq _ e) (aA _) ?_,rfl,q _ _ hf rfl⟩
 exact⟨z,us,0,r,aH _ rfl⟩
theorem BF.imp{id:String}{r r':V->List V->Hp->VK->Prop}(h:BF X id r)(i:∀x xs H Q,r' x xs H Q->r x xs H Q):BF X id r':=fun pins s σ H x xs v us Q I rx rv q=>h pins s σ H x xs v us Q I rx rv (i _ _ _ _ q)
theorem hU.imp{f:Value}{r r':List V->Hp->VK->Prop}(h:hU X f r)(i:∀xs H Q,r' xs H Q->r xs H Q):hU X f r':=fun pins s σ H xs us Q I rv q=>h pins s σ H xs us Q I rv (i _ _ _ q)
theorem lf.imp{f:Value->Value->Sem Value}{r r':R2}(h:lf X f r)(i:∀x y H Q,r' x y H Q->r x y H Q):lf X f r':=fun pins s σ H x y v u Q I rx ry q=>h pins s σ H x y v u Q I rx ry (i _ _ _ _ q)
def Dn:V->List V->Hp->VK->Prop:=fun x vs H Q=>∃l xs y,x=.ref l/\vs=[y]/\H l=some (.lst xs)/\xs.length<sizeLine/\∀H2,H2=fm H l (.lst (xs++[y]))->Q .non H2
theorem yZ:BF X "list.append" Dn:=BF.imp (r:=Az) BG fun _ _ _ _ ⟨l,xs,y,a,b,c,d,q⟩=>⟨l,xs,y,a,b,c,d,q _ rfl⟩
def Pg:V->List V->Hp->VK->Prop:=fun x vs H Q=>∃l xs y,x=.ref l/\vs=[]/\H l=some (.lst (xs++[y]))/\∀H2,H2=fm H l (.lst xs)->Q y H2
theorem HI:BF X "list.pop" Pg:=BF.imp (r:=OY) Lu fun _ _ _ _ ⟨l,xs,y,a,b,c,q⟩=>⟨l,xs++[y],y,a,b,c,by simp,by rw[List.dropLast_concat];exact q _ rfl⟩
def LG:V->V->V->Hp->(Hp->Prop)->Prop:=fun o i v H Q=>∃p xs k j,o=.ref p/\i=.int k/\H p=some (.lst xs)/\Aw xs.length k=some j/\∀H2,H2=fm H p (.lst (xs.set j v))->Q H2
theorem BR:Bu X LG:=fun pins s σ H o i v ov iv u Q I r1 r2 r3 q=>by
 obtain⟨p,xs,k,j,a,b,c,d,q⟩:=q
 exact Db pins s σ H o i v ov iv u Q I r1 r2 r3 ⟨p,xs,k,j,a,b,c,d,q _ rfl⟩
def Do(K:Frag):List V->Hp->VK->Prop:=fun xs H Q=>∃p ys,xs=[.ref p]/\pL K H p ys/\∀l H2,H l=none->H2=fm H l (.tup ys)->Q (.ref l) H2
theorem wK:hU X (.type "tuple") (Do X.K):=hU.imp sK fun _ _ _ ⟨p,ys,a,b,q⟩=>⟨p,ys,a,.inl ⟨b,fun l hl=>q l _ hl rfl⟩⟩
def HJ(K:Frag):List V->Hp->VK->Prop:=fun xs H Q=>∃p ys,xs=[.ref p]/\(pL K H p ys\/fg K H p ys)/\∀l H2,H l=none->H2=fm H l (.lst ys)->Q (.ref l) H2
theorem qS:hU X (.type "list") (HJ X.K):=hU.imp uJ fun _ _ _ ⟨p,ys,a,b,q⟩=>⟨p,ys,a,b,fun l hl=>q l _ hl rfl⟩
def Ph:R2:=fun x y H Q=>∃l b xs zs,x=.ref l/\y=.ref b/\H l=some (.lst xs)/\H b=some (.lst zs)/\xs.length+zs.length<=sizeLine/\∀p H2,H p=none->H2=fm H p (.lst (xs++zs))->Q (.ref p) H2
theorem HK:lf X (binaryOp .Add) Ph:=lf.imp Lv fun _ _ _ _ ⟨l,b,xs,zs,h1,h2,h3,h4,h5,q⟩=>⟨l,b,xs,zs,h1,h2,h3,h4,h5,fun p hp=>q p _ hp rfl⟩
end
def Dp(T:String):Prop:=T="tuple"\/T="bool"\/T="int"\/T="str"
end L2
namespace L2
end L2
namespace L2
open PySem PySem.Spec PyProof.Rows
structure QE(X:Cx)(e:Expr)(t:TE):Prop where
 h:PE X e t
structure QA(X:Cx)(es:List Expr)(t:TA):Prop where
 h:PA X es t
structure QS(X:Cx)(s:Stmt)(t:TS):Prop where
 h:PS X s t
structure QG(X:Cx)(e:Expr)(t:TG):Prop where
 h:PG X e t
structure QI(X:Cx)(tg it:Expr)(t:TI):Prop where
 h:PI X tg it t
structure Rp(X:Cx)(es:List Expr)(t:TT):Prop where
 h:HA X es t
structure SZ(X:Cx)(f:Value->Value->Sem Value)(r:R2):Prop where
 h:lf X f r
structure Pi(X:Cx)(f:Value)(r:List V->Hp->VK->Prop):Prop where
 h:hU X f r
section
variable{X:Cx}{a b c e o:Expr}{es:List Expr}{ta tb tc te to:TE}{t u:TA}{pos p p2 gq dM:Pos}{x name:Str}{j:Nat}{tA Q9:TT}{d7:List Expr}
theorem AE:SZ X (binaryOp .LShift) (rI Ld fun i j=>.int (i*2^j.toNat)):=⟨C6⟩
variable{st:Stmt}{sr:List Stmt}{ts us:TS}{g:TG}
variable{tg:Expr}
end
section
variable{X:Cx}{tg iter c:Expr}{body:List Stmt}{wi:TI}{g:TG}{tb:TS}{pos:Pos}{tA:TT}
end
def f9(env:Env):List (Str×NameKind)->List (Str×Addr)->List (Str×Addr)
 |[],cs=>cs
 |(n,k)::r,cs=>f9 env r (if k==.free then(n,(env.cells.lookup n).getD 0)::cs else cs)
theorem AF{scope:Scope}{env:Env}(h:∀x∈scope.names,x.2=.free->∃c,env.cells.lookup x.1=some c):closureFor scope env=pure (f9 env scope.names []):=by
 unfold closureFor
 have key:∀(ns:List (Str×NameKind)) (cs:List (Str×Addr)),(∀x∈ns,x.2=.free->∃c,env.cells.lookup x.1=some c) ->
   (forIn ns cs fun(x:Str×NameKind) (r:List (Str×Addr))=>if (x.2==NameKind.free)=true then(do let a <- cellOf env x.1;pure (ForInStep.yield ((x.1,a)::r)))else(pure (ForInStep.yield r):Sem _))=pure (f9 env ns cs):=by
  intro ns
  induction ns with
  |nil=>intro cs _;rfl
  |cons y r ih=>
   intro cs hc
   obtain⟨n,k⟩:=y
   rw[ma]
   have ihr:=fun cs=>ih cs fun x hx=>hc x (aZ _ hx)
   by_cases hk:(k==NameKind.free)=true
   ·obtain⟨c,e⟩:=hc (n,k) bA (nj hk)
    have e2:cellOf env n=pure c:=by unfold cellOf;rw[e]
    show((if (k==NameKind.free)=true then _ else _) >>= _)=pure (f9 env r (if (k==NameKind.free)=true then _ else _))
    rw[aD hk,aD hk,e2]
    simp only[pure_bind]
    have e3:(env.cells.lookup n).getD 0=c:=by rw[show env.cells.lookup n=some c from e];rfl
    rw[e3]
    exact ihr _
   ·show((if (k==NameKind.free)=true then _ else _) >>= _)=pure (f9 env r (if (k==NameKind.free)=true then _ else _))
    rw[aQ hk,aQ hk]
    simp only[pure_bind]
    exact ihr _
 have:=key scope.names [] h
 dsimp only
 rw[this];simp only[pure_bind]
theorem m6{env:Env}:∀(ns:List (Str×NameKind)) (cs:List (Str×Addr)),(∀x∈ns,x.2=.free->∃c,env.cells.lookup x.1=some c)->(∀y∈cs,env.cells.lookup y.1=some y.2)->∀y∈f9 env ns cs,env.cells.lookup y.1=some y.2
 |[],cs,_,h=>h
 |(n,k)::r,cs,hf,h=>by
  refine m6 r _ (fun x hx=>hf x (aZ _ hx)) ?_
  by_cases hk:(k==NameKind.free)=true
  ·rw[aD hk]
   intro y hy
   rcases br.mp hy with rfl|hy
   ·obtain⟨c,e⟩:=hf (n,k) bA (nj hk)
    show env.cells.lookup n=some ((env.cells.lookup n).getD 0)
    rw[show env.cells.lookup n=some c from e];rfl
   ·exact h y hy
  ·rw[aQ hk];exact h
theorem qT{env:Env}:∀(ns:List (Str×NameKind)) (cs:List (Str×Addr)) (y:Str×Addr),y∈cs->y∈f9 env ns cs
 |[],_,_,h=>h
 |(n,k)::r,cs,y,h=>by
  refine qT r _ y ?_
  split
  ·exact aZ _ h
  ·exact h
theorem lh{env:Env}:∀(ns:List (Str×NameKind)) (cs:List (Str×Addr)) (x:Str),(x,NameKind.free)∈ns->∃c,(x,c)∈f9 env ns cs
 |[],_,_,h=>by simp at h
 |(n,k)::r,cs,x,h=>by
  rcases br.mp h with e|h
  ·obtain⟨e1,e2⟩:=Prod.mk.inj e
   subst e1;subst e2
   exact⟨_,qT r _ (x,_) (by rw[aD (by rfl:(NameKind.free==NameKind.free)=true)];exact bA)⟩
  ·exact lh r _ x h
theorem dy{β:Type}:∀{l:List (Str×β)} {x:Str} {b:β},l.lookup x=some b->(x,b)∈l
 |[],_,_,h=>by simp at h
 |(y,c)::r,x,b,h=>by
  rw[iP]at h
  cases hx:x==y with
  |true=>rw[hx]at h;have:=nj hx;subst this;cases h;exact bA
  |false=>rw[hx]at h;exact aZ _ (dy h)
theorem lj{β:Type}:∀{l:List (Str×β)} {x:Str} {b:β},(x,b)∈l->∃c,l.lookup x=some c
 |(y,c)::r,x,b,h=>by
  rw[iP]
  cases hx:x==y with
  |true=>exact⟨c,rfl⟩
  |false=>
   rcases br.mp h with e|h
   ·cases e;simp at hx
   ·exact lj h
theorem j6{env:Env}{g:Str×NameKind->Bool}:∀{names:List (Str×NameKind)} {x:Str},names.lookup x=some .free ->
  (names.map fun y=>if g y then(y.1,NameKind.cell)else y).lookup x=some .cell\/(names.map fun y=>if g y then(y.1,NameKind.cell)else y).lookup x=some .free
 |[],_,h=>by simp at h
 |(n,k)::r,x,h=>by
  rw[iP]at h
  rw[aK]
  have e1:∀y:Str×NameKind,(if g y then(y.1,NameKind.cell)else y).1=y.1:=fun y=>by split<;>rfl
  have e2:∀(y:Str×NameKind) (l:List (Str×NameKind)),(y::l).lookup x=if (x==y.1)=true then some y.2 else l.lookup x:=fun y l=>by
   obtain⟨a,b⟩:=y
   rw[iP]
   cases x==a<;>rfl
  rw[e2,e1]
  cases hx:x==n with
  |true=>
   rw[hx]at h
   cases h
   rw[aD rfl]
   by_cases hg:g (n,.free)=true
   ·rw[aD hg];exact .inl rfl
   ·rw[aQ hg];exact .inr rfl
  |false=>
   rw[hx]at h
   rw[aQ (by exact dZ)]
   exact j6 (env:=env) h
def uN(dn:List (Str×NameKind))(sn:List (Str×NameKind))(nm:List Str)(cap:List (Option Nat))(N:List Str):Bool:=
 (sn.all fun x=>!(x.2==.local)||sn.lookup x.1==some .local)&&(sn.all fun y=>!(y.2==.cell))&&(sn.all fun x=>!(x.2==.free)||dn.lookup x.1==some .cell)&&(cap.length==nm.length) &&
 ((List.range cap.length).all fun i=>match cap[i]? with
  |some (some j)=>(match nm[i]?,N[j]? with
   |some x,some y=>x==y&&dn.lookup x==some .cell&&sn.lookup x==some .free
   |_,_=>false)
  |_=>true)
theorem LH{X:Cx}{nu tg iter:Expr}{mw:List Expr}{scope:Scope}{pos:Pos}{nm:List Str}{cap:List (Option Nat)}{wi:TI}{g:TG}{tc:TT}{te:TE}{m:Nat}(gR:X.calm=true)
  (lB:X.env.cells=cellsFrom m X.env.scope.names []) (gQ:scope.kind=.function) (hB:uN X.env.scope.names scope.names nm cap X.N=true)
  (hi:QI X tg iter wi) (hg:∀cl C s0 H0 fp,QG (bO X nm scope cl C s0 H0 fp) tg g) (ht:∀cl C s0 H0 fp,Rp (bO X nm scope cl C s0 H0 fp) mw tc)
  (he:∀cl C s0 H0 fp,QE (bO X nm scope cl C s0 H0 fp) nu te) (hs:∀x,foldedSetIterable iter X.env x=pure x:=by intro _;rfl) :
  QE X (.ListComp nu [⟨tg,iter,mw,0⟩] scope pos) (tJ cap wi g tc te):=by
 simp only[uN,cw,kY,gZ,gj,cv,aO]at hB
 obtain⟨⟨⟨⟨b1,b2⟩,b3⟩,b4⟩,b5⟩:=hB
 have has:∀x∈scope.names,x.2=.free->∃c,X.env.cells.lookup x.1=some c:=fun x hx hk=>by
  rw[lB]
  rcases b3 x hx with z|z
  ·exact absurd hk z
  ·exact mz z
 have nF:∀x c,(f9 X.env scope.names []).lookup x=some c->X.env.cells.lookup x=some c:=fun x c h=>m6 scope.names [] has (by simp) (x,c) (dy h)
 have hin:∀x,(x,NameKind.free)∈scope.names->∃c,(f9 X.env scope.names []).lookup x=some c:=fun x h=>let ⟨_,q⟩:=lh (env:=X.env) scope.names [] x h;lj q
 have hmap:(relabel scope X.env).names=scope.names.map fun y=>if (y.2==.free&&X.env.scope.kind==.function&&X.env.kindOf y.1==some .cell)then(y.1,NameKind.cell)else y:=by
  show scope.names.map _=_
  refine cD fun y _=>?_
  obtain⟨a,b⟩:=y
  rfl
 have fr:∀x,((relabel scope X.env).names.lookup x=some .cell\/(relabel scope X.env).names.lookup x=some .free)->(x,NameKind.free)∈scope.names:=fun x h=>by
  have h':∃k,(x,k)∈(relabel scope X.env).names/\(k=.cell\/k=.free):=by
   rcases h with h|h
   ·exact⟨_,dy h,.inl rfl⟩
   ·exact⟨_,dy h,.inr rfl⟩
  obtain⟨k,hm,hk⟩:=h'
  rw[hmap]at hm
  obtain⟨y,hy,e⟩:=a9.mp hm
  obtain⟨a,b⟩:=y
  by_cases hb:b=.free
  ·subst hb
   have:a=x:=by split at e<;>(cases e;rfl)
   subst this;exact hy
  ·rw[aQ (by simp[hb])]at e
   cases e
   rcases hk with rfl|rfl
   ·exact absurd rfl (b2 _ hy)
   ·exact absurd rfl hb
 refine⟨AC (cl:=f9 X.env scope.names []) (cap:=cap) (nm:=nm) gR (AF has) nF gQ (fun x hx hk=>(b1 x hx).resolve_left fun z=>z hk) (fun y hy=>b2 y hy) (fun x hx=>hin x (fr x hx)) (fun i j e=>?_) b4 hi.h (fun C s0 H0 fp=>(hg _ C s0 H0 fp).h) (fun C s0 H0 fp=>(ht _ C s0 H0 fp).h) (fun C s0 H0 fp=>(he _ C s0 H0 fp).h) hs⟩
 have hi':i<cap.length:=(aa.mp e).1
 have q:=b5 i (ca.mpr hi')
 rw[e]at q
 dsimp only at q
 cases hx:nm[i]? with
 |none=>rw[hx]at q;simp at q
 |some x=>
  cases hy:X.N[j]? with
  |none=>rw[hx,hy]at q;simp at q
  |some y=>
   rw[hx,hy]at q
   simp only[cw,cv]at q
   obtain⟨⟨rfl,q1⟩,q2⟩:=q
   refine⟨x,rfl,rfl,.inr (.inl q1),(by rw[q1];decide),?_,?_⟩
   ·obtain⟨c,hc⟩:=hin x (dy q2)
    rw[hc,nF _ _ hc]
   ·rw[hmap];exact j6 (env:=X.env) q2
def HL(K:Frag):List V->Hp->VK->Prop:=fun xs H Q=>∃(p:Addr) (ys:List (List Nat)),xs=[.ref p]/\pL K H p (ys.map fun l=>V.str (tx l))/\ys.length<64 /\
 ∀zs:List (List Nat),zs.Perm ys->sortedS (zs.map tx)=true->∀l H2,H l=none->H2=fm H l (.lst (zs.map fun l=>V.str (tx l)))->Q (.ref l) H2
theorem AG(z:Str):tx z.cps.toList=z:=by cases z;rfl
theorem sL{X:Cx}:Pi X (.builtin "sorted") (HL X.K):=⟨by
 intro pins s σ H xs us Q I r h
 obtain⟨p,ys,rfl,hS,h64,q⟩:=h
 obtain⟨u,rfl,ru⟩:=lV r
 cases ru
 obtain⟨bC,rv,pl,hz⟩:=I.list hS
 have hl:=rv.length
 rw[av]at hl
 refine sorted_strs (ss:=ys.map tx) pl.isList (nM (by simpa using rv)) (by omega) fun out ss' h1 h2 h3=>?_
 obtain⟨ep,hat⟩:=sortedAll_at s.heap bC out
 have zZ:H (s.heap.objs.size+1)=none:=I.hok.fresh (kx _)
 have hmap:(ss'.map fun z=>z.cps.toList).map tx=ss':=by
  rw[bK]
  have:(tx∘fun z:Str=>z.cps.toList)=id:=funext fun z=>AG z
  rw[this,mY]
 have hperm:(ss'.map fun z=>z.cps.toList).Perm ys:=by
  have e:=h2.map fun z:Str=>z.cps.toList
  rw[bK]at e
  have:((fun z:Str=>z.cps.toList)∘tx)=id:=funext fun l=>by simp[tx]
  rw[this,mY]at e
  exact e
 have hvals:cJ ((ss'.map fun z=>z.cps.toList).map fun l=>V.str (tx l)) out.toList:=by
  have e:=nN h1
  rw[<- hmap,bK]at e
  exact e
 refine⟨.ref (s.heap.objs.size+1),_,I.laid (t':=s.toks) (fun b o e=>sortedAll_old e) (kx _) ?_,rfl,q _ hperm (by rw[hmap];exact h3) _ _ zZ rfl⟩
 refine⟨?_,out.toList,ep,hvals,hat⟩
 rw[av,hperm.length_eq]
 exact bn (gE h64) (by decide)⟩
theorem bE.turned2{X:Cx}{pins:List (Addr×Obj)}{σ:St}{H:Hp}{s:Shared}{h':Heap}{t':Nat}{e it:Addr}(I:bE X pins σ H s)(k:∀b o,b≠e->b≠it->s.heap.get? b=some o->h'.get? b=some o)
  (he:∃o,h'.get? e=some o) (f1:my X pins H e) (f2:my X pins H it):bE X pins σ H { s with heap:=h',toks:=t' }:=by
 have nit:∀b u,H b=some u->b≠e/\b≠it:=fun b u q=>⟨fun z=>(by rw[z,f1.1]at q;cases q),fun z=>(by rw[z,f2.1]at q;cases q)⟩
 have nin:∀b,b∉[e,it]->b≠e/\b≠it:=fun b h=>⟨fun z=>h (by simp[z]),fun z=>h (by simp[z])⟩
 refine I.step (g':=s.gens) (d':=s.drawn) (ch:=[e,it]) (fun b hb=>?_) (fun b o _ _ hc q _=>k b o (nin b hc).1 (nin b hc).2 q) (fun b o _ _ hc q _=>⟨o.slots,k b o (nin b hc).1 (nin b hc).2 q⟩) (fun _ _ _ _ n=>n)
  (fun b o hc q=>⟨o,k b o (nin b hc).1 (nin b hc).2 q⟩) (fun _ _ q=>q) (fun _ _ _ q=>q) (fun b ps q=>⟨#[],by rw[q];simp⟩) (fun m hm=>?_) (fun b u q=>?_) I.bare
 ·have z:b=e\/b=it:=by simpa using hb
  rcases z with rfl|rfl
  ·exact⟨f1.2.2.2.1,f1.2.1,f1.2.2.2.2.1,f1.2.2.2.2.2⟩
  ·exact⟨f2.2.2.2.1,f2.2.1,f2.2.2.2.2.1,f2.2.2.2.2.2⟩
 ·obtain⟨o,es,ep,ho,r⟩:=hm
  exact⟨o,es,ep,k _ o (Ne.symm f1.2.1) (Ne.symm f2.2.1) ho,r⟩
 ·refine(I.hok b u q).stay (fun c v hc z=>?_) (fun _ z=>z) fun _ _ z=>z
  rcases hc with y|y
  ·rw[y]at z ⊢;exact k b v (nit b u q).1 (nit b u q).2 z
  ·exact k c v (nit c _ y).1 (nit c _ y).2 z
section
variable{prog:Program}{w:World}{A:Around}{E:Value->Shared->Prop}{s:Shared}
theorem iR{it t:Addr}{i:Nat}{bC:Array Value}{x:Value}{Q:Value->Shared->Prop}(st:s.heap.IsTupleIter it t i)(ht:s.heap.IsTuple t bC)(hx:bC[i]?=some x)
  (q:∀g,g.IsTupleIter it t (i+1)->Heap.SameBut it s.heap g->Q x { s with heap:=g }):wpAny (model prog w) A (Builtin.SmallTypes.nextOf (.ref it)) Q E s:=by
 obtain⟨ob,e1,e2,e3⟩:=id st
 obtain⟨ot,g1,_,nt,g3⟩:=ht
 have T:=st.typeIs
 unfold Builtin.SmallTypes.nextOf
 refine ag (cf (name:=Str.ofString "__next__") T eW (cS eW T jz ?_ (je _)))
 show wpAny _ _ (field (.ref it) 0 >>= _) _ _ s
 refine ag (ce e1 e3 (x:=.ref t) rfl ?_)
 dsimp only
 rw[aQ (show ¬ ((Value.ref t==Value.none)=true)from dZ)]
 refine ag (ce e1 e3 (x:=.int i 0) rfl ?_)
 dsimp only
 refine ag (dv g1 g3 ?_)
 simp only[bB,hx]
 refine ag (iA e1 e3 (by simp) (aI ⟨x,rfl,aI (q _ ?_ (eG ..))⟩))
 exact⟨_,f' _ e1 (iK (eX e3 _)),(Obj.cls_mapFields ..).trans e2,by rw[eX e3];simp[rawInt]⟩
theorem jm{it t:Addr}{i:Nat}{bC:Array Value}{Q:Value->Shared->Prop}(hh:A.handled=none)(st:s.heap.IsTupleIter it t i)(ht:s.heap.IsTuple t bC)(hx:bC[i]?=none)
  (q:∀g e,Heap.ExtBut it s.heap g->(∃o,g.get? e=some o/\o.cls=.type "StopIteration")->E (.ref e) { s with heap:=g }):wpAny (model prog w) A (Builtin.SmallTypes.nextOf (.ref it)) Q E s:=by
 obtain⟨ob,e1,e2,e3⟩:=id st
 obtain⟨ot,g1,_,nt,g3⟩:=ht
 have T:=st.typeIs
 unfold Builtin.SmallTypes.nextOf
 refine ag (cf (name:=Str.ofString "__next__") T eW (cS eW T jz ?_ (je _)))
 show wpAny _ _ (field (.ref it) 0 >>= _) _ _ s
 refine ag (ce e1 e3 (x:=.ref t) rfl ?_)
 dsimp only
 rw[aQ (show ¬ ((Value.ref t==Value.none)=true)from dZ)]
 refine ag (ce e1 e3 (x:=.int i 0) rfl ?_)
 dsimp only
 refine ag (dv g1 g3 ?_)
 simp only[bB,hx]
 refine ag (lO (ag (iA e1 e3 (by simp) (ag ?_))))
 simp only[newExc,newTuple]
 refine ag (cI (ag (m:=firstArgMember _ _) (fT (a:=Value.none) (by first|rfl|(simp only[firstArgMember];rfl)) (cI ?_ (by size_fits)))) (by size_fits))
 simp only[raiseNew]
 refine ag (wpAny_handled ?_)
 rw[show A.in1.handled=none from hh]
 exact ag (aI (wpAny_throw (q _ _ (((eG ..).extBut.push _).push _) ⟨_,aH _ rfl,rfl⟩)))
end
theorem Dq{prog:Program}{w:World}{A:Around}(hh:A.handled=none)(it t:Addr)(kJ:t≠it)(bC:Array Value) :
  Draws prog w A it [it,t] bC.size (fun i v=>bC[i]?=some v) (fun i h=>h.IsTupleIter it t i/\h.IsTuple t bC) where
 live:=fun _ _ st=>let ⟨o,e,_⟩:=st.1;⟨o,e⟩
 frame:=fun _ h h' st k=>⟨st.1.at fun o e=>k it (by simp) o e,let ⟨o,e,r⟩:=st.2;⟨o,k t (by simp) o e,r⟩⟩
 item:=fun i s Q E hi st q=>iR st.1 st.2 (x:=bC[i]) (by simp[hi]) fun g a b=>q _ g s.toks (by simp[hi]) ⟨a,st.2.extBut b.extBut kJ⟩ b
 done:=fun s Q E st q=>jm hh st.1 st.2 (by simp) q
open AutoSeq1 (wpAny_loadPart')
def S5(K:Frag)(a:Addr):It:=
 ⟨fun i H=>∃xs x,fg K H a xs/\xs[i]?=some x,fun i H v H'=>∃p,H p=none/\v=.ref p/\∀xs x,fg K H a xs->xs[i]?=some x->H'=fm H p (.tup [.int i,x]),fun i H=>∃xs,fg K H a xs/\xs.length<=i⟩
theorem BS{P:Program}{w:World}{K:Frag}{sB:List Expr}{kk:Nat}{pos:Pos}(a it e:Addr)(SL:e≠it) :
  yJ P w K (.Tuple sB kk pos) (S5 K a) [e,it] e (fun i h=>(∃old,IsEnum h e it i old)/\h.IsTupleIter it a i) where
 mem:=by simp
 obj:=fun i h st b hb=>by
  have z:b=e\/b=it:=by simpa using hb
  rcases z with rfl|rfl
  ·obtain⟨old,q⟩:=st.1
   exact⟨_,q,fun v z=>by cases z⟩
  ·obtain⟨o,q,c,d⟩:=st.2
   exact⟨o,q,fun v z=>by rw[d]at z;cases z⟩
 keep:=fun i h h' st k=>⟨let ⟨old,q⟩:=st.1;⟨old,k e (by simp) _ q⟩,st.2.at fun o q=>k it (by simp) o q⟩
 item:=by
  intro X hP hw hK hc i pins s σ H E I hf st hg
  subst hP hw hK
  obtain⟨xs,x,hq,hx⟩:=hg
  obtain⟨bC,rv,p,hz⟩:=I.tuple hq
  obtain⟨u,hu,ru⟩:=rv.get hx
  obtain⟨⟨old,he⟩,uu⟩:=st
  have hT:s.heap.IsTuple a bC.toArray:=p
  obtain⟨oa,ha,hca,_⟩:=id hT
  obtain⟨oi,hi,hci,_⟩:=id uu
  have nai:a≠it:=fun z=>by
   rw[z,hi]at ha;cases ha
   rw[hci]at hca;injection hca with z;exact absurd z (by decide)
  have nae:a≠e:=fun z=>by
   rw[z,he]at ha;cases ha
   injection hca with z;exact absurd z (by decide)
  have oN:i<bC.toArray.size:=by
   have:=(aa.mp hu).1
   simpa using this
  refine wpAny_pyNext_enum_itemD (Dq (A:=X.A.in1) (I.ok.hd hc) it a nai bC.toArray) he ⟨uu,hT⟩ oN SL (by simp[SL,Ne.symm nae]) fun x' g tk hx' ho' bH htup hsz hk=>⟨_,rfl,?_⟩
  have ex:x'=u:=by
   have e1:bC[i]?=some x':=by simpa using hx'
   rw[hu]at e1;exact(a_ e1).symm
  subst ex
  refine wpAny_letOwnedTupleGo_enum ho' fun g2 SQ uA=>?_
  have zZ:H s.heap.objs.size=none:=I.hok.fresh (aA _)
  have I1:bE X pins σ (fm H s.heap.objs.size (.tup [.int i,x])) { s with heap:=s.heap.push { cls:=.type "tuple",data:=.seq #[.int i tk,x'] },toks:=tk+1 }:=I.laid (fun b o q=>aq _ q) (aA _)
   ⟨by show 2<=sizeLine;decide,[.int i tk,x'],.cons ⟨tk,rfl⟩ (.cons ru .nil),⟨_,aH _ rfl,rfl,_,rfl⟩⟩
  have nf:∀b∈[e,it],b≠s.heap.objs.size:=fun b hb=>by
   have z:b=e\/b=it:=by simpa using hb
   rcases z with rfl|rfl
   ·exact bd (aG he)
   ·exact bd (aG hi)
  have fp:∀b∈[e,it],my X pins (fm H s.heap.objs.size (.tup [.int i,x])) b:=fun b hb=>by
   obtain⟨f0,f⟩:=hf b hb
   exact⟨by rw[cx (nf b hb)];exact f0,f⟩
  have he2':IsEnum g2 e it ((i:Int)+1) x':=SQ
  have I2:bE X pins σ (fm H s.heap.objs.size (.tup [.int i,x])) { s with heap:=g2,toks:=tk+1 }:=I1.turned2 (t':=tk+1) (fun b o hbe hbi q=>?_) ⟨_,he2'⟩ (fp e (by simp)) (fp it (by simp))
  ·refine⟨.ref s.heap.objs.size,_,I2,rfl,⟨_,zZ,rfl,fun ys y hy hy'=>?_⟩,⟨⟨x',by simpa using he2'⟩,bH.1.extBut uA.extBut (Ne.symm SL)⟩,fun b hb=>(fp b hb).1⟩
   have e1:=I.tuple_inj hy hq
   subst e1
   rw[hx]at hy';cases hy';rfl
  ·have q':(s.heap.push { cls:=.type "tuple",data:=.seq #[.int i tk,x'] }).get? b=some o:=q
   refine uA.extBut b o hbe ?_
   by_cases hb:b=s.heap.objs.size
   ·subst hb
    have e1:=aH s.heap (o:={ cls:=.type "tuple",data:=.seq #[.int i tk,x'] }) rfl
    rw[e1]at q';cases q'
    exact htup
   ·rw[Heap.get?_push_ne _ _ _ hb]at q'
    exact hk b o hbe hbi q'
 done:=by
  intro X hP hw hK hc i pins s σ H E I hf st hg
  subst hP hw hK
  obtain⟨xs,hq,hx⟩:=hg
  obtain⟨bC,rv,p,hz⟩:=I.tuple hq
  obtain⟨⟨old,he⟩,uu⟩:=st
  have hT:s.heap.IsTuple a bC.toArray:=p
  have hl:=rv.length
  have hT':Shared.TypeIs s (.ref e) "enumerate":=⟨_,he,rfl⟩
  unfold pyNext
  refine ag (gS (cf (name:=Str.ofString "__next__") hT' mo (cS mo hT' F.entry_enumerate_next ?_ (F.args_enumerate_next_1 _))))
  show wpAny _ _ (field (.ref e) 2 >>= _) _ _ _
  refine ag (ce he rfl (x:=.ref it) rfl (ag (jm (show X.A.in1.handled=none from I.ok.hd hc) uu hT (by simp;omega) fun g y hx' hy=>?_)))
  obtain⟨o,ho,nF⟩:=hy
  refine ag (iQ (T:="StopIteration") (b:=true) ⟨o,ho,nF⟩ mZ (aI ⟨rfl,?_⟩))
  obtain⟨f0,f1,f2,f3,f4,f5⟩:=hf it (by simp)
  exact I.turned (t':=s.toks) (fun b o hb q=>hx' b o hb q) f0 f1 f3 f4 f5
 self:=fun A i s Q E st h=>let ⟨_,q⟩:=st.1;wpAny_pyIter_enum q h
open AutoSeq1 (wpAny_loadPart')
abbrev j7(t:Addr):Obj:={ cls:=.type "tuple_iterator",data:=.fields #[.ref t,.int 0 0] }
abbrev y0(it:Addr):Obj:={ cls:=.type "enumerate",data:=.fields #[.none,.bool false,.ref it,rawInt 0,.none,.none] }
theorem LI(t:Addr)(bC:Array Value)(n:Nat)(dc:Option Addr)(sl:Array (Option Value)) :
  Meets (Builtin.«enumerate.__new__» ⟨[.type "enumerate",.ref t],[]⟩) (fun _ R s=>s.heap.get? t=some { cls:=.type "tuple",dict:=dc,data:=.seq bC n,slots:=sl } /\
   R (.ok (.ret (.ref (s.heap.push (j7 t)).objs.size))) { s with heap:=(s.heap.push (j7 t)).push (y0 s.heap.objs.size) }):=
 .of_wp fun prog w A R s h=>by
  obtain⟨hp,g,d,tk,os⟩:=s
  obtain⟨ht,h⟩:=h
  have sb:=sub_enumerate
  have hT:Heap.IsTuple (Shared.heap ⟨hp,g,d,tk,os⟩) t bC:=⟨_,ht,rfl,n,rfl⟩
  wp_walk using bU ht
  refine wpAny_stack_any fun st=>aI ?_
  split
  ·rename_i c _ _ _ _ _
   cases(c==Value.type "enumerate")<;>(wp_walk using bU ht,fV hT;exact⟨_,rfl,h⟩)
  ·wp_walk using bU ht,fV hT
   exact⟨_,rfl,h⟩
section
variable{prog:Program}{w:World}{A:Around}{E:Value->Shared->Prop}{s:Shared}
theorem sM{t:Addr}{bC:Array Value}{Q:Value->Shared->Prop}(hT:s.heap.IsTuple t bC)
  (q:∀g,IsEnum g (s.heap.objs.size+1) s.heap.objs.size 0 .none->g.IsTupleIter s.heap.objs.size t 0->(∀b o,s.heap.get? b=some o->g.get? b=some o)->Q (.ref (s.heap.objs.size+1)) { s with heap:=g }) :
  wpAny (model prog w) A (call (.type "enumerate") [.ref t]) Q E s:=by
 obtain⟨⟨c,dc,dt,sl⟩,ht,hc,n,hd⟩:=hT
 obtain rfl:c=.type "tuple":=hc
 obtain rfl:dt=.seq bC n:=hd
 refine oS F.called_enumerate (by decide) (F.typeCall_enumerate_1 _) (F.newCall_enumerate_1 _) (fun ob=>F.args_object_init_2 ob _) F.entry_enumerate_new (LI t bC n dc sl) ⟨ht,?_⟩
 have z:(s.heap.push (j7 t)).objs.size=s.heap.objs.size+1:=ef ..
 show _/\_
 rw[z]
 have e1:IsEnum ((s.heap.push (j7 t)).push (y0 s.heap.objs.size)) (s.heap.objs.size+1) s.heap.objs.size 0 .none:=by
  have y:=aH (s.heap.push (j7 t)) (o:=y0 s.heap.objs.size) rfl
  rw[z]at y;exact y
 exact⟨⟨_,e1,rfl⟩,q _ e1 ⟨_,aq _ (aH _ rfl),rfl,rfl⟩ fun b o y=>aq _ (aq _ y)⟩
end
section
variable{X:Cx}
def Sc(K:Frag)(ta:TA):TI:=fun σ H R=>ta σ H fun vs H1=>∃a,vs=[.ref a]/\(∃xs,fg K H1 a xs)/\R (S5 K a) H1
theorem Dr{a:Expr}{ta:TA}{p pos tp:Pos}{sB:List Expr}{kk:Nat}(hm:X.mg "enumerate"=none)(ha:QA X [a] ta)(hg:Gl X "enumerate":=by rfl)(hs:starEach [a] X.env=[(false,eval a X.env)]:=by rfl) :
  QI X (.Tuple sB kk tp) (.Call (.Name "enumerate" p) [a] [] pos) (Sc X.K ta):=⟨by
 intro pins s σ H R I h
 refine Call_ (kA I hg hm boot_enumerate (cz (fY (ha.h pos pins s σ H _ I h) fun us s1 ⟨vs,H1,I1,r1,q1⟩=>?_) hs rfl))
 obtain⟨t,e,⟨xs,hq⟩,q⟩:=q1
 subst e
 obtain⟨u,rfl,ru⟩:=lV r1
 cases ru
 obtain⟨bC,rv,pt,hz⟩:=I1.tuple hq
 refine sM (show s1.heap.IsTuple t bC.toArray from pt) fun g e1 e2 kp=>?_
 refine wpAny_pyIter_enum e1 ?_
 refine⟨s1.heap.objs.size+1,[s1.heap.objs.size+1,s1.heap.objs.size],_,_,H1,rfl,I1.kept (t':=s1.toks) kp,BS t _ _ (Nat.succ_ne_self _),⟨⟨_,e1⟩,e2⟩,fun b hb=>?_,q⟩
 have z:b=s1.heap.objs.size+1\/b=s1.heap.objs.size:=by simpa using hb
 rcases z with rfl|rfl
 ·exact I1.fpOk (kx _) (I1.hok.fresh (kx _))
 ·exact I1.fpOk (aA _) (I1.hok.fresh (aA _))⟩
end
section
variable{cap:List (Option Nat)}{g:TG}{tc:TT}{te:TE}{σ:St}{H1:Hp}{Q:VK}{n:Nat}
end
section
variable{prog:Program}{w:World}
variable{A:Around}{E:Value->Shared->Prop}{s:Shared}
end
section
variable{prog:Program}{w:World}{A:Around}{R:Result->Shared->Prop}{I:Addr}{fp wr:List Addr}{n:Nat}{P:Nat->Value->Prop}{St:Nat->Heap->Prop}
end
section
variable{prog:Program}{w:World}{A:Around}{E:Value->Shared->Prop}{s:Shared}
end
section
variable{M:Model}{A:Around}{E:Value->Shared->Prop}
end
section
variable{prog:Program}{w:World}{A:Around}{E:Value->Shared->Prop}{s:Shared}
end
section
variable{prog:Program}{w:World}{A:Around}{E:Value->Shared->Prop}{s:Shared}
end
section
variable{prog:Program}{w:World}{A:Around}{E:Value->Shared->Prop}{s:Shared}
end
section
variable{prog:Program}{w:World}{A:Around}{E:Value->Shared->Prop}{s:Shared}
end
section
variable{prog:Program}{w:World}{A:Around}{E:Value->Shared->Prop}{s:Shared}
end
section
variable{prog:Program}{w:World}{A:Around}{E:Value->Shared->Prop}{s:Shared}
end
theorem bE.kept2{X:Cx}{pins:List (Addr×Obj)}{σ:St}{H:Hp}{s:Shared}{h':Heap}{t':Nat}{d':Drawn}(I:bE X pins σ H s)(k:∀b o,s.heap.get? b=some o->h'.get? b=some o):bE X pins σ H { s with heap:=h',drawn:=d',toks:=t' }:=
 I.step (g':=s.gens) (ch:=[]) (fun _ z=>nomatch z) (fun b o _ _ _ e _=>k b o e) (fun b o _ _ _ e _=>⟨o.slots,k b o e⟩) (fun _ _ _ _ n=>n) (fun b o _ e=>⟨o,k b o e⟩) (fun _ _ e=>e) (fun _ _ _ e=>e) (fun b ps e=>⟨#[],by rw[e];simp⟩)
  (fun m hm=>let ⟨o,es,ep,ho,r⟩:=hm;⟨o,es,ep,k _ o ho,r⟩) (I.hok.kept k) I.bare
theorem iW:Slot "reversed" "__next__" "reversed.__next__":=.of (owner:="reversed") (n:="__next__") (by rw[jf,ga];kernel_rfl) (by decide +kernel) (by decide +kernel) (by decide +kernel) (by first|exact .inl (by decide +kernel)|exact .inr (by decide +kernel)) (by rw[jW];kernel_rfl)
theorem pQ:Slot "reversed" "__iter__" "reversed.__iter__":=.of (owner:="reversed") (n:="__iter__") (by rw[jf,ga];kernel_rfl) (by decide +kernel) (by decide +kernel) (by decide +kernel) (by first|exact .inl (by decide +kernel)|exact .inr (by decide +kernel)) (by rw[jW];kernel_rfl)
theorem wL:Slot "reversed" "__init__" "object.__init__":=.of (owner:="object") (n:="__init__") (by rw[jf,ga];kernel_rfl) (by decide +kernel) (by decide +kernel) (by decide +kernel) (by first|exact .inl (by decide +kernel)|exact .inr (by decide +kernel)) (by rw[jW];kernel_rfl)
theorem pR:entryFor table "reversed.__next__"=some Builtin.«reversed.__next__»:=entryFor_of_tree (by kernel_rfl)
theorem wM:entryFor table "reversed.__iter__"=some Builtin.«dict_keyiterator.__iter__»:=entryFor_alias (id':="dict_keyiterator.__iter__") (by kernel_rfl) (by first|rfl|decide +kernel|(unfold String.splitOn;simp +decide [String.splitOnAux])) (by decide +kernel) (by kernel_rfl)
theorem pS(a:Value):argsOk "reversed.__next__" ⟨[a],[]⟩:=by unfold argsOk;kernel_rfl
theorem wN(a:Value):argsOk "reversed.__iter__" ⟨[a],[]⟩:=by unfold argsOk;kernel_rfl
theorem y4:TypeCalled "reversed" "reversed.__new__" "object.__init__":=⟨by decide +kernel,PySem.F.create_reversed,⟨_,_,PySem.F.mro_reversed⟩,PySem.F.made_reversed,PySem.F.plain_reversed_new,PySem.F.sub_reversed_self,wL⟩
theorem y6:typeLookup (.type "str") "__reversed__"=pure none:=by rw[jf,ga];kernel_rfl
abbrev Jq(x:Str)(t:Tok)(i:Int):Obj:={ cls:=.type "reversed",data:=.fields #[.str x t,rawInt i] }
def jF(h:Heap)(it:Addr)(x:Str)(t:Tok)(i:Int):Prop:=∃o,h.get? it=some o/\o.cls=.type "reversed"/\o.data=.fields #[.str x t,rawInt i]
theorem HM(x:Str)(t:Tok)(hx:¬ (x.length:Int)≥2^63) :
  Meets (Builtin.«reversed.__new__» ⟨[.type "reversed",.str x t],[]⟩) (fun _ R s=>∀tk,R (.ok (.ret (.ref s.heap.objs.size))) { s with heap:=s.heap.push (Jq x t ((x.length:Int)-1)),toks:=tk }):=
 .of_wp fun prog w A R s h=>by
  unfold Builtin.«reversed.__new__»
  refine ag (fT (newClass_reversed _) ?_)
  try dsimp only
  refine ag (fT (a:=()) (by first|rfl|kernel_rfl) (ag (fT (a:=()) (by first|rfl|kernel_rfl) ?_)))
  try dsimp only
  refine ag (jd (iN _ _ _) y6 ?_)
  show wpAny _ _ (_ >>= _) _ _ _
  refine ag ?_
  wp_delta
  refine ag (iQ (T:="str") (b:=false) (iN _ _ _) (by rw[jW];kernel_rfl) ?_)
  try dsimp only
  try rw[aQ dZ]
  refine ag (jd (iN _ _ _) PySem.F.slot_str_getitem.lookup ?_)
  try dsimp only
  rw[aD (by decide +kernel)]
  refine aI ?_
  rw[aQ (by decide)]
  refine ag (len_str hx (ag (fT (a:=some (x.length:Int)) rfl ?_)))
  try dsimp only
  unfold Builtin.SmallTypes.newRecord
  try dsimp only
  exact ag (cI (aI ⟨_,rfl,h _⟩))
theorem jF.typeIs{s:Shared}{a:Addr}{x:Str}{t:Tok}{i:Int}(z:jF s.heap a x t i):s.TypeIs (.ref a) "reversed":=let ⟨o,ho,hc,_⟩:=z;⟨o,ho,hc⟩
theorem jF.keep{h h':Heap}{a:Addr}{x:Str}{t:Tok}{i:Int}(z:jF h a x t i)(e:∀o,h.get? a=some o->h'.get? a=some o):jF h' a x t i:=let ⟨o,ho,r⟩:=z;⟨o,e _ ho,r⟩
section
variable{prog:Program}{w:World}{A:Around}{E:Value->Shared->Prop}{s:Shared}
theorem Ds{x:Str}{t:Tok}{Q:Value->Shared->Prop}(hx:¬ (x.length:Int)≥2^63)(q:∀tk,Q (.ref s.heap.objs.size) { s with heap:=s.heap.push (Jq x t ((x.length:Int)-1)),toks:=tk }) :
  wpAny (model prog w) A (call (.type "reversed") [.str x t]) Q E s:=by
 refine oS y4 (by decide) (PySem.F.typeCall_reversed_1 _) (PySem.F.newCall_reversed_1 _) (fun ob=>PySem.F.args_object_init_2 ob _) PySem.F.entry_reversed_new (HM x t hx) fun tk=>?_
 exact⟨⟨_,aH _ rfl,rfl⟩,q tk⟩
theorem Dt{it:Addr}{x:Str}{t:Tok}{i c:Nat}{Q:Option Value->Shared->Prop}(uu:jF s.heap it x t (i:Int))(hc:x.cps[i]?=some c)(hi:(i:Int)<2^63)
  (q:∀g tk u,jF g it x t ((i:Int)-1)->Heap.SameBut it s.heap g->Q (some (.str ⟨#[c]⟩ u)) { s with heap:=g,toks:=tk }):wpAny (model prog w) A (pyNext (.ref it)) Q E s:=by
 obtain⟨o,ho,nF,hd⟩:=id uu
 have T:=uu.typeIs
 unfold pyNext
 refine ag (gS (cf (name:=Str.ofString "__next__") T iW (cS iW T pR ?_ (pS _))))
 unfold Builtin.«reversed.__next__»
 refine ag (fT (a:=(Value.ref it,[])) rfl ?_)
 try dsimp only
 refine ag (ce ho hd (x:=.str x t) rfl (ag (ce ho hd (x:=rawInt (i:Int)) rfl ?_)))
 show wpAny _ _ (if (i:Int)<0 then _ else _) _ _ s
 rw[aQ (by omega)]
 refine ag (jd (iN _ _ _) PySem.F.slot_str_getitem.lookup ?_)
 rw[aQ (by simp)]
 have oN:i<x.cps.size:=(Array.getElem?_eq_some_iff.mp hc).1
 refine ag (wpAny_mkInt (ag (gS (getItem_str (c:=c) (by simp;omega) ?_ ?_))))
 ·rw[show seqIndex? (i:Int) x.length=some i from by rw[PySem.StrLaws.seqIndex_nonneg (by omega) (by have:x.length=x.cps.size:=rfl;omega)];simp]
  exact hc
 try dsimp only
 refine ag (ce ho hd (x:=rawInt (i:Int)) rfl ?_)
 show wpAny _ _ (setField (.ref it) 1 (rawInt ((i:Int)-1)) >>= fun _=>ret _) _ _ _
 refine ag (iA ho hd (by simp) (aI ⟨_,rfl,aI (q _ _ _ ?_ (eG ..))⟩))
 exact⟨_,f' _ ho (iK (eX hd _)),(Obj.cls_mapFields ..).trans nF,by rw[eX hd];simp⟩
theorem HN{it:Addr}{x:Str}{t:Tok}{Q:Option Value->Shared->Prop}(hh:A.handled=none)(uu:jF s.heap it x t (-1))(q:∀g,(∀b o,b≠it->s.heap.get? b=some o->g.get? b=some o)->Q none { s with heap:=g }):wpAny (model prog w) A (pyNext (.ref it)) Q E s:=by
 obtain⟨o,ho,nF,hd⟩:=id uu
 have T:=uu.typeIs
 unfold pyNext
 refine ag (gS (cf (name:=Str.ofString "__next__") T iW (cS iW T pR ?_ (pS _))))
 unfold Builtin.«reversed.__next__»
 refine ag (fT (a:=(Value.ref it,[])) rfl ?_)
 try dsimp only
 refine ag (ce ho hd (x:=.str x t) rfl (ag (ce ho hd (x:=rawInt (-1)) rfl ?_)))
 show wpAny _ _ (if (-1:Int)<0 then _ else _) _ _ s
 rw[aD (by decide)]
 refine ag (lO (ag ?_))
 wp_delta
 refine ag (iA ho hd (by simp) ?_)
 have ho2:=f' (Obj.mapFields fun a=>a.set! 1 (rawInt (-1))) ho (iK (eX hd _))
 refine iA ho2 (eX hd _) (by simp) ?_
 refine ag ?_
 show wpAny _ _ (newExc (.type "StopIteration") [] >>= _) _ _ _
 refine ag ?_
 simp only[newExc,newTuple]
 refine ag (cI (ag (m:=firstArgMember _ _) (fT (a:=Value.none) (by first|rfl|(simp only[firstArgMember];rfl)) (cI ?_ (by size_fits)))) (by size_fits))
 simp only[raiseNew]
 refine ag (wpAny_handled ?_)
 rw[show A.in1.handled=none from hh]
 refine ag (aI (wpAny_throw ?_))
 refine ag (iQ (T:="StopIteration") (b:=true) ⟨_,aH _ rfl,rfl⟩ mZ ?_)
 refine aI (q _ fun b o hb e=>aq _ (aq _ ?_))
 exact(eN _ _ (Ne.symm hb)).trans ((eN _ _ (Ne.symm hb)).trans e)
theorem qU{it:Addr}{x:Str}{t:Tok}{i:Int}{Q:Value->Shared->Prop}(uu:jF s.heap it x t i)(q:Q (.ref it) s):wpAny (model prog w) A (pyIter (.ref it)) Q E s:=by
 have T:=uu.typeIs
 refine wpAny_pyIter_slot T pQ (cS pQ T wM ?_ (wN _))
 show wpAny _ _ (ret (.ref it)) _ _ s
 exact aI ⟨_,rfl,"reversed",_,T,iW.lookup,q⟩
end
theorem BU{prog:Program}{w:World}{A:Around}(hh:A.handled=none)(it:Addr)(x:Str)(t:Tok)(hx:(x.length:Int)<2^63) :
  Walks prog w A it [it] [it] x.length (fun i v=>∃c u,x.cps[x.length-1-i]?=some c/\v=.str ⟨#[c]⟩ u) (fun i h=>i<=x.length/\jF h it x t ((x.length:Int)-1-(i:Int))) where
 sub:=fun _ hb=>hb
 frame:=fun _ _ _ st hk=>⟨st.1,st.2.keep fun o e=>hk it (by simp) o e⟩
 item:=fun i s Q E hi st q=>by
  have e:(x.length:Int)-1-(i:Int)=((x.length-1-i:Nat):Int):=by omega
  have uu:=st.2
  rw[e]at uu
  have oN:x.length-1-i<x.cps.size:=by have:x.length=x.cps.size:=rfl;omega
  have hc:x.cps[x.length-1-i]?=some (x.cps[x.length-1-i]'oN):=Array.getElem?_eq_getElem oN
  refine Dt uu hc (by omega) fun g tk u hg sb=>?_
  have e2:((x.length-1-i:Nat):Int)-1=(x.length:Int)-1-((i+1:Nat):Int):=by omega
  rw[e2]at hg
  exact q _ g tk ⟨_,u,hc,rfl⟩ ⟨hi,hg⟩ fun b o hb eo=>sb.extBut b o (fun h=>hb (by simp[h])) eo
 done:=fun s Q E st q=>by
  have e:(x.length:Int)-1-(x.length:Int)=-1:=by omega
  have uu:=st.2
  rw[e]at uu
  exact HN hh uu fun g kp=>q g s.toks fun b o hb eo=>kp b o (fun h=>hb (by simp[h])) eo
 self:=fun _ _ _ _ st q=>qU st.2 q
def Pj(ta:TA):TI:=fun σ H R=>ta σ H fun vs H1=>∃l,vs=[.str (tx l)]/\l.length<=1000000/\R (O9 (jE l.reverse)) H1
theorem HP{X:Cx}{tg a:Expr}{ta:TA}{p pos:Pos}(hm:X.mg "reversed"=none)(ha:QA X [a] ta)(hg:Gl X "reversed":=by rfl)(hs:starEach [a] X.env=(false,eval a X.env)::starEach [] X.env:=by rfl) :
  QI X tg (.Call (.Name "reversed" p) [a] [] pos) (Pj ta):=⟨by
 intro pins s σ H R I h
 refine Call_ (kA I hg hm boot_reversed (cz (fY (ha.h pos pins s σ H _ I h) fun us s1 ⟨vs,H1,I1,r1,q1⟩=>?_) hs rfl))
 obtain⟨l,e,hl,q⟩:=q1
 subst e
 cases r1 with
 |cons x1 r1=>
  cases r1
  obtain⟨t,rfl⟩:=x1
  have hn:(tx l).length=(jE l.reverse).length:=by unfold jE;rw[g_];simp
  have hb:((tx l).length:Int)<2^63:=by rw[g_];omega
  refine Ds (by omega) fun tk=>?_
  refine qU (x:=tx l) (t:=t) (i:=((tx l).length:Int)-1) ⟨_,aH _ rfl,rfl,rfl⟩ ?_
  refine⟨s1.heap.objs.size,[s1.heap.objs.size],_,_,H1,rfl,I1.kept (t':=tk) fun b o e=>aq _ e,nL (ty:="reversed") (S:=fun i h=>i<=(tx l).length/\jF h s1.heap.objs.size (tx l) t (((tx l).length:Int)-1-(i:Int))) (fun A hA=>by rw[<- hn];exact BU hA _ (tx l) t hb) (fun k v hk hp=>?_) (fun k h st=>?_) (by decide) (fun A k s Q E st h=>qU st.2 h),⟨cU _,cU _,⟨_,aH _ rfl,rfl,?_⟩⟩,fun b hb=>?_,q⟩
  ·obtain⟨c,u,hc,rfl⟩:=hp
   refine⟨.str (tx [c]),?_,u,rfl⟩
   rw[<- hn]at hk
   rw[g_]at hc hk
   have hc':l[l.length-1-k]?=some c:=by simpa[tx]using hc
   unfold jE
   rw[aB,gb hk,hc'];rfl
  ·obtain⟨_,o,e1,e2,e3⟩:=st
   exact⟨o,_,e1,e2,e3⟩
  ·simp
  ·have e:b=s1.heap.objs.size:=by simpa using hb
   subst e
   exact I1.fpOk (aA _) I1.fresh⟩
section
variable{X:Cx}{nu tg iter:Expr}{mw:List Expr}{scope:Scope}{pos:Pos}{nm:List Str}{cl:List (Str×Addr)}{cap:List (Option Nat)}{wi:TI}{g:TG}{tc:TT}{te:TE}
theorem y7{x0:Str}{p0 p1:Pos}{gx:TG}(Q_:PG X (.Name x0 p0) gx)(Q7:swapsWith (.ListComp nu [⟨tg,iter,mw,0⟩] scope pos) (some (.Name x0 p0)) p1.line X.env=pure true)(gR:X.calm=true)(F':closureFor scope X.env=pure cl)(nF:∀x c,cl.lookup x=some c->X.env.cells.lookup x=some c)
  (gQ:scope.kind=.function) (z9:∀x∈scope.names,x.2=.local->scope.names.lookup x.1=some .local) (gz:∀y∈scope.names,y.2≠.cell)
  (N4:∀x,((relabel scope X.env).names.lookup x=some .cell\/(relabel scope X.env).names.lookup x=some .free)->∃c,cl.lookup x=some c)
  (z_:∀(i j:Nat),cap[i]?=some (some j)->∃x,nm[i]?=some x/\X.N[j]?=some x/\Dj X scope cl x) (cY:cap.length=nm.length)
  (hi:PI X tg iter wi) (hg:∀C s0 H0 fp,PG (bO X nm scope cl C s0 H0 fp) tg g) (ht:∀C s0 H0 fp,HA (bO X nm scope cl C s0 H0 fp) mw tc)
  (he:∀C s0 H0 fp,PE (bO X nm scope cl C s0 H0 fp) nu te) (hs:∀x,foldedSetIterable iter X.env x=pure x:=by intro _;rfl) :
  PS X (.Assign [.Name x0 p0] (.ListComp nu [⟨tg,iter,mw,0⟩] scope pos) p1) (C1 (tJ cap wi g tc te) gx):=by
 intro pins s σ H D I h
 rw[exec_Assign_Name_used _ _ _ _ Q7]
 suffices main:wpAny (model X.prog X.w) X.A (comprehension (.ListComp nu [⟨tg,iter,mw,0⟩] scope pos) scope X.env (firstIterPos [⟨tg,iter,mw,0⟩] pos) (newList []) (firstAsync [⟨tg,iter,mw,0⟩]) (firstIter [⟨tg,iter,mw,0⟩] X.env) (some (assign (.Name x0 p0) X.env))) (fun _ s'=>SP X pins D .next s') X.xe s from
  ag (iT (ag (ag (cW main (fun _ s' h=>aI (aI h)) fun _ _ z=>z))))
 refine kF (use:=some (assign (.Name x0 p0) X.env)) rfl hs F' gQ z9 (fY (hi pins s σ H _ I h) fun v s1 h1=>fY h1 fun RF s2 h2=>?_)
 obtain⟨it,fp,tn,J,H1,e,I2,T,cZ,f2,W,⟨m0,w0⟩,turn⟩:=h2
 subst e
 have hfpn:∀b∈fp,b<s2.heap.objs.size:=fun b hb=>let ⟨o,ho,_⟩:=T.obj _ _ cZ b hb;aG ho
 have hfpc:∀b∈fp,∀x c,X.env.cells.lookup x=some c->c≠b:=fun b hb=>(f2 b hb).2.2.2.2.1
 refine cI (i5 gz (by intro y hy;simp at hy) (fun h₁ hns₁ hsb₁=>?_) gQ)
 dsimp only at hns₁ hsb₁ ⊢
 generalize hH2:s2.heap.push { cls:=.type "list",dict:=none,data:=.seq ([]:List Value).toArray }=G2 at hns₁ hsb₁ ⊢
 have hC:G2.objs.size=s2.heap.objs.size+1:=by rw[<- hH2,ef]
 have hDC:s2.heap.objs.size≠G2.objs.size:=by rw[hC];exact bd (iO _)
 have old:∀b o,s2.heap.get? b=some o->h₁.get? b=some o:=fun b o e=>hsb₁.extBut b o (by rw[hC];exact bd (fF (aG e))) (aq _ (hH2▸aq _ e))
 have hacc:h₁.get? s2.heap.objs.size=some { cls:=.type "list",data:=.seq ([]:List Value).toArray }:=hsb₁.extBut _ _ hDC (aq _ (hH2▸aH _ rfl))
 have okB:(bO X nm scope cl G2.objs.size s2 H1 fp).Ok:=by
  refine⟨I2.ok.mod,gQ,I2.ok.glob,I2.ok.blt,by show s2.heap.objs.size<=G2.objs.size;omega,fun x y c h1 h2=>I2.ok.inj x y c (nF _ _ h1) (nF _ _ h2),fun x hx=>N4 x hx,fun x c h0=>(by cases h0),fun hc=>I2.ok.hd gR,I2.ok.frames,.inl rfl,?_,?_,?_,?_,?_,?_,?_⟩
  ·intro b hb
   exact⟨bd (aX (hfpn b hb) (by show _<=G2.objs.size;omega)),fun x c hx=>hfpc b hb x c (nF _ _ hx)⟩
  ·exact fun b o hb=>I2.bs b o hb
  ·exact bn I2.ok.bsz I2.sz
  ·intro b o hb z
   rcases(f2 b z).2.2.2.1 with q|q
   ·exact I2.ok.noex b o hb q
   ·exact absurd (aG (I2.ok.bs b o hb).1) (n_.mpr q)
  ·intro b hb z
   rcases br.mp (I2.stkSub b z)with q|q
   ·exact(f2 b hb).2.1 q
   ·exact(f2 b hb).2.2.1 q
  ·exact I2.stack
  ·exact I2.stkFree
 have I4:bE (bO X nm scope cl G2.objs.size s2 H1 fp) [] (kK cap σ) H1 { s2 with heap:=h₁,toks:=s2.toks+([]:List (Str×Value)).length }:=by
  refine AB z_ cY I2 hfpc (σ2:=List.replicate nm.length none) ⟨okB,rfl,I2.bare,Un.kept old,⟨_,hns₁,fun i x v _ e2=>?_⟩,fun x c hx=>?_,?_,fun x c hx=>I2.freeC x c (nF _ _ hx),fun p hp=>absurd hp (by simp),I2.hok.kept old,by simp⟩
  ·rw[hX]at e2;split at e2<;>cases e2
  ·obtain⟨v,hv⟩:=I2.cell x c (nF _ _ hx)
   exact⟨v,hv.keeps old⟩
  ·exact I2.hok.fresh (by show _<=G2.objs.size;omega)
 have hsz0:∀{Hx:Hp} {sx:Shared} {px:List (Addr×Obj)} {σx:St},bE (bO X nm scope cl G2.objs.size s2 H1 fp) px σx Hx sx->Hx s2.heap.objs.size=none->∀{oa:Obj},sx.heap.get? s2.heap.objs.size=some oa->(∀v,oa.data≠.cell v) ->
   bE (bO X nm scope cl G2.objs.size s2 H1 fp) [(s2.heap.objs.size,oa)] σx Hx sx:=fun{Hx sx px σx} Ix hn {oa} ho hd=>Ix.pins_of fun p hp=>by
  have e:p=(s2.heap.objs.size,oa):=by simpa using hp
  subst e
  exact⟨ho,hn,hDC,fun z=>by
   obtain⟨_,o,q,_⟩:=I2.stack.mem z
   exact absurd (aG q) (bD _),hd⟩
 have hfpB:∀{Hx:Hp} {oa:Obj},(∀b∈fp,Hx b=none)->∀b∈fp,my (bO X nm scope cl G2.objs.size s2 H1 fp) [(s2.heap.objs.size,oa)] Hx b:=fun{Hx oa} hn b hb=>
  ⟨hn b hb,(okB.exf b hb).1,okB.exfs b hb,.inl hb,(okB.exf b hb).2,fun p hp=>by
   have e:p=(s2.heap.objs.size,oa):=by simpa using hp
   subst e
   exact iw (hfpn b hb)⟩
 have hcalmB:(bO X nm scope cl G2.objs.size s2 H1 fp).calm=true:=gR
 have loop:∀sx:Shared,sx={ s2 with heap:=h₁,toks:=s2.toks+([]:List (Str×Value)).length } ->
   codeAny (model X.prog X.w) X.A (.compLoop (.ListComp nu [⟨tg,iter,mw,0⟩] scope pos) 0 (.ref it) (.ref s2.heap.objs.size) (compEnvC scope cl G2.objs.size X.env))
    (compPost (model X.prog X.w) X.A X.xe (some (assign (.Name x0 p0) X.env)) (fun _ s'=>SP X pins D .next s') (.ref s2.heap.objs.size) G2.objs.size) sx:=by
  rintro sx rfl
  refine codeAny_loop rfl (fun n s'=>∃i ys H',bE (bO X nm scope cl G2.objs.size s2 H1 fp) [] (kK cap σ) H' s'/\tn i s'.heap/\(∀b∈fp,H' b=none)/\H' s2.heap.objs.size=none /\
   (∃bC k,cJ ys bC/\s'.heap.get? s2.heap.objs.size=some { cls:=.type "list",data:=.seq bC.toArray k })/\W i n ys H') ?_ m0
   ⟨0,[],H1,I4,T.keep _ _ _ cZ (fun b _ o e=>old b o e),fun b hb=>(f2 b hb).1,I2.fresh,⟨[],0,.nil,hacc⟩,w0⟩
  rintro n s3 ⟨i,ys,H3,I3,j0,fr3,na3,⟨bC,ka,rv,ea⟩,w3⟩
  show wpAny _ X.A ((compTurn (.ListComp nu [⟨tg,iter,mw,0⟩] scope pos) 0 (.ref it) (.ref s2.heap.objs.size) (compEnvC scope cl G2.objs.size X.env)).onRaise (fun x=>do noteFrame x (compEnvC scope cl G2.objs.size X.env);theTreesLotGoes x)) _ _ s3
  refine wpAny_noted ?_
  rw[compTurn_list]
  refine ag (iT ?_)
  have I3p:=hsz0 I3 na3 ea (fun v z=>by cases z)
  rcases turn i n ys H3 w3 with⟨stop,hz,qn⟩|⟨go,step⟩
  ·refine ag (cW (T.done (bO X nm scope cl G2.objs.size s2 H1 fp) rfl rfl rfl hcalmB i _ s3 _ H3 (fun _ _=>False) I3p (hfpB fr3) j0 stop) (fun r s4 hr=>?_) fun _ _ z=>z.elim)
   obtain⟨hr,I4'⟩:=hr
   subst hr
   refine aI ?_
   obtain⟨m4,hn4,_⟩:=id I4'.loc
   have pa:=I4'.pin (s2.heap.objs.size,{ cls:=.type "list",data:=.seq bC.toArray ka }) (by simp)
   have ne:∀b o,s2.heap.get? b=some o->b≠s2.heap.objs.size/\b≠G2.objs.size:=fun b o e=>⟨bd (aG e),bd (by rw[hC];exact fF (aG e))⟩
   have I5:bE X pins σ (fm H3 s2.heap.objs.size (.lst ys)) s4:=by
    refine I2.call' (ch:=fp) I4'.os ⟨fun b o e n hb hx=>?_,fun b o e n hb hx=>?_,fun b o e n hx=>?_,fun b o e hx=>?_,fun b xs e=>?_,fun b o u e=>?_,fun b ps e=>?_⟩ ?_ I4'.bare fun b hb=>?_
    ·exact I4'.base.keep b o e n hb hx
    ·exact I4'.base.slot b o e n hb hx
    ·rw[cx (ne b o e).1];exact I4'.base.free b o e n hx
    ·exact I4'.base.there b o e hx
    ·have q:=I4'.base.tups b xs e
     rw[cx (dh q na3)];exact q
    ·have q:=I4'.base.frzs b o u e
     rw[cx (dh q na3)];exact q
    ·obtain⟨mr,q⟩:=I4'.base.tbls b ps e
     exact⟨mr,by rw[cx (dh q na3)];exact q⟩
    ·intro b o e
     by_cases hb:b=s2.heap.objs.size
     ·subst hb
      rw[fC]at e;cases e
      exact⟨hz,bC,ka,rv,pa.1⟩
     ·rw[cx hb]at e
      exact(I4'.hok b o e).stay (fun c u hc q=>q) (fun c q=>by rw[cx (dh q na3)];exact q) fun c xs q=>by rw[cx (dh q na3)];exact q
    ·obtain⟨_,g1,_,g3,g4,g5⟩:=f2 b hb
     exact⟨g3,g1,g4,g5⟩
   obtain⟨oC,es,ep,hoC,hdC,hrC⟩:=hn4
   have fr:H3 G2.objs.size=none:=I4'.free
   have lC:s2.heap.objs.size<=G2.objs.size:=by rw[hC];exact kx _
   have neL:G2.objs.size≠X.env.locals:=iw (aX I2.lt lC)
   have I5p:bE X (pins++[(G2.objs.size,oC)]) σ (fm H3 s2.heap.objs.size (.lst ys)) s4:=I5.pins_of fun p hp=>by
    rcases a7.mp hp with z|z
    ·exact I5.pin p (aL _ z)
    ·have e:p=(G2.objs.size,oC):=by simpa using z
     subst e
     exact⟨hoC,by rw[cx (Ne.symm hDC)];exact fr,neL,I2.nofs lC,fun v z=>by rw[hdC]at z;cases z⟩
   refine cW (Q_ _ s4 σ _ (.ref s2.heap.objs.size) (.ref s2.heap.objs.size) _ I5p rfl (qn _ na3)) (fun _ s5 h5=>?_) fun _ _ z=>z
   obtain⟨σ',H',I6,nx⟩:=h5
   have pC:=I6.pin (G2.objs.size,oC) (aL _ (aL _ (cM.mpr rfl)))
   have I7:bE X pins σ' H' s5:=I6.pins_of fun p hp=>I6.pin p (aL _ (gA _ hp))
   refine⟨m4,⟨oC,es,ep,pC.1,hdC,hrC⟩,fun h' hs'=>?_⟩
   refine⟨σ',H',I7.turned (t':=s5.toks) (it:=G2.objs.size) (fun b o hb e=>hs'.extBut b o hb e) pC.2.1 neL (.inr (bn I2.sz lC)) (fun x c hx z=>?_) (fun p hp z=>?_),nx⟩
   ·obtain⟨v,o,ho,_⟩:=I2.cell x c hx
    exact absurd (aG ho) (by rw[z];exact n_.mpr lC)
   ·have:=(I2.pin p hp).1
    exact absurd (aG this) (by rw[z];exact n_.mpr lC)
  ·refine ag (cW (T.item (bO X nm scope cl G2.objs.size s2 H1 fp) rfl rfl rfl hcalmB i _ s3 _ H3 (fun _ _=>False) I3p (hfpB fr3) j0 go) (fun r s4 hr=>?_) fun _ _ z=>z.elim)
   obtain⟨u,hr,h4⟩:=hr
   subst hr
   dsimp only
   refine ag (cW h4 (fun _ s5 h5=>?_) fun _ _ z=>z.elim)
   obtain⟨x,H5,I5,r5,y5,st5,fr5⟩:=h5
   have I5':=I5.pinned (hfpB fr5) (T.obj _ _ st5)
   refine ag (cW (hg _ _ _ _ _ s5 _ H5 x u _ I5' r5 (step x H5 y5)) (fun _ s6 h6=>?_) fun _ _ z=>z.elim)
   obtain⟨σ6,H6,I6,q6⟩:=h6
   refine ag (cW (ht _ _ _ _ _ s6 σ6 H6 _ I6 q6) (fun ok s7 h7=>?_) fun _ _ z=>z.elim)
   obtain⟨H7,I7,q7⟩:=h7
   have back:∀{H8:Hp} {s8:Shared} {Ai:List V} {its':List Value} {k':Nat},bE (bO X nm scope cl G2.objs.size s2 H1 fp) [] σ6 H8 s8->(∀b∈fp,∀o,s5.heap.get? b=some o->s8.heap.get? b=some o)->(∀b∈fp,H8 b=none)->H8 s2.heap.objs.size=none ->
     cJ Ai its'->s8.heap.get? s2.heap.objs.size=some { cls:=.type "list",data:=.seq its'.toArray k' }->(∃m',m'<n/\W (i+1) m' Ai H8) ->
     ∃m,m<n/\∃i ys H',bE (bO X nm scope cl G2.objs.size s2 H1 fp) [] (kK cap σ) H' s8/\tn i s8.heap/\(∀b∈fp,H' b=none)/\H' s2.heap.objs.size=none /\
      (∃bC k,cJ ys bC/\s8.heap.get? s2.heap.objs.size=some { cls:=.type "list",data:=.seq bC.toArray k })/\W i m ys H':=
    fun{H8 s8 Ai its' k'} I8 kf f8 n8 rv8 e8 ⟨m',hm,w8⟩=>⟨m',hm,i+1,Ai,H8,AB z_ cY I2 hfpc I8,T.keep _ _ _ st5 kf,f8,n8,⟨its',k',rv8,e8⟩,w8⟩
   cases ok with
   |false=>
    refine aI ⟨rfl,?_⟩
    have q7':∃m',m'<n/\W (i+1) m' ys H7:=by simpa using q7
    have pa:=I7.pin (s2.heap.objs.size,{ cls:=.type "list",data:=.seq bC.toArray ka }) (by simp)
    refine back (I7.pins_of fun p hp=>absurd hp (by simp)) (fun b hb o e=>?_) (fun b hb=>?_) pa.2.1 rv pa.1 q7'
    ·exact(I7.pin (b,o) (aL _ (aL _ (fH hb e)))).1
    ·obtain⟨o,e,d⟩:=T.obj _ _ st5 b hb
     exact(I7.pin (b,o) (aL _ (aL _ (fH hb e)))).2.1
   |true=>
    rw[aD rfl]at q7
    refine ag (ag (cW (he _ _ _ _ _ s7 σ6 H7 _ I7 q7) (fun xv s8 h8=>?_) fun _ _ z=>z.elim))
    obtain⟨y,H8,I8,r8,hzy,q8⟩:=h8
    have pa:=I8.pin (s2.heap.objs.size,{ cls:=.type "list",data:=.seq bC.toArray ka }) (by simp)
    refine ag (om pa.1 (by rw[<- rv.length];exact hzy) fun h' k' tk e9 sb=>?_)
    refine aI (aI ⟨rfl,?_⟩)
    have I9:bE (bO X nm scope cl G2.objs.size s2 H1 fp) [] σ6 H8 { s8 with heap:=h',toks:=tk }:=
     (bE.pins_of (pins':=[]) I8 fun p hp=>absurd hp (by simp)).turned (it:=s2.heap.objs.size) (fun b o hb e=>sb b o hb e) pa.2.1 hDC (.inr (aA _)) (fun x c hx z=>by
      obtain⟨v,hv⟩:=I2.cell x c (nF _ _ hx)
      exact absurd hv.lt (by rw[z];exact bD _)) (fun p hp=>absurd hp (by simp))
    refine back I9 (fun b hb o e=>?_) (fun b hb=>?_) pa.2.1 (rv.append (.cons r8 .nil)) e9 q8
    ·exact sb b o (bd (hfpn b hb)) (I8.pin (b,o) (aL _ (aL _ (fH hb e)))).1
    ·obtain⟨o,e,d⟩:=T.obj _ _ st5 b hb
     exact(I8.pin (b,o) (aL _ (aL _ (fH hb e)))).2.1
 exact lL (loop _ rfl) (T.self _ _ _ _ _ (T.keep _ _ _ cZ fun b _ o e=>old b o e) (loop _ rfl))
end
theorem y8{X:Cx}{x0:Str}{p0 p1:Pos}{gx:TG}{nu tg iter:Expr}{mw:List Expr}{scope:Scope}{pos:Pos}{nm:List Str}{cap:List (Option Nat)}{wi:TI}{g:TG}{tc:TT}{te:TE}{m:Nat}(Q_:QG X (.Name x0 p0) gx)(gR:X.calm=true)
  (lB:X.env.cells=cellsFrom m X.env.scope.names []) (gQ:scope.kind=.function) (hB:uN X.env.scope.names scope.names nm cap X.N=true)
  (hi:QI X tg iter wi) (hg:∀cl C s0 H0 fp,QG (bO X nm scope cl C s0 H0 fp) tg g) (ht:∀cl C s0 H0 fp,Rp (bO X nm scope cl C s0 H0 fp) mw tc)
  (he:∀cl C s0 H0 fp,QE (bO X nm scope cl C s0 H0 fp) nu te) (hs:∀x,foldedSetIterable iter X.env x=pure x:=by intro _;rfl) (Q7:swapsWith (.ListComp nu [⟨tg,iter,mw,0⟩] scope pos) (some (.Name x0 p0)) p1.line X.env=pure true:=by first|rfl|kernel_rfl) :
  QS X (.Assign [.Name x0 p0] (.ListComp nu [⟨tg,iter,mw,0⟩] scope pos) p1) (C1 (tJ cap wi g tc te) gx):=by
 simp only[uN,cw,kY,gZ,gj,cv,aO]at hB
 obtain⟨⟨⟨⟨b1,b2⟩,b3⟩,b4⟩,b5⟩:=hB
 have has:∀x∈scope.names,x.2=.free->∃c,X.env.cells.lookup x.1=some c:=fun x hx hk=>by
  rw[lB]
  rcases b3 x hx with z|z
  ·exact absurd hk z
  ·exact mz z
 have nF:∀x c,(f9 X.env scope.names []).lookup x=some c->X.env.cells.lookup x=some c:=fun x c h=>m6 scope.names [] has (by simp) (x,c) (dy h)
 have hin:∀x,(x,NameKind.free)∈scope.names->∃c,(f9 X.env scope.names []).lookup x=some c:=fun x h=>let ⟨_,q⟩:=lh (env:=X.env) scope.names [] x h;lj q
 have hmap:(relabel scope X.env).names=scope.names.map fun y=>if (y.2==.free&&X.env.scope.kind==.function&&X.env.kindOf y.1==some .cell)then(y.1,NameKind.cell)else y:=by
  show scope.names.map _=_
  refine cD fun y _=>?_
  obtain⟨a,b⟩:=y
  rfl
 have fr:∀x,((relabel scope X.env).names.lookup x=some .cell\/(relabel scope X.env).names.lookup x=some .free)->(x,NameKind.free)∈scope.names:=fun x h=>by
  have h':∃k,(x,k)∈(relabel scope X.env).names/\(k=.cell\/k=.free):=by
   rcases h with h|h
   ·exact⟨_,dy h,.inl rfl⟩
   ·exact⟨_,dy h,.inr rfl⟩
  obtain⟨k,hm,hk⟩:=h'
  rw[hmap]at hm
  obtain⟨y,hy,e⟩:=a9.mp hm
  obtain⟨a,b⟩:=y
  by_cases hb:b=.free
  ·subst hb
   have:a=x:=by split at e<;>(cases e;rfl)
   subst this;exact hy
  ·rw[aQ (by simp[hb])]at e
   cases e
   rcases hk with rfl|rfl
   ·exact absurd rfl (b2 _ hy)
   ·exact absurd rfl hb
 refine⟨y7 Q_.h Q7 (cl:=f9 X.env scope.names []) (cap:=cap) (nm:=nm) gR (AF has) nF gQ (fun x hx hk=>(b1 x hx).resolve_left fun z=>z hk) (fun y hy=>b2 y hy) (fun x hx=>hin x (fr x hx)) (fun i j e=>?_) b4 hi.h (fun C s0 H0 fp=>(hg _ C s0 H0 fp).h) (fun C s0 H0 fp=>(ht _ C s0 H0 fp).h) (fun C s0 H0 fp=>(he _ C s0 H0 fp).h) hs⟩
 have hi':i<cap.length:=(aa.mp e).1
 have q:=b5 i (ca.mpr hi')
 rw[e]at q
 dsimp only at q
 cases hx:nm[i]? with
 |none=>rw[hx]at q;simp at q
 |some x=>
  cases hy:X.N[j]? with
  |none=>rw[hx,hy]at q;simp at q
  |some y=>
   rw[hx,hy]at q
   simp only[cw,cv]at q
   obtain⟨⟨rfl,q1⟩,q2⟩:=q
   refine⟨x,rfl,rfl,.inr (.inl q1),(by rw[q1];decide),?_,?_⟩
   ·obtain⟨c,hc⟩:=hin x (dy q2)
    rw[hc,nF _ _ hc]
   ·rw[hmap];exact j6 (env:=X.env) q2
open AutoSeq1 (wpAny_loadPart')
theorem Du(l b:Addr)(i1 i2:Array Value)(n1 n2:Nat)(d1 d2:Option Addr)(s1 s2:Array (Option Value))(h0:i1.isEmpty=true) :
  Meets (Builtin.«tuple.__add__» ⟨[.ref l,.ref b],[]⟩) (fun _ R s=>s.heap.get? l=some { cls:=.type "tuple",dict:=d1,data:=.seq i1 n1,slots:=s1 }/\s.heap.get? b=some { cls:=.type "tuple",dict:=d2,data:=.seq i2 n2,slots:=s2 }/\R (.ok (.ret (.ref b))) s):=
 .of_wp fun prog w A R s h=>by
  obtain⟨hp,g,d,tk,os⟩:=s
  obtain⟨e1,e2,h⟩:=h
  have a2:=PyProof.Rows.sub_tuple_tuple
  wp_walk using bU e1,bU e2
  exact⟨_,rfl,h⟩
def Pk(K:Frag):R2:=fun x y H Q=>∃a b xs ys,x=.ref a/\y=.ref b/\fg K H a xs/\fg K H b ys/\xs.length+ys.length<=sizeLine/\∀p H2,qd H H2->fg K H2 p (xs++ys)->Q (.ref p) H2
theorem LJ{X:Cx}:SZ X (binaryOp .Add) (Pk X.K):=⟨by
 intro pins s σ H x y v u Q I rx ry h
 obtain⟨a,b,xs,ys,rfl,rfl,ha,hb,hz,q⟩:=h
 by_cases hx:xs=[]
 ·subst hx
  cases rx
  cases ry
  obtain⟨bC,r1,p1,_⟩:=I.tuple ha
  obtain⟨its2,r2,p2,_⟩:=I.tuple hb
  have e1:bC=[]:=r1.nil_iff.mpr rfl
  obtain⟨⟨c1,d1,g1,l1⟩,f1,hc1,n1,RD⟩:=id p1
  obtain⟨⟨c2,d2,g2,l2⟩,f2,hc2,n2,GX⟩:=id p2
  simp only at hc1 RD hc2 GX
  subst hc1 RD hc2 GX
  refine oO ⟨_,f1,rfl⟩ ⟨_,f2,rfl⟩ kX nH PySem.F.slot_tuple_add PySem.F.entry_tuple_add (PySem.F.args_tuple_add_2 _ _) (Du a b bC.toArray its2.toArray n1 n2 d1 d2 l1 l2 (by rw[e1];rfl)) ⟨f1,f2,?_⟩
  exact⟨.ref b,H,I,rfl,q b H (qd.refl H) hb⟩
 ·exact Hr pins s σ H _ _ v u Q I rx ry ⟨a,b,xs,ys,rfl,rfl,ha,hb,hx,hz,fun e=>q a H (qd.refl H) (by rw[e,fz];exact ha),fun _ p hp=>q p _ (dg hp _) (fg.of fC)⟩⟩
inductive W where
 |non|bl (b:Bool)|int (i:Int)|str (l:List Nat)|tup (ws:List W)|loc (n:Nat)
inductive DK where
 |i (z:Int)|s (l:List Nat)
deriving DecidableEq
def DK.key:DK->fX
 |.i z=>.inl z
 |.s l=>.inr (tx l)
inductive am where
 |lst (ws:List W)
 |ro (ws:List W)
 |exc (c:Str)
 |dct (kvs:List (DK×W))
 |tab (P:Addr) (pos:Pos) (q:Str)
 |rod (kvs:List (DK×W))
abbrev j8:Nat:=1000000
theorem lp{n:Nat}(h:n<=j8):n<=sizeLine:=bn h (by decide)
theorem LK{n:Nat}(h:n<=j8):n<sizeLine:=jU h (by decide)
inductive R(α:Type) where
 |ok (a:α) (st:List am)
 |ex (c:Str) (st:List am)
 |bad
def R.bind{α β:Type}:R α->(α->List am->R β)->R β
 |.ok a st,k=>k a st
 |.ex c st,_=>.ex c st
 |.bad,_=>.bad
@[simp] theorem R.bind_ok{α β:Type}(a:α)(st:List am)(k:α->List am->R β):(R.ok a st).bind k=k a st:=rfl
@[simp] theorem R.bind_ex{α β:Type}(c:Str)(st:List am)(k:α->List am->R β):(R.ex c st:R α).bind k=.ex c st:=rfl
@[simp] theorem R.bind_bad{α β:Type}(k:α->List am->R β):(R.bad:R α).bind k=.bad:=rfl
abbrev cB:=List (Option W)
inductive RS where
 |nx (ρ:cB) (st:List am)|rt (w:W) (st:List am)|bk (ρ:cB) (st:List am)|ct (ρ:cB) (st:List am)
 |ex (c:Str) (ρ:cB) (st:List am)|bad
abbrev FE:=cB->List am->R W
abbrev FT:=cB->List am->R Bool
abbrev FA:=cB->List am->R (List W)
abbrev FS:=cB->List am->RS
section
variable(K:Frag)
mutual
def bF(μ:List Addr)(H:Hp):W->V->Prop
 |.non,v=>v=.non
 |.bl b,v=>v=.bl b
 |.int i,v=>v=.int i
 |.str l,v=>v=.str (tx l)
 |.tup ws,v=>∃p vs,v=.ref p/\fg K H p vs/\RelWs μ H ws vs
 |.loc n,v=>∃a,μ[n]?=some a/\v=.ref a
def RelWs(μ:List Addr)(H:Hp):List W->List V->Prop
 |[],vs=>vs=[]
 |w::ws,vs=>∃x xs,vs=x::xs/\bF μ H w x/\RelWs μ H ws xs
end
end
theorem pre_get{μ μ':List Addr}(h:μ <+: μ'){n:Nat}{a:Addr}(e:μ[n]?=some a):μ'[n]?=some a:=by
 obtain⟨t,rfl⟩:=h
 rw[au (aa.mp e).1];exact e
section
variable{K:Frag}{μ μ':List Addr}{H H':Hp}
mutual
theorem bF.mono(h:μ <+: μ')(e:eE K H H'):∀{w:W} {v:V},bF K μ H w v->bF K μ' H' w v
 |.non,_,r=>by unfold bF at r ⊢;exact r
 |.bl _,_,r=>by unfold bF at r ⊢;exact r
 |.int _,_,r=>by unfold bF at r ⊢;exact r
 |.str _,_,r=>by unfold bF at r ⊢;exact r
 |.tup _,_,r=>by unfold bF at r ⊢;obtain⟨p,vs,a,b,c⟩:=r;exact⟨p,vs,a,e _ _ b,RelWs.mono h e c⟩
 |.loc _,_,r=>by unfold bF at r ⊢;obtain⟨a,b,c⟩:=r;exact⟨a,pre_get h b,c⟩
theorem RelWs.mono(h:μ <+: μ')(e:eE K H H'):∀{ws:List W} {vs:List V},RelWs K μ H ws vs->RelWs K μ' H' ws vs
 |[],_,r=>by unfold RelWs at r ⊢;exact r
 |_::_,_,r=>by unfold RelWs at r ⊢;obtain⟨x,xs,a,b,c⟩:=r;exact⟨x,xs,a,bF.mono h e b,RelWs.mono h e c⟩
end
theorem RelWs.nilI:RelWs K μ H [] []:=by unfold RelWs;rfl
theorem RelWs.consI{w:W}{ws:List W}{x:V}{xs:List V}(a:bF K μ H w x)(b:RelWs K μ H ws xs):RelWs K μ H (w::ws) (x::xs):=by unfold RelWs;exact⟨x,xs,rfl,a,b⟩
theorem RelWs.nilE{vs:List V}(h:RelWs K μ H [] vs):vs=[]:=by unfold RelWs at h;exact h
theorem RelWs.consE{w:W}{ws:List W}{vs:List V}(h:RelWs K μ H (w::ws) vs):∃x xs,vs=x::xs/\bF K μ H w x/\RelWs K μ H ws xs:=by unfold RelWs at h;exact h
theorem RelWs.pr:∀{ws:List W} {vs:List V},RelWs K μ H ws vs↔Paired (fun w v=>bF K μ H w v) ws vs
 |[],vs=>⟨fun h=>by rw[h.nilE];exact .nil,fun h=>by cases h;exact .nilI⟩
 |w::ws,vs=>⟨fun h=>by obtain⟨x,xs,rfl,a,b⟩:=h.consE;exact .cons a (RelWs.pr.mp b),fun h=>by cases h with|cons a b=>exact .consI a (RelWs.pr.mpr b)⟩
theorem RelWs.len{ws:List W}{vs:List V}(h:RelWs K μ H ws vs):ws.length=vs.length:=Paired.length (RelWs.pr.mp h)
theorem RelWs.app:∀{as:List W} {xs:List V} {bs:List W} {ys:List V},RelWs K μ H as xs->RelWs K μ H bs ys->RelWs K μ H (as++bs) (xs++ys)
 |[],xs,bs,ys,a,b=>by rw[a.nilE];exact b
 |w::as,xs,bs,ys,a,b=>by obtain⟨x,xs,rfl,c,d⟩:=a.consE;exact .consI c (RelWs.app d b)
theorem RelWs.get:∀{ws:List W} {vs:List V} {i:Nat} {w:W},RelWs K μ H ws vs->ws[i]?=some w->∃v,vs[i]?=some v/\bF K μ H w v
 |[],_,_,_,_,e=>by simp at e
 |x::ws,vs,0,w,h,e=>by obtain⟨y,ys,rfl,a,b⟩:=h.consE;simp at e;subst e;exact⟨y,rfl,a⟩
 |x::ws,vs,i+1,w,h,e=>by obtain⟨y,ys,rfl,a,b⟩:=h.consE;simpa using RelWs.get (i:=i) b (by simpa using e)
theorem RelWs.take:∀{ws:List W} {vs:List V} (n:Nat),RelWs K μ H ws vs->RelWs K μ H (ws.take n) (vs.take n)
 |_,_,0,_=>by simp only[List.take_zero];exact .nilI
 |[],vs,n+1,h=>by rw[h.nilE];exact .nilI
 |x::ws,vs,n+1,h=>by obtain⟨y,ys,rfl,a,b⟩:=h.consE;exact .consI a (RelWs.take n b)
theorem RelWs.drop:∀{ws:List W} {vs:List V} (n:Nat),RelWs K μ H ws vs->RelWs K μ H (ws.drop n) (vs.drop n)
 |_,_,0,h=>h
 |[],vs,n+1,h=>by rw[h.nilE];exact .nilI
 |x::ws,vs,n+1,h=>by obtain⟨y,ys,rfl,a,b⟩:=h.consE;exact RelWs.drop n b
theorem RelWs.setI:∀{ws:List W} {vs:List V} (i:Nat) {w:W} {v:V},bF K μ H w v->RelWs K μ H ws vs->RelWs K μ H (ws.set i w) (vs.set i v)
 |[],vs,_,_,_,_,h=>by rw[h.nilE];exact .nilI
 |x::ws,vs,0,w,v,r,h=>by obtain⟨y,ys,rfl,a,b⟩:=h.consE;exact .consI r b
 |x::ws,vs,i+1,w,v,r,h=>by obtain⟨y,ys,rfl,a,b⟩:=h.consE;exact .consI a (RelWs.setI i r b)
theorem bF.intE{i:Int}{v:V}(h:bF K μ H (.int i) v):v=.int i:=by unfold bF at h;exact h
theorem bF.blE{b:Bool}{v:V}(h:bF K μ H (.bl b) v):v=.bl b:=by unfold bF at h;exact h
theorem bF.nonE{v:V}(h:bF K μ H .non v):v=.non:=by unfold bF at h;exact h
theorem bF.strE{l:List Nat}{v:V}(h:bF K μ H (.str l) v):v=.str (tx l):=by unfold bF at h;exact h
theorem bF.tupE{ws:List W}{v:V}(h:bF K μ H (.tup ws) v):∃p vs,v=.ref p/\fg K H p vs/\RelWs K μ H ws vs:=by unfold bF at h;exact h
theorem bF.locE{n:Nat}{v:V}(h:bF K μ H (.loc n) v):∃a,μ[n]?=some a/\v=.ref a:=by unfold bF at h;exact h
theorem bF.int{i:Int}:bF K μ H (.int i) (.int i):=by unfold bF;rfl
theorem bF.bl{i:Bool}:bF K μ H (.bl i) (.bl i):=by unfold bF;rfl
theorem bF.non:bF K μ H .non .non:=by unfold bF;rfl
theorem bF.str{l:List Nat}:bF K μ H (.str l) (.str (tx l)):=by unfold bF;rfl
theorem bF.tupI{ws:List W}{p:Addr}{vs:List V}(a:fg K H p vs)(b:RelWs K μ H ws vs):bF K μ H (.tup ws) (.ref p):=by unfold bF;exact⟨p,vs,rfl,a,b⟩
theorem bF.locI{n:Nat}{a:Addr}(e:μ[n]?=some a):bF K μ H (.loc n) (.ref a):=by unfold bF;exact⟨a,e,rfl⟩
end
def Pm(a:Addr)(C:Value):HO:=.ext fun h=>∃o vs,h.get? a=some o/\o.cls=C/\o.data=.fields vs
def ny(b:Addr)(q:Str):HO:=.ext fun h=>∃o vs t,h.get? b=some o/\o.data=.fields vs/\vs[1]?=some (.str q t)
def Rq(K:Frag)(H:Hp)(a:Addr)(xs:List V):Prop:=
 (∃o,H a=some (.frz o (.lst xs)))\/∃(o:Obj) (bC:Array Value) (n:Nat),K.lookup a=some o/\o.cls=.type "list"/\o.dict=none/\o.data=.seq bC n/\bC.size<=sizeLine/\cJ xs bC.toList
theorem Rq.sq{K:Frag}{H:Hp}{a:Addr}{xs:List V}(h:Rq K H a xs):pL K H a xs:=by
 rcases h with⟨o,h⟩|h
 ·exact .inl (.inr ⟨o,h⟩)
 ·exact .inr h
def am.isRo:am->Bool
 |.ro _=>true
 |_=>false
def j9(K:Frag)(mg:Str->Option Value)(μ:List Addr)(H:Hp):am->Addr->Prop
 |.lst ws,a=>∃vs,H a=some (.lst vs)/\RelWs K μ H ws vs
 |.ro ws,a=>∃vs,Rq K H a vs/\RelWs K μ H ws vs
 |.exc c,a=>∃C,mg c=some C/\H a=some (Pm a C)
 |.dct kvs,a=>∃vs,H a=some (.dK ((kvs.map fun p=>p.1.key).zip vs))/\RelWs K μ H (kvs.map fun p=>p.2) vs
 |.rod kvs,a=>∃vs o,H a=some (.frz o (.dK ((kvs.map fun p=>p.1.key).zip vs)))/\RelWs K μ H (kvs.map fun p=>p.2) vs
 |.tab P pos q,a=>a=P/\∃ps,H a=some (.tbl ps)/\TriplesOk ps.toList/\(codeAmong pos ps.toList=none\/∃c,codeAmong pos ps.toList=some (.ref c)/\H c=some (ny c q))
structure h9(K:Frag)(mg:Str->Option Value)(μ:List Addr)(st:List am)(H:Hp):Prop where
 nd:∀(i j:Nat) (a:Addr) (ci cj:am),st[i]?=some ci->st[j]?=some cj->ci.isRo=false->cj.isRo=false->μ[i]?=some a->μ[j]?=some a->i=j
 len:st.length=μ.length
 at':∀(i:Nat) (c:am) (a:Addr),st[i]?=some c->μ[i]?=some a->j9 K mg μ H c a
section
variable{K:Frag}{mg:Str->Option Value}{μ μ':List Addr}{H H':Hp}{st:List am}
theorem j9.keep(h:μ <+: μ')(x:eE K H H'){c:am}{a:Addr}(e:∀o,H a=some o->H' a=some o)(e2:∀b q,H b=some (ny b q)->H' b=some (ny b q))(r:j9 K mg μ H c a):j9 K mg μ' H' c a:=by
 cases c with
 |lst ws=>obtain⟨vs,p,y⟩:=r;exact⟨vs,e _ p,y.mono h x⟩
 |ro ws=>
  obtain⟨vs,p,y⟩:=r
  refine⟨vs,?_,y.mono h x⟩
  rcases p with⟨o,p⟩|p
  ·exact .inl ⟨o,e _ p⟩
  ·exact .inr p
 |exc c=>obtain⟨C,p,y⟩:=r;exact⟨C,p,e _ y⟩
 |dct kvs=>obtain⟨vs,p,y⟩:=r;exact⟨vs,e _ p,y.mono h x⟩
 |rod kvs=>obtain⟨vs,o,p,y⟩:=r;exact⟨vs,o,e _ p,y.mono h x⟩
 |tab P pos q=>
  obtain⟨ea,ps,p,t,y⟩:=r
  refine⟨ea,ps,e _ p,t,?_⟩
  rcases y with y|⟨c,y,z⟩
  ·exact .inl y
  ·exact .inr ⟨c,y,e2 _ _ z⟩
theorem j9.ro_ne{c:am}{a:Addr}(r:j9 K mg μ H c a)(h:c.isRo=false):∃o,H a=some o:=by
 cases c with
 |lst ws=>obtain⟨vs,p,y⟩:=r;exact⟨_,p⟩
 |ro ws=>cases h
 |exc c=>obtain⟨C,p,y⟩:=r;exact⟨_,y⟩
 |dct kvs=>obtain⟨vs,p,y⟩:=r;exact⟨_,p⟩
 |rod kvs=>obtain⟨vs,o,p,y⟩:=r;exact⟨_,p⟩
 |tab P pos q=>obtain⟨_,ps,p,_⟩:=r;exact⟨_,p⟩
theorem h9.same(S:h9 K mg μ st H)(e:qd H H'):h9 K mg μ st H':=⟨S.nd,S.len,fun i c a h1 h2=>(S.at' i c a h1 h2).keep (al _) (fg.same e) (e a) fun b q h=>e b _ h⟩
theorem h9.get(S:h9 K mg μ st H){n:Nat}{c:am}(h:st[n]?=some c):∃a,μ[n]?=some a/\j9 K mg μ H c a:=by
 have hn:n<μ.length:=by rw[<- S.len];exact(aa.mp h).1
 exact⟨μ[n],ac hn,S.at' n c _ h (ac hn)⟩
theorem h9.push(S:h9 K mg μ st H){p:Addr}{o:HO}{c:am}(hp:H p=none)(hc:j9 K mg (μ++[p]) (fm H p o) c p):h9 K mg (μ++[p]) (st++[c]) (fm H p o):=by
 have hs:qd H (fm H p o):=dg hp o
 have wc:μ <+: μ++[p]:=aE _ _
 have old:∀{i:Nat} {d:am} {a:Addr},i<st.length->(st++[c])[i]?=some d->(μ++[p])[i]?=some a->st[i]?=some d/\μ[i]?=some a:=fun{i d a} hi h1 h2=>by
  rw[au hi]at h1
  rw[au (by rw[<- S.len];exact hi)]at h2
  exact⟨h1,h2⟩
 have new:∀{i:Nat} {d:am} {a:Addr},¬ i<st.length->(st++[c])[i]?=some d->(μ++[p])[i]?=some a->i=st.length/\d=c/\a=p:=fun{i d a} hi h1 h2=>by
  have hi':i=st.length:=by
   have:=(aa.mp h1).1
   simp at this;omega
  subst hi'
  simp at h1
  rw[S.len,eU (aA _)]at h2
  simp at h2
  exact⟨rfl,h1.symm,h2.symm⟩
 refine⟨fun i j a ci cj h1 h2 r1 r2 m1 m2=>?_,by simp[S.len],fun i d a h1 h2=>?_⟩
 ·by_cases hi:i<st.length
  ·obtain⟨x1,x2⟩:=old hi h1 m1
   by_cases hj:j<st.length
   ·obtain⟨y1,y2⟩:=old hj h2 m2
    exact S.nd i j a ci cj x1 y1 r1 r2 x2 y2
   ·obtain⟨_,_,rfl⟩:=new hj h2 m2
    obtain⟨o',z⟩:=(S.at' i ci a x1 x2).ro_ne r1
    rw[hp]at z;cases z
  ·obtain⟨e1,_,rfl⟩:=new hi h1 m1
   by_cases hj:j<st.length
   ·obtain⟨y1,y2⟩:=old hj h2 m2
    obtain⟨o',z⟩:=(S.at' j cj a y1 y2).ro_ne r2
    rw[hp]at z;cases z
   ·obtain⟨e2,_,_⟩:=new hj h2 m2
    omega
 ·by_cases hi:i<st.length
  ·obtain⟨x1,x2⟩:=old hi h1 h2
   exact(S.at' i d a x1 x2).keep wc (fg.same hs) (hs a) fun b q h=>hs b _ h
  ·obtain⟨_,rfl,rfl⟩:=new hi h1 h2
   exact hc
theorem h9.setG(S:h9 K mg μ st H){n:Nat}{a:Addr}{c c':am}{o o':HO}(hn:st[n]?=some c)(CA:c.isRo=false)(hm:μ[n]?=some a)(ha:H a=some o)(hf:∀q u,o≠.frz q u)(hg:∀φ,o≠.ext φ)(hx:eE K H (fm H a o'))(Tp:c'.isRo=false)(hr:j9 K mg μ (fm H a o') c' a):h9 K mg μ (st.set n c') (fm H a o'):=by
 have hl:n<st.length:=(aa.mp hn).1
 have back:∀{i:Nat} {d:am},(st.set n c')[i]?=some d->∃d',st[i]?=some d'/\(d'=d\/(i=n/\d=c')):=fun{i d} h=>by
  by_cases e:i=n
  ·subst e
   rw[bb hl]at h
   exact⟨_,hn,.inr ⟨rfl,(a_ h).symm⟩⟩
  ·rw[bg (Ne.symm e)]at h
   exact⟨d,h,.inl rfl⟩
 refine⟨fun i j b ci cj h1 h2 r1 r2 m1 m2=>?_,by simp[S.len],fun i d b h1 h2=>?_⟩
 ·obtain⟨di,x1,y1⟩:=back h1
  obtain⟨dj,x2,y2⟩:=back h2
  refine S.nd i j b di dj x1 x2 ?_ ?_ m1 m2
  ·rcases y1 with rfl|⟨rfl,rfl⟩
   ·exact r1
   ·rw[hn]at x1;cases x1;exact CA
  ·rcases y2 with rfl|⟨rfl,rfl⟩
   ·exact r2
   ·rw[hn]at x2;cases x2;exact CA
 ·by_cases e:i=n
  ·subst e
   rw[bb hl]at h1
   cases h1
   rw[hm]at h2;cases h2
   exact hr
  ·rw[bg (Ne.symm e)]at h1
   have r:=S.at' i d b h1 h2
   by_cases hrd:d.isRo=true
   ·cases d with
    |ro zs=>
     obtain⟨us,p,q⟩:=r
     refine⟨us,?_,q.mono (al _) hx⟩
     rcases p with⟨o2,p⟩|p
     ·exact .inl ⟨o2,by rw[cx (by rintro rfl;rw[ha]at p;cases p;exact hf _ _ rfl)];exact p⟩
     ·exact .inr p
    |lst _=>cases hrd
    |exc _=>cases hrd
    |dct _=>cases hrd
    |rod _=>cases hrd
    |tab _ _ _=>cases hrd
   ·refine r.keep (al _) hx (fun o ho=>?_) fun b' q h=>by rw[cx (by rintro rfl;rw[ha]at h;cases h;exact hg _ rfl)];exact h
    have hb:b≠a:=by
     rintro rfl
     exact e (S.nd i n b d _ h1 hn (by simpa using hrd) CA h2 hm)
    rw[cx hb];exact ho
theorem h9.set(S:h9 K mg μ st H){n:Nat}{a:Addr}{ws QZ:List W}{vs wj:List V}(hn:st[n]?=some (.lst ws))(hm:μ[n]?=some a)(ha:H a=some (.lst vs))(hr:RelWs K μ H QZ wj):h9 K mg μ (st.set n (.lst QZ)) (fm H a (.lst wj)):=by
 have hx:eE K H (fm H a (.lst wj)):=fg.but gT ha
 have hl:n<st.length:=(aa.mp hn).1
 have back:∀{i:Nat} {d:am},(st.set n (.lst QZ))[i]?=some d->∃d',st[i]?=some d'/\(d'=d\/(i=n/\d=.lst QZ)):=fun{i d} h=>by
  by_cases e:i=n
  ·subst e
   rw[bb hl]at h
   exact⟨_,hn,.inr ⟨rfl,(a_ h).symm⟩⟩
  ·rw[bg (Ne.symm e)]at h
   exact⟨d,h,.inl rfl⟩
 refine⟨fun i j b ci cj h1 h2 r1 r2 m1 m2=>?_,by simp[S.len],fun i d b h1 h2=>?_⟩
 ·obtain⟨di,x1,y1⟩:=back h1
  obtain⟨dj,x2,y2⟩:=back h2
  refine S.nd i j b di dj x1 x2 ?_ ?_ m1 m2
  ·rcases y1 with rfl|⟨rfl,rfl⟩
   ·exact r1
   ·rw[hn]at x1;cases x1;rfl
  ·rcases y2 with rfl|⟨rfl,rfl⟩
   ·exact r2
   ·rw[hn]at x2;cases x2;rfl
 ·by_cases e:i=n
  ·subst e
   rw[bb hl]at h1
   cases h1
   rw[hm]at h2;cases h2
   exact⟨wj,fC,hr.mono (al _) hx⟩
  ·rw[bg (Ne.symm e)]at h1
   have r:=S.at' i d b h1 h2
   by_cases CA:d.isRo=true
   ·cases d with
    |ro zs=>
     obtain⟨us,p,q⟩:=r
     refine⟨us,?_,q.mono (al _) hx⟩
     rcases p with⟨o',p⟩|p
     ·exact .inl ⟨o',by rw[cx (by rintro rfl;rw[ha]at p;cases p)];exact p⟩
     ·exact .inr p
    |lst _=>cases CA
    |exc _=>cases CA
    |dct _=>cases CA
    |rod _=>cases CA
    |tab _ _ _=>cases CA
   ·refine r.keep (al _) hx (fun o ho=>?_) fun b' q h=>by rw[cx (by rintro rfl;rw[ha]at h;cases h)];exact h
    have hb:b≠a:=by
     rintro rfl
     exact e (S.nd i n b d _ h1 hn (by simpa using CA) rfl h2 hm)
    rw[cx hb];exact ho
end
structure Rl(X:Cx)(μ:List Addr)(ρ:cB)(st:List am)(σ:St)(H:Hp):Prop where
 env:Paired (fun(o:Option W) (s:Option V)=>∀w,o=some w->∃v,s=some v/\bF X.K μ H w v) ρ σ
 sto:h9 X.K X.mg μ st H
theorem tK{K:Frag}{μ μ':List Addr}{H H':Hp}(h:μ <+: μ')(x:eE K H H'):∀{ρ:cB} {σ:St},Paired (fun(o:Option W) (s:Option V)=>∀w,o=some w->∃v,s=some v/\bF K μ H w v) ρ σ ->
  Paired (fun(o:Option W) (s:Option V)=>∀w,o=some w->∃v,s=some v/\bF K μ' H' w v) ρ σ
 |_,_,.nil=>.nil
 |_,_,.cons a t=>.cons (fun w e=>let ⟨v,p,q⟩:=a w e;⟨v,p,q.mono h x⟩) (tK h x t)
theorem Rl.to{X:Cx}{μ μ':List Addr}{ρ:cB}{st bH:List am}{σ:St}{H H':Hp}(r:Rl X μ ρ st σ H)(h:μ <+: μ')(x:eE X.K H H')(s:h9 X.K X.mg μ' bH H'):Rl X μ' ρ bH σ H':=⟨tK h x r.env,s⟩
theorem on{K:Frag}{μ:List Addr}{H:Hp}:∀{ρ:cB} {σ:St} {i:Nat} {w:W},Paired (fun(o:Option W) (s:Option V)=>∀w,o=some w->∃v,s=some v/\bF K μ H w v) ρ σ->ρ[i]?=some (some w)->∃v,σ[i]?=some (some v)/\bF K μ H w v
 |_,_,_,_,.nil,e=>by simp at e
 |_,_,0,w,.cons a t,e=>by simp at e;obtain⟨v,p,q⟩:=a w e;exact⟨v,by simp[p],q⟩
 |_,_,i+1,w,.cons a t,e=>by simpa using on (i:=i) t (by simpa using e)
theorem qV{K:Frag}{μ:List Addr}{H:Hp}{w:W}{v:V}(r:bF K μ H w v):∀{ρ:cB} {σ:St} (i:Nat),Paired (fun(o:Option W) (s:Option V)=>∀w,o=some w->∃v,s=some v/\bF K μ H w v) ρ σ ->
  Paired (fun(o:Option W) (s:Option V)=>∀w,o=some w->∃v,s=some v/\bF K μ H w v) (ρ.set i (some w)) (σ.set i (some v))
 |_,_,_,.nil=>.nil
 |_,_,0,.cons a t=>.cons (fun w' e=>⟨v,rfl,by cases e;exact r⟩) t
 |_,_,i+1,.cons a t=>.cons a (qV r i t)
structure tL(X:Cx)(pins:List (Addr×Obj))(σ:St)(c:Str)(H:Hp)(e:Value)(s:Shared):Prop where
 inv:bE X pins σ H s
 ex:∃x C t B,e=.ref x/\X.mg c=some C/\H x=none/\B.StaysIn s.heap/\B.get? x=none/\s.heap.FunFrames B X.stack /\
  (s.heap.TracedW B x C (.ref t)\/(∃oe vs,s.heap.get? x=some oe/\oe.cls=C/\oe.dict=none/\oe.data=.fields vs/\vs[1]?=some .none/\vs[0]?=some (.ref t))\/∃L,X.env.frame=some L/\s.heap.TracedAtW B x C (.ref t) (rawInt L)) /\
  ∀b o,s.heap.get? b=some o->(H b≠none\/((∃o0,X.s₀.heap.get? b=some o0)/\b∉X.fs/\b∉X.ex)\/((∃y,X.env.cells.lookup y=some b)/\b∉qm X.stack)\/∃p∈X.pn++pins,p.1=b)->B.get? b=some o
def XS(X:Cx)(c:Str)(μ:List Addr)(ρ:cB)(st:List am)(H:Hp):Prop:=
 ∀pins μ' σ' H' e s',μ <+: μ'->eE X.K H H'->Rl X μ' ρ st σ' H'->tL X pins σ' c H' e s'->X.xe e s'
def XE(X:Cx)(c:Str)(μ:List Addr)(st:List am)(σ:St)(H:Hp):Prop:=
 ∀pins μ' H' e s',μ <+: μ'->eE X.K H H'->h9 X.K X.mg μ' st H'->tL X pins σ c H' e s'->X.xe e s'
theorem XE.mono{X:Cx}{c:Str}{μ μ1:List Addr}{st:List am}{σ:St}{H H1:Hp}(h:XE X c μ st σ H)(p:μ <+: μ1)(x:eE X.K H H1):XE X c μ1 st σ H1:=fun pins μ' H' e s' a b=>h pins μ' H' e s' (p.trans a) (x.trans b)
theorem XS.mono{X:Cx}{c:Str}{μ μ1:List Addr}{ρ:cB}{st:List am}{H H1:Hp}(h:XS X c μ ρ st H)(p:μ <+: μ1)(x:eE X.K H H1):XS X c μ1 ρ st H1:=fun pins μ' σ' H' e s' a b=>h pins μ' σ' H' e s' (p.trans a) (x.trans b)
theorem XS.toE{X:Cx}{c:Str}{μ:List Addr}{ρ:cB}{RC st:List am}{σ:St}{H:Hp}(h:XS X c μ ρ st H)(r:Rl X μ ρ RC σ H):XE X c μ st σ H:=fun pins μ' H' e s' a b s f=>h pins μ' σ H' e s' a b (r.to a b s) f
def RK{α β:Type}(X:Cx)(rel:List Addr->Hp->α->β->Prop)(μ:List Addr)(σ:St)(H:Hp)(Q:β->Hp->Prop):R α->Prop
 |.ok a bH=>∀μ' b H',μ <+: μ'->eE X.K H H'->h9 X.K X.mg μ' bH H'->rel μ' H' a b->Q b H'
 |.ex c bH=>XE X c μ bH σ H
 |.bad=>False
theorem RK.mono{α β:Type}{X:Cx}{rel:List Addr->Hp->α->β->Prop}{μ μ1:List Addr}{σ:St}{H H1:Hp}{Q:β->Hp->Prop}{r:R α}(h:RK X rel μ σ H Q r)(p:μ <+: μ1)(x:eE X.K H H1):RK X rel μ1 σ H1 Q r:=by
 cases r with
 |ok a st=>exact fun μ' b H' a1 b1=>h μ' b H' (p.trans a1) (x.trans b1)
 |ex c st=>exact XE.mono h p x
 |bad=>exact h
def tG{α β:Type}(X:Cx)(rel:List Addr->Hp->α->β->Prop)(f:cB->List am->R α)(σ:St)(H:Hp)(Q:β->Hp->Prop):Prop:=
 ∃μ ρ st,Rl X μ ρ st σ H/\RK X rel μ σ H Q (f ρ st)
abbrev sN(X:Cx):List Addr->Hp->W->V->Prop:=fun μ H w v=>bF X.K μ H w v
abbrev Sd(X:Cx):List Addr->Hp->List W->List V->Prop:=fun μ H w v=>RelWs X.K μ H w v
abbrev LM:List Addr->Hp->Bool->Bool->Prop:=fun _ _ a b=>a=b
abbrev tE(X:Cx)(f:FE):TE:=tG X (sN X) f
abbrev tT(X:Cx)(f:FT):TT:=tG X LM f
abbrev Se(X:Cx)(f:FA):TA:=tG X (Sd X) f
theorem RK.bind{α β α' β':Type}{X:Cx}{rel:List Addr->Hp->α->β->Prop}{Rj:List Addr->Hp->α'->β'->Prop}{μ:List Addr}{ρ:cB}{st:List am}{σ:St}{H:Hp}{r:R α}{k:α->List am->R α'}{Q:β'->Hp->Prop}{T:β->Hp->Prop}
  (h:RK X Rj μ σ H Q (r.bind k)) (l:Rl X μ ρ st σ H)
  (hk:∀μ' bH x v H',μ <+: μ'->eE X.K H H'->Rl X μ' ρ bH σ H'->rel μ' H' x v->RK X Rj μ' σ H' Q (k x bH)->T v H'):RK X rel μ σ H T r:=by
 cases r with
 |ok a bH=>exact fun μ' b H' p x s q=>hk μ' bH a b H' p x (l.to p x s) q (RK.mono h p x)
 |ex c bH=>exact h
 |bad=>exact h
def SK(X:Cx)(μ:List Addr)(H:Hp)(D:uC):RS->Prop
 |.nx ρ st=>∀μ' σ' H',μ <+: μ'->eE X.K H H'->Rl X μ' ρ st σ' H'->D.nx σ' H'
 |.bk ρ st=>∀μ' σ' H',μ <+: μ'->eE X.K H H'->Rl X μ' ρ st σ' H'->D.bk σ' H'
 |.ct ρ st=>∀μ' σ' H',μ <+: μ'->eE X.K H H'->Rl X μ' ρ st σ' H'->D.ct σ' H'
 |.rt w st=>∀μ' v H',μ <+: μ'->eE X.K H H'->h9 X.K X.mg μ' st H'->bF X.K μ' H' w v->D.rt v H'
 |.ex c ρ st=>XS X c μ ρ st H
 |.bad=>False
theorem SK.mono{X:Cx}{μ μ1:List Addr}{H H1:Hp}{D:uC}{r:RS}(h:SK X μ H D r)(p:μ <+: μ1)(x:eE X.K H H1):SK X μ1 H1 D r:=by
 cases r with
 |nx ρ st=>exact fun μ' b H' a1 b1=>h μ' b H' (p.trans a1) (x.trans b1)
 |bk ρ st=>exact fun μ' b H' a1 b1=>h μ' b H' (p.trans a1) (x.trans b1)
 |ct ρ st=>exact fun μ' b H' a1 b1=>h μ' b H' (p.trans a1) (x.trans b1)
 |rt w st=>exact fun μ' b H' a1 b1=>h μ' b H' (p.trans a1) (x.trans b1)
 |ex c ρ st=>exact XS.mono h p x
 |bad=>exact h
def Rs(X:Cx)(g:FS):TS:=fun D σ H=>∃μ ρ st,Rl X μ ρ st σ H/\SK X μ H D (g ρ st)
structure SE(X:Cx)(e:Expr)(f:FE):Prop where
 h:PE X e (tE X f)
structure ST(X:Cx)(e:Expr)(f:FT):Prop where
 h:PT X e (tT X f)
structure SW(X:Cx)(e:Expr)(f:FT):Prop where
 h:PW X e (tT X f)
structure SA(X:Cx)(es:List Expr)(f:FA):Prop where
 h:PA X es (Se X f)
structure SS(X:Cx)(s:Stmt)(g:FS):Prop where
 h:PS X s (Rs X g)
structure SB(X:Cx)(s:List Stmt)(g:FS):Prop where
 h:Bt X s (Rs X g)
theorem PE.imp{X:Cx}{e:Expr}{t t':TE}(h:PE X e t)(i:∀σ H Q,t' σ H Q->t σ H Q):PE X e t':=fun pins s σ H Q I q=>h pins s σ H Q I (i _ _ _ q)
theorem PT.imp{X:Cx}{e:Expr}{t t':TT}(h:PT X e t)(i:∀σ H Q,t' σ H Q->t σ H Q):PT X e t':=fun pins s σ H Q I q=>h pins s σ H Q I (i _ _ _ q)
theorem PW.imp{X:Cx}{e:Expr}{t t':TT}(h:PW X e t)(i:∀σ H Q,t' σ H Q->t σ H Q):PW X e t':=fun wh pins s σ H Q I q=>h wh pins s σ H Q I (i _ _ _ q)
theorem PA.imp{X:Cx}{e:List Expr}{t t':TA}(h:PA X e t)(i:∀σ H Q,t' σ H Q->t σ H Q):PA X e t':=fun pos pins s σ H Q I q=>h pos pins s σ H Q I (i _ _ _ q)
theorem PS.imp{X:Cx}{e:Stmt}{t t':TS}(h:PS X e t)(i:∀D σ H,t' D σ H->t D σ H):PS X e t':=fun pins s σ H D I q=>h pins s σ H D I (i _ _ _ q)
theorem Bt.imp{X:Cx}{e:List Stmt}{t t':TS}(h:Bt X e t)(i:∀D σ H,t' D σ H->t D σ H):Bt X e t':=fun pins s σ H D I q=>h pins s σ H D I (i _ _ _ q)
section
variable{X:Cx}{a b c e o:Expr}{es:List Expr}{pos p p2 gq dM:Pos}{x name:Str}{j:Nat}{d7:List Expr}{fa fb fc fe:FE}{ft fu:FT}{fs:FA}
def ai(i:Nat):FE:=fun ρ st=>match ρ[i]? with
 |some (some w)=>.ok w st
 |_=>.bad
theorem af(i:Nat){x:Str}{pos:Pos}(hN:X.N[i]?=some x:=by rfl)(hv:Op X.env.scope x:=by first|exact Or.inl rfl|exact Or.inr (Or.inl rfl)|exact Or.inr (Or.inr rfl))(hd:(x==("__debug__":Str))=false:=by decide)
  (mW:(x==("__classdict__":Str))=false:=by decide):SE X (.Name x pos) (ai i):=⟨(pv i hN hv hd mW).imp fun σ H Q h=>by
 obtain⟨μ,ρ,st,r,h⟩:=h
 unfold ai at h
 cases e:ρ[i]? with
 |none=>rw[e]at h;exact h.elim
 |some ow=>
  cases ow with
  |none=>rw[e]at h;exact h.elim
  |some w=>
   rw[e]at h
   obtain⟨v,e1,e2⟩:=on r.env e
   exact⟨v,e1,h μ v H (al _) eE.refl r.sto e2⟩⟩
def eC(w:W):FE:=fun _ st=>.ok w st
abbrev eI(n:Int):FE:=eC (.int n)
theorem Pn{w:W}{v:V}(hc:PE X e (tC v))(hr:∀μ H,bF X.K μ H w v):SE X e (eC w):=⟨hc.imp fun σ H Q h=>by
 obtain⟨μ,ρ,st,r,h⟩:=h
 exact h μ v H (al _) eE.refl r.sto (hr _ _)⟩
theorem aw{i:Int}:SE X (.Constant (.int i) j pos) (eC (.int i)):=Pn KS fun _ _=>.int
theorem nO{k:Bool}:SE X (.Constant (.bool k) j pos) (eC (.bl k)):=Pn Os fun _ _=>.bl
theorem wO:SE X (.Constant .none j pos) (eC .non):=Pn KU fun _ _=>.non
theorem qW{l:List Nat}(h:x=tx l:=by decide +kernel):SE X (.Constant (.str x) j pos) (eC (.str l)):=Pn KW fun _ _=>by rw[h];exact .str
theorem Sf{w:W}(h:∃u v,X.mg x=some u/\cr v u/\∀μ H,bF X.K μ H w v)(hg:Gl X x:=by rfl)(hd:(x==("__debug__":Str))=false:=by decide):SE X (.Name x pos) (eC w):=by
 obtain⟨u,v,a,b,c⟩:=h
 exact Pn (Pa ⟨u,a,b⟩ hg hd) c
def e2(f:W->W->List am->R W)(fa fb:FE):FE:=fun ρ st=>(fa ρ st).bind fun x st=>(fb ρ st).bind fun y st=>f x y st
def CM(X:Cx)(μ:List Addr)(H:Hp)(Q:VK):R W->Prop
 |.ok w bH=>∀μ' v H',μ <+: μ'->eE X.K H H'->h9 X.K X.mg μ' bH H'->bF X.K μ' H' w v->Q v H'
 |_=>False
def qe{α:Type}:R α->Prop
 |.ex _ _=>False
 |_=>True
def Sg(X:Cx)(f:W->W->List am->R W):R2:=fun x y H Q=>∃μ st wx wy,h9 X.K X.mg μ st H/\bF X.K μ H wx x/\bF X.K μ H wy y/\CM X μ H Q (f wx wy st)
structure oZ(X:Cx)(g:Value->Value->Sem Value)(f:W->W->List am->R W):Prop where
 h:lf X g (Sg X f)
 n:∀x y st,qe (f x y st)
theorem o_{μ:List Addr}{σ:St}{H:Hp}{Q:VK}{r:R W}(h:RK X (sN X) μ σ H Q r)(n:qe r):CM X μ H Q r:=by
 cases r with
 |ok a st=>exact h
 |ex c st=>exact n.elim
 |bad=>exact h
theorem AH{f:W->W->List am->R W}{σ:St}{H:Hp}{Q:VK}(n:∀x y st,qe (f x y st))(h:tE X (e2 f fa fb) σ H Q):OG (Sg X f) (tE X fa) (tE X fb) σ H Q:=by
 obtain⟨μ,ρ,st,l,h⟩:=h
 refine⟨μ,ρ,st,l,RK.bind h l fun μ1 st1 x v H1 p1 x1 l1 q1 h1=>⟨μ1,ρ,st1,l1,RK.bind h1 l1 fun μ2 cZ y u H2 p2 x2 l2 q2 h2=>?_⟩⟩
 exact⟨μ2,cZ,x,y,l2.sto,q1.mono p2 x2,q2,o_ h2 (n _ _ _)⟩
theorem bp{op:Operator}{f:W->W->List am->R W}(ho:oZ X (binaryOp op) f)(ha:SE X a fa)(hb:SE X b fb):SE X (.BinOp a op b pos) (e2 f fa fb):=⟨(OH ho.h ha.h hb.h).imp fun _ _ _ h=>AH ho.n h⟩
theorem kM{op:CmpOp}{f:W->W->List am->R W}(ho:oZ X (compareOp op) f)(ha:SE X a fa)(hb:SE X b fb)(hm:behindInMarks op b=false:=by first|exact C8 _|rfl):SE X (.Compare a [op] [b] pos) (e2 f fa fb):=⟨(Hj ho.h ha.h hb.h hm).imp fun _ _ _ h=>AH ho.n h⟩
def et(fa:FE):FT:=fun ρ st=>(fa ρ st).bind fun x st=>match x with
 |.bl k=>.ok k st
 |_=>.bad
theorem oo{σ:St}{H:Hp}{Q:Bool->Hp->Prop}(h:tT X (et fa) σ H Q):tE X fa σ H fun x H1=>∃k,x=.bl k/\Q k H1:=by
 obtain⟨μ,ρ,st,l,h⟩:=h
 refine⟨μ,ρ,st,l,RK.bind h l fun μ1 st1 x v H1 p1 x1 l1 q1 h1=>?_⟩
 cases x with
 |bl k=>exact⟨k,q1.blE,h1 μ1 k H1 (al _) eE.refl l1.sto rfl⟩
 |_=>exact h1.elim
theorem bT{op:CmpOp}{f:W->W->List am->R W}(ho:oZ X (compareOp op) f)(ha:SE X a fa)(hb:SE X b fb)(hm:behindInMarks op b=false:=by first|exact C8 _|rfl):ST X (.Compare a [op] [b] pos) (et (e2 f fa fb)):=⟨(Hk ho.h ha.h hb.h hm).imp fun σ H Q h=>by
 have h':tE X (e2 f fa fb) σ H fun x H1=>∃k,x=.bl k/\Q k H1:=oo h
 exact AH ho.n h'⟩
theorem gI(h:SE X e fe)(he:∀sE,isTrue e X.env sE=(do let v <- sE;standAt e.pos;holding [v] (truthy v)):=by intro _;rfl):ST X e (et fe):=⟨(KZ h.h he).imp fun σ H Q h=>oo h⟩
def LN(t u:FT):FT:=fun ρ st=>(t ρ st).bind fun k st=>if k then u ρ st else .ok false st
def we(t u:FT):FT:=fun ρ st=>(t ρ st).bind fun k st=>if k then .ok true st else u ρ st
def wP(t:FT):FT:=fun ρ st=>(t ρ st).bind fun k st=>.ok (!k) st
theorem HQ(ha:ST X a ft):SW X (.BoolOp .And [a] pos) ft:=⟨G9 ha.h⟩
theorem nP(ha:ST X a ft):SW X (.BoolOp .Or [a] pos) ft:=⟨K0 ha.h⟩
theorem LO(ha:ST X a ft)(hb:SW X (.BoolOp .And (b::d7) pos) fu):SW X (.BoolOp .And (a::b::d7) pos) (LN ft fu):=⟨(K1 ha.h hb.h).imp fun σ H Q h=>by
 obtain⟨μ,ρ,st,l,h⟩:=h
 refine⟨μ,ρ,st,l,RK.bind h l fun μ1 st1 x v H1 p1 x1 l1 q1 h1=>?_⟩
 cases q1
 cases x with
 |true=>exact⟨μ1,ρ,st1,l1,h1⟩
 |false=>exact h1 μ1 false H1 (al _) eE.refl l1.sto rfl⟩
theorem nz(ha:ST X a ft)(hb:SW X (.BoolOp .Or (b::d7) pos) fu):SW X (.BoolOp .Or (a::b::d7) pos) (we ft fu):=⟨(Ou ha.h hb.h).imp fun σ H Q h=>by
 obtain⟨μ,ρ,st,l,h⟩:=h
 refine⟨μ,ρ,st,l,RK.bind h l fun μ1 st1 x v H1 p1 x1 l1 q1 h1=>?_⟩
 cases q1
 cases x with
 |false=>exact⟨μ1,ρ,st1,l1,h1⟩
 |true=>exact h1 μ1 true H1 (al _) eE.refl l1.sto rfl⟩
theorem wQ(h:SW X e ft):ST X e ft:=⟨h.h.pt⟩
theorem kB(ha:ST X a ft):ST X (.UnaryOp .Not a pos) (wP ft):=⟨(K2 ha.h).imp fun σ H Q h=>by
 obtain⟨μ,ρ,st,l,h⟩:=h
 refine⟨μ,ρ,st,l,RK.bind h l fun μ1 st1 x v H1 p1 x1 l1 q1 h1=>?_⟩
 cases q1
 exact h1 μ1 _ H1 (al _) eE.refl l1.sto rfl⟩
def y9(fa fb:FE):FE:=fun ρ st=>(fa ρ st).bind fun x st=>match x with
 |.bl true=>fb ρ st
 |.bl false=>.ok (.bl false) st
 |_=>.bad
def Ob(fa fb:FE):FE:=fun ρ st=>(fa ρ st).bind fun x st=>match x with
 |.bl true=>.ok (.bl true) st
 |.bl false=>fb ρ st
 |_=>.bad
def HR(fa:FE):FE:=fun ρ st=>(fa ρ st).bind fun x st=>match x with
 |.bl k=>.ok (.bl (!k)) st
 |_=>.bad
theorem AI{op:BoolOp}(h:SE X a fa):SE X (.BoolOp op [a] pos) fa:=⟨K3 h.h⟩
theorem AJ(ha:SE X a fa)(hb:SE X (.BoolOp .And (b::d7) pos) fb):SE X (.BoolOp .And (a::b::d7) pos) (y9 fa fb):=⟨(K4 ha.h hb.h).imp fun σ H Q h=>by
 obtain⟨μ,ρ,st,l,h⟩:=h
 refine⟨μ,ρ,st,l,RK.bind h l fun μ1 st1 x v H1 p1 x1 l1 q1 h1=>?_⟩
 cases x with
 |bl k=>
  refine⟨k,q1.blE,?_⟩
  cases k with
  |true=>exact⟨μ1,ρ,st1,l1,h1⟩
  |false=>exact h1 μ1 _ H1 (al _) eE.refl l1.sto .bl
 |_=>exact h1.elim⟩
theorem Sh(ha:SE X a fa)(hb:SE X (.BoolOp .Or (b::d7) pos) fb):SE X (.BoolOp .Or (a::b::d7) pos) (Ob fa fb):=⟨(Ox ha.h hb.h).imp fun σ H Q h=>by
 obtain⟨μ,ρ,st,l,h⟩:=h
 refine⟨μ,ρ,st,l,RK.bind h l fun μ1 st1 x v H1 p1 x1 l1 q1 h1=>?_⟩
 cases x with
 |bl k=>
  refine⟨k,q1.blE,?_⟩
  cases k with
  |false=>exact⟨μ1,ρ,st1,l1,h1⟩
  |true=>exact h1 μ1 _ H1 (al _) eE.refl l1.sto .bl
 |_=>exact h1.elim⟩
theorem Po(ha:SE X a fa):SE X (.UnaryOp .Not a pos) (HR fa):=⟨(K5 ha.h).imp fun σ H Q h=>by
 obtain⟨μ,ρ,st,l,h⟩:=h
 refine⟨μ,ρ,st,l,RK.bind h l fun μ1 st1 x v H1 p1 x1 l1 q1 h1=>?_⟩
 cases x with
 |bl k=>exact⟨k,q1.blE,h1 μ1 _ H1 (al _) eE.refl l1.sto .bl⟩
 |_=>exact h1.elim⟩
def HS(t:FT)(fa fb:FE):FE:=fun ρ st=>(t ρ st).bind fun k st=>if k then fa ρ st else fb ρ st
theorem HU(hc:ST X c ft)(ha:SE X a fa)(hb:SE X b fb):SE X (.IfExp c a b pos) (HS ft fa fb):=⟨(CW hc.h ha.h hb.h).imp fun σ H Q h=>by
 obtain⟨μ,ρ,st,l,h⟩:=h
 refine⟨μ,ρ,st,l,RK.bind h l fun μ1 st1 x v H1 p1 x1 l1 q1 h1=>?_⟩
 cases q1
 cases x with
 |false=>exact⟨μ1,ρ,st1,l1,h1⟩
 |true=>exact⟨μ1,ρ,st1,l1,h1⟩⟩
def W.isNon:W->Bool
 |.non=>true
 |_=>false
def wR(fa:FE):FE:=fun ρ st=>(fa ρ st).bind fun x st=>.ok (.bl x.isNon) st
def qX(fa:FE):FE:=fun ρ st=>(fa ρ st).bind fun x st=>.ok (.bl (!x.isNon)) st
theorem Jr{μ:List Addr}{H:Hp}{w:W}{v:V}(r:bF X.K μ H w v):decide (v=.non)=w.isNon:=by
 cases w with
 |non=>rw[r.nonE];rfl
 |bl b=>rw[r.blE];rfl
 |int b=>rw[r.intE];rfl
 |str b=>rw[r.strE];rfl
 |tup b=>obtain⟨p,vs,rfl,_⟩:=r.tupE;rfl
 |loc b=>obtain⟨p,_,rfl⟩:=r.locE;rfl
theorem Js{σ:St}{H:Hp}{Q:VK}(h:tE X (wR fa) σ H Q):Ot (tE X fa) σ H Q:=by
 obtain⟨μ,ρ,st,l,h⟩:=h
 refine⟨μ,ρ,st,l,RK.bind h l fun μ1 st1 x v H1 p1 x1 l1 q1 h1=>?_⟩
 show Q (.bl (decide (v=.non))) H1
 rw[Jr q1]
 exact h1 μ1 _ H1 (al _) eE.refl l1.sto .bl
theorem LP{σ:St}{H:Hp}{Q:VK}(h:tE X (qX fa) σ H Q):Jk (tE X fa) σ H Q:=by
 obtain⟨μ,ρ,st,l,h⟩:=h
 refine⟨μ,ρ,st,l,RK.bind h l fun μ1 st1 x v H1 p1 x1 l1 q1 h1=>?_⟩
 show Q (.bl (!decide (v=.non))) H1
 rw[Jr q1]
 exact h1 μ1 _ H1 (al _) eE.refl l1.sto .bl
theorem Pp{iu:Pos}(ha:SE X a fa):SE X (.Compare a [.Is] [.Constant .none j iu] pos) (wR fa):=⟨(KY (CU ha.h)).imp fun _ _ _ h=>Js h⟩
theorem Dv{iu:Pos}(ha:SE X a fa):ST X (.Compare a [.Is] [.Constant .none j iu] pos) (et (wR fa)):=⟨(CV (CU ha.h)).imp fun _ _ _ h=>Js (oo h)⟩
theorem uO{iu:Pos}(ha:SE X a fa):ST X (.Compare a [.IsNot] [.Constant .none j iu] pos) (et (qX fa)):=⟨(CV (G8 ha.h)).imp fun _ _ _ h=>LP (oo h)⟩
def aC:FA:=fun _ st=>.ok [] st
def aj(fa:FE)(fs:FA):FA:=fun ρ st=>(fa ρ st).bind fun x st=>(fs ρ st).bind fun xs st=>.ok (x::xs) st
theorem ao:SA X [] aC:=⟨yO.imp fun σ H Q h=>by
 obtain⟨μ,ρ,st,l,h⟩:=h
 exact h μ [] H (al _) eE.refl l.sto .nilI⟩
theorem ae(ha:SE X e fe)(hr:SA X es fs)(hs:starEach (e::es) X.env=(false,eval e X.env)::starEach es X.env:=by rfl):SA X (e::es) (aj fe fs):=⟨(qo ha.h hr.h hs).imp fun σ H Q h=>by
 obtain⟨μ,ρ,st,l,h⟩:=h
 refine⟨μ,ρ,st,l,RK.bind h l fun μ1 st1 x v H1 p1 x1 l1 q1 h1=>⟨μ1,ρ,st1,l1,RK.bind h1 l1 fun μ2 cZ xs vs H2 p2 x2 l2 q2 h2=>?_⟩⟩
 exact h2 μ2 _ H2 (al _) eE.refl l2.sto (.consI (q1.mono p2 x2) q2)⟩
def Pq(zs:List (List Nat)):FA:=fun _ st=>.ok (zs.map W.str) st
def mE(ws:List W)(st:List am):R W:=if ws.length<=j8 then .ok (.tup ws) st else .bad
def lY(ws:List W)(st:List am):R W:=if ws.length<=j8 then .ok (.loc st.length) (st++[.lst ws])else .bad
def eK(fs:FA):FE:=fun ρ st=>(fs ρ st).bind fun ws st=>mE ws st
def i9(fs:FA):FE:=fun ρ st=>(fs ρ st).bind fun ws st=>lY ws st
theorem h9.newLst{K:Frag}{mg:Str->Option Value}{μ:List Addr}{st:List am}{H:Hp}(S:h9 K mg μ st H){p:Addr}{ws:List W}{vs:List V}(hp:H p=none)(r:RelWs K μ H ws vs):h9 K mg (μ++[p]) (st++[.lst ws]) (fm H p (.lst vs)):=
 S.push hp ⟨vs,fC,r.mono (aE _ _) (fg.same (dg hp _))⟩
theorem nQ{K:Frag}{mg:Str->Option Value}{μ:List Addr}{st:List am}{H H':Hp}(S:h9 K mg μ st H){p:Addr}:bF K (μ++[p]) H' (.loc st.length) (.ref p):=.locI (by rw[S.len];simp)
theorem Dw{μ:List Addr}{st:List am}{σ:St}{H:Hp}{Q:VK}{ws:List W}{vs:List V}(S:h9 X.K X.mg μ st H)(q:RelWs X.K μ H ws vs)(h:RK X (sN X) μ σ H Q (mE ws st)):vs.length<=sizeLine/\∀p H2,H p=none->H2=fm H p (.tup vs)->Q (.ref p) H2:=by
 unfold mE at h
 by_cases hz:ws.length<=j8
 ·rw[aD hz]at h
  refine⟨by rw[<- q.len];exact lp hz,fun p H2 hp e=>?_⟩
  subst e
  have x:=fg.same (K:=X.K) (dg hp (.tup vs))
  exact h μ _ _ (al _) x (S.same (dg hp _)) (.tupI fg.new (q.mono (al _) x))
 ·rw[aQ hz]at h;exact h.elim
theorem qY{μ:List Addr}{st:List am}{σ:St}{H:Hp}{Q:VK}{ws:List W}{vs:List V}(S:h9 X.K X.mg μ st H)(q:RelWs X.K μ H ws vs)(h:RK X (sN X) μ σ H Q (lY ws st)):vs.length<=sizeLine/\∀p H2,H p=none->H2=fm H p (.lst vs)->Q (.ref p) H2:=by
 unfold lY at h
 by_cases hz:ws.length<=j8
 ·rw[aD hz]at h
  refine⟨by rw[<- q.len];exact lp hz,fun p H2 hp e=>?_⟩
  subst e
  exact h (μ++[p]) _ _ (aE _ _) (fg.same (dg hp _)) (S.newLst hp q) (nQ S)
 ·rw[aQ hz]at h;exact h.elim
theorem dz{k:Nat}(h:SA X es fs):SE X (.Tuple es k pos) (eK fs):=⟨(HG h.h).imp fun σ H Q h=>by
 obtain⟨μ,ρ,st,l,h⟩:=h
 exact⟨μ,ρ,st,l,RK.bind h l fun μ1 st1 x v H1 p1 x1 l1 q1 h1=>Dw l1.sto q1 h1⟩⟩
theorem gG(h:SA X es fs):SE X (.List es pos) (i9 fs):=⟨(HH h.h).imp fun σ H Q h=>by
 obtain⟨μ,ρ,st,l,h⟩:=h
 exact⟨μ,ρ,st,l,RK.bind h l fun μ1 st1 x v H1 p1 x1 l1 q1 h1=>qY l1.sto q1 h1⟩⟩
end
section
variable{X:Cx}
theorem jp{μ:List Addr}{st:List am}{H:Hp}{Q:VK}{i:Int}(S:h9 X.K X.mg μ st H)(h:CM X μ H Q (.ok (.int i) st)):Q (.int i) H:=h μ _ H (al _) eE.refl S .int
theorem ie{μ:List Addr}{st:List am}{H:Hp}{Q:VK}{i:Bool}(S:h9 X.K X.mg μ st H)(h:CM X μ H Q (.ok (.bl i) st)):Q (.bl i) H:=h μ _ H (al _) eE.refl S .bl
theorem oq{μ:List Addr}{st:List am}{H:Hp}{Q:VK}{i:List Nat}(S:h9 X.K X.mg μ st H)(h:CM X μ H Q (.ok (.str i) st)):Q (.str (tx i)) H:=h μ _ H (al _) eE.refl S .str
theorem LQ{μ:List Addr}{σ:St}{H:Hp}{Q:VK}{r:R W}(h:CM X μ H Q r):RK X (sN X) μ σ H Q r:=by
 cases r with
 |ok a st=>exact h
 |ex c st=>exact h.elim
 |bad=>exact h
def BV(C:Int->Int->Prop)[∀i j,Decidable (C i j)](f:Int->Int->Int):W->W->List am->R W
 |.int i,.int j,st=>if C i j then .ok (.int (f i j)) st else .bad
 |_,_,_=>.bad
theorem wS{g:Value->Value->Sem Value}{C C':Int->Int->Prop}[∀i j,Decidable (C' i j)]{f:Int->Int->Int}(h:lf X g (rI C fun i j=>.int (f i j)))(hC:∀i j,C' i j->C i j):oZ X g (BV C' f):=⟨h.imp fun x y H Q ⟨μ,st,wx,wy,S,rx,ry,q⟩=>by
 cases wx with
 |int i=>
  cases wy with
  |int j=>
   simp only[BV]at q
   by_cases c:C' i j
   ·rw[aD c]at q;exact⟨i,j,rx.intE,ry.intE,hC i j c,jp S q⟩
   ·rw[aQ c]at q;exact q.elim
  |_=>exact q.elim
 |_=>cases wy<;>exact q.elim,fun x y st=>by
 unfold BV
 split
 ·split<;>trivial
 ·trivial⟩
def BW(f:Int->Int->Bool):W->W->List am->R W
 |.int i,.int j,st=>.ok (.bl (f i j)) st
 |_,_,_=>.bad
theorem Dx{g:Value->Value->Sem Value}{f:Int->Int->Bool}(h:lf X g (C5 fun i j=>.bl (f i j))):oZ X g (BW f):=⟨h.imp fun x y H Q ⟨μ,st,wx,wy,S,rx,ry,q⟩=>by
 cases wx with
 |int i=>
  cases wy with
  |int j=>exact⟨i,j,rx.intE,ry.intE,ie S q⟩
  |_=>exact q.elim
 |_=>cases wy<;>exact q.elim,fun x y st=>by
 unfold BW
 split<;>trivial⟩
abbrev y_(i j:Int):Prop:=(-(2^64)<i/\i<2^64)\/(-(2^64)<j/\j<2^64)
abbrev qf:=BV (fun _ _=>True) fun i j=>i-j
abbrev Ps:=BV y_ fun i j=>i*j
abbrev eh:=BV (fun _ j=>0<j) fun i j=>i%j
abbrev nA:=BV (fun _ j=>0<j/\j<1073741824) fun i j=>i/j
abbrev Pt:=BV (fun i j=>0<=j/\j<=1000000/\i.natAbs<2^64) fun i j=>i^j.toNat
abbrev wT:=BV (fun i j=>0<=j/\j<=1000000/\i.natAbs<2^64) fun i j=>i*2^j.toNat
abbrev wU:=BV (fun _ j=>0<=j) fun i j=>i/2^j.toNat
abbrev tM:=BV (fun _ _=>True) fun i j=>Builtin.bitAnd i j
theorem Dy{g:Value->Value->Sem Value}{f:Int->Int->V}(h:lf X g (C5 f)):lf X g (rI (fun _ _=>True) f):=h.imp fun _ _ _ _ ⟨i,j,a,b,_,q⟩=>⟨i,j,a,b,q⟩
theorem nB:oZ X (binaryOp .Sub) qf:=wS (Dy Lg) fun _ _ _=>trivial
theorem Pu:oZ X (binaryOp .Mult) Ps:=wS Lh fun _ _ h=>h
theorem dH:oZ X (binaryOp .Mod) eh:=wS Li fun _ _ h=>h
theorem nR:oZ X (binaryOp .FloorDiv) nA:=wS Hi fun _ _ h=>h
theorem Pv:oZ X (binaryOp .Pow) Pt:=wS Lj fun _ _ h=>h
theorem Dz:oZ X (binaryOp .LShift) wT:=wS C6 fun _ _ h=>h
theorem Jt:oZ X (binaryOp .RShift) wU:=wS Lk fun _ _ h=>h
theorem DA:oZ X (binaryOp .BitAnd) tM:=wS (Dy Ll) fun _ _ _=>trivial
def c7:W->W->List am->R W
 |.int i,.int j,st=>.ok (.int (i+j)) st
 |.str a,.str b,st=>if a.length+b.length<=j8 then .ok (.str (a++b)) st else .bad
 |.tup a,.tup b,st=>mE (a++b) st
 |.loc n,.loc m,st=>match st[n]?,st[m]? with
  |some (.lst a),some (.lst b)=>lY (a++b) st
  |_,_=>.bad
 |_,_,_=>.bad
theorem HV(ws:List W)(st:List am):qe (mE ws st):=by unfold mE;split<;>trivial
theorem HW(ws:List W)(st:List am):qe (lY ws st):=by unfold lY;split<;>trivial
theorem cA:oZ X (binaryOp .Add) c7:=⟨fun pins s σ H x y v u Q I rv ru ⟨μ,st,wx,wy,S,rx,ry,q⟩=>by
 cases wx with
 |int i=>
  cases wy with
  |int j=>exact Lf pins s σ H x y v u Q I rv ru ⟨i,j,rx.intE,ry.intE,jp S q⟩
  |_=>exact q.elim
 |str a=>
  cases wy with
  |str b=>
   simp only[c7]at q
   by_cases c:a.length+b.length<=j8
   ·rw[aD c]at q
    exact yN pins s σ H x y v u Q I rv ru ⟨_,_,rx.strE,ry.strE,by rw[g_,g_];exact lp c,by rw[yW];exact oq S q⟩
   ·rw[aQ c]at q;exact q.elim
  |_=>exact q.elim
 |tup a=>
  cases wy with
  |tup b=>
   obtain⟨p1,vs1,rfl,h1,r1⟩:=rx.tupE
   obtain⟨p2,vs2,rfl,h2,r2⟩:=ry.tupE
   have q':CM X μ H Q (mE (a++b) st):=q
   unfold mE at q'
   by_cases c:(a++b).length<=j8
   ·rw[aD c]at q'
    refine LJ.h pins s σ H _ _ v u Q I rv ru ⟨p1,p2,vs1,vs2,rfl,rfl,h1,h2,by rw[<- r1.len,<- r2.len,<- ay];exact lp c,fun p H2 e t=>?_⟩
    exact q' μ _ _ (al _) (fg.same e) (S.same e) (.tupI t ((r1.app r2).mono (al _) (fg.same e)))
   ·rw[aQ c]at q';exact q'.elim
  |_=>exact q.elim
 |loc n=>
  cases wy with
  |loc m=>
   simp only[c7]at q
   cases e1:st[n]? with
   |none=>rw[e1]at q;exact q.elim
   |some c1=>
    cases e2:st[m]? with
    |none=>rw[e1,e2]at q;cases c1<;>exact q.elim
    |some c2=>
     cases c1 with
     |lst a=>
      cases c2 with
      |lst b=>
       rw[e1,e2]at q
       obtain⟨a1,g1,vs1,k1,r1⟩:=S.get e1
       obtain⟨a2,g2,vs2,k2,r2⟩:=S.get e2
       obtain⟨b1,f1,rfl⟩:=rx.locE
       obtain⟨b2,f2,rfl⟩:=ry.locE
       rw[g1]at f1;cases f1
       rw[g2]at f2;cases f2
       obtain⟨hz,qq⟩:=qY (σ:=σ) S (r1.app r2) (LQ q)
       exact HK pins s σ H _ _ v u Q I rv ru ⟨a1,a2,vs1,vs2,rfl,rfl,k1,k2,by rw[<- ay];exact hz,qq⟩
      |_=>rw[e1,e2]at q;exact q.elim
     |_=>rw[e1,e2]at q;exact q.elim
  |_=>exact q.elim
 |_=>cases wy<;>exact q.elim,fun x y st=>by
 unfold c7
 split
 ·trivial
 ·split<;>trivial
 ·exact HV _ _
 ·split
  ·exact HW _ _
  ·trivial
 ·trivial⟩
abbrev Pw:=BW fun i j=>decide (i<j)
abbrev wf:=BW fun i j=>decide (j<i)
abbrev Ju:=BW fun i j=>decide (j<=i)
theorem w_lt:oZ X (compareOp .Lt) Pw:=Dx OJ
theorem pc:oZ X (compareOp .Gt) wf:=Dx OL
theorem DB:oZ X (compareOp .GtE) Ju:=Dx OM
end
mutual
def cO:W->W->Option Bool
 |.non,.non=>some true
 |.bl a,.bl b=>some (a==b)
 |.bl a,.int b=>some ((if a then 1 else 0)==b)
 |.int a,.bl b=>some (a==(if b then 1 else 0))
 |.int a,.int b=>some (a==b)
 |.str a,.str b=>some (a==b)
 |.tup a,.tup b=>eqWs a b
 |.loc _,_=>none
 |.non,.loc _=>none
 |.bl _,.loc _=>none
 |.int _,.loc _=>none
 |.str _,.loc _=>none
 |.tup _,.loc _=>none
 |.non,.bl _=>some false
 |.non,.int _=>some false
 |.non,.str _=>some false
 |.non,.tup _=>some false
 |.bl _,.non=>some false
 |.bl _,.str _=>some false
 |.bl _,.tup _=>some false
 |.int _,.non=>some false
 |.int _,.str _=>some false
 |.int _,.tup _=>some false
 |.str _,.non=>some false
 |.str _,.bl _=>some false
 |.str _,.int _=>some false
 |.str _,.tup _=>some false
 |.tup _,.non=>some false
 |.tup _,.bl _=>some false
 |.tup _,.int _=>some false
 |.tup _,.str _=>some false
def eqWs:List W->List W->Option Bool
 |[],[]=>some true
 |[],_::_=>some false
 |_::_,[]=>some false
 |x::xs,y::ys=>match cO x y,eqWs xs ys with
  |some a,some b=>some (a&&b)
  |_,_=>none
end
mutual
def W.dep:W->Nat
 |.tup ws=>depWs ws+1
 |_=>0
def depWs:List W->Nat
 |[]=>0
 |w::ws=>max w.dep (depWs ws)
end
theorem lq:∀(xs ys:List W) (b:Bool),eqWs xs ys=some b->∃e:Nat->Bool,(∀j (h1:j<xs.length) (h2:j<ys.length),cO xs[j] ys[j]=some (e j))/\((List.range (min xs.length ys.length)).all e&&xs.length==ys.length)=b
 |[],[],b,h=>by unfold eqWs at h;cases h;exact⟨fun _=>true,fun j h1=>absurd h1 (cQ _),rfl⟩
 |[],y::ys,b,h=>by unfold eqWs at h;cases h;exact⟨fun _=>true,fun j h1=>absurd h1 (cQ _),by simp⟩
 |x::xs,[],b,h=>by unfold eqWs at h;cases h;exact⟨fun _=>true,fun j _ h1=>absurd h1 (cQ _),by simp⟩
 |x::xs,y::ys,b,h=>by
  unfold eqWs at h
  cases e1:cO x y with
  |none=>rw[e1]at h;simp at h
  |some a=>
   cases e2:eqWs xs ys with
   |none=>rw[e1,e2]at h;simp at h
   |some c=>
    rw[e1,e2]at h
    simp at h
    obtain⟨e,he,hb⟩:=lq xs ys c e2
    refine⟨fun j=>match j with|0=>a|j+1=>e j,fun j h1 h2=>?_,?_⟩
    ·cases j with
     |zero=>exact e1
     |succ j=>exact he j (iB h1) (iB h2)
    ·have m:min (x::xs).length (y::ys).length=min xs.length ys.length+1:=by simp only[ba];omega
     rw[m,lM,List.all_cons,List.all_map,<- h,<- hb]
     simp[iC,Bool.and_assoc]
theorem DC{X:Cx}{pins:List (Addr×Obj)}{σ:St}{H:Hp}{s:Shared}{μ:List Addr}(I:bE X pins σ H s):∀(n:Nat) (a b:W) (x:V) (k:Bool),a.dep<=n->bF X.K μ H a x->bF X.K μ H b x->cO a b=some k->k=true:=by
 intro n
 induction n with
 |zero=>
  intro a b x k hn ra rb he
  cases a with
  |tup i=>unfold W.dep at hn;omega
  |non=>cases ra.nonE;cases b<;>first|(unfold cO at he;cases he;rfl)|cases rb.blE|cases rb.intE|cases rb.strE|(obtain⟨_,_,z,_⟩:=rb.tupE;cases z)|(unfold cO at he;cases he)
  |bl i=>cases ra.blE;cases b<;>first|(cases rb.blE;unfold cO at he;simp at he;exact he)|cases rb.nonE|cases rb.intE|cases rb.strE|(obtain⟨_,_,z,_⟩:=rb.tupE;cases z)|(unfold cO at he;cases he)
  |int i=>cases ra.intE;cases b<;>first|(cases rb.intE;unfold cO at he;simp at he;exact he)|cases rb.nonE|cases rb.blE|cases rb.strE|(obtain⟨_,_,z,_⟩:=rb.tupE;cases z)|(unfold cO at he;cases he)
  |str i=>cases ra.strE;cases b<;>first|(have z:=rb.strE;injection z with z;rw[yX.mp z]at he;unfold cO at he;simp at he;exact he)|cases rb.nonE|cases rb.blE|cases rb.intE|(obtain⟨_,_,z,_⟩:=rb.tupE;cases z)|(unfold cO at he;cases he)
  |loc i=>cases b<;>(unfold cO at he;cases he)
 |succ n ih=>
  intro a b x k hn ra rb he
  cases a with
  |non=>cases ra.nonE;cases b<;>first|(unfold cO at he;cases he;rfl)|cases rb.blE|cases rb.intE|cases rb.strE|(obtain⟨_,_,z,_⟩:=rb.tupE;cases z)|(unfold cO at he;cases he)
  |bl i=>cases ra.blE;cases b<;>first|(cases rb.blE;unfold cO at he;simp at he;exact he)|cases rb.nonE|cases rb.intE|cases rb.strE|(obtain⟨_,_,z,_⟩:=rb.tupE;cases z)|(unfold cO at he;cases he)
  |int i=>cases ra.intE;cases b<;>first|(cases rb.intE;unfold cO at he;simp at he;exact he)|cases rb.nonE|cases rb.blE|cases rb.strE|(obtain⟨_,_,z,_⟩:=rb.tupE;cases z)|(unfold cO at he;cases he)
  |str i=>cases ra.strE;cases b<;>first|(have z:=rb.strE;injection z with z;rw[yX.mp z]at he;unfold cO at he;simp at he;exact he)|cases rb.nonE|cases rb.blE|cases rb.intE|(obtain⟨_,_,z,_⟩:=rb.tupE;cases z)|(unfold cO at he;cases he)
  |loc i=>cases b<;>(unfold cO at he;cases he)
  |tup i=>
   obtain⟨p',wj,rfl,hS',r'⟩:=ra.tupE
   cases b with
   |tup z=>
    obtain⟨p,vs,e,hS,r⟩:=rb.tupE
    cases e
    obtain rfl:=I.tuple_inj hS hS'
    have he':eqWs i z=some k:=by unfold cO at he;exact he
    have dn:depWs i<=n:=by unfold W.dep at hn;omega
    have key:∀(i z:List W) (vs:List V) (k:Bool),depWs i<=n->RelWs X.K μ H i vs->RelWs X.K μ H z vs->eqWs i z=some k->k=true:=by
     intro i
     induction i with
     |nil=>
      intro z vs k _ r' r he
      have e1:=r'.nilE
      subst e1
      cases z with
      |nil=>unfold eqWs at he;cases he;rfl
      |cons _ _=>have e2:=r.len;simp at e2
     |cons w i ih2=>
      intro z vs k dn r' r he
      obtain⟨x,xs,rfl,rx,rxs⟩:=r'.consE
      cases z with
      |nil=>have e2:=r.len;simp at e2
      |cons y z=>
       obtain⟨x2,xs2,e3,ry,rys⟩:=r.consE
       cases e3
       unfold eqWs at he
       cases e1:cO w y with
       |none=>rw[e1]at he;simp at he
       |some k1=>
        cases e2:eqWs i z with
        |none=>rw[e1,e2]at he;simp at he
        |some k2=>
         rw[e1,e2]at he
         simp at he
         unfold depWs at dn
         have q1:=ih w y x k1 (by omega) rx ry e1
         have q2:=ih2 z xs k2 (by omega) rxs rys e2
         rw[<- he,q1,q2];rfl
    exact key i z _ k dn r' r he'
   |non=>cases rb.nonE
   |bl z=>cases rb.blE
   |int z=>cases rb.intE
   |str z=>cases rb.strE
   |loc z=>unfold cO at he;cases he
theorem kN:∀{ws:List W} {j:Nat} (h:j<ws.length),ws[j].dep<=depWs ws
 |w::ws,0,_=>by unfold depWs;exact Nat.le_max_left _ _
 |w::ws,j+1,h=>by unfold depWs;exact bn (kN (j:=j) (iB h)) (Nat.le_max_right _ _)
theorem tN{X:Cx}{pins:List (Addr×Obj)}{σ:St}{H:Hp}{s:Shared}{μ:List Addr}(I:bE X pins σ H s)(n:Nat)
  (ih:∀m,m+1=n->∀(a b:W) (A:Around) (x y:V) (u v:Value) (k:Bool),a.dep<=m->bF X.K μ H a x->bF X.K μ H b y->cr x u->cr y v->A.units+m<cLine->cO a b=some k->SeqAt.EqAt A s u v k) :
  ∀(a b:W) (A:Around) (x y:V) (u v:Value) (k:Bool),a.dep<=n->bF X.K μ H a x->bF X.K μ H b y->cr x u->cr y v->A.units+n<cLine->cO a b=some k->SeqAt.EqAt A s u v k:=by
 intro a b A x y u v k hn ra rb ru rv hu he
 have hu0:A.units<cLine:=by omega
 cases a with
 |non=>
  cases ra.nonE;cases ru
  cases b with
  |non=>cases rb.nonE;cases rv;unfold cO at he;cases he;exact SeqAt.EqAt.same _
  |bl z=>cases rb.blE;cases rv;unfold cO at he;cases he;exact SeqAt.EqAt.none_bool z
  |int z=>cases rb.intE;obtain⟨t,rfl⟩:=rv;unfold cO at he;cases he;exact SeqAt.EqAt.none_int z t
  |str z=>cases rb.strE;obtain⟨t,rfl⟩:=rv;unfold cO at he;cases he;exact SeqAt.EqAt.none_str _ t
  |tup z=>obtain⟨p,vs,rfl,hS,_⟩:=rb.tupE;cases rv;obtain⟨bC,_,ht,_⟩:=I.tuple hS;unfold cO at he;cases he;exact SeqAt.EqAt.none_tuple ht hu0
  |loc z=>unfold cO at he;cases he
 |bl i=>
  cases ra.blE;cases ru
  cases b with
  |non=>cases rb.nonE;cases rv;unfold cO at he;cases he;exact SeqAt.EqAt.bool_none i
  |bl z=>cases rb.blE;cases rv;unfold cO at he;cases he;exact SeqAt.EqAt.bool_bool i z
  |int z=>cases rb.intE;obtain⟨t,rfl⟩:=rv;unfold cO at he;cases he;exact SeqAt.EqAt.bool_int i z t
  |str z=>cases rb.strE;obtain⟨t,rfl⟩:=rv;unfold cO at he;cases he;exact SeqAt.EqAt.bool_str i _ t
  |tup z=>obtain⟨p,vs,rfl,hS,_⟩:=rb.tupE;cases rv;obtain⟨bC,_,ht,_⟩:=I.tuple hS;unfold cO at he;cases he;exact SeqAt.EqAt.bool_tuple i ht hu0
  |loc z=>unfold cO at he;cases he
 |int i=>
  cases ra.intE;obtain⟨t',rfl⟩:=ru
  cases b with
  |non=>cases rb.nonE;cases rv;unfold cO at he;cases he;exact SeqAt.EqAt.int_none i t'
  |bl z=>cases rb.blE;cases rv;unfold cO at he;cases he;exact SeqAt.EqAt.int_bool i t' z
  |int z=>cases rb.intE;obtain⟨t,rfl⟩:=rv;unfold cO at he;cases he;exact SeqAt.EqAt.int_int i t' z t
  |str z=>cases rb.strE;obtain⟨t,rfl⟩:=rv;unfold cO at he;cases he;exact SeqAt.EqAt.int_str i t' _ t
  |tup z=>obtain⟨p,vs,rfl,hS,_⟩:=rb.tupE;cases rv;obtain⟨bC,_,ht,_⟩:=I.tuple hS;unfold cO at he;cases he;exact SeqAt.EqAt.int_tuple i t' ht hu0
  |loc z=>unfold cO at he;cases he
 |str i=>
  cases ra.strE;obtain⟨t',rfl⟩:=ru
  cases b with
  |non=>cases rb.nonE;cases rv;unfold cO at he;cases he;exact SeqAt.EqAt.str_none _ t'
  |bl z=>cases rb.blE;cases rv;unfold cO at he;cases he;exact SeqAt.EqAt.str_bool _ t' z
  |int z=>cases rb.intE;obtain⟨t,rfl⟩:=rv;unfold cO at he;cases he;exact SeqAt.EqAt.str_int _ t' z t
  |str z=>
   cases rb.strE;obtain⟨t,rfl⟩:=rv;unfold cO at he;cases he
   have:=SeqAt.EqAt.str_str (A:=A) (s:=s) (tx i) t' (tx z) t
   rw[<- nJ]at this
   exact this
  |tup z=>obtain⟨p,vs,rfl,hS,_⟩:=rb.tupE;cases rv;obtain⟨bC,_,ht,_⟩:=I.tuple hS;unfold cO at he;cases he;exact SeqAt.EqAt.str_tuple _ t' ht hu0
  |loc z=>unfold cO at he;cases he
 |tup i=>
  obtain⟨p',wj,rfl,hS',r'⟩:=ra.tupE;cases ru;obtain⟨its',w',ht',_⟩:=I.tuple hS'
  cases b with
  |non=>cases rb.nonE;cases rv;unfold cO at he;cases he;exact SeqAt.EqAt.tuple_none ht' hu0
  |bl z=>cases rb.blE;cases rv;unfold cO at he;cases he;exact SeqAt.EqAt.tuple_bool z ht' hu0
  |int z=>cases rb.intE;obtain⟨t,rfl⟩:=rv;unfold cO at he;cases he;exact SeqAt.EqAt.tuple_int z t ht' hu0
  |str z=>cases rb.strE;obtain⟨t,rfl⟩:=rv;unfold cO at he;cases he;exact SeqAt.EqAt.tuple_str _ t ht' hu0
  |tup z=>
   obtain⟨p,vs,rfl,hS,r⟩:=rb.tupE;cases rv;obtain⟨bC,w,ht,_⟩:=I.tuple hS
   have he':eqWs i z=some k:=by unfold cO at he;exact he
   by_cases hpp:p'=p
   ·subst hpp
    rw[DC I n (.tup i) (.tup z) (.ref p') k hn ra rb he]
    exact SeqAt.EqAt.same _
   ·obtain⟨e,h1,h2⟩:=lq i z k he'
    have l1:its'.length=i.length:=by rw[<- w'.length,<- r'.len]
    have l2:bC.length=z.length:=by rw[<- w.length,<- r.len]
    have hd:depWs i+1<=n:=by unfold W.dep at hn;exact hn
    obtain⟨m,rfl⟩:∃m,n=m+1:=⟨n-1,by omega⟩
    have R:=SeqAt.RcAt.tuples (A:=A) (e:=e) ht' ht hu0 (fun j j1 j2=>by
     have j1':j<i.length:=by rw[<- l1];simpa using j1
     have j2':j<z.length:=by rw[<- l2];simpa using j2
     obtain⟨x1,g1,q1⟩:=r'.get (ac j1')
     obtain⟨x2,g2,q2⟩:=r.get (ac j2')
     obtain⟨u1,f1,v1⟩:=w'.get g1
     obtain⟨u2,f2,v2⟩:=w.get g2
     have E:=ih m rfl i[j] z[j] A.in1 x1 x2 u1 u2 (e j) (bn (kN j1') (by omega)) q1 q2 v1 v2 (by show A.units+1+m<cLine;omega) (h1 j j1' j2')
     have t1:its'.toArray[j]=u1:=by
      have:=(aa.mp f1).2
      simpa using this
     have t2:bC.toArray[j]=u2:=by
      have:=(aa.mp f2).2
      simpa using this
     rw[t1,t2];exact E)
    have sz1:its'.toArray.size=i.length:=by simp[l1]
    have sz2:bC.toArray.size=z.length:=by simp[l2]
    rw[sz1,sz2,h2]at R
    exact SeqAt.EqAt.of_refs hpp R
  |loc z=>unfold cO at he;cases he
 |loc i=>cases b<;>(unfold cO at he;cases he)
theorem uP{X:Cx}{pins:List (Addr×Obj)}{σ:St}{H:Hp}{s:Shared}{μ:List Addr}(I:bE X pins σ H s):∀(n:Nat) (a b:W) (A:Around) (x y:V) (u v:Value) (k:Bool),a.dep<=n->bF X.K μ H a x->bF X.K μ H b y->cr x u->cr y v->A.units+n<cLine->cO a b=some k->SeqAt.EqAt A s u v k:=by
 intro n
 induction n with
 |zero=>exact tN I 0 fun m h=>absurd h (by omega)
 |succ n ih=>exact tN I (n+1) fun m h=>(show m=n by omega)▸ih
theorem LR{X:Cx}{pins:List (Addr×Obj)}{σ:St}{H:Hp}{s:Shared}{μ:List Addr}(I:bE X pins σ H s)(n:Nat) :
  ∀(a b:W) (A:Around) (x y:V) (u v:Value) (k:Bool),(b.dep=0\/a.dep<=n)->bF X.K μ H a x->bF X.K μ H b y->cr x u->cr y v->A.units+n<cLine->cO a b=some k->SeqAt.RcAt A s u v k:=by
 intro a b A x y u v k hn ra rb ru rv hu he
 have hu0:A.units<cLine:=by omega
 cases a with
 |non=>
  cases ra.nonE;cases ru
  cases b with
  |non=>cases rb.nonE;cases rv;unfold cO at he;cases he;exact SeqAt.RcAt.none_none
  |bl z=>cases rb.blE;cases rv;unfold cO at he;cases he;exact SeqAt.RcAt.none_bool z
  |int z=>cases rb.intE;obtain⟨t,rfl⟩:=rv;unfold cO at he;cases he;exact SeqAt.RcAt.none_int z t
  |str z=>cases rb.strE;obtain⟨t,rfl⟩:=rv;unfold cO at he;cases he;exact SeqAt.RcAt.none_str _ t
  |tup z=>obtain⟨p,vs,rfl,hS,_⟩:=rb.tupE;cases rv;obtain⟨bC,_,ht,_⟩:=I.tuple hS;unfold cO at he;cases he;exact SeqAt.RcAt.none_tuple ht hu0
  |loc z=>unfold cO at he;cases he
 |bl i=>
  cases ra.blE;cases ru
  cases b with
  |non=>cases rb.nonE;cases rv;unfold cO at he;cases he;exact SeqAt.RcAt.bool_none i
  |bl z=>cases rb.blE;cases rv;unfold cO at he;cases he;exact SeqAt.RcAt.bool_bool i z
  |int z=>cases rb.intE;obtain⟨t,rfl⟩:=rv;unfold cO at he;cases he;exact SeqAt.RcAt.bool_int i z t
  |str z=>cases rb.strE;obtain⟨t,rfl⟩:=rv;unfold cO at he;cases he;exact SeqAt.RcAt.bool_str i _ t
  |tup z=>obtain⟨p,vs,rfl,hS,_⟩:=rb.tupE;cases rv;obtain⟨bC,_,ht,_⟩:=I.tuple hS;unfold cO at he;cases he;exact SeqAt.RcAt.bool_tuple i ht hu0
  |loc z=>unfold cO at he;cases he
 |int i=>
  cases ra.intE;obtain⟨t',rfl⟩:=ru
  cases b with
  |non=>cases rb.nonE;cases rv;unfold cO at he;cases he;exact SeqAt.RcAt.int_none i t'
  |bl z=>cases rb.blE;cases rv;unfold cO at he;cases he;exact SeqAt.RcAt.int_bool i t' z
  |int z=>cases rb.intE;obtain⟨t,rfl⟩:=rv;unfold cO at he;cases he;exact SeqAt.RcAt.int_int i t' z t
  |str z=>cases rb.strE;obtain⟨t,rfl⟩:=rv;unfold cO at he;cases he;exact SeqAt.RcAt.int_str i t' _ t
  |tup z=>obtain⟨p,vs,rfl,hS,_⟩:=rb.tupE;cases rv;obtain⟨bC,_,ht,_⟩:=I.tuple hS;unfold cO at he;cases he;exact SeqAt.RcAt.int_tuple i t' ht hu0
  |loc z=>unfold cO at he;cases he
 |str i=>
  cases ra.strE;obtain⟨t',rfl⟩:=ru
  cases b with
  |non=>cases rb.nonE;cases rv;unfold cO at he;cases he;exact SeqAt.RcAt.str_none _ t'
  |bl z=>cases rb.blE;cases rv;unfold cO at he;cases he;exact SeqAt.RcAt.str_bool _ t' z
  |int z=>cases rb.intE;obtain⟨t,rfl⟩:=rv;unfold cO at he;cases he;exact SeqAt.RcAt.str_int _ t' z t
  |str z=>
   cases rb.strE;obtain⟨t,rfl⟩:=rv;unfold cO at he;cases he
   have:=SeqAt.RcAt.str_str (A:=A) (s:=s) (tx i) t' (tx z) t
   rw[<- nJ]at this
   exact this
  |tup z=>obtain⟨p,vs,rfl,hS,_⟩:=rb.tupE;cases rv;obtain⟨bC,_,ht,_⟩:=I.tuple hS;unfold cO at he;cases he;exact SeqAt.RcAt.str_tuple _ t' ht hu0
  |loc z=>unfold cO at he;cases he
 |tup i=>
  obtain⟨p',wj,rfl,hS',r'⟩:=ra.tupE;cases ru;obtain⟨its',w',ht',_⟩:=I.tuple hS'
  cases b with
  |non=>cases rb.nonE;cases rv;unfold cO at he;cases he;exact SeqAt.RcAt.tuple_none ht' hu0
  |bl z=>cases rb.blE;cases rv;unfold cO at he;cases he;exact SeqAt.RcAt.tuple_bool z ht' hu0
  |int z=>cases rb.intE;obtain⟨t,rfl⟩:=rv;unfold cO at he;cases he;exact SeqAt.RcAt.tuple_int z t ht' hu0
  |str z=>cases rb.strE;obtain⟨t,rfl⟩:=rv;unfold cO at he;cases he;exact SeqAt.RcAt.tuple_str _ t ht' hu0
  |tup z=>
   obtain⟨p,vs,rfl,hS,r⟩:=rb.tupE;cases rv;obtain⟨bC,w,ht,_⟩:=I.tuple hS
   have he':eqWs i z=some k:=by unfold cO at he;exact he
   obtain⟨e,h1,h2⟩:=lq i z k he'
   have l1:its'.length=i.length:=by rw[<- w'.length,<- r'.len]
   have l2:bC.length=z.length:=by rw[<- w.length,<- r.len]
   have hd:depWs i+1<=n:=by
    rcases hn with hn|hn
    ·unfold W.dep at hn;omega
    ·unfold W.dep at hn;exact hn
   obtain⟨m,rfl⟩:∃m,n=m+1:=⟨n-1,by omega⟩
   have R:=SeqAt.RcAt.tuples (A:=A) (e:=e) ht' ht hu0 (fun j j1 j2=>by
    have j1':j<i.length:=by rw[<- l1];simpa using j1
    have j2':j<z.length:=by rw[<- l2];simpa using j2
    obtain⟨x1,g1,q1⟩:=r'.get (ac j1')
    obtain⟨x2,g2,q2⟩:=r.get (ac j2')
    obtain⟨u1,f1,v1⟩:=w'.get g1
    obtain⟨u2,f2,v2⟩:=w.get g2
    have E:=uP I m i[j] z[j] A.in1 x1 x2 u1 u2 (e j) (bn (kN j1') (by omega)) q1 q2 v1 v2 (by show A.units+1+m<cLine;omega) (h1 j j1' j2')
    have t1:its'.toArray[j]=u1:=by
     have:=(aa.mp f1).2
     simpa using this
    have t2:bC.toArray[j]=u2:=by
     have:=(aa.mp f2).2
     simpa using this
    rw[t1,t2];exact E)
   have sz1:its'.toArray.size=i.length:=by simp[l1]
   have sz2:bC.toArray.size=z.length:=by simp[l2]
   rw[sz1,sz2,h2]at R
   exact R
  |loc z=>unfold cO at he;cases he
 |loc i=>cases b<;>(unfold cO at he;cases he)
def jC:W->W->List am->R W:=fun x y st=>match cO x y with
 |some k=>if y.dep=0\/x.dep<=64 then .ok (.bl k) st else .bad
 |none=>.bad
theorem ig{X:Cx}{k:Nat}(hr:h_ k X.A):oZ X (compareOp .Eq) jC:=⟨fun pins s σ H x y v u Q I rv ru ⟨μ,st,wx,wy,S,rx,ry,q⟩=>by
 unfold jC at q
 cases e:cO wx wy with
 |none=>rw[e]at q;exact q.elim
 |some b=>
  rw[e]at q
  simp only at q
  by_cases c:wy.dep=0\/wx.dep<=64
  ·rw[aD c]at q
   have:=hr.units
   exact LR I 64 wx wy X.A x y v u b c rx ry rv ru this e X.prog X.w X.xe _ ⟨.bl b,H,I,rfl,ie S q⟩
  ·rw[aQ c]at q;exact q.elim,fun x y st=>by
 unfold jC
 split
 ·split<;>trivial
 ·trivial⟩
theorem DD{X:Cx}{pins:List (Addr×Obj)}{σ:St}{H:Hp}{s:Shared}{μ:List Addr}(I:bE X pins σ H s)(n:Nat) :
  ∀(a b:W) (A:Around) (x y:V) (u v:Value) (k:Bool),(b.dep=0\/a.dep<=n)->bF X.K μ H a x->bF X.K μ H b y->cr x u->cr y v->A.units+n<cLine->cO a b=some k->SeqAt.RcNeAt A s u v (!k):=by
 intro a b A x y u v k hn ra rb ru rv hu he
 have hu0:A.units<cLine:=by omega
 cases a with
 |non=>
  cases ra.nonE;cases ru
  cases b with
  |non=>cases rb.nonE;cases rv;unfold cO at he;cases he;exact SeqAt.RcNeAt.none_none
  |bl z=>cases rb.blE;cases rv;unfold cO at he;cases he;exact SeqAt.RcNeAt.none_bool z
  |int z=>cases rb.intE;obtain⟨t,rfl⟩:=rv;unfold cO at he;cases he;exact SeqAt.RcNeAt.none_int z t
  |str z=>cases rb.strE;obtain⟨t,rfl⟩:=rv;unfold cO at he;cases he;exact SeqAt.RcNeAt.none_str _ t
  |tup z=>obtain⟨p,vs,rfl,hS,_⟩:=rb.tupE;cases rv;obtain⟨bC,_,ht,_⟩:=I.tuple hS;unfold cO at he;cases he;exact SeqAt.RcNeAt.none_tuple ht hu0
  |loc z=>unfold cO at he;cases he
 |bl i=>
  cases ra.blE;cases ru
  cases b with
  |non=>cases rb.nonE;cases rv;unfold cO at he;cases he;exact SeqAt.RcNeAt.bool_none i
  |bl z=>cases rb.blE;cases rv;unfold cO at he;cases he;exact SeqAt.RcNeAt.bool_bool i z
  |int z=>cases rb.intE;obtain⟨t,rfl⟩:=rv;unfold cO at he;cases he;exact SeqAt.RcNeAt.bool_int i z t
  |str z=>cases rb.strE;obtain⟨t,rfl⟩:=rv;unfold cO at he;cases he;exact SeqAt.RcNeAt.bool_str i _ t
  |tup z=>obtain⟨p,vs,rfl,hS,_⟩:=rb.tupE;cases rv;obtain⟨bC,_,ht,_⟩:=I.tuple hS;unfold cO at he;cases he;exact SeqAt.RcNeAt.bool_tuple i ht hu0
  |loc z=>unfold cO at he;cases he
 |int i=>
  cases ra.intE;obtain⟨t',rfl⟩:=ru
  cases b with
  |non=>cases rb.nonE;cases rv;unfold cO at he;cases he;exact SeqAt.RcNeAt.int_none i t'
  |bl z=>cases rb.blE;cases rv;unfold cO at he;cases he;exact SeqAt.RcNeAt.int_bool i t' z
  |int z=>cases rb.intE;obtain⟨t,rfl⟩:=rv;unfold cO at he;cases he;exact SeqAt.RcNeAt.int_int i t' z t
  |str z=>cases rb.strE;obtain⟨t,rfl⟩:=rv;unfold cO at he;cases he;exact SeqAt.RcNeAt.int_str i t' _ t
  |tup z=>obtain⟨p,vs,rfl,hS,_⟩:=rb.tupE;cases rv;obtain⟨bC,_,ht,_⟩:=I.tuple hS;unfold cO at he;cases he;exact SeqAt.RcNeAt.int_tuple i t' ht hu0
  |loc z=>unfold cO at he;cases he
 |str i=>
  cases ra.strE;obtain⟨t',rfl⟩:=ru
  cases b with
  |non=>cases rb.nonE;cases rv;unfold cO at he;cases he;exact SeqAt.RcNeAt.str_none _ t'
  |bl z=>cases rb.blE;cases rv;unfold cO at he;cases he;exact SeqAt.RcNeAt.str_bool _ t' z
  |int z=>cases rb.intE;obtain⟨t,rfl⟩:=rv;unfold cO at he;cases he;exact SeqAt.RcNeAt.str_int _ t' z t
  |str z=>
   cases rb.strE;obtain⟨t,rfl⟩:=rv;unfold cO at he;cases he
   have:=SeqAt.RcNeAt.str_str (A:=A) (s:=s) (tx i) t' (tx z) t
   rw[<- nJ]at this
   exact this
  |tup z=>obtain⟨p,vs,rfl,hS,_⟩:=rb.tupE;cases rv;obtain⟨bC,_,ht,_⟩:=I.tuple hS;unfold cO at he;cases he;exact SeqAt.RcNeAt.str_tuple _ t' ht hu0
  |loc z=>unfold cO at he;cases he
 |tup i=>
  obtain⟨p',wj,rfl,hS',r'⟩:=ra.tupE;cases ru;obtain⟨its',w',ht',_⟩:=I.tuple hS'
  cases b with
  |non=>cases rb.nonE;cases rv;unfold cO at he;cases he;exact SeqAt.RcNeAt.tuple_none ht' hu0
  |bl z=>cases rb.blE;cases rv;unfold cO at he;cases he;exact SeqAt.RcNeAt.tuple_bool z ht' hu0
  |int z=>cases rb.intE;obtain⟨t,rfl⟩:=rv;unfold cO at he;cases he;exact SeqAt.RcNeAt.tuple_int z t ht' hu0
  |str z=>cases rb.strE;obtain⟨t,rfl⟩:=rv;unfold cO at he;cases he;exact SeqAt.RcNeAt.tuple_str _ t ht' hu0
  |tup z=>
   obtain⟨p,vs,rfl,hS,r⟩:=rb.tupE;cases rv;obtain⟨bC,w,ht,_⟩:=I.tuple hS
   have he':eqWs i z=some k:=by unfold cO at he;exact he
   obtain⟨e,h1,h2⟩:=lq i z k he'
   have l1:its'.length=i.length:=by rw[<- w'.length,<- r'.len]
   have l2:bC.length=z.length:=by rw[<- w.length,<- r.len]
   have hd:depWs i+1<=n:=by
    rcases hn with hn|hn
    ·unfold W.dep at hn;omega
    ·unfold W.dep at hn;exact hn
   obtain⟨m,rfl⟩:∃m,n=m+1:=⟨n-1,by omega⟩
   have R:=SeqAt.RcNeAt.tuples (A:=A) (e:=e) ht' ht hu0 (fun j j1 j2=>by
    have j1':j<i.length:=by rw[<- l1];simpa using j1
    have j2':j<z.length:=by rw[<- l2];simpa using j2
    obtain⟨x1,g1,q1⟩:=r'.get (ac j1')
    obtain⟨x2,g2,q2⟩:=r.get (ac j2')
    obtain⟨u1,f1,v1⟩:=w'.get g1
    obtain⟨u2,f2,v2⟩:=w.get g2
    have E:=uP I m i[j] z[j] A.in1 x1 x2 u1 u2 (e j) (bn (kN j1') (by omega)) q1 q2 v1 v2 (by show A.units+1+m<cLine;omega) (h1 j j1' j2')
    have t1:its'.toArray[j]=u1:=by
     have:=(aa.mp f1).2
     simpa using this
    have t2:bC.toArray[j]=u2:=by
     have:=(aa.mp f2).2
     simpa using this
    rw[t1,t2];exact E)
   have sz1:its'.toArray.size=i.length:=by simp[l1]
   have sz2:bC.toArray.size=z.length:=by simp[l2]
   rw[sz1,sz2,h2]at R
   exact R
  |loc z=>unfold cO at he;cases he
 |loc i=>cases b<;>(unfold cO at he;cases he)
def CN:W->W->List am->R W:=fun x y st=>match cO x y with
 |some k=>if y.dep=0\/x.dep<=64 then .ok (.bl (!k)) st else .bad
 |none=>.bad
theorem DE{X:Cx}{k:Nat}(hr:h_ k X.A):oZ X (compareOp .NotEq) CN:=⟨fun pins s σ H x y v u Q I rv ru ⟨μ,st,wx,wy,S,rx,ry,q⟩=>by
 unfold CN at q
 cases e:cO wx wy with
 |none=>rw[e]at q;exact q.elim
 |some b=>
  rw[e]at q
  simp only at q
  by_cases c:wy.dep=0\/wx.dep<=64
  ·rw[aD c]at q
   have:=hr.units
   exact DD I 64 wx wy X.A x y v u b c rx ry rv ru this e X.prog X.w X.xe _ ⟨.bl (!b),H,I,rfl,ie S q⟩
  ·rw[aQ c]at q;exact q.elim,fun x y st=>by
 unfold CN
 split
 ·split<;>trivial
 ·trivial⟩
def qg(x:W):List W->Option Bool
 |[]=>some false
 |y::ys=>match cO y x,qg x ys with
  |some a,some b=>some (a||b)
  |_,_=>none
def qt(GP:Bool)(x y:W)(st:List am):R W:=match y with
 |.str l=>(match x with
  |.str [c]=>.ok (.bl (if GP then !decide (c∈l)else decide (c∈l))) st
  |_=>.bad)
 |.tup ys=>(match qg x ys with
  |some k=>if depWs ys<=63 then .ok (.bl (if GP then !k else k)) st else .bad
  |none=>.bad)
 |.loc n=>(match st[n]? with
  |some (.lst ys)=>(match qg x ys with
   |some k=>if depWs ys<=63 then .ok (.bl (if GP then !k else k)) st else .bad
   |none=>.bad)
  |_=>.bad)
 |_=>.bad
theorem wV{x:W}:∀{ys:List W} {k:Bool},qg x ys=some k->(∀(j:Nat) w,ys[j]?=some w->∃b,cO w x=some b)/\(k=true↔∃(j:Nat) (w:W),ys[j]?=some w/\cO w x=some true)
 |[],k,h=>by
  unfold qg at h;cases h
  exact⟨fun j w e=>by simp at e,fun z=>(by cases z),fun⟨j,w,e,_⟩=>(by simp at e)⟩
 |y::ys,k,h=>by
  unfold qg at h
  cases e1:cO y x with
  |none=>rw[e1]at h;simp at h
  |some a=>
   cases e2:qg x ys with
   |none=>rw[e1,e2]at h;simp at h
   |some b=>
    rw[e1,e2]at h
    simp at h
    obtain⟨q1,q2⟩:=wV e2
    refine⟨fun j w e=>?_,fun z=>?_,fun⟨j,w,e,f⟩=>?_⟩
    ·cases j with
     |zero=>simp at e;subst e;exact⟨a,e1⟩
     |succ j=>exact q1 j w (by simpa using e)
    ·rw[<- h]at z
     cases a with
     |true=>exact⟨0,y,rfl,e1⟩
     |false=>
      obtain⟨j,w,p,q⟩:=q2.mp (by simpa using z)
      exact⟨j+1,w,by simpa using p,q⟩
    ·rw[<- h]
     cases j with
     |zero=>simp at e;subst e;rw[e1]at f;cases f;rfl
     |succ j=>rw[q2.mpr ⟨j,w,by simpa using e,f⟩];simp
theorem lu{X:Cx}{pins:List (Addr×Obj)}{σ:St}{H:Hp}{s:Shared}{μ:List Addr}(I:bE X pins σ H s){wx:W}{x:V}{v:Value}(rx:bF X.K μ H wx x)(rv:cr x v)(n:Nat){A:Around}(hu:A.units+n<cLine)
  {ys:List W} {vs:List V} {us:List Value} {k:Bool} (hd:depWs ys<=n) (rs:RelWs X.K μ H ys vs) (kn:cJ vs us) (ha:qg wx ys=some k):∃e:Value->Bool,(∀u,u∈us.toArray->SeqAt.EqAt A s u v (e u))/\us.toArray.any e=k:=by
 classical
 obtain⟨q1,q2⟩:=wV ha
 have at':∀(j:Nat) (u:Value),us[j]?=some u->∃w b,ys[j]?=some w/\cO w wx=some b/\SeqAt.EqAt A s u v b:=fun j u e=>by
  have hj:j<ys.length:=by
   have h1:=(aa.mp e).1
   rw[rs.len,kn.length];exact h1
  obtain⟨b,hb⟩:=q1 j ys[j] (ac hj)
  obtain⟨y,g1,r1⟩:=rs.get (ac hj)
  obtain⟨u',f1,v1⟩:=kn.get g1
  rw[e]at f1;cases f1
  exact⟨_,b,ac hj,hb,uP I n ys[j] wx A y x u v b (bn (kN hj) hd) r1 rx v1 rv hu hb⟩
 refine⟨fun u=>decide (∃(j:Nat) (w:W),us[j]?=some u/\ys[j]?=some w/\cO w wx=some true),fun u hu=>?_,?_⟩
 ·by_cases c:∃(j:Nat) (w:W),us[j]?=some u/\ys[j]?=some w/\cO w wx=some true
  ·show SeqAt.EqAt A s u v (decide _)
   rw[a8 c]
   obtain⟨j,w,e1,e2,e3⟩:=c
   obtain⟨w',b,f1,f2,f3⟩:=at' j u e1
   rw[e2]at f1;cases f1
   rw[e3]at f2;cases f2
   exact f3
  ·show SeqAt.EqAt A s u v (decide _)
   rw[aR c]
   obtain⟨j,hj,e⟩:=List.mem_iff_getElem.mp (show u∈us by simpa using hu)
   have e':us[j]?=some u:=by rw[ac hj,e]
   obtain⟨w',b,f1,f2,f3⟩:=at' j u e'
   cases b with
   |false=>exact f3
   |true=>exact absurd ⟨j,w',e',f1,f2⟩ c
 ·rw[List.any_toArray]
  cases k with
  |true=>
   obtain⟨j,w,e1,e2⟩:=q2.mp rfl
   have hj:j<us.length:=by rw[<- kn.length,<- rs.len];exact(aa.mp e1).1
   exact kZ.mpr ⟨us[j],gF hj,a8 ⟨j,w,ac hj,e1,e2⟩⟩
  |false=>
   refine List.any_eq_false.mpr fun u _ c=>?_
   obtain⟨j,w,_,e1,e2⟩:=iD c
   have:=q2.mpr ⟨j,w,e1,e2⟩
   cases this
theorem BX{X:Cx}{k:Nat}(hr:h_ k X.A):oZ X (compareOp .In) (qt false):=⟨fun pins s σ H x y v u Q I rv ru ⟨μ,st,wx,wy,S,rx,ry,q⟩=>by
 have hu:=hr.units
 cases wy with
 |str l=>
  simp only[qt]at q
  split at q
  ·exact BP pins s σ H x y v u Q I rv ru ⟨_,_,rx.strE,ry.strE,ie S q⟩
  ·exact q.elim
 |tup ys=>
  simp only[qt]at q
  cases hk:qg wx ys with
  |none=>rw[hk]at q;exact q.elim
  |some kk=>
   rw[hk]at q
   simp only at q
   by_cases c:depWs ys<=63
   ·rw[aD c]at q
    obtain⟨p,vs,rfl,hS,r⟩:=ry.tupE
    cases ru
    obtain⟨bC,w,ht,_⟩:=I.tuple hS
    obtain⟨e,he,ha⟩:=lu (A:=X.A.in1) I rx rv 63 (by show X.A.units+1+63<cLine;omega) c r w hk
    exact SeqAt.in_tupleAt e ht he ⟨.bl _,H,I,rfl,by rw[ha];exact ie S q⟩
   ·rw[aQ c]at q;exact q.elim
 |loc n=>
  simp only[qt]at q
  cases e1:st[n]? with
  |none=>rw[e1]at q;exact q.elim
  |some cc=>
   rw[e1]at q
   cases cc with
   |lst ys=>
    simp only at q
    cases hk:qg wx ys with
    |none=>rw[hk]at q;exact q.elim
    |some kk=>
     rw[hk]at q
     simp only at q
     by_cases c:depWs ys<=63
     ·rw[aD c]at q
      obtain⟨a1,g1,vs,k1,r⟩:=S.get e1
      obtain⟨b1,f1,rfl⟩:=ry.locE
      rw[g1]at f1;cases f1
      cases ru
      obtain⟨bC,w,ht,_⟩:=I.list (pL.of k1)
      obtain⟨e,he,ha⟩:=lu (A:=X.A.in1) I rx rv 63 (by show X.A.units+1+63<cLine;omega) c r w hk
      exact SeqAt.in_listAt e ht.isList he ⟨.bl _,H,I,rfl,by rw[ha];exact ie S q⟩
     ·rw[aQ c]at q;exact q.elim
   |_=>exact q.elim
 |_=>exact q.elim,fun x y st=>by
 unfold qt
 repeat' split
 all_goals trivial⟩
theorem Jv{X:Cx}{k:Nat}(hr:h_ k X.A):oZ X (compareOp .NotIn) (qt true):=⟨fun pins s σ H x y v u Q I rv ru ⟨μ,st,wx,wy,S,rx,ry,q⟩=>by
 have hu:=hr.units
 cases wy with
 |str l=>
  simp only[qt]at q
  split at q
  ·exact uM pins s σ H x y v u Q I rv ru ⟨_,_,rx.strE,ry.strE,ie S q⟩
  ·exact q.elim
 |tup ys=>
  simp only[qt]at q
  cases hk:qg wx ys with
  |none=>rw[hk]at q;exact q.elim
  |some kk=>
   rw[hk]at q
   simp only at q
   by_cases c:depWs ys<=63
   ·rw[aD c]at q
    obtain⟨p,vs,rfl,hS,r⟩:=ry.tupE
    cases ru
    obtain⟨bC,w,ht,_⟩:=I.tuple hS
    obtain⟨e,he,ha⟩:=lu (A:=X.A.in1) I rx rv 63 (by show X.A.units+1+63<cLine;omega) c r w hk
    exact SeqAt.notIn_tupleAt e ht he ⟨.bl _,H,I,rfl,by rw[ha];exact ie S q⟩
   ·rw[aQ c]at q;exact q.elim
 |loc n=>
  simp only[qt]at q
  cases e1:st[n]? with
  |none=>rw[e1]at q;exact q.elim
  |some cc=>
   rw[e1]at q
   cases cc with
   |lst ys=>
    simp only at q
    cases hk:qg wx ys with
    |none=>rw[hk]at q;exact q.elim
    |some kk=>
     rw[hk]at q
     simp only at q
     by_cases c:depWs ys<=63
     ·rw[aD c]at q
      obtain⟨a1,g1,vs,k1,r⟩:=S.get e1
      obtain⟨b1,f1,rfl⟩:=ry.locE
      rw[g1]at f1;cases f1
      cases ru
      obtain⟨bC,w,ht,_⟩:=I.list (pL.of k1)
      obtain⟨e,he,ha⟩:=lu (A:=X.A.in1) I rx rv 63 (by show X.A.units+1+63<cLine;omega) c r w hk
      exact SeqAt.notIn_listAt e ht.isList he ⟨.bl _,H,I,rfl,by rw[ha];exact ie S q⟩
     ·rw[aQ c]at q;exact q.elim
   |_=>exact q.elim
 |_=>exact q.elim,fun x y st=>by
 unfold qt
 repeat' split
 all_goals trivial⟩
section
variable{prog:Program}{w:World}{A:Around}{E:Value->Shared->Prop}{s:Shared}
theorem wW{t sl:Addr}{items:Array Value}{vl vu:Value}{lo hi:Option Int}{Q:Value->Shared->Prop}(ht:IsTup s.heap t items)(hs:s.heap.IsSliceOf sl vl vu .none)(pl:IsPart vl lo)(pu:IsPart vu hi)
  (hw:HT.sIx items.size 0 lo=0/\HT.sIx items.size items.size hi=items.size) (h:Q (.ref t) s):wpAny (model prog w) A (getItem (.ref t) (.ref sl)) Q E s:=by
 obtain⟨os,hos,hcs,Aj⟩:=id hs
 have hTs:s.TypeIs (.ref sl) "slice":=⟨os,hos,hcs⟩
 unfold getItem
 try with_reducible refine d8 ?_
 first|refine ag (aI ?_)|skip
 refine ag (wpAny_sequenceKey ht.typeIs (by decide) ?_)
 refine ag (cf (name:=Str.ofString "__getitem__") ht.typeIs dU
  (cS dU ht.typeIs entry_tuple_getitem ?_ (args_tuple_getitem _ _)))
 show wpAny _ _ (Builtin.Tuple.tupleItemsOf (.ref t) >>= _) _ _ s
 refine ag (tupleItemsOf_ ht ?_)
 refine ag (oP hTs ?_)
 rw[aD (by decide)]
 refine ag (HT.sliceApplied_gen hs pl pu ?_)
 have hyes:(((HT.sIx items.size 0 lo:Nat):Int)==0&&(1:Int)==1&&(HT.sIx items.size items.size hi-HT.sIx items.size 0 lo)==items.size)=true:=by
  rw[hw.1,hw.2];simp
 show wpAny _ _ (if (((HT.sIx items.size 0 lo:Nat):Int)==0&&(1:Int)==1&&(HT.sIx items.size items.size hi-HT.sIx items.size 0 lo)==items.size)=true then _ else _) _ _ s
 rw[aD hyes]
 unfold Builtin.Tuple.tupleIsExact
 obtain⟨ot,hot,RG,nt,hdt⟩:=id ht
 refine ag (ag (oP (T:="tuple") ht.typeIs ?_))
 refine aI ?_
 rw[aD (by decide)]
 exact ag (lO (aI ⟨_,rfl,aI h⟩))
end
section
variable{X:Cx}{a b c e o:Expr}{es:List Expr}{pos p p2 gq dM:Pos}{x name:Str}{j:Nat}{fa fb fc fe:FE}{fs:FA}
def lstOf(st:List am)(n:Nat):Option (List W):=match st[n]? with
 |some (.lst ws)=>some ws
 |some (.ro ws)=>some ws
 |_=>none
theorem h9.lstOf{K:Frag}{mg:Str->Option Value}{μ:List Addr}{st:List am}{H:Hp}(S:h9 K mg μ st H){n:Nat}{ws:List W}(h:lstOf st n=some ws):∃a vs,μ[n]?=some a/\pL K H a vs/\RelWs K μ H ws vs:=by
 unfold L2.lstOf at h
 cases e:st[n]? with
 |none=>rw[e]at h;cases h
 |some cc=>
  rw[e]at h
  cases cc with
  |lst zs=>cases h;obtain⟨a,g,vs,k,r⟩:=S.get e;exact⟨a,vs,g,pL.of k,r⟩
  |ro zs=>cases h;obtain⟨a,g,vs,k,r⟩:=S.get e;exact⟨a,vs,g,k.sq,r⟩
  |exc zs=>cases h
  |dct zs=>cases h
  |rod zs=>cases h
  |tab _ _ _=>cases h
def pd{α:Type}(o:Option α)(k:α->R W):R W:=match o with
 |some a=>k a
 |none=>.bad
@[simp] theorem d9{α:Type}(a:α)(k:α->R W):pd (some a) k=k a:=rfl
def bG(x y:W)(st:List am):R W:=match x,y with
 |.tup ws,.int i=>pd (oV ws i) fun w=>.ok w st
 |.str l,.int i=>if l.length<=j8 then pd (oV l i) (fun c=>.ok (.str [c]) st)else .bad
 |.loc n,.int i=>pd (lstOf st n) fun ws=>pd (oV ws i) fun w=>.ok w st
 |_,_=>.bad
theorem AK{K:Frag}{μ:List Addr}{H:Hp}{ws:List W}{vs:List V}{i:Int}{w:W}(r:RelWs K μ H ws vs)(h:oV ws i=some w):∃v,oV vs i=some v/\bF K μ H w v:=by
 unfold oV at h ⊢
 rw[<- r.len]
 cases e:Aw ws.length i with
 |none=>rw[e]at h;cases h
 |some k=>rw[e]at h;exact r.get h
theorem Si:GS X (Sg X bG):=fun value slice pins s σ H x y v u Q I rv ru ⟨μ,st,wx,wy,S,rx,ry,q⟩ hs=>by
 refine Ls value slice pins s σ H x y v u Q I rv ru ?_ hs
 cases wy with
 |int i=>
  cases wx with
  |tup ws=>
   simp only[bG]at q
   cases e1:oV ws i with
   |none=>rw[e1]at q;exact q.elim
   |some w=>
    rw[e1]at q
    obtain⟨p,vs,rfl,hS,r⟩:=rx.tupE
    obtain⟨z,f,g⟩:=AK r e1
    exact .inr (.inl ⟨p,vs,i,z,rfl,ry.intE,hS,f,q μ z H (al _) eE.refl S g⟩)
  |str l=>
   simp only[bG]at q
   by_cases c:l.length<=j8
   ·rw[aD c]at q
    cases e1:oV l i with
    |none=>rw[e1]at q;exact q.elim
    |some w=>
     rw[e1]at q
     exact .inr (.inr ⟨_,i,w,rx.strE,ry.intE,by rw[g_];exact lp c,by rw[LA];exact e1,oq S q⟩)
   ·rw[aQ c]at q;exact q.elim
  |loc n=>
   simp only[bG]at q
   cases e0:lstOf st n with
   |none=>rw[e0]at q;exact q.elim
   |some ws=>
    rw[e0]at q
    cases e1:oV ws i with
    |none=>rw[d9,e1]at q;exact q.elim
    |some w=>
     rw[d9,e1]at q
     obtain⟨a,vs,g,hS,r⟩:=S.lstOf e0
     obtain⟨b1,f1,rfl⟩:=rx.locE
     rw[g]at f1;cases f1
     obtain⟨z,f,g⟩:=AK r e1
     exact .inl ⟨_,vs,i,z,rfl,ry.intE,hS,f,q μ z H (al _) eE.refl S g⟩
  |_=>exact q.elim
 |_=>cases wx<;>exact q.elim
theorem pU{α:Type}{o:Option α}{k:α->R W}(h:∀a,qe (k a)):qe (pd o k):=by
 unfold pd
 split
 ·exact h _
 ·trivial
theorem Px(x y:W)(st:List am):qe (bG x y st):=by
 unfold bG
 split
 ·exact pU fun _=>trivial
 ·split
  ·exact pU fun _=>trivial
  ·trivial
 ·exact pU fun _=>pU fun _=>trivial
 ·trivial
theorem bv(ha:SE X a fa)(hb:SE X b fb)(hs:Ay b:=by intro _ _;rfl):SE X (.Subscript a b pos) (e2 bG fa fb):=⟨(OT Si ha.h hb.h hs).imp fun _ _ _ h=>AH Px h⟩
abbrev FO:=cB->List am->R (Option Int)
abbrev Sj:List Addr->Hp->Option Int->Option Int->Prop:=fun _ _ a b=>a=b
structure SO(X:Cx)(e:Option Expr)(f:FO):Prop where
 h:PO X e (tG X Sj f)
def tO:FO:=fun _ st=>.ok none st
def jG(fa:FE):FO:=fun ρ st=>(fa ρ st).bind fun x st=>match x with
 |.int i=>.ok (some i) st
 |_=>.bad
theorem PO.imp{X:Cx}{e:Option Expr}{t t':TO}(h:PO X e t)(i:∀σ H Q,t' σ H Q->t σ H Q):PO X e t':=fun pins s σ H Q I q=>h pins s σ H Q I (i _ _ _ q)
theorem qu:SO X none tO:=⟨Ho.imp fun σ H Q h=>by
 obtain⟨μ,ρ,st,l,h⟩:=h
 exact h μ none H (al _) eE.refl l.sto rfl⟩
theorem gU(ha:SE X a fa):SO X (some a) (jG fa):=⟨(Hq ha.h).imp fun σ H Q h=>by
 obtain⟨μ,ρ,st,l,h⟩:=h
 refine⟨μ,ρ,st,l,RK.bind h l fun μ1 st1 x v H1 p1 x1 l1 q1 h1=>?_⟩
 cases x with
 |int k=>exact⟨k,q1.intE,h1 μ1 _ H1 (al _) eE.refl l1.sto rfl⟩
 |_=>exact h1.elim⟩
def kO{α:Type}(xs:List α)(lo hi:Option Int):List α:=(xs.drop (HT.sIx xs.length 0 lo)).take (HT.sIx xs.length xs.length hi-HT.sIx xs.length 0 lo)
def za(x:W)(lo hi:Option Int)(st:List am):R W:=match x with
 |.tup ws=>.ok (.tup (kO ws lo hi)) st
 |.str l=>if l.length<=j8 then .ok (.str (kO l lo hi)) st else .bad
 |.loc n=>pd (lstOf st n) fun ws=>.ok (.loc st.length) (st++[.lst (kO ws lo hi)])
 |_=>.bad
theorem Py(x:W)(lo hi:Option Int)(st:List am):qe (za x lo hi st):=by
 unfold za pd
 repeat' split
 all_goals trivial
def DF(fa:FE)(fl fh:FO):FE:=fun ρ st=>(fa ρ st).bind fun x st=>(fl ρ st).bind fun l st=>(fh ρ st).bind fun h st=>za x l h st
theorem Sk:OR X (fun x lo hi H Q=>∃μ st wx,h9 X.K X.mg μ st H/\bF X.K μ H wx x/\CM X μ H Q (za wx lo hi st)):=by
 intro pins s σ H x v vl vu lo hi sl Q I rv hs pl pu ⟨μ,st,wx,S,rx,q⟩
 cases wx with
 |tup ws=>
  obtain⟨p,vs,rfl,hS,r⟩:=rx.tupE
  have hl:=r.len
  by_cases hw:HT.sIx vs.length 0 lo=0/\HT.sIx vs.length vs.length hi=vs.length
  ·cases rv
   obtain⟨bC,w,ht,hz⟩:=I.tuple hS
   have cY:bC.toArray.size=vs.length:=by rw[aU];exact w.length.symm
   refine⟨"tuple",_,dU.lookup,ht.typeIs,wW ht hs pl pu (by rw[cY];exact hw) ⟨.ref p,H,I,rfl,?_⟩⟩
   have e:kO ws lo hi=ws:=by
    unfold kO
    rw[hl,hw.1,hw.2,List.drop_zero,Nat.sub_zero,<- hl,cG]
   have q':CM X μ H Q (.ok (.tup (kO ws lo hi)) st):=q
   rw[e]at q'
   exact q' μ _ H (al _) eE.refl S rx
  ·refine Lo pins s σ H _ v vl vu lo hi sl Q I rv hs pl pu ⟨p,vs,rfl,hS,hw,fun p2 hp2=>?_⟩
   have x:=fg.same (K:=X.K) (dg hp2 (.tup (qN vs lo hi)))
   have rc:RelWs X.K μ H (kO ws lo hi) (qN vs lo hi):=by
    unfold kO qN
    rw[hl]
    exact(r.drop _).take _
   exact q μ _ _ (al _) x (S.same (dg hp2 _)) (.tupI fg.new (rc.mono (al _) x))
 |str l=>
  simp only[za]at q
  by_cases c:l.length<=j8
  ·rw[aD c]at q
   exact LD pins s σ H _ v vl vu lo hi sl Q I rv hs pl pu ⟨l,rx.strE,lp c,oq S q⟩
  ·rw[aQ c]at q;exact q.elim
 |loc n=>
  simp only[za]at q
  cases e0:lstOf st n with
  |none=>rw[e0]at q;exact q.elim
  |some ws=>
   rw[e0]at q
   obtain⟨a,vs,g,hS,r⟩:=S.lstOf e0
   obtain⟨b1,f1,rfl⟩:=rx.locE
   rw[g]at f1;cases f1
   have hl:=r.len
   refine Ht pins s σ H _ v vl vu lo hi sl Q I rv hs pl pu ⟨_,vs,rfl,hS,fun p2 hp2=>?_⟩
   have rc:RelWs X.K μ H (kO ws lo hi) (qN vs lo hi):=by
    unfold kO qN
    rw[hl]
    exact(r.drop _).take _
   exact q (μ++[p2]) _ _ (aE _ _) (fg.same (dg hp2 _)) (S.newLst hp2 rc) (nQ S)
 |_=>exact q.elim
theorem wX{lo hi:Option Expr}{fl fh:FO}(ha:SE X a fa)(hl:SO X lo fl)(hh:SO X hi fh):SE X (.Subscript a (.Slice lo hi none p2) pos) (DF fa fl fh):=⟨(Da Sk ha.h hl.h hh.h).imp fun σ H Q h=>by
 obtain⟨μ,ρ,st,l,h⟩:=h
 refine⟨μ,ρ,st,l,RK.bind h l fun μ1 st1 x v H1 p1 x1 l1 q1 h1=>⟨μ1,ρ,st1,l1,RK.bind h1 l1 fun μ2 cZ y u H2 p2 x2 l2 q2 h2=>⟨μ2,ρ,cZ,l2,RK.bind h2 l2 fun μ3 j0 z t H3 p3 x3 l3 q3 h3=>?_⟩⟩⟩
 cases q2;cases q3
 exact⟨μ3,j0,x,l3.sto,(q1.mono p2 x2).mono p3 x3,o_ h3 (Py _ _ _ _)⟩⟩
def S6(X:Cx)(F:List W->List am->R W):List V->Hp->VK->Prop:=fun vs H Q=>∃μ st ws,h9 X.K X.mg μ st H/\RelWs X.K μ H ws vs/\CM X μ H Q (F ws st)
structure mF(X:Cx)(f:Value)(F:List W->List am->R W):Prop where
 h:hU X f (S6 X F)
 n:∀ws st,qe (F ws st)
def bx(F:List W->List am->R W)(fs:FA):FE:=fun ρ st=>(fs ρ st).bind fun ws st=>F ws st
theorem AL{F:List W->List am->R W}{σ:St}{H:Hp}{Q:VK}(n:∀ws st,qe (F ws st))(h:tE X (bx F fs) σ H Q):R3 (S6 X F) (Se X fs) σ H Q:=by
 obtain⟨μ,ρ,st,l,h⟩:=h
 exact⟨μ,ρ,st,l,RK.bind h l fun μ1 st1 x v H1 p1 x1 l1 q1 h1=>⟨μ1,st1,x,l1.sto,q1,o_ h1 (n _ _)⟩⟩
theorem bR{id:String}{F:List W->List am->R W}(hc:mF X (.builtin id) F)(hm:X.mg x=none)(hv:bootBuiltins x=some (.builtin id))(ha:SA X (e::es) fs)(hg:Gl X x:=by rfl)(hn:x ≠ "__name__":=by decide)(Jd:(x==("__debug__":Str))=false:=by decide)
  (he:starEach (e::es) X.env=(false,eval e X.env)::starEach es X.env:=by rfl) (qJ:(backTo pos (starEach es X.env)).any (·.1)=false:=by rfl):SE X (.Call (.Name x p) (e::es) [] pos) (bx F fs):=⟨(wB hc.h hg hm hv ha.h hn Jd he qJ).imp fun _ _ _ h=>AL hc.n h⟩
theorem cK{T:String}{F:List W->List am->R W}(hc:mF X (.type T) F)(hm:X.mg x=none)(hv:bootBuiltins x=some (.type T))(ha:SA X (e::es) fs)(hg:Gl X x:=by rfl)(hn:x ≠ "__name__":=by decide)(Jd:(x==("__debug__":Str))=false:=by decide)
  (he:starEach (e::es) X.env=(false,eval e X.env)::starEach es X.env:=by rfl) (qJ:(backTo pos (starEach es X.env)).any (·.1)=false:=by rfl):SE X (.Call (.Name x p) (e::es) [] pos) (bx F fs):=⟨(BE hc.h hg hm hv ha.h hn Jd he qJ).imp fun _ _ _ h=>AL hc.n h⟩
theorem RelWs.two{K:Frag}{μ:List Addr}{H:Hp}{a b:W}{vs:List V}(r:RelWs K μ H [a,b] vs):∃x y,vs=[x,y]/\bF K μ H a x/\bF K μ H b y:=by
 obtain⟨x,xs,rfl,rx,rn⟩:=r.consE
 obtain⟨y,ys,rfl,ry,rm⟩:=rn.consE
 rw[rm.nilE];exact⟨x,y,rfl,rx,ry⟩
theorem RelWs.one{K:Frag}{μ:List Addr}{H:Hp}{a:W}{vs:List V}(r:RelWs K μ H [a] vs):∃x,vs=[x]/\bF K μ H a x:=by
 obtain⟨x,xs,rfl,rx,rn⟩:=r.consE
 rw[rn.nilE];exact⟨x,rfl,rx⟩
def dJ(ws:List W)(st:List am):R W:=match ws with
 |[.tup xs]=>.ok (.int xs.length) st
 |[.str l]=>if l.length<=j8 then .ok (.int l.length) st else .bad
 |[.loc n]=>pd (lstOf st n) fun xs=>.ok (.int xs.length) st
 |_=>.bad
theorem dB:mF X (.builtin "len") dJ:=⟨fun pins s σ H vs us Q I rv ⟨μ,st,ws,S,r,q⟩=>by
 unfold dJ at q
 split at q
 ·obtain⟨x,rfl,rx⟩:=r.one
  obtain⟨p,ys,rfl,hS,r'⟩:=rx.tupE
  exact oh pins s σ H _ us Q I rv ⟨p,ys,rfl,.inr hS,by rw[<- r'.len];exact jp S q⟩
 ·obtain⟨x,rfl,rx⟩:=r.one
  split at q
  ·rename_i c
   exact uI pins s σ H _ us Q I rv ⟨_,by rw[rx.strE],by rw[g_];exact lp c,by rw[g_];exact jp S q⟩
  ·exact q.elim
 ·obtain⟨x,rfl,rx⟩:=r.one
  unfold pd at q
  split at q
  ·rename_i ys e0
   obtain⟨a,vs,g,hS,r'⟩:=S.lstOf e0
   obtain⟨b1,f1,rfl⟩:=rx.locE
   rw[g]at f1;cases f1
   exact oh pins s σ H _ us Q I rv ⟨_,vs,rfl,.inl hS,by rw[<- r'.len];exact jp S q⟩
  ·exact q.elim
 ·exact q.elim,fun ws st=>by
 unfold dJ pd
 repeat' split
 all_goals trivial⟩
def DG(ws:List W)(st:List am):R W:=match ws with
 |[.int i,.int j]=>.ok (.int (if j>i then j else i)) st
 |_=>.bad
def zb(ws:List W)(st:List am):R W:=match ws with
 |[.int i,.int j]=>.ok (.int (if j<i then j else i)) st
 |_=>.bad
theorem Pz(hc:X.calm=true:=by rfl):mF X (.builtin "max") DG:=⟨fun pins s σ H vs us Q I rv ⟨μ,st,ws,S,r,q⟩=>by
 unfold DG at q
 split at q
 ·obtain⟨x,y,rfl,rx,ry⟩:=r.two
  exact BA hc pins s σ H _ us Q I rv ⟨_,_,by rw[rx.intE,ry.intE],jp S q⟩
 ·exact q.elim,fun ws st=>by unfold DG;split<;>trivial⟩
theorem Jw(hc:X.calm=true:=by rfl):mF X (.builtin "min") zb:=⟨fun pins s σ H vs us Q I rv ⟨μ,st,ws,S,r,q⟩=>by
 unfold zb at q
 split at q
 ·obtain⟨x,y,rfl,rx,ry⟩:=r.two
  exact BB hc pins s σ H _ us Q I rv ⟨_,_,by rw[rx.intE,ry.intE],jp S q⟩
 ·exact q.elim,fun ws st=>by unfold zb;split<;>trivial⟩
def d_(ws:List W)(st:List am):R W:=match ws with
 |[.tup xs]=>.ok (.tup xs) st
 |[.loc n]=>pd (lstOf st n) fun xs=>.ok (.tup xs) st
 |_=>.bad
theorem eu:mF X (.type "tuple") d_:=⟨fun pins s σ H vs us Q I rv ⟨μ,st,ws,S,r,q⟩=>by
 unfold d_ at q
 split at q
 ·obtain⟨x,rfl,rx⟩:=r.one
  obtain⟨p,ys,rfl,hS,r'⟩:=id rx.tupE
  exact wC pins s σ H _ us Q I rv ⟨p,ys,rfl,hS,q μ _ H (al _) eE.refl S rx⟩
 ·obtain⟨x,rfl,rx⟩:=r.one
  unfold pd at q
  split at q
  ·rename_i ys e0
   obtain⟨a,vs,g,hS,r'⟩:=S.lstOf e0
   obtain⟨b1,f1,rfl⟩:=rx.locE
   rw[g]at f1;cases f1
   refine wK pins s σ H _ us Q I rv ⟨_,vs,rfl,hS,fun l H2 hl e=>?_⟩
   subst e
   have x:=fg.same (K:=X.K) (dg hl (.tup vs))
   exact q μ _ _ (al _) x (S.same (dg hl _)) (.tupI fg.new (r'.mono (al _) x))
  ·exact q.elim
 ·exact q.elim,fun ws st=>by
 unfold d_ pd
 repeat' split
 all_goals trivial⟩
def qZ(ws:List W)(st:List am):R W:=match ws with
 |[.tup xs]=>.ok (.loc st.length) (st++[.lst xs])
 |[.loc n]=>pd (lstOf st n) fun xs=>.ok (.loc st.length) (st++[.lst xs])
 |_=>.bad
theorem zc:mF X (.type "list") qZ:=⟨fun pins s σ H vs us Q I rv ⟨μ,st,ws,S,r,q⟩=>by
 unfold qZ at q
 split at q
 ·obtain⟨x,rfl,rx⟩:=r.one
  obtain⟨p,ys,rfl,hS,r'⟩:=id rx.tupE
  refine qS pins s σ H _ us Q I rv ⟨p,ys,rfl,.inr hS,fun l H2 hl e=>?_⟩
  subst e
  exact q (μ++[l]) _ _ (aE _ _) (fg.same (dg hl _)) (S.newLst hl r') (nQ S)
 ·obtain⟨x,rfl,rx⟩:=r.one
  unfold pd at q
  split at q
  ·rename_i ys e0
   obtain⟨a,vs,g,hS,r'⟩:=S.lstOf e0
   obtain⟨b1,f1,rfl⟩:=rx.locE
   rw[g]at f1;cases f1
   refine qS pins s σ H _ us Q I rv ⟨_,vs,rfl,.inl hS,fun l H2 hl e=>?_⟩
   subst e
   exact q (μ++[l]) _ _ (aE _ _) (fg.same (dg hl _)) (S.newLst hl r') (nQ S)
  ·exact q.elim
 ·exact q.elim,fun ws st=>by
 unfold qZ pd
 repeat' split
 all_goals trivial⟩
def wY(ws:List W)(st:List am):R W:=match ws with
 |[.int i]=>.ok (.int i) st
 |[.bl k]=>.ok (.int (if k then 1 else 0)) st
 |_=>.bad
theorem DH:mF X (.type "int") wY:=⟨fun pins s σ H vs us Q I rv ⟨μ,st,ws,S,r,q⟩=>by
 unfold wY at q
 split at q
 ·obtain⟨x,rfl,rx⟩:=r.one
  exact tm pins s σ H _ us Q I rv (.inl ⟨_,by rw[rx.intE],jp S q⟩)
 ·obtain⟨x,rfl,rx⟩:=r.one
  exact tm pins s σ H _ us Q I rv (.inr ⟨_,by rw[rx.blE],jp S q⟩)
 ·exact q.elim,fun ws st=>by unfold wY;split<;>trivial⟩
end
section
variable{X:Cx}{a b c e o:Expr}{es:List Expr}{pos p p2 gq dM:Pos}{x name:Str}{j:Nat}{fa fb fc fe:FE}{fs:FA}{ft:FT}{st1:Stmt}{sr sa sb:List Stmt}{g g':FS}
def aS(g g':FS):FS:=fun ρ st=>match g ρ st with
 |.nx ρ' bH=>g' ρ' bH
 |r=>r
def b_:FS:=fun ρ st=>.nx ρ st
theorem bX:SB X [] b_:=⟨G_.imp fun D σ H h=>by
 obtain⟨μ,ρ,st,l,h⟩:=h
 exact h μ σ H (al _) eE.refl l⟩
theorem aJ(h1:SS X st1 g):SB X [st1] g:=⟨Ha h1.h⟩
theorem ar(h1:SS X st1 g)(h2:SB X sr g'):SB X (st1::sr) (aS g g'):=⟨(CY h1.h h2.h).imp fun D σ H h=>by
 obtain⟨μ,ρ,st,l,h⟩:=h
 refine⟨μ,ρ,st,l,?_⟩
 unfold aS at h
 cases e:g ρ st with
 |nx ρ' bH=>rw[e]at h;exact fun μ' σ' H' p x l'=>⟨μ',ρ',bH,l',SK.mono h p x⟩
 |rt w bH=>rw[e]at h;exact h
 |bk ρ' bH=>rw[e]at h;exact h
 |ct ρ' bH=>rw[e]at h;exact h
 |ex c ρ' bH=>rw[e]at h;exact h
 |bad=>rw[e]at h;exact h⟩
def uQ:FS:=fun ρ st=>.bk ρ st
theorem DI:SS X (.Break pos) uQ:=⟨CZ.imp fun D σ H h=>by
 obtain⟨μ,ρ,st,l,h⟩:=h
 exact h μ σ H (al _) eE.refl l⟩
def R.stmt{α:Type}(r:R α)(ρ:cB)(k:α->List am->RS):RS:=match r with
 |.ok a st=>k a st
 |.ex c st=>.ex c ρ st
 |.bad=>.bad
@[simp] theorem R.stmt_ok{α:Type}(a:α)(st:List am)(ρ:cB)(k:α->List am->RS):(R.ok a st).stmt ρ k=k a st:=rfl
theorem RK.stmt{α β:Type}{rel:List Addr->Hp->α->β->Prop}{μ:List Addr}{ρ:cB}{st:List am}{σ:St}{H:Hp}{D:uC}{r:R α}{k:α->List am->RS}{T:β->Hp->Prop}
  (h:SK X μ H D (r.stmt ρ k)) (l:Rl X μ ρ st σ H)
  (hk:∀μ' bH x v H',μ <+: μ'->eE X.K H H'->Rl X μ' ρ bH σ H'->rel μ' H' x v->SK X μ' H' D (k x bH)->T v H'):RK X rel μ σ H T r:=by
 cases r with
 |ok a bH=>exact fun μ' b H' p x s q=>hk μ' bH a b H' p x (l.to p x s) q (SK.mono h p x)
 |ex c bH=>exact XS.toE h l
 |bad=>exact h
def dW(fe:FE):FS:=fun ρ st=>(fe ρ st).stmt ρ fun _ st=>.nx ρ st
theorem dk(he:SE X e fe)(hs:swapsWith e none pos.line X.env=pure false:=by rfl):SS X (.Expr e pos) (dW fe):=⟨(Hb he.h hs).imp fun D σ H h=>by
 obtain⟨μ,ρ,st,l,h⟩:=h
 exact⟨μ,ρ,st,l,RK.stmt h l fun μ1 st1 x v H1 p1 x1 l1 q1 h1=>h1 μ1 σ H1 (al _) eE.refl l1⟩⟩
def cH(fe:FE):FS:=fun ρ st=>(fe ρ st).stmt ρ fun w st=>.rt w st
theorem bh(he:SE X e fe):SS X (.Return (some e) pos) (cH fe):=⟨(K7 he.h).imp fun D σ H h=>by
 obtain⟨μ,ρ,st,l,h⟩:=h
 exact⟨μ,ρ,st,l,RK.stmt h l fun μ1 st1 x v H1 p1 x1 l1 q1 h1=>h1 μ1 v H1 (al _) eE.refl l1.sto q1⟩⟩
def gs(t:FT)(g g':FS):FS:=fun ρ st=>(t ρ st).stmt ρ fun k st=>if k then g ρ st else g' ρ st
theorem cP(hc:ST X c ft)(ha:SB X sa g)(hb:SB X sb g'):SS X (.If c sa sb pos) (gs ft g g'):=⟨(OA hc.h ha.h hb.h).imp fun D σ H h=>by
 obtain⟨μ,ρ,st,l,h⟩:=h
 refine⟨μ,ρ,st,l,RK.stmt h l fun μ1 st1 x v H1 p1 x1 l1 q1 h1=>?_⟩
 cases q1
 cases x with
 |true=>exact⟨μ1,ρ,st1,l1,h1⟩
 |false=>exact⟨μ1,ρ,st1,l1,h1⟩⟩
abbrev FG:=W->cB->Option cB
abbrev Jx:=List W->cB->Option cB
def PB(X:Cx)(f:FG):TG:=fun v σ H Q=>∃μ ρ st w ρ',Rl X μ ρ st σ H/\bF X.K μ H w v/\f w ρ=some ρ'/\∀σ',Rl X μ ρ' st σ' H->Q σ' H
def Sl(X:Cx)(f:Jx):Hc:=fun vs σ H Q=>∃μ ρ st ws ρ',Rl X μ ρ st σ H/\RelWs X.K μ H ws vs/\f ws ρ=some ρ'/\∀σ',Rl X μ ρ' st σ' H->Q σ' H
theorem PG.imp{X:Cx}{e:Expr}{t t':TG}(h:PG X e t)(i:∀v σ H Q,t' v σ H Q->t v σ H Q):PG X e t':=fun pins s σ H x u Q I r q=>h pins s σ H x u Q I r (i _ _ _ _ q)
theorem Jl.imp{X:Cx}{e:List Expr}{t t':Hc}(h:Jl X e t)(i:∀v σ H Q,t' v σ H Q->t v σ H Q):Jl X e t':=fun pins s σ H x u Q I r q=>h pins s σ H x u Q I r (i _ _ _ _ q)
structure SG(X:Cx)(e:Expr)(f:FG):Prop where
 h:PG X e (PB X f)
structure Rt(X:Cx)(e:List Expr)(f:Jx):Prop where
 h:Jl X e (Sl X f)
def f_(i:Nat):FG:=fun w ρ=>some (ρ.set i (some w))
theorem AM{i:Nat}(hN:X.N.Nodup)(hi:X.N[i]?=some x)(hx:G5 X.env.scope x)(hf:X.fn x=true\/X.env.scope.names.lookup x=some .local:=by first|exact .inl rfl|exact .inr rfl|assumption):SG X (.Name x pos) (f_ i):=⟨(He hN hi hx hf).imp fun v σ H Q h=>by
 obtain⟨μ,ρ,st,w,ρ',l,r,e,q⟩:=h
 cases e
 exact q _ ⟨qV r i l.env,l.sto⟩⟩
def mG:Jx:=fun ws ρ=>match ws with
 |[]=>some ρ
 |_=>none
def fq(f:FG)(fs:Jx):Jx:=fun ws ρ=>match ws with
 |w::ws=>(f w ρ).bind fun ρ'=>fs ws ρ'
 |[]=>none
theorem jq:Rt X [] mG:=⟨Hf.imp fun vs σ H Q h=>by
 obtain⟨μ,ρ,st,ws,ρ',l,r,e,q⟩:=h
 cases ws with
 |nil=>cases e;exact⟨r.nilE,q σ l⟩
 |cons _ _=>cases e⟩
theorem dX{f:FG}{fs:Jx}(h1:SG X e f)(h2:Rt X es fs)(hs:(assignEach (e::es) X.env).map (·.2)=assign e X.env::(assignEach es X.env).map (·.2):=by rfl):Rt X (e::es) (fq f fs):=⟨(C0 h1.h h2.h hs).imp fun vs σ H Q h=>by
 obtain⟨μ,ρ,st,ws,ρ',l,r,e,q⟩:=h
 cases ws with
 |nil=>cases e
 |cons w ws=>
  obtain⟨x,xs,rfl,rx,rs⟩:=r.consE
  simp only[fq]at e
  cases e1:f w ρ with
  |none=>rw[e1]at e;cases e
  |some ρ1=>
   rw[e1]at e
   exact⟨x,xs,rfl,μ,ρ,st,w,ρ1,l,rx,e1,fun σ1 l1=>⟨μ,ρ1,st,ws,ρ',l1,rs,e,q⟩⟩⟩
def CO(n:Nat)(fs:Jx):FG:=fun w ρ=>match w with
 |.tup ws=>if ws.length=n then fs ws ρ else none
 |_=>none
theorem lv{k n:Nat}{fs:Jx}(hc:X.calm=true)(h:Rt X es fs)(hn:(assignEach es X.env).length=n:=by rfl)(p9:(assignEach es X.env).findIdx? (·.1)=none:=by rfl):SG X (.Tuple es k pos) (CO n fs):=⟨(K8 hc h.h hn p9).imp fun v σ H Q h=>by
 obtain⟨μ,ρ,st,w,ρ',l,r,e,q⟩:=h
 cases w with
 |tup ws=>
  obtain⟨p,vs,rfl,hS,rs⟩:=r.tupE
  simp only[CO]at e
  by_cases c:ws.length=n
  ·rw[aD c]at e
   exact⟨p,vs,rfl,hS,by rw[<- rs.len];exact c,μ,ρ,st,ws,ρ',l,rs,e,q⟩
  ·rw[aQ c]at e;cases e
 |_=>cases e⟩
def zd(fe:FE)(f:FG):FS:=fun ρ st=>(fe ρ st).stmt ρ fun w st=>match f w ρ with
 |some ρ'=>.nx ρ' st
 |none=>.bad
theorem PD{f:FG}{D:uC}{σ:St}{H:Hp}(h:Rs X (zd fe f) D σ H):C1 (tE X fe) (PB X f) D σ H:=by
 obtain⟨μ,ρ,st,l,h⟩:=h
 refine⟨μ,ρ,st,l,RK.stmt h l fun μ1 st1 x v H1 p1 x1 l1 q1 h1=>?_⟩
 cases e1:f x ρ with
 |none=>rw[e1]at h1;exact h1.elim
 |some ρ'=>rw[e1]at h1;exact⟨μ1,ρ,st1,x,ρ',l1,q1,e1,fun σ' l'=>h1 μ1 σ' H1 (al _) eE.refl l'⟩
theorem LS{tg:Expr}{f:FG}(he:SE X e fe)(hg:SG X tg f)(hs:swapsWithSole [tg] e pos.line X.env=pure false:=by rfl)(hw:swappedStores [tg] e X.env=pure none:=by rfl)(h1:(assignEach [tg] X.env).map (·.2)=[assign tg X.env]:=by rfl):SS X (.Assign [tg] e pos) (zd fe f):=⟨(C2 he.h hg.h hs hw h1).imp fun D σ H h=>PD h⟩
def bu(i:Nat)(fe:FE):FS:=fun ρ st=>(fe ρ st).stmt ρ fun w st=>.nx (ρ.set i (some w)) st
theorem LU{i:Nat}{iu:Pos}(hN:X.N.Nodup)(hi:X.N[i]?=some x)(hx:G5 X.env.scope x)(he:SE X e fe)(hs:swapsWith e (some (.Name x iu)) pos.line X.env=pure false:=by rfl)(hf:X.fn x=true\/X.env.scope.names.lookup x=some .local:=by first|exact .inl rfl|exact .inr rfl|assumption) :
  SS X (.Assign [.Name x iu] e pos) (bu i fe):=⟨(K_ hN hi hx he.h hs hf).imp fun D σ H h=>by
 obtain⟨μ,ρ,st,l,h⟩:=h
 exact⟨μ,ρ,st,l,RK.stmt h l fun μ1 st1 x v H1 p1 x1 l1 q1 h1=>h1 μ1 _ H1 (al _) eE.refl ⟨qV q1 i l1.env,l1.sto⟩⟩⟩
def ou(x i v:W)(st:List am):Option (List am):=match x,i with
 |.loc n,.int k=>(match st[n]? with
  |some (.lst ws)=>(Aw ws.length k).map fun j=>st.set n (.lst (ws.set j v))
  |_=>none)
 |_,_=>none
def qh(fo fi fe:FE)(f:W->W->W->List am->Option (List am)):FS:=fun ρ st=>(fe ρ st).stmt ρ fun v st=>(fo ρ st).stmt ρ fun x st=>(fi ρ st).stmt ρ fun i st=>match f x i v st with
 |some bH=>.nx ρ bH
 |none=>.bad
def DJ(X:Cx)(f:W->W->W->List am->Option (List am)):Hd:=fun o i v H Q=>∃μ st wo wi wv bH,h9 X.K X.mg μ st H/\bF X.K μ H wo o/\bF X.K μ H wi i/\bF X.K μ H wv v/\f wo wi wv st=some bH/\∀H',eE X.K H H'->h9 X.K X.mg μ bH H'->Q H'
theorem uR:Bu X (DJ X ou):=fun pins s σ H o i v ov iv u Q I r1 r2 r3 ⟨μ,st,wo,wi,wv,bH,S,ro,ri,rv,e,q⟩=>by
 cases wo with
 |loc n=>
  cases wi with
  |int k=>
   simp only[ou]at e
   cases e1:st[n]? with
   |none=>rw[e1]at e;cases e
   |some cc=>
    rw[e1]at e
    cases cc with
    |lst ws=>
     simp only at e
     cases e2:Aw ws.length k with
     |none=>rw[e2]at e;cases e
     |some jj=>
      rw[e2]at e
      cases e
      obtain⟨a1,g1,vs,k1,r⟩:=S.get e1
      obtain⟨b1,f1,rfl⟩:=ro.locE
      rw[g1]at f1;cases f1
      refine BR pins s σ H _ i v ov iv u Q I r1 r2 r3 ⟨a1,vs,k,jj,rfl,ri.intE,k1,by rw[<- r.len];exact e2,fun H2 eH=>?_⟩
      subst eH
      exact q _ (fg.but gT k1) (S.set e1 g1 k1 (r.setI jj rv))
    |_=>cases e
  |_=>cases e
 |_=>cases wi<;>cases e
theorem nS{f:W->W->W->List am->Option (List am)}{i:Expr}{iu:Pos}{fi:FE}{fo:FE}(NO:Bu X (DJ X f))(he:SE X e fe)(ho:SE X o fo)(hi:SE X i fi)
  (ha:∀v,assign (.Subscript o i iu) X.env v=(do
   let ov <- holding [v] (eval o X.env)
   let iv <- holding [v,ov] (eval i X.env)
   standAt iu
   holding [v,ov,iv] (setItem ov iv v)
   release [v,ov,iv] []):=by intro _;rfl)
  (hs:swapsWithSole [.Subscript o i iu] e pos.line X.env=pure false:=by rfl) (hw:swappedStores [.Subscript o i iu] e X.env=pure none:=by rfl) (h1:(assignEach [.Subscript o i iu] X.env).map (·.2)=[assign (.Subscript o i iu) X.env]:=by rfl) :
  SS X (.Assign [.Subscript o i iu] e pos) (qh fo fi fe f):=⟨(C2 he.h (K9 ho.h hi.h NO ha) hs hw h1).imp fun D σ H h=>by
 obtain⟨μ,ρ,st,l,h⟩:=h
 refine⟨μ,ρ,st,l,RK.stmt h l fun μ1 st1 v vv H1 p1 x1 l1 q1 h1=>⟨μ1,ρ,st1,l1,RK.stmt h1 l1 fun μ2 cZ x xv H2 p2 x2 l2 q2 h2=>⟨μ2,ρ,cZ,l2,RK.stmt h2 l2 fun μ3 j0 i iv H3 p3 x3 l3 q3 h3=>?_⟩⟩⟩
 cases e1:f x i v j0 with
 |none=>rw[e1]at h3;exact h3.elim
 |some bH=>
  rw[e1]at h3
  exact⟨μ3,j0,x,i,v,bH,l3.sto,q2.mono p3 x3,q3,(q1.mono p2 x2).mono p3 x3,e1,fun H' xx S'=>h3 μ3 σ H' (al _) xx (l3.to (al _) xx S')⟩⟩
end
def ii(st:List am):Option (Nat×List W)->Prop
 |none=>True
 |some (n,ws)=>lstOf st n=some ws
abbrev ze:=List W×Option (Nat×List W)
abbrev FI:=cB->List am->R ze
def zf(X:Cx)(J:It)(k:ze)(μ:List Addr)(H:Hp):Prop:=
 ∀(i:Nat) μ' bH H',μ <+: μ'->eE X.K H H'->h9 X.K X.mg μ' bH H'->ii bH k.2 ->
  (∀w,k.1[i]?=some w->J.go i H'/\∀x H'',J.yld i H' x H''->eE X.K H' H''/\h9 X.K X.mg μ' bH H''/\bF X.K μ' H'' w x)/\(k.1.length<=i->J.stop i H')
abbrev PF(X:Cx):List Addr->Hp->ze->It->Prop:=fun μ H k J=>zf X J k μ H
structure SI(X:Cx)(tg it:Expr)(f:FI):Prop where
 h:PI X tg it (fun σ H R=>tG X (PF X) f σ H R)
theorem PI.imp{X:Cx}{tg it:Expr}{t t':TI}(h:PI X tg it t)(i:∀σ H Q,t' σ H Q->t σ H Q):PI X tg it t':=fun pins s σ H Q I q=>h pins s σ H Q I (i _ _ _ q)
open Classical in
def oz(f:FG)(body:FS)(ck:Option (Nat×List W)):List W->FS
 |[],ρ,st=>if ii st ck then .nx ρ st else .bad
 |w::ws,ρ,st=>if ii st ck then(match f w ρ with
  |none=>.bad
  |some ρ'=>(match body ρ' st with
   |.nx ρ2 cZ=>oz f body ck ws ρ2 cZ
   |.ct ρ2 cZ=>oz f body ck ws ρ2 cZ
   |.bk ρ2 cZ=>.nx ρ2 cZ
   |.rt w cZ=>.rt w cZ
   |.ex c ρ2 cZ=>.ex c ρ2 cZ
   |.bad=>.bad))else .bad
def gu(fi:FI)(f:FG)(body:FS):FS:=fun ρ st=>(fi ρ st).stmt ρ fun k st=>oz f body k.2 k.1 ρ st
section
variable{X:Cx}{a b c e o tg iter:Expr}{es:List Expr}{pos p p2:Pos}{fa fb fe:FE}{fs:FA}{ft:FT}{body:List Stmt}{g:FS}{f:FG}{fi:FI}
theorem dS(hi:SI X tg iter fi)(hg:SG X tg f)(hb:SB X body g)(hc:X.calm=true:=by rfl)(hp:PassesOwn (model X.prog X.w) X.A X.env X.xe:=by passes_own)(hs:∀x,foldedSetIterable iter X.env x=pure x:=by intro _;rfl):SS X (.For tg iter body [] pos) (gu fi f g):=⟨(La hp hc hi.h hg.h hb.h hs).imp fun D σ H h=>by
 obtain⟨μ,ρ,st,l,h⟩:=h
 refine⟨μ,ρ,st,l,RK.stmt h l fun μ1 st1 k J H1 p1 x1 l1 wk h1=>?_⟩
 refine⟨fun i m σ' H'=>i<=k.1.length/\m=k.1.length-i/\∃μ' ρ' bH,μ1 <+: μ'/\eE X.K H1 H'/\Rl X μ' ρ' bH σ' H'/\SK X μ' H' D (oz f g k.2 (k.1.drop i) ρ' bH),
  ⟨_,cU _,rfl,μ1,ρ,st1,al _,eE.refl,l1,h1⟩,?_⟩
 rintro i m σ' H' ⟨hi,rfl,μ',ρ',bH,pm,xm,lm,hm⟩
 by_cases oN:i<k.1.length
 ·rw[fw oN]at hm
  unfold oz at hm
  by_cases ck:ii bH k.2
  ·rw[aD ck]at hm
   obtain⟨go,yld⟩:=(wk i μ' bH H' pm xm lm.sto ck).1 _ (ac oN)
   cases hf:f k.1[i] ρ' with
   |none=>rw[hf]at hm;exact hm.elim
   |some ρ2=>
    rw[hf]at hm
    simp only at hm
    refine .inr ⟨go,fun σ2 H2=>∃μ2 ρ3 cZ,μ' <+: μ2/\eE X.K H' H2/\Rl X μ2 ρ3 cZ σ2 H2/\SK X μ2 H2 D (oz f g k.2 (k.1.drop (i+1)) ρ3 cZ),fun σ2 H2 ⟨μ2,ρ3,cZ,q1,q2,q3,q4⟩=>
     ⟨_,by omega,oN,rfl,μ2,ρ3,cZ,pm.trans q1,xm.trans q2,q3,q4⟩,fun x H2 hy=>?_⟩
    obtain⟨y1,y2,y3⟩:=yld x H2 hy
    refine⟨μ',ρ',bH,k.1[i],ρ2,lm.to (al _) y1 y2,y3,hf,fun σ2 l2=>⟨μ',ρ2,bH,l2,?_⟩⟩
    cases e:g ρ2 bH with
    |nx ρ3 j0=>rw[e]at hm;exact fun μ4 σ4 H4 p4 x4 l4=>⟨μ4,ρ3,j0,p4,y1.trans x4,l4,SK.mono hm p4 (y1.trans x4)⟩
    |ct ρ3 j0=>rw[e]at hm;exact fun μ4 σ4 H4 p4 x4 l4=>⟨μ4,ρ3,j0,p4,y1.trans x4,l4,SK.mono hm p4 (y1.trans x4)⟩
    |bk ρ3 j0=>rw[e]at hm;exact fun μ4 σ4 H4 p4 x4 l4=>hm μ4 σ4 H4 p4 (y1.trans x4) l4
    |rt w j0=>rw[e]at hm;exact fun μ4 v4 H4 p4 x4=>hm μ4 v4 H4 p4 (y1.trans x4)
    |ex c ρ3 j0=>rw[e]at hm;exact XS.mono hm (al _) y1
    |bad=>rw[e]at hm;exact hm
  ·rw[aQ ck]at hm;exact hm.elim
 ·have hi':i=k.1.length:=by omega
  subst hi'
  rw[iE (aA _)]at hm
  unfold oz at hm
  by_cases ck:ii bH k.2
  ·rw[aD ck]at hm
   exact .inl ⟨(wk _ μ' bH H' pm xm lm.sto ck).2 (aA _),hm μ' σ' H' (al _) eE.refl lm⟩
  ·rw[aQ ck]at hm;exact hm.elim⟩
def fO(t:FT)(body:FS):Nat->FS
 |0,_,_=>.bad
 |n+1,ρ,st=>(t ρ st).stmt ρ fun k st=>if k then(match body ρ st with
   |.nx ρ2 cZ=>fO t body n ρ2 cZ
   |.ct ρ2 cZ=>fO t body n ρ2 cZ
   |.bk ρ2 cZ=>.nx ρ2 cZ
   |.rt w cZ=>.rt w cZ
   |.ex c ρ2 cZ=>.ex c ρ2 cZ
   |.bad=>.bad)else .nx ρ st
open Classical in
def mH(t:FT)(body:FS):FS:=fun ρ st=>if h:∃n,fO t body n ρ st≠.bad then fO t body h.choose ρ st else .bad
theorem mI(t:FT)(g:FS):∀(n:Nat) (ρ:cB) (st:List am),fO t g n ρ st≠.bad->fO t g (n+1) ρ st=fO t g n ρ st
 |0,_,_,h=>absurd rfl h
 |n+1,ρ,st,h=>by
  unfold fO at h ⊢
  cases e:t ρ st with
  |ex c st1=>rfl
  |bad=>rfl
  |ok k st1=>
   rw[e]at h
   simp only[R.stmt_ok]at h ⊢
   cases k with
   |false=>rfl
   |true=>
    simp only[gi]at h ⊢
    cases e2:g ρ st1 with
    |nx ρ2 cZ=>rw[e2]at h;exact mI t g n ρ2 cZ h
    |ct ρ2 cZ=>rw[e2]at h;exact mI t g n ρ2 cZ h
    |_=>rfl
theorem tP{t:FT}{g:FS}{n m:Nat}{ρ:cB}{st:List am}(h:fO t g n ρ st≠.bad)(hm:n<=m):fO t g m ρ st=fO t g n ρ st:=by
 induction hm with
 |refl=>rfl
 |@step m _ ih=>rw[mI t g m ρ st (by rw[ih];exact h),ih]
theorem BY{t:FT}{g:FS}{n:Nat}{ρ:cB}{st:List am}{r:RS}(h:fO t g n ρ st=r)(hr:r≠.bad):mH t g ρ st=r:=by
 have hx:∃n,fO t g n ρ st≠.bad:=⟨n,by rw[h];exact hr⟩
 unfold mH
 rw[dif_pos hx]
 have c:=hx.choose_spec
 have a:=tP c (Nat.le_max_left hx.choose n)
 have b:=tP (n:=n) (m:=max hx.choose n) (by rw[h];exact hr) (Nat.le_max_right _ _)
 rw[<- a,b,h]
theorem wZ{X:Cx}{t:FT}{g:FS}{D:uC}:∀(n:Nat) (σ:St) (H:Hp) (μ:List Addr) (ρ:cB) (st:List am),Rl X μ ρ st σ H->SK X μ H D (fO t g n ρ st)->C3 (tT X t) (Rs X g) D σ H:=by
 intro n σ H μ ρ st l h
 refine⟨fun m σ' H'=>∃μ' ρ' bH,Rl X μ' ρ' bH σ' H'/\SK X μ' H' D (fO t g m ρ' bH),⟨n,μ,ρ,st,l,h⟩,?_⟩
 rintro m σ' H' ⟨μ',ρ',bH,l',h'⟩
 cases m with
 |zero=>exact h'.elim
 |succ m=>
  refine⟨μ',ρ',bH,l',RK.stmt h' l' fun μ1 st1 k v H1 p1 x1 l1 q1 h1=>?_⟩
  cases q1
  cases k with
  |false=>exact h1 μ1 σ' H1 (al _) eE.refl l1
  |true=>
   refine⟨fun σ2 H2=>∃μ2 ρ2 cZ,Rl X μ2 ρ2 cZ σ2 H2/\SK X μ2 H2 D (fO t g m ρ2 cZ),fun σ2 H2 z=>⟨m,iO m,z⟩,μ1,ρ',st1,l1,?_⟩
   simp only[gi]at h1
   cases e:g ρ' st1 with
   |nx ρ3 j0=>rw[e]at h1;exact fun μ4 σ4 H4 p4 x4 l4=>⟨μ4,ρ3,j0,l4,SK.mono h1 p4 x4⟩
   |ct ρ3 j0=>rw[e]at h1;exact fun μ4 σ4 H4 p4 x4 l4=>⟨μ4,ρ3,j0,l4,SK.mono h1 p4 x4⟩
   |bk ρ3 j0=>rw[e]at h1;exact h1
   |rt w j0=>rw[e]at h1;exact h1
   |ex c ρ3 j0=>rw[e]at h1;exact h1
   |bad=>rw[e]at h1;exact h1
theorem w6{t:FT}(hc:ST X c t)(hb:SB X body g)(hp:PassesOwn (model X.prog X.w) X.A X.env X.xe:=by passes_own):SS X (.While c body [] pos) (mH t g):=⟨(C4 hp hc.h hb.h).imp fun D σ H h=>by
 obtain⟨μ,ρ,st,l,h⟩:=h
 unfold mH at h
 by_cases hx:∃n,fO t g n ρ st≠.bad
 ·rw[dif_pos hx]at h;exact wZ _ σ H μ ρ st l h
 ·rw[dif_neg hx]at h;exact h.elim⟩
def DL(fe:FE):FI:=fun ρ st=>(fe ρ st).bind fun x st=>match x with
 |.tup ws=>.ok (ws,none) st
 |_=>.bad
theorem DM(he:SE X e fe):SI X tg e (DL fe):=⟨(K' he.h).imp fun σ H R h=>by
 obtain⟨μ,ρ,st,l,h⟩:=h
 refine⟨μ,ρ,st,l,RK.bind h l fun μ1 st1 x v H1 p1 x1 l1 q1 h1=>?_⟩
 cases x with
 |tup ws=>
  obtain⟨p,vs,rfl,hS,r⟩:=q1.tupE
  refine⟨p,rfl,⟨vs,hS⟩,h1 μ1 _ H1 (al _) eE.refl l1.sto fun i μ' bH H' pp xx S _=>⟨fun w hw=>?_,fun hl=>⟨vs,xx _ _ hS,by rw[<- r.len];exact hl⟩⟩⟩
  have r':=r.mono pp xx
  obtain⟨v,g1,g2⟩:=r'.get hw
  refine⟨⟨vs,v,xx _ _ hS,g1⟩,fun y H'' hy=>?_⟩
  obtain⟨rfl,hy⟩:=hy
  have:=hy vs (xx _ _ hS)
  rw[g1]at this;cases this
  exact⟨eE.refl,S,g2⟩
 |_=>exact h1.elim⟩
def Jy(fe:FE):FI:=fun ρ st=>(fe ρ st).bind fun x st=>match x with
 |.loc n=>(match lstOf st n with
  |some ws=>.ok (ws,some (n,ws)) st
  |none=>.bad)
 |_=>.bad
theorem LV(he:SE X e fe):SI X tg e (Jy fe):=⟨(Hg he.h).imp fun σ H R h=>by
 obtain⟨μ,ρ,st,l,h⟩:=h
 refine⟨μ,ρ,st,l,RK.bind h l fun μ1 st1 x v H1 p1 x1 l1 q1 h1=>?_⟩
 cases x with
 |loc n=>
  obtain⟨a,ha,rfl⟩:=q1.locE
  simp only at h1
  cases e1:lstOf st1 n with
  |none=>rw[e1]at h1;exact h1.elim
  |some ws=>
   rw[e1]at h1
   obtain⟨a',vs0,g0,hS0,r0⟩:=l1.sto.lstOf e1
   rw[ha]at g0;cases g0
   refine⟨a,rfl,⟨vs0,hS0⟩,h1 μ1 _ H1 (al _) eE.refl l1.sto fun i μ' bH H' pp xx S ck=>?_⟩
   obtain⟨a2,vs,g2,hS,r⟩:=S.lstOf (show lstOf bH n=some ws from ck)
   have:μ'[n]?=some a:=pre_get pp ha
   rw[g2]at this;cases this
   refine⟨fun w hw=>?_,fun hl=>⟨vs,hS,by rw[<- r.len];exact hl⟩⟩
   obtain⟨v,g1,g3⟩:=r.get hw
   refine⟨⟨vs,v,hS,g1⟩,fun y H'' hy=>?_⟩
   obtain⟨rfl,hy⟩:=hy
   have:=hy vs hS
   rw[g1]at this;cases this
   exact⟨eE.refl,S,g3⟩
 |_=>exact h1.elim⟩
def c8(lo:Int)(n:Nat):List W:=(List.range n).map fun(i:Nat)=>W.int (lo+i)
theorem cE(lo:Int)(n:Nat):(c8 lo n).length=n:=by simp[c8]
theorem q5{μ:List Addr}{H:Hp}{lo:Int}{n:Nat}:zf X (OC lo n) (c8 lo n,none) μ H:=fun i μ' bH H' pp xx S _=>by
 refine⟨fun w hw=>?_,fun hl=>by rw[cE]at hl;exact hl⟩
 have hi:i<n:=by
  have:=(aa.mp hw).1
  rw[cE]at this;exact this
 refine⟨hi,fun y H'' hy=>?_⟩
 obtain⟨rfl,rfl⟩:=hy
 have e:w=.int (lo+i):=by
  unfold c8 at hw
  rw[aB,gM hi]at hw
  exact(a_ hw).symm
 subst e
 exact⟨eE.refl,S,.int⟩
def bY(fs:FA):FI:=fun ρ st=>(fs ρ st).bind fun ws st=>match ws with
 |[.int j]=>if -(2^62)<=j/\j<2^62 then .ok (c8 0 j.toNat,none) st else .bad
 |_=>.bad
def oA(fs:FA):FI:=fun ρ st=>(fs ρ st).bind fun ws st=>match ws with
 |[.int i,.int j]=>if -(2^62)<=i/\i<2^62/\-(2^62)<=j/\j<2^62 then .ok (c8 i (j-i).toNat,none) st else .bad
 |_=>.bad
theorem dq(hm:X.mg "range"=none)(ha:SA X [a] fs)(hg:Gl X "range":=by rfl)(hs:starEach [a] X.env=[(false,eval a X.env)]:=by rfl):SI X tg (.Call (.Name "range" p) [a] [] pos) (bY fs):=⟨(Bw hg hm ha.h hs).imp fun σ H R h=>by
 obtain⟨μ,ρ,st,l,h⟩:=h
 refine⟨μ,ρ,st,l,RK.bind h l fun μ1 st1 x v H1 p1 x1 l1 q1 h1=>?_⟩
 split at h1
 ·obtain⟨y,rfl,ry⟩:=q1.one
  split at h1
  ·rename_i c
   exact⟨_,by rw[ry.intE],c.1,c.2,h1 μ1 _ H1 (al _) eE.refl l1.sto q5⟩
  ·exact h1.elim
 ·exact h1.elim⟩
theorem BZ(hm:X.mg "range"=none)(ha:SA X [a,b] fs)(hg:Gl X "range":=by rfl)(hs:starEach [a,b] X.env=[(false,eval a X.env),(false,eval b X.env)]:=by rfl)(uA:starEach [b] X.env=[(false,eval b X.env)]:=by rfl):SI X tg (.Call (.Name "range" p) [a,b] [] pos) (oA fs):=⟨(Bx hg hm ha.h hs uA).imp fun σ H R h=>by
 obtain⟨μ,ρ,st,l,h⟩:=h
 refine⟨μ,ρ,st,l,RK.bind h l fun μ1 st1 x v H1 p1 x1 l1 q1 h1=>?_⟩
 split at h1
 ·obtain⟨y,z,rfl,ry,rz⟩:=q1.two
  split at h1
  ·rename_i c
   exact⟨_,_,by rw[ry.intE,rz.intE],c,h1 μ1 _ H1 (al _) eE.refl l1.sto q5⟩
  ·exact h1.elim
 ·exact h1.elim⟩
end
mutual
def W.und(n:Nat):W->Bool
 |.loc m=>decide (m<n)
 |.tup ws=>undWs n ws
 |_=>true
def undWs(n:Nat):List W->Bool
 |[]=>true
 |w::ws=>w.und n&&undWs n ws
end
def am.und(n:Nat):am->Bool
 |.lst ws=>undWs n ws
 |.ro ws=>undWs n ws
 |.exc _=>true
 |.dct kvs=>undWs n (kvs.map fun p=>p.2)
 |.rod kvs=>undWs n (kvs.map fun p=>p.2)
 |.tab _ _ _=>true
section
variable{K:Frag}{mg:Str->Option Value}{μ μ':List Addr}{H H':Hp}
mutual
theorem bF.und:∀{w:W} {v:V},bF K μ H w v->w.und μ.length=true
 |.non,_,_=>by simp[W.und]
 |.bl _,_,_=>by simp[W.und]
 |.int _,_,_=>by simp[W.und]
 |.str _,_,_=>by simp[W.und]
 |.tup _,_,r=>by obtain⟨p,vs,_,_,c⟩:=r.tupE;unfold W.und;exact RelWs.und c
 |.loc _,_,r=>by obtain⟨a,e,_⟩:=r.locE;unfold W.und;exact a8 (aa.mp e).1
theorem RelWs.und:∀{ws:List W} {vs:List V},RelWs K μ H ws vs->undWs μ.length ws=true
 |[],_,_=>by unfold undWs;rfl
 |_::_,_,r=>by obtain⟨x,xs,_,b,c⟩:=r.consE;unfold undWs;rw[bF.und b,RelWs.und c];rfl
end
mutual
theorem bF.take{n:Nat}:∀{w:W} {v:V},bF K μ H w v->w.und n=true->bF K (μ.take n) H w v
 |.non,_,r,_=>by rw[r.nonE];exact .non
 |.bl _,_,r,_=>by rw[r.blE];exact .bl
 |.int _,_,r,_=>by rw[r.intE];exact .int
 |.str _,_,r,_=>by rw[r.strE];exact .str
 |.tup _,_,r,b=>by obtain⟨p,vs,rfl,h,c⟩:=r.tupE;unfold W.und at b;exact .tupI h (RelWs.takeN c b)
 |.loc _,_,r,b=>by obtain⟨a,e,rfl⟩:=r.locE;unfold W.und at b;exact .locI (by rw[aN (iD b)];exact e)
theorem RelWs.takeN{n:Nat}:∀{ws:List W} {vs:List V},RelWs K μ H ws vs->undWs n ws=true->RelWs K (μ.take n) H ws vs
 |[],_,r,_=>by rw[r.nilE];exact .nilI
 |_::_,_,r,b=>by
  obtain⟨x,xs,rfl,b1,c1⟩:=r.consE
  unfold undWs at b
  rw[cw]at b
  exact .consI (bF.take b1 b.1) (RelWs.takeN c1 b.2)
end
theorem j9.und{c:am}{a:Addr}(r:j9 K mg μ H c a):c.und μ.length=true:=by
 cases c with
 |lst ws=>obtain⟨vs,_,y⟩:=r;exact y.und
 |ro ws=>obtain⟨vs,_,y⟩:=r;exact y.und
 |exc c=>rfl
 |dct kvs=>obtain⟨vs,_,y⟩:=r;exact y.und
 |rod kvs=>obtain⟨vs,_,_,y⟩:=r;exact y.und
 |tab _ _ _=>rfl
theorem j9.take{n:Nat}{c:am}{a:Addr}(r:j9 K mg μ H c a)(b:c.und n=true):j9 K mg (μ.take n) H c a:=by
 cases c with
 |lst ws=>obtain⟨vs,x,y⟩:=r;exact⟨vs,x,y.takeN b⟩
 |ro ws=>obtain⟨vs,x,y⟩:=r;exact⟨vs,x,y.takeN b⟩
 |exc c=>exact r
 |dct kvs=>obtain⟨vs,x,y⟩:=r;exact⟨vs,x,y.takeN b⟩
 |rod kvs=>obtain⟨vs,o,x,y⟩:=r;exact⟨vs,o,x,y.takeN b⟩
 |tab _ _ _=>exact r
end
theorem e_.ex{P:Program}{w:World}{H:Hp}{h:Heap}{a:Addr}{o:HO}(x:e_ P w H h a o):∃ob,h.get? a=some ob:=by
 cases o with
 |lst xs=>obtain⟨_,_,_,_,e⟩:=x;exact⟨_,e⟩
 |tup xs=>obtain⟨_,_,_,o,e,_⟩:=x;exact⟨_,e⟩
 |dK kvs=>obtain⟨_,_,_,_,o,_,_,e,_⟩:=x;exact⟨_,e⟩
 |dT kvs=>obtain⟨_,_,_,_,o,_,_,e,_⟩:=x;exact⟨_,e⟩
 |set S n=>obtain⟨o,_,_,_,e,_⟩:=x;exact⟨_,e⟩
 |ins C dx fs=>obtain⟨_,_,_,e,_⟩:=x;exact⟨_,e⟩
 |own y=>obtain⟨_,e⟩:=x;exact⟨_,e⟩
 |xd fs=>obtain⟨_,⟨_,_,_,e,_⟩,_⟩:=x;exact⟨_,e⟩
 |rng lo hi=>obtain⟨_,_,_,e⟩:=x;exact⟨_,e⟩
 |frz ob u=>obtain⟨e,_⟩:=x;exact⟨_,e⟩
 |tbl ps=>exact⟨_,(show h.get? a=some _ from x)⟩
 |met f y=>exact⟨_,(show h.get? a=some _ from x)⟩
 |ext φ=>obtain⟨_,⟨_,e⟩,_⟩:=x;exact⟨_,e⟩
def Jz(st bH:List am)(ws:List W):Prop:=undWs st.length ws=true/\st.length<=bH.length/\∀(i:Nat),i<st.length->bH[i]?=st[i]?\/∃c,bH[i]?=some c/\c.und st.length=true
open Classical in
def j_(st bH:List am)(ws:List W):List am:=if Jz st bH ws then bH.take st.length else bH
theorem q9{K:Frag}{mg:Str->Option Value}{μ μ':List Addr}{H H':Hp}{st bH:List am}{ws:List W}{vs:List V}(S:h9 K mg μ st H)(S':h9 K mg μ' bH H')(p:μ <+: μ')(r:RelWs K μ' H' ws vs) :
  ∃μ2,μ <+: μ2/\h9 K mg μ2 (j_ st bH ws) H'/\RelWs K μ2 H' ws vs:=by
 unfold j_
 by_cases k:Jz st bH ws
 ·rw[aD k]
  obtain⟨k1,k2,k3⟩:=k
  have e:μ'.take st.length=μ:=by
   obtain⟨t,rfl⟩:=p
   rw[S.len,fR]
  refine⟨μ'.take st.length,by rw[e];exact al _,⟨fun i j a ci cj h1 h2 r1 r2 m1 m2=>?_,by rw[aY,aY,S'.len],fun i c a h1 h2=>?_⟩,r.takeN k1⟩
  ·have hi:i<st.length:=by have:=(aa.mp h1).1;rw[aY]at this;omega
   have hj:j<st.length:=by have:=(aa.mp h2).1;rw[aY]at this;omega
   rw[aN hi]at h1 m1
   rw[aN hj]at h2 m2
   exact S'.nd i j a ci cj h1 h2 r1 r2 m1 m2
  ·have hi:i<st.length:=by have:=(aa.mp h1).1;rw[aY]at this;omega
   rw[aN hi]at h1 h2
   refine(S'.at' i c a h1 h2).take ?_
   rcases k3 i hi with q|⟨c',q,b⟩
   ·rw[h1]at q
    obtain⟨a0,g0,r0⟩:=S.get q.symm
    have:=r0.und
    rw[S.len];exact this
   ·rw[h1]at q;cases q;exact b
 ·rw[aQ k]
  exact⟨μ',p,S',r⟩
def du(N:Nat)(body:FS)(ws:List W)(st:List am):R W:=match body (ws.map some++List.replicate (N-ws.length) none) st with
 |.rt w bH=>.ok w (j_ st bH [w])
 |.nx _ bH=>.ok .non (j_ st bH [])
 |.ex c _ bH=>.ex c (j_ st bH [])
 |_=>.bad
def iH(P:Program)(w:World):GR:=fun outer H s E e s'=>∃x C t B H',e=.ref x/\E C none H'/\s'.os=s.os/\AllBare s'.gens/\Un (qm outer) [] H H' s.heap s'.heap/\nK P w H' s'.heap/\H' x=none/\Heap.FlyingW B outer x C (.ref t) s'.heap /\
 ∀b o,s'.heap.get? b=some o->(H' b≠none\/((∃o0,s.heap.get? b=some o0)/\b∉qm outer))->B.get? b=some o
def iL(K:Frag)(mg:Str->Option Value)(n:Nat)(F:List W->List am->R W):Sp:=fun vs H Q E=>vs.length=n/\∃μ ws st,h9 K mg μ st H/\RelWs K μ H ws vs/\(match F ws st with
 |.ok w bH=>∀μ' v H',μ <+: μ'->eE K H H'->h9 K mg μ' bH H'->bF K μ' H' w v->Q v H'
 |.ex c bH=>∀C μ' H',mg c=some C->μ <+: μ'->eE K H H'->h9 K mg μ' bH H'->E C none H'
 |.bad=>False)
theorem tL.noted{X:Cx}{pins:List (Addr×Obj)}{σ:St}{c:Str}{H:Hp}{e:Value}{s:Shared}{Q:Unit->Shared->Prop}{E:Value->Shared->Prop}{M:Model}{outer:List Env}(f:tL X pins σ c H e s)(p9:X.stack=X.env::outer)(zZ:X.env.frame=some X.env.locals)(hA:X.A.frames=some X.stack)
  (h:∀x C t B h',e=.ref x->X.mg c=some C->H x=none->Heap.FlyingW B X.stack x C (.ref t) h'->s.heap.UpToSlots h' ->
   (∀b o,s.heap.get? b=some o->(H b≠none\/((∃o0,X.s₀.heap.get? b=some o0)/\b∉X.fs/\b∉X.ex)\/((∃y,X.env.cells.lookup y=some b)/\b∉qm X.stack)\/∃p∈X.pn++pins,p.1=b)->B.get? b=some o)->Q () { s with heap:=h' }) :
  wpAny M X.A (leaving X.env e) Q E s:=by
 obtain⟨x,C,t,B,rfl,hC,hx,st,nx,ff,tr,cov⟩:=f.ex
 rw[p9]at ff hA
 rcases tr with tr|⟨oe,vs,he,rfl,_,hd,h1,h0⟩|⟨L,hL,tr⟩
 ·refine wpAny_leaving_nextW hA ff zZ tr st nx fun h' hL=>?_
  obtain⟨k1,k2,k3,k4⟩:=hL
  exact h x C t B h' rfl hC hx ⟨k1,nx,by rw[p9];exact k2,k3⟩ k4 cov
 ·refine wpAny_leaving_firstW hA ff zZ he st nx hd h1 h0 fun h' hL=>?_
  obtain⟨k1,k2,k3,k4⟩:=hL
  exact h x _ t B h' rfl hC hx ⟨k1,nx,by rw[p9];exact k2,k3⟩ k4 cov
 ·unfold leaving
  refine ag (wpAny_noteFrame_againW hL tr (wpAny_landsW ⟨st,nx,ff,tr⟩ fun h' fl up=>?_))
  exact h x C t B h' rfl hC hx (by rw[p9];exact fl) up cov
theorem tL.leaves{X:Cx}{pins:List (Addr×Obj)}{σ:St}{c:Str}{H:Hp}{e:Value}{s:Shared}{E:XK}{E':Value->Shared->Prop}{M:Model}(f:tL X pins σ c H e s)(p9:X.stack=X.env::X.outer)(zZ:X.env.frame=some X.env.locals)(hA:X.A.frames=some X.stack)(Sy:X.ex=[])
  (hE:∀C,X.mg c=some C->E C none H):wpAny M X.A (leaving X.env e) (fun _ s''=>iH X.prog X.w X.outer X.H₀ X.s₀ E e s'') E' s:=by
 refine f.noted p9 zZ hA fun x C t B h' he hC hx fl up cov=>?_
 have I:=f.inv
 have un:=I.base
 rw[Sy]at un
 have fsE:X.fs=qm X.outer:=rfl
 obtain⟨f1,f2,f3,f4⟩:=fl
 rw[p9]at f3
 obtain⟨_,_,f3'⟩:=f3
 have frames:∀b∈qm X.outer,∀o,s.heap.get? b=some o->∃sl,h'.get? b=some { o with slots:=sl }:=fun b hb o ho=>by
  obtain⟨_,o',ho',hd⟩:=I.funs.mem hb
  rw[ho]at ho';cases ho'
  exact up b o ho hd
 have kept:∀b o,s.heap.get? b=some o->(∃o0,X.s₀.heap.get? b=some o0)->b∉qm X.outer->h'.get? b=some o:=fun b o ho h0 hb=>f1 b o (cov b o ho (.inr (.inl ⟨h0,hb,by rw[Sy];simp⟩)))
 have keptH:∀b o,s.heap.get? b=some o->H b≠none->h'.get? b=some o:=fun b o ho h0=>f1 b o (cov b o ho (.inl h0))
 refine⟨x,C,t,B,H,he,hE C hC,I.os,I.bare,⟨fun b o q n hb hx=>?_,fun b o q n hb hx=>?_,fun b o q n hx=>un.free b o q n hx,fun b o q hx=>?_,un.tups,un.frzs,un.tbls⟩,fun b u hb=>?_,hx,⟨f1,f2,f3',f4⟩,fun b o ho hr=>?_⟩
 ·exact kept b o (un.keep b o q n hb hx) ⟨o,q⟩ hb
 ·obtain⟨sl,q1⟩:=un.slot b o q n hb hx
  obtain⟨CG,q2⟩:=frames b hb _ q1
  exact⟨CG,q2⟩
 ·obtain⟨o',q1⟩:=un.there b o q hx
  by_cases hb:b∈qm X.outer
  ·obtain⟨CG,q2⟩:=frames b hb _ q1;exact⟨_,q2⟩
  ·exact⟨o',kept b o' q1 ⟨o,q⟩ hb⟩
 ·refine(I.hok b u hb).stay (fun c v hc q=>?_) (fun _ q=>q) fun _ _ q=>q
  refine keptH c v q ?_
  rcases hc with rfl|hc
  ·rw[hb];simp
  ·rw[hc];simp
 ·rcases hr with hr|⟨⟨o0,h0⟩,hb⟩
  ·cases hu:H b with
   |none=>exact absurd hu hr
   |some u=>
    have lt:=I.hok.lt hu
    obtain⟨ob,GD⟩:∃ob,s.heap.get? b=some ob:=by
     exact(I.hok b u hu).ex
    have:=keptH b ob GD hr
    rw[ho]at this;cases this
    exact cov b o GD (.inl hr)
  ·obtain⟨o',q1⟩:=un.there b o0 h0 (by simp)
   have:=kept b o' q1 ⟨o0,h0⟩ hb
   rw[ho]at this;cases this
   exact cov b o q1 (.inr (.inl ⟨⟨o0,h0⟩,hb,by rw[Sy];simp⟩))
structure bP(P:Program)(w:World)(K:Frag)(mg:Str->Option Value)(base:Heap)(k:Nat)(x:Str)(n:Nat)(F:List W->List am->R W):Prop where
 ex:∃(f:Addr) (fd:FuncData) (ps:List Str),mg x=some (.ref f)/\keepIn K (.ref f)=true/\ps.length=n/\wA K fd ps []/\dG P w K mg base (iH P w) k f fd ps (iL K mg n F)
theorem bP.mono{P:Program}{w:World}{K:Frag}{mg:Str->Option Value}{base:Heap}{j k:Nat}{x:Str}{n:Nat}{F:List W->List am->R W}(h:bP P w K mg base j x n F)(hj:j<=k):bP P w K mg base k x n F:=by
 obtain⟨f,fd,ps,a,b,c,d,e⟩:=h.ex
 exact⟨f,fd,ps,a,b,c,d,e.mono hj⟩
def cC(n:Nat)(F:List W->List am->R W)(fs:FA):FE:=fun ρ st=>(fs ρ st).bind fun ws st=>if ws.length=n then F ws st else .bad
section
variable{X:Cx}
theorem PH{k n:Nat}{f:Addr}{fd:FuncData}{ps:List Str}{F:List W->List am->R W}{pins:List (Addr×Obj)}{σ:St}{H:Hp}{s:Shared}{Q:VK}{us:List Value}{vs:List V}{μ:List Addr}{st:List am}{ws:List W}
  (Fn:dG X.prog X.w X.K X.mg X.base (iH X.prog X.w) k f fd ps (iL X.K X.mg n F)) (hn:ps.length=n) (hr:h_ k X.A) (hb:wA X.K fd ps []) (I:bE X pins σ H s) (S:h9 X.K X.mg μ st H) (r:RelWs X.K μ H ws vs) (rv:cJ vs us) (hl:ws.length=n)
  (h:RK X (sN X) μ σ H Q (F ws st)):wpAny (model X.prog X.w) X.A (call (.ref f) us) (EP X pins σ Q) X.xe s:=by
 have hl':(us++([]:List Value)).length=ps.length:=by rw[fz,<- rv.length,<- r.len,hl,hn]
 cases e:F ws st with
 |bad=>rw[e]at h;exact h.elim
 |ok w bH=>
  rw[e]at h
  refine wpAny_call (lK (Fn.run X.A X.stack s H ⟨us,[]⟩ us vs Q (fun _ _ _=>False) hr I.env0 (by have:=hb s us I.kIn hl';rwa[fz]at this) rv ⟨by rw[<- r.len];exact hl,μ,ws,st,S,r,by rw[e];exact h⟩) fun r s' hq=>?_)
  cases r with
  |error e=>obtain⟨_,_,_,_,_,_,z,_⟩:=hq;exact z.elim
  |ok fl=>
   cases fl with
   |ret u=>exact I.after hq
   |next=>exact False.elim hq
   |brk=>exact False.elim hq
   |cont=>exact False.elim hq
 |ex c bH=>
  rw[e]at h
  refine wpAny_call (lK (Fn.run X.A X.stack s H ⟨us,[]⟩ us vs (fun _ _=>False) (fun C _ H'=>X.mg c=some C/\∃μ',μ <+: μ'/\eE X.K H H'/\h9 X.K X.mg μ' bH H') hr I.env0 (by have:=hb s us I.kIn hl';rwa[fz]at this) rv
   ⟨by rw[<- r.len];exact hl,μ,ws,st,S,r,by rw[e];exact fun C μ' H' hC p x S'=>⟨hC,μ',p,x,S'⟩⟩) fun r s' hq=>?_)
  cases r with
  |ok fl=>
   cases fl with
   |ret u=>obtain⟨_,_,_,_,_,_,_,z⟩:=hq;exact z.elim
   |next=>exact False.elim hq
   |brk=>exact False.elim hq
   |cont=>exact False.elim hq
  |error ev=>
   obtain⟨x,C,t,B,H',rfl,⟨hC,μ',p,xx,S'⟩,os,bare,un,hok,hx,fl,cov⟩:=hq
   have I':bE X pins σ H' s':=I.call' os un hok bare fun b hb=>absurd hb (by simp)
   refine h pins μ' H' (.ref x) s' p xx S' ⟨I',x,C,t,B,rfl,hC,hx,fl.1,fl.2.1,fl.2.2.1,.inl fl.2.2.2,fun b o ho hrel=>?_⟩
   refine cov b o ho ?_
   rcases hrel with q|⟨⟨o0,h0⟩,hb,hbx⟩|⟨⟨y,hy⟩,hb⟩|⟨pp,hp,rfl⟩
   ·exact .inl q
   ·refine .inr ⟨?_,fun z=>?_⟩
    ·obtain⟨o',q1⟩:=I.base.there b o0 h0 hbx
     exact⟨o',q1⟩
    ·rcases br.mp (I.stkSub b z)with z|z
     ·rw[z]at h0
      exact absurd (aX (aG h0) I.ok.above) (bD _)
     ·exact hb z
   ·obtain⟨v,ov,hov,_⟩:=I.cell y b hy
    exact .inr ⟨⟨_,hov⟩,hb⟩
   ·obtain⟨g1,g2,g3,g4,_⟩:=I.pin pp hp
    refine .inr ⟨⟨_,g1⟩,fun z=>?_⟩
    rcases br.mp (I.stkSub _ z)with z|z
    ·exact g3 z
    ·exact g4 z
variable{e:Expr}{es:List Expr}{pos p:Pos}{x:Str}{fs:FA}
theorem bS{k k' n:Nat}{F:List W->List am->R W}(Fn:bP X.prog X.w X.K X.mg X.base k x n F)(hr:h_ k' X.A)(hk:k<=k')(ha:SA X (e::es) fs)(hg:Gl X x:=by rfl)(Jd:(x==("__debug__":Str))=false:=by decide)
  (he:starEach (e::es) X.env=(false,eval e X.env)::starEach es X.env:=by rfl) (qJ:(backTo pos (starEach es X.env)).any (·.1)=false:=by rfl):SE X (.Call (.Name x p) (e::es) [] pos) (cC n F fs):=⟨by
 intro pins s σ H Q I h
 obtain⟨f,fd,ps,hm,hkp,hn,hb,Fo⟩:=(Fn.mono hk).ex
 refine hJ (uD I hg hm ?_ Jd)
 obtain⟨μ,ρ,st,l,h⟩:=h
 have h':Se X fs σ H fun vs H1=>∃μ1 st1 ws,Rl X μ1 ρ st1 σ H1/\RelWs X.K μ1 H1 ws vs/\RK X (sN X) μ1 σ H1 Q (if ws.length=n then F ws st1 else .bad):=
  ⟨μ,ρ,st,l,RK.bind h l fun μ1 st1 x v H1 p1 x1 l1 q1 h1=>⟨μ1,st1,x,l1,q1,h1⟩⟩
 refine PySem.W.callWith_K (h₀:=X.base) I.ok.mod.kin hkp (fY (ha.h pos pins s σ H _ I h') fun us s1 ⟨vs,H1,I1,r,μ1,st1,ws,l1,r1,q⟩=>⟨I1.kIn,?_⟩) he qJ
 by_cases c:ws.length=n
 ·rw[aD c]at q
  exact PH Fo hn hr hb I1 l1.sto r1 r c q
 ·rw[aQ c]at q;exact q.elim⟩
end
theorem AN{P:Program}{w:World}{K:Frag}{mg:Str->Option Value}{base:Heap}{x qual:Str}{st:Stmt}{f:Addr}{fd:FuncData}{N ps:List Str}{k n:Nat}{g:FS}(F:iI K x qual st f fd)(S:bq N ps (aV st))(hn:ps.length=n)
  (yC:∀(fL:Value) (A:Around) (outer:List Env) (s:Shared) (H:Hp) (E:XK),fd.code=fL->h_ k (A.deeper (envOfC qual (aV st) s.heap.objs.size f fL)) ->
   SB (yP (iH P w) P w K mg base N qual (aV st) f fL A outer s H E) (gC st) g):dG P w K mg base (iH P w) (k+1) f fd ps (iL K mg n (du N.length g)):=by
 obtain⟨oc,od,kV,qH,pm,an,fL,ct,KJ,rfl,lk,mW⟩:=F.ex
 refine OP lk mW S (fun vs H Q E h=>by rw[hn];exact h.1) fun A outer s H vs Q E hr Oh=>?_
 obtain⟨hl,μ,ws,RC,Sr,r,h⟩:=Oh
 refine⟨_,(yC fL A outer s H E rfl hr).h,μ,ws.map some++List.replicate (N.length-ws.length) none,RC,⟨?_,Sr⟩,?_⟩
 ·unfold pM
  rw[<- r.len]
  have base:∀(ws:List W) (vs:List V) (m:Nat),RelWs K μ H ws vs->Paired (fun(o:Option W) (s:Option V)=>∀w,o=some w->∃v,s=some v/\bF K μ H w v) (ws.map some++List.replicate m none) (vs.map some++List.replicate m none):=by
   intro ws
   induction ws with
   |nil=>
    intro vs m r
    rw[r.nilE]
    induction m with
    |zero=>exact .nil
    |succ m ih=>exact .cons (fun w z=>nomatch z) ih
   |cons w ws ih=>
    intro vs m r
    obtain⟨y,ys,rfl,ry,rys⟩:=r.consE
    exact .cons (fun w' z=>⟨y,rfl,by cases z;exact ry⟩) (ih ys m rys)
  exact base ws vs _ r
 ·unfold du at h
  cases e:g (ws.map some++List.replicate (N.length-ws.length) none) RC with
  |rt w bH=>
   rw[e]at h
   intro μ' v H' p x S' kn
   obtain⟨μ2,p2,S2,r2⟩:=q9 Sr S' p (.consI kn .nilI)
   obtain⟨_,e2,r3⟩:=r2.one
   cases e2
   exact h μ2 v H' p2 x S2 r3
  |nx ρ' bH=>
   rw[e]at h
   intro μ' σ' H' p x l'
   obtain⟨μ2,p2,S2,_⟩:=q9 (ws:=[]) (vs:=[]) Sr l'.sto p .nilI
   exact h μ2 .non H' p2 x S2 .non
  |ex c ρ' bH=>
   rw[e]at h
   intro pins μ' σ' H' ev s' p x l' fl
   obtain⟨μ2,p2,S2,_⟩:=q9 (ws:=[]) (vs:=[]) Sr l'.sto p .nilI
   exact fl.leaves rfl rfl fl.inv.ok.frames rfl fun C hC=>h C μ2 H' hC p2 x S2
  |bk ρ' bH=>rw[e]at h;exact h.elim
  |ct ρ' bH=>rw[e]at h;exact h.elim
  |bad=>rw[e]at h;exact h.elim
theorem cp{P:Program}{w:World}{K:Frag}{mg:Str->Option Value}{base:Heap}{x qual:Str}{st:Stmt}{f:Addr}{fd:FuncData}{N ps:List Str}{k n:Nat}{g:FS}(F:iI K x qual st f fd)(S:bq N ps (aV st))(hn:ps.length=n)
  (yC:∀(fL:Value) (A:Around) (outer:List Env) (s:Shared) (H:Hp) (E:XK),h_ k (A.deeper (envOfC qual (aV st) s.heap.objs.size f fL)) ->
   SB (yP (iH P w) P w K mg base N qual (aV st) f fL A outer s H E) (gC st) g):dG P w K mg base (iH P w) (k+1) f fd ps (iL K mg n (du N.length g)):=AN F S hn fun fL A outer s H E _ hr=>yC fL A outer s H E hr
theorem uS{P:Program}{w:World}{K:Frag}{mg:Str->Option Value}{base:Heap}{k n:Nat}{x:Str}{st:Stmt}{f:Addr}{fd:FuncData}{ps:List Str}{G:List W->List am->R W}
  (F:iI K x x st f fd) (hm:mg x=some (.ref f)) (hn:ps.length=n)
  (hb:∀(kV qH pm:Value) (an:Option Addr) (fL ct:Value) (us:List Value),us.length=ps.length->bindArgs (fnOf x x (ia st) (gC st) (aV st) .none kV qH pm an fL ct) ⟨us,[]⟩=pure (ps.zip us))
  (ok:dG P w K mg base (iH P w) k f fd ps (iL K mg n G)):bP P w K mg base k x n G:=⟨f,fd,ps,hm,F.kp,hn,F.binds hb,ok⟩
theorem RelWs.split{K:Frag}{μ:List Addr}{H:Hp}:∀{as bs:List W} {vs:List V},RelWs K μ H (as++bs) vs->∃xs ys,vs=xs++ys/\RelWs K μ H as xs/\RelWs K μ H bs ys
 |[],_,vs,r=>⟨[],vs,rfl,.nilI,r⟩
 |w::as,bs,vs,r=>by
  obtain⟨x,xs,rfl,rx,rs⟩:=r.consE
  obtain⟨ys,zs,rfl,r1,r2⟩:=RelWs.split rs
  exact⟨x::ys,zs,rfl,.consI rx r1,r2⟩
section
variable{X:Cx}{a b c e o tg:Expr}{es:List Expr}{pos p p2 gq dM:Pos}{x name:Str}{fa fb fe fo:FE}{fs:FA}{id:String}
structure LW(X:Cx)(id:String)(F:W->List W->List am->R W):Prop where
 h:BF X id (fun x vs H Q=>∃μ st wx ws,h9 X.K X.mg μ st H/\bF X.K μ H wx x/\RelWs X.K μ H ws vs/\CM X μ H Q (F wx ws st))
 n:∀x ws st,qe (F x ws st)
def lZ(st:List am):W->Bool
 |.loc n=>(match st[n]? with|some (.lst _)=>true|_=>false)
 |_=>false
def DN:W->Bool
 |.str _=>true
 |_=>false
theorem w9{μ:List Addr}{st:List am}{H:Hp}{w:W}{v:V}(S:h9 X.K X.mg μ st H)(r:bF X.K μ H w v)(h:lZ st w=true):∃l ys,v=.ref l/\H l=some (.lst ys):=by
 cases w with
 |loc n=>
  obtain⟨a,ha,rfl⟩:=r.locE
  simp only[lZ]at h
  cases e1:st[n]? with
  |none=>rw[e1]at h;cases h
  |some cc=>
   rw[e1]at h
   cases cc with
   |lst ws=>obtain⟨a1,g1,vs,k1,_⟩:=S.get e1;rw[ha]at g1;cases g1;exact⟨_,vs,rfl,k1⟩
   |_=>cases h
 |_=>cases h
def kP(F:W->List W->List am->R W)(fo:FE)(fs:FA):FE:=fun ρ st=>(fo ρ st).bind fun x st=>if lZ st x then(fs ρ st).bind fun ws st=>F x ws st else .bad
def GT(F:W->List W->List am->R W)(fo:FE)(fs:FA):FE:=fun ρ st=>(fo ρ st).bind fun x st=>if DN x then(fs ρ st).bind fun ws st=>F x ws st else .bad
theorem j3{F:W->List W->List am->R W}(slot:Slot "list" name id)(yx:typeOf (.builtin id)=pure (.type "method_descriptor"))(hm:LW X id F)(ho:SE X o fo)(ha:SA X (e::es) fs)
  (kU:attributeBase o name X.env (eval o X.env)=eval o X.env:=by rfl)
  (v9:((backTo dM (starEach (e::es) X.env)).all (fun x=>!x.1)&&(backToKw dM (keywordEach [] X.env)).all (fun x=>x.1.isSome)
   && decide ((e::es).length+([]:List Keyword).length+(if ([]:List Keyword).isEmpty then 0 else 1)<30))=true:=by rfl)
  (kT:(gq.endLine==dM.line)=true:=by rfl) (hs:starEach (e::es) X.env=(false,eval e X.env)::starEach es X.env:=by rfl) (lE:(backTo dM (starEach es X.env)).any (·.1)=false:=by rfl) :
  SE X (.Call (.Attribute o name gq) (e::es) [] dM) (kP F fo fs):=⟨(Pc slot yx hm.h ho.h ha.h kU v9 kT hs lE).imp fun σ H Q h=>by
 obtain⟨μ,ρ,st,l,h⟩:=h
 refine⟨μ,ρ,st,l,RK.bind h l fun μ1 st1 x v H1 p1 x1 l1 q1 h1=>?_⟩
 by_cases c:lZ st1 x=true
 ·rw[aD c]at h1
  refine⟨w9 l1.sto q1 c,μ1,ρ,st1,l1,RK.bind h1 l1 fun μ2 cZ ws vs H2 p2 x2 l2 q2 h2=>?_⟩
  exact⟨μ2,cZ,x,ws,l2.sto,q1.mono p2 x2,q2,o_ h2 (hm.n _ _ _)⟩
 ·rw[aQ c]at h1;exact h1.elim⟩
theorem pV{F:W->List W->List am->R W}(slot:Slot "list" name id)(yx:typeOf (.builtin id)=pure (.type "method_descriptor"))(hm:LW X id F)(ho:SE X o fo)
  (kU:attributeBase o name X.env (eval o X.env)=eval o X.env:=by rfl) (kT:(gq.endLine==dM.line)=true:=by rfl):SE X (.Call (.Attribute o name gq) [] [] dM) (kP F fo aC):=⟨(LF slot yx hm.h ho.h kU kT).imp fun σ H Q h=>by
 obtain⟨μ,ρ,st,l,h⟩:=h
 refine⟨μ,ρ,st,l,RK.bind h l fun μ1 st1 x v H1 p1 x1 l1 q1 h1=>?_⟩
 by_cases c:lZ st1 x=true
 ·rw[aD c]at h1
  exact⟨w9 l1.sto q1 c,μ1,st1,x,[],l1.sto,q1,.nilI,o_ h1 (hm.n _ _ _)⟩
 ·rw[aQ c]at h1;exact h1.elim⟩
theorem HX{F:W->List W->List am->R W}(slot:Slot "str" name id)(yx:typeOf (.builtin id)=pure (.type "method_descriptor"))(hm:LW X id F)(ho:SE X o fo)(ha:SA X (e::es) fs)
  (kU:attributeBase o name X.env (eval o X.env)=eval o X.env:=by rfl)
  (v9:((backTo dM (starEach (e::es) X.env)).all (fun x=>!x.1)&&(backToKw dM (keywordEach [] X.env)).all (fun x=>x.1.isSome)
   && decide ((e::es).length+([]:List Keyword).length+(if ([]:List Keyword).isEmpty then 0 else 1)<30))=true:=by rfl)
  (kT:(gq.endLine==dM.line)=true:=by rfl) (hs:starEach (e::es) X.env=(false,eval e X.env)::starEach es X.env:=by rfl) (lE:(backTo dM (starEach es X.env)).any (·.1)=false:=by rfl) :
  SE X (.Call (.Attribute o name gq) (e::es) [] dM) (GT F fo fs):=⟨(Pd slot yx hm.h ho.h ha.h kU v9 kT hs lE).imp fun σ H Q h=>by
 obtain⟨μ,ρ,st,l,h⟩:=h
 refine⟨μ,ρ,st,l,RK.bind h l fun μ1 st1 x v H1 p1 x1 l1 q1 h1=>?_⟩
 cases x with
 |str z=>
  rw[aD (show DN (W.str z)=true from rfl)]at h1
  refine⟨⟨z,q1.strE⟩,μ1,ρ,st1,l1,RK.bind h1 l1 fun μ2 cZ ws vs H2 p2 x2 l2 q2 h2=>?_⟩
  exact⟨μ2,cZ,_,ws,l2.sto,q1.mono p2 x2,q2,o_ h2 (hm.n _ _ _)⟩
 |_=>exact h1.elim⟩
def cb(x:W)(ws:List W)(st:List am):R W:=match x,ws with
 |.loc n,[y]=>(match st[n]? with
  |some (.lst zs)=>if zs.length<j8 then .ok .non (st.set n (.lst (zs++[y])))else .bad
  |_=>.bad)
 |_,_=>.bad
theorem cR:LW X "list.append" cb:=⟨fun pins s σ H x vs v us Q I rv rus ⟨μ,st,wx,ws,S,rx,rs,q⟩=>by
 unfold cb at q
 split at q
 ·rename_i n y
  obtain⟨y1,rfl,ry⟩:=rs.one
  split at q
  ·rename_i zs e1
   split at q
   ·rename_i c
    obtain⟨a1,g1,vs,k1,r⟩:=S.get e1
    obtain⟨b1,f1,rfl⟩:=rx.locE
    rw[g1]at f1;cases f1
    refine yZ pins s σ H _ _ v us Q I rv rus ⟨a1,vs,y1,rfl,rfl,k1,by rw[<- r.len];exact LK (gE c),fun H2 e=>?_⟩
    subst e
    exact q μ _ _ (al _) (fg.but gT k1) (S.set e1 g1 k1 (r.app (.consI ry .nilI))) .non
   ·exact q.elim
  ·exact q.elim
 ·exact q.elim,fun x ws st=>by
 unfold cb
 repeat' split
 all_goals trivial⟩
def mi(x:W)(ws:List W)(st:List am):R W:=match x,ws with
 |.loc n,[]=>(match st[n]? with
  |some (.lst zs)=>pd zs.getLast? fun w=>.ok w (st.set n (.lst zs.dropLast))
  |_=>.bad)
 |_,_=>.bad
theorem mJ:LW X "list.pop" mi:=⟨fun pins s σ H x vs v us Q I rv rus ⟨μ,st,wx,ws,S,rx,rs,q⟩=>by
 unfold mi at q
 split at q
 ·rename_i n
  have e0:=rs.nilE
  subst e0
  split at q
  ·rename_i zs e1
   obtain⟨a1,g1,vs,k1,r⟩:=S.get e1
   obtain⟨b1,f1,rfl⟩:=rx.locE
   rw[g1]at f1;cases f1
   cases hl:zs.getLast? with
   |none=>rw[hl]at q;exact q.elim
   |some w=>
    rw[hl]at q
    have hz:zs=zs.dropLast++[w]:=by
     obtain⟨ys,rfl⟩:=List.getLast?_eq_some_iff.mp hl
     simp
    rw[hz]at r
    obtain⟨xs',Ai,hx,r1,r3⟩:=r.split
    obtain⟨y',rfl,r2⟩:=r3.one
    refine HI pins s σ H _ _ v us Q I rv rus ⟨a1,xs',y',rfl,rfl,by rw[<- hx];exact k1,fun H2 e=>?_⟩
    subst e
    have xx:eE X.K H (fm H a1 (.lst xs')):=fg.but gT k1
    exact q μ _ _ (al _) xx (S.set e1 g1 k1 r1) (r2.mono (al _) xx)
  ·exact q.elim
 ·exact q.elim,fun x ws st=>by
 unfold mi pd
 repeat' split
 all_goals trivial⟩
def l7:List W->Option (List (List Nat))
 |[]=>some []
 |.str l::ws=>(l7 ws).map (l :: ·)
 |_=>none
theorem q_{K:Frag}{μ:List Addr}{H:Hp}:∀{ws:List W} {ls:List (List Nat)} {vs:List V},l7 ws=some ls->RelWs K μ H ws vs->vs=ls.map fun l=>V.str (tx l)
 |[],ls,vs,h,r=>by simp only[l7]at h;cases h;exact r.nilE
 |w::ws,ls,vs,h,r=>by
  obtain⟨x,xs,rfl,rx,rs⟩:=r.consE
  cases w with
  |str l=>
   simp only[l7]at h
   cases e:l7 ws with
   |none=>rw[e]at h;cases h
   |some ls'=>rw[e]at h;cases h;rw[rx.strE,q_ e rs];rfl
  |_=>simp only[l7]at h;cases h
theorem tQ(ls:List (List Nat)):l7 (ls.map W.str)=some ls:=by
 induction ls with
 |nil=>rfl
 |cons a r ih=>show(l7 (r.map W.str)).map (a :: ·)=_;rw[ih];rfl
def l8(x:W)(ws:List W)(st:List am):R W:=match x,ws with
 |.str sep,[.loc n]=>pd (lstOf st n) fun zs=>pd (l7 zs) fun ls=>if (ls.map List.length).sum+ls.length*sep.length<=j8 then .ok (.str (lX sep ls)) st else .bad
 |_,_=>.bad
theorem qv:LW X "str.join" l8:=⟨fun pins s σ H x vs v us Q I rv rus ⟨μ,st,wx,ws,S,rx,rs,q⟩=>by
 unfold l8 at q
 split at q
 ·rename_i sep n
  obtain⟨y1,rfl,ry⟩:=rs.one
  cases e1:lstOf st n with
  |none=>rw[e1]at q;exact q.elim
  |some zs=>
   rw[e1,d9]at q
   cases e2:l7 zs with
   |none=>rw[e2]at q;exact q.elim
   |some ls=>
    rw[e2,d9]at q
    split at q
    ·rename_i c
     obtain⟨a,vs,g,hS,r⟩:=S.lstOf e1
     obtain⟨b1,f1,rfl⟩:=ry.locE
     rw[g]at f1;cases f1
     have:=q_ e2 r
     subst this
     exact HE pins s σ H _ _ v us Q I rv rus ⟨sep,_,ls,rx.strE,rfl,hS,bn c (by decide),oq S q⟩
    ·exact q.elim
 ·exact q.elim,fun x ws st=>by
 unfold l8
 split
 ·exact pU fun _=>pU fun _=>by split<;>trivial
 ·trivial⟩
end
def nq(cap:List (Option Nat))(ρ:cB):cB:=cap.map fun o=>o.bind fun j=>(ρ[j]?).join
theorem PJ{X:Cx}{μ:List Addr}{H:Hp}{ρ:cB}{σ:St}(r:Paired (fun(o:Option W) (s:Option V)=>∀w,o=some w->∃v,s=some v/\bF X.K μ H w v) ρ σ):∀cap:List (Option Nat),
  Paired (fun(o:Option W) (s:Option V)=>∀w,o=some w->∃v,s=some v/\bF X.K μ H w v) (nq cap ρ) (kK cap σ)
 |[]=>.nil
 |o::cap=>by
  refine .cons (fun w e=>?_) (PJ r cap)
  cases o with
  |none=>cases e
  |some j=>
   have e':(ρ[j]?).join=some w:=e
   have e2:ρ[j]?=some (some w):=by
    cases h:ρ[j]? with
    |none=>rw[h]at e';cases e'
    |some ow=>rw[h]at e';simp at e';rw[e']
   obtain⟨v,g1,g2⟩:=on r e2
   exact⟨v,by show(σ[j]?).join=some v;rw[g1];rfl,g2⟩
open Classical in
def l9(f:FG)(t:FT)(el:FE)(ck:Option (Nat×List W))(ρ0:cB):List W->List W->List am->R (List W)
 |[],acc,st=>if ii st ck then .ok acc st else .bad
 |w::ws,acc,st=>if ii st ck then(match f w ρ0 with
  |none=>.bad
  |some ρ'=>(match t ρ' st with
   |.ok true st1=>(match el ρ' st1 with
    |.ok y cZ=>l9 f t el ck ρ0 ws (acc++[y]) cZ
    |_=>.bad)
   |.ok false st1=>l9 f t el ck ρ0 ws acc st1
   |_=>.bad))else .bad
def fj(cap:List (Option Nat))(fi:FI)(f:FG)(t:FT)(el:FE):FE:=fun ρ st=>(fi ρ st).bind fun k st=>if k.1.length<=j8 then(l9 f t el k.2 (nq cap ρ) k.1 [] st).bind fun ys st=>lY ys st else .bad
def Ru{α β:Type}(X:Cx)(rel:List Addr->Hp->α->β->Prop)(f:cB->List am->R α)(σ:St)(H:Hp)(Q:β->Hp->Prop):Prop:=
 ∃μ ρ st a bH,Rl X μ ρ st σ H/\f ρ st=.ok a bH/\∀μ' b H',μ <+: μ'->eE X.K H H'->h9 X.K X.mg μ' bH H'->rel μ' H' a b->Q b H'
def mj:FT:=fun _ st=>.ok true st
structure Oc(X:Cx)(es:List Expr)(f:FT):Prop where
 h:HA X es (tT X f)
theorem HA.imp{X:Cx}{e:List Expr}{t t':TT}(h:HA X e t)(i:∀σ H Q,t' σ H Q->t σ H Q):HA X e t':=fun pins s σ H Q I q=>h pins s σ H Q I (i _ _ _ q)
theorem jr{X:Cx}:Oc X [] mj:=⟨HB.imp fun σ H Q h=>by
 obtain⟨μ,ρ,st,l,h⟩:=h
 exact h μ true H (al _) eE.refl l.sto rfl⟩
theorem qw{X:Cx}{c:Expr}{t:FT}(hc:ST X c t):Oc X [c] t:=⟨HC hc.h⟩
theorem zg{X:Cx}{cap:List (Option Nat)}{fi:FI}{f:FG}{t:FT}{el:FE}{σ:St}{H:Hp}{Q:VK}(h:tE X (fj cap fi f t el) σ H Q) :
  tJ cap (fun σ H R=>tG X (PF X) fi σ H R) (PB X f) (Ru X LM t) (Ru X (sN X) el) σ H Q:=by
 obtain⟨μ,ρ,st,l,h⟩:=h
 refine⟨μ,ρ,st,l,RK.bind h l fun μ1 st1 k J H1 p1 x1 l1 wk h1=>?_⟩
 by_cases hz:k.1.length<=j8
 ·rw[aD hz]at h1
  refine⟨fun i m ys H'=>i<=k.1.length/\m=k.1.length-i/\ys.length<=i/\∃μ' acc bH,μ1 <+: μ'/\eE X.K H1 H'/\Rl X μ' ρ bH σ H'/\RelWs X.K μ' H' acc ys/\RK X (sN X) μ' σ H' Q ((l9 f t el k.2 (nq cap ρ) (k.1.drop i) acc bH).bind fun ys st=>lY ys st),
   ⟨_,cU _,rfl,aA _,μ1,[],st1,al _,eE.refl,l1,.nilI,h1⟩,?_⟩
  rintro i m ys H' ⟨hi,rfl,hy,μ',acc,bH,pm,xm,lm,ra,hm⟩
  by_cases oN:i<k.1.length
  ·rw[fw oN]at hm
   unfold l9 at hm
   by_cases ck:ii bH k.2
   ·rw[aD ck]at hm
    obtain⟨go,yld⟩:=(wk i μ' bH H' pm xm lm.sto ck).1 _ (ac oN)
    refine .inr ⟨go,fun x H2 hy2=>?_⟩
    obtain⟨y1,y2,y3⟩:=yld x H2 hy2
    cases hf:f k.1[i] (nq cap ρ)with
    |none=>rw[hf]at hm;exact hm.elim
    |some ρ2=>
     rw[hf]at hm
     simp only at hm
     have lb:Rl X μ' (nq cap ρ) bH (kK cap σ) H2:=⟨PJ (lm.to (al _) y1 y2).env cap,y2⟩
     refine⟨μ',nq cap ρ,bH,k.1[i],ρ2,lb,y3,hf,fun σ2 l2=>?_⟩
     cases ht:t ρ2 bH with
     |bad=>rw[ht]at hm;exact hm.elim
     |ex c s=>rw[ht]at hm;exact hm.elim
     |ok kk cZ=>
      rw[ht]at hm
      refine⟨μ',ρ2,bH,kk,cZ,l2,ht,fun μ3 b3 H3 p3 x3 S3 q3=>?_⟩
      cases q3
      cases kk with
      |false=>
       exact⟨_,by omega,oN,rfl,by omega,μ3,acc,cZ,pm.trans p3,xm.trans (y1.trans x3),lm.to p3 (y1.trans x3) S3,ra.mono p3 (y1.trans x3),RK.mono hm p3 (y1.trans x3)⟩
      |true=>
       rw[aD rfl]
       simp only at hm
       cases he:el ρ2 cZ with
       |bad=>rw[he]at hm;exact hm.elim
       |ex c s=>rw[he]at hm;exact hm.elim
       |ok w j0=>
        rw[he]at hm
        refine⟨μ3,ρ2,cZ,w,j0,l2.to p3 x3 S3,he,fun μ4 b4 H4 p4 x4 S4 q4=>?_⟩
        have pp:=p3.trans p4
        have xx:=y1.trans (x3.trans x4)
        exact⟨jU hy (aX oN (lp hz)),_,by omega,oN,rfl,by simp;omega,μ4,acc++[w],j0,pm.trans pp,xm.trans xx,lm.to pp xx S4,(ra.mono pp xx).app (.consI q4 .nilI),RK.mono hm pp xx⟩
   ·rw[aQ ck]at hm;exact hm.elim
  ·have hi':i=k.1.length:=by omega
   subst hi'
   rw[iE (aA _)]at hm
   unfold l9 at hm
   by_cases ck:ii bH k.2
   ·rw[aD ck]at hm
    obtain⟨z1,z2⟩:=qY lm.sto ra hm
    exact .inl ⟨(wk _ μ' bH H' pm xm lm.sto ck).2 (aA _),z1,fun p hp=>z2 p _ hp rfl⟩
   ·rw[aQ ck]at hm;exact hm.elim
 ·rw[aQ hz]at h1;exact h1.elim
section
variable{X:Cx}{nu tg iter:Expr}{mw:List Expr}{scope:Scope}{pos:Pos}{nm:List Str}{cap:List (Option Nat)}{fi:FI}{f:FG}{t:FT}{el:FE}{m:Nat}
theorem Sm{X X':Cx}{e:Expr}{f:FE}(hK:X'.K=X.K)(hm:X'.mg=X.mg)(h:SE X' e f):QE X' e (Ru X (sN X) f):=⟨h.h.imp fun σ H Q ⟨μ,ρ,st,a,bH,l,e,q⟩=>⟨μ,ρ,st,⟨by rw[hK];exact l.env,by rw[hK,hm];exact l.sto⟩,by rw[e];exact fun μ' b H' p x S r=>q μ' b H' p (by rw[<- hK];exact x) (by rw[<- hK,<- hm];exact S) (by show bF X.K μ' H' a b;rw[<- hK];exact r)⟩⟩
theorem Sn{X X':Cx}{e:List Expr}{f:FT}(hK:X'.K=X.K)(hm:X'.mg=X.mg)(h:Oc X' e f):Rp X' e (Ru X LM f):=⟨h.h.imp fun σ H Q ⟨μ,ρ,st,a,bH,l,e,q⟩=>⟨μ,ρ,st,⟨by rw[hK];exact l.env,by rw[hK,hm];exact l.sto⟩,by rw[e];exact fun μ' b H' p x S r=>q μ' b H' p (by rw[<- hK];exact x) (by rw[<- hK,<- hm];exact S) r⟩⟩
theorem So{X X':Cx}{e:Expr}{f:FG}(hK:X'.K=X.K)(hm:X'.mg=X.mg)(h:SG X' e f):QG X' e (PB X f):=⟨h.h.imp fun v σ H Q ⟨μ,ρ,st,w,ρ',l,r,e,q⟩=>⟨μ,ρ,st,w,ρ',⟨by rw[hK];exact l.env,by rw[hK,hm];exact l.sto⟩,by rw[hK];exact r,e,fun σ' l'=>q σ' ⟨by rw[<- hK];exact l'.env,by rw[<- hK,<- hm];exact l'.sto⟩⟩⟩
theorem jH(hB:uN X.env.scope.names scope.names nm cap X.N=true)(lB:X.env.cells=cellsFrom m X.env.scope.names [])(hi:SI X tg iter fi)(hg:∀cl C s0 H0 fp,SG (bO X nm scope cl C s0 H0 fp) tg f)(ht:∀cl C s0 H0 fp,Oc (bO X nm scope cl C s0 H0 fp) mw t)
  (he:∀cl C s0 H0 fp,SE (bO X nm scope cl C s0 H0 fp) nu el) (gR:X.calm=true:=by rfl) (gQ:scope.kind=.function:=by rfl) (hs:∀x,foldedSetIterable iter X.env x=pure x:=by intro _;rfl) :
  SE X (.ListComp nu [⟨tg,iter,mw,0⟩] scope pos) (fj cap fi f t el):=
 ⟨(LH gR lB gQ hB ⟨hi.h⟩ (fun cl C s0 H0 fp=>So (X:=X) rfl rfl (hg cl C s0 H0 fp)) (fun cl C s0 H0 fp=>Sn (X:=X) rfl rfl (ht cl C s0 H0 fp)) (fun cl C s0 H0 fp=>Sm (X:=X) rfl rfl (he cl C s0 H0 fp)) hs).h.imp fun _ _ _ h=>zg h⟩
theorem zh{x0:Str}{p0 p1:Pos}{i:Nat}(Q_:SG X (.Name x0 p0) (f_ i))(hB:uN X.env.scope.names scope.names nm cap X.N=true)(lB:X.env.cells=cellsFrom m X.env.scope.names [])(hi:SI X tg iter fi)(hg:∀cl C s0 H0 fp,SG (bO X nm scope cl C s0 H0 fp) tg f)(ht:∀cl C s0 H0 fp,Oc (bO X nm scope cl C s0 H0 fp) mw t)
  (he:∀cl C s0 H0 fp,SE (bO X nm scope cl C s0 H0 fp) nu el) (gR:X.calm=true:=by rfl) (gQ:scope.kind=.function:=by rfl) (hs:∀x,foldedSetIterable iter X.env x=pure x:=by intro _;rfl)
  (Q7:swapsWith (.ListComp nu [⟨tg,iter,mw,0⟩] scope pos) (some (.Name x0 p0)) p1.line X.env=pure true:=by first|rfl|kernel_rfl) :
  SS X (.Assign [.Name x0 p0] (.ListComp nu [⟨tg,iter,mw,0⟩] scope pos) p1) (zd (fj cap fi f t el) (f_ i)):=
 ⟨(y8 ⟨Q_.h⟩ gR lB gQ hB ⟨hi.h⟩ (fun cl C s0 H0 fp=>So (X:=X) rfl rfl (hg cl C s0 H0 fp)) (fun cl C s0 H0 fp=>Sn (X:=X) rfl rfl (ht cl C s0 H0 fp)) (fun cl C s0 H0 fp=>Sm (X:=X) rfl rfl (he cl C s0 H0 fp)) hs Q7).h.imp fun D σ H h=>by
  obtain⟨μ,ρ,st,l,h⟩:=h
  have h':tE X (fj cap fi f t el) σ H fun x H1=>PB X (f_ i) x σ H1 D.nx:=⟨μ,ρ,st,l,RK.stmt h l fun μ1 st1 x v H1 p1 x1 l1 q1 h1=>⟨μ1,ρ,st1,x,ρ.set i (some x),l1,q1,rfl,fun σ' l'=>h1 μ1 σ' H1 (al _) eE.refl l'⟩⟩
  exact zg h'⟩
end
section
variable{X:Cx}{a b c e o tg:Expr}{es:List Expr}{pos p p2 gq dM:Pos}{x name:Str}{fa fb fc fe fo:FE}{fs:FA}
theorem pe{μ:List Addr}{H:Hp}{ws:List W}{lD:List V}(hr:∀μ H,RelWs X.K μ H ws lD):zf X (O9 lD) (ws,none) μ H:=fun i μ' bH H' pp xx S _=>by
 have hl:ws.length=lD.length:=(hr μ H).len
 refine⟨fun w hw=>?_,fun h=>by show lD.length<=i;rw[<- hl];exact h⟩
 obtain⟨v,g1,g2⟩:=(hr μ' H').get hw
 refine⟨(aa.mp g1).1,fun y H'' hy=>?_⟩
 obtain⟨rfl,hy⟩:=hy
 rw[g1]at hy;cases hy
 exact⟨eE.refl,S,g2⟩
def gv(l:List Nat):List W:=l.map fun c=>.str [c]
theorem tR(l:List Nat)(μ:List Addr)(H:Hp):RelWs X.K μ H (gv l) (jE l):=by
 induction l with
 |nil=>exact .nilI
 |cons a r ih=>exact .consI .str ih
def JA(fe:FE):FI:=fun ρ st=>(fe ρ st).bind fun x st=>match x with
 |.str l=>.ok (gv l,none) st
 |_=>.bad
theorem LX(he:SE X e fe):SI X tg e (JA fe):=⟨(LB he.h).imp fun σ H R h=>by
 obtain⟨μ,ρ,st,l,h⟩:=h
 refine⟨μ,ρ,st,l,RK.bind h l fun μ1 st1 x v H1 p1 x1 l1 q1 h1=>?_⟩
 cases x with
 |str z=>exact⟨z,q1.strE,h1 μ1 _ H1 (al _) eE.refl l1.sto (pe (tR z))⟩
 |_=>exact h1.elim⟩
def eF(fe:FE):FI:=fun ρ st=>(fe ρ st).bind fun x st=>match x with
 |.tup ws=>.ok (ws,none) st
 |.loc n=>(match lstOf st n with
  |some ws=>.ok (ws,some (n,ws)) st
  |none=>.bad)
 |.str l=>.ok (gv l,none) st
 |_=>.bad
theorem gw(he:SE X e fe):SI X tg e (eF fe):=⟨fun pins s σ H Rr I h=>by
 obtain⟨μ,ρ,st,l,h⟩:=h
 cases e1:fe ρ st with
 |bad=>simp only[eF,e1,R.bind_bad]at h;exact h.elim
 |ex c st1=>
  refine(DM (tg:=tg) he).h pins s σ H Rr I ⟨μ,ρ,st,l,?_⟩
  simp only[eF,DL,e1,R.bind_ex]at h ⊢;exact h
 |ok w st1=>
  cases w with
  |tup ws=>
   refine(DM (tg:=tg) he).h pins s σ H Rr I ⟨μ,ρ,st,l,?_⟩
   simp only[eF,DL,e1,R.bind_ok]at h ⊢;exact h
  |loc n=>
   refine(LV (tg:=tg) he).h pins s σ H Rr I ⟨μ,ρ,st,l,?_⟩
   simp only[eF,Jy,e1,R.bind_ok]at h ⊢;exact h
  |str z=>
   refine(LX (tg:=tg) he).h pins s σ H Rr I ⟨μ,ρ,st,l,?_⟩
   simp only[eF,JA,e1,R.bind_ok]at h ⊢;exact h
  |_=>simp only[eF,e1,R.bind_ok]at h;exact h.elim⟩
def kQ(ws:List W):List W:=(List.range ws.length).map fun(i:Nat)=>W.tup [.int i,ws.getD i .non]
theorem pf{ws:List W}{i:Nat}{w:W}(h:(kQ ws)[i]?=some w):∃y,ws[i]?=some y/\w=.tup [.int i,y]:=by
 unfold kQ at h
 rw[aB]at h
 by_cases hi:i<ws.length
 ·rw[gM hi]at h
  refine⟨ws[i],ac hi,?_⟩
  have:=(a_ h).symm
  rw[this]
  show W.tup [W.int i,ws.getD i W.non]=_
  rw[ax,ac hi];rfl
 ·rw[cX (by simpa using hi)]at h;cases h
theorem B4(ws:List W):(kQ ws).length=ws.length:=by simp[kQ]
def nT(fs:FA):FI:=fun ρ st=>(fs ρ st).bind fun ws st=>match ws with
 |[.tup zs]=>.ok (kQ zs,none) st
 |_=>.bad
theorem AO{sB:List Expr}{kk:Nat}{tp:Pos}(hm:X.mg "enumerate"=none)(ha:SA X [a] fs)(hg:Gl X "enumerate":=by rfl)(hs:starEach [a] X.env=[(false,eval a X.env)]:=by rfl) :
  SI X (.Tuple sB kk tp) (.Call (.Name "enumerate" p) [a] [] pos) (nT fs):=⟨(Dr hm ⟨ha.h⟩ hg hs).h.imp fun σ H R h=>by
 obtain⟨μ,ρ,st,l,h⟩:=h
 refine⟨μ,ρ,st,l,RK.bind h l fun μ1 st1 x v H1 p1 x1 l1 q1 h1=>?_⟩
 split at h1
 ·rename_i zs
  obtain⟨y,rfl,ry⟩:=q1.one
  obtain⟨p,vs,rfl,hS,r⟩:=ry.tupE
  refine⟨p,rfl,⟨vs,hS⟩,h1 μ1 _ H1 (al _) eE.refl l1.sto fun i μ' bH H' pp xx S _=>⟨fun w hw=>?_,fun hl=>⟨vs,xx _ _ hS,by rw[B4]at hl;rw[<- r.len];exact hl⟩⟩⟩
  obtain⟨y,hy,rfl⟩:=pf hw
  have r':=r.mono pp xx
  obtain⟨v,g1,g2⟩:=r'.get hy
  refine⟨⟨vs,v,xx _ _ hS,g1⟩,fun z H'' hz=>?_⟩
  obtain⟨q,hq,rfl,hH⟩:=hz
  have e:=hH vs v (xx _ _ hS) g1
  subst e
  have ex:=fg.same (K:=X.K) (dg hq (.tup [.int i,v]))
  exact⟨ex,S.same (dg hq _),.tupI fg.new (.consI .int (.consI (g2.mono (al _) ex) .nilI))⟩
 ·exact h1.elim⟩
def uT(fa:FE):FE:=fun ρ st=>(fa ρ st).bind fun x st=>match x with
 |.int i=>.ok (.int (-i)) st
 |_=>.bad
theorem w_(ha:SE X a fa):SE X (.UnaryOp .USub a pos) (uT fa):=⟨(OI Lm ha.h).imp fun σ H Q h=>by
 obtain⟨μ,ρ,st,l,h⟩:=h
 refine⟨μ,ρ,st,l,RK.bind h l fun μ1 st1 x v H1 p1 x1 l1 q1 h1=>?_⟩
 cases x with
 |int k=>exact⟨k,q1.intE,h1 μ1 _ H1 (al _) eE.refl l1.sto .int⟩
 |_=>exact h1.elim⟩
def B5(x y:W)(st:List am):R W:=match x,y with
 |.int i,.int j=>.ok (.bl (decide (i<=j))) st
 |.str [c],.str [d]=>.ok (.bl (decide (c<=d))) st
 |_,_=>.bad
theorem PK:oZ X (compareOp .LtE) B5:=⟨fun pins s σ H x y v u Q I rv ru ⟨μ,st,wx,wy,S,rx,ry,q⟩=>by
 unfold B5 at q
 split at q
 ·exact OK pins s σ H x y v u Q I rv ru ⟨_,_,rx.intE,ry.intE,ie S q⟩
 ·exact BQ pins s σ H x y v u Q I rv ru ⟨_,_,rx.strE,ry.strE,ie S q⟩
 ·exact q.elim,fun x y st=>by unfold B5;split<;>trivial⟩
end
def zi(c:List Nat):List (List Nat)->List (List Nat)
 |[]=>[c]
 |d::r=>if c<d then c::d::r else d::zi c r
def ij(l:List (List Nat)):List (List Nat):=l.foldr zi []
theorem ph(c:List Nat):∀l:List (List Nat),(zi c l).Perm (c::l)
 |[]=>m3 _
 |d::r=>by
  unfold zi
  split
  ·exact m3 _
  ·exact((ph c r).cons d).trans (List.Perm.swap c d r)
theorem fU(l:List (List Nat)):(ij l).Perm l:=by
 induction l with
 |nil=>exact m3 _
 |cons a r ih=>exact(ph a _).trans (ih.cons a)
def HY:List (List Nat)->Prop:=List.Pairwise fun a b=>¬ b<a
theorem AQ(c:List Nat):∀{l:List (List Nat)},HY l->HY (zi c l)
 |[],_=>by simp[zi,HY]
 |d::r,h=>by
  obtain⟨h1,h2⟩:=d6.mp h
  unfold zi
  split
  ·rename_i hc
   refine d6.mpr ⟨fun x hx=>?_,h⟩
   rcases br.mp hx with rfl|hx
   ·exact fun z=>List.lt_irrefl _ (List.lt_trans z hc)
   ·exact fun z=>h1 x hx (List.lt_trans z hc)
  ·rename_i hc
   refine d6.mpr ⟨fun x hx=>?_,AQ c h2⟩
   rcases br.mp ((ph c r).mem_iff.mp hx)with rfl|hx
   ·exact hc
   ·exact h1 x hx
theorem xa(l:List (List Nat)):HY (ij l):=by
 induction l with
 |nil=>exact List.Pairwise.nil
 |cons a r ih=>exact AQ a ih
theorem uU:∀{l m:List (List Nat)},HY l->HY m->l.Perm m->l=m
 |[],m,_,_,h=>(List.Perm.nil_eq h)
 |a::l,[],_,_,h=>(by have:=h.length_eq;simp at this)
 |a::l,b::m,h1,h2,h=>by
  obtain⟨p1,p2⟩:=d6.mp h1
  obtain⟨q1,q2⟩:=d6.mp h2
  have e:a=b:=by
   rcases br.mp (h.mem_iff.mp (by simp:a∈a::l))with z|z
   ·exact z
   ·rcases br.mp (h.mem_iff.mpr (by simp:b∈b::m))with y|y
    ·exact y.symm
    ·exact List.le_antisymm (show a<=b from p1 b y) (show b<=a from q1 a z)
  subst e
  rw[uU p2 q2 (List.perm_cons a |>.mp h)]
theorem rd:∀{zs:List (List Nat)},sortedS (zs.map tx)=true->HY zs:=by
 have key:∀(zs:List (List Nat)) (p:List Nat),risingS (tx p) (zs.map tx)=true->HY (p::zs):=by
  intro zs
  induction zs with
  |nil=>intro p _;simp[HY]
  |cons a r ih=>
   intro p h
   have h':(!ltCps a p&&risingS (tx a) (r.map tx))=true:=h
   rw[cw,gj,ltCps_eq,decide_eq_false_iff_not]at h'
   have u:=ih a h'.2
   refine d6.mpr ⟨fun x hx=>?_,u⟩
   rcases br.mp hx with rfl|hx
   ·exact h'.1
   ·have:=(d6.mp u).1 x hx
    exact List.not_lt.mpr (List.le_trans (List.not_lt.mp h'.1) (List.not_lt.mp this))
 intro zs h
 cases zs with
 |nil=>exact List.Pairwise.nil
 |cons a r=>exact key r a h
section
variable{X:Cx}{a b c e o tg:Expr}{es:List Expr}{pos p p2 gq dM:Pos}{x name:Str}{fa fb fc fe fo:FE}{fs:FA}
def m7(ws:List W)(st:List am):R W:=match ws with
 |[.loc n]=>pd (lstOf st n) fun zs=>pd (l7 zs) fun ls=>if ls.length<64 then .ok (.loc st.length) (st++[.lst ((ij ls).map W.str)])else .bad
 |_=>.bad
theorem xc{K:Frag}{μ:List Addr}{H:Hp}(ls:List (List Nat)):RelWs K μ H (ls.map W.str) (ls.map fun l=>V.str (tx l)):=by
 induction ls with
 |nil=>exact .nilI
 |cons a r ih=>exact .consI .str ih
theorem xf:mF X (.builtin "sorted") m7:=⟨fun pins s σ H vs us Q I rv ⟨μ,st,ws,S,r,q⟩=>by
 unfold m7 at q
 split at q
 ·rename_i n
  obtain⟨y,rfl,ry⟩:=r.one
  cases e1:lstOf st n with
  |none=>rw[e1]at q;exact q.elim
  |some zs=>
   rw[e1,d9]at q
   cases e2:l7 zs with
   |none=>rw[e2]at q;exact q.elim
   |some ls=>
    rw[e2,d9]at q
    split at q
    ·rename_i c
     obtain⟨a,vs,g,hS,rz⟩:=S.lstOf e1
     obtain⟨b1,f1,rfl⟩:=ry.locE
     rw[g]at f1;cases f1
     have:=q_ e2 rz
     subst this
     refine sL.h pins s σ H _ us Q I rv ⟨_,ls,rfl,hS,c,fun zs hp hs l H2 hl eH=>?_⟩
     subst eH
     have ez:zs=ij ls:=uU (rd hs) (xa ls) (hp.trans (fU ls).symm)
     subst ez
     exact q (μ++[l]) _ _ (aE _ _) (fg.same (dg hl _)) (S.newLst hl (xc _)) (nQ S)
    ·exact q.elim
 ·exact q.elim,fun ws st=>by
 unfold m7
 split
 ·exact pU fun _=>pU fun _=>by split<;>trivial
 ·trivial⟩
theorem nC{m l:List Nat}(hm:m.Nodup)(h:∀c∈m,c∈l):m.length<=l.length:=by
 induction m generalizing l with
 |nil=>exact cU _
 |cons a r ih=>
  obtain⟨h1,h2⟩:=fA.mp hm
  have ha:a∈l:=h a (by simp)
  have:=ih h2 (l:=l.erase a) fun c hc=>by
   have:c≠a:=fun z=>h1 (z▸hc)
   exact(List.mem_erase_of_ne this).mpr (h c (aZ _ hc))
  rw[List.length_erase_of_mem ha]at this
  have:0<l.length:=lP ha
  simp;omega
end
def W.ty:W->Option String
 |.non=>some "NoneType" | .bl _=>some "bool" | .int _=>some "int" | .str _=>some "str" | .tup _=>some "tuple" | .loc _=>none
def HZ(t T:String):Bool:=(t==T)||(t == "bool" && T == "int")
theorem PL{K:Frag}{T:String}(h:Dp T){w:W}{t:String}(hw:w.ty=some t):PySem.W.kitOne K (.type t) (.type T)=some (HZ t T):=by
 cases w<;>simp only[W.ty]at hw<;>cases hw<;>(rcases h with rfl|rfl|rfl|rfl<;>rfl)
def ml(T:String)(fa:FE):FE:=fun ρ st=>(fa ρ st).bind fun x st=>match x.ty with
 |some t=>.ok (.bl (HZ t T)) st
 |none=>.bad
section
variable{X:Cx}{a b c e o tg:Expr}{es:List Expr}{pos p p2 gq dM:Pos}{x name:Str}{fa fb fc fe fo:FE}{fs:FA}
theorem kc{T:String}{xT:Str}(hm:X.mg "isinstance"=none)(hT:X.mg xT=none)(hv:bootBuiltins xT=some (.type T))(ha:SE X a fa)(hk:Dp T:=by first|exact .inl rfl|exact .inr (.inl rfl)|exact .inr (.inr (.inl rfl))|exact .inr (.inr (.inr rfl)))
  (hg:Gl X "isinstance":=by rfl) (Ts:Gl X xT:=by rfl) (hn:xT ≠ "__name__":=by decide) (hd:(xT==("__debug__":Str))=false:=by decide)
  (he:starEach [a,.Name xT p2] X.env=(false,eval a X.env)::starEach [.Name xT p2] X.env:=by rfl) (SQ:starEach [.Name xT p2] X.env=(false,eval (.Name xT p2) X.env)::starEach [] X.env:=by rfl) (qJ:(backTo pos (starEach [.Name xT p2] X.env)).any (·.1)=false:=by rfl) :
  SE X (.Call (.Name "isinstance" p) [a,.Name xT p2] [] pos) (ml T fa):=by
 have C:hU X (.builtin "isinstance") (fun xs H Q=>∃x μ st w t,xs=[x,.ty T]/\h9 X.K X.mg μ st H/\bF X.K μ H w x/\w.ty=some t/\Q (.bl (HZ t T)) H):=by
  intro pins s σ H xs us Q I r h
  obtain⟨x,μ,st,w,t,rfl,S,rx,ht,q⟩:=h
  obtain⟨u,u2,rfl,r1,r2⟩:=cJ.two r
  obtain rfl:u2=.type T:=r2
  have e:=PL (K:=X.K) hk ht
  cases w with
  |tup ws=>
   cases ht
   obtain⟨p,vs,rfl,hS,_⟩:=rx.tupE
   cases(show u=Value.ref p from r1)
   obtain⟨bC,_,hp,_⟩:=I.tuple hS
   obtain⟨o,h1,h2,_⟩:=hp
   exact kia_one PySem.W.kitx_tuple I.kIn ⟨o,h1,h2⟩ e (fun z=>nomatch z) fun tk=>⟨.bl _,H,I.tok tk,rfl,q⟩
  |non=>cases ht;cases rx.nonE;exact m5 I r1 .non e fun tk=>⟨.bl _,H,I.tok tk,rfl,q⟩
  |bl b=>cases ht;cases rx.blE;exact m5 I r1 (.bl _) e fun tk=>⟨.bl _,H,I.tok tk,rfl,q⟩
  |int b=>cases ht;cases rx.intE;exact m5 I r1 (.int _) e fun tk=>⟨.bl _,H,I.tok tk,rfl,q⟩
  |str b=>cases ht;cases rx.strE;exact m5 I r1 (.str _) e fun tk=>⟨.bl _,H,I.tok tk,rfl,q⟩
  |loc b=>cases ht
 refine⟨(wB C hg hm boot_isinstance (qo ha.h (qo (G7 Ts hT hv (v:=.ty T) rfl hn hd) yO SQ) he) (by decide) (by decide) he qJ).imp fun σ H Q h=>?_⟩
 obtain⟨μ,ρ,st,l,h⟩:=h
 refine⟨μ,ρ,st,l,RK.bind h l fun μ1 st1 x v H1 p1 x1 l1 q1 h1=>?_⟩
 cases ht:x.ty with
 |none=>rw[ht]at h1;exact h1.elim
 |some t=>
  rw[ht]at h1
  exact⟨v,μ1,st1,x,t,rfl,l1.sto,q1,ht,h1 μ1 _ H1 (al _) eE.refl l1.sto .bl⟩
theorem DO{P:Program}{w:World}{K:Frag}{mg:Str->Option Value}{base:Heap}{k n:Nat}{x:Str}{st:Stmt}{f:Addr}{fd:FuncData}{ps:List Str}
  (F:iI K x x st f fd) (hm:mg x=some (.ref f)) (hn:ps.length=n)
  (hb:∀(kV qH pm:Value) (an:Option Addr) (fL ct:Value) (us:List Value),us.length=ps.length->bindArgs (fnOf x x (ia st) (gC st) (aV st) .none kV qH pm an fL ct) ⟨us,[]⟩=pure (ps.zip us)) :
  bP P w K mg base k x n (fun _ _=>.bad):=uS F hm hn hb ⟨fun vs H Q E h=>by rw[hn];exact h.1,fun _ _ _ _ _ _ _ _ _ _ _ _ _ h=>by obtain⟨_,_,_,_,_,_,z⟩:=h;exact z.elim⟩
end
abbrev PM:List Value:=[.type "ValueError",.type "Exception",.type "BaseException",.type "object"]
abbrev JB:String:="ValueError.__new__"
def LY(K:Frag)(C:Addr):List Value:=match K.lookup C with
 |some ⟨_,_,.cls cd,_⟩=>cd.mro
 |_=>[]
theorem H9{K:Frag}{h:Heap}{C:Addr}{S8:List Value}{F_:String}(X:K.In h)(q:excIn K C S8 F_=true) :
  ∃bm N nm qn bs hdct sn sub ab col dd k0 k1 k2 k3 k5 mN,h.get? C=some (excClassObj nm qn C N bs bm hdct sn sub ab col dd k0 k1 k2 k3 k5 F_)/\h.Ns N mN/\mN "__init__"=none/\OwnTail h S8 bm/\LY K C=.ref C::bm:=by
 have q0:=q
 unfold excIn at q
 split at q
 ·rename_i dd cd sl ho
  split at q
  ·rename_i C' bm k0 k1 k2 k3 n k5 hm hs
   simp only[cw,cv,gj]at q
   obtain⟨⟨⟨⟨⟨rfl,rfl⟩,hdel⟩,ht⟩,hok⟩,hni⟩:=q
   have hmro:LY K C'=cd.mro:=by unfold LY;rw[ho]
   obtain⟨nm,bs,mro,ns,qn,hd,sn,sub,ab,col,del⟩:=cd
   dsimp only at hm hdel hok hni hmro
   subst hm hdel
   have hsl:sl=#[k0,k1,k2,k3,some (.builtin n),k5]:=by
    obtain⟨l⟩:=sl
    simp only at hs
    rw[hs]
   subst hsl
   exact⟨bm,ns,nm,qn,bs,hd,sn,sub,ab,col,dd,k0,k1,k2,k3,k5,_,X _ _ ho,.of_isNs (PySem.W.isNs_of_in X hok),PySem.W.nsMap_none_of_in X hok hni,PySem.W.tail_of_in X ht,hmro⟩
  ·cases q
 ·cases q
structure PN(K:Frag)(mg:Str->Option Value)(x:Str):Prop where
 ex:∃C,mg x=some (.ref C)/\excIn K C PM JB=true
def zj(c:Str):FS:=fun ρ st=>.ex c ρ st
theorem DP{X:Cx}{x:Str}{np dM pos p':Pos}{z:Str}{j:Nat}(hC:PN X.K X.mg x)(gR:X.calm=true:=by rfl)(hg:Gl X x:=by rfl)(hd:(x==("__debug__":Str))=false:=by decide)
  (he:starEach [.Constant (.str z) j p'] X.env=(false,eval (.Constant (.str z) j p') X.env)::starEach [] X.env:=by rfl):SS X (.Raise (some (.Call (.Name x np) [.Constant (.str z) j p'] [] dM)) none pos) (zj x):=⟨by
 intro pins s σ H D I h
 obtain⟨μ,ρ,st,l,h⟩:=h
 obtain⟨C,hm,q⟩:=hC.ex
 have hh:X.A.handled=none:=I.ok.hd gR
 obtain⟨bm,N,nm,qn,bs,hdct,sn,sub,ab,col,dd,k0,k1,k2,k3,k5,mN,g1,g2,g3,g4,g5⟩:=H9 I.kIn q
 refine wpAny_Raise_call_subT (C:=C) (nm:=nm) (q:=qn) (N:=N) (bs:=bs) (bm:=bm) (hdct:=hdct) (sn:=sn) (sub:=sub) (ab:=ab) (col:=col) (dd:=dd) (k0:=k0) (k1:=k1) (k2:=k2) (k3:=k3) (k5:=k5)
  F.excBase_ValueError (mN:=mN) (g4.hasType F.excBase_ValueError.hasBase) hh (by rw[he];rfl) g3 (uD I hg hm ⟨rfl,?_⟩ hd)
 rw[he]
 refine iZ ?_
 show wpAny _ _ (spliced ((false,eval (.Constant (.str z) j p') X.env)::[])) _ _ s
 refine jT (wpAny_Constant_str (kq ?_))
 refine⟨rfl,(by show 1<=sizeLine;decide),g1,g2,g4,fun h' e hx=>?_⟩
 have I2:bE X pins σ H { s with heap:=h',toks:=s.toks+1 }:=I.kept hx.keeps
 have en:H e=none:=by
  cases hu:H e with
  |none=>rfl
  |some u=>
   obtain⟨ob,GD⟩:=(I.hok e u hu).ex
   have:=hx.new
   rw[show({ s with toks:=s.toks+1 }:Shared).heap=s.heap from rfl]at this
   rw[GD]at this;cases this
 obtain⟨t,GC,ht2,ht3⟩:=hx.there
 have hin:∀env∈X.stack,∀b,env.frame=some b->b∈qm X.stack:=fun env he b hb=>jR.mpr ⟨env,he,hb⟩
 refine h pins μ σ H (.ref e) _ (al _) eE.refl l ⟨I2,e,.ref C,t,hideAll s.heap (qm X.stack),rfl,hm,en,fun b o hb=>hx.keeps b o (PySem.W.of_hideAll _ hb),?_,?_,.inr (.inl ⟨_,_,GC,rfl,rfl,rfl,rfl,rfl⟩),fun b o hb hr=>?_⟩
 ·cases hq:(hideAll s.heap (qm X.stack)).get? e with
  |none=>rfl
  |some o=>have z:=PySem.W.of_hideAll _ hq;have y:=hx.new;rw[show({ s with toks:=s.toks+1 }:Shared).heap=s.heap from rfl,z]at y;cases y
 ·exact(PySem.W.funFrames_hide I.stack hin).of_keeps fun b o hb _=>⟨o,hx.keeps b o hb,rfl⟩
 ·have old:∀o0,s.heap.get? b=some o0->s.heap.get? b=some o:=fun o0 h0=>by
   have h1:h'.get? b=some o0:=hx.keeps b o0 h0
   have h2:h'.get? b=some o:=hb
   rw[h1]at h2;rw[<- h2];exact h0
  have fin:∀o0,s.heap.get? b=some o0->b∉qm X.stack->(hideAll s.heap (qm X.stack)).get? b=some o:=fun o0 h0 hn=>PySem.W.hideAll_get _ (old o0 h0) hn
  rcases hr with hr|⟨⟨o0,h0⟩,hf,hbx⟩|⟨⟨y,hy⟩,hf⟩|⟨pp,hp,rfl⟩
  ·cases hu:H b with
   |none=>exact absurd hu hr
   |some u=>
    obtain⟨ob,GD⟩:=(I.hok b u hu).ex
    exact fin ob GD fun z=>by have:=I.stkFree b z;rw[hu]at this;cases this
  ·obtain⟨o1,h1⟩:=I.base.there b o0 h0 hbx
   refine fin o1 h1 fun z=>?_
   rcases br.mp (I.stkSub b z)with z|z
   ·rw[z]at h0;exact absurd (aX (aG h0) I.ok.above) (bD _)
   ·exact hf z
  ·obtain⟨v,ov,hov,_⟩:=I.cell y b hy
   exact fin ov hov hf
  ·obtain⟨p1,p2,p3,p4,_⟩:=I.pin pp hp
   refine fin _ p1 fun z=>?_
   rcases br.mp (I.stkSub _ z)with z|z
   ·exact p3 z
   ·exact p4 z⟩
section
variable{X:Cx}{pins:List (Addr×Obj)}{σ:St}{H:Hp}{s:Shared}
end
open AutoSeq1 (wpAny_loadPart')
section
variable{X:Cx}
end
section
variable{X:Cx}{a b c e o tg:Expr}{es:List Expr}{pos p p2:Pos}{fa fb fe fo:FE}{fs:FA}
def zk(fs:FA):FI:=fun ρ st=>(fs ρ st).bind fun ws st=>match ws with
 |[.str l]=>if l.length<=1000000 then .ok (gv l.reverse,none) st else .bad
 |_=>.bad
theorem H_(hm:X.mg "reversed"=none)(ha:SA X [a] fs)(hg:Gl X "reversed":=by rfl)(hs:starEach [a] X.env=(false,eval a X.env)::starEach [] X.env:=by rfl) :
  SI X tg (.Call (.Name "reversed" p) [a] [] pos) (zk fs):=⟨(HP hm ⟨ha.h⟩ hg hs).h.imp fun σ H R h=>by
 obtain⟨μ,ρ,st,l,h⟩:=h
 refine⟨μ,ρ,st,l,RK.bind h l fun μ1 st1 x v H1 p1 x1 l1 q1 h1=>?_⟩
 split at h1
 ·obtain⟨y,rfl,ry⟩:=q1.one
  split at h1
  ·rename_i cc
   exact⟨_,by rw[ry.strE],cc,h1 μ1 _ H1 (al _) eE.refl l1.sto (pe (tR _))⟩
  ·exact h1.elim
 ·exact h1.elim⟩
theorem DQ{α:Type}(xs:List α)(k:Nat)(y:α):((xs.toArray.extract 0 k).push y++xs.toArray.extract k).toList=xs.take k++y::xs.drop k:=by
 simp
 exact bo (by simp)
def Ia:V->List V->Hp->VK->Prop:=fun x vs H Q=>∃(l:Addr) (xs:List V) (k:Nat) (y:V),x=.ref l/\vs=[.int k,y]/\H l=some (.lst xs)/\k<=xs.length/\xs.length+1<=sizeLine/\k<1000000/\Q .non (fm H l (.lst (xs.take k++y::xs.drop k)))
theorem B6:R7 X "list.insert" Ia:=by
 intro pins s σ H x vs v us Q I rx rv h
 obtain⟨l,xs,k,y,rfl,rfl,hH,hk,hz,GZ,q⟩:=h
 cases rx
 obtain⟨u,u2,rfl,r1,r2⟩:=cJ.two rv
 obtain⟨t,rfl⟩:=r1
 obtain⟨z,bC,n,r,hl,e⟩:=I.lstM hH
 have hfit:¬ (!Builtin.List.listFitsIndex (k:Int))=true:=by
  unfold Builtin.List.listFitsIndex
  simp;omega
 have hsz:bC.toArray.size<=sizeLine:=by rw[aU];omega
 obtain⟨q0,hq0⟩:∃q0:Int,q0=k:=⟨_,rfl⟩
 rw[<- hq0]at hfit ⊢
 have M:=AutoSeq1.list_insert_list_int_val_1 l bC.toArray n q0 t u2 hfit hsz
 refine n6 F.slot_list_insert ⟨_,e,rfl⟩ F.entry_list_insert (F.args_list_insert_3 _ _ _) M ⟨e,?_⟩
 refine⟨.non,_,I.lset (its':=bC.take k++u2::bC.drop k) hH e ?_ ((r.take k).append (.cons r2 (r.drop k))) ?_,rfl,q⟩
 ·have h0:¬ (q0<0):=by omega
  have hm:min q0.toNat bC.toArray.size=k:=by rw[aU];omega
  simp only[aQ h0,hm]
  apply Array.toList_inj.mp
  rw[DQ]
 ·rw[ay,aY,ba,fQ]
  omega
def m8(x:W)(ws:List W)(st:List am):R W:=match x,ws with
 |.loc n,[.int k,y]=>(match st[n]? with
  |some (.lst zs)=>if 0<=k/\k.toNat<=zs.length/\zs.length<j8/\k<1000000 then .ok .non (st.set n (.lst (zs.take k.toNat++y::zs.drop k.toNat)))else .bad
  |_=>.bad)
 |_,_=>.bad
theorem B7:LW X "list.insert" m8:=⟨fun pins s σ H x vs v us Q I rv rus ⟨μ,st,wx,ws,S,rx,rs,q⟩=>by
 unfold m8 at q
 split at q
 ·rename_i n k y
  obtain⟨y1,y2,rfl,ry1,ry2⟩:=rs.two
  split at q
  ·rename_i zs e1
   split at q
   ·rename_i cc
    obtain⟨c1,c2,c3,c4⟩:=cc
    obtain⟨k,rfl⟩:=k6 c1
    rw[bB]at c2 q
    obtain⟨a1,g1,vs1,k1,r1⟩:=S.get e1
    obtain⟨b1,f1,rfl⟩:=rx.locE
    rw[g1]at f1;cases f1
    have hl:=r1.len
    have hL:vs1.length+1<=sizeLine:=by rw[<- hl];exact lp c3
    refine B6 pins s σ H _ _ v us Q I rv rus ⟨a1,vs1,k,y2,rfl,by rw[ry1.intE],k1,by omega,hL,by omega,?_⟩
    exact q μ _ _ (al _) (fg.but gT k1) (S.set e1 g1 k1 ((r1.take k).app (.consI ry2 (r1.drop k)))) .non
   ·exact q.elim
  ·exact q.elim
 ·exact q.elim,fun x ws st=>by
 unfold m8
 repeat' split
 all_goals trivial⟩
end
section
variable{prog:Program}{w:World}{A:Around}{E:Value->Shared->Prop}{h:Heap}{g:Array GenState}{d:Drawn}{t:Nat}{os:OsState}{a:Addr}{o:Obj}
 {nm q:Str} {C N:Addr} {bs bm:List Value} {hdct:Bool} {sn:List Str} {sub:List Value} {ab:Bool} {col:Option Bool} {dd:Option Addr} {k0 k1 k2 k3 k5:Option Value} {F_:String} {K:Frag}
end
section
variable{X:Cx}{a:Expr}{pos p p2:Pos}{fa:FE}
end
section
variable{X:Cx}{a:Expr}{pos p p2:Pos}{fa:FE}{es:List Expr}{k:Nat}
end
section
variable{X:Cx}
end
section
variable{X:Cx}
theorem rf{α:Type}(l:List α):∀(k:Nat) (acc:List α),List.foldl (fun x1 x2=>x1++x2) acc.toArray (List.replicate k l.toArray)=(acc++(List.replicate k l).flatten).toArray
 |0,acc=>by simp
 |k+1,acc=>by
  have e:acc.toArray++l.toArray=(acc++l).toArray:=by simp
  rw[List.replicate_succ,List.foldl_cons,e,rf l k (acc++l),List.replicate_succ,ky,aW]
theorem LZ(l:List Nat)(n:Int):Txt.mul (tx l) n=tx (List.replicate n.toNat l).flatten:=by
 unfold Txt.mul
 by_cases h:n<1
 ·rw[aD h,show n.toNat=0 by omega];rfl
 ·rw[aQ h]
  split
  ·rename_i hc
   rw[gZ,cv,cv,g_]at hc
   rcases hc with rfl|hc
   ·simp
   ·have:l=[]:=List.length_eq_zero_iff.mp hc
    subst this
    simp
  ·have:=rf l n.toNat []
   rw[fB]at this
   show Str.mk _=Str.mk _
   congr 1
theorem Ib:lf X (binaryOp .Mult) (fun x y H Q=>∃(l:List Nat) (k:Int),x=.str (tx l)/\y=.int k/\-(2^62)<=k/\k<2^62/\l.length*k.toNat<=1000000/\Q (.str (tx (List.replicate k.toNat l).flatten)) H):=by
 intro pins s σ H x y v u Q I rx ry h
 obtain⟨l,k,rfl,rfl,h1,h2,h3,q⟩:=h
 obtain⟨t,rfl⟩:=rx
 obtain⟨t',rfl⟩:=ry
 refine SB.mul ⟨?_,?_,?_⟩ fun t2 tk=>⟨.str _,H,I.tok _,⟨t2,?_⟩,q⟩
 ·simp;omega
 ·intro hk hx
  rw[g_]
  intro hg
  have hk1:1<=k:=by omega
  have:k*((2^63-1)/k)<=2^63-1:=Int.mul_ediv_self_le (by omega)
  have h4:(2^63-1)<k*(l.length:Int):=by
   have:=Int.lt_mul_of_ediv_lt (a:=2^63-1) (b:=(l.length:Int)) (c:=k) (by omega) hg
   rw[lQ];exact this
  have h5:k*(l.length:Int)=((l.length*k.toNat:Nat):Int):=by
   rw[f7,Int.toNat_of_nonneg (by omega),lQ]
  rw[h5]at h4
  omega
 ·intro hk hx
  rw[g_]
  unfold Builtin.Str.tooLong
  rw[aR]
  have:(1000000:Nat)<=sizeLine:=by decide
  omega
 ·rw[LZ]
def gN:W->W->List am->R W
 |.int i,.int j,st=>if y_ i j then .ok (.int (i*j)) st else .bad
 |.str l,.int k,st=>if -(2^62)<=k/\k<2^62/\l.length*k.toNat<=j8 then .ok (.str (List.replicate k.toNat l).flatten) st else .bad
 |_,_,_=>.bad
theorem gJ:oZ X (binaryOp .Mult) gN:=⟨fun pins s σ H x y v u Q I rv ru ⟨μ,st,wx,wy,S,rx,ry,q⟩=>by
 cases wx with
 |int i=>
  cases wy with
  |int j=>
   have q':CM X μ H Q (Ps (.int i) (.int j) st):=q
   exact Pu.h pins s σ H x y v u Q I rv ru ⟨μ,st,.int i,.int j,S,rx,ry,q'⟩
  |_=>exact q.elim
 |str l=>
  cases wy with
  |int k=>
   simp only[gN]at q
   split at q
   ·rename_i cc
    exact Ib pins s σ H x y v u Q I rv ru ⟨l,k,rx.strE,ry.intE,cc.1,cc.2.1,cc.2.2,oq S q⟩
   ·exact q.elim
  |_=>exact q.elim
 |_=>cases wy<;>exact q.elim,fun x y st=>by
 unfold gN
 repeat' split
 all_goals trivial⟩
end
section
variable{X:Cx}
variable{e:Expr}{es:List Expr}{pos p:Pos}{x:Str}{fs:FA}
end
section
variable{prog:Program}{w:World}{A:Around}{E:Value->Shared->Prop}{s:Shared}
theorem rg:∀(l:List Nat) (vs:List Value),vs.length=l.length->(∀(j:Nat) (v:Value),vs[j]?=some v->∃c u,l[j]?=some c/\v=.str (tx [c]) u)->StrsAre vs (l.map fun c=>tx [c])
 |[],[],_,_=>.nil
 |c::l,v::vs,hl,h=>by
  obtain⟨d,u,e,rfl⟩:=h 0 v rfl
  cases e
  exact .cons _ _ (rg l vs (Nat.succ.inj hl) fun j v hj=>h (j+1) v hj)
 |[],_::_,hl,_=>nomatch hl
 |_::_,[],hl,_=>nomatch hl
theorem xg{l:List Nat}{t:Tok}{Q:Value->Shared->Prop}(few:l.length<64)(hh:A.handled=none)
  (q:∀(s1:Shared) (g1:Heap) (out:Array Value) (ss:List Str) (e:Nat),(∀b o,s.heap.get? b=some o->s1.heap.get? b=some o)->s1.gens=s.gens->s1.drawn=s.drawn->s1.os=s.os->(∀b o,s1.heap.get? b=some o->g1.get? b=some o)->g1.get? s1.heap.objs.size=some (seqObj "list" out e) ->
   StrsAre out.toList ss->ss.Perm (l.map fun c=>tx [c])->sortedS ss=true->Q (.ref s1.heap.objs.size) { s1 with heap:=g1 }):wpAny (model prog w) A (call (.builtin "sorted") [.str (tx l) t]) Q E s:=by
 have hn:(tx l).cps.size=l.length:=by simp[tx]
 apply Calls.call_function_entry kind_sorted plain_sorted entry_sorted (args_sorted1 _)
 show wpAny _ _ (checkCount "sorted" 1 1 _ >>= _) _ _ _
 refine ag (aI (ag (wpAny_collect_str (by simpa using hh) _ _ (fun s1 acc kp eg ed eo ha=>?_) (by rw[ko];omega))))
 have p9:StrsAre acc.toList (l.map fun c=>tx [c]):=by
  refine rg l _ (by rw[fN,ha.1,hn]) fun j v hj=>?_
  obtain⟨c,u,hc,e⟩:=ha.2 j v (by simpa using hj)
  exact⟨c,u,by simpa[tx]using hc,e⟩
 have hvl:acc.toList.length<64:=by rw[fN,ha.1,hn];exact few
 refine ag (wpAny_newList ?_ (by rw[ko];omega))
 have oL:(s1.heap.push (seqObj "list" acc.toList.toArray 0)).get? s1.heap.objs.size=some (seqObj "list" acc.toList.toArray 0):=aH _ rfl
 refine ag (d8 (cS slot_list_sort ⟨_,oL,rfl⟩ entry_list_sort (list_sort_treeK strKind_oneLt oL p9.keysOf (fun a b r e=>keyKind_strs (by rw[<- e];exact p9)) hvl fun st a1 a2=>⟨_,rfl,?_⟩) (args_list_sort _)))
 obtain⟨ss,h1,h2,h3⟩:=sorted_out_str p9 a1 a2
 obtain⟨e,he⟩:=sortedHeap_at (out:=(arrOf st).map (·.2)) oL
 refine aI ⟨_,rfl,q s1 _ _ ss e kp eg ed eo (fun b o hb=>?_) he h1 h2 h3⟩
 rw[sortedHeap_old (bd (aG hb)) (by rw[ef];exact fF (aG hb))]
 exact aq _ hb
end
section
variable{X:Cx}
def nU(ws:List W)(st:List am):R W:=match ws with
 |[.str l]=>if l.length<64 then .ok (.loc st.length) (st++[.lst ((ij (l.map fun c=>[c])).map W.str)])else .bad
 |[.loc n]=>m7 [.loc n] st
 |_=>.bad
theorem AR(hc:X.calm=true:=by rfl):mF X (.builtin "sorted") nU:=⟨fun pins s σ H vs us Q I rv ⟨μ,st,ws,S,r,q⟩=>by
 unfold nU at q
 split at q
 ·rename_i l
  split at q
  ·rename_i c
   obtain⟨y,rfl,ry⟩:=r.one
   have:=ry.strE;subst this
   obtain⟨u,rfl,ru⟩:=lV rv
   obtain⟨t,rfl⟩:=ru
   refine xg c (I.ok.hd hc) fun s1 g1 out ss e kp eg ed eo k1 gL p9 hp hsr=>?_
   have es:s1={ s with heap:=s1.heap,toks:=s1.toks }:=by cases s1;cases s;cases eg;cases ed;cases eo;rfl
   generalize s1.heap=g0,s1.toks=tk at es kp k1 gL ⊢
   subst es
   have I2:bE X pins σ H { s with heap:=g0,toks:=tk }:=I.kept2 (d':=s.drawn) fun b o e=>kp b o e
   have zZ:H g0.objs.size=none:=I2.hok.fresh (aA _)
   have hmap:(ss.map fun z=>z.cps.toList).map tx=ss:=by
    rw[bK]
    have:(tx∘fun z:Str=>z.cps.toList)=id:=funext fun z=>AG z
    rw[this,mY]
   have hperm:(ss.map fun z=>z.cps.toList).Perm (l.map fun c=>[c]):=by
    have e:=hp.map fun z:Str=>z.cps.toList
    rw[bK]at e
    exact e
   have ez:(ss.map fun z=>z.cps.toList)=ij (l.map fun c=>[c]):=uU (rd (by rw[hmap];exact hsr)) (xa _) (hperm.trans (fU _).symm)
   have hvals:cJ ((ij (l.map fun c=>[c])).map fun l=>V.str (tx l)) out.toList:=by
    have e:=nN p9
    rw[<- hmap,ez,bK]at e
    exact e
   refine⟨.ref g0.objs.size,_,I2.laid (o:=.lst ((ij (l.map fun c=>[c])).map fun l=>V.str (tx l))) (t':=tk) k1 (aA _) ⟨?_,out.toList,e,hvals,gL⟩,rfl,?_⟩
   ·rw[av,(fU _).length_eq,av]
    exact bn (gE c) (by decide)
   ·exact q (μ++[g0.objs.size]) _ _ (aE _ _) (fg.same (dg zZ _)) (S.newLst zZ (xc _)) (nQ S)
  ·exact q.elim
 ·exact xf.h pins s σ H _ us Q I rv ⟨μ,st,_,S,r,q⟩
 ·exact q.elim,fun ws st=>by
 unfold nU
 split
 ·split<;>trivial
 ·exact(xf (X:=X)).n _ _
 ·trivial⟩
end
def nD(a b k:Int):Nat:=if a<b then((b-a-1)/k+1).toNat else 0
theorem tS{a b k:Int}(hk:0<k):Builtin.Range.rangeSize a b k=(nD a b k:Int):=by
 unfold Builtin.Range.rangeSize nD
 rw[aD hk]
 split
 ·have:=Int.ediv_nonneg (a:=b-a-1) (b:=k) (by omega) (by omega)
  omega
 ·rfl
theorem Ic{a b k:Int}(hk:0<k)(h:a<b):(b-a-1)/k<=b-a-1:=Int.ediv_le_self _ (by omega)
theorem zl{a b k:Int}(h1:-(2^60)<=a)(h2:a<2^60)(h3:-(2^60)<=b)(h4:b<2^60)(hk:0<k)(GZ:k<=1000):Builtin.Range.small a b k=true:=by
 unfold Builtin.Range.small
 rw[tS hk]
 simp only[Builtin.Range.rangeFitsLong,cw,gZ,decide_eq_true_eq,cv,aD hk]
 unfold nD
 split
 ·have:=Ic hk (by assumption)
  have:=Int.ediv_nonneg (a:=b-a-1) (b:=k) (by omega) (by omega)
  have:=Int.ediv_mul_le (a:=b-a-1) (b:=k) (by omega)
  omega
 ·omega
def tU(i k:Int)(n:Nat):List V:=(List.range n).map fun m:Nat=>V.int (i+m*k)
def PP(ta:TA):TI:=fun σ H R=>ta σ H fun vs H1=>∃i j k:Int,vs=[.int i,.int j,.int k]/\(-(2^60)<=i/\i<2^60/\-(2^60)<=j/\j<2^60/\0<k/\k<=1000)/\R (O9 (tU i k (nD i j k))) H1
theorem uV{X:Cx}{tg a b c:Expr}{ta:TA}{p pos:Pos}(hm:X.mg "range"=none)(ha:QA X [a,b,c] ta)(hg:Gl X "range":=by rfl)(hs:starEach [a,b,c] X.env=(false,eval a X.env)::starEach [b,c] X.env:=by rfl)
  (uA:(backTo pos (starEach [b,c] X.env)).any (·.1)=false:=by rfl):QI X tg (.Call (.Name "range" p) [a,b,c] [] pos) (PP ta):=⟨by
 intro pins s σ H R I h
 refine Call_ (kA I hg hm boot_range (cz (fY (ha.h pos pins s σ H _ I h) fun us s1 ⟨vs,H1,I1,r1,q1⟩=>?_) hs uA))
 obtain⟨i,j,k,e,⟨b1,b2,b3,b4,b5,b6⟩,q⟩:=q1
 subst e
 cases r1 with
 |cons x1 r1=>cases r1 with
  |cons x2 r1=>cases r1 with
   |cons x3 r1=>
    cases r1
    obtain⟨t1,rfl⟩:=x1
    obtain⟨t2,rfl⟩:=x2
    obtain⟨t3,rfl⟩:=x3
    refine call_range_3 (by omega) ?_ (Or.inl (lH (by omega)))
    refine wpAny_pyIter_range (IsRange.new ..) (zl b1 b2 b3 b4 b5 b6) ?_
    generalize hN:nD i j k=n at q
    have hl:(tU i k n).length=n:=by unfold tU;simp
    have I2:bE X pins σ H1 { s1 with heap:=s1.heap.push { cls:=.type "range",data:=.fields #[.int i t1,.int j t2,.int k t3] },toks:=s1.toks }:=I1.kept fun b o e=>aq _ e
    refine⟨(s1.heap.push { cls:=.type "range",data:=.fields #[.int i t1,.int j t2,.int k t3] }).objs.size,[(s1.heap.push { cls:=.type "range",data:=.fields #[.int i t1,.int j t2,.int k t3] }).objs.size],_,_,H1,rfl,
     I2.kept (t':=s1.toks) fun b o e=>aq _ e,nL (ty:="range_iterator") (fun A hA=>by rw[hl];exact Walks.range hA _ i k n) (fun m v hk hp=>?_) (fun k h st=>⟨_,_,st,rfl,rfl⟩) (by decide) (fun A k s Q E st h=>lG st h),⟨cU _,?_⟩,fun b hb=>?_,q⟩
    ·obtain⟨t,rfl⟩:=hp
     rw[hl]at hk
     refine⟨.int (i+m*k),?_,t,rfl⟩
     unfold tU
     rw[aB,gM hk]
     rfl
    ·have e1:i+((0:Nat):Int)*k=i:=by simp
     have e2:((n:Nat):Int)-((0:Nat):Int)=Builtin.Range.rangeSize i j k:=by rw[tS b5,hN];simp
     rw[e1,e2]
     exact aH _ rfl
    ·have e:b=(s1.heap.push { cls:=.type "range",data:=.fields #[.int i t1,.int j t2,.int k t3] }).objs.size:=by simpa using hb
     subst e
     exact I2.fpOk (aA _) (I2.hok.fresh (aA _))⟩
section
variable{X:Cx}{a b c tg:Expr}{fs:FA}{p pos:Pos}
def pW(i k:Int)(n:Nat):List W:=(List.range n).map fun m:Nat=>W.int (i+m*k)
theorem DR(i k:Int)(n:Nat)(μ:List Addr)(H:Hp):RelWs X.K μ H (pW i k n) (tU i k n):=by
 unfold pW tU
 induction (List.range n)with
 |nil=>exact .nilI
 |cons a r ih=>exact .consI .int ih
def uW(fs:FA):FI:=fun ρ st=>(fs ρ st).bind fun ws st=>match ws with
 |[.int i,.int j,.int k]=>if -(2^60)<=i/\i<2^60/\-(2^60)<=j/\j<2^60/\0<k/\k<=1000 then .ok (pW i k (nD i j k),none) st else .bad
 |_=>.bad
theorem Ie(hm:X.mg "range"=none)(ha:SA X [a,b,c] fs)(hg:Gl X "range":=by rfl)(hs:starEach [a,b,c] X.env=(false,eval a X.env)::starEach [b,c] X.env:=by rfl)(qJ:(backTo pos (starEach [b,c] X.env)).any (·.1)=false:=by rfl) :
  SI X tg (.Call (.Name "range" p) [a,b,c] [] pos) (uW fs):=⟨(uV hm ⟨ha.h⟩ hg hs qJ).h.imp fun σ H R h=>by
 obtain⟨μ,ρ,st,l,h⟩:=h
 refine⟨μ,ρ,st,l,RK.bind h l fun μ1 st1 x v H1 p1 x1 l1 q1 h1=>?_⟩
 split at h1
 ·rename_i i j k
  obtain⟨y,ys,rfl,ry,r1⟩:=q1.consE
  obtain⟨z,zs,rfl,rz,r2⟩:=r1.consE
  obtain⟨w,rfl,kn⟩:=r2.one
  split at h1
  ·rename_i cc
   exact⟨_,_,_,by rw[ry.intE,rz.intE,kn.intE],cc,h1 μ1 _ H1 (al _) eE.refl l1.sto (pe (DR _ _ _))⟩
  ·exact h1.elim
 ·exact h1.elim⟩
end
theorem Ig{X:Cx}{nu tg iter:Expr}{mw:List Expr}{scope:Scope}{pos:Pos}{nm:List Str}{cap:List (Option Nat)}{wi:TI}{g:TG}{tc:TT}{te:TE}(gR:X.calm=true)
  (gQ:scope.kind=.function) (hB:uN X.env.scope.names scope.names nm cap X.N=true)
  (hi:QI X tg iter wi) (hg:∀cl C s0 H0 fp,QG (bO X nm scope cl C s0 H0 fp) tg g) (ht:∀cl C s0 H0 fp,Rp (bO X nm scope cl C s0 H0 fp) mw tc)
  (he:∀cl C s0 H0 fp,QE (bO X nm scope cl C s0 H0 fp) nu te) (hs:∀x,foldedSetIterable iter X.env x=pure x:=by intro _;rfl) :
  QE X (.ListComp nu [⟨tg,iter,mw,0⟩] scope pos) (tJ cap wi g tc te):=by
 simp only[uN,cw,kY,gZ,gj,cv,aO]at hB
 obtain⟨⟨⟨⟨b1,b2⟩,b3⟩,b4⟩,b5⟩:=hB
 refine⟨fun pins s σ H Q I h=>?_⟩
 have has:∀x∈scope.names,x.2=.free->∃c,X.env.cells.lookup x.1=some c:=fun x hx hk=>by
  rcases b3 x hx with z|z
  ·exact absurd hk z
  ·exact I.ok.has x.1 (.inl z)
 have nF:∀x c,(f9 X.env scope.names []).lookup x=some c->X.env.cells.lookup x=some c:=fun x c h=>m6 scope.names [] has (by simp) (x,c) (dy h)
 have hin:∀x,(x,NameKind.free)∈scope.names->∃c,(f9 X.env scope.names []).lookup x=some c:=fun x h=>let ⟨_,q⟩:=lh (env:=X.env) scope.names [] x h;lj q
 have hmap:(relabel scope X.env).names=scope.names.map fun y=>if (y.2==.free&&X.env.scope.kind==.function&&X.env.kindOf y.1==some .cell)then(y.1,NameKind.cell)else y:=by
  show scope.names.map _=_
  refine cD fun y _=>?_
  obtain⟨a,b⟩:=y
  rfl
 have fr:∀x,((relabel scope X.env).names.lookup x=some .cell\/(relabel scope X.env).names.lookup x=some .free)->(x,NameKind.free)∈scope.names:=fun x h=>by
  have h':∃k,(x,k)∈(relabel scope X.env).names/\(k=.cell\/k=.free):=by
   rcases h with h|h
   ·exact⟨_,dy h,.inl rfl⟩
   ·exact⟨_,dy h,.inr rfl⟩
  obtain⟨k,hm,hk⟩:=h'
  rw[hmap]at hm
  obtain⟨y,hy,e⟩:=a9.mp hm
  obtain⟨a,b⟩:=y
  by_cases hb:b=.free
  ·subst hb
   have:a=x:=by split at e<;>(cases e;rfl)
   subst this;exact hy
  ·rw[aQ (by simp[hb])]at e
   cases e
   rcases hk with rfl|rfl
   ·exact absurd rfl (b2 _ hy)
   ·exact absurd rfl hb
 refine AC (cl:=f9 X.env scope.names []) (cap:=cap) (nm:=nm) gR (AF has) nF gQ (fun x hx hk=>(b1 x hx).resolve_left fun z=>z hk) (fun y hy=>b2 y hy) (fun x hx=>hin x (fr x hx)) (fun i j e=>?_) b4 hi.h (fun C s0 H0 fp=>(hg _ C s0 H0 fp).h) (fun C s0 H0 fp=>(ht _ C s0 H0 fp).h) (fun C s0 H0 fp=>(he _ C s0 H0 fp).h) hs pins s σ H Q I h
 have hi':i<cap.length:=(aa.mp e).1
 have q:=b5 i (ca.mpr hi')
 rw[e]at q
 dsimp only at q
 cases hx:nm[i]? with
 |none=>rw[hx]at q;simp at q
 |some x=>
  cases hy:X.N[j]? with
  |none=>rw[hx,hy]at q;simp at q
  |some y=>
   rw[hx,hy]at q
   simp only[cw,cv]at q
   obtain⟨⟨rfl,q1⟩,q2⟩:=q
   refine⟨x,rfl,rfl,.inr (.inl q1),(by rw[q1];decide),?_,?_⟩
   ·obtain⟨c,hc⟩:=hin x (dy q2)
    rw[hc,nF _ _ hc]
   ·rw[hmap];exact j6 (env:=X.env) q2
section
variable{X:Cx}{nu tg iter:Expr}{mw:List Expr}{scope:Scope}{pos:Pos}{nm:List Str}{cap:List (Option Nat)}{fi:FI}{f:FG}{t:FT}{el:FE}
theorem Ih(hB:uN X.env.scope.names scope.names nm cap X.N=true)(hi:SI X tg iter fi)(hg:∀cl C s0 H0 fp,SG (bO X nm scope cl C s0 H0 fp) tg f)(ht:∀cl C s0 H0 fp,Oc (bO X nm scope cl C s0 H0 fp) mw t)
  (he:∀cl C s0 H0 fp,SE (bO X nm scope cl C s0 H0 fp) nu el) (gR:X.calm=true:=by rfl) (gQ:scope.kind=.function:=by rfl) (hs:∀x,foldedSetIterable iter X.env x=pure x:=by intro _;rfl) :
  SE X (.ListComp nu [⟨tg,iter,mw,0⟩] scope pos) (fj cap fi f t el):=
 ⟨(Ig gR gQ hB ⟨hi.h⟩ (fun cl C s0 H0 fp=>So (X:=X) rfl rfl (hg cl C s0 H0 fp)) (fun cl C s0 H0 fp=>Sn (X:=X) rfl rfl (ht cl C s0 H0 fp)) (fun cl C s0 H0 fp=>Sm (X:=X) rfl rfl (he cl C s0 H0 fp)) hs).h.imp fun _ _ _ h=>zg h⟩
end
theorem bE.turnedL{X:Cx}{pins:List (Addr×Obj)}{σ:St}{H:Hp}{s:Shared}{h':Heap}{t':Nat}{ch:List Addr}(I:bE X pins σ H s)(k:∀b o,b∉ch->s.heap.get? b=some o->h'.get? b=some o)
  (f:∀b∈ch,my X pins H b):bE X pins σ H { s with heap:=h',toks:=t' }:=by
 have nit:∀b u,H b=some u->b∉ch:=fun b u q z=>by rw[(f b z).1]at q;cases q
 refine I.step (g':=s.gens) (d':=s.drawn) (ch:=ch) (fun b hb=>?_) (fun b o _ _ hc q _=>k b o hc q) (fun b o _ _ hc q _=>⟨o.slots,k b o hc q⟩) (fun _ _ _ _ n=>n)
  (fun b o hc q=>⟨o,k b o hc q⟩) (fun _ _ q=>q) (fun _ _ _ q=>q) (fun b ps q=>⟨#[],by rw[q];simp⟩) (fun m hm=>?_) (fun b u q=>?_) I.bare
 ·exact⟨(f b hb).2.2.2.1,(f b hb).2.1,(f b hb).2.2.2.2.1,(f b hb).2.2.2.2.2⟩
 ·obtain⟨o,es,ep,ho,r⟩:=hm
  exact⟨o,es,ep,k _ o (fun z=>(f _ z).2.1 rfl) ho,r⟩
 ·refine(I.hok b u q).stay (fun c v hc z=>?_) (fun _ z=>z) fun _ _ z=>z
  rcases hc with y|y
  ·rw[y]at z ⊢;exact k b v (nit b u q) z
  ·exact k c v (nit c _ y) z
section
variable{prog:Program}{w:World}{A:Around}{E:Value->Shared->Prop}{s:Shared}
variable{z P O i j a b:Addr}{n m:Nat}{xs ys:Array Value}{x y u v:Value}
theorem Ii{Q:Value->Shared->Prop}(D:ZipApart z P O i j a b)(qz:IsZip s.heap z P O .none)(qP:IsPair s.heap P (.ref i) (.ref j))(qO:IsPair s.heap O u v)
  (q1:s.heap.IsTupleIter i a n) (q2:s.heap.IsTupleIter j b m) (ta:s.heap.IsTuple a xs) (tb:s.heap.IsTuple b ys) (hx:xs[n]?=some x) (hy:ys[m]?=some y)
  (hQ:∀g,IsZip g z P O (rawInt s.heap.objs.size)->IsPair g O x y->g.IsTupleIter i a (n+1)->g.IsTupleIter j b (m+1)->IsPair g s.heap.objs.size x y ->
   (∀c o,c≠z->c≠O->c≠i->c≠j->s.heap.get? c=some o->g.get? c=some o)->Q (.ref s.heap.objs.size) { s with heap:=g }) :
  wpAny (model prog w) A (Builtin.«zip.__next__» ⟨[.ref z],[]⟩) (fun fin s'=>∃v,fin=.done (.ret v)/\Q v s') E s:=by
 show wpAny _ _ (field (.ref z) 2 >>= _) _ _ _
 refine ag (ce qz rfl (x:=.bool false) rfl ?_)
 show wpAny _ _ (field (.ref z) 3 >>= _) _ _ _
 refine ag (ce qz rfl (x:=.ref P) rfl (ag (dv qP rfl ?_)))
 show wpAny _ _ (Builtin.SmallTypes.ownedTupleIsFree (.ref z) >>= _) _ _ _
 refine ag ?_;unfold Builtin.SmallTypes.ownedTupleIsFree
 refine ag (ce qz rfl (x:=.none) rfl (aI ?_));simp only[gi]
 refine ag (lO (ag (ce qz rfl (x:=.ref O) rfl ?_)))
 refine ag (eY qz (by simp) fun g1 z1 s1=>?_)
 replace z1:IsZip g1 z P O .ellipsis:=z1
 refine ag ?_
 simp only[List.zipIdx_cons,List.zipIdx_nil,ma,List.forIn_nil]
 refine ag (ag (kG ?_))
 show wpAny _ _ (Builtin.SmallTypes.nextOf (.ref i) >>= _) _ _ _
 refine ag (iR (q1.extBut s1.extBut D.i1z) (ta.extBut s1.extBut D.l1z) hx fun g2 k2 s2=>aI ?_)
 have O2:IsPair g2 O u v:=s2.extBut _ _ D.TOi1 (s1.extBut _ _ D.TOz qO)
 refine ag (dv O2 rfl (ag (i6 O2 fun g3 O3 s3=>?_)))
 replace O3:IsPair g3 O x v:=O3
 refine ag (hZ (aI (ag (ag (kG ?_)))))
 show wpAny _ _ (Builtin.SmallTypes.nextOf (.ref j) >>= _) _ _ _
 refine ag (iR (((q2.extBut s1.extBut D.i2z).extBut s2.extBut D.i12.symm).extBut s3.extBut D.TOi2.symm)
  (((tb.extBut s1.extBut D.l2z).extBut s2.extBut D.l2i1).extBut s3.extBut D.l2TO) hy fun g4 k4 s4=>aI ?_)
 have O4:IsPair g4 O x v:=s4.extBut _ _ D.TOi2 O3
 refine ag (dv O4 rfl (ag (i6 O4 fun g5 O5 s5=>?_)))
 replace O5:IsPair g5 O x y:=O5
 refine ag (hZ (aI (aI (ag (dv O5 rfl (ag (wpAny_newTuple ?_)))))))
 have sz:g5.objs.size=s.heap.objs.size:=by rw[s5.1,s4.1,s3.1,s2.1,s1.1]
 have z5:IsZip g5 z P O .ellipsis:=s5.extBut _ _ D.TOz.symm (s4.extBut _ _ D.i2z.symm (s3.extBut _ _ D.TOz.symm (s2.extBut _ _ D.i1z.symm z1)))
 have kp:∀c o,c≠z->c≠O->c≠i->c≠j->s.heap.get? c=some o->g5.get? c=some o:=fun c o c1 c2 c3 c4 e=>
  s5.extBut _ _ c2 (s4.extBut _ _ c4 (s3.extBut _ _ c2 (s2.extBut _ _ c3 (s1.extBut _ _ c1 e))))
 have k5:g5.IsTupleIter i a (n+1):=((k2.extBut s3.extBut D.TOi1.symm).extBut s4.extBut D.i12).extBut s5.extBut D.TOi1.symm
 have l5:g5.IsTupleIter j b (m+1):=k4.extBut s5.extBut D.TOi2.symm
 have zlt:z<g5.objs.size:=aG z5
 show wpAny _ _ (Builtin.SmallTypes.ownedTupleHandOut (.ref z) (.ref g5.objs.size) >>= _) _ _ _
 refine ag ?_;unfold Builtin.SmallTypes.ownedTupleHandOut
 have z6:IsZip (g5.push { cls:=.type "tuple",data:=.seq #[x,y] }) z P O .ellipsis:=aq _ z5
 refine ag (eY z6 (by simp) fun g7 z7 s7=>?_)
 replace z7:IsZip g7 z P O (rawInt g5.objs.size):=z7
 refine eY z7 (by simp) fun g8 z8 s8=>?_
 replace z8:IsZip g8 z P O (rawInt g5.objs.size):=z8
 have up:∀c o,c≠z->g5.get? c=some o->g8.get? c=some o:=fun c o c1 e=>s8.extBut _ _ c1 (s7.extBut _ _ c1 (aq _ e))
 have T8:IsPair g8 g5.objs.size x y:=s8.extBut _ _ (iw zlt) (s7.extBut _ _ (iw zlt) (aH _ rfl))
 rw[sz]at z8 T8
 refine aI ⟨_,rfl,?_⟩
 show Q (.ref g5.objs.size) _
 rw[sz]
 exact hQ g8 z8 (up _ _ D.TOz O5) (k5.at fun o e=>up _ o D.i1z e) (l5.at fun o e=>up _ o D.i2z e) T8 fun c o c1 c2 c3 c4 e=>up c o c1 (kp c o c1 c2 c3 c4 e)
theorem L0{Q:Fin->Shared->Prop}(hh:A.handled=none)(D:ZipApart z P O i j a b)(qz:IsZip s.heap z P O .none)(qP:IsPair s.heap P (.ref i) (.ref j))(qO:IsPair s.heap O u v)
  (q1:s.heap.IsTupleIter i a n) (q2:s.heap.IsTupleIter j b m) (ta:s.heap.IsTuple a xs) (tb:s.heap.IsTuple b ys) (he:xs[n]?=none\/ys[m]?=none)
  (hE:∀g e,(∀c o,c≠z->c≠O->c≠i->c≠j->s.heap.get? c=some o->g.get? c=some o)->(∃o,g.get? e=some o/\o.cls=.type "StopIteration")->E (.ref e) { s with heap:=g }) :
  wpAny (model prog w) A (Builtin.«zip.__next__» ⟨[.ref z],[]⟩) Q E s:=by
 show wpAny _ _ (field (.ref z) 2 >>= _) _ _ _
 refine ag (ce qz rfl (x:=.bool false) rfl ?_)
 show wpAny _ _ (field (.ref z) 3 >>= _) _ _ _
 refine ag (ce qz rfl (x:=.ref P) rfl (ag (dv qP rfl ?_)))
 show wpAny _ _ (Builtin.SmallTypes.ownedTupleIsFree (.ref z) >>= _) _ _ _
 refine ag ?_;unfold Builtin.SmallTypes.ownedTupleIsFree
 refine ag (ce qz rfl (x:=.none) rfl (aI ?_));simp only[gi]
 refine ag (lO (ag (ce qz rfl (x:=.ref O) rfl ?_)))
 refine ag (eY qz (by simp) fun g1 z1 s1=>?_)
 replace z1:IsZip g1 z P O .ellipsis:=z1
 refine ag ?_
 simp only[List.zipIdx_cons,List.zipIdx_nil,ma,List.forIn_nil]
 refine ag (ag (kG ?_))
 show wpAny _ _ (Builtin.SmallTypes.nextOf (.ref i) >>= _) _ _ _
 cases hx:xs[n]? with
 |none=>
  refine ag (jm hh (q1.extBut s1.extBut D.i1z) (ta.extBut s1.extBut D.l1z) hx fun g2 e s2 ye=>?_)
  obtain⟨oe,h1,h2⟩:=ye
  have z2:IsZip g2 z P O .ellipsis:=s2 _ _ D.i1z.symm z1
  have nez:e≠z:=fun q=>by subst q;rw[z2]at h1;cases h1;simp at h2
  exact eY z2 (by simp) fun g3 _ s3=>hE g3 e (fun c o c1 _ c3 _ q=>s3.extBut _ _ c1 (s2 _ _ c3 (s1.extBut _ _ c1 q))) ⟨oe,s3.extBut _ _ nez h1,h2⟩
 |some x=>
  have hy:ys[m]?=none:=by rcases he with h|h;rw[hx]at h;cases h;exact h
  refine ag (iR (q1.extBut s1.extBut D.i1z) (ta.extBut s1.extBut D.l1z) hx fun g2 k2 s2=>aI ?_)
  have O2:IsPair g2 O u v:=s2.extBut _ _ D.TOi1 (s1.extBut _ _ D.TOz qO)
  refine ag (dv O2 rfl (ag (i6 O2 fun g3 O3 s3=>?_)))
  refine ag (hZ (aI (ag (ag (kG ?_)))))
  show wpAny _ _ (Builtin.SmallTypes.nextOf (.ref j) >>= _) _ _ _
  refine ag (jm hh (((q2.extBut s1.extBut D.i2z).extBut s2.extBut D.i12.symm).extBut s3.extBut D.TOi2.symm)
   (((tb.extBut s1.extBut D.l2z).extBut s2.extBut D.l2i1).extBut s3.extBut D.l2TO) hy fun g4 e s4 ye=>?_)
  obtain⟨oe,h1,h2⟩:=ye
  have z4:IsZip g4 z P O .ellipsis:=s4 _ _ D.i2z.symm (s3.extBut _ _ D.TOz.symm (s2.extBut _ _ D.i1z.symm z1))
  have nez:e≠z:=fun q=>by subst q;rw[z4]at h1;cases h1;simp at h2
  exact eY z4 (by simp) fun g5 _ s5=>hE g5 e (fun c o c1 c2 c3 c4 q=>s5.extBut _ _ c1 (s4 _ _ c4 (s3.extBut _ _ c2 (s2.extBut _ _ c3 (s1.extBut _ _ c1 q))))) ⟨oe,s5.extBut _ _ nez h1,h2⟩
theorem Ij{Q:Option Value->Shared->Prop}(D:ZipApart z P O i j a b)(qz:IsZip s.heap z P O .none)(qP:IsPair s.heap P (.ref i) (.ref j))(qO:IsPair s.heap O u v)
  (q1:s.heap.IsTupleIter i a n) (q2:s.heap.IsTupleIter j b m) (ta:s.heap.IsTuple a xs) (tb:s.heap.IsTuple b ys) (hx:xs[n]?=some x) (hy:ys[m]?=some y)
  (hQ:∀g,IsZip g z P O (rawInt s.heap.objs.size)->IsPair g O x y->g.IsTupleIter i a (n+1)->g.IsTupleIter j b (m+1)->IsPair g s.heap.objs.size x y ->
   (∀c o,c≠z->c≠O->c≠i->c≠j->s.heap.get? c=some o->g.get? c=some o)->Q (some (.ref s.heap.objs.size)) { s with heap:=g }) :
  wpAny (model prog w) A (pyNext (.ref z)) Q E s:=by
 have T:s.TypeIs (.ref z) "zip":=⟨_,qz,rfl⟩
 unfold pyNext
 exact ag (gS (cf (name:=Str.ofString "__next__") T jg (cS jg T F.entry_zip_next
   (Ii D qz qP qO q1 q2 ta tb hx hy fun g a1 a2 a3 a4 a5 a6=>aI (hQ g a1 a2 a3 a4 a5 a6)) (F.args_zip_next_1 _))))
theorem Ik{Q:Option Value->Shared->Prop}(hh:A.handled=none)(D:ZipApart z P O i j a b)(qz:IsZip s.heap z P O .none)(qP:IsPair s.heap P (.ref i) (.ref j))(qO:IsPair s.heap O u v)
  (q1:s.heap.IsTupleIter i a n) (q2:s.heap.IsTupleIter j b m) (ta:s.heap.IsTuple a xs) (tb:s.heap.IsTuple b ys) (he:xs[n]?=none\/ys[m]?=none)
  (hQ:∀g,(∀c o,c≠z->c≠O->c≠i->c≠j->s.heap.get? c=some o->g.get? c=some o)->Q none { s with heap:=g }):wpAny (model prog w) A (pyNext (.ref z)) Q E s:=by
 have T:s.TypeIs (.ref z) "zip":=⟨_,qz,rfl⟩
 unfold pyNext
 refine ag (gS (cf (name:=Str.ofString "__next__") T jg (cS jg T F.entry_zip_next (L0 hh D qz qP qO q1 q2 ta tb he fun g e hk ye=>?_) (F.args_zip_next_1 _))))
 obtain⟨o,ho,hc⟩:=ye
 exact ag (iQ (T:="StopIteration") (b:=true) ⟨o,ho,hc⟩ mZ (aI (hQ _ hk)))
end
open AutoSeq1 (wpAny_loadPart')
abbrev Rv(h:Heap)(a:Addr):Heap:=h.push (j7 a)
abbrev Rw(h:Heap)(a b:Addr):Heap:=(Rv h a).push (j7 b)
abbrev Rx(h:Heap)(a b:Addr):Heap:=(Rw h a b).push { cls:=.type "tuple",data:=.seq #[.ref h.objs.size,.ref (Rv h a).objs.size] }
abbrev Ry(h:Heap)(a b:Addr):Heap:=(Rx h a b).push { cls:=.type "tuple",data:=.seq #[.none,.none] }
abbrev Od(h:Heap)(a b:Addr):Heap:=(Ry h a b).push { cls:=.type "zip",data:=.fields #[.none,.bool false,.bool false,.ref (Rw h a b).objs.size,.ref (Rx h a b).objs.size] }
theorem L1     (a b : Addr) (xs ys : Array Value) : Meets (Builtin.«zip.__new__» ⟨[.type "zip", .ref a, .ref b], []⟩) (fun _ R s => s.heap.IsTuple a xs /\ s.heap.IsTuple b ys /\
      R (.ok (.ret (.ref (Ry  s.heap a b).objs.size))) { s with heap := Od  s.heap a b }) :=
  .of_wp fun prog w A R s h => by
    obtain ⟨hp, g, d, tk, os⟩ := s
    obtain ⟨ha, hb, h⟩ := h
    have sb := sub_zip
    have hA : Heap.IsTuple (Shared.heap ⟨hp, g, d, tk, os⟩) a xs := ha
    have hB : Heap.IsTuple (Shared.heap ⟨hp.push (j7      a), g, d, tk, os⟩) b ys := hb.at fun o e => aq                     _ e
    wp_walk using fV                 hA, fV                 hB
    exact ⟨_, rfl, h⟩
section
variable{prog:Program}{w:World}{A:Around}{E:Value->Shared->Prop}{s:Shared}
theorem Il{a b:Addr}{xs ys:Array Value}{Q:Value->Shared->Prop}(ha:s.heap.IsTuple a xs)(hb:s.heap.IsTuple b ys)
  (q:∀g,IsZip g (s.heap.objs.size+4) (s.heap.objs.size+2) (s.heap.objs.size+3) .none->IsPair g (s.heap.objs.size+2) (.ref s.heap.objs.size) (.ref (s.heap.objs.size+1)) ->
   IsPair g (s.heap.objs.size+3) .none .none->g.IsTupleIter s.heap.objs.size a 0->g.IsTupleIter (s.heap.objs.size+1) b 0->(∀c o,s.heap.get? c=some o->g.get? c=some o)->Q (.ref (s.heap.objs.size+4)) { s with heap:=g }) :
  wpAny (model prog w) A (call (.type "zip") [.ref a,.ref b]) Q E s:=by
 refine oS F.called_zip (by decide) (F.typeCall_zip_2 _ _) (F.newCall_zip_2 _ _) (fun ob=>F.args_object_init_3 ob _ _) F.entry_zip_new (L1 a b xs ys) ⟨ha,hb,?_⟩
 have n1:(Rv s.heap a).objs.size=s.heap.objs.size+1:=ef ..
 have n2:(Rw s.heap a b).objs.size=s.heap.objs.size+2:=by rw[ef,n1]
 have n3:(Rx s.heap a b).objs.size=s.heap.objs.size+3:=by rw[ef,n2]
 have n4:(Ry s.heap a b).objs.size=s.heap.objs.size+4:=by rw[ef,n3]
 have p:∀{h:Heap} {c:Addr} {o u:Obj},h.get? c=some o->(h.push u).get? c=some o:=fun e=>aq _ e
 have g5:(Od s.heap a b).get? (Ry s.heap a b).objs.size=some _:=aH _ rfl
 have g4:(Od s.heap a b).get? (Rx s.heap a b).objs.size=some _:=p (aH _ rfl)
 have g3:(Od s.heap a b).get? (Rw s.heap a b).objs.size=some _:=p (p (aH _ rfl))
 have g2:(Od s.heap a b).get? (Rv s.heap a).objs.size=some _:=p (p (p (aH _ rfl)))
 have g1:(Od s.heap a b).get? s.heap.objs.size=some _:=p (p (p (p (aH _ rfl))))
 show _/\_
 rw[n2,n3,n4]at g5
 rw[n1,n2]at g3
 rw[n3]at g4
 rw[n1]at g2
 rw[n4]
 exact⟨⟨_,g5,rfl⟩,q _ g5 g3 g4 ⟨_,g1,rfl,rfl⟩ ⟨_,g2,rfl,rfl⟩ fun c o e=>p (p (p (p (p e))))⟩
end
def S7(K:Frag)(a b:Addr):It:=
  ⟨fun i H=>∃xs ys x y,fg K H a xs/\fg K H b ys/\xs[i]?=some x/\ys[i]?=some y,
   fun i H v H'=>∃p,H p=none/\v=.ref p/\∀xs ys x y,fg K H a xs->fg K H b ys->xs[i]?=some x->ys[i]?=some y->H'=fm H p (.tup [x,y]),
   fun i H=>∃xs ys,fg K H a xs/\fg K H b ys/\(xs.length<=i\/ys.length<=i)⟩
theorem Im{P:Program}{w:World}{K:Frag}{sB:List Expr}{kk:Nat}{pos:Pos}{z T O i j a b:Addr}(D:ZipApart z T O i j a b) :
  yJ P w K (.Tuple sB kk pos) (S7 K a b) [z,T,O,i,j] z (fun k h=>IsZip h z T O .none/\IsPair h T (.ref i) (.ref j)/\(∃u v,IsPair h O u v)/\h.IsTupleIter i a k/\h.IsTupleIter j b k) where
 mem:=by simp
 obj:=fun k h st c hc=>by
  obtain⟨h1,h2,⟨u,v,h3⟩,⟨o4,e4,_,d4⟩,⟨o5,e5,_,d5⟩⟩:=st
  have q:c=z\/c=T\/c=O\/c=i\/c=j:=by simpa using hc
  rcases q with rfl|rfl|rfl|rfl|rfl
  ·exact⟨_,h1,fun v q=>by cases q⟩
  ·exact⟨_,h2,fun v q=>by cases q⟩
  ·exact⟨_,h3,fun v q=>by cases q⟩
  ·exact⟨_,e4,fun v q=>by rw[d4]at q;cases q⟩
  ·exact⟨_,e5,fun v q=>by rw[d5]at q;cases q⟩
 keep:=fun k h h' st kp=>by
  obtain⟨h1,h2,⟨u,v,h3⟩,h4,h5⟩:=st
  exact⟨kp z (by simp) _ h1,kp T (by simp) _ h2,⟨u,v,kp O (by simp) _ h3⟩,h4.at fun o e=>kp i (by simp) o e,h5.at fun o e=>kp j (by simp) o e⟩
 item:=by
  intro X hP hw hK hc k pins s σ H E I hf st hg
  subst hP hw hK
  obtain⟨xs,ys,x,y,hq,hr,hx,hy⟩:=hg
  obtain⟨bC,rv,p1,_⟩:=I.tuple hq
  obtain⟨jts,kn,p2,_⟩:=I.tuple hr
  obtain⟨u,hu,ru⟩:=rv.get hx
  obtain⟨v,hv,rv'⟩:=kn.get hy
  obtain⟨h1,h2,⟨c1,c2,h3⟩,h4,h5⟩:=st
  refine Ij D h1 h2 h3 h4 h5 (show s.heap.IsTuple a bC.toArray from p1) (show s.heap.IsTuple b jts.toArray from p2) (x:=u) (y:=v) (by simpa using hu) (by simpa using hv) fun g a1 a2 a3 a4 a5 kp=>⟨_,rfl,?_⟩
  refine wpAny_letOwnedTupleGo_zip a1 fun g2 b1 s2=>?_
  have zZ:H s.heap.objs.size=none:=I.hok.fresh (aA _)
  have I1:bE X pins σ (fm H s.heap.objs.size (.tup [x,y])) { s with heap:=s.heap.push { cls:=.type "tuple",data:=.seq #[u,v] },toks:=s.toks }:=I.laid (fun c o q=>aq _ q) (aA _)
   ⟨by show 2<=sizeLine;decide,[u,v],.cons ru (.cons rv' .nil),⟨_,aH _ rfl,rfl,_,rfl⟩⟩
  have lt:∀{c o},s.heap.get? c=some o->c≠s.heap.objs.size:=fun e=>bd (aG e)
  have nf:∀c∈[z,T,O,i,j],c≠s.heap.objs.size:=fun c hb=>by
   have q:c=z\/c=T\/c=O\/c=i\/c=j:=by simpa using hb
   rcases q with rfl|rfl|rfl|rfl|rfl
   ·exact lt h1
   ·exact lt h2
   ·exact lt h3
   ·obtain⟨_,e,_⟩:=h4;exact lt e
   ·obtain⟨_,e,_⟩:=h5;exact lt e
  have fp:∀c∈[z,T,O,i,j],my X pins (fm H s.heap.objs.size (.tup [x,y])) c:=fun c hb=>by
   obtain⟨f0,f⟩:=hf c hb
   exact⟨by rw[cx (nf c hb)];exact f0,f⟩
  have I2:bE X pins σ (fm H s.heap.objs.size (.tup [x,y])) { s with heap:=g2,toks:=s.toks }:=bE.turnedL (s:={ s with heap:=s.heap.push { cls:=.type "tuple",data:=.seq #[u,v] },toks:=s.toks }) (ch:=[z,O,i,j]) (t':=s.toks) I1 (fun c o hb q=>?_) fun c hb=>fp c (by
   have q:c=z\/c=O\/c=i\/c=j:=by simpa using hb
   rcases q with rfl|rfl|rfl|rfl<;>simp)
  ·refine⟨.ref s.heap.objs.size,_,I2,rfl,⟨_,zZ,rfl,fun xs' Ai x' y' e1 e2 e3 e4=>?_⟩,⟨b1,s2.extBut _ _ D.TIz (kp _ _ D.TIz D.TITO D.TIi1 D.TIi2 h2),⟨_,_,s2.extBut _ _ D.TOz a2⟩,a3.extBut s2.extBut D.i1z,a4.extBut s2.extBut D.i2z⟩,fun c hb=>(fp c hb).1⟩
   have q1:=I.tuple_inj e1 hq
   have q2:=I.tuple_inj e2 hr
   subst q1 q2
   rw[hx]at e3;rw[hy]at e4;cases e3;cases e4;rfl
  ·have q':(s.heap.push { cls:=.type "tuple",data:=.seq #[u,v] }).get? c=some o:=q
   have hn:c≠z/\c≠O/\c≠i/\c≠j:=by simpa using hb
   refine s2.extBut c o hn.1 ?_
   by_cases hb':c=s.heap.objs.size
   ·subst hb'
    have e1:=aH s.heap (o:={ cls:=.type "tuple",data:=.seq #[u,v] }) rfl
    rw[e1]at q';cases q'
    exact a5
   ·rw[Heap.get?_push_ne _ _ _ hb']at q'
    exact kp c o hn.1 hn.2.1 hn.2.2.1 hn.2.2.2 q'
 done:=by
  intro X hP hw hK hc k pins s σ H E I hf st hg
  subst hP hw hK
  obtain⟨xs,ys,hq,hr,he⟩:=hg
  obtain⟨bC,rv,p1,_⟩:=I.tuple hq
  obtain⟨jts,kn,p2,_⟩:=I.tuple hr
  obtain⟨h1,h2,⟨c1,c2,h3⟩,h4,h5⟩:=st
  have l1:=rv.length
  have l2:=kn.length
  refine Ik (I.ok.hd hc) D h1 h2 h3 h4 h5 (show s.heap.IsTuple a bC.toArray from p1) (show s.heap.IsTuple b jts.toArray from p2) (by
   rcases he with q|q
   ·exact .inl (by simp;omega)
   ·exact .inr (by simp;omega)) fun g kp=>⟨rfl,?_⟩
  exact I.turnedL (ch:=[z,O,i,j]) (t':=s.toks) (fun c o hb q=>by
   have hn:c≠z/\c≠O/\c≠i/\c≠j:=by simpa using hb
   exact kp c o hn.1 hn.2.1 hn.2.2.1 hn.2.2.2 q) fun c hb=>hf c (by
   have q:c=z\/c=O\/c=i\/c=j:=by simpa using hb
   rcases q with rfl|rfl|rfl|rfl<;>simp)
 self:=fun A k s Q E st h=>wpAny_pyIter_zip st.1 h
def Sq(K:Frag)(ta:TA):TI:=fun σ H R=>ta σ H fun vs H1=>∃a b,vs=[.ref a,.ref b]/\(∃xs,fg K H1 a xs)/\(∃ys,fg K H1 b ys)/\R (S7 K a b) H1
theorem Io{X:Cx}{a b:Expr}{ta:TA}{p pos tp:Pos}{sB:List Expr}{kk:Nat}(hm:X.mg "zip"=none)(ha:QA X [a,b] ta)(hg:Gl X "zip":=by rfl)(hs:starEach [a,b] X.env=(false,eval a X.env)::starEach [b] X.env:=by rfl)
  (uA:(backTo pos (starEach [b] X.env)).any (·.1)=false:=by rfl):QI X (.Tuple sB kk tp) (.Call (.Name "zip" p) [a,b] [] pos) (Sq X.K ta):=⟨by
 intro pins s σ H R I h
 refine Call_ (kA I hg hm boot_zip (cz (fY (ha.h pos pins s σ H _ I h) fun us s1 ⟨vs,H1,I1,r1,q1⟩=>?_) hs uA))
 obtain⟨t,t',e,⟨xs,hq⟩,⟨ys,hr⟩,q⟩:=q1
 subst e
 cases r1 with
 |cons x1 r1=>cases r1 with
  |cons x2 r1=>
   cases r1
   cases x1
   cases x2
   obtain⟨bC,rv,p1,_⟩:=I1.tuple hq
   obtain⟨jts,kn,p2,_⟩:=I1.tuple hr
   have lt1:t<s1.heap.objs.size:=by obtain⟨_,e,_⟩:=(show s1.heap.IsTuple t bC.toArray from p1);exact aG e
   have lt2:t'<s1.heap.objs.size:=by obtain⟨_,e,_⟩:=(show s1.heap.IsTuple t' jts.toArray from p2);exact aG e
   refine Il (show s1.heap.IsTuple t bC.toArray from p1) (show s1.heap.IsTuple t' jts.toArray from p2) fun g e1 e2 e3 e4 e5 kp=>?_
   refine wpAny_pyIter_zip e1 ?_
   refine⟨s1.heap.objs.size+4,[s1.heap.objs.size+4,s1.heap.objs.size+2,s1.heap.objs.size+3,s1.heap.objs.size,s1.heap.objs.size+1],_,_,H1,rfl,I1.kept (t':=s1.toks) kp,Im (zipApart_new lt1 lt2),⟨e1,e2,⟨_,_,e3⟩,e4,e5⟩,fun c hb=>?_,q⟩
   have hc:s1.heap.objs.size<=c:=by
    have z:c=s1.heap.objs.size+4\/c=s1.heap.objs.size+2\/c=s1.heap.objs.size+3\/c=s1.heap.objs.size\/c=s1.heap.objs.size+1:=by simpa using hb
    rcases z with rfl|rfl|rfl|rfl|rfl<;>simp
   exact I1.fpOk hc (I1.hok.fresh hc)⟩
def nV:List W->List W->List W
 |x::xs,y::ys=>.tup [x,y]::nV xs ys
 |_,_=>[]
theorem rh:∀{xs ys:List W} {i:Nat} {w:W},(nV xs ys)[i]?=some w->∃x y,xs[i]?=some x/\ys[i]?=some y/\w=.tup [x,y]
 |x::xs,y::ys,0,w,h=>by simp[nV]at h;exact⟨x,y,rfl,rfl,h.symm⟩
 |x::xs,y::ys,i+1,w,h=>by simp[nV]at h;simpa using rh h
 |[],_,i,w,h=>by simp[nV]at h
 |_::_,[],i,w,h=>by simp[nV]at h
theorem rj:∀(xs ys:List W),(nV xs ys).length=min xs.length ys.length
 |x::xs,y::ys=>by simp[nV,rj xs ys]
 |[],_=>by simp[nV]
 |_::_,[]=>by simp[nV]
section
variable{X:Cx}{a b:Expr}{fs:FA}{p pos:Pos}
def uX(fs:FA):FI:=fun ρ st=>(fs ρ st).bind fun ws st=>match ws with
 |[.tup xs,.tup ys]=>.ok (nV xs ys,none) st
 |_=>.bad
theorem Ip{sB:List Expr}{kk:Nat}{tp:Pos}(hm:X.mg "zip"=none)(ha:SA X [a,b] fs)(hg:Gl X "zip":=by rfl)(hs:starEach [a,b] X.env=(false,eval a X.env)::starEach [b] X.env:=by rfl)(qJ:(backTo pos (starEach [b] X.env)).any (·.1)=false:=by rfl) :
  SI X (.Tuple sB kk tp) (.Call (.Name "zip" p) [a,b] [] pos) (uX fs):=⟨(Io hm ⟨ha.h⟩ hg hs qJ).h.imp fun σ H R h=>by
 obtain⟨μ,ρ,st,l,h⟩:=h
 refine⟨μ,ρ,st,l,RK.bind h l fun μ1 st1 x v H1 p1 x1 l1 q1 h1=>?_⟩
 split at h1
 ·rename_i zs ws
  obtain⟨y,ys,rfl,ry,r1⟩:=q1.consE
  obtain⟨w,rfl,kn⟩:=r1.one
  obtain⟨t,vs,rfl,hS,r⟩:=ry.tupE
  obtain⟨t',wj,rfl,hS',r'⟩:=kn.tupE
  refine⟨t,t',rfl,⟨vs,hS⟩,⟨wj,hS'⟩,h1 μ1 _ H1 (al _) eE.refl l1.sto fun i μ' bH H' pp xx S _=>⟨fun w hw=>?_,fun hl=>⟨vs,wj,xx _ _ hS,xx _ _ hS',by rw[rj]at hl;rw[<- r.len,<- r'.len];omega⟩⟩⟩
  obtain⟨x,y,hx,hy,rfl⟩:=rh hw
  have m1:=r.mono pp xx
  have m2:=r'.mono pp xx
  obtain⟨v1,g1,g2⟩:=m1.get hx
  obtain⟨v2,g3,g4⟩:=m2.get hy
  refine⟨⟨vs,wj,v1,v2,xx _ _ hS,xx _ _ hS',g1,g3⟩,fun z H'' hz=>?_⟩
  obtain⟨q,hq,rfl,hH⟩:=hz
  have e:=hH vs wj v1 v2 (xx _ _ hS) (xx _ _ hS') g1 g3
  subst e
  have ex:=fg.same (K:=X.K) (dg hq (.tup [v1,v2]))
  exact⟨ex,S.same (dg hq _),.tupI fg.new (.consI (g2.mono (al _) ex) (.consI (g4.mono (al _) ex) .nilI))⟩
 ·exact h1.elim⟩
end
open Builtin.Str (tooLong)
section
variable{prog:Program}{w:World}{A:Around}{E:Value->Shared->Prop}{s:Shared}
end
section
variable{X:Cx}
end
section
variable{X:Cx}
def mK:List W->Option (List Int)
 |[]=>some []
 |.int z::ws=>(mK ws).map (z :: ·)
 |_=>none
theorem oB{K:Frag}{μ:List Addr}{H:Hp}:∀{ws:List W} {l:List Int} {vs:List V},mK ws=some l->RelWs K μ H ws vs->vs=l.map V.int
 |[],l,vs,h,r=>by simp only[mK]at h;cases h;exact r.nilE
 |w::ws,l,vs,h,r=>by
  obtain⟨x,xs,rfl,rx,rs⟩:=r.consE
  unfold mK at h
  split at h
  ·rename_i e;cases e
  ·rename_i z QZ e
   cases e
   cases e2:mK ws with
   |none=>rw[e2]at h;cases h
   |some l'=>rw[e2]at h;cases h;rw[rx.intE,oB e2 rs];rfl
  ·cases h
end
section
variable{X:Cx}
end
abbrev PQ:=List W×List (Nat×List W)
abbrev Tl:=cB->List am->R PQ
section
variable{X:Cx}{nu tg iter:Expr}{mw:List Expr}{scope:Scope}{pos:Pos}{nm:List Str}{cap:List (Option Nat)}{fi:Tl}{f:FG}{t:FT}{el:FE}{m:Nat}
end
section
variable{X:Cx}{a b:Expr}{fs:FA}{p pos:Pos}
end
section
variable{X:Cx}
end
section
variable{X:Cx}{nu tg iter:Expr}{scope:Scope}{pos:Pos}{nm:List Str}{wi:TI}{g:TG}{te:Cx->TE}
end
section
variable{X:Cx}{nu tg iter:Expr}{scope:Scope}{pos:Pos}{nm:List Str}{fi:FI}{f:FG}{el:FE}
end
theorem DK.key_inj{a b:DK}:a.key=b.key↔a=b:=by
 cases a<;>cases b<;>simp[DK.key,yX]
def DK.w:DK->W
 |.i z=>.int z
 |.s l=>.str l
def jI:W->Option DK
 |.int z=>some (.i z)
 |.str l=>some (.s l)
 |_=>none
theorem oD{K:Frag}{μ:List Addr}{H:Hp}{w:W}{k:DK}{v:V}(h:jI w=some k)(r:bF K μ H w v):v=kV k.key:=by
 cases w with
 |int z=>cases h;exact r.intE
 |str l=>cases h;exact r.strE
 |_=>cases h
theorem DK.w_rel{K:Frag}{μ:List Addr}{H:Hp}(k:DK):bF K μ H k.w (kV k.key):=by
 cases k with
 |i z=>exact .int
 |s l=>exact .str
def j4(kvs:List (DK×W))(k:DK):Option W:=(kvs.find? fun p=>decide (p.1=k)).map fun p=>p.2
def qi(kvs:List (DK×W))(k:DK)(v:W):List (DK×W):=if (kvs.any fun p=>decide (p.1=k))=true then kvs.map fun p=>if p.1=k then(p.1,v)else p else kvs++[(k,v)]
def jJ(kvs:List (DK×W))(k:DK):List (DK×W):=kvs.filter fun p=>decide (p.1≠k)
abbrev dV(kvs:List (DK×W))(vs:List V):List (fX×V):=(kvs.map fun p=>p.1.key).zip vs
section
variable{K:Frag}{μ:List Addr}{H:Hp}
theorem uY:∀{kvs:List (DK×W)} {vs:List V} (k:DK),RelWs K μ H (kvs.map fun p=>p.2) vs->(∃w v,j4 kvs k=some w/\jD (dV kvs vs) k.key=some v/\bF K μ H w v)\/(j4 kvs k=none/\jD (dV kvs vs) k.key=none)
 |[],vs,k,r=>.inr ⟨rfl,rfl⟩
 |p::kvs,vs,k,r=>by
  obtain⟨x,xs,rfl,a,b⟩:=RelWs.consE r
  have ih:=uY (kvs:=kvs) k b
  by_cases h:p.1=k
  ·refine .inl ⟨p.2,x,?_,?_,a⟩
   ·unfold j4;rw[dQ];simp[h]
   ·show jD ((p.1.key,x)::dV kvs xs) k.key=some x
    exact mB (by rw[h])
  ·have e1:j4 (p::kvs) k=j4 kvs k:=by unfold j4;rw[dQ];simp[h]
   have e2:jD (dV (p::kvs) (x::xs)) k.key=jD (dV kvs xs) k.key:=ol (p:=(p.1.key,x)) fun z=>h (DK.key_inj.mp z)
   rw[e1,e2];exact ih
theorem DS:∀{kvs:List (DK×W)} {vs:List V} (k:DK),RelWs K μ H (kvs.map fun p=>p.2) vs->((dV kvs vs).any fun kv=>decide (kv.1=k.key))=(kvs.any fun p=>decide (p.1=k))
 |[],vs,k,r=>rfl
 |p::kvs,vs,k,r=>by
  obtain⟨x,xs,rfl,a,b⟩:=RelWs.consE r
  show(decide (p.1.key=k.key)||(dV kvs xs).any _)=(decide (p.1=k)||kvs.any _)
  rw[DS k b]
  congr 1
  rw[decide_eq_decide];exact DK.key_inj
theorem DT{k:DK}{w:W}{v:V}:∀{kvs:List (DK×W)} {vs:List V},RelWs K μ H (kvs.map fun p=>p.2) vs->bF K μ H w v->∃us,(dV kvs vs).map (fun kv=>if kv.1=k.key then(kv.1,v)else kv)=dV (kvs.map fun p=>if p.1=k then(p.1,w)else p) us/\RelWs K μ H ((kvs.map fun p=>if p.1=k then(p.1,w)else p).map fun p=>p.2) us
 |[],vs,r,kn=>⟨[],rfl,.nilI⟩
 |p::kvs,vs,r,kn=>by
  obtain⟨x,xs,rfl,a,b⟩:=RelWs.consE r
  obtain⟨us,e,q⟩:=DT (k:=k) b kn
  by_cases h:p.1=k
  ·refine⟨v::us,?_,?_⟩
   ·show(if p.1.key=k.key then(p.1.key,v)else(p.1.key,x))::(dV kvs xs).map _=_
    rw[aD (by rw[h]),e,aK,aD h];rfl
   ·rw[aK,aD h];exact .consI kn q
  ·refine⟨x::us,?_,?_⟩
   ·show(if p.1.key=k.key then(p.1.key,v)else(p.1.key,x))::(dV kvs xs).map _=_
    rw[aQ (fun z=>h (DK.key_inj.mp z)),e,aK,aQ h];rfl
   ·rw[aK,aQ h];exact .consI a q
theorem DU{kvs:List (DK×W)}{vs:List V}{k:DK}{w:W}{v:V}(r:RelWs K μ H (kvs.map fun p=>p.2) vs)(kn:bF K μ H w v):∃us,mh (dV kvs vs) k.key v=dV (qi kvs k w) us/\RelWs K μ H ((qi kvs k w).map fun p=>p.2) us:=by
 unfold mh qi
 rw[DS k r]
 by_cases h:(kvs.any fun p=>decide (p.1=k))=true
 ·rw[aD h,aD h]
  exact DT r kn
 ·rw[aQ h,aQ h]
  refine⟨vs++[v],?_,?_⟩
  ·unfold dV
   rw[bQ,List.zip_append (by rw[av,<- r.len,av])];rfl
  ·rw[bQ];exact r.app (.consI kn .nilI)
theorem AS{k:DK}:∀{kvs:List (DK×W)} {vs:List V},RelWs K μ H (kvs.map fun p=>p.2) vs->∃us,lW (dV kvs vs) k.key=dV (jJ kvs k) us/\RelWs K μ H ((jJ kvs k).map fun p=>p.2) us
 |[],vs,r=>⟨[],rfl,.nilI⟩
 |p::kvs,vs,r=>by
  obtain⟨x,xs,rfl,a,b⟩:=RelWs.consE r
  obtain⟨us,e,q⟩:=AS (k:=k) b
  by_cases h:p.1=k
  ·refine⟨us,?_,?_⟩
   ·have e1:jJ (p::kvs) k=jJ kvs k:=by unfold jJ;rw[de];simp[h]
    rw[e1]
    exact(BL (p:=(p.1.key,x)) (by rw[h])).trans e
   ·have e1:jJ (p::kvs) k=jJ kvs k:=by unfold jJ;rw[de];simp[h]
    rw[e1];exact q
  ·have e1:jJ (p::kvs) k=p::jJ kvs k:=by unfold jJ;rw[de];simp[h]
   refine⟨x::us,?_,?_⟩
   ·rw[e1]
    exact(BM (p:=(p.1.key,x)) fun z=>h (DK.key_inj.mp z)).trans (fP (List.cons (p.1.key,x)) e)
   ·rw[e1];exact .consI a q
theorem uZ{kvs:List (DK×W)}{vs:List V}(r:RelWs K μ H (kvs.map fun p=>p.2) vs):(dV kvs vs).length=kvs.length:=by
 unfold dV;rw[List.length_zip,av,<- r.len,av,Nat.min_self]
theorem fg.butD{l:Addr}{xs:List (fX×V)}{H':Hp}(e:Rn l H H')(hl:H l=some (.dK xs)):eE K H H':=by
 have kJ:∀{p:Addr} {o:HO},H p=some o->(∀zs,o≠.dK zs)->p≠l:=fun{p o} q hn z=>by subst z;rw[hl]at q;cases q;exact hn _ rfl
 refine⟨fun p ys h=>?_,fun b o u h=>e _ _ (kJ h (fun _ z=>by cases z)) h⟩
 rcases h with(h|⟨o,h⟩)|h
 ·exact .inl (.inl (e _ _ (kJ h (fun _ z=>by cases z)) h))
 ·exact .inl (.inr ⟨o,e _ _ (kJ h (fun _ z=>by cases z)) h⟩)
 ·exact .inr h
end
theorem h9.setD{K:Frag}{mg:Str->Option Value}{μ:List Addr}{st:List am}{H:Hp}(S:h9 K mg μ st H){n:Nat}{a:Addr}{kvs N_:List (DK×W)}{xs:List (fX×V)}{us:List V}(hn:st[n]?=some (.dct kvs))(hm:μ[n]?=some a)(ha:H a=some (.dK xs))(hr:RelWs K μ H (N_.map fun p=>p.2) us) :
  h9 K mg μ (st.set n (.dct N_)) (fm H a (.dK (dV N_ us))):=
 S.setG hn rfl hm ha (fun _ _ z=>by cases z) (fun _ z=>by cases z) (fg.butD gT ha) rfl ⟨us,fC,hr.mono (al _) (fg.butD gT ha)⟩
def kg(st:List am):W->Option (Nat×List (DK×W))
 |.loc n=>(match st[n]? with
  |some (.dct kvs)=>some (n,kvs)
  |some (.rod kvs)=>some (n,kvs)
  |_=>none)
 |_=>none
def qj(st:List am):W->Option (Nat×List (DK×W))
 |.loc n=>(match st[n]? with
  |some (.dct kvs)=>some (n,kvs)
  |_=>none)
 |_=>none
theorem rp{K:Frag}{mg:Str->Option Value}{μ:List Addr}{st:List am}{H:Hp}(S:h9 K mg μ st H){x:W}{v:V}{n:Nat}{kvs:List (DK×W)}(h:kg st x=some (n,kvs))(r:bF K μ H x v) :
  ∃a vs,(st[n]?=some (.dct kvs)\/st[n]?=some (.rod kvs))/\μ[n]?=some a/\v=.ref a/\Rd H a (.dK (dV kvs vs))/\RelWs K μ H (kvs.map fun p=>p.2) vs:=by
 cases x with
 |loc m=>
  simp only[kg]at h
  cases e:st[m]? with
  |none=>rw[e]at h;cases h
  |some c=>
   rw[e]at h
   cases c with
   |dct z=>
    cases h
    obtain⟨a,g,vs,k,rr⟩:=S.get e
    obtain⟨b,f,rfl⟩:=r.locE
    rw[g]at f;cases f
    exact⟨a,vs,.inl e,g,rfl,.inl k,rr⟩
   |rod z=>
    cases h
    obtain⟨a,g,vs,o,k,rr⟩:=S.get e
    obtain⟨b,f,rfl⟩:=r.locE
    rw[g]at f;cases f
    exact⟨a,vs,.inr e,g,rfl,.inr ⟨o,k⟩,rr⟩
   |_=>cases h
 |_=>cases h
theorem qx{K:Frag}{mg:Str->Option Value}{μ:List Addr}{st:List am}{H:Hp}(S:h9 K mg μ st H){x:W}{v:V}{n:Nat}{kvs:List (DK×W)}(h:qj st x=some (n,kvs))(r:bF K μ H x v) :
  ∃a vs,st[n]?=some (.dct kvs)/\μ[n]?=some a/\v=.ref a/\H a=some (.dK (dV kvs vs))/\RelWs K μ H (kvs.map fun p=>p.2) vs:=by
 cases x with
 |loc m=>
  simp only[qj]at h
  cases e:st[m]? with
  |none=>rw[e]at h;cases h
  |some c=>
   rw[e]at h
   cases c with
   |dct z=>
    cases h
    obtain⟨a,g,vs,k,rr⟩:=S.get e
    obtain⟨b,f,rfl⟩:=r.locE
    rw[g]at f;cases f
    exact⟨a,vs,e,g,rfl,k,rr⟩
   |_=>cases h
 |_=>cases h
theorem wF.r{H:Hp}{a:Addr}{kvs:List (fX×V)}{k:fX}(e:Rd H a (.dK kvs)):wF H a (kV k) (jD kvs k):=.inl ⟨kvs,k,e,rfl,rfl⟩
section
variable{X:Cx}{a b c d e o i:Expr}{es:List Expr}{pos p p2 iu gq dM:Pos}{x name:Str}{fa fb fc fe fo fi:FE}{fs:FA}{kk:Nat}
def u0(GP:Bool)(x y:W)(st:List am):R W:=match kg st y with
 |some (_,kvs)=>(match jI x with
  |some k=>.ok (.bl (if GP then !(j4 kvs k).isSome else(j4 kvs k).isSome)) st
  |none=>.bad)
 |none=>qt GP x y st
theorem B8{K:Frag}{μ:List Addr}{H:Hp}{kvs:List (DK×W)}{vs:List V}{k:DK}(r:RelWs K μ H (kvs.map fun p=>p.2) vs):(jD (dV kvs vs) k.key).isSome=(j4 kvs k).isSome:=by
 rcases uY k r with⟨w,v,e1,e2,_⟩|⟨e1,e2⟩<;>rw[e1,e2]<;>rfl
theorem xh(hr:h_ kk X.A)(ho:oZ X (compareOp .NotIn) (qt true)):oZ X (compareOp .NotIn) (u0 true):=⟨fun pins s σ H x y v u Q I rv ru ⟨μ,st,wx,wy,S,rx,ry,q⟩=>by
 unfold u0 at q
 cases e:kg st wy with
 |none=>rw[e]at q;exact ho.h pins s σ H x y v u Q I rv ru ⟨μ,st,wx,wy,S,rx,ry,q⟩
 |some nk=>
  obtain⟨n,kvs⟩:=nk
  rw[e]at q
  cases ek:jI wx with
  |none=>simp only[ek]at q;exact q.elim
  |some k=>
   simp only[ek]at q
   obtain⟨a,vs,_,_,rfl,ha,r⟩:=rp S e ry
   have:=oD ek rx
   subst this
   obtain rfl:u=Value.ref a:=ru
   refine Hv (Dd hr) I (wF.r ha) rv fun s' I'=>?_
   rw[B8 r]
   exact⟨.bl _,H,I',rfl,ie S q⟩,fun x y st=>by
 unfold u0
 split
 ·split<;>trivial
 ·exact ho.n x y st⟩
def qk(x y:W)(st:List am):R W:=match kg st x,jI y with
 |some (_,kvs),some k=>pd (j4 kvs k) fun w=>.ok w st
 |_,_=>.bad
theorem AT(hr:h_ kk X.A)(ha:SE X a fa)(hb:SE X b fb)(hs:Lw b:=by intro _ _;rfl):SE X (.Subscript a b pos) (e2 qk fa fb):=⟨(Hw (Dd hr) ha.h hb.h hs).imp fun σ H Q h=>by
 obtain⟨μ,ρ,st,l,h⟩:=h
 refine⟨μ,ρ,st,l,RK.bind h l fun μ1 st1 x v H1 p1 x1 l1 q1 h1=>⟨μ1,ρ,st1,l1,RK.bind h1 l1 fun μ2 cZ y u H2 p2 x2 l2 q2 h2=>?_⟩⟩
 unfold qk at h2
 cases e1:kg cZ x with
 |none=>rw[e1]at h2;exact h2.elim
 |some nk=>
  obtain⟨n,kvs⟩:=nk
  cases e2:jI y with
  |none=>rw[e1,e2]at h2;exact h2.elim
  |some k=>
   rw[e1,e2]at h2
   simp only at h2
   obtain⟨a,vs,_,_,rfl,ha,r⟩:=rp l2.sto e1 (q1.mono p2 x2)
   have:=oD e2 q2
   subst this
   rcases uY k r with⟨w,z,g1,g2,g3⟩|⟨g1,g2⟩
   ·rw[g1]at h2
    exact⟨a,z,rfl,by rw[<- g2];exact wF.r ha,h2 μ2 z H2 (al _) eE.refl l2.sto g3⟩
   ·rw[g1]at h2;exact h2.elim⟩
def oE(x i v:W)(st:List am):Option (List am):=match qj st x,jI i with
 |some (n,kvs),some k=>if kvs.length<j8 then some (st.set n (.dct (qi kvs k v)))else none
 |_,_=>none
theorem zm(hr:h_ kk X.A):Bu X (DJ X oE):=fun pins s σ H o i v ov iv u Q I r1 r2 r3 ⟨μ,st,wo,wi,wv,bH,S,ro,ri,rv,e,q⟩=>by
 unfold oE at e
 cases e1:qj st wo with
 |none=>rw[e1]at e;cases e
 |some nk=>
  obtain⟨n,kvs⟩:=nk
  cases e2:jI wi with
  |none=>rw[e1,e2]at e;cases e
  |some k=>
   rw[e1,e2]at e
   simp only at e
   split at e
   ·rename_i hl
    cases e
    obtain⟨a,vs,hn,hm,rfl,ha,r⟩:=qx S e1 ro
    have:=oD e2 ri
    subst this
    obtain rfl:ov=Value.ref a:=r1
    obtain⟨us,g1,g2⟩:=DU (k:=k) r rv
    refine BK (Dd hr) I (Hu.k ha (by rw[uZ r];exact aX hl (by decide))) r2 r3 fun s' I'=>⟨_,I',?_⟩
    rw[g1]
    exact q _ (fg.butD gT ha) (S.setD hn hm ha g2)
   ·cases e
def rq(ws:List W)(st:List am):R W:=match ws with
 |[x]=>(match kg st x with
  |some (_,kvs)=>.ok (.int kvs.length) st
  |none=>dJ ws st)
 |_=>dJ ws st
theorem L3:mF X (.builtin "len") rq:=⟨fun pins s σ H vs us Q I rv ⟨μ,st,ws,S,r,q⟩=>by
 unfold rq at q
 split at q
 ·rename_i x
  split at q
  ·rename_i n kvs e
   obtain⟨y,rfl,ry⟩:=r.one
   obtain⟨a,vs,_,_,rfl,ha,rr⟩:=rp S e ry
   obtain⟨u,rfl,ru⟩:=lV rv
   obtain rfl:u=Value.ref a:=ru
   refine O1 I ha fun t s' I'=>⟨.int kvs.length,H,I',⟨t,by rw[uZ rr]⟩,?_⟩
   exact q μ _ H (al _) eE.refl S .int
  ·exact dB.h pins s σ H _ us Q I rv ⟨μ,st,_,S,r,q⟩
 ·exact dB.h pins s σ H _ us Q I rv ⟨μ,st,_,S,r,q⟩,fun ws st=>by
 unfold rq
 split
 ·split
  ·trivial
  ·exact(dB (X:=X)).n _ _
 ·exact(dB (X:=X)).n _ _⟩
def DV:FE:=fun _ st=>.ok (.loc st.length) (st++[.dct []])
theorem L4:SE X (.Dict [] [] pos) DV:=⟨Dg.imp fun σ H Q h=>by
 obtain⟨μ,ρ,st,l,h⟩:=h
 intro p hp
 have hs:qd H (fm H p (.dK [])):=dg hp _
 exact h (μ++[p]) (.ref p) _ (aE _ _) (fg.same hs) (l.sto.push (c:=.dct []) hp ⟨[],fC,.nilI⟩) (nQ l.sto)⟩
abbrev FP:=cB->List am->R (List (W×W))
def pX:FP:=fun _ st=>.ok [] st
def mL(fk fv:FE)(fr:FP):FP:=fun ρ st=>(fk ρ st).bind fun k st=>(fv ρ st).bind fun v st=>(fr ρ st).bind fun ps st=>.ok ((k,v)::ps) st
abbrev Ss(X:Cx):List Addr->Hp->List (W×W)->List (V×V)->Prop:=fun μ H ws vs=>RelWs X.K μ H (ws.map fun p=>p.1) (vs.map fun p=>p.1)/\RelWs X.K μ H (ws.map fun p=>p.2) (vs.map fun p=>p.2)
structure Rz(X:Cx)(pos:Pos)(keys:List (Option Expr))(jP:List Expr)(f:FP):Prop where
 h:∃Aa,O7 X pos keys jP Aa/\∀σ H Q,tG X (Ss X) f σ H Q->uL Aa σ H Q
theorem DW:Rz X pos [] [] pX:=⟨[],Hy,fun σ H Q h=>by
 obtain⟨μ,ρ,st,l,h⟩:=h
 exact h μ [] H (al _) eE.refl l.sto ⟨.nilI,.nilI⟩⟩
theorem AU{k v:Expr}{fk fv:FE}{fr:FP}{ks:List (Option Expr)}{vs:List Expr}(hk:SE X k fk)(hv:SE X v fv)(hr:Rz X pos ks vs fr):Rz X pos (some k::ks) (v::vs) (mL fk fv fr):=by
 obtain⟨Aa,h1,h2⟩:=hr.h
 refine⟨(tE X fk,tE X fv)::Aa,Dh hk.h hv.h h1,fun σ H Q h=>?_⟩
 obtain⟨μ,ρ,st,l,h⟩:=h
 refine⟨μ,ρ,st,l,RK.bind h l fun μ1 st1 x1 v1 H1 p1 e1 l1 q1 h1=>⟨μ1,ρ,st1,l1,RK.bind h1 l1 fun μ2 cZ x2 v2 H2 p2 e2 l2 q2 h2'=>h2 _ _ _ ⟨μ2,ρ,cZ,l2,RK.bind h2' l2 fun μ3 j0 x3 v3 H3 p3 e3 l3 q3 h3=>?_⟩⟩⟩
 exact h3 μ3 _ H3 (al _) eE.refl l3.sto ⟨.consI (q1.mono (p2.trans p3) (e2.trans e3)) q3.1,.consI (q2.mono p3 e3) q3.2⟩
def keysOf:List (W×W)->Option (List (DK×W))
 |[]=>some []
 |(k,v)::r=>match jI k,keysOf r with
  |some k,some r=>some ((k,v)::r)
  |_,_=>none
theorem tV{K:Frag}{μ:List Addr}{H:Hp}:∀{ps:List (W×W)} {kvs:List (DK×W)} {vs:List (V×V)},keysOf ps=some kvs->RelWs K μ H (ps.map fun p=>p.1) (vs.map fun p=>p.1)->RelWs K μ H (ps.map fun p=>p.2) (vs.map fun p=>p.2) ->
  ∃us,vs=(dV kvs us).map (fun kv=>(kV kv.1,kv.2))/\RelWs K μ H (kvs.map fun p=>p.2) us
 |[],kvs,vs,h,r1,r2=>by
  cases h
  have:vs=[]:=by simpa using r1.nilE
  subst this
  exact⟨[],rfl,.nilI⟩
 |(k,v)::r,kvs,vs,h,r1,r2=>by
  unfold keysOf at h
  cases e1:jI k with
  |none=>rw[e1]at h;cases h
  |some k'=>
   cases e2:keysOf r with
   |none=>rw[e1,e2]at h;cases h
   |some r'=>
    rw[e1,e2]at h
    cases h
    cases vs with
    |nil=>obtain⟨_,_,z,_⟩:=r1.consE;cases z
    |cons q vs=>
     obtain⟨x,xs,z,a1,b1⟩:=r1.consE
     cases z
     obtain⟨x,xs,z,a2,b2⟩:=r2.consE
     cases z
     obtain⟨us,f1,f2⟩:=tV e2 b1 b2
     refine⟨q.2::us,?_,.consI a2 f2⟩
     obtain⟨q1,q2⟩:=q
     show(q1,q2)::vs=(kV k'.key,q2)::_
     rw[f1,show q1=kV k'.key from oD e1 a1]
     rfl
def zn(acc kvs:List (DK×W)):List (DK×W):=kvs.foldl (fun acc p=>qi acc p.1 p.2) acc
theorem xi{K:Frag}{μ:List Addr}{H:Hp}:∀{kvs acc:List (DK×W)} {vs us:List V},RelWs K μ H (kvs.map fun p=>p.2) vs->RelWs K μ H (acc.map fun p=>p.2) us->∃zs,mD (dV acc us) (dV kvs vs)=dV (zn acc kvs) zs/\RelWs K μ H ((zn acc kvs).map fun p=>p.2) zs
 |[],acc,vs,us,r1,r2=>⟨us,rfl,r2⟩
 |p::kvs,acc,vs,us,r1,r2=>by
  obtain⟨x,xs,rfl,a,b⟩:=RelWs.consE r1
  obtain⟨zs,e,q⟩:=DU (k:=p.1) r2 a
  obtain⟨ys,e2,q2⟩:=xi b q
  refine⟨ys,?_,q2⟩
  show mD (mh (dV acc us) p.1.key x) (dV kvs xs)=_
  rw[e,e2];rfl
def rA(f:FP):FE:=fun ρ st=>(f ρ (st++[.dct []])).bind fun ps cZ=>match cZ[st.length]?,keysOf ps with
 |some (.dct []),some kvs=>if kvs.length<=15 then .ok (.loc st.length) (cZ.set st.length (.dct (zn [] kvs)))else .bad
 |_,_=>.bad
theorem DX{keys:List (Option Expr)}{jP:List Expr}{f:FP}(h:Rz X pos keys jP f)(yB:keys.all (·.isSome)=true:=by rfl)(hl:keys.length=jP.length:=by rfl)(h0:keys≠[]:=by intro z;cases z)(SC:keys.length<=15:=by decide) :
  SE X (.Dict keys jP pos) (rA f):=by
 obtain⟨Aa,h1,h2⟩:=h.h
 refine⟨(Hz h1 yB hl h0 SC).imp fun σ H Q hh=>?_⟩
 obtain⟨μ,ρ,st,l,hh⟩:=hh
 intro p hp
 have hs:qd H (fm H p (.dK [])):=dg hp _
 have S0:h9 X.K X.mg (μ++[p]) (st++[.dct []]) (fm H p (.dK [])):=l.sto.push (c:=.dct []) hp ⟨[],fC,.nilI⟩
 have l0:Rl X (μ++[p]) ρ (st++[.dct []]) σ (fm H p (.dK [])):=l.to (aE _ _) (fg.same hs) S0
 refine h2 σ _ _ ⟨μ++[p],ρ,st++[.dct []],l0,RK.bind (RK.mono hh (aE _ _) (fg.same hs)) l0 fun μ2 cZ ps vs H2 p2 e2 l2 q2 h2'=>?_⟩
 have hm:μ2[st.length]?=some p:=L2.pre_get p2 (by rw[l.sto.len];simp)
 split at h2'
 ·rename_i kvs ec ek
  split at h2'
  ·rename_i hle
   obtain⟨us,f1,f2⟩:=tV ek q2.1 q2.2
   have hd:H2 p=some (.dK []):=by
    obtain⟨a,g,vs0,k,_⟩:=l2.sto.get ec
    rw[hm]at g;cases g
    exact k
   obtain⟨zs,g1,g2⟩:=xi (acc:=[]) (us:=[]) f2 .nilI
   have cY:(dV kvs us).length=kvs.length:=uZ f2
   refine⟨hd,dV kvs us,f1,by rw[cY];exact hle,?_⟩
   rw[show mD ([]:List (fX×V)) (dV kvs us)=_ from g1]
   exact h2' μ2 (.ref p) _ (al _) (fg.butD gT hd) (l2.sto.setD ec hm hd g2) (.locI hm)
  ·exact h2'.elim
 ·exact h2'.elim
def AV(fo fk:FE):FE:=fun ρ st=>(fo ρ st).bind fun x st=>match qj st x with
 |some _=>(fk ρ st).bind fun y st=>(match qj st x,jI y with
  |some (n,kvs),some k=>pd (j4 kvs k) fun w=>.ok w (st.set n (.dct (jJ kvs k)))
  |_,_=>.bad)
 |none=>.bad
theorem L5(ho:SE X o fo)(he:SE X e fe)(m:M1 X o "pop" gq e dM:=by exact⟨by rfl,by rfl,by rfl,by rfl⟩):SE X (.Call (.Attribute o "pop" gq) [e] [] dM) (AV fo fe):=⟨(Di ho.h he.h m).imp fun σ H Q h=>by
 obtain⟨μ,ρ,st,l,h⟩:=h
 refine⟨μ,ρ,st,l,RK.bind h l fun μ1 st1 x v H1 p1 x1 l1 q1 h1=>?_⟩
 cases e0:qj st1 x with
 |none=>rw[e0]at h1;exact h1.elim
 |some nk0=>
  obtain⟨n0,kvs0⟩:=nk0
  rw[e0]at h1
  simp only at h1
  obtain⟨a0,vs0,_,hm0,rfl,ha0,_⟩:=qx l1.sto e0 q1
  refine⟨a0,rfl,.inl ⟨_,.inl ha0⟩,μ1,ρ,st1,l1,RK.bind h1 l1 fun μ2 cZ y u H2 p2 x2 l2 q2 h2=>?_⟩
  cases e1:qj cZ x with
  |none=>rw[e1]at h2;exact h2.elim
  |some nk=>
   obtain⟨n,kvs⟩:=nk
   cases e2:jI y with
   |none=>rw[e1,e2]at h2;exact h2.elim
   |some k=>
    rw[e1,e2]at h2
    simp only at h2
    obtain⟨a,vs,hn,hm,ea,ha,r⟩:=qx l2.sto e1 (q1.mono p2 x2)
    cases ea
    have:=oD e2 q2
    subst this
    rcases uY k r with⟨w,z,g1,g2,g3⟩|⟨g1,g2⟩
    ·rw[g1]at h2
     obtain⟨us,f1,f2⟩:=AS (k:=k) r
     refine⟨_,k.key,z,ha,rfl,g2,?_⟩
     rw[f1]
     exact h2 μ2 z _ (al _) (fg.butD gT ha) (l2.sto.setD hn hm ha f2) (g3.mono (al _) (fg.butD gT ha))
    ·rw[g1]at h2;exact h2.elim⟩
end
def xj(h:Heap)(mg:Str->Option Value):Prop:=∃bm o,mg "__builtins__"=some (.ref bm)/\bm≠builtinsNs/\h.get? bm=some o/\o.cls=.type "module"/\o.dict=some builtinsNs/\o.data=.plain
structure JC(ts:List Addr)(H:Hp):Prop where
 all:∀b,H b=none\/(∃o xs,H b=some (.frz o (.lst xs)))\/(b∈ts/\H b=some (.tbl #[]))
 tab:∀T∈ts,H T=some (.tbl #[])
theorem B9{P:Program}{w:World}{K:Frag}{mg mb:Str->Option Value}{CX:GR}{k:Nat}{fa a:Addr}{fd:FuncData}{x:Str}{sp:Sp}{s₁:Shared}{vs:List Value}{ns:List Int}{ts:List Addr}
  (KX:K.In s₁.heap) (Ol:s₁.heap.Ns mainGlobals mg) (hb:s₁.heap.Ns builtinsNs mb) (Tw:∀x:Str,x ≠ "__name__"->mb x=bootBuiltins x) (SD:s₁.heap.NoLimit) (hg:s₁.gens=#[])
  (ha:s₁.heap.get? a=some { cls:=.type "list",data:=.seq vs.toArray }) (hi:IntsAre vs ns) (hl:ns.length<=sizeLine) (hr:h_ k callerA)
  (ht:∀T∈ts,s₁.heap.get? T=some { cls:=.none,data:=.fields #[] }) (SN:∀T∈ts,K.lookup T=none) (RG:∀T∈ts,isCodeTable s₁.heap T)
  (Tz:xj s₁.heap mg) (F:∀base:Heap,K.In base->base.Ns mainGlobals mg->xj base mg->dG P w K mg base CX k fa fd [x] sp) (Q4:∀(s:Shared) (u:Value),BindsTo s fd ⟨[u],[]⟩ [(x,u)])
  (Oh:∀H:Hp,JC ts H->pL K H a (ns.map V.int)->sp [.ref a] H (fun v _=>v=.bl true) fun _ _ _=>False)
  (Tq:∀H e s',CX [] H s₁ (fun _ _ _=>False) e s'->False) :
  codeAny (model P w) callerA (.call (.ref fa) ⟨[.ref a],[]⟩) (fun r s'=>r=.ok (.ret (.bool true))/\OldK s₁.heap s'.heap/\s'.os=s₁.os/\AllBare s'.gens) s₁:=by
 have rv:=tH hi
 have lenV:=hi.length
 have hta:∀T∈ts,T≠a:=fun T hT z=>by
  have:=ht T hT
  rw[z,ha]at this
  have h2:=fP Obj.cls (a_ this)
  cases h2
 have core:∀H:Hp,JC ts H->pL K H a (ns.map V.int)->nK P w H s₁.heap->(∀b,H b≠none->b=a\/b∈ts)->(H a≠none->K.lookup a=none) ->
   codeAny (model P w) callerA (.call (.ref fa) ⟨[.ref a],[]⟩) (fun r s'=>r=.ok (.ret (.bool true))/\OldK s₁.heap s'.heap/\s'.os=s₁.os/\AllBare s'.gens) s₁:=by
  intro H hO hS hok hA hK
  have base_of:∀{b:Addr} {o:Obj},s₁.heap.get? b=some o->H b=none->(sH s₁.heap H).get? b=some o:=fun e n=>CS e n
  have noA:∀{b:Addr} {o:Obj} {es:Array DictEntry} {ep:Nat},s₁.heap.get? b=some o->o.data=.dict es ep->H b=none:=fun{b o es ep} e d=>by
   cases q:H b with
   |none=>rfl
   |some u=>
    rcases hA b (by rw[q];simp)with e'|e'
    ·subst e'
     rw[ha]at e;cases e
     have d':Data.seq vs.toArray _=Data.dict es ep:=d
     cases d'
    ·rw[ht b e']at e;cases e
     have d':Data.fields _=Data.dict es ep:=d
     cases d'
  have nsK:∀{b:Addr} {m:Str->Option Value},s₁.heap.Ns b m->(sH s₁.heap H).Ns b m:=fun{b m} ⟨o,es,ep,e,d,r⟩=>⟨o,es,ep,base_of e (noA e d),d,r⟩
  have hKb:K.In (sH s₁.heap H):=fun b o e=>base_of (KX b o e) (by
   cases q:H b with
   |none=>rfl
   |some u=>
    rcases hA b (by rw[q];simp)with e'|e'
    ·subst e'
     rw[hK (by rw[q];simp)]at e;cases e
    ·rw[SN b e']at e;cases e)
  have hbk':xj (sH s₁.heap H) mg:=by
   obtain⟨bm,o,b1,b2,b3,b4,b5,b6⟩:=Tz
   refine⟨bm,o,b1,b2,base_of b3 ?_,b4,b5,b6⟩
   cases q:H bm with
   |none=>rfl
   |some u=>
    rcases hA bm (by rw[q];simp)with e'|e'
    ·subst e'
     rw[ha]at b3;cases b3;exact absurd b4 (by simp)
    ·rw[ht bm e']at b3;cases b3;cases b4
  have hM:Mod K mg (sH s₁.heap H):=⟨hKb,nsK Ol,⟨mb,nsK hb,Tw⟩,let ⟨mc,h1,h2⟩:=SD;⟨mc,nsK h1,h2⟩⟩
  have e0:Hm P w K mg (sH s₁.heap H) callerA [] s₁ H:=⟨rfl,hM,fun b o e=>G3 e,Nat.le_of_eq (Br _ _),trivial,fun b hb=>absurd (show b∈([]:List Addr)from hb) (by simp),hok,.of_eq hg⟩
  refine lK ((F _ hKb (nsK Ol) hbk').run callerA [] s₁ H ⟨[.ref a],[]⟩ [.ref a] [.ref a] _ _ hr e0 (Q4 s₁ (.ref a)) (.cons rfl .nil) (Oh H hO hS)) fun r s' h=>?_
  cases r with
  |error e=>exact(Tq H e s' h).elim
  |ok fl=>
   cases fl with
   |next=>exact False.elim h
   |brk=>exact False.elim h
   |cont=>exact False.elim h
   |ret u=>
    obtain⟨v,H',os,bare,un,hok',r',q⟩:=h
    have q':v=.bl true:=q
    subst q'
    obtain rfl:u=Value.bool true:=r'
    have was:∀b o,s₁.heap.get? b=some o->asItWas s₁.heap s'.heap b o/\∃o',s'.heap.get? b=some o':=fun b o e=>by
     cases q:H b with
     |none=>
      have:=un.keep b o e q (by intro z;exact absurd (show b∈([]:List Addr)from z) (by simp)) (by simp)
      exact⟨.inl this,_,this⟩
     |some u=>
      rcases hO.all b with z|⟨ob,xs,z⟩|⟨hbt,z⟩
      ·rw[q]at z;cases z
      ·have z2:=un.frzs b ob _ z
       obtain⟨e1,_⟩:=hok b _ z
       obtain⟨e2,_⟩:=hok' b _ z2
       rw[e]at e1;cases e1
       exact⟨.inl e2,_,e2⟩
      ·obtain⟨kD,z2⟩:=un.tbls b _ z
       have e2:s'.heap.get? b=some { cls:=.none,data:=.fields (#[]++kD) }:=hok' b _ z2
       rw[ht b hbt]at e
       cases e
       exact⟨.inr (.inl ⟨RG b hbt,rfl,#[],kD,rfl,e2⟩),_,e2⟩
    exact⟨rfl,⟨fun b o e=>(was b o e).1,fun b o e=>(was b o e).2⟩,os,bare⟩
 have tb:∀(f:Hp),(∀T∈ts,f T=some (.tbl #[]))->∀T∈ts,e_ P w f s₁.heap T (.tbl #[]):=fun f _ T hT=>ht T hT
 have dec:∀b:Addr,b∈ts\/b∉ts:=fun b=>lR _
 open Classical in
 cases hk:K.lookup a with
 |some o=>
  have e:=KX a o hk
  rw[ha]at e
  cases e
  refine core (fun b=>if b∈ts then some (.tbl #[])else none) ⟨fun b=>?_,fun T hT=>aD hT⟩ (.inr ⟨_,vs.toArray,_,hk,rfl,rfl,rfl,by rw[aU,lenV];exact hl,by simpa using rv⟩) (fun b u z=>?_) (fun b z=>?_) (fun z=>?_)
  ·by_cases hb:b∈ts
   ·exact .inr (.inr ⟨hb,aD hb⟩)
   ·exact .inl (aQ hb)
  ·by_cases hb:b∈ts
   ·have z':=(aD hb).symm.trans z
    cases z'
    exact ht b hb
   ·have z':=(aQ hb).symm.trans z
    cases z'
  ·by_cases hb:b∈ts
   ·exact .inr hb
   ·exact absurd (aQ hb) z
  ·exact absurd (aQ (fun q=>hta a q rfl)) z
 |none=>
  refine core (fun b=>if b=a then some (.frz { cls:=.type "list",data:=.seq vs.toArray } (.lst (ns.map V.int)))else if b∈ts then some (.tbl #[])else none) ⟨fun b=>?_,fun T hT=>(aQ (hta T hT)).trans (aD hT)⟩ (.inl (.inr ⟨{ cls:=.type "list",data:=.seq vs.toArray },aD rfl⟩)) (fun b u z=>?_) (fun b z=>?_) (fun _=>hk)
  ·by_cases hb:b=a
   ·exact .inr (.inl ⟨_,_,aD hb⟩)
   ·by_cases hb2:b∈ts
    ·exact .inr (.inr ⟨hb2,(aQ hb).trans (aD hb2)⟩)
    ·exact .inl ((aQ hb).trans (aQ hb2))
  ·by_cases hb:b=a
   ·have z':=(aD hb).symm.trans z
    cases z'
    subst hb
    exact⟨ha,by rw[av];exact hl,vs,_,rv,ha⟩
   ·by_cases hb2:b∈ts
    ·have z':=((aQ hb).trans (aD hb2)).symm.trans z
     cases z'
     exact ht b hb2
    ·have z':=((aQ hb).trans (aQ hb2)).symm.trans z
     cases z'
  ·by_cases hb:b=a
   ·exact .inl hb
   ·by_cases hb2:b∈ts
    ·exact .inr hb2
    ·exact absurd ((aQ hb).trans (aQ hb2)) z
def DY(tc:List am)(F:List W->List am->R W):Prop:=∀ns:List Int,ns.length<=63->∃bH,F [.loc 0] (.ro (ns.map W.int)::tc)=.ok (.bl true) bH
def u3(L:List (Addr×Pos×Str)):List am:=L.map fun t=>.tab t.1 t.2.1 t.2.2
theorem walkT{l:PySem.W.OpenLaw}{k:Nat}{q:Program}{Bn:List Str}{XP:(Str->Option Value)->Heap->Prop}{YP:World->Heap->Prop}{d:DefRec}{K:Params->Frag}{x:Str}{G:List W->List am->R W}(L:List (Addr×Pos×Str))(hL:(L.map fun t=>t.1).Nodup)(hn:l.most=some 63)(SJ:d.params.defaults=[])(hr:h_ k callerA)
  (hY:∀(w:World) (h:Heap),YP w h->(K w.params).In h) (hT:∀(w:World) (h:Heap),YP w h->∀T∈L.map (fun t=>t.1),h.get? T=some { cls:=.none,data:=.fields #[] })
  (SN:∀(w:World),∀T∈L.map (fun t=>t.1),(K w.params).lookup T=none) (RG:∀(w:World),∀T∈L.map (fun t=>t.1),∃c,codeHdIn (K w.params) c T=true)
  (F:∀(w:World) (mg:Str->Option Value) (fa:Addr) (h:Heap),(K w.params).In h->h.Ns mainGlobals mg->mg d.name=some (.ref fa) ->
   ∃fd:FuncData,(∀(s:Shared) (u:Value),BindsTo s fd ⟨[u],[]⟩ [(x,u)])/\∀base:Heap,(K w.params).In base->base.Ns mainGlobals mg->xj base mg->dG l.prog w (K w.params) mg base (iH l.prog w) k fa fd [x] (iL (K w.params) mg 1 G))
  (ok:DY (u3 L) G):PySem.W.WalkO q Bn XP YP l.row.toRowW d [] (fun f vs=>PySem.call f vs):=by
 refine Att.attach_call hn SJ fun w s₀ s₁ mg mb fa o pm cd qH a vs ns G' Y ho hd mW hmg hobj hints cY hg=>?_
 have KX:=hY w _ Y
 obtain⟨fd,hb,hF⟩:=F w mg fa _ KX G'.T.g hmg
 refine B9 (ts:=L.map fun t=>t.1) (CX:=iH l.prog w) (sp:=iL (K w.params) mg 1 G) KX G'.T.g G'.T.b G'.T.builtins G'.T.nolimit hg hobj hints (bn cY (by decide)) hr (hT w _ Y) (SN w) (fun T hT'=>?_) G'.T.bmain hF hb (fun H hO hS=>?_) fun H e s' z=>?_
 ·obtain⟨c,hc⟩:=RG w T hT'
  obtain⟨o,vs,_,_,_,_,_,_,_,e1,e2,e3,e4,_⟩:=PySem.W.codeHd_of_K KX hc
  exact⟨c,o,vs,e1,e2,e3,e4⟩
 ·obtain⟨bH,e⟩:=ok ns cY
  have CA:Rq (K w.params) H a (ns.map V.int):=by
   rcases hS with(z|⟨o,z⟩)|z
   ·rcases hO.all a with y|⟨o,xs,y⟩|⟨_,y⟩
    ·rw[z]at y;cases y
    ·rw[z]at y;cases y
    ·rw[z]at y;cases y
   ·exact .inl ⟨o,z⟩
   ·exact .inr z
  have hta:∀T∈L.map (fun t=>t.1),T≠a:=fun T hT' z=>by
   have:=hT w _ Y T hT'
   rw[z,hobj]at this
   have h2:=fP Obj.cls (a_ this)
   cases h2
  have hri:∀μ:List Addr,RelWs (K w.params) μ H (ns.map W.int) (ns.map V.int):=fun μ=>by
   clear hS CA e cY hints
   induction ns with
   |nil=>exact .nilI
   |cons n r ih=>exact .consI .int ih
  refine⟨rfl,a::L.map (fun t=>t.1),[.loc 0],.ro (ns.map W.int)::u3 L,⟨fun i j b ci cj c1 c2 r1 r2 m1 m2=>?_,by simp[u3],fun i c b c1 c2=>?_⟩,.consI (.locI rfl) .nilI,?_⟩
  ·cases i with
   |zero=>cases c1;cases r1
   |succ i=>
    cases j with
    |zero=>cases c2;cases r2
    |succ j=>
     simp only[k_]at m1 m2
     rw[(List.getElem?_inj (aa.mp m1).1 hL).mp (m1.trans m2.symm)]
  ·cases i with
   |zero=>cases c1;cases c2;exact⟨_,CA,hri _⟩
   |succ i=>
    simp only[k_]at c1 c2
    unfold u3 at c1
    rw[aB]at c1 c2
    cases e1:L[i]? with
    |none=>rw[e1]at c1;cases c1
    |some t=>
     rw[e1]at c1 c2
     cases c1;cases c2
     exact⟨rfl,#[],hO.tab _ (a9.mpr ⟨t,aT e1,rfl⟩),trivial,.inl rfl⟩
  ·rw[e]
   intro μ' v H' _ _ _ rv
   exact rv.blE
 ·obtain⟨_,_,_,_,_,_,z,_⟩:=z
  exact z
structure DZ(en dn:Str)(pr:Arguments)(b:Expr)(sc:Scope):Prop where
 co:sc.isCoroutine=false
 gen:sc.isGenerator=false
 kind:sc.kind=.function
 cell:∀x∈sc.names,x.2≠.cell
 ke:sc.names.lookup en=some .local
 kd:sc.names.lookup dn=some .free
 bind:∀(nm q:Str) (cl:List (Str×Addr)) (pm fL ct v:Value),bindArgs (PySem.W.kla_fn nm q pr b sc cl pm fL ct) ⟨[v],[]⟩=pure [(en,v)]
 nd:(dn==("__classdict__":Str))=false
 d1:(en==("__debug__":Str))=false
 d2:(dn==("__debug__":Str))=false
section
variable{X:Cx}{pins:List (Addr×Obj)}{σ:St}{H:Hp}{s:Shared}{A:Around}{E:Value->Shared->Prop}{Q:Value->Shared->Prop}
theorem xk{f c0 cd a:Addr}{en dn nm q:Str}{pr:Arguments}{p2 p3 p4:Pos}{sc:Scope}{pm ct u:Value}{kvs:List (fX×V)}{k:fX}{v:V}
  (T:DZ en dn pr (.Subscript (.Name dn p2) (.Name en p3) p4) sc) (I:bE X pins σ H s)
  (hf:s.heap.get? f=some (kla_obj nm q pr (.Subscript (.Name dn p2) (.Name en p3) p4) sc [(dn,c0)] pm cd ct)) (mW:s.heap.CodeRec (.ref cd) q)
  (Jj:s.heap.IsCell c0 (some (.ref a))) (ha:H a=some (.dK kvs)) (hv:jD kvs k=some v) (ru:cr (kV k) u) (uz:A.depth<recursionLimit) (hu:A.units+8<cLine)
  (h:∀z h' t,(∀b o,s.heap.get? b=some o->h'.get? b=some o)->bE X pins σ H { s with heap:=h',toks:=t }->cr v z->Q z { s with heap:=h',toks:=t }) :
  wpAny (model X.prog X.w) A (call (.ref f) [u]) Q E s:=by
 refine wpAny_call ?_
 refine PySem.W.kla_callFunE uz hf rfl T.co T.gen rfl mW ?_
 rw[T.bind]
 refine aI (i5 T.cell (fun y hy=>?_) (fun h₁ Ol hsb=>?_) T.kind)
 ·have:y=(en,u):=by simpa using hy
  rw[this];exact T.ke
 ·have hk1:∀b o,s.heap.get? b=some o->h₁.get? b=some o:=fun b o e=>hsb.extBut b o (bd (aG e)) (aq _ e)
  have I1:bE X pins σ H { s with heap:=h₁,toks:=s.toks+[(en,u)].length }:=I.kept hk1
  refine⟨I1.nolimit,PySem.W.kla_codeExpr ?_⟩
  obtain⟨z0,hd,vs,rel,dd⟩:=pP I1.hok (.inl ha)
  refine AA PySem.F.slot_dict_getitem.lookup (fun _ _=>rfl) (lF ?_ T.d2)
  refine wpAny_loadName_free (c:=c0) (v:=.ref a) T.kind ?_ ?_ (Jj.keeps hk1) ?_ T.nd
  ·show List.lookup dn sc.names=some .free
   exact T.kd
  ·show List.lookup dn [(dn,c0)]=some c0
   simp[List.lookup]
  refine lF ?_ T.d1
  refine wpAny_loadName_local (v:=u) T.kind ?_ Ol ?_ ?_
  ·show List.lookup en sc.names=some .local
   exact T.ke
  ·simp[List.lookup]
  obtain⟨z,hz,rz⟩:=oX.some_of (v:=v) (o:=valueAt vs k) (by rw[<- hv];exact rel.val k)
  refine⟨dd.typeIs,wpAny_getItem_of (qQ ru) dd.mapOf hz ?_⟩
  exact h z h₁ _ hk1 (I1.tok _) rz
def jK(kf:Nat->List Int):Nat->Nat
 |0=>0
 |j+1=>if HT.lexLt (kf (j+1)) (kf (jK kf j))=true then j+1 else jK kf j
theorem u4(kf:Nat->List Int):∀j,jK kf j<=j
 |0=>aA _
 |j+1=>by unfold jK;have:=u4 kf j;split<;>omega
theorem AW{P:Program}{w:World}{k:fX}{v:Value}(h:(eJ P w).is k v=true):cr (kV k) v:=by
 rcases eO h with⟨i,t,rfl,rfl⟩|⟨x,t,rfl,rfl⟩
 ·exact⟨t,rfl⟩
 ·exact⟨t,rfl⟩
structure mM(X:Cx)(pins:List (Addr×Obj))(σ:St)(H:Hp)(s:Shared)(f c0 cd a it:Addr)(fo:Obj)(q:Str)(vs:List (fX×Value))(ep j:Nat):Prop where
 inv:bE X pins σ H s
 fn:s.heap.get? f=some fo
 code:s.heap.CodeRec (.ref cd) q
 cell:s.heap.IsCell c0 (some (.ref a))
 dict:s.heap.DictAt (eJ X.prog X.w) a vs ep
 iter:s.heap.IsKeyIter it a j vs.length ep
theorem mM.go{f c0 cd a it:Addr}{fo:Obj}{q:Str}{vs:List (fX×Value)}{ep j j':Nat}{h':Heap}{t':Nat}{b0:Addr}(M:mM X pins σ H s f c0 cd a it fo q vs ep j)(I:bE X pins σ H { s with heap:=h',toks:=t' })
  (k:∀b o,b≠b0->s.heap.get? b=some o->h'.get? b=some o) (n1:f≠b0) (n2:cd≠b0) (n3:c0≠b0) (n4:a≠b0) (hi:h'.IsKeyIter it a j' vs.length ep):mM X pins σ H { s with heap:=h',toks:=t' } f c0 cd a it fo q vs ep j':=by
 obtain⟨c2,oc,ws,tt,e2,hoc,hd,hv⟩:=M.code
 cases e2
 refine⟨I,k f _ n1 M.fn,⟨_,oc,ws,tt,rfl,k _ _ n2 hoc,hd,hv⟩,?_,M.dict.at' fun o e=>k a o n4 e,hi⟩
 obtain⟨o,ho,hd⟩:=M.cell
 exact⟨o,k c0 o n3 ho,hd⟩
theorem D0{f c0 cd a it ls:Addr}{en dn nm q:Str}{pr:Arguments}{p2 p3 p4:Pos}{sc:Scope}{pm ct:Value}{kvs:List (fX×V)}{vs:List (fX×Value)}{ep:Nat}{kf:Nat->List Int}{tv:Nat->Addr}{R:Result->Shared->Prop}{g0:Array GenState}{d0:Drawn}{qI:OsState}
  (T:DZ en dn pr (.Subscript (.Name dn p2) (.Name en p3) p4) sc) (hh:A.handled=none) (uz:A.depth<recursionLimit) (hu:A.units+16<cLine) (ha:H a=some (.dK kvs)) (rel:KV kvs vs) (Gi:(kvs.map (·.1)).Nodup)
  (Aq:∀(i:Nat) (k:fX) (x:V),kvs[i]?=some (k,x)->x=.ref (tv i)/\fg X.K H (tv i) ((kf i).map V.int))
  (wn:my X pins H it) (wm:my X pins H ls) (N8:it≠ls) (nf:f≠it/\f≠ls) (Oi:cd≠it/\cd≠ls) (Of:c0≠it/\c0≠ls)
  (hR:∀v h t k x,kvs[jK kf (kvs.length-1)]?=some (k,x)->cr (kV k) v->bE X pins σ H ⟨h,g0,d0,t,qI⟩->R (.ok (.ret v)) ⟨h,g0,d0,t,qI⟩) :
  ∀(r j:Nat) (h:Heap) (t:Nat) (vb:Value) (c:Nat),kvs.length-(j+1)=r->j+1<=kvs.length->mM X pins σ H ⟨h,g0,d0,t,qI⟩ f c0 cd a it (kla_obj nm q pr (.Subscript (.Name dn p2) (.Name en p3) p4) sc [(dn,c0)] pm cd ct) q vs ep (j+1) ->
   h.get? ls=some (seqObj "list" #[vb,.ref (tv (jK kf j))] c)->(∀k x,kvs[jK kf j]?=some (k,x)->cr (kV k) vb) ->
   codeAny (model X.prog X.w) A (.builtin "min.loop" ⟨[.ref it,.ref f,.ref ls],[]⟩) R ⟨h,g0,d0,t,qI⟩:=by
 have hname:(toString "min"++toString ".loop":String)="min.loop":=by decide
 have hna:a≠it/\a≠ls:=⟨fun z=>(by rw[z,wn.1]at ha;cases ha),fun z=>(by rw[z,wm.1]at ha;cases ha)⟩
 have cY:kvs.length=vs.length:=rel.length
 intro r
 induction r with
 |zero=>
  intro j h t vb c hr hj M hls hvb
  have hin:j+1=kvs.length:=by omega
  refine me PySem.F.entry_min_loop ?_
  rw[i7 PySem.F.plain_min_loop _]
  show wpAny _ A.in1 (seqItems? (.ref ls) >>= _) _ _ _
  refine ag (dv hls rfl ?_)
  show wpAny _ A.in1 (tryCatch (pyNext (.ref it)) _ >>= _) _ _ _
  refine ag (gB (wpAny_pyNext_dict_end hh M.iter M.dict (by rw[cX];omega) fun h1 hk1=>?_))
  have I1:bE X pins σ H ⟨h1,g0,d0,t,qI⟩:=M.inv.turned (it:=it) (fun b o hb e=>hk1 b o hb e) wn.1 wn.2.1 wn.2.2.2.1 wn.2.2.2.2.1 wn.2.2.2.2.2
  have hls1:=hk1 ls _ (Ne.symm N8) hls
  show wpAny _ A.in1 (updateSeq ls (fun _=>#[]) >>= _) _ _ _
  refine ag ?_
  refine mf hls1 rfl (ag (hZ (aI ?_)))
  have sb:=eG h1 ls (Obj.mapSeq fun _=>(#[]:Array Value))
  obtain⟨⟨k,x⟩,hx⟩:∃p,kvs[jK kf j]?=some p:=⟨_,ac (by have:=u4 kf j;omega)⟩
  refine hR vb _ _ k x (by rw[show kvs.length-1=j by omega];exact hx) (hvb k x hx) ?_
  exact I1.turned (it:=ls) (fun b o hb e=>sb.extBut b o hb e) wm.1 wm.2.1 wm.2.2.2.1 wm.2.2.2.2.1 wm.2.2.2.2.2
 |succ r ih=>
  intro j h t vb c hr hj M hls hvb
  have oN:j+1<kvs.length:=by omega
  obtain⟨⟨k,x⟩,hx⟩:∃p,kvs[j+1]?=some p:=⟨_,ac oN⟩
  obtain⟨⟨k',y⟩,hy⟩:∃p,vs[j+1]?=some p:=⟨_,ac (by omega)⟩
  have ek:k=k':=by
   have:=fP (fun l:List fX=>l[j+1]?) rel.keys
   simp only[aB,hx,hy]at this
   exact a_ this
  subst ek
  obtain⟨rfl,hS⟩:=Aq (j+1) k x hx
  refine me PySem.F.entry_min_loop ?_
  rw[i7 PySem.F.plain_min_loop _]
  show wpAny _ A.in1 (seqItems? (.ref ls) >>= _) _ _ _
  refine ag (dv hls rfl ?_)
  show wpAny _ A.in1 (tryCatch (pyNext (.ref it)) _ >>= _) _ _ _
  refine ag (gB (lS M.iter M.dict hy fun v h1 hv hit1 mX=>?_))
  have rv:cr (kV k) v:=AW hv
  have I1:bE X pins σ H ⟨h1,g0,d0,t,qI⟩:=M.inv.turned (it:=it) (fun b o hb e=>mX.extBut b o hb e) wn.1 wn.2.1 wn.2.2.2.1 wn.2.2.2.2.1 wn.2.2.2.2.2
  have M1:mM X pins σ H ⟨h1,g0,d0,t,qI⟩ f c0 cd a it _ q vs ep (j+1+1):=M.go (s:=⟨h,g0,d0,t,qI⟩) (b0:=it) I1 (fun b o hb e=>mX.extBut b o hb e) nf.1 Oi.1 Of.1 hna.1 hit1
  have hls1:=mX.extBut ls _ (Ne.symm N8) hls
  have hvk:jD kvs k=some (.ref (tv (j+1))):=by
   unfold jD
   have hm:(k,V.ref (tv (j+1)))∈kvs:=aT hx
   cases hf:kvs.find? (fun kv=>decide (kv.1=k))with
   |none=>
    have:=List.find?_eq_none.mp hf _ hm
    simp at this
   |some p=>
    have h1:=List.find?_some hf
    have h2:=List.mem_of_find?_eq_some hf
    have e1:p.1=k:=by simpa using h1
    obtain⟨i1,hi1⟩:=cL h2
    have e2:i1=j+1:=by
     refine(List.getElem?_inj (l:=kvs.map (·.1)) (by rw[av];exact(aa.mp hi1).1) Gi).mp ?_
     rw[aB,aB,hi1,hx]
     show some p.1=some k
     rw[e1]
    subst e2
    rw[hx]at hi1;cases hi1;rfl
  show wpAny _ A.in1 (tryCatch (holding [v] (call (.ref f) [v])) _ >>= _) _ _ _
  refine ag (gB (d8 (xk T M1.inv M1.fn M1.code M1.cell ha hvk rv uz (by show A.units+1+8<cLine;omega) fun z h2 t2 GZ I2 rz=>?_)))
  obtain rfl:z=Value.ref (tv (j+1)):=rz
  have M2:mM X pins σ H ⟨h2,g0,d0,t2,qI⟩ f c0 cd a it _ q vs ep (j+1+1):=M1.go (s:=⟨h1,g0,d0,t,qI⟩) (b0:=h1.objs.size) I2 (fun b o _ e=>GZ b o e)
   (fun q=>by have:=aG M1.fn;rw[q]at this;exact bD _ this) (fun q=>by obtain⟨_,_,_,_,e2,ho,_⟩:=M1.code;cases e2;have:=aG ho;rw[q]at this;exact bD _ this) (fun q=>by have:=M1.cell.lt;rw[q]at this;exact bD _ this)
   (fun q=>by obtain⟨o,_,ho,_⟩:=M1.dict;have:=aG ho;rw[q]at this;exact bD _ this) (by obtain⟨o,ho,r1,r2⟩:=hit1;exact⟨o,GZ _ _ ho,r1,r2⟩)
  have hls2:=GZ ls _ hls1
  obtain⟨⟨kb,xb⟩,hxb⟩:∃p,kvs[jK kf j]?=some p:=⟨_,ac (by have:=u4 kf j;omega)⟩
  obtain⟨rfl,hSb⟩:=Aq (jK kf j) kb xb hxb
  obtain⟨bC,r1,p1,_⟩:=I2.tuple hS
  obtain⟨its2,r2,p2,_⟩:=I2.tuple hSb
  have i1:IntsAre bC.toArray.toList (kf (j+1)):=lg r1
  have i2:IntsAre its2.toArray.toList (kf (jK kf j)):=lg r2
  show wpAny _ A.in1 (tryCatch (holding [v,.ref (tv (j+1))] (richCompare .Lt (.ref (tv (j+1))) (.ref (tv (jK kf j))) >>= _)) _ >>= _) _ _ _
  refine ag (gB (d8 (ag ?_)))
  refine HT.lt_tupInts p1 p2 i1 i2 (by show A.units+1<cLine;omega) ?_
  refine ag (d8 (eB ?_))
  refine ag (hZ (aI ?_))
  by_cases hb:HT.lexLt (kf (j+1)) (kf (jK kf j))=true
  ·have em:jK kf (j+1)=j+1:=by show(if _ then _ else _)=_;rw[aD hb]
   have sb:=eG h2 ls (Obj.mapSeq fun _=>#[v,Value.ref (tv (j+1))])
   obtain⟨c2,hc2⟩:∃c2,(h2.update ls (Obj.mapSeq fun _=>#[v,Value.ref (tv (j+1))])).get? ls=some (seqObj "list" #[v,.ref (tv (j+1))] c2):=⟨_,get?_update_seq hls2 fun _=>#[v,Value.ref (tv (j+1))]⟩
   simp only[hb,gi]
   refine ag ?_
   refine mf hls2 rfl (ag (hZ ?_))
   rw[hname]
   have I3:bE X pins σ H ⟨h2.update ls (Obj.mapSeq fun _=>#[v,Value.ref (tv (j+1))]),g0,d0,t2,qI⟩:=I2.turned (it:=ls) (fun b o hb e=>sb.extBut b o hb e) wm.1 wm.2.1 wm.2.2.2.1 wm.2.2.2.2.1 wm.2.2.2.2.2
   have M3:mM X pins σ H ⟨h2.update ls (Obj.mapSeq fun _=>#[v,Value.ref (tv (j+1))]),g0,d0,t2,qI⟩ f c0 cd a it _ q vs ep (j+1+1):=
    M2.go (s:=⟨h2,g0,d0,t2,qI⟩) (b0:=ls) I3 (fun b o hb e=>sb.extBut b o hb e) nf.2 Oi.2 Of.2 hna.2 (by obtain⟨o,ho,r1,r2⟩:=M2.iter;exact⟨o,sb.extBut _ _ N8 ho,r1,r2⟩)
   exact aI ⟨kH PySem.F.plain_min_loop _,ih (j+1) _ _ v c2 (by omega) oN M3 (by rw[em];exact hc2) fun k2 x2 e2=>by rw[em,hx]at e2;cases e2;exact rv⟩
  ·have em:jK kf (j+1)=jK kf j:=by show(if _ then _ else _)=_;rw[aQ hb]
   simp only[hb,Bool.false_eq_true,if_false]
   refine ag (hZ ?_)
   rw[hname]
   exact aI ⟨kH PySem.F.plain_min_loop _,ih (j+1) _ _ vb c (by omega) oN M2 (by rw[em];exact hls2) fun k2 x2 e2=>by rw[em]at e2;exact hvb k2 x2 e2⟩
theorem D1{f c0 cd a:Addr}{en dn nm q:Str}{pr:Arguments}{p2 p3 p4:Pos}{sc:Scope}{pm ct:Value}{kvs:List (fX×V)}{kf:Nat->List Int}{tv:Nat->Addr}
  (T:DZ en dn pr (.Subscript (.Name dn p2) (.Name en p3) p4) sc) (hh:A.handled=none) (uz:A.depth<recursionLimit) (hu:A.units+16<cLine) (I:bE X pins σ H s) (ha:H a=some (.dK kvs))
  (hf:s.heap.get? f=some (kla_obj nm q pr (.Subscript (.Name dn p2) (.Name en p3) p4) sc [(dn,c0)] pm cd ct)) (mW:s.heap.CodeRec (.ref cd) q) (Jj:s.heap.IsCell c0 (some (.ref a))) (kJ:0<kvs.length)
  (Aq:∀(i:Nat) (k:fX) (x:V),kvs[i]?=some (k,x)->x=.ref (tv i)/\fg X.K H (tv i) ((kf i).map V.int))
  (hQ:∀v h t k x,kvs[jK kf (kvs.length-1)]?=some (k,x)->cr (kV k) v->bE X pins σ H { s with heap:=h,toks:=t }->Q v { s with heap:=h,toks:=t }) :
  wpAny (model X.prog X.w) A (call (.builtin "min") [.ref a] [(Str.ofString "key",.ref f)]) Q E s:=by
 have hname:(toString "min"++toString ".loop":String)="min.loop":=by decide
 obtain⟨hz,hsys,vs,rel,o,es,ep,hdo⟩:=pP I.hok (.inl ha)
 have dd:s.heap.DictAt (eJ X.prog X.w) a vs ep:=⟨o,es,hdo⟩
 have Gi:(kvs.map (·.1)).Nodup:=by rw[rel.keys];exact hdo.2.2.2.2.2
 have cY:kvs.length=vs.length:=rel.length
 obtain⟨h0,g0,d0,t0,qI⟩:=s
 refine kmk_tree PySem.F.kind_min PySem.F.plain_min PySem.F.entry_min (kmk_min_key _ _) ?_
 show wpAny _ A.in1 (Builtin.Builtins.bindParams "min" ["key","default"] 0 ⟨[],[(Str.ofString "key",.ref f)]⟩ >>= _) _ _ _
 refine ag (fT (show Builtin.Builtins.bindParams "min" ["key","default"] 0 ⟨[],[(Str.ofString "key",.ref f)]⟩=pure [some (.ref f),none]from rfl) ?_)
 refine ag (aI ?_)
 refine ag (wpAny_pyIter_dict hsys dd ?_)
 refine ag (wpAny_newList ?_ (cU _))
 rw[hname]
 dsimp only
 generalize hG1:h0.push { cls:=.type "dict_keyiterator",data:=.fields #[.ref a,.int 0 0,.int vs.length 0,.int ep 0] }=G1
 have sz1:G1.objs.size=h0.objs.size+1:=by rw[<- hG1,ef]
 have k1:∀b o,h0.get? b=some o->(G1.push { cls:=.type "list",data:=.seq ([]:List Value).toArray }).get? b=some o:=fun b o e=>aq _ (hG1▸aq _ e)
 have git:(G1.push { cls:=.type "list",data:=.seq ([]:List Value).toArray }).get? h0.objs.size=some { cls:=.type "dict_keyiterator",data:=.fields #[.ref a,.int 0 0,.int vs.length 0,.int ep 0] }:=aq _ (hG1▸aH _ rfl)
 have gls:(G1.push { cls:=.type "list",data:=.seq ([]:List Value).toArray }).get? G1.objs.size=some (seqObj "list" #[] 0):=aH _ rfl
 generalize hG2:G1.push { cls:=.type "list",data:=.seq ([]:List Value).toArray }=G2 at k1 git gls
 have I2:bE X pins σ H ⟨G2,g0,d0,t0,qI⟩:=I.kept k1
 have N8:h0.objs.size≠G1.objs.size:=by omega
 have wn:my X pins H h0.objs.size:=I.fpOk (aA _) I.fresh
 have wm:my X pins H G1.objs.size:=I.fpOk (by show h0.objs.size<=_;omega) (I.hok.fresh (by show h0.objs.size<=_;omega))
 have old:∀b o,h0.get? b=some o->b≠h0.objs.size/\b≠G1.objs.size:=fun b o e=>⟨bd (aG e),bd (by rw[sz1];exact fF (aG e))⟩
 obtain⟨c2,oc,ws,tt,e2,hoc,hdc,hvc⟩:=id mW
 cases e2
 obtain⟨oc0,hoc0,hdc0⟩:=id Jj
 have M0:mM X pins σ H ⟨G2,g0,d0,t0,qI⟩ f c0 cd a h0.objs.size (kla_obj nm q pr (.Subscript (.Name dn p2) (.Name en p3) p4) sc [(dn,c0)] pm cd ct) q vs ep 0:=
  ⟨I2,k1 _ _ hf,⟨_,oc,ws,tt,rfl,k1 _ _ hoc,hdc,hvc⟩,Jj.keeps k1,dd.at' fun o e=>k1 a o e,⟨_,git,rfl,rfl⟩⟩
 refine aI ⟨kH PySem.F.plain_min_loop _,?_⟩
 obtain⟨⟨k,x⟩,hx⟩:∃p,kvs[0]?=some p:=⟨_,ac kJ⟩
 obtain⟨⟨k',y⟩,hy⟩:∃p,vs[0]?=some p:=⟨_,ac (by omega)⟩
 have ek:k=k':=by
  have:=fP (fun l:List fX=>l[0]?) rel.keys
  simp only[aB,hx,hy]at this
  exact a_ this
 subst ek
 obtain⟨rfl,hS⟩:=Aq 0 k x hx
 have hvk:jD kvs k=some (.ref (tv 0)):=by
  cases kvs with
  |nil=>cases hx
  |cons p r=>
   have:p=(k,.ref (tv 0)):=a_ hx
   subst this
   exact mB rfl
 refine me PySem.F.entry_min_loop ?_
 rw[i7 PySem.F.plain_min_loop _]
 show wpAny _ A.in1 (seqItems? (.ref G1.objs.size) >>= _) _ _ _
 refine ag (dv gls rfl ?_)
 show wpAny _ A.in1 (tryCatch (pyNext (.ref h0.objs.size)) _ >>= _) _ _ _
 refine ag (gB (lS M0.iter M0.dict hy fun v h1 hv hit1 mX=>?_))
 have rv:cr (kV k) v:=AW hv
 have I1:bE X pins σ H ⟨h1,g0,d0,t0,qI⟩:=M0.inv.turned (it:=h0.objs.size) (fun b o hb e=>mX.extBut b o hb e) wn.1 wn.2.1 wn.2.2.2.1 wn.2.2.2.2.1 wn.2.2.2.2.2
 have nf:=old f _ hf
 have Oi:=old cd _ hoc
 have Of:=old c0 _ hoc0
 have na:=old a _ hdo.1
 have M1:mM X pins σ H ⟨h1,g0,d0,t0,qI⟩ f c0 cd a h0.objs.size _ q vs ep (0+1):=M0.go (s:=⟨G2,g0,d0,t0,qI⟩) (b0:=h0.objs.size) I1 (fun b o hb e=>mX.extBut b o hb e) nf.1 Oi.1 Of.1 na.1 hit1
 have hls1:=mX.extBut _ _ (Ne.symm N8) gls
 show wpAny _ A.in1 (tryCatch (holding [v] (call (.ref f) [v])) _ >>= _) _ _ _
 refine ag (gB (d8 (xk T M1.inv M1.fn M1.code M1.cell ha hvk rv uz (by show A.units+1+8<cLine;omega) fun z h2 t2 GZ I2' rz=>?_)))
 obtain rfl:z=Value.ref (tv 0):=rz
 have M2:mM X pins σ H ⟨h2,g0,d0,t2,qI⟩ f c0 cd a h0.objs.size _ q vs ep (0+1):=M1.go (s:=⟨h1,g0,d0,t0,qI⟩) (b0:=h1.objs.size) I2' (fun b o _ e=>GZ b o e)
  (fun q=>by have:=aG M1.fn;rw[q]at this;exact bD _ this) (fun q=>by obtain⟨_,_,_,_,e2,ho,_⟩:=M1.code;cases e2;have:=aG ho;rw[q]at this;exact bD _ this) (fun q=>by have:=M1.cell.lt;rw[q]at this;exact bD _ this)
  (fun q=>by obtain⟨o,_,ho,_⟩:=M1.dict;have:=aG ho;rw[q]at this;exact bD _ this) (by obtain⟨o,ho,r1,r2⟩:=hit1;exact⟨o,GZ _ _ ho,r1,r2⟩)
 have hls2:=GZ _ _ hls1
 have sb:=eG h2 G1.objs.size (Obj.mapSeq fun _=>#[v,Value.ref (tv 0)])
 obtain⟨c3,hc3⟩:∃c3,(h2.update G1.objs.size (Obj.mapSeq fun _=>#[v,Value.ref (tv 0)])).get? G1.objs.size=some (seqObj "list" #[v,.ref (tv 0)] c3):=⟨_,get?_update_seq hls2 fun _=>#[v,Value.ref (tv 0)]⟩
 show wpAny _ A.in1 (updateSeq G1.objs.size (fun _=>#[v,Value.ref (tv 0)]) >>= _) _ _ _
 refine ag ?_
 refine mf hls2 rfl ?_
 rw[hname]
 have I3:bE X pins σ H ⟨h2.update G1.objs.size (Obj.mapSeq fun _=>#[v,Value.ref (tv 0)]),g0,d0,t2,qI⟩:=I2'.turned (it:=G1.objs.size) (fun b o hb e=>sb.extBut b o hb e) wm.1 wm.2.1 wm.2.2.2.1 wm.2.2.2.2.1 wm.2.2.2.2.2
 have M3:mM X pins σ H ⟨h2.update G1.objs.size (Obj.mapSeq fun _=>#[v,Value.ref (tv 0)]),g0,d0,t2,qI⟩ f c0 cd a h0.objs.size _ q vs ep (0+1):=
  M2.go (s:=⟨h2,g0,d0,t2,qI⟩) (b0:=G1.objs.size) I3 (fun b o hb e=>sb.extBut b o hb e) nf.2 Oi.2 Of.2 na.2 (by obtain⟨o,ho,r1,r2⟩:=M2.iter;exact⟨o,sb.extBut _ _ N8 ho,r1,r2⟩)
 exact aI ⟨kH PySem.F.plain_min_loop _,D0 T hh uz hu ha rel Gi Aq wn wm N8 nf Oi Of (fun v h t k x e1 e2 e3=>hQ v h t k x e1 e2 e3) _ 0 _ _ v c3 rfl (by omega) M3 hc3 fun k2 x2 e2=>by rw[show jK kf 0=0 from rfl,hx]at e2;cases e2;exact rv⟩
end
abbrev D2(ns:List (Str×NameKind)):Scope:=⟨.function,ns,false,false,[]⟩
def Su(K:Frag)(fd:FuncData)(P:Addr):Prop:=∃c,fd.code=.ref c/\codeHdIn K c P=true/\K.lookup P=none
theorem u5{a b:Int}{t u:Tok}{c:Value}(l:List Value)(h:TriplesOk l):TriplesOk (l++[.int a t,.int b u,c]):=by
 fun_induction TriplesOk l with
 |case1=>exact trivial
 |case2 _ _ _ _ _ d7 ih=>exact ih h
 |case3=>exact h.elim
section
variable{K:Frag}{mg:Str->Option Value}{μ:List Addr}{st:List am}{H:Hp}
abbrev sO(H:Hp)(P cd:Addr)(q:Str)(ps:Array Value)(pos:Pos):Hp:=fm (fm H cd (ny cd q)) P (.tbl (ps++#[rawInt pos.line,rawInt pos.col,.ref cd]))
theorem qy{P cd b:Addr}{q:Str}{ps:Array Value}{pos:Pos}(n1:b≠P)(n2:b≠cd):sO H P cd q ps pos b=H b:=by
 show fm (fm H cd _) P _ b=_
 rw[cx n1,cx n2]
theorem D3{P cd:Addr}{q:Str}{ps:Array Value}{pos:Pos}:sO H P cd q ps pos P=some (.tbl (ps++#[rawInt pos.line,rawInt pos.col,.ref cd])):=fC
theorem AX{P cd:Addr}{q:Str}{ps:Array Value}{pos:Pos}(h:P≠cd):sO H P cd q ps pos cd=some (ny cd q):=by
 show fm (fm H cd _) P _ cd=_
 rw[cx (Ne.symm h),fC]
theorem fg.butT{l:Addr}{xs:Array Value}{H':Hp}(e:Rn l H H')(hl:H l=some (.tbl xs)):eE K H H':=by
 have kJ:∀{p:Addr} {o:HO},H p=some o->(∀zs,o≠.tbl zs)->p≠l:=fun{p o} q hn z=>by subst z;rw[hl]at q;cases q;exact hn _ rfl
 refine⟨fun p ys h=>?_,fun b o u h=>e _ _ (kJ h (fun _ z=>by cases z)) h⟩
 rcases h with(h|⟨o,h⟩)|h
 ·exact .inl (.inl (e _ _ (kJ h (fun _ z=>by cases z)) h))
 ·exact .inl (.inr ⟨o,e _ _ (kJ h (fun _ z=>by cases z)) h⟩)
 ·exact .inr h
theorem D4{α:Type}{l:List α}{i:Nat}{x:α}(h:l[i]?=some x):l.set i x=l:=by
 refine gk fun j=>?_
 by_cases e:i=j
 ·subst e;rw[bb (aa.mp h).1,h]
 ·rw[bg e]
theorem h9.tabbed{i:Nat}{P cd:Addr}{pos:Pos}{q:Str}{ps:Array Value}(S:h9 K mg μ st H)(hi:st[i]?=some (.tab P pos q))(hP:H P=some (.tbl ps))(mW:H cd=none)(ht:TriplesOk ps.toList)(hn:codeAmong pos ps.toList=none) :
  h9 K mg μ st (sO H P cd q ps pos)/\eE K H (sO H P cd q ps pos):=by
 have hs:qd H (fm H cd (ny cd q)):=dg mW _
 have kJ:P≠cd:=fun z=>by rw[z,mW]at hP;cases hP
 have hP1:fm H cd (ny cd q) P=some (.tbl ps):=hs _ _ hP
 have hx:eE K (fm H cd (ny cd q)) (sO H P cd q ps pos):=fg.butT gT hP1
 obtain⟨a,hm,ea,_⟩:=S.get hi
 subst ea
 have:=(S.same hs).setG (c':=.tab a pos q) hi rfl hm hP1 (fun _ _ z=>by cases z) (fun _ z=>by cases z) hx rfl ⟨rfl,_,fC,?_,.inr ⟨cd,?_,?_⟩⟩
 ·rw[D4 hi]at this
  exact⟨this,(fg.same hs).trans hx⟩
 ·rw[Array.toList_append];exact u5 _ ht
 ·rw[Array.toList_append];exact codeAmong_snoc _ ht hn
 ·exact AX kJ
end
section
variable{X:Cx}{pins:List (Addr×Obj)}{σ:St}{H:Hp}{s:Shared}{E:Value->Shared->Prop}{Q:Value->Shared->Prop}
theorem bE.tabbed{h':Heap}{t':Nat}{P cd:Addr}{pos:Pos}{q:Str}{ps:Array Value}(I:bE X pins σ H s)(hP:H P=some (.tbl ps))(Q5:s.heap.objs.size<=cd)(hx:∀b o,b≠P->s.heap.get? b=some o->h'.get? b=some o)
  (F8:h'.CodeRec (.ref cd) q) (RB:h'.get? P=some { cls:=.none,data:=.fields (ps++#[rawInt pos.line,rawInt pos.col,.ref cd]) }):bE X pins σ (sO H P cd q ps pos) { s with heap:=h',toks:=t' }:=by
 have mW:H cd=none:=I.hok.fresh Q5
 have kJ:P≠cd:=fun z=>by rw[z,mW]at hP;cases hP
 have notP:∀b,H b=none->b≠P:=fun b n z=>by rw[z,hP]at n;cases n
 have old:∀b o,s.heap.get? b=some o->b≠cd:=fun b o e=>bd (aX (aG e) Q5)
 have keepH:∀b u,H b=some u->b≠P->sO H P cd q ps pos b=some u:=fun b u e n=>by
  rw[qy n (fun z=>by rw[z,mW]at e;cases e)];exact e
 have Hcd:sO H P cd q ps pos cd=some (ny cd q):=AX kJ
 refine I.call' (ch:=[]) rfl ⟨fun b o e n hb hx'=>hx b o (notP b n) e,fun b o e n hb hx'=>⟨o.slots,hx b o (notP b n) e⟩,fun b o e n hx'=>?_,fun b o e hx'=>?_,fun b xs e=>?_,fun b o u e=>?_,fun b Q1 e=>?_⟩ (fun b u e=>?_) I.bare fun b hb=>absurd hb (by simp)
 ·rw[qy (notP b n) (old b o e)];exact n
 ·by_cases hb:b=P
  ·subst hb;exact⟨_,RB⟩
  ·exact⟨o,hx b o hb e⟩
 ·exact keepH b _ e fun z=>by rw[z,hP]at e;cases e
 ·exact keepH b _ e fun z=>by rw[z,hP]at e;cases e
 ·by_cases hb:b=P
  ·subst hb
   rw[hP]at e;cases e
   exact⟨_,D3⟩
  ·exact⟨#[],by rw[keepH b _ e hb];simp⟩
 ·by_cases hb:b=P
  ·subst hb
   rw[D3]at e;cases e
   exact RB
  ·by_cases hb2:b=cd
   ·subst hb2
    rw[Hcd]at e;cases e
    obtain⟨c2,oc,vs,t,e2,hoc,hd,hv⟩:=F8
    cases e2
    refine⟨⟨oc,vs,t,hoc,hd,hv⟩,⟨oc,hoc⟩,fun h1 h2 p k=>?_⟩
    obtain⟨o,vs,t,ho,r⟩:=p
    exact⟨o,vs,t,k o ho,r⟩
   ·rw[qy hb hb2]at e
    refine(I.hok b u e).stay (fun c v hc q'=>hx c v (fun z=>?_) q') (fun c q'=>keepH c _ q' fun z=>by rw[z,hP]at q';cases q') fun c xs q'=>keepH c _ q' fun z=>by rw[z,hP]at q';cases q'
    rcases hc with rfl|hc
    ·exact hb z
    ·rw[z,hP]at hc;cases hc
theorem D5{P c:Addr}{pr:Arguments}{b:Expr}{sc:Scope}{sU:Pos}{cl:List (Str×Addr)}{q:Str}{ps:Array Value}(NP:defaultsOf pr X.env=([],[]))(hq:X.env.qual++"<lambda>"=q)(Bg:X.env.code=.ref c)(Sz:codeHdIn X.K c P=true)(S_:X.K.lookup P=none)(hB:xj X.base X.mg)
  (nF:closureFor sc X.env=pure cl) (I:bE X pins σ H s) (hP:H P=some (.tbl ps)) (ht:TriplesOk ps.toList) (SH:codeAmong sU ps.toList=none\/∃cd,codeAmong sU ps.toList=some (.ref cd)/\H cd=some (ny cd q))
  (h:∀f cd ct pm h' t H',((codeAmong sU ps.toList=none/\H cd=none/\H'=sO H P cd q ps sU)\/H'=H)->bE X pins σ H' { s with heap:=h',toks:=t }->h'.get? f=some (kla_obj "<lambda>" q pr b sc cl pm cd ct)->h'.CodeRec (.ref cd) q ->
   (∀b o,b≠P->s.heap.get? b=some o->h'.get? b=some o)->Q (.ref f) { s with heap:=h',toks:=t }) :
  wpAny (model X.prog X.w) X.A (eval (.Lambda pr b sc sU) X.env) Q E s:=by
 subst hq
 have hPo:s.heap.get? P=some { cls:=.none,data:=.fields ps }:=I.hok P _ hP
 have hgs:s.heap.Ns mainGlobals X.mg:=I.mod.glob.keeps I.bk
 have hgP:mainGlobals≠P:=fun z=>by
  obtain⟨o,es,ep,e,hd,_⟩:=hgs
  rw[z,hPo]at e;cases e;cases hd
 obtain⟨bm,ob,b1,b2,b4,b5,b6,b7⟩:=hB
 have b4':=I.bk _ _ b4
 have hbP:bm≠P:=fun z=>by rw[z,hPo]at b4';cases b4';cases b5
 have b3:bm≠mainGlobals:=fun z=>by
  obtain⟨o,es,ep,e,hd,_⟩:=hgs
  rw[z,e]at b4';cases b4';rw[b7]at hd;cases hd
 have hb:s.heap.BuiltinsAt X.mg P:=⟨bm,ob,b1,b2,b3,hbP,b4',b5,b6,b7⟩
 have CH:=PySem.W.codeHd_of_K I.kIn Sz
 refine PySem.W.kla_eval NP ?_
 rcases SH with hn|⟨cd,hhit,hH⟩
 ·refine PySem.W.kla_makeFunction (mg:=X.mg) nF I.ok.glob hgs Bg CH hPo ht hn hgP hb fun cd ct h' tk hx Q5 oN F8 RB=>?_
  have hx':∀b o,b≠P->s.heap.get? b=some o->h'.get? b=some o:=fun b o hb e=>hx b o hb e
  have hrec2:(h'.push (kla_obj "<lambda>" (X.env.qual++"<lambda>") pr b sc cl ((X.mg "__name__").getD .none) cd ct)).CodeRec (.ref cd) (X.env.qual++"<lambda>"):=by
   obtain⟨c2,oc,vs,t,e2,hoc,hd,hv⟩:=F8
   exact⟨c2,oc,vs,t,e2,aq _ hoc,hd,hv⟩
  exact h _ cd ct _ _ tk _ (.inl ⟨hn,I.hok.fresh Q5,rfl⟩) (I.tabbed hP Q5 (fun b o hb e=>aq _ (hx' b o hb e)) hrec2 (aq _ RB)) (aH _ rfl) hrec2 fun b o hb e=>aq _ (hx' b o hb e)
 ·refine PySem.W.kla_makeFunctionHit (mg:=X.mg) nF I.ok.glob hgs Bg CH hPo ht hhit hb fun ct h' tk hk hsz=>?_
  obtain⟨⟨oc,vs,t,hoc,hd,hv⟩,_⟩:=I.hok cd _ hH
  exact h _ cd ct _ _ tk _ (.inr rfl) (I.kept fun b o e=>aq _ (hk b o e)) (aH _ rfl) ⟨cd,oc,vs,t,rfl,aq _ (hk _ _ hoc),hd,hv⟩ fun b o _ e=>aq _ (hk b o e)
end
def zo:W->Option (List Int)
 |.tup ws=>mK ws
 |_=>none
def js:List (DK×W)->Option (List (List Int))
 |[]=>some []
 |p::r=>match zo p.2,js r with
  |some a,some b=>some (a::b)
  |_,_=>none
def D6(st:List am)(j:Nat)(P:Addr)(pos:Pos)(q:Str):Prop:=st[j]?=some (.tab P pos q)
open Classical in
def rB(i j:Nat)(P:Addr)(pos:Pos)(q:Str):FE:=fun ρ st=>match ρ[i]? with
 |some (some x)=>(match qj st x with
  |some (_,kvs)=>(match js kvs with
   |some ks=>if D6 st j P pos q then pd (kvs[jK (fun a=>ks.getD a []) (kvs.length-1)]?) fun p=>.ok p.1.w st else .bad
   |none=>.bad)
  |none=>.bad)
 |_=>.bad
theorem rC{K:Frag}{μ:List Addr}{H:Hp}:∀{kvs:List (DK×W)} {ks:List (List Int)} {vs:List V},js kvs=some ks->RelWs K μ H (kvs.map fun p=>p.2) vs->∃ts:List Addr,vs=ts.map V.ref/\∀(i:Nat) (t:Addr),ts[i]?=some t->fg K H t ((ks.getD i []).map V.int)
 |[],ks,vs,h,r=>by
  have:=r.nilE
  subst this
  exact⟨[],rfl,fun i t e=>by simp at e⟩
 |p::r,ks,vs,h,rr=>by
  unfold js at h
  cases e1:zo p.2 with
  |none=>rw[e1]at h;cases h
  |some a=>
   cases e2:js r with
   |none=>rw[e1,e2]at h;cases h
   |some b=>
    rw[e1,e2]at h;cases h
    obtain⟨x,xs,rfl,q1,q2⟩:=RelWs.consE rr
    obtain⟨ts,rfl,ht⟩:=rC e2 q2
    obtain⟨k,w⟩:=p
    cases w with
    |tup ws=>
     obtain⟨t,us,rfl,hS,r1⟩:=bF.tupE q1
     have:=oB (show mK ws=some a from e1) r1
     subst this
     refine⟨t::ts,rfl,fun i t' e=>?_⟩
     cases i with
     |zero=>cases e;exact hS
     |succ i=>exact ht i t' (by simpa using e)
    |_=>cases e1
theorem D7{K:Frag}{μ:List Addr}{H:Hp}{kvs:List (DK×W)}{ts:List Addr}(r:RelWs K μ H (kvs.map fun p=>p.2) (ts.map V.ref)){i:Nat}{k:fX}{x:V}(h:(dV kvs (ts.map V.ref))[i]?=some (k,x)) :
  ∃p t,kvs[i]?=some p/\k=p.1.key/\ts[i]?=some t/\x=.ref t:=by
 unfold dV at h
 rw[j5]at h
 obtain⟨h1,h2⟩:=h
 rw[aB]at h1 h2
 obtain⟨p,e1,e2⟩:=df.mp h1
 obtain⟨t,e3,e4⟩:=df.mp h2
 exact⟨p,t,e1,e2.symm,e3,e4.symm⟩
section
variable{X:Cx}{en dn q:Str}{pr:Arguments}{p p1 p2 p3 p4 sU QX pos:Pos}{sc:Scope}{i j kk m:Nat}{c P:Addr}
theorem Iq(hr:h_ kk X.A)(T:DZ en dn pr (.Subscript (.Name dn p2) (.Name en p3) p4) sc)(Bg:X.env.code=.ref c)(Sz:codeHdIn X.K c P=true)(S_:X.K.lookup P=none)(hB:xj X.base X.mg)(hm:X.mg "min"=none)
  (lB:X.env.cells=cellsFrom m X.env.scope.names []) (hN:X.N[i]?=some dn:=by rfl) (hk:X.env.scope.names.lookup dn=some .cell:=by rfl) (NM:∀env:Env,f9 env sc.names []=[(dn,(env.cells.lookup dn).getD 0)]:=by intro _;rfl) (zZ:∀x∈sc.names,x.2=.free->x.1=dn:=by decide)
  (hq:X.env.qual++"<lambda>"=q:=by rfl) (NP:defaultsOf pr X.env=([],[]):=by rfl) (gR:X.calm=true:=by rfl) (hg:Gl X "min":=by rfl) (RD:(dn==("__debug__":Str))=false:=by decide) (GX:(dn==("__classdict__":Str))=false:=by decide)
  (he:starEach [.Name dn p1] X.env=(false,eval (.Name dn p1) X.env)::starEach [] X.env:=by rfl) :
  SE X (.Call (.Name "min" p) [.Name dn p1] [⟨some "key",.Lambda pr (.Subscript (.Name dn p2) (.Name en p3) p4) sc sU,QX⟩] pos) (rB i j P sU q):=⟨fun pins s σ H Q I h=>by
 obtain⟨μ,ρ,st,l,h⟩:=h
 unfold rB at h
 cases e1:ρ[i]? with
 |none=>rw[e1]at h;exact h.elim
 |some ox=>
  cases ox with
  |none=>rw[e1]at h;exact h.elim
  |some x=>
   rw[e1]at h
   simp only at h
   cases e2:qj st x with
   |none=>rw[e2]at h;exact h.elim
   |some nk=>
    obtain⟨n,kvs⟩:=nk
    rw[e2]at h
    simp only at h
    cases e3:js kvs with
    |none=>rw[e3]at h;exact h.elim
    |some ks=>
     rw[e3]at h
     simp only at h
     by_cases e4:D6 st j P sU q
     ·rw[aD e4]at h
      cases e5:kvs[jK (fun a=>ks.getD a []) (kvs.length-1)]? with
      |none=>rw[e5]at h;exact h.elim
      |some pk=>
       rw[e5]at h
       simp only[d9]at h
       obtain⟨v,hσ,rx⟩:=on l.env e1
       obtain⟨a,vs,hn,hmu,rfl,ha,rr⟩:=qx l.sto e2 rx
       obtain⟨ts,rfl,hts⟩:=rC e3 rr
       have hc:∃c0,X.env.cells.lookup dn=some c0:=by rw[lB];exact mz hk
       obtain⟨c0,Jj⟩:=hc
       obtain⟨aP,hP0,eP,ps,hP,ht,SH⟩:=l.sto.get e4
       subst eP
       refine hJ (kA I hg hm (by rfl) ?_ (by decide) (by decide))
       refine callWith_builtin_kwB (by rfl) (by rfl) (evalArgs_kw2 (by rfl) ?_ he)
       refine fY ((qo (pv i hN (.inr (.inl hk)) RD GX) yO) pos pins s σ H (fun vs H1=>vs=[.ref a]/\H1=H) I ⟨_,hσ,rfl,rfl⟩) fun us s1 mX=>?_
       obtain⟨vs1,H1,I1,r1,rfl,rfl⟩:=mX
       obtain⟨u1,rfl,ru1⟩:=lV r1
       obtain rfl:u1=Value.ref a:=ru1
       obtain⟨mm,Ol,hlk⟩:=id I1.loc
       obtain⟨u,ru,lk⟩:=hlk i dn (.ref a) hN hσ (.inr (.inl hk))
       obtain rfl:u=Value.ref a:=ru
       have gz:s1.heap.IsCell c0 (some (.ref a)):=by
        rcases lk with⟨kl,_⟩|⟨_,c1,hc1,hcc⟩
        ·have:X.env.scope.names.lookup dn=some .local:=kl
         rw[hk]at this;cases this
        ·rw[Jj]at hc1;cases hc1;exact hcc
       have nF:closureFor sc X.env=pure [(dn,c0)]:=by
        rw[AF (fun x hx hf=>by rw[zZ x hx hf];exact⟨c0,Jj⟩),NM,Jj];rfl
       show wpAny _ _ (evalAll ((do let v <- eval (.Lambda pr (.Subscript (.Name dn p2) (.Name en p3) p4) sc sU) X.env;standAt pos;pure v)::[])) _ _ s1
       refine wpAny_evalAll_cons (ag (D5 NP hq Bg Sz S_ hB nF I1 hP ht SH fun f cd ct pm h' t H' hH I2 hf F8 hx=>ag (iT (aI (wpAny_evalAll_nil ?_)))))
       have hS':h9 X.K X.mg μ st H'/\eE X.K H1 H':=by
        rcases hH with⟨g1,g2,rfl⟩|rfl
        ·exact l.sto.tabbed e4 hP g2 ht g1
        ·exact⟨l.sto,eE.refl⟩
       obtain⟨S',X'⟩:=hS'
       have ha':H' a=some (.dK (dV kvs (ts.map V.ref))):=by
        rcases hH with⟨g1,g2,rfl⟩|rfl
        ·rw[qy (fun z=>by rw[z,hP]at ha;cases ha) (fun z=>by rw[z,g2]at ha;cases ha)];exact ha
        ·exact ha
       have hcell':h'.IsCell c0 (some (.ref a)):=by
        obtain⟨o,ho,hd⟩:=gz
        exact⟨o,hx c0 o (fun z=>by have:=I1.freeC _ _ Jj;rw[z,hP]at this;cases this) ho,hd⟩
       have cY:(dV kvs (ts.map V.ref)).length=kvs.length:=uZ rr
       have CB:0<kvs.length:=by
        cases kvs with
        |nil=>simp at e5
        |cons _ _=>simp
       have Aq:∀(i:Nat) (k:fX) (x:V),(dV kvs (ts.map V.ref))[i]?=some (k,x)->x=.ref (ts.getD i 0)/\fg X.K H' (ts.getD i 0) ((ks.getD i []).map V.int):=fun i k x e=>by
        obtain⟨p',t',f1,f2,f3,f4⟩:=D7 rr e
        have:ts.getD i 0=t':=by rw[ax,f3];rfl
        rw[this]
        exact⟨f4,X' _ _ (hts i t' f3)⟩
       refine D1 (pins:=pins) (H:=H') (kvs:=dV kvs (ts.map V.ref)) (kf:=fun a=>ks.getD a []) (tv:=fun a=>ts.getD a 0) T (I.ok.hd gR) (by have:=hr.dp;omega) (by have:=hr.un;omega) I2 ha' hf F8 hcell' (by rw[cY];exact CB) Aq fun v h2 t2 k x ek rk I3=>?_
       rw[cY]at ek
       obtain⟨p',t',f1,f2,_,_⟩:=D7 rr ek
       rw[e5]at f1;cases f1
       subst f2
       exact⟨_,H',I3,rk,h μ _ H' (al _) X' S' (DK.w_rel _)⟩
     ·rw[aQ e4]at h;exact h.elim⟩
end
def B_(x y:W)(st:List am):R W:=match x,y with
 |.int i,.int j=>.ok (.bl (decide (i<j))) st
 |.tup a,.tup b=>(match mK a,mK b with
  |some ns,some ms=>.ok (.bl (HT.lexLt ns ms)) st
  |_,_=>.bad)
 |_,_=>.bad
theorem PR{X:Cx}{k:Nat}(hr:h_ k X.A):oZ X (compareOp .Lt) B_:=⟨fun pins s σ H x y v u Q I rv ru ⟨μ,st,wx,wy,S,rx,ry,q⟩=>by
 cases wx with
 |int i=>
  cases wy with
  |int j=>exact w_lt.h pins s σ H x y v u Q I rv ru ⟨μ,st,.int i,.int j,S,rx,ry,q⟩
  |_=>exact q.elim
 |tup a=>
  cases wy with
  |tup b=>
   simp only[B_]at q
   cases e1:mK a with
   |none=>rw[e1]at q;exact q.elim
   |some ns=>
    cases e2:mK b with
    |none=>rw[e1,e2]at q;exact q.elim
    |some ms=>
     rw[e1,e2]at q
     obtain⟨p,vs,rfl,hS,r⟩:=rx.tupE
     obtain⟨p2,vs2,rfl,hS2,r2⟩:=ry.tupE
     have:=oB e1 r;subst this
     have:=oB e2 r2;subst this
     exact Lp (by have:=hr.un;omega) pins s σ H _ _ v u Q I rv ru ⟨p,p2,ns,ms,rfl,rfl,hS,hS2,ie S q⟩
  |_=>exact q.elim
 |_=>cases wy<;>exact q.elim,fun x y st=>by
 unfold B_
 split
 ·trivial
 ·split<;>trivial
 ·trivial⟩
section
variable{X:Cx}{o e f:Expr}{fo fk fd fe:FE}{gq dM:Pos}{kk:Nat}
end
section
variable{X:Cx}{x y:Str}{a b:Expr}{fs:FA}{pos:Pos}
end
inductive DefIn(K:Frag)(x:Str)(st:Stmt):Prop
 |mk {ad:Addr} {od an:Option Addr} {sl:Array (Option Value)} {oc kV dc pm cd ct:Value} (a:nsIn K mainGlobals x=some (some (.ref ad)))
   (l:K.lookup ad=some ⟨oc,od,.func (fnOf x x (ia st) (gC st) (aV st) .none kV dc pm an cd ct),sl⟩) (c:codeIn K cd x=true) (k:keepIn K (.ref ad)=true):DefIn K x st
theorem DefIn.fn{K:Frag}{x:Str}{st:Stmt}{h:Heap}{mg:Str->Option Value}(d:DefIn K x st)(X:K.In h)(G:h.Ns mainGlobals mg):∃f fd,iI K x x st f fd/\mg x=some (.ref f):=by
 obtain⟨a,l,c,k⟩:=d
 exact⟨_,_,yU (st:=st) l c k,mg_of X G a⟩
section
variable{P:Program}{w:World}{K:Frag}{mg:Str->Option Value}{base:Heap}{k n:Nat}{x:Str}{st:Stmt}{f:Addr}{fd:FuncData}{ps:List Str}{G:List W->List am->R W}
theorem cu(F:iI K x x st f fd)(hm:mg x=some (.ref f))(ok:dG P w K mg base (iH P w) k f fd ps (iL K mg n G))(hn:ps.length=n:=by rfl)
  (hb:∀(kV qH pm:Value) (an:Option Addr) (fL ct:Value) (us:List Value),us.length=ps.length->bindArgs (fnOf x x (ia st) (gC st) (aV st) .none kV qH pm an fL ct) ⟨us,[]⟩=pure (ps.zip us):=by walk_at "hb"):bP P w K mg base k x n G:=uS F hm hn hb ok
end
section
variable{X:Cx}{e:Expr}{pos:Pos}{x:Str}{fe:FE}{ps:List Str}{sp scope:Scope}
theorem jL{N:List Str}(a:sp.kind=.function:=by rfl)(b:sp.isCoroutine=false:=by rfl)(c:sp.isGenerator=false:=by rfl)(d:N.Nodup:=by decide +kernel)(f:N.take ps.length=ps:=by rfl)(g:∀x∈ps,sp.names.lookup x=some .local\/sp.names.lookup x=some .cell:=by decide +kernel)(h:∀y∈sp.names,y.2≠.free:=by decide +kernel):bq N ps sp:=⟨a,b,c,d,f,g,h⟩
theorem sS(i:Nat){iu:Pos}(sc:bq X.N ps sp)(he:SE X e fe)(hi:X.N[i]?=some x:=by rfl)(hx:G5 X.env.scope x:=by first|exact .inl rfl|exact .inr rfl)(hs:swapsWith e (some (.Name x iu)) pos.line X.env=pure false:=by rfl)(hf:X.fn x=true\/X.env.scope.names.lookup x=some .local:=by first|exact .inl rfl|exact .inr rfl|assumption) :
  SS X (.Assign [.Name x iu] e pos) (bu i fe):=LU sc.nd hi hx he hs hf
theorem sG(i:Nat)(sc:bq X.N ps sp)(hi:X.N[i]?=some x:=by rfl)(hx:G5 X.env.scope x:=by first|exact .inl rfl|exact .inr rfl)(hf:X.fn x=true\/X.env.scope.names.lookup x=some .local:=by first|exact .inl rfl|exact .inr rfl|assumption):SG X (.Name x pos) (f_ i):=AM sc.nd hi hx hf
theorem sC{nm:List Str}{cl:List (Str×Addr)}{C s0 H0 fp}(i:Nat)(hN:nm.Nodup:=by decide +kernel)(hi:nm[i]?=some x:=by rfl)(hx:G5 (bO X nm scope cl C s0 H0 fp).env.scope x:=by first|exact .inl rfl|exact .inr rfl)(hf:(bO X nm scope cl C s0 H0 fp).fn x=true\/(bO X nm scope cl C s0 H0 fp).env.scope.names.lookup x=some .local:=by first|exact .inl rfl|exact .inr rfl|assumption) :
  SG (bO X nm scope cl C s0 H0 fp) (.Name x pos) (f_ i):=AM (X:=bO X nm scope cl C s0 H0 fp) hN hi hx hf
end
end L2
namespace HT
open PySem PyProof.Rows
inductive LtSeq(A:Around)(s:Shared)(k:Bool):List Value->List Value->Prop
 |nn (h:k=false):LtSeq A s k [] []
 |nc {y:Value} {ys:List Value} (h:k=true):LtSeq A s k [] (y::ys)
 |cn {x:Value} {xs:List Value} (h:k=false):LtSeq A s k (x::xs) []
 |eq {x y:Value} {xs ys:List Value} (e:SeqAt.EqAt A s x y true) (h:LtSeq A s k xs ys):LtSeq A s k (x::xs) (y::ys)
 |ne {x y:Value} {xs ys:List Value} (e:SeqAt.EqAt A s x y false) (h:∀(prog:Program) (w:World) (E:Value->Shared->Prop) (Q:Value->Shared->Prop),Q (.bool k) s->wpAny (model prog w) A (richCompare .Lt x y) Q E s):LtSeq A s k (x::xs) (y::ys)
section
open PySem.SeqAt
open PySem.AutoSeq1 (wpAny_loadPart')
open PySem.MeetsSeq PySem.MeetsSeq2 PySem.MeetsSeq3
theorem tuple_lt_gen(l b:Addr)(items gK:Array Value)(n n2:Nat)(dd G0:Option Addr)(sl CG:Array (Option Value))(k:Bool) :
  Meets (Builtin.«tuple.__lt__» ⟨[.ref l,.ref b],[]⟩)
   (fun A R s=>s.heap.get? l=some { cls:=.type "tuple",dict:=dd,data:=.seq items n,slots:=sl }/\s.heap.get? b=some { cls:=.type "tuple",dict:=G0,data:=.seq gK n2,slots:=CG } /\
    LtSeq A.in1 s k items.toList gK.toList/\R (.ok (.ret (.bool k))) s):=
 .of_wp fun prog w A R s h=>by
  obtain⟨hp,g,d,tk,os⟩:=s;obtain⟨hl,hb,hk,h⟩:=h
  have f2:=kE
  wp_walk using bU hl,bU hb,wpAny_forIn_list _ (fun d7 b s'=>b.1=none/\s'=⟨hp,g,d,tk,os⟩/\∃(vs ws:List Value),d7=vs.zip ws /\
   LtSeq A.in1 ⟨hp,g,d,tk,os⟩ k vs ws/\vs.length+gK.size=ws.length+items.size) _
  case turn=>
   rintro⟨y,x⟩ d7 b s' ⟨hb',rfl,vs,ws,hz,hs,cY⟩
   cases hs with
   |nn _=>rw[kt]at hz;cases hz
   |nc _=>rw[kt]at hz;cases hz
   |cn _=>rw[List.zip_nil_right]at hz;cases hz
   |eq e hs=>
    rw[eV]at hz
    injection hz with hyx hrest
    injection hyx with hy hx
    subst hy hx
    simp only[ba]at cY
    refine ag (e prog w _ _ ?_)
    wp_walk
    exact⟨rfl,rfl,_,_,hrest,hs,by omega⟩
   |ne e hs=>
    rw[eV]at hz
    injection hz with hyx hrest
    injection hyx with hy hx
    subst hy hx
    refine ag (e prog w _ _ ?_)
    have hri:=hs prog w
    wp_walk using hri
    exact⟨_,rfl,by simpa using h⟩
  case fin=>
   rintro⟨b1,b2⟩ s' ⟨hb',rfl,vs,ws,hz,hs,cY⟩
   simp only at hb'
   subst hb'
   have hv:k=decide (items.size<gK.size):=by
    cases hs with
    |nn e=>rw[e];simp only[b9]at cY;exact(aR (by omega)).symm
    |nc e=>rw[e];simp only[b9,ba]at cY;exact(a8 (by omega)).symm
    |cn e=>rw[e];simp only[b9,ba]at cY;exact(aR (by omega)).symm
    |eq e hs=>rw[eV]at hz;cases hz
    |ne e hs=>rw[eV]at hz;cases hz
   rw[hv]at h
   wp_walk
   exact⟨_,rfl,by simpa[Builtin.Tuple.tupleCompareSizes]using h⟩
  case h=>
   exact⟨rfl,rfl,items.toList,gK.toList,rfl,hk,by simp[jA]⟩
end
end HT
namespace L2
open PySem PySem.Spec PyProof.Rows
mutual
def og:W->W->Option Bool
 |.int i,.int j=>some (decide (i<j))
 |.tup a,.tup b=>ltWs a b
 |_,_=>none
def ltWs:List W->List W->Option Bool
 |[],[]=>some false
 |[],_::_=>some true
 |_::_,[]=>some false
 |x::xs,y::ys=>match cO x y with
  |some true=>ltWs xs ys
  |some false=>og x y
  |none=>none
end
section
variable{X:Cx}{pins:List (Addr×Obj)}{σ:St}{H:Hp}{s:Shared}{μ:List Addr}
def PU(A:Around)(s:Shared)(u v:Value)(k:Bool):Prop:=∀(prog:Program) (w:World) (E:Value->Shared->Prop) (Q:Value->Shared->Prop),Q (.bool k) s->wpAny (model prog w) A (richCompare .Lt u v) Q E s
theorem Ir(I:bE X pins σ H s)(m:Nat){A:Around}(hu:A.units+1+m<cLine)(k:Bool)
  (ih:∀(a b:W) (x y:V) (u v:Value),a.dep<=m->bF X.K μ H a x->bF X.K μ H b y->cr x u->cr y v->og a b=some k->PU A.in1 s u v k) :
  ∀(as bs:List W) (xs ys:List V) (us vs:List Value),depWs as<=m->RelWs X.K μ H as xs->RelWs X.K μ H bs ys->cJ xs us->cJ ys vs->ltWs as bs=some k->HT.LtSeq A.in1 s k us vs:=by
 intro as
 induction as with
 |nil=>
  intro bs xs ys us vs hd ra rb ru rv he
  have:=ra.nilE;subst this
  cases ru
  cases bs with
  |nil=>
   have:=rb.nilE;subst this
   cases rv
   unfold ltWs at he;cases he
   exact .nn rfl
  |cons b bs=>
   obtain⟨y,Ai,rfl,_,_⟩:=rb.consE
   cases rv
   unfold ltWs at he;cases he
   exact .nc rfl
 |cons a as iha=>
  intro bs xs ys us vs hd ra rb ru rv he
  obtain⟨x,xs',rfl,qa,ra⟩:=ra.consE
  obtain⟨u,us',rfl,ru1,ru⟩:∃u us',us=u::us'/\cr x u/\cJ xs' us':=by cases ru with|cons h t=>exact⟨_,_,rfl,h,t⟩
  cases bs with
  |nil=>
   have:=rb.nilE;subst this
   cases rv
   unfold ltWs at he;cases he
   exact .cn rfl
  |cons b bs=>
   obtain⟨y,Ai,rfl,qb,rb⟩:=rb.consE
   obtain⟨v,wj,rfl,rv1,rv⟩:∃v wj,vs=v::wj/\cr y v/\cJ Ai wj:=by cases rv with|cons h t=>exact⟨_,_,rfl,h,t⟩
   have hda:a.dep<=m:=by unfold depWs at hd;omega
   have hdas:depWs as<=m:=by unfold depWs at hd;omega
   unfold ltWs at he
   cases e:cO a b with
   |none=>rw[e]at he;cases he
   |some q=>
    have E:=uP I m a b A.in1 x y u v q hda qa qb ru1 rv1 hu e
    rw[e]at he
    cases q with
    |true=>exact .eq E (iha bs xs' Ai us' wj hdas ra rb ru rv he)
    |false=>exact .ne E (ih a b x y u v hda qa qb ru1 rv1 he)
theorem D8(I:bE X pins σ H s)(k:Bool):∀(n:Nat) (a b:W) (A:Around) (x y:V) (u v:Value),a.dep<=n->bF X.K μ H a x->bF X.K μ H b y->cr x u->cr y v->A.units+n<cLine->og a b=some k->PU A s u v k
 |n,.int i,.int j,A,x,y,u,v,hd,ra,rb,ru,rv,hu,he=>by
  cases ra.intE;cases rb.intE
  obtain⟨t,rfl⟩:=ru;obtain⟨t',rfl⟩:=rv
  unfold og at he;cases he
  exact fun prog w E Q q=>HT.rcLt_int A s i t j t' prog w E Q q
 |0,.tup a,.tup b,A,x,y,u,v,hd,ra,rb,ru,rv,hu,he=>by unfold W.dep at hd;omega
 |n+1,.tup a,.tup b,A,x,y,u,v,hd,ra,rb,ru,rv,hu,he=>by
  obtain⟨p,xs,rfl,hS,ra⟩:=ra.tupE
  obtain⟨p',ys,rfl,hS',rb⟩:=rb.tupE
  cases ru;cases rv
  obtain⟨bC,w1,ht,_⟩:=I.tuple hS
  obtain⟨its',w2,ht',_⟩:=I.tuple hS'
  unfold og at he
  have hd:depWs a<=n:=by unfold W.dep at hd;omega
  have hs:=Ir I n (A:=A) (by omega) k (fun a b x y u v hd ra rb ru rv he=>D8 I k n a b A.in1 x y u v hd ra rb ru rv (by show A.units+1+n<cLine;omega) he) a b xs ys bC its' hd ra rb w1 w2 he
  intro prog w E Q q
  obtain⟨⟨cls,dd,data,sl⟩,ho,hc,m,hdt⟩:=id ht
  obtain⟨⟨cls2,G0,data2,CG⟩,ho2,hc2,m2,hdt2⟩:=id ht'
  simp only at hc hdt hc2 hdt2
  subst hc hdt hc2 hdt2
  exact lI (op:=.Lt) ⟨_,ho,rfl⟩ ⟨_,ho2,rfl⟩ PySem.F.slot_tuple_lt PySem.F.entry_tuple_lt (PySem.F.args_tuple_lt_2 _ _) (HT.tuple_lt_gen p p' bC.toArray its'.toArray m m2 dd G0 sl CG k)
   ⟨ho,ho2,by simpa using hs,show Value.bool k≠Value.notImplemented/\Q (.bool k) s from⟨(fun x=>nomatch x),q⟩⟩ (by omega)
 |n,.non,b,A,x,y,u,v,hd,ra,rb,ru,rv,hu,he=>by unfold og at he;cases he
 |n,.bl _,b,A,x,y,u,v,hd,ra,rb,ru,rv,hu,he=>by unfold og at he;cases he
 |n,.str _,b,A,x,y,u,v,hd,ra,rb,ru,rv,hu,he=>by unfold og at he;cases he
 |n,.loc _,b,A,x,y,u,v,hd,ra,rb,ru,rv,hu,he=>by unfold og at he;cases he
 |n,.int _,.non,A,x,y,u,v,hd,ra,rb,ru,rv,hu,he=>by unfold og at he;cases he
 |n,.int _,.bl _,A,x,y,u,v,hd,ra,rb,ru,rv,hu,he=>by unfold og at he;cases he
 |n,.int _,.str _,A,x,y,u,v,hd,ra,rb,ru,rv,hu,he=>by unfold og at he;cases he
 |n,.int _,.tup _,A,x,y,u,v,hd,ra,rb,ru,rv,hu,he=>by unfold og at he;cases he
 |n,.int _,.loc _,A,x,y,u,v,hd,ra,rb,ru,rv,hu,he=>by unfold og at he;cases he
 |n,.tup _,.non,A,x,y,u,v,hd,ra,rb,ru,rv,hu,he=>by unfold og at he;cases he
 |n,.tup _,.bl _,A,x,y,u,v,hd,ra,rb,ru,rv,hu,he=>by unfold og at he;cases he
 |n,.tup _,.int _,A,x,y,u,v,hd,ra,rb,ru,rv,hu,he=>by unfold og at he;cases he
 |n,.tup _,.str _,A,x,y,u,v,hd,ra,rb,ru,rv,hu,he=>by unfold og at he;cases he
 |n,.tup _,.loc _,A,x,y,u,v,hd,ra,rb,ru,rv,hu,he=>by unfold og at he;cases he
end
def Ca(x y:W)(st:List am):R W:=match og x y with
 |some k=>if x.dep<=64 then .ok (.bl k) st else .bad
 |none=>.bad
theorem PV{X:Cx}{k:Nat}(hr:h_ k X.A):oZ X (compareOp .Lt) Ca:=⟨fun pins s σ H x y v u Q I rv ru ⟨μ,st,wx,wy,S,rx,ry,q⟩=>by
 unfold Ca at q
 cases e:og wx wy with
 |none=>rw[e]at q;exact q.elim
 |some b=>
  rw[e]at q
  simp only at q
  by_cases c:wx.dep<=64
  ·rw[aD c]at q
   exact D8 I b 64 wx wy X.A x y v u c rx ry rv ru hr.units e X.prog X.w X.xe _ ⟨.bl b,H,I,rfl,ie S q⟩
  ·rw[aQ c]at q;exact q.elim,fun x y st=>by
 unfold Ca
 split
 ·split<;>trivial
 ·trivial⟩
theorem eL(st x:List am)(k:Nat):(st++x)[st.length+k]?=x[k]?:=by rw[eU (by omega)];congr 1;omega
theorem cF(st x:List am):(st++x)[st.length]?=x[0]?:=eL st x 0
theorem gO(st x:List am)(k:Nat)(c:am):(st++x).set (st.length+k) c=st++x.set k c:=by rw[List.set_append_right _ _ (by omega)];congr 2;omega
theorem dC(st x:List am)(c:am):(st++x).set st.length c=st++x.set 0 c:=gO st x 0 c
theorem fZ{st x:List am}{n:Nat}{c:am}(h:st[n]?=some c):(st++x)[n]?=some c:=by
 rw[au (aa.mp h).1];exact h
theorem zp(st:List am)(ws:List W):j_ st st ws=st:=by unfold j_;split<;>simp
theorem pi{st x:List am}{ws:List W}(h:undWs st.length ws=true):j_ st (st++x) ws=st:=by
 unfold j_
 rw[aD ⟨h,by simp,fun i hi=>.inl (au hi)⟩]
 simp
theorem Cb{st bH:List am}{ws:List W}(h:undWs st.length ws=false):j_ st bH ws=bH:=by
 unfold j_
 rw[aQ fun k=>by have:=k.1;rw[h]at this;cases this]
theorem qA{N:Nat}{body:FS}{ws:List W}{st bH:List am}{w:W}(h:body (ws.map some++List.replicate (N-ws.length) none) st=.rt w bH):du N body ws st=.ok w (j_ st bH [w]):=by
 unfold du;rw[h]
theorem m9{N:Nat}{body:FS}{ws:List W}{st:List am}{w:W}(h:body (ws.map some++List.replicate (N-ws.length) none) st=.rt w st):du N body ws st=.ok w st:=by
 rw[qA h,zp]
theorem xn{N:Nat}{body:FS}{ws:List W}{st x:List am}{w:W}(h:body (ws.map some++List.replicate (N-ws.length) none) st=.rt w (st++x))(hu:undWs st.length [w]=true):du N body ws st=.ok w st:=by
 rw[qA h,pi hu]
theorem xo{N:Nat}{body:FS}{ws:List W}{st x:List am}{k:Nat}(h:body (ws.map some++List.replicate (N-ws.length) none) st=.rt (.loc (st.length+k)) (st++x)):du N body ws st=.ok (.loc (st.length+k)) (st++x):=by
 rw[qA h,Cb (by simp[undWs,W.und])]
theorem D9{g g':FS}{ρ ρ':cB}{st bH:List am}(h:g ρ st=.nx ρ' bH):aS g g' ρ st=g' ρ' bH:=by unfold aS;rw[h]
theorem u6{fi:FI}{f:FG}{body:FS}{ρ:cB}{st bH:List am}{k:ze}(h:fi ρ st=.ok k bH):gu fi f body ρ st=oz f body k.2 k.1 ρ bH:=by unfold gu;rw[h];rfl
theorem rD{f:FG}{body:FS}{ck:Option (Nat×List W)}(I:Nat->cB->List am->Prop):∀{ws:List W} {ρ:cB} {st:List am} (i0:Nat),I i0 ρ st->(∀i ρ st,I i ρ st->ii st ck) ->
  (∀i w ρ st,ws[i]?=some w->I (i0+i) ρ st->∃ρ' ρ2 cZ,f w ρ=some ρ'/\body ρ' st=.nx ρ2 cZ/\I (i0+i+1) ρ2 cZ) ->
  ∃ρ2 cZ,oz f body ck ws ρ st=.nx ρ2 cZ/\I (i0+ws.length) ρ2 cZ
 |[],ρ,st,i0,h0,hc,hs=>⟨ρ,st,by unfold oz;rw[aD (hc _ _ _ h0)],h0⟩
 |w::ws,ρ,st,i0,h0,hc,hs=>by
  obtain⟨ρ',ρ2,cZ,e1,e2,h1⟩:=hs 0 w ρ st rfl h0
  obtain⟨ρ3,j0,e3,h3⟩:=rD I (ws:=ws) (ρ:=ρ2) (st:=cZ) (i0+1) h1 hc fun i w ρ st hw hI=>by
   obtain⟨a,b,c,d,e,g⟩:=hs (i+1) w ρ st (by simpa using hw) (by rw[show i0+(i+1)=i0+1+i by omega];exact hI)
   exact⟨a,b,c,d,e,by rw[show i0+1+i+1=i0+(i+1)+1 by omega];exact g⟩
  refine⟨ρ3,j0,?_,by rw[ba,show i0+(ws.length+1)=i0+1+ws.length by omega];exact h3⟩
  unfold oz
  rw[aD (hc _ _ _ h0),e1]
  simp only[e2]
  exact e3
theorem Cc{t:FT}{g:FS}(I:Nat->cB->List am->Prop):∀(n:Nat) {ρ:cB} {st:List am},I n ρ st ->
  (∀n ρ st,I n ρ st->t ρ st=.ok false st\/(t ρ st=.ok true st/\∃ρ2 cZ m,g ρ st=.nx ρ2 cZ/\m<n/\I m ρ2 cZ)) ->
  ∃m ρ2 cZ,mH t g ρ st=.nx ρ2 cZ/\I m ρ2 cZ/\t ρ2 cZ=.ok false cZ:=by
 intro n ρ st h hs
 have key:∀(k n:Nat) (ρ:cB) (st:List am),n<k->I n ρ st->∃m ρ2 cZ,fO t g k ρ st=.nx ρ2 cZ/\I m ρ2 cZ/\t ρ2 cZ=.ok false cZ:=by
  intro k
  induction k with
  |zero=>intro n _ _ h;exact absurd h (cQ _)
  |succ k ih=>
   intro n ρ st hk hI
   rcases hs n ρ st hI with e|⟨e,ρ2,cZ,m,e2,hm,h2⟩
   ·exact⟨n,ρ,st,by unfold fO;rw[e];rfl,hI,e⟩
   ·obtain⟨m',ρ3,j0,e3,h3⟩:=ih m ρ2 cZ (by omega) h2
    exact⟨m',ρ3,j0,by unfold fO;rw[e];simp only[R.stmt_ok,gi,e2];exact e3,h3⟩
 obtain⟨m,ρ2,cZ,e,h2⟩:=key (n+1) n ρ st (iO n) h
 exact⟨m,ρ2,cZ,BY e (by simp),h2⟩
section
variable{ρ ρ':cB}{st st1 cZ j0 RE:List am}{fa fb fe fo fi:FE}{fs:FA}{t u:FT}{x y z w v:W}{ws xs zs:List W}{i j n m:Nat}{a b k:Bool}{g g':FS}
theorem ah(h:ρ[i]?=some (some w)):ai i ρ st=.ok w st:=by unfold ai;rw[h]
theorem bM:eC w ρ st=.ok w st:=rfl
theorem be{f:W->W->List am->R W}(h1:fa ρ st=.ok x st1)(h2:fb ρ st1=.ok y cZ)(h3:f x y cZ=.ok z j0):e2 f fa fb ρ st=.ok z j0:=by unfold e2;rw[h1];simp only[R.bind_ok];rw[h2];exact h3
theorem aF:aC ρ st=.ok [] st:=rfl
theorem ak(h1:fa ρ st=.ok x st1)(h2:fs ρ st1=.ok xs cZ):aj fa fs ρ st=.ok (x::xs) cZ:=by unfold aj;rw[h1];simp only[R.bind_ok];rw[h2];rfl
theorem L6{ls:List (List Nat)}:Pq ls ρ st=.ok (ls.map W.str) st:=rfl
theorem gP(h1:fs ρ st=.ok ws st1)(h2:ws.length<=j8):eK fs ρ st=.ok (.tup ws) st1:=by unfold eK;rw[h1];simp only[R.bind_ok,mE];rw[aD h2]
theorem tX(h1:fs ρ st=.ok ws st1)(h2:ws.length<=j8):i9 fs ρ st=.ok (.loc st1.length) (st1++[.lst ws]):=by unfold i9;rw[h1];simp only[R.bind_ok,lY];rw[aD h2]
theorem bw{F:List W->List am->R W}(h1:fs ρ st=.ok ws st1)(h2:F ws st1=.ok w cZ):bx F fs ρ st=.ok w cZ:=by unfold bx;rw[h1];exact h2
theorem b8{F:List W->List am->R W}(h1:fs ρ st=.ok ws st1)(h2:F ws st1=.ok w cZ)(hn:ws.length=n):cC n F fs ρ st=.ok w cZ:=by unfold cC;rw[h1];simp only[R.bind_ok];rw[aD hn];exact h2
theorem bI(h:fa ρ st=.ok (.bl k) st1):et fa ρ st=.ok k st1:=by unfold et;rw[h];rfl
theorem oF(h1:t ρ st=.ok true st1)(h2:u ρ st1=.ok k cZ):LN t u ρ st=.ok k cZ:=by unfold LN;rw[h1];exact h2
theorem u7(h1:t ρ st=.ok false st1):LN t u ρ st=.ok false st1:=by unfold LN;rw[h1];rfl
theorem gW(h1:t ρ st=.ok false st1)(h2:u ρ st1=.ok k cZ):we t u ρ st=.ok k cZ:=by unfold we;rw[h1];exact h2
theorem u8(h1:t ρ st=.ok true st1):we t u ρ st=.ok true st1:=by unfold we;rw[h1];rfl
theorem nE(h1:t ρ st=.ok a st1)(h2:(!a)=k):wP t ρ st=.ok k st1:=by unfold wP;rw[h1,<- h2];rfl
theorem u9(h1:fa ρ st=.ok (.bl true) st1)(h2:fb ρ st1=.ok w cZ):y9 fa fb ρ st=.ok w cZ:=by unfold y9;rw[h1];exact h2
theorem L7(h1:fa ρ st=.ok (.bl false) st1)(h2:fb ρ st1=.ok w cZ):Ob fa fb ρ st=.ok w cZ:=by unfold Ob;rw[h1];exact h2
theorem L8(h1:fa ρ st=.ok (.bl true) st1):Ob fa fb ρ st=.ok (.bl true) st1:=by unfold Ob;rw[h1];rfl
theorem PX(h1:fa ρ st=.ok (.bl a) st1)(h2:(!a)=k):HR fa ρ st=.ok (.bl k) st1:=by unfold HR;rw[h1,<- h2];rfl
theorem tY(h1:t ρ st=.ok true st1)(h2:fa ρ st1=.ok w cZ):HS t fa fb ρ st=.ok w cZ:=by unfold HS;rw[h1];exact h2
theorem tZ(h1:t ρ st=.ok false st1)(h2:fb ρ st1=.ok w cZ):HS t fa fb ρ st=.ok w cZ:=by unfold HS;rw[h1];exact h2
theorem ik{F:W->List W->List am->R W}(h1:fo ρ st=.ok x st1)(hl:lZ st1 x=true)(h2:fs ρ st1=.ok ws cZ)(h3:F x ws cZ=.ok w j0):kP F fo fs ρ st=.ok w j0:=by unfold kP;rw[h1];simp only[R.bind_ok];rw[aD hl,h2];exact h3
theorem Iu{F:W->List W->List am->R W}(h1:fo ρ st=.ok x st1)(hl:DN x=true)(h2:fs ρ st1=.ok ws cZ)(h3:F x ws cZ=.ok w j0):GT F fo fs ρ st=.ok w j0:=by unfold GT;rw[h1];simp only[R.bind_ok];rw[aD hl,h2];exact h3
theorem dF(h:st[n]?=some (.lst ws)):lZ st (.loc n)=true:=by simp only[lZ,h]
theorem t5{q:Int}(h:fa ρ st=.ok (.int q) st1):uT fa ρ st=.ok (.int (-q)) st1:=by unfold uT;rw[h];rfl
theorem rE{T c:String}(h:fa ρ st=.ok x st1)(hx:x.ty=some c)(hk:HZ c T=k):ml T fa ρ st=.ok (.bl k) st1:=by unfold ml;rw[h];simp only[R.bind_ok,hx,hk]
theorem D_(h:fa ρ st=.ok x st1)(hk:x.isNon=k):wR fa ρ st=.ok (.bl k) st1:=by unfold wR;rw[h,<- hk];rfl
theorem nX(h:fa ρ st=.ok x st1)(hk:(!x.isNon)=k):qX fa ρ st=.ok (.bl k) st1:=by unfold qX;rw[h,<- hk];rfl
theorem L9:tO ρ st=.ok none st:=rfl
theorem rF{q:Int}(h:fa ρ st=.ok (.int q) st1):jG fa ρ st=.ok (some q) st1:=by unfold jG;rw[h];rfl
theorem zq{fl fh:FO}{l h:Option Int}(h1:fa ρ st=.ok x st1)(h2:fl ρ st1=.ok l cZ)(h3:fh ρ cZ=.ok h j0)(h4:za x l h j0=.ok w RE):DF fa fl fh ρ st=.ok w RE:=by unfold DF;rw[h1];simp only[R.bind_ok];rw[h2];simp only[R.bind_ok];rw[h3];exact h4
theorem bz(h:fe ρ st=.ok w st1):bu i fe ρ st=.nx (ρ.set i (some w)) st1:=by unfold bu;rw[h];rfl
theorem eS(h:fe ρ st=.ok w st1):dW fe ρ st=.nx ρ st1:=by unfold dW;rw[h];rfl
theorem xp(h:fe ρ st=.ok w st1):cH fe ρ st=.rt w st1:=by unfold cH;rw[h];rfl
theorem pY{f:W->W->W->List am->Option (List am)}(h1:fe ρ st=.ok v st1)(h2:fo ρ st1=.ok x cZ)(h3:fi ρ cZ=.ok y j0)(h4:f x y v j0=some RE):qh fo fi fe f ρ st=.nx ρ RE:=by
 unfold qh;rw[h1];simp only[R.stmt_ok];rw[h2];simp only[R.stmt_ok];rw[h3];simp only[R.stmt_ok];rw[h4]
theorem i_{r:RS}(h1:t ρ st=.ok true st1)(h2:g ρ st1=r):gs t g g' ρ st=r:=by unfold gs;rw[h1];exact h2
theorem pj{r:RS}(h1:t ρ st=.ok false st1)(h2:g' ρ st1=r):gs t g g' ρ st=r:=by unfold gs;rw[h1];exact h2
theorem rG:b_ ρ st=.nx ρ st:=rfl
theorem xq{r:RS}(h:g ρ st=.nx ρ' st1)(h2:g' ρ' st1=r):aS g g' ρ st=r:=by rw[D9 h];exact h2
theorem zt(h:g ρ st=.rt w st1):aS g g' ρ st=.rt w st1:=by unfold aS;rw[h]
theorem db{p q:Int}:c7 (.int p) (.int q) st=.ok (.int (p+q)) st:=rfl
theorem zu{p q:List Nat}(h:p.length+q.length<=j8):c7 (.str p) (.str q) st=.ok (.str (p++q)) st:=by simp only[c7];rw[aD h]
theorem Ea(h1:st[n]?=some (.lst ws))(h2:st[m]?=some (.lst xs))(h:(ws++xs).length<=j8):c7 (.loc n) (.loc m) st=.ok (.loc st.length) (st++[.lst (ws++xs)]):=by
 unfold c7;simp only[h1,h2,lY];rw[aD h]
theorem fS{C:Int->Int->Prop}[∀i j,Decidable (C i j)]{f:Int->Int->Int}{p q:Int}(h:C p q):BV C f (.int p) (.int q) st=.ok (.int (f p q)) st:=by simp only[BV];rw[aD h]
theorem mO{p q:Int}(h:y_ p q):gN (.int p) (.int q) st=.ok (.int (p*q)) st:=by simp only[gN];rw[aD h]
theorem gc{f:Int->Int->Bool}{p q:Int}(h:f p q=k):BW f (.int p) (.int q) st=.ok (.bl k) st:=by rw[<- h];rfl
theorem AY{p q:Int}(h:decide (p<=q)=k):B5 (.int p) (.int q) st=.ok (.bl k) st:=by rw[<- h];rfl
theorem fK{p q:Int}(h:(p==q)=k):jC (.int p) (.int q) st=.ok (.bl k) st:=by rw[<- h];rfl
theorem AZ{p q:Int}(h:(!(p==q))=k):CN (.int p) (.int q) st=.ok (.bl k) st:=by rw[<- h];rfl
theorem PY{p q:List Nat}(h:(p==q)=k):jC (.str p) (.str q) st=.ok (.bl k) st:=by rw[<- h];rfl
theorem c_{q:Int}(h:oV ws q=some w):bG (.tup ws) (.int q) st=.ok w st:=by unfold bG;simp only[h,d9]
theorem Eb{l:List Nat}{q:Int}{c:Nat}(hl:l.length<=j8)(h:oV l q=some c):bG (.str l) (.int q) st=.ok (.str [c]) st:=by unfold bG;simp only[h,d9];rw[aD hl]
theorem jM{q:Int}(hl:lstOf st n=some ws)(h:oV ws q=some w):bG (.loc n) (.int q) st=.ok w st:=by unfold bG;simp only[hl,h,d9]
theorem iM:dJ [.tup ws] st=.ok (.int ws.length) st:=rfl
theorem u_{l:List Nat}(h:l.length<=j8):dJ [.str l] st=.ok (.int l.length) st:=by unfold dJ;simp only;rw[aD h]
theorem i'(hl:lstOf st n=some ws):dJ [.loc n] st=.ok (.int ws.length) st:=by unfold dJ;simp only[hl,d9]
theorem bj(h:st[n]?=some (.lst ws)):lstOf st n=some ws:=by unfold lstOf;rw[h]
theorem qB(h:st[n]?=some (.ro ws)):lstOf st n=some ws:=by unfold lstOf;rw[h]
theorem kh(h:st[n]?=some (.lst ws))(hl:ws.length<j8):cb (.loc n) [y] st=.ok .non (st.set n (.lst (ws++[y]))):=by unfold cb;simp only[h];rw[aD hl]
theorem A0(h:st[n]?=some (.lst (ws++[y]))):mi (.loc n) [] st=.ok y (st.set n (.lst ws)):=by unfold mi;simp only[h];simp
theorem Ec{q:Int}(h:st[n]?=some (.lst ws))(hi:Aw ws.length q=some j):ou (.loc n) (.int q) v st=some (st.set n (.lst (ws.set j v))):=by unfold ou;simp only[h,hi];rfl
theorem zv{sep:List Nat}{ls:List (List Nat)}(h:lstOf st n=some (ls.map W.str))(hl:(ls.map List.length).sum+ls.length*sep.length<=j8):l8 (.str sep) [.loc n] st=.ok (.str (lX sep ls)) st:=by
 unfold l8;simp only[h,d9,tQ];rw[aD hl]
theorem JD{l h:Option Int}(hl:lstOf st n=some ws):za (.loc n) l h st=.ok (.loc st.length) (st++[.lst (kO ws l h)]):=by unfold za;simp only[hl,d9]
theorem PZ{l h:Option Int}{z:List Nat}(hl:z.length<=j8):za (.str z) l h st=.ok (.str (kO z l h)) st:=by unfold za;simp only;rw[aD hl]
theorem A1{l h:Option Int}:za (.tup ws) l h st=.ok (.tup (kO ws l h)) st:=rfl
theorem jt(h:fe ρ st=.ok (.tup ws) st1):eF fe ρ st=.ok (ws,none) st1:=by unfold eF;rw[h];rfl
theorem oG(h:fe ρ st=.ok (.loc n) st1)(hl:lstOf st1 n=some ws):eF fe ρ st=.ok (ws,some (n,ws)) st1:=by unfold eF;rw[h];simp only[R.bind_ok,hl]
theorem fD{q:Int}(h:fs ρ st=.ok [.int q] st1)(hq:-(2^62)<=q/\q<2^62):bY fs ρ st=.ok (c8 0 q.toNat,none) st1:=by unfold bY;rw[h];simp only[R.bind_ok];rw[aD hq]
theorem va{l:List W}{q:Nat}{x:W}(h:l.reverse[q]?=some x):oV l (-((q:Int)+1))=some x:=by
 have hq:q<l.length:=by have:=(aa.mp h).1;simpa using this
 unfold oV Aw
 rw[aQ (by omega),aD (by omega)]
 rw[gb hq]at h
 simp only[Option.bind_some]
 rw[show((-((q:Int)+1))+(l.length:Int)).toNat=l.length-1-q by omega]
 exact h
theorem fI{α:Type}{l:List α}{q:Nat}{x:α}(h:l[q]?=some x):oV l (q:Int)=some x:=by
 have hq:q<l.length:=(aa.mp h).1
 unfold oV Aw
 rw[aD (by omega),aD (by omega)]
 simpa using h
def gn(P:RS->Prop)(r:RS):Prop:=P r
def A2(I:cB->List am->Prop):RS->Prop:=fun r=>∃ρ st,r=.nx ρ st/\I ρ st
def sF(I:W->List am->Prop):RS->Prop:=fun r=>∃w st,r=.rt w st/\I w st
variable{P:RS->Prop}{d7:FS}
theorem cy{r r':RS}(h:r=r')(h2:P r'):gn P r:=by rw[h];exact h2
theorem az(h:g ρ st=.nx ρ' st1)(h2:gn P (g' ρ' st1)):gn P (aS g g' ρ st):=by rw[D9 h];exact h2
theorem iJ(h1:t ρ st=.ok true st1)(h2:gn P (g ρ st1)):gn P (gs t g g' ρ st):=by rw[i_ h1 rfl];exact h2
theorem hV(h1:t ρ st=.ok false st1)(h2:gn P (g' ρ st1)):gn P (gs t g g' ρ st):=by rw[pj h1 rfl];exact h2
theorem eR(h1:t ρ st=.ok true st1)(h2:gn P (aS g d7 ρ st1)):gn P (aS (gs t g g') d7 ρ st):=by
 unfold aS at h2 ⊢;rw[i_ h1 rfl];exact h2
theorem bJ(h1:t ρ st=.ok false st1)(h2:gn P (aS g' d7 ρ st1)):gn P (aS (gs t g g') d7 ρ st):=by
 unfold aS at h2 ⊢;rw[pj h1 rfl];exact h2
theorem t6{h:FS}(h2:gn P (aS g (aS g' h) ρ st)):gn P (aS (aS g g') h ρ st):=by
 unfold aS at h2 ⊢
 cases e:g ρ st<;>simp only[e]at h2 ⊢ <;> exact h2
theorem bZ(h2:gn P (d7 ρ st)):gn P (aS b_ d7 ρ st):=h2
theorem bN(h:fe ρ st=.ok w st1)(h2:P (.rt w st1)):gn P (cH fe ρ st):=by rw[xp h];exact h2
theorem eQ(h:fe ρ st=.ok w st1)(h2:P (.rt w st1)):gn P (aS (cH fe) d7 ρ st):=by rw[zt (xp h)];exact h2
theorem dL{fi:FI}{f:FG}{body:FS}{k:ze}(I:Nat->cB->List am->Prop)(h:fi ρ st=.ok k st1)(h0:I 0 ρ st1)(hc:∀i ρ st,I i ρ st->ii st k.2)
  (hs:∀i w ρ st,k.1[i]?=some w->I i ρ st->∃ρ',f w ρ=some ρ'/\gn (A2 (I (i+1))) (body ρ' st)) (he:∀ρ st,I k.1.length ρ st->gn P (d7 ρ st)):gn P (aS (gu fi f body) d7 ρ st):=by
 obtain⟨ρ2,cZ,e,h2⟩:=rD (f:=f) (body:=body) (ck:=k.2) I (ws:=k.1) (ρ:=ρ) (st:=st1) 0 h0 hc fun i w ρ st hw hI=>by
  rw[fW]at hI ⊢
  obtain⟨ρ',e1,ρ2,cZ,e2,h2⟩:=hs i w ρ st hw hI
  exact⟨ρ',ρ2,cZ,e1,e2,h2⟩
 rw[fW]at h2
 exact az (by rw[u6 h];exact e) (he _ _ h2)
theorem t7{body:FS}(I:Nat->cB->List am->Prop)(n:Nat)(h0:I n ρ st)
  (hs:∀n ρ st,I n ρ st->t ρ st=.ok false st\/(t ρ st=.ok true st/\gn (A2 fun ρ2 cZ=>∃m,m<n/\I m ρ2 cZ) (body ρ st))) (he:∀m ρ st,I m ρ st->t ρ st=.ok false st->gn P (d7 ρ st)):gn P (aS (mH t body) d7 ρ st):=by
 obtain⟨m,ρ2,cZ,e,h2,h3⟩:=Cc (t:=t) (g:=body) I n h0 fun n ρ st hI=>by
  rcases hs n ρ st hI with e|⟨e,ρ2,cZ,e2,m,hm,h2⟩
  ·exact .inl e
  ·exact .inr ⟨e,ρ2,cZ,m,e2,hm,h2⟩
 exact az e (he _ _ _ h2 h3)
theorem ju{N:Nat}{body:FS}{Q:W->Prop}(h:gn (sF fun w bH=>(∃x,bH=st++x)/\undWs st.length [w]=true/\Q w) (body (ws.map some++List.replicate (N-ws.length) none) st)):∃w,Q w/\du N body ws st=.ok w st:=by
 obtain⟨w,bH,e,⟨x,rfl⟩,hu,q⟩:=h
 exact⟨w,q,xn e hu⟩
theorem fJ{N:Nat}{body:FS}(h:gn (sF fun w' bH=>w'=w/\∃x,bH=st++x) (body (ws.map some++List.replicate (N-ws.length) none) st))(hu:undWs st.length [w]=true):du N body ws st=.ok w st:=by
 obtain⟨w,bH,e,rfl,x,rfl⟩:=h
 exact xn e hu
theorem oH{N:Nat}{body:FS}{Q:Nat->List am->Prop}(h:gn (sF fun w bH=>∃j x,w=.loc (st.length+j)/\bH=st++x/\Q j x) (body (ws.map some++List.replicate (N-ws.length) none) st)):∃j x,Q j x/\du N body ws st=.ok (.loc (st.length+j)) (st++x):=by
 obtain⟨w,bH,e,j,x,rfl,rfl,q⟩:=h
 exact⟨j,x,q,xo e⟩
theorem gD{q i:Nat}{lo:Int}{w:W}(h:(c8 lo q)[i]?=some w):i<q/\w=.int (lo+i):=by
 unfold c8 at h
 obtain⟨h1,h2⟩:=aa.mp h
 simp only[av,fG]at h1
 exact⟨h1,by rw[<- h2];simp⟩
theorem qC{α:Type}{l:List α}{q:Nat}(h:q<=l.length):kO l none (some (q:Int))=l.take q:=by
 unfold kO;rw[HT.sIx_none,HT.sIx_nat,g6 h];simp
theorem qD{α:Type}{l:List α}{q:Nat}(h:q<=l.length):kO l (some (q:Int)) none=l.drop q:=by
 unfold kO;rw[HT.sIx_none,HT.sIx_nat,g6 h];rw[bo (by simp)]
theorem fE{q:Int}{n:Nat}(h:0<n):∃m:Nat,m<n/\q%(n:Int)=m:=by
 have h0:0<=q%(n:Int):=g9 _ (by omega)
 have h1:q%(n:Int)<n:=jX _ (by omega)
 exact⟨(q%(n:Int)).toNat,by omega,by omega⟩
end
section
variable{ρ:cB}{st st1:List am}{t u:FT}{a b k:Bool}{P:RS->Prop}{g g' d7:FS}{w:W}{ws:List W}
theorem L_(h1:t ρ st=.ok a st)(h2:u ρ st=.ok b st):LN t u ρ st=.ok (a&&b) st:=by cases a;exact u7 h1;exact oF h1 h2
theorem L'(h1:t ρ st=.ok a st)(h2:u ρ st=.ok b st):we t u ρ st=.ok (a||b) st:=by cases a;exact gW h1 h2;exact u8 h1
theorem Ma(h1:t ρ st=.ok a st):wP t ρ st=.ok (!a) st:=nE h1 rfl
theorem fx{N:Nat}{body:FS}(h:gn (sF fun w' bH=>w'=w/\bH=st) (body (ws.map some++List.replicate (N-ws.length) none) st)):du N body ws st=.ok w st:=by
 obtain⟨w,bH,e,rfl,rfl⟩:=h
 exact m9 e
end
end L2
open L2
local macro_rules | `(tactic| walk_at "ev1") => `(tactic| first
 | (with_reducible apply ah) <;> rfl
 | (with_reducible apply c_) <;> rfl
 | with_reducible first
  | exact bM | exact aF | exact L6 | exact L9 | exact db | exact iM | exact rG | exact A1
  | apply be | apply ak | apply gP | apply tX | apply bw | apply b8 | apply bI | apply nE | apply PX
  | apply ik | apply Iu | apply t5 | apply rE | apply D_ | apply nX | apply rF | apply zq | apply bz | apply eS | apply xp | apply pY
  | apply fS | apply mO | apply gc | apply AY | apply fK | apply AZ | apply PY | apply zu
 | decide
 | (show List.length _ <= j8; exact aM rfl)
 | (show @Eq Nat _ _; exact rfl)
 | (show @Eq Bool _ _; exact rfl)
 | (show @Eq (Option String) _ _; exact rfl)
 | (show @Eq _ _ _; with_reducible assumption))
local macro_rules | `(tactic| walk_at "evs") => `(tactic| repeat' walk_at "ev1")
local macro_rules | `(tactic| walk_at "tst") => `(tactic| first
 | (walk_at "evs"; done)
 | (apply u7; (focus walk_at "tst"); done)
 | (apply oF; (focus walk_at "tst"); (focus walk_at "tst"); done)
 | (apply u8; (focus walk_at "tst"); done)
 | (apply gW; (focus walk_at "tst"); (focus walk_at "tst"); done))
local macro_rules | `(tactic| walk_at "go1") => `(tactic| first
 | apply bZ
 | (apply eQ; (focus (walk_at "evs"; done)))
 | (apply bN; (focus (walk_at "evs"; done)))
 | (apply eR; (focus walk_at "tst"))
 | (apply bJ; (focus walk_at "tst"))
 | (apply iJ; (focus walk_at "tst"))
 | (apply hV; (focus walk_at "tst"))
 | (apply az; (focus (walk_at "evs"; done))))
local macro_rules | `(tactic| walk_at "go") => `(tactic| repeat walk_at "go1")
local macro_rules | `(tactic| walk_at "tb") => `(tactic| repeat' (first | with_reducible apply L_ | with_reducible apply L' | with_reducible apply Ma | walk_at "ev1"))
local macro_rules | `(tactic| walk_at "len") => `(tactic| (simp only [ay, ba, b9]; show _ <= 1000000; omega))
namespace L2
open PySem PySem.Spec PyProof.Rows
section
variable{ρ ρ' ρ2:cB}{st st1 cZ:List am}{fa fe:FE}{fs:FA}{g gh d7:FS}{ws:List W}{w:W}{n i:Nat}{c:Str}{cs:List Str}{P:RS->Prop}{b:Bool}
def Tn(c:Str)(I:List am->Prop):RS->Prop:=fun r=>∃ρ st,r=.ex c ρ st/\I st
theorem vc{N:Nat}{body:FS}(h:gn (Tn c fun bH=>∃x,bH=st++x) (body (ws.map some++List.replicate (N-ws.length) none) st)):du N body ws st=.ex c st:=by
 obtain⟨ρ,bH,e,x,rfl⟩:=h
 unfold du
 rw[e]
 simp only[pi (st:=st) (x:=x) (ws:=[]) rfl]
theorem Ed{N:Nat}{body:FS}(h:gn (A2 fun _ bH=>∃x,bH=st++x) (body (ws.map some++List.replicate (N-ws.length) none) st)):du N body ws st=.ok .non st:=by
 obtain⟨ρ,bH,e,x,rfl⟩:=h
 unfold du
 rw[e]
 simp only[pi (st:=st) (x:=x) (ws:=[]) rfl]
theorem Cd(h:P (.ex c ρ st)):gn P (zj c ρ st):=h
theorem xt{F:List W->List am->R W}(h1:fs ρ st=.ok ws st1)(h2:F ws st1=.ex c cZ)(hn:ws.length=n):cC n F fs ρ st=.ex c cZ:=by unfold cC;rw[h1];simp only[R.bind_ok];rw[aD hn];exact h2
theorem Ce(h:fe ρ st=.ex c st1):dW fe ρ st=.ex c ρ st1:=by unfold dW;rw[h];rfl
theorem Ee(h:fe ρ st=.ex c st1):cH fe ρ st=.ex c ρ st1:=by unfold cH;rw[h];rfl
theorem rH(h:g ρ st=.ex c ρ' st1)(h2:P (.ex c ρ' st1)):gn P (aS g d7 ρ st):=by unfold aS;rw[h];exact h2
theorem P0{p q:Bool}(h:(p==q)=b):jC (.bl p) (.bl q) st=.ok (.bl b) st:=by rw[<- h];rfl
theorem Ef{zs:List W}{k:Nat}{y:W}(h:st[n]?=some (.lst zs))(hk:k<=zs.length)(hl:zs.length<j8)(GZ:k<1000000):m8 (.loc n) [.int k,y] st=.ok .non (st.set n (.lst (zs.take k++y::zs.drop k))):=by
 unfold m8;simp only[h,bB];rw[aD ⟨by omega,hk,hl,by omega⟩]
theorem im(I:cB->List am->Prop)(h:gn (A2 I) (g ρ st))(h2:∀ρ st,I ρ st->gn P (d7 ρ st)):gn P (aS g d7 ρ st):=by
 obtain⟨ρ',bH,e,hi⟩:=h
 exact az e (h2 _ _ hi)
end
section
variable{ρ:cB}{st st1:List am}{fi:FI}{f:FG}{t:FT}{el:FE}{cap:List (Option Nat)}
theorem xu{ck:Option (Nat×List W)}{ρ0:cB}(hc:ii st ck)(T:W->Bool)(Y:W->W):∀(ws acc:List W),(∀w∈ws,∃ρ',f w ρ0=some ρ'/\t ρ' st=.ok (T w) st/\(T w=true->el ρ' st=.ok (Y w) st)) ->
  l9 f t el ck ρ0 ws acc st=.ok (acc++(ws.filter T).map Y) st
 |[],acc,_=>by unfold l9;rw[aD hc];simp
 |w::ws,acc,h=>by
  obtain⟨ρ',e1,e2,e3⟩:=h w (by simp)
  have ih:=fun acc=>xu hc T Y ws acc fun w' hw'=>h w' (by simp[hw'])
  unfold l9
  rw[aD hc,e1]
  simp only[e2]
  cases hT:T w with
  |true=>
   simp only[e3 hT]
   rw[ih]
   simp[de,hT]
  |false=>
   simp only
   rw[ih]
   simp[de,hT]
theorem vd{ws:List W}{ck:Option (Nat×List W)}(T:W->Bool)(Y:W->W)(h:fi ρ st=.ok (ws,ck) st1)(hl:ws.length<=j8)(hc:ii st1 ck)
  (hs:∀w∈ws,∃ρ',f w (nq cap ρ)=some ρ'/\t ρ' st1=.ok (T w) st1/\(T w=true->el ρ' st1=.ok (Y w) st1)):fj cap fi f t el ρ st=.ok (.loc st1.length) (st1++[.lst ((ws.filter T).map Y)]):=by
 unfold fj
 rw[h]
 simp only[R.bind_ok]
 rw[aD hl,xu hc T Y ws [] hs]
 simp only[R.bind_ok,fB,lY]
 rw[aD]
 rw[av]
 exact bn (dY _ _) hl
theorem oI{ws:List W}{ck:Option (Nat×List W)}(Y:W->W)(h:fi ρ st=.ok (ws,ck) st1)(hl:ws.length<=j8)(hc:ii st1 ck)
  (hs:∀w∈ws,∃ρ',f w (nq cap ρ)=some ρ'/\el ρ' st1=.ok (Y w) st1):fj cap fi f mj el ρ st=.ok (.loc st1.length) (st1++[.lst (ws.map Y)]):=by
 have:=vd (fi:=fi) (f:=f) (t:=mj) (el:=el) (cap:=cap) (fun _=>true) Y h hl hc fun w hw=>by
  obtain⟨ρ',e1,e2⟩:=hs w hw
  exact⟨ρ',e1,rfl,fun _=>e2⟩
 rw[List.filter_eq_self.mpr (fun _ _=>rfl)]at this
 exact this
theorem m_{q:Nat}{lo:Int}{w:W}(h:w∈c8 lo q):∃i:Nat,i<q/\w=.int (lo+i):=by
 unfold c8 at h
 obtain⟨i,hi,rfl⟩:=a9.mp h
 exact⟨i,ca.mp hi,rfl⟩
theorem gy{n:Nat}{ws:List W}(h:lstOf st n=some ws):d_ [.loc n] st=.ok (.tup ws) st:=by unfold d_;simp only[h,d9]
theorem rJ{ws xs:List W}(h:(ws++xs).length<=j8):c7 (.tup ws) (.tup xs) st=.ok (.tup (ws++xs)) st:=by simp only[c7,mE];rw[aD h]
theorem Eg{α:Type}{l:List α}{i j:Nat}(hj:j<=l.length)(hi:i<=j):kO l (some (i:Int)) (some (j:Int))=(l.drop i).take (j-i):=by
 unfold kO;rw[HT.sIx_nat,HT.sIx_nat,g6 hj,g6 (by omega)]
end
end L2
namespace P
open PySem L2
open PyProof.Rows (boot_sorted boot_set boot_ord boot_all boot_enumerate boot_int boot_str boot_bool boot_list boot_tuple boot_isinstance boot_max boot_min boot_zip)
def top(i:Nat):Stmt:=PySem.Challenge.pw_trunksay_k29_exchange.main.body.getD i (.Pass ⟨0,0,0,0⟩)
abbrev Mb:Stmt:=top 4
abbrev xy:List Str:=["names","marks","number","name"]
abbrev P1:List Str:=["names","marks"]
theorem xz:bq xy P1 (aV Mb):=jL
abbrev Md:Stmt:=top 5
abbrev zw:List Str:=["names","number","marks","rest","name"]
abbrev P2:List Str:=["names","number"]
theorem t8:bq zw P2 (aV Md):=jL
abbrev Me:Stmt:=top 7
abbrev ve:List Str:=["newest"]
abbrev P3:List Str:=["newest"]
theorem P4:bq ve P3 (aV Me):=jL
abbrev Mf:Stmt:=top 10
abbrev zx:List Str:=["place"]
abbrev P5:List Str:=["place"]
theorem P6:bq zx P5 (aV Mf):=jL
abbrev Mg:Stmt:=top 11
abbrev xA:List Str:=["place"]
abbrev P7:List Str:=["place"]
theorem P8:bq xA P7 (aV Mg):=jL
abbrev Mh:Stmt:=top 12
abbrev zy:List Str:=["tree","links","tops","number","place","right","left"]
abbrev P9:List Str:=["tree"]
theorem rK:bq zy P9 (aV Mh):=jL
abbrev Mi:Stmt:=top 13
abbrev vf:List Str:=["size"]
abbrev P_:List Str:=["size"]
theorem P':bq vf P_ (aV Mi):=jL
abbrev Mj:Stmt:=top 14
abbrev zz:List Str:=["left","right","marks","branches"]
abbrev Qa:List Str:=["left","right","marks"]
theorem A3:bq zz Qa (aV Mj):=jL
abbrev Ml:Stmt:=top 15
abbrev Eh:List Str:=["left","right","marks"]
abbrev Qb:List Str:=["left","right","marks"]
theorem Qc:bq Eh Qb (aV Ml):=jL
abbrev Mm:Stmt:=top 17
abbrev zA:List Str:=["machine","rows","told","best","left","right","size","letter","leads","room","way"]
abbrev Qd:List Str:=["machine","rows","told","best"]
theorem pZ:bq zA Qd (aV Mm):=jL
abbrev t9:Stmt:=top 18
abbrev xB:List Str:=["machine","rows","told","best","room","way"]
abbrev JE:List Str:=["machine"]
theorem pq:bq xB JE (aV t9):=jL
abbrev Ei:Stmt:=top 19
abbrev Iv:List Str:=["machine","rows","room","trees","row","marks"]
abbrev JF:List Str:=["machine","rows","room"]
theorem vg:bq Iv JF (aV Ei):=jL
abbrev Ej:Stmt:=top 20
abbrev xC:List Str:=["machine","rows","row"]
abbrev JG:List Str:=["machine","rows","row"]
theorem Mn:bq xC JG (aV Ej):=jL
abbrev Ek:Stmt:=top 21
abbrev vh:List Str:=["machine","room","rows","row"]
abbrev JH:List Str:=["machine","room"]
theorem zB:bq vh JH (aV Ek):=jL
abbrev El:Stmt:=top 23
abbrev vi:List Str:=["rooms","number"]
abbrev JI:List Str:=["rooms","number"]
theorem Mo:bq vi JI (aV El):=jL
abbrev Em:Stmt:=top 24
abbrev Cf:List Str:=["machine","marks","pair","rooms","leads"]
abbrev JJ:List Str:=["machine","marks","pair","rooms"]
theorem En:bq Cf JJ (aV Em):=jL
abbrev Eo:Stmt:=top 25
abbrev zC:List Str:=["machine","tree","rooms","place","pair"]
abbrev JK:List Str:=["machine","tree"]
theorem vj:bq zC JK (aV Eo):=jL
abbrev Ep:Stmt:=top 26
abbrev Cg:List Str:=["machine","tree"]
abbrev JL:List Str:=["machine","tree"]
theorem Mp:bq Cg JL (aV Ep):=jL
abbrev Er:Stmt:=top 27
abbrev Ch:List Str:=["machine","tree"]
abbrev JM:List Str:=["machine","tree"]
theorem Mq:bq Ch JM (aV Er):=jL
abbrev Es:Stmt:=top 29
abbrev sP:List Str:=["_law_names_here","_law_marks_here","_law_found","_law_name"]
abbrev JN:List Str:=["_law_names_here","_law_marks_here"]
theorem vk:bq sP JN (aV Es):=jL
abbrev Et:Stmt:=top 30
abbrev zD:List Str:=["_law_machine_here","_law_tree","_law_heap","_law_found","_law_branches","_law_marks_here","_law_left","_law_right"]
abbrev JO:List Str:=["_law_machine_here","_law_tree"]
theorem lx:bq zD JO (aV Et):=jL
abbrev Eu:Stmt:=top 31
abbrev vm:List Str:=["_law_cell_here","_law_k","_law_salt","_law_first"]
abbrev JP:List Str:=["_law_cell_here","_law_k","_law_salt"]
theorem Ev:bq vm JP (aV Eu):=jL
abbrev Ew:Stmt:=top 32
abbrev vn:List Str:=["_law_cell_here","_law_many","_law_salt","_law_found","_law_rest","_law_k"]
abbrev JQ:List Str:=["_law_cell_here","_law_many","_law_salt"]
theorem pw:bq vn JQ (aV Ew):=jL
abbrev Ex:Stmt:=top 33
abbrev xD:List Str:=["_law_cell_here","_law_many","_law_salt","_law_rest","_law_found","_law_d","_law_at"]
abbrev JR:List Str:=["_law_cell_here","_law_many","_law_salt"]
theorem nY:bq xD JR (aV Ex):=jL
abbrev Ey:Stmt:=top 34
abbrev xE:List Str:=["_law_script","_law_k"]
abbrev JS:List Str:=["_law_script","_law_k"]
theorem Mr:bq xE JS (aV Ey):=jL
abbrev Ez:Stmt:=top 35
abbrev vo:List Str:=["_law_d","_law_shapes"]
abbrev JT:List Str:=["_law_d"]
theorem EA:bq vo JT (aV Ez):=jL
abbrev EB:Stmt:=top 36
abbrev vp:List Str:=["_law_pool_here","_law_many"]
abbrev JU:List Str:=["_law_pool_here","_law_many"]
theorem Ms:bq vp JU (aV EB):=jL
abbrev EC:Stmt:=top 37
abbrev sQ:List Str:=["_law_script","_law_at","_law_many","_law_salt","_law_found","_law_k"]
abbrev JV:List Str:=["_law_script","_law_at","_law_many","_law_salt"]
theorem vq:bq sQ JV (aV EC):=jL
abbrev ED:Stmt:=top 38
abbrev vt:List Str:=["_law_way","_law_l","_law_r"]
abbrev JW:List Str:=["_law_way","_law_l","_law_r"]
theorem Mt:bq vt JW (aV ED):=jL
abbrev EE:Stmt:=top 39
abbrev sR:List Str:=["_law_names_here","_law_many","_law_draws_here","_law_table","_law_letter_here","_law_more","_law_rows","_law_l","_law_only"]
abbrev JX:List Str:=["_law_names_here","_law_many","_law_draws_here"]
theorem ly:bq sR JX (aV EE):=jL
abbrev EF:Stmt:=top 40
abbrev rL:List Str:=["_law_machine_here","_law_spot","_law_many","_law_table","_law_at","_law_rows","_law_row"]
abbrev JY:List Str:=["_law_machine_here","_law_spot"]
theorem py:bq rL JY (aV EF):=jL
abbrev EG:Stmt:=top 41
abbrev vw:List Str:=["_law_machine_here","_law_owner_here","_law_draws_here","_law_many","_law_at","_law_table","_law_rows","_law_made","_law_x","_law_row","_law_y","_law_due","_law_some"]
abbrev JZ:List Str:=["_law_machine_here","_law_owner_here","_law_draws_here"]
theorem ja:bq vw JZ (aV EG):=jL
abbrev EH:Stmt:=top 42
abbrev vx:List Str:=["_law_many","_law_extra","_law_draws_here","_law_row","_law_k","_law_room_here"]
abbrev J0:List Str:=["_law_many","_law_extra","_law_draws_here"]
theorem rM:bq vx J0 (aV EH):=jL
abbrev EI:Stmt:=top 43
abbrev rN:List Str:=["_law_names_here","_law_many","_law_top","_law_draws_here","_law_good","_law_table","_law_at","_law_letter_here","_law_rows","_law_l"]
abbrev J1:List Str:=["_law_names_here","_law_many","_law_top","_law_draws_here"]
theorem mP:bq rN J1 (aV EI):=jL
abbrev EJ:Stmt:=top 44
abbrev zE:List Str:=["_law_script","_law_at","_law_pool_here","_law_head","_law_count","_law_many","_law_names_here","_law_draws_here","_law_machine_here","_law_top"]
abbrev J2:List Str:=["_law_script","_law_at","_law_pool_here"]
theorem kC:bq zE J2 (aV EJ):=jL
abbrev EK:Stmt:=top 45
abbrev xF:List Str:=["_law_tree","_law_names_here"]
abbrev J3:List Str:=["_law_tree","_law_names_here"]
theorem Mu:bq xF J3 (aV EK):=jL
abbrev EL:Stmt:=top 46
abbrev vy:List Str:=["_law_pool_here","_law_number"]
abbrev J4:List Str:=["_law_pool_here","_law_number"]
theorem Mv:bq vy J4 (aV EL):=jL
abbrev EM:Stmt:=top 47
abbrev xG:List Str:=["_law_draws_here","_law_marks_here","_law_letters","_law_found","_law_high","_law_d","_law_branches"]
abbrev J5:List Str:=["_law_draws_here","_law_marks_here","_law_letters"]
theorem mQ:bq xG J5 (aV EM):=jL
abbrev EN:Stmt:=top 48
abbrev vz:List Str:=["_law_script","_law_at","_law_letters","_law_head","_law_many","_law_draws_here"]
abbrev J6:List Str:=["_law_script","_law_at","_law_letters"]
theorem rO:bq vz J6 (aV EN):=jL
abbrev EO:Stmt:=top 49
abbrev zF:List Str:=["_law_machine_here","_law_tree","_law_heap","_law_branches","_law_marks_here","_law_left","_law_right"]
abbrev J7:List Str:=["_law_machine_here","_law_tree"]
theorem mR:bq zF J7 (aV EO):=jL
abbrev EQ:Stmt:=top 50
abbrev vA:List Str:=["_law_tree","_law_heap","_law_found","_law_k","_law_left","_law_right"]
abbrev J8:List Str:=["_law_tree"]
theorem mS:bq vA J8 (aV EQ):=jL
abbrev ER:Stmt:=top 51
abbrev xH:List Str:=["_law_left","_law_right","_law_marks_here"]
abbrev J9:List Str:=["_law_left","_law_right","_law_marks_here"]
theorem Mw:bq xH J9 (aV ER):=jL
abbrev ES:Stmt:=top 52
abbrev zG:List Str:=["_law_tree","_law_place","_law_side","_law_other","_law_sizes","_law_links_here","_law_left","_law_right","_law_size","_law_start","_law_cut","_law_parts"]
abbrev J_:List Str:=["_law_tree","_law_place","_law_side","_law_other"]
theorem jb:bq zG J_ (aV ES):=jL
abbrev ET:Stmt:=top 53
abbrev xI:List Str:=["_law_found","_law_due","_law_k"]
abbrev EU:List Str:=["_law_found","_law_due"]
theorem EV:bq xI EU (aV ET):=jL
abbrev EW:Stmt:=top 54
abbrev pz:List Str:=["_law_found","_law_names_here","_law_high","_law_place"]
abbrev J':List Str:=["_law_found","_law_names_here"]
theorem vB:bq pz J' (aV EW):=jL
abbrev EX:Stmt:=top 55
abbrev xJ:List Str:=["_law_machine_here","_law_tree"]
abbrev Ka:List Str:=["_law_machine_here","_law_tree"]
theorem Mx:bq xJ Ka (aV EX):=jL
abbrev oJ:Stmt:=top 56
abbrev Qe:List Str:=["_law_script","_law_pool_here","_law_machine_here","_law_tree","_law_room_here","_law_first","_law_wood_here","_law_head","_law_place","_law_one","_law_other","_law_due","_law_made","_law_rooms"]
abbrev EY:List Str:=["_law_script"]
theorem io:bq Qe EY (aV oJ):=jL
structure Bl(mg:Str->Option Value):Prop where
 bool:mg "bool"=Option.none
 enumerate:mg "enumerate"=Option.none
 int:mg "int"=Option.none
 isinstance:mg "isinstance"=Option.none
 len:mg "len"=Option.none
 list:mg "list"=Option.none
 max:mg "max"=Option.none
 min:mg "min"=Option.none
 range:mg "range"=Option.none
 reversed:mg "reversed"=Option.none
 sorted:mg "sorted"=Option.none
 str:mg "str"=Option.none
 tuple:mg "tuple"=Option.none
 zip:mg "zip"=Option.none
def iS:W:=.int 100
structure Gc(K:Frag)(mg:Str->Option Value):Prop where
 MOST_PLACES:∃u v,mg "MOST_PLACES"=some u/\cr v u/\∀μ H,bF K μ H iS v
structure Oa(K:Frag)(mg:Str->Option Value):Prop where
 TooGreat:PN K mg "TooGreat"
def tabL:List (Addr×Pos×Str):=[(109,⟨68,29,68,52⟩,"firsts_of.<locals>.<lambda>")]
section
variable{P:Program}{w:World}{K:Frag}{mg:Str->Option Value}{base:Heap}{f:Addr}{fd:FuncData}
def Qf:FS:=(aS (bu 2 (eI 0)) (aS (gu (eF (ai 0)) (f_ 3) (aS (bu 2 (e2 gN (ai 2) (eI 2))) (gs (et (e2 (qt false) (ai 3) (ai 1))) (bu 2 (e2 c7 (ai 2) (eI 1))) b_))) (cH (ai 2))))
def EZ:List W->List am->R W:=du 4 Qf
theorem Qg(F:iI K "letter_of" "letter_of" Mb f fd)  :dG P w K mg base (iH P w) 1 f fd P1 (iL K mg 2 EZ):=
 cp (k:=0) F xz rfl fun fL A outer s H E hr=>(ar (sS 2 xz aw) (ar (dS (gw (af 0)) (sG 3 xz) (ar (sS 2 xz (bp gJ (af 2) aw)) (aJ (cP (bT (BX hr) (af 3) (af 1)) (aJ (sS 2 xz (bp cA (af 2) aw))) bX)))) (aJ (bh (af 2)))))
def Qh:FS:=(aS (bu 2 (eC (.str []))) (aS (bu 3 (ai 1)) (aS (gu (zk (aj (ai 0) aC)) (f_ 4) (aS (gs (et (e2 jC (e2 tM (ai 3) (eI 1)) (eI 1))) (bu 2 (e2 c7 (ai 4) (ai 2))) b_) (bu 3 (e2 wU (ai 3) (eI 1))))) (cH (ai 2)))))
def Ci:List W->List am->R W:=du 5 Qh
theorem Qi(F:iI K "marks_of" "marks_of" Md f fd)(B:Bl mg) :dG P w K mg base (iH P w) 1 f fd P2 (iL K mg 2 Ci):=
 cp (k:=0) F t8 rfl fun fL A outer s H E hr=>(ar (sS 2 t8 qW) (ar (sS 3 t8 (af 1)) (ar (dS (H_ B.reversed (ae (af 0) ao)) (sG 4 t8) (ar (cP (bT (ig hr) (bp DA (af 3) aw) aw) (aJ (sS 2 t8 (bp cA (af 4) (af 2)))) bX) (aJ (sS 3 t8 (bp Jt (af 3) aw))))) (aJ (bh (af 2))))))
def Qj:FS:=(cH (e2 c7 (fj [none,some 0] (bY (aj (e2 c7 (ai 0) (eI 1)) aC)) (f_ 0) mj (eK (aj (ai 1) (aj (ai 0) aC)))) (fj [none,some 0] (bY (aj (ai 0) aC)) (f_ 0) mj (eK (aj (ai 0) (aj (ai 1) aC))))))
def Cj:List W->List am->R W:=du 1 Qj
theorem Qk(F:iI K "pairs_with" "pairs_with" Me f fd)(B:Bl mg) :dG P w K mg base (iH P w) 1 f fd P3 (iL K mg 1 Cj):=
 cp (k:=0) F P4 rfl fun fL A outer s H E hr=>(aJ (bh (bp cA (jH (nm:=["other","newest"]) (cap:=[none,some 0]) (by first|rfl|kernel_rfl) rfl (dq B.range (ae (bp cA (af 0) aw) ao)) (fun _ _ _ _ _=>(sC 0)) (fun _ _ _ _ _=>jr) (fun _ _ _ _ _=>(dz (ae (af 1) (ae (af 0) ao))))) (jH (nm:=["other","newest"]) (cap:=[none,some 0]) (by first|rfl|kernel_rfl) rfl (dq B.range (ae (af 0) ao)) (fun _ _ _ _ _=>(sC 0)) (fun _ _ _ _ _=>jr) (fun _ _ _ _ _=>(dz (ae (af 0) (ae (af 1) ao))))))))
def Sv:FS:=(cH (e2 (qt false) (e2 bG (ai 0) (eI 0)) (eK (aj (eI 1) (aj (eI 3) aC)))))
def vC:List W->List am->R W:=du 1 Sv
theorem Ql(F:iI K "has_left" "has_left" Mf f fd)  :dG P w K mg base (iH P w) 1 f fd P5 (iL K mg 1 vC):=
 cp (k:=0) F P6 rfl fun fL A outer s H E hr=>(aJ (bh (kM (BX hr) (bv (af 0) aw) (dz (ae aw (ae aw ao))))))
def Sw:FS:=(cH (e2 (qt false) (e2 bG (ai 0) (eI 0)) (eK (aj (eI 2) (aj (eI 3) aC)))))
def vD:List W->List am->R W:=du 1 Sw
theorem Qm(F:iI K "has_right" "has_right" Mg f fd)  :dG P w K mg base (iH P w) 1 f fd P7 (iL K mg 1 vD):=
 cp (k:=0) F P8 rfl fun fL A outer s H E hr=>(aJ (bh (kM (BX hr) (bv (af 0) aw) (dz (ae aw (ae aw ao))))))
def Qn:FS:=(aS (bu 1 (i9 aC)) (aS (bu 2 (i9 aC)) (aS (gu (nT (aj (ai 0) aC)) (CO 2 (fq (f_ 3) (fq (f_ 4) mG))) (aS (bu 5 (HS (et (cC 1 vD (aj (ai 4) aC))) (kP mi (ai 2) aC) (eC .non))) (aS (bu 6 (HS (et (cC 1 vC (aj (ai 4) aC))) (kP mi (ai 2) aC) (eC .non))) (aS (dW (kP cb (ai 2) (aj (ai 3) aC))) (dW (kP cb (ai 1) (aj (eK (aj (ai 6) (aj (ai 5) aC))) aC))))))) (cH (bx d_ (aj (ai 1) aC))))))
def E0:List W->List am->R W:=du 7 Qn
theorem Qo(F:iI K "links_of" "links_of" Mh f fd)(B:Bl mg)(NT:bP P w K mg base 1 "has_left" 1 vC)(N0:bP P w K mg base 1 "has_right" 1 vD):dG P w K mg base (iH P w) 2 f fd P9 (iL K mg 1 E0):=
 cp (k:=1) F rK rfl fun fL A outer s H E hr=>(ar (sS 1 rK (gG ao)) (ar (sS 2 rK (gG ao)) (ar (dS (AO B.enumerate (ae (af 0) ao)) (lv rfl (dX (sG 3 rK) (dX (sG 4 rK) jq))) (ar (sS 5 rK (HU (gI (bS N0 hr (by omega) (ae (af 4) ao))) (pV PySem.F.slot_list_pop PySem.F.type_list_pop mJ (af 2)) wO)) (ar (sS 6 rK (HU (gI (bS NT hr (by omega) (ae (af 4) ao))) (pV PySem.F.slot_list_pop PySem.F.type_list_pop mJ (af 2)) wO)) (ar (dk (j3 PySem.F.slot_list_append PySem.F.type_list_append cR (af 2) (ae (af 3) ao))) (aJ (dk (j3 PySem.F.slot_list_append PySem.F.type_list_append cR (af 1) (ae (dz (ae (af 6) (ae (af 5) ao))) ao)))))))) (aJ (bh (cK eu B.tuple bV (ae (af 1) ao)))))))
def E1:FS:=(gs (et (e2 wf (ai 0) (eC iS))) (zj "TooGreat") b_)
def xK:List W->List am->R W:=du 1 E1
theorem Qp(F:iI K "check_size" "check_size" Mi f fd)(G:Gc K mg)(C:Oa K mg) :dG P w K mg base (iH P w) 1 f fd P_ (iL K mg 1 xK):=
 cp (k:=0) F P' rfl fun fL A outer s H E hr=>(aJ (cP (bT pc (af 0) (Sf G.MOST_PLACES)) (aJ (DP C.TooGreat)) bX))
def Qq:FS:=(aS (bu 3 (eI 0)) (aS (gs (et (e2 wf (bx dJ (aj (ai 0) aC)) (eI 0))) (bu 3 (e2 c7 (ai 3) (eI 1))) b_) (aS (gs (et (e2 wf (bx dJ (aj (ai 1) aC)) (eI 0))) (bu 3 (e2 c7 (ai 3) (eI 2))) b_) (cH (e2 c7 (e2 c7 (ai 0) (ai 1)) (eK (aj (eK (aj (ai 3) (aj (ai 2) aC))) aC)))))))
def E2:List W->List am->R W:=du 4 Qq
theorem Qr(F:iI K "with_top" "with_top" Mj f fd)(B:Bl mg) :dG P w K mg base (iH P w) 1 f fd Qa (iL K mg 3 E2):=
 cp (k:=0) F A3 rfl fun fL A outer s H E hr=>(ar (sS 3 A3 aw) (ar (cP (bT pc (bR dB B.len bL (ae (af 0) ao)) aw) (aJ (sS 3 A3 (bp cA (af 3) aw))) bX) (ar (cP (bT pc (bR dB B.len bL (ae (af 1) ao)) aw) (aJ (sS 3 A3 (bp cA (af 3) aw))) bX) (aJ (bh (bp cA (bp cA (af 0) (af 1)) (dz (ae (dz (ae (af 3) (ae (af 2) ao))) ao))))))))
def Qs:FS:=(aS (dW (cC 1 xK (aj (e2 c7 (e2 c7 (bx dJ (aj (ai 0) aC)) (bx dJ (aj (ai 1) aC))) (eI 1)) aC))) (cH (cC 3 E2 (aj (ai 0) (aj (ai 1) (aj (ai 2) aC))))))
def Ck:List W->List am->R W:=du 3 Qs
theorem Qt(F:iI K "joined" "joined" Ml f fd)(B:Bl mg)(CK:bP P w K mg base 1 "check_size" 1 xK)(NX:bP P w K mg base 1 "with_top" 3 E2):dG P w K mg base (iH P w) 2 f fd Qb (iL K mg 3 Ck):=
 cp (k:=1) F Qc rfl fun fL A outer s H E hr=>(ar (dk (bS CK hr (by omega) (ae (bp cA (bp cA (bR dB B.len bL (ae (af 0) ao)) (bR dB B.len bL (ae (af 1) ao))) aw) ao))) (aJ (bh (bS NX hr (by omega) (ae (af 0) (ae (af 1) (ae (af 2) ao)))))))
def Qu:FS:=(gu (eF (cC 1 Cj (aj (e2 qf (bx dJ (aj (ai 1) aC)) (eI 1)) aC))) (CO 2 (fq (f_ 4) (fq (f_ 5) mG))) (aS (bu 6 (e2 c7 (e2 c7 (e2 bG (e2 bG (ai 1) (ai 4)) (eI 1)) (e2 bG (e2 bG (ai 1) (ai 5)) (eI 1))) (eI 1))) (gu (nT (aj (e2 bG (ai 0) (eI 2)) aC)) (CO 2 (fq (f_ 7) (fq (f_ 8) mG))) (aS (bu 9 (e2 bG (e2 bG (ai 8) (e2 bG (e2 bG (ai 1) (ai 4)) (eI 0))) (e2 bG (e2 bG (ai 1) (ai 5)) (eI 0)))) (aS (bu 10 (eK (aj (ai 6) (aj (ai 4) (aj (ai 5) (aj (ai 7) aC)))))) (gs (LN (et (e2 (u0 true) (ai 9) (ai 2))) (we (et (e2 (u0 true) (ai 9) (ai 3))) (et (e2 B_ (ai 10) (e2 qk (ai 3) (ai 9)))))) (qh (ai 3) (ai 9) (ai 10) oE) b_))))))
def Cm:List W->List am->R W:=du 11 Qu
theorem Qv(F:iI K "put_ways" "put_ways" Mm f fd)(B:Bl mg)(NS:bP P w K mg base 1 "pairs_with" 1 Cj):dG P w K mg base (iH P w) 2 f fd Qd (iL K mg 4 Cm):=
 cp (k:=1) F pZ rfl fun fL A outer s H E hr=>(aJ (dS (gw (bS NS hr (by omega) (ae (bp nB (bR dB B.len bL (ae (af 1) ao)) aw) ao))) (lv rfl (dX (sG 4 pZ) (dX (sG 5 pZ) jq))) (ar (sS 6 pZ (bp cA (bp cA (bv (bv (af 1) (af 4)) aw) (bv (bv (af 1) (af 5)) aw)) aw)) (aJ (dS (AO B.enumerate (ae (bv (af 0) aw) ao)) (lv rfl (dX (sG 7 pZ) (dX (sG 8 pZ) jq))) (ar (sS 9 pZ (bv (bv (af 8) (bv (bv (af 1) (af 4)) aw)) (bv (bv (af 1) (af 5)) aw))) (ar (sS 10 pZ (dz (ae (af 6) (ae (af 4) (ae (af 5) (ae (af 7) ao)))))) (aJ (cP (wQ (LO (bT (xh hr (Jv hr)) (af 9) (af 2)) (HQ (wQ (nz (bT (xh hr (Jv hr)) (af 9) (af 3)) (nP (bT (PR hr) (af 10) (AT hr (af 3) (af 9))))))))) (aJ (nS (zm hr) (af 10) (af 3) (af 9))) bX)))))))))
theorem sT(p2 p3 p4:Pos):DZ "each" "best" ⟨[],[⟨"each",none,⟨68,36,68,40⟩⟩],none,[],[],none,[]⟩ (.Subscript (.Name "best" p2) (.Name "each" p3) p4) (D2 [("each",.local),("best",.free)]):=⟨rfl,rfl,rfl,by decide,rfl,rfl,fun _ _ _ _ _ _ _=>rfl,by decide,by decide,by decide⟩
def Kb:FS:=(aS (bu 1 (i9 (aj (eK (aj (eI 0) (aj (eI 0) (aj (eK aC) aC)))) aC))) (aS (bu 2 (rA (mL (eI 0) (eC (.bl true)) pX))) (aS (bu 3 DV) (aS (dW (cC 4 Cm (aj (ai 0) (aj (ai 1) (aj (ai 2) (aj (ai 3) aC)))))) (aS (mH (et (e2 wf (bx rq (aj (ai 3) aC)) (eI 0))) (aS (bu 4 (rB 3 1 109 ⟨68,29,68,52⟩ "firsts_of.<locals>.<lambda>")) (aS (bu 5 (AV (ai 3) (ai 4))) (aS (dW (kP cb (ai 1) (aj (eK (aj (ai 4) (aj (e2 bG (ai 5) (eI 0)) (aj (eK (aj (e2 bG (e2 bG (ai 1) (e2 bG (ai 5) (eI 1))) (eI 0)) (aj (e2 bG (e2 bG (ai 1) (e2 bG (ai 5) (eI 2))) (eI 0)) (aj (e2 bG (ai 5) (eI 3)) aC)))) aC)))) aC))) (aS (qh (ai 2) (ai 4) (eC (.bl true)) oE) (dW (cC 4 Cm (aj (ai 0) (aj (ai 1) (aj (ai 2) (aj (ai 3) aC))))))))))) (cH (bx d_ (aj (ai 1) aC))))))))
def t_:List W->List am->R W:=du 6 Kb
theorem My(F:iI K "firsts_of" "firsts_of" t9 f fd)(Tc:Su K fd 109)(Bk:xj base mg)(B:Bl mg)(Jf:bP P w K mg base 2 "put_ways" 4 Cm):dG P w K mg base (iH P w) 3 f fd JE (iL K mg 1 t_):=
 Tc.elim fun cT hT=>AN (k:=2) F pq rfl fun fL A outer s H E mW hr=>(ar (sS 1 pq (gG (ae (dz (ae aw (ae aw (ae (dz ao) ao)))) ao))) (ar (sS 2 pq (DX (AU aw nO DW))) (ar (sS 3 pq L4) (ar (dk (bS Jf hr (by omega) (ae (af 0) (ae (af 1) (ae (af 2) (ae (af 3) ao)))))) (ar (w6 (bT pc (bR L3 B.len bL (ae (af 3) ao)) aw) (ar (sS 4 pq (Iq (i:=3) (j:=1) hr (sT _ _ _) (mW.symm.trans hT.1) hT.2.1 hT.2.2 Bk B.min rfl)) (ar (sS 5 pq (L5 (af 3) (af 4))) (ar (dk (j3 PySem.F.slot_list_append PySem.F.type_list_append cR (af 1) (ae (dz (ae (af 4) (ae (bv (af 5) aw) (ae (dz (ae (bv (bv (af 1) (bv (af 5) aw)) aw) (ae (bv (bv (af 1) (bv (af 5) aw)) aw) (ae (bv (af 5) aw) ao)))) ao)))) ao))) (ar (nS (zm hr) nO (af 2) (af 4)) (aJ (dk (bS Jf hr (by omega) (ae (af 0) (ae (af 1) (ae (af 2) (ae (af 3) ao)))))))))))) (aJ (bh (cK eu B.tuple bV (ae (af 1) ao)))))))))
def Kc:FS:=(aS (bu 3 (rA (mL (eI 0) (eK aC) pX))) (aS (gu (eF (ai 1)) (f_ 4) (aS (gs (et (e2 wf (bx dJ (aj (e2 bG (ai 4) (eI 2)) aC)) (eI 0))) (aS (bu 5 (cC 2 Ci (aj (e2 bG (ai 0) (eI 0)) (aj (e2 bG (e2 bG (ai 4) (eI 2)) (eI 2)) aC)))) (qh (ai 3) (e2 bG (ai 4) (eI 0)) (cC 3 Ck (aj (e2 qk (ai 3) (e2 bG (e2 bG (ai 4) (eI 2)) (eI 0))) (aj (e2 qk (ai 3) (e2 bG (e2 bG (ai 4) (eI 2)) (eI 1))) (aj (ai 5) aC)))) oE)) b_) (gs (et (e2 jC (e2 bG (ai 4) (eI 0)) (ai 2))) uQ b_))) (cH (e2 qk (ai 3) (ai 2)))))
def xL:List W->List am->R W:=du 6 Kc
theorem Mz(F:iI K "built" "built" Ei f fd)(B:Bl mg)(NU:bP P w K mg base 2 "joined" 3 Ck)(NJ:bP P w K mg base 1 "marks_of" 2 Ci):dG P w K mg base (iH P w) 3 f fd JF (iL K mg 3 xL):=
 cp (k:=2) F vg rfl fun fL A outer s H E hr=>(ar (sS 3 vg (DX (AU aw (dz ao) DW))) (ar (dS (gw (af 1)) (sG 4 vg) (ar (cP (bT pc (bR dB B.len bL (ae (bv (af 4) aw) ao)) aw) (ar (sS 5 vg (bS NJ hr (by omega) (ae (bv (af 0) aw) (ae (bv (bv (af 4) aw) aw) ao)))) (aJ (nS (zm hr) (bS NU hr (by omega) (ae (AT hr (af 3) (bv (bv (af 4) aw) aw)) (ae (AT hr (af 3) (bv (bv (af 4) aw) aw)) (ae (af 5) ao)))) (af 3) (bv (af 4) aw)))) bX) (aJ (cP (bT (ig hr) (bv (af 4) aw) (af 2)) (aJ DI) bX)))) (aJ (bh (AT hr (af 3) (af 2))))))
def E3:FS:=(aS (dW (cC 1 xK (aj (e2 bG (ai 2) (eI 1)) aC))) (cH (cC 3 xL (aj (ai 0) (aj (ai 1) (aj (e2 bG (ai 2) (eI 0)) aC))))))
def ua:List W->List am->R W:=du 3 E3
theorem MA(F:iI K "told_tree" "told_tree" Ej f fd) (GI:bP P w K mg base 3 "built" 3 xL)(CK:bP P w K mg base 1 "check_size" 1 xK):dG P w K mg base (iH P w) 4 f fd JG (iL K mg 3 ua):=
 cp (k:=3) F Mn rfl fun fL A outer s H E hr=>(ar (dk (bS CK hr (by omega) (ae (bv (af 2) aw) ao))) (aJ (bh (bS GI hr (by omega) (ae (af 0) (ae (af 1) (ae (bv (af 2) aw) ao)))))))
def E4:FS:=(aS (bu 2 (cC 1 t_ (aj (ai 0) aC))) (aS (gu (eF (ai 2)) (f_ 3) (gs (et (e2 jC (e2 bG (ai 3) (eI 0)) (ai 1))) (cH (cC 3 ua (aj (ai 0) (aj (ai 2) (aj (ai 3) aC))))) b_)) (cH (eC .non))))
def ub:List W->List am->R W:=du 4 E4
theorem MB(F:iI K "first_tree" "first_tree" Ek f fd) (GL:bP P w K mg base 3 "firsts_of" 1 t_)(Gq:bP P w K mg base 4 "told_tree" 3 ua):dG P w K mg base (iH P w) 5 f fd JH (iL K mg 2 ub):=
 cp (k:=4) F zB rfl fun fL A outer s H E hr=>(ar (sS 2 zB (bS GL hr (by omega) (ae (af 0) ao))) (ar (dS (gw (af 2)) (sG 3 zB) (aJ (cP (bT (ig hr) (bv (af 3) aw) (af 1)) (aJ (bh (bS Gq hr (by omega) (ae (af 0) (ae (af 2) (ae (af 3) ao)))))) bX))) (aJ (bh wO))))
def Qw:FS:=(cH (HS (et (wR (ai 1))) (eI 0) (e2 bG (ai 0) (ai 1))))
def uc:List W->List am->R W:=du 2 Qw
theorem MC(F:iI K "room_below" "room_below" El f fd)  :dG P w K mg base (iH P w) 1 f fd JI (iL K mg 2 uc):=
 cp (k:=0) F Mo rfl fun fL A outer s H E hr=>(aJ (bh (HU (Dv (af 1)) aw (bv (af 0) (af 1)))))
def Qx:FS:=(aS (bu 4 (e2 bG (e2 bG (ai 0) (eI 2)) (cC 2 EZ (aj (e2 bG (ai 0) (eI 0)) (aj (ai 1) aC))))) (cH (e2 bG (e2 bG (ai 4) (cC 2 uc (aj (ai 3) (aj (e2 bG (ai 2) (eI 0)) aC)))) (cC 2 uc (aj (ai 3) (aj (e2 bG (ai 2) (eI 1)) aC))))))
def xM:List W->List am->R W:=du 5 Qx
theorem MD(F:iI K "room_at" "room_at" Em f fd) (NQ:bP P w K mg base 1 "letter_of" 2 EZ)(Bf:bP P w K mg base 1 "room_below" 2 uc):dG P w K mg base (iH P w) 2 f fd JJ (iL K mg 4 xM):=
 cp (k:=1) F En rfl fun fL A outer s H E hr=>(ar (sS 4 En (bv (bv (af 0) aw) (bS NQ hr (by omega) (ae (bv (af 0) aw) (ae (af 1) ao))))) (aJ (bh (bv (bv (af 4) (bS Bf hr (by omega) (ae (af 3) (ae (bv (af 2) aw) ao)))) (bS Bf hr (by omega) (ae (af 3) (ae (bv (af 2) aw) ao)))))))
def Kd:FS:=(aS (bu 2 (i9 aC)) (aS (gu (uX (aj (ai 1) (aj (cC 1 E0 (aj (ai 1) aC)) aC))) (CO 2 (fq (f_ 3) (fq (f_ 4) mG))) (dW (kP cb (ai 2) (aj (cC 4 xM (aj (ai 0) (aj (e2 bG (ai 3) (eI 1)) (aj (ai 4) (aj (ai 2) aC))))) aC)))) (cH (bx d_ (aj (ai 2) aC)))))
def oK:List W->List am->R W:=du 5 Kd
theorem ME(F:iI K "rooms_of" "rooms_of" Eo f fd)(B:Bl mg)(NI:bP P w K mg base 2 "links_of" 1 E0)(Gs:bP P w K mg base 2 "room_at" 4 xM):dG P w K mg base (iH P w) 3 f fd JK (iL K mg 2 oK):=
 cp (k:=2) F vj rfl fun fL A outer s H E hr=>(ar (sS 2 vj (gG ao)) (ar (dS (Ip B.zip (ae (af 1) (ae (bS NI hr (by omega) (ae (af 1) ao)) ao))) (lv rfl (dX (sG 3 vj) (dX (sG 4 vj) jq))) (aJ (dk (j3 PySem.F.slot_list_append PySem.F.type_list_append cR (af 2) (ae (bS Gs hr (by omega) (ae (af 0) (ae (bv (af 3) aw) (ae (af 4) (ae (af 2) ao))))) ao))))) (aJ (bh (cK eu B.tuple bV (ae (af 2) ao))))))
def Qy:FS:=(cH (HS (et (e2 wf (bx dJ (aj (ai 1) aC)) (eI 0))) (e2 bG (cC 2 oK (aj (ai 0) (aj (ai 1) aC))) (uT (eI 1))) (eI 0)))
def xN:List W->List am->R W:=du 2 Qy
theorem MF(F:iI K "room_of" "room_of" Ep f fd)(B:Bl mg)(ux:bP P w K mg base 3 "rooms_of" 2 oK):dG P w K mg base (iH P w) 4 f fd JL (iL K mg 2 xN):=
 cp (k:=3) F Mp rfl fun fL A outer s H E hr=>(aJ (bh (HU (bT pc (bR dB B.len bL (ae (af 1) ao)) aw) (bv (bS ux hr (by omega) (ae (af 0) (ae (af 1) ao))) (w_ aw)) aw)))
def Qz:FS:=(cH (e2 bG (e2 bG (ai 0) (eI 1)) (cC 2 xN (aj (ai 0) (aj (ai 1) aC)))))
def rP:List W->List am->R W:=du 2 Qz
theorem MG(F:iI K "lets_by" "lets_by" Er f fd) (GN:bP P w K mg base 4 "room_of" 2 xN):dG P w K mg base (iH P w) 5 f fd JM (iL K mg 2 rP):=
 cp (k:=4) F Mq rfl fun fL A outer s H E hr=>(aJ (bh (bv (bv (af 0) aw) (bS GN hr (by omega) (ae (af 0) (ae (af 1) ao))))))
def Ke:FS:=(aS (bu 2 (eI 0)) (aS (gu (eF (ai 0)) (f_ 3) (bu 2 (e2 c7 (e2 gN (eI 2) (ai 2)) (bx wY (aj (e2 (qt false) (ai 3) (ai 1)) aC))))) (cH (ai 2))))
def rQ:List W->List am->R W:=du 4 Ke
theorem MH(F:iI K "_law_letter" "_law_letter" Es f fd)(B:Bl mg) :dG P w K mg base (iH P w) 1 f fd JN (iL K mg 2 rQ):=
 cp (k:=0) F vk rfl fun fL A outer s H E hr=>(ar (sS 2 vk aw) (ar (dS (gw (af 0)) (sG 3 vk) (aJ (sS 2 vk (bp cA (bp gJ aw (af 2)) (cK DH B.int lc (ae (kM (BX hr) (af 3) (af 1)) ao)))))) (aJ (bh (af 2)))))
def Kf:FS:=(aS (bu 2 (i9 aC)) (aS (bu 3 (i9 aC)) (aS (gu (eF (ai 1)) (CO 2 (fq (f_ 4) (fq (f_ 5) mG))) (aS (bu 6 (eI 0)) (aS (bu 7 (eI 0)) (aS (gs (et (e2 Ju (ai 4) (eI 2))) (bu 7 (kP mi (ai 2) aC)) b_) (aS (gs (et (e2 jC (e2 eh (ai 4) (eI 2)) (eI 1))) (bu 6 (kP mi (ai 2) aC)) b_) (aS (dW (kP cb (ai 2) (aj (e2 bG (e2 bG (e2 bG (e2 bG (ai 0) (eI 2)) (cC 2 rQ (aj (e2 bG (ai 0) (eI 0)) (aj (ai 5) aC)))) (ai 6)) (ai 7)) aC))) (dW (kP cb (ai 3) (aj (e2 bG (ai 2) (uT (eI 1))) aC))))))))) (cH (ai 3)))))
def xO:List W->List am->R W:=du 8 Kf
theorem MI(F:iI K "_law_run" "_law_run" Et f fd) (uy:bP P w K mg base 1 "_law_letter" 2 rQ):dG P w K mg base (iH P w) 2 f fd JO (iL K mg 2 xO):=
 cp (k:=1) F lx rfl fun fL A outer s H E hr=>(ar (sS 2 lx (gG ao)) (ar (sS 3 lx (gG ao)) (ar (dS (gw (af 1)) (lv rfl (dX (sG 4 lx) (dX (sG 5 lx) jq))) (ar (sS 6 lx aw) (ar (sS 7 lx aw) (ar (cP (bT DB (af 4) aw) (aJ (sS 7 lx (pV PySem.F.slot_list_pop PySem.F.type_list_pop mJ (af 2)))) bX) (ar (cP (bT (ig hr) (bp dH (af 4) aw) aw) (aJ (sS 6 lx (pV PySem.F.slot_list_pop PySem.F.type_list_pop mJ (af 2)))) bX) (ar (dk (j3 PySem.F.slot_list_append PySem.F.type_list_append cR (af 2) (ae (bv (bv (bv (bv (af 0) aw) (bS uy hr (by omega) (ae (bv (af 0) aw) (ae (af 5) ao)))) (af 6)) (af 7)) ao))) (aJ (dk (j3 PySem.F.slot_list_append PySem.F.type_list_append cR (af 3) (ae (bv (af 2) (w_ aw)) ao)))))))))) (aJ (bh (af 3))))))
def QB:FS:=(aS (bu 3 (e2 eh (e2 gN (e2 c7 (e2 c7 (e2 c7 (ai 0) (e2 gN (e2 gN (eI 7) (ai 1)) (ai 1))) (e2 gN (eI 13) (ai 1))) (ai 2)) (eI 69621)) (eI 2147483647))) (cH (e2 eh (e2 gN (e2 eh (e2 c7 (e2 c7 (e2 gN (ai 3) (e2 c7 (e2 nA (ai 3) (eI 1009)) (eI 3))) (e2 gN (eI 31) (ai 1))) (ai 2)) (eI 2147483629)) (eI 48271)) (eI 1000000007))))
def ud:List W->List am->R W:=du 4 QB
theorem MJ(F:iI K "_law_mixed" "_law_mixed" Eu f fd)  :dG P w K mg base (iH P w) 1 f fd JP (iL K mg 3 ud):=
 cp (k:=0) F Ev rfl fun fL A outer s H E hr=>(ar (sS 3 Ev (bp dH (bp gJ (bp cA (bp cA (bp cA (af 0) (bp gJ (bp gJ aw (af 1)) (af 1))) (bp gJ aw (af 1))) (af 2)) aw) aw)) (aJ (bh (bp dH (bp gJ (bp dH (bp cA (bp cA (bp gJ (af 3) (bp cA (bp nR (af 3) aw) aw)) (bp gJ aw (af 1))) (af 2)) aw) aw) aw))))
def Kg:FS:=(aS (bu 3 (i9 aC)) (aS (bu 4 (eI 0)) (aS (gs (et (e2 Ju (ai 0) (e2 Pt (eI 10) (eI 18)))) (bu 4 (ai 0)) b_) (aS (gu (bY (aj (ai 1) aC)) (f_ 5) (gs (et (e2 wf (ai 4) (eI 0))) (aS (dW (kP cb (ai 3) (aj (e2 eh (ai 4) (eI 64)) aC))) (bu 4 (e2 nA (ai 4) (eI 64)))) (dW (kP cb (ai 3) (aj (cC 3 ud (aj (ai 0) (aj (ai 5) (aj (ai 2) aC)))) aC))))) (cH (ai 3))))))
def ji:List W->List am->R W:=du 6 Kg
theorem MK(F:iI K "_law_draws" "_law_draws" Ew f fd)(B:Bl mg)(GM:bP P w K mg base 1 "_law_mixed" 3 ud):dG P w K mg base (iH P w) 2 f fd JQ (iL K mg 3 ji):=
 cp (k:=1) F pw rfl fun fL A outer s H E hr=>(ar (sS 3 pw (gG ao)) (ar (sS 4 pw aw) (ar (cP (bT DB (af 0) (bp Pv aw aw)) (aJ (sS 4 pw (af 0))) bX) (ar (dS (dq B.range (ae (af 1) ao)) (sG 5 pw) (aJ (cP (bT pc (af 4) aw) (ar (dk (j3 PySem.F.slot_list_append PySem.F.type_list_append cR (af 3) (ae (bp dH (af 4) aw) ao))) (aJ (sS 4 pw (bp nR (af 4) aw)))) (aJ (dk (j3 PySem.F.slot_list_append PySem.F.type_list_append cR (af 3) (ae (bS GM hr (by omega) (ae (af 0) (ae (af 5) (ae (af 2) ao)))) ao))))))) (aJ (bh (af 3)))))))
def Kh:FS:=(aS (bu 3 (eC (.str [65,66,67,68,69,70,71,72,73,74,75,76,77,78,79,80,81,82,83,84,85,86,87,88,89,90,97,98,99,100,101,102,103,104,105,106,107,108,109,110,111,112,113,114,115,116,117,118,119,120,121,122]))) (aS (bu 4 (eC (.str []))) (aS (gu (eF (cC 3 ji (aj (ai 0) (aj (ai 1) (aj (ai 2) aC))))) (f_ 5) (aS (bu 6 (e2 eh (ai 5) (bx dJ (aj (ai 3) aC)))) (aS (bu 4 (e2 c7 (ai 4) (e2 bG (ai 3) (ai 6)))) (bu 3 (e2 c7 (DF (ai 3) tO (jG (ai 6))) (DF (ai 3) (jG (e2 c7 (ai 6) (eI 1))) tO)))))) (cH (ai 4)))))
def xP:List W->List am->R W:=du 7 Kh
theorem ML(F:iI K "_law_pool" "_law_pool" Ex f fd)(B:Bl mg)(jk:bP P w K mg base 2 "_law_draws" 3 ji):dG P w K mg base (iH P w) 3 f fd JR (iL K mg 3 xP):=
 cp (k:=2) F nY rfl fun fL A outer s H E hr=>(ar (sS 3 nY qW) (ar (sS 4 nY qW) (ar (dS (gw (bS jk hr (by omega) (ae (af 0) (ae (af 1) (ae (af 2) ao))))) (sG 5 nY) (ar (sS 6 nY (bp dH (af 5) (bR dB B.len bL (ae (af 3) ao)))) (ar (sS 4 nY (bp cA (af 4) (bv (af 3) (af 6)))) (aJ (sS 3 nY (bp cA (wX (af 3) qu (gU (af 6))) (wX (af 3) (gU (bp cA (af 6) aw)) qu))))))) (aJ (bh (af 4))))))
def QC:FS:=(aS (gs (et (e2 jC (bx dJ (aj (ai 0) aC)) (eI 0))) (cH (eI 0)) b_) (cH (e2 bG (ai 0) (e2 eh (ai 1) (bx dJ (aj (ai 0) aC))))))
def kR:List W->List am->R W:=du 2 QC
theorem MM(F:iI K "_law_cell" "_law_cell" Ey f fd)(B:Bl mg) :dG P w K mg base (iH P w) 1 f fd JS (iL K mg 2 kR):=
 cp (k:=0) F Mr rfl fun fL A outer s H E hr=>(ar (cP (bT (ig hr) (bR dB B.len bL (ae (af 0) ao)) aw) (aJ (bh aw)) bX) (aJ (bh (bv (af 0) (bp dH (af 1) (bR dB B.len bL (ae (af 0) ao)))))))
def Ki:FS:=(aS (bu 1 (eK (aj (eK (aj (eI 0) (aj (eI 1) aC))) (aj (eK (aj (eI 0) (aj (eI 5) aC))) (aj (eK (aj (eI 0) (aj (eI 9) aC))) (aj (eK (aj (eI 1) (aj (eI 2) aC))) (aj (eK (aj (eI 1) (aj (eI 4) aC))) (aj (eK (aj (eI 1) (aj (eI 6) aC))) (aj (eK (aj (eI 2) (aj (eI 1) aC))) (aj (eK (aj (eI 2) (aj (eI 3) aC))) (aj (eK (aj (eI 2) (aj (eI 5) aC))) (aj (eK (aj (eI 3) (aj (eI 2) aC))) (aj (eK (aj (eI 3) (aj (eI 4) aC))) (aj (eK (aj (eI 5) (aj (eI 2) aC))) aC)))))))))))))) (cH (e2 bG (ai 1) (e2 eh (ai 0) (eI 12)))))
def xQ:List W->List am->R W:=du 2 Ki
theorem MN(F:iI K "_law_shape" "_law_shape" Ez f fd)  :dG P w K mg base (iH P w) 1 f fd JT (iL K mg 1 xQ):=
 cp (k:=0) F EA rfl fun fL A outer s H E hr=>(ar (sS 1 EA (dz (ae (dz (ae aw (ae aw ao))) (ae (dz (ae aw (ae aw ao))) (ae (dz (ae aw (ae aw ao))) (ae (dz (ae aw (ae aw ao))) (ae (dz (ae aw (ae aw ao))) (ae (dz (ae aw (ae aw ao))) (ae (dz (ae aw (ae aw ao))) (ae (dz (ae aw (ae aw ao))) (ae (dz (ae aw (ae aw ao))) (ae (dz (ae aw (ae aw ao))) (ae (dz (ae aw (ae aw ao))) (ae (dz (ae aw (ae aw ao))) ao)))))))))))))) (aJ (bh (bv (af 1) (bp dH (af 0) aw)))))
def Kj:FS:=(cH (GT l8 (eC (.str [])) (aj (bx nU (aj (fj [none,some 0] (bY (aj (ai 1) aC)) (f_ 0) mj (e2 bG (ai 1) (ai 0))) aC)) aC)))
def xR:List W->List am->R W:=du 2 Kj
theorem MO(F:iI K "_law_names" "_law_names" EB f fd)(B:Bl mg) :dG P w K mg base (iH P w) 1 f fd JU (iL K mg 2 xR):=
 cp (k:=0) F Ms rfl fun fL A outer s H E hr=>(aJ (bh (HX PySem.F.slot_str_join PySem.F.type_str_join qv qW (ae (bR AR B.sorted boot_sorted (ae (jH (nm:=["_law_k","_law_pool_here"]) (cap:=[none,some 0]) (by first|rfl|kernel_rfl) rfl (dq B.range (ae (af 1) ao)) (fun _ _ _ _ _=>(sC 0)) (fun _ _ _ _ _=>jr) (fun _ _ _ _ _=>(bv (af 1) (af 0)))) ao)) ao))))
def Kk:FS:=(aS (bu 4 (i9 aC)) (aS (gu (uW (aj (eI 0) (aj (ai 2) (aj (eI 50) aC)))) (f_ 5) (bu 4 (e2 c7 (ai 4) (cC 3 ji (aj (cC 2 kR (aj (ai 0) (aj (e2 c7 (ai 1) (e2 nA (ai 5) (eI 50))) aC))) (aj (bx zb (aj (eI 50) (aj (e2 qf (ai 2) (ai 5)) aC))) (aj (e2 c7 (ai 3) (e2 gN (eI 1009) (ai 5))) aC))))))) (cH (ai 4))))
def rR:List W->List am->R W:=du 6 Kk
theorem MP(F:iI K "_law_blocks" "_law_blocks" EC f fd)(B:Bl mg)(km:bP P w K mg base 1 "_law_cell" 2 kR)(jk:bP P w K mg base 2 "_law_draws" 3 ji):dG P w K mg base (iH P w) 3 f fd JV (iL K mg 4 rR):=
 cp (k:=2) F vq rfl fun fL A outer s H E hr=>(ar (sS 4 vq (gG ao)) (ar (dS (Ie B.range (ae aw (ae (af 2) (ae aw ao)))) (sG 5 vq) (aJ (sS 4 vq (bp cA (af 4) (bS jk hr (by omega) (ae (bS km hr (by omega) (ae (af 0) (ae (bp cA (af 1) (bp nR (af 5) aw)) ao))) (ae (bR Jw B.min boot_min (ae aw (ae (bp nB (af 2) (af 5)) ao))) (ae (bp cA (af 3) (bp gJ aw (af 5))) ao)))))))) (aJ (bh (af 4)))))
def QD:FS:=(aS (gs (et (e2 jC (ai 0) (eI 0))) (cH (e2 c7 (ai 1) (ai 2))) b_) (aS (gs (et (e2 jC (ai 0) (eI 1))) (cH (bx DG (aj (ai 1) (aj (ai 2) aC)))) b_) (aS (gs (et (e2 jC (ai 0) (eI 2))) (cH (ai 1)) b_) (cH (ai 2)))))
def ue:List W->List am->R W:=du 3 QD
theorem MQ(F:iI K "_law_grown" "_law_grown" ED f fd)(B:Bl mg) :dG P w K mg base (iH P w) 1 f fd JW (iL K mg 3 ue):=
 cp (k:=0) F Mt rfl fun fL A outer s H E hr=>(ar (cP (bT (ig hr) (af 0) aw) (aJ (bh (bp cA (af 1) (af 2)))) bX) (ar (cP (bT (ig hr) (af 0) aw) (aJ (bh (bR Pz B.max boot_max (ae (af 1) (ae (af 2) ao))))) bX) (ar (cP (bT (ig hr) (af 0) aw) (aJ (bh (af 1))) bX) (aJ (bh (af 2))))))
def Kl:FS:=(aS (bu 3 (i9 aC)) (aS (gu (bY (aj (e2 wT (eI 1) (bx dJ (aj (ai 0) aC))) aC)) (f_ 4) (aS (bu 5 (e2 c7 (e2 eh (ai 4) (eI 2)) (e2 eh (e2 bG (ai 2) (eI 1)) (eI 2)))) (aS (gs (et (e2 jC (bx dJ (aj (ai 0) aC)) (eI 0))) (bu 5 (eI 1)) b_) (aS (bu 6 (i9 aC)) (aS (gu (bY (aj (ai 1) aC)) (f_ 7) (dW (kP cb (ai 6) (aj (bx d_ (aj (fj [none,some 1,some 5,some 7,some 2] (bY (aj (ai 1) aC)) (f_ 0) mj (bx zb (aj (e2 qf (ai 1) (eI 1)) (aj (e2 c7 (cC 3 ue (aj (e2 eh (e2 bG (ai 4) (eI 0)) (eI 4)) (aj (ai 3) (aj (ai 0) aC)))) (ai 2)) aC)))) aC)) aC)))) (dW (kP cb (ai 3) (aj (bx d_ (aj (ai 6) aC)) aC)))))))) (aS (bu 8 (e2 qf (ai 1) (eI 1))) (aS (gs (et (e2 jC (e2 eh (e2 bG (ai 2) (eI 2)) (eI 2)) (eI 1))) (bu 8 (e2 eh (e2 bG (ai 2) (eI 3)) (ai 1))) b_) (cH (eK (aj (ai 0) (aj (bx d_ (aj (fj [none,some 8] (bY (aj (ai 1) aC)) (f_ 0) mj (e2 jC (ai 0) (ai 1))) aC)) (aj (bx d_ (aj (ai 3) aC)) aC)))))))))
def xS:List W->List am->R W:=du 9 Kl
theorem MR(F:iI K "_law_graded" "_law_graded" EE f fd)(B:Bl mg)(Gw:bP P w K mg base 1 "_law_grown" 3 ue):dG P w K mg base (iH P w) 2 f fd JX (iL K mg 3 xS):=
 cp (k:=1) F ly rfl fun fL A outer s H E hr=>(ar (sS 3 ly (gG ao)) (ar (dS (dq B.range (ae (bp Dz aw (bR dB B.len bL (ae (af 0) ao))) ao)) (sG 4 ly) (ar (sS 5 ly (bp cA (bp dH (af 4) aw) (bp dH (bv (af 2) aw) aw))) (ar (cP (bT (ig hr) (bR dB B.len bL (ae (af 0) ao)) aw) (aJ (sS 5 ly aw)) bX) (ar (sS 6 ly (gG ao)) (ar (dS (dq B.range (ae (af 1) ao)) (sG 7 ly) (aJ (dk (j3 PySem.F.slot_list_append PySem.F.type_list_append cR (af 6) (ae (cK eu B.tuple bV (ae (jH (nm:=["_law_r","_law_many","_law_more","_law_l","_law_draws_here"]) (cap:=[none,some 1,some 5,some 7,some 2]) (by first|rfl|kernel_rfl) rfl (dq B.range (ae (af 1) ao)) (fun _ _ _ _ _=>(sC 0)) (fun _ _ _ _ _=>jr) (fun _ _ _ _ _=>(bR Jw B.min boot_min (ae (bp nB (af 1) aw) (ae (bp cA (bS Gw hr (by omega) (ae (bp dH (bv (af 4) aw) aw) (ae (af 3) (ae (af 0) ao)))) (af 2)) ao))))) ao)) ao))))) (aJ (dk (j3 PySem.F.slot_list_append PySem.F.type_list_append cR (af 3) (ae (cK eu B.tuple bV (ae (af 6) ao)) ao))))))))) (ar (sS 8 ly (bp nB (af 1) aw)) (ar (cP (bT (ig hr) (bp dH (bv (af 2) aw) aw) aw) (aJ (sS 8 ly (bp dH (bv (af 2) aw) (af 1)))) bX) (aJ (bh (dz (ae (af 0) (ae (cK eu B.tuple bV (ae (jH (nm:=["_law_room_here","_law_only"]) (cap:=[none,some 8]) (by first|rfl|kernel_rfl) rfl (dq B.range (ae (af 1) ao)) (fun _ _ _ _ _=>(sC 0)) (fun _ _ _ _ _=>jr) (fun _ _ _ _ _=>(kM (ig hr) (af 0) (af 1)))) ao)) (ae (cK eu B.tuple bV (ae (af 3) ao)) ao))))))))))
def Km:FS:=(aS (bu 2 (bx dJ (aj (e2 bG (ai 0) (eI 1)) aC))) (aS (bu 3 (bx qZ (aj (e2 bG (ai 0) (eI 2)) aC))) (aS (bu 4 (e2 eh (e2 bG (ai 1) (eI 0)) (bx dJ (aj (ai 3) aC)))) (aS (bu 5 (bx qZ (aj (e2 bG (ai 3) (ai 4)) aC))) (aS (bu 6 (bx qZ (aj (e2 bG (ai 5) (e2 eh (e2 bG (ai 1) (eI 1)) (ai 2))) aC))) (aS (qh (ai 6) (e2 eh (e2 bG (ai 1) (eI 2)) (ai 2)) (e2 eh (e2 bG (ai 1) (eI 3)) (ai 2)) ou) (aS (qh (ai 5) (e2 eh (e2 bG (ai 1) (eI 1)) (ai 2)) (bx d_ (aj (ai 6) aC)) ou) (aS (qh (ai 3) (ai 4) (bx d_ (aj (ai 5) aC)) ou) (cH (eK (aj (e2 bG (ai 0) (eI 0)) (aj (e2 bG (ai 0) (eI 1)) (aj (bx d_ (aj (ai 3) aC)) aC)))))))))))))
def xU:List W->List am->R W:=du 7 Km
theorem MS(F:iI K "_law_spotted" "_law_spotted" EF f fd)(B:Bl mg) :dG P w K mg base (iH P w) 1 f fd JY (iL K mg 2 xU):=
 cp (k:=0) F py rfl fun fL A outer s H E hr=>(ar (sS 2 py (bR dB B.len bL (ae (bv (af 0) aw) ao))) (ar (sS 3 py (cK zc B.list pK (ae (bv (af 0) aw) ao))) (ar (sS 4 py (bp dH (bv (af 1) aw) (bR dB B.len bL (ae (af 3) ao)))) (ar (sS 5 py (cK zc B.list pK (ae (bv (af 3) (af 4)) ao))) (ar (sS 6 py (cK zc B.list pK (ae (bv (af 5) (bp dH (bv (af 1) aw) (af 2))) ao))) (ar (nS uR (bp dH (bv (af 1) aw) (af 2)) (af 6) (bp dH (bv (af 1) aw) (af 2))) (ar (nS uR (cK eu B.tuple bV (ae (af 6) ao)) (af 5) (bp dH (bv (af 1) aw) (af 2))) (ar (nS uR (cK eu B.tuple bV (ae (af 5) ao)) (af 3) (af 4)) (aJ (bh (dz (ae (bv (af 0) aw) (ae (bv (af 0) aw) (ae (cK eu B.tuple bV (ae (af 3) ao)) ao))))))))))))))
def Kn:FS:=(aS (bu 3 (bx dJ (aj (ai 1) aC))) (aS (bu 4 (eI 0)) (aS (bu 5 (i9 aC)) (aS (gu (eF (e2 bG (ai 0) (eI 2))) (f_ 6) (aS (bu 7 (i9 aC)) (aS (gu (bY (aj (ai 3) aC)) (f_ 8) (aS (bu 9 (i9 aC)) (aS (gu (bY (aj (ai 3) aC)) (f_ 10) (aS (bu 11 (e2 bG (e2 bG (ai 6) (e2 bG (ai 1) (ai 8))) (e2 bG (ai 1) (ai 10)))) (aS (zd (fj [none,some 11,some 1] (bY (aj (ai 3) aC)) (f_ 0) (et (e2 jC (e2 bG (ai 2) (ai 0)) (ai 1))) (ai 0)) (f_ 12)) (aS (dW (kP cb (ai 9) (aj (e2 bG (ai 12) (e2 eh (e2 bG (ai 2) (e2 eh (ai 4) (bx dJ (aj (ai 2) aC)))) (bx dJ (aj (ai 12) aC)))) aC))) (bu 4 (e2 c7 (ai 4) (eI 1))))))) (dW (kP cb (ai 7) (aj (bx d_ (aj (ai 9) aC)) aC)))))) (dW (kP cb (ai 5) (aj (bx d_ (aj (ai 7) aC)) aC)))))) (cH (eK (aj (e2 bG (ai 0) (eI 0)) (aj (bx d_ (aj (fj [none,some 0] (eF (ai 1)) (f_ 0) mj (e2 bG (e2 bG (ai 1) (eI 1)) (ai 0))) aC)) (aj (bx d_ (aj (ai 5) aC)) aC)))))))))
def xV:List W->List am->R W:=du 13 Kn
theorem MU(F:iI K "_law_blown" "_law_blown" EG f fd)(B:Bl mg) :dG P w K mg base (iH P w) 1 f fd JZ (iL K mg 3 xV):=
 cp (k:=0) F ja rfl fun fL A outer s H E hr=>(ar (sS 3 ja (bR dB B.len bL (ae (af 1) ao))) (ar (sS 4 ja aw) (ar (sS 5 ja (gG ao)) (ar (dS (gw (bv (af 0) aw)) (sG 6 ja) (ar (sS 7 ja (gG ao)) (ar (dS (dq B.range (ae (af 3) ao)) (sG 8 ja) (ar (sS 9 ja (gG ao)) (ar (dS (dq B.range (ae (af 3) ao)) (sG 10 ja) (ar (sS 11 ja (bv (bv (af 6) (bv (af 1) (af 8))) (bv (af 1) (af 10)))) (ar (zh (sG 12 ja) (nm:=["_law_z","_law_due","_law_owner_here"]) (cap:=[none,some 11,some 1]) (by first|rfl|kernel_rfl) rfl (dq B.range (ae (af 3) ao)) (fun _ _ _ _ _=>(sC 0)) (fun _ _ _ _ _=>(qw (bT (ig hr) (bv (af 2) (af 0)) (af 1)))) (fun _ _ _ _ _=>(af 0))) (ar (dk (j3 PySem.F.slot_list_append PySem.F.type_list_append cR (af 9) (ae (bv (af 12) (bp dH (bv (af 2) (bp dH (af 4) (bR dB B.len bL (ae (af 2) ao)))) (bR dB B.len bL (ae (af 12) ao)))) ao))) (aJ (sS 4 ja (bp cA (af 4) aw))))))) (aJ (dk (j3 PySem.F.slot_list_append PySem.F.type_list_append cR (af 7) (ae (cK eu B.tuple bV (ae (af 9) ao)) ao))))))) (aJ (dk (j3 PySem.F.slot_list_append PySem.F.type_list_append cR (af 5) (ae (cK eu B.tuple bV (ae (af 7) ao)) ao))))))) (aJ (bh (dz (ae (bv (af 0) aw) (ae (cK eu B.tuple bV (ae (jH (nm:=["_law_room_here","_law_machine_here"]) (cap:=[none,some 0]) (by first|rfl|kernel_rfl) rfl (gw (af 1)) (fun _ _ _ _ _=>(sC 0)) (fun _ _ _ _ _=>jr) (fun _ _ _ _ _=>(bv (bv (af 1) aw) (af 0)))) ao)) (ae (cK eu B.tuple bV (ae (af 5) ao)) ao))))))))))
def Ko:FS:=(aS (bu 3 (i9 (aj (eI 0) aC))) (aS (gu (oA (aj (eI 1) (aj (e2 c7 (ai 0) (ai 1)) aC))) (f_ 4) (aS (bu 5 (ai 4)) (aS (gs (et (e2 Ju (ai 4) (ai 0))) (bu 5 (e2 eh (e2 bG (ai 2) (e2 c7 (e2 gN (eI 2) (ai 4)) (eI 1))) (ai 0))) b_) (dW (kP m8 (ai 3) (aj (e2 c7 (eI 1) (e2 eh (e2 bG (ai 2) (e2 gN (eI 2) (ai 4))) (bx dJ (aj (ai 3) aC)))) (aj (ai 5) aC))))))) (cH (ai 3))))
def xW:List W->List am->R W:=du 6 Ko
theorem MV(F:iI K "_law_owner" "_law_owner" EH f fd)(B:Bl mg) :dG P w K mg base (iH P w) 1 f fd J0 (iL K mg 3 xW):=
 cp (k:=0) F rM rfl fun fL A outer s H E hr=>(ar (sS 3 rM (gG (ae aw ao))) (ar (dS (BZ B.range (ae aw (ae (bp cA (af 0) (af 1)) ao))) (sG 4 rM) (ar (sS 5 rM (af 4)) (ar (cP (bT DB (af 4) (af 0)) (aJ (sS 5 rM (bp dH (bv (af 2) (bp cA (bp gJ aw (af 4)) aw)) (af 0)))) bX) (aJ (dk (j3 PySem.F.slot_list_insert PySem.F.type_list_insert B7 (af 3) (ae (bp cA aw (bp dH (bv (af 2) (bp gJ aw (af 4))) (bR dB B.len bL (ae (af 3) ao)))) (ae (af 5) ao)))))))) (aJ (bh (af 3)))))
def Kp:FS:=(aS (bu 4 (bx d_ (aj (fj [none,some 3] (bY (aj (ai 1) aC)) (f_ 0) mj (e2 jC (e2 eh (e2 bG (ai 1) (ai 0)) (eI 2)) (eI 1))) aC))) (aS (bu 5 (i9 aC)) (aS (bu 6 (ai 1)) (aS (gu (bY (aj (e2 wT (eI 1) (bx dJ (aj (ai 0) aC))) aC)) (f_ 7) (aS (bu 8 (i9 aC)) (aS (gu (bY (aj (ai 1) aC)) (f_ 9) (aS (dW (kP cb (ai 8) (aj (bx d_ (aj (fj [none,some 2,some 3,some 6] (bY (aj (ai 1) aC)) (f_ 0) mj (e2 eh (e2 bG (ai 2) (e2 c7 (ai 3) (ai 0))) (ai 1))) aC)) aC))) (bu 6 (e2 c7 (ai 6) (ai 1))))) (dW (kP cb (ai 5) (aj (bx d_ (aj (ai 8) aC)) aC)))))) (cH (eK (aj (ai 0) (aj (ai 4) (aj (bx d_ (aj (ai 5) aC)) aC)))))))))
def xX:List W->List am->R W:=du 10 Kp
theorem MW(F:iI K "_law_machine" "_law_machine" EI f fd)(B:Bl mg) :dG P w K mg base (iH P w) 1 f fd J1 (iL K mg 4 xX):=
 cp (k:=0) F mP rfl fun fL A outer s H E hr=>(ar (sS 4 mP (cK eu B.tuple bV (ae (jH (nm:=["_law_k","_law_draws_here"]) (cap:=[none,some 3]) (by first|rfl|kernel_rfl) rfl (dq B.range (ae (af 1) ao)) (fun _ _ _ _ _=>(sC 0)) (fun _ _ _ _ _=>jr) (fun _ _ _ _ _=>(kM (ig hr) (bp dH (bv (af 1) (af 0)) aw) aw))) ao))) (ar (sS 5 mP (gG ao)) (ar (sS 6 mP (af 1)) (ar (dS (dq B.range (ae (bp Dz aw (bR dB B.len bL (ae (af 0) ao))) ao)) (sG 7 mP) (ar (sS 8 mP (gG ao)) (ar (dS (dq B.range (ae (af 1) ao)) (sG 9 mP) (ar (dk (j3 PySem.F.slot_list_append PySem.F.type_list_append cR (af 8) (ae (cK eu B.tuple bV (ae (jH (nm:=["_law_r","_law_top","_law_draws_here","_law_at"]) (cap:=[none,some 2,some 3,some 6]) (by first|rfl|kernel_rfl) rfl (dq B.range (ae (af 1) ao)) (fun _ _ _ _ _=>(sC 0)) (fun _ _ _ _ _=>jr) (fun _ _ _ _ _=>(bp dH (bv (af 2) (bp cA (af 3) (af 0))) (af 1)))) ao)) ao))) (aJ (sS 6 mP (bp cA (af 6) (af 1)))))) (aJ (dk (j3 PySem.F.slot_list_append PySem.F.type_list_append cR (af 5) (ae (cK eu B.tuple bV (ae (af 8) ao)) ao))))))) (aJ (bh (dz (ae (af 0) (ae (af 4) (ae (cK eu B.tuple bV (ae (af 5) ao)) ao))))))))))
def Kq:FS:=(aS (bu 3 (cC 3 ji (aj (cC 2 kR (aj (ai 0) (aj (ai 1) aC))) (aj (eI 10) (aj (eI 1000003) aC))))) (aS (zd (cC 1 xQ (aj (e2 bG (ai 3) (eI 0)) aC)) (CO 2 (fq (f_ 4) (fq (f_ 5) mG)))) (aS (bu 6 (cC 2 xR (aj (ai 2) (aj (ai 4) aC)))) (aS (bu 7 (cC 4 rR (aj (ai 0) (aj (e2 c7 (ai 1) (eI 1)) (aj (e2 c7 (e2 c7 (ai 5) (e2 gN (e2 gN (ai 5) (ai 5)) (e2 wT (eI 1) (ai 4)))) (eI 40)) (aj (eI 3000017) aC)))))) (aS (gs (et (e2 jC (e2 eh (e2 bG (ai 3) (eI 3)) (eI 3)) (eI 0))) (aS (bu 8 (cC 3 xS (aj (ai 6) (aj (ai 5) (aj (ai 7) aC))))) (aS (gs (et (e2 jC (e2 eh (e2 bG (ai 3) (eI 4)) (eI 3)) (eI 0))) (bu 8 (cC 2 xU (aj (ai 8) (aj (DF (ai 7) (jG (eI 4)) (jG (eI 8))) aC)))) b_) (cH (cC 3 xV (aj (ai 8) (aj (cC 3 xW (aj (ai 5) (aj (eI 0) (aj (DF (ai 7) (jG (eI 8)) (jG (eI 30))) aC)))) (aj (ai 7) aC))))))) b_) (aS (bu 9 (ai 5)) (aS (gs (et (e2 jC (e2 eh (e2 bG (ai 3) (eI 1)) (eI 3)) (eI 0))) (bu 9 (e2 c7 (eI 1) (e2 eh (e2 bG (ai 3) (eI 2)) (ai 5)))) b_) (cH (cC 4 xX (aj (ai 6) (aj (ai 5) (aj (ai 9) (aj (ai 7) aC)))))))))))))
def xY:List W->List am->R W:=du 10 Kq
theorem MX(F:iI K "_law_any" "_law_any" EJ f fd) (uw:bP P w K mg base 3 "_law_blocks" 4 rR)(Gy:bP P w K mg base 1 "_law_blown" 3 xV)(km:bP P w K mg base 1 "_law_cell" 2 kR)(jk:bP P w K mg base 2 "_law_draws" 3 ji)(Gj:bP P w K mg base 2 "_law_graded" 3 xS)(GE:bP P w K mg base 1 "_law_machine" 4 xX)(GA:bP P w K mg base 1 "_law_names" 2 xR)(Gk:bP P w K mg base 1 "_law_owner" 3 xW)(GG:bP P w K mg base 1 "_law_shape" 1 xQ)(F9:bP P w K mg base 1 "_law_spotted" 2 xU):dG P w K mg base (iH P w) 4 f fd J2 (iL K mg 3 xY):=
 cp (k:=3) F kC rfl fun fL A outer s H E hr=>(ar (sS 3 kC (bS jk hr (by omega) (ae (bS km hr (by omega) (ae (af 0) (ae (af 1) ao))) (ae aw (ae aw ao))))) (ar (LS (bS GG hr (by omega) (ae (bv (af 3) aw) ao)) (lv rfl (dX (sG 4 kC) (dX (sG 5 kC) jq)))) (ar (sS 6 kC (bS GA hr (by omega) (ae (af 2) (ae (af 4) ao)))) (ar (sS 7 kC (bS uw hr (by omega) (ae (af 0) (ae (bp cA (af 1) aw) (ae (bp cA (bp cA (af 5) (bp gJ (bp gJ (af 5) (af 5)) (bp Dz aw (af 4)))) aw) (ae aw ao)))))) (ar (cP (bT (ig hr) (bp dH (bv (af 3) aw) aw) aw) (ar (sS 8 kC (bS Gj hr (by omega) (ae (af 6) (ae (af 5) (ae (af 7) ao))))) (ar (cP (bT (ig hr) (bp dH (bv (af 3) aw) aw) aw) (aJ (sS 8 kC (bS F9 hr (by omega) (ae (af 8) (ae (wX (af 7) (gU aw) (gU aw)) ao))))) bX) (aJ (bh (bS Gy hr (by omega) (ae (af 8) (ae (bS Gk hr (by omega) (ae (af 5) (ae aw (ae (wX (af 7) (gU aw) (gU aw)) ao)))) (ae (af 7) ao)))))))) bX) (ar (sS 9 kC (af 5)) (ar (cP (bT (ig hr) (bp dH (bv (af 3) aw) aw) aw) (aJ (sS 9 kC (bp cA aw (bp dH (bv (af 3) aw) (af 5))))) bX) (aJ (bh (bS GE hr (by omega) (ae (af 6) (ae (af 5) (ae (af 9) (ae (af 7) ao))))))))))))))
def Kr:FS:=(cH (bx d_ (aj (fj [none,none,some 1] (eF (ai 0)) (CO 2 (fq (f_ 0) (fq (f_ 1) mG))) mj (eK (aj (ai 0) (aj (GT l8 (eC (.str [])) (aj (fj [none,some 2] (eF (ai 1)) (f_ 0) (et (e2 (qt false) (ai 0) (ai 1))) (ai 0)) aC)) aC)))) aC)))
def xZ:List W->List am->R W:=du 2 Kr
theorem MY(F:iI K "_law_bare" "_law_bare" EK f fd)(B:Bl mg) :dG P w K mg base (iH P w) 1 f fd J3 (iL K mg 2 xZ):=
 cp (k:=0) F Mu rfl fun fL A outer s H E hr=>(aJ (bh (cK eu B.tuple bV (ae (jH (nm:=["_law_branches","_law_marks_here","_law_names_here"]) (cap:=[none,none,some 1]) (by first|rfl|kernel_rfl) rfl (gw (af 0)) (fun _ _ _ _ _=>(lv rfl (dX (sC 0) (dX (sC 1) jq)))) (fun _ _ _ _ _=>jr) (fun _ _ _ _ _=>(dz (ae (af 0) (ae (HX PySem.F.slot_str_join PySem.F.type_str_join qv qW (ae (Ih (nm:=["_law_sign","_law_names_here"]) (cap:=[none,some 2]) (by first|rfl|kernel_rfl) (gw (af 1)) (fun _ _ _ _ _=>(sC 0)) (fun _ _ _ _ _=>(qw (bT (BX hr) (af 0) (af 1)))) (fun _ _ _ _ _=>(af 0))) ao)) ao))))) ao))))
def Ks:FS:=(cH (GT l8 (eC (.str [])) (aj (bx nU (aj (fj [none,some 0,some 1] (bY (aj (bx dJ (aj (ai 0) aC)) aC)) (f_ 0) (et (e2 jC (e2 tM (e2 wU (ai 2) (ai 0)) (eI 1)) (eI 1))) (e2 bG (ai 1) (ai 0))) aC)) aC)))
def uf:List W->List am->R W:=du 2 Ks
theorem MZ(F:iI K "_law_marks" "_law_marks" EL f fd)(B:Bl mg) :dG P w K mg base (iH P w) 1 f fd J4 (iL K mg 2 uf):=
 cp (k:=0) F Mv rfl fun fL A outer s H E hr=>(aJ (bh (HX PySem.F.slot_str_join PySem.F.type_str_join qv qW (ae (bR AR B.sorted boot_sorted (ae (jH (nm:=["_law_k","_law_pool_here","_law_number"]) (cap:=[none,some 0,some 1]) (by first|rfl|kernel_rfl) rfl (dq B.range (ae (bR dB B.len bL (ae (af 0) ao)) ao)) (fun _ _ _ _ _=>(sC 0)) (fun _ _ _ _ _=>(qw (bT (ig hr) (bp DA (bp Jt (af 2) (af 0)) aw) aw))) (fun _ _ _ _ _=>(bv (af 1) (af 0)))) ao)) ao))))
def Kt:FS:=(aS (bu 3 (i9 aC)) (aS (bu 4 (eI 0)) (aS (gu (eF (ai 0)) (f_ 5) (aS (bu 6 (e2 eh (ai 5) (eI 4))) (aS (gs (et (e2 wf (e2 nA (e2 c7 (ai 6) (eI 1)) (eI 2)) (ai 4))) (bu 6 (eI 0)) b_) (aS (dW (kP cb (ai 3) (aj (eK (aj (ai 6) (aj (cC 2 uf (aj (ai 2) (aj (e2 eh (e2 bG (ai 1) (bx dJ (aj (ai 3) aC))) (eI 64)) aC))) aC))) aC))) (bu 4 (e2 qf (e2 c7 (ai 4) (eI 1)) (e2 nA (e2 c7 (ai 6) (eI 1)) (eI 2)))))))) (aS (mH (et (e2 wf (ai 4) (eI 1))) (aS (dW (kP cb (ai 3) (aj (eK (aj (eI 3) (aj (cC 2 uf (aj (ai 2) (aj (e2 eh (e2 bG (ai 1) (bx dJ (aj (ai 3) aC))) (eI 64)) aC))) aC))) aC))) (bu 4 (e2 qf (ai 4) (eI 1))))) (cH (bx d_ (aj (ai 3) aC)))))))
def x5:List W->List am->R W:=du 7 Kt
theorem M4(F:iI K "_law_wood" "_law_wood" EM f fd)(B:Bl mg)(Bi:bP P w K mg base 1 "_law_marks" 2 uf):dG P w K mg base (iH P w) 2 f fd J5 (iL K mg 3 x5):=
 cp (k:=1) F mQ rfl fun fL A outer s H E hr=>(ar (sS 3 mQ (gG ao)) (ar (sS 4 mQ aw) (ar (dS (gw (af 0)) (sG 5 mQ) (ar (sS 6 mQ (bp dH (af 5) aw)) (ar (cP (bT pc (bp nR (bp cA (af 6) aw) aw) (af 4)) (aJ (sS 6 mQ aw)) bX) (ar (dk (j3 PySem.F.slot_list_append PySem.F.type_list_append cR (af 3) (ae (dz (ae (af 6) (ae (bS Bi hr (by omega) (ae (af 2) (ae (bp dH (bv (af 1) (bR dB B.len bL (ae (af 3) ao))) aw) ao))) ao))) ao))) (aJ (sS 4 mQ (bp nB (bp cA (af 4) aw) (bp nR (bp cA (af 6) aw) aw)))))))) (ar (w6 (bT pc (af 4) aw) (ar (dk (j3 PySem.F.slot_list_append PySem.F.type_list_append cR (af 3) (ae (dz (ae aw (ae (bS Bi hr (by omega) (ae (af 2) (ae (bp dH (bv (af 1) (bR dB B.len bL (ae (af 3) ao))) aw) ao))) ao))) ao))) (aJ (sS 4 mQ (bp nB (af 4) aw))))) (aJ (bh (cK eu B.tuple bV (ae (af 3) ao))))))))
def Ku:FS:=(aS (bu 3 (cC 3 ji (aj (cC 2 kR (aj (ai 0) (aj (ai 1) aC))) (aj (eI 4) (aj (eI 5000011) aC))))) (aS (bu 4 (e2 eh (e2 bG (ai 3) (eI 0)) (eI 9))) (aS (gs (et (e2 jC (e2 eh (e2 bG (ai 3) (eI 1)) (eI 4)) (eI 0))) (bu 4 (e2 eh (e2 bG (ai 3) (eI 2)) (eI 51))) b_) (aS (bu 5 (cC 3 ji (aj (cC 2 kR (aj (ai 0) (aj (e2 c7 (ai 1) (eI 1)) aC))) (aj (ai 4) (aj (eI 6000011) aC))))) (cH (cC 3 x5 (aj (ai 5) (aj (cC 4 rR (aj (ai 0) (aj (e2 c7 (ai 1) (eI 2)) (aj (e2 gN (eI 2) (ai 4)) (aj (eI 7000003) aC))))) (aj (ai 2) aC)))))))))
def ug:List W->List am->R W:=du 6 Ku
theorem M5(F:iI K "_law_grove" "_law_grove" EN f fd) (uw:bP P w K mg base 3 "_law_blocks" 4 rR)(km:bP P w K mg base 1 "_law_cell" 2 kR)(jk:bP P w K mg base 2 "_law_draws" 3 ji)(Gx:bP P w K mg base 2 "_law_wood" 3 x5):dG P w K mg base (iH P w) 4 f fd J6 (iL K mg 3 ug):=
 cp (k:=3) F rO rfl fun fL A outer s H E hr=>(ar (sS 3 rO (bS jk hr (by omega) (ae (bS km hr (by omega) (ae (af 0) (ae (af 1) ao))) (ae aw (ae aw ao))))) (ar (sS 4 rO (bp dH (bv (af 3) aw) aw)) (ar (cP (bT (ig hr) (bp dH (bv (af 3) aw) aw) aw) (aJ (sS 4 rO (bp dH (bv (af 3) aw) aw))) bX) (ar (sS 5 rO (bS jk hr (by omega) (ae (bS km hr (by omega) (ae (af 0) (ae (bp cA (af 1) aw) ao))) (ae (af 4) (ae aw ao))))) (aJ (bh (bS Gx hr (by omega) (ae (af 5) (ae (bS uw hr (by omega) (ae (af 0) (ae (bp cA (af 1) aw) (ae (bp gJ aw (af 4)) (ae aw ao))))) (ae (af 2) ao))))))))))
def Kv:FS:=(aS (bu 2 (i9 aC)) (aS (gu (eF (ai 1)) (CO 2 (fq (f_ 3) (fq (f_ 4) mG))) (aS (bu 5 (eK (aj (eI 0) aC))) (aS (bu 6 (eK (aj (eI 0) aC))) (aS (gs (et (e2 Ju (ai 3) (eI 2))) (bu 6 (kP mi (ai 2) aC)) b_) (aS (gs (et (e2 jC (e2 eh (ai 3) (eI 2)) (eI 1))) (bu 5 (kP mi (ai 2) aC)) b_) (dW (kP cb (ai 2) (aj (eK (aj (e2 c7 (e2 c7 (eI 1) (e2 bG (ai 5) (eI 0))) (e2 bG (ai 6) (eI 0))) (aj (ai 5) (aj (ai 6) (aj (cC 2 rQ (aj (e2 bG (ai 0) (eI 0)) (aj (ai 4) aC))) aC))))) aC)))))))) (aS (gs (et (e2 jC (bx dJ (aj (ai 2) aC)) (eI 0))) (cH (eK (aj (eI 0) aC))) b_) (cH (e2 bG (ai 2) (uT (eI 1)))))))
def rS:List W->List am->R W:=du 7 Kv
theorem M6(F:iI K "_law_key" "_law_key" EO f fd)(B:Bl mg)(uy:bP P w K mg base 1 "_law_letter" 2 rQ):dG P w K mg base (iH P w) 2 f fd J7 (iL K mg 2 rS):=
 cp (k:=1) F mR rfl fun fL A outer s H E hr=>(ar (sS 2 mR (gG ao)) (ar (dS (gw (af 1)) (lv rfl (dX (sG 3 mR) (dX (sG 4 mR) jq))) (ar (sS 5 mR (dz (ae aw ao))) (ar (sS 6 mR (dz (ae aw ao))) (ar (cP (bT DB (af 3) aw) (aJ (sS 6 mR (pV PySem.F.slot_list_pop PySem.F.type_list_pop mJ (af 2)))) bX) (ar (cP (bT (ig hr) (bp dH (af 3) aw) aw) (aJ (sS 5 mR (pV PySem.F.slot_list_pop PySem.F.type_list_pop mJ (af 2)))) bX) (aJ (dk (j3 PySem.F.slot_list_append PySem.F.type_list_append cR (af 2) (ae (dz (ae (bp cA (bp cA aw (bv (af 5) aw)) (bv (af 6) aw)) (ae (af 5) (ae (af 6) (ae (bS uy hr (by omega) (ae (bv (af 0) aw) (ae (af 4) ao))) ao))))) ao))))))))) (ar (cP (bT (ig hr) (bR dB B.len bL (ae (af 2) ao)) aw) (aJ (bh (dz (ae aw ao)))) bX) (aJ (bh (bv (af 2) (w_ aw)))))))
def Kw:FS:=(aS (bu 1 (i9 aC)) (aS (bu 2 (i9 aC)) (aS (gu (bY (aj (bx dJ (aj (ai 0) aC)) aC)) (f_ 3) (aS (bu 4 (eC .non)) (aS (bu 5 (eC .non)) (aS (gs (et (e2 Ju (e2 bG (e2 bG (ai 0) (ai 3)) (eI 0)) (eI 2))) (bu 5 (kP mi (ai 1) aC)) b_) (aS (gs (et (e2 jC (e2 eh (e2 bG (e2 bG (ai 0) (ai 3)) (eI 0)) (eI 2)) (eI 1))) (bu 4 (kP mi (ai 1) aC)) b_) (aS (dW (kP cb (ai 2) (aj (eK (aj (ai 4) (aj (ai 5) aC))) aC))) (dW (kP cb (ai 1) (aj (ai 3) aC))))))))) (cH (ai 2)))))
def x6:List W->List am->R W:=du 6 Kw
theorem M7(F:iI K "_law_links" "_law_links" EQ f fd)(B:Bl mg) :dG P w K mg base (iH P w) 1 f fd J8 (iL K mg 1 x6):=
 cp (k:=0) F mS rfl fun fL A outer s H E hr=>(ar (sS 1 mS (gG ao)) (ar (sS 2 mS (gG ao)) (ar (dS (dq B.range (ae (bR dB B.len bL (ae (af 0) ao)) ao)) (sG 3 mS) (ar (sS 4 mS wO) (ar (sS 5 mS wO) (ar (cP (bT DB (bv (bv (af 0) (af 3)) aw) aw) (aJ (sS 5 mS (pV PySem.F.slot_list_pop PySem.F.type_list_pop mJ (af 1)))) bX) (ar (cP (bT (ig hr) (bp dH (bv (bv (af 0) (af 3)) aw) aw) aw) (aJ (sS 4 mS (pV PySem.F.slot_list_pop PySem.F.type_list_pop mJ (af 1)))) bX) (ar (dk (j3 PySem.F.slot_list_append PySem.F.type_list_append cR (af 2) (ae (dz (ae (af 4) (ae (af 5) ao))) ao))) (aJ (dk (j3 PySem.F.slot_list_append PySem.F.type_list_append cR (af 1) (ae (af 3) ao)))))))))) (aJ (bh (af 2))))))
def Kx:FS:=(cH (e2 c7 (e2 c7 (ai 0) (ai 1)) (eK (aj (eK (aj (e2 c7 (bx wY (aj (e2 wf (bx dJ (aj (ai 0) aC)) (eI 0)) aC)) (e2 gN (eI 2) (bx wY (aj (e2 wf (bx dJ (aj (ai 1) aC)) (eI 0)) aC)))) (aj (ai 2) aC))) aC))))
def x8:List W->List am->R W:=du 3 Kx
theorem M8(F:iI K "_law_join" "_law_join" ER f fd)(B:Bl mg) :dG P w K mg base (iH P w) 1 f fd J9 (iL K mg 3 x8):=
 cp (k:=0) F Mw rfl fun fL A outer s H E hr=>(aJ (bh (bp cA (bp cA (af 0) (af 1)) (dz (ae (dz (ae (bp cA (cK DH B.int lc (ae (kM pc (bR dB B.len bL (ae (af 0) ao)) aw) ao)) (bp gJ aw (cK DH B.int lc (ae (kM pc (bR dB B.len bL (ae (af 1) ao)) aw) ao)))) (ae (af 2) ao))) ao)))))
def Ky:FS:=(aS (bu 4 (i9 aC)) (aS (bu 5 (cC 1 x6 (aj (ai 0) aC))) (aS (gu (eF (ai 5)) (CO 2 (fq (f_ 6) (fq (f_ 7) mG))) (aS (bu 8 (eI 1)) (aS (gs (et (qX (ai 6))) (bu 8 (e2 c7 (ai 8) (e2 bG (ai 4) (ai 6)))) b_) (aS (gs (et (qX (ai 7))) (bu 8 (e2 c7 (ai 8) (e2 bG (ai 4) (ai 7)))) b_) (dW (kP cb (ai 4) (aj (ai 8) aC))))))) (aS (bu 9 (e2 qf (e2 c7 (ai 1) (eI 1)) (e2 bG (ai 4) (ai 1)))) (aS (bu 10 (ai 1)) (aS (gs (et (qX (e2 bG (e2 bG (ai 5) (ai 1)) (eI 1)))) (bu 10 (e2 qf (ai 1) (e2 bG (ai 4) (e2 qf (ai 1) (eI 1))))) b_) (aS (bu 11 (i9 (aj (DF (ai 0) (jG (ai 9)) (jG (ai 10))) (aj (DF (ai 0) (jG (ai 10)) (jG (ai 1))) aC)))) (aS (qh (ai 11) (ai 2) (ai 3) ou) (cH (e2 c7 (e2 c7 (DF (ai 0) tO (jG (ai 9))) (cC 3 x8 (aj (e2 bG (ai 11) (eI 0)) (aj (e2 bG (ai 11) (eI 1)) (aj (e2 bG (e2 bG (ai 0) (ai 1)) (eI 1)) aC))))) (DF (ai 0) (jG (e2 c7 (ai 1) (eI 1))) tO)))))))))))
def rT:List W->List am->R W:=du 12 Ky
theorem M9(F:iI K "_law_put" "_law_put" ES f fd) (GO:bP P w K mg base 1 "_law_join" 3 x8)(Gu:bP P w K mg base 1 "_law_links" 1 x6):dG P w K mg base (iH P w) 2 f fd J_ (iL K mg 4 rT):=
 cp (k:=1) F jb rfl fun fL A outer s H E hr=>(ar (sS 4 jb (gG ao)) (ar (sS 5 jb (bS Gu hr (by omega) (ae (af 0) ao))) (ar (dS (gw (af 5)) (lv rfl (dX (sG 6 jb) (dX (sG 7 jb) jq))) (ar (sS 8 jb aw) (ar (cP (uO (af 6)) (aJ (sS 8 jb (bp cA (af 8) (bv (af 4) (af 6))))) bX) (ar (cP (uO (af 7)) (aJ (sS 8 jb (bp cA (af 8) (bv (af 4) (af 7))))) bX) (aJ (dk (j3 PySem.F.slot_list_append PySem.F.type_list_append cR (af 4) (ae (af 8) ao)))))))) (ar (sS 9 jb (bp nB (bp cA (af 1) aw) (bv (af 4) (af 1)))) (ar (sS 10 jb (af 1)) (ar (cP (uO (bv (bv (af 5) (af 1)) aw)) (aJ (sS 10 jb (bp nB (af 1) (bv (af 4) (bp nB (af 1) aw))))) bX) (ar (sS 11 jb (gG (ae (wX (af 0) (gU (af 9)) (gU (af 10))) (ae (wX (af 0) (gU (af 10)) (gU (af 1))) ao)))) (ar (nS uR (af 3) (af 11) (af 2)) (aJ (bh (bp cA (bp cA (wX (af 0) qu (gU (af 9))) (bS GO hr (by omega) (ae (bv (af 11) aw) (ae (bv (af 11) aw) (ae (bv (bv (af 0) (af 1)) aw) ao))))) (wX (af 0) (gU (bp cA (af 1) aw)) qu))))))))))))
def E5(QW:List W->List am->R W):FS:=(aS (gs (et (ml "tuple" (ai 1))) (aS (gs (we (wP (et (ml "tuple" (ai 0)))) (et (e2 CN (bx dJ (aj (ai 0) aC)) (bx dJ (aj (ai 1) aC))))) (cH (eC (.bl false))) b_) (aS (gu (bY (aj (bx dJ (aj (ai 1) aC)) aC)) (f_ 2) (gs (wP (et (cC 2 QW (aj (e2 bG (ai 0) (ai 2)) (aj (e2 bG (ai 1) (ai 2)) aC))))) (cH (eC (.bl false))) b_)) (cH (eC (.bl true))))) b_) (aS (gs (et (wR (ai 1))) (cH (wR (ai 0))) b_) (aS (gs (et (ml "bool" (ai 1))) (cH (y9 (ml "bool" (ai 0)) (e2 jC (ai 0) (ai 1)))) b_) (aS (gs (et (ml "int" (ai 1))) (cH (y9 (ml "int" (ai 0)) (y9 (HR (ml "bool" (ai 0))) (e2 jC (ai 0) (ai 1))))) b_) (cH (y9 (ml "str" (ai 0)) (e2 jC (ai 0) (ai 1))))))))
def mT:Nat->List W->List am->R W
 |0=>fun _ _=>.bad
 |k+1=>du 3 (E5 (mT k))
theorem A4{Gm:Addr}{N2:FuncData}(uv:iI K "_law_same" "_law_same" ET Gm N2)(yt:mg "_law_same"=some (.ref Gm))(B:Bl mg) :∀k:Nat,bP P w K mg base (0+k) "_law_same" 2 (mT k)
 |0=>DO (ps:=EU) uv yt rfl (fun _ _ _ _ _ _ us hl=>match us,hl with|[_,_],_=>rfl)
 |k+1=>by
  have ut:=A4 uv yt B  k
  exact uS (ps:=EU) uv yt rfl (fun _ _ _ _ _ _ us hl=>match us,hl with|[_,_],_=>rfl) (cp (k:=0+k) uv EV rfl fun fL A outer s H E hr=>(ar (cP (gI (kc B.isinstance B.tuple bV (af 1))) (ar (cP (wQ (nz (kB (gI (kc B.isinstance B.tuple bV (af 0)))) (nP (bT (DE hr) (bR dB B.len bL (ae (af 0) ao)) (bR dB B.len bL (ae (af 1) ao)))))) (aJ (bh nO)) bX) (ar (dS (dq B.range (ae (bR dB B.len bL (ae (af 1) ao)) ao)) (sG 2 EV) (aJ (cP (kB (gI (bS ut hr (by omega) (ae (bv (af 0) (af 2)) (ae (bv (af 1) (af 2)) ao))))) (aJ (bh nO)) bX))) (aJ (bh nO)))) bX) (ar (cP (Dv (af 1)) (aJ (bh (Pp (af 0)))) bX) (ar (cP (gI (kc B.isinstance B.bool no (af 1))) (aJ (bh (AJ (kc B.isinstance B.bool no (af 0)) (AI (kM (ig hr) (af 0) (af 1)))))) bX) (ar (cP (gI (kc B.isinstance B.int lc (af 1))) (aJ (bh (AJ (kc B.isinstance B.int lc (af 0)) (AJ (Po (kc B.isinstance B.bool no (af 0))) (AI (kM (ig hr) (af 0) (af 1))))))) bX) (aJ (bh (AJ (kc B.isinstance B.str boot_str (af 0)) (AI (kM (ig hr) (af 0) (af 1)))))))))))
def Kz:FS:=(aS (gs (wP (et (ml "tuple" (ai 0)))) (cH (eC (.bl false))) b_) (aS (bu 2 (eI 0)) (aS (gu (eF (ai 0)) (f_ 3) (aS (gs (we (wP (et (ml "tuple" (ai 3)))) (et (e2 CN (bx dJ (aj (ai 3) aC)) (eI 2)))) (cH (eC (.bl false))) b_) (aS (gs (we (wP (et (ml "int" (e2 bG (ai 3) (eI 0))))) (wP (et (ml "str" (e2 bG (ai 3) (eI 1)))))) (cH (eC (.bl false))) b_) (aS (gs (we (et (ml "bool" (e2 bG (ai 3) (eI 0)))) (we (et (e2 Pw (e2 bG (ai 3) (eI 0)) (eI 0))) (we (et (e2 wf (e2 bG (ai 3) (eI 0)) (eI 3))) (et (e2 wf (e2 nA (e2 c7 (e2 bG (ai 3) (eI 0)) (eI 1)) (eI 2)) (ai 2)))))) (cH (eC (.bl false))) b_) (aS (gs (et (e2 CN (e2 bG (ai 3) (eI 1)) (GT l8 (eC (.str [])) (aj (fj [none,some 3] (eF (ai 1)) (f_ 0) (et (e2 (qt false) (ai 0) (e2 bG (ai 1) (eI 1)))) (ai 0)) aC)))) (cH (eC (.bl false))) b_) (bu 2 (e2 qf (e2 c7 (ai 2) (eI 1)) (e2 nA (e2 c7 (e2 bG (ai 3) (eI 0)) (eI 1)) (eI 2))))))))) (cH (Ob (e2 jC (ai 2) (eI 1)) (e2 jC (bx dJ (aj (ai 0) aC)) (eI 0)))))))
def x9:List W->List am->R W:=du 4 Kz
theorem M_(F:iI K "_law_tree_over" "_law_tree_over" EW f fd)(B:Bl mg) :dG P w K mg base (iH P w) 1 f fd J' (iL K mg 2 x9):=
 cp (k:=0) F vB rfl fun fL A outer s H E hr=>(ar (cP (kB (gI (kc B.isinstance B.tuple bV (af 0)))) (aJ (bh nO)) bX) (ar (sS 2 vB aw) (ar (dS (gw (af 0)) (sG 3 vB) (ar (cP (wQ (nz (kB (gI (kc B.isinstance B.tuple bV (af 3)))) (nP (bT (DE hr) (bR dB B.len bL (ae (af 3) ao)) aw)))) (aJ (bh nO)) bX) (ar (cP (wQ (nz (kB (gI (kc B.isinstance B.int lc (bv (af 3) aw)))) (nP (kB (gI (kc B.isinstance B.str boot_str (bv (af 3) aw))))))) (aJ (bh nO)) bX) (ar (cP (wQ (nz (gI (kc B.isinstance B.bool no (bv (af 3) aw))) (nz (bT w_lt (bv (af 3) aw) aw) (nz (bT pc (bv (af 3) aw) aw) (nP (bT pc (bp nR (bp cA (bv (af 3) aw) aw) aw) (af 2))))))) (aJ (bh nO)) bX) (ar (cP (bT (DE hr) (bv (af 3) aw) (HX PySem.F.slot_str_join PySem.F.type_str_join qv qW (ae (jH (nm:=["_law_sign","_law_place"]) (cap:=[none,some 3]) (by first|rfl|kernel_rfl) rfl (gw (af 1)) (fun _ _ _ _ _=>(sC 0)) (fun _ _ _ _ _=>(qw (bT (BX hr) (af 0) (bv (af 1) aw)))) (fun _ _ _ _ _=>(af 0))) ao))) (aJ (bh nO)) bX) (aJ (sS 2 vB (bp nB (bp cA (af 2) aw) (bp nR (bp cA (bv (af 3) aw) aw) aw))))))))) (aJ (bh (Sh (kM (ig hr) (af 2) aw) (AI (kM (ig hr) (bR dB B.len bL (ae (af 0) ao)) aw))))))))
def KA:FS:=(aS (gs (et (e2 jC (bx dJ (aj (ai 1) aC)) (eI 0))) (cH (eI 0)) b_) (cH (e2 bG (cC 2 xO (aj (ai 0) (aj (ai 1) aC))) (uT (eI 1)))))
def p5:List W->List am->R W:=du 2 KA
theorem Na(F:iI K "_law_room" "_law_room" EX f fd)(B:Bl mg)(Gb:bP P w K mg base 2 "_law_run" 2 xO):dG P w K mg base (iH P w) 3 f fd Ka (iL K mg 2 p5):=
 cp (k:=2) F Mx rfl fun fL A outer s H E hr=>(ar (cP (bT (ig hr) (bR dB B.len bL (ae (af 1) ao)) aw) (aJ (bh aw)) bX) (aJ (bh (bv (bS Gb hr (by omega) (ae (af 0) (ae (af 1) ao))) (w_ aw)))))
def KB:FS:=(aS (bu 1 (cC 3 xP (aj (cC 2 kR (aj (ai 0) (aj (eI 0) aC))) (aj (eI 6) (aj (eI 2000003) aC))))) (aS (bu 2 (cC 3 xY (aj (ai 0) (aj (eI 1) (aj (ai 1) aC))))) (aS (bu 3 (cC 2 xZ (aj (cC 3 ug (aj (ai 0) (aj (eI 20) (aj (ai 1) aC)))) (aj (e2 bG (ai 2) (eI 0)) aC)))) (aS (bu 4 (cC 2 p5 (aj (ai 2) (aj (ai 3) aC)))) (aS (bu 5 (cC 2 ub (aj (ai 2) (aj (ai 4) aC)))) (aS (gs (we (wP (et (cC 2 x9 (aj (ai 5) (aj (e2 bG (ai 2) (eI 0)) aC))))) (et (e2 CN (cC 2 p5 (aj (ai 2) (aj (ai 5) aC))) (ai 4)))) (cH (eC (.bl false))) b_) (aS (gs (et (e2 Ca (cC 2 rS (aj (ai 2) (aj (ai 3) aC))) (cC 2 rS (aj (ai 2) (aj (ai 5) aC))))) (cH (eC (.bl false))) b_) (aS (bu 6 (cC 3 ug (aj (ai 0) (aj (eI 30) (aj (ai 1) aC))))) (aS (gs (et (e2 jC (bx dJ (aj (ai 6) aC)) (eI 0))) (cH (eC (.bl true))) b_) (aS (bu 7 (cC 3 ji (aj (cC 2 kR (aj (ai 0) (aj (eI 40) aC))) (aj (eI 2) (aj (eI 8000009) aC))))) (aS (bu 8 (e2 eh (e2 bG (ai 7) (eI 0)) (bx dJ (aj (ai 6) aC)))) (aS (bu 9 (cC 4 rT (aj (ai 6) (aj (ai 8) (aj (e2 eh (e2 bG (ai 7) (eI 1)) (eI 2)) (aj (ai 3) aC)))))) (aS (bu 10 (cC 4 rT (aj (ai 6) (aj (ai 8) (aj (e2 eh (e2 bG (ai 7) (eI 1)) (eI 2)) (aj (ai 5) aC)))))) (aS (bu 11 (cC 2 p5 (aj (ai 2) (aj (ai 9) aC)))) (aS (gu (eF (eK (aj (ai 9) (aj (ai 10) aC)))) (f_ 12) (gs (et (e2 B5 (bx dJ (aj (ai 12) aC)) (eI 100))) (aS (bu 13 (cC 2 oK (aj (ai 2) (aj (ai 12) aC)))) (aS (gs (we (wP (et (ml "tuple" (ai 13)))) (we (et (e2 CN (bx dJ (aj (ai 13) aC)) (bx dJ (aj (ai 12) aC)))) (wP (et (cC 2 (mT 40) (aj (e2 bG (ai 13) (uT (eI 1))) (aj (ai 11) aC))))))) (cH (eC (.bl false))) b_) (gs (wP (et (cC 2 (mT 40) (aj (cC 2 rP (aj (ai 2) (aj (ai 12) aC))) (aj (e2 bG (e2 bG (ai 2) (eI 1)) (ai 11)) aC))))) (cH (eC (.bl false))) b_))) b_)) (cH (e2 jC (cC 2 p5 (aj (ai 2) (aj (ai 10) aC))) (ai 11))))))))))))))))))
def f_q46:List W->List am->R W:=du 14 KB
theorem Nb(F:iI K "law" "law" oJ f fd)(B:Bl mg)(Ge:bP P w K mg base 4 "_law_any" 3 xY)(GB:bP P w K mg base 1 "_law_bare" 2 xZ)(km:bP P w K mg base 1 "_law_cell" 2 kR)(jk:bP P w K mg base 2 "_law_draws" 3 ji)(Bm:bP P w K mg base 4 "_law_grove" 3 ug)(Bh:bP P w K mg base 2 "_law_key" 2 rS)(Gn:bP P w K mg base 3 "_law_pool" 3 xP)(Bo:bP P w K mg base 2 "_law_put" 4 rT)(uB:bP P w K mg base 3 "_law_room" 2 p5)(ut:bP P w K mg base 40 "_law_same" 2 (mT 40))(GJ:bP P w K mg base 1 "_law_tree_over" 2 x9)(GK:bP P w K mg base 5 "first_tree" 2 ub)(Gh:bP P w K mg base 5 "lets_by" 2 rP)(ux:bP P w K mg base 3 "rooms_of" 2 oK):dG P w K mg base (iH P w) 41 f fd EY (iL K mg 1 f_q46):=
 cp (k:=40) F io rfl fun fL A outer s H E hr=>(ar (sS 1 io (bS Gn hr (by omega) (ae (bS km hr (by omega) (ae (af 0) (ae aw ao))) (ae aw (ae aw ao))))) (ar (sS 2 io (bS Ge hr (by omega) (ae (af 0) (ae aw (ae (af 1) ao))))) (ar (sS 3 io (bS GB hr (by omega) (ae (bS Bm hr (by omega) (ae (af 0) (ae aw (ae (af 1) ao)))) (ae (bv (af 2) aw) ao)))) (ar (sS 4 io (bS uB hr (by omega) (ae (af 2) (ae (af 3) ao)))) (ar (sS 5 io (bS GK hr (by omega) (ae (af 2) (ae (af 4) ao)))) (ar (cP (wQ (nz (kB (gI (bS GJ hr (by omega) (ae (af 5) (ae (bv (af 2) aw) ao))))) (nP (bT (DE hr) (bS uB hr (by omega) (ae (af 2) (ae (af 5) ao))) (af 4))))) (aJ (bh nO)) bX) (ar (cP (bT (PV hr) (bS Bh hr (by omega) (ae (af 2) (ae (af 3) ao))) (bS Bh hr (by omega) (ae (af 2) (ae (af 5) ao)))) (aJ (bh nO)) bX) (ar (sS 6 io (bS Bm hr (by omega) (ae (af 0) (ae aw (ae (af 1) ao))))) (ar (cP (bT (ig hr) (bR dB B.len bL (ae (af 6) ao)) aw) (aJ (bh nO)) bX) (ar (sS 7 io (bS jk hr (by omega) (ae (bS km hr (by omega) (ae (af 0) (ae aw ao))) (ae aw (ae aw ao))))) (ar (sS 8 io (bp dH (bv (af 7) aw) (bR dB B.len bL (ae (af 6) ao)))) (ar (sS 9 io (bS Bo hr (by omega) (ae (af 6) (ae (af 8) (ae (bp dH (bv (af 7) aw) aw) (ae (af 3) ao)))))) (ar (sS 10 io (bS Bo hr (by omega) (ae (af 6) (ae (af 8) (ae (bp dH (bv (af 7) aw) aw) (ae (af 5) ao)))))) (ar (sS 11 io (bS uB hr (by omega) (ae (af 2) (ae (af 9) ao)))) (ar (dS (gw (dz (ae (af 9) (ae (af 10) ao)))) (sG 12 io) (aJ (cP (bT PK (bR dB B.len bL (ae (af 12) ao)) aw) (ar (sS 13 io (bS ux hr (by omega) (ae (af 2) (ae (af 12) ao)))) (ar (cP (wQ (nz (kB (gI (kc B.isinstance B.tuple bV (af 13)))) (nz (bT (DE hr) (bR dB B.len bL (ae (af 13) ao)) (bR dB B.len bL (ae (af 12) ao))) (nP (kB (gI (bS ut hr (by omega) (ae (bv (af 13) (w_ aw)) (ae (af 11) ao))))))))) (aJ (bh nO)) bX) (aJ (cP (kB (gI (bS ut hr (by omega) (ae (bS Gh hr (by omega) (ae (af 2) (ae (af 12) ao))) (ae (bv (bv (af 2) aw) (af 11)) ao))))) (aJ (bh nO)) bX)))) bX))) (aJ (bh (kM (ig hr) (bS uB hr (by omega) (ae (af 2) (ae (af 10) ao))) (af 11)))))))))))))))))))
end
theorem Nc{α:Type}(ns:List α)(hl:0<ns.length)(k:Int):∃c∈ns,oV ns (k%((ns.length:Nat):Int))=some c:=by
 have h0:0<=k%((ns.length:Nat):Int):=g9 _ (by omega)
 have h1:k%((ns.length:Nat):Int)<ns.length:=jX _ (by omega)
 obtain⟨m,hm⟩:=k6 h0
 rw[hm]at h1 ⊢
 have h2:m<ns.length:=by omega
 exact⟨ns[m],gF _,fI (by simp[h2])⟩
theorem nb{n:Nat}{st:List am}{ns:List Int}(h:st[n]?=some (.ro (ns.map W.int)))(k:Int):∃c,kR [.loc n,.int k] st=.ok (.int c) st:=by
 by_cases hn:ns=[]
 ·subst hn
  refine⟨0,?_⟩
  apply m9;apply zt;apply i_
  ·(repeat' (first|with_reducible exact i' (qB h)|walk_at "ev1"))
  ·(walk_at "evs")
 ·have hl:0<ns.length:=List.length_pos_iff.mpr hn
  obtain⟨c,hc,e⟩:=Nc (ns.map W.int) (by simpa using hl) k
  obtain⟨c,_,rfl⟩:=a9.mp hc
  refine⟨c,?_⟩
  apply m9;apply xq
  ·apply pj
   ·(repeat' (first|with_reducible exact i' (qB h)|walk_at "ev1"))
    rw[aO,av];omega
   ·(walk_at "evs")
  ·(repeat' (first|with_reducible exact i' (qB h)|with_reducible exact jM (qB h) e|walk_at "ev1"))
   rw[av];omega
theorem E6(c k s:Int)(hk:-(2^64)<k/\k<2^64)(st:List am):∃r,0<=r/\ud [.int c,.int k,.int s] st=.ok (.int r) st:=by
 have big:∀q:Int,0<=q%2147483647/\q%2147483647<2147483647:=fun q=>⟨g9 _ (by decide),jX _ (by decide)⟩
 refine⟨(((c+7*k*k+13*k+s)*69621%2147483647*((c+7*k*k+13*k+s)*69621%2147483647/1009+3)+31*k+s)%2147483629*48271)%1000000007,g9 _ (by decide),?_⟩
 apply m9;apply xq
 ·(walk_at "evs")<;>first|exact .inl (by decide)|exact .inr (by decide)|exact .inr hk
 ·(walk_at "evs")<;>first|exact .inl (by decide)|exact .inr (by decide)|exact .inl (by have:=big ((c+7*k*k+13*k+s)*69621);omega)
theorem kS(c s:Int)(m:Nat)(hm:m<=1000)(st:List am):∃ds:List Int,ds.length=m/\(∀d∈ds,0<=d)/\ji [.int c,.int m,.int s] st=.ok (.loc st.length) (st++[.lst (ds.map W.int)]):=by
 suffices hh:gn (sF fun w bH=>∃j x,w=.loc (st.length+j)/\bH=st++x/\j=0/\∃ds:List Int,x=[.lst (ds.map W.int)]/\ds.length=m/\∀d∈ds,0<=d) (Kg ([W.int c,.int m,.int s].map some++List.replicate (6-3) none) st) by
  obtain⟨j,x,⟨rfl,ds,rfl,h1,h2⟩,e⟩:=oH hh
  exact⟨ds,h1,h2,e⟩
 apply az
 ·(walk_at "evs")
 apply az
 ·(walk_at "evs")
 have main:∀r0:Int,gn (sF fun w bH=>∃j x,w=.loc (st.length+j)/\bH=st++x/\j=0/\∃ds:List Int,x=[.lst (ds.map W.int)]/\ds.length=m/\∀d∈ds,0<=d)
   (aS (gu (bY (aj (ai 1) aC)) (f_ 5) (gs (et (e2 wf (ai 4) (eI 0))) (aS (dW (kP cb (ai 3) (aj (e2 eh (ai 4) (eI 64)) aC))) (bu 4 (e2 nA (ai 4) (eI 64)))) (dW (kP cb (ai 3) (aj (cC 3 ud (aj (ai 0) (aj (ai 5) (aj (ai 2) aC)))) aC))))) (cH (ai 3))
   [some (.int c),some (.int m),some (.int s),some (.loc st.length),some (.int r0),none] (st++[.lst []])):=by
  intro r0
  refine dL (fun i ρ bH=>∃(r:Int) (o:Option W) (ds:List Int),ρ=[some (.int c),some (.int m),some (.int s),some (.loc st.length),some (.int r),o]/\bH=st++[.lst (ds.map W.int)]/\ds.length=i/\∀d∈ds,0<=d) (fD (by(walk_at "evs");rfl) (by omega))
   ⟨r0,none,[],rfl,rfl,rfl,by simp⟩ (fun _ _ _ _=>trivial) ?_ ?_
  ·rintro i w ρ bH hw ⟨r,o,ds,rfl,rfl,hd,h⟩
   obtain⟨hi,rfl⟩:=gD hw
   refine⟨_,rfl,?_⟩
   have gz:(st++[am.lst (ds.map W.int)])[st.length]?=some (.lst (ds.map W.int)):=by rw[cF];rfl
   have hsh:(ds.map W.int).length<j8:=by rw[av,hd];show i<1000000;omega
   by_cases hr:0<r
   ·apply iJ
    ·(walk_at "evs");simpa using hr
    apply az
    ·(repeat' (first|with_reducible exact dF gz|with_reducible exact kh gz hsh|walk_at "ev1"))
    rw[dC]
    apply cy
    ·(walk_at "evs")
    ·refine⟨_,_,rfl,r/64,_,ds++[r%64],rfl,by simp,by simp[hd],fun d hd'=>?_⟩
     rcases a7.mp hd' with hd'|hd'
     ·exact h d hd'
     ·rw[cM.mp hd'];exact g9 _ (by decide)
   ·obtain⟨q,hq,e⟩:=E6 c (0+i) s (by omega) (st++[am.lst (ds.map W.int)])
    apply hV
    ·(walk_at "evs");simpa using hr
    apply cy
    ·(repeat' (first|with_reducible exact dF gz|with_reducible exact kh gz hsh|with_reducible exact e|walk_at "ev1"))
    ·refine⟨_,_,rfl,r,_,ds++[q],rfl,by rw[dC];simp,by simp[hd],fun d hd'=>?_⟩
     rcases a7.mp hd' with hd'|hd'
     ·exact h d hd'
     ·rw[cM.mp hd'];exact hq
  ·rintro ρ bH ⟨r,o,ds,rfl,rfl,hd,h⟩
   apply bN
   ·(walk_at "evs")
   ·exact⟨_,_,rfl,0,_,rfl,rfl,rfl,ds,rfl,by rw[hd];simpa using cE 0 m,h⟩
 by_cases hc:(10:Int)^18<=c
 ·apply az
  ·apply i_
   ·(walk_at "evs")<;>simpa using hc
   ·(walk_at "evs")
  ·exact main c
 ·apply az
  ·apply pj
   ·(walk_at "evs")<;>simpa using hc
   ·(walk_at "evs")
  ·exact main 0
abbrev LL:List Nat:=[65,66,67,68,69,70,71,72,73,74,75,76,77,78,79,80,81,82,83,84,85,86,87,88,89,90,97,98,99,100,101,102,103,104,105,106,107,108,109,110,111,112,113,114,115,116,117,118,119,120,121,122]
theorem Iw(c s:Int)(m:Nat)(hm:m<=52)(st:List am):∃l:List Nat,l.length=m/\l.Nodup/\(∀d∈l,d∈LL)/\xP [.int c,.int m,.int s] st=.ok (.str l) st:=by
 suffices hh:gn (sF fun w bH=>(∃x,bH=st++x)/\undWs st.length [w]=true/\∃l:List Nat,w=.str l/\l.length=m/\l.Nodup/\∀d∈l,d∈LL) (Kh ([W.int c,.int m,.int s].map some++List.replicate (7-3) none) st) by
  obtain⟨w,⟨l,rfl,h1,h2,h3⟩,e⟩:=ju hh
  exact⟨l,h1,h2,h3,e⟩
 obtain⟨ds,h1,h2,e⟩:=kS c s m (by omega) st
 apply az
 ·(walk_at "evs")
 apply az
 ·(walk_at "evs")
 have gz:lstOf (st++[am.lst (ds.map W.int)]) st.length=some (ds.map W.int):=bj (by rw[cF];rfl)
 refine dL (fun i ρ bH=>∃(r f:List Nat) (o o2:Option W),ρ=[some (.int c),some (.int m),some (.int s),some (.str r),some (.str f),o,o2]/\bH=st++[.lst (ds.map W.int)]/\f.length=i/\r.length+i=52/\(f++r).Perm LL) (oG (by(repeat' (first|with_reducible exact e|walk_at "ev1"))) gz)
  ⟨LL,[],none,none,rfl,rfl,rfl,rfl,.refl _⟩ (fun i ρ bH h=>?_) ?_ ?_
 ·obtain⟨r,f,o,o2,rfl,rfl,_⟩:=h
  exact gz
 ·rintro i w ρ bH hw ⟨r,f,o,o2,rfl,rfl,hf,hr,hfl⟩
  obtain⟨d,hd,rfl⟩:∃d,ds[i]?=some d/\w=.int d:=by
   simp only[aB,df]at hw
   obtain⟨d,h1,rfl⟩:=hw
   exact⟨d,h1,rfl⟩
  have hi:i<m:=by rw[<- h1];exact(aa.mp hd).1
  obtain⟨q,hq,eq⟩:=fE (q:=d) (n:=r.length) (by omega)
  have hL:r.length<=j8:=by show _<=1000000;omega
  have hLf:f.length<=j8:=by show _<=1000000;omega
  have hat:oV r (d%(r.length:Int))=some r[q]:=by rw[eq];exact fI (by simp[hq])
  refine⟨_,rfl,?_⟩
  apply az
  ·(repeat' (first|with_reducible exact u_ hL|walk_at "ev1"))
   show 0<(r.length:Int);omega
  apply az
  ·have ha:f.length+[r[q]].length<=j8:=by show _+1<=1000000;omega
   (repeat' (first|with_reducible exact Eb hL hat|with_reducible exact zu ha|walk_at "ev1"))
  apply cy
  ·(repeat' (first|with_reducible exact PZ hL|walk_at "ev1"))
   rw[eq,qC (by omega),show((q:Int)+1)=((q+1:Nat):Int)from rfl,qD (by omega),aY,fQ]
   show _<=1000000;omega
  ·refine⟨_,_,rfl,_,_,_,_,rfl,rfl,by simp[hf],?_,?_⟩
   ·rw[eq,qC (by omega),show((q:Int)+1)=((q+1:Nat):Int)from rfl,qD (by omega),ay,aY,fQ]
    omega
   ·rw[eq,qC (by omega),show((q:Int)+1)=((q+1:Nat):Int)from rfl,qD (by omega)]
    refine List.Perm.trans ?_ hfl
    rw[aW]
    refine List.Perm.append_left f ?_
    have e:r=r.take q++r[q]::r.drop (q+1):=by rw[<- fw hq,mv]
    have e2:(r[q]::(r.take q++r.drop (q+1))).Perm r:=(List.perm_middle.symm).trans (by rw[<- e])
    exact e2
 ·rintro ρ bH ⟨r,f,o,o2,rfl,rfl,hf,hr,hfl⟩
  apply bN
  ·(walk_at "evs")
  ·exact⟨_,_,rfl,⟨_,rfl⟩,rfl,f,rfl,by rw[hf];simpa using h1,(iF.mp (hfl.nodup_iff.mpr (by decide))).1,fun d hd=>hfl.mem_iff.mp (gA _ hd)⟩
theorem gX{st s:List am}{p:Nat}{c:am}(h:st <+: s)(hp:st.length<=p):st <+: s.set p c:=by
 obtain⟨x,rfl⟩:=h
 rw[show p=st.length+(p-st.length) by omega,gO]
 exact aE _ _
theorem jv{st s y:List am}(h:st <+: s):st <+: s++y:=h.trans (aE _ _)
theorem pre_get{st s:List am}{i:Nat}{c:am}(h:st <+: s)(e:st[i]?=some c):s[i]?=some c:=by
 obtain⟨x,rfl⟩:=h
 exact fZ e
theorem jN{s:List am}{p:Nat}{c d:am}(h:s[p]?=some d):(s.set p c)[p]?=some c:=by
 rw[bb (aa.mp h).1]
theorem zH{s:List am}{p q:Nat}{c:am}(h:p≠q):(s.set p c)[q]?=s[q]?:=bg h
theorem Nd{s:List am}{p:Nat}{c:am}(h:s[p]?=some c):p<s.length:=(aa.mp h).1
theorem cq{s:List am}{c:am}:(s++[c])[s.length]?=some c:=by rw[cF];rfl
def nr(l:List Int):List W:=l.map W.int
theorem eA{s:List am}{p i:Nat}{ds:List Int}{d:Int}(h:s[p]?=some (.lst (nr ds)))(e:ds[i]?=some d):bG (.loc p) (.int i) s=.ok (.int d) s:=jM (bj h) (fI (by rw[nr,aB,e];rfl))
theorem E7(d:Int)(st:List am):∃c n:Nat,c<=5/\1<=n/\n<=9/\n*n*2^c<=200/\xQ [.int d] st=.ok (.tup [.int c,.int n]) st:=by
 suffices hh:gn (sF fun w bH=>(∃x,bH=st++x)/\undWs st.length [w]=true/\∃c n:Nat,w=.tup [.int c,.int n]/\c<=5/\1<=n/\n<=9/\n*n*2^c<=200) (Ki ([W.int d].map some++List.replicate (2-1) none) st) by
  obtain⟨w,⟨c,n,rfl,h1,h2,h3,h4⟩,e⟩:=ju hh
  exact⟨c,n,h1,h2,h3,h4,e⟩
 apply az
 ·(walk_at "evs")
 have hd:d%12=0\/d%12=1\/d%12=2\/d%12=3\/d%12=4\/d%12=5\/d%12=6\/d%12=7\/d%12=8\/d%12=9\/d%12=10\/d%12=11:=by
  obtain⟨m,hm,em⟩:=fE (q:=d) (n:=12) (by decide)
  rw[show d%12=_ from em]
  clear em
  revert m
  decide
 have hm:e2 eh (ai 0) (eI 12) (([W.int d].map some++List.replicate (2-1) none).set 1 (some (.tup [.tup [.int 0,.int 1],.tup [.int 0,.int 5],.tup [.int 0,.int 9],.tup [.int 1,.int 2],.tup [.int 1,.int 4],.tup [.int 1,.int 6],.tup [.int 2,.int 1],.tup [.int 2,.int 3],.tup [.int 2,.int 5],.tup [.int 3,.int 2],.tup [.int 3,.int 4],.tup [.int 5,.int 2]]))) st=.ok (.int (d%12)) st:=be (ah rfl) bM (fS (by decide))
 have fin:∀(c n:Nat),c<=5->1<=n->n<=9->n*n*2^c<=200->oV [W.tup [.int 0,.int 1],.tup [.int 0,.int 5],.tup [.int 0,.int 9],.tup [.int 1,.int 2],.tup [.int 1,.int 4],.tup [.int 1,.int 6],.tup [.int 2,.int 1],.tup [.int 2,.int 3],.tup [.int 2,.int 5],.tup [.int 3,.int 2],.tup [.int 3,.int 4],.tup [.int 5,.int 2]] (d%12)=some (.tup [.int c,.int n]) ->
   gn (sF fun w bH=>(∃x,bH=st++x)/\undWs st.length [w]=true/\∃c n:Nat,w=.tup [.int c,.int n]/\c<=5/\1<=n/\n<=9/\n*n*2^c<=200) (cH (e2 bG (ai 1) (e2 eh (ai 0) (eI 12))) (([W.int d].map some++List.replicate (2-1) none).set 1 (some (.tup [.tup [.int 0,.int 1],.tup [.int 0,.int 5],.tup [.int 0,.int 9],.tup [.int 1,.int 2],.tup [.int 1,.int 4],.tup [.int 1,.int 6],.tup [.int 2,.int 1],.tup [.int 2,.int 3],.tup [.int 2,.int 5],.tup [.int 3,.int 2],.tup [.int 3,.int 4],.tup [.int 5,.int 2]]))) st):=fun c n h1 h2 h3 h4 e=>by
  apply bN
  ·exact be (ah rfl) hm (c_ e)
  ·exact⟨_,_,rfl,⟨[],by simp⟩,rfl,c,n,rfl,h1,h2,h3,h4⟩
 rcases hd with h|h|h|h|h|h|h|h|h|h|h|h
 ·exact fin 0 1 (by decide) (by decide) (by decide) (by decide) (by rw[h];rfl)
 ·exact fin 0 5 (by decide) (by decide) (by decide) (by decide) (by rw[h];rfl)
 ·exact fin 0 9 (by decide) (by decide) (by decide) (by decide) (by rw[h];rfl)
 ·exact fin 1 2 (by decide) (by decide) (by decide) (by decide) (by rw[h];rfl)
 ·exact fin 1 4 (by decide) (by decide) (by decide) (by decide) (by rw[h];rfl)
 ·exact fin 1 6 (by decide) (by decide) (by decide) (by decide) (by rw[h];rfl)
 ·exact fin 2 1 (by decide) (by decide) (by decide) (by decide) (by rw[h];rfl)
 ·exact fin 2 3 (by decide) (by decide) (by decide) (by decide) (by rw[h];rfl)
 ·exact fin 2 5 (by decide) (by decide) (by decide) (by decide) (by rw[h];rfl)
 ·exact fin 3 2 (by decide) (by decide) (by decide) (by decide) (by rw[h];rfl)
 ·exact fin 3 4 (by decide) (by decide) (by decide) (by decide) (by rw[h];rfl)
 ·exact fin 5 2 (by decide) (by decide) (by decide) (by decide) (by rw[h];rfl)
theorem x_{st:List am}{n:Nat}{ls:List (List Nat)}(h:lstOf st n=some (ls.map W.str))(hl:ls.length<64):nU [.loc n] st=.ok (.loc st.length) (st++[.lst ((ij ls).map W.str)]):=by
 show m7 [.loc n] st=_
 unfold m7
 simp only[h,d9,tQ]
 rw[aD hl]
theorem rV{a b:List (List Nat)}(h:a.Perm b):(a.map List.length).sum=(b.map List.length).sum:=by
 induction h with
 |nil=>rfl
 |cons x _ ih=>simp only[aK,iU,ih]
 |swap x y l=>simp only[aK,iU];omega
 |trans _ _ ih1 ih2=>rw[ih1,ih2]
theorem ya(l:List Nat):(((l.map fun c=>[c])).map List.length).sum=l.length:=by
 induction l with
 |nil=>rfl
 |cons a r ih=>simp only[aK,iU,ba,ih,b9];omega
def Cn(l:List Nat):List Nat:=lX [] (ij (l.map fun c=>[c]))
theorem Iy(l:List Nat):(Cn l).length=l.length:=by
 unfold Cn;rw[kL,List.length_flatten,rV (fU _),ya]
theorem E8(l:List Nat):(Cn l).Perm l:=by
 unfold Cn;rw[kL]
 have h:(ij (l.map fun c=>[c])).flatten.Perm (l.map fun c=>[c]).flatten:=(fU _).flatten
 refine h.trans (.of_eq ?_)
 induction l with
 |nil=>rfl
 |cons a r ih=>
  have ih':=ih ((fU _).flatten)
  simp only[aK,ky,ih',List.cons_append,fB]
theorem Iz{fe:FE}{ρ:cB}{st s1:List am}{n:Nat}{l:List Nat}(h:fe ρ st=.ok (.loc n) s1)(hc:lstOf s1 n=some ((l.map fun c=>[c]).map W.str))(hl:l.length<64) :
  GT l8 (eC (.str [])) (aj (bx nU (aj fe aC)) aC) ρ st=.ok (.str (Cn l)) (s1++[.lst ((ij (l.map fun c=>[c])).map W.str)]):=by
 have hs:=x_ hc (by simpa using hl)
 have hcell2:lstOf (s1++[am.lst ((ij (l.map fun c=>[c])).map W.str)]) s1.length=some ((ij (l.map fun c=>[c])).map W.str):=bj cq
 have hj:=zv (sep:=[]) hcell2 (by rw[rV (fU _),ya];show _<=1000000;simp;omega)
 exact Iu bM rfl (ak (bw (ak h aF) hs) aF) hj
theorem E9(pool:List Nat)(c:Nat)(hp:pool.length<=50)(hc:c<=pool.length)(st:List am):xR [.str pool,.int c] st=.ok (.str (Cn (pool.take c))) st:=by
 have hL:pool.length<=j8:=by show _<=1000000;omega
 have hcm:fj [none,some 0] (bY (aj (ai 1) aC)) (f_ 0) mj (e2 bG (ai 1) (ai 0)) [some (.str pool),some (.int c)] st=.ok (.loc st.length) (st++[.lst (((pool.take c).map fun c=>[c]).map W.str)]):=by
  have:=oI (fi:=bY (aj (ai 1) aC)) (f:=f_ 0) (el:=e2 bG (ai 1) (ai 0)) (cap:=[none,some 0]) (ρ:=[some (.str pool),some (.int c)]) (st:=st) (st1:=st) (ws:=c8 0 c) (ck:=none) (fun w=>match w with|.int i=>.str [pool.getD i.toNat 0]|_=>.non)
   (by
    have:=fD (fs:=aj (ai 1) aC) (ρ:=[some (.str pool),some (.int c)]) (st:=st) (st1:=st) (q:=(c:Int)) (ak (ah rfl) aF) (by omega)
    rw[bB]at this
    exact this) (by rw[cE];show _<=1000000;omega) trivial ?_
  ·have e:(c8 0 c).map (fun w=>match w with|.int i=>W.str [pool.getD i.toNat 0]|_=>.non)=((pool.take c).map fun c=>[c]).map W.str:=by
    refine List.ext_getElem (by simp[cE];omega) fun i h1 h2=>?_
    have hi:i<c:=by simpa[cE]using h1
    rw[dE,dE,dE,List.getElem_take]
    unfold c8
    rw[dE,List.getElem_range]
    show W.str [pool.getD ((0:Int)+(i:Int)).toNat 0]=_
    rw[show((0:Int)+(i:Int)).toNat=i by omega,ax,ac (by omega)];rfl
   rw[this,e]
  ·intro w hw
   obtain⟨i,hi,rfl⟩:=m_ hw
   refine⟨[some (.int (0+(i:Int))),some (.str pool)],rfl,be (ah rfl) (ah rfl) ?_⟩
   rw[show((0:Int)+(i:Int))=(i:Int) by omega]
   have e2:oV pool (i:Int)=some (pool.getD i 0):=fI (by rw[ax,ac (by omega)];rfl)
   rw[Eb hL e2]
   simp
 have cY:(pool.take c).length=c:=by rw[aY];omega
 have hj:=Iz hcm (bj cq) (by omega)
 refine fJ (N:=2) (ws:=[.str pool,.int c]) (body:=Kj) ?_ rfl
 apply bN
 ·exact hj
 ·exact⟨_,_,rfl,rfl,_,by rw[aW]⟩
theorem Nf{fs:FA}{ρ:cB}{st st1:List am}{i j k:Int}(h:fs ρ st=.ok [.int i,.int j,.int k] st1)(hq:-(2^60)<=i/\i<2^60/\-(2^60)<=j/\j<2^60/\0<k/\k<=1000):uW fs ρ st=.ok (pW i k (nD i j k),none) st1:=by
 unfold uW;rw[h];simp only[R.bind_ok];rw[aD hq]
theorem E_{i k:Int}{n m:Nat}{w:W}(h:(pW i k n)[m]?=some w):m<n/\w=.int (i+m*k):=by
 unfold pW at h
 obtain⟨h1,h2⟩:=aa.mp h
 simp only[av,fG]at h1
 exact⟨h1,by rw[<- h2];simp⟩
theorem Co(i k:Int)(n:Nat):(pW i k n).length=n:=by simp[pW]
theorem uh{n0:Nat}{st:List am}{ns:List Int}(h0:st[n0]?=some (.ro (ns.map W.int)))(a:Int)(nv:Nat)(Jg:Int)(hm:nv<=1000) :
  ∃(j:Nat) (x:List am) (ds:List Int),ds.length=nv/\(∀d∈ds,0<=d)/\x[j]?=some (.lst (nr ds))/\rR [.loc n0,.int a,.int nv,.int Jg] st=.ok (.loc (st.length+j)) (st++x):=by
 suffices hh:gn (sF fun w bH=>∃j x,w=.loc (st.length+j)/\bH=st++x/\∃ds:List Int,ds.length=nv/\(∀d∈ds,0<=d)/\x[j]?=some (.lst (nr ds))) (Kk ([W.loc n0,.int a,.int nv,.int Jg].map some++List.replicate (6-4) none) st) by
  obtain⟨j,x,⟨ds,h1,h2,h3⟩,e⟩:=oH hh
  exact⟨j,x,ds,h1,h2,h3,e⟩
 apply az
 ·(walk_at "evs")
 refine dL (fun i ρ s=>∃(p:Nat) (ds:List Int) (o5:Option W),ρ=[some (.loc n0),some (.int a),some (.int nv),some (.int Jg),some (.loc p),o5]/\st <+: s/\st.length<=p/\s[p]?=some (.lst (nr ds))/\ds.length=min nv (50*i)/\∀d∈ds,0<=d) (Nf (i:=0) (j:=nv) (k:=50) (st1:=st++[am.lst []]) (by(walk_at "evs")) (by omega))
  ⟨st.length,[],none,rfl,aE _ _,aA _,cq,by simp,by simp⟩ (fun _ _ _ _=>trivial) ?_ ?_
 ·rintro i w ρ s hw ⟨p,ds,o5,rfl,hp,qJ,hc,hl,CB⟩
  obtain⟨hi,rfl⟩:=E_ hw
  refine⟨_,rfl,?_⟩
  have oN:(50:Int)*i<nv:=by
   unfold nD at hi
   split at hi
   ·omega
   ·omega
  obtain⟨c,ec⟩:=nb (pre_get hp h0) (a+(0+(i:Int)*50)/50)
  obtain⟨mm,hmm,emm⟩:∃mm:Nat,mm=min 50 (nv-50*i)/\zb [.int 50,.int ((nv:Int)-(0+(i:Int)*50))] s=.ok (.int mm) s:=by
   refine⟨min 50 (nv-50*i),rfl,?_⟩
   show R.ok (W.int (if (nv:Int)-(0+(i:Int)*50)<50 then(nv:Int)-(0+(i:Int)*50)else 50)) s=_
   congr 2
   split<;>omega
  obtain⟨es,hes,hep,ee⟩:=kS c (Jg+1009*(0+(i:Int)*50)) mm (by omega) s
  have ad:=Ea (st:=s++[am.lst (es.map W.int)]) (pre_get (aE _ _) hc) cq (by simp[nr];show _<=1000000;omega)
  have cm:y_ 1009 (0+(i:Int)*50):=.inl (by decide)
  apply cy
  ·(walk_at "evs")
   all_goals first|exact cm|exact(by decide)
  ·refine⟨_,_,rfl,_,ds++es,_,rfl,jv (jv hp),?_,?_,?_,?_⟩
   ·have:=Nd hc;simp;omega
   ·rw[cq];simp[nr]
   ·rw[ay];omega
   ·intro d hd
    rcases a7.mp hd with z|z
    ·exact CB d z
    ·exact hep d z
 ·rintro ρ s ⟨p,ds,o5,rfl,⟨x,rfl⟩,qJ,hc,hl,CB⟩
  rw[Co]at hl
  have hmn:nv<=50*nD 0 nv 50:=by
   unfold nD
   split
   ·omega
   ·omega
  apply bN
  ·(walk_at "evs")
  ·refine⟨_,_,rfl,p-st.length,x,by rw[show st.length+(p-st.length)=p by omega],rfl,ds,by omega,CB,?_⟩
   rw[eU qJ]at hc
   exact hc
theorem Fa(g l r:Nat)(st:List am):∃k:Nat,ue [.int g,.int l,.int r] st=.ok (.int k) st:=by
 by_cases h0:g=0
 ·subst h0
  refine⟨l+r,?_⟩
  apply fx
  apply eR
  ·(walk_at "evs")
  apply eQ
  ·(walk_at "evs")
  ·exact⟨_,_,rfl,rfl,rfl⟩
 ·have t0:((g:Int)==0)=false:=by rw[aO];omega
  by_cases h1:g=1
  ·subst h1
   refine⟨if r>l then r else l,?_⟩
   have mx:DG [.int l,.int r] st=.ok (.int ((if r>l then r else l:Nat):Int)) st:=by
    show R.ok (W.int (if (r:Int)>(l:Int)then(r:Int)else(l:Int))) st=_
    congr 2
    split<;>split<;>omega
   apply fx
   apply bJ
   ·(walk_at "evs")
   apply bZ
   apply eR
   ·(walk_at "evs")
   apply eQ
   ·(walk_at "evs")
   ·exact⟨_,_,rfl,rfl,rfl⟩
  ·have t1:((g:Int)==1)=false:=by rw[aO];omega
   by_cases h2:g=2
   ·subst h2
    refine⟨l,?_⟩
    apply fx
    apply bJ
    ·(walk_at "evs")
    apply bZ
    apply bJ
    ·(walk_at "evs")
    apply bZ
    apply eR
    ·(walk_at "evs")
    apply eQ
    ·(walk_at "evs")
    ·exact⟨_,_,rfl,rfl,rfl⟩
   ·have t2:((g:Int)==2)=false:=by rw[aO];omega
    refine⟨r,?_⟩
    apply fx
    apply bJ
    ·(walk_at "evs")
    apply bZ
    apply bJ
    ·(walk_at "evs")
    apply bZ
    apply bJ
    ·(walk_at "evs")
    apply bZ
    apply bN
    ·(walk_at "evs")
    ·exact⟨_,_,rfl,rfl,rfl⟩
section
variable{cap:List (Option Nat)}{ρ:cB}{st:List am}{el:FE}{fs:FA}{n:Nat}
theorem IA{β:Type}(V:β->W)(Pb:Nat->β->Prop)(hr:fs ρ st=.ok [.int n] st)(hn:n<=100000)(h:∀i:Nat,i<n->∃b,Pb i b/\el ((nq cap ρ).set 0 (some (.int i))) st=.ok (V b) st) :
  ∃r:List β,r.length=n/\(∀i b,r[i]?=some b->Pb i b)/\fj cap (bY fs) (f_ 0) mj el ρ st=.ok (.loc st.length) (st++[.lst (r.map V)]):=by
 let f:Fin n->β:=fun i=>Classical.choose (h i i.2)
 have hf:∀i:Fin n,Pb i (f i)/\el ((nq cap ρ).set 0 (some (.int (i:Nat)))) st=.ok (V (f i)) st:=fun i=>Classical.choose_spec (h i i.2)
 let Y:W->W:=fun w=>match w with
  |.int z=>if hz:z.toNat<n then V (f ⟨z.toNat,hz⟩)else .non
  |_=>.non
 have ir:bY fs ρ st=.ok (c8 0 n,none) st:=by
  have:=fD hr (by omega)
  rw[bB]at this
  exact this
 have hc:=oI (fi:=bY fs) (f:=f_ 0) (el:=el) (cap:=cap) (ρ:=ρ) Y ir (by rw[cE];show _<=1000000;omega) trivial fun w hw=>by
  obtain⟨i,hi,rfl⟩:=m_ hw
  refine⟨_,rfl,?_⟩
  rw[show((0:Int)+(i:Int))=(i:Int) by omega]
  show _=R.ok (if hz:(i:Int).toNat<n then V (f ⟨(i:Int).toNat,hz⟩)else .non) st
  rw[dif_pos (show(i:Int).toNat<n by omega)]
  exact(hf ⟨i,hi⟩).2
 refine⟨List.ofFn f,by simp,fun i b hb=>?_,?_⟩
 ·obtain⟨h1,h2⟩:=aa.mp hb
  rw[List.getElem_ofFn]at h2
  rw[<- h2]
  exact(hf ⟨i,by simpa using h1⟩).1
 ·rw[hc]
  have e:(c8 0 n).map Y=(List.ofFn f).map V:=by
   refine List.ext_getElem (by simp[cE]) fun i h1 h2=>?_
   have hi:i<n:=by simpa[cE]using h1
   rw[dE,dE,List.getElem_ofFn]
   unfold c8
   rw[dE,List.getElem_range,show((0:Int)+(i:Int))=(i:Int) by omega]
   show(if hz:(i:Int).toNat<n then V (f ⟨(i:Int).toNat,hz⟩)else .non)=_
   rw[dif_pos (show(i:Int).toNat<n by omega)]
  rw[e]
theorem vE{β:Type}(V:β->W)(Pb:Nat->β->Prop)(hr:fs ρ st=.ok [.int n] st)(hn:n<=100000)(h:∀i:Nat,i<n->∃b,Pb i b/\el ((nq cap ρ).set 0 (some (.int i))) st=.ok (V b) st) :
  ∃r:List β,r.length=n/\(∀i b,r[i]?=some b->Pb i b)/\bx d_ (aj (fj cap (bY fs) (f_ 0) mj el) aC) ρ st=.ok (.tup (r.map V)) (st++[.lst (r.map V)]):=by
 obtain⟨r,h1,h2,e⟩:=IA (cap:=cap) (el:=el) V Pb hr hn h
 exact⟨r,h1,h2,bw (ak e aF) (gy (bj cq))⟩
end
structure Mc where
 nm:List Nat
 gd:List Bool
 tb:List (List (List Nat))
def iX(r:List Nat):W:=.tup (r.map fun k=>W.int (k:Nat))
def hG(t:List (List Nat)):W:=.tup (t.map iX)
def Mc.w(M:Mc):W:=.tup [.str M.nm,.tup (M.gd.map W.bl),.tup (M.tb.map hG)]
def RA(n:Nat)(t:List (List Nat)):Prop:=t.length=n/\∀r∈t,r.length=n/\∀k∈r,k<n
structure ng(M:Mc)(n:Nat):Prop where
 gd:M.gd.length=n
 tb:M.tb.length=2^M.nm.length
 t:∀t∈M.tb,RA n t
theorem A5(r:List Nat)(n:Nat):(iX r).und n=true:=by
 unfold iX W.und
 induction r with
 |nil=>rfl
 |cons x r ih=>simp only[aK,undWs,ih,bc];rfl
theorem IB(t:List (List Nat))(n:Nat):(hG t).und n=true:=by
 unfold hG W.und
 induction t with
 |nil=>rfl
 |cons x r ih=>simp only[aK,undWs,ih,bc];exact A5 x n
theorem Fb(t:List (List (List Nat)))(n:Nat):undWs n (t.map hG)=true:=by
 induction t with
 |nil=>rfl
 |cons x r ih=>simp only[aK,undWs,ih,bc];exact IB x n
theorem IC(t:List Bool)(n:Nat):undWs n (t.map W.bl)=true:=by
 induction t with
 |nil=>rfl
 |cons x r ih=>simp only[aK,undWs,ih,bc];rfl
theorem pA(M:Mc)(n:Nat):M.w.und n=true:=by
 unfold Mc.w
 simp[W.und,undWs,Fb,IC]
theorem AE{c:Nat}{st:List am}(h:c<=100):wT (.int 1) (.int c) st=.ok (.int ((2^c:Nat):Int)) st:=by
 have:=fS (C:=fun i j=>0<=j/\j<=1000000/\i.natAbs<2^64) (f:=fun i j=>i*2^j.toNat) (p:=1) (q:=(c:Int)) (st:=st) ⟨by omega,by omega,by decide⟩
 rw[show wT (.int 1) (.int c) st=_ from this]
 simp
theorem mU{s:List am}{p:Nat}{ws:List W}{y:W}(h:s[p]?=some (.lst ws))(hl:ws.length<1000000):cb (.loc p) [y] s=.ok .non (s.set p (.lst (ws++[y]))):=kh h hl
theorem Cp(nm:List Nat)(n dl:Nat)(ds:List Int)(st:List am)(vX:nm.length<=6)(hn:1<=n)(Bj:n<=9)(hd:st[dl]?=some (.lst (nr ds)))(Aj:4<=ds.length)(CB:∀d∈ds,0<=d) :
  ∃M:Mc,M.nm=nm/\ng M n/\xS [.str nm,.int n,.loc dl] st=.ok M.w st:=by
 suffices hh:gn (sF fun w bH=>(∃x,bH=st++x)/\undWs st.length [w]=true/\∃M:Mc,w=M.w/\M.nm=nm/\ng M n) (Kl ([W.str nm,.int n,.loc dl].map some++List.replicate (9-3) none) st) by
  obtain⟨w,⟨M,rfl,h1,h2⟩,e⟩:=ju hh
  exact⟨M,h1,h2,e⟩
 obtain⟨d0,d1,d2,d3,dr,rfl⟩:∃a b c d r,ds=a::b::c::d::r:=by
  match ds,Aj with
  |a::b::c::d::r,_=>exact⟨_,_,_,_,_,rfl⟩
 have cY:∀s:List am,dJ [.str nm] s=.ok (.int nm.length) s:=fun s=>u_ (by show _<=1000000;omega)
 have p2:2^nm.length<=64:=i8 (by omega) vX
 obtain⟨N,hN⟩:∃N,N=2^nm.length:=⟨_,rfl⟩
 have sh:∀s:List am,wT (.int 1) (.int nm.length) s=.ok (.int N) s:=fun s=>by rw[hN];exact AE (by omega)
 rw[<- hN]at p2
 have ix0:∀s:List am,st <+: s->bG (.loc dl) (.int 0) s=.ok (.int d0) s:=fun s h=>eA (i:=0) (pre_get h hd) rfl
 have ix1:∀s:List am,st <+: s->bG (.loc dl) (.int 1) s=.ok (.int d1) s:=fun s h=>eA (i:=1) (pre_get h hd) rfl
 have ix2:∀s:List am,st <+: s->bG (.loc dl) (.int 2) s=.ok (.int d2) s:=fun s h=>eA (i:=2) (pre_get h hd) rfl
 have ix3:∀s:List am,st <+: s->bG (.loc dl) (.int 3) s=.ok (.int d3) s:=fun s h=>eA (i:=3) (pre_get h hd) rfl
 apply az
 ·(walk_at "evs")
 refine dL (fun i ρ s=>∃(tb:List (List (List Nat))) (o4 o5 o6 o7:Option W),ρ=[some (.str nm),some (.int n),some (.loc dl),some (.loc st.length),o4,o5,o6,o7,none]/\st <+: s/\s[st.length]?=some (.lst (tb.map hG))/\tb.length=i/\∀t∈tb,RA n t)
  (fD (q:=(N:Int)) (st1:=st++[am.lst []]) (ak (be bM (bw (ak (ah rfl) aF) (cY _)) (sh _)) aF) (by omega))
  ⟨[],none,none,none,none,rfl,aE _ _,cq,rfl,by simp⟩ (fun _ _ _ _=>trivial) ?_ ?_
 ·rintro i w ρ s hw ⟨tb,o4,o5,o6,o7,rfl,hp,hc,hl,ht⟩
  obtain⟨hi,rfl⟩:=gD hw
  refine⟨_,rfl,?_⟩
  have hl1:=cY s
  have i1:=ix1 s hp
  apply az
  ·(walk_at "evs")
  refine im (fun ρ s'=>∃(m:Nat) (o4:Option W),ρ=[some (.str nm),some (.int n),some (.loc dl),some (.loc st.length),o4,some (.int m),o6,o7,none]/\s'=s) ?_ ?_
  ·by_cases h0:nm.length=0
   ·have t0:((nm.length:Int)==0)=true:=by rw[cv];omega
    apply iJ
    ·(walk_at "evs")
    apply cy
    ·(walk_at "evs")
    ·exact⟨_,_,rfl,1,_,rfl,rfl⟩
   ·have t0:((nm.length:Int)==0)=false:=by rw[aO];omega
    apply hV
    ·(walk_at "evs")
    apply cy
    ·(walk_at "evs")
    ·exact⟨_,_,rfl,((0+(i:Int))%2+d1%2).toNat,_,by rw[Int.toNat_of_nonneg (by omega)];rfl,rfl⟩
  rintro ρ s' ⟨m,o4,rfl,rfl⟩
  apply az
  ·(walk_at "evs")
  refine dL (fun j ρ z=>∃(rows:List (List Nat)) (o7:Option W),ρ=[some (.str nm),some (.int n),some (.loc dl),some (.loc st.length),o4,some (.int m),some (.loc s'.length),o7,none]/\s' <+: z/\z[s'.length]?=some (.lst (rows.map iX))/\rows.length=j/\∀r∈rows,r.length=n/\∀k∈r,k<n)
   (fD (q:=(n:Int)) (st1:=s'++[am.lst []]) (by(walk_at "evs")) (by omega)) ⟨[],_,rfl,aE _ _,cq,rfl,by simp⟩ (fun _ _ _ _=>trivial) ?_ ?_
  ·rintro j w ρ z hw ⟨rows,o7,rfl,hz,hcz,hrl,hr⟩
   obtain⟨hj,rfl⟩:=gD hw
   refine⟨_,rfl,?_⟩
   obtain⟨g,hg,eg⟩:=fE (q:=d0) (n:=4) (by omega)
   have eg:d0%4=(g:Int):=eg
   obtain⟨r,hrn,hrb,er⟩:=vE (cap:=[none,some 1,some 5,some 7,some 2]) (ρ:=[some (.str nm),some (.int n),some (.loc dl),some (.loc st.length),o4,some (.int m),some (.loc s'.length),some (.int (0+(j:Int))),none]) (st:=z) (fs:=aj (ai 1) aC) (n:=n)
    (el:=bx zb (aj (e2 qf (ai 1) (eI 1)) (aj (e2 c7 (cC 3 ue (aj (e2 eh (e2 bG (ai 4) (eI 0)) (eI 4)) (aj (ai 3) (aj (ai 0) aC)))) (ai 2)) aC))) (fun k:Nat=>W.int (k:Nat)) (fun _ k=>k<n) (ak (ah rfl) aF) (by omega) fun q hq=>by
     obtain⟨k,ek⟩:=Fa g j q z
     rw[<- eg,show(j:Int)=0+(j:Int) by omega]at ek
     refine⟨min (n-1) (k+m),by omega,?_⟩
     refine bw (ak (be (ah rfl) bM (fS trivial)) (ak (be (b8 (ak (be (be (ah rfl) bM (ix0 z (hp.trans hz))) bM (fS (by decide))) (ak (ah rfl) (ak (ah rfl) aF))) ek rfl) (ah rfl) db) aF)) ?_
     show R.ok (W.int (if (k:Int)+(m:Int)<(n:Int)-1 then(k:Int)+(m:Int)else(n:Int)-1)) z=_
     congr 2
     split<;>omega
   have ap:=mU (y:=iX r) (pre_get (s:=z++[.lst (r.map fun k:Nat=>W.int k)]) (aE _ _) hcz) (by rw[av];omega)
   apply cy
   ·exact eS (ik (ah rfl) (dF hcz) (ak er aF) ap)
   ·refine⟨_,_,rfl,rows++[r],_,rfl,gX (jv hz) (aA _),?_,by simp[hrl],?_⟩
    ·rw[jN (pre_get (aE _ _) hcz)];simp
    ·intro x hx
     rcases a7.mp hx with y|y
     ·exact hr x y
     ·simp at y;subst y
      refine⟨hrn,fun k hk=>?_⟩
      obtain⟨q,hq⟩:=cL hk
      exact hrb q k hq
  ·rintro ρ z ⟨rows,o7,rfl,hz,hcz,hrl,hr⟩
   have hrl:rows.length=n:=by rw[hrl];simp[cE]
   have hcp:=pre_get hz hc
   have ap:=mU (y:=hG rows) hcp (by rw[av,hl];omega)
   apply cy
   ·exact eS (ik (ah rfl) (dF hcp) (ak (bw (ak (ah rfl) aF) (gy (bj hcz))) aF) ap)
   ·refine⟨_,_,rfl,tb++[rows],_,_,_,_,rfl,gX (hp.trans hz) (aA _),?_,by simp[hl],?_⟩
    ·rw[jN hcp];simp
    ·intro x hx
     rcases a7.mp hx with y|y
     ·exact ht x y
     ·simp at y;subst y
      exact⟨hrl,hr⟩
 ·rintro ρ s ⟨tb,o4,o5,o6,o7,rfl,hp,hc,hl,ht⟩
  have hl:tb.length=N:=by rw[hl];simp[cE]
  have i2:=ix2 s hp
  have i3:=ix3 s hp
  apply az
  ·(walk_at "evs")
  refine im (fun ρ s'=>∃k:Int,ρ=[some (.str nm),some (.int n),some (.loc dl),some (.loc st.length),o4,o5,o6,o7,some (.int k)]/\s'=s) ?_ ?_
  ·by_cases h1:d2%2=1
   ·have t1:(d2%2==1)=true:=cv.mpr h1
    have pn:(0:Int)<(n:Int):=by omega
    apply iJ
    ·(walk_at "evs")
    apply cy
    ·(walk_at "evs")
     all_goals exact pn
    ·exact⟨_,_,rfl,_,rfl,rfl⟩
   ·have t1:(d2%2==1)=false:=aO.mpr h1
    apply hV
    ·(walk_at "evs")
    apply cy
    ·(walk_at "evs")
    ·exact⟨_,_,rfl,_,rfl,rfl⟩
  rintro ρ s' ⟨k,rfl,rfl⟩
  obtain⟨gd,hgl,_,eg⟩:=vE (cap:=[none,some 8]) (ρ:=[some (.str nm),some (.int n),some (.loc dl),some (.loc st.length),o4,o5,o6,o7,some (.int k)]) (st:=s') (fs:=aj (ai 1) aC) (n:=n)
   (el:=e2 jC (ai 0) (ai 1)) W.bl (fun _ _=>True) (ak (ah rfl) aF) (by omega) fun q hq=>⟨_,trivial,be (ah rfl) (ah rfl) (fK rfl)⟩
  obtain⟨x,rfl⟩:=hp
  apply bN
  ·exact gP (ak (ah rfl) (ak eg (ak (bw (ak (ah rfl) aF) (gy (bj (pre_get (aE _ _) hc)))) aF))) (aM rfl)
  ·exact⟨_,_,rfl,⟨_,by rw[aW]⟩,by simp only[undWs,bc];exact pA ⟨nm,gd,tb⟩ _,⟨nm,gd,tb⟩,rfl,rfl,hgl,by rw[hl,hN],ht⟩
theorem Fc{n q:Nat}(h:q<n):Aw n (q:Int)=some q:=by
 unfold Aw
 rw[aD (by omega),aD (by omega)];simp
theorem zI{s:List am}{p q:Nat}{ws:List W}{v:W}(h:s[p]?=some (.lst ws))(hq:q<ws.length):ou (.loc p) (.int q) v s=some (s.set p (.lst (ws.set q v))):=Ec h (Fc hq)
theorem Fd{fs:FA}{ρ:cB}{st st1:List am}{i j:Int}(h:fs ρ st=.ok [.int i,.int j] st1)(hq:-(2^62)<=i/\i<2^62/\-(2^62)<=j/\j<2^62):oA fs ρ st=.ok (c8 i (j-i).toNat,none) st1:=by
 unfold oA;rw[h];simp only[R.bind_ok];rw[aD hq]
theorem zJ{ws:List W}{s:List am}:qZ [.tup ws] s=.ok (.loc s.length) (s++[.lst ws]):=rfl
theorem vF{α:Type}{l:List α}{i:Nat}{x y:α}(h:y∈l.set i x):y∈l\/y=x:=List.mem_or_eq_of_mem_set h
theorem zK(M:Mc)(n sl:Nat)(ds:List Int)(st:List am)(hM:ng M n)(hn:1<=n)(Bj:n<=9)(hd:st[sl]?=some (.lst (nr ds)))(Aj:ds.length=4) :
  ∃M':Mc,M'.nm=M.nm/\ng M' n/\xU [M.w,.loc sl] st=.ok M'.w st:=by
 obtain⟨d0,d1,d2,d3,rfl⟩:∃a b c d,ds=[a,b,c,d]:=by
  match ds,Aj with
  |[a,b,c,d],_=>exact⟨_,_,_,_,rfl⟩
 have hT:0<M.tb.length:=by rw[hM.tb];exact Nat.pow_pos (by omega)
 obtain⟨a,ha,ea⟩:=fE (q:=d0) (n:=M.tb.length) hT
 obtain⟨b,hb,eb⟩:=fE (q:=d1) (n:=n) (by omega)
 obtain⟨c,hc,ec⟩:=fE (q:=d2) (n:=n) (by omega)
 obtain⟨v,hv,ev⟩:=fE (q:=d3) (n:=n) (by omega)
 have pT:(0:Int)<(M.tb.length:Int):=by omega
 have pn:(0:Int)<(n:Int):=by omega
 obtain⟨rows,hrows⟩:∃r,M.tb[a]?=some r:=⟨_,ac ha⟩
 obtain⟨r1,r2⟩:=hM.t rows (aT hrows)
 obtain⟨row,CI⟩:∃r,rows[b]?=some r:=⟨_,ac (by omega)⟩
 obtain⟨q1,q2⟩:=r2 row (aT CI)
 have g0:bG M.w (.int 0) st=.ok (.str M.nm) st:=rfl
 have g1:∀s,bG M.w (.int 1) s=.ok (.tup (M.gd.map W.bl)) s:=fun _=>rfl
 have g2:∀s,bG M.w (.int 2) s=.ok (.tup (M.tb.map hG)) s:=fun _=>rfl
 generalize hs3:st++[am.lst (M.tb.map hG)]=s3
 have c3:s3[st.length]?=some (.lst (M.tb.map hG)):=by rw[<- hs3];exact cq
 have h3:st <+: s3:=by rw[<- hs3];exact aE _ _
 generalize hs5:s3++[am.lst (rows.map iX)]=s5
 have c5:s5[s3.length]?=some (.lst (rows.map iX)):=by rw[<- hs5];exact cq
 have h5:s3 <+: s5:=by rw[<- hs5];exact aE _ _
 generalize hs6:s5++[am.lst (row.map fun k:Nat=>W.int k)]=s6
 have c6:s6[s5.length]?=some (.lst (row.map fun k:Nat=>W.int k)):=by rw[<- hs6];exact cq
 have h6:s5 <+: s6:=by rw[<- hs6];exact aE _ _
 have l3:st.length<s3.length:=by rw[<- hs3];simp
 have l5:s3.length<s5.length:=by rw[<- hs5];simp
 have l6:s5.length<s6.length:=by rw[<- hs6];simp
 have dx:∀(s:List am) (i:Nat) (d:Int),st <+: s->[d0,d1,d2,d3][i]?=some d->bG (.loc sl) (.int i) s=.ok (.int d) s:=fun s i d h e=>eA (pre_get h hd) e
 have ix4:∀s:List am,st <+: s->bG (.loc sl) (.int 0) s=.ok (.int d0) s:=fun s h=>dx s 0 d0 h rfl
 have ix1:∀s:List am,st <+: s->bG (.loc sl) (.int 1) s=.ok (.int d1) s:=fun s h=>dx s 1 d1 h rfl
 have ix2:∀s:List am,st <+: s->bG (.loc sl) (.int 2) s=.ok (.int d2) s:=fun s h=>dx s 2 d2 h rfl
 have ix3:∀s:List am,st <+: s->bG (.loc sl) (.int 3) s=.ok (.int d3) s:=fun s h=>dx s 3 d3 h rfl
 have p6:=zI (v:=.int v) c6 (q:=c) (by rw[av];omega)
 generalize hs7:s6.set s5.length (.lst ((row.map fun k:Nat=>W.int k).set c (.int v)))=s7 at p6
 have k7:st <+: s7:=by rw[<- hs7];exact gX (h3.trans (h5.trans h6)) (by omega)
 have e6:s7[s5.length]?=some (.lst ((row.set c v).map fun k:Nat=>W.int k)):=by rw[<- hs7,jN c6];simp[oT]
 have e5:s7[s3.length]?=some (.lst (rows.map iX)):=by rw[<- hs7,zH (by omega)];exact pre_get h6 c5
 have e3:s7[st.length]?=some (.lst (M.tb.map hG)):=by rw[<- hs7,zH (by omega)];exact pre_get (h5.trans h6) c3
 have p7:=zI (v:=iX (row.set c v)) e5 (q:=b) (by rw[av];omega)
 generalize hs8:s7.set s3.length (.lst ((rows.map iX).set b (iX (row.set c v))))=s8 at p7
 have k8:st <+: s8:=by rw[<- hs8];exact gX k7 (by omega)
 have f5:s8[s3.length]?=some (.lst ((rows.set b (row.set c v)).map iX)):=by rw[<- hs8,jN e5];simp[oT]
 have f3:s8[st.length]?=some (.lst (M.tb.map hG)):=by rw[<- hs8,zH (by omega)];exact e3
 have p8:=zI (v:=hG (rows.set b (row.set c v))) f3 (q:=a) (by rw[av];omega)
 generalize hs9:s8.set st.length (.lst ((M.tb.map hG).set a (hG (rows.set b (row.set c v)))))=s9 at p8
 have k9:st <+: s9:=by rw[<- hs9];exact gX k8 (by omega)
 have z3:s9[st.length]?=some (.lst ((M.tb.set a (rows.set b (row.set c v))).map hG)):=by rw[<- hs9,jN f3];simp[oT]
 refine⟨⟨M.nm,M.gd,M.tb.set a (rows.set b (row.set c v))⟩,rfl,⟨hM.gd,by rw[<- hM.tb];simp,?_⟩,?_⟩
 ·intro t ht
  rcases vF ht with h|rfl
  ·exact hM.t t h
  ·refine⟨by simpa using r1,fun r hr=>?_⟩
   rcases vF hr with h|rfl
   ·exact r2 r h
   ·refine⟨by simpa using q1,fun k hk=>?_⟩
    rcases vF hk with h|rfl
    ·exact q2 k h
    ·exact hv
 ·refine fJ (N:=7) (ws:=[M.w,.loc sl]) (body:=Km) ?_ (by simp only[undWs,bc];exact pA _ _)
  apply az
  ·exact bz (bw (ak (be (ah rfl) bM (g1 st)) aF) iM)
  rw[av,hM.gd]
  apply az
  ·exact bz (bw (ak (be (ah rfl) bM (g2 st)) aF) zJ)
  rw[hs3]
  apply az
  ·refine bz (be (be (ah rfl) bM (ix4 s3 h3)) (bw (ak (ah rfl) aF) (i' (bj c3))) (fS ?_))
   rw[av];exact pT
  rw[av,ea]
  apply az
  ·exact bz (bw (ak (be (ah rfl) (ah rfl) (jM (bj c3) (fI (by rw[aB,hrows];rfl)))) aF) zJ)
  rw[hs5]
  apply az
  ·have iv:bG (.loc s3.length) (.int (d1%(n:Int))) s5=.ok (.tup (row.map fun k:Nat=>W.int k)) s5:=by
    rw[eb]
    exact jM (bj c5) (fI (by rw[aB,CI];rfl))
   exact bz (bw (ak (be (ah rfl) (be (be (ah rfl) bM (ix1 s5 (h3.trans h5))) (ah rfl) (fS pn)) iv) aF) zJ)
  rw[hs6]
  apply az
  ·rw[<- ec,<- ev]at p6
   exact pY (be (be (ah rfl) bM (ix3 s6 (h3.trans (h5.trans h6)))) (ah rfl) (fS pn)) (ah rfl) (be (be (ah rfl) bM (ix2 s6 (h3.trans (h5.trans h6)))) (ah rfl) (fS pn)) p6
  apply az
  ·rw[<- eb]at p7
   exact pY (bw (ak (ah rfl) aF) (gy (bj e6))) (ah rfl) (be (be (ah rfl) bM (ix1 s7 k7)) (ah rfl) (fS pn)) p7
  apply az
  ·exact pY (bw (ak (ah rfl) aF) (gy (bj f5))) (ah rfl) (ah rfl) p8
  obtain⟨x,rfl⟩:=k9
  apply bN
  ·exact gP (ak (be (ah rfl) bM rfl) (ak (be (ah rfl) bM (g1 _)) (ak (bw (ak (ah rfl) aF) (gy (bj z3))) aF))) (aM rfl)
  ·exact⟨_,_,rfl,rfl,x,rfl⟩
def nW(l:List Nat):List W:=l.map fun k=>W.int (k:Nat)
theorem rW{s:List am}{p i:Nat}{l:List Nat}{k:Nat}(h:s[p]?=some (.lst (nW l)))(e:l[i]?=some k):bG (.loc p) (.int i) s=.ok (.int k) s:=jM (bj h) (fI (by rw[nW,aB,e];rfl))
theorem Fe{s:List am}{i:Nat}{l:List Nat}{k:Nat}(e:l[i]?=some k):bG (iX l) (.int i) s=.ok (.int k) s:=c_ (fI (by rw[aB,e];rfl))
theorem Ff{s:List am}{i:Nat}{t:List (List Nat)}{r:List Nat}(e:t[i]?=some r):bG (hG t) (.int i) s=.ok (iX r) s:=c_ (fI (by rw[aB,e];rfl))
def Sx(n:Nat)(zs:List Nat):Prop:=zs.length=n/\∀r,r∈zs↔r<n
theorem Fg(n dl:Nat)(ds:List Int)(st:List am)(hn:1<=n)(Bj:n<=9)(hd:st[dl]?=some (.lst (nr ds)))(Aj:20<=ds.length) :
  ∃zs,Sx n zs/\xW [.int n,.int 0,.loc dl] st=.ok (.loc st.length) (st++[.lst (nW zs)]):=by
 suffices hh:gn (sF fun w bH=>∃j x,w=.loc (st.length+j)/\bH=st++x/\j=0/\∃zs,Sx n zs/\x=[.lst (nW zs)]) (Ko ([W.int n,.int 0,.loc dl].map some++List.replicate (6-3) none) st) by
  obtain⟨j,x,⟨rfl,zs,h1,rfl⟩,e⟩:=oH hh
  exact⟨zs,h1,e⟩
 apply az
 ·(walk_at "evs")
 refine dL (fun i ρ s=>∃(zs:List Nat) (o4 o5:Option W),ρ=[some (.int n),some (.int 0),some (.loc dl),some (.loc st.length),o4,o5]/\s=st++[.lst (nW zs)]/\zs.length=i+1/\∀r,r∈zs↔r<i+1)
  (Fd (i:=1) (j:=(n:Int)+0) (st1:=st++[am.lst [.int 0]]) (by(walk_at "evs")) (by omega))
  ⟨[0],none,none,rfl,rfl,rfl,by simp⟩ (fun _ _ _ _=>trivial) ?_ ?_
 ·rintro i w ρ s hw ⟨zs,o4,o5,rfl,rfl,hl,hm⟩
  obtain⟨hi,rfl⟩:=gD hw
  refine⟨_,rfl,?_⟩
  have hc:(st++[am.lst (nW zs)])[st.length]?=some (.lst (nW zs)):=cq
  have t0:decide ((n:Int)<=1+(i:Int))=false:=aR (by omega)
  apply az
  ·(walk_at "evs")
  apply bJ
  ·(walk_at "evs")
  apply bZ
  obtain⟨d,hdd⟩:∃d,ds[2*(1+i)]?=some d:=⟨_,ac (by omega)⟩
  have id:=eA (s:=st++[am.lst (nW zs)]) (fZ hd) hdd
  rw[show((2*(1+i):Nat):Int)=2*(1+(i:Int)) by omega]at id
  obtain⟨q,hq,eq⟩:=fE (q:=d) (n:=zs.length) (by omega)
  have ll:=i' (bj hc)
  rw[show(nW zs).length=zs.length by simp[nW]]at ll
  have pl:(0:Int)<(zs.length:Int):=by omega
  have ins:=Ef (y:=.int (1+(i:Int))) hc (k:=1+q) (by simp[nW];omega) (by simp[nW];show _<1000000;omega) (by omega)
  rw[dC,show((1+q:Nat):Int)=1+d%(zs.length:Int) by omega]at ins
  have cm:y_ 2 (1+(i:Int)):=.inl (by decide)
  apply cy
  ·exact eS (ik (ah rfl) (dF hc) (ak (be bM (be (be (ah rfl) (be bM (ah rfl) (mO cm)) id) (bw (ak (ah rfl) aF) ll) (fS pl)) db) (ak (ah rfl) aF)) ins)
  ·refine⟨_,_,rfl,zs.take (1+q)++(1+i)::zs.drop (1+q),_,_,rfl,?_,?_,?_⟩
   ·simp[nW,iV,kI]
   ·simp;omega
   ·intro r
    rw[a7,br]
    have:=hm r
    have h2:r∈zs↔r∈zs.take (1+q)\/r∈zs.drop (1+q):=by
     rw[<- a7,mv]
    constructor
    ·rintro(h|h|h)
     ·have:=this.mp (h2.mpr (.inl h));omega
     ·omega
     ·have:=this.mp (h2.mpr (.inr h));omega
    ·intro h
     by_cases e:r=1+i
     ·exact .inr (.inl e)
     ·rcases h2.mp (this.mpr (by omega))with h|h
      ·exact .inl h
      ·exact .inr (.inr h)
 ·rintro ρ s ⟨zs,o4,o5,rfl,rfl,hl,hm⟩
  rw[show(c8 1 ((n:Int)+0-1).toNat,(none:Option (Nat×List W))).fst.length=n-1 by simp[cE]]at hl hm
  apply bN
  ·(walk_at "evs")
  ·exact⟨_,_,rfl,0,_,rfl,rfl,rfl,zs,⟨by omega,fun r=>by rw[hm r];omega⟩,rfl⟩
theorem ID{cap:List (Option Nat)}{ρ:cB}{st:List am}{t:FT}{fs:FA}{n:Nat}(Pb:Nat->Bool)(hr:fs ρ st=.ok [.int n] st)(hn:n<=100000)(h0:0<cap.length)(h:∀i:Nat,i<n->t ((nq cap ρ).set 0 (some (.int i))) st=.ok (Pb i) st) :
  fj cap (bY fs) (f_ 0) t (ai 0) ρ st=.ok (.loc st.length) (st++[.lst (nW ((List.range n).filter Pb))]):=by
 have ir:bY fs ρ st=.ok (c8 0 n,none) st:=by
  have:=fD hr (by omega)
  rw[bB]at this
  exact this
 rw[vd (fi:=bY fs) (f:=f_ 0) (t:=t) (el:=ai 0) (cap:=cap) (ρ:=ρ) (fun w=>match w with|.int z=>Pb z.toNat|_=>false) id ir (by rw[cE];show _<=1000000;omega) trivial fun w hw=>by
  obtain⟨i,hi,rfl⟩:=m_ hw
  rw[show((0:Int)+(i:Int))=(i:Int) by omega]
  exact⟨_,rfl,h i hi,fun _=>ah (by rw[bb (by simp[nq];exact h0)];rfl)⟩]
 congr 4
 unfold c8 nW
 rw[jh,bK]
 have e:((fun w=>match w with|W.int z=>Pb z.toNat|_=>false)∘fun k:Nat=>W.int (0+(k:Int)))=Pb:=by
  funext k
  show Pb (0+(k:Int)).toNat=Pb k
  congr 1;omega
 rw[e]
 refine cD fun k _=>?_
 show W.int (0+(k:Int))=_
 rw[jB]
theorem KC{fe:FE}{f:FG}{ρ ρ':cB}{st st1:List am}{w:W}(h:fe ρ st=.ok w st1)(h2:f w ρ=some ρ'):zd fe f ρ st=.nx ρ' st1:=by
 unfold zd;rw[h];simp only[R.stmt_ok];rw[h2]
theorem Fh(M:Mc)(n ow dl:Nat)(zs:List Nat)(ds:List Int)(st:List am)(hM:ng M n)(Bj:n<=200)(ho:Sx n zs)(hc:st[ow]?=some (.lst (nW zs)))(hd:st[dl]?=some (.lst (nr ds)))(Aj:0<ds.length)(Tx:ds.length<=1000)(vX:M.nm.length<=10) :
  ∃M':Mc,M'.nm=M.nm/\ng M' n/\xV [M.w,.loc ow,.loc dl] st=.ok M'.w st:=by
 suffices hh:gn (sF fun w bH=>(∃x,bH=st++x)/\undWs st.length [w]=true/\∃M':Mc,w=M'.w/\M'.nm=M.nm/\ng M' n) (Kn ([M.w,.loc ow,.loc dl].map some++List.replicate (13-3) none) st) by
  obtain⟨w,⟨M',rfl,h1,h2⟩,e⟩:=ju hh
  exact⟨M',h1,h2,e⟩
 obtain⟨hz,hm⟩:=ho
 have p2:M.tb.length<=1024:=by rw[hM.tb];exact bn (i8 (by omega) vX) (by decide)
 have ll:=i' (bj hc)
 rw[show(nW zs).length=n by simp[nW,hz]]at ll
 have g2:bG M.w (.int 2) (st++[am.lst []])=.ok (.tup (M.tb.map hG)) (st++[am.lst []]):=rfl
 apply az
 ·(walk_at "evs")
 apply az
 ·(walk_at "evs")
 apply az
 ·(walk_at "evs")
 refine dL (fun i ρ s=>∃(tb:List (List (List Nat))) (a:Nat) (o6 o7 o8 o9 sX CQ sA:Option W),ρ=[some M.w,some (.loc ow),some (.loc dl),some (.int n),some (.int a),some (.loc st.length),o6,o7,o8,o9,sX,CQ,sA]/\st <+: s/\s[st.length]?=some (.lst (tb.map hG))/\tb.length=i/\∀t∈tb,RA n t)
  (jt (st1:=st++[am.lst []]) (be (ah rfl) bM g2))
  ⟨[],0,none,none,none,none,none,none,none,rfl,aE _ _,cq,rfl,by simp⟩ (fun _ _ _ _=>trivial) ?_ ?_
 ·rintro i w ρ s hw ⟨tb,a,o6,o7,o8,o9,sX,CQ,sA,rfl,hp,hcT,hl,ht⟩
  obtain⟨t,hti,rfl⟩:∃t,M.tb[i]?=some t/\w=hG t:=by
   simp only[aB,df]at hw
   obtain⟨t,h1,rfl⟩:=hw
   exact⟨t,h1,rfl⟩
  obtain⟨t1,t2⟩:=hM.t t (aT hti)
  have hi:i<M.tb.length:=(aa.mp hti).1
  refine⟨_,rfl,?_⟩
  apply az
  ·(walk_at "evs")
  refine dL (fun j ρ z=>∃(rows:List (List Nat)) (a:Nat) (o8 o9 sX CQ sA:Option W),ρ=[some M.w,some (.loc ow),some (.loc dl),some (.int n),some (.int a),some (.loc st.length),some (hG t),some (.loc s.length),o8,o9,sX,CQ,sA]/\s <+: z/\z[s.length]?=some (.lst (rows.map iX))/\rows.length=j/\∀r∈rows,r.length=n/\∀k∈r,k<n)
   (fD (q:=(n:Int)) (st1:=s++[am.lst []]) (by(walk_at "evs")) (by omega)) ⟨[],a,_,_,_,_,_,rfl,aE _ _,cq,rfl,by simp⟩ (fun _ _ _ _=>trivial) ?_ ?_
  ·rintro x w ρ s1 hw ⟨rows,a,o8,o9,sX,CQ,sA,rfl,h1,hc1,hrl,hr⟩
   obtain⟨hx,rfl⟩:=gD hw
   rw[bB]at hx
   refine⟨_,rfl,?_⟩
   apply az
   ·(walk_at "evs")
   obtain⟨ox,hox⟩:∃k,zs[x]?=some k:=⟨_,ac (by omega)⟩
   have hox':ox<n:=(hm ox).mp (aT hox)
   obtain⟨rx,hrx⟩:∃r,t[ox]?=some r:=⟨_,ac (by omega)⟩
   obtain⟨rx1,rx2⟩:=t2 rx (aT hrx)
   refine dL (fun j ρ z=>∃(row:List Nat) (a:Nat) (sX CQ sA:Option W),ρ=[some M.w,some (.loc ow),some (.loc dl),some (.int n),some (.int a),some (.loc st.length),some (hG t),some (.loc s.length),some (.int (0+(x:Int))),some (.loc s1.length),sX,CQ,sA]/\s1 <+: z/\z[s1.length]?=some (.lst (nW row))/\row.length=j/\∀k∈row,k<n)
    (fD (q:=(n:Int)) (st1:=s1++[am.lst []]) (by(walk_at "evs")) (by omega)) ⟨[],a,_,_,_,rfl,aE _ _,cq,rfl,by simp⟩ (fun _ _ _ _=>trivial) ?_ ?_
   ·rintro y w ρ z hw ⟨row,a,sX,CQ,sA,rfl,h2,hc2,Gp,hr2⟩
    obtain⟨hy,rfl⟩:=gD hw
    rw[bB]at hy
    refine⟨_,rfl,?_⟩
    have hz0:st <+: z:=hp.trans (h1.trans h2)
    obtain⟨oy,hoy⟩:∃k,zs[y]?=some k:=⟨_,ac (by omega)⟩
    have hoy':oy<n:=(hm oy).mp (aT hoy)
    obtain⟨Q3,hdue⟩:∃k,rx[oy]?=some k:=⟨_,ac (by omega)⟩
    have hdue':=rx2 Q3 (aT hdue)
    have wx:bG (.loc ow) (.int (0+(x:Int))) z=.ok (.int ox) z:=by rw[jB];exact rW (pre_get hz0 hc) hox
    have wy:bG (.loc ow) (.int (0+(y:Int))) z=.ok (.int oy) z:=by rw[jB];exact rW (pre_get hz0 hc) hoy
    apply az
    ·exact bz (be (be (ah rfl) (be (ah rfl) (ah rfl) wx) (Ff hrx)) (be (ah rfl) (ah rfl) wy) (Fe hdue))
    have hcomp:=ID (cap:=[none,some 11,some 1]) (ρ:=[some M.w,some (.loc ow),some (.loc dl),some (.int n),some (.int a),some (.loc st.length),some (hG t),some (.loc s.length),some (.int (0+(x:Int))),some (.loc s1.length),some (.int (0+(y:Int))),some (.int Q3),sA]) (st:=z) (t:=et (e2 jC (e2 bG (ai 2) (ai 0)) (ai 1))) (fs:=aj (ai 3) aC) (n:=n) (fun i=>((zs.getD i 0:Nat):Int)==(Q3:Int)) (ak (ah rfl) aF) (by omega) (by simp) fun q hq=>by
     have:zs[q]?=some (zs.getD q 0):=by rw[ax,ac (by omega)];rfl
     exact bI (be (be (ah rfl) (ah rfl) (rW (pre_get hz0 hc) this)) (ah rfl) (fK rfl))
    generalize hso:(List.range n).filter (fun i=>((zs.getD i 0:Nat):Int)==(Q3:Int))=some' at hcomp
    have hsn:0<some'.length:=by
     obtain⟨q,hq⟩:=cL ((hm Q3).mpr hdue')
     have hqn:q<n:=by have:=(aa.mp hq).1;omega
     refine lP (a:=q) ?_
     rw[<- hso]
     exact dP.mpr ⟨ca.mpr hqn,by rw[ax,hq];simp⟩
    have hsm:∀k∈some',k<n:=fun k hk=>by
     rw[<- hso]at hk
     exact ca.mp (dP.mp hk).1
    have hsl:some'.length<=n:=by rw[<- hso];exact bn (dY _ _) (by simp)
    apply az
    ·exact KC hcomp rfl
    obtain⟨q,hq,eq⟩:=fE (q:=(a:Int)) (n:=ds.length) (by omega)
    obtain⟨d,hdd⟩:∃d,ds[q]?=some d:=⟨_,ac hq⟩
    obtain⟨k,hk,ek⟩:=fE (q:=d) (n:=some'.length) hsn
    obtain⟨c,hcc⟩:∃c,some'[k]?=some c:=⟨_,ac hk⟩
    have hz3:st <+: z++[am.lst (nW some')]:=jv hz0
    have ld:=i' (bj (pre_get hz3 hd))
    rw[show(nr ds).length=ds.length by simp[nr]]at ld
    have ls:=i' (st:=z++[am.lst (nW some')]) (n:=z.length) (bj cq)
    rw[show(nW some').length=some'.length by simp[nW]]at ls
    have id:=eA (pre_get hz3 hd) hdd
    rw[<- eq]at id
    have ic:=rW (s:=z++[am.lst (nW some')]) (p:=z.length) cq hcc
    rw[<- ek]at ic
    have pl:(0:Int)<(ds.length:Int):=by omega
    have ps:(0:Int)<(some'.length:Int):=by omega
    have hc3:(z++[am.lst (nW some')])[s1.length]?=some (.lst (nW row)):=fZ hc2
    have ap:=mU (y:=.int c) hc3 (by simp[nW];omega)
    apply az
    ·exact eS (ik (ah rfl) (dF hc3) (ak (be (ah rfl) (be (be (ah rfl) (be (ah rfl) (bw (ak (ah rfl) aF) ld) (fS pl)) id) (bw (ak (ah rfl) aF) ls) (fS ps)) ic) aF) ap)
    apply cy
    ·exact bz (be (ah rfl) bM db)
    ·refine⟨_,_,rfl,row++[c],a+1,_,_,_,rfl,gX (jv h2) (aA _),?_,by simp[Gp],?_⟩
     ·rw[jN hc3];simp[nW]
     ·intro k' hk'
      rcases a7.mp hk' with u|u
      ·exact hr2 k' u
      ·simp at u;subst u;exact hsm _ (aT hcc)
   ·rintro ρ z ⟨row,a,sX,CQ,sA,rfl,h2,hc2,Gp,hr2⟩
    have Gp:row.length=n:=by rw[Gp];simp[cE]
    have hc3:=pre_get h2 hc1
    have ap:=mU (y:=iX row) hc3 (by rw[av,hrl];omega)
    apply cy
    ·exact eS (ik (ah rfl) (dF hc3) (ak (bw (ak (ah rfl) aF) (gy (bj hc2))) aF) ap)
    ·refine⟨_,_,rfl,rows++[row],a,_,_,_,_,_,rfl,gX (h1.trans h2) (aA _),?_,by simp[hrl],?_⟩
     ·rw[jN hc3];simp
     ·intro r hr'
      rcases a7.mp hr' with u|u
      ·exact hr r u
      ·simp at u;subst u;exact⟨Gp,hr2⟩
  ·rintro ρ z ⟨rows,a,o8,o9,sX,CQ,sA,rfl,h1,hc1,hrl,hr⟩
   have hrl:rows.length=n:=by rw[hrl];simp[cE]
   have hc3:=pre_get h1 hcT
   have ap:=mU (y:=hG rows) hc3 (by rw[av,hl];omega)
   apply cy
   ·exact eS (ik (ah rfl) (dF hc3) (ak (bw (ak (ah rfl) aF) (gy (bj hc1))) aF) ap)
   ·refine⟨_,_,rfl,tb++[rows],a,_,_,_,_,_,_,_,rfl,gX (hp.trans h1) (aA _),?_,by simp[hl],?_⟩
    ·rw[jN hc3];simp
    ·intro r hr'
     rcases a7.mp hr' with u|u
     ·exact ht r u
     ·simp at u;subst u;exact⟨hrl,hr⟩
 ·rintro ρ s ⟨tb,a,o6,o7,o8,o9,sX,CQ,sA,rfl,hp,hcT,hl,ht⟩
  have hl:tb.length=M.tb.length:=by rw[hl];simp
  have hc':=pre_get hp hc
  have cg:=oI (cap:=[none,some 0]) (ρ:=[some M.w,some (.loc ow),some (.loc dl),some (.int n),some (.int a),some (.loc st.length),o6,o7,o8,o9,sX,CQ,sA]) (st:=s) (st1:=s) (f:=f_ 0) (el:=e2 bG (e2 bG (ai 1) (eI 1)) (ai 0)) (fun w=>match w with|.int z=>W.bl (M.gd.getD z.toNat false)|_=>.non)
   (oG (fe:=ai 1) (ah rfl) (bj hc')) (by simp[nW];show _<=1000000;omega) (bj hc') fun w hw=>by
    obtain⟨r,hr,rfl⟩:=a9.mp hw
    have hrn:=(hm r).mp hr
    have hg:M.gd[r]?=some (M.gd.getD r false):=by rw[ax,ac (by rw[hM.gd];exact hrn)];rfl
    have g1:bG M.w (.int 1) s=.ok (.tup (M.gd.map W.bl)) s:=rfl
    exact⟨_,rfl,be (be (ah rfl) bM g1) (ah rfl) (c_ (fI (by rw[aB,hg];rfl)))⟩
  rw[show(nW zs).map (fun w=>match w with|.int z=>W.bl (M.gd.getD z.toNat false)|_=>.non)=(zs.map fun r=>M.gd.getD r false).map W.bl by
   unfold nW;rw[bK,bK];refine cD fun k _=>?_;show W.bl (M.gd.getD (k:Int).toNat false)=_;rw[bB];rfl]at cg
  obtain⟨x,rfl⟩:=hp
  apply bN
  ·exact gP (ak (be (ah rfl) bM rfl) (ak (bw (ak cg aF) (gy (bj cq))) (ak (bw (ak (ah rfl) aF) (gy (bj (fZ hcT)))) aF))) (aM rfl)
  ·exact⟨_,_,rfl,⟨_,by rw[aW]⟩,by simp only[undWs,bc];exact pA ⟨M.nm,zs.map fun r=>M.gd.getD r false,tb⟩ _,⟨M.nm,zs.map fun r=>M.gd.getD r false,tb⟩,rfl,rfl,by simp[hz],by rw[hl,hM.tb],ht⟩
theorem zL(nm:List Nat)(n top dl:Nat)(ds:List Int)(st:List am)(vX:nm.length<=6)(hn:1<=n)(Bj:n<=9)(GC:1<=top)(TJ:top<=n)(hd:st[dl]?=some (.lst (nr ds)))(Aj:n+2^nm.length*(n*n)<=ds.length) :
  ∃M:Mc,M.nm=nm/\ng M n/\xX [.str nm,.int n,.int top,.loc dl] st=.ok M.w st:=by
 suffices hh:gn (sF fun w bH=>(∃x,bH=st++x)/\undWs st.length [w]=true/\∃M:Mc,w=M.w/\M.nm=nm/\ng M n) (Kp ([W.str nm,.int n,.int top,.loc dl].map some++List.replicate (10-4) none) st) by
  obtain⟨w,⟨M,rfl,h1,h2⟩,e⟩:=ju hh
  exact⟨M,h1,h2,e⟩
 have cY:∀s:List am,dJ [.str nm] s=.ok (.int nm.length) s:=fun s=>u_ (by show _<=1000000;omega)
 have p2:2^nm.length<=64:=i8 (by omega) vX
 obtain⟨N,hN⟩:∃N,N=2^nm.length:=⟨_,rfl⟩
 have sh:∀s:List am,wT (.int 1) (.int nm.length) s=.ok (.int N) s:=fun s=>by rw[hN];exact AE (by omega)
 rw[<- hN]at p2 Aj
 have hdn:n<=ds.length:=by omega
 obtain⟨gd,hgl,_,eg⟩:=vE (cap:=[none,some 3]) (ρ:=[some (.str nm),some (.int n),some (.int top),some (.loc dl),none,none,none,none,none,none]) (st:=st) (fs:=aj (ai 1) aC) (n:=n)
  (el:=e2 jC (e2 eh (e2 bG (ai 1) (ai 0)) (eI 2)) (eI 1)) W.bl (fun _ _=>True) (ak (ah rfl) aF) (by omega) fun q hq=>by
   obtain⟨d,hdd⟩:∃d,ds[q]?=some d:=⟨_,ac (by omega)⟩
   exact⟨_,trivial,be (be (be (ah rfl) (ah rfl) (eA hd hdd)) bM (fS (by decide))) bM (fK rfl)⟩
 apply az
 ·exact bz eg
 generalize hs0:st++[am.lst (gd.map W.bl)]=s0
 have hst0:st <+: s0:=by rw[<- hs0];exact aE _ _
 apply az
 ·(walk_at "evs")
 apply az
 ·(walk_at "evs")
 refine dL (fun i ρ s=>∃(tb:List (List (List Nat))) (a:Nat) (o7 o8 o9:Option W),ρ=[some (.str nm),some (.int n),some (.int top),some (.loc dl),some (.tup (gd.map W.bl)),some (.loc s0.length),some (.int a),o7,o8,o9]/\s0 <+: s/\s[s0.length]?=some (.lst (tb.map hG))/\tb.length=i/\(∀t∈tb,RA n t)/\a+(N-i)*(n*n)<=ds.length)
  (fD (q:=(N:Int)) (st1:=s0++[am.lst []]) (ak (be bM (bw (ak (ah rfl) aF) (cY _)) (sh _)) aF) (by omega))
  ⟨[],n,none,none,none,rfl,aE _ _,cq,rfl,by simp,by simpa using Aj⟩ (fun _ _ _ _=>trivial) ?_ ?_
 ·rintro i w ρ s hw ⟨tb,a,o7,o8,o9,rfl,hp,hc,hl,ht,hal⟩
  obtain⟨hi,rfl⟩:=gD hw
  rw[bB]at hi
  refine⟨_,rfl,?_⟩
  rw[show N-i=(N-(i+1))+1 by omega,Nat.succ_mul]at hal
  apply az
  ·(walk_at "evs")
  refine dL (fun j ρ z=>∃(rows:List (List Nat)) (a:Nat) (o9:Option W),ρ=[some (.str nm),some (.int n),some (.int top),some (.loc dl),some (.tup (gd.map W.bl)),some (.loc s0.length),some (.int a),some (.int (0+(i:Int))),some (.loc s.length),o9]/\s <+: z/\z[s.length]?=some (.lst (rows.map iX))/\rows.length=j/\(∀r∈rows,r.length=n/\∀k∈r,k<n)/\a+((N-(i+1))*(n*n)+(n-j)*n)<=ds.length)
   (fD (q:=(n:Int)) (st1:=s++[am.lst []]) (by(walk_at "evs")) (by omega)) ⟨[],a,_,rfl,aE _ _,cq,rfl,by simp,by simpa using hal⟩ (fun _ _ _ _=>trivial) ?_ ?_
  ·rintro j w ρ z hw ⟨rows,a,o9,rfl,hz,hcz,hrl,hr,hal⟩
   obtain⟨hj,rfl⟩:=gD hw
   rw[bB]at hj
   refine⟨_,rfl,?_⟩
   rw[show n-j=(n-(j+1))+1 by omega,Nat.succ_mul]at hal
   have pt:(0:Int)<(top:Int):=by omega
   obtain⟨r,hrn,hrb,er⟩:=vE (cap:=[none,some 2,some 3,some 6]) (ρ:=[some (.str nm),some (.int n),some (.int top),some (.loc dl),some (.tup (gd.map W.bl)),some (.loc s0.length),some (.int a),some (.int (0+(i:Int))),some (.loc s.length),some (.int (0+(j:Int)))]) (st:=z) (fs:=aj (ai 1) aC) (n:=n)
    (el:=e2 eh (e2 bG (ai 2) (e2 c7 (ai 3) (ai 0))) (ai 1)) (fun k:Nat=>W.int (k:Nat)) (fun _ k=>k<n) (ak (ah rfl) aF) (by omega) fun q hq=>by
     obtain⟨d,hdd⟩:∃d,ds[a+q]?=some d:=⟨_,ac (by omega)⟩
     obtain⟨k,hk,ek⟩:=fE (q:=d) (n:=top) (by omega)
     refine⟨k,by omega,?_⟩
     rw[<- ek]
     exact be (be (ah rfl) (be (ah rfl) (ah rfl) db) (eA (pre_get (hst0.trans (hp.trans hz)) hd) hdd)) (ah rfl) (fS pt)
   have ap:=mU (y:=iX r) (pre_get (s:=z++[.lst (r.map fun k:Nat=>W.int k)]) (aE _ _) hcz) (by rw[av];omega)
   apply az
   ·exact eS (ik (ah rfl) (dF hcz) (ak er aF) ap)
   apply cy
   ·exact bz (be (ah rfl) (ah rfl) db)
   ·refine⟨_,_,rfl,rows++[r],a+n,_,rfl,gX (jv hz) (aA _),?_,by simp[hrl],?_,by omega⟩
    ·rw[jN (pre_get (aE _ _) hcz)];simp
    ·intro x hx
     rcases a7.mp hx with y|y
     ·exact hr x y
     ·simp at y;subst y
      refine⟨hrn,fun k hk=>?_⟩
      obtain⟨q,hq⟩:=cL hk
      exact hrb q k hq
  ·rintro ρ z ⟨rows,a,o9,rfl,hz,hcz,hrl,hr,hal⟩
   have hrl:rows.length=n:=by rw[hrl];simp[cE]
   have hcp:=pre_get hz hc
   have ap:=mU (y:=hG rows) hcp (by rw[av,hl];omega)
   apply cy
   ·exact eS (ik (ah rfl) (dF hcp) (ak (bw (ak (ah rfl) aF) (gy (bj hcz))) aF) ap)
   ·refine⟨_,_,rfl,tb++[rows],a,_,_,_,rfl,gX (hp.trans hz) (aA _),?_,by simp[hl],?_,by omega⟩
    ·rw[jN hcp];simp
    ·intro x hx
     rcases a7.mp hx with y|y
     ·exact ht x y
     ·simp at y;subst y
      exact⟨hrl,hr⟩
 ·rintro ρ s ⟨tb,a,o7,o8,o9,rfl,hp,hc,hl,ht,hal⟩
  have hl:tb.length=N:=by rw[hl];simp[cE]
  obtain⟨x,rfl⟩:=hst0.trans hp
  apply bN
  ·exact gP (ak (ah rfl) (ak (ah rfl) (ak (bw (ak (ah rfl) aF) (gy (bj hc))) aF))) (aM rfl)
  ·exact⟨_,_,rfl,⟨_,rfl⟩,by simp only[undWs,bc];exact pA ⟨nm,gd,tb⟩ _,⟨nm,gd,tb⟩,rfl,rfl,hgl,by rw[hl,hN],ht⟩
theorem A6{ds:List Int}{i j:Nat}(hj:j<=ds.length)(hi:i<=j):kO (nr ds) (some (i:Int)) (some (j:Int))=nr ((ds.drop i).take (j-i)):=by
 rw[Eg (by simpa[nr]using hj) hi]
 simp[nr,iV,kI]
theorem Ng{n0:Nat}{st:List am}{ns:List Int}(h0:st[n0]?=some (.ro (ns.map W.int)))(a:Int)(pool:List Nat)(TL:5<=pool.length)(hp:pool.length<=50) :
  ∃(M:Mc) (n:Nat),ng M n/\1<=n/\n<=9/\M.nm.length<=5/\n*n*2^M.nm.length<=200/\M.nm=Cn (pool.take M.nm.length)/\xY [.loc n0,.int a,.str pool] st=.ok M.w st:=by
 suffices hh:gn (sF fun w bH=>(∃x,bH=st++x)/\undWs st.length [w]=true/\∃(M:Mc) (n:Nat),w=M.w/\ng M n/\1<=n/\n<=9/\M.nm.length<=5/\n*n*2^M.nm.length<=200/\M.nm=Cn (pool.take M.nm.length)) (Kq ([W.loc n0,.int a,.str pool].map some++List.replicate (10-3) none) st) by
  obtain⟨w,⟨M,n,rfl,h1,h2,h3,h4,h5,h6⟩,e⟩:=ju hh
  exact⟨M,n,h1,h2,h3,h4,h5,h6,e⟩
 obtain⟨c0,e0⟩:=nb h0 a
 obtain⟨hs,hhl,hhp,e1⟩:=kS c0 1000003 10 (by omega) st
 have e1:ji [.int c0,.int 10,.int 1000003] st=_:=e1
 obtain⟨d0,d1,d2,d3,d4,dr,rfl⟩:∃a b c d e r,hs=a::b::c::d::e::r:=by
  match hs,hhl with
  |a::b::c::d::e::r,_=>exact⟨_,_,_,_,_,_,rfl⟩
 apply az
 ·(walk_at "evs")
 generalize mX:st++[am.lst ((d0::d1::d2::d3::d4::dr).map W.int)]=s1
 have k1:st <+: s1:=by rw[<- mX];exact aE _ _
 have hc1:s1[st.length]?=some (.lst (nr (d0::d1::d2::d3::d4::dr))):=by rw[<- mX];exact cq
 clear e0 e1 mX
 have i0:∀s:List am,s1 <+: s->bG (.loc st.length) (.int 0) s=.ok (.int d0) s:=fun s h=>eA (i:=0) (pre_get h hc1) rfl
 have i1:∀s:List am,s1 <+: s->bG (.loc st.length) (.int 1) s=.ok (.int d1) s:=fun s h=>eA (i:=1) (pre_get h hc1) rfl
 have i2:∀s:List am,s1 <+: s->bG (.loc st.length) (.int 2) s=.ok (.int d2) s:=fun s h=>eA (i:=2) (pre_get h hc1) rfl
 have i3:∀s:List am,s1 <+: s->bG (.loc st.length) (.int 3) s=.ok (.int d3) s:=fun s h=>eA (i:=3) (pre_get h hc1) rfl
 have i4:∀s:List am,s1 <+: s->bG (.loc st.length) (.int 4) s=.ok (.int d4) s:=fun s h=>eA (i:=4) (pre_get h hc1) rfl
 obtain⟨c,n,hc5,hn1,Bj,hcn,es⟩:=E7 d0 s1
 apply az
 ·exact KC (b8 (ak (be (ah rfl) bM (i0 s1 (al _))) aF) es rfl) rfl
 have en:=E9 pool c hp (by omega) s1
 have vX:(Cn (pool.take c)).length=c:=by rw[Iy,aY];omega
 have hnm2:Cn (pool.take c)=Cn (pool.take (Cn (pool.take c)).length):=by rw[vX]
 generalize Cn (pool.take c)=nm at en vX hnm2
 apply az
 ·exact bz (b8 (ak (ah rfl) (ak (ah rfl) aF)) en rfl)
 obtain⟨T,hT⟩:∃T,T=n+n*n*2^c+40:=⟨_,rfl⟩
 have hnn:n*n<=81:=Nat.mul_le_mul Bj Bj
 obtain⟨j,x,ds,SU,hdp,hxj,eb⟩:=uh (pre_get k1 h0) (a+1) T 3000017 (by omega)
 have eT:(n:Int)+(n:Int)*(n:Int)*((2^c:Nat):Int)+40=(T:Int):=by rw[hT];simp only[dR,f7];rfl
 have cm1:y_ (n:Int) (n:Int):=.inl ⟨by omega,by omega⟩
 have cm2:y_ ((n:Int)*(n:Int)) ((2^c:Nat):Int):=.inl (by rw[<- f7];omega)
 rw[<- eT]at eb
 apply az
 ·exact bz (b8 (ak (ah rfl) (ak (be (ah rfl) bM db) (ak (be (be (ah rfl) (be (be (ah rfl) (ah rfl) (mO cm1)) (be bM (ah rfl) (AE (by omega))) (mO cm2)) db) bM db) (ak bM aF)))) eb rfl)
 clear eb en es
 generalize uA:s1++x=s2
 have k2:s1 <+: s2:=by rw[<- uA];exact aE _ _
 have mW:s2[s1.length+j]?=some (.lst (nr ds)):=by rw[<- uA,eL];exact hxj
 generalize hdlo:s1.length+j=dl at mW
 have kk2:st <+: s2:=k1.trans k2
 have hT2:n+2^nm.length*(n*n)+40<=ds.length:=by rw[vX,Nat.mul_comm,SU,hT];omega
 have h3:=i3 s2 k2
 have hnc:n*n*2^nm.length<=200:=by rw[vX];exact hcn
 generalize n*n*2^c=q1 at hcn hT
 by_cases w3:d3%3=0
 ·have t3:(d3%3==0)=true:=cv.mpr w3
  obtain⟨M,eM,hM,egr⟩:=Cp nm n dl ds s2 (by omega) hn1 Bj mW (by omega) hdp
  apply eR
  ·(walk_at "evs")
  apply t6
  apply az
  ·exact bz (b8 (ak (ah rfl) (ak (ah rfl) (ak (ah rfl) aF))) egr rfl)
  apply t6
  refine im (fun ρ s=>∃M':Mc,M'.nm=nm/\ng M' n/\ρ=[some (.loc n0),some (.int a),some (.str pool),some (.loc st.length),some (.int c),some (.int n),some (.str nm),some (.loc dl),some M'.w,none]/\s2 <+: s) ?_ ?_
  ·have h4:=i4 s2 k2
   by_cases w4:d4%3=0
   ·have t4:(d4%3==0)=true:=cv.mpr w4
    have sl:=JD (st:=s2) (n:=dl) (l:=some 4) (h:=some 8) (bj mW)
    rw[show(some (4:Int))=some ((4:Nat):Int)from rfl,show(some (8:Int))=some ((8:Nat):Int)from rfl,A6 (by omega) (by omega)]at sl
    obtain⟨M',eM',hM',esp⟩:=zK M n s2.length ((ds.drop 4).take (8-4)) (s2++[.lst (nr ((ds.drop 4).take (8-4)))]) hM hn1 Bj cq (by simp;omega)
    apply iJ
    ·(walk_at "evs")
    apply cy
    ·exact bz (b8 (ak (ah rfl) (ak (zq (ah rfl) (rF bM) (rF bM) sl) aF)) esp rfl)
    ·exact⟨_,_,rfl,M',by rw[eM',eM],hM',rfl,aE _ _⟩
   ·have t4:(d4%3==0)=false:=aO.mpr w4
    apply hV
    ·(walk_at "evs")
    apply cy
    ·(walk_at "evs")
    ·exact⟨_,_,rfl,M,eM,hM,rfl,al _⟩
  rintro ρ s3 ⟨M',eM',hM',rfl,k3⟩
  have sl:=JD (st:=s3) (n:=dl) (l:=some 8) (h:=some 30) (bj (pre_get k3 mW))
  rw[show(some (8:Int))=some ((8:Nat):Int)from rfl,show(some (30:Int))=some ((30:Nat):Int)from rfl,A6 (by omega) (by omega)]at sl
  obtain⟨zs,hzs,eo⟩:=Fg n s3.length ((ds.drop 8).take (30-8)) (s3++[.lst (nr ((ds.drop 8).take (30-8)))]) hn1 Bj cq (by simp;omega)
  obtain⟨M2,eM2,hM2,ebl⟩:=Fh M' n _ dl zs ds (s3++[.lst (nr ((ds.drop 8).take (30-8)))]++[.lst (nW zs)]) hM' (by omega) hzs cq (fZ (fZ (pre_get k3 mW))) (by omega) (by omega) (by rw[eM',vX];omega)
  obtain⟨y,rfl⟩:=kk2.trans k3
  apply eQ
  ·exact b8 (ak (ah rfl) (ak (b8 (ak (ah rfl) (ak bM (ak (zq (ah rfl) (rF bM) (rF bM) sl) aF))) eo rfl) (ak (ah rfl) aF))) ebl rfl
  ·exact⟨_,_,rfl,⟨_,by rw[aW,aW]⟩,by simp only[undWs,bc];exact pA _ _,M2,n,rfl,hM2,hn1,Bj,by rw[eM2,eM',vX];exact hc5,by rw[eM2,eM'];exact hnc,by rw[eM2,eM'];exact hnm2⟩
 ·have t3:(d3%3==0)=false:=aO.mpr w3
  apply bJ
  ·(walk_at "evs")
  apply bZ
  apply az
  ·(walk_at "evs")
  have h1:=i1 s2 k2
  have h2:=i2 s2 k2
  have pn:(0:Int)<(n:Int):=by omega
  refine im (fun ρ s=>∃top:Nat,1<=top/\top<=n/\ρ=[some (.loc n0),some (.int a),some (.str pool),some (.loc st.length),some (.int c),some (.int n),some (.str nm),some (.loc dl),none,some (.int top)]/\s=s2) ?_ ?_
  ·by_cases w1:d1%3=0
   ·have t1:(d1%3==0)=true:=cv.mpr w1
    obtain⟨q,hq,eq⟩:=fE (q:=d2) (n:=n) (by omega)
    apply iJ
    ·(walk_at "evs")
    apply cy
    ·exact bz (be bM (be (be (ah rfl) bM h2) (ah rfl) (fS pn)) db)
    ·rw[eq];exact⟨_,_,rfl,1+q,by omega,by omega,rfl,rfl⟩
   ·have t1:(d1%3==0)=false:=aO.mpr w1
    apply hV
    ·(walk_at "evs")
    apply cy
    ·(walk_at "evs")
    ·exact⟨_,_,rfl,n,hn1,aA _,rfl,rfl⟩
  rintro ρ s3 ⟨top,GC,ht2,rfl,rfl⟩
  obtain⟨M,eM,hM,em⟩:=zL nm n top dl ds s3 (by omega) hn1 Bj GC ht2 mW (by omega)
  obtain⟨y,rfl⟩:=kk2
  apply bN
  ·exact b8 (ak (ah rfl) (ak (ah rfl) (ak (ah rfl) (ak (ah rfl) aF)))) em rfl
  ·exact⟨_,_,rfl,⟨_,rfl⟩,by simp only[undWs,bc];exact pA _ _,M,n,rfl,hM,hn1,Bj,by rw[eM,vX];exact hc5,by rw[eM];exact hnc,by rw[eM];exact hnm2⟩
structure Wy where
 s:Nat
 l:Nat
 r:Nat
 a:Nat
def Wy.z(p:Wy):List Int:=[(p.s:Int),(p.l:Int),(p.r:Int),(p.a:Int)]
def Wy.lt(p q:Wy):Prop:=p.s<q.s\/p.s=q.s/\(p.l<q.l\/p.l=q.l/\(p.r<q.r\/p.r=q.r/\p.a<q.a))
theorem Wy.lex(p q:Wy):HT.lexLt p.z q.z=true↔p.lt q:=by
 obtain⟨a,b,c,d⟩:=p
 obtain⟨e,f,g,h⟩:=q
 simp only[Wy.z,Wy.lt,HT.lexLt_cons,HT.lexLt_nil_nil]
 by_cases h1:(a:Int)=e
 ·rw[aD h1]
  by_cases h2:(b:Int)=f
  ·rw[aD h2]
   by_cases h3:(c:Int)=g
   ·rw[aD h3]
    by_cases h4:(d:Int)=h
    ·rw[aD h4];constructor
     ·intro z;cases z
     ·intro z;omega
    ·rw[aQ h4,cN];omega
   ·rw[aQ h3,cN];omega
  ·rw[aQ h2,cN];omega
 ·rw[aQ h1,cN];omega
theorem Nh{a b c:Nat}{A B C:Prop}(t:A->B->C)(h1:a<b\/a=b/\A)(h2:b<c\/b=c/\B):a<c\/a=c/\C:=by
 rcases h1 with z|⟨rfl,p⟩
 ·rcases h2 with y|⟨rfl,_⟩
  ·exact .inl (oR z y)
  ·exact .inl z
 ·rcases h2 with y|⟨rfl,q⟩
  ·exact .inl y
  ·exact .inr ⟨rfl,t p q⟩
theorem Wy.trans{p q r:Wy}(h1:p.lt q)(h2:q.lt r):p.lt r:=Nh (Nh (Nh oR)) h1 h2
theorem Wy.irr(p:Wy):¬ p.lt p:=fun h=>by
 rcases h with z|⟨_,z|⟨_,z|⟨_,z⟩⟩⟩<;>exact bD _ z
theorem Wy.tri{p q:Wy}(h1:¬ p.lt q)(h2:¬ q.lt p):p=q:=by
 obtain⟨a,b,c,d⟩:=p
 obtain⟨e,f,g,h⟩:=q
 obtain rfl:a=e:=gY (dD fun z=>h2 (.inl z)) (dD fun z=>h1 (.inl z))
 obtain rfl:b=f:=gY (dD fun z=>h2 (.inr ⟨rfl,.inl z⟩)) (dD fun z=>h1 (.inr ⟨rfl,.inl z⟩))
 obtain rfl:c=g:=gY (dD fun z=>h2 (.inr ⟨rfl,.inr ⟨rfl,.inl z⟩⟩)) (dD fun z=>h1 (.inr ⟨rfl,.inr ⟨rfl,.inl z⟩⟩))
 obtain rfl:d=h:=gY (dD fun z=>h2 (.inr ⟨rfl,.inr ⟨rfl,.inr ⟨rfl,z⟩⟩⟩)) (dD fun z=>h1 (.inr ⟨rfl,.inr ⟨rfl,.inr ⟨rfl,z⟩⟩⟩))
 rfl
theorem Wy.ge{p q r:Wy}(h:p.lt q)(n:¬ r.lt q):p.lt r:=by
 by_cases z:q.lt r
 ·exact Wy.trans h z
 ·exact Wy.tri z n▸h
abbrev Ro:=Nat×Wy
abbrev Ni(T:Nat->Nat->Nat->Nat)(L:Nat)(E:List Ro)(p:Ro):Prop:=∃el er:Ro,E[p.2.l]?=some el/\E[p.2.r]?=some er/\p.2.a<L/\T p.2.a el.1 er.1=p.1/\p.2.s=el.2.s+er.2.s+1
structure ip(T:Nat->Nat->Nat->Nat)(L N:Nat)(E:List Ro):Prop where
 zero:∃r,E=(0,⟨0,0,0,0⟩)::r
 lt:∀e∈E,e.1<N
 nd:(E.map Prod.fst).Nodup
 row:∀(i:Nat) (e:Ro),E[i]?=some e->0<i->e.2.l<i/\e.2.r<i/\Ni T L E e
 rise:∀(i:Nat) (e f:Ro),E[i]?=some e->E[i+1]?=some f->e.2.lt f.2
structure yb(T:Nat->Nat->Nat->Nat)(L N:Nat)(E B:List Ro):Prop where
 nd:(B.map Prod.fst).Nodup
 ok:∀p∈B,Ni T L E p/\p.1∉E.map Prod.fst/\p.1<N
 up:∀p∈B,∀e,E[E.length-1]?=some e->e.2.lt p.2
abbrev mV(l r a:Nat)(el er:Ro):Wy:=⟨el.2.s+er.2.s+1,l,r,a⟩
def IE(T:Nat->Nat->Nat->Nat)(E B:List Ro)(l r a:Nat):Prop:=∀el er,E[l]?=some el->E[r]?=some er->(∃(i:Nat) (e:Ro),E[i]?=some e/\e.1=T a el.1 er.1/\¬ (mV l r a el er).lt e.2)\/∃p∈B,p.1=T a el.1 er.1/\¬ (mV l r a el er).lt p.2
section
variable{T:Nat->Nat->Nat->Nat}{L N:Nat}{E B:List Ro}
theorem ip.mono(h:ip T L N E):∀(k i:Nat) (e f:Ro),E[i]?=some e->E[i+k]?=some f->e.2.s<=f.2.s
 |0,i,e,f,h1,h2=>by rw[iz,h1]at h2;cases h2;exact aA _
 |k+1,i,e,f,h1,h2=>by
  have hk:i+k<E.length:=by have:=(aa.mp h2).1;omega
  have e1:E[i+k]?=some E[i+k]:=ac hk
  have a:=h.mono k i e _ h1 e1
  have b:=h.rise (i+k) _ f e1 (by rw[<- h2];congr 1)
  unfold Wy.lt at b
  omega
theorem ip.top(h:ip T L N E){i:Nat}{e f:Ro}(h1:E[i]?=some e)(h2:E[E.length-1]?=some f):e.2.s<=f.2.s:=by
 have hi:=(aa.mp h1).1
 exact h.mono (E.length-1-i) i e f h1 (by rw[show i+(E.length-1-i)=E.length-1 by omega];exact h2)
theorem ip.len(h:ip T L N E):E.length<=N:=by
 have:=nC (l:=List.range N) h.nd fun c hc=>by
  obtain⟨e,he,rfl⟩:=a9.mp hc
  exact ca.mpr (h.lt e he)
 simpa using this
theorem ip.len0(h:ip T L N E):0<E.length:=by obtain⟨r,e⟩:=h.zero;rw[e];simp
theorem yb.len(h:yb T L N E B):B.length<=N:=by
 have:=nC (l:=List.range N) h.nd fun c hc=>by
  obtain⟨e,he,rfl⟩:=a9.mp hc
  exact ca.mpr (h.ok e he).2.2
 simpa using this
theorem A7{B:List Ro}(h:(B.map Prod.fst).Nodup):∀{p q:Ro},p∈B->q∈B->p.1=q.1->p=q:=by
 induction B with
 |nil=>intro p q hp;cases hp
 |cons b B ih=>
  intro p q hp hq e
  simp only[aK,fA]at h
  rcases br.mp hp with rfl|hp'<;>rcases br.mp hq with rfl|hq'
  ·rfl
  ·exact(h.1 (a9.mpr ⟨q,hq',e.symm⟩)).elim
  ·exact(h.1 (a9.mpr ⟨p,hp',e⟩)).elim
  ·exact ih h.2 hp' hq' e
theorem Ni.app{E x:List Ro}{p:Ro}(h:Ni T L E p):Ni T L (E++x) p:=by
 obtain⟨el,er,h1,h2,h3⟩:=h
 exact⟨el,er,by rw[au (aa.mp h1).1];exact h1,by rw[au (aa.mp h2).1];exact h2,h3⟩
def pB(B:List Ro)(p:Ro):List Ro:=if p.1∈B.map Prod.fst then B.map fun q=>if q.1=p.1 then p else q else B++[p]
theorem yc{p q:Ro}(h:q∈pB B p):q=p\/q∈B/\q.1≠p.1:=by
 unfold pB at h
 split at h
 ·obtain⟨x,hx,e⟩:=a9.mp h
  split at e
  ·exact .inl e.symm
  ·rename_i hn;subst e;exact .inr ⟨hx,hn⟩
 ·rename_i hn
  rcases a7.mp h with h|h
  ·exact .inr ⟨h,fun e=>hn (a9.mpr ⟨q,h,e⟩)⟩
  ·exact .inl (cM.mp h)
theorem yd{p:Ro}:p∈pB B p:=by
 unfold pB
 split
 ·rename_i h
  obtain⟨x,hx,e⟩:=a9.mp h
  exact a9.mpr ⟨x,hx,by rw[aD e]⟩
 ·exact a7.mpr (.inr (cM.mpr rfl))
theorem Fi{p q:Ro}(h:q∈B)(hn:q.1≠p.1):q∈pB B p:=by
 unfold pB
 split
 ·exact a9.mpr ⟨q,h,by rw[aQ hn]⟩
 ·exact a7.mpr (.inl h)
theorem IF{p:Ro}(h:(B.map Prod.fst).Nodup):((pB B p).map Prod.fst).Nodup:=by
 unfold pB
 split
 ·rw[bK]
  have e:B.map (Prod.fst∘fun q:Ro=>if q.1=p.1 then p else q)=B.map Prod.fst:=by
   refine cD fun q _=>?_
   show(if q.1=p.1 then p else q).1=q.1
   split
   ·rename_i e;exact e.symm
   ·rfl
  rw[e];exact h
 ·rename_i hn
  rw[bQ,iF]
  refine⟨h,by simp,fun a ha b hb=>?_⟩
  simp only[aK,dN,cM]at hb
  subst hb
  exact fun z=>hn (z▸ha)
def Fj(E B:List Ro)(p:Ro)(B':List Ro):Prop:=(p.1∈E.map Prod.fst/\B'=B)\/(p.1∉E.map Prod.fst/\(∃q∈B,q.1=p.1/\¬ p.2.lt q.2)/\B'=B)\/(p.1∉E.map Prod.fst/\(∀q∈B,q.1=p.1->p.2.lt q.2)/\B'=pB B p)
theorem Fk(h:ip T L N E)(b:yb T L N E B){B':List Ro}{p:Ro}(hw:Ni T L E p)(hN:p.1<N)(vY:p.2.l=E.length-1\/p.2.r=E.length-1)(o:Fj E B p B'):yb T L N E B':=by
 rcases o with⟨_,rfl⟩|⟨_,_,rfl⟩|⟨h1,h2,rfl⟩
 ·exact b
 ·exact b
 ·refine⟨IF b.nd,fun q hq=>?_,fun q hq e he=>?_⟩
  ·rcases yc hq with rfl|⟨hq,_⟩
   ·exact⟨hw,h1,hN⟩
   ·exact b.ok q hq
  ·rcases yc hq with rfl|⟨hq,_⟩
   ·obtain⟨el,er,e1,e2,_,_,e5⟩:=hw
    rcases vY with z|z
    ·rw[z,he]at e1;cases e1
     unfold Wy.lt;omega
    ·rw[z,he]at e2;cases e2
     unfold Wy.lt;omega
   ·exact b.up q hq e he
theorem IG{l r a:Nat}{B':List Ro}{p:Ro}(o:Fj E B p B')(b:(B.map Prod.fst).Nodup)(c:IE T E B l r a):IE T E B' l r a:=by
 rcases o with⟨_,rfl⟩|⟨_,_,rfl⟩|⟨h1,h2,rfl⟩
 ·exact c
 ·exact c
 ·intro el er e1 e2
  rcases c el er e1 e2 with x|⟨q,hq,e,n⟩
  ·exact .inl x
  ·by_cases z:q.1=p.1
   ·have:=h2 q hq z
    exact .inr ⟨p,yd,z▸e,fun y=>n (Wy.trans y this)⟩
   ·exact .inr ⟨q,Fi hq z,e,n⟩
theorem Fl(h:ip T L N E){l r a:Nat}{B':List Ro}{el er:Ro}(e1:E[l]?=some el)(e2:E[r]?=some er)(vY:l=E.length-1\/r=E.length-1)(o:Fj E B (T a el.1 er.1,mV l r a el er) B'):IE T E B' l r a:=by
 intro el' er' f1 f2
 rw[e1]at f1;rw[e2]at f2
 cases f1;cases f2
 rcases o with⟨h1,rfl⟩|⟨_,⟨q,hq,e,n⟩,rfl⟩|⟨h1,h2,rfl⟩
 ·obtain⟨x,hx,e⟩:=a9.mp h1
  obtain⟨i,hi⟩:=cL hx
  refine .inl ⟨i,x,hi,e,fun z=>?_⟩
  rcases vY with y|y
  ·have:=h.top hi (by rw[<- y];exact e1)
   unfold Wy.lt at z;simp only at z;omega
  ·have:=h.top hi (by rw[<- y];exact e2)
   unfold Wy.lt at z;simp only at z;omega
 ·exact .inr ⟨q,hq,e,n⟩
 ·exact .inr ⟨_,yd,rfl,fun z=>by unfold Wy.lt at z;simp only at z;omega⟩
theorem Cq(h:ip T L N E)(b:yb T L N E B){p:Ro}(hp:p∈B):ip T L N (E++[p]):=by
 obtain⟨w,hn,hN⟩:=b.ok p hp
 obtain⟨r,hr⟩:=h.zero
 refine⟨⟨r++[p],by rw[hr];rfl⟩,fun e he=>?_,?_,fun i e he hi=>?_,fun i e f h1 h2=>?_⟩
 ·rcases a7.mp he with he|he
  ·exact h.lt e he
  ·rw[cM.mp he];exact hN
 ·rw[bQ,iF]
  refine⟨h.nd,by simp,fun a ha c hc=>?_⟩
  simp only[aK,dN,cM]at hc
  subst hc
  exact fun z=>hn (z▸ha)
 ·by_cases hl:i<E.length
  ·rw[au hl]at he
   obtain⟨a,c,d⟩:=h.row i e he hi
   exact⟨a,c,d.app⟩
  ·have:i=E.length:=by have:=(aa.mp he).1;simp at this;omega
   subst this
   rw[bt]at he;cases he
   obtain⟨el,er,e1,e2,e3⟩:=w
   exact⟨(aa.mp e1).1,(aa.mp e2).1,Ni.app ⟨el,er,e1,e2,e3⟩⟩
 ·by_cases hl:i+1<E.length
  ·rw[au hl]at h2
   rw[au (by omega)]at h1
   exact h.rise i e f h1 h2
  ·have:i+1=E.length:=by have:=(aa.mp h2).1;simp at this;omega
   rw[this,bt]at h2;cases h2
   rw[au (by omega)]at h1
   exact b.up p hp e (by rw[<- h1];congr 1;omega)
theorem Cr(h:ip T L N E)(b:yb T L N E B){p:Ro}(hp:p∈B)(N6:∀q∈B,¬ q.2.lt p.2):yb T L N (E++[p]) (B.filter fun q=>decide (q.1≠p.1)):=by
 refine⟨(List.Nodup.sublist (List.filter_sublist.map _) b.nd),fun q hq=>?_,fun q hq e he=>?_⟩
 ·obtain⟨hq,kJ⟩:=dP.mp hq
  obtain⟨w,hn,hN⟩:=b.ok q hq
  refine⟨w.app,?_,hN⟩
  rw[bQ,a7]
  rintro(z|z)
  ·exact hn z
  ·simp only[aK,dN,cM]at z
   exact iD kJ z
 ·obtain⟨hq,kJ⟩:=dP.mp hq
  have he:(E++[p])[E.length]?=some e:=by rw[<- he];congr 1;simp
  rw[bt]at he;cases he
  have h1:=N6 q hq
  obtain⟨el,er,a1,a2,a3,a4,a5⟩:=(b.ok q hq).1
  obtain⟨fl,fr,c1,c2,c3,c4,c5⟩:=(b.ok p hp).1
  obtain⟨q1,⟨s,l,r,a⟩⟩:=q
  obtain⟨p1,⟨s',l',r',a'⟩⟩:=p
  simp only at a1 a2 a3 a4 a5 c1 c2 c3 c4 c5
  by_cases z:l=l'/\r=r'/\a=a'
  ·obtain⟨rfl,rfl,rfl⟩:=z
   rw[a1]at c1;rw[a2]at c2
   cases c1;cases c2
   exact(iD kJ (a4.symm.trans c4)).elim
  ·by_cases y:Wy.lt ⟨s',l',r',a'⟩ ⟨s,l,r,a⟩
   ·exact y
   ·have:=Wy.tri h1 y
    cases this
    exact(z ⟨rfl,rfl,rfl⟩).elim
theorem Fm{l r a:Nat}{p:Ro}(hp:p∈B)(nd:(B.map Prod.fst).Nodup)(hl:l<E.length)(hr:r<E.length)(c:IE T E B l r a):IE T (E++[p]) (B.filter fun q=>decide (q.1≠p.1)) l r a:=by
 intro el er e1 e2
 rw[au hl]at e1
 rw[au hr]at e2
 rcases c el er e1 e2 with⟨i,e,f1,f2,f3⟩|⟨q,hq,f2,f3⟩
 ·exact .inl ⟨i,e,by rw[au (aa.mp f1).1];exact f1,f2,f3⟩
 ·by_cases z:q.1=p.1
  ·obtain rfl:=A7 nd hq hp z
   exact .inl ⟨E.length,q,bt,f2,f3⟩
  ·exact .inr ⟨q,dP.mpr ⟨hq,a8 z⟩,f2,f3⟩
end
def dI{α:Type}(f:α->Nat)(g:α->W)(l:List α):List (DK×W):=l.map fun a=>(DK.i (f a:Nat),g a)
section
variable{α:Type}{f:α->Nat}{g:α->W}{l:List α}
theorem zM(q:Nat)(a:α):decide ((DK.i (f a:Nat))=DK.i (q:Nat))=decide (f a=q):=by
 rw[Bool.eq_iff_iff,cN,cN]
 constructor
 ·intro h;injection h with h;omega
 ·intro h;rw[h]
theorem Fp(q:Nat):j4 (dI f g l) (.i q)=(l.find? fun a=>decide (f a=q)).map g:=by
 unfold j4 dI
 rw[List.find?_map]
 simp only[iC,zM,Option.map_map]
theorem A8(q:Nat):(j4 (dI f g l) (.i q)).isSome=decide (q∈l.map f):=by
 rw[Fp,ku,Bool.eq_iff_iff,List.find?_isSome,cN,a9]
 simp
theorem yf{a:α}(h:(l.map f).Nodup)(ha:a∈l):j4 (dI f g l) (.i (f a:Nat))=some (g a):=by
 rw[Fp]
 induction l with
 |nil=>cases ha
 |cons b l ih=>
  simp only[aK,fA]at h
  rw[dQ]
  rcases br.mp ha with rfl|ha'
  ·simp
  ·have:f b≠f a:=fun z=>h.1 (z▸a9.mpr ⟨a,ha',rfl⟩)
   rw[show decide (f b=f a)=false from aR this]
   exact ih h.2 ha'
theorem zN{a:α}(h:f a∉l.map f):qi (dI f g l) (.i (f a:Nat)) (g a)=dI f g (l++[a]):=by
 unfold qi
 rw[aQ]
 ·unfold dI;rw[bQ];rfl
 ·intro z
  unfold dI at z
  rw[List.any_map,kZ]at z
  obtain⟨x,hx,e⟩:=z
  simp only[iC,zM,cN]at e
  exact h (a9.mpr ⟨x,hx,e⟩)
theorem IH(q:Nat):jJ (dI f g l) (.i q)=dI f g (l.filter fun a=>decide (f a≠q)):=by
 unfold jJ dI
 rw[jh]
 congr 1
 refine List.filter_congr fun a _=>?_
 show decide ((DK.i (f a:Nat))≠DK.i (q:Nat))=decide (f a≠q)
 rw[decide_not,zM,decide_not]
theorem pD:(dI f g l).length=l.length:=by simp[dI]
end
def vG(w:Wy):W:=.tup (w.z.map W.int)
abbrev bW(B:List Ro):List (DK×W):=dI (fun p:Ro=>p.1) (fun p=>vG p.2) B
abbrev tW(E:List Ro):List (DK×W):=dI (fun p:Ro=>p.1) (fun _=>W.bl true) E
theorem Nj(B:List Ro)(p:Ro):qi (bW B) (.i (p.1:Nat)) (vG p.2)=bW (pB B p):=by
 by_cases h:p.1∈B.map Prod.fst
 ·unfold pB
  rw[aD h]
  unfold qi
  rw[aD]
  ·unfold bW dI
   rw[bK,bK]
   refine cD fun q _=>?_
   show(if DK.i (q.1:Nat)=DK.i (p.1:Nat)then _ else _)=_
   by_cases e:q.1=p.1
   ·rw[aD (by rw[e])]
    show _=(DK.i ((if q.1=p.1 then p else q).1:Nat),vG (if q.1=p.1 then p else q).2)
    rw[aD e];show(DK.i (q.1:Nat),_)=_;rw[e]
   ·rw[aQ (by intro z;injection z with z;omega)]
    show _=(DK.i ((if q.1=p.1 then p else q).1:Nat),vG (if q.1=p.1 then p else q).2)
    rw[aQ e]
  ·unfold bW dI
   rw[List.any_map,kZ]
   obtain⟨x,hx,e⟩:=a9.mp h
   exact⟨x,hx,by simp only[iC,cN];rw[e]⟩
 ·unfold pB
  rw[aQ h]
  exact zN (f:=fun p:Ro=>p.1) (g:=fun p=>vG p.2) (a:=p) h
theorem rX:∀B:List Ro,js (bW B)=some (B.map fun p=>p.2.z)
 |[]=>rfl
 |p::B=>by
  show(match zo (vG p.2),js (bW B)with|some a,some b=>some (a::b)|_,_=>none)=_
  rw[rX B];rfl
theorem yg(B:List Ro):∀j,j<B.length->∃p,B[jK (fun a=>(B.map fun p=>p.2.z).getD a []) j]?=some p/\∀i q,i<=j->B[i]?=some q->¬ q.2.lt p.2
 |0,h=>⟨B[0],ac h,fun i q hi hq=>by
   obtain rfl:i=0:=by omega
   rw[ac h]at hq;cases hq
   exact Wy.irr _⟩
 |j+1,h=>by
  obtain⟨p,hp,hm⟩:=yg B j (by omega)
  have hj:B[j+1]?=some B[j+1]:=ac h
  have kz:∀(i:Nat) (q:Ro),B[i]?=some q->(B.map fun p=>p.2.z).getD i []=q.2.z:=fun i q e=>by
   rw[ax,aB,e];rfl
  unfold jK
  simp only[kz _ _ hj,kz _ _ hp]
  split
  ·rename_i z
   rw[Wy.lex]at z
   refine⟨B[j+1],hj,fun i q hi hq=>?_⟩
   rcases dO i (j+1)with y|y
   ·have:=hm i q (by omega) hq
    exact fun y=>this (Wy.trans y z)
   ·obtain rfl:i=j+1:=by omega
    rw[hj]at hq;cases hq
    exact Wy.irr _
  ·rename_i z
   refine⟨p,hp,fun i q hi hq=>?_⟩
   rcases dO i (j+1)with y|y
   ·exact hm i q (by omega) hq
   ·obtain rfl:i=j+1:=by omega
    rw[hj]at hq;cases hq
    intro y;exact z ((Wy.lex _ _).mpr y)
section
variable{st st1:List am}{n:Nat}{kvs:List (DK×W)}{ρ:cB}
theorem ki(h:st[n]?=some (.dct kvs)):kg st (.loc n)=some (n,kvs):=by simp only[kg,h]
theorem vH(h:st[n]?=some (.dct kvs)):qj st (.loc n)=some (n,kvs):=by simp only[qj,h]
theorem A9{q:Nat}{GP b:Bool}(h:kg st (.loc n)=some (n,kvs))(hb:(if GP then !(j4 kvs (.i q)).isSome else(j4 kvs (.i q)).isSome)=b):u0 GP (.int q) (.loc n) st=.ok (.bl b) st:=by
 rw[<- hb];simp only[u0,h,jI]
theorem A_{q:Nat}{w:W}(h:kg st (.loc n)=some (n,kvs))(hb:j4 kvs (.i q)=some w):qk (.loc n) (.int q) st=.ok w st:=by
 simp only[qk,h,jI,hb,d9]
theorem zO{q:Nat}{v:W}(h:st[n]?=some (.dct kvs))(hl:kvs.length<j8):oE (.loc n) (.int q) v st=some (st.set n (.dct (qi kvs (.i q) v))):=by
 simp only[oE,vH h,jI];rw[aD hl]
theorem zP(h:kg st (.loc n)=some (n,kvs)):rq [.loc n] st=.ok (.int kvs.length) st:=by
 simp only[rq,h]
theorem Nk{fo fk:FE}{q:Nat}{w:W}(h1:fo ρ st=.ok (.loc n) st)(h2:fk ρ st=.ok (.int q) st)(h:st[n]?=some (.dct kvs))(hg:j4 kvs (.i q)=some w):AV fo fk ρ st=.ok w (st.set n (.dct (jJ kvs (.i q)))):=by
 unfold AV
 rw[h1];simp only[R.bind_ok,vH h]
 rw[h2];simp only[R.bind_ok,vH h,jI,hg,d9]
theorem II{i j:Nat}{T:Addr}{pos:Pos}{q:Str}{ks:List (List Int)}{p:DK×W}(h0:ρ[i]?=some (some (.loc n)))(h:st[n]?=some (.dct kvs))(hk:js kvs=some ks)(ht:st[j]?=some (.tab T pos q))(hp:kvs[jK (fun a=>ks.getD a []) (kvs.length-1)]?=some p) :
  rB i j T pos q ρ st=.ok p.1.w st:=by
 unfold rB
 rw[h0];simp only[vH h,hk]
 rw[aD (show D6 st j T pos q from ht),hp];rfl
theorem QF{w v:Wy}{b:Bool}(h:HT.lexLt w.z v.z=b):B_ (vG w) (vG v) st=.ok (.bl b) st:=by
 rw[<- h];rfl
theorem IJ{N:Nat}{body:FS}{ws:List W}{c:Nat}{d:am}(hc:c<st.length)(hd:d.und st.length=true)(h:gn (A2 fun _ bH=>∃x,bH=st.set c d++x) (body (ws.map some++List.replicate (N-ws.length) none) st)):du N body ws st=.ok .non (st.set c d):=by
 obtain⟨ρ',bH,e,x,rfl⟩:=h
 unfold du
 rw[e]
 show R.ok W.non (j_ st (st.set c d++x) [.non])=_
 unfold j_
 rw[aD]
 ·congr 1
  rw[bf (by simp),bo (by simp)]
 ·refine⟨rfl,by simp,fun i hi=>?_⟩
  rw[au (by simpa using hi)]
  by_cases z:c=i
  ·subst z
   exact .inr ⟨d,by rw[bb hi],hd⟩
  ·exact .inl (by rw[bg z])
end
theorem yh{ρ:cB}{st st1:List am}{P:RS->Prop}{fi:FI}{f:FG}{body:FS}{k:ze}(I:Nat->cB->List am->Prop)(h:fi ρ st=.ok k st1)(h0:I 0 ρ st1)(hc:∀i ρ st,I i ρ st->ii st k.2)
  (hs:∀i w ρ st,k.1[i]?=some w->I i ρ st->∃ρ',f w ρ=some ρ'/\gn (A2 (I (i+1))) (body ρ' st)) (he:∀ρ st,I k.1.length ρ st->P (.nx ρ st)):gn P (gu fi f body ρ st):=by
 obtain⟨ρ2,cZ,e,h2⟩:=rD (f:=f) (body:=body) (ck:=k.2) I (ws:=k.1) (ρ:=ρ) (st:=st1) 0 h0 hc fun i w ρ st hw hI=>by
  rw[fW]at hI ⊢
  obtain⟨ρ',e1,ρ2,cZ,e2,h2⟩:=hs i w ρ st hw hI
  exact⟨ρ',ρ2,cZ,e1,e2,h2⟩
 rw[fW]at h2
 rw[u6 h,e];exact he _ _ h2
def wg(n:Nat):List (Nat×Nat):=(List.range (n+1)).map (fun o=>(n,o))++(List.range n).map (fun o=>(o,n))
def Nl(p:Nat×Nat):W:=.tup [.int (p.1:Nat),.int (p.2:Nat)]
theorem rY{β:Type}(q:Nat)(F:W->β):(c8 0 q).map F=(List.range q).map fun i=>F (.int (i:Nat)):=by
 unfold c8
 rw[bK]
 refine cD fun i _=>?_
 show F (.int (0+(i:Int)))=_
 rw[jB]
theorem Fq(n:Nat)(hn:n<=1000)(st:List am):∃x y,Cj [.int n] st=.ok (.loc (st.length+2)) (st++[.lst x,.lst y,.lst ((wg n).map Nl)]):=by
 refine⟨List.map (fun w=>W.tup [.int n,w]) (c8 0 ((n:Int)+1).toNat),List.map (fun w=>W.tup [w,.int n]) (c8 0 (n:Int).toNat),xo (N:=1) (body:=Qj) (ws:=[.int n]) (k:=2) ?_⟩
 refine xp ?_
 refine be (oI (fun w=>.tup [.int n,w]) (fD (ak (be (ah rfl) bM db) aF) (by omega)) ?_ trivial ?_) (oI (fun w=>.tup [w,.int n]) (fD (ak (ah rfl) aF) (by omega)) ?_ trivial ?_) ?_
 ·rw[c8,av,fG];show _<=1000000;omega
 ·intro w hw
  exact⟨_,rfl,(by(walk_at "evs"))⟩
 ·rw[c8,av,fG];show _<=1000000;omega
 ·intro w hw
  exact⟨_,rfl,(by(walk_at "evs"))⟩
 ·have ea:(wg n).map Nl=List.map (fun w=>W.tup [.int n,w]) (c8 0 ((n:Int)+1).toNat)++List.map (fun w=>W.tup [w,.int n]) (c8 0 (n:Int).toNat):=by
   rw[rY,rY,wg,bQ,bK,bK]
   rfl
  rw[Ea (ws:=List.map (fun w=>W.tup [.int n,w]) (c8 0 ((n:Int)+1).toNat)) (xs:=List.map (fun w=>W.tup [w,.int n]) (c8 0 (n:Int).toNat)) (fZ (by rw[cF];rfl)) (by rw[cF];rfl),ea]
  ·simp
  ·simp[c8];show _<=1000000;omega
theorem Nm{n i:Nat}{p:Nat×Nat}(h:(wg n)[i]?=some p):p.1<=n/\p.2<=n/\(p.1=n\/p.2=n):=by
 have:=aT h
 unfold wg at this
 rcases a7.mp this with h|h
 ·obtain⟨o,ho,rfl⟩:=a9.mp h
  have:=ca.mp ho
  exact⟨aA _,by simp only;omega,.inl rfl⟩
 ·obtain⟨o,ho,rfl⟩:=a9.mp h
  have:=ca.mp ho
  exact⟨by simp only;omega,aA _,.inr rfl⟩
theorem IK{n l r:Nat}(hl:l<=n)(hr:r<=n)(h:l=n\/r=n):∃i:Nat,i<(wg n).length/\(wg n)[i]?=some (l,r):=by
 have:(l,r)∈wg n:=by
  unfold wg
  rw[a7]
  by_cases z:l=n
  ·subst z
   exact .inl (a9.mpr ⟨r,ca.mpr (by omega),rfl⟩)
  ·have:r=n:=by omega
   subst this
   exact .inr (a9.mpr ⟨l,ca.mpr (by omega),rfl⟩)
 obtain⟨i,hi⟩:=cL this
 exact⟨i,(aa.mp hi).1,hi⟩
def ui(E:List Ro)(i:Nat)(e:Ro)(w:W):Prop:=(i=0/\w=.tup [.int (e.1:Nat),.int (e.2.s:Nat),.tup []])\/(0<i/\∃el er:Ro,E[e.2.l]?=some el/\E[e.2.r]?=some er/\w=.tup [.int (e.1:Nat),.int (e.2.s:Nat),.tup [.int (el.1:Nat),.int (er.1:Nat),.int (e.2.a:Nat)]])
structure Rows(E:List Ro)(R:List W):Prop where
 len:R.length=E.length
 at':∀(i:Nat) (e:Ro),E[i]?=some e->∃w,R[i]?=some w/\ui E i e w
theorem ui.sh{E:List Ro}{i:Nat}{e:Ro}{w:W}(h:ui E i e w):∃t,w=.tup [.int (e.1:Nat),.int (e.2.s:Nat),t]:=by
 rcases h with⟨_,rfl⟩|⟨_,_,_,_,_,rfl⟩<;>exact⟨_,rfl⟩
theorem ui.app{E x:List Ro}{i:Nat}{e:Ro}{w:W}(h:ui E i e w):ui (E++x) i e w:=by
 rcases h with h|⟨h0,el,er,h1,h2,h3⟩
 ·exact .inl h
 ·exact .inr ⟨h0,el,er,by rw[au (aa.mp h1).1];exact h1,by rw[au (aa.mp h2).1];exact h2,h3⟩
def e7(M:Mc)(a l r:Nat):Nat:=((M.tb.getD a []).getD l []).getD r 0
section
variable{M:Mc}{N:Nat}
theorem Fs(hM:ng M N){a:Nat}{t:List (List Nat)}(ht:M.tb[a]?=some t){l r:Nat}(hl:l<N)(hr:r<N):∃row,t[l]?=some row/\row[r]?=some (e7 M a l r)/\e7 M a l r<N:=by
 obtain⟨t1,t2⟩:=hM.t t (aT ht)
 have hl':l<t.length:=by omega
 have e1:t[l]?=some t[l]:=ac hl'
 obtain⟨r1,r2⟩:=t2 t[l] (gF hl')
 have hr':r<t[l].length:=by omega
 have e2:t[l][r]?=some t[l][r]:=ac hr'
 have e3:e7 M a l r=t[l][r]:=by
  unfold e7
  rw[ax,ax,ax,ht]
  simp only[Option.getD_some,e1,e2]
 exact⟨t[l],e1,by rw[e2,e3],by rw[e3];exact r2 _ (gF hr')⟩
theorem KD{t:List (List Nat)}{l:Nat}{row:List Nat}{st:List am}(h:t[l]?=some row):bG (hG t) (.int (l:Nat)) st=.ok (iX row) st:=by
 unfold hG;exact c_ (fI (by rw[aB,h];rfl))
theorem KF{row:List Nat}{r k:Nat}{st:List am}(h:row[r]?=some k):bG (iX row) (.int (r:Nat)) st=.ok (.int (k:Nat)) st:=by
 unfold iX;exact c_ (fI (by rw[aB,h];rfl))
end
structure Go(T:Nat->Nat->Nat->Nat)(L N:Nat)(E B:List Ro)(D:Nat->Nat->Nat->Prop):Prop where
 best:yb T L N E B
 cov:∀l r a,D l r a->IE T E B l r a
theorem Go.imp{T:Nat->Nat->Nat->Nat}{L N:Nat}{E B:List Ro}{D D':Nat->Nat->Nat->Prop}(g:Go T L N E B D)(h:∀l r a,D' l r a->D l r a):Go T L N E B D':=⟨g.best,fun l r a d=>g.cov l r a (h l r a d)⟩
theorem Go.one{T:Nat->Nat->Nat->Nat}{L N:Nat}{E B B':List Ro}{D:Nat->Nat->Nat->Prop}(h:ip T L N E)(g:Go T L N E B D){l r a:Nat}{el er:Ro}(e1:E[l]?=some el)(e2:E[r]?=some er)(ha:a<L)(hN:T a el.1 er.1<N)
  (vY:l=E.length-1\/r=E.length-1) (o:Fj E B (T a el.1 er.1,mV l r a el er) B'):Go T L N E B' (fun l' r' a'=>D l' r' a'\/l'=l/\r'=r/\a'=a):=
 ⟨Fk h g.best ⟨el,er,e1,e2,ha,rfl,rfl⟩ hN vY o,fun l' r' a' d=>by
  rcases d with d|⟨rfl,rfl,rfl⟩
  ·exact IG o g.best.nd (g.cov _ _ _ d)
  ·exact Fl h e1 e2 vY o⟩
theorem yi(n:Nat):∀l:List Int,undWs n (l.map W.int)=true
 |[]=>rfl
 |_::l=>by simp only[aK,undWs,yi n l,bc];rfl
theorem Nn(n:Nat)(B:List Ro):(am.dct (bW B)).und n=true:=by
 show undWs n ((bW B).map fun p=>p.2)=true
 unfold bW dI
 rw[bK]
 induction B with
 |nil=>rfl
 |cons b B ih=>
  simp only[aK,undWs,ih,bc]
  show(vG b.2).und n=true
  unfold vG W.und
  exact yi n _
section
variable{M:Mc}{N:Nat}{E B:List Ro}{R:List W}{st:List am}{ra rb rc:Nat}
theorem A'(hM:ng M N)(hN:N<=100)(CI:st[ra]?=some (.lst R))(Ra:st[rb]?=some (.dct (tW E)))(Gv:st[rc]?=some (.dct (bW B)))(n1:rc≠ra)(n2:rc≠rb)(hR:Rows E R)(h:ip (e7 M) M.tb.length N E)
  (g:Go (e7 M) M.tb.length N E B fun l r a=>l<E.length-1/\r<E.length-1/\a<M.tb.length) :
  ∃B',Go (e7 M) M.tb.length N E B' (fun l r a=>l<E.length/\r<E.length/\a<M.tb.length)/\Cm [M.w,.loc ra,.loc rb,.loc rc] st=.ok .non (st.set rc (.dct (bW B'))):=by
 have hE:=h.len
 have hE0:=h.len0
 suffices hh:gn (A2 fun _ bH=>∃B',Go (e7 M) M.tb.length N E B' (fun l r a=>l<E.length/\r<E.length/\a<M.tb.length)/\∃x,bH=st.set rc (.dct (bW B'))++x) (Qu ([M.w,W.loc ra,.loc rb,.loc rc].map some++List.replicate (11-4) none) st) by
  obtain⟨ρ',bH,e,B',hg,hx⟩:=hh
  exact⟨B',hg,IJ (aa.mp Gv).1 (Nn _ _) ⟨ρ',bH,e,hx⟩⟩
 obtain⟨x,y,ep⟩:=Fq (E.length-1) (by omega) st
 have hc:=(aa.mp Gv).1
 have elen:((R.length:Int)-1)=((E.length-1:Nat):Int):=by rw[hR.len];omega
 generalize mX:st++[am.lst x,.lst y,.lst ((wg (E.length-1)).map Nl)]=s1 at ep
 have qJ:s1[st.length+2]?=some (.lst ((wg (E.length-1)).map Nl)):=by rw[<- mX,eL];rfl
 have p1:st <+: s1:=by rw[<- mX];exact aE _ _
 have hq:∀(B':List Ro) (i:Nat) (c:am),i≠rc->s1[i]?=some c->(s1.set rc (.dct (bW B')))[i]?=some c:=fun B' i c hi e=>by rw[bg (Ne.symm hi)];exact e
 have hq':∀(B':List Ro),(s1.set rc (.dct (bW B')))[rc]?=some (.dct (bW B')):=fun B'=>bb (aX hc p1.length_le)
 have yG:s1.set rc (.dct (bW B))=s1:=by
  refine gk fun i=>?_
  by_cases z:rc=i
  ·subst z;rw[hq',pre_get p1 Gv]
  ·rw[bg z]
 refine yh (fun i ρ s=>∃(B':List Ro) (o4 o5 o6 o7 o8 o9 sX:Option W),ρ=[some M.w,some (.loc ra),some (.loc rb),some (.loc rc),o4,o5,o6,o7,o8,o9,sX]/\s=s1.set rc (.dct (bW B')) /\
   Go (e7 M) M.tb.length N E B' fun l r a=>(l<E.length-1/\r<E.length-1\/∃j,j<i/\(wg (E.length-1))[j]?=some (l,r))/\a<M.tb.length) (k:=((wg (E.length-1)).map Nl,some (st.length+2,(wg (E.length-1)).map Nl))) (st1:=s1)
  (oG (b8 (ak (be (bw (ak (ah rfl) aF) (i' (bj CI))) bM rfl) aF) (by show Cj [W.int ((R.length:Int)-1)] st=_;rw[elen];exact ep) rfl) (bj qJ))
  ⟨B,_,_,_,_,_,_,_,rfl,yG.symm,g.imp fun l r a d=>?_⟩ ?_ ?_ ?_
 ·obtain⟨d|⟨j,z,_⟩,da⟩:=d
  ·exact⟨d.1,d.2,da⟩
  ·exact absurd z (cQ _)
 ·rintro i ρ s ⟨B',o4,o5,o6,o7,o8,o9,sX,rfl,rfl,gg⟩
  exact bj (hq B' _ _ (by omega) qJ)
 ·rintro i w ρ s hw ⟨B0,o4,o5,o6,o7,o8,o9,sX,rfl,rfl,gg⟩
  rw[aB]at hw
  cases hp:(wg (E.length-1))[i]? with
  |none=>rw[hp]at hw;cases hw
  |some p=>
   obtain⟨l,r⟩:=p
   rw[hp]at hw
   cases hw
   obtain⟨hl,hr,vY⟩:=Nm hp
   simp only at hl hr vY
   have hl':l<E.length:=by omega
   have hr':r<E.length:=by omega
   obtain⟨el,hel⟩:∃el,E[l]?=some el:=⟨_,ac hl'⟩
   obtain⟨er,her⟩:∃er,E[r]?=some er:=⟨_,ac hr'⟩
   obtain⟨wl,Gp,rl⟩:=hR.at' l el hel
   obtain⟨wr,hwr,rr⟩:=hR.at' r er her
   obtain⟨tl,rfl⟩:=rl.sh
   obtain⟨tr,rfl⟩:=rr.sh
   clear rl rr
   have hlN:el.1<N:=h.lt el (aT hel)
   have hrN:er.1<N:=h.lt er (aT her)
   have xl:∀B',bG (.loc ra) (.int (l:Nat)) (s1.set rc (.dct (bW B')))=.ok _ _:=fun B'=>jM (bj (hq B' _ _ (Ne.symm n1) (pre_get p1 CI))) (fI Gp)
   have xr:∀B',bG (.loc ra) (.int (r:Nat)) (s1.set rc (.dct (bW B')))=.ok _ _:=fun B'=>jM (bj (hq B' _ _ (Ne.symm n1) (pre_get p1 CI))) (fI hwr)
   refine⟨_,rfl,?_⟩
   apply az
   ·exact bz (be (be (be (be (ah rfl) (ah rfl) (xl B0)) bM (c_ rfl)) (be (be (ah rfl) (ah rfl) (xr B0)) bM (c_ rfl)) db) bM db)
   refine yh (fun k ρ s=>∃(B':List Ro) (o7 o8 o9 sX:Option W),ρ=[some M.w,some (.loc ra),some (.loc rb),some (.loc rc),some (.int (l:Nat)),some (.int (r:Nat)),some (.int ((el.2.s:Int)+(er.2.s:Int)+1)),o7,o8,o9,sX]/\s=s1.set rc (.dct (bW B')) /\
     Go (e7 M) M.tb.length N E B' fun l' r' a'=>((l'<E.length-1/\r'<E.length-1\/∃j,j<i/\(wg (E.length-1))[j]?=some (l',r'))/\a'<M.tb.length)\/l'=l/\r'=r/\a'<k) (k:=(kQ (M.tb.map hG),none)) (st1:=s1.set rc (.dct (bW B0)))
    (by show nT (aj (e2 bG (ai 0) (eI 2)) aC) _ _=_;unfold nT;rfl) ⟨B0,_,_,_,_,rfl,rfl,gg.imp fun l' r' a' d=>?_⟩ (fun _ _ _ _=>trivial) ?_ ?_
   ·rcases d with d|⟨_,_,d⟩
    ·exact d
    ·exact absurd d (cQ _)
   ·rintro k w ρ s hw ⟨B1,o7,o8,o9,sX,rfl,rfl,gg⟩
    obtain⟨y,hy,rfl⟩:=pf hw
    rw[aB]at hy
    cases ht:M.tb[k]? with
    |none=>rw[ht]at hy;cases hy
    |some t=>
     rw[ht]at hy
     cases hy
     have hk:k<M.tb.length:=(aa.mp ht).1
     obtain⟨row,t1e,t2e,t3e⟩:=Fs hM ht hlN hrN
     refine⟨_,rfl,?_⟩
     apply az
     ·exact bz (be (be (ah rfl) (be (be (ah rfl) (ah rfl) (xl B1)) bM (c_ rfl)) (KD t1e)) (be (be (ah rfl) (ah rfl) (xr B1)) bM (c_ rfl)) (KF t2e))
     apply az
     ·exact bz (gP (ak (ah rfl) (ak (ah rfl) (ak (ah rfl) (ak (ah rfl) aF)))) (aM rfl))
     have ew:W.tup [.int ((el.2.s:Int)+(er.2.s:Int)+1),.int (l:Nat),.int (r:Nat),.int (k:Nat)]=vG (mV l r k el er):=by
      unfold vG Wy.z
      simp only[aK,dN,dR];rfl
     have hto:kg (s1.set rc (.dct (bW B1))) (.loc rb)=some (rb,tW E):=ki (hq B1 _ _ (Ne.symm n2) (pre_get p1 Ra))
     have hbo:kg (s1.set rc (.dct (bW B1))) (.loc rc)=some (rc,bW B1):=ki (hq' B1)
     have fin:∀B',Fj E B1 (e7 M k el.1 er.1,mV l r k el er) B'->Go (e7 M) M.tb.length N E B' fun l' r' a'=>((l'<E.length-1/\r'<E.length-1\/∃j,j<i/\(wg (E.length-1))[j]?=some (l',r'))/\a'<M.tb.length)\/l'=l/\r'=r/\a'<k+1:=fun B' o=>
      (Go.one h gg hel her hk t3e vY o).imp fun l' r' a' d=>by
       rcases d with d|⟨rfl,rfl,d⟩
       ·exact .inl (.inl d)
       ·rcases dO a' k with z|z
        ·exact .inl (.inr ⟨rfl,rfl,z⟩)
        ·exact .inr ⟨rfl,rfl,by omega⟩
     have put:∀ρ:cB,ρ[3]?=some (some (.loc rc))->ρ[9]?=some (some (.int (e7 M k el.1 er.1:Nat)))->ρ[10]?=some (some (vG (mV l r k el er)))->qh (ai 3) (ai 9) (ai 10) oE ρ (s1.set rc (.dct (bW B1)))=.nx ρ (s1.set rc (.dct (bW (pB B1 (e7 M k el.1 er.1,mV l r k el er))))):=fun ρ r3 r9 r10=>by
      refine pY (ah r10) (ah r3) (ah r9) ?_
      rw[zO (hq' B1) (by rw[pD];have:=gg.best.len;show _<1000000;omega),oU,Nj B1 (e7 M k el.1 er.1,mV l r k el er)]
     rw[ew]
     by_cases c1:e7 M k el.1 er.1∈E.map Prod.fst
     ·refine hV (u7 (bI (be (ah rfl) (ah rfl) (A9 (b:=false) hto (by rw[A8];simp only[gi];rw[a8 c1];rfl))))) ?_
      exact⟨_,_,rfl,B1,_,_,_,_,rfl,rfl,fin B1 (.inl ⟨c1,rfl⟩)⟩
     ·have t1:∀ρ:cB,ρ[9]?=some (some (.int (e7 M k el.1 er.1:Nat)))->ρ[2]?=some (some (.loc rb))->et (e2 (u0 true) (ai 9) (ai 2)) ρ (s1.set rc (.dct (bW B1)))=.ok true _:=fun ρ r9 r2=>
       bI (be (ah r9) (ah r2) (A9 (b:=true) hto (by rw[A8];simp only[gi];rw[aR c1];rfl)))
      by_cases c2:e7 M k el.1 er.1∈B1.map Prod.fst
      ·obtain⟨q,hqB,hq1⟩:=a9.mp c2
       have t2:∀ρ:cB,ρ[9]?=some (some (.int (e7 M k el.1 er.1:Nat)))->ρ[3]?=some (some (.loc rc))->et (e2 (u0 true) (ai 9) (ai 3)) ρ (s1.set rc (.dct (bW B1)))=.ok false _:=fun ρ r9 r2=>
        bI (be (ah r9) (ah r2) (A9 (b:=false) hbo (by rw[A8];simp only[gi];rw[a8 c2];rfl)))
       have gt:j4 (bW B1) (.i (e7 M k el.1 er.1:Nat))=some (vG q.2):=by
        rw[<- hq1];exact yf (f:=fun p:Ro=>p.1) (g:=fun p=>vG p.2) gg.best.nd hqB
       have t3:∀(b:Bool) (ρ:cB),HT.lexLt (mV l r k el er).z q.2.z=b->ρ[9]?=some (some (.int (e7 M k el.1 er.1:Nat)))->ρ[3]?=some (some (.loc rc))->ρ[10]?=some (some (vG (mV l r k el er)))->et (e2 B_ (ai 10) (e2 qk (ai 3) (ai 9))) ρ (s1.set rc (.dct (bW B1)))=.ok b _:=fun b ρ hb r9 r3 r10=>
        bI (be (ah r10) (be (ah r3) (ah r9) (A_ hbo gt)) (QF hb))
       cases hb:HT.lexLt (mV l r k el er).z q.2.z with
       |true=>
        refine iJ (oF (t1 _ rfl rfl) (gW (t2 _ rfl rfl) (t3 true _ hb rfl rfl rfl))) ?_
        exact⟨_,_,put _ rfl rfl rfl,_,_,_,_,_,rfl,rfl,fin _ (.inr (.inr ⟨c1,fun q' hq' e'=>by
         obtain rfl:=A7 gg.best.nd hqB hq' (hq1.trans e'.symm)
         exact(Wy.lex _ _).mp hb,rfl⟩))⟩
       |false=>
        refine hV (oF (t1 _ rfl rfl) (gW (t2 _ rfl rfl) (t3 false _ hb rfl rfl rfl))) ?_
        exact⟨_,_,rfl,B1,_,_,_,_,rfl,rfl,fin B1 (.inr (.inl ⟨c1,⟨q,hqB,hq1,fun z=>by rw[(Wy.lex _ _).mpr z]at hb;cases hb⟩,rfl⟩))⟩
      ·refine iJ (oF (t1 _ rfl rfl) (u8 (bI (be (ah rfl) (ah rfl) (A9 (b:=true) hbo (by rw[A8];simp only[gi];rw[aR c2];rfl)))))) ?_
       exact⟨_,_,put _ rfl rfl rfl,_,_,_,_,_,rfl,rfl,fin _ (.inr (.inr ⟨c1,fun q' hq' e'=>(c2 (a9.mpr ⟨q',hq',e'⟩)).elim,rfl⟩))⟩
   ·rintro ρ s ⟨B1,o7,o8,o9,sX,rfl,rfl,gg⟩
    refine⟨_,_,rfl,B1,_,_,_,_,_,_,_,rfl,rfl,gg.imp fun l' r' a' d=>?_⟩
    obtain⟨d|⟨j,hj,d⟩,da⟩:=d
    ·exact .inl ⟨.inl d,da⟩
    ·rcases dO j i with z|z
     ·exact .inl ⟨.inr ⟨j,z,d⟩,da⟩
     ·obtain rfl:j=i:=by omega
      rw[hp]at d;cases d
      exact .inr ⟨rfl,rfl,by simpa[kQ]using da⟩
 ·rintro ρ s ⟨B',o4,o5,o6,o7,o8,o9,sX,rfl,rfl,gg⟩
  refine⟨_,_,rfl,B',gg.imp fun l r a d=>?_,[am.lst x,.lst y,.lst ((wg (E.length-1)).map Nl)],by rw[<- mX,List.set_append_left _ _ hc]⟩
  obtain⟨dl,dr,da⟩:=d
  refine⟨?_,da⟩
  by_cases z:l<E.length-1/\r<E.length-1
  ·exact .inl z
  ·obtain⟨j,hj,e⟩:=IK (n:=E.length-1) (l:=l) (r:=r) (by omega) (by omega) (by omega)
   exact .inr ⟨j,by simpa using hj,e⟩
end
theorem IL{ρ:cB}{st:List am}{z:Int}{v:W}:rA (mL (eC (.int z)) (eC v) pX) ρ st=.ok (.loc st.length) (st++[.dct [(.i z,v)]]):=by
 unfold rA
 have e1:mL (eC (.int z)) (eC v) pX ρ (st++[.dct []])=.ok [(.int z,v)] (st++[.dct []]):=rfl
 rw[e1]
 simp only[R.bind_ok,cF,dC]
 rfl
theorem IM{ρ:cB}{st:List am}{z:Int}:rA (mL (eC (.int z)) (eK aC) pX) ρ st=.ok (.loc st.length) (st++[.dct [(.i z,.tup [])]]):=by
 unfold rA
 have e1:mL (eC (.int z)) (eK aC) pX ρ (st++[.dct []])=.ok [(.int z,.tup [])] (st++[.dct []]):=by unfold mL eK mE;simp[aC,eC,pX,R.bind]
 rw[e1]
 simp only[R.bind_ok,cF,dC]
 rfl
theorem No{ρ:cB}{st:List am}:DV ρ st=.ok (.loc st.length) (st++[.dct []]):=rfl
theorem Ft{E:List Ro}{R:List W}(h:Rows E R)(n:Nat):undWs n R=true:=by
 have yB:∀w∈R,w.und n=true:=fun w hw=>by
  obtain⟨i,hi⟩:=cL hw
  have hl:=(aa.mp hi).1
  obtain⟨w',hw',ro⟩:=h.at' i (E[i]'(by rw[<- h.len];exact hl)) (ac (by rw[<- h.len];exact hl))
  rw[hi]at hw';cases hw'
  rcases ro with⟨_,rfl⟩|⟨_,_,_,_,_,rfl⟩<;>simp[W.und,undWs]
 clear h
 induction R with
 |nil=>rfl
 |cons w R ih=>
  simp only[undWs,cw]
  exact⟨yB w (bA ..),ih fun w hw=>yB w (aZ _ hw)⟩
theorem Rows.next{E:List Ro}{R:List W}(h:Rows E R)(h0:0<E.length){p el er:Ro}(e1:E[p.2.l]?=some el)(e2:E[p.2.r]?=some er):Rows (E++[p]) (R++[.tup [.int (p.1:Nat),.int (p.2.s:Nat),.tup [.int (el.1:Nat),.int (er.1:Nat),.int (p.2.a:Nat)]]]):=
 ⟨by simp[h.len],fun i e he=>by
  by_cases hl:i<E.length
  ·rw[au hl]at he
   obtain⟨w,hw,ro⟩:=h.at' i e he
   exact⟨w,by rw[au (by rw[h.len];exact hl)];exact hw,ro.app⟩
  ·have:i=E.length:=by have:=(aa.mp he).1;simp at this;omega
   subst this
   rw[bt]at he;cases he
   exact⟨_,by rw[<- h.len,bt],.inr ⟨h0,el,er,by rw[au (aa.mp e1).1];exact e1,by rw[au (aa.mp e2).1];exact e2,rfl⟩⟩⟩
section
variable{M:Mc}{N:Nat}{st:List am}
theorem uj(hM:ng M N)(TB:1<=N)(hN:N<=100)(ht:st[1]?=some (.tab 109 ⟨68,29,68,52⟩ "firsts_of.<locals>.<lambda>")) :
  ∃(E:List Ro) (R:List W),ip (e7 M) M.tb.length N E/\Rows E R/\(∀l r a,l<E.length->r<E.length->a<M.tb.length->IE (e7 M) E [] l r a)/\t_ [M.w] st=.ok (.tup R) st:=by
 suffices hh:gn (sF fun w bH=>(∃x,bH=st++x)/\undWs st.length [w]=true/\∃(E:List Ro) (R:List W),w=.tup R/\ip (e7 M) M.tb.length N E/\Rows E R/\∀l r a,l<E.length->r<E.length->a<M.tb.length->IE (e7 M) E [] l r a) (Kb ([M.w].map some++List.replicate (6-1) none) st) by
  obtain⟨w,⟨E,R,rfl,h1,h2,h3⟩,e⟩:=ju hh
  exact⟨E,R,h1,h2,h3,e⟩
 apply az
 ·(walk_at "evs")
 apply az
 ·exact bz IL
 apply az
 ·exact bz No
 have oN:1<st.length:=(aa.mp ht).1
 rw[show(st++[am.lst [W.tup [.int 0,.int 0,.tup []]]]++[am.dct [(DK.i 0,W.bl true)]]).length=st.length+2 by simp,show(st++[am.lst [W.tup [.int 0,.int 0,.tup []]]]).length=st.length+1 by simp,
  show st++[am.lst [W.tup [.int 0,.int 0,.tup []]]]++[am.dct [(DK.i 0,W.bl true)]]++[am.dct []]=st++[am.lst [W.tup [.int 0,.int 0,.tup []]],.dct (tW [(0,⟨0,0,0,0⟩)]),.dct (bW [])] by simp only[aW];rfl]
 have hT0:ip (e7 M) M.tb.length N [(0,⟨0,0,0,0⟩)]:=by
  refine⟨⟨[],rfl⟩,fun e he=>?_,by simp,fun i e he hi=>?_,fun i e f h1 h2=>?_⟩
  ·rw[cM.mp he];exact TB
  ·have:=(aa.mp he).1;simp at this;omega
  ·have:=(aa.mp h2).1;simp at this
 have hR0:Rows [(0,⟨0,0,0,0⟩)] [W.tup [.int 0,.int 0,.tup []]]:=⟨rfl,fun i e he=>by
  have:i=0:=by have:=(aa.mp he).1;simp at this;omega
  subst this
  cases he
  exact⟨_,rfl,.inl ⟨rfl,rfl⟩⟩⟩
 have g0:Go (e7 M) M.tb.length N [(0,⟨0,0,0,0⟩)] [] fun l r a=>l<[((0:Nat),(⟨0,0,0,0⟩:Wy))].length-1/\r<[((0:Nat),(⟨0,0,0,0⟩:Wy))].length-1/\a<M.tb.length:=
  ⟨⟨by simp,fun p hp=>by simp at hp,fun p hp=>by simp at hp⟩,fun l r a d=>absurd d.1 (by simp)⟩
 obtain⟨B1,g1,ew⟩:=A' (st:=st++[am.lst [W.tup [.int 0,.int 0,.tup []]],.dct (tW [(0,⟨0,0,0,0⟩)]),.dct (bW [])]) (ra:=st.length) (rb:=st.length+1) (rc:=st.length+2) hM hN (by rw[cF];rfl) (by rw[eL];rfl) (by rw[eL];rfl) (by omega) (by omega) hR0 hT0 g0
 rw[gO]at ew
 apply az
 ·exact eS (b8 (ak (ah rfl) (ak (ah rfl) (ak (ah rfl) (ak (ah rfl) aF)))) ew rfl)
 clear ew g0
 refine t7 (fun m ρ s=>∃(E B:List Ro) (R:List W) (o4 o5:Option W),m=N-E.length/\ρ=[some M.w,some (.loc st.length),some (.loc (st.length+1)),some (.loc (st.length+2)),o4,o5]/\s=st++[.lst R,.dct (tW E),.dct (bW B)] /\
   Rows E R/\ip (e7 M) M.tb.length N E/\Go (e7 M) M.tb.length N E B fun l r a=>l<E.length/\r<E.length/\a<M.tb.length) _ ⟨_,B1,_,_,_,rfl,rfl,rfl,hR0,hT0,g1⟩ ?_ ?_
 ·rintro m ρ s ⟨E,B,R,o4,o5,rfl,rfl,rfl,hR,hT,g⟩
  have hb:(st++[am.lst R,.dct (tW E),.dct (bW B)])[st.length+2]?=some (.dct (bW B)):=by rw[eL];rfl
  cases B with
  |nil=>exact .inl (bI (be (bw (ak (ah rfl) aF) (zP (ki hb))) bM (gc rfl)))
  |cons b B=>
   refine .inr ⟨bI (be (bw (ak (ah rfl) aF) (zP (ki hb))) bM (gc (by rw[pD];exact a8 (by simp only[ba];omega)))),?_⟩
   obtain⟨p,hp,N6⟩:=yg (b::B) B.length (by simp)
   have hpB:p∈b::B:=aT hp
   have hmin':∀q∈b::B,¬ q.2.lt p.2:=fun q hq=>by
    obtain⟨i,hi⟩:=cL hq
    exact N6 i q (by have:=(aa.mp hi).1;simp at this;omega) hi
   apply az
   ·refine bz (II (p:=(DK.i (p.1:Nat),vG p.2)) rfl hb (rX _) (fZ ht) ?_)
    rw[pD,show(b::B).length-1=B.length from rfl]
    show((b::B).map _)[_]?=_
    rw[aB,hp];rfl
   apply az
   ·exact bz (Nk (n:=st.length+2) (q:=p.1) (ah rfl) (ah rfl) hb (yf (f:=fun p:Ro=>p.1) (g:=fun p=>vG p.2) g.best.nd hpB))
   rw[gO,IH]
   obtain⟨⟨el,er,w1,w2,w3,w4,w5⟩,pn,pN⟩:=g.best.ok p hpB
   obtain⟨vl,hvl,rl⟩:=hR.at' _ _ w1
   obtain⟨vr,hvr,rr⟩:=hR.at' _ _ w2
   obtain⟨tl,rfl⟩:=rl.sh
   obtain⟨tr,rfl⟩:=rr.sh
   clear rl rr
   have hT2:=Cq hT g.best hpB
   have b2:=Cr hT g.best hpB hmin'
   have hR2:=hR.next hT.len0 w1 w2
   have hel:E.length<N:=by have:=hT2.len;simp at this;omega
   generalize hB2:List.filter (fun q:Ro=>decide (q.1≠p.1)) (b::B)=B2 at b2
   have g2:Go (e7 M) M.tb.length N (E++[p]) B2 fun l r a=>l<(E++[p]).length-1/\r<(E++[p]).length-1/\a<M.tb.length:=⟨b2,fun l r a d=>by
    rw[<- hB2]
    simp only[ay,ba,b9]at d
    exact Fm hpB g.best.nd (by omega) (by omega) (g.cov l r a ⟨by omega,by omega,d.2.2⟩)⟩
   show gn _ (aS _ _ _ (st++[am.lst R,.dct (tW E),.dct (bW B2)]))
   have hr0:(st++[am.lst R,.dct (tW E),.dct (bW B2)])[st.length]?=some (.lst R):=by rw[cF];rfl
   have xl:bG (.loc st.length) (.int (p.2.l:Nat)) (st++[am.lst R,.dct (tW E),.dct (bW B2)])=.ok _ _:=jM (bj hr0) (fI hvl)
   have xr:bG (.loc st.length) (.int (p.2.r:Nat)) (st++[am.lst R,.dct (tW E),.dct (bW B2)])=.ok _ _:=jM (bj hr0) (fI hvr)
   have xw:∀(i:Int) (w:W) (s:List am),oV (p.2.z.map W.int) i=some w->bG (vG p.2) (.int i) s=.ok w s:=fun i w s e=>c_ e
   apply az
   ·exact eS (ik (ah rfl) (dF hr0) (ak (gP (ak (ah rfl) (ak (be (ah rfl) bM (xw 0 _ _ rfl)) (ak (gP (ak (be (be (ah rfl) (be (ah rfl) bM (xw 1 _ _ rfl)) xl) bM (c_ rfl)) (ak (be (be (ah rfl) (be (ah rfl) bM (xw 2 _ _ rfl)) xr) bM (c_ rfl)) (ak (be (ah rfl) bM (xw 3 _ _ rfl)) aF))) (aM rfl)) aF))) (aM rfl)) aF) (kh hr0 (by rw[hR.len];show _<1000000;omega)))
   rw[dC]
   show gn _ (aS _ _ _ (st++[am.lst (R++[_]),.dct (tW E),.dct (bW B2)]))
   apply az
   ·refine pY bM (ah rfl) (ah rfl) (zO (kvs:=tW E) (q:=p.1) (by rw[eL];rfl) (by rw[pD];show _<1000000;omega))
   rw[gO,show qi (tW E) (.i (p.1:Nat)) (W.bl true)=tW (E++[p])from zN (f:=fun p:Ro=>p.1) (g:=fun _=>W.bl true) (a:=p) pn]
   show gn _ (dW _ _ (st++[am.lst (R++[_]),.dct (tW (E++[p])),.dct (bW B2)]))
   obtain⟨B3,g3,e3⟩:=A' (st:=st++[am.lst (R++[W.tup [.int (p.1:Nat),.int (p.2.s:Nat),.tup [.int (el.1:Nat),.int (er.1:Nat),.int (p.2.a:Nat)]]]),.dct (tW (E++[p])),.dct (bW B2)]) (ra:=st.length) (rb:=st.length+1) (rc:=st.length+2) hM hN (by rw[cF];rfl) (by rw[eL];rfl) (by rw[eL];rfl) (by omega) (by omega) hR2 hT2 g2
   rw[gO]at e3
   exact⟨_,_,eS (b8 (ak (ah rfl) (ak (ah rfl) (ak (ah rfl) (ak (ah rfl) aF)))) e3 rfl),N-(E++[p]).length,by simp only[ay,ba,b9];omega,E++[p],B3,_,_,_,rfl,rfl,rfl,hR2,hT2,g3⟩
 ·rintro m ρ s ⟨E,B,R,o4,o5,rfl,rfl,rfl,hR,hT,g⟩ hf
  have hb:(st++[am.lst R,.dct (tW E),.dct (bW B)])[st.length+2]?=some (.dct (bW B)):=by rw[eL];rfl
  have hB:B=[]:=by
   cases B with
   |nil=>rfl
   |cons b B=>
    have t:et (e2 wf (bx rq (aj (ai 3) aC)) (eI 0)) [some M.w,some (.loc st.length),some (.loc (st.length+1)),some (.loc (st.length+2)),o4,o5] (st++[am.lst R,.dct (tW E),.dct (bW (b::B))])=.ok true _:=
     bI (be (bw (ak (ah rfl) aF) (zP (ki hb))) bM (gc (by rw[pD];exact a8 (by simp only[ba];omega))))
    rw[t]at hf
    cases hf
  subst hB
  refine bN (bw (ak (ah rfl) aF) (gy (bj (by rw[cF];rfl)))) ⟨_,_,rfl,⟨_,rfl⟩,?_,E,R,rfl,hT,hR,fun l r a h1 h2 h3=>g.cov l r a ⟨h1,h2,h3⟩⟩
  simp only[undWs,bc]
  unfold W.und
  exact Ft hR _
end
theorem uk{f:FG}{body:FS}{ck:Option (Nat×List W)}(I:Nat->cB->List am->Prop){Pr:RS->Prop}:∀{ws:List W} {ρ:cB} {st:List am} (i0 k:Nat) (w:W),ws[k]?=some w->I i0 ρ st->(∀i ρ st,I i ρ st->ii st ck) ->
  (∀i w ρ st,i<k->ws[i]?=some w->I (i0+i) ρ st->∃ρ' ρ2 cZ,f w ρ=some ρ'/\body ρ' st=.nx ρ2 cZ/\I (i0+i+1) ρ2 cZ) ->
  (∀ρ st,I (i0+k) ρ st->∃ρ',f w ρ=some ρ'/\((∃v s,body ρ' st=.rt v s/\Pr (.rt v s))\/(∃c r s,body ρ' st=.ex c r s/\Pr (.ex c r s))\/∃r s,body ρ' st=.bk r s/\Pr (.nx r s))) ->
  Pr (oz f body ck ws ρ st)
 |[],ρ,st,i0,k,w,hw,h0,hc,hs,hx=>by simp at hw
 |x::ws,ρ,st,i0,0,w,hw,h0,hc,hs,hx=>by
  have:x=w:=by simpa using hw
  subst this
  obtain⟨ρ',e1,h⟩:=hx ρ st h0
  unfold oz
  rw[aD (hc _ _ _ h0),e1]
  rcases h with⟨v,s,e,p⟩|⟨c,r,s,e,p⟩|⟨r,s,e,p⟩<;>simp only[e]<;>exact p
 |x::ws,ρ,st,i0,k+1,w,hw,h0,hc,hs,hx=>by
  obtain⟨ρ',ρ2,cZ,e1,e2,h1⟩:=hs 0 x ρ st (Nat.succ_pos _) rfl h0
  have:=uk I (Pr:=Pr) (ws:=ws) (ρ:=ρ2) (st:=cZ) (i0+1) k w (by simpa using hw) h1 hc (fun i w ρ st hi hw hI=>by
   obtain⟨a,b,c,d,e,g⟩:=hs (i+1) w ρ st (by omega) (by simpa using hw) (by rw[show i0+(i+1)=i0+1+i by omega];exact hI)
   exact⟨a,b,c,d,e,by rw[show i0+1+i+1=i0+(i+1)+1 by omega];exact g⟩) (fun ρ st hI=>hx ρ st (by rw[show i0+(k+1)=i0+1+k by omega];exact hI))
  unfold oz
  rw[aD (hc _ _ _ h0),e1]
  simp only[e2]
  exact this
theorem rZ{ρ:cB}{st st1:List am}{P:RS->Prop}{d7:FS}{fi:FI}{f:FG}{body:FS}{kw:ze}(I:Nat->cB->List am->Prop)(k:Nat)(w:W)(h:fi ρ st=.ok kw st1)(hw:kw.1[k]?=some w)(h0:I 0 ρ st1)(hc:∀i ρ st,I i ρ st->ii st kw.2)
  (hs:∀i w ρ st,i<k->kw.1[i]?=some w->I i ρ st->∃ρ',f w ρ=some ρ'/\gn (A2 (I (i+1))) (body ρ' st))
  (hx:∀ρ st,I k ρ st->∃ρ',f w ρ=some ρ'/\((∃v s,body ρ' st=.rt v s/\P (.rt v s))\/(∃c r s,body ρ' st=.ex c r s/\P (.ex c r s))\/∃r s,body ρ' st=.bk r s/\gn P (d7 r s))):gn P (aS (gu fi f body) d7 ρ st):=by
 have:=uk (f:=f) (body:=body) (ck:=kw.2) I (Pr:=fun r=>(∃v s,r=.rt v s/\P (.rt v s))\/(∃c q s,r=.ex c q s/\P (.ex c q s))\/∃q s,r=.nx q s/\gn P (d7 q s)) (ws:=kw.1) (ρ:=ρ) (st:=st1) 0 k w hw h0 hc (fun i w ρ st hi hw hI=>by
  rw[fW]at hI ⊢
  obtain⟨ρ',e1,ρ2,cZ,e2,h2⟩:=hs i w ρ st hi hw hI
  exact⟨ρ',ρ2,cZ,e1,e2,h2⟩) (fun ρ st hI=>by
  rw[fW]at hI
  obtain⟨ρ',e1,h⟩:=hx ρ st hI
  refine⟨ρ',e1,?_⟩
  rcases h with⟨v,s,e,p⟩|⟨c,r,s,e,p⟩|⟨r,s,e,p⟩
  ·exact .inl ⟨v,s,e,.inl ⟨_,_,rfl,p⟩⟩
  ·exact .inr (.inl ⟨c,r,s,e,.inr (.inl ⟨_,_,_,rfl,p⟩)⟩)
  ·exact .inr (.inr ⟨r,s,e,.inr (.inr ⟨_,_,rfl,p⟩)⟩))
 rw[<- u6 h]at this
 rcases this with⟨v,s,e,p⟩|⟨c,r,s,e,p⟩|⟨r,s,e,p⟩
 ·rw[zt e];exact p
 ·exact rH e p
 ·exact az e p
def vI(n a k:Nat):Bool:=decide (a/2^(n-1-k)%2=1)
def qE(nm:List Nat)(a:Nat):List Nat:=((List.range nm.length).filter (vI nm.length a)).map fun k=>nm.getD k 0
def GU(nm:List Nat)(a i:Nat):List Nat:=((List.range' (nm.length-i) i).filter (vI nm.length a)).map fun k=>nm.getD k 0
theorem IN(m:Nat):Builtin.bitAnd (m:Int) 1=((m%2:Nat):Int):=by
 unfold Builtin.bitAnd
 rw[a8 (by omega),a8 (by omega)]
 show((((m:Int).toNat &&& 1:Nat)):Int)=_
 rw[bB,Nat.and_one_is_mod]
theorem Ba{m:Nat}{st:List am}:tM (.int (m:Nat)) (.int 1) st=.ok (.int ((m%2:Nat):Int)) st:=by
 rw[<- IN];exact fS trivial
theorem Np{a c:Nat}{st:List am}:wU (.int (a:Nat)) (.int (c:Nat)) st=.ok (.int ((a/2^c:Nat):Int)) st:=by
 have:=fS (C:=fun(_ j:Int)=>0<=j) (f:=fun i j=>i/2^j.toNat) (p:=(a:Int)) (q:=(c:Int)) (st:=st) (by omega)
 rw[show wU (.int (a:Nat)) (.int (c:Nat)) st=_ from this,bB]
 simp
theorem Fu(nm:List Nat)(a i:Nat)(hi:i<nm.length):GU nm a (i+1)=(if a/2^i%2=1 then[nm.getD (nm.length-1-i) 0]else[])++GU nm a i:=by
 unfold GU
 rw[List.range'_succ,show nm.length-(i+1)+1=nm.length-i by omega,de]
 have e:vI nm.length a (nm.length-(i+1))=decide (a/2^i%2=1):=by unfold vI;rw[show nm.length-1-(nm.length-(i+1))=i by omega]
 rw[e,show nm.length-(i+1)=nm.length-1-i by omega]
 by_cases h:a/2^i%2=1
 ·simp[h]
 ·simp[h]
theorem IP(nm:List Nat)(a:Nat):GU nm a nm.length=qE nm a:=by
 unfold GU qE;rw[Nat.sub_self,List.range_eq_range']
theorem IQ(nm:List Nat)(a i:Nat):(GU nm a i).length<=i:=by
 unfold GU
 rw[av]
 exact bn (dY _ _) (by simp)
theorem Fv(nm:List Nat)(a:Nat)(hn:nm.length<=60)(st:List am):Ci [.str nm,.int (a:Nat)] st=.ok (.str (qE nm a)) st:=by
 refine fJ (N:=5) (ws:=[.str nm,.int (a:Nat)]) (body:=Qh) ?_ rfl
 apply az
 ·(walk_at "evs")
 apply az
 ·(walk_at "evs")
 refine dL (fun i ρ s=>∃o:Option W,ρ=[some (.str nm),some (.int (a:Nat)),some (.str (GU nm a i)),some (.int ((a/2^i:Nat):Int)),o]/\s=st) (k:=(gv nm.reverse,none)) (st1:=st)
  (by unfold zk;rw[show aj (ai 0) aC _ st=.ok [.str nm] st from rfl];simp only[R.bind_ok];rw[aD (by omega)]) ⟨none,by rw[Nat.pow_zero,Nat.div_one];rfl,rfl⟩ (fun _ _ _ _=>trivial) ?_ ?_
 ·rintro i w ρ s hw ⟨o,rfl,rfl⟩
  unfold gv at hw
  rw[aB]at hw
  have hi:i<nm.length:=by
   rcases dO i nm.length with z|z
   ·exact z
   ·rw[cX (by simpa using z)]at hw;cases hw
  rw[gb hi,ac (by omega)]at hw
  have hw:some (W.str [nm[nm.length-1-i]])=some w:=hw
  cases hw
  have hg:nm[nm.length-1-i]'(by omega)=nm.getD (nm.length-1-i) 0:=by rw[ax,ac (by omega)];rfl
  have hl:=IQ nm a i
  have hnext:∀m:List Nat,m=GU nm a (i+1)->gn (A2 fun ρ s'=>∃o:Option W,ρ=[some (.str nm),some (.int (a:Nat)),some (.str (GU nm a (i+1))),some (.int ((a/2^(i+1):Nat):Int)),o]/\s'=s) (bu 3 (e2 wU (ai 3) (eI 1)) [some (.str nm),some (.int (a:Nat)),some (.str m),some (.int ((a/2^i:Nat):Int)),some (.str [nm[nm.length-1-i]])] s):=fun m hm=>by
   subst hm
   refine⟨_,_,bz (be (ah rfl) bM (Np (c:=1))),some (.str [nm[nm.length-1-i]]),?_,rfl⟩
   rw[lT,<- Nat.pow_add];rfl
  refine⟨_,rfl,?_⟩
  have p9:=Fu nm a i hi
  by_cases hb:a/2^i%2=1
  ·rw[aD hb]at p9
   apply eR
   ·exact bI (be (be (ah rfl) bM Ba) bM (fK (by rw[hb];rfl)))
   apply az
   ·exact bz (be (ah rfl) (ah rfl) (zu (by simp only[ba,b9];show _<=1000000;omega)))
   exact hnext _ (by rw[p9,hg])
  ·rw[aQ hb]at p9
   apply bJ
   ·exact bI (be (be (ah rfl) bM Ba) bM (fK (by rw[aO];omega)))
   apply bZ
   exact hnext _ (by rw[p9];rfl)
 ·rintro ρ s ⟨o,rfl,rfl⟩
  refine bN (ah rfl) ⟨_,_,rfl,?_,[],by simp⟩
  rw[show(gv nm.reverse).length=nm.length by simp[gv],IP]
theorem yj{n:Nat}(h:n<=100)(st:List am):xK [.int n] st=.ok .non st:=by
 have d1:decide ((100:Int)<(n:Int))=false:=aR (by omega)
 refine Ed (N:=1) (ws:=[.int n]) (body:=E1) ?_
 simp only[E1,iS]
 apply hV
 ·(walk_at "evs")
 apply cy
 ·(walk_at "evs")
 ·exact⟨_,_,rfl,[],by simp⟩
theorem IR{n:Nat}(h:100<n)(st:List am):xK [.int n] st=.ex "TooGreat" st:=by
 have d1:decide ((100:Int)<(n:Int))=true:=a8 (by omega)
 refine vc (N:=1) (ws:=[.int n]) (body:=E1) ?_
 simp only[E1,iS]
 apply iJ
 ·(walk_at "evs")
 apply Cd
 exact⟨_,_,rfl,[],by simp⟩
def QH(tl tr:List W):Nat:=(if tl.length=0 then 0 else 1)+(if tr.length=0 then 0 else 2)
def jn(nm:List Nat)(tl tr:List W)(a:Nat):List W:=tl++tr++[.tup [.int (QH tl tr:Nat),.str (qE nm a)]]
theorem zQ(nm:List Nat)(tl tr:List W)(a:Nat):(jn nm tl tr a).length=tl.length+tr.length+1:=by simp[jn];omega
theorem pE(n:Nat):∀a b:List W,undWs n (a++b)=(undWs n a&&undWs n b)
 |[],b=>by simp[undWs]
 |x::a,b=>by simp only[List.cons_append,undWs,pE n a b,Bool.and_assoc]
theorem zR(nm:List Nat){tl tr:List W}(a n:Nat)(h1:undWs n tl=true)(h2:undWs n tr=true):undWs n (jn nm tl tr a)=true:=by
 unfold jn;rw[pE,pE,h1,h2];simp[undWs,W.und]
theorem Nq(nm:List Nat)(tl tr:List W)(a:Nat)(hl:tl.length+tr.length<=100)(h1:∀n,undWs n tl=true)(h2:∀n,undWs n tr=true)(st:List am):E2 [.tup tl,.tup tr,.str (qE nm a)] st=.ok (.tup (jn nm tl tr a)) st:=by
 refine fJ (N:=4) (ws:=[.tup tl,.tup tr,.str (qE nm a)]) (body:=Qq) ?_ (by simp only[undWs,bc];unfold W.und;exact zR nm a _ (h1 _) (h2 _))
 apply az
 ·(walk_at "evs")
 refine im (fun ρ s=>ρ=[some (.tup tl),some (.tup tr),some (.str (qE nm a)),some (.int ((if tl.length=0 then 0 else 1:Nat):Int))]/\s=st) ?_ ?_
 ·by_cases z:tl.length=0
  ·apply hV
   ·exact bI (be (bw (ak (ah rfl) aF) iM) bM (gc (k:=false) (by rw[z];rfl)))
   ·exact⟨_,_,rfl,by rw[aD z];rfl,rfl⟩
  ·apply iJ
   ·exact bI (be (bw (ak (ah rfl) aF) iM) bM (gc (k:=true) (a8 (by omega))))
   ·exact⟨_,_,bz (be (ah rfl) bM db),by rw[aQ z];rfl,rfl⟩
 ·rintro ρ s ⟨rfl,rfl⟩
  refine im (fun ρ s'=>ρ=[some (.tup tl),some (.tup tr),some (.str (qE nm a)),some (.int (QH tl tr:Nat))]/\s'=s) ?_ ?_
  ·unfold QH
   by_cases z:tr.length=0
   ·apply hV
    ·exact bI (be (bw (ak (ah rfl) aF) iM) bM (gc (k:=false) (by rw[z];rfl)))
    ·exact⟨_,_,rfl,by rw[aD z];rfl,rfl⟩
   ·apply iJ
    ·exact bI (be (bw (ak (ah rfl) aF) iM) bM (gc (k:=true) (a8 (by omega))))
    ·refine⟨_,_,bz (be (ah rfl) bM db),?_,rfl⟩
     rw[aQ z,dR];rfl
  ·rintro ρ s' ⟨rfl,rfl⟩
   refine bN (be (be (ah rfl) (ah rfl) (rJ (by rw[ay];show _<=1000000;omega))) (gP (ak (gP (ak (ah rfl) (ak (ah rfl) aF)) (aM rfl)) aF) (aM rfl)) (rJ (by simp only[ay,ba,b9];show _<=1000000;omega))) ⟨_,_,rfl,rfl,[],by simp⟩
theorem Cs(nm:List Nat)(tl tr:List W)(a:Nat)(hl:tl.length+tr.length+1<=100)(h1:∀n,undWs n tl=true)(h2:∀n,undWs n tr=true)(st:List am):Ck [.tup tl,.tup tr,.str (qE nm a)] st=.ok (.tup (jn nm tl tr a)) st:=by
 refine fJ (N:=3) (ws:=[.tup tl,.tup tr,.str (qE nm a)]) (body:=Qs) ?_ (by simp only[undWs,bc];unfold W.und;exact zR nm a _ (h1 _) (h2 _))
 have e1:=yj (n:=tl.length+tr.length+1) hl st
 have e2:((tl.length+tr.length+1:Nat):Int)=(tl.length:Int)+(tr.length:Int)+1:=by omega
 rw[e2]at e1
 apply az
 ·exact eS (b8 (ak (be (be (bw (ak (ah rfl) aF) iM) (bw (ak (ah rfl) aF) iM) db) bM db) aF) e1 rfl)
 exact bN (b8 (ak (ah rfl) (ak (ah rfl) (ak (ah rfl) aF))) (Nq nm tl tr a (by omega) h1 h2 st) rfl) ⟨_,_,rfl,rfl,[],by simp⟩
def r6(nm:List Nat)(T:List (List W))(i:Nat)(e:Ro)(t:List W):Prop:=t.length=e.2.s/\(∀n,undWs n t=true)/\((i=0/\t=[])\/(0<i/\∃tl tr,T[e.2.l]?=some tl/\T[e.2.r]?=some tr/\(∀n,undWs n tl=true)/\(∀n,undWs n tr=true)/\t=jn nm tl tr e.2.a))
structure r_(nm:List Nat)(E:List Ro)(T:List (List W)):Prop where
 len:T.length=E.length
 at':∀(i:Nat) (e:Ro),E[i]?=some e->∃t,T[i]?=some t/\r6 nm T i e t
theorem Fw{Tb:Nat->Nat->Nat->Nat}{L N:Nat}{E:List Ro}(nm:List Nat)(h:ip Tb L N E):∃T,r_ nm E T:=by
 have key:∀n,n<=E.length->∃T:List (List W),T.length=n/\∀(i:Nat) (e:Ro),i<n->E[i]?=some e->∃t,T[i]?=some t/\r6 nm T i e t:=by
  intro n
  induction n with
  |zero=>intro _;exact⟨[],rfl,fun i e hi=>absurd hi (cQ _)⟩
  |succ n ih=>
   intro hn
   obtain⟨T,hl,hT⟩:=ih (by omega)
   have mono:∀(x:List W) (i:Nat) (e:Ro) (t:List W),r6 nm T i e t->r6 nm (T++[x]) i e t:=fun x i e t ⟨a,b,c⟩=>⟨a,b,by
    rcases c with c|⟨c0,tl,tr,c1,c2,c3⟩
    ·exact .inl c
    ·exact .inr ⟨c0,tl,tr,by rw[au (aa.mp c1).1];exact c1,by rw[au (aa.mp c2).1];exact c2,c3⟩⟩
   have he:E[n]?=some E[n]:=ac (by omega)
   suffices hx:∃x,r6 nm (T++[x]) n E[n] x by
    obtain⟨x,hx⟩:=hx
    refine⟨T++[x],by simp[hl],fun i e hi hie=>?_⟩
    rcases dO i n with z|z
    ·obtain⟨t,ht,h2⟩:=hT i e z hie
     exact⟨t,by rw[au (by omega)];exact ht,mono x _ _ _ h2⟩
    ·obtain rfl:i=n:=by omega
     rw[he]at hie;cases hie
     exact⟨x,by rw[<- hl,bt],hx⟩
   cases n with
   |zero=>
    obtain⟨r,hr⟩:=h.zero
    refine⟨[],?_,fun _=>rfl,.inl ⟨rfl,rfl⟩⟩
    have:E[0]=(0,⟨0,0,0,0⟩):=by simp only[hr,lU]
    rw[this];rfl
   |succ n=>
    obtain⟨hl1,hr1,el,er,e1,e2,_,_,hs⟩:=h.row (n+1) _ he (by omega)
    obtain⟨tl,GC,s1,u1,_⟩:=hT _ _ hl1 e1
    obtain⟨tr,ht2,s2,u2,_⟩:=hT _ _ hr1 e2
    refine⟨jn nm tl tr E[n+1].2.a,?_,fun m=>zR nm _ m (u1 m) (u2 m),.inr ⟨by omega,tl,tr,?_,?_,u1,u2,rfl⟩⟩
    ·rw[zQ,s1,s2,hs]
    ·rw[au (by omega)];exact GC
    ·rw[au (by omega)];exact ht2
 obtain⟨T,h1,h2⟩:=key E.length (aA _)
 exact⟨T,h1,fun i e he=>h2 i e (aa.mp he).1 he⟩
abbrev CP(l:List (Ro×List W)):List (DK×W):=dI (fun p:Ro×List W=>p.1.1) (fun p=>W.tup p.2) l
theorem Fx(nm:List Nat){E:List Ro}{T:List (List W)}(h:r_ nm E T):(E.zip T).map (fun p:Ro×List W=>p.1.1)=E.map Prod.fst:=by
 have e:(E.zip T).map (fun p:Ro×List W=>p.1.1)=((E.zip T).map Prod.fst).map Prod.fst:=by rw[bK];rfl
 rw[e,List.map_fst_zip (by rw[h.len];exact aA _)]
theorem se{nm:List Nat}{E:List Ro}{T:List (List W)}(h:r_ nm E T){i:Nat}{e:Ro}{t:List W}(he:E[i]?=some e)(ht:T[i]?=some t):(E.zip T)[i]?=some (e,t):=by
 rw[j5];exact⟨he,ht⟩
theorem Fy{l:List Ro}(h:(l.map Prod.fst).Nodup){i j:Nat}{e f:Ro}(hi:l[i]?=some e)(hj:l[j]?=some f)(oN:i<j):e.1≠f.1:=by
 obtain⟨a1,a2⟩:=aa.mp hi
 obtain⟨b1,b2⟩:=aa.mp hj
 have:=gH.mp h i j (by simpa using a1) (by simpa using b1) oN
 rw[dE,dE,a2,b2]at this
 exact this
section
variable{M:Mc}{N:Nat}{E:List Ro}{R:List W}{T:List (List W)}{st:List am}
theorem Fz(hM:ng M N)(vX:M.nm.length<=60)(hN:N<=100)(hT:ip (e7 M) M.tb.length N E)(hR:Rows E R)(hE:r_ M.nm E T){i:Nat}{e:Ro}{t:List W}(he:E[i]?=some e)(ht:T[i]?=some t)(hs:e.2.s<=100) :
  xL [M.w,.tup R,.int (e.1:Nat)] st=.ok (.tup t) st:=by
 have cY:=hT.len
 obtain⟨t',ht',hta⟩:=hE.at' i e he
 rw[ht]at ht';cases ht'
 refine fJ (N:=6) (ws:=[M.w,.tup R,.int (e.1:Nat)]) (body:=Kc) ?_ (by simp only[undWs,bc];unfold W.und;exact hta.2.1 _)
 apply az
 ·exact bz IM
 obtain⟨w,hw,ro⟩:=hR.at' i e he
 have hz1:CP ((E.zip T).take 1)=[(DK.i 0,W.tup [])]:=by
  obtain⟨r,hr⟩:=hT.zero
  obtain⟨t0,h0,_,_,h1|⟨h1,_⟩⟩:=hE.at' 0 (0,⟨0,0,0,0⟩) (by rw[hr];rfl)
  ·obtain⟨_,rfl⟩:=h1
   cases T with
   |nil=>cases h0
   |cons x T=>cases h0;rw[hr];rfl
  ·exact absurd h1 (bD _)
 rw[<- hz1]
 have Gi:∀n,(((E.zip T).take n).map (fun p:Ro×List W=>p.1.1)).Nodup:=fun n=>by
  rw[iV,Fx M.nm hE]
  exact List.Nodup.sublist (kr _ _) hT.nd
 have fin:∀n (o4 o5:Option W),i<n->gn (sF fun w' bH=>w'=.tup t/\∃x,bH=st++x) (cH (e2 qk (ai 3) (ai 2)) [some M.w,some (.tup R),some (.int (e.1:Nat)),some (.loc st.length),o4,o5] (st++[.dct (CP ((E.zip T).take n))])):=fun n o4 o5 hn=>by
  refine bN (be (ah rfl) (ah rfl) (A_ (w:=.tup t) (ki (by rw[cF];rfl)) ?_)) ⟨_,_,rfl,rfl,_,rfl⟩
  exact yf (f:=fun p:Ro×List W=>p.1.1) (g:=fun p=>W.tup p.2) (a:=(e,t)) (Gi n) (aT (i:=i) (by rw[aN hn];exact se hE he ht))
 have step:∀(j:Nat) (f:Ro) (v:W) (o4 o5:Option W),j<=i->E[j]?=some f->R[j]?=some v->∃NV,(aS (gs (et (e2 wf (bx dJ (aj (e2 bG (ai 4) (eI 2)) aC)) (eI 0))) (aS (bu 5 (cC 2 Ci (aj (e2 bG (ai 0) (eI 0)) (aj (e2 bG (e2 bG (ai 4) (eI 2)) (eI 2)) aC)))) (qh (ai 3) (e2 bG (ai 4) (eI 0)) (cC 3 Ck (aj (e2 qk (ai 3) (e2 bG (e2 bG (ai 4) (eI 2)) (eI 0))) (aj (e2 qk (ai 3) (e2 bG (e2 bG (ai 4) (eI 2)) (eI 1))) (aj (ai 5) aC)))) oE)) b_) (gs (et (e2 jC (e2 bG (ai 4) (eI 0)) (ai 2))) uQ b_)) [some M.w,some (.tup R),some (.int (e.1:Nat)),some (.loc st.length),some v,o5] (st++[.dct (CP ((E.zip T).take (max j 1)))])
   = (if f.1=e.1 then RS.bk else RS.nx) [some M.w,some (.tup R),some (.int (e.1:Nat)),some (.loc st.length),some v,NV] (st++[.dct (CP ((E.zip T).take (j+1)))]):=by
  intro j f v o4 o5 hj hf hv
  obtain⟨v',hv',rv⟩:=hR.at' j f hf
  rw[hv]at hv';cases hv'
  obtain⟨tv,rfl⟩:=rv.sh
  have tail:∀(NV:Option W) (s:List am),gs (et (e2 jC (e2 bG (ai 4) (eI 0)) (ai 2))) uQ b_ [some M.w,some (.tup R),some (.int (e.1:Nat)),some (.loc st.length),some (.tup [.int (f.1:Nat),.int (f.2.s:Nat),tv]),NV] s=(if f.1=e.1 then RS.bk else RS.nx) [some M.w,some (.tup R),some (.int (e.1:Nat)),some (.loc st.length),some (.tup [.int (f.1:Nat),.int (f.2.s:Nat),tv]),NV] s:=fun NV s=>by
   by_cases z:f.1=e.1
   ·rw[aD z]
    exact i_ (bI (be (be (ah rfl) bM (c_ rfl)) (ah rfl) (fK (by rw[cv];omega)))) rfl
   ·rw[aQ z]
    exact pj (bI (be (be (ah rfl) bM (c_ rfl)) (ah rfl) (fK (by rw[aO];omega)))) rfl
  rcases rv with⟨rfl,hz⟩|⟨h0,el,er,q1,q2,hz⟩
  ·have hz:W.tup [.int (f.1:Nat),.int (f.2.s:Nat),tv]=.tup [.int (f.1:Nat),.int (f.2.s:Nat),.tup []]:=hz
   injection hz with hz
   injection hz with _ hz
   injection hz with _ hz
   injection hz with hz _
   subst hz
   refine⟨o5,?_⟩
   refine xq (pj (bI (be (bw (ak (be (ah rfl) bM (c_ rfl)) aF) iM) bM (gc rfl))) rG) ?_
   exact tail _ _
  ·injection hz with hz
   injection hz with _ hz
   injection hz with _ hz
   injection hz with hz _
   subst hz
   obtain⟨tf,htf,hl,hu,h1|⟨_,tl,tr,r1,r2,u1,u2,hj3⟩⟩:=hE.at' j f hf
   ·omega
   obtain⟨hl1,hr1,el',er',q1',q2',ha,hTe,hss⟩:=hT.row _ _ hf h0
   have hsz:f.2.s<=e.2.s:=hT.mono (i-j) j f e hf (by rw[show j+(i-j)=i by omega];exact he)
   have hjl:tl.length+tr.length+1<=100:=by
    have:=zQ M.nm tl tr f.2.a
    rw[<- hj3,hl]at this;omega
   have hmx:max j 1=j:=by omega
   rw[hmx]
   have hd:(st++[am.dct (CP ((E.zip T).take j))])[st.length]?=some (.dct (CP ((E.zip T).take j))):=by rw[cF];rfl
   have gl:j4 (CP ((E.zip T).take j)) (.i (el.1:Nat))=some (.tup tl):=yf (f:=fun p:Ro×List W=>p.1.1) (g:=fun p=>W.tup p.2) (a:=(el,tl)) (Gi j) (aT (i:=f.2.l) (by rw[aN hl1];exact se hE q1 r1))
   have gr:j4 (CP ((E.zip T).take j)) (.i (er.1:Nat))=some (.tup tr):=yf (f:=fun p:Ro×List W=>p.1.1) (g:=fun p=>W.tup p.2) (a:=(er,tr)) (Gi j) (aT (i:=f.2.r) (by rw[aN hr1];exact se hE q2 r2))
   have hn:f.1∉((E.zip T).take j).map (fun p:Ro×List W=>p.1.1):=by
    have h1:=Gi (j+1)
    rw[eD,se hE hf htf,bQ,iF]at h1
    intro z
    exact h1.2.2 _ z _ (by simp) rfl
   refine⟨some (.str (qE M.nm f.2.a)),?_⟩
   refine xq (i_ (bI (be (bw (ak (be (ah rfl) bM (c_ rfl)) aF) iM) bM (gc rfl))) (xq (bz (b8 (ak (be (ah rfl) bM (c_ rfl)) (ak (be (be (ah rfl) bM (c_ rfl)) bM (c_ rfl)) aF)) (Fv M.nm f.2.a vX _) rfl))
    (pY (b8 (ak (be (ah rfl) (be (be (ah rfl) bM (c_ rfl)) bM (c_ rfl)) (A_ (ki hd) gl)) (ak (be (ah rfl) (be (be (ah rfl) bM (c_ rfl)) bM (c_ rfl)) (A_ (ki hd) gr)) (ak (ah rfl) aF))) (Cs M.nm tl tr f.2.a hjl u1 u2 _) rfl) (ah rfl) (be (ah rfl) bM (c_ rfl)) (zO (q:=f.1) hd (by rw[pD,aY];have:=(aa.mp hf).1;show _<1000000;omega))))) ?_
   rw[dC,<- hj3,show qi (CP ((E.zip T).take j)) (.i (f.1:Nat)) (W.tup tf)=CP ((E.zip T).take (j+1))from ?_]
   ·exact tail _ _
   ·rw[eD,se hE hf htf]
    exact zN (f:=fun p:Ro×List W=>p.1.1) (g:=fun p=>W.tup p.2) (a:=(f,tf)) hn
 refine rZ (fun j ρ s=>j<=i/\∃o4 o5:Option W,ρ=[some M.w,some (.tup R),some (.int (e.1:Nat)),some (.loc st.length),o4,o5]/\s=st++[.dct (CP ((E.zip T).take (max j 1)))]) (kw:=(R,none)) (st1:=st++[.dct (CP ((E.zip T).take 1))]) i w (jt (ah rfl)) hw ⟨cU _,none,none,rfl,rfl⟩ (fun _ _ _ _=>trivial) ?_ ?_
 ·rintro j v ρ s hj hv ⟨_,o4,o5,rfl,rfl⟩
  have hjl:j<E.length:=by rw[<- hR.len];exact(aa.mp hv).1
  have hf:E[j]?=some E[j]:=ac hjl
  obtain⟨NV,e1⟩:=step j E[j] v o4 o5 (by omega) hf hv
  have kJ:E[j].1≠e.1:=Fy hT.nd hf he hj
  rw[aQ kJ]at e1
  exact⟨_,rfl,_,_,e1,by omega,_,_,rfl,by rw[show max (j+1) 1=j+1 by omega]⟩
 ·rintro ρ s ⟨_,o4,o5,rfl,rfl⟩
  obtain⟨NV,e1⟩:=step i e w o4 o5 (aA _) he hw
  rw[aD rfl]at e1
  exact⟨_,rfl,.inr (.inr ⟨_,_,e1,fin (i+1) _ _ (by omega)⟩)⟩
theorem IS(hM:ng M N)(vX:M.nm.length<=60)(hN:N<=100)(hT:ip (e7 M) M.tb.length N E)(hR:Rows E R)(hE:r_ M.nm E T){i:Nat}{e:Ro}{t:List W}{w:W}(he:E[i]?=some e)(ht:T[i]?=some t)(hw:R[i]?=some w) :
  ua [M.w,.tup R,w] st=if e.2.s<=100 then .ok (.tup t) st else .ex "TooGreat" st:=by
 obtain⟨t',ht',hta⟩:=hE.at' i e he
 rw[ht]at ht';cases ht'
 obtain⟨w',hw',ro⟩:=hR.at' i e he
 rw[hw]at hw';cases hw'
 obtain⟨tv,rfl⟩:=ro.sh
 by_cases hs:e.2.s<=100
 ·rw[aD hs]
  refine fJ (N:=3) (ws:=[M.w,.tup R,.tup [.int (e.1:Nat),.int (e.2.s:Nat),tv]]) (body:=E3) ?_ (by simp only[undWs,bc];unfold W.und;exact hta.2.1 _)
  apply az
  ·exact eS (b8 (ak (be (ah rfl) bM (c_ rfl)) aF) (yj hs st) rfl)
  exact bN (b8 (ak (ah rfl) (ak (ah rfl) (ak (be (ah rfl) bM (c_ rfl)) aF))) (Fz hM vX hN hT hR hE he ht hs) rfl) ⟨_,_,rfl,rfl,[],by simp⟩
 ·rw[aQ hs]
  refine vc (N:=3) (ws:=[M.w,.tup R,.tup [.int (e.1:Nat),.int (e.2.s:Nat),tv]]) (body:=E3) ?_
  exact rH (Ce (xt (ak (be (ah rfl) bM (c_ rfl)) aF) (IR (by omega) st) rfl)) ⟨_,_,rfl,[],by simp⟩
end
structure vJ(T:Nat->Nat->Nat->Nat)(L N:Nat)(E:List Ro):Prop where
 told:ip T L N E
 cov:∀l r a,l<E.length->r<E.length->a<L->IE T E [] l r a
section
variable{T:Nat->Nat->Nat->Nat}{L N:Nat}{E E':List Ro}
theorem ip.up(h:ip T L N E):∀(k i:Nat) (e f:Ro),E[i]?=some e->E[i+k]?=some f->¬ f.2.lt e.2
 |0,i,e,f,h1,h2=>by rw[iz,h1]at h2;cases h2;exact Wy.irr _
 |k+1,i,e,f,h1,h2=>by
  have hk:i+k<E.length:=by have:=(aa.mp h2).1;omega
  have e1:E[i+k]?=some E[i+k]:=ac hk
  have a:=h.up k i e _ h1 e1
  have b:=h.rise (i+k) _ f e1 (by rw[<- h2];congr 1)
  exact fun z=>a (Wy.trans b z)
theorem vJ.least(h:vJ T L N E){i:Nat}(hi:0<i){l r a:Nat}{el er:Ro}(h1:E[l]?=some el)(h2:E[r]?=some er)(hl:l<i)(hr:r<i)(ha:a<L)(hn:T a el.1 er.1∉(E.take i).map Prod.fst) :
  ∃e,E[i]?=some e/\¬ (mV l r a el er).lt e.2:=by
 rcases h.cov l r a (aa.mp h1).1 (aa.mp h2).1 ha el er h1 h2 with⟨m,f,hm,e1,e2⟩|⟨p,hp,_⟩
 ·have hmi:i<=m:=by
   rcases dO m i with z|z
   ·exact(hn (e1▸a9.mpr ⟨f,aT (i:=m) (by rw[aN z];exact hm),rfl⟩)).elim
   ·exact z
  have hil:i<E.length:=by have:=(aa.mp hm).1;omega
  have he:E[i]?=some E[i]:=ac hil
  have:=h.told.up (m-i) i _ f he (by rw[show i+(m-i)=m by omega];exact hm)
  exact⟨_,he,fun z=>e2 (Wy.ge z this)⟩
 ·cases hp
theorem FB(h:ip T L N E){i:Nat}{e:Ro}(he:E[i]?=some e):e.1∉(E.take i).map Prod.fst:=fun z=>by
 obtain⟨f,hf,e1⟩:=a9.mp z
 obtain⟨j,hj⟩:=cL hf
 have hji:j<i:=by have:=(aa.mp hj).1;rw[aY]at this;omega
 rw[aN hji]at hj
 exact Fy h.nd hj he hji e1
theorem pF(h:vJ T L N E)(h':vJ T L N E'){i:Nat}(e0:E.take i=E'.take i){e:Ro}(hi:0<i)(he:E[i]?=some e):∃e',E'[i]?=some e'/\¬ e.2.lt e'.2:=by
 obtain⟨hl,hr,el,er,h1,h2,ha,hT,hs⟩:=h.told.row i e he hi
 have t1:E'[e.2.l]?=some el:=by rw[<- h1,<- aN hl,<- e0,aN hl]
 have t2:E'[e.2.r]?=some er:=by rw[<- h2,<- aN hr,<- e0,aN hr]
 obtain⟨e',h3,h4⟩:=h'.least hi t1 t2 hl hr ha (by rw[hT,<- e0];exact FB h.told he)
 refine⟨e',h3,fun z=>h4 ?_⟩
 rw[show mV e.2.l e.2.r e.2.a el er=e.2 by rw[mV,<- hs]]
 exact z
theorem vJ.uniq(h:vJ T L N E)(h':vJ T L N E'):E=E':=by
 have key:∀n,E.take n=E'.take n:=by
  intro n
  induction n with
  |zero=>simp
  |succ n ih=>
   rw[eD,eD,ih]
   congr 2
   cases n with
   |zero=>
    obtain⟨r,hr⟩:=h.told.zero
    obtain⟨r',hr'⟩:=h'.told.zero
    rw[hr,hr'];rfl
   |succ n=>
    cases e1:E[n+1]? with
    |none=>
     cases e2:E'[n+1]? with
     |none=>rfl
     |some e'=>
      obtain⟨e,h3,_⟩:=pF h' h ih.symm (by omega) e2
      rw[e1]at h3;cases h3
    |some e=>
     obtain⟨e',h3,h4⟩:=pF h h' ih (by omega) e1
     obtain⟨e'',h5,h6⟩:=pF h' h ih.symm (by omega) h3
     rw[e1]at h5;cases h5
     obtain⟨hl,hr,el,er,a1,a2,_,a4,a5⟩:=h.told.row _ _ e1 (by omega)
     obtain⟨hl',hr',el',er',b1,b2,_,b4,b5⟩:=h'.told.row _ _ h3 (by omega)
     rw[h3]
     have hw:=Wy.tri h4 h6
     obtain⟨q,w⟩:=e
     obtain⟨q',w'⟩:=e'
     obtain rfl:w=w':=hw
     simp only at a1 a2 a4 b1 b2 b4 hl hr
     rw[<- aN hl,ih,aN hl,b1]at a1
     rw[<- aN hr,ih,aN hr,b2]at a2
     cases a1;cases a2
     rw[<- a4,<- b4]
 have:=key (max E.length E'.length)
 rw[bo (by omega),bo (by omega)]at this
 exact this
end
theorem Rows.uniq{E:List Ro}{R R':List W}(h:Rows E R)(h':Rows E R'):R=R':=by
 refine gk fun i=>?_
 by_cases hi:i<E.length
 ·obtain⟨w,hw,ro⟩:=h.at' i _ (ac hi)
  obtain⟨w',hw',ro'⟩:=h'.at' i _ (ac hi)
  rw[hw,hw']
  rcases ro with⟨z,rfl⟩|⟨z,el,er,a,b,rfl⟩<;>rcases ro' with⟨z',rfl⟩|⟨z',el',er',a',b',rfl⟩
  ·rfl
  ·omega
  ·omega
  ·rw[a]at a';rw[b]at b';cases a';cases b';rfl
 ·rw[cX (by rw[h.len];omega),cX (by rw[h'.len];omega)]
structure All(M:Mc)(N:Nat)(E:List Ro)(R:List W)(T:List (List W)):Prop where
 ok:ng M N
 n1:1<=N
 n9:N<=100
 nm:M.nm.length<=6
 full:vJ (e7 M) M.tb.length N E
 rows:Rows E R
 trees:r_ M.nm E T
theorem All.lam{M:Mc}{N:Nat}{E:List Ro}{R:List W}{T:List (List W)}(A:All M N E R T){st:List am}(ht:st[1]?=some (.tab 109 ⟨68,29,68,52⟩ "firsts_of.<locals>.<lambda>")):t_ [M.w] st=.ok (.tup R) st:=by
 obtain⟨E',R',t1,t2,t3,e⟩:=uj (st:=st) A.ok A.n1 A.n9 ht
 have hE:=A.full.uniq ⟨t1,t3⟩
 subst hE
 rw[A.rows.uniq t2];exact e
theorem Nr{M:Mc}{N:Nat}(h1:ng M N)(h2:1<=N)(h3:N<=100)(h4:M.nm.length<=6):∃E R T,All M N E R T:=by
 obtain⟨E,R,t1,t2,t3,_⟩:=uj (st:=[.ro [],.tab 109 ⟨68,29,68,52⟩ "firsts_of.<locals>.<lambda>"]) h1 h2 h3 rfl
 obtain⟨T,hT⟩:=Fw M.nm t1
 exact⟨E,R,T,h1,h2,h3,h4,⟨t1,t3⟩,t2,hT⟩
inductive Tr where
 |nil
 |nd (l r:Tr) (a:Nat)
def Tr.size:Tr->Nat
 |.nil=>0
 |.nd l r _=>l.size+r.size+1
def Tr.rm(T:Nat->Nat->Nat->Nat):Tr->Nat
 |.nil=>0
 |.nd l r a=>T a (l.rm T) (r.rm T)
def Tr.wood(nm:List Nat):Tr->List W
 |.nil=>[]
 |.nd l r a=>jn nm (l.wood nm) (r.wood nm) a
def Tr.ok(L:Nat):Tr->Prop
 |.nil=>True
 |.nd l r a=>l.ok L/\r.ok L/\a<L
def Tr.lt:Tr->Tr->Prop
 |.nil,.nil=>False
 |.nil,.nd _ _ _=>True
 |.nd _ _ _,.nil=>False
 |.nd l r a,.nd l' r' a'=>l.size+r.size<l'.size+r'.size\/(l.size+r.size=l'.size+r'.size/\(l.lt l'\/(l=l'/\(r.lt r'\/(r=r'/\a<a')))))
theorem Tr.size_le:∀{t u:Tr},t.lt u->t.size<=u.size
 |.nil,.nil,h=>h.elim
 |.nil,.nd _ _ _,_=>cU _
 |.nd _ _ _,.nil,h=>h.elim
 |.nd l r a,.nd l' r' a',h=>by
  unfold Tr.lt at h
  show l.size+r.size+1<=l'.size+r'.size+1
  rcases h with h|⟨h,_⟩<;>omega
theorem Tr.irr:∀{t:Tr},¬ t.lt t
 |.nil,h=>h
 |.nd l r a,h=>by
  unfold Tr.lt at h
  rcases h with h|⟨_,h|⟨_,h|⟨_,h⟩⟩⟩
  ·omega
  ·exact Tr.irr h
  ·exact Tr.irr h
  ·omega
theorem Tr.trans:∀{t u v:Tr},t.lt u->u.lt v->t.lt v
 |.nil,.nil,.nil,_,h2=>h2
 |.nil,.nd _ _ _,.nil,_,h2=>h2.elim
 |.nil,_,.nd _ _ _,_,_=>trivial
 |.nd _ _ _,.nil,_,h1,_=>h1.elim
 |.nd _ _ _,.nd _ _ _,.nil,_,h2=>h2.elim
 |.nd l r a,.nd l' r' a',.nd l2 r2 a2,h1,h2=>by
  unfold Tr.lt at h1 h2 ⊢
  rcases h1 with h1|⟨s1,h1⟩
  ·rcases h2 with h2|⟨s2,h2⟩
   ·exact .inl (by omega)
   ·exact .inl (by omega)
  ·rcases h2 with h2|⟨s2,h2⟩
   ·exact .inl (by omega)
   ·refine .inr ⟨by omega,?_⟩
    rcases h1 with h1|⟨rfl,h1⟩
    ·rcases h2 with h2|⟨rfl,h2⟩
     ·exact .inl (Tr.trans h1 h2)
     ·exact .inl h1
    ·rcases h2 with h2|⟨rfl,h2⟩
     ·exact .inl h2
     ·refine .inr ⟨rfl,?_⟩
      rcases h1 with h1|⟨rfl,h1⟩
      ·rcases h2 with h2|⟨rfl,h2⟩
       ·exact .inl (Tr.trans h1 h2)
       ·exact .inl h1
      ·rcases h2 with h2|⟨rfl,h2⟩
       ·exact .inl h2
       ·exact .inr ⟨rfl,by omega⟩
def Tr.le(t u:Tr):Prop:=t=u\/t.lt u
theorem Tr.le_trans{t u v:Tr}(h1:t.le u)(h2:u.le v):t.le v:=by
 rcases h1 with rfl|h1
 ·exact h2
 ·rcases h2 with rfl|h2
  ·exact .inr h1
  ·exact .inr (Tr.trans h1 h2)
theorem Tr.le_size{t u:Tr}(h:t.le u):t.size<=u.size:=by
 rcases h with rfl|h
 ·exact aA _
 ·exact Tr.size_le h
theorem Tr.nd_le{l l' r r':Tr}{a:Nat}(h1:l.le l')(h2:r.le r'):(Tr.nd l r a).le (.nd l' r' a):=by
 have s1:=Tr.le_size h1
 have s2:=Tr.le_size h2
 rcases dO (l.size+r.size) (l'.size+r'.size)with h|h
 ·exact .inr (.inl h)
 ·have e:l.size+r.size=l'.size+r'.size:=by omega
  rcases h1 with rfl|h1
  ·rcases h2 with rfl|h2
   ·exact .inl rfl
   ·exact .inr (.inr ⟨e,.inr ⟨rfl,.inl h2⟩⟩)
  ·exact .inr (.inr ⟨e,.inl h1⟩)
def yk(T:Nat->Nat->Nat->Nat)(L:Nat)(nm:List Nat)(F:List Tr)(i:Nat)(e:Ro)(t:Tr):Prop:=t.size=e.2.s/\t.rm T=e.1/\t.ok L/\((i=0/\t=.nil)\/(0<i/\∃tl tr,F[e.2.l]?=some tl/\F[e.2.r]?=some tr/\t=.nd tl tr e.2.a))
structure zS(T:Nat->Nat->Nat->Nat)(L:Nat)(nm:List Nat)(E:List Ro)(F:List Tr):Prop where
 len:F.length=E.length
 at':∀(i:Nat) (e:Ro),E[i]?=some e->∃t,F[i]?=some t/\yk T L nm F i e t
section
variable{T:Nat->Nat->Nat->Nat}{L N:Nat}{E:List Ro}{F:List Tr}{nm:List Nat}
theorem IT(nm:List Nat)(h:ip T L N E):∃F,zS T L nm E F:=by
 have key:∀n,n<=E.length->∃F:List Tr,F.length=n/\∀(i:Nat) (e:Ro),i<n->E[i]?=some e->∃t,F[i]?=some t/\yk T L nm F i e t:=by
  intro n
  induction n with
  |zero=>intro _;exact⟨[],rfl,fun i e hi=>absurd hi (cQ _)⟩
  |succ n ih=>
   intro hn
   obtain⟨F,hl,hF⟩:=ih (by omega)
   have mono:∀(x:Tr) (i:Nat) (e:Ro) (t:Tr),yk T L nm F i e t->yk T L nm (F++[x]) i e t:=fun x i e t ⟨a,b,c,d⟩=>⟨a,b,c,by
    rcases d with d|⟨c0,tl,tr,c1,c2,c3⟩
    ·exact .inl d
    ·exact .inr ⟨c0,tl,tr,by rw[au (aa.mp c1).1];exact c1,by rw[au (aa.mp c2).1];exact c2,c3⟩⟩
   have he:E[n]?=some E[n]:=ac (by omega)
   suffices hx:∃x,yk T L nm (F++[x]) n E[n] x by
    obtain⟨x,hx⟩:=hx
    refine⟨F++[x],by simp[hl],fun i e hi hie=>?_⟩
    rcases dO i n with z|z
    ·obtain⟨t,ht,h2⟩:=hF i e z hie
     exact⟨t,by rw[au (by omega)];exact ht,mono x _ _ _ h2⟩
    ·obtain rfl:i=n:=by omega
     rw[he]at hie;cases hie
     exact⟨x,by rw[<- hl,bt],hx⟩
   cases n with
   |zero=>
    obtain⟨r,hr⟩:=h.zero
    have:E[0]=(0,⟨0,0,0,0⟩):=by simp only[hr,lU]
    exact⟨.nil,by rw[this];rfl,by rw[this];rfl,trivial,.inl ⟨rfl,rfl⟩⟩
   |succ n=>
    obtain⟨hl1,hr1,el,er,e1,e2,ha,hT,hs⟩:=h.row (n+1) _ he (by omega)
    obtain⟨tl,GC,s1,r1,o1,_⟩:=hF _ _ hl1 e1
    obtain⟨tr,ht2,s2,r2,o2,_⟩:=hF _ _ hr1 e2
    refine⟨.nd tl tr E[n+1].2.a,?_,?_,⟨o1,o2,ha⟩,.inr ⟨by omega,tl,tr,?_,?_,rfl⟩⟩
    ·show tl.size+tr.size+1=_;rw[s1,s2,hs]
    ·show T _ (tl.rm T) (tr.rm T)=_;rw[r1,r2,hT]
    ·rw[au (by omega)];exact GC
    ·rw[au (by omega)];exact ht2
 obtain⟨F,h1,h2⟩:=key E.length (aA _)
 exact⟨F,h1,fun i e he=>h2 i e (aa.mp he).1 he⟩
theorem zS.wood(f:zS T L nm E F)(h:ip T L N E){TT:List (List W)}(hT:r_ nm E TT):∀(n i:Nat) (t:Tr) (w:List W),i<n->F[i]?=some t->TT[i]?=some w->w=t.wood nm
 |0,i,t,w,hi,_,_=>absurd hi (cQ _)
 |n+1,i,t,w,hi,ht,hw=>by
  have hl:i<E.length:=by rw[<- f.len];exact(aa.mp ht).1
  have he:E[i]?=some E[i]:=ac hl
  obtain⟨t',ht',_,_,_,h1⟩:=f.at' i _ he
  rw[ht]at ht';cases ht'
  obtain⟨w',hw',_,_,h2⟩:=hT.at' i _ he
  rw[hw]at hw';cases hw'
  rcases h1 with⟨rfl,rfl⟩|⟨h0,tl,tr,a1,a2,rfl⟩
  ·rcases h2 with⟨_,rfl⟩|⟨h,_⟩
   ·rfl
   ·exact absurd h (bD _)
  ·rcases h2 with⟨h,_⟩|⟨_,wl,wr,b1,b2,_,_,rfl⟩
   ·omega
   ·obtain⟨l1,l2,_⟩:=h.row i _ he h0
    rw[f.wood h hT n _ tl wl (by omega) a1 b1,f.wood h hT n _ tr wr (by omega) a2 b2];rfl
theorem FC{j:Nat}(mono:∀(a b:Nat) (ta tq:Tr),a<b->b<j->F[a]?=some ta->F[b]?=some tq->ta.lt tq){p q:Wy}{pl pr ql qr:Tr}(h1:F[p.l]?=some pl)(h2:F[p.r]?=some pr)(h3:F[q.l]?=some ql)(h4:F[q.r]?=some qr)
  (mX:p.s=pl.size+pr.size+1) (uA:q.s=ql.size+qr.size+1) (hl:q.l<j) (hr:q.r<j) (h:p.lt q):(Tr.nd pl pr p.a).lt (.nd ql qr q.a):=by
 unfold Wy.lt at h
 unfold Tr.lt
 rcases h with h|⟨e,h⟩
 ·exact .inl (by omega)
 ·refine .inr ⟨by omega,?_⟩
  rcases h with h|⟨e1,h⟩
  ·exact .inl (mono _ _ _ _ h hl h1 h3)
  ·rw[e1,h3]at h1;cases h1
   refine .inr ⟨rfl,?_⟩
   rcases h with h|⟨e2,h⟩
   ·exact .inl (mono _ _ _ _ h hr h2 h4)
   ·rw[e2,h4]at h2;cases h2
    exact .inr ⟨rfl,h⟩
theorem zS.mono(f:zS T L nm E F)(h:ip T L N E):∀(n a b:Nat) (ta tq:Tr),a<b->b<n->F[a]?=some ta->F[b]?=some tq->ta.lt tq
 |0,_,_,_,_,_,hb,_,_=>absurd hb (cQ _)
 |n+1,a,b,ta,tq,hab,hb,h1,h2=>by
  have hlb:b<E.length:=by rw[<- f.len];exact(aa.mp h2).1
  have eb:E[b]?=some E[b]:=ac hlb
  have ea:E[a]?=some (E[a]'(by omega)):=ac (by omega)
  generalize E[b]=fb at eb
  generalize E[a]'(by omega)=fa at ea
  obtain⟨t',ht',sb,_,_,hb1⟩:=f.at' b _ eb
  rw[h2]at ht';cases ht'
  obtain⟨t',ht',sa,_,_,ha1⟩:=f.at' a _ ea
  rw[h1]at ht';cases ht'
  have oN:fa.2.lt fb.2:=by
   have h3:=h.up (b-(a+1)) (a+1) (E[a+1]'(by omega)) fb (ac (by omega)) (by rw[show a+1+(b-(a+1))=b by omega];exact eb)
   have h4:=h.rise a fa (E[a+1]'(by omega)) ea (ac (by omega))
   exact Wy.ge h4 h3
  rcases hb1 with⟨hz,_⟩|⟨hb0,tl,tr,b1,b2,rfl⟩
  ·omega
  ·obtain⟨l1,l2,el,er,_,_,_,_,hs⟩:=h.row b fb eb hb0
   rcases ha1 with⟨_,rfl⟩|⟨ha0,ul,ur,a1,a2,rfl⟩
   ·exact trivial
   ·exact FC (j:=b) (fun x y tx ty hxy hy h1 h2=>f.mono h n x y tx ty hxy (by omega) h1 h2) a1 a2 b1 b2 (by rw[<- sa];rfl) (by rw[<- sb];rfl) l1 l2 oN
theorem zS.least(f:zS T L nm E F)(h:vJ T L N E):∀(t:Tr),t.ok L->∃(i:Nat) (e:Ro) (u:Tr),E[i]?=some e/\F[i]?=some u/\e.1=t.rm T/\u.le t
 |.nil,_=>by
  obtain⟨r,hr⟩:=h.told.zero
  obtain⟨t,ht,_,_,_,h1|⟨h1,_⟩⟩:=f.at' 0 (0,⟨0,0,0,0⟩) (by rw[hr];rfl)
  ·obtain⟨_,rfl⟩:=h1
   exact⟨0,_,.nil,by rw[hr];rfl,ht,rfl,.inl rfl⟩
  ·exact absurd h1 (bD _)
 |.nd l r a,ok=>by
  obtain⟨il,el,ul,e1,f1,r1,le1⟩:=f.least h l ok.1
  obtain⟨ir,er,ur,e2,f2,r2,le2⟩:=f.least h r ok.2.1
  have hil:=(aa.mp e1).1
  have hir:=(aa.mp e2).1
  rcases h.cov il ir a hil hir ok.2.2 el er e1 e2 with⟨m,e,hm,c1,c2⟩|⟨p,hp,_⟩
  ·obtain⟨u,hu,su,ru,_,hu1⟩:=f.at' m e hm
   refine⟨m,e,u,hm,hu,?_,?_⟩
   ·show e.1=T a (l.rm T) (r.rm T);rw[c1,r1,r2]
   ·refine Tr.le_trans ?_ (Tr.nd_le le1 le2)
    rcases hu1 with⟨_,rfl⟩|⟨h0,tl,tr,b1,b2,rfl⟩
    ·exact .inr trivial
    ·obtain⟨_,_,s1,_⟩:∃t,F[il]?=some t/\t.size=el.2.s/\True:=by
      obtain⟨t,ht,s,_⟩:=f.at' il el e1
      exact⟨t,ht,s,trivial⟩
     obtain⟨t1,GC,sz1,_⟩:=f.at' il el e1
     obtain⟨t2,ht2,sz2,_⟩:=f.at' ir er e2
     rw[f1]at GC;rw[f2]at ht2
     cases GC;cases ht2
     have hsz:e.2.s=tl.size+tr.size+1:=by rw[<- su];rfl
     by_cases oN:e.2.lt (mV il ir a el er)
     ·exact .inr (FC (F:=F) (j:=E.length) (fun x y tx ty hxy hy h1 h2=>f.mono h.told E.length x y tx ty hxy hy h1 h2) (p:=e.2) (q:=mV il ir a el er) b1 b2 f1 f2 hsz (by rw[sz1,sz2]) hil hir oN)
     ·have hw:=Wy.tri oN c2
      rw[hw,f1]at b1;rw[hw,f2]at b2
      cases b1;cases b2
      rw[hw]
      exact .inl rfl
  ·cases hp
end
abbrev QJ(st:List am):Prop:=st[1]?=some (.tab 109 ⟨68,29,68,52⟩ "firsts_of.<locals>.<lambda>")
section
variable{M:Mc}{N:Nat}{E:List Ro}{R:List W}{T:List (List W)}{st:List am}
theorem IU(A:All M N E R T)(ht:QJ st){i:Nat}{e:Ro}{t:List W}(he:E[i]?=some e)(hi:T[i]?=some t):ub [M.w,.int (e.1:Nat)] st=if e.2.s<=100 then .ok (.tup t) st else .ex "TooGreat" st:=by
 obtain⟨w,hw,kn⟩:=A.rows.at' i e he
 obtain⟨t',ht',hta⟩:=A.trees.at' i e he
 rw[hi]at ht';cases ht'
 have tl:=IS (st:=st) A.ok (by have:=A.nm;omega) A.n9 A.full.told A.rows A.trees he hi hw
 have miss:∀(j:Nat) (v:W),j<i->R[j]?=some v->∀o:Option W,∃ρ',f_ 3 v [some M.w,some (.int (e.1:Nat)),some (.tup R),o]=some ρ'/\gn (A2 fun ρ s=>∃o,ρ=[some M.w,some (.int (e.1:Nat)),some (.tup R),o]/\s=st) ((gs (et (e2 jC (e2 bG (ai 3) (eI 0)) (ai 1))) (cH (cC 3 ua (aj (ai 0) (aj (ai 2) (aj (ai 3) aC))))) b_) ρ' st):=fun j v hji hv o=>by
  have hj:j<E.length:=by rw[<- A.rows.len];exact(aa.mp hv).1
  have hf:E[j]?=some E[j]:=ac hj
  generalize E[j]=f at hf
  obtain⟨v',hv',rv⟩:=A.rows.at' j f hf
  rw[hv]at hv';cases hv'
  obtain⟨tv,rfl⟩:=rv.sh
  have kJ:f.1≠e.1:=Fy A.full.told.nd hf he hji
  exact⟨_,rfl,hV (bI (be (be (ah rfl) bM (c_ rfl)) (ah rfl) (fK (by rw[aO];omega)))) ⟨_,_,rfl,_,rfl,rfl⟩⟩
 obtain⟨tv,rfl⟩:=kn.sh
 by_cases hs:e.2.s<=100
 ·rw[aD hs]at tl ⊢
  refine fJ (N:=4) (ws:=[M.w,.int (e.1:Nat)]) (body:=E4) ?_ (by simp only[undWs,bc];unfold W.und;exact hta.2.1 _)
  apply az
  ·exact bz (b8 (ak (ah rfl) aF) (A.lam ht) rfl)
  refine rZ (fun i ρ s=>∃o,ρ=[some M.w,some (.int (e.1:Nat)),some (.tup R),o]/\s=st) (kw:=(R,none)) (st1:=st) i _ (jt (ah rfl)) hw ⟨_,rfl,rfl⟩ (fun _ _ _ _=>trivial) ?_ ?_
  ·rintro j v ρ s hj hv ⟨o,rfl,rfl⟩
   exact miss j v hj hv o
  ·rintro ρ s ⟨o,rfl,rfl⟩
   exact⟨_,rfl,.inl ⟨_,_,i_ (bI (be (be (ah rfl) bM (c_ rfl)) (ah rfl) (fK (by rw[cv])))) (xp (b8 (ak (ah rfl) (ak (ah rfl) (ak (ah rfl) aF))) tl rfl)),_,_,rfl,rfl,[],by simp⟩⟩
 ·rw[aQ hs]at tl ⊢
  refine vc (N:=4) (ws:=[M.w,.int (e.1:Nat)]) (body:=E4) ?_
  apply az
  ·exact bz (b8 (ak (ah rfl) aF) (A.lam ht) rfl)
  refine rZ (fun i ρ s=>∃o,ρ=[some M.w,some (.int (e.1:Nat)),some (.tup R),o]/\s=st) (kw:=(R,none)) (st1:=st) i _ (jt (ah rfl)) hw ⟨_,rfl,rfl⟩ (fun _ _ _ _=>trivial) ?_ ?_
  ·rintro j v ρ s hj hv ⟨o,rfl,rfl⟩
   exact miss j v hj hv o
  ·rintro ρ s ⟨o,rfl,rfl⟩
   exact⟨_,rfl,.inr (.inl ⟨_,_,_,i_ (bI (be (be (ah rfl) bM (c_ rfl)) (ah rfl) (fK (by rw[cv])))) (Ee (xt (ak (ah rfl) (ak (ah rfl) (ak (ah rfl) aF))) tl rfl)),_,_,rfl,[],by simp⟩)⟩
end
structure Pl where
 b:Nat
 m:List Nat
def Pl.w(p:Pl):W:=.tup [.int p.b,.str p.m]
def dw(t:List Pl):W:=.tup (t.map Pl.w)
inductive St(n:Nat):List Nat->Nat->List Nat->Nat->Option Nat×Option Nat->Prop
 |z {S:List Nat}:St n S 0 (1::S) 1 (none,none)
 |l {a:Nat} {S:List Nat}:St n (a::S) 1 ((1+a)::S) (1+a) (some (n-1),none)
 |r {a:Nat} {S:List Nat}:St n (a::S) 2 ((1+a)::S) (1+a) (none,some (n-1))
 |b {c a:Nat} {S:List Nat}:St n (c::a::S) 3 ((1+c+a)::S) (1+c+a) (some (n-1-c),some (n-1))
inductive Gr:List Pl->List Nat->List Nat->List (Option Nat×Option Nat)->Prop
 |nil:Gr [] [] [] []
 |snoc {ps:List Pl} {S S' sz:List Nat} {lk:List (Option Nat×Option Nat)} {b k:Nat} {m:List Nat} {x:Option Nat×Option Nat}:Gr ps S sz lk->St ps.length S b S' k x->Gr (ps++[⟨b,m⟩]) S' (sz++[k]) (lk++[x])
def At(sz:List Nat):List Nat->Nat->Prop
 |[],n=>n=0
 |a::S,n=>sz[n-1]?=some a/\a<=n/\1<=a/\At sz S (n-a)
theorem At.app{sz x:List Nat}:∀{S:List Nat} {n:Nat},n<=sz.length->At sz S n->At (sz++x) S n
 |[],_,_,h=>h
 |a::S,n,hn,⟨h1,h2,h3,h4⟩=>⟨by rw[au (by omega)];exact h1,h2,h3,At.app (by omega) h4⟩
theorem St.at'{n:Nat}{sz S S':List Nat}{b k:Nat}{x:Option Nat×Option Nat}(h:St n S b S' k x)(hn:sz.length=n)(ha:At sz S n):At (sz++[k]) S' (n+1):=by
 have hk:(sz++[k])[n+1-1]?=some k:=by rw[eZ,<- hn];simp
 cases h with
 |z=>exact⟨hk,by omega,by omega,by rw[eZ];exact ha.app (by omega)⟩
 |@l a S=>exact⟨hk,by have:=ha.2.1;omega,by omega,by rw[show n+1-(1+a)=n-a by omega];exact ha.2.2.2.app (by omega)⟩
 |@r a S=>exact⟨hk,by have:=ha.2.1;omega,by omega,by rw[show n+1-(1+a)=n-a by omega];exact ha.2.2.2.app (by omega)⟩
 |@b c a S=>exact⟨hk,by have:=ha.2.1;have:=ha.2.2.2.2.1;omega,by omega,by rw[show n+1-(1+c+a)=n-c-a by omega];exact ha.2.2.2.2.2.2.app (by omega)⟩
theorem Gr.ok{ps:List Pl}{S sz:List Nat}{lk:List (Option Nat×Option Nat)}(h:Gr ps S sz lk):sz.length=ps.length/\lk.length=ps.length/\At sz S ps.length:=by
 induction h with
 |nil=>exact⟨rfl,rfl,rfl⟩
 |snoc _ hs ih=>
  obtain⟨h1,h2,h3⟩:=ih
  exact⟨by simp[h1],by simp[h2],by rw[ay];exact hs.at' h1 h3⟩
theorem Gr.step{ps:List Pl}{S sz:List Nat}{lk:List (Option Nat×Option Nat)}(h:Gr ps S sz lk):∀i,i<ps.length->∃S1 S2 p k x,Gr (ps.take i) S1 (sz.take i) (lk.take i)/\ps[i]?=some p/\sz[i]?=some k/\lk[i]?=some x/\St i S1 p.b S2 k x/\Gr (ps.take (i+1)) S2 (sz.take (i+1)) (lk.take (i+1)):=by
 induction h with
 |nil=>intro i hi;simp at hi
 |@snoc ps S S' sz lk b k m x hg hs ih=>
  intro i hi
  obtain⟨l1,l2,_⟩:=hg.ok
  by_cases e:i=ps.length
  ·subst e
   refine⟨S,S',⟨b,m⟩,k,x,?_,by simp,by rw[<- l1];simp,by rw[<- l2];simp,hs,?_⟩
   ·rw[fR,<- l1,fR]
    rw[l1,<- l2,fR];exact hg
   ·rw[bo (by simp),bo (by simp[l1]),bo (by simp[l2])]
    exact .snoc hg hs
  ·have hi':i<ps.length:=by simp at hi;omega
   obtain⟨S1,S2,p,k1,x1,g1,q1,q2,q3,mX,g2⟩:=ih i hi'
   refine⟨S1,S2,p,k1,x1,?_,by rw[au hi'];exact q1,by rw[au (by omega)];exact q2,by rw[au (by omega)];exact q3,mX,?_⟩
   ·rw[bf (by omega),bf (by omega),bf (by omega)];exact g1
   ·rw[bf (by omega),bf (by omega),bf (by omega)];exact g2
theorem Gr.cut{ps:List Pl}{S sz:List Nat}{lk:List (Option Nat×Option Nat)}(h:Gr ps S sz lk){i:Nat}(hi:i<ps.length):∃(p:Pl) (L R:Nat),ps[i]?=some p/\sz[i]?=some (1+L+R)/\L+R<=i/\p.b<=3/\(0<L↔p.b%2=1)/\(0<R↔2<=p.b)/\(2<=p.b->1<=i/\sz[i-1]?=some R):=by
 obtain⟨S1,S2,p,k,x,g1,q1,q2,q3,hs,_⟩:=h.step i hi
 obtain⟨l1,l2,ha⟩:=g1.ok
 have cY:(ps.take i).length=i:=by rw[aY];omega
 rw[cY]at ha
 obtain⟨b,m⟩:=p
 have get:∀j a,1<=i->j=i-1->(sz.take i)[j]?=some a->sz[j]?=some a:=fun j a hi1 hj e=>by
  rw[aN (by omega)]at e;exact e
 cases hs with
 |z=>exact⟨⟨0,m⟩,0,0,q1,q2,by omega,by simp,by simp,by simp,by simp⟩
 |@l a S=>
  have ha1:(sz.take i)[i-1]?=some a:=ha.1
  have ha2:a<=i:=ha.2.1
  have ha3:1<=a:=ha.2.2.1
  exact⟨⟨1,m⟩,a,0,q1,q2,by omega,by simp,by simp;omega,by simp,by simp⟩
 |@r a S=>
  have ha1:(sz.take i)[i-1]?=some a:=ha.1
  have ha2:a<=i:=ha.2.1
  have ha3:1<=a:=ha.2.2.1
  exact⟨⟨2,m⟩,0,a,q1,by rw[q2],by omega,by simp,by simp,by simp;omega,fun _=>⟨by omega,get _ _ (by omega) rfl ha1⟩⟩
 |@b c a S=>
  have ha1:(sz.take i)[i-1]?=some c:=ha.1
  have ha2:c<=i:=ha.2.1
  have ha3:1<=c:=ha.2.2.1
  have hb2:a<=i-c:=ha.2.2.2.2.1
  have hb3:1<=a:=ha.2.2.2.2.2.1
  exact⟨⟨3,m⟩,a,c,q1,by rw[q2];congr 1<;>omega,by omega,by simp,by simp;omega,by simp;omega,fun _=>⟨by omega,get _ _ (by omega) rfl ha1⟩⟩
theorem QK{b:Nat}(h:b<=3)(st:List am):qt false (.int b) (.tup [.int 1,.int 3]) st=.ok (.bl (decide (b%2=1))) st:=by
 obtain rfl|rfl|rfl|rfl:b=0\/b=1\/b=2\/b=3:=by omega
 all_goals rfl
theorem QL{b:Nat}(h:b<=3)(st:List am):qt false (.int b) (.tup [.int 2,.int 3]) st=.ok (.bl (decide (2<=b))) st:=by
 obtain rfl|rfl|rfl|rfl:b=0\/b=1\/b=2\/b=3:=by omega
 all_goals rfl
theorem IV{p:Pl}(h:p.b<=3)(st:List am):vC [p.w] st=.ok (.bl (decide (p.b%2=1))) st:=by
 have:=QK h st
 have i0:bG p.w (.int 0) st=.ok (.int p.b) st:=rfl
 apply fx
 apply bN
 ·(walk_at "evs")
 ·exact⟨_,_,rfl,rfl,rfl⟩
theorem FD{p:Pl}(h:p.b<=3)(st:List am):vD [p.w] st=.ok (.bl (decide (2<=p.b))) st:=by
 have:=QL h st
 have i0:bG p.w (.int 0) st=.ok (.int p.b) st:=rfl
 apply fx
 apply bN
 ·(walk_at "evs")
 ·exact⟨_,_,rfl,rfl,rfl⟩
def oW:Option Nat->W
 |none=>.non
 |some k=>.int k
def jw(x:Option Nat×Option Nat):W:=.tup [oW x.1,oW x.2]
def iY:List Nat->Nat->List Nat
 |[],_=>[]
 |a::S,n=>(n-1)::iY S (n-a)
theorem jx:∀(S:List Nat) (n:Nat),(iY S n).length=S.length
 |[],_=>rfl
 |a::S,n=>by simp[iY,jx S]
theorem At.le{sz:List Nat}:∀{S:List Nat} {n:Nat},At sz S n->S.length<=n
 |[],_,_=>cU _
 |a::S,n,⟨_,h2,h3,h4⟩=>by have:=At.le h4;simp;omega
theorem St.det{n:Nat}{S S1 S2:List Nat}{b k1 k2:Nat}{x1 x2:Option Nat×Option Nat}(h1:St n S b S1 k1 x1)(h2:St n S b S2 k2 x2):S1=S2/\k1=k2/\x1=x2:=by
 cases h1<;>cases h2<;>exact⟨rfl,rfl,rfl⟩
theorem Gr.det{ps:List Pl}{S sz:List Nat}{lk:List (Option Nat×Option Nat)}(h:Gr ps S sz lk):∀{Q1:List Pl} {S' Rb:List Nat} {Q8:List (Option Nat×Option Nat)},Gr Q1 S' Rb Q8->ps=Q1->S=S':=by
 induction h with
 |nil=>
  intro Q1 S' Rb Q8 h' e
  cases h' with
  |nil=>rfl
  |snoc _ _=>simp at e
 |snoc hg hs ih=>
  intro Q1 S' Rb Q8 h' e
  cases h' with
  |nil=>simp at e
  |snoc hg' hs'=>
   have e2:=List.append_inj' e rfl
   have:=ih hg' e2.1
   subst this
   have e3:Pl.mk _ _=Pl.mk _ _:=List.head_eq_of_cons_eq e2.2
   injection e3 with eb em
   subst eb
   rw[<- e2.1]at hs'
   exact(hs.det hs').1
def gp(l:List Nat):List W:=l.map fun k:Nat=>W.int k
section
variable{ps:List Pl}{S sz:List Nat}{lk:List (Option Nat×Option Nat)}
theorem FF(h:Gr ps S sz lk)(hn:ps.length<=1000)(st:List am):E0 [dw ps] st=.ok (.tup (lk.map jw)) st:=by
 obtain⟨l1,l2,_⟩:=h.ok
 have hu:∀(l:List (Option Nat×Option Nat)) (n:Nat),undWs n (l.map jw)=true:=by
  intro l n
  induction l with
  |nil=>rfl
  |cons x r ih=>
   obtain⟨a,b⟩:=x
   simp only[aK,undWs,ih,bc,jw,W.und]
   cases a<;>cases b<;>rfl
 refine fJ (N:=7) (ws:=[dw ps]) (body:=Qn) ?_ (by simp[undWs,W.und,hu])
 apply az
 ·(walk_at "evs")
 apply az
 ·(walk_at "evs")
 rw[show(st++[am.lst []]).length=st.length+1 by simp,show st++[am.lst []]++[am.lst []]=st++[am.lst [],am.lst []] by simp]
 refine dL (fun i ρ bH=>∃(S1:List Nat) (o3 o4 o5 o6:Option W),ρ=[some (dw ps),some (.loc st.length),some (.loc (st.length+1)),o3,o4,o5,o6]/\bH=st++[.lst ((lk.take i).map jw),.lst (gp (iY S1 i).reverse)]/\Gr (ps.take i) S1 (sz.take i) (lk.take i)/\i<=ps.length) (k:=(kQ (ps.map Pl.w),none))
  (by show nT (aj (ai 0) aC) _ _=_;unfold nT;rfl) ⟨[],none,none,none,none,rfl,rfl,.nil,cU _⟩ (fun _ _ _ _=>trivial) ?_ ?_
 ·rintro i w ρ bH hw ⟨S1,o3,o4,o5,o6,rfl,rfl,hg,hi⟩
  obtain⟨y,hy,rfl⟩:=pf hw
  have hip:i<ps.length:=by have:=(aa.mp hy).1;simpa using this
  obtain⟨S1',S2,p,k,x,g1,q1,q2,q3,hs,g2⟩:=h.step i hip
  rw[aB,q1]at hy
  cases hy
  refine⟨_,rfl,?_⟩
  have hS:=hg.det g1 rfl
  subst hS
  obtain⟨lz,ll,ha⟩:=g1.ok
  have hti:(ps.take i).length=i:=by rw[aY];omega
  rw[hti]at ha lz ll
  have hSl:=ha.le
  obtain⟨p',L,R,q1',q2',_,hb3,hL,hR,_⟩:=h.cut hip
  rw[q1]at q1';cases q1'
  have hlk:lk.take (i+1)=lk.take i++[x]:=by rw[eD,q3];rfl
  have hrt:=fun st=>FD (p:=p) hb3 st
  have hlf:=fun st=>IV (p:=p) hb3 st
  have pop:∀(A:List W) (B:List Nat) (q:Nat),mi (.loc (st.length+1)) [] (st++[.lst A,.lst (gp (q::B).reverse)])=.ok (.int q) (st++[.lst A,.lst (gp B.reverse)]):=fun A B q=>by
   have hc:(st++[am.lst A,.lst (gp (q::B).reverse)])[st.length+1]?=some (.lst (gp B.reverse++[.int q])):=by rw[eL];simp[gp]
   rw[A0 hc,gO];rfl
  have isl:∀(A:List W) (B:List W),lZ (st++[.lst A,.lst B]) (.loc (st.length+1))=true:=fun A B=>dF (by rw[eL];rfl)
  have isl0:∀(A:List W) (B:List W),lZ (st++[.lst A,.lst B]) (.loc st.length)=true:=fun A B=>dF (by rw[cF];rfl)
  have app:∀(A:List W) (B:List Nat) (q:Nat),B.length<1000->cb (.loc (st.length+1)) [.int q] (st++[.lst A,.lst (gp B.reverse)])=.ok .non (st++[.lst A,.lst (gp (q::B).reverse)]):=fun A B q hB=>by
   have hc:(st++[am.lst A,.lst (gp B.reverse)])[st.length+1]?=some (.lst (gp B.reverse)):=by rw[eL];rfl
   rw[kh hc (by simp[gp];show _<1000000;omega),gO]
   simp[gp]
  have app0:∀(B:List W) (w:W),cb (.loc st.length) [w] (st++[.lst ((lk.take i).map jw),.lst B])=.ok .non (st++[.lst ((lk.take i).map jw++[w]),.lst B]):=fun B w=>by
   have hc:(st++[am.lst ((lk.take i).map jw),.lst B])[st.length]?=some (.lst ((lk.take i).map jw)):=by rw[cF];rfl
   rw[kh hc (by simp;show _<1000000;omega),dC];rfl
  have fin:∀(o3 o4 o5 o6:Option W) (B:List Nat),B=iY S2 (i+1)->A2 (fun ρ bH=>∃(S1:List Nat) (o3 o4 o5 o6:Option W),ρ=[some (dw ps),some (.loc st.length),some (.loc (st.length+1)),o3,o4,o5,o6]/\bH=st++[.lst ((lk.take (i+1)).map jw),.lst (gp (iY S1 (i+1)).reverse)]/\Gr (ps.take (i+1)) S1 (sz.take (i+1)) (lk.take (i+1))/\i+1<=ps.length)
    (.nx [some (dw ps),some (.loc st.length),some (.loc (st.length+1)),o3,o4,o5,o6] (st++[.lst ((lk.take i).map jw++[jw x]),.lst (gp B.reverse)])):=by
   rintro o3 o4 o5 o6 B rfl
   exact⟨_,_,rfl,S2,_,_,_,_,rfl,by rw[hlk];simp,g2,by omega⟩
  obtain⟨b,m⟩:=p
  have hiS:∀T:List Nat,T.length<=i->(iY T i).length<1000:=fun T hT=>by rw[jx];omega
  cases hs with
  |@z=>
   have hr:vD [(Pl.mk 0 m).w]=fun st=>.ok (.bl false) st:=funext hrt
   have hl:vC [(Pl.mk 0 m).w]=fun st=>.ok (.bl false) st:=funext hlf
   have a1:=app ((lk.take i).map jw) (iY S1 i) i (hiS _ hSl)
   have a2:=app0 (gp (i::iY S1 i).reverse) (.tup [.non,.non])
   apply az
   ·apply bz
    apply tZ
    ·(repeat' (first|with_reducible exact jY hr _|walk_at "ev1"))
    ·(walk_at "evs")
   apply az
   ·apply bz
    apply tZ
    ·(repeat' (first|with_reducible exact jY hl _|walk_at "ev1"))
    ·(walk_at "evs")
   apply az
   ·(repeat' (first|with_reducible exact isl _ _|walk_at "ev1"))
   apply cy
   ·(repeat' (first|with_reducible exact isl0 _ _|walk_at "ev1"))
   ·exact fin _ _ _ _ (i::iY S1 i) rfl
  |@l a S=>
   have hr:vD [(Pl.mk 1 m).w]=fun st=>.ok (.bl false) st:=funext hrt
   have hl:vC [(Pl.mk 1 m).w]=fun st=>.ok (.bl true) st:=funext hlf
   have hSl':S.length<=i:=by simp at hSl;omega
   have p1:=pop ((lk.take i).map jw) (iY S (i-a)) (i-1)
   have a1:=app ((lk.take i).map jw) (iY S (i-a)) i (by rw[jx];omega)
   have a2:=app0 (gp (i::iY S (i-a)).reverse) (.tup [.int (i-1:Nat),.non])
   apply az
   ·apply bz
    apply tZ
    ·(repeat' (first|with_reducible exact jY hr _|walk_at "ev1"))
    ·(walk_at "evs")
   apply az
   ·apply bz
    apply tY
    ·(repeat' (first|with_reducible exact jY hl _|walk_at "ev1"))
    ·exact ik (ah rfl) (isl _ _) aF p1
   apply az
   ·(repeat' (first|with_reducible exact isl _ _|walk_at "ev1"))
   apply cy
   ·(repeat' (first|with_reducible exact isl0 _ _|walk_at "ev1"))
   ·exact fin _ _ _ _ (i::iY S (i-a)) (by simp only[iY];congr 1;congr 1;omega)
  |@r a S=>
   have hr:vD [(Pl.mk 2 m).w]=fun st=>.ok (.bl true) st:=funext hrt
   have hl:vC [(Pl.mk 2 m).w]=fun st=>.ok (.bl false) st:=funext fun st=>(hlf st).trans (by rw[show decide ((Pl.mk 2 m).b%2=1)=false from by simp])
   have hSl':S.length<=i:=by simp at hSl;omega
   have p1:=pop ((lk.take i).map jw) (iY S (i-a)) (i-1)
   have a1:=app ((lk.take i).map jw) (iY S (i-a)) i (by rw[jx];omega)
   have a2:=app0 (gp (i::iY S (i-a)).reverse) (.tup [.non,.int (i-1:Nat)])
   apply az
   ·apply bz
    apply tY
    ·(repeat' (first|with_reducible exact jY hr _|walk_at "ev1"))
    ·exact ik (ah rfl) (isl _ _) aF p1
   apply az
   ·apply bz
    apply tZ
    ·(repeat' (first|with_reducible exact jY hl _|walk_at "ev1"))
    ·(walk_at "evs")
   apply az
   ·(repeat' (first|with_reducible exact isl _ _|walk_at "ev1"))
   apply cy
   ·(repeat' (first|with_reducible exact isl0 _ _|walk_at "ev1"))
   ·exact fin _ _ _ _ (i::iY S (i-a)) (by simp only[iY];congr 1;congr 1;omega)
  |@b c a S=>
   have hr:vD [(Pl.mk 3 m).w]=fun st=>.ok (.bl true) st:=funext hrt
   have hl:vC [(Pl.mk 3 m).w]=fun st=>.ok (.bl true) st:=funext fun st=>(hlf st).trans (by rw[show decide ((Pl.mk 3 m).b%2=1)=true from by simp])
   have hSl':S.length<=i:=by simp at hSl;omega
   have hca:(i-c-1)=(i-1-c):=by omega
   have p1:=pop ((lk.take i).map jw) ((i-1-c)::iY S (i-c-a)) (i-1)
   have p2:=pop ((lk.take i).map jw) (iY S (i-c-a)) (i-1-c)
   have a1:=app ((lk.take i).map jw) (iY S (i-c-a)) i (by rw[jx];omega)
   have a2:=app0 (gp (i::iY S (i-c-a)).reverse) (.tup [.int (i-1-c:Nat),.int (i-1:Nat)])
   have ht:iY (c::a::S) i=(i-1)::(i-1-c)::iY S (i-c-a):=by simp only[iY,hca]
   rw[ht]
   apply az
   ·apply bz
    apply tY
    ·(repeat' (first|with_reducible exact jY hr _|walk_at "ev1"))
    ·exact ik (ah rfl) (isl _ _) aF p1
   apply az
   ·apply bz
    apply tY
    ·(repeat' (first|with_reducible exact jY hl _|walk_at "ev1"))
    ·exact ik (ah rfl) (isl _ _) aF p2
   apply az
   ·(repeat' (first|with_reducible exact isl _ _|walk_at "ev1"))
   apply cy
   ·(repeat' (first|with_reducible exact isl0 _ _|walk_at "ev1"))
   ·exact fin _ _ _ _ (i::iY S (i-c-a)) (by simp only[iY];congr 1;congr 1;omega)
 ·rintro ρ bH ⟨S1,o3,o4,o5,o6,rfl,rfl,hg,hi⟩
  have cY:(kQ (ps.map Pl.w)).length=ps.length:=by simp[kQ]
  have hc:(st++[am.lst ((lk.take (kQ (ps.map Pl.w),(none:Option (Nat×List W))).1.length).map jw),.lst (gp (iY S1 (kQ (ps.map Pl.w),(none:Option (Nat×List W))).1.length).reverse)])[st.length]?=some (.lst (lk.map jw)):=by
   rw[cF]
   show some (am.lst ((lk.take (kQ (ps.map Pl.w)).length).map jw))=_
   rw[cY,bo (by omega)]
  apply bN
  ·(repeat' (first|with_reducible exact gy (bj hc)|walk_at "ev1"))
  ·exact⟨_,_,rfl,rfl,_,rfl⟩
end
theorem sf(t:List Pl)(n:Nat):(dw t).und n=true:=by
 unfold dw W.und
 induction t with
 |nil=>rfl
 |cons x r ih=>simp only[aK,undWs,ih,bc];simp[Pl.w,W.und,undWs]
theorem lA(a:List Pl)(st:List am):dJ [dw a] st=.ok (.int a.length) st:=by
 unfold dw
 rw[iM,av]
theorem KG{a:List Pl}{q:Nat}{p:Pl}(h:a[q]?=some p)(st:List am):bG (dw a) (.int q) st=.ok p.w st:=c_ (fI (by simp[h]))
theorem Nt(p:Pl)(st:List am):bG p.w (.int 1) st=.ok (.str p.m) st:=rfl
theorem Nu(p:Pl)(st:List am):bG p.w (.int 0) st=.ok (.int p.b) st:=rfl
section
variable{ps:List Pl}{S sz:List Nat}{lk:List (Option Nat×Option Nat)}
theorem Ct(h:Gr ps S sz lk)(hn:ps.length<=1000)(st:List am):∃x,x[1]?=some (.lst (lk.map jw))/\x6 [dw ps] st=.ok (.loc (st.length+1)) (st++x):=by
 obtain⟨l1,l2,_⟩:=h.ok
 suffices hh:gn (sF fun w bH=>∃j x,w=.loc (st.length+j)/\bH=st++x/\j=1/\x[1]?=some (.lst (lk.map jw))) (Kw ([dw ps].map some++List.replicate (6-1) none) st) by
  obtain⟨j,x,⟨rfl,h1⟩,e⟩:=oH hh
  exact⟨x,h1,e⟩
 apply az
 ·(walk_at "evs")
 apply az
 ·(walk_at "evs")
 rw[show(st++[am.lst []]).length=st.length+1 by simp,show st++[am.lst []]++[am.lst []]=st++[am.lst [],am.lst []] by simp]
 refine dL (fun i ρ bH=>∃(S1:List Nat) (o3 o4 o5:Option W),ρ=[some (dw ps),some (.loc st.length),some (.loc (st.length+1)),o3,o4,o5]/\bH=st++[.lst (gp (iY S1 i).reverse),.lst ((lk.take i).map jw)]/\Gr (ps.take i) S1 (sz.take i) (lk.take i)/\i<=ps.length)
  (fD (q:=(ps.length:Int)) (st1:=st++[am.lst [],am.lst []]) (ak (bw (ak (ah rfl) aF) (lA ps _)) aF) (by omega)) ⟨[],none,none,none,rfl,rfl,.nil,cU _⟩ (fun _ _ _ _=>trivial) ?_ ?_
 ·rintro i w ρ bH hw ⟨S1,o3,o4,o5,rfl,rfl,hg,hi⟩
  obtain⟨hip,rfl⟩:=gD hw
  rw[bB]at hip
  obtain⟨S1',S2,p,k,x,g1,q1,q2,q3,hs,g2⟩:=h.step i hip
  refine⟨_,rfl,?_⟩
  have hS:=hg.det g1 rfl
  subst hS
  obtain⟨lz,ll,ha⟩:=g1.ok
  have hti:(ps.take i).length=i:=by rw[aY];omega
  rw[hti]at ha lz ll
  have hSl:=ha.le
  have hlk:lk.take (i+1)=lk.take i++[x]:=by rw[eD,q3];rfl
  have it:∀s:List am,bG (dw ps) (.int (0+(i:Int))) s=.ok p.w s:=fun s=>by rw[jB];exact KG q1 s
  have pop:∀(A:List W) (B:List Nat) (q:Nat),mi (.loc st.length) [] (st++[.lst (gp (q::B).reverse),.lst A])=.ok (.int q) (st++[.lst (gp B.reverse),.lst A]):=fun A B q=>by
   have hc:(st++[am.lst (gp (q::B).reverse),.lst A])[st.length]?=some (.lst (gp B.reverse++[.int q])):=by rw[cF];simp[gp]
   rw[A0 hc,dC];rfl
  have isl:∀(A:List W) (B:List W),lZ (st++[.lst A,.lst B]) (.loc (st.length+1))=true:=fun A B=>dF (by rw[eL];rfl)
  have isl0:∀(A:List W) (B:List W),lZ (st++[.lst A,.lst B]) (.loc st.length)=true:=fun A B=>dF (by rw[cF];rfl)
  have app:∀(A:List W) (B:List Nat),B.length<1001->cb (.loc st.length) [.int (0+(i:Int))] (st++[.lst (gp B.reverse),.lst A])=.ok .non (st++[.lst (gp (i::B).reverse),.lst A]):=fun A B hB=>by
   have hc:(st++[am.lst (gp B.reverse),.lst A])[st.length]?=some (.lst (gp B.reverse)):=by rw[cF];rfl
   rw[kh hc (by simp[gp];show _<1000000;omega),dC]
   simp[gp]
  have app1:∀(B:List W) (w:W),cb (.loc (st.length+1)) [w] (st++[.lst B,.lst ((lk.take i).map jw)])=.ok .non (st++[.lst B,.lst ((lk.take i).map jw++[w])]):=fun B w=>by
   have hc:(st++[am.lst B,.lst ((lk.take i).map jw)])[st.length+1]?=some (.lst ((lk.take i).map jw)):=by rw[eL];rfl
   rw[kh hc (by simp;show _<1000000;omega),gO];rfl
  have T1:∀(k:Bool) (ρ:cB) (s:List am),decide ((2:Int)<=(p.b:Int))=k->ρ[0]?=some (some (dw ps))->ρ[3]?=some (some (.int (0+(i:Int))))->et (e2 Ju (e2 bG (e2 bG (ai 0) (ai 3)) (eI 0)) (eI 2)) ρ s=.ok k s:=fun k ρ s e h0 h3=>bI (be (be (be (ah h0) (ah h3) (it s)) bM (Nu p s)) bM (AY e))
  have T2:∀(k:Bool) (ρ:cB) (s:List am),(((p.b:Int)%2)==1)=k->ρ[0]?=some (some (dw ps))->ρ[3]?=some (some (.int (0+(i:Int))))->et (e2 jC (e2 eh (e2 bG (e2 bG (ai 0) (ai 3)) (eI 0)) (eI 2)) (eI 1)) ρ s=.ok k s:=fun k ρ s e h0 h3=>bI (be (be (be (be (ah h0) (ah h3) (it s)) bM (Nu p s)) bM (fS (by decide))) bM (fK e))
  have fin:∀(o3 o4 o5:Option W) (B:List Nat),i::B=iY S2 (i+1)->A2 (fun ρ bH=>∃(S1:List Nat) (o3 o4 o5:Option W),ρ=[some (dw ps),some (.loc st.length),some (.loc (st.length+1)),o3,o4,o5]/\bH=st++[.lst (gp (iY S1 (i+1)).reverse),.lst ((lk.take (i+1)).map jw)]/\Gr (ps.take (i+1)) S1 (sz.take (i+1)) (lk.take (i+1))/\i+1<=ps.length)
    (.nx [some (dw ps),some (.loc st.length),some (.loc (st.length+1)),o3,o4,o5] (st++[.lst (gp (i::B).reverse),.lst ((lk.take i).map jw++[jw x])])):=by
   rintro o3 o4 o5 B e
   exact⟨_,_,rfl,S2,_,_,_,rfl,by rw[hlk,e];simp,g2,by omega⟩
  have put:∀(lw kn:W) (o3:Option W) (B:List Nat),o3=some (.int (0+(i:Int)))->B.length<1001->jw x=.tup [lw,kn]->i::B=iY S2 (i+1) ->
    gn (A2 (fun ρ bH=>∃(S1:List Nat) (o3 o4 o5:Option W),ρ=[some (dw ps),some (.loc st.length),some (.loc (st.length+1)),o3,o4,o5]/\bH=st++[.lst (gp (iY S1 (i+1)).reverse),.lst ((lk.take (i+1)).map jw)]/\Gr (ps.take (i+1)) S1 (sz.take (i+1)) (lk.take (i+1))/\i+1<=ps.length))
     (aS (dW (kP cb (ai 2) (aj (eK (aj (ai 4) (aj (ai 5) aC))) aC))) (dW (kP cb (ai 1) (aj (ai 3) aC))) [some (dw ps),some (.loc st.length),some (.loc (st.length+1)),o3,some lw,some kn] (st++[.lst (gp B.reverse),.lst ((lk.take i).map jw)])):=by
   intro lw kn o3 B e3 hB hx hT
   subst e3
   have a1:=app1 (gp B.reverse) (.tup [lw,kn])
   have a2:=app ((lk.take i).map jw++[.tup [lw,kn]]) B hB
   have ff:=fin (some (.int (0+(i:Int)))) (some lw) (some kn) B hT
   rw[hx]at ff
   apply az
   ·exact eS (ik (ah rfl) (isl _ _) (ak (gP (ak (ah rfl) (ak (ah rfl) aF)) (aM rfl)) aF) a1)
   apply cy
   ·exact eS (ik (ah rfl) (isl0 _ _) (ak (ah rfl) aF) a2)
   ·exact ff
  apply az
  ·exact bz bM
  apply az
  ·exact bz bM
  obtain⟨b,m⟩:=p
  cases hs with
  |@z=>
   apply bJ
   ·exact T1 false _ _ rfl rfl rfl
   apply bZ
   apply bJ
   ·exact T2 false _ _ rfl rfl rfl
   apply bZ
   exact put _ _ _ (iY S1 i) rfl (by rw[jx];omega) rfl rfl
  |@l a S=>
   apply bJ
   ·exact T1 false _ _ rfl rfl rfl
   apply bZ
   apply az
   ·exact i_ (T2 true _ _ rfl rfl rfl) (bz (ik (ah rfl) (isl0 _ _) aF (pop _ (iY S (i-a)) (i-1))))
   exact put _ _ _ (iY S (i-a)) rfl (by rw[jx];simp at hSl;omega) rfl (by simp only[iY];congr 1;congr 1;omega)
  |@r a S=>
   apply az
   ·exact i_ (T1 true _ _ rfl rfl rfl) (bz (ik (ah rfl) (isl0 _ _) aF (pop _ (iY S (i-a)) (i-1))))
   apply bJ
   ·exact T2 false _ _ (by show((2:Int)%2==1)=false;decide) rfl rfl
   apply bZ
   exact put _ _ _ (iY S (i-a)) rfl (by rw[jx];simp at hSl;omega) rfl (by simp only[iY];congr 1;congr 1;omega)
  |@b c a S=>
   apply az
   ·exact i_ (T1 true _ _ rfl rfl rfl) (bz (ik (ah rfl) (isl0 _ _) aF (pop _ (iY (a::S) (i-c)) (i-1))))
   apply az
   ·exact i_ (T2 true _ _ (by show((3:Int)%2==1)=true;decide) rfl rfl) (bz (ik (ah rfl) (isl0 _ _) aF (pop _ (iY S (i-c-a)) (i-c-1))))
   exact put _ _ _ (iY S (i-c-a)) rfl (by rw[jx];simp at hSl;omega) (by show W.tup [.int ((i-1-c:Nat):Int),_]=_;rw[show i-1-c=i-c-1 by omega];rfl) (by simp only[iY];congr 1;congr 1;omega)
 ·rintro ρ bH ⟨S1,o3,o4,o5,rfl,rfl,hg,hi⟩
  rw[show(c8 0 (ps.length:Int).toNat,(none:Option (Nat×List W))).fst.length=lk.length by rw[l2];simp[cE],cG]
  apply bN
  ·(walk_at "evs")
  ·exact⟨_,_,rfl,1,_,rfl,rfl,rfl,rfl⟩
end
theorem ym{c:Nat}{l:List Nat}{st:List am}:qt false (.str [c]) (.str l) st=.ok (.bl (decide (c∈l))) st:=rfl
theorem vK{fe:FE}{ρ:cB}{st st1:List am}{l:List Nat}(h:fe ρ st=.ok (.str l) st1):eF fe ρ st=.ok (gv l,none) st1:=by unfold eF;rw[h];rfl
theorem yn{l:List Nat}{i:Nat}{w:W}(h:(gv l)[i]?=some w):∃c,l[i]?=some c/\w=.str [c]:=by
 simp only[gv,aB,df]at h
 obtain⟨c,h1,rfl⟩:=h
 exact⟨c,h1,rfl⟩
theorem pG(l:List Nat):(gv l).length=l.length:=by simp[gv]
theorem nh{α:Type}{l:List α}{i:Nat}{c:α}(h:l[i]?=some c):l.take (i+1)=l.take i++[c]:=by
 rw[List.take_succ,h];rfl
def f6(m:List Nat)(l:List Nat):Nat:=l.foldl (fun a c=>2*a+if c∈m then 1 else 0) 0
theorem pH(m l:List Nat)(c:Nat):f6 m (l++[c])=2*f6 m l+if c∈m then 1 else 0:=by unfold f6;rw[gm];rfl
theorem qF(m:List Nat)(l:List Nat):f6 m l<2^l.length:=by
 have key:∀(l:List Nat) (a k:Nat),a<2^k->l.foldl (fun a c=>2*a+if c∈m then 1 else 0) a<2^(k+l.length):=by
  intro l
  induction l with
  |nil=>intro a k h;simpa using h
  |cons c r ih=>
   intro a k h
   have:=ih (2*a+if c∈m then 1 else 0) (k+1) (by rw[Nat.pow_succ];split<;>omega)
   rw[List.foldl_cons,ba,show k+(r.length+1)=k+1+r.length by omega];exact this
 have:=key l 0 0 (by simp)
 simpa[f6]using this
theorem Cu(names m:List Nat)(st:List am):EZ [.str names,.str m] st=.ok (.int (f6 m names:Nat)) st:=by
 refine fJ (N:=4) (ws:=[.str names,.str m]) (body:=Qf) ?_ rfl
 apply az
 ·(walk_at "evs")
 refine dL (fun i ρ s=>∃o3:Option W,ρ=[some (.str names),some (.str m),some (.int (f6 m (names.take i):Nat)),o3]/\s=st) (vK (st1:=st) (ah rfl)) ⟨none,rfl,rfl⟩ (fun _ _ _ _=>trivial) ?_ ?_
 ·rintro i w ρ s hw ⟨o3,rfl,rfl⟩
  obtain⟨c,hc,rfl⟩:=yn hw
  refine⟨_,rfl,?_⟩
  have e:=pH m (names.take i) c
  rw[<- nh hc]at e
  apply az
  ·exact bz (be (ah rfl) bM (mO (.inr (by decide))))
  by_cases h:c∈m
  ·have t1:decide (c∈m)=true:=a8 h
   rw[aD h]at e
   apply iJ
   ·exact bI (be (ah rfl) (ah rfl) (by rw[ym,t1]))
   apply cy
   ·exact bz (be (ah rfl) bM db)
   ·exact⟨_,_,rfl,_,by rw[e,dR,f7,lQ];rfl,rfl⟩
  ·have t1:decide (c∈m)=false:=aR h
   rw[aQ h]at e
   apply hV
   ·exact bI (be (ah rfl) (ah rfl) (by rw[ym,t1]))
   apply cy
   ·exact rG
   ·exact⟨_,_,rfl,_,by rw[e,dR,f7,lQ];rfl,rfl⟩
 ·rintro ρ s ⟨o3,rfl,rfl⟩
  apply bN
  ·(walk_at "evs")
  ·exact⟨_,_,rfl,by rw[show(gv names,(none:Option (Nat×List W))).fst.length=names.length from pG names,cG],[],by simp⟩
theorem sg(names m:List Nat)(st:List am):rQ [.str names,.str m] st=.ok (.int (f6 m names:Nat)) st:=by
 refine fJ (N:=4) (ws:=[.str names,.str m]) (body:=Ke) ?_ rfl
 apply az
 ·(walk_at "evs")
 refine dL (fun i ρ s=>∃o3:Option W,ρ=[some (.str names),some (.str m),some (.int (f6 m (names.take i):Nat)),o3]/\s=st) (vK (st1:=st) (ah rfl)) ⟨none,rfl,rfl⟩ (fun _ _ _ _=>trivial) ?_ ?_
 ·rintro i w ρ s hw ⟨o3,rfl,rfl⟩
  obtain⟨c,hc,rfl⟩:=yn hw
  refine⟨_,rfl,?_⟩
  have e:=pH m (names.take i) c
  rw[<- nh hc]at e
  have bi:wY [.bl (decide (c∈m))] s=.ok (.int ((if c∈m then 1 else 0:Nat):Int)) s:=by
   by_cases h:c∈m
   ·rw[a8 h,aD h];rfl
   ·rw[aR h,aQ h];rfl
  apply cy
  ·exact bz (be (be bM (ah rfl) (mO (.inl (by decide)))) (bw (ak (be (ah rfl) (ah rfl) ym) aF) bi) db)
  ·exact⟨_,_,rfl,_,by rw[e,dR,f7];rfl,rfl⟩
 ·rintro ρ s ⟨o3,rfl,rfl⟩
  apply bN
  ·(walk_at "evs")
  ·exact⟨_,_,rfl,by rw[show(gv names,(none:Option (Nat×List W))).fst.length=names.length from pG names,cG],[],by simp⟩
def Bb(r:List Nat):Option Nat->Nat
 |none=>0
 |some k=>r.getD k 0
def GV(M:Mc)(r:List Nat)(m:List Nat)(x:Option Nat×Option Nat):Nat:=((M.tb.getD (f6 m M.nm) []).getD (Bb r x.1) []).getD (Bb r x.2) 0
def Nv(M:Mc):List Pl->List (Option Nat×Option Nat)->List Nat->List Nat
 |p::ps,x::xs,r=>Nv M ps xs (r++[GV M r p.m x])
 |_,_,r=>r
def Nw(n:Nat)(x:Option Nat×Option Nat):Prop:=(∀k,x.1=some k->k<n)/\∀k,x.2=some k->k<n
theorem yo(r:List Nat)(o:Option Nat)(p:Nat)(st:List am)(hc:st[p]?=some (.lst (nW r)))(ho:∀k,o=some k->k<r.length):uc [.loc p,oW o] st=.ok (.int (Bb r o:Nat)) st:=by
 cases o with
 |none=>
  apply fx
  apply bN
  ·exact tY (bI (D_ (ah rfl) rfl)) bM
  ·exact⟨_,_,rfl,rfl,rfl⟩
 |some k=>
  have hk:=ho k rfl
  have e:r[k]?=some (r.getD k 0):=by rw[ax,ac hk];rfl
  apply fx
  apply bN
  ·exact tZ (bI (D_ (ah rfl) rfl)) (be (ah rfl) (ah rfl) (rW hc e))
  ·exact⟨_,_,rfl,rfl,rfl⟩
theorem Gr.lk{ps:List Pl}{S sz:List Nat}{lk:List (Option Nat×Option Nat)}(h:Gr ps S sz lk){i:Nat}{x:Option Nat×Option Nat}(hx:lk[i]?=some x):Nw i x:=by
 obtain⟨_,l2,_⟩:=h.ok
 have hi:i<ps.length:=by have:=(aa.mp hx).1;omega
 obtain⟨S1,S2,p,k,x',g1,q1,q2,q3,hs,g2⟩:=h.step i hi
 rw[hx]at q3;cases q3
 obtain⟨_,_,ha⟩:=g1.ok
 rw[show(ps.take i).length=i by rw[aY];omega]at ha
 obtain⟨b,m⟩:=p
 cases hs with
 |z=>exact⟨fun k e=>by simp at e,fun k e=>by simp at e⟩
 |@l a S=>have:=ha.2.1;have:=ha.2.2.1;exact⟨fun k e=>by simp at e;omega,fun k e=>by simp at e⟩
 |@r a S=>have:=ha.2.1;have:=ha.2.2.1;exact⟨fun k e=>by simp at e,fun k e=>by simp at e;omega⟩
 |@b c a S=>have:=ha.2.1;have:=ha.2.2.1;exact⟨fun k e=>by simp at e;omega,fun k e=>by simp at e;omega⟩
theorem si(M:Mc)(p:Pl)(x:Option Nat×Option Nat):∀(ps:List Pl) (lk:List (Option Nat×Option Nat)) (r:List Nat),ps.length=lk.length->Nv M (ps++[p]) (lk++[x]) r=Nv M ps lk r++[GV M (Nv M ps lk r) p.m x]
 |[],[],r,_=>rfl
 |q::ps,y::lk,r,h=>by
  show Nv M (ps++[p]) (lk++[x]) _=_
  rw[si M p x ps lk _ (by simpa using h)];rfl
 |[],_::_,_,h=>by simp at h
 |_::_,[],_,h=>by simp at h
def hW(M:Mc)(ps:List Pl)(lk:List (Option Nat×Option Nat)):List Nat:=Nv M ps lk []
theorem FH{n:Nat}{r:List Nat}{o:Option Nat}(hn:1<=n)(hr:∀k∈r,k<n)(ho:∀k,o=some k->k<r.length):Bb r o<n:=by
 cases o with
 |none=>exact hn
 |some k=>
  have hk:=ho k rfl
  have e:r[k]?=some (r.getD k 0):=by rw[ax,ac hk];rfl
  exact hr _ (aT e)
theorem FJ{M:Mc}{n:Nat}{r:List Nat}{m:List Nat}{x:Option Nat×Option Nat}(hM:ng M n)(hn:1<=n)(hr:∀k∈r,k<n)(hx:Nw r.length x) :
  ∃t q,M.tb[f6 m M.nm]?=some t/\t[Bb r x.1]?=some q/\q[Bb r x.2]?=some (GV M r m x)/\GV M r m x<n:=by
 have h1:f6 m M.nm<M.tb.length:=by rw[hM.tb];exact qF m M.nm
 have e1:M.tb[f6 m M.nm]?=some (M.tb.getD (f6 m M.nm) []):=by rw[ax,ac h1];rfl
 obtain⟨t1,t2⟩:=hM.t _ (aT e1)
 have h2:Bb r x.1<(M.tb.getD (f6 m M.nm) []).length:=by rw[t1];exact FH hn hr hx.1
 have e2:(M.tb.getD (f6 m M.nm) [])[Bb r x.1]?=some ((M.tb.getD (f6 m M.nm) []).getD (Bb r x.1) []):=by rw[ax (l:=M.tb.getD (f6 m M.nm) []),ac h2];rfl
 obtain⟨t3,t4⟩:=t2 _ (aT e2)
 have h3:Bb r x.2<((M.tb.getD (f6 m M.nm) []).getD (Bb r x.1) []).length:=by rw[t3];exact FH hn hr hx.2
 have e3:((M.tb.getD (f6 m M.nm) []).getD (Bb r x.1) [])[Bb r x.2]?=some (GV M r m x):=by unfold GV;rw[ax (l:=(M.tb.getD (f6 m M.nm) []).getD (Bb r x.1) []),ac h3];rfl
 exact⟨_,_,e1,e2,e3,t4 _ (aT e3)⟩
theorem FK{M:Mc}{k:Nat}{t:List (List Nat)}(h:M.tb[k]?=some t)(st:List am):bG (.tup (M.tb.map hG)) (.int k) st=.ok (hG t) st:=c_ (fI (by rw[aB,h];rfl))
theorem QM{M:Mc}{n:Nat}{r:List Nat}{m:List Nat}{x:Option Nat×Option Nat}{p:Nat}(hM:ng M n)(hn:1<=n)(hr:∀k∈r,k<n)(hx:Nw r.length x)(st:List am)(hc:st[p]?=some (.lst (nW r))) :
  xM [M.w,.str m,jw x,.loc p] st=.ok (.int (GV M r m x:Nat)) st:=by
 obtain⟨t,q,e1,e2,e3,_⟩:=FJ (m:=m) hM hn hr hx
 have g0:bG M.w (.int 0) st=.ok (.str M.nm) st:=rfl
 have g2:bG M.w (.int 2) st=.ok (.tup (M.tb.map hG)) st:=rfl
 have x0:bG (jw x) (.int 0) st=.ok (oW x.1) st:=rfl
 have x1:bG (jw x) (.int 1) st=.ok (oW x.2) st:=rfl
 have lt:=Cu M.nm m st
 have b1:=yo r x.1 p st hc hx.1
 have b2:=yo r x.2 p st hc hx.2
 apply fx
 apply az
 ·exact bz (be (be (ah rfl) bM g2) (b8 (ak (be (ah rfl) bM g0) (ak (ah rfl) aF)) lt rfl) (FK e1 st))
 apply bN
 ·exact be (be (ah rfl) (b8 (ak (ah rfl) (ak (be (ah rfl) bM x0) aF)) b1 rfl) (Ff e2)) (b8 (ak (ah rfl) (ak (be (ah rfl) bM x1) aF)) b2 rfl) (Fe e3)
 ·exact⟨_,_,rfl,rfl,rfl⟩
section
variable{ps:List Pl}{S sz:List Nat}{lk:List (Option Nat×Option Nat)}{M:Mc}{n:Nat}
theorem sj(h:Gr ps S sz lk){i:Nat}{p:Pl}{x:Option Nat×Option Nat}(hp:ps[i]?=some p)(hx:lk[i]?=some x):hW M (ps.take (i+1)) (lk.take (i+1))=hW M (ps.take i) (lk.take i)++[GV M (hW M (ps.take i) (lk.take i)) p.m x]:=by
 obtain⟨_,l2,_⟩:=h.ok
 unfold hW
 rw[nh hp,nh hx,si M p x _ _ _ (by rw[aY,aY,l2])]
theorem sk(h:Gr ps S sz lk)(hM:ng M n)(hn:1<=n):∀i,i<=ps.length->(hW M (ps.take i) (lk.take i)).length=i/\∀k∈hW M (ps.take i) (lk.take i),k<n:=by
 obtain⟨_,l2,_⟩:=h.ok
 intro i
 induction i with
 |zero=>intro _;exact⟨rfl,by simp[hW,Nv]⟩
 |succ i ih=>
  intro hi
  obtain⟨h1,h2⟩:=ih (by omega)
  obtain⟨p,hp⟩:∃p,ps[i]?=some p:=⟨_,ac (by omega)⟩
  obtain⟨x,hx⟩:∃x,lk[i]?=some x:=⟨_,ac (by omega)⟩
  obtain⟨_,_,_,_,_,e⟩:=FJ (m:=p.m) hM hn h2 (by rw[h1];exact h.lk hx)
  rw[sj h hp hx]
  refine⟨by simp[h1],fun k hk=>?_⟩
  rcases a7.mp hk with z|z
  ·exact h2 k z
  ·simp at z;subst z;exact e
theorem IW{a b:List W}{i:Nat}{w:W}(h:(nV a b)[i]?=some w):∃x y,a[i]?=some x/\b[i]?=some y/\w=.tup [x,y]:=rh h
theorem QN{fs:FA}{ρ:cB}{st st1:List am}{xs ys:List W}(h:fs ρ st=.ok [.tup xs,.tup ys] st1):uX fs ρ st=.ok (nV xs ys,none) st1:=by unfold uX;rw[h];rfl
theorem yp(h:Gr ps S sz lk)(hl:ps.length<=900)(hM:ng M n)(hn:1<=n)(st:List am):oK [M.w,dw ps] st=.ok (iX (hW M ps lk)) st:=by
 obtain⟨_,l2,_⟩:=h.ok
 have lo:=FF h (by omega) (st++[am.lst []])
 refine fJ (N:=5) (ws:=[M.w,dw ps]) (body:=Kd) ?_ (by simp only[undWs,bc];exact A5 _ _)
 apply az
 ·(walk_at "evs")
 refine dL (fun i ρ s=>∃(o3 o4:Option W),ρ=[some M.w,some (dw ps),some (.loc st.length),o3,o4]/\st <+: s/\s[st.length]?=some (.lst (nW (hW M (ps.take i) (lk.take i))))/\i<=ps.length) (k:=(nV (ps.map Pl.w) (lk.map jw),none))
  (QN (st1:=st++[am.lst []]) (ak (ah rfl) (ak (b8 (ak (ah rfl) aF) lo rfl) aF))) ⟨none,none,rfl,aE _ _,cq,cU _⟩ (fun _ _ _ _=>trivial) ?_ ?_
 ·rintro i w ρ s hw ⟨o3,o4,rfl,hp,hc,hi⟩
  obtain⟨a,b,ha,hb,rfl⟩:=IW hw
  have hip:i<ps.length:=by have:=(aa.mp ha).1;simpa using this
  obtain⟨p,hpp⟩:∃p,ps[i]?=some p:=⟨_,ac hip⟩
  obtain⟨x,hx⟩:∃x,lk[i]?=some x:=⟨_,ac (by omega)⟩
  rw[aB,hpp]at ha;cases ha
  rw[aB,hx]at hb;cases hb
  refine⟨_,rfl,?_⟩
  obtain⟨r1,r2⟩:=sk (M:=M) h hM hn i hi
  have ra:=QM (m:=p.m) hM hn r2 (by rw[r1];exact h.lk hx) s hc
  have ap:=mU (y:=.int (GV M (hW M (ps.take i) (lk.take i)) p.m x:Nat)) hc (by simp[nW];omega)
  apply cy
  ·exact eS (ik (ah rfl) (dF hc) (ak (b8 (ak (ah rfl) (ak (be (ah rfl) bM (Nt p s)) (ak (ah rfl) (ak (ah rfl) aF)))) ra rfl) aF) ap)
  ·refine⟨_,_,rfl,_,_,rfl,gX hp (aA _),?_,by omega⟩
   rw[jN hc,sj h hpp hx];simp[nW]
 ·rintro ρ s ⟨o3,o4,rfl,⟨x,rfl⟩,hc,hi⟩
  rw[show(nV (ps.map Pl.w) (lk.map jw),(none:Option (Nat×List W))).fst.length=ps.length by rw[rj];simp[l2],cG,show ps.length=lk.length by omega,cG]at hc
  apply bN
  ·exact bw (ak (ah rfl) aF) (gy (bj hc))
  ·exact⟨_,_,rfl,rfl,x,rfl⟩
end
theorem Cv(b:Bool)(k:Nat)(st:List am):mT (k+1) [.bl b,.bl b] st=.ok (.bl true) st:=by
 have hb:jC (.bl b) (.bl b) st=.ok (.bl true) st:=P0 (by simp)
 refine fJ (N:=3) (ws:=[.bl b,.bl b]) (body:=E5 (mT k)) ?_ rfl
 apply bJ
 ·(walk_at "evs")
 apply bZ
 apply bJ
 ·(walk_at "evs")
 apply bZ
 apply eR
 ·(walk_at "evs")
 apply eQ
 ·apply u9
  ·(walk_at "evs")
  ·(walk_at "evs")
 ·exact⟨_,_,rfl,rfl,[],by simp⟩
theorem FL(z:Int)(k:Nat)(st:List am):mT (k+1) [.int z,.int z] st=.ok (.bl true) st:=by
 have hb:jC (.int z) (.int z) st=.ok (.bl true) st:=fK (by simp)
 refine fJ (N:=3) (ws:=[.int z,.int z]) (body:=E5 (mT k)) ?_ rfl
 apply bJ
 ·(walk_at "evs")
 apply bZ
 apply bJ
 ·(walk_at "evs")
 apply bZ
 apply bJ
 ·(walk_at "evs")
 apply bZ
 apply eR
 ·(walk_at "evs")
 apply eQ
 ·apply u9
  ·(walk_at "evs")
  ·apply u9
   ·(walk_at "evs")
   ·(walk_at "evs")
 ·exact⟨_,_,rfl,by simp,[],by simp⟩
section
variable{ps:List Pl}{S sz:List Nat}{lk:List (Option Nat×Option Nat)}{M:Mc}{n:Nat}
theorem ni(h:Gr ps S sz lk)(hM:ng M n)(hn:1<=n):(hW M ps lk).length=ps.length/\∀k∈hW M ps lk,k<n:=by
 obtain⟨_,l2,_⟩:=h.ok
 have:=sk (M:=M) h hM hn ps.length (aA _)
 rw[cG,show ps.length=lk.length by omega,cG]at this
 exact⟨by rw[this.1];omega,this.2⟩
def zT(M:Mc)(ps:List Pl)(lk:List (Option Nat×Option Nat)):Nat:=(hW M ps lk).getD (ps.length-1) 0
def QO(M:Mc)(ps:List Pl)(lk:List (Option Nat×Option Nat)):Bool:=M.gd.getD (if 0<ps.length then zT M ps lk else 0) false
theorem Bc(h:Gr ps S sz lk)(hM:ng M n)(hn:1<=n)(h0:0<ps.length)(st:List am):bG (iX (hW M ps lk)) (.int (-1)) st=.ok (.int (zT M ps lk:Nat)) st:=by
 have hl:=(ni (M:=M) h hM hn).1
 refine c_ ?_
 rw[show(-1:Int)=-((0:Nat)+1:Int) by rfl]
 refine va ?_
 rw[gb (by rw[av];omega),av,aB,hl,show ps.length-1-0=ps.length-1 by omega,ac (by omega)]
 show some (W.int _)=some (W.int _)
 unfold zT
 rw[ax,ac (by omega)];rfl
theorem KH(hM:ng M n){k:Nat}(hk:k<n)(st:List am):bG (.tup (M.gd.map W.bl)) (.int k) st=.ok (.bl (M.gd.getD k false)) st:=
 c_ (fI (by rw[aB,ac (by rw[hM.gd];exact hk),ax,ac (by rw[hM.gd];exact hk)];rfl))
theorem Nx(h:Gr ps S sz lk)(hM:ng M n)(hn:1<=n):(if 0<ps.length then zT M ps lk else 0)<n:=by
 split
 ·rename_i h0
  obtain⟨hl,hr⟩:=ni (M:=M) h hM hn
  unfold zT
  rw[ax,ac (by omega)]
  exact hr _ (gF _)
 ·exact hn
theorem IX(h:Gr ps S sz lk)(hl:ps.length<=900)(hM:ng M n)(hn:1<=n)(st:List am):rP [M.w,dw ps] st=.ok (.bl (QO M ps lk)) st:=by
 have g1:bG M.w (.int 1) st=.ok (.tup (M.gd.map W.bl)) st:=rfl
 have ro:=yp h hl hM hn st
 have ln:=lA ps st
 have e:xN [M.w,dw ps] st=.ok (.int ((if 0<ps.length then zT M ps lk else 0:Nat):Int)) st:=by
  by_cases h0:0<ps.length
  ·have d:decide ((0:Int)<(ps.length:Int))=true:=a8 (by omega)
   rw[aD h0]
   apply fx
   apply bN
   ·exact tY (bI (be (bw (ak (ah rfl) aF) ln) bM (gc d))) (be (b8 (ak (ah rfl) (ak (ah rfl) aF)) ro rfl) (t5 bM) (Bc h hM hn h0 st))
   ·exact⟨_,_,rfl,rfl,rfl⟩
  ·have d:decide ((0:Int)<(ps.length:Int))=false:=aR (by omega)
   rw[aQ h0]
   apply fx
   apply bN
   ·exact tZ (bI (be (bw (ak (ah rfl) aF) ln) bM (gc d))) bM
   ·exact⟨_,_,rfl,rfl,rfl⟩
 apply fx
 apply bN
 ·exact be (be (ah rfl) bM g1) (b8 (ak (ah rfl) (ak (ah rfl) aF)) e rfl) (KH hM (Nx h hM hn) st)
 ·exact⟨_,_,rfl,rfl,rfl⟩
end
theorem sm{f:FG}{el:FE}{ρ0:cB}{st:List am}(Y:W->W):∀(ws acc:List W) (s:List am),st <+: s->(∀w∈ws,∀s,st <+: s->∃ρ' x,f w ρ0=some ρ'/\el ρ' s=.ok (Y w) (s++x)) ->
  ∃s',st <+: s'/\l9 f mj el none ρ0 ws acc s=.ok (acc++ws.map Y) s'
 |[],acc,s,hs,_=>⟨s,hs,by unfold l9;rw[aD (show ii s none from trivial)];simp⟩
 |w::ws,acc,s,hs,h=>by
  obtain⟨ρ',x,e1,e2⟩:=h w (by simp) s hs
  obtain⟨s',h1,h2⟩:=sm Y ws (acc++[Y w]) (s++x) (jv hs) fun w' hw'=>h w' (by simp[hw'])
  refine⟨s',h1,?_⟩
  unfold l9
  rw[aD (show ii s none from trivial),e1]
  simp only[mj,e2]
  rw[h2];simp
theorem IY{ρ:cB}{st st1:List am}{fi:FI}{f:FG}{el:FE}{cap:List (Option Nat)}{ws:List W}(Y:W->W)(h:fi ρ st=.ok (ws,none) st1)(hl:ws.length<=100000)
  (hs:∀w∈ws,∀s,st1 <+: s->∃ρ' x,f w (nq cap ρ)=some ρ'/\el ρ' s=.ok (Y w) (s++x)):∃s',st1 <+: s'/\fj cap fi f mj el ρ st=.ok (.loc s'.length) (s'++[.lst (ws.map Y)]):=by
 obtain⟨s',h1,h2⟩:=sm Y ws [] st1 (al _) hs
 refine⟨s',h1,?_⟩
 unfold fj
 rw[h]
 simp only[R.bind_ok]
 rw[aD (show ws.length<=j8 by show _<=1000000;omega),h2]
 simp only[R.bind_ok,fB,lY]
 rw[aD (show(ws.map Y).length<=j8 by rw[av];show _<=1000000;omega)]
theorem Cw(l:List Nat):lX [] (l.map fun c=>[c])=l:=by
 rw[kL]
 induction l with
 |nil=>rfl
 |cons a r ih=>simp only[aK,ky,ih];rfl
theorem FM(l:List Nat):(((l.map fun c=>[c])).map List.length).sum=l.length:=by
 induction l with
 |nil=>rfl
 |cons a r ih=>simp only[aK,iU,ba,ih,b9];omega
theorem FN{fe:FE}{t:FT}{cap:List (Option Nat)}{ρ:cB}{st st1:List am}{l:List Nat}(T:Nat->Bool)(h:fe ρ st=.ok (.str l) st1)(hl:l.length<=10000)(h0:0<cap.length)
  (ht:∀c∈l,t ((nq cap ρ).set 0 (some (.str [c]))) st1=.ok (T c) st1) :
  ∃x,GT l8 (eC (.str [])) (aj (fj cap (eF fe) (f_ 0) t (ai 0)) aC) ρ st=.ok (.str (l.filter T)) (st1++x):=by
 have cg:=vd (cap:=cap) (ρ:=ρ) (st:=st) (st1:=st1) (f:=f_ 0) (t:=t) (el:=ai 0) (fun w=>match w with|.str [c]=>T c|_=>false) id (vK h) (by rw[pG];show _<=1000000;omega) trivial fun w hw=>by
  obtain⟨c,hc,rfl⟩:=a9.mp hw
  exact⟨_,rfl,ht c hc,fun _=>ah (by rw[bb (by simp[nq];exact h0)];rfl)⟩
 have e:((gv l).filter (fun w=>match w with|.str [c]=>T c|_=>false)).map id=((l.filter T).map fun c=>[c]).map W.str:=by
  rw[mY]
  unfold gv
  rw[jh,bK];rfl
 rw[e]at cg
 have hj:=zv (sep:=[]) (st:=st1++[.lst (((l.filter T).map fun c=>[c]).map W.str)]) (n:=st1.length) (bj cq) (by
  rw[FM]
  have:=dY T l
  show _<=1000000;simp;omega)
 rw[Cw]at hj
 exact⟨_,Iu bM rfl (ak cg aF) hj⟩
def FQ(nm:List Nat)(p:Pl):Pl:=⟨p.b,p.m.filter fun c=>decide (c∈nm)⟩
theorem IZ(ps:List Pl)(nm:List Nat)(hl:ps.length<=900)(hm:∀p∈ps,p.m.length<=9000)(st:List am):xZ [dw ps,.str nm] st=.ok (dw (ps.map (FQ nm))) st:=by
 obtain⟨s',h1,e⟩:=IY (ρ:=[some (dw ps),some (.str nm)]) (st:=st) (st1:=st) (fi:=eF (ai 0)) (f:=CO 2 (fq (f_ 0) (fq (f_ 1) mG))) (cap:=[none,none,some 1]) (ws:=ps.map Pl.w)
  (el:=eK (aj (ai 0) (aj (GT l8 (eC (.str [])) (aj (fj [none,some 2] (eF (ai 1)) (f_ 0) (et (e2 (qt false) (ai 0) (ai 1))) (ai 0)) aC)) aC)))
  (fun w=>match w with|.tup [.int b,.str m]=>.tup [.int b,.str (m.filter fun c=>decide (c∈nm))]|_=>.non) (jt (ah rfl)) (by rw[av];omega) fun w hw s hs=>by
   obtain⟨p,hp,rfl⟩:=a9.mp hw
   obtain⟨x,ex⟩:=FN (fe:=ai 1) (t:=et (e2 (qt false) (ai 0) (ai 1))) (cap:=[none,some 2]) (ρ:=[some (.int p.b),some (.str p.m),some (.str nm)]) (st:=s) (st1:=s) (l:=p.m) (fun c=>decide (c∈nm)) (ah rfl) (by have:=hm p hp;omega) (by simp) fun c _=>bI (be (ah rfl) (ah rfl) ym)
   exact⟨[some (.int p.b),some (.str p.m),some (.str nm)],x,rfl,gP (ak (ah rfl) (ak ex aF)) (aM rfl)⟩
 rw[show(ps.map Pl.w).map (fun w=>match w with|.tup [.int b,.str m]=>W.tup [.int b,.str (m.filter fun c=>decide (c∈nm))]|_=>.non)=(ps.map (FQ nm)).map Pl.w by rw[bK,bK];rfl]at e
 obtain⟨y,rfl⟩:=h1
 refine fJ (N:=2) (ws:=[dw ps,.str nm]) (body:=Kr) ?_ (by simp only[undWs,bc];exact sf _ _)
 apply bN
 ·exact bw (ak e aF) (gy (bj cq))
 ·exact⟨_,_,rfl,rfl,_,by rw[aW]⟩
section
variable{ps:List Pl}{S sz:List Nat}{lk:List (Option Nat×Option Nat)}{M:Mc}{n:Nat}
theorem Gr.re{f:Pl->Pl}(hf:∀p,(f p).b=p.b)(h:Gr ps S sz lk):Gr (ps.map f) S sz lk:=by
 induction h with
 |nil=>exact .nil
 |@snoc ps S S' sz lk b k m x hg hs ih=>
  rw[bQ]
  have e:f ⟨b,m⟩=⟨b,(f ⟨b,m⟩).m⟩:=by
   have:=hf ⟨b,m⟩
   cases hq:f ⟨b,m⟩with
   |mk b' m'=>rw[hq]at this;simp at this;subst this;rfl
  rw[List.map_singleton,e]
  exact .snoc ih (by rw[av];exact hs)
end
def FR:W->Nat
 |.int i=>i.toNat
 |_=>0
theorem um(pool:List Nat)(hp:pool.length<=50)(d:Int)(st:List am):∃m:List Nat,m.length<=5000/\uf [.str pool,.int d] st=.ok (.str m) st:=by
 let T:W->Bool:=fun w=>Builtin.bitAnd (d/2^(FR w)) 1==1
 let yl:W->List Nat:=fun w=>[pool.getD (FR w) 0]
 have hL:pool.length<=j8:=by show _<=1000000;omega
 obtain⟨ls,hls⟩:∃ls,ls=((c8 0 pool.length).filter T).map yl:=⟨_,rfl⟩
 have cY:ls.length<=50:=by
  rw[hls,av]
  refine bn (dY _ _) ?_
  rw[cE];omega
 have NM:∀x∈ls,x.length=1:=by
  rw[hls];intro x hx
  obtain⟨w,_,rfl⟩:=a9.mp hx;rfl
 have hsum:∀l:List (List Nat),(∀x∈l,x.length=1)->(l.map List.length).sum=l.length:=by
  intro l
  induction l with
  |nil=>intro;rfl
  |cons x r ih=>
   intro h
   simp only[aK,iU,ba]
   rw[h x (by simp),ih fun y hy=>h y (by simp[hy])];omega
 have hc:fj [none,some 0,some 1] (bY (aj (bx dJ (aj (ai 0) aC)) aC)) (f_ 0) (et (e2 jC (e2 tM (e2 wU (ai 2) (ai 0)) (eI 1)) (eI 1))) (e2 bG (ai 1) (ai 0)) [some (.str pool),some (.int d)] st=.ok (.loc st.length) (st++[.lst (ls.map W.str)]):=by
  have:=vd (fi:=bY (aj (bx dJ (aj (ai 0) aC)) aC)) (f:=f_ 0) (t:=et (e2 jC (e2 tM (e2 wU (ai 2) (ai 0)) (eI 1)) (eI 1))) (el:=e2 bG (ai 1) (ai 0)) (cap:=[none,some 0,some 1]) (ρ:=[some (.str pool),some (.int d)]) (st:=st) (st1:=st) (ws:=c8 0 pool.length) (ck:=none) T (fun w=>.str (yl w))
   (by
    have:=fD (fs:=aj (bx dJ (aj (ai 0) aC)) aC) (ρ:=[some (.str pool),some (.int d)]) (st:=st) (st1:=st) (q:=(pool.length:Int)) (ak (bw (ak (ah rfl) aF) (u_ hL)) aF) (by omega)
    rw[bB]at this
    exact this) (by rw[cE];show _<=1000000;omega) trivial ?_
  ·rw[this,hls,bK];rfl
  ·intro w hw
   obtain⟨i,hi,rfl⟩:=m_ hw
   have ei:FR (.int (0+(i:Int)))=i:=by simp[FR]
   refine⟨[some (.int (0+(i:Int))),some (.str pool),some (.int d)],rfl,?_,fun _=>?_⟩
   ·have h0:(0:Int)<=0+(i:Int):=by omega
    have hk:(Builtin.bitAnd (d/2^(0+(i:Int)).toNat) 1==1)=T (.int (0+(i:Int))):=rfl
    exact bI (be (be (be (ah rfl) (ah rfl) (fS h0)) bM (fS trivial)) bM (fK hk))
   ·refine be (ah rfl) (ah rfl) ?_
    rw[show((0:Int)+(i:Int))=(i:Int) by omega]
    have e2:oV pool (i:Int)=some (pool.getD i 0):=fI (by rw[ax,ac hi];rfl)
    rw[Eb hL e2]
    simp[yl,FR]
 have gz:lstOf (st++[am.lst (ls.map W.str)]) st.length=some (ls.map W.str):=bj (by rw[cF];rfl)
 have hs:=x_ gz (by omega)
 have hcell2:lstOf (st++[am.lst (ls.map W.str)]++[am.lst ((ij ls).map W.str)]) (st++[am.lst (ls.map W.str)]).length=some ((ij ls).map W.str):=bj (by rw[cF];rfl)
 have hsl:(ij ls).length=ls.length:=(fU ls).length_eq
 have hss:((ij ls).map List.length).sum=ls.length:=by rw[rV (fU ls),hsum ls NM]
 have hj:=zv (sep:=[]) hcell2 (by rw[hss];show _<=1000000;simp;omega)
 refine⟨lX [] (ij ls),?_,?_⟩
 ·rw[kL,List.length_flatten,hss];omega
 ·refine fJ (N:=2) (ws:=[.str pool,.int d]) (body:=Ks) ?_ rfl
  apply bN
  ·exact Iu bM rfl (ak (bw (ak hc aF) hs) aF) hj
  ·exact⟨_,_,rfl,rfl,_,by rw[aW]⟩
theorem St.ex{n b:Nat}{S:List Nat}(hb:b<=3)(h:(b+1)/2<=S.length):∃S' k x,St n S b S' k x/\S'.length+(b+1)/2=S.length+1:=by
 obtain rfl|rfl|rfl|rfl:b=0\/b=1\/b=2\/b=3:=by omega
 ·exact⟨_,_,_,.z,by simp⟩
 ·match S,h with
  |a::S,_=>exact⟨_,_,_,.l,by simp⟩
 ·match S,h with
  |a::S,_=>exact⟨_,_,_,.r,by simp⟩
 ·match S,h with
  |c::a::S,_=>exact⟨_,_,_,.b,by simp⟩
  |[_],hz=>simp at hz
  |[],hz=>simp at hz
theorem Ny{f:cB->List am->R Bool}{ρ:cB}{st a b:List am}(h1:f ρ st=.ok false a)(h2:f ρ st=.ok true b):False:=by
 rw[h1]at h2;cases h2
structure I0(ps:List Pl)(S sz:List Nat)(lk:List (Option Nat×Option Nat)):Prop where
 g:Gr ps S sz lk
 l:ps.length<=100
 t:S.length<=1
 q:ps.countP (fun p=>decide (p.b≠3))<=50
 m:∀p∈ps,p.m.length<=9000
theorem I_{st:List am}{nd md:Nat}{ds ms:List Int}{pool:List Nat}(hd:st[nd]?=some (.lst (nr ds)))(Tt:st[md]?=some (.lst (nr ms)))(TF:ms.length=2*ds.length)(SU:ds.length<=50)(Aj:∀d∈ds,0<=d)(hp:pool.length<=50) :
  ∃ps S sz lk,I0 ps S sz lk/\x5 [.loc nd,.loc md,.str pool] st=.ok (dw ps) st:=by
 suffices hh:gn (sF fun w bH=>(∃x,bH=st++x)/\undWs st.length [w]=true/\∃ps S sz lk,w=dw ps/\I0 ps S sz lk) (Kt ([W.loc nd,.loc md,.str pool].map some++List.replicate (7-3) none) st) by
  obtain⟨w,⟨ps,S,sz,lk,rfl,h1⟩,e⟩:=ju hh
  exact⟨ps,S,sz,lk,h1,e⟩
 apply az
 ·(walk_at "evs")
 apply az
 ·(walk_at "evs")
 have gz:∀A:List W,lstOf (st++[am.lst A]) nd=some (nr ds):=fun A=>bj (fZ hd)
 have mix:∀(A:List W) (k:Nat),k<ms.length->∃d,bG (.loc md) (.int k) (st++[am.lst A])=.ok (.int d) (st++[am.lst A]):=fun A k hk=>⟨_,eA (fZ Tt) (ac hk)⟩
 refine dL (fun i ρ bH=>∃(ps:List Pl) (S sz:List Nat) (lk:List (Option Nat×Option Nat)) (o5 o6:Option W),ρ=[some (.loc nd),some (.loc md),some (.str pool),some (.loc st.length),some (.int S.length),o5,o6]/\bH=st++[.lst (ps.map Pl.w)]/\Gr ps S sz lk/\ps.length=i/\∀p∈ps,p.m.length<=9000) (oG (st1:=st++[am.lst []]) (by(walk_at "evs")) (gz []))
  ⟨[],[],[],[],none,none,rfl,rfl,.nil,rfl,by simp⟩ (fun i ρ bH h=>?_) ?_ ?_
 ·obtain⟨ps,S,sz,lk,o5,o6,rfl,rfl,_⟩:=h
  exact gz _
 ·rintro i w ρ bH hw ⟨ps,S,sz,lk,o5,o6,rfl,rfl,hg,hle,hpm⟩
  obtain⟨d,hdd,rfl⟩:∃d,ds[i]?=some d/\w=.int d:=by
   simp only[nr,aB,df]at hw
   obtain⟨d,h1,rfl⟩:=hw
   exact⟨d,h1,rfl⟩
  have hi:i<ds.length:=(aa.mp hdd).1
  refine⟨_,rfl,?_⟩
  have hc:(st++[am.lst (ps.map Pl.w)])[st.length]?=some (.lst (ps.map Pl.w)):=cq
  have cY:=i' (bj hc)
  rw[av]at cY
  obtain⟨b0,hb0,eb0⟩:=fE (q:=d) (n:=4) (by omega)
  have eb0:d%4=(b0:Int):=eb0
  apply az
  ·exact bz (be (ah rfl) bM (fS (by decide)))
  rw[eb0]
  refine im (fun ρ bH=>∃b:Nat,b<=3/\(b+1)/2<=S.length/\ρ=[some (.loc nd),some (.loc md),some (.str pool),some (.loc st.length),some (.int S.length),some (.int d),some (.int b)]/\bH=st++[.lst (ps.map Pl.w)]) ?_ ?_
  ·by_cases h1:S.length<(b0+1)/2
   ·have t1:decide ((S.length:Int)<((b0:Int)+1)/2)=true:=a8 (by omega)
    apply iJ
    ·exact bI (be (be (be (ah rfl) bM db) bM (fS (by decide))) (ah rfl) (gc t1))
    apply cy
    ·(walk_at "evs")
    ·exact⟨_,_,rfl,0,by omega,by omega,rfl,rfl⟩
   ·have t1:decide ((S.length:Int)<((b0:Int)+1)/2)=false:=aR (by omega)
    apply hV
    ·exact bI (be (be (be (ah rfl) bM db) bM (fS (by decide))) (ah rfl) (gc t1))
    apply cy
    ·exact rG
    ·exact⟨_,_,rfl,b0,by omega,by omega,rfl,rfl⟩
  rintro ρ bH ⟨b2,hb2,uA,rfl,rfl⟩
  obtain⟨S',k,x,p9,hlen'⟩:=St.ex (n:=ps.length) hb2 uA
  obtain⟨dm,edm⟩:=mix (ps.map Pl.w) ps.length (by omega)
  obtain⟨m,hm,em⟩:=um pool hp (dm%64) (st++[am.lst (ps.map Pl.w)])
  have ap:=kh (y:=(Pl.mk b2 m).w) hc (by rw[av];show _<1000000;omega)
  rw[dC]at ap
  have ap:cb (.loc st.length) [.tup [.int b2,.str m]] (st++[am.lst (ps.map Pl.w)])=_:=ap
  apply az
  ·exact eS (ik (ah rfl) (dF hc) (ak (gP (ak (ah rfl) (ak (b8 (ak (ah rfl) (ak (be (be (ah rfl) (bw (ak (ah rfl) aF) cY) edm) bM (fS (by decide))) aF)) em rfl) aF)) (aM rfl)) aF) ap)
  apply cy
  ·exact bz (be (be (ah rfl) bM db) (be (be (ah rfl) bM db) bM (fS (by decide))) (fS trivial))
  ·refine⟨_,_,rfl,ps++[⟨b2,m⟩],S',sz++[k],lk++[x],some (.int d),some (.int b2),?_,by simp,.snoc hg p9,by simp[hle],?_⟩
   ·show[_,_,_,_,some (W.int ((S.length:Int)+1-((b2:Int)+1)/2)),_,_]=_
    rw[show(S.length:Int)+1-((b2:Int)+1)/2=(S'.length:Int) by omega]
   ·intro p hp'
    rcases a7.mp hp' with z|z
    ·exact hpm p z
    ·simp at z;subst z;show m.length<=9000;omega
 ·rintro ρ bH ⟨ps,S,sz,lk,o5,o6,rfl,rfl,hg,hle,hpm⟩
  rw[show(nr ds,some (nd,nr ds)).fst.length=ds.length by simp[nr]]at hle
  have hSle:=hg.ok.2.2.le
  refine t7 (fun n ρ bH=>∃(ps:List Pl) (S sz:List Nat) (lk:List (Option Nat×Option Nat)),ρ=[some (.loc nd),some (.loc md),some (.str pool),some (.loc st.length),some (.int S.length),o5,o6]/\bH=st++[.lst (ps.map Pl.w)]/\Gr ps S sz lk/\ps.length+S.length<=2*ds.length/\(∀p∈ps,p.m.length<=9000)/\S.length=n/\ps.countP (fun p=>decide (p.b≠3))<=50) S.length ⟨ps,S,sz,lk,rfl,rfl,hg,by omega,hpm,rfl,by have:=List.countP_le_length (p:=fun p:Pl=>decide (p.b≠3)) (l:=ps);omega⟩ ?_ ?_
  ·rintro n ρ bH ⟨ps,S,sz,lk,rfl,rfl,hg,hle,hpm,rfl,hq⟩
   by_cases h1:1<S.length
   ·right
    have t1:decide ((1:Int)<(S.length:Int))=true:=a8 (by omega)
    constructor
    ·exact bI (be (ah rfl) bM (gc t1))
    obtain⟨S',k,x,p9,hlen'⟩:=St.ex (n:=ps.length) (b:=3) (S:=S) (by omega) (by omega)
    have hc:(st++[am.lst (ps.map Pl.w)])[st.length]?=some (.lst (ps.map Pl.w)):=cq
    have cY:=i' (bj hc)
    rw[av]at cY
    obtain⟨dm,edm⟩:=mix (ps.map Pl.w) ps.length (by omega)
    obtain⟨m,hm,em⟩:=um pool hp (dm%64) (st++[am.lst (ps.map Pl.w)])
    have ap:=kh (y:=(Pl.mk 3 m).w) hc (by rw[av];show _<1000000;omega)
    rw[dC]at ap
    have ap:cb (.loc st.length) [.tup [.int 3,.str m]] (st++[am.lst (ps.map Pl.w)])=_:=ap
    apply az
    ·exact eS (ik (ah rfl) (dF hc) (ak (gP (ak bM (ak (b8 (ak (ah rfl) (ak (be (be (ah rfl) (bw (ak (ah rfl) aF) cY) edm) bM (fS (by decide))) aF)) em rfl) aF)) (aM rfl)) aF) ap)
    apply cy
    ·exact bz (be (ah rfl) bM (fS trivial))
    ·refine⟨_,_,rfl,S'.length,by omega,ps++[⟨3,m⟩],S',sz++[k],lk++[x],?_,by simp,.snoc hg p9,by simp;omega,?_,rfl,?_⟩
     ·show[_,_,_,_,some (W.int ((S.length:Int)-1)),_,_]=_
      rw[show(S.length:Int)-1=(S'.length:Int) by omega]
     ·intro p hp'
      rcases a7.mp hp' with z|z
      ·exact hpm p z
      ·simp at z;subst z;show m.length<=9000;omega
     ·rw[jZ];simpa using hq
   ·left
    have t1:decide ((1:Int)<(S.length:Int))=false:=aR (by omega)
    exact bI (be (ah rfl) bM (gc t1))
  ·rintro n ρ bH ⟨ps,S,sz,lk,rfl,rfl,hg,hle,hpm,rfl,hq⟩ hno
   have hS1:S.length<=1:=by
    rcases dO 1 S.length with z|z
    ·exact(Ny hno (bI (be (ah rfl) bM (gc (a8 (by omega)))))).elim
    ·exact z
   have hc:(st++[am.lst (ps.map Pl.w)])[st.length]?=some (.lst (ps.map Pl.w)):=cq
   apply bN
   ·exact bw (ak (ah rfl) aF) (gy (bj hc))
   ·exact⟨_,_,rfl,⟨_,rfl⟩,by simp only[undWs,bc];exact sf ps _,ps,S,sz,lk,rfl,⟨hg,by omega,hS1,hq,hpm⟩⟩
theorem yq{n0:Nat}{st:List am}{ns:List Int}(h0:st[n0]?=some (.ro (ns.map W.int)))(a:Int)(pool:List Nat)(hp:pool.length<=50) :
  ∃ps S sz lk,I0 ps S sz lk/\ug [.loc n0,.int a,.str pool] st=.ok (dw ps) st:=by
 suffices hh:gn (sF fun w bH=>(∃x,bH=st++x)/\undWs st.length [w]=true/\∃ps S sz lk,w=dw ps/\I0 ps S sz lk) (Ku ([W.loc n0,.int a,.str pool].map some++List.replicate (6-3) none) st) by
  obtain⟨w,⟨ps,S,sz,lk,rfl,h1⟩,e⟩:=ju hh
  exact⟨ps,S,sz,lk,h1,e⟩
 obtain⟨c0,e0⟩:=nb h0 a
 obtain⟨hs,hhl,hhp,e1⟩:=kS c0 5000011 4 (by omega) st
 have e1:ji [.int c0,.int 4,.int 5000011] st=_:=e1
 obtain⟨d0,d1,d2,d3,rfl⟩:∃a b c d,hs=[a,b,c,d]:=by
  match hs,hhl with
  |[a,b,c,d],_=>exact⟨_,_,_,_,rfl⟩
 apply az
 ·exact bz (b8 (ak (b8 (ak (ah rfl) (ak (ah rfl) aF)) e0 rfl) (ak bM (ak bM aF))) e1 rfl)
 generalize mX:st++[am.lst ([d0,d1,d2,d3].map W.int)]=s1
 have k1:st <+: s1:=by rw[<- mX];exact aE _ _
 have hc1:s1[st.length]?=some (.lst (nr [d0,d1,d2,d3])):=by rw[<- mX];exact cq
 have i0:bG (.loc st.length) (.int 0) s1=.ok (.int d0) s1:=eA (i:=0) hc1 rfl
 have i1:bG (.loc st.length) (.int 1) s1=.ok (.int d1) s1:=eA (i:=1) hc1 rfl
 have i2:bG (.loc st.length) (.int 2) s1=.ok (.int d2) s1:=eA (i:=2) hc1 rfl
 clear e0 e1 mX
 apply az
 ·exact bz (be (be (ah rfl) bM i0) bM (fS (by decide)))
 refine im (fun ρ s=>∃k:Nat,k<=50/\ρ=[some (.loc n0),some (.int a),some (.str pool),some (.loc st.length),some (.int k),none]/\s=s1) ?_ ?_
 ·by_cases w1:d1%4=0
  ·have t1:(d1%4==0)=true:=cv.mpr w1
   obtain⟨q,hq,eq⟩:=fE (q:=d2) (n:=51) (by omega)
   have eq:d2%51=(q:Int):=eq
   apply iJ
   ·exact bI (be (be (be (ah rfl) bM i1) bM (fS (by decide))) bM (fK t1))
   apply cy
   ·exact bz (be (be (ah rfl) bM i2) bM (fS (by decide)))
   ·rw[eq];exact⟨_,_,rfl,q,by omega,rfl,rfl⟩
  ·have t1:(d1%4==0)=false:=aO.mpr w1
   obtain⟨q,hq,eq⟩:=fE (q:=d0) (n:=9) (by omega)
   have eq:d0%9=(q:Int):=eq
   apply hV
   ·exact bI (be (be (be (ah rfl) bM i1) bM (fS (by decide))) bM (fK t1))
   apply cy
   ·exact rG
   ·rw[eq];exact⟨_,_,rfl,q,by omega,rfl,rfl⟩
 rintro ρ s ⟨k,hk,rfl,rfl⟩
 have h1:=pre_get k1 h0
 obtain⟨c1,e2'⟩:=nb h1 (a+1)
 obtain⟨ds,SU,hdp,e3⟩:=kS c1 6000011 k (by omega) s
 apply az
 ·exact bz (b8 (ak (b8 (ak (ah rfl) (ak (be (ah rfl) bM db) aF)) e2' rfl) (ak (ah rfl) (ak bM aF))) e3 rfl)
 generalize uA:s++[am.lst (ds.map W.int)]=s2
 have k2:s <+: s2:=by rw[<- uA];exact aE _ _
 have hc2:s2[s.length]?=some (.lst (nr ds)):=by rw[<- uA];exact cq
 obtain⟨j,x,ms,hml,hmp,hxj,eb⟩:=uh (pre_get (k1.trans k2) h0) (a+2) (2*k) 7000003 (by omega)
 rw[show((2*k:Nat):Int)=2*(k:Int) by omega]at eb
 obtain⟨ps,S,sz,lk,ht,ew⟩:=I_ (pool:=pool) (st:=s2++x) (nd:=s.length) (md:=s2.length+j) (ds:=ds) (ms:=ms) (fZ hc2) (by rw[eL];exact hxj) (by omega) (by omega) hdp hp
 obtain⟨y,rfl⟩:=k1.trans k2
 apply bN
 ·exact b8 (ak (ah rfl) (ak (b8 (ak (ah rfl) (ak (be (ah rfl) bM db) (ak (be bM (ah rfl) (mO (.inl (by decide)))) (ak bM aF)))) eb rfl) (ak (ah rfl) aF))) ew rfl
 ·exact⟨_,_,rfl,⟨_,by rw[aW]⟩,by simp only[undWs,bc];exact sf _ _,ps,S,sz,lk,rfl,ht⟩
inductive MT where
 |nil
 |nd (l r:MT) (m:List Nat)
def MT.one:MT->Nat
 |.nil=>0
 |.nd _ _ _=>1
def MT.size:MT->Nat
 |.nil=>0
 |.nd l r _=>l.size+r.size+1
def MT.ht:MT->Nat
 |.nil=>0
 |.nd l r _=>max l.ht r.ht+1
def MT.po:MT->List Pl
 |.nil=>[]
 |.nd l r m=>l.po++r.po++[⟨l.one+2*r.one,m⟩]
def MT.tr(nm:List Nat):MT->Tr
 |.nil=>.nil
 |.nd l r m=>.nd (l.tr nm) (r.tr nm) (f6 m nm)
def zU:MT->List MT->List MT
 |.nil,S=>S
 |.nd l r m,S=>.nd l r m::S
def push(S:List MT)(p:Pl):List MT:=match p.b,S with
 |0,S=>.nd .nil .nil p.m::S
 |1,l::S=>.nd l .nil p.m::S
 |2,r::S=>.nd .nil r p.m::S
 |3,r::l::S=>.nd l r p.m::S
 |_,S=>S
def stk(ps:List Pl):List MT:=ps.foldl push []
theorem vL:∀(t:MT) (S:List MT),t.po.foldl push S=zU t S
 |.nil,S=>rfl
 |.nd l r m,S=>by
  unfold MT.po
  rw[gm,gm,vL l,vL r]
  cases l<;>cases r<;>rfl
theorem cV:∀t:MT,t.po.length=t.size
 |.nil=>rfl
 |.nd l r m=>by unfold MT.po MT.size;rw[ay,ay,cV l,cV r];rfl
theorem sv(ps:List Pl)(p:Pl):stk (ps++[p])=push (stk ps) p:=by unfold stk;rw[gm];rfl
theorem vM(ps:List Pl)(t:MT):stk (ps++t.po)=zU t (stk ps):=by unfold stk;rw[gm,vL]
theorem vN{t:MT}(h:t≠.nil):stk t.po=[t]:=by
 have:=vM [] t
 rw[fB]at this
 rw[this]
 cases t with
 |nil=>exact(h rfl).elim
 |nd l r m=>rfl
theorem vO(nm:List Nat):∀t:MT,(t.tr nm).size=t.size
 |.nil=>rfl
 |.nd l r m=>by unfold MT.tr Tr.size MT.size;rw[vO nm l,vO nm r]
def Cy:List MT->List Pl
 |[]=>[]
 |t::S=>Cy S++t.po
structure To(ps:List Pl)(S sz:List Nat):Prop where
 s:S=(stk ps).map MT.size
 ne:∀t∈stk ps,t≠.nil
 fl:Cy (stk ps)=ps
 at':∀i,i<ps.length->∃t ts,stk (ps.take (i+1))=t::ts/\sz[i]?=some t.size
theorem jO{t:MT}(h:t≠.nil):t.one=1:=by
 cases t with
 |nil=>exact(h rfl).elim
 |nd l r m=>rfl
theorem Cz{ps:List Pl}{S sz:List Nat}{lk:List (Option Nat×Option Nat)}(h:Gr ps S sz lk):To ps S sz:=by
 induction h with
 |nil=>exact⟨rfl,(fun t ht=>by cases ht),rfl,fun i hi=>absurd hi (cQ _)⟩
 |@snoc ps S S' sz lk b k m x hg hs ih=>
  have cY:=hg.ok.1
  suffices hh:∃t ts,stk (ps++[⟨b,m⟩])=t::ts/\t≠.nil/\(∀u∈ts,u≠.nil)/\S'=t.size::ts.map MT.size/\k=t.size/\Cy ts++t.po=ps++[⟨b,m⟩] by
   obtain⟨t,ts,h1,h2,h3,h4,h5,h6⟩:=hh
   refine⟨by rw[h1,h4];rfl,fun u hu=>?_,by rw[h1];exact h6,fun i hi=>?_⟩
   ·rw[h1]at hu
    rcases br.mp hu with rfl|hu
    ·exact h2
    ·exact h3 u hu
   ·rcases dO i ps.length with z|z
    ·obtain⟨u,us,g1,g2⟩:=ih.at' i z
     exact⟨u,us,by rw[bf (by omega)];exact g1,by rw[au (by omega)];exact g2⟩
    ·have hi':i=ps.length:=by rw[ay]at hi;simp at hi;omega
     subst hi'
     exact⟨t,ts,by rw[bo (by simp)];exact h1,by rw[<- cY,bt,h5]⟩
  have hS:=ih.s
  have kJ:=ih.ne
  have hfl:=ih.fl
  rw[sv]
  generalize stk ps=st at hS kJ hfl
  cases hs with
  |z=>exact⟨.nd .nil .nil m,st,rfl,(fun z=>by cases z),kJ,by rw[hS];rfl,rfl,by rw[hfl];rfl⟩
  |@l a S=>
   cases st with
   |nil=>cases hS
   |cons t ts=>
    obtain⟨e1,e2⟩:=c9 hS
    refine⟨.nd t .nil m,ts,rfl,(fun z=>by cases z),fun u hu=>kJ u (aZ _ hu),?_,?_,?_⟩
    ·rw[e2,e1];show _=(t.size+0+1)::_;rw[jA 1]
    ·rw[e1];show _=t.size+0+1;omega
    ·rw[<- hfl];show _++(t.po++[]++[⟨t.one+2*0,m⟩])=(Cy ts++t.po)++_
     rw[jO (kJ t (bA ..)),fz,aW]
  |@r a S=>
   cases st with
   |nil=>cases hS
   |cons t ts=>
    obtain⟨e1,e2⟩:=c9 hS
    refine⟨.nd .nil t m,ts,rfl,(fun z=>by cases z),fun u hu=>kJ u (aZ _ hu),?_,?_,?_⟩
    ·rw[e2,e1];show _=(0+t.size+1)::_;rw[fW,jA 1]
    ·rw[e1];show _=0+t.size+1;omega
    ·rw[<- hfl];show _++([]++t.po++[⟨0+2*t.one,m⟩])=(Cy ts++t.po)++_
     rw[jO (kJ t (bA ..)),fB,aW]
  |@b c a S=>
   cases st with
   |nil=>cases hS
   |cons t ts=>
    cases ts with
    |nil=>obtain⟨_,e2⟩:=c9 hS;cases e2
    |cons u us=>
     obtain⟨e1,e2⟩:=c9 hS
     obtain⟨e2,e3⟩:=c9 e2
     refine⟨.nd u t m,us,rfl,(fun z=>by cases z),fun v hv=>kJ v (aZ _ (aZ _ hv)),?_,?_,?_⟩
     ·rw[e3,e1,e2];show _=(u.size+t.size+1)::_;rw[show 1+t.size+u.size=u.size+t.size+1 by omega]
     ·rw[e1,e2];show _=u.size+t.size+1;omega
     ·rw[<- hfl];show _++(u.po++t.po++[⟨u.one+2*t.one,m⟩])=((Cy us++u.po)++t.po)++_
      rw[jO (kJ t (bA ..)),jO (kJ u (aZ _ (bA ..)))]
      simp only[aW]
theorem FU{ps:List Pl}{S sz:List Nat}{lk:List (Option Nat×Option Nat)}(h:Gr ps S sz lk)(h1:S.length<=1):∃t:MT,t.po=ps:=by
 have g:=Cz h
 have hl:(stk ps).length<=1:=by rw[g.s,av]at h1;exact h1
 have hf:=g.fl
 generalize stk ps=st at hl hf
 match st,hl with
 |[],_=>exact⟨.nil,hf⟩
 |[t],_=>exact⟨t,hf⟩
theorem FV:∀t:MT,t.ht<=t.po.countP fun p=>decide (p.b≠3)
 |.nil=>cU _
 |.nd l r m=>by
  have hl:=FV l
  have hr:=FV r
  unfold MT.po MT.ht
  rw[jZ,jZ]
  have pos:∀t:MT,t≠.nil->1<=t.ht:=fun t h=>by
   cases t with
   |nil=>exact(h rfl).elim
   |nd l r m=>unfold MT.ht;omega
  cases l with
  |nil=>
   cases r with
   |nil=>show 0+1<=0+0+1;omega
   |nd a b c=>
    have e:([(⟨MT.nil.one+2*(MT.nd a b c).one,m⟩:Pl)].countP fun p=>decide (p.b≠3))=1:=rfl
    rw[e]
    show max 0 (MT.nd a b c).ht+1<=_
    omega
  |nd a b c=>
   cases r with
   |nil=>
    have e:([(⟨(MT.nd a b c).one+2*MT.nil.one,m⟩:Pl)].countP fun p=>decide (p.b≠3))=1:=rfl
    rw[e]
    show max (MT.nd a b c).ht 0+1<=_
    omega
   |nd a' b' c'=>
    have p1:=pos (MT.nd a b c) (fun z=>by cases z)
    have p2:=pos (MT.nd a' b' c') (fun z=>by cases z)
    omega
theorem FW:∀(t:MT) {ps:List Pl} {S sz:List Nat} {lk:List (Option Nat×Option Nat)},Gr ps S sz lk->∃S' Rb Q8,Gr (ps++t.po) S' Rb Q8/\S'=match t with
  |.nil=>S
  |t=>t.size::S
 |.nil,ps,S,sz,lk,h=>⟨S,sz,lk,by rw[show MT.nil.po=[]from rfl,fz];exact h,rfl⟩
 |.nd l r m,ps,S,sz,lk,h=>by
  obtain⟨S1,z1,k1,g1,e1⟩:=FW l h
  obtain⟨S2,z2,k2,g2,e2⟩:=FW r g1
  have key:∃S' k x,St (ps++l.po++r.po).length S2 (l.one+2*r.one) S' k x/\S'=(MT.nd l r m).size::S:=by
   cases l with
   |nil=>
    have e1:S1=S:=e1
    cases r with
    |nil=>
     have e2:S2=S1:=e2
     rw[e2,e1]
     exact⟨_,_,_,.z,rfl⟩
    |nd a b c=>
     have e2:S2=(MT.nd a b c).size::S1:=e2
     rw[e2,e1]
     exact⟨_,_,_,.r,by show(1+(MT.nd a b c).size)::S=(0+(MT.nd a b c).size+1)::S;rw[fW,jA]⟩
   |nd a b c=>
    have e1:S1=(MT.nd a b c).size::S:=e1
    cases r with
    |nil=>
     have e2:S2=S1:=e2
     rw[e2,e1]
     exact⟨_,_,_,.l,by show(1+(MT.nd a b c).size)::S=((MT.nd a b c).size+0+1)::S;rw[iz,jA]⟩
    |nd a' b' c'=>
     have e2:S2=(MT.nd a' b' c').size::S1:=e2
     rw[e2,e1]
     exact⟨_,_,_,.b,by show(1+(MT.nd a' b' c').size+(MT.nd a b c).size)::S=((MT.nd a b c).size+(MT.nd a' b' c').size+1)::S;rw[show 1+(MT.nd a' b' c').size+(MT.nd a b c).size=(MT.nd a b c).size+(MT.nd a' b' c').size+1 by omega]⟩
  obtain⟨S',k,x,hs,e⟩:=key
  refine⟨S',z2++[k],k2++[x],?_,e⟩
  have:=Gr.snoc (m:=m) g2 hs
  rw[show ps++(MT.nd l r m).po=ps++l.po++r.po++[⟨l.one+2*r.one,m⟩] by show ps++(l.po++r.po++_)=_;simp only[aW]]
  exact this
theorem yr(t:MT):∃S sz lk,Gr t.po S sz lk:=by
 obtain⟨S,sz,lk,h,_⟩:=FW t Gr.nil
 exact⟨S,sz,lk,by rw[fB]at h;exact h⟩
theorem nZ{α:Type}{l:List α}{i:Nat}{x:α}(h:l[i]?=some x):l.take (i+1)=l.take i++[x]:=by
 rw[eD,h];rfl
theorem vP{ps:List Pl}{S sz:List Nat}{lk:List (Option Nat×Option Nat)}(h:Gr ps S sz lk){i:Nat}(hi:i<ps.length) :
  ∃(p:Pl) (l r:MT) (S0:List MT),ps[i]?=some p/\p.b=l.one+2*r.one/\stk (ps.take i)=zU r (zU l S0)/\stk (ps.take (i+1))=.nd l r p.m::S0:=by
 obtain⟨S1,S2,p,k,x,g1,hp,_,_,hs,_⟩:=h.step i hi
 have g:=Cz g1
 have hS:=g.s
 have kJ:=g.ne
 have e1:stk (ps.take (i+1))=push (stk (ps.take i)) p:=by rw[nZ hp,sv]
 generalize stk (ps.take i)=st at hS kJ e1
 obtain⟨b,m⟩:=p
 have c1:∀{t:MT},t≠.nil->∀S,zU t S=t::S:=fun{t} h S=>by
  cases t with
  |nil=>exact(h rfl).elim
  |nd _ _ _=>rfl
 cases hs with
 |z=>exact⟨_,.nil,.nil,st,hp,rfl,rfl,e1⟩
 |@l a S=>
  cases st with
  |nil=>cases hS
  |cons t ts=>
   have ht:=kJ t (bA ..)
   exact⟨_,t,.nil,ts,hp,by rw[jO ht];rfl,(c1 ht ts).symm,e1⟩
 |@r a S=>
  cases st with
  |nil=>cases hS
  |cons t ts=>
   have ht:=kJ t (bA ..)
   exact⟨_,.nil,t,ts,hp,by rw[jO ht];rfl,(c1 ht ts).symm,e1⟩
 |@b c a S=>
  cases st with
  |nil=>cases hS
  |cons t ts=>
   cases ts with
   |nil=>obtain⟨_,e2⟩:=c9 hS;cases e2
   |cons u us=>
    have ht:=kJ t (bA ..)
    have hu:=kJ u (aZ _ (bA ..))
    exact⟨_,u,t,us,hp,by rw[jO ht,jO hu],by rw[c1 ht,c1 hu],e1⟩
theorem oM{α:Type}{l:List α}{i:Nat}{x:α}(h:l[i]?=some x):l.set i x=l:=by
 refine gk fun j=>?_
 by_cases z:i=j
 ·subst z;rw[bb (aa.mp h).1,h]
 ·rw[bg z]
theorem QP{f:MT->W}{ih ib il ir hp:Nat}{b:Nat}{l r:MT}{S0:List MT}{ρ:cB}{s:List am}{Q:RS->Prop}{d7:FS}(hb:b=l.one+2*r.one)(h1:ρ[ib]?=some (some (.int (b:Nat))))(h2:ρ[ih]?=some (some (.loc hp)))(h3:ρ[ir]?=some (some (f .nil)))(h4:ρ[il]?=some (some (f .nil)))
  (d1:ir≠ib) (d2:ir≠ih) (d3:ir≠il) (hc:s[hp]?=some (.lst ((zU r (zU l S0)).map f).reverse)) (h:gn Q (d7 ((ρ.set ir (some (f r))).set il (some (f l))) (s.set hp (.lst (S0.map f).reverse)))) :
  gn Q (aS (gs (et (e2 Ju (ai ib) (eI 2))) (bu ir (kP mi (ai ih) aC)) b_) (aS (gs (et (e2 jC (e2 eh (ai ib) (eI 2)) (eI 1))) (bu il (kP mi (ai ih) aC)) b_) d7) ρ s):=by
 have m2:∀s,eh (.int (b:Nat)) (.int 2) s=.ok (.int ((b%2:Nat):Int)) s:=fun s=>by rw[Int.natCast_emod];exact fS (by decide)
 have key:gn Q (aS (gs (et (e2 jC (e2 eh (ai ib) (eI 2)) (eI 1))) (bu il (kP mi (ai ih) aC)) b_) d7 (ρ.set ir (some (f r))) (s.set hp (.lst ((zU l S0).map f).reverse))):=by
  have hc2:(s.set hp (.lst ((zU l S0).map f).reverse))[hp]?=some (.lst ((zU l S0).map f).reverse):=bb (aa.mp hc).1
  have g1:(ρ.set ir (some (f r)))[ib]?=some (some (.int (b:Nat))):=by rw[bg d1];exact h1
  have g2:(ρ.set ir (some (f r)))[ih]?=some (some (.loc hp)):=by rw[bg d2];exact h2
  cases l with
  |nil=>
   refine bJ (bI (be (be (ah g1) bM (m2 _)) bM (fK (by rw[aO,hb];show ¬ (((0+2*r.one)%2:Nat):Int)=1;omega)))) ?_
   refine bZ ?_
   have e:(ρ.set ir (some (f r))).set il (some (f .nil))=ρ.set ir (some (f r)):=oM (by rw[bg d3];exact h4)
   rw[e]at h;exact h
  |nd a c d=>
   refine eR (bI (be (be (ah g1) bM (m2 _)) bM (fK (by rw[cv,hb];show(((1+2*r.one)%2:Nat):Int)=1;omega)))) ?_
   have hc3:(s.set hp (.lst ((zU (.nd a c d) S0).map f).reverse))[hp]?=some (.lst ((S0.map f).reverse++[f (.nd a c d)])):=by
    rw[hc2];show some (am.lst ((f (.nd a c d)::S0.map f).reverse))=_;rw[iG]
   refine az (bz (ik (ah g2) (dF hc3) aF (A0 hc3))) ?_
   rw[oU];exact h
 cases r with
 |nil=>
  refine bJ (bI (be (ah h1) bM (gc (aR (by rw[hb];have:l.one<=1:=(by cases l<;>simp[MT.one]);show ¬ (2:Int)<=((l.one+2*0:Nat):Int);omega))))) ?_
  refine bZ ?_
  rw[oM h3,oM (show s[hp]?=some (.lst ((zU l S0).map f).reverse)from hc)]at key
  exact key
 |nd a c d=>
  refine eR (bI (be (ah h1) bM (gc (a8 (by rw[hb];show(2:Int)<=((l.one+2*1:Nat):Int);omega))))) ?_
  have hc3:s[hp]?=some (.lst (((zU l S0).map f).reverse++[f (.nd a c d)])):=by
   rw[hc];show some (am.lst ((f (.nd a c d)::(zU l S0).map f).reverse))=_;rw[iG]
  exact az (bz (ik (ah h2) (dF hc3) aF (A0 hc3))) key
def gf(M:Mc)(t:MT):Nat:=(t.tr M.nm).rm (e7 M)
theorem pI(M:Mc)(l r:MT)(m:List Nat):gf M (.nd l r m)=e7 M (f6 m M.nm) (gf M l) (gf M r):=rfl
section
variable{M:Mc}{n:Nat}
theorem sw(hM:ng M n)(hn:1<=n):∀t:MT,gf M t<n
 |.nil=>hn
 |.nd l r m=>by
  have h1:f6 m M.nm<M.tb.length:=by rw[hM.tb];exact qF m M.nm
  obtain⟨row,_,_,h⟩:=Fs hM (ac h1) (sw hM hn l) (sw hM hn r)
  exact h
def kj(ps:List Pl)(j:Nat):MT:=(stk (ps.take (j+1))).headD .nil
theorem Nz(hM:ng M n)(hn:1<=n){ps:List Pl}{S sz:List Nat}{lk:List (Option Nat×Option Nat)}(h:Gr ps S sz lk)(hl:ps.length<=900)(st:List am) :
  ∃x,xO [M.w,dw ps] st=.ok (.loc (st.length+1)) (st++x)/\x[1]?=some (.lst ((List.range ps.length).map fun j=>W.int (gf M (kj ps j):Nat))):=by
 suffices hh:gn (sF fun w bH=>∃j x,w=.loc (st.length+j)/\bH=st++x/\j=1/\x[1]?=some (.lst ((List.range ps.length).map fun j=>W.int (gf M (kj ps j):Nat)))) (Kf ([M.w,dw ps].map some++List.replicate (8-2) none) st) by
  obtain⟨j,x,⟨rfl,hx⟩,e⟩:=oH hh
  exact⟨x,e,hx⟩
 apply az
 ·exact bz (tX aF (aM rfl))
 apply az
 ·exact bz (tX aF (aM rfl))
 have l1:(st++[am.lst []]).length=st.length+1:=by simp
 rw[l1]
 refine dL (fun i ρ s=>∃(o4 o5 o6 o7:Option W),ρ=[some M.w,some (dw ps),some (.loc st.length),some (.loc (st.length+1)),o4,o5,o6,o7]/\s=st++[.lst ((stk (ps.take i)).map fun t=>W.int (gf M t:Nat)).reverse,.lst ((List.range i).map fun j=>W.int (gf M (kj ps j):Nat))])
  (k:=(ps.map Pl.w,none)) (st1:=(st++[am.lst []])++[am.lst []]) (jt (ah rfl)) ⟨none,none,none,none,rfl,by rw[aW];rfl⟩ (fun _ _ _ _=>trivial) ?_ ?_
 ·rintro i w ρ s hw ⟨o4,o5,o6,o7,rfl,rfl⟩
  have hi:i<ps.length:=by have:=(aa.mp hw).1;simpa using this
  obtain⟨p,l,r,S0,hp,hb,hs0,mX⟩:=vP h hi
  have hw:w=p.w:=by
   simp only at hw
   rw[aB,hp]at hw
   exact(a_ hw).symm
  subst hw
  refine⟨_,rfl,?_⟩
  apply az
  ·exact bz bM
  apply az
  ·exact bz bM
  rw[hs0]
  refine QP (f:=fun t=>W.int (gf M t:Nat)) (l:=l) (r:=r) (S0:=S0) hb rfl rfl rfl rfl (by decide) (by decide) (by decide) (by rw[cF];rfl) ?_
  have h1:f6 p.m M.nm<M.tb.length:=by rw[hM.tb];exact qF p.m M.nm
  have ht:=ac h1
  obtain⟨row,e1,e2,_⟩:=Fs hM ht (sw hM hn l) (sw hM hn r)
  rw[dC]
  show gn _ (aS _ _ [some M.w,some (dw ps),some (.loc st.length),some (.loc (st.length+1)),some (.int p.b),some (.str p.m),some (.int (gf M l:Nat)),some (.int (gf M r:Nat))] (st++[.lst (S0.map fun t=>W.int (gf M t:Nat)).reverse,.lst ((List.range i).map fun j=>W.int (gf M (kj ps j):Nat))]))
  have hc:(st++[am.lst (S0.map fun t=>W.int (gf M t:Nat)).reverse,.lst ((List.range i).map fun j=>W.int (gf M (kj ps j):Nat))])[st.length]?=some (.lst (S0.map fun t=>W.int (gf M t:Nat)).reverse):=by rw[cF];rfl
  have hS0:S0.length<=900:=by
   have:=fP List.length mX
   have g:=Cz (h.step i hi).choose_spec.choose_spec.choose_spec.choose_spec.choose_spec.2.2.2.2.2
   have h2:=(h.step i hi).choose_spec.choose_spec.choose_spec.choose_spec.choose_spec.2.2.2.2.2.ok.2.2.le
   rw[g.s,av,this,aY]at h2
   simp at h2;omega
  apply az
  ·exact eS (ik (ah rfl) (dF hc) (ak (be (be (be (be (ah rfl) bM (c_ rfl)) (b8 (ak (be (ah rfl) bM (c_ rfl)) (ak (ah rfl) aF)) (sg M.nm p.m _) rfl) (FK ht _)) (ah rfl) (KD e1)) (ah rfl) (KF e2)) aF) (kh hc (by rw[jl,av];show _<1000000;omega)))
  rw[dC]
  have hc1:(st++[am.lst (S0.map fun t=>W.int (gf M t:Nat)).reverse,.lst ((List.range i).map fun j=>W.int (gf M (kj ps j):Nat))].set 0 (.lst ((S0.map fun t=>W.int (gf M t:Nat)).reverse++[W.int (e7 M (f6 p.m M.nm) (gf M l) (gf M r):Nat)])))[st.length]?=some (.lst ((S0.map fun t=>W.int (gf M t:Nat)).reverse++[W.int (e7 M (f6 p.m M.nm) (gf M l) (gf M r):Nat)])):=by rw[cF];rfl
  have hc2:(st++[am.lst (S0.map fun t=>W.int (gf M t:Nat)).reverse,.lst ((List.range i).map fun j=>W.int (gf M (kj ps j):Nat))].set 0 (.lst ((S0.map fun t=>W.int (gf M t:Nat)).reverse++[W.int (e7 M (f6 p.m M.nm) (gf M l) (gf M r):Nat)])))[st.length+1]?=some (.lst ((List.range i).map fun j=>W.int (gf M (kj ps j):Nat))):=by rw[eL];rfl
  have last:oV ((S0.map fun t=>W.int (gf M t:Nat)).reverse++[W.int (e7 M (f6 p.m M.nm) (gf M l) (gf M r):Nat)]) (-1)=some (.int (e7 M (f6 p.m M.nm) (gf M l) (gf M r):Nat)):=va (q:=0) (by rw[List.reverse_append];rfl)
  refine cy (eS (ik (ah rfl) (dF hc2) (ak (be (ah rfl) (t5 bM) (jM (bj hc1) last)) aF) (kh hc2 (by rw[av,fG];show _<1000000;omega)))) ?_
  refine⟨_,_,rfl,_,_,_,_,rfl,?_⟩
  rw[gO,mX]
  have htop:kj ps i=.nd l r p.m:=by unfold kj;rw[mX];rfl
  rw[List.range_succ,bQ]
  simp only[aK,dN,iG,htop]
  rfl
 ·rintro ρ s ⟨o4,o5,o6,o7,rfl,rfl⟩
  apply bN
  ·exact ah rfl
  ·refine⟨_,_,rfl,1,_,rfl,rfl,rfl,?_⟩
   rw[show(ps.map Pl.w,(none:Option (Nat×List W))).fst.length=ps.length by simp]
   rfl
theorem zV{t:MT}(h:t≠.nil):kj t.po (t.po.length-1)=t:=by
 have hl:1<=t.po.length:=by
  rw[cV]
  cases t with
  |nil=>exact(h rfl).elim
  |nd l r m=>unfold MT.size;omega
 unfold kj
 rw[show t.po.length-1+1=t.po.length by omega,cG,vN h];rfl
theorem qG(hM:ng M n)(hn:1<=n)(t:MT)(hl:t.size<=900)(st:List am):p5 [M.w,dw t.po] st=.ok (.int (gf M t:Nat)) st:=by
 refine fJ (N:=2) (ws:=[M.w,dw t.po]) (body:=KA) ?_ rfl
 have ll:=lA t.po st
 by_cases z:t=.nil
 ·subst z
  refine eR (bI (be (bw (ak (ah rfl) aF) ll) bM (fK rfl))) ?_
  exact eQ bM ⟨_,_,rfl,rfl,[],by simp⟩
 ·have h0:t.po.length≠0:=by
   rw[cV]
   cases t with
   |nil=>exact(z rfl).elim
   |nd l r m=>unfold MT.size;omega
  refine bJ (bI (be (bw (ak (ah rfl) aF) ll) bM (fK (by rw[aO];omega)))) ?_
  refine bZ ?_
  obtain⟨S,sz,lk,hg⟩:=yr t
  obtain⟨x,e,hx⟩:=Nz hM hn hg (by rw[cV];exact hl) st
  have hx2:(st++x)[st.length+1]?=some (.lst ((List.range t.po.length).map fun j=>W.int (gf M (kj t.po j):Nat))):=by rw[eL];exact hx
  refine bN (be (b8 (ak (ah rfl) (ak (ah rfl) aF)) e rfl) (t5 bM) (jM (bj hx2) (va (q:=0) (x:=.int (gf M t:Nat)) ?_))) ⟨_,_,rfl,rfl,_,rfl⟩
  obtain⟨k,hk⟩:∃k,t.po.length=k+1:=⟨t.po.length-1,by omega⟩
  rw[hk,List.range_succ,bQ,List.reverse_append]
  have:=zV z
  rw[hk]at this
  show some (W.int (gf M (kj t.po k):Nat))=_
  rw[show k+1-1=k by omega]at this
  rw[this]
end
def kW:Tr->W
 |.nil=>.tup [.int 0]
 |.nd l r a=>.tup [.int ((l.size+r.size+1:Nat):Int),kW l,kW r,.int (a:Nat)]
theorem QQ(t:Tr)(st:List am):bG (kW t) (.int 0) st=.ok (.int (t.size:Nat)) st:=by
 cases t with
 |nil=>exact c_ rfl
 |nd l r a=>exact c_ rfl
theorem zW:∀(t:Tr) (n:Nat),(kW t).und n=true
 |.nil,n=>rfl
 |.nd l r a,n=>by
  unfold kW W.und
  simp only[undWs,bc,zW l n,zW r n];rfl
theorem uo:∀t u:Tr,(t=u->cO (kW t) (kW u)=some true)/\(t≠u->cO (kW t) (kW u)=some false)
 |.nil,.nil=>⟨fun _=>rfl,fun h=>(h rfl).elim⟩
 |.nil,.nd l r a=>⟨(fun h=>by cases h),fun _=>by
   unfold kW cO eqWs
   rw[show cO (.int 0) (.int ((l.size+r.size+1:Nat):Int))=some false by
    unfold cO;rw[show((0:Int)==((l.size+r.size+1:Nat):Int))=false by rw[aO];omega]]
   rfl⟩
 |.nd l r a,.nil=>⟨(fun h=>by cases h),fun _=>by
   unfold kW cO eqWs
   rw[show cO (.int ((l.size+r.size+1:Nat):Int)) (.int 0)=some false by
    unfold cO;rw[show(((l.size+r.size+1:Nat):Int)==(0:Int))=false by rw[aO];omega]]
   rfl⟩
 |.nd l r a,.nd l' r' a'=>by
  obtain⟨l1,l2⟩:=uo l l'
  obtain⟨r1,r2⟩:=uo r r'
  have key:∀{b c:Bool},cO (kW l) (kW l')=some b->cO (kW r) (kW r')=some c->cO (kW (.nd l r a)) (kW (.nd l' r' a'))=some ((((l.size+r.size+1:Nat):Int)==((l'.size+r'.size+1:Nat):Int))&&(b&&(c&&(((a:Nat):Int)==((a':Nat):Int))))):=fun{b c} e1 e2=>by
   unfold kW cO
   unfold eqWs
   rw[show ∀x y:Int,cO (.int x) (.int y)=some (x==y)from fun x y=>by unfold cO;rfl]
   unfold eqWs
   rw[e1]
   unfold eqWs
   rw[e2]
   unfold eqWs
   rw[show ∀x y:Int,cO (.int x) (.int y)=some (x==y)from fun x y=>by unfold cO;rfl]
   unfold eqWs
   simp
  refine⟨fun h=>?_,fun h=>?_⟩
  ·cases h
   rw[key (l1 rfl) (r1 rfl)];simp
  ·by_cases e1:l=l'
   ·by_cases e2:r=r'
    ·have e3:a≠a':=fun z=>h (by rw[e1,e2,z])
     rw[key (l1 e1) (r1 e2),show(((a:Nat):Int)==((a':Nat):Int))=false by rw[aO];omega];simp
    ·rw[key (l1 e1) (r2 e2)];simp
   ·rcases lR (r=r')with e2|e2
    ·rw[key (l2 e1) (r1 e2)];simp
    ·rw[key (l2 e1) (r2 e2)];simp
theorem FX:∀t u:Tr,u.le t->og (kW t) (kW u)=some false
 |.nil,.nil,_=>rfl
 |.nil,.nd l r a,h=>by
  rcases h with h|h
  ·cases h
  ·exact h.elim
 |.nd l r a,.nil,_=>by
  unfold kW og ltWs
  rw[show cO (.int ((l.size+r.size+1:Nat):Int)) (.int 0)=some false by
   unfold cO;rw[show(((l.size+r.size+1:Nat):Int)==(0:Int))=false by rw[aO];omega]]
  show og (.int _) (.int _)=_
  unfold og
  rw[aR (by omega)]
 |.nd l r a,.nd l' r' a',h=>by
  have ei:∀x y:Int,cO (.int x) (.int y)=some (x==y):=fun x y=>by unfold cO;rfl
  have li:∀x y:Int,og (.int x) (.int y)=some (decide (x<y)):=fun x y=>by unfold og;rfl
  unfold kW og ltWs
  rw[ei]
  by_cases hs:l.size+r.size=l'.size+r'.size
  ·rw[show(((l.size+r.size+1:Nat):Int)==((l'.size+r'.size+1:Nat):Int))=true by rw[cv];omega]
   show ltWs _ _=_
   have hl:l'.le l:=by
    rcases h with h|h
    ·cases h;exact .inl rfl
    ·rcases h with h|⟨_,h|⟨h,_⟩⟩
     ·omega
     ·exact .inr h
     ·exact .inl h
   unfold ltWs
   rcases lR (l=l')with e1|e1
   ·rw[(uo l l').1 e1]
    show ltWs _ _=_
    have hr:r'.le r:=by
     rcases h with h|h
     ·cases h;exact .inl rfl
     ·rcases h with h|⟨_,h|⟨_,h|⟨h,_⟩⟩⟩
      ·omega
      ·rw[e1]at h;exact(Tr.irr h).elim
      ·exact .inr h
      ·exact .inl h
    unfold ltWs
    rcases lR (r=r')with e2|e2
    ·rw[(uo r r').1 e2]
     show ltWs _ _=_
     have ha:a'<=a:=by
      rcases h with h|h
      ·cases h;exact aA _
      ·rcases h with h|⟨_,h|⟨_,h|⟨_,h⟩⟩⟩
       ·omega
       ·rw[e1]at h;exact(Tr.irr h).elim
       ·rw[e2]at h;exact(Tr.irr h).elim
       ·exact gE h
     unfold ltWs
     rw[ei]
     by_cases e3:a=a'
     ·rw[show(((a:Nat):Int)==((a':Nat):Int))=true by rw[cv];omega]
      show ltWs [] []=_
      unfold ltWs;rfl
     ·rw[show(((a:Nat):Int)==((a':Nat):Int))=false by rw[aO];omega]
      show og _ _=_
      rw[li,aR (by omega)]
    ·rw[(uo r r').2 e2]
     exact FX r r' hr
   ·rw[(uo l l').2 e1]
    exact FX l l' hl
  ·rw[show(((l.size+r.size+1:Nat):Int)==((l'.size+r'.size+1:Nat):Int))=false by rw[aO];omega]
   show og (.int _) (.int _)=_
   rw[li]
   have:l'.size+r'.size<=l.size+r.size:=by
    have:=Tr.le_size h
    unfold Tr.size at this;omega
   rw[aR (by omega)]
theorem zX(nm:List Nat):∀t:MT,(kW (t.tr nm)).dep<=t.ht+1
 |.nil=>by unfold MT.tr kW W.dep;simp[depWs,W.dep]
 |.nd l r m=>by
  have hl:=zX nm l
  have hr:=zX nm r
  unfold MT.tr kW W.dep MT.ht
  simp only[depWs,W.dep]
  omega
theorem QR{nm:List Nat}{t:MT}{u:Tr}(h:u.le (t.tr nm))(hh:t.ht<=60)(st:List am):Ca (kW (t.tr nm)) (kW u) st=.ok (.bl false) st:=by
 unfold Ca
 rw[FX _ _ h]
 simp only
 rw[aD (by have:=zX nm t;omega)]
section
variable{M:Mc}{n:Nat}
theorem NA{ps:List Pl}{S sz:List Nat}{lk:List (Option Nat×Option Nat)}(h:Gr ps S sz lk)(hl:ps.length<=900)(st:List am)(v:W)(hv:v=match stk ps with
  |[]=>.tup [.int 0]
  |t::_=>kW (t.tr M.nm)):rS [M.w,dw ps] st=.ok v st:=by
 refine fJ (N:=7) (ws:=[M.w,dw ps]) (body:=Kv) ?_ (by
  simp only[undWs,bc]
  rw[hv]
  cases stk ps with
  |nil=>rfl
  |cons t ts=>exact zW _ _)
 apply az
 ·exact bz (tX aF (aM rfl))
 refine dL (fun i ρ s=>∃(o3 o4 o5 o6:Option W),ρ=[some M.w,some (dw ps),some (.loc st.length),o3,o4,o5,o6]/\s=st++[.lst ((stk (ps.take i)).map fun t=>kW (t.tr M.nm)).reverse])
  (k:=(ps.map Pl.w,none)) (st1:=st++[am.lst []]) (jt (ah rfl)) ⟨none,none,none,none,rfl,rfl⟩ (fun _ _ _ _=>trivial) ?_ ?_
 ·rintro i w ρ s hw ⟨o3,o4,o5,o6,rfl,rfl⟩
  have hi:i<ps.length:=by have:=(aa.mp hw).1;simpa using this
  obtain⟨p,l,r,S0,hp,hb,hs0,mX⟩:=vP h hi
  have hw:w=p.w:=by
   simp only at hw
   rw[aB,hp]at hw
   exact(a_ hw).symm
  subst hw
  refine⟨_,rfl,?_⟩
  apply az
  ·exact bz (gP (ak bM aF) (aM rfl))
  apply az
  ·exact bz (gP (ak bM aF) (aM rfl))
  rw[hs0]
  refine QP (f:=fun t=>kW (t.tr M.nm)) (l:=l) (r:=r) (S0:=S0) hb rfl rfl rfl rfl (by decide) (by decide) (by decide) (by rw[cF];rfl) ?_
  rw[dC]
  have hc:(st++[am.lst (S0.map fun t=>kW (t.tr M.nm)).reverse])[st.length]?=some (.lst (S0.map fun t=>kW (t.tr M.nm)).reverse):=by rw[cF];rfl
  have hS0:S0.length<=900:=by
   have:=fP List.length mX
   have g:=Cz (h.step i hi).choose_spec.choose_spec.choose_spec.choose_spec.choose_spec.2.2.2.2.2
   have h2:=(h.step i hi).choose_spec.choose_spec.choose_spec.choose_spec.choose_spec.2.2.2.2.2.ok.2.2.le
   rw[g.s,av,this,aY]at h2
   simp at h2;omega
  show gn _ (dW _ [some M.w,some (dw ps),some (.loc st.length),some (.int p.b),some (.str p.m),some (kW (l.tr M.nm)),some (kW (r.tr M.nm))] (st++[am.lst (S0.map fun t=>kW (t.tr M.nm)).reverse]))
  refine cy (eS (ik (ah rfl) (dF hc) (ak (gP (ak (be (be bM (be (ah rfl) bM (QQ _ _)) db) (be (ah rfl) bM (QQ _ _)) db) (ak (ah rfl) (ak (ah rfl) (ak (b8 (ak (be (ah rfl) bM (c_ rfl)) (ak (ah rfl) aF)) (sg M.nm p.m _) rfl) aF)))) (aM rfl)) aF) (kh hc (by rw[jl,av];show _<1000000;omega)))) ?_
  refine⟨_,_,rfl,_,_,_,_,rfl,?_⟩
  rw[dC,mX]
  simp only[aK,iG]
  rw[show(1:Int)+(((l.tr M.nm).size:Nat):Int)+(((r.tr M.nm).size:Nat):Int)=(((l.tr M.nm).size+(r.tr M.nm).size+1:Nat):Int) by omega]
  rfl
 ·rintro ρ s ⟨o3,o4,o5,o6,rfl,rfl⟩
  rw[show(ps.map Pl.w,(none:Option (Nat×List W))).fst.length=ps.length by simp,cG]
  have hc:(st++[am.lst ((stk ps).map fun t=>kW (t.tr M.nm)).reverse])[st.length]?=some (.lst ((stk ps).map fun t=>kW (t.tr M.nm)).reverse):=by rw[cF];rfl
  have ll:=i' (bj hc)
  rw[jl,av]at ll
  subst hv
  generalize stk ps=S1 at hc ll
  cases S1 with
  |nil=>
   refine eR (bI (be (bw (ak (ah rfl) aF) ll) bM (fK rfl))) ?_
   exact eQ (gP (ak bM aF) (aM rfl)) ⟨_,_,rfl,rfl,_,rfl⟩
  |cons t ts=>
   refine bJ (bI (be (bw (ak (ah rfl) aF) ll) bM (fK (by rw[aO];simp;omega)))) ?_
   refine bZ ?_
   exact bN (be (ah rfl) (t5 bM) (jM (bj hc) (va (q:=0) (by rw[List.reverse_reverse];rfl)))) ⟨_,_,rfl,rfl,_,rfl⟩
theorem KI(t:MT)(hl:t.size<=900)(st:List am):rS [M.w,dw t.po] st=.ok (kW (t.tr M.nm)) st:=by
 obtain⟨S,sz,lk,hg⟩:=yr t
 refine NA hg (by rw[cV];exact hl) st _ ?_
 by_cases z:t=.nil
 ·subst z;rfl
 ·rw[vN z]
end
theorem NB:∀(t:MT) (i:Nat),i<t.size->∃(C:MT->MT) (l r:MT) (m:List Nat) (A B:List Pl),t=C (.nd l r m)/\(∀x,x≠.nil->(C x).po=A++x.po++B/\C x≠.nil)/\A.length+l.size+r.size=i/\∀(M:Mc) (x y:MT),gf M x=gf M y->gf M (C x)=gf M (C y)
 |.nil,i,h=>absurd h (cQ _)
 |.nd l r m,i,h=>by
  by_cases h1:i<l.size
  ·obtain⟨C,a,b,c,A,B,e,hC,hi,hR⟩:=NB l i h1
   refine⟨fun x=>.nd (C x) r m,a,b,c,A,B++r.po++[⟨1+2*r.one,m⟩],by show _=MT.nd (C _) r m;rw[<- e],fun x hx=>⟨?_,fun z=>by cases z⟩,hi,fun M x y hxy=>?_⟩
   ·show(C x).po++r.po++[⟨(C x).one+2*r.one,m⟩]=_
    rw[(hC x hx).1,jO (hC x hx).2]
    simp only[aW]
   ·rw[pI,pI,hR M x y hxy]
  ·by_cases h2:i<l.size+r.size
   ·obtain⟨C,a,b,c,A,B,e,hC,hi,hR⟩:=NB r (i-l.size) (by omega)
    refine⟨fun x=>.nd l (C x) m,a,b,c,l.po++A,B++[⟨l.one+2*1,m⟩],by show _=MT.nd l (C _) m;rw[<- e],fun x hx=>⟨?_,fun z=>by cases z⟩,by rw[ay,cV];omega,fun M x y hxy=>?_⟩
    ·show l.po++(C x).po++[⟨l.one+2*(C x).one,m⟩]=_
     rw[(hC x hx).1,jO (hC x hx).2]
     simp only[aW]
    ·rw[pI,pI,hR M x y hxy]
   ·have:l.size+r.size=i:=by unfold MT.size at h;omega
    exact⟨id,l,r,m,[],[],rfl,fun x hx=>⟨by simp,hx⟩,by simpa using this,fun M x y h=>h⟩
def Oe(sz:List Nat):Option Nat->Nat
 |none=>0
 |some k=>sz.getD k 0
theorem QT{ps:List Pl}{S sz:List Nat}{lk:List (Option Nat×Option Nat)}(h:Gr ps S sz lk){i:Nat}{x:Option Nat×Option Nat}(hx:lk[i]?=some x) :
  sz[i]?=some (1+Oe sz x.1+Oe sz x.2)/\(∀k,x.1=some k->k<i)/\(∀k,x.2=some k->k<i):=by
 obtain⟨l1,l2,_⟩:=h.ok
 have hi:i<ps.length:=by rw[<- l2];exact(aa.mp hx).1
 obtain⟨S1,S2,p,k,y,g1,hp,hk,hy,hs,_⟩:=h.step i hi
 rw[hx]at hy;cases hy
 obtain⟨m1,_,ha⟩:=g1.ok
 rw[aY,g6 (by omega)]at ha
 have gt:∀{j a:Nat},(sz.take i)[j]?=some a->j<i/\sz.getD j 0=a:=fun{j a} e=>by
  have hj:j<i:=by have:=(aa.mp e).1;rw[aY]at this;omega
  rw[aN hj]at e
  exact⟨hj,by rw[ax,e];rfl⟩
 rw[hk]
 obtain⟨pb,pm⟩:=p
 cases hs with
 |z=>exact⟨rfl,(fun k e=>by cases e),fun k e=>by cases e⟩
 |@l a S=>
  obtain⟨g,e⟩:=gt ha.1
  exact⟨by show some (1+a)=some (1+sz.getD (i-1) 0+0);rw[e,iz],(fun k e=>by cases e;exact g),fun k e=>by cases e⟩
 |@r a S=>
  obtain⟨g,e⟩:=gt ha.1
  exact⟨by show some (1+a)=some (1+0+sz.getD (i-1) 0);rw[e],(fun k e=>by cases e),fun k e=>by cases e;exact g⟩
 |@b c a S=>
  obtain⟨g,e⟩:=gt ha.1
  obtain⟨g2,e2⟩:=gt ha.2.2.2.1
  rw[show i-c-1=i-1-c by omega]at g2 e2
  exact⟨by show some (1+c+a)=some (1+sz.getD (i-1-c) 0+sz.getD (i-1) 0);rw[e,e2];congr 1;omega,(fun k e=>by cases e;exact g2),fun k e=>by cases e;exact g⟩
theorem NC{ps:List Pl}{S sz:List Nat}{lk:List (Option Nat×Option Nat)}(h:Gr ps S sz lk){i:Nat}{p:Pl}{x:Option Nat×Option Nat}(hp:ps[i]?=some p)(hx:lk[i]?=some x):(x.2=none↔p.b<2):=by
 have hi:i<ps.length:=(aa.mp hp).1
 obtain⟨S1,S2,p',k,y,g1,hp',hk,hy,hs,_⟩:=h.step i hi
 rw[hx]at hy;cases hy
 rw[hp]at hp';cases hp'
 obtain⟨pb,pm⟩:=p
 cases hs with
 |z=>exact⟨fun _=>(by decide:(0:Nat)<2),fun _=>rfl⟩
 |l=>exact⟨fun _=>(by decide:(1:Nat)<2),fun _=>rfl⟩
 |r=>exact⟨(fun z=>by cases z),fun z=>absurd z (by decide:¬ (2:Nat)<2)⟩
 |b=>exact⟨(fun z=>by cases z),fun z=>absurd z (by decide:¬ (3:Nat)<2)⟩
theorem FY(a b:MT)(m:List Nat)(ha:a.size<=1000)(hb:b.size<=1000)(st:List am):x8 [dw a.po,dw b.po,.str m] st=.ok (dw (MT.nd a b m).po) st:=by
 refine fJ (N:=3) (ws:=[dw a.po,dw b.po,.str m]) (body:=Kx) ?_ (by simp only[undWs,bc];exact sf _ _)
 have hi:∀(t:MT) (i:Nat) (ρ:cB),ρ[i]?=some (some (dw t.po))->bx wY (aj (e2 wf (bx dJ (aj (ai i) aC)) (eI 0)) aC) ρ st=.ok (.int ((t.one:Nat):Int)) st:=fun t i ρ hr=>by
  cases t with
  |nil=>exact bw (ak (be (bw (ak (ah hr) aF) (lA _ st)) bM (gc (k:=false) rfl)) aF) rfl
  |nd x y z=>exact bw (ak (be (bw (ak (ah hr) aF) (lA _ st)) bM (gc (k:=true) (a8 (by rw[cV];unfold MT.size;omega)))) aF) rfl
 have l1:=cV a
 have l2:=cV b
 apply bN
 ·exact be (be (ah rfl) (ah rfl) (rJ (by rw[ay,av,av];show _<=1000000;omega))) (gP (ak (gP (ak (be (hi a 0 _ rfl) (be bM (hi b 1 _ rfl) (mO (.inl ⟨by omega,by omega⟩))) db) (ak (ah rfl) aF)) (aM rfl)) aF) (aM rfl)) (rJ (by rw[ay,ay,av,av];show _<=1000000;simp;omega))
 refine⟨_,_,rfl,?_,[],by simp⟩
 show W.tup _=W.tup ((a.po++b.po++[(⟨a.one+2*b.one,m⟩:Pl)]).map Pl.w)
 rw[bQ,bQ]
 have:((a.one:Nat):Int)+2*((b.one:Nat):Int)=((a.one+2*b.one:Nat):Int):=by omega
 rw[this];rfl
theorem FZ{ps:List Pl}{i j:Nat}(hj:j<=ps.length)(hi:i<=j)(st:List am):za (dw ps) (some (i:Nat)) (some (j:Nat)) st=.ok (dw ((ps.drop i).take (j-i))) st:=by
 unfold dw
 rw[A1,Eg (by rw[av];exact hj) hi,iV,kI]
theorem ND{ps:List Pl}{j:Nat}(hj:j<=ps.length)(st:List am):za (dw ps) none (some (j:Nat)) st=.ok (dw (ps.take j)) st:=by
 unfold dw
 rw[A1,qC (by rw[av];exact hj),iV]
theorem NE{ps:List Pl}{j:Nat}(hj:j<=ps.length)(st:List am):za (dw ps) (some (j:Nat)) none st=.ok (dw (ps.drop j)) st:=by
 unfold dw
 rw[A1,qD (by rw[av];exact hj),kI]
theorem F0(a b:List Pl)(h:a.length+b.length<=10000)(st:List am):c7 (dw a) (dw b) st=.ok (dw (a++b)) st:=by
 unfold dw
 rw[rJ (by rw[ay,av,av];show _<=1000000;omega),bQ]
theorem Ja{l r oth:MT}{m:List Nat}{A B:List Pl}{t:MT}{i:Nat}(ht:t.po=A++(MT.nd l r m).po++B)(hi:A.length+l.size+r.size=i)(hl:t.size<=900)(ho:oth.size<=900)(sd:Nat)(SF:sd<2)(st:List am) :
  rT [dw t.po,.int (i:Nat),.int (sd:Nat),dw oth.po] st=.ok (dw (A++(MT.nd (if sd=0 then oth else l) (if sd=0 then r else oth) m).po++B)) st:=by
 refine fJ (N:=12) (ws:=[dw t.po,.int (i:Nat),.int (sd:Nat),dw oth.po]) (body:=Ky) ?_ (by simp only[undWs,bc];exact sf _ _)
 obtain⟨S,sz,lk,hg⟩:=yr t
 obtain⟨z1,z2,_⟩:=hg.ok
 have qJ:t.po.length=t.size:=cV t
 have hAB:t.po.length=A.length+(l.size+r.size+1)+B.length:=by rw[ht,ay,ay,cV];rfl
 apply az
 ·exact bz (tX aF (aM rfl))
 obtain⟨x,hx1,el⟩:=Ct hg (by omega) (st++[am.lst []])
 apply az
 ·exact bz (b8 (ak (ah rfl) aF) el rfl)
 have ll:(st++[am.lst []]).length=st.length+1:=by simp
 have hlk:((st++[am.lst []])++x)[st.length+1+1]?=some (.lst (lk.map jw)):=by rw[<- ll,eL];exact hx1
 have hsc:((st++[am.lst []])++x)[st.length]?=some (.lst []):=fZ cq
 have wc:st <+: (st++[am.lst []])++x:=jv (aE _ _)
 rw[ll]
 generalize (st++[am.lst []])++x=s1 at hlk hsc wc
 have hkey:∀(c:List W),(s1.set st.length (.lst c))[st.length+1+1]?=some (.lst (lk.map jw)):=fun c=>by rw[bg (by omega)];exact hlk
 refine dL (fun k ρ s=>∃(o6 o7 o8:Option W),ρ=[some (dw t.po),some (.int (i:Nat)),some (.int (sd:Nat)),some (dw oth.po),some (.loc st.length),some (.loc (st.length+1+1)),o6,o7,o8,none,none,none]/\s=s1.set st.length (.lst (nW (sz.take k))))
  (k:=(lk.map jw,some (st.length+1+1,lk.map jw))) (st1:=s1) (oG (ah rfl) (bj hlk)) ⟨none,none,none,rfl,(oM hsc).symm⟩ (fun k ρ s ⟨o6,o7,o8,_,hs⟩=>by rw[hs];exact bj (hkey _)) ?_ ?_
 ·rintro k w ρ s hw ⟨o6,o7,o8,rfl,rfl⟩
  have hk:k<lk.length:=by have:=(aa.mp hw).1;simpa using this
  obtain⟨y,hy⟩:∃y,lk[k]?=some y:=⟨_,ac hk⟩
  have hw:w=jw y:=by
   simp only at hw
   rw[aB,hy]at hw
   exact(a_ hw).symm
  subst hw
  obtain⟨hz,b1,b2⟩:=QT hg hy
  have hc:(s1.set st.length (.lst (nW (sz.take k))))[st.length]?=some (.lst (nW (sz.take k))):=bb (aa.mp hsc).1
  have ix:∀{q:Nat},q<k->bG (.loc st.length) (.int (q:Nat)) (s1.set st.length (.lst (nW (sz.take k))))=.ok (.int (sz.getD q 0:Nat)) (s1.set st.length (.lst (nW (sz.take k)))):=fun{q} hq=>rW hc (by rw[aN hq,ax,ac (by omega)];rfl)
  refine⟨_,rfl,?_⟩
  apply az
  ·exact bz bM
  refine im (fun ρ s=>s=s1.set st.length (.lst (nW (sz.take k)))/\ρ=[some (dw t.po),some (.int (i:Nat)),some (.int (sd:Nat)),some (dw oth.po),some (.loc st.length),some (.loc (st.length+1+1)),some (oW y.1),some (oW y.2),some (.int ((1+Oe sz y.1:Nat):Int)),none,none,none]) ?_ ?_
  ·obtain⟨y1,y2⟩:=y
   cases y1 with
   |none=>exact hV (bI (nX (ah rfl) rfl)) ⟨_,_,rfl,rfl,rfl⟩
   |some q=>exact iJ (bI (nX (ah rfl) rfl)) (cy (bz (be (ah rfl) (be (ah rfl) (ah rfl) (ix (b1 q rfl))) db)) ⟨_,_,rfl,rfl,by rw[dR];rfl⟩)
  rintro ρ s ⟨rfl,rfl⟩
  refine im (fun ρ s=>s=s1.set st.length (.lst (nW (sz.take k)))/\ρ=[some (dw t.po),some (.int (i:Nat)),some (.int (sd:Nat)),some (dw oth.po),some (.loc st.length),some (.loc (st.length+1+1)),some (oW y.1),some (oW y.2),some (.int ((1+Oe sz y.1+Oe sz y.2:Nat):Int)),none,none,none]) ?_ ?_
  ·obtain⟨y1,y2⟩:=y
   cases y2 with
   |none=>exact hV (bI (nX (ah rfl) rfl)) ⟨_,_,rfl,rfl,rfl⟩
   |some q=>exact iJ (bI (nX (ah rfl) rfl)) (cy (bz (be (ah rfl) (be (ah rfl) (ah rfl) (ix (b2 q rfl))) db)) ⟨_,_,rfl,rfl,by rw[dR (1+Oe sz y1)];rfl⟩)
  rintro ρ s ⟨rfl,rfl⟩
  refine cy (eS (ik (ah rfl) (dF hc) (ak (ah rfl) aF) (kh hc (by simp[nW];show _<1000000;omega)))) ?_
  refine⟨_,_,rfl,_,_,_,rfl,?_⟩
  rw[oU,nZ hz]
  simp only[nW,bQ,aK,dN]
 ·rintro ρ s ⟨o6,o7,o8,rfl,rfl⟩
  rw[show(lk.map jw,some (st.length+1+1,lk.map jw)).fst.length=lk.length by simp,bo (by omega)]
  have hc:(s1.set st.length (.lst (nW sz)))[st.length]?=some (.lst (nW sz)):=bb (aa.mp hsc).1
  have hlk2:=hkey (nW sz)
  have hp2:st <+: s1.set st.length (.lst (nW sz)):=gX wc (aA _)
  generalize s1.set st.length (.lst (nW sz))=s2 at hc hlk2 hp2
  have uu:i<t.po.length:=by omega
  have gt:=Cz hg
  have ti:t.po.take (i+1)=A++(MT.nd l r m).po:=by
   rw[ht,bf (by rw[ay,cV];unfold MT.size;omega),bo (by rw[ay,cV];unfold MT.size;omega)]
  have szi:sz[i]?=some (l.size+r.size+1):=by
   obtain⟨u,us,e1,e2⟩:=gt.at' i uu
   rw[ti,vM]at e1
   obtain⟨e3,_⟩:=c9 e1
   rw[e2,<- e3];rfl
  have hpi:t.po[i]?=some ⟨l.one+2*r.one,m⟩:=by
   have:(t.po.take (i+1))[i]?=some ⟨l.one+2*r.one,m⟩:=by
    rw[ti]
    show(A++(l.po++r.po++[_]))[i]?=_
    rw[<- aW,show i=(A++(l.po++r.po)).length by rw[ay,ay,cV,cV];omega,bt]
   rw[aN (by omega)]at this;exact this
  obtain⟨y,hy⟩:∃y,lk[i]?=some y:=⟨_,ac (by omega)⟩
  have hlr:=NC hg hpi hy
  have i1:∀{q v:Nat},sz[q]?=some v->bG (.loc st.length) (.int (q:Nat)) s2=.ok (.int (v:Nat)) s2:=fun h=>rW hc h
  apply az
  ·exact bz (be (be (ah rfl) bM db) (be (ah rfl) (ah rfl) (i1 szi)) (fS trivial))
  apply az
  ·exact bz (ah rfl)
  have e9:(i:Int)+1-((l.size+r.size+1:Nat):Int)=((A.length:Nat):Int):=by omega
  show gn _ (aS _ _ [some (dw t.po),some (.int (i:Nat)),some (.int (sd:Nat)),some (dw oth.po),some (.loc st.length),some (.loc (st.length+1+1)),o6,o7,o8,some (.int ((i:Int)+1-((l.size+r.size+1:Nat):Int))),some (.int (i:Nat)),none] s2)
  rw[e9]
  have ixl:bG (.loc (st.length+1+1)) (.int (i:Nat)) s2=.ok (jw y) s2:=jM (bj hlk2) (fI (by rw[aB,hy];rfl))
  refine im (fun ρ s=>s=s2/\ρ=[some (dw t.po),some (.int (i:Nat)),some (.int (sd:Nat)),some (dw oth.po),some (.loc st.length),some (.loc (st.length+1+1)),o6,o7,o8,some (.int (A.length:Nat)),some (.int ((A.length+l.size:Nat):Int)),none]) ?_ ?_
  ·by_cases zr:r=.nil
   ·have hn:y.2=none:=hlr.mpr (by rw[zr];show l.one+2*0<2;have:l.one<=1:=(by cases l<;>simp[MT.one]);omega)
    refine hV (bI (nX (be (be (ah rfl) (ah rfl) ixl) bM (c_ rfl)) (by show(!(oW y.2).isNon)=false;rw[hn];rfl))) ⟨_,_,rfl,rfl,?_⟩
    have:(i:Int)=((A.length+l.size:Nat):Int):=by rw[<- hi,zr];rfl
    rw[<- this]
   ·have hn:y.2≠none:=fun z=>by have:l.one+2*r.one<2:=hlr.mp z;rw[jO zr]at this;omega
    have hr1:1<=r.size:=by
     cases r with
     |nil=>exact(zr rfl).elim
     |nd _ _ _=>unfold MT.size;omega
    have szr:sz[i-1]?=some r.size:=by
     obtain⟨u,us,e1,e2⟩:=gt.at' (i-1) (by omega)
     rw[show i-1+1=i by omega]at e1
     have tr1:t.po.take i=(A++l.po)++r.po:=by
      rw[ht,bf (by rw[ay,cV];unfold MT.size;omega)]
      show(A++(l.po++r.po++[_])).take i=_
      rw[<- aW,<- aW,bf (by rw[ay,ay,cV,cV];omega),bo (by rw[ay,ay,cV,cV];omega)]
     rw[tr1,vM]at e1
     have:u=r:=by
      cases r with
      |nil=>exact(zr rfl).elim
      |nd _ _ _=>exact(c9 e1).1.symm
     rw[e2,this]
    have ixr:bG (.loc st.length) (.int ((i:Int)-1)) s2=.ok (.int (r.size:Nat)) s2:=by
     rw[show(i:Int)-1=((i-1:Nat):Int) by omega];exact i1 szr
    refine iJ (bI (nX (be (be (ah rfl) (ah rfl) ixl) bM (c_ rfl)) (by
     show(!(oW y.2).isNon)=true
     cases e:y.2 with
     |none=>exact(hn e).elim
     |some q=>rfl))) (cy (bz (be (ah rfl) (be (ah rfl) (be (ah rfl) bM rfl) ixr) (fS trivial))) ⟨_,_,rfl,rfl,?_⟩)
    rw[show((A.length+l.size:Nat):Int)=(i:Int)-((r.size:Nat):Int) by omega];rfl
  rintro ρ s ⟨rfl,rfl⟩
  have dA:t.po.drop A.length=l.po++(r.po++([⟨l.one+2*r.one,m⟩]++B)):=by
   rw[ht,aW,List.drop_left]
   show(l.po++r.po++[_])++B=_
   simp only[aW]
  have c1:(t.po.drop A.length).take (A.length+l.size-A.length)=l.po:=by
   rw[dA,show A.length+l.size-A.length=l.po.length by rw[cV];omega,fR]
  have c2:(t.po.drop (A.length+l.size)).take (i-(A.length+l.size))=r.po:=by
   rw[<- List.drop_drop,dA,<- cV l,List.drop_left,show i-(A.length+l.po.length)=r.po.length by rw[cV,cV];omega,fR]
  have c3:t.po.take A.length=A:=by rw[ht,aW,fR]
  have c4:t.po.drop (i+1)=B:=by
   rw[ht,List.drop_append_of_le_length (by rw[ay,cV];unfold MT.size;omega),iE (by rw[ay,cV];unfold MT.size;omega)];rfl
  have s1':=FZ (ps:=t.po) (i:=A.length) (j:=A.length+l.size) (by omega) (by omega) s
  have s2':=FZ (ps:=t.po) (i:=A.length+l.size) (j:=i) (by omega) (by omega) s
  rw[c1]at s1';rw[c2]at s2'
  apply az
  ·exact bz (tX (ak (zq (ah rfl) (rF (ah rfl)) (rF (ah rfl)) s1') (ak (zq (ah rfl) (rF (ah rfl)) (rF (ah rfl)) s2') aF)) (aM rfl))
  have hc11:(s++[am.lst [dw l.po,dw r.po]])[s.length]?=some (.lst [dw l.po,dw r.po]):=cq
  apply az
  ·exact pY (ah rfl) (ah rfl) (ah rfl) (Ec hc11 (Fc (q:=sd) (by simpa using SF)))
  have NO:(s++[am.lst [dw l.po,dw r.po]]).set s.length (.lst ([dw l.po,dw r.po].set sd (dw oth.po)))=s++[am.lst [dw (if sd=0 then oth else l).po,dw (if sd=0 then r else oth).po]]:=by
   rw[dC]
   rcases dO sd 1 with z|z
   ·obtain rfl:sd=0:=by omega
    rfl
   ·obtain rfl:sd=1:=by omega
    rfl
  rw[NO]
  have hc12:(s++[am.lst [dw (if sd=0 then oth else l).po,dw (if sd=0 then r else oth).po]])[s.length]?=some (.lst [dw (if sd=0 then oth else l).po,dw (if sd=0 then r else oth).po]):=cq
  have q1:(if sd=0 then oth else l).size<=900:=by split<;>omega
  have q2:(if sd=0 then r else oth).size<=900:=by split<;>omega
  have jo:=FY (if sd=0 then oth else l) (if sd=0 then r else oth) m (by omega) (by omega) (s++[am.lst [dw (if sd=0 then oth else l).po,dw (if sd=0 then r else oth).po]])
  have p1:=ND (ps:=t.po) (j:=A.length) (by omega) (s++[am.lst [dw (if sd=0 then oth else l).po,dw (if sd=0 then r else oth).po]])
  have p2:=NE (ps:=t.po) (j:=i+1) (by omega) (s++[am.lst [dw (if sd=0 then oth else l).po,dw (if sd=0 then r else oth).po]])
  rw[c3]at p1;rw[c4]at p2
  generalize (if sd=0 then oth else l)=l2 at *
  generalize (if sd=0 then r else oth)=r2 at *
  have len2:(MT.nd l2 r2 m).po.length<=1801:=by rw[cV];unfold MT.size;omega
  refine bN (be (be (zq (ah rfl) L9 (rF (ah rfl)) p1) (b8 (ak (be (ah rfl) bM (jM (bj hc12) rfl)) (ak (be (ah rfl) bM (jM (bj hc12) rfl)) (ak (be (be (ah rfl) (ah rfl) (KG hpi _)) bM (Nt _ _)) aF))) jo rfl) (F0 _ _ (by omega) _)) (zq (ah rfl) (rF (be (ah rfl) bM (z:=.int ((i+1:Nat):Int)) rfl)) L9 p2) (F0 _ _ (by rw[ay];omega) _)) ⟨_,_,rfl,rfl,?_⟩
  obtain⟨q,rfl⟩:=hp2
  exact⟨_,aW _ _ _⟩
section
variable{nm:List Nat}{a:Nat}
theorem Bd(hd:nm.Nodup){k c:Nat}(hk:nm[k]?=some c):c∈qE nm a↔vI nm.length a k=true:=by
 have hl:=(aa.mp hk).1
 unfold qE
 constructor
 ·intro h
  obtain⟨j,hj,e⟩:=a9.mp h
  obtain⟨h1,h2⟩:=dP.mp hj
  have h1:=ca.mp h1
  have ej:nm[j]?=some c:=by rw[ax,ac h1]at e;rw[ac h1];exact fP some e
  have:j=k:=by
   obtain⟨q1,e1⟩:=aa.mp ej
   obtain⟨q2,e2⟩:=aa.mp hk
   rcases Nat.lt_trichotomy j k with z|z|z
   ·exact(gH.mp hd j k q1 q2 z (e1.trans e2.symm)).elim
   ·exact z
   ·exact(gH.mp hd k j q2 q1 z (e2.trans e1.symm)).elim
  rw[<- this];exact h2
 ·intro h
  exact a9.mpr ⟨k,dP.mpr ⟨ca.mpr hl,h⟩,by rw[ax,hk];rfl⟩
theorem uq(hd:nm.Nodup)(ha:a<2^nm.length):∀j,j<=nm.length->f6 (qE nm a) (nm.take j)=a/2^(nm.length-j)
 |0,_=>by
  rw[Nat.sub_zero,Nat.div_eq_of_lt ha];rfl
 |j+1,h=>by
  have hj:nm[j]?=some nm[j]:=ac (by omega)
  rw[nZ hj,pH,uq hd ha j (by omega)]
  have e:2^(nm.length-j)=2^(nm.length-(j+1))*2:=by rw[<- Nat.pow_succ];congr 1;omega
  rw[e,<- lT]
  have hm:=Bd (a:=a) hd hj
  unfold vI at hm
  rw[show nm.length-1-j=nm.length-(j+1) by omega,cN]at hm
  generalize a/2^(nm.length-(j+1))=q at hm ⊢
  by_cases z:nm[j]∈qE nm a
  ·rw[aD z];have:=hm.mp z;omega
  ·rw[aQ z];have:¬ q%2=1:=fun y=>z (hm.mpr y);omega
theorem F1(hd:nm.Nodup)(ha:a<2^nm.length):f6 (qE nm a) nm=a:=by
 have:=uq hd ha nm.length (aA _)
 rw[cG,Nat.sub_self,Nat.pow_zero,Nat.div_one]at this
 exact this
theorem Jb(hd:nm.Nodup):nm.filter (fun c=>decide (c∈qE nm a))=qE nm a:=by
 have e:nm=(List.range nm.length).map fun k=>nm.getD k 0:=by
  refine gk fun i=>?_
  rw[aB]
  by_cases hi:i<nm.length
  ·rw[gM hi,ac hi]
   show some nm[i]=some (nm.getD i 0)
   rw[ax,ac hi];rfl
  ·rw[cX (by omega),cX (by simpa using hi)];rfl
 have key:((List.range nm.length).map fun k=>nm.getD k 0).filter (fun c=>decide (c∈qE nm a))=qE nm a:=by
  rw[jh]
  show _=((List.range nm.length).filter (vI nm.length a)).map fun k=>nm.getD k 0
  congr 1
  refine List.filter_congr fun k hk=>?_
  have hk:=ca.mp hk
  have hm:=Bd (a:=a) hd (ac hk)
  show decide (nm.getD k 0∈qE nm a)=vI nm.length a k
  rw[show nm.getD k 0=nm[k] by rw[ax,ac hk];rfl]
  cases hb:vI nm.length a k with
  |true=>exact a8 (hm.mpr hb)
  |false=>exact aR fun z=>by have:=hm.mp z;rw[hb]at this;cases this
 rw[<- e]at key
 exact key
end
def iq(nm:List Nat):Tr->MT
 |.nil=>.nil
 |.nd l r a=>.nd (iq nm l) (iq nm r) (qE nm a)
theorem vQ(nm:List Nat):∀u:Tr,(iq nm u).size=u.size
 |.nil=>rfl
 |.nd l r a=>by unfold iq MT.size Tr.size;rw[vQ nm l,vQ nm r]
theorem vR(nm:List Nat):∀u:Tr,u.wood nm=(iq nm u).po.map Pl.w
 |.nil=>rfl
 |.nd l r a=>by
  have h1:=vR nm l
  have h2:=vR nm r
  show jn nm (l.wood nm) (r.wood nm) a=((iq nm l).po++(iq nm r).po++[(⟨(iq nm l).one+2*(iq nm r).one,qE nm a⟩:Pl)]).map Pl.w
  unfold jn
  rw[bQ,bQ,<- h1,<- h2]
  congr 1
  have o:∀t:Tr,(iq nm t).one=if (t.wood nm).length=0 then 0 else 1:=fun t=>by
   cases t with
   |nil=>rfl
   |nd x y z=>
    rw[aQ]
    ·rfl
    ·show(jn nm _ _ z).length≠0;rw[zQ];omega
  have:QH (l.wood nm) (r.wood nm)=(iq nm l).one+2*(iq nm r).one:=by
   rw[o l,o r];unfold QH
   split<;>split<;>rfl
  rw[this];rfl
theorem F2{nm:List Nat}(hd:nm.Nodup):∀{u:Tr},u.ok (2^nm.length)->(iq nm u).tr nm=u
 |.nil,_=>rfl
 |.nd l r a,h=>by
  unfold iq MT.tr
  rw[F2 hd h.1,F2 hd h.2.1,F1 hd h.2.2]
def Mk(nm:List Nat)(p:Pl):Prop:=nm.filter (fun c=>decide (c∈p.m))=p.m
theorem F3{nm:List Nat}(hd:nm.Nodup):∀(u:Tr),∀p∈(iq nm u).po,Mk nm p
 |.nil,p,h=>by cases h
 |.nd l r a,p,h=>by
  rcases a7.mp h with h|h
  ·rcases a7.mp h with h|h
   ·exact F3 hd l p h
   ·exact F3 hd r p h
  ·have:p=⟨(iq nm l).one+2*(iq nm r).one,qE nm a⟩:=by simpa using h
   rw[this];exact Jb hd
theorem Be(t:MT)(S:List MT):(zU t S).length=t.one+S.length:=by
 cases t with
 |nil=>show S.length=0+_;omega
 |nd l r m=>show(_::S).length=1+_;rw[ba];omega
theorem Jc{nm:List Nat}(vX:nm.length<=60)(t:MT)(hl:t.size<=900)(hm:∀p∈t.po,Mk nm p)(st:List am):x9 [dw t.po,.str nm] st=.ok (.bl true) st:=by
 refine fJ (N:=4) (ws:=[dw t.po,.str nm]) (body:=Kz) ?_ rfl
 obtain⟨S,sz,lk,hg⟩:=yr t
 refine bJ (nE (bI (rE (ah rfl) rfl rfl)) rfl) ?_
 refine bZ ?_
 apply az
 ·exact bz bM
 refine dL (fun i ρ s=>∃(o3:Option W),ρ=[some (dw t.po),some (.str nm),some (.int ((stk (t.po.take i)).length:Nat)),o3]/\st <+: s)
  (k:=(t.po.map Pl.w,none)) (st1:=st) (jt (ah rfl)) ⟨none,rfl,al _⟩ (fun _ _ _ _=>trivial) ?_ ?_
 ·rintro i w ρ s hw ⟨o3,rfl,hs⟩
  have hi:i<t.po.length:=by have:=(aa.mp hw).1;simpa using this
  obtain⟨p,l,r,S0,hp,hb,hs0,mX⟩:=vP hg hi
  have hw:w=p.w:=by
   simp only at hw
   rw[aB,hp]at hw
   exact(a_ hw).symm
  subst hw
  refine⟨_,rfl,?_⟩
  have l1:l.one<=1:=by cases l<;>simp[MT.one]
  have r1:r.one<=1:=by cases r<;>simp[MT.one]
  have cY:(stk (t.po.take i)).length=r.one+(l.one+S0.length):=by rw[hs0,Be,Be]
  have hlen2:(stk (t.po.take (i+1))).length=S0.length+1:=by rw[mX];rfl
  have hhalf:(p.b+1)/2=l.one+r.one:=by omega
  have i0:∀s,bG p.w (.int 0) s=.ok (.int p.b) s:=fun s=>Nu p s
  have i1:∀s,bG p.w (.int 1) s=.ok (.str p.m) s:=fun s=>Nt p s
  refine bJ (gW (nE (a:=true) (bI (rE (ah rfl) rfl rfl)) rfl) (bI (be (bw (ak (ah rfl) aF) (iM (ws:=[.int p.b,.str p.m]))) bM (AZ rfl)))) ?_
  refine bZ ?_
  refine bJ (gW (nE (a:=true) (bI (rE (be (ah rfl) bM (i0 _)) rfl rfl)) rfl) (nE (a:=true) (bI (rE (be (ah rfl) bM (i1 _)) rfl rfl)) rfl)) ?_
  refine bZ ?_
  have fd:∀s,nA (.int ((p.b:Int)+1)) (.int 2) s=.ok (.int ((l.one+r.one:Nat):Int)) s:=fun s=>by
   rw[<- hhalf,Int.natCast_ediv,dR];exact fS (by decide)
  refine bJ (gW (bI (rE (be (ah rfl) bM (i0 _)) rfl rfl)) (gW (bI (be (be (ah rfl) bM (i0 _)) bM (gc (aR (by omega))))) (gW (bI (be (be (ah rfl) bM (i0 _)) bM (gc (aR (by omega))))) (bI (be (be (be (be (ah rfl) bM (i0 _)) bM db) bM (fd _)) (ah rfl) (gc (aR (by rw[cY];omega)))))))) ?_
  refine bZ ?_
  obtain⟨x,ex⟩:=FN (fe:=ai 1) (t:=et (e2 (qt false) (ai 0) (e2 bG (ai 1) (eI 1)))) (cap:=[none,some 3]) (ρ:=[some (dw t.po),some (.str nm),some (.int ((stk (t.po.take i)).length:Nat)),some p.w]) (st:=s) (st1:=s) (l:=nm) (fun c=>decide (c∈p.m)) (ah rfl) (by omega) (by simp) fun c _=>bI (be (ah rfl) (be (ah rfl) bM (i1 _)) ym)
  rw[hm p (aT hp)]at ex
  refine bJ (bI (be (be (ah rfl) bM (i1 _)) ex (show CN (.str p.m) (.str p.m) (s++x)=.ok (.bl false) (s++x)from by unfold CN cO;simp[W.dep]))) ?_
  refine bZ ?_
  refine cy (bz (be (be (ah rfl) bM db) (be (be (be (ah rfl) bM (i0 _)) bM db) bM (fd _)) (fS trivial))) ?_
  refine⟨_,_,rfl,some p.w,?_,jv hs⟩
  rw[show(((stk (t.po.take (i+1))).length:Nat):Int)=((stk (t.po.take i)).length:Int)+1-((l.one+r.one:Nat):Int) by rw[cY,hlen2];omega]
  rfl
 ·rintro ρ s ⟨o3,rfl,hs⟩
  rw[show(t.po.map Pl.w,(none:Option (Nat×List W))).fst.length=t.po.length by simp,cG]
  obtain⟨y,rfl⟩:=hs
  by_cases z:t=.nil
  ·subst z
   exact bN (L7 (be (ah rfl) bM (fK rfl)) (be (bw (ak (ah rfl) aF) (lA _ _)) bM (fK rfl))) ⟨_,_,rfl,rfl,_,rfl⟩
  ·rw[vN z]
   exact bN (L8 (be (ah rfl) bM (fK rfl))) ⟨_,_,rfl,rfl,_,rfl⟩
theorem F4{sz:List Nat}:∀{S:List Nat} {n:Nat},At sz S n->∀p∈iY S n,p<n
 |[],_,_,p,hp=>by cases hp
 |a::S,n,⟨_,h2,h3,h4⟩,p,hp=>by
  rcases br.mp hp with rfl|hp
  ·omega
  ·have:=F4 h4 p hp;omega
theorem F5{R:List Nat}{v p:Nat}(h:p<R.length):(R++[v]).getD p 0=R.getD p 0:=by
 rw[ax,ax,au h]
theorem F6{R:List Nat}{v:Nat}:(R++[v]).getD R.length 0=v:=by
 rw[ax,bt];rfl
section
variable{M:Mc}{n:Nat}
theorem QU(hM:ng M n)(hn:1<=n){ps:List Pl}{S sz:List Nat}{lk:List (Option Nat×Option Nat)}(h:Gr ps S sz lk):(iY S ps.length).map (fun p=>(hW M ps lk).getD p 0)=(stk ps).map (gf M):=by
 induction h with
 |nil=>rfl
 |@snoc ps S S' sz lk b k m x hg hs ih=>
  have hRl:=(ni hg hM hn).1
  obtain⟨_,e2,ha⟩:=hg.ok
  have er:hW M (ps++[⟨b,m⟩]) (lk++[x])=hW M ps lk++[GV M (hW M ps lk) m x]:=si M ⟨b,m⟩ x ps lk [] e2.symm
  rw[er,sv,ay]
  have hps:=F4 ha
  generalize stk ps=st at ih
  generalize hW M ps lk=R at hRl ih
  have old:∀(v:Nat) (L:List Nat),(∀p∈L,p<ps.length)->L.map (fun p=>(R++[v]).getD p 0)=L.map fun p=>R.getD p 0:=fun v L hL=>cD fun p hp=>F5 (by rw[hRl];exact hL p hp)
  have new:∀v:Nat,(R++[v]).getD ps.length 0=v:=fun v=>by rw[<- hRl];exact F6
  show(iY S' (ps.length+1)).map _=_
  cases hs with
  |z=>
   show((ps.length+1-1)::iY S (ps.length+1-1)).map _=(MT.nd .nil .nil m::st).map (gf M)
   rw[eZ,aK,new,old _ _ hps,ih];rfl
  |@l a S0=>
   cases st with
   |nil=>cases ih
   |cons t ts=>
    obtain⟨i1,i2⟩:=c9 ih
    have i1:R.getD (ps.length-1) 0=gf M t:=i1
    show((ps.length+1-1)::iY S0 (ps.length+1-(1+a))).map _=(MT.nd t .nil m::ts).map (gf M)
    rw[eZ,show ps.length+1-(1+a)=ps.length-a by omega,aK,new,old _ _ (fun p hp=>hps p (aZ _ hp)),i2]
    show e7 M (f6 m M.nm) (R.getD (ps.length-1) 0) 0::_=e7 M (f6 m M.nm) (gf M t) 0::_
    rw[i1]
  |@r a S0=>
   cases st with
   |nil=>cases ih
   |cons t ts=>
    obtain⟨i1,i2⟩:=c9 ih
    have i1:R.getD (ps.length-1) 0=gf M t:=i1
    show((ps.length+1-1)::iY S0 (ps.length+1-(1+a))).map _=(MT.nd .nil t m::ts).map (gf M)
    rw[eZ,show ps.length+1-(1+a)=ps.length-a by omega,aK,new,old _ _ (fun p hp=>hps p (aZ _ hp)),i2]
    show e7 M (f6 m M.nm) 0 (R.getD (ps.length-1) 0)::_=e7 M (f6 m M.nm) 0 (gf M t)::_
    rw[i1]
  |@b c a S0=>
   cases st with
   |nil=>cases ih
   |cons t ts=>
    obtain⟨i1,i2⟩:=c9 ih
    cases ts with
    |nil=>cases i2
    |cons u us=>
     obtain⟨i2,i3⟩:=c9 i2
     have i1:R.getD (ps.length-1) 0=gf M t:=i1
     have i2:R.getD (ps.length-c-1) 0=gf M u:=i2
     show((ps.length+1-1)::iY S0 (ps.length+1-(1+c+a))).map _=(MT.nd u t m::us).map (gf M)
     rw[eZ,show ps.length+1-(1+c+a)=ps.length-c-a by omega,aK,new,old _ _ (fun p hp=>hps p (aZ _ (aZ _ hp))),i3]
     show e7 M (f6 m M.nm) (R.getD (ps.length-1-c) 0) (R.getD (ps.length-1) 0)::_=e7 M (f6 m M.nm) (gf M u) (gf M t)::_
     rw[show ps.length-1-c=ps.length-c-1 by omega,i1,i2]
theorem NF(hM:ng M n)(hn:1<=n){t:MT}(h0:t≠.nil){S sz:List Nat}{lk:List (Option Nat×Option Nat)}(h:Gr t.po S sz lk):zT M t.po lk=gf M t:=by
 have g:=QU hM hn h
 have hS:=(Cz h).s
 rw[vN h0]at g hS
 subst hS
 exact(c9 g).1
theorem zY(hM:ng M n)(hn:1<=n){t:MT}(h0:t≠.nil)(hl:t.size<=900):∃R:List Nat,R.length=t.po.length/\(∀st,oK [M.w,dw t.po] st=.ok (iX R) st)/\(∀st,bG (iX R) (.int (-1)) st=.ok (.int (gf M t:Nat)) st)/\∀st,rP [M.w,dw t.po] st=.ok (.bl (M.gd.getD (gf M t) false)) st:=by
 obtain⟨S,sz,lk,hg⟩:=yr t
 have hl':t.po.length<=900:=by rw[cV];exact hl
 have hp:0<t.po.length:=by
  rw[cV]
  cases t with
  |nil=>exact(h0 rfl).elim
  |nd l r m=>unfold MT.size;omega
 have e:=NF hM hn h0 hg
 refine⟨hW M t.po lk,(ni hg hM hn).1,fun st=>yp hg hl' hM hn st,fun st=>?_,fun st=>?_⟩
 ·rw[<- e];exact Bc hg hM hn hp st
 ·have:=IX hg hl' hM hn st
  unfold QO at this
  rw[aD hp,e]at this;exact this
end
theorem F7(nm:List Nat):∀t:MT,(t.tr nm).ok (2^nm.length)
 |.nil=>trivial
 |.nd l r m=>⟨F7 nm l,F7 nm r,qF m nm⟩
theorem law_ok:DY (u3 tabL) f_q46:=by
 intro ns Ol
 suffices hh:gn (sF fun w bH=>w=.bl true) (KB ([W.loc 0].map some++List.replicate (14-1) none) (.ro (ns.map W.int)::u3 tabL)) by
  obtain⟨w,bH,e,rfl⟩:=hh
  exact⟨_,qA e⟩
 have h0:(am.ro (ns.map W.int)::u3 tabL)[0]?=some (.ro (ns.map W.int)):=rfl
 have ht:QJ (am.ro (ns.map W.int)::u3 tabL):=rfl
 generalize hs0:(am.ro (ns.map W.int)::u3 tabL:List am)=s0 at h0 ht
 obtain⟨c0,e0⟩:=nb h0 0
 obtain⟨pool,qJ,hpd,_,e1⟩:=Iw c0 2000003 6 (by omega) s0
 apply az
 ·exact bz (b8 (ak (b8 (ak (ah rfl) (ak bM aF)) e0 rfl) (ak bM (ak bM aF))) e1 rfl)
 obtain⟨M,n,hM,hn1,Bj,vX,_,hsrt,ea⟩:=Ng h0 1 pool (by omega) (by omega)
 have Gi:M.nm.Nodup:=by
  rw[hsrt]
  exact(E8 _).nodup_iff.mpr (hpd.sublist (kr _ _))
 apply az
 ·exact bz (b8 (ak (ah rfl) (ak bM (ak (ah rfl) aF))) ea rfl)
 obtain⟨ps,S,sz,lk,htr,e3⟩:=yq h0 20 pool (by omega)
 obtain⟨t,htp⟩:=FU (Gr.re (f:=FQ M.nm) (fun p=>rfl) htr.g) htr.t
 have hts:t.size<=100:=by rw[<- cV,htp,av];exact htr.l
 have hth:t.ht<=50:=by
  refine bn (FV t) ?_
  rw[htp,List.countP_map]
  exact htr.q
 have eb:=IZ ps M.nm (by have:=htr.l;omega) htr.m s0
 rw[<- htp]at eb
 apply az
 ·exact bz (b8 (ak (b8 (ak (ah rfl) (ak bM (ak (ah rfl) aF))) e3 rfl) (ak (be (ah rfl) bM (c_ rfl)) aF)) eb rfl)
 apply az
 ·exact bz (b8 (ak (ah rfl) (ak (ah rfl) aF)) (qG hM hn1 t (by omega) s0) rfl)
 obtain⟨E,R,TT,A⟩:=Nr hM hn1 (by omega) (by omega)
 obtain⟨F,f⟩:=IT M.nm A.full.told
 obtain⟨i,e,u,he,hu,hr,hle⟩:=f.least A.full (t.tr M.nm) (by rw[hM.tb];exact F7 M.nm t)
 obtain⟨u',hu',su,ru,ok,_⟩:=f.at' i e he
 rw[hu]at hu';cases hu'
 obtain⟨tw,htw,_⟩:=A.trees.at' i e he
 have hwd:=f.wood A.full.told A.trees (i+1) i u tw (by omega) hu htw
 have hus:u.size<=100:=by
  have:=Tr.le_size hle
  rw[vO]at this;omega
 have okM:u.ok (2^M.nm.length):=by rw[<- hM.tb];exact ok
 have fms:(iq M.nm u).size<=100:=by rw[vQ];exact hus
 have ftr:(iq M.nm u).tr M.nm=u:=F2 Gi okM
 have hrm:gf M (iq M.nm u)=gf M t:=by unfold gf;rw[ftr,ru];exact hr
 have hfw:W.tup tw=dw (iq M.nm u).po:=by rw[hwd,vR];rfl
 have etr:ub [M.w,.int (gf M t:Nat)] s0=.ok (dw (iq M.nm u).po) s0:=by
  have:=IU A ht he htw
  rw[aD (by rw[<- su];exact hus),hfw]at this
  rw[show gf M t=e.1 from hr.symm];exact this
 apply az
 ·exact bz (b8 (ak (ah rfl) (ak (ah rfl) aF)) etr rfl)
 refine bJ (gW (nE (a:=true) (bI (b8 (ak (ah rfl) (ak (be (ah rfl) bM (c_ rfl)) aF)) (Jc (by omega) (iq M.nm u) (by omega) (F3 Gi u) s0) rfl)) rfl) (bI (be (b8 (ak (ah rfl) (ak (ah rfl) aF)) (qG hM hn1 (iq M.nm u) (by omega) s0) rfl) (ah rfl) (AZ (by rw[hrm];simp))))) ?_
 refine bZ ?_
 have k2:=KI (M:=M) (iq M.nm u) (by omega) s0
 rw[ftr]at k2
 refine bJ (bI (be (b8 (ak (ah rfl) (ak (ah rfl) aF)) (KI (M:=M) t (by omega) s0) rfl) (b8 (ak (ah rfl) (ak (ah rfl) aF)) k2 rfl) (QR hle (by omega) s0))) ?_
 refine bZ ?_
 obtain⟨ps2,S2,sz2,lk2,htr2,e4⟩:=yq h0 30 pool (by omega)
 obtain⟨w,hwp⟩:=FU htr2.g htr2.t
 rw[<- hwp]at e4
 have hws:w.size<=100:=by rw[<- cV,hwp];exact htr2.l
 apply az
 ·exact bz (b8 (ak (ah rfl) (ak bM (ak (ah rfl) aF))) e4 rfl)
 have ll:=lA w.po s0
 by_cases hw0:w.po.length=0
 ·refine eR (bI (be (bw (ak (ah rfl) aF) ll) bM (fK (by rw[hw0];rfl)))) ?_
  exact eQ bM ⟨_,_,rfl,rfl⟩
 refine bJ (bI (be (bw (ak (ah rfl) aF) ll) bM (fK (by rw[aO];omega)))) ?_
 refine bZ ?_
 obtain⟨c1,e5⟩:=nb h0 40
 obtain⟨hs,hhl,hhp,e6⟩:=kS c1 8000009 2 (by omega) s0
 apply az
 ·exact bz (b8 (ak (b8 (ak (ah rfl) (ak bM aF)) e5 rfl) (ak bM (ak bM aF))) e6 rfl)
 obtain⟨d0,d1,rfl⟩:∃a b,hs=[a,b]:=by
  match hs,hhl with
  |[a,b],_=>exact⟨_,_,rfl⟩
 generalize mX:s0++[am.lst ([d0,d1].map W.int)]=s1
 have hc1:s1[s0.length]?=some (.lst (nr [d0,d1])):=by rw[<- mX];exact cq
 have i0:bG (.loc s0.length) (.int 0) s1=.ok (.int d0) s1:=eA (i:=0) hc1 rfl
 have i1:bG (.loc s0.length) (.int 1) s1=.ok (.int d1) s1:=eA (i:=1) hc1 rfl
 obtain⟨q,hq,eq⟩:=fE (q:=d0) (n:=w.po.length) (by omega)
 obtain⟨sd,SF,esd⟩:=fE (q:=d1) (n:=2) (by omega)
 have mq:eh (.int d0) (.int (w.po.length:Nat)) s1=.ok (.int (q:Nat)) s1:=by rw[<- eq];exact fS (by show(0:Int)<_;omega)
 have ms:eh (.int d1) (.int 2) s1=.ok (.int (sd:Nat)) s1:=by rw[<- esd];exact fS (by decide)
 apply az
 ·exact bz (be (be (ah rfl) bM i0) (bw (ak (ah rfl) aF) (lA w.po s1)) mq)
 obtain⟨C,l,r,m,X,Y,ew,hC,hi,hR⟩:=NB w q (by rw[<- cV];exact hq)
 have hwpo:w.po=X++(MT.nd l r m).po++Y:=by rw[ew];exact(hC _ (fun z=>by cases z)).1
 have hXY:w.po.length=X.length+(l.size+r.size+1)+Y.length:=by rw[hwpo,ay,ay,cV];rfl
 have putOf:∀(o:MT),o.size<=100->∃x:MT,rT [dw w.po,.int (q:Nat),.int (sd:Nat),dw o.po] s1=.ok (dw (C x).po) s1/\C x≠.nil/\(C x).size<=300/\x=.nd (if sd=0 then o else l) (if sd=0 then r else o) m:=fun o ho=>by
  have h:=Ja (oth:=o) hwpo hi (by omega) (by omega) sd SF s1
  have hx:MT.nd (if sd=0 then o else l) (if sd=0 then r else o) m≠.nil:=fun z=>by cases z
  obtain⟨h1,h2⟩:=hC _ hx
  refine⟨_,by rw[h1];exact h,h2,?_,rfl⟩
  have hl:=cV w
  rw[<- cV,h1,ay,ay,cV]
  unfold MT.size
  split<;>omega
 obtain⟨x1,p1,n1,z1,d1'⟩:=putOf t hts
 obtain⟨x2,p2,n2,z2,d2'⟩:=putOf (iq M.nm u) fms
 have hrr:gf M (C x1)=gf M (C x2):=by
  refine hR M x1 x2 ?_
  rw[d1',d2',pI,pI]
  by_cases z:sd=0
  ·rw[aD z,aD z,aD z,aD z,hrm]
  ·rw[aQ z,aQ z,aQ z,aQ z,hrm]
 apply az
 ·exact bz (b8 (ak (ah rfl) (ak (ah rfl) (ak (be (be (ah rfl) bM i1) bM ms) (ak (ah rfl) aF)))) p1 rfl)
 apply az
 ·exact bz (b8 (ak (ah rfl) (ak (ah rfl) (ak (be (be (ah rfl) bM i1) bM ms) (ak (ah rfl) aF)))) p2 rfl)
 apply az
 ·exact bz (b8 (ak (ah rfl) (ak (ah rfl) aF)) (qG hM hn1 (C x1) (by omega) s1) rfl)
 generalize C x1=a1 at *
 generalize C x2=a2 at *
 have step:∀(a:MT) (sA GY:Option W),a≠.nil->a.size<=300->gf M a=gf M a1->gn (A2 fun ρ s=>∃sA GY,s=s1/\ρ=[some (.loc 0),some (.str pool),some M.w,some (dw t.po),some (.int (gf M t:Nat)),some (dw (iq M.nm u).po),some (dw w.po),some (.loc s0.length),some (.int (q:Nat)),some (dw a1.po),some (dw a2.po),some (.int (gf M a1:Nat)),sA,GY])
   ((gs (et (e2 B5 (bx dJ (aj (ai 12) aC)) (eI 100))) (aS (bu 13 (cC 2 oK (aj (ai 2) (aj (ai 12) aC)))) (aS (gs (we (wP (et (ml "tuple" (ai 13)))) (we (et (e2 CN (bx dJ (aj (ai 13) aC)) (bx dJ (aj (ai 12) aC)))) (wP (et (cC 2 (mT 40) (aj (e2 bG (ai 13) (uT (eI 1))) (aj (ai 11) aC))))))) (cH (eC (.bl false))) b_) (gs (wP (et (cC 2 (mT 40) (aj (cC 2 rP (aj (ai 2) (aj (ai 12) aC))) (aj (e2 bG (e2 bG (ai 2) (eI 1)) (ai 11)) aC))))) (cH (eC (.bl false))) b_))) b_)
    [some (.loc 0),some (.str pool),some M.w,some (dw t.po),some (.int (gf M t:Nat)),some (dw (iq M.nm u).po),some (dw w.po),some (.loc s0.length),some (.int (q:Nat)),some (dw a1.po),some (dw a2.po),some (.int (gf M a1:Nat)),some (dw a.po),GY] s1):=fun a sA GY ha0 has har=>by
  obtain⟨RR,hRl,er,el,eg⟩:=zY hM hn1 ha0 (by omega)
  have la:=lA a.po s1
  by_cases hs:a.po.length<=100
  ·refine iJ (bI (be (bw (ak (ah rfl) aF) la) bM (AY (a8 (by omega))))) ?_
   apply az
   ·exact bz (b8 (ak (ah rfl) (ak (ah rfl) aF)) (er s1) rfl)
   have lr:dJ [iX RR] s1=.ok (.int (a.po.length:Nat)) s1:=by
    have:=iM (ws:=RR.map fun k=>W.int (k:Nat)) (st:=s1)
    rw[av,hRl]at this;exact this
   have lst:=el s1
   rw[har]at lst
   refine bJ (gW (nE (a:=true) (bI (rE (ah rfl) rfl rfl)) rfl) (gW (bI (be (bw (ak (ah rfl) aF) lr) (bw (ak (ah rfl) aF) la) (AZ (by simp)))) (nE (a:=true) (bI (b8 (ak (be (ah rfl) (t5 bM) lst) (ak (ah rfl) aF)) (FL _ 39 s1) rfl)) rfl))) ?_
   refine bZ ?_
   have eg1:=eg s1
   rw[har]at eg1
   exact hV (nE (a:=true) (bI (b8 (ak (b8 (ak (ah rfl) (ak (ah rfl) aF)) eg1 rfl) (ak (be (be (ah rfl) bM (c_ rfl)) (ah rfl) (KH hM (sw hM hn1 a1) s1)) aF)) (Cv _ 39 s1) rfl)) rfl) ⟨_,_,rfl,_,_,rfl,rfl⟩
  ·exact hV (bI (be (bw (ak (ah rfl) aF) la) bM (AY (aR (by omega))))) ⟨_,_,rfl,_,_,rfl,rfl⟩
 refine dL (fun i ρ s=>∃sA GY,s=s1/\ρ=[some (.loc 0),some (.str pool),some M.w,some (dw t.po),some (.int (gf M t:Nat)),some (dw (iq M.nm u).po),some (dw w.po),some (.loc s0.length),some (.int (q:Nat)),some (dw a1.po),some (dw a2.po),some (.int (gf M a1:Nat)),sA,GY])
  (k:=([dw a1.po,dw a2.po],none)) (st1:=s1) (jt (gP (ak (ah rfl) (ak (ah rfl) aF)) (aM rfl))) ⟨none,none,rfl,rfl⟩ (fun _ _ _ _=>trivial) ?_ ?_
 ·rintro i v ρ s hv ⟨sA,GY,rfl,rfl⟩
  match i,hv with
  |0,hv=>cases hv;exact⟨_,rfl,step a1 sA GY n1 z1 rfl⟩
  |1,hv=>cases hv;exact⟨_,rfl,step a2 sA GY n2 z2 hrr.symm⟩
  |k+2,hv=>simp at hv
 ·rintro ρ s ⟨sA,GY,rfl,rfl⟩
  exact bN (be (b8 (ak (ah rfl) (ak (ah rfl) aF)) (qG hM hn1 a2 (by omega) s) rfl) (ah rfl) (fK (by rw[hrr];simp))) ⟨_,_,rfl,rfl⟩
local macro_rules | `(tactic| walk_at "hb") => `(tactic| first | (exact fun _ _ _ _ _ _ us hl => match us, hl with | [_], _ => rfl) | (exact fun _ _ _ _ _ _ us hl => match us, hl with | [_, _], _ => rfl) | (exact fun _ _ _ _ _ _ us hl => match us, hl with | [_, _, _], _ => rfl) | (exact fun _ _ _ _ _ _ us hl => match us, hl with | [_, _, _, _], _ => rfl) | (exact fun _ _ _ _ _ _ us hl => match us, hl with | [_, _, _, _, _], _ => rfl))
theorem all_mk{l:PySem.W.OpenLaw}{w:World}{K:Frag}{h:Heap}{mg:Str->Option Value}{fa:Addr}(X:K.In h)(G:h.Ns mainGlobals mg)(Tv:mg "law"=some (.ref fa))
  {Ah Ar:Addr} {N7 NG NW Gd:Option Addr} {NZ NK:Array (Option Value)} {N3 NY NR NN N5 N1 GH Ga GF Ao GQ:Value} {jy:Addr} {n5:Addr} {sW:Tok}
  (yw:DefIn K "letter_of" Mb)
  (Ab:DefIn K "marks_of" Md)
  (v8:DefIn K "pairs_with" Me)
  (Al:DefIn K "has_left" Mf)
  (yE:DefIn K "has_right" Mg)
  (As:DefIn K "links_of" Mh)
  (vV:DefIn K "check_size" Mi)
  (Ad:DefIn K "with_top" Mj)
  (Gz:DefIn K "joined" Ml)
  (Af:DefIn K "put_ways" Mm)
  (Ji:DefIn K "built" Ei)
  (yy:DefIn K "told_tree" Ej)
  (vT:DefIn K "first_tree" Ek)
  (wa:DefIn K "room_below" El)
  (CJ:DefIn K "room_at" Em)
  (Ag:DefIn K "rooms_of" Eo)
  (CD:DefIn K "room_of" Ep)
  (CF:DefIn K "lets_by" Er)
  (s_:DefIn K "_law_letter" Es)
  (Ae:DefIn K "_law_run" Et)
  (v7:DefIn K "_law_mixed" Eu)
  (wd:DefIn K "_law_draws" Ew)
  (yA:DefIn K "_law_pool" Ex)
  (yv:DefIn K "_law_cell" Ey)
  (vZ:DefIn K "_law_shape" Ez)
  (v0:DefIn K "_law_names" EB)
  (sY:DefIn K "_law_blocks" EC)
  (wb:DefIn K "_law_grown" ED)
  (sV:DefIn K "_law_graded" EE)
  (sD:DefIn K "_law_spotted" EF)
  (v_:DefIn K "_law_blown" EG)
  (vW:DefIn K "_law_owner" EH)
  (sy:DefIn K "_law_machine" EI)
  (Am:DefIn K "_law_any" EJ)
  (yI:DefIn K "_law_bare" EK)
  (vU:DefIn K "_law_marks" EL)
  (yD:DefIn K "_law_wood" EM)
  (v6:DefIn K "_law_grove" EN)
  (Ac:DefIn K "_law_key" EO)
  (v5:DefIn K "_law_links" EQ)
  (yF:DefIn K "_law_join" ER)
  (An:DefIn K "_law_put" ES)
  (yH:DefIn K "_law_same" ET)
  (pJ:DefIn K "_law_tree_over" EW)
  (yu:DefIn K "_law_room" EX)
  (Rh:nsIn K mainGlobals "firsts_of"=some (some (.ref Ah)))
  (Ri:K.lookup Ah=some ⟨N3,N7,.func (fnOf "firsts_of" "firsts_of" (ia t9) (gC t9) (aV t9) .none NY NR NN NG (.ref jy) N5),NZ⟩)
  (CC:codeIn K (.ref jy) "firsts_of"=true)
  (Rg:keepIn K (.ref Ah)=true)
  (tc_firsts_of:codeHdIn K jy 109=true)
  (tk_firsts_of:K.lookup 109=none)
  (KM:nsIn K mainGlobals "law"=some (some (.ref Ar)))
  (Re:K.lookup Ar=some ⟨N1,NW,.func (fnOf "law" "law" (ia oJ) (gC oJ) (aV oJ) .none GH Ga GF Gd Ao GQ),NK⟩)
  (CL:codeIn K Ao "law"=true)
  (Rc:keepIn K (.ref Ar)=true)
  (Ap:nsIn K mainGlobals "TooGreat"=some (some (.ref n5)))
  (x_TooGreat:excIn K n5 PM JB=true)
  (NL:nsIn K mainGlobals "bool"=some none)
  (yz:nsIn K mainGlobals "enumerate"=some none)
  (Q2:nsIn K mainGlobals "int"=some none)
  (vS:nsIn K mainGlobals "isinstance"=some none)
  (QV:nsIn K mainGlobals "len"=some none)
  (NH:nsIn K mainGlobals "list"=some none)
  (Q0:nsIn K mainGlobals "max"=some none)
  (QY:nsIn K mainGlobals "min"=some none)
  (Jh:nsIn K mainGlobals "range"=some none)
  (Ak:nsIn K mainGlobals "reversed"=some none)
  (Gf:nsIn K mainGlobals "sorted"=some none)
  (Q6:nsIn K mainGlobals "str"=some none)
  (Je:nsIn K mainGlobals "tuple"=some none)
  (Rf:nsIn K mainGlobals "zip"=some none)
  (sZ:nsIn K mainGlobals "MOST_PLACES"=some (some (.int 100 sW))) :
  ∃fd:FuncData,(∀(s:Shared) (v:Value),BindsTo s fd ⟨[v],[]⟩ [("_law_script",v)])/\∀base:Heap,K.In base->base.Ns mainGlobals mg->xj base mg->dG l.prog w K mg base (iH l.prog w) 41 fa fd EY (iL K mg 1 f_q46):=by
 have e:=Tv.symm.trans (mg_of X G KM)
 cases e
 obtain⟨_,_,F_q0,m_q0⟩:=yw.fn X G
 obtain⟨_,_,F_q1,m_q1⟩:=Ab.fn X G
 obtain⟨_,_,F_q2,m_q2⟩:=v8.fn X G
 obtain⟨_,_,F_q3,m_q3⟩:=Al.fn X G
 obtain⟨_,_,F_q4,m_q4⟩:=yE.fn X G
 obtain⟨_,_,F_q5,m_q5⟩:=As.fn X G
 obtain⟨_,_,F_q6,m_q6⟩:=vV.fn X G
 obtain⟨_,_,F_q7,m_q7⟩:=Ad.fn X G
 obtain⟨_,_,F_q8,m_q8⟩:=Gz.fn X G
 obtain⟨_,_,F_q9,m_q9⟩:=Af.fn X G
 have F_q10:=yU (st:=t9) Ri CC Rg
 have m_q10:=mg_of X G Rh
 obtain⟨_,_,F_q11,m_q11⟩:=Ji.fn X G
 obtain⟨_,_,F_q12,m_q12⟩:=yy.fn X G
 obtain⟨_,_,F_q13,m_q13⟩:=vT.fn X G
 obtain⟨_,_,F_q14,m_q14⟩:=wa.fn X G
 obtain⟨_,_,F_q15,m_q15⟩:=CJ.fn X G
 obtain⟨_,_,F_q16,m_q16⟩:=Ag.fn X G
 obtain⟨_,_,F_q17,m_q17⟩:=CD.fn X G
 obtain⟨_,_,F_q18,m_q18⟩:=CF.fn X G
 obtain⟨_,_,F_q19,m_q19⟩:=s_.fn X G
 obtain⟨_,_,F_q20,m_q20⟩:=Ae.fn X G
 obtain⟨_,_,F_q21,m_q21⟩:=v7.fn X G
 obtain⟨_,_,F_q22,m_q22⟩:=wd.fn X G
 obtain⟨_,_,F_q23,m_q23⟩:=yA.fn X G
 obtain⟨_,_,F_q24,m_q24⟩:=yv.fn X G
 obtain⟨_,_,F_q25,m_q25⟩:=vZ.fn X G
 obtain⟨_,_,F_q26,m_q26⟩:=v0.fn X G
 obtain⟨_,_,F_q27,m_q27⟩:=sY.fn X G
 obtain⟨_,_,F_q28,m_q28⟩:=wb.fn X G
 obtain⟨_,_,F_q29,m_q29⟩:=sV.fn X G
 obtain⟨_,_,F_q30,m_q30⟩:=sD.fn X G
 obtain⟨_,_,F_q31,m_q31⟩:=v_.fn X G
 obtain⟨_,_,F_q32,m_q32⟩:=vW.fn X G
 obtain⟨_,_,F_q33,m_q33⟩:=sy.fn X G
 obtain⟨_,_,F_q34,m_q34⟩:=Am.fn X G
 obtain⟨_,_,F_q35,m_q35⟩:=yI.fn X G
 obtain⟨_,_,F_q36,m_q36⟩:=vU.fn X G
 obtain⟨_,_,F_q37,m_q37⟩:=yD.fn X G
 obtain⟨_,_,F_q38,m_q38⟩:=v6.fn X G
 obtain⟨_,_,F_q39,m_q39⟩:=Ac.fn X G
 obtain⟨_,_,F_q40,m_q40⟩:=v5.fn X G
 obtain⟨_,_,F_q41,m_q41⟩:=yF.fn X G
 obtain⟨_,_,F_q42,m_q42⟩:=An.fn X G
 obtain⟨_,_,uv,yt⟩:=yH.fn X G
 obtain⟨_,_,F_q44,m_q44⟩:=pJ.fn X G
 obtain⟨_,_,F_q45,m_q45⟩:=yu.fn X G
 have F_q46:=yU (st:=oJ) Re CL Rc
 have m_q46:=mg_of X G KM
 have B:Bl mg:=⟨mg_none_of X G NL,mg_none_of X G yz,mg_none_of X G Q2,mg_none_of X G vS,mg_none_of X G QV,mg_none_of X G NH,mg_none_of X G Q0,mg_none_of X G QY,mg_none_of X G Jh,mg_none_of X G Ak,mg_none_of X G Gf,mg_none_of X G Q6,mg_none_of X G Je,mg_none_of X G Rf⟩
 have C:Oa K mg:=⟨⟨n5,mg_of X G Ap,x_TooGreat⟩⟩
 have Gg:Gc K mg:=⟨⟨_,.int 100,mg_of X G sZ,⟨_,rfl⟩,fun μ H=>.int⟩⟩
 refine⟨fnOf "law" "law" (ia oJ) (gC oJ) (aV oJ) .none GH Ga GF Gd Ao GQ,fun s v=>.of_eq rfl,fun base _ _ Bk=>?_⟩
 have NQ:bP l.prog w K mg base 1 "letter_of" 2 EZ:=cu F_q0 m_q0 (Qg F_q0)
 have NJ:bP l.prog w K mg base 1 "marks_of" 2 Ci:=cu F_q1 m_q1 (Qi F_q1 B)
 have NS:bP l.prog w K mg base 1 "pairs_with" 1 Cj:=cu F_q2 m_q2 (Qk F_q2 B)
 have NT:bP l.prog w K mg base 1 "has_left" 1 vC:=cu F_q3 m_q3 (Ql F_q3)
 have N0:bP l.prog w K mg base 1 "has_right" 1 vD:=cu F_q4 m_q4 (Qm F_q4)
 have NI:bP l.prog w K mg base 2 "links_of" 1 E0:=cu F_q5 m_q5 (Qo F_q5 B NT N0)
 have CK:bP l.prog w K mg base 1 "check_size" 1 xK:=cu F_q6 m_q6 (Qp F_q6 Gg C)
 have NX:bP l.prog w K mg base 1 "with_top" 3 E2:=cu F_q7 m_q7 (Qr F_q7 B)
 have NU:bP l.prog w K mg base 2 "joined" 3 Ck:=cu F_q8 m_q8 (Qt F_q8 B CK NX)
 have Jf:bP l.prog w K mg base 2 "put_ways" 4 Cm:=cu F_q9 m_q9 (Qv F_q9 B NS)
 have GL:bP l.prog w K mg base 3 "firsts_of" 1 t_:=cu F_q10 m_q10 (My F_q10 ⟨jy,rfl,tc_firsts_of,tk_firsts_of⟩ Bk B Jf)
 have GI:bP l.prog w K mg base 3 "built" 3 xL:=cu F_q11 m_q11 (Mz F_q11 B NU NJ)
 have Gq:bP l.prog w K mg base 4 "told_tree" 3 ua:=cu F_q12 m_q12 (MA F_q12  GI CK)
 have GK:bP l.prog w K mg base 5 "first_tree" 2 ub:=cu F_q13 m_q13 (MB F_q13  GL Gq)
 have Bf:bP l.prog w K mg base 1 "room_below" 2 uc:=cu F_q14 m_q14 (MC F_q14)
 have Gs:bP l.prog w K mg base 2 "room_at" 4 xM:=cu F_q15 m_q15 (MD F_q15  NQ Bf)
 have ux:bP l.prog w K mg base 3 "rooms_of" 2 oK:=cu F_q16 m_q16 (ME F_q16 B NI Gs)
 have GN:bP l.prog w K mg base 4 "room_of" 2 xN:=cu F_q17 m_q17 (MF F_q17 B ux)
 have Gh:bP l.prog w K mg base 5 "lets_by" 2 rP:=cu F_q18 m_q18 (MG F_q18  GN)
 have uy:bP l.prog w K mg base 1 "_law_letter" 2 rQ:=cu F_q19 m_q19 (MH F_q19 B)
 have Gb:bP l.prog w K mg base 2 "_law_run" 2 xO:=cu F_q20 m_q20 (MI F_q20  uy)
 have GM:bP l.prog w K mg base 1 "_law_mixed" 3 ud:=cu F_q21 m_q21 (MJ F_q21)
 have jk:bP l.prog w K mg base 2 "_law_draws" 3 ji:=cu F_q22 m_q22 (MK F_q22 B GM)
 have Gn:bP l.prog w K mg base 3 "_law_pool" 3 xP:=cu F_q23 m_q23 (ML F_q23 B jk)
 have km:bP l.prog w K mg base 1 "_law_cell" 2 kR:=cu F_q24 m_q24 (MM F_q24 B)
 have GG:bP l.prog w K mg base 1 "_law_shape" 1 xQ:=cu F_q25 m_q25 (MN F_q25)
 have GA:bP l.prog w K mg base 1 "_law_names" 2 xR:=cu F_q26 m_q26 (MO F_q26 B)
 have uw:bP l.prog w K mg base 3 "_law_blocks" 4 rR:=cu F_q27 m_q27 (MP F_q27 B km jk)
 have Gw:bP l.prog w K mg base 1 "_law_grown" 3 ue:=cu F_q28 m_q28 (MQ F_q28 B)
 have Gj:bP l.prog w K mg base 2 "_law_graded" 3 xS:=cu F_q29 m_q29 (MR F_q29 B Gw)
 have F9:bP l.prog w K mg base 1 "_law_spotted" 2 xU:=cu F_q30 m_q30 (MS F_q30 B)
 have Gy:bP l.prog w K mg base 1 "_law_blown" 3 xV:=cu F_q31 m_q31 (MU F_q31 B)
 have Gk:bP l.prog w K mg base 1 "_law_owner" 3 xW:=cu F_q32 m_q32 (MV F_q32 B)
 have GE:bP l.prog w K mg base 1 "_law_machine" 4 xX:=cu F_q33 m_q33 (MW F_q33 B)
 have Ge:bP l.prog w K mg base 4 "_law_any" 3 xY:=cu F_q34 m_q34 (MX F_q34  uw Gy km jk Gj GE GA Gk GG F9)
 have GB:bP l.prog w K mg base 1 "_law_bare" 2 xZ:=cu F_q35 m_q35 (MY F_q35 B)
 have Bi:bP l.prog w K mg base 1 "_law_marks" 2 uf:=cu F_q36 m_q36 (MZ F_q36 B)
 have Gx:bP l.prog w K mg base 2 "_law_wood" 3 x5:=cu F_q37 m_q37 (M4 F_q37 B Bi)
 have Bm:bP l.prog w K mg base 4 "_law_grove" 3 ug:=cu F_q38 m_q38 (M5 F_q38  uw km jk Gx)
 have Bh:bP l.prog w K mg base 2 "_law_key" 2 rS:=cu F_q39 m_q39 (M6 F_q39 B uy)
 have Gu:bP l.prog w K mg base 1 "_law_links" 1 x6:=cu F_q40 m_q40 (M7 F_q40 B)
 have GO:bP l.prog w K mg base 1 "_law_join" 3 x8:=cu F_q41 m_q41 (M8 F_q41 B)
 have Bo:bP l.prog w K mg base 2 "_law_put" 4 rT:=cu F_q42 m_q42 (M9 F_q42  GO Gu)
 have ut:=A4 (P:=l.prog) (w:=w) (base:=base) uv yt B  40
 have GJ:bP l.prog w K mg base 1 "_law_tree_over" 2 x9:=cu F_q44 m_q44 (M_ F_q44 B)
 have uB:bP l.prog w K mg base 3 "_law_room" 2 p5:=cu F_q45 m_q45 (Na F_q45 B Gb)
 exact Nb F_q46 B Ge GB km jk Bm Bh Gn Bo uB ut GJ GK Gh ux
end P
end
namespace PySem.W.Fast
def tw5387775031173361406:=0
def tw9075220580876816894:=0
def tw15956086190314963388:=0
def tw9026279950599595387:=0
def tw4796711262204727066:=0
def tw5953852538697422329:=0
def tw5753394815756572280:=0
def tw13485064024492927733:=0
def tw14282411671876424117:=0
def tw4445689634360200212:=0
def tw16707237023225732368:=0
def tw14368500570165750287:=0
def tw2150217623729170728:=0
def tw164165218836117574:=0
def tw6460632570814098213:=0
def tw124682438605411557:=0
def tw7899812786600726432:=0
def tw13063389601426123441:=0
def tw8349279741449219347:=0
def tw5649210587377516276:=0
def tw2746340474076289324:=0
def tw17819914996819406803:=0
def tw4000074994669980238:=0
def tw6979013732560755402:=0
def tw1712566889259792634:=0
def tw654717280090210148:=0
def tw31841887570149239:=0
def tw16828371198040662620:=0
def tw16532013556073377104:=0
def tw13814350372018292795:=0
def tw6841341679323112613:=0
def tw17723679950118473205:=0
def tw12390116139971889581:=0
def tw3024344745357384440:=0
def tw15126011978862317724:=0
def tw8430421735906993163:=0
def tw17243181234632736956:=0
def tw5856894766962948366:=0
def tw6532113946094132593:=0
def tw3566408299092257623:=0
def tw12764434560967856216:=0
def tw16759969648380610189:=0
def tw12270269931538684426:=0
def tw9128966602612916878:=0
def tw16239302608314492308:=0
def tw9486411108976125887:=0
def tw6018888941822295119:=0
def tw10327640843209490174:=0
def tw14197546879767157223:=0
def tw3050764890170616908:=0
def tw15036205247937408090:=0
def tw16904939359464287756:=0
def tw13323745641281352614:=0
def tw278698140367429541:=0
def tw641290521481155676:=0
def tw5027176088516260728:=0
def tw6680078647284326503:=0
def tw14236639339791189443:=0
def tw1190711631236720348:=0
def tw5927374520506958796:=0
def tw15814842387742821356:=0
def tw2498683004727091420:=0
def tw3829554281700943443:=0
def tw7424249561253378042:=0
def tw9732883369829660632:=0
def tw454339951458239507:=0
def tw14366130311657757798:=0
def tw10138038297905130501:=0
def tw6785001495380101758:=0
def tw10979298122964396568:=0
def tw6559166402655191955:=0
def tw6690370102719352114:=0
def tw12504795538072750824:=0
def tw15577508485837126279:=0
def tw12432299041928294863:=0
def tw3889168747907732517:=0
def tw6074894125130005539:=0
def tw16205083450009353110:=0
def tw15978588414026149325:=0
def tw10986815042230253678:=0
def tw1659453902495309996:=0
def tw6173765123564025193:=0
def tw14334949306779171711:=0
def tw15014378634860359357:=0
def tw178142552486619367:=0
def tw7819875490566011788:=0
def tw16101108481371903443:=0
def tw4812940342638672576:=0
def tw14388118166423977017:=0
def tw1375003745652812184:=0
def tw1147639902694516372:=0
def tw6151564208865996948:=0
def tw13520618304171030975:=0
def tw2245832713440840258:=0
def tw4076217448977857094:=0
def tw12059311921088968871:=0
def tw18077206443263047379:=0
def tw16565602573144735681:=0
def tw1324590616303849897:=0
def tw14533412089445812533:=0
def tw3987777790511275997:=0
def tw17712157441931167040:=0
def tw953435856666066550:=0
def tw11455592103442236229:=0
def tw10866272545185343115:=0
def tw6387131839810504461:=0
def tw4301903698148690766:=0
def tw3083347484956495646:=0
def tw37968435802145555:=0
def tw534095189000148049:=0
def tw13500250604986907783:=0
def tw3568488333849542263:=0
def tw14167046378672192535:=0
def tw11343720661665779080:=0
def tw7409738873061289166:=0
def tw1986937172975033578:=0
def tw8192582828752430153:=0
def tw16970219525169073072:=0
def tw16285086270616016525:=0
def tw6734412239939462007:=0
def tw11279877550038137044:=0
def tw10688908202071882724:=0
def tw6854654451028776358:=0
def tw11695790855666723985:=0
def tw8968204187574154116:=0
def tw2688555844285726894:=0
def tw15239559501036110130:=0
def tw11237798781853598471:=0
def tw13969482581776061075:=0
def tw15400985546796826256:=0
def tw1912148468855937449:=0
def tw10536974485359273913:=0
def tw15250785598853197901:=0
def tw11866768838047194500:=0
def tw12648432832357092086:=0
def tw8783895299840519849:=0
def tw2474027514089110869:=0
def tw16907000622280328675:=0
def tw2800818019919163838:=0
end PySem.W.Fast
open PySem PySem.W PyProof.Rows
set_option maxRecDepth 100000 in
set_option maxHeartbeats 0 in
theorem PySem.Challenge.cw_trunksay_k29_exchange_holds : PySem.Challenge.rw_trunksay_k29_exchange.Holds := by
 w_on; o_law; k_head; (case hw => w_witness2)
 k_fill
 refine L2.walkT (l := PySem.Challenge.rw_trunksay_k29_exchange) (k := 41) (x := "_law_script") (G := P.f_q46) P.tabL (by decide) rfl rfl ⟨rfl, by decide, by decide⟩ (fun w h Y => PySem.W.km_in_of Y) (fun w h Y T hT => PySem.W.km_tabs_of Y T hT) (fun w T hT => ?KT) (fun w T hT => ?CT) ?F P.law_ok
 case KT =>
  simp only [P.tabL, aK, dN, br, List.not_mem_nil, or_false] at hT
  rcases hT with rfl
  ·kernel_rfl
 case CT =>
  simp only [P.tabL, aK, dN, br, List.not_mem_nil, or_false] at hT
  rcases hT with rfl
  ·exact ⟨113, by kernel_rfl⟩
 case F =>
  intro w mg fa h KX G hmg
  refine' P.all_mk KX G hmg ?_ ?_ ?_ ?_ ?_ ?_ ?_ ?_ ?_ ?_ ?_ ?_ ?_ ?_ ?_ ?_ ?_ ?_ ?_ ?_ ?_ ?_ ?_ ?_ ?_ ?_ ?_ ?_ ?_ ?_ ?_ ?_ ?_ ?_ ?_ ?_ ?_ ?_ ?_ ?_ ?_ ?_ ?_ ?_ ?_ ?_ ?_ ?_ ?_ ?tc_firsts_of ?tk_firsts_of ?_ ?_ ?_ ?_ ?_ ?x_TooGreat ?_ ?_ ?_ ?_ ?_ ?_ ?_ ?_ ?_ ?_ ?_ ?_ ?_ ?_ ?_
  any_goals (refine' L2.DefIn.mk ?a ?l ?c ?k; (case a => k_is); (case l => k_is); (case c => k_is); (case k => k_is))
  any_goals k_is
  (case tc_firsts_of => kernel_rfl)
  (case tk_firsts_of => kernel_rfl)
  (case x_TooGreat => k_exc)
