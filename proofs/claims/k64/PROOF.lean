import PyProof.Rows.All
import Wide.All
import OpenK.AllK
import Wide.FinOn
import Lean
import PyProof.EqAt
import PyProof.EqKinds
import PyProof.TupleCall
import PyProof.StrLawsIn
import PyProof.StationsW
import PyProof.NeData
import OpenK.KOwn
import PyProof.NsDelKeeps
import PyProof.ExcArgsOwn
import PyProof.ExcAttrAll.ValueError
import PyProof.IsiH_tuple
import KE.KIsAll
import PyProof.CollectStr
import PyProof.ZipIter
import PyProof.Rows.ZipGen
import PyProof.JoinWalk
import PyProof.CollectIter
import PyProof.EnumMake
import PyProof.SumAny
import PyProof.DictTruth
import KE.KDictList
import KE.KNest
import KE.KEqDict
import PyProof.ListRange
import KE.KEqSeq
import PyProof.Rows.SetFrom
import PyProof.ListMulRoad
import PyProof.AttrMissHeap
import PyProof.ListNew
import PySem.Challenge.RW_trunksay_k64_whole_counts_by_shapes
set_option Elab.async false
set_option linter.all false
set_option genSizeOf false
set_option maxRecDepth 100000
def aa:=@PySem.wpAny_bind
def ae:=@List.prefix_refl
def af:=@List.getElem?_map
def ag:=@List.getElem?_eq_getElem
def ah:=@List.getElem?_eq_some_iff
def ai:=@PySem.Heap.get?_push_of_some
def ao:=@PySem.Heap.get?_push_size
def aq:=@List.length_map
def ar:=@PySem.wpAny_pure
def av:=@Nat.le_refl
def aw:=@if_pos
def ay:=@if_neg
def az:=@PySem.Heap.lt_size
def aA:=@List.getD_eq_getElem?_getD
def aC:=@List.getElem?_eq_none
def aE:=@List.getElem?_range
def aF:=@List.getElem?_append_left
def aH:=@List.size_toArray
def aI:=@Nat.lt_of_lt_of_le
def aJ:=@Option.map_eq_some_iff
def aL:=@Option.some.inj
def aN:=@List.map_cons
def aP:=@List.mem_append_right
def aQ:=@Nat.le_trans
def aR:=@List.mem_cons_of_mem
def aS:=@List.mem_of_getElem?
def aT:=@Nat.ne_of_lt
def aV:=@List.length_take
def aW:=@List.prefix_append
def aX:=@Nat.le_of_ble_eq_true
def aY:=@PySem.wpAny_field
def a9:=@List.length_cons
def a_:=@List.mem_cons
def bf:=@PySem.wpAny_callSpecial?_slot
def bg:=@PySem.wpAny_loadPart'
def bh:=@List.mem_range
def bi:=@List.length_append
def bj:=@Int.toNat_natCast
def bn:=@List.append_assoc
def bp:=@PySem.wpAny_call_entry
def bq:=@decide_eq_false
def bt:=@PySem.Heap.size_push
def bv:=@PyProof.Rows.callWith_type1
def bz:=@List.getElem?_set_self
def bA:=@List.take_of_length_le
def bC:=@List.map_congr_left
def bD:=@List.map_map
def bG:=@PySem.wpAny_seqItems
def bH:=@List.mem_map
def bJ:=@List.drop_eq_getElem_cons
def bM:=@PySem.wpAny_setField_rec
def bR:=@List.find?_cons
def bS:=@List.ext_getElem?
def bT:=@List.getElem?_set_ne
def bU:=@List.take_append_of_le_length
def bW:=@List.mem_cons_self
def bX:=@Bool.false_eq_true
def bZ:=@beq_eq_false_iff_ne
def b8:=@PySem.wpAny_newObj_type
def cb:=@List.getElem?_append_right
def ce:=@decide_eq_true
def cf:=@List.append_nil
def cm:=@List.range_succ
def cn:=@List.map_append
def cr:=@Bool.and_eq_true
def cy:=@List.getElem?_take_of_lt
def cz:=@Bool.and_true
def cG:=@Nat.zero_le
def cH:=@List.filter_cons
def cI:=@PySem.wpAny_isInstance
def cJ:=@List.take_length
def cQ:=@List.length_range
def cR:=@List.flatMap_append
def cS:=@List.mem_append
def cW:=@PyProof.Rows.slot_tuple_getitem
def c_:=@List.take_append_drop
def dh:=@List.pairwise_cons
def dr:=@Nat.lt_irrefl
def du:=@Bool.not_true
def dv:=@Nat.zero_add
def dA:=@Nat.pow_le_pow_right
def dE:=@PySem.wpAny_mono
def dF:=@PySem.F.slot_zip_next
def dJ:=@List.filterMap_cons
def dL:=@Nat.add_left_cancel
def dO:=@PySem.Heap.get?_update_other
def dP:=@List.drop_of_length_le
def dR:=@PySem.wpAny_attempt
def dU:=@List.length_drop
def d8:=@PySem.wpAny_pyIter_tuple
def d9:=@Bool.false_ne_true
def d_:=@beq_iff_eq
def ee:=@PySem.F.slot_tuple_iterator_next
def eh:=@PySem.Obj.data_mapFields
def ej:=@PyProof.Rows.boot_tuple
def eD:=@PySem.boot_len
def eE:=@Nat.add_sub_cancel
def eF:=@decide_eq_true_iff
def eG:=@List.length_replicate
def eJ:=@PySem.Heap.get?_update_self
def eK:=@List.getElem?_reverse
def eQ:=@PySem.wpAny_specialOf
def eT:=@Int.natCast_mul
def eU:=@Int.natCast_add
def eZ:=@PySem.wpAny_truthy_bool
def e_:=@Nat.le_succ
def fg:=@List.reverse_cons
def fj:=@PySem.Heap.get?_push_ne
def fm:=@Function.comp_def
def fq:=@List.getElem?_of_mem
def fx:=@Nat.add_mul_div_left
def fA:=@PySem.wpAny_onRaise
def fB:=@Nat.mul_assoc
def fF:=@Array.length_toList
def fI:=@if_false
def fJ:=@PySem.wpAny_pyIter_zip
def fK:=@Nat.mul_le_mul
def fP:=@Nat.ne_of_gt
def fQ:=@Nat.lt_of_le_of_lt
def fR:=@PySem.Calls.callWith_builtin
def fS:=@List.range_succ_eq_map
def fT:=@List.mem_singleton
def fX:=@List.nil_append
def fY:=@PySem.wpAny_holding
def ga:=@PySem.F.slot_enumerate_next
def gb:=@PySem.builtinLookup_eq_fast
def gj:=@PySem.wpAny_pyIter_list
def gn:=@List.mem_append_left
def gp:=@PySem.wpAny_rule
def gq:=@PySem.wpAny_of_eq
def gr:=@List.take_succ
def gz:=@if_true
def gE:=@PySem.wpAny_letOwnedTupleGo_zip
def gO:=@PySem.Heap.SameBut.update
def gX:=@PySem.wpAny_passesOwn
def gY:=@List.nodup_cons
def gZ:=@List.length_nil
def g6:=@List.forIn_cons
def g_:=@Int.emod_nonneg
def h9:=@PySem.Calls.spliced_cons
def h_:=@PySem.wpAny_Call_Name_kw
def ia:=@List.lookup_append
def ij:=@Nat.pow_add
def iD:=@Nat.le_of_lt
def iE:=@Nat.add_zero
def iF:=@PySem.wpAny_setField
def iG:=@PySem.isSubtype_stop
def iH:=@PySem.wpAny_pyIter_enum
def iI:=@Nat.lt_of_succ_lt_succ
def iJ:=@PySem.F.args_zip_next_1
def iK:=@Nat.div_div_eq_div_mul
def iN:=@List.replicate_append_replicate
def iR:=@List.length_singleton
def iS:=@PySem.Obj.isFreed_of_fields
def iT:=@PySem.isSubtype_tuple_tuple
def iU:=@List.length_filter_le
def i3:=@Nat.lt_succ_self
def i4:=@PySem.typeIs_str
def i5:=@List.lookup_cons
def i6:=@List.zipIdx_cons
def i7:=@PySem.F.entry_zip_next
def i8:=@PySem.wpAny_forIn_list
def jb:=@Nat.add_assoc
def jc:=@List.sum_cons
def jg:=@PySem.Calls.evalArgs_plain
def jh:=@PySem.wpAny_updateSeq_pair
def ji:=@PySem.wpAny_letGo
def jl:=@List.length_set
def jm:=@PySem.F.args_tuple_iterator_next_1
def jn:=@PySem.typeLookup_type
def jo:=@List.zipIdx_nil
def jA:=@PySem.codeAny_mono
def jB:=@PySem.F.entry_tuple_iterator_next
def jC:=@PySem.callType_new
def jD:=@Nat.zero_mul
def jF:=@LawfulBEq.eq_of_beq
def jM:=@PySem.Calls.Name_function_global
def jN:=@List.mem_filterMap
def jO:=@Int.fdiv_eq_ediv_of_nonneg
def jP:=@Nat.not_lt
def jQ:=@PySem.wpAny_letOwnedTupleGo_enum
def jR:=@PySem.isSubtype_type
def jS:=@Array.getElem?_eq_some_iff
def jT:=@Bool.not_false
def jU:=@List.take_left
def jV:=@List.forIn_nil
def jW:=@List.map_singleton
def jX:=@PySem.wpAny_tupleItemsOf
def jY:=@Array.forIn_toList
def jZ:=@Int.emod_lt_of_pos
def j0:=@congrFun
def j4:=@List.getElem?_eq_none_iff
def j5:=@Nat.add_mul_mod_self_left
def kr:=@PySem.Calls.spliced_nil
def kt:=@Nat.lt_succ_of_lt
def ku:=@Bool.not_eq_true'
def ky:=@List.flatten_cons
def kH:=@PySem.wpAny_getItem_list_slice
def kZ:=@congrArg
def k_:=@List.getElem?_replicate
def lf:=@PySem.noFill_tuple_add
def lg:=@Option.getD_none
def lh:=@PySem.wpAny_Call_method0_late
def li:=@PySem.wpAny_pyNext_enum_itemD
def lj:=@PySem.F.args_enumerate_next_1
def ln:=@List.getElem_mem
def lq:=@List.getElem_map
def lu:=@List.mem_flatMap
def lv:=@Nat.div_eq_of_lt
def lw:=@List.head_eq_of_cons_eq
def lU:=@PySem.wpAny_pyIter_rangeiter
def lW:=@PyProof.noPylong_small
def lX:=@PyProof.Rows.subscriptTail_builtinR
def lY:=@List.drop_eq_nil_of_le
def lZ:=@PySem.F.entry_enumerate_next
def l6:=@PySem.F.typeCall_enumerate_1
def l7:=@PySem.wpAny_noteFrame_againW
def l8:=@Int.mul_comm
def l9:=@PySem.wpAny_nextOf_list_item
def l_:=@Nat.mul_comm
def ma:=@Nat.pow_succ
def md:=@List.map_eq_append_iff
def mo:=@List.mem_filter
def mq:=@PySem.wpAny_execs_nil
def ms:=@List.of_mem_zip
def mv:=@Bool.or_eq_true
def mw:=@Nat.not_lt_zero
def mx:=@Nat.min_eq_left
def my:=@List.filter_map
def mz:=@Bool.eq_iff_iff
def mI:=@PySem.wpAny_isTrue_Compare1
def mJ:=@PySem.F.newCall_enumerate_1
def mK:=@PySem.F.entry_enumerate_new
def mL:=@PySem.wpAny_nextOf_list_end
def m8:=@PySem.sizeLine_eq
def m9:=@List.map_id
def m_:=@PyProof.Rows.boot_enumerate
def ng:=@List.Perm.refl
def nv:=@PyProof.Rows.boot_bool
def nJ:=@PyProof.Rows.Constant_none
def nK:=@PySem.wpAny_standAt
def nL:=@PySem.seq_tuple_add
def nM:=@PySem.evalPart_none
def nN:=@List.any_cons
def nO:=@PySem.SeqAt.str_beq
def pA:=@PySem.concat_meets
def pD:=@PySem.wpAny_typeOf
def pE:=@PySem.seqIndex_neg
def pF:=@PySem.call_meetsIn
def pG:=@Nat.succ_mul
def pH:=@List.map_id'
set_option compiler.extract_closed false
noncomputable section
variable{us:List PySem.Value}{x name eY:PySem.Str}{u:PySem.Value}{a b it C:PySem.Addr}{o e c tg cx m7:PySem.Expr}{P prog:PySem.Program}{h' base:PySem.Heap}{α β:Type}{ac:List (PySem.Addr×PySem.Obj)}{s:PySem.Shared}{g':Array PySem.GenState}{t' N i j n m kk:Nat}{ch fp μ μ':List PySem.Addr}{M:PySem.Model}{A:PySem.Around}{E Q Qv:PySem.Value->PySem.Shared->Prop}{pos gy p d7 p2 cK tp:PySem.Pos}{op:PySem.CmpOp}{K:PySem.W.Frag}{es kq gw:List PySem.Expr}{g f:PySem.Value->PySem.Value->PySem.Sem PySem.Value}{body:List PySem.Stmt}{mA mg:PySem.Str->Option PySem.Value}{pl:PySem.Sem Bool}{kw:List (PySem.Str×PySem.Value)}{env:PySem.Env}{fd:PySem.FuncData}{ps nm:List PySem.Str}{outer:List PySem.Env}{kindOf:PySem.Str->Option PySem.NameKind}{scope:PySem.Scope}{id:String}{T:Nat->Nat->Nat->Nat}{bd ys:Array PySem.Value}{l z S:List Nat}{XP:(PySem.Str->Option PySem.Value)->PySem.Heap->Prop}{YP:PySem.World->PySem.Heap->Prop}{cap:List (Option Nat)}{use:Option (PySem.Value->PySem.Sem Unit)}{IT:PySem.Obj->Prop}{ls:List (List Nat)}{q:Int}
open PySem.W (Frag)
open PySem.W (instObj hideAll lookIn plainGet findIn isFn makesIn emptyDict keepIn kia_one fnOf codeIn excIn nsIn mg_of mg_none_of)
namespace L2
open PySem PySem.Spec PyProof.Rows
abbrev gF:=Sum Int Str
def ug:gF->Value->Bool
 |.inl k,v=>Value.isInt k v
 |.inr x,v=>Value.isStrOf x v
def PZ(w:World):gF->Int
 |.inl k=>hashInt k
 |.inr x=>hashStr w x
theorem dQ:∀{k:gF} {v:Value},ug k v=true->(∃i t,k=Sum.inl i/\v=Value.int i t)\/(∃x t,k=Sum.inr x/\v=Value.str x t)
 |.inl i,v,h=>by
  obtain⟨t,e⟩:=Value.isInt_shape (k:=i) (v:=v) h
  exact .inl ⟨i,t,rfl,e⟩
 |.inr x,v,h=>by
  obtain⟨t,e⟩:=Value.isStrOf_shape (x:=x) (v:=v) h
  exact .inr ⟨x,t,rfl,e⟩
theorem AS(i:Int)(t:Tok):ug (.inl i) (.int i t)=true:=by simp[ug,Value.isInt]
theorem AT(x:Str)(t:Tok):ug (.inr x) (.str x t)=true:=by simp[ug,Value.isStrOf]
theorem IX(a b:Int):decide ((Sum.inl a:gF)=Sum.inl b)=(a==b):=by
 by_cases e:a=b
 ·subst e;simp
 ·have h:¬ (Sum.inl a:gF)=Sum.inl b:=fun q=>e (Sum.inl.inj q)
  rw[bq h]
  exact(bZ.mpr e).symm
theorem IY(a b:Str):decide ((Sum.inr a:gF)=Sum.inr b)=decide (a=b):=by
 by_cases e:a=b
 ·subst e;simp
 ·have h:¬ (Sum.inr a:gF)=Sum.inr b:=fun q=>e (Sum.inr.inj q)
  rw[bq h,bq e]
theorem IZ(a:Int)(b:Str):decide ((Sum.inl a:gF)=Sum.inr b)=false:=bq (fun q=>nomatch q)
theorem I0(a:Str)(b:Int):decide ((Sum.inr a:gF)=Sum.inl b)=false:=bq (fun q=>nomatch q)
def cX(prog:Program)(w:World):PySem.KeyKind prog w gF where
 is:=ug
 hash:=PZ w
 inj:=fun v a b ha hb=>by
  rcases dQ ha with⟨i,t,rfl,rfl⟩|⟨x,t,rfl,rfl⟩
  ·rcases dQ hb with⟨j,u,rfl,e⟩|⟨y,u,rfl,e⟩
   ·injection e with e1 _;rw[e1]
   ·exact nomatch e
  ·rcases dQ hb with⟨j,u,rfl,e⟩|⟨y,u,rfl,e⟩
   ·exact nomatch e
   ·injection e with e1 _;rw[e1]
 byValue:=fun k v h=>by
  rcases dQ h with⟨i,t,rfl,rfl⟩|⟨x,t,rfl,rfl⟩<;>rfl
 pyHash:=fun hv h=>by
  rcases dQ hv with⟨i,t,rfl,rfl⟩|⟨x,t,rfl,rfl⟩
  ·exact wpAny_pyHash_int h
  ·exact wpAny_pyHash_str h
 eqBool:=fun hu hv h=>by
  rcases dQ hu with⟨i,t,rfl,rfl⟩|⟨x,t,rfl,rfl⟩
  ·rcases dQ hv with⟨j,u,rfl,rfl⟩|⟨y,u,rfl,rfl⟩
   ·rw[IX]at h;exact wpAny_eqBool_int h
   ·rw[IZ]at h;exact SeqAt.EqAt.int_str i t y u _ _ _ _ h
  ·rcases dQ hv with⟨j,u,rfl,rfl⟩|⟨y,u,rfl,rfl⟩
   ·rw[I0]at h;exact SeqAt.EqAt.str_int x t j u _ _ _ _ h
   ·rw[IY]at h;exact wpAny_eqBool_str h
 «strs»:=fun k x t v h=>by
  rcases dQ h with⟨i,u,rfl,e⟩|⟨y,u,rfl,e⟩
  ·exact nomatch e
  ·injection e with e1 _
   subst e1
   cases v<;>rfl
theorem wB(prog:Program)(w:World)(i:Int)(t:Tok):(cX prog w).is (.inl i) (.int i t)=true:=AS i t
theorem wC(prog:Program)(w:World)(x:Str)(t:Tok):(cX prog w).is (.inr x) (.str x t)=true:=AT x t
inductive V where
 |non|bl (b:Bool)|int (i:Int)|str (x:Str)|byt (b:Array UInt8)|flt (b:UInt64)|ref (a:Addr)|ty (n:String)
 deriving DecidableEq
def bK:V->Value->Prop
 |.non,u=>u=Value.none
 |.bl b,u=>u=Value.bool b
 |.int i,u=>∃t,u=Value.int i t
 |.str x,u=>∃t,u=Value.str x t
 |.byt b,u=>∃t,u=Value.bytes b t
 |.flt b,u=>∃t,u=Value.float b t
 |.ref a,u=>u=Value.ref a
 |.ty n,u=>u=Value.type n
abbrev bE:List V->List Value->Prop:=Paired bK
theorem bE.length{xs:List V}(r:bE xs us):xs.length=us.length:=Paired.length r
theorem bE.get:∀{xs:List V} {us:List Value} {i:Nat} {x:V},bE xs us->xs[i]?=some x->∃u,us[i]?=some u/\bK x u
 |_,_,_,_,.nil,e=>by simp at e
 |_,_,0,_,.cons r _,e=>by simp at e;subst e;exact⟨_,rfl,r⟩
 |_,_,i+1,x,.cons _ t,e=>by
  obtain⟨u,h1,h2⟩:=bE.get (i:=i) (x:=x) t (by simpa using e)
  exact⟨u,by simpa using h1,h2⟩
theorem bE.set{x:V}(r:bK x u):∀{xs:List V} {us:List Value} (i:Nat),bE xs us->bE (xs.set i x) (us.set i u)
 |_,_,_,.nil=>.nil
 |_,_,0,.cons _ t=>.cons r t
 |_,_,i+1,.cons q t=>.cons q (bE.set r i t)
theorem bE.append:∀{xs ys:List V} {us ws:List Value},bE xs us->bE ys ws->bE (xs++ys) (us++ws)
 |_,_,_,_,.nil,s=>s
 |_,_,_,_,.cons r t,s=>.cons r (bE.append t s)
theorem bE.take:∀{xs:List V} {us:List Value} (n:Nat),bE xs us->bE (xs.take n) (us.take n)
 |_,_,0,_=>.nil
 |_,_,_+1,.nil=>.nil
 |_,_,n+1,.cons r t=>.cons r (bE.take n t)
theorem bE.drop:∀{xs:List V} {us:List Value} (n:Nat),bE xs us->bE (xs.drop n) (us.drop n)
 |_,_,0,r=>r
 |_,_,_+1,.nil=>.nil
 |_,_,n+1,.cons _ t=>bE.drop n t
theorem bE.none_of:∀{xs:List V} {us:List Value} {i:Nat},bE xs us->xs[i]?=none->us[i]?=none:=fun{xs us i} r e=>by
 have h1:=r.length
 have h2:xs.length<=i:=j4.mp e
 exact j4.mpr (by omega)
def nw:Option V->Option Value->Prop
 |some v,some u=>bK v u
 |none,none=>True
 |_,_=>False
def KV{κ:Type}:List (κ×V)->List (κ×Value)->Prop:=Paired fun(p:κ×V) (q:κ×Value)=>p.1=q.1/\bK p.2 q.2
def kV:gF->V
 |.inl i=>.int i
 |.inr x=>.str x
inductive HO where
 /-- a list -/
 |lst (xs:List V)
 /-- a tuple (never changes) -/
 |tup (xs:List V)
 /-- a dict whose keys are ints and texts;one whose keys are tuples of ints and texts (the empty one is both) -/
 |dK (kvs:List (gF×V))|dT (kvs:List (List gF×V))
 /-- a set of ints: bd members,bd size -/
 |set (S:Int->Bool) (n:Nat)
 /-- an instance of the class at C,bd dict at dx,bd attributes -/
 |ins (C dx:Addr) (fs:List (Str×V))
 /-- the dict of the instance at x -/
 |own (x:Addr)
 /-- the dict of an exception -/
 |xd (fs:List (Str×V))
 /-- a bound method,f of x -/
 |met (f x:Addr)
 /-- a range object lo,lo+1,.. below hi -/
 |rng (lo hi:Int)
 /-- a thing that is known to the object (the script;a dict while a loop walks it): read,never written while it is so -/
 |frz (o:Obj) (u:HO)
 /-- a code object's table -/
 |tbl (ps:Array Value)
 /-- any other thing,by what is true of bd one object (a def of RF own: SetO a S n:=HO.ext fun h=>..) -/
 |ext (φ:Heap->Prop)
abbrev Hp:=Addr->Option HO
def da(H:Hp)(a:Addr)(o:HO):Hp:=fun b=>if b=a then some o else H b
theorem c5{H:Hp}{o:HO}:da H a o a=some o:=by unfold da;rw[aw rfl]
theorem bF{H:Hp}{o:HO}(h:b≠a):da H a o b=H b:=by unfold da;rw[ay h]
theorem Mu{H:Hp}{o u:HO}(h:H a=some o)(h':H b=some u)(d:o≠u):a≠b:=by
 intro e;subst e;rw[h]at h';exact d (aL h')
theorem dX{H:Hp}{o:HO}(h:H a=some o)(h':H b=none):a≠b:=by
 intro e;subst e;rw[h]at h';cases h'
section
variable(P:Program)(w:World)
def eV(H:Hp)(h:Heap)(a:Addr):HO->Prop
 |.lst xs=>xs.length<=sizeLine/\∃(bd:List Value) (n:Nat),bE xs bd/\h.get? a=some { cls:=.type "list",data:=.seq bd.toArray n }
 |.tup xs=>xs.length<=sizeLine/\∃bd:List Value,bE xs bd/\IsTup h a bd.toArray
 |.dK kvs=>kvs.length<=sizeLine/\(a==sysModules)=false/\∃vs,KV kvs vs/\h.DictOf (cX P w) a vs
 |.dT kvs=>kvs.length<=sizeLine/\(a==sysModules)=false/\∃xs:List (List gF×Addr×Value),
   Paired (fun(p:List gF×V) (q:List gF×Addr×Value)=>p.1=q.1/\H q.2.1=some (.tup (p.1.map kV))/\bK p.2 q.2.2) kvs xs /\
   ∃o es ep,h.get? a=some o/\o.ExactDict/\o.data=.dict es ep/\es.toList=xs.map (entryOfKey (tupleKind (cX P w)))/\(xs.map (·.1)).Nodup
 |.set S n=>h.SetOf (intKind P w) a S n
 |.ins C dx fs=>H dx=some (.own a)/\fs.length<=1000/\dx≠a/\h.get? a=some (instObj C dx) /\
   ∃mA,h.Ns1 dx mA/\(∀f,nw (fs.lookup f) (mA f))/\PySem.Within mA (fs.map (·.1))
 |.own _=>∃o,h.get? a=some o
 |.xd fs=>∃mA,h.Ns1 a mA/\∀f,nw (fs.lookup f) (mA f)
 |.rng lo hi=>∃t u v,h.get? a=some { cls:=.type "range",data:=.fields #[.int lo t,.int hi u,.int 1 v] }
 |.frz o u=>h.get? a=some o/\eV H h a u
 |.tbl ps=>h.get? a=some { cls:=.none,data:=.fields ps }
 |.met f x=>h.get? a=some (PySem.W.methodObj (.ref f) (.ref x))
 |.ext φ=>φ h/\(∃o,h.get? a=some o)/\∀h1 h2:Heap,φ h1->(∀o,h1.get? a=some o->h2.get? a=some o)->φ h2
def nh(H:Hp)(h:Heap):Prop:=∀a o,H a=some o->eV P w H h a o
end
section
variable{w:World}{H H':Hp}{h:Heap}{o:HO}
theorem eV.lt(x:eV P w H h a o):a<h.objs.size:=by
 cases o with
 |lst xs=>obtain⟨_,_,_,_,e⟩:=x;exact az e
 |tup xs=>obtain⟨_,_,_,p⟩:=x;exact p.lt
 |dK kvs=>obtain⟨_,_,_,_,o,_,_,e,_⟩:=x;exact az e
 |dT kvs=>obtain⟨_,_,_,_,o,_,_,e,_⟩:=x;exact az e
 |set S n=>obtain⟨o,_,_,_,e,_⟩:=x;exact az e
 |ins C dx fs=>obtain⟨_,_,_,e,_⟩:=x;exact az e
 |own y=>obtain⟨_,e⟩:=x;exact az e
 |xd fs=>obtain⟨_,⟨_,_,_,e,_⟩,_⟩:=x;exact az e
 |rng lo hi=>obtain⟨_,_,_,e⟩:=x;exact az e
 |frz ob u=>obtain⟨e,_⟩:=x;exact az e
 |tbl ps=>exact az (show h.get? a=some _ from x)
 |met f y=>exact az (show h.get? a=some _ from x)
 |ext φ=>obtain⟨_,⟨_,e⟩,_⟩:=x;exact az e
theorem Paired.mapP{F G:α->β->Prop}:∀{l₁:List α} {l₂:List β},Paired F l₁ l₂->(∀a b,F a b->G a b)->Paired G l₁ l₂
 |_,_,.nil,_=>.nil
 |_,_,.cons r t,f=>.cons (f _ _ r) (Paired.mapP t f)
theorem Paired.imp'{F G:α->β->Prop}(f:∀a b,F a b->G a b){l₁:List α}{l₂:List β}(r:Paired F l₁ l₂):Paired G l₁ l₂:=Paired.mapP r f
theorem eV.stay(x:eV P w H h a o)(k:∀b u,(b=a\/H b=some (.own a))->h.get? b=some u->h'.get? b=some u)
  (ho:∀b,H b=some (.own a)->H' b=some (.own a)) (ht:∀b xs,H b=some (.tup xs)->H' b=some (.tup xs)):eV P w H' h' a o:=by
 induction o with
 |lst xs=>obtain⟨z,bd,n,r,e⟩:=x;exact⟨z,bd,n,r,k _ _ (.inl rfl) e⟩
 |tup xs=>obtain⟨z,bd,r,ob,e,c⟩:=x;exact⟨z,bd,r,ob,k _ _ (.inl rfl) e,c⟩
 |dK kvs=>obtain⟨z,y,vs,r,ob,es,ep,e,c⟩:=x;exact⟨z,y,vs,r,ob,es,ep,k _ _ (.inl rfl) e,c⟩
 |dT kvs=>
  obtain⟨z,y,xs,r,ob,es,ep,e,c⟩:=x
  exact⟨z,y,xs,Paired.mapP r fun p q z=>⟨z.1,ht _ _ z.2.1,z.2.2⟩,ob,es,ep,k _ _ (.inl rfl) e,c⟩
 |set S n=>obtain⟨ob,es,ep,t,e,c⟩:=x;exact⟨ob,es,ep,t,k _ _ (.inl rfl) e,c⟩
 |ins C dx fs=>
  obtain⟨d,z,ne,e,mA,⟨od,es,ep,e2,c⟩,r⟩:=x
  exact⟨ho _ d,z,ne,k _ _ (.inl rfl) e,mA,⟨od,es,ep,k _ _ (.inr d) e2,c⟩,r⟩
 |own y=>obtain⟨ob,e⟩:=x;exact⟨ob,k _ _ (.inl rfl) e⟩
 |xd fs=>obtain⟨mA,⟨od,es,ep,e,c⟩,r⟩:=x;exact⟨mA,⟨od,es,ep,k _ _ (.inl rfl) e,c⟩,r⟩
 |rng lo hi=>obtain⟨t,u,v,e⟩:=x;exact⟨t,u,v,k _ _ (.inl rfl) e⟩
 |frz ob u ih=>obtain⟨e,q⟩:=x;exact⟨k _ _ (.inl rfl) e,ih q⟩
 |tbl ps=>
  have e:h.get? a=some { cls:=.none,data:=.fields ps }:=x
  show h'.get? a=some { cls:=.none,data:=.fields ps }
  exact k a _ (.inl rfl) e
 |met f y=>
  have e:h.get? a=some (PySem.W.methodObj (.ref f) (.ref y)):=x
  show h'.get? a=some (PySem.W.methodObj (.ref f) (.ref y))
  exact k a _ (.inl rfl) e
 |ext φ=>obtain⟨p,⟨o,e⟩,st⟩:=x;exact⟨st _ _ p fun o q=>k _ _ (.inl rfl) q,⟨o,k _ _ (.inl rfl) e⟩,st⟩
theorem nh.lt(x:nh P w H h)(e:H a=some o):a<h.objs.size:=(x a o e).lt
theorem nh.fresh(x:nh P w H h)(e:h.objs.size<=a):H a=none:=by
 cases q:H a with
 |none=>rfl
 |some u=>exact absurd (aI (x.lt q) e) (dr _)
theorem nh.kept(x:nh P w H h)(k:∀b u,h.get? b=some u->h'.get? b=some u):nh P w H h':=fun a o e=>
 (x a o e).stay (fun b u _ q=>k b u q) (fun _ q=>q) fun _ _ q=>q
theorem nh.laid(x:nh P w H h)(k:∀b u,h.get? b=some u->h'.get? b=some u)(hp:h.objs.size<=a)(new:eV P w (da H a o) h' a o):nh P w (da H a o) h':=fun b u e=>by
 have hn:=x.fresh hp
 by_cases hb:b=a
 ·subst hb;rw[c5]at e;cases e;exact new
 ·rw[bF hb]at e
  exact(x b u e).stay (fun c v _ q=>k c v q) (fun c q=>by rw[bF (dX q hn)];exact q) fun c xs q=>by rw[bF (dX q hn)];exact q
end
def Rd(H:Hp)(a:Addr)(u:HO):Prop:=H a=some u\/∃o,H a=some (.frz o u)
theorem Rd.of{H:Hp}{u:HO}(h:H a=some u):Rd H a u:=.inl h
theorem Rd.ok{w:World}{H:Hp}{h:Heap}{u:HO}(r:Rd H a u)(x:nh P w H h):eV P w H h a u:=by
 rcases r with r|⟨o,r⟩
 ·exact x a u r
 ·obtain⟨_,q⟩:=x a _ r
  exact q
def Mg:Option HO->Prop
 |some (.lst _)=>True
 |some (.dK _)=>True
 |some (.dT _)=>True
 |some (.set _ _)=>True
 |some (.ins _ _ _)=>True
 |some (.ext _)=>True
 |_=>False
section
variable{w:World}{H:Hp}{h:Heap}{x e:Addr}{o':HO}
theorem nh.write(ok:nh P w H h)(mu:Mg (H x))(he:e=x\/H e=some (.own x))(k:∀b u,b≠e->h.get? b=some u->h'.get? b=some u)(Mt:∃u,h'.get? e=some u)
  (new:eV P w (da H x o') h' x o'):nh P w (da H x o') h':=fun b u q=>by
 have nown:∀c y,H c=some (.own y)->c≠x:=fun c y r z=>by subst z;rw[r]at mu;exact mu
 have ntup:∀c xs,H c=some (.tup xs)->c≠x:=fun c xs r z=>by subst z;rw[r]at mu;exact mu
 by_cases hb:b=x
 ·subst hb;rw[c5]at q;cases q;exact new
 ·rw[bF hb]at q
  by_cases hbe:b=e
  ·have q':H b=some (.own x):=by
    rcases he with z|z
    ·exact absurd (hbe.trans z) hb
    ·rw[hbe];exact z
   rw[q]at q';cases q'
   obtain⟨v,hv⟩:=Mt
   exact⟨v,by rw[hbe];exact hv⟩
  ·refine(ok b u q).stay (fun c v hc r=>k c v ?_ r) (fun c r=>by rw[bF (nown c b r)];exact r) fun c xs r=>by rw[bF (ntup c xs r)];exact r
   rcases hc with rfl|hc
   ·exact hbe
   ·rintro rfl
    rcases he with z|z
    ·exact nown c b hc z
    ·rw[hc]at z;cases z;exact hb rfl
end
structure Un(fs ex:List Addr)(H H':Hp)(h h':Heap):Prop where
 keep:∀b o,h.get? b=some o->H b=none->b∉fs->b∉ex->h'.get? b=some o
 slot:∀b o,h.get? b=some o->H b=none->b∈fs->b∉ex->∃sl,h'.get? b=some { o with slots:=sl }
 free:∀b o,h.get? b=some o->H b=none->b∉ex->H' b=none
 there:∀b o,h.get? b=some o->b∉ex->∃o',h'.get? b=some o'
 tups:∀b xs,H b=some (.tup xs)->H' b=some (.tup xs)
 frzs:∀b o u,H b=some (.frz o u)->H' b=some (.frz o u)
 tbls:∀b ps,H b=some (.tbl ps)->∃more,H' b=some (.tbl (ps++more))
section
variable{fs L_ ex RJ:List Addr}{H H1 H2:Hp}{h h1 h2:Heap}{x e:Addr}{o:HO}
theorem Un.any(u:Un fs ex H H1 h h1){ob:Obj}(q:h.get? b=some ob)(n:H b=none)(hx:b∉ex):∃sl,h1.get? b=some { ob with slots:=sl }:=by
 by_cases hb:b∈fs
 ·exact u.slot b ob q n hb hx
 ·exact⟨ob.slots,u.keep b ob q n hb hx⟩
theorem Un.trans(a:Un fs ex H H1 h h1)(b:Un fs ex H1 H2 h1 h2):Un fs ex H H2 h h2 where
 keep:=fun c ob q n hc hx=>b.keep c ob (a.keep c ob q n hc hx) (a.free c ob q n hx) hc hx
 slot:=fun c ob q n hc hx=>by
  obtain⟨sl,e1⟩:=a.slot c ob q n hc hx
  obtain⟨sl',e2⟩:=b.slot c _ e1 (a.free c ob q n hx) hc hx
  exact⟨sl',e2⟩
 free:=fun c ob q n hx=>by
  obtain⟨o',e1⟩:=a.there c ob q hx
  exact b.free c o' e1 (a.free c ob q n hx) hx
 there:=fun c ob q hx=>by
  obtain⟨o',e1⟩:=a.there c ob q hx
  exact b.there c o' e1 hx
 tups:=fun c xs q=>b.tups c xs (a.tups c xs q)
 frzs:=fun c ob xs q=>b.frzs c ob xs (a.frzs c ob xs q)
 tbls:=fun c ps q=>by
  obtain⟨m1,e1⟩:=a.tbls c ps q
  obtain⟨m2,e2⟩:=b.tbls c _ e1
  exact⟨m1++m2,by rw[e2,Array.append_assoc]⟩
theorem Un.kept(k:∀b u,h.get? b=some u->h'.get? b=some u):Un fs ex H H h h':=
 ⟨fun b ob q _ _ _=>k b ob q,fun b ob q _ _ _=>⟨ob.slots,k b ob q⟩,fun _ _ _ n _=>n,fun b ob q _=>⟨ob,k b ob q⟩,fun _ _ q=>q,fun _ _ _ q=>q,fun _ ps q=>⟨#[],by rw[q];simp⟩⟩
theorem Un.refl:Un fs ex H H h h:=Un.kept fun _ _ q=>q
theorem Un.laid(k:∀b u,h.get? b=some u->h'.get? b=some u)(hp:h.objs.size<=a)(hn:H a=none):Un fs ex H (da H a o) h h' where
 keep:=fun b u q _ _ _=>k b u q
 slot:=fun b u q _ _ _=>⟨u.slots,k b u q⟩
 free:=fun b u q n _=>by rw[bF (aT (aI (az q) hp))];exact n
 there:=fun b u q _=>⟨u,k b u q⟩
 tups:=fun b xs q=>by rw[bF (dX q hn)];exact q
 frzs:=fun b u xs q=>by rw[bF (dX q hn)];exact q
 tbls:=fun b ps q=>⟨#[],by rw[bF (dX q hn),q];simp⟩
theorem Un.write(mu:Mg (H x))(he:e=x\/H e=some (.own x))(k:∀b u,b≠e->h.get? b=some u->h'.get? b=some u)(Mt:∃u,h'.get? e=some u):Un fs ex H (da H x o) h h':=by
 have hx:∀b,H b=none->b≠x:=fun b n z=>by subst z;rw[n]at mu;exact mu
 have hb:∀b,H b=none->b≠e:=fun b n z=>by
  subst z
  rcases he with r|r
  ·exact hx b n r
  ·rw[n]at r;cases r
 have hm:∀b u,H b=some u->¬ Mg (some u)->b≠x:=fun b u q nm z=>by subst z;rw[q]at mu;exact nm mu
 refine⟨fun b u q n _ _=>k b u (hb b n) q,fun b u q n _ _=>⟨u.slots,k b u (hb b n) q⟩,fun b u q n _=>by rw[bF (hx b n)];exact n,fun b u q _=>?_,
  fun b xs q=>by rw[bF (hm b _ q fun z=>z)];exact q,fun b u xs q=>by rw[bF (hm b _ q fun z=>z)];exact q,fun b ps q=>⟨#[],by rw[bF (hm b _ q fun z=>z),q];simp⟩⟩
 by_cases hbe:b=e
 ·subst hbe;exact Mt
 ·exact⟨u,k b u hbe q⟩
theorem Un.mono(u:Un fs ex H H1 h h1)(hs:∀b∈fs,b∈L_)(hx:∀b∈ex,b∈RJ):Un L_ RJ H H1 h h1:=
 ⟨fun b ob q n hb he=>u.keep b ob q n (fun z=>hb (hs b z)) fun z=>he (hx b z),fun _ _ q n _ he=>u.any q n fun z=>he (hx _ z),fun b ob q n he=>u.free b ob q n fun z=>he (hx b z),fun b ob q he=>u.there b ob q fun z=>he (hx b z),u.tups,u.frzs,u.tbls⟩
end
def Pm(h:Heap)(H:Hp):List Addr:=(List.range h.objs.size).filter fun a=>(H a).isSome
def u6(h:Heap)(H:Hp):Heap:=hideAll h (Pm h H)
theorem AU(h:Heap)(H:Hp):(u6 h H).objs.size=h.objs.size:=PySem.W.hideAll_size _ _
theorem BY{h:Heap}{H:Hp}{o:Obj}(e:h.get? b=some o)(n:H b=none):(u6 h H).get? b=some o:=
 PySem.W.hideAll_get _ e fun hm=>by
  have q:(H b).isSome=true:=(mo.mp hm).2
  rw[n]at q;simp at q
theorem Fq{h:Heap}{H:Hp}{o:Obj}(e:(u6 h H).get? b=some o):h.get? b=some o/\H b=none:=by
 have e':h.get? b=some o:=PySem.W.of_hideAll (Pm h H) e
 refine⟨e',?_⟩
 cases q:H b with
 |none=>rfl
 |some x=>
  have hm:b∈Pm h H:=mo.mpr ⟨bh.mpr (az e'),by simp[q]⟩
  have z:(u6 h H).get? b=none:=PySem.W.hideAll_none (Pm h H) hm
  rw[z]at e;cases e
def Fs(g h:Heap)(L:Addr):List (Addr×Obj):=(List.range h.objs.size).filterMap fun a=>if a=L\/(g.get? a).isSome=true then none else(h.get? a).map fun o=>(a,o)
def dw(g h:Heap)(L d:Addr):List (Addr×Obj):=(Fs g h L).filter fun p=>decide (p.1≠d)
structure Mod(K:Frag)(mg:Str->Option Value)(base:Heap):Prop where
 kin:K.In base
 glob:base.Ns mainGlobals mg
 blt:∃mb,base.Ns builtinsNs mb/\∀x:Str,x ≠ "__name__"->mb x=bootBuiltins x
 nolimit:base.NoLimit
/-- the context: a def's body (or a comprehension's block) running. base: fixed through the qx    law; s₀, H₀: the entry; outer: the frames whose slots others may change (a def's callers); stack: all frames that run;
   ex: iterators that were made ahead of the entry and are walked here (a comprehension's); fn: the names whose cells were made at the entry (a def: all; a comprehension's block: bd  own); calm: not within an except suite; pn: ac   that every state bears; xe: what is wanted of an exception that leaves the code -/
structure Cx where
 prog:Program
 w:World
 K:Frag
 mg:Str->Option Value
 base:Heap
 A:Around
 N:List Str
 s₀:Shared
 H₀:Hp
 env:Env
 outer:List Env
 stack:List Env
 ex:List Addr
 fn:Str->Bool
 calm:Bool
 pn:List (Addr×Obj)
 xe:Value->Shared->Prop
def qA(l:List Env):List Addr:=l.filterMap (·.frame)
abbrev Cx.fs(X:Cx):List Addr:=qA X.outer
def Mv(sc:Scope)(x:Str):Prop:=sc.names.lookup x=some .local\/sc.names.lookup x=some .cell\/sc.names.lookup x=some .free
def Ft(sc:Scope)(x:Str):Prop:=sc.names.lookup x=some .local\/sc.names.lookup x=some .cell
def P0(env:Env)(h:Heap)(m:Str->Option Value)(x:Str)(u:Value):Prop:=
 (env.kindOf x=some .local/\m x=some u)\/((env.kindOf x=some .cell\/env.kindOf x=some .free)/\∃c,env.cells.lookup x=some c/\h.IsCell c (some u))
structure Cx.Ok(X:Cx):Prop where
 mod:Mod X.K X.mg X.base
 kind:X.env.scope.kind=.function
 glob:X.env.globals=mainGlobals
 blt:X.env.builtins=builtinsNs
 above:X.s₀.heap.objs.size<=X.env.locals
 inj:∀x y c,X.env.cells.lookup x=some c->X.env.cells.lookup y=some c->x=y
 has:∀x,(X.env.kindOf x=some .cell\/X.env.kindOf x=some .free)->∃c,X.env.cells.lookup x=some c
 cab:∀x c,X.fn x=true->X.env.cells.lookup x=some c->X.s₀.heap.objs.size<=c
 hd:X.calm=true->X.A.handled=none
 frames:X.A.frames=some X.stack
 stk:X.stack=X.outer\/(X.stack=X.env::X.outer/\X.env.frame=some X.env.locals)
 exf:∀b∈X.ex,b≠X.env.locals/\∀x c,X.env.cells.lookup x=some c->c≠b
 bs:∀b o,X.base.get? b=some o->X.s₀.heap.get? b=some o/\X.H₀ b=none
 bsz:X.base.objs.size<=X.s₀.heap.objs.size
 noex:∀b o,X.base.get? b=some o->b∉X.ex
 exfs:∀b∈X.ex,b∉X.fs
 funs:X.s₀.heap.FunFrames X.base X.outer
 frf:∀b∈X.fs,X.H₀ b=none
structure bb(X:Cx)(ac:List (Addr×Obj))(σ:List (Option V))(H:Hp)(s:Shared):Prop where
 ok:X.Ok
 os:s.os=X.s₀.os
 bare:AllBare s.gens
 base:Un X.fs X.ex X.H₀ H X.s₀.heap s.heap
 loc:∃m,s.heap.Ns X.env.locals m/\∀(i:Nat) (x:Str) (v:V),X.N[i]?=some x->σ[i]?=some (some v)->Mv X.env.scope x->∃u,bK v u/\P0 X.env s.heap m x u
 cell:∀x c,X.env.cells.lookup x=some c->∃v,s.heap.IsCell c v
 free:H X.env.locals=none
 freeC:∀x c,X.env.cells.lookup x=some c->H c=none
 pin:∀p∈X.pn++ac,s.heap.get? p.1=some p.2/\H p.1=none/\p.1≠X.env.locals/\p.1∉X.fs/\∀v,p.2.data≠.cell v
 hok:nh X.prog X.w H s.heap
 len:σ.length=X.N.length
section
variable{X:Cx}{σ:List (Option V)}{H H':Hp}
theorem Cx.Ok.nofr(ok:X.Ok){o:Obj}(e:X.base.get? b=some o):b∉X.fs:=fun hb=>by
 have:=(ok.funs.mem hb).1
 rw[e]at this;cases this
theorem bb.bs(I:bb X ac σ H s):∀b o,X.base.get? b=some o->s.heap.get? b=some o/\H b=none:=fun b o e=>
 ⟨I.base.keep b o (I.ok.bs b o e).1 (I.ok.bs b o e).2 (I.ok.nofr e) (I.ok.noex b o e),I.base.free b o (I.ok.bs b o e).1 (I.ok.bs b o e).2 (I.ok.noex b o e)⟩
theorem bb.bk(I:bb X ac σ H s):∀b o,X.base.get? b=some o->s.heap.get? b=some o:=fun b o e=>(I.bs b o e).1
theorem bb.mod(I:bb X ac σ H s):Mod X.K X.mg X.base:=I.ok.mod
theorem bb.kIn(I:bb X ac σ H s):X.K.In s.heap:=I.ok.mod.kin.keeps I.bk
theorem bb.nolimit(I:bb X ac σ H s):s.heap.NoLimit:=I.ok.mod.nolimit.keeps I.bk
theorem bb.fr(I:bb X ac σ H s):∃m,Fr X.base X.env.locals s.heap m:=
 let ⟨m,hn,_⟩:=I.loc
 ⟨m,hn,I.bk,aQ I.ok.bsz I.ok.above⟩
theorem bb.lt(I:bb X ac σ H s):X.env.locals<s.heap.objs.size:=let ⟨_,hn,_⟩:=I.loc;hn.lt
theorem bb.sz(I:bb X ac σ H s):X.s₀.heap.objs.size<=s.heap.objs.size:=aQ I.ok.above (iD I.lt)
theorem bb.nofs(I:bb X ac σ H s)(h:s.heap.objs.size<=a):a∉X.fs:=fun hb=>by
 obtain⟨_,o,ho,_⟩:=I.ok.funs.mem hb
 exact absurd (aI (az ho) (aQ I.sz h)) (dr _)
theorem bb.cne(I:bb X ac σ H s):∀x c,X.env.cells.lookup x=some c->c≠X.env.locals:=fun x c e z=>by
 obtain⟨v,o,ho,hd⟩:=I.cell x c e
 obtain⟨m,⟨o',es,ep,ho',hd',_⟩,_⟩:=I.loc
 rw[z,ho']at ho;cases ho;rw[hd']at hd;cases hd
theorem bb.funs(I:bb X ac σ H s):s.heap.FunFrames X.base X.outer:=by
 have all:∀(l:List Env),(∀b∈qA l,b∈X.fs)->X.s₀.heap.FunFrames X.base l->s.heap.FunFrames X.base l:=by
  intro l
  induction l with
  |nil=>intro _ _;trivial
  |cons env r ih=>
   intro hs hl
   obtain⟨hk,⟨L,o,hf,hn,ho,hd⟩,hr⟩:=hl
   have hL:L∈X.fs:=hs L (by unfold qA;rw[dJ,hf];exact bW)
   obtain⟨sl,e⟩:=I.base.slot L o ho (I.ok.frf L hL) hL fun z=>I.ok.exfs L z hL
   exact⟨hk,⟨L,_,hf,hn,e,hd⟩,ih (fun b hb=>hs b (by unfold qA;rw[dJ,hf];exact aR _ hb)) hr⟩
 exact all X.outer (fun _ hb=>hb) I.ok.funs
theorem bb.stack(I:bb X ac σ H s):s.heap.FunFrames X.base X.stack:=by
 rcases I.ok.stk with e|⟨e,hf⟩
 ·rw[e];exact I.funs
 ·rw[e]
  obtain⟨m,hn,_⟩:=I.loc
  refine .cons (by rw[I.ok.kind];decide) hf hn ?_ I.funs
  exact Heap.get?_none_of_le (aQ I.ok.bsz I.ok.above)
theorem bb.stkSub(I:bb X ac σ H s):∀b∈qA X.stack,b∈X.env.locals::X.fs:=fun b hb=>by
 rcases I.ok.stk with e|⟨e,hf⟩
 ·rw[e]at hb;exact aR _ hb
 ·rw[e]at hb
  unfold qA at hb
  rw[dJ,hf]at hb
  exact hb
theorem bb.stkFree(I:bb X ac σ H s):∀b∈qA X.stack,H b=none:=fun b hb=>by
 rcases a_.mp (I.stkSub b hb)with e|hb
 ·rw[e];exact I.free
 ·obtain⟨_,o,ho,_⟩:=I.ok.funs.mem hb
  exact I.base.free b o ho (I.ok.frf b hb) fun z=>I.ok.exfs b z hb
theorem bb.step{g':Array GenState}{t':Nat}{d':Drawn}{ch:List Addr}(I:bb X ac σ H s)
  (Fp:∀b∈ch,(b∈X.ex\/X.s₀.heap.objs.size<=b)/\b≠X.env.locals/\(∀x c,X.env.cells.lookup x=some c->c≠b)/\∀p∈X.pn++ac,p.1≠b)
  (keep:∀b o,b≠X.env.locals->b∉X.fs->b∉ch->s.heap.get? b=some o->H b=none->h'.get? b=some o)
  (slot:∀b o,b≠X.env.locals->b∈X.fs->b∉ch->s.heap.get? b=some o->H b=none->∃sl,h'.get? b=some { o with slots:=sl }) (free:∀b o,b∉ch->s.heap.get? b=some o->H b=none->H' b=none)
  (there:∀b o,b∉ch->s.heap.get? b=some o->∃o',h'.get? b=some o')
  (tups:∀b xs,H b=some (.tup xs)->H' b=some (.tup xs)) (frzs:∀b o u,H b=some (.frz o u)->H' b=some (.frz o u)) (tbls:∀b ps,H b=some (.tbl ps)->∃more,H' b=some (.tbl (ps++more)))
  (ns:∀m,s.heap.Ns X.env.locals m->h'.Ns X.env.locals m) (hok:nh X.prog X.w H' h') (hg:AllBare g') :
  bb X ac σ H' { s with heap:=h',gens:=g',drawn:=d',toks:=t' }:=by
 have neL:∀b o,X.s₀.heap.get? b=some o->b≠X.env.locals:=fun b o e=>aT (aI (az e) I.ok.above)
 have neC:∀b o,X.s₀.heap.get? b=some o->b∉X.ex->b∉ch:=fun b o e hx hb=>by
  rcases(Fp b hb).1 with z|z
  ·exact hx z
  ·exact absurd (aI (az e) z) (dr _)
 have cellK:∀x c,X.env.cells.lookup x=some c->∀v,s.heap.IsCell c v->h'.IsCell c v:=fun x c e v ⟨o,ho,hd⟩=>by
  have nch:c∉ch:=fun z=>(Fp c z).2.2.1 x c e rfl
  by_cases hc:c∈X.fs
  ·obtain⟨sl,q⟩:=slot c o (I.cne x c e) hc nch ho (I.freeC x c e)
   exact⟨_,q,hd⟩
  ·exact⟨o,keep c o (I.cne x c e) hc nch ho (I.freeC x c e),hd⟩
 refine⟨I.ok,I.os,hg,⟨fun b o e n hb hx=>?_,fun b o e n hb hx=>?_,fun b o e n hx=>?_,fun b o e hx=>?_,fun b xs e=>tups b xs (I.base.tups b xs e),fun b o xs e=>frzs b o xs (I.base.frzs b o xs e),fun b ps e=>?_⟩,?_,fun x c e=>?_,?_,fun x c e=>?_,fun p hp=>?_,hok,I.len⟩
 ·exact keep b o (neL b o e) hb (neC b o e hx) (I.base.keep b o e n hb hx) (I.base.free b o e n hx)
 ·obtain⟨sl,e1⟩:=I.base.slot b o e n hb hx
  obtain⟨sl',e2⟩:=slot b _ (neL b o e) hb (neC b o e hx) e1 (I.base.free b o e n hx)
  exact⟨sl',e2⟩
 ·obtain⟨o',e1⟩:=I.base.there b o e hx
  exact free b o' (neC b o e hx) e1 (I.base.free b o e n hx)
 ·obtain⟨o',e1⟩:=I.base.there b o e hx
  exact there b o' (neC b o e hx) e1
 ·obtain⟨m1,e1⟩:=I.base.tbls b ps e
  obtain⟨m2,e2⟩:=tbls b _ e1
  exact⟨m1++m2,by rw[e2,Array.append_assoc]⟩
 ·obtain⟨m,hn,hl⟩:=I.loc
  refine⟨m,ns m hn,fun i x v e1 e2 e3=>?_⟩
  obtain⟨u,r,l⟩:=hl i x v e1 e2 e3
  refine⟨u,r,?_⟩
  rcases l with l|⟨k,c,e,z⟩
  ·exact .inl l
  ·exact .inr ⟨k,c,e,cellK x c e _ z⟩
 ·obtain⟨v,z⟩:=I.cell x c e
  exact⟨v,cellK x c e v z⟩
 ·obtain⟨m,⟨o,_,_,ho,_⟩,_⟩:=I.loc
  exact free _ o (fun z=>(Fp _ z).2.1 rfl) ho I.free
 ·obtain⟨v,o,ho,hd⟩:=I.cell x c e
  exact free c o (fun z=>(Fp c z).2.2.1 x c e rfl) ho (I.freeC x c e)
 ·obtain⟨e,n,ne,nf,d⟩:=I.pin p hp
  have nch:p.1∉ch:=fun z=>(Fp p.1 z).2.2.2 p hp rfl
  exact⟨keep p.1 p.2 ne nf nch e n,free p.1 p.2 nch e n,ne,nf,d⟩
theorem bb.un{t':Nat}(I:bb X ac σ H s)(u:Un X.fs [] H H' s.heap h')(hok:nh X.prog X.w H' h'):bb X ac σ H' { s with heap:=h',toks:=t' }:=by
 obtain⟨m,⟨o,es,ep,ho,r⟩,_⟩:=id I.loc
 obtain⟨sl,hL⟩:=u.any ho I.free (by simp)
 exact I.step (g':=s.gens) (d':=s.drawn) (ch:=[]) (fun _ z=>nomatch z) (fun b o _ hb _ e n=>u.keep b o e n hb (by simp)) (fun b o _ hb _ e n=>u.slot b o e n hb (by simp)) (fun b o _ e n=>u.free b o e n (by simp)) (fun b o _ e=>u.there b o e (by simp)) u.tups u.frzs u.tbls (fun m' hm=>by
  obtain⟨o',es',ep',ho',r'⟩:=hm
  rw[ho]at ho';cases ho'
  exact⟨_,es',ep',hL,r'⟩) hok I.bare
theorem bb.call{g':Array GenState}{t':Nat}{d':Drawn}{ch:List Addr}(I:bb X ac σ H s)(u:Un (qA X.stack) ch H H' s.heap h')(hok:nh X.prog X.w H' h')(hg:AllBare g')
  (Fp:∀b∈ch,(b∈X.ex\/X.s₀.heap.objs.size<=b)/\b≠X.env.locals/\(∀x c,X.env.cells.lookup x=some c->c≠b)/\∀p∈X.pn++ac,p.1≠b) :
  bb X ac σ H' { s with heap:=h',gens:=g',drawn:=d',toks:=t' }:=by
 obtain⟨m,⟨o,es,ep,ho,r⟩,_⟩:=id I.loc
 obtain⟨sl,hL⟩:=u.any ho I.free fun z=>(Fp _ z).2.1 rfl
 exact I.step (ch:=ch) Fp (fun b o hL hb hc e n=>u.keep b o e n (fun z=>(a_.mp (I.stkSub b z)).elim hL hb) hc) (fun b o _ _ hc e n=>u.any e n hc) (fun b o hc e n=>u.free b o e n hc) (fun b o hc e=>u.there b o e hc) u.tups u.frzs u.tbls (fun m' hm=>by
  obtain⟨o',es',ep',ho',r'⟩:=hm
  rw[ho]at ho';cases ho'
  exact⟨_,es',ep',hL,r'⟩) hok hg
theorem bb.turned{t':Nat}{it:Addr}(I:bb X ac σ H s)(k:∀b o,b≠it->s.heap.get? b=some o->h'.get? b=some o)(hn:H it=none)(hL:it≠X.env.locals)
  (h1:it∈X.ex\/X.s₀.heap.objs.size<=it) (h2:∀x c,X.env.cells.lookup x=some c->c≠it) (h3:∀p∈X.pn++ac,p.1≠it):bb X ac σ H { s with heap:=h',toks:=t' }:=by
 have nit:∀b u,H b=some u->b≠it:=fun b u e z=>by rw[z,hn]at e;cases e
 refine I.step (g':=s.gens) (d':=s.drawn) (ch:=[it]) (fun b hb=>?_) (fun b o _ _ hc e _=>k b o (fun z=>hc (by simp[z])) e) (fun b o _ _ hc e _=>⟨o.slots,k b o (fun z=>hc (by simp[z])) e⟩) (fun _ _ _ _ n=>n)
  (fun b o hc e=>⟨o,k b o (fun z=>hc (by simp[z])) e⟩) (fun _ _ e=>e) (fun _ _ _ e=>e) (fun b ps e=>⟨#[],by rw[e];simp⟩) (fun m hm=>?_) (fun b u e=>?_) I.bare
 ·have e:b=it:=by simpa using hb
  subst e
  exact⟨h1,hL,h2,h3⟩
 ·obtain⟨o,es,ep,ho,r⟩:=hm
  exact⟨o,es,ep,k _ o (Ne.symm hL) ho,r⟩
 ·refine(I.hok b u e).stay (fun c v hc q=>k c v ?_ q) (fun _ q=>q) fun _ _ q=>q
  rcases hc with z|z
  ·rw[z];exact nit b u e
  ·exact nit c _ z
theorem bb.tok(I:bb X ac σ H s)(t:Nat):bb X ac σ H { s with toks:=t }:=I.un (h':=s.heap) (t':=t) Un.refl I.hok
theorem bb.kept{t':Nat}(I:bb X ac σ H s)(k:∀b u,s.heap.get? b=some u->h'.get? b=some u):bb X ac σ H { s with heap:=h',toks:=t' }:=I.un (Un.kept k) (I.hok.kept k)
theorem bb.laid{a:Addr}{o:HO}{t':Nat}(I:bb X ac σ H s)(k:∀b u,s.heap.get? b=some u->h'.get? b=some u)(hp:s.heap.objs.size<=a)(new:eV X.prog X.w (da H a o) h' a o) :
  bb X ac σ (da H a o) { s with heap:=h',toks:=t' }:=I.un (Un.laid k hp (I.hok.fresh hp)) (I.hok.laid k hp new)
theorem bb.write{x e:Addr}{o:HO}(I:bb X ac σ H s)(mu:Mg (H x))(he:e=x\/H e=some (.own x))(k:∀b u,b≠e->s.heap.get? b=some u->h'.get? b=some u)(Mt:∃u,h'.get? e=some u)
  (new:eV X.prog X.w (da H x o) h' x o):bb X ac σ (da H x o) { s with heap:=h',toks:=t' }:=I.un (Un.write mu he k Mt) (I.hok.write mu he k Mt new)
theorem bb.pins_of{pins':List (Addr×Obj)}(I:bb X ac σ H s)(h:∀p∈pins',s.heap.get? p.1=some p.2/\H p.1=none/\p.1≠X.env.locals/\p.1∉X.fs/\∀v,p.2.data≠.cell v):bb X pins' σ H s:=
 ⟨I.ok,I.os,I.bare,I.base,I.loc,I.cell,I.free,I.freeC,fun p hp=>(cS.mp hp).elim (fun z=>I.pin p (gn _ z)) (h p),I.hok,I.len⟩
theorem wD{N:List Str}(hN:N.Nodup)(a:N[i]?=some x)(b:N[j]?=some x):i=j:=by
 obtain⟨h1,e1⟩:=ah.mp a
 obtain⟨h2,e2⟩:=ah.mp b
 exact(List.getElem_inj hN).mp (e1.trans e2.symm)
theorem AV{M:Model}{A:Around}{E:Value->Shared->Prop}{v:V}{Q:Unit->Shared->Prop}(I:bb X ac σ H s)(hN:X.N.Nodup)(hi:X.N[i]?=some x)(hx:Ft X.env.scope x)(r:bK v u)
  (h:∀s',bb X ac (σ.set i (some v)) H s'->(∃a,Heap.SameBut a s.heap s'.heap/\(a=X.env.locals\/X.env.cells.lookup x=some a))->Q () s') (hf:X.fn x=true\/X.env.scope.names.lookup x=some .local:=by first|exact .inl rfl|exact .inr rfl|assumption):wpAny M A (storeName X.env x u) Q E s:=by
 obtain⟨m,hn,hl⟩:=id I.loc
 have hcls:(X.env.scope.kind==.class||(X.env.scope.kind==.module&&X.env.locals != X.env.globals))=false:=by rw[I.ok.kind];rfl
 have hiσ:i<σ.length:=by rw[I.len];exact(ah.mp hi).1
 have cne:=I.cne
 have tracked:∀{a:Addr} {h':Heap},(∃o,s.heap.get? a=some o/\H a=none)->Heap.SameBut a s.heap h'->nh X.prog X.w H h':=fun{a h'} ha hs b ob e=>by
  obtain⟨_,_,hfree⟩:=ha
  refine(I.hok b ob e).stay (fun c w' hc q=>(hs.2 c ?_).trans q) (fun _ q=>q) fun _ _ q=>q
  rintro rfl
  rcases hc with rfl|hc
  ·rw[hfree]at e;cases e
  ·rw[hfree]at hc;cases hc
 rcases hx with hk|hk
 ·refine wpAny_storeName_local hk hn (fun h' hn' hs=>?_) hcls
  obtain⟨oL,_,_,hoL,_⟩:=id hn
  refine h _ ⟨I.ok,I.os,I.bare,⟨fun b o e n hb hx=>?_,fun b o e n hb hx=>?_,I.base.free,fun b o e hx=>?_,I.base.tups,I.base.frzs,I.base.tbls⟩,⟨_,hn',fun j y v' e1 e2 e3=>?_⟩,fun y c e=>?_,I.free,I.freeC,fun p hp=>?_,tracked ⟨oL,hoL,I.free⟩ hs,by simpa using I.len⟩ ⟨_,hs,.inl rfl⟩
  ·exact(hs.2 b (aT (aI (az e) I.ok.above))).trans (I.base.keep b o e n hb hx)
  ·obtain⟨sl,e1⟩:=I.base.slot b o e n hb hx
   exact⟨sl,(hs.2 b (aT (aI (az e) I.ok.above))).trans e1⟩
  ·obtain⟨o',e1⟩:=I.base.there b o e hx
   exact⟨o',(hs.2 b (aT (aI (az e) I.ok.above))).trans e1⟩
  ·by_cases hj:j=i
   ·subst hj
    rw[hi]at e1;cases e1
    rw[bz hiσ]at e2
    cases e2
    exact⟨u,r,.inl ⟨hk,by simp⟩⟩
   ·rw[bT (Ne.symm hj)]at e2
    obtain⟨u',r',q⟩:=hl j y v' e1 e2 e3
    refine⟨u',r',?_⟩
    rcases q with⟨k,e⟩|⟨k,c,e,z⟩
    ·refine .inl ⟨k,?_⟩
     have:y≠x:=fun e=>hj (wD hN e1 (e▸hi))
     simp[this,e]
    ·exact .inr ⟨k,c,e,z.sameBut hs (cne y c e)⟩
  ·obtain⟨w',z⟩:=I.cell y c e
   exact⟨w',z.sameBut hs (cne y c e)⟩
  ·obtain⟨e,n,ne,nf,d⟩:=I.pin p hp
   exact⟨(hs.2 p.1 ne).trans e,n,ne,nf,d⟩
 ·have hfn:X.fn x=true:=by
   rcases hf with z|z
   ·exact z
   ·rw[z]at hk;cases hk
  obtain⟨c,hc⟩:=I.ok.has x (.inl hk)
  obtain⟨w',z⟩:=I.cell x c hc
  refine wpAny_storeName_cell I.ok.kind hk hc z (fun h' hc' hs=>?_)
  obtain⟨oc,hoc,hocd⟩:=id z
  refine h { s with heap:=h' } ⟨I.ok,I.os,I.bare,⟨fun b o e n hb hx=>?_,fun b o e n hb hx=>?_,I.base.free,fun b o e hx=>?_,I.base.tups,I.base.frzs,I.base.tbls⟩,⟨m,hn.sameBut hs (Ne.symm (cne x c hc)),fun j y v' e1 e2 e3=>?_⟩,fun y c' e=>?_,I.free,I.freeC,fun p hp=>?_,tracked ⟨oc,hoc,I.freeC x c hc⟩ hs,by simpa using I.len⟩ ⟨c,hs,.inr hc⟩
  ·exact(hs.2 b (aT (aI (az e) (I.ok.cab x c hfn hc)))).trans (I.base.keep b o e n hb hx)
  ·obtain⟨sl,e1⟩:=I.base.slot b o e n hb hx
   exact⟨sl,(hs.2 b (aT (aI (az e) (I.ok.cab x c hfn hc)))).trans e1⟩
  ·obtain⟨o',e1⟩:=I.base.there b o e hx
   exact⟨o',(hs.2 b (aT (aI (az e) (I.ok.cab x c hfn hc)))).trans e1⟩
  ·by_cases hj:j=i
   ·subst hj
    rw[hi]at e1;cases e1
    rw[bz hiσ]at e2
    cases e2
    exact⟨u,r,.inr ⟨.inl hk,c,hc,hc'⟩⟩
   ·rw[bT (Ne.symm hj)]at e2
    obtain⟨u',r',q⟩:=hl j y v' e1 e2 e3
    refine⟨u',r',?_⟩
    rcases q with q|⟨k,c',e,z'⟩
    ·exact .inl q
    ·refine .inr ⟨k,c',e,z'.sameBut hs ?_⟩
     rintro rfl
     exact hj (wD hN e1 (I.ok.inj _ _ _ e hc▸hi))
  ·by_cases hcc:c'=c
   ·subst hcc;exact⟨_,hc'⟩
   ·obtain⟨w2,z2⟩:=I.cell y c' e
    exact⟨w2,z2.sameBut hs hcc⟩
  ·obtain⟨e,n,ne,nf,d⟩:=I.pin p hp
   refine⟨(hs.2 p.1 ?_).trans e,n,ne,nf,d⟩
   intro q
   rw[q,hoc]at e
   have q':oc=p.2:=aL e
   exact d w' (by rw[<- q'];exact hocd)
theorem wE{M:Model}{A:Around}{E:Value->Shared->Prop}{v:V}{Q:Unit->Shared->Prop}(I:bb X ac σ H s)(hN:X.N.Nodup)(hi:X.N[i]?=some x)(hx:Ft X.env.scope x)(r:bK v u)
  (h:∀s',bb X ac (σ.set i (some v)) H s'->Q () s') (hf:X.fn x=true\/X.env.scope.names.lookup x=some .local:=by first|exact .inl rfl|exact .inr rfl|assumption):wpAny M A (storeName X.env x u) Q E s:=
 AV I hN hi hx r (fun s' I' _=>h s' I') hf
theorem bb.call'{s':Shared}{ch:List Addr}(I:bb X ac σ H s)(ho:s'.os=s.os)(u:Un (qA X.stack) ch H H' s.heap s'.heap)(hok:nh X.prog X.w H' s'.heap)(hg:AllBare s'.gens)
  (Fp:∀b∈ch,(b∈X.ex\/X.s₀.heap.objs.size<=b)/\b≠X.env.locals/\(∀x c,X.env.cells.lookup x=some c->c≠b)/\∀p∈X.pn++ac,p.1≠b):bb X ac σ H' s':=by
 obtain⟨h',g',d',t',o'⟩:=s'
 have e:o'=s.os:=ho
 subst e
 exact I.call (g':=g') (t':=t') (d':=d') u hok hg Fp
end
abbrev XK:=Value->Option Addr->Hp->Prop
abbrev St:=List (Option V)
abbrev VK:=V->Hp->Prop
abbrev TE:=St->Hp->VK->Prop
abbrev TT:=St->Hp->(Bool->Hp->Prop)->Prop
abbrev TA:=St->Hp->(List V->Hp->Prop)->Prop
structure wF where
 nx:St->Hp->Prop
 rt:VK
 bk:St->Hp->Prop:=fun _ _=>False
 ct:St->Hp->Prop:=fun _ _=>False
abbrev TS:=wF->St->Hp->Prop
def EP(X:Cx)(ac:List (Addr×Obj))(σ:St)(Q:VK)(u:Value)(s':Shared):Prop:=∃v H',bb X ac σ H' s'/\bK v u/\Q v H'
def TP(X:Cx)(ac:List (Addr×Obj))(σ:St)(Q:Bool->Hp->Prop)(b:Bool)(s':Shared):Prop:=∃H',bb X ac σ H' s'/\Q b H'
def AP(X:Cx)(ac:List (Addr×Obj))(σ:St)(Q:List V->Hp->Prop)(us:List Value)(s':Shared):Prop:=∃vs H',bb X ac σ H' s'/\bE vs us/\Q vs H'
def SP(X:Cx)(ac:List (Addr×Obj))(D:wF)(f:Flow)(s':Shared):Prop:=
 match f with
 |.next=>∃σ' H',bb X ac σ' H' s'/\D.nx σ' H'
 |.brk=>∃σ' H',bb X ac σ' H' s'/\D.bk σ' H'
 |.cont=>∃σ' H',bb X ac σ' H' s'/\D.ct σ' H'
 |.ret u=>∃v σ' H',bb X ac σ' H' s'/\bK v u/\D.rt v H'
def PE(X:Cx)(e:Expr)(t:TE):Prop:=
 ∀(ac:List (Addr×Obj)) (s:Shared) (σ:St) (H:Hp) (Q:VK),bb X ac σ H s->t σ H Q->wpAny (model X.prog X.w) X.A (eval e X.env) (EP X ac σ Q) X.xe s
def PT(X:Cx)(e:Expr)(t:TT):Prop:=
 ∀(ac:List (Addr×Obj)) (s:Shared) (σ:St) (H:Hp) (Q:Bool->Hp->Prop),bb X ac σ H s->t σ H Q->wpAny (model X.prog X.w) X.A (isTrue e X.env (eval e X.env)) (TP X ac σ Q) X.xe s
def PW(X:Cx)(e:Expr)(t:TT):Prop:=
 ∀(qx:Sem Value) (ac:List (Addr×Obj)) (s:Shared) (σ:St) (H:Hp) (Q:Bool->Hp->Prop),bb X ac σ H s->t σ H Q->wpAny (model X.prog X.w) X.A (isTrue e X.env qx) (TP X ac σ Q) X.xe s
theorem PW.pt{X:Cx}{t:TT}(h:PW X e t):PT X e t:=h _
def PA(X:Cx)(es:List Expr)(t:TA):Prop:=
 ∀(pos:Pos) (ac:List (Addr×Obj)) (s:Shared) (σ:St) (H:Hp) (Q:List V->Hp->Prop),bb X ac σ H s->t σ H Q->wpAny (model X.prog X.w) X.A (spliced (backTo pos (starEach es X.env))) (AP X ac σ Q) X.xe s
def PS(X:Cx)(st:Stmt)(t:TS):Prop:=
 ∀(ac:List (Addr×Obj)) (s:Shared) (σ:St) (H:Hp) (D:wF),bb X ac σ H s->t D σ H->wpAny (model X.prog X.w) X.A (exec st X.env) (SP X ac D) X.xe s
def yq(X:Cx)(st:List Stmt)(t:TS):Prop:=
 ∀(ac:List (Addr×Obj)) (s:Shared) (σ:St) (H:Hp) (D:wF),bb X ac σ H s->t D σ H->wpAny (model X.prog X.w) X.A (execs st X.env) (SP X ac D) X.xe s
theorem fU{t:Sem α}{Q Q':α->Shared->Prop}(h:wpAny M A t Q E s)(hQ:∀a s,Q a s->Q' a s):wpAny M A t Q' E s:=dE h hQ fun _ _ x=>x
section
variable{X:Cx}
def Mw(i:Nat):TE:=fun σ H Q=>∃v,σ[i]?=some (some v)/\Q v H
def tC(v:V):TE:=fun _ H Q=>Q v H
theorem I_{pos:Pos}(hN:X.N[i]?=some x)(hv:Mv X.env.scope x)(hd:(x==("__debug__":Str))=false:=by decide)(zG:(x==("__classdict__":Str))=false:=by decide):PE X (.Name x pos) (Mw i):=by
 intro ac s σ H Q I h
 obtain⟨v,e,h⟩:=h
 obtain⟨m,hn,hl⟩:=I.loc
 obtain⟨u,r,l⟩:=hl i x v hN e hv
 have m5:EP X ac σ Q u s:=⟨v,H,I,r,h⟩
 rcases l with⟨hk,hm⟩|⟨hk,c,hc,gT⟩
 ·exact wpAny_Name (wpAny_loadName_local I.ok.kind hk hn hm m5) hd
 ·rcases hk with hk|hk
  ·exact wpAny_Name (wpAny_loadName_cell I.ok.kind hk hc gT m5) hd
  ·exact wpAny_Name (wpAny_loadName_free I.ok.kind hk hc gT m5 zG) hd
theorem Ja{i j pos}:PE X (.Constant (.int i) j pos) (tC (.int i)):=fun _ _ _ H _ I h=>wpAny_Constant_int ⟨.int i,H,I.tok _,⟨_,rfl⟩,h⟩
theorem Mx{b j pos}:PE X (.Constant (.bool b) j pos) (tC (.bl b)):=fun _ _ _ H _ I h=>Constant_bool ⟨.bl b,H,I,rfl,h⟩
theorem Jb{j pos}:PE X (.Constant .none j pos) (tC .non):=fun _ _ _ H _ I h=>nJ ⟨.non,H,I,rfl,h⟩
theorem Jc{x j pos}:PE X (.Constant (.str x) j pos) (tC (.str x)):=fun _ _ _ H _ I h=>Calls.Constant_str ⟨.str x,H,I.tok _,⟨_,rfl⟩,h⟩
def Gl(X:Cx)(x:Str):Prop:=X.env.kindOf x=some .globalImplicit
theorem qZ{E:Value->Shared->Prop}{σ:St}{H:Hp}{pos:Pos}(I:bb X ac σ H s)(hg:Gl X x)(hm:X.mg x=some u)(h:Q u s)
  (hd:(x==("__debug__":Str))=false:=by decide):wpAny (model X.prog X.w) X.A (eval (.Name x pos) X.env) Q E s:=
 jM I.ok.kind hg (Calls.loadGlobal_global (by rw[I.ok.glob];exact I.mod.glob.keeps I.bk) hm h) hd
theorem jG{E:Value->Shared->Prop}{σ:St}{H:Hp}{pos:Pos}(I:bb X ac σ H s)(hg:Gl X x)(hm:X.mg x=none)(hv:bootBuiltins x=some u)(h:Q u s)
  (hn:x ≠ "__name__":=by decide) (hd:(x==("__debug__":Str))=false:=by decide):wpAny (model X.prog X.w) X.A (eval (.Name x pos) X.env) Q E s:=by
 obtain⟨mb,h1,h2⟩:=I.mod.blt
 exact jM I.ok.kind hg (Calls.loadGlobal_builtin (by rw[I.ok.glob];exact I.mod.glob.keeps I.bk) hm (by rw[I.ok.blt];exact h1.keeps I.bk) ((h2 x hn).trans hv) h) hd
theorem Fu{v:V}{pos:Pos}(hg:Gl X x)(hm:X.mg x=some u)(r:bK v u)(hd:(x==("__debug__":Str))=false:=by decide):PE X (.Name x pos) (tC v):=
 fun _ _ _ H _ I h=>qZ I hg hm ⟨v,H,I,r,h⟩ hd
theorem Fv{v:V}{pos:Pos}(hg:Gl X x)(hm:X.mg x=none)(hv:bootBuiltins x=some u)(r:bK v u)(hn:x ≠ "__name__":=by decide)(hd:(x==("__debug__":Str))=false:=by decide):PE X (.Name x pos) (tC v):=
 fun _ _ _ H _ I h=>jG I hg hm hv ⟨v,H,I,r,h⟩ hn hd
variable{a b:Expr}{ta tb:TE}
def PC(X:Cx)(op:CmpOp)(a b:Expr)(t:TE):Prop:=
 ∀(ac:List (Addr×Obj)) (s:Shared) (σ:St) (H:Hp) (Q:VK),bb X ac σ H s->t σ H Q ->
  wpAny (model X.prog X.w) X.A (eval a X.env) (fun v s₁=>wpAny (model X.prog X.w) X.A (eval b X.env) (fun u s₂=>wpAny (model X.prog X.w) X.A (compareOp op v u) (EP X ac σ Q) X.xe s₂) X.xe s₁) X.xe s
theorem wG(b:Expr)(h:op≠.In)(h2:op≠.NotIn):behindInMarks op b=false:=by
 have e1:(op==CmpOp.In)=false:=by cases op<;>first|rfl|exact absurd rfl h
 have e2:(op==CmpOp.NotIn)=false:=by cases op<;>first|rfl|exact absurd rfl h2
 cases b<;>simp[behindInMarks,e1,e2]
def My(ta:TE):TE:=fun σ H Q=>ta σ H fun x H1=>Q (.bl (decide (x=.non))) H1
def Hl(ta:TE):TE:=fun σ H Q=>ta σ H fun x H1=>Q (.bl (!decide (x=.non))) H1
theorem bK.none_iff{x:V}{v:Value}(r:bK x v):(v==Value.none)=decide (x=.non):=by
 cases x with
 |non=>cases r;rfl
 |bl _=>cases r;rfl
 |int _=>obtain⟨t,rfl⟩:=r;rfl
 |str _=>obtain⟨t,rfl⟩:=r;rfl
 |byt _=>obtain⟨t,rfl⟩:=r;rfl
 |flt _=>obtain⟨t,rfl⟩:=r;rfl
 |ref _=>cases r;rfl
 |ty _=>cases r;rfl
theorem BZ{j gy}(ha:PE X a ta):PC X .Is a (.Constant .none j gy) (My ta):=by
 intro ac s σ H Q I h
 refine fU (ha ac s σ H _ I h) fun v s1 ⟨x,H1,I1,r1,q1⟩=>?_
 exact nJ (is_none_gen ⟨.bl _,H1,I1,by rw[r1.none_iff];rfl,q1⟩)
theorem Fw{j gy}(ha:PE X a ta):PC X .IsNot a (.Constant .none j gy) (Hl ta):=by
 intro ac s σ H Q I h
 refine fU (ha ac s σ H _ I h) fun v s1 ⟨x,H1,I1,r1,q1⟩=>?_
 exact nJ (isnot_none_gen ⟨.bl _,H1,I1,by rw[r1.none_iff];rfl,q1⟩)
def tB(t:TE):TT:=fun σ H Q=>t σ H fun x H1=>∃c,x=.bl c/\Q c H1
theorem Jd{t:TE}(h:PC X op a b t)(h1:behindInMarks op b=false:=by first|exact wG _ (by decide) (by decide)|rfl):PE X (.Compare a [op] [b] pos) t:=fun ac s σ H Q I hw=>wpAny_Compare1 (h ac s σ H Q I hw) h1
theorem B0{t:TE}(h:PC X op a b t)(h1:behindInMarks op b=false:=by first|exact wG _ (by decide) (by decide)|rfl):PT X (.Compare a [op] [b] pos) (tB t):=by
 intro ac s σ H Q I hw
 refine mI (fU (h ac s σ H _ I hw) fun v s1 h1=>fU h1 fun u s2 h2=>fU h2 fun c s3 ⟨x,H1,I1,r1,q1⟩=>?_) h1
 obtain⟨d,rfl,q⟩:=q1
 cases r1
 exact eZ ⟨H1,I1,q⟩
theorem Je{t:TE}(h:PE X e t)(he:∀qx,isTrue e X.env qx=(do let v <- qx;standAt e.pos;holding [v] (truthy v)):=by intro _;rfl):PT X e (tB t):=by
 intro ac s σ H Q I hw
 refine isTrue_plain (fU (h ac s σ H _ I hw) fun v s1 ⟨x,H1,I1,r1,q1⟩=>?_) (he _)
 obtain⟨d,rfl,q⟩:=q1
 cases r1
 exact eZ ⟨H1,I1,q⟩
variable{tA OV:TT}{dw:List Expr}
def P1(t u:TT):TT:=fun σ H Q=>t σ H fun c H1=>if c=true then u σ H1 Q else Q false H1
def RM(t u:TT):TT:=fun σ H Q=>t σ H fun c H1=>if c=true then Q true H1 else u σ H1 Q
def P2(t:TT):TT:=fun σ H Q=>t σ H fun c H1=>Q (!c) H1
theorem Fx(ha:PT X a tA):PW X (.BoolOp .And [a] pos) tA:=by
 intro wh ac s σ H Q I h
 refine isTrue_and (fU (ha ac s σ H Q I h) fun c s1 e=>?_)
 cases c with
 |true=>exact isTrue_and_nil e
 |false=>exact e
theorem Jf(ha:PT X a tA):PW X (.BoolOp .Or [a] pos) tA:=by
 intro wh ac s σ H Q I h
 refine isTrue_or (fU (ha ac s σ H Q I h) fun c s1 e=>?_)
 cases c with
 |false=>exact isTrue_or_nil e
 |true=>exact e
theorem Jg(ha:PT X a tA)(hb:PW X (.BoolOp .And (b::dw) pos) OV):PW X (.BoolOp .And (a::b::dw) pos) (P1 tA OV):=by
 intro wh ac s σ H Q I h
 refine isTrue_and (fU (ha ac s σ H _ I h) fun c s1 ⟨H1,I1,q1⟩=>?_)
 cases c with
 |true=>exact hb wh ac s1 σ H1 Q I1 q1
 |false=>exact⟨H1,I1,q1⟩
theorem Mz(ha:PT X a tA)(hb:PW X (.BoolOp .Or (b::dw) pos) OV):PW X (.BoolOp .Or (a::b::dw) pos) (RM tA OV):=by
 intro wh ac s σ H Q I h
 refine isTrue_or (fU (ha ac s σ H _ I h) fun c s1 ⟨H1,I1,q1⟩=>?_)
 cases c with
 |true=>exact⟨H1,I1,q1⟩
 |false=>exact hb wh ac s1 σ H1 Q I1 q1
theorem Jh(ha:PT X a tA):PT X (.UnaryOp .Not a pos) (P2 tA):=by
 intro ac s σ H Q I h
 exact isTrue_not (ha ac s σ H (fun c H1=>Q (!c) H1) I h)
def MA(ta tb:TE):TE:=fun σ H Q=>ta σ H fun x H1=>∃c,x=.bl c/\if c=true then tb σ H1 Q else Q (.bl false) H1
def MB(ta:TE):TE:=fun σ H Q=>ta σ H fun x H1=>∃c,x=.bl c/\Q (.bl (!c)) H1
theorem Ji{op}{t:TE}(h:PE X a t):PE X (.BoolOp op [a] pos) t:=fun ac s σ H Q I hw=>BoolOp_one (h ac s σ H Q I hw)
theorem Jj(ha:PE X a ta)(hb:PE X (.BoolOp .And (b::dw) pos) tb):PE X (.BoolOp .And (a::b::dw) pos) (MA ta tb):=by
 intro ac s σ H Q I h
 refine BoolOp_and (fU (ha ac s σ H _ I h) fun v s1 ⟨x,H1,I1,r1,q1⟩=>?_)
 obtain⟨c,rfl,q1⟩:=q1
 cases r1
 refine eZ ?_
 cases c with
 |true=>exact hb ac s1 σ H1 Q I1 q1
 |false=>exact⟨.bl false,H1,I1,rfl,q1⟩
theorem Jk(ha:PE X a ta):PE X (.UnaryOp .Not a pos) (MB ta):=by
 intro ac s σ H Q I h
 refine UnaryOp_ (fU (ha ac s σ H _ I h) fun v s1 ⟨x,H1,I1,r1,q1⟩=>?_)
 obtain⟨c,rfl,q1⟩:=q1
 cases r1
 exact not_of (eZ ⟨.bl (!c),H1,I1,rfl,q1⟩)
def RN(t:TT)(ta tb:TE):TE:=fun σ H Q=>t σ H fun c H1=>if c=true then ta σ H1 Q else tb σ H1 Q
theorem B1(hc:PT X c tA)(ha:PE X a ta)(hb:PE X b tb):PE X (.IfExp c a b pos) (RN tA ta tb):=by
 intro ac s σ H Q I h
 refine wpAny_IfExp (fU (hc ac s σ H _ I h) fun d s1 ⟨H1,I1,q1⟩=>?_)
 cases d with
 |true=>exact ha ac s1 σ H1 Q I1 q1
 |false=>exact hb ac s1 σ H1 Q I1 q1
end
def jr(K:Frag)(H:Hp)(a:Addr)(xs:List V):Prop:=
 Rd H a (.lst xs) \/
  ∃(o:Obj) (bd:Array Value) (n:Nat),K.lookup a=some o/\o.cls=.type "list"/\o.dict=none/\o.data=.seq bd n/\bd.size<=sizeLine/\bE xs bd.toList
def dW(K:Frag)(H:Hp)(a:Addr)(xs:List V):Prop:=
 Rd H a (.tup xs) \/
  ∃(o:Obj) (bd:Array Value) (n:Nat),K.lookup a=some o/\o.cls=.type "tuple"/\o.data=.seq bd n/\bd.size<=sizeLine/\bE xs bd.toList
def P3:Value->Option V
 |.none=>some .non
 |.bool b=>some (.bl b)
 |.int i _=>some (.int i)
 |.str x _=>some (.str x)
 |.bytes b _=>some (.byt b)
 |.float b _=>some (.flt b)
 |.ref a=>some (.ref a)
 |.type n=>some (.ty n)
 |_=>none
theorem bK.abs{x:V}(r:bK x u):P3 u=some x:=by
 cases x with
 |non=>cases r;rfl
 |bl _=>cases r;rfl
 |int _=>obtain⟨t,rfl⟩:=r;rfl
 |str _=>obtain⟨t,rfl⟩:=r;rfl
 |byt _=>obtain⟨t,rfl⟩:=r;rfl
 |flt _=>obtain⟨t,rfl⟩:=r;rfl
 |ref _=>cases r;rfl
 |ty _=>cases r;rfl
theorem bK.inj{x y:V}(r:bK x u)(q:bK y u):x=y:=aL (r.abs.symm.trans q.abs)
theorem bE.inj:∀{xs ys:List V} {us:List Value},bE xs us->bE ys us->xs=ys
 |_,_,_,.nil,.nil=>rfl
 |_,_,_,.cons r t,.cons r' t'=>by rw[r.inj r',bE.inj t t']
section
variable{X:Cx}{σ:St}{H:Hp}{xs ys:List V}
theorem jr.of(h:H a=some (.lst xs)):jr K H a xs:=.inl (.inl h)
theorem dW.of(h:H a=some (.tup xs)):dW K H a xs:=.inl (.inl h)
theorem bb.list(I:bb X ac σ H s)(h:jr X.K H a xs):∃bd:List Value,bE xs bd/\PlainL s.heap a bd.toArray/\xs.length<=sizeLine:=by
 rcases h with h|⟨o,bd,n,hk,hc,hd,hs,hz,r⟩
 ·obtain⟨z,bd,n,r,e⟩:=h.ok I.hok
  exact⟨bd,r,⟨_,n,e,rfl,rfl,rfl⟩,z⟩
 ·refine⟨bd.toList,r,⟨o,n,I.kIn a o hk,hc,hd,by simpa using hs⟩,?_⟩
  have e:=r.length
  simp only[fF]at e
  omega
theorem bb.tuple(I:bb X ac σ H s)(h:dW X.K H a xs):∃bd:List Value,bE xs bd/\IsTup s.heap a bd.toArray/\xs.length<=sizeLine:=by
 rcases h with h|⟨o,bd,n,hk,hc,hs,hz,r⟩
 ·obtain⟨z,bd,r,p⟩:=h.ok I.hok
  exact⟨bd,r,p,z⟩
 ·refine⟨bd.toList,r,⟨o,I.kIn a o hk,hc,n,by simpa using hs⟩,?_⟩
  have e:=r.length
  simp only[fF]at e
  omega
theorem bb.list_inj(I:bb X ac σ H s)(h:jr X.K H a xs)(h':jr X.K H a ys):xs=ys:=by
 obtain⟨bd,r,⟨o,n,e,_,_,d⟩,_⟩:=I.list h
 obtain⟨its',r',⟨o',n',e',_,_,d'⟩,_⟩:=I.list h'
 rw[e]at e';cases e'
 rw[d]at d'
 injection d' with d1 _
 have:bd=its':=by simpa using kZ Array.toList d1
 subst this
 exact r.inj r'
theorem bb.tuple_inj(I:bb X ac σ H s)(h:dW X.K H a xs)(h':dW X.K H a ys):xs=ys:=by
 obtain⟨bd,r,⟨o,e,_,n,d⟩,_⟩:=I.tuple h
 obtain⟨its',r',⟨o',e',_,n',d'⟩,_⟩:=I.tuple h'
 rw[e]at e';cases e'
 rw[d]at d'
 injection d' with d1 _
 have:bd=its':=by simpa using kZ Array.toList d1
 subst this
 exact r.inj r'
end
abbrev Cx.wish(X:Cx)(E:Value->Shared->Prop):Cx:={ X with xe:=E }
abbrev Cx.nox(X:Cx):Cx:=X.wish fun _ _=>False
theorem Cx.Ok.wish{X:Cx}(ok:X.Ok)(E:Value->Shared->Prop):(X.wish E).Ok:=
 ⟨ok.mod,ok.kind,ok.glob,ok.blt,ok.above,ok.inj,ok.has,ok.cab,ok.hd,ok.frames,ok.stk,ok.exf,ok.bs,ok.bsz,ok.noex,ok.exfs,ok.funs,ok.frf⟩
theorem Cx.Ok.unwish{X:Cx}(ok:(X.wish E).Ok):X.Ok:=
 ⟨ok.mod,ok.kind,ok.glob,ok.blt,ok.above,ok.inj,ok.has,ok.cab,ok.hd,ok.frames,ok.stk,ok.exf,ok.bs,ok.bsz,ok.noex,ok.exfs,ok.funs,ok.frf⟩
section
variable{X:Cx}{σ:St}{H:Hp}
theorem bb.wish(I:bb X ac σ H s)(E:Value->Shared->Prop):bb (X.wish E) ac σ H s:=⟨I.ok.wish E,I.os,I.bare,I.base,I.loc,I.cell,I.free,I.freeC,I.pin,I.hok,I.len⟩
theorem bb.unwish(I:bb (X.wish E) ac σ H s):bb X ac σ H s:=⟨I.ok.unwish,I.os,I.bare,I.base,I.loc,I.cell,I.free,I.freeC,I.pin,I.hok,I.len⟩
theorem SP.unwish{D:wF}{f:Flow}{s':Shared}(h:SP (X.wish E) ac D f s'):SP X ac D f s':=by
 cases f with
 |next=>obtain⟨σ',H',I,q⟩:=h;exact⟨σ',H',I.unwish,q⟩
 |brk=>obtain⟨σ',H',I,q⟩:=h;exact⟨σ',H',I.unwish,q⟩
 |cont=>obtain⟨σ',H',I,q⟩:=h;exact⟨σ',H',I.unwish,q⟩
 |ret u=>obtain⟨v,σ',H',I,r,q⟩:=h;exact⟨v,σ',H',I.unwish,r,q⟩
theorem PE.nox{t:TE}(h:PE X.nox e t):PE X e t:=fun ac s σ H Q I hw=>
 dE (h ac s σ H Q (I.wish _) hw) (fun _ _ ⟨v,H',I',r,q⟩=>⟨v,H',I'.unwish,r,q⟩) fun _ _ z=>False.elim z
theorem PT.nox{t:TT}(h:PT X.nox e t):PT X e t:=fun ac s σ H Q I hw=>
 dE (h ac s σ H Q (I.wish _) hw) (fun _ _ ⟨H',I',q⟩=>⟨H',I'.unwish,q⟩) fun _ _ z=>False.elim z
theorem yq.nox{st:List Stmt}{t:TS}(h:yq X.nox st t):yq X st t:=fun ac s σ H D I hw=>
 dE (h ac s σ H D (I.wish _) hw) (fun _ _ q=>q.unwish) fun _ _ z=>False.elim z
end
section
variable{X:Cx}{st:Stmt}{dw:List Stmt}{t u:TS}{te:TE}
def MC:TS:=fun D σ H=>D.nx σ H
def P4(t u:TS):TS:=fun D σ H=>t { D with nx:=u D } σ H
theorem Fy:yq X [] MC:=fun _ _ σ H _ I h=>mq ⟨σ,H,I,h⟩
theorem B2(h1:PS X st t)(h2:yq X dw u):yq X (st::dw) (P4 t u):=by
 intro ac s σ H D I h
 refine wpAny_execs_cons (fU (h1 ac s σ H { D with nx:=u D } I h) fun f s1 q=>?_)
 cases f with
 |next=>
  obtain⟨σ',H',I',q⟩:=q
  exact h2 ac s1 σ' H' D I' q
 |ret v=>exact q
 |brk=>exact q
 |cont=>exact q
theorem Fz(h1:PS X st t):yq X [st] t:=by
 intro ac s σ H D I h
 refine wpAny_execs_cons (fU (h1 ac s σ H D I h) fun f s1 q=>?_)
 cases f with
 |next=>exact mq q
 |ret v=>exact q
 |brk=>exact q
 |cont=>exact q
theorem bb.quiet{σ:St}{H:Hp}(I:bb X ac σ H s):interactive X.env=false:=by simp[interactive,I.ok.kind]
def MD(te:TE):TS:=fun D σ H=>te σ H fun _ H1=>D.nx σ H1
theorem FB(he:PE X e te)(hs:swapsWith e none pos.line X.env=pure false:=by rfl):PS X (.Expr e pos) (MD te):=by
 intro ac s σ H D I h
 exact wpAny_Expr_any (fU (he ac s σ H _ I h) fun v s1 ⟨x,H1,I1,r1,q1⟩=>⟨σ,H1,I1,q1⟩) I.quiet hs
def P5(te:TE):TS:=fun D σ H=>te σ H D.rt
theorem Jl(he:PE X e te):PS X (.Return (some e) pos) (P5 te):=by
 intro ac s σ H D I h
 exact wpAny_Return_some (fU (he ac s σ H _ I h) fun v s1 ⟨x,H1,I1,r1,q1⟩=>⟨x,σ,H1,I1,r1,q1⟩)
def P6(c:TT)(t u:TS):TS:=fun D σ H=>c σ H fun b H1=>if b=true then t D σ H1 else u D σ H1
theorem ME{a b:List Stmt}{tc:TT}(hc:PT X c tc)(ha:yq X a t)(hb:yq X b u):PS X (.If c a b pos) (P6 tc t u):=by
 intro ac s σ H D I h
 refine wpAny_If (fU (hc ac s σ H _ I h) fun d s1 ⟨H1,I1,q1⟩=>?_)
 cases d with
 |true=>exact ha ac s1 σ H1 D I1 q1
 |false=>exact hb ac s1 σ H1 D I1 q1
end
abbrev TG:=V->St->Hp->(St->Hp->Prop)->Prop
abbrev FC:=List V->St->Hp->(St->Hp->Prop)->Prop
def PG(X:Cx)(L3:Expr)(t:TG):Prop:=
 ∀(ac:List (Addr×Obj)) (s:Shared) (σ:St) (H:Hp) (v:V) (u:Value) (Q:St->Hp->Prop),bb X ac σ H s->bK v u->t v σ H Q ->
  wpAny (model X.prog X.w) X.A (assign L3 X.env u) (fun _ s'=>∃σ' H',bb X ac σ' H' s'/\Q σ' H') X.xe s
def Hm(X:Cx)(ts:List Expr)(t:FC):Prop:=
 ∀(ac:List (Addr×Obj)) (s:Shared) (σ:St) (H:Hp) (vs:List V) (us:List Value) (Q:St->Hp->Prop),bb X ac σ H s->bE vs us->t vs σ H Q ->
  wpAny (model X.prog X.w) X.A (assignInOrder ((assignEach ts X.env).map (·.2)) us) (fun _ s'=>∃σ' H',bb X ac σ' H' s'/\Q σ' H') X.xe s
abbrev FD:=V->V->V->Hp->(Hp->Prop)->Prop
def AW(X:Cx)(t:FD):Prop:=
 ∀(ac:List (Addr×Obj)) (s:Shared) (σ:St) (H:Hp) (o i v:V) (ov iv u:Value) (Q:Hp->Prop),bb X ac σ H s->bK o ov->bK i iv->bK v u->t o i v H Q ->
  wpAny (model X.prog X.w) X.A (setItem ov iv u) (fun _ s'=>∃H',bb X ac σ H' s'/\Q H') X.xe s
section
variable{X:Cx}
def Ho(i:Nat):TG:=fun v σ H Q=>Q (σ.set i (some v)) H
theorem FF(hN:X.N.Nodup)(hi:X.N[i]?=some x)(hx:Ft X.env.scope x)(hf:X.fn x=true\/X.env.scope.names.lookup x=some .local:=by first|exact .inl rfl|exact .inr rfl|assumption):PG X (.Name x pos) (Ho i):=by
 intro ac s σ H v u Q I r h
 exact wpAny_assign_Name (wE I hN hi hx r (fun s' I'=>⟨_,H,I',h⟩) hf)
def P8:FC:=fun vs σ H Q=>vs=[]/\Q σ H
def MF(t:TG)(u:FC):FC:=fun vs σ H Q=>∃v r,vs=v::r/\t v σ H fun σ' H'=>u r σ' H' Q
theorem FH:Hm X [] P8:=by
 intro ac s σ H vs us Q I r h
 obtain⟨e,h⟩:=h
 subst e
 cases r
 exact assignInOrder_nil ⟨σ,H,I,h⟩
theorem B3{t:TG}{u:FC}(h1:PG X e t)(h2:Hm X es u)
  (hs:(assignEach (e::es) X.env).map (·.2)=assign e X.env::(assignEach es X.env).map (·.2):=by rfl):Hm X (e::es) (MF t u):=by
 intro ac s σ H vs us Q I r h
 obtain⟨v,vr,e1,h⟩:=h
 subst e1
 cases r with
 |cons r rr=>
  rw[hs]
  refine assignInOrder_cons (fU (h1 ac s σ H _ _ _ I r h) fun _ s1 ⟨σ1,H1,I1,q1⟩=>?_)
  exact h2 ac s1 σ1 H1 _ _ Q I1 rr q1
def P9(K:Frag)(n:Nat)(t:FC):TG:=fun v σ H Q=>∃a xs,v=.ref a/\dW K H a xs/\xs.length=n/\t xs σ H Q
theorem Jm{k:Nat}{t:FC}(hc:X.calm=true)(h:Hm X es t)
  (hn:(assignEach es X.env).length=n:=by rfl) (mO:(assignEach es X.env).findIdx? (·.1)=none:=by rfl):PG X (.Tuple es k pos) (P9 X.K n t):=by
 intro ac s σ H v u Q I r hw
 obtain⟨a,xs,e1,hq,hl,hw⟩:=hw
 subst e1
 cases r
 obtain⟨bd,rv,ht,hz⟩:=I.tuple hq
 refine assign_Tuple_tuple (I.ok.hd hc) ht (by simp[hn,<- hl,rv.length]) mO fun h' hx=>?_
 have I1:bb X ac σ H { s with heap:=h' }:=I.kept (t':=s.toks) fun b o e=>hx b o (aT (az e)) e
 exact h ac _ σ H xs _ Q I1 (by simpa using rv) hw
def P_(to ti:TE)(t:FD):TG:=fun v σ H Q=>to σ H fun o H1=>ti σ H1 fun i H2=>t o i v H2 fun H3=>Q σ H3
theorem Jn{i:Expr}{to ti:TE}{t:FD}(ho:PE X o to)(hi:PE X i ti)(hs:AW X t)
  (ha:∀v,assign (.Subscript o i pos) X.env v=(do
   let ov <- holding [v] (eval o X.env)
   let iv <- holding [v,ov] (eval i X.env)
   standAt pos
   holding [v,ov,iv] (setItem ov iv v)
   release [v,ov,iv] []):=by intro _;rfl):PG X (.Subscript o i pos) (P_ to ti t):=by
 intro ac s σ H v u Q I r h
 rw[ha]
 refine aa (fY (fU (ho ac s σ H _ I h) fun ov s1 ⟨x,H1,I1,r1,q1⟩=>?_))
 refine aa (fY (fU (hi ac s1 σ H1 _ I1 q1) fun iv s2 ⟨y,H2,I2,r2,q2⟩=>?_))
 refine aa (nK (aa (fY (fU (hs ac s2 σ H2 x y v ov iv u _ I2 r1 r2 r q2) fun _ s3 ⟨H3,I3,q3⟩=>?_))))
 exact wpAny_release ⟨σ,H3,I3,q3⟩
def FJ(te:TE)(g:TG):TS:=fun D σ H=>te σ H fun x H1=>g x σ H1 D.nx
theorem Jo{te:TE}{g:TG}(he:PE X e te)(hg:PG X tg g)(hs:swapsWithSole [tg] e pos.line X.env=pure false:=by rfl)(hw:swappedStores [tg] e X.env=pure none:=by rfl)
  (h1:(assignEach [tg] X.env).map (·.2)=[assign tg X.env]:=by rfl):PS X (.Assign [tg] e pos) (FJ te g):=by
 intro ac s σ H D I h
 refine wpAny_Assign_stores (fU (he ac s σ H _ I h) fun v s1 ⟨x,H1,I1,r1,q1⟩=>?_) hs hw
 rw[h1]
 exact fU (hg ac s1 σ H1 x v _ I1 r1 q1) fun _ s2 q=>q
theorem Jp{te:TE}(hN:X.N.Nodup)(hi:X.N[i]?=some x)(hx:Ft X.env.scope x)(he:PE X e te)(hs:swapsWith e (some (.Name x gy)) pos.line X.env=pure false:=by rfl)(hf:X.fn x=true\/X.env.scope.names.lookup x=some .local:=by first|exact .inl rfl|exact .inr rfl|assumption) :
  PS X (.Assign [.Name x gy] e pos) (FJ te (Ho i)):=by
 intro ac s σ H D I h
 refine wpAny_Assign_Name (fU (he ac s σ H _ I h) fun v s1 ⟨y,H1,I1,r1,q1⟩=>?_) hs
 exact wE I1 hN hi hx r1 (fun s2 I2=>⟨_,H1,I2,q1⟩) hf
end
section
variable{X:Cx}
end
structure It where
 go:Nat->Hp->Prop
 yld:Nat->Hp->V->Hp->Prop
 stop:Nat->Hp->Prop
def nP(X:Cx)(ac:List (Addr×Obj))(H:Hp)(b:Addr):Prop:=
 H b=none/\b≠X.env.locals/\b∉X.fs/\(b∈X.ex\/X.s₀.heap.objs.size<=b)/\(∀x c,X.env.cells.lookup x=some c->c≠b)/\∀p∈X.pn++ac,p.1≠b
theorem bb.fpOk{X:Cx}{σ:St}{H H':Hp}(I:bb X ac σ H s)(hb:s.heap.objs.size<=b)(hn:H' b=none):nP X ac H' b:=by
 refine⟨hn,fP (aI I.lt hb),I.nofs hb,.inr (aQ I.sz hb),fun x c e z=>?_,fun p hp z=>?_⟩
 ·obtain⟨v,q⟩:=I.cell x c e
  exact absurd (aI q.lt (by rw[z];exact hb)) (dr _)
 ·exact absurd (aI (az (I.pin p hp).1) (by rw[z];exact hb)) (dr _)
structure rK(P:Program)(w:World)(K:Frag)(tg:Expr)(J:It)(fp:List Addr)(it:Addr)(tn:Nat->Heap->Prop):Prop where
 mem:it∈fp
 obj:∀i h,tn i h->∀b∈fp,∃o,h.get? b=some o/\∀v,o.data≠.cell v
 keep:∀i h h',tn i h->(∀b∈fp,∀o,h.get? b=some o->h'.get? b=some o)->tn i h'
 item:∀(X:Cx),X.prog=P->X.w=w->X.K=K->X.calm=true->∀(i:Nat) (ac:List (Addr×Obj)) (s:Shared) (σ:St) (H:Hp) (E:Value->Shared->Prop),bb X ac σ H s->(∀b∈fp,nP X ac H b)->tn i s.heap->J.go i H ->
  wpAny (model P w) X.A (pyNext (.ref it)) (fun r s1=>∃u,r=some u /\
   wpAny (model P w) X.A (letOwnedTupleGo tg (.ref it) u) (fun _ s2=>∃x H',bb X ac σ H' s2/\bK x u/\J.yld i H x H'/\tn (i+1) s2.heap/\∀b∈fp,H' b=none) E s1) E s
 done:∀(X:Cx),X.prog=P->X.w=w->X.K=K->X.calm=true->∀(i:Nat) (ac:List (Addr×Obj)) (s:Shared) (σ:St) (H:Hp) (E:Value->Shared->Prop),bb X ac σ H s->(∀b∈fp,nP X ac H b)->tn i s.heap->J.stop i H ->
  wpAny (model P w) X.A (pyNext (.ref it)) (fun r s1=>r=none/\bb X ac σ H s1) E s
 self:∀(A:Around) (i:Nat) (s:Shared) (Q:Value->Shared->Prop) (E:Value->Shared->Prop),tn i s.heap->Q (.ref it) s->wpAny (model P w) A (pyIter (.ref it)) Q E s
abbrev TI:=St->Hp->(It->Hp->Prop)->Prop
def Pn(X:Cx)(ac:List (Addr×Obj))(σ:St)(tg:Expr)(R:It->Hp->Prop)(Rh:Value)(s2:Shared):Prop:=
 ∃(it:Addr) (fp:List Addr) (tn:Nat->Heap->Prop) (J:It) (H':Hp),Rh=.ref it/\bb X ac σ H' s2/\rK X.prog X.w X.K tg J fp it tn/\tn 0 s2.heap/\(∀b∈fp,nP X ac H' b)/\R J H'
def PI(X:Cx)(tg cx:Expr)(wi:TI):Prop:=
 ∀(ac:List (Addr×Obj)) (s:Shared) (σ:St) (H:Hp) (R:It->Hp->Prop),bb X ac σ H s->wi σ H R ->
  wpAny (model X.prog X.w) X.A (eval cx X.env) (fun v s1=>wpAny (model X.prog X.w) X.A (pyIter v) (Pn X ac σ tg R) X.xe s1) X.xe s
theorem zR      {E:Value -> Shared -> Prop} {s:Shared}    {o:Obj} {n:String} {vs:Array Value} {Q:Unit -> Shared -> Prop} (ho : s.heap.get? it = some o) (hc : o.cls = .type n) (hd : o.data = .fields vs)
    (hn : ["enumerate", "zip", "dict_itemiterator", "dict_reverseitemiterator", "odict_iterator", "itertools.zip_longest", "itertools.pairwise"].contains n = false) (hQ : Q () s) : wpAny M A (letOwnedTupleGo tg (.ref it) u) Q E s := by
  unfold letOwnedTupleGo
  cases tg <;> first
    | exact ar         hQ
    | (cases u <;> first
        | exact ar         hQ
        | (refine aa         (wpAny_load ho ?_)
           rw [hc, hd]
           show wpAny M A (if (["enumerate", "zip", "dict_itemiterator", "dict_reverseitemiterator", "odict_iterator", "itertools.zip_longest", "itertools.pairwise"].contains n && vs[0]? == some (rawInt _)) = true then _ else _) Q E s
           rw [ay     (by intro h; rw [hn, Bool.false_and] at h; cases h)]
           exact ar         hQ))
def Rn(K:Frag)(a:Addr):It:=
 ⟨fun i H=>∃xs x,jr K H a xs/\xs[i]?=some x,fun i H x H'=>H'=H/\∀xs,jr K H a xs->xs[i]?=some x,fun i H=>∃xs,jr K H a xs/\xs.length<=i⟩
def Ro(K:Frag)(a:Addr):It:=
 ⟨fun i H=>∃xs x,dW K H a xs/\xs[i]?=some x,fun i H x H'=>H'=H/\∀xs,dW K H a xs->xs[i]?=some x,fun i H=>∃xs,dW K H a xs/\xs.length<=i⟩
def MG(lo:Int)(n:Nat):It:=⟨fun i _=>i<n,fun i H x H'=>H'=H/\x=.int (lo+i),fun i _=>n<=i⟩
theorem AX{w:World}(a it:Addr):rK P w K tg (Rn K a) [it] it (fun i h=>h.IsListIter it a i) where
 mem:=by simp
 obj:=fun i h st b hb=>by
  have e:b=it:=by simpa using hb
  subst e
  obtain⟨o,e,c,d⟩:=st
  exact⟨o,e,fun v z=>by rw[d]at z;cases z⟩
 keep:=fun i h h' st k=>st.at fun o e=>k it (by simp) o e
 item:=by
  intro X hP hw hK hc i ac s σ H E I hf st hg
  subst hP hw hK
  obtain⟨xs,x,hq,hx⟩:=hg
  obtain⟨bd,rv,p,hz⟩:=I.list hq
  obtain⟨u,hu,ru⟩:=rv.get hx
  obtain⟨f0,f1,f2,f3,f4,f5⟩:=hf it (by simp)
  refine wpAny_pyNext_list_item st p.isList (x:=u) (by simpa using hu) fun h' br sb=>?_
  have I1:bb X ac σ H { s with heap:=h' }:=I.turned (t':=s.toks) (fun b o hb e=>(sb.2 b hb).trans e) f0 f1 f3 f4 f5
  obtain⟨o,e,c,d⟩:=id br
  exact⟨u,rfl,zR (s:={ s with heap:=h' }) e c d (by decide) ⟨x,H,I1,ru,⟨rfl,fun ys hy=>by rw[I.list_inj hy hq];exact hx⟩,br,fun b hb=>(hf b hb).1⟩⟩
 done:=by
  intro X hP hw hK hc i ac s σ H E I hf st hg
  subst hP hw hK
  obtain⟨xs,hq,hx⟩:=hg
  obtain⟨bd,rv,p,hz⟩:=I.list hq
  obtain⟨f0,f1,f2,f3,f4,f5⟩:=hf it (by simp)
  have hl:=rv.length
  exact wpAny_pyNext_list_end (I.ok.hd hc) st p.isList (by simp;omega) fun h' eb=>⟨rfl,I.turned (t':=s.toks) (fun b o hb e=>eb b o hb e) f0 f1 f3 f4 f5⟩
 self:=fun _ _ _ _ _ st h=>wpAny_pyIter_listiter st h
theorem yw{w:World}(a it:Addr):rK P w K tg (Ro K a) [it] it (fun i h=>h.IsTupleIter it a i) where
 mem:=by simp
 obj:=fun i h st b hb=>by
  have e:b=it:=by simpa using hb
  subst e
  obtain⟨o,e,c,d⟩:=st
  exact⟨o,e,fun v z=>by rw[d]at z;cases z⟩
 keep:=fun i h h' st k=>st.at fun o e=>k it (by simp) o e
 item:=by
  intro X hP hw hK hc i ac s σ H E I hf st hg
  subst hP hw hK
  obtain⟨xs,x,hq,hx⟩:=hg
  obtain⟨bd,rv,p,hz⟩:=I.tuple hq
  obtain⟨u,hu,ru⟩:=rv.get hx
  obtain⟨f0,f1,f2,f3,f4,f5⟩:=hf it (by simp)
  refine wpAny_pyNext_tuple_item st (show s.heap.IsTuple a bd.toArray from p) (x:=u) (by simpa using hu) fun h' br sb=>?_
  have I1:bb X ac σ H { s with heap:=h' }:=I.turned (t':=s.toks) (fun b o hb e=>(sb.2 b hb).trans e) f0 f1 f3 f4 f5
  obtain⟨o,e,c,d⟩:=id br
  exact⟨u,rfl,zR (s:={ s with heap:=h' }) e c d (by decide) ⟨x,H,I1,ru,⟨rfl,fun ys hy=>by rw[I.tuple_inj hy hq];exact hx⟩,br,fun b hb=>(hf b hb).1⟩⟩
 done:=by
  intro X hP hw hK hc i ac s σ H E I hf st hg
  subst hP hw hK
  obtain⟨xs,hq,hx⟩:=hg
  obtain⟨bd,rv,p,hz⟩:=I.tuple hq
  obtain⟨f0,f1,f2,f3,f4,f5⟩:=hf it (by simp)
  have hl:=rv.length
  exact wpAny_pyNext_tuple_end (I.ok.hd hc) st (show s.heap.IsTuple a bd.toArray from p) (by simp;omega) fun h' eb=>⟨rfl,I.turned (t':=s.toks) (fun b o hb e=>eb b o hb e) f0 f1 f3 f4 f5⟩
 self:=fun _ _ _ _ _ st h=>wpAny_pyIter_tupleiter st h
theorem yx{w:World}(it:Addr)(lo:Int)(n:Nat):rK P w K tg (MG lo n) [it] it (fun i h=>IsRangeIter h it (lo+(i:Nat)*1) ((n:Int)-(i:Nat)) 1) where
 mem:=by simp
 obj:=fun i h st b hb=>by
  have e:b=it:=by simpa using hb
  subst e
  exact⟨_,st,fun v z=>by
   have z':Data.fields _=Data.cell v:=z
   cases z'⟩
 keep:=fun i h h' st k=>k it (by simp) _ st
 item:=by
  intro X hP hw hK hc i ac s σ H E I hf st hg
  subst hP hw hK
  obtain⟨f0,f1,f2,f3,f4,f5⟩:=hf it (by simp)
  have W:=Walks.range (prog:=X.prog) (w:=X.w) (I.ok.hd hc) it lo 1 n
  refine W.item i s _ _ hg st fun v h' tk hv br kk=>?_
  obtain⟨t,rfl⟩:=hv
  have I1:bb X ac σ H { s with heap:=h',toks:=tk }:=I.turned (fun b o hb e=>kk b o (by simpa using hb) e) f0 f1 f3 f4 f5
  refine⟨_,rfl,zR (s:={ s with heap:=h',toks:=tk }) (n:="range_iterator") br rfl rfl (by decide) ⟨.int (lo+i),H,I1,⟨t,?_⟩,⟨rfl,rfl⟩,br,fun b hb=>(hf b hb).1⟩⟩
  rw[Int.mul_one]
 done:=by
  intro X hP hw hK hc i ac s σ H E I hf st hg
  subst hP hw hK
  obtain⟨f0,f1,f2,f3,f4,f5⟩:=hf it (by simp)
  exact wpAny_pyNext_range_end (I.ok.hd hc) st (by have:n<=i:=hg;omega) fun h' eb=>⟨rfl,I.turned (t':=s.toks) (fun b o hb e=>eb b o hb e) f0 f1 f3 f4 f5⟩
 self:=fun _ _ _ _ _ st h=>lU st h
section
variable{X:Cx}
def MH(K:Frag)(tl:TE):TI:=fun σ H R=>tl σ H fun x H1=>∃a,x=.ref a/\(∃xs,jr K H1 a xs)/\R (Rn K a) H1
def P'(K:Frag)(tl:TE):TI:=fun σ H R=>tl σ H fun x H1=>∃a,x=.ref a/\(∃xs,dW K H1 a xs)/\R (Ro K a) H1
theorem FK{l:Expr}{tl:TE}(hl:PE X l tl):PI X tg l (MH X.K tl):=by
 intro ac s σ H R I h
 refine fU (hl ac s σ H _ I h) fun v s1 ⟨x,H1,I1,r1,q1⟩=>?_
 obtain⟨a,e,⟨xs,hq⟩,q⟩:=q1
 subst e
 cases r1
 obtain⟨bd,rv,p,hz⟩:=I1.list hq
 refine gj p.isList ?_
 refine⟨s1.heap.objs.size,[s1.heap.objs.size],_,_,H1,rfl,I1.kept (t':=s1.toks) fun b o e=>ai _ e,AX a _,⟨_,ao _ rfl,rfl,rfl⟩,fun b hb=>?_,q⟩
 have e:b=s1.heap.objs.size:=by simpa using hb
 subst e
 exact I1.fpOk (av _) (I1.hok.fresh (av _))
theorem Jq{l:Expr}{tl:TE}(hl:PE X l tl):PI X tg l (P' X.K tl):=by
 intro ac s σ H R I h
 refine fU (hl ac s σ H _ I h) fun v s1 ⟨x,H1,I1,r1,q1⟩=>?_
 obtain⟨a,e,⟨xs,hq⟩,q⟩:=q1
 subst e
 cases r1
 obtain⟨bd,rv,p,hz⟩:=I1.tuple hq
 refine d8 (show s1.heap.IsTuple a bd.toArray from p) ?_
 refine⟨s1.heap.objs.size,[s1.heap.objs.size],_,_,H1,rfl,I1.kept (t':=s1.toks) fun b o e=>ai _ e,yw a _,⟨_,ao _ rfl,rfl,rfl⟩,fun b hb=>?_,q⟩
 have e:b=s1.heap.objs.size:=by simpa using hb
 subst e
 exact I1.fpOk (av _) (I1.hok.fresh (av _))
theorem wH{σ:St}{H:Hp}{R:It->Hp->Prop}{lo hi:Int}{t u v:Tok}{tk:Nat}(I:bb X ac σ H s)(h1:-(2^62)<=lo)(h2:lo<2^62)(h3:-(2^62)<=hi)(h4:hi<2^62)
  (q:R (MG lo (hi-lo).toNat) H):wpAny (model X.prog X.w) X.A (pyIter (.ref s.heap.objs.size)) (Pn X ac σ tg R) E { s with heap:=s.heap.push { cls:=.type "range",data:=.fields #[.int lo t,.int hi u,.int 1 v] },toks:=tk }:=by
 refine wpAny_pyIter_range (IsRange.new ..) (small_one h1 h2 h3 h4) ?_
 have I1:bb X ac σ H { s with heap:=s.heap.push { cls:=.type "range",data:=.fields #[.int lo t,.int hi u,.int 1 v] },toks:=tk }:=I.kept fun b o e=>ai _ e
 refine⟨(s.heap.push { cls:=.type "range",data:=.fields #[.int lo t,.int hi u,.int 1 v] }).objs.size,[(s.heap.push { cls:=.type "range",data:=.fields #[.int lo t,.int hi u,.int 1 v] }).objs.size],_,_,H,rfl,
  I1.kept (t':=tk) fun b o e=>ai _ e,yx _ lo (hi-lo).toNat,?_,fun b hb=>?_,q⟩
 ·have e1:lo+((0:Nat):Int)*1=lo:=by simp
  have e2:(((hi-lo).toNat:Nat):Int)-((0:Nat):Int)=Builtin.Range.rangeSize lo hi 1:=by rw[rangeSize_one];split<;>omega
  show IsRangeIter _ _ (lo+((0:Nat):Int)*1) ((((hi-lo).toNat:Nat):Int)-((0:Nat):Int)) 1
  rw[e1,e2]
  exact ao _ rfl
 ·have e:b=(s.heap.push { cls:=.type "range",data:=.fields #[.int lo t,.int hi u,.int 1 v] }).objs.size:=by simpa using hb
  subst e
  exact I1.fpOk (av _) (I1.hok.fresh (av _))
def MI(ta:TA):TI:=fun σ H R=>ta σ H fun vs H1=>∃j:Int,vs=[.int j]/\-(2^62)<=j/\j<2^62/\R (MG 0 j.toNat) H1
def MJ(ta:TA):TI:=fun σ H R=>ta σ H fun vs H1=>∃i j:Int,vs=[.int i,.int j]/\(-(2^62)<=i/\i<2^62/\-(2^62)<=j/\j<2^62)/\R (MG i (j-i).toNat) H1
theorem AY{a:Expr}{ta:TA}{p pos:Pos}(hg:Gl X "range")(hm:X.mg "range"=none)(ha:PA X [a] ta)(hs:starEach [a] X.env=[(false,eval a X.env)]:=by rfl):PI X tg (.Call (.Name "range" p) [a] [] pos) (MI ta):=by
 intro ac s σ H R I h
 refine Call_ (jG I hg hm boot_range (bv (fU (ha pos ac s σ H _ I h) fun us s1 ⟨vs,H1,I1,r1,q1⟩=>?_) hs rfl))
 obtain⟨j,e,q1,q2,q⟩:=q1
 subst e
 cases r1 with
 |cons r rr=>
  cases rr
  obtain⟨t,rfl⟩:=r
  exact call_range_1 (wH I1 (by omega) (by omega) q1 q2 (by simpa using q))
theorem AZ{a b:Expr}{ta:TA}{p pos:Pos}(hg:Gl X "range")(hm:X.mg "range"=none)(ha:PA X [a,b] ta)(hs:starEach [a,b] X.env=[(false,eval a X.env),(false,eval b X.env)]:=by rfl)(rJ:starEach [b] X.env=[(false,eval b X.env)]:=by rfl) :
  PI X tg (.Call (.Name "range" p) [a,b] [] pos) (MJ ta):=by
 intro ac s σ H R I h
 refine Call_ (jG I hg hm boot_range (bv (fU (ha pos ac s σ H _ I h) fun us s1 ⟨vs,H1,I1,r1,q1⟩=>?_) (by rw[hs,rJ]) (by rw[rJ];rfl)))
 obtain⟨i,j,e,⟨q1,q2,q3,q4⟩,q⟩:=q1
 subst e
 cases r1 with
 |cons r rr=>
  cases rr with
  |cons r' rr=>
   cases rr
   obtain⟨t,rfl⟩:=r
   obtain⟨t',rfl⟩:=r'
   exact call_range_2 (wH I1 q1 q2 q3 q4 q)
def Qa(wi:TI)(g:TG)(tb:TS):TS:=fun D σ H=>wi σ H fun J H1=>∃W:Nat->Nat->St->Hp->Prop,(∃m,W 0 m σ H1)/\∀i m σ H,W i m σ H ->
 (J.stop i H/\D.nx σ H)\/(J.go i H/\∃N:St->Hp->Prop,(∀σ' H',N σ' H'->∃m',m'<m/\W (i+1) m' σ' H')/\∀x H',J.yld i H x H'->g x σ H' fun σ2 H2=>tb { D with nx:=N,ct:=N,bk:=D.nx } σ2 H2)
def u7(fp:List Addr)(h:Heap):List (Addr×Obj):=fp.filterMap fun b=>(h.get? b).map fun o=>(b,o)
theorem iV{h:Heap}{o:Obj}(hb:b∈fp)(e:h.get? b=some o):(b,o)∈u7 fp h:=jN.mpr ⟨b,hb,by rw[e];rfl⟩
theorem A0{h:Heap}{p:Addr×Obj}(hp:p∈u7 fp h):p.1∈fp/\h.get? p.1=some p.2:=by
 obtain⟨b,hb,e⟩:=jN.mp hp
 cases q:h.get? b with
 |none=>rw[q]at e;cases e
 |some o=>
  rw[q]at e
  have e':(b,o)=p:=aL e
  subst e'
  exact⟨hb,q⟩
theorem bb.pinned{σ:St}{H:Hp}(I:bb X ac σ H s)(hf:∀b∈fp,nP X ac H b)(ho:∀b∈fp,∃o,s.heap.get? b=some o/\∀v,o.data≠.cell v):bb X (ac++u7 fp s.heap) σ H s:=
 I.pins_of fun p hp=>(cS.mp hp).elim (fun z=>I.pin p (aP _ z)) fun z=>by
  obtain⟨hb,e⟩:=A0 z
  obtain⟨f0,f1,f2,_⟩:=hf p.1 hb
  obtain⟨o,e',d⟩:=ho p.1 hb
  rw[e]at e';cases e'
  exact⟨e,f0,f1,f2,d⟩
theorem bb.unpinned{pl:List (Addr×Obj)}{σ:St}{H:Hp}(I:bb X (ac++pl) σ H s):bb X ac σ H s:=I.pins_of fun p hp=>I.pin p (aP _ (gn _ hp))
theorem Jr{wi:TI}{g:TG}{tb:TS}{pos:Pos}(hp:PassesOwn (model X.prog X.w) X.A X.env X.xe)(hc:X.calm=true)(hi:PI X tg cx wi)(hg:PG X tg g)(hb:yq X body tb)
  (hs:∀x,foldedSetIterable cx X.env x=pure x:=by intro _;rfl):PS X (.For tg cx body [] pos) (Qa wi g tb):=by
 intro ac s σ H D I h
 refine wpAny_For (fU (hi ac s σ H _ I h) fun v s1 h1=>fU h1 fun Rh s2 h2=>?_) hs
 obtain⟨it,fp,tn,J,H2,e,I2,T,dq,f2,W,⟨m0,w0⟩,turn⟩:=h2
 subst e
 have stat:∀{H':Hp},(∀b∈fp,H' b=none)->∀b∈fp,nP X ac H' b:=fun hn b hb=>⟨hn b hb,(f2 b hb).2⟩
 refine codeAny_forLoop_any (fun n s'=>∃i σ' H',bb X ac σ' H' s'/\tn i s'.heap/\(∀b∈fp,H' b=none)/\W i n σ' H') ?_ m0 ⟨0,σ,H2,I2,dq,fun b hb=>(f2 b hb).1,w0⟩
 rintro n s3 ⟨i,σ3,H3,I3,mn,fr3,w3⟩
 rcases turn i n σ3 H3 w3 with⟨stop,qn⟩|⟨go,N,hN,step⟩
 ·refine gX hp (fU (T.done X rfl rfl rfl hc i ac s3 σ3 H3 X.xe I3 (stat fr3) mn stop) fun r s4 ⟨hr,I4⟩=>?_)
  subst hr
  exact mq ⟨σ3,H3,I4,qn⟩
 ·refine gX hp (fU (T.item X rfl rfl rfl hc i ac s3 σ3 H3 X.xe I3 (stat fr3) mn go) fun r s4 ⟨u,hr,h4⟩=>?_)
  subst hr
  refine gX hp (fU h4 fun _ s5 ⟨x,H5,I5,r5,y5,st5,fr5⟩=>?_)
  have I5':=I5.pinned (stat fr5) (T.obj _ _ st5)
  refine gX hp (fU (hg _ s5 σ3 H5 x u _ I5' r5 (step x H5 y5)) fun _ s6 ⟨σ6,H6,I6,q6⟩=>?_)
  refine gX hp (fU (hb _ s6 σ6 H6 _ I6 q6) fun f s7 q7=>?_)
  have again:∀{σ7:St} {H7:Hp},bb X (ac++u7 fp s5.heap) σ7 H7 s7->N σ7 H7->∃m,m<n/\∃i σ' H',bb X ac σ' H' s7/\tn i s7.heap/\(∀b∈fp,H' b=none)/\W i m σ' H':=fun{σ7 H7} I7 n7=>by
   obtain⟨m',hm,w7⟩:=hN σ7 H7 n7
   refine⟨m',hm,i+1,σ7,H7,I7.unpinned,T.keep _ _ _ st5 fun b hb o e=>(I7.pin (b,o) (aP _ (aP _ (iV hb e)))).1,fun b hb=>?_,w7⟩
   obtain⟨o,e,d⟩:=T.obj _ _ st5 b hb
   exact(I7.pin (b,o) (aP _ (aP _ (iV hb e)))).2.1
  cases f with
  |next=>obtain⟨σ7,H7,I7,n7⟩:=q7;exact again I7 n7
  |cont=>obtain⟨σ7,H7,I7,n7⟩:=q7;exact again I7 n7
  |brk=>obtain⟨σ7,H7,I7,q7⟩:=q7;exact⟨σ7,H7,I7.unpinned,q7⟩
  |ret v=>obtain⟨x7,σ7,H7,I7,r7,q7⟩:=q7;exact⟨x7,σ7,H7,I7.unpinned,r7,q7⟩
end
abbrev R2:=V->V->Hp->VK->Prop
def kJ(X:Cx)(f:Value->Value->Sem Value)(r:R2):Prop:=
 ∀(ac:List (Addr×Obj)) (s:Shared) (σ:St) (H:Hp) (x y:V) (v u:Value) (Q:VK),bb X ac σ H s->bK x v->bK y u->r x y H Q ->
  wpAny (model X.prog X.w) X.A (f v u) (EP X ac σ Q) X.xe s
def Qb(X:Cx)(f:Value->Sem Value)(r:V->Hp->VK->Prop):Prop:=
 ∀(ac:List (Addr×Obj)) (s:Shared) (σ:St) (H:Hp) (x:V) (v:Value) (Q:VK),bb X ac σ H s->bK x v->r x H Q ->
  wpAny (model X.prog X.w) X.A (f v) (EP X ac σ Q) X.xe s
def ik(X:Cx)(f:Value)(r:List V->Hp->VK->Prop):Prop:=
 ∀(ac:List (Addr×Obj)) (s:Shared) (σ:St) (H:Hp) (xs:List V) (us:List Value) (Q:VK),bb X ac σ H s->bE xs us->r xs H Q ->
  wpAny (model X.prog X.w) X.A (call f us) (EP X ac σ Q) X.xe s
def MK(r:R2)(ta tb:TE):TE:=fun σ H Q=>ta σ H fun x H1=>tb σ H1 fun y H2=>r x y H2 Q
def RO(r:V->Hp->VK->Prop)(ta:TE):TE:=fun σ H Q=>ta σ H fun x H1=>r x H1 Q
def rI(C:Int->Int->Prop)(g:Int->Int->V):R2:=fun x y H Q=>∃i j,x=.int i/\y=.int j/\C i j/\Q (g i j) H
def Fi(g:Int->Int->V):R2:=fun x y H Q=>∃i j,x=.int i/\y=.int j/\Q (g i j) H
def rU(g:Int->V):V->Hp->VK->Prop:=fun x H Q=>∃i,x=.int i/\Q (g i) H
section
variable{X:Cx}{a b:Expr}{ta tb tc:TE}
theorem Js(ha:PE X a ta)(hb:PE X b tb){σ:St}{H:Hp}{R:V->V->Hp->Prop}(I:bb X ac σ H s)
  (h:ta σ H fun x H1=>tb σ H1 fun y H2=>R x y H2) {Q:Value->Shared->Prop} {f:Value->Value->Sem Value}
  (hf:∀v u s2 x y H2,bb X ac σ H2 s2->bK x v->bK y u->R x y H2->wpAny (model X.prog X.w) X.A (f v u) Q X.xe s2) :
  wpAny (model X.prog X.w) X.A (eval a X.env) (fun v s₁=>wpAny (model X.prog X.w) X.A (eval b X.env) (fun u s₂=>wpAny (model X.prog X.w) X.A (f v u) Q X.xe s₂) X.xe s₁) X.xe s:=by
 refine fU (ha ac s σ H _ I h) fun v s1 ⟨x,H1,I1,r1,q1⟩=>?_
 refine fU (hb ac s1 σ H1 _ I1 q1) fun u s2 ⟨y,H2,I2,r2,q2⟩=>?_
 exact hf v u s2 x y H2 I2 r1 r2 q2
theorem ML{op:Operator}{r:R2}(ho:kJ X (binaryOp op) r)(ha:PE X a ta)(hb:PE X b tb):PE X (.BinOp a op b pos) (MK r ta tb):=by
 intro ac s σ H Q I h
 exact wpAny_BinOp (Js ha hb I h fun v u s2 x y H2 I2 rx ry q=>ho ac s2 σ H2 x y v u Q I2 rx ry q)
theorem MM{op:UnaryOp}{r:V->Hp->VK->Prop}(ho:Qb X (unaryOp op) r)(ha:PE X a ta):PE X (.UnaryOp op a pos) (RO r ta):=by
 intro ac s σ H Q I h
 exact UnaryOp_ (fU (ha ac s σ H _ I h) fun v s1 ⟨x,H1,I1,r1,q1⟩=>ho ac s1 σ H1 x v Q I1 r1 q1)
theorem Mh{C:Int->Int->Prop}{g:Int->Int->Int}
  (rule:∀(i j:Int) (t u:Tok) (s:Shared) (Q:Value->Shared->Prop) (E:Value->Shared->Prop),C i j->Q (.int (g i j) s.toks) { s with toks:=s.toks+1 }->wpAny (model X.prog X.w) X.A (f (.int i t) (.int j u)) Q E s) :
  kJ X f (rI C fun i j=>.int (g i j)):=by
 intro ac s σ H x y v u Q I rx ry h
 obtain⟨i,j,rfl,rfl,hc,q⟩:=h
 obtain⟨t,rfl⟩:=rx
 obtain⟨t',rfl⟩:=ry
 exact rule i j t t' s _ _ hc ⟨.int (g i j),H,I.tok _,⟨_,rfl⟩,q⟩
theorem Jt{g:Int->Int->Int}
  (rule:∀(i j:Int) (t u:Tok) (s:Shared) (Q:Value->Shared->Prop) (E:Value->Shared->Prop),Q (.int (g i j) s.toks) { s with toks:=s.toks+1 }->wpAny (model X.prog X.w) X.A (f (.int i t) (.int j u)) Q E s) :
  kJ X f (Fi fun i j=>.int (g i j)):=by
 intro ac s σ H x y v u Q I rx ry h
 obtain⟨i,j,rfl,rfl,q⟩:=h
 obtain⟨t,rfl⟩:=rx
 obtain⟨t',rfl⟩:=ry
 exact rule i j t t' s _ _ ⟨.int (g i j),H,I.tok _,⟨_,rfl⟩,q⟩
theorem Ju{g:Int->Int->Bool}
  (rule:∀(i j:Int) (t u:Tok) (s:Shared) (Q:Value->Shared->Prop) (E:Value->Shared->Prop),Q (.bool (g i j)) s->wpAny (model X.prog X.w) X.A (f (.int i t) (.int j u)) Q E s) :
  kJ X f (Fi fun i j=>.bl (g i j)):=by
 intro ac s σ H x y v u Q I rx ry h
 obtain⟨i,j,rfl,rfl,q⟩:=h
 obtain⟨t,rfl⟩:=rx
 obtain⟨t',rfl⟩:=ry
 exact rule i j t t' s _ _ ⟨.bl (g i j),H,I,rfl,q⟩
def Qc(i j:Int):Prop:=0<j/\j<1073741824
def Jv(i j:Int):Prop:=0<=j/\j<=1000000/\i.natAbs<2^64
def Jw(i j:Int):Prop:=(-(2^64)<i/\i<2^64)\/(-(2^64)<j/\j<2^64)
theorem Jw.ok{i j:Int}(h:Jw i j):IntMulOk i j:=by
 rcases h with⟨h1,h2⟩|⟨h1,h2⟩
 ·exact .of_left (intBits_le_64 h1 h2)
 ·exact .of_right (intBits_le_64 h1 h2)
theorem yy(k:Nat):(0:Int)<=2^k:=by
 rw[two_pow_cast]
 exact Int.natCast_nonneg _
theorem Jx:kJ X (binaryOp .Add) (Fi fun i j=>.int (i+j)):=Jt fun _ _ _ _ _ _ _ q=>add_int q
theorem Jy:kJ X (binaryOp .Sub) (Fi fun i j=>.int (i-j)):=Jt fun _ _ _ _ _ _ _ q=>sub_int q
theorem Jz:kJ X (binaryOp .Mult) (rI Jw fun i j=>.int (i*j)):=Mh fun _ _ _ _ _ _ _ hc q=>mul_int q hc.ok
theorem FL:kJ X (binaryOp .FloorDiv) (rI Qc fun i j=>.int (i/j)):=Mh fun i j _ _ _ _ _ hc q=>by
 have h1:(0:Int)<j:=hc.1
 have h2:j<1073741824:=hc.2
 exact floordiv_int (by omega) (by rw[jO i (by omega)];exact q) (.inl (lW (by omega)))
theorem JA:kJ X (binaryOp .Mod) (rI (fun _ j=>0<j) fun i j=>.int (i%j)):=Mh fun i j _ _ _ _ _ hc q=>by
 have h1:(0:Int)<j:=hc
 exact mod_int' (by omega) (by rw[Int.fmod_eq_emod_of_nonneg i (by omega)];exact q)
theorem JB:kJ X (binaryOp .Pow) (rI Jv fun i j=>.int (i^j.toNat)):=Mh fun _ _ _ _ _ _ _ hc q=>pow_int_small hc.1 hc.2.1 hc.2.2 q
theorem B4:kJ X (binaryOp .LShift) (rI Jv fun i j=>.int (i*2^j.toNat)):=Mh fun _ _ _ _ _ _ _ hc q=>lshift_int_small hc.1 hc.2.1 hc.2.2 q
theorem JC:kJ X (binaryOp .RShift) (rI (fun _ j=>0<=j) fun i j=>.int (i/2^j.toNat)):=Mh fun i j _ _ _ _ _ hc q=>
 rshift_int hc (by rw[jO i (yy _)];exact q)
theorem JD:kJ X (binaryOp .BitAnd) (Fi fun i j=>.int (Builtin.bitAnd i j)):=Jt fun _ _ _ _ _ _ _ q=>and_int q
theorem RP{f:Value->Sem Value}{g:Int->Int}
  (rule:∀(i:Int) (t:Tok) (s:Shared) (Q:Value->Shared->Prop) (E:Value->Shared->Prop),Q (.int (g i) s.toks) { s with toks:=s.toks+1 }->wpAny (model X.prog X.w) X.A (f (.int i t)) Q E s) :
  Qb X f (rU fun i=>.int (g i)):=by
 intro ac s σ H x v Q I rx h
 obtain⟨i,rfl,q⟩:=h
 obtain⟨t,rfl⟩:=rx
 exact rule i t s _ _ ⟨.int (g i),H,I.tok _,⟨_,rfl⟩,q⟩
theorem JE:Qb X (unaryOp .USub) (rU fun i=>.int (-i)):=RP fun _ _ _ _ _ q=>neg_int q
end
section
variable{X:Cx}{a b:Expr}{ta tb tc:TE}
theorem B5{σ:St}{H:Hp}{Q:VK}{k k':Bool}(I:bb X ac σ H s)(q:Q (.bl k) H)(e:k=k'):EP X ac σ Q (.bool k') s:=by
 subst e
 exact⟨.bl k,H,I,rfl,q⟩
theorem MN:kJ X (compareOp .Lt) (Fi fun i j=>.bl (decide (i<j))):=Ju fun _ _ _ _ _ _ _ q=>lt_int q
theorem MO:kJ X (compareOp .Gt) (Fi fun i j=>.bl (decide (j<i))):=Ju fun _ _ _ _ _ _ _ q=>gt_int q
theorem MP:kJ X (compareOp .GtE) (Fi fun i j=>.bl (decide (j<=i))):=Ju fun _ _ _ _ _ _ _ q=>ge_int q
theorem A1:kJ X (compareOp .In) (fun x y H Q=>∃i j,x=.str i/\y=.str j/\Q (.bl (!(Builtin.Str.occurrences j i 0 j.length 1).isEmpty)) H):=by
 intro ac s σ H x y v u Q I rx ry h
 obtain⟨i,j,rfl,rfl,q⟩:=h
 obtain⟨t,rfl⟩:=rx
 obtain⟨t',rfl⟩:=ry
 exact in_str (B5 I q rfl)
theorem u8:kJ X (compareOp .NotIn) (fun x y H Q=>∃i j,x=.str i/\y=.str j/\Q (.bl (!(!(Builtin.Str.occurrences j i 0 j.length 1).isEmpty))) H):=by
 intro ac s σ H x y v u Q I rx ry h
 obtain⟨i,j,rfl,rfl,q⟩:=h
 obtain⟨t,rfl⟩:=rx
 obtain⟨t',rfl⟩:=ry
 exact notIn_str (B5 I q rfl)
theorem kJ.or{r r':R2}(h:kJ X f r)(h':kJ X f r'):kJ X f (fun x y H Q=>r x y H Q\/r' x y H Q):=by
 intro ac s σ H x y v u Q I rx ry q
 rcases q with q|q
 ·exact h ac s σ H x y v u Q I rx ry q
 ·exact h' ac s σ H x y v u Q I rx ry q
theorem B6(b:Expr)(h:op≠.In:=by decide)(h2:op≠.NotIn:=by decide):behindInMarks op b=false:=by
 have e1:(op==CmpOp.In)=false:=by cases op<;>first|rfl|exact absurd rfl h
 have e2:(op==CmpOp.NotIn)=false:=by cases op<;>first|rfl|exact absurd rfl h2
 cases b<;>simp[behindInMarks,e1,e2]
theorem FM{r:R2}(ho:kJ X (compareOp op) r)(ha:PE X a ta)(hb:PE X b tb)(hm:behindInMarks op b=false):PE X (.Compare a [op] [b] pos) (MK r ta tb):=by
 intro ac s σ H Q I h
 exact wpAny_Compare1 (Js ha hb I h fun v u s2 x y H2 I2 rx ry q=>ho ac s2 σ H2 x y v u Q I2 rx ry q) hm
def MQ(t:TE):TT:=fun σ H Q=>t σ H fun x H'=>∃k,x=.bl k/\Q k H'
theorem FN{r:R2}(ho:kJ X (compareOp op) r)(ha:PE X a ta)(hb:PE X b tb)(hm:behindInMarks op b=false):PT X (.Compare a [op] [b] pos) (MQ (MK r ta tb)):=by
 intro ac s σ H Q I h
 refine mI (fU (ha ac s σ H _ I h) fun v s1 ⟨x,H1,I1,r1,q1⟩=>fU (hb ac s1 σ H1 _ I1 q1) fun u s2 ⟨y,H2,I2,r2,q2⟩=>
  fU (ho ac s2 σ H2 x y v u _ I2 r1 r2 q2) fun c s3 ⟨z,H3,I3,r3,k,e,q3⟩=>?_) hm
 subst e
 cases r3
 exact eZ ⟨H3,I3,q3⟩
theorem pI:(sizeLine:Nat)<2^63:=by rw[m8];decide
theorem yz:kJ X (binaryOp .Add) (fun x y H Q=>∃i j,x=.str i/\y=.str j/\i.length+j.length<=sizeLine/\Q (.str (i++j)) H):=by
 intro ac s σ H x y v u Q I rx ry h
 obtain⟨i,j,rfl,rfl,hz,q⟩:=h
 obtain⟨t,rfl⟩:=rx
 obtain⟨t',rfl⟩:=ry
 exact add_str (fun t' tk=>⟨.str (i++j),H,I.tok _,⟨_,rfl⟩,q⟩) hz
theorem oo{x:V}(r:bE [x] us):∃u,us=[u]/\bK x u:=by
 cases r with
 |cons r1 r2=>cases r2;exact⟨_,rfl,r1⟩
theorem MR{x y:V}(r:bE [x,y] us):∃u w',us=[u,w']/\bK x u/\bK y w':=by
 cases r with
 |cons r1 r2=>
  cases r2 with
  |cons r3 r4=>cases r4;exact⟨_,_,rfl,r1,r3⟩
theorem A2(hc:X.calm=true):ik X (.builtin "min") (fun xs H Q=>∃i j,xs=[.int i,.int j]/\Q (.int (if j<i then j else i)) H):=by
 intro ac s σ H xs us Q I r h
 obtain⟨i,j,rfl,q⟩:=h
 obtain⟨u,w',rfl,⟨t,rfl⟩,⟨t',rfl⟩⟩:=MR r
 refine min_two_ints (I.ok.hd hc) fun h' tk k=>⟨_,H,I.kept k,?_,q⟩
 by_cases hj:j<i
 ·rw[aw hj,aw hj];exact⟨_,rfl⟩
 ·rw[ay hj,ay hj];exact⟨_,rfl⟩
end
structure yA(h:Heap)(x dx C:Addr)(mA:Str->Option Value):Prop where
 obj:h.get? x=some (instObj C dx)
 ns:h.Ns1 dx mA
 ne:dx≠x
theorem A3{h:Heap}{dx:Addr}(n:h.Ns1 dx mA):∃od,h.get? dx=some od/\∀name,lookIn name od=some (mA name):=by
 obtain⟨o,es,ep,ho,hd,hk,_,hm⟩:=n
 refine⟨o,ho,fun name=>?_⟩
 have e:=hm name
 unfold nsFind findBy at e
 rw[<- Array.find?_toList]at e
 unfold lookIn
 rw[hd]
 dsimp only
 split
 ·rename_i y q
  rw[q]at e
  exact kZ some e
 ·rename_i q
  rw[q]at e
  have a:es.toList.any (·.refKey)=false:=by
   rw[List.any_eq_false]
   intro y hy
   obtain⟨z,t,hkey⟩:=hk y (Array.mem_toList_iff.mp hy)
   simp[DictEntry.refKey,hkey]
  have a':¬ es.toList.any (·.refKey)=true:=by rw[a];exact d9
  rw[ay a']
  exact kZ some e
theorem yA.look{h:Heap}{x dx:Addr}(I:yA h x dx C mA):∃od,PySem.W.InstAt h x (instObj C dx) C (some od)/\∀name,lookIn name od=some (mA name):=
 let ⟨od,ho,hl⟩:=A3 I.ns
 ⟨od,⟨I.obj,rfl,rfl,ho⟩,hl⟩
section
variable{w:World}{x dx f:Addr}{v:Value}
theorem FP{Rm:Bool}(X:K.In s.heap)(I:yA s.heap x dx C mA)(hg:plainGet K C name=true)(hh:PySem.W.hasDictIn K C=true)
  (ha:findIn K (.ref C) name=some none) (hv:mA name=some v) (PN:PySem.W.handedIn v=true) (h:Q v { s with toks:=s.toks+1 }) :
  wpAny (model prog w) A (getAttr (.ref x) name Rm) Q E s:=by
 obtain⟨od,J,hl⟩:=I.look
 exact PySem.W.get_value X J (PySem.W.plainGet_of hg).1 (PySem.W.findObj_own hh ha rfl (by rw[hl,hv])) PN h
theorem B8{Q:Value×List Value->Shared->Prop}(X:K.In s.heap)(I:yA s.heap x dx C mA)(hg:plainGet K C name=true)
  (hf:findIn K (.ref C) name=some (some (.ref f))) (ht:isFn K (.ref f)=true) (hv:mA name=none) (h:Q (.ref f,[.ref x]) s) :
  wpAny (model prog w) A (getMethod (.ref x) name pl) Q E s:=by
 obtain⟨od,J,hl⟩:=I.look
 exact PySem.W.method_fn X J (PySem.W.plainGet_of hg).1 (PySem.W.plainGet_of hg).2 hf (d_.mp ht) (by show(lookIn name od).map (·.isSome)=some false;rw[hl,hv];rfl) h
theorem FQ{ns:List Str}{Q:Unit->Shared->Prop}(X:K.In s.heap)(I:yA s.heap x dx C mA)
  (hs:findIn K (.ref C) "__setattr__"=some (some (.builtin "object.__setattr__"))) (hp:PySem.W.plainOver K C=true) (ht:PySem.W.takerIn K C name=some none) (hh:PySem.W.hasDictIn K C=true)
  (hw:PySem.Within mA ns) (hsz:ns.length<=sizeLine)
  (h:∀h',yA h' x dx C (fun y=>if y=name then some v else mA y)->Heap.SameBut dx s.heap h'->Q () { s with heap:=h',toks:=s.toks+2 }) :
  wpAny (model prog w) A (setAttr (.ref x) name v) Q E s:=by
 obtain⟨od,J,hl⟩:=I.look
 refine PySem.W.set_plain X J hs (PySem.W.osa_open (s:={ s with toks:=s.toks+1 }) (r:=none) X J hp ht fun b=>?_)
 obtain⟨cd,hc,hd'⟩:=PySem.W.any_some hh
 have hx:s.heap.get? x=some ⟨.ref C,some dx,.plain,#[]⟩:=I.obj
 refine aa (ar (aa (aa (wpAny_loadPart hx (aa (PySem.W.Looks.here (s:={ s with toks:=s.toks+1 }) (PySem.W.looks_clsIn X hc) ?_))))))
 rw[hd']
 refine ar (a:=some dx) (aa (ar (aa ?_)))
 refine wpAny_nsSet1 (s:={ s with toks:=s.toks+1 }) I.ns fun h' PU rJ=>?_
 obtain⟨oD,esD,epD,hoD,hdD,hcD⟩:=PU.count (PySem.Within.cons name v hw)
 refine aa (wpAny_lookBehind hoD (by rw[hdD];exact pastItsLine_dict (aQ hcD (by rw[a9];omega))) ?_)
 exact ar (h _ ⟨(rJ.2 _ (Ne.symm I.ne)).trans I.obj,PU,I.ne⟩ rJ)
theorem B9{R:Result->Shared->Prop}{vs:List Value}(X:K.In s.heap)(hm:makesIn K C=true)
  (hi:findIn K (.ref C) "__init__"=some (some (.ref f))) (hf:PySem.W.typeIn K (.ref f)=some (.type "function"))
  (h:codeAny (model prog w) (A.under (.builtin "type.__call__" ⟨.ref C::vs,kw⟩)) (.call (.ref f) ⟨.ref (s.heap.objs.size+1)::vs,kw⟩) (PySem.W.InitBack (s.heap.objs.size+1) R)
   { s with heap:=(s.heap.push emptyDict).push (instObj C s.heap.objs.size) }) :
  codeAny (model prog w) A (.call (.ref C) ⟨vs,kw⟩) R s:=by
 obtain⟨hh,g,d,t,os⟩:=s
 exact PySem.W.make_core (PySem.W.makes_of X hm) (PySem.W.looks_findIn X hi) (fun self=>PySem.W.bind_fn X self hf) (.inl rfl) h
end
def mB(f:Str)(v:V):List (Str×V)->List (Str×V)
 |[]=>[(f,v)]
 |(g,x)::r=>if g=f then(g,v)::r else(g,x)::mB f v r
theorem p9(f g:Str)(v:V):∀fs:List (Str×V),(mB f v fs).lookup g=if g=f then some v else fs.lookup g
 |[]=>by
  show List.lookup g [(f,v)]=_
  by_cases h:g=f
  ·have hb:(g==f)=true:=d_.mpr h
   simp only[List.lookup,hb,aw h]
  ·have hb:(g==f)=false:=bZ.mpr h
   simp only[List.lookup,hb,ay h]
 |(k,x)::r=>by
  have ih:=p9 f g v r
  rw[show mB f v ((k,x)::r)=(if k=f then(k,v)::r else(k,x)::mB f v r)from rfl]
  by_cases hk:k=f
  ·rw[aw hk]
   by_cases h:g=k
   ·have hb:(g==k)=true:=d_.mpr h
    simp only[List.lookup,hb,aw (h.trans hk)]
   ·have hb:(g==k)=false:=bZ.mpr h
    simp only[List.lookup,hb,ay (fun e:g=f=>h (e.trans hk.symm))]
  ·rw[ay hk]
   by_cases h:g=k
   ·have hb:(g==k)=true:=d_.mpr h
    simp only[List.lookup,hb,ay (fun e:g=f=>hk (h.symm.trans e))]
   ·have hb:(g==k)=false:=bZ.mpr h
    simp only[List.lookup,hb]
    exact ih
theorem pJ(f:Str)(v:V):∀fs:List (Str×V),f∈(mB f v fs).map (·.1)/\∀g,g∈fs.map (·.1)->g∈(mB f v fs).map (·.1)
 |[]=>⟨by simp[mB],fun g h=>by simp at h⟩
 |(k,x)::r=>by
  obtain⟨i1,i2⟩:=pJ f v r
  rw[show mB f v ((k,x)::r)=(if k=f then(k,v)::r else(k,x)::mB f v r)from rfl]
  by_cases hk:k=f
  ·rw[aw hk]
   subst hk
   exact⟨by simp,fun g h=>by simpa using h⟩
  ·rw[ay hk]
   refine⟨?_,fun g h=>?_⟩
   ·rw[aN]
    exact aR _ i1
   ·rw[aN]at h ⊢
    rcases a_.mp h with e|e
    ·exact a_.mpr (.inl e)
    ·exact aR _ (i2 g e)
theorem p_(f:Str)(v:V):∀fs:List (Str×V),(mB f v fs).length<=fs.length+1
 |[]=>by simp[mB]
 |(k,x)::r=>by
  have ih:=p_ f v r
  rw[show mB f v ((k,x)::r)=(if k=f then(k,v)::r else(k,x)::mB f v r)from rfl]
  by_cases hk:k=f
  ·rw[aw hk,a9,a9];omega
  ·rw[ay hk,a9,a9];omega
theorem nw.some_of{v:V}{o:Option Value}(r:nw (some v) o):∃u,o=some u/\bK v u:=by
 cases o with
 |none=>exact(show False from r).elim
 |some u=>exact⟨u,rfl,r⟩
theorem nw.none_of{o:Option Value}(r:nw none o):o=none:=by
 cases o with
 |none=>rfl
 |some u=>exact(show False from r).elim
theorem A4{v:V}(r:bK v u):PySem.W.handedIn u=true:=by
 cases v with
 |non=>cases(show u=Value.none from r);rfl
 |bl b=>cases(show u=Value.bool b from r);rfl
 |int i=>obtain⟨t,e⟩:=(show ∃t,u=Value.int i t from r);cases e;rfl
 |str x=>obtain⟨t,e⟩:=(show ∃t,u=Value.str x t from r);cases e;rfl
 |byt b=>obtain⟨t,e⟩:=(show ∃t,u=Value.bytes b t from r);cases e;rfl
 |flt b=>obtain⟨t,e⟩:=(show ∃t,u=Value.float b t from r);cases e;rfl
 |ref a=>cases(show u=Value.ref a from r);rfl
 |ty n=>cases(show u=Value.type n from r);rfl
section
variable{w:World}{H H':Hp}{h:Heap}{dx:Addr}{fs L_:List (Str×V)}
theorem q5(hok:nh P w H h)(e:H a=some (.ins C dx fs)):∃mA,yA h a dx C mA/\(∀f,nw (fs.lookup f) (mA f))/\PySem.Within mA (fs.map (·.1))/\fs.length<=1000/\H dx=some (.own a):=by
 obtain⟨d,z,ne,ob,mA,n,r,q⟩:=(show eV P w H h a (.ins C dx fs)from hok a _ e)
 exact⟨mA,⟨ob,n,ne⟩,r,q,z,d⟩
end
structure Cls(K:Frag)(C:Addr):Prop where
 pg:plainGet K C Str.empty=true
 hd:PySem.W.hasDictIn K C=true
 po:PySem.W.plainOver K C=true
 sa:findIn K (.ref C) "__setattr__"=some (some (.builtin "object.__setattr__"))
theorem Cls.get(c:Cls K C)(f:Str):plainGet K C f=true:=c.pg
def nQ(K:Frag)(C:Addr)(f:Str):Prop:=findIn K (.ref C) f=some none
theorem nQ.taker{f:Str}(n:nQ K C f):PySem.W.takerIn K C f=some none:=by
 unfold PySem.W.takerIn
 rw[show findIn K (.ref C) f=some none from n]
 rfl
structure MS(K:Frag)(C:Addr)(m:Str)(f:Addr):Prop where
 at_:findIn K (.ref C) m=some (some (.ref f))
 fn:isFn K (.ref f)=true
 kp:keepIn K (.ref f)=true
section
variable{X:Cx}{σ:St}{H:Hp}{dx:Addr}{fs:List (Str×V)}{f:Str}{v:V}
theorem yB{b:Bool}(I:bb X ac σ H s)(e:H a=some (.ins C dx fs))(c:Cls X.K C)(n:nQ X.K C f)(l:fs.lookup f=some v)
  (h:∀u s',bb X ac σ H s'->bK v u->Q u s'):wpAny (model X.prog X.w) A (getAttr (.ref a) f b) Q E s:=by
 obtain⟨mA,O,r,_,_,_⟩:=q5 I.hok e
 obtain⟨u,hu,ru⟩:=nw.some_of (v:=v) (o:=mA f) (by rw[<- l];exact r f)
 exact FP I.kIn O (c.get f) c.hd n hu (A4 ru) (h u _ (I.tok _) ru)
theorem rL{m:Str}{g:Addr}{Q:Value×List Value->Shared->Prop}(I:bb X ac σ H s)(e:H a=some (.ins C dx fs))(c:Cls X.K C)(k:MS X.K C m g)(l:fs.lookup m=none)
  (h:Q (.ref g,[.ref a]) s):wpAny (model X.prog X.w) A (getMethod (.ref a) m pl) Q E s:=by
 obtain⟨mA,O,r,_,_,_⟩:=q5 I.hok e
 have hn:mA m=none:=nw.none_of (by rw[<- l];exact r m)
 exact B8 I.kIn O (c.get m) k.at_ k.fn hn h
theorem yC{y:V}{Q:Unit->Shared->Prop}(I:bb X ac σ H s)(e:H a=some (.ins C dx fs))(c:Cls X.K C)(n:nQ X.K C f)(hl:fs.length<1000)(ry:bK y u)
  (h:∀s',bb X ac σ (da H a (.ins C dx (mB f y fs))) s'->Q () s'):wpAny (model X.prog X.w) A (setAttr (.ref a) f u) Q E s:=by
 obtain⟨mA,O,r,wi,_,ho⟩:=q5 I.hok e
 have hz:(fs.map (·.1)).length<=sizeLine:=by rw[aq,m8];omega
 refine FQ I.kIn O c.sa c.po n.taker c.hd wi hz fun h' O' sb=>h _ ?_
 have hd:∃o,h'.get? dx=some o:=let ⟨o,_,_,e',_⟩:=O'.ns;⟨o,e'⟩
 refine I.write (x:=a) (e:=dx) (by rw[e];exact True.intro) (.inr ho) (fun b q hb z=>(sb.2 b hb).trans z) hd ?_
 refine⟨by rw[bF O.ne];exact ho,?_,O.ne,O'.obj,_,O'.ns,fun g=>?_,fun g hg=>?_⟩
 ·have:=p_ f y fs;omega
 ·show nw ((mB f y fs).lookup g) (if g=f then some u else mA g)
  rw[p9]
  by_cases q:g=f
  ·rw[aw q,aw q];exact ry
  ·rw[ay q,ay q];exact r g
 ·by_cases q:g=f
  ·rw[q];exact(pJ f y fs).1
  ·refine(pJ f y fs).2 g (wi g fun z=>hg ?_)
   show(if g=f then some u else mA g)=none
   rw[ay q];exact z
theorem bb.made(I:bb X ac σ H s):bb X ac σ (da (da H s.heap.objs.size (.own (s.heap.objs.size+1))) (s.heap.objs.size+1) (.ins C s.heap.objs.size []))
  { s with heap:=(s.heap.push emptyDict).push (instObj C s.heap.objs.size) }:=by
 have e1:(s.heap.push emptyDict).get? s.heap.objs.size=some emptyDict:=ao s.heap rfl
 have e2:((s.heap.push emptyDict).push (instObj C s.heap.objs.size)).get? (s.heap.objs.size+1)=some (instObj C s.heap.objs.size):=by
  have:=ao (s.heap.push emptyDict) (o:=instObj C s.heap.objs.size) rfl
  rwa[bt]at this
 have e3:(s.heap.push emptyDict).Ns s.heap.objs.size (fun _=>none):=⟨emptyDict,#[],_,e1,rfl,(fun e he=>absurd he (by simp)),fun _=>rfl⟩
 have I1:=I.laid (a:=s.heap.objs.size) (o:=.own (s.heap.objs.size+1)) (h':=s.heap.push emptyDict) (t':=s.toks) (fun b u q=>ai _ q) (av _) ⟨_,e1⟩
 refine I1.laid (a:=s.heap.objs.size+1) (o:=.ins C s.heap.objs.size []) (t':=s.toks) (fun b u q=>ai _ q) (Nat.le_of_eq (bt _ _)) ?_
 have ne:s.heap.objs.size≠s.heap.objs.size+1:=aT (i3 _)
 refine⟨by rw[bF ne,c5],cG _,ne,e2,fun _=>none,(Heap.Ns1.of_empty e3).at fun o q=>ai _ q,fun _=>True.intro,fun y hy=>absurd rfl hy⟩
theorem FR{w:World}(hb:attributeBase e f env (eval e env)=eval e env)
  (h:wpAny (model prog w) A (eval e env) (fun o s₁=>wpAny (model prog w) A (getAttr o f true) Q E s₁) E s):wpAny (model prog w) A (eval (.Attribute e f pos) env) Q E s:=
 Attribute_any_ h (by rw[arm_eval_Attribute,hb])
end
def Qd(K:Frag)(ta:TE)(f:Str):TE:=fun σ H Q=>ta σ H fun x H1=>∃a C dx fs v,x=.ref a/\H1 a=some (.ins C dx fs)/\Cls K C/\nQ K C f/\fs.lookup f=some v/\Q v H1
def Qe(K:Frag)(ta tv:TE)(f:Str):TS:=fun D σ H=>tv σ H fun y H1=>ta σ H1 fun x H2=>∃a C dx fs,x=.ref a/\H2 a=some (.ins C dx fs)/\Cls K C/\nQ K C f/\fs.length<1000 /\
 D.nx σ (da H2 a (.ins C dx (mB f y fs)))
section
variable{X:Cx}{value:Expr}{f:Str}{Re:Pos}{ta tv:TE}
theorem JF(he:PE X e ta)(hb:attributeBase e f X.env (eval e X.env)=eval e X.env):PE X (.Attribute e f pos) (Qd X.K ta f):=by
 intro ac s σ H Q I h
 refine FR hb (fU (he ac s σ H _ I h) fun u s1 ⟨x,H1,I1,rx,a,C,dx,fs,v,ex,ea,c,n,l,q⟩=>?_)
 subst ex
 obtain rfl:u=Value.ref a:=rx
 exact yB I1 ea c n l fun u' s2 I2 ru=>⟨v,H1,I2,ru,q⟩
theorem JG(ha:PE X o ta)(hv:PE X value tv)(hs:swapsWith value (some (.Attribute o f gy)) pos.line X.env=pure false):PS X (.Assign [.Attribute o f gy] value pos) (Qe X.K ta tv f):=by
 intro ac s σ H D I h
 refine plainObj_wpAny_Assign_Attribute (fU (hv ac s σ H _ I h) fun u s1 ⟨y,H1,I1,ry,q⟩=>fU (ha ac s1 σ H1 _ I1 q) fun ov s2 ⟨x,H2,I2,rx,a,C,dx,fs,ex,ea,c,n,l,q2⟩=>?_) hs
 subst ex
 obtain rfl:ov=Value.ref a:=rx
 exact yC I2 ea c n l ry fun s3 I3=>⟨σ,_,I3,q2⟩
end
section
variable{X:Cx}{σ:St}{H:Hp}{c:Value}{b:Bool}
inductive qB(K:Frag)(H:Hp):V->Value->Prop where
 |non:qB K H .non (.type "NoneType")
 |bl (x:Bool):qB K H (.bl x) (.type "bool")
 |int (i:Int):qB K H (.int i) (.type "int")
 |str (x:Str):qB K H (.str x) (.type "str")
 |flt (x:UInt64):qB K H (.flt x) (.type "float")
 |lst {a:Addr} {xs:List V} (e:H a=some (.lst xs)):qB K H (.ref a) (.type "list")
 |frz {a:Addr} {o:Obj} {xs:List V} (e:H a=some (.frz o (.lst xs))):qB K H (.ref a) (.type "list")
 |tup {a:Addr} {xs:List V} (e:H a=some (.tup xs)):qB K H (.ref a) (.type "tuple")
 |dK {a:Addr} {kvs:List (gF×V)} (e:H a=some (.dK kvs)):qB K H (.ref a) (.type "dict")
 |dT {a:Addr} {kvs:List (List gF×V)} (e:H a=some (.dT kvs)):qB K H (.ref a) (.type "dict")
 |ins {a C dx:Addr} {fs:List (Str×V)} (e:H a=some (.ins C dx fs)) (cl:Cls K C) (ha:findIn K (.ref C) "__class__"=some (some (.builtin "object.__class__")))
   (hn:PySem.W.specialIn K (.builtin "object.__class__") "__get__"=some (some (.builtin "getset_descriptor.__get__"))) (RG:PySem.W.takesIn K (.builtin "object.__class__")=some true)
   (hm:PySem.W.mroIn K C (.type "object")=some true):qB K H (.ref a) (.ref C)
theorem ni{x:V}{t:Value}(I:bb X ac σ H s)(rx:bK x u)(ty:qB X.K H x t)(e:PySem.W.kitOne X.K t c=some b)(h:∀tk,Q (.bool b) { s with toks:=tk }) :
  wpAny (model X.prog X.w) A (call (.builtin "isinstance") [u,c]) Q E s:=by
 cases ty with
 |non=>cases(show u=Value.none from rx);exact kia_one PySem.W.kitx_none I.kIn True.intro e (fun z=>nomatch z) h
 |bl y=>cases(show u=Value.bool y from rx);exact kia_one PySem.W.kitx_bool I.kIn True.intro e (fun z=>nomatch z) h
 |int i=>obtain⟨t,q⟩:=(show ∃t,u=Value.int i t from rx);cases q;exact kia_one PySem.W.kitx_int I.kIn True.intro e (fun z=>nomatch z) h
 |str y=>obtain⟨t,q⟩:=(show ∃t,u=Value.str y t from rx);cases q;exact kia_one PySem.W.kitx_str I.kIn True.intro e (fun z=>nomatch z) h
 |flt y=>obtain⟨t,q⟩:=(show ∃t,u=Value.float y t from rx);cases q;exact kia_one PySem.W.kitx_float I.kIn True.intro e (fun z=>nomatch z) h
 |@lst a xs ea=>
  cases(show u=Value.ref a from rx)
  obtain⟨_,_,n,_,h1⟩:=(show eV X.prog X.w H s.heap a (.lst xs)from I.hok a _ ea)
  exact kia_one PySem.W.kitx_list I.kIn ⟨_,h1,rfl⟩ e (fun z=>nomatch z) h
 |@frz a ob xs ea=>
  cases(show u=Value.ref a from rx)
  obtain⟨_,_,_,n,_,h1⟩:=(show eV X.prog X.w H s.heap a (.frz ob (.lst xs))from I.hok a _ ea)
  exact kia_one PySem.W.kitx_list I.kIn ⟨_,h1,rfl⟩ e (fun z=>nomatch z) h
 |@tup a xs ea=>
  cases(show u=Value.ref a from rx)
  obtain⟨_,_,_,p⟩:=(show eV X.prog X.w H s.heap a (.tup xs)from I.hok a _ ea)
  obtain⟨o,h1,h2,_⟩:=p
  exact kia_one PySem.W.kitx_tuple I.kIn ⟨o,h1,h2⟩ e (fun z=>nomatch z) h
 |@dK a kvs ea=>
  cases(show u=Value.ref a from rx)
  obtain⟨_,_,vs,_,p⟩:=(show eV X.prog X.w H s.heap a (.dK kvs)from I.hok a _ ea)
  obtain⟨o,es,ep,h1,h2,_⟩:=p
  exact kia_one PySem.W.kitx_dict I.kIn ⟨o,h1,h2.1⟩ e (fun z=>nomatch z) h
 |@dT a kvs ea=>
  cases(show u=Value.ref a from rx)
  obtain⟨_,_,xs,_,o,es,ep,h1,h2,_⟩:=(show eV X.prog X.w H s.heap a (.dT kvs)from I.hok a _ ea)
  exact kia_one PySem.W.kitx_dict I.kIn ⟨o,h1,h2.1⟩ e (fun z=>nomatch z) h
 |@ins a C dx fs ea cl ha hn RG hm=>
  cases(show u=Value.ref a from rx)
  obtain⟨mA,O,_⟩:=q5 I.hok ea
  obtain⟨od,J,_⟩:=O.look
  exact kia_one (PySem.W.kitx_own (cl.get _) cl.hd ha hn RG hm) I.kIn J e (fun z=>nomatch z) h
end
structure fL(k:Nat)(A:Around):Prop where
 hd:A.handled=none
 dp:A.depth+2*k+5<recursionLimit
 un:A.units+16*k+200<cLine
theorem fL.mono{k:Nat}(r:fL k A)(h:j<=k):fL j A:=⟨r.hd,by have:=r.dp;omega,by have:=r.un;omega⟩
theorem fL.deeper{k:Nat}(r:fL (k+1) A)(env:Env):fL k (A.deeper env):=
 ⟨r.hd,by have:=r.dp;show A.depth+1+2*k+5<_;omega,by have:=r.un;show A.units+3+16*k+200<_;omega⟩
theorem fL.in1{k:Nat}(r:fL (k+1) A):fL k A.in1:=
 ⟨r.hd,by have:=r.dp;show A.depth+2*k+5<_;omega,by have:=r.un;show A.units+1+16*k+200<_;omega⟩
theorem yD:(A.under (.builtin "type.__call__" ⟨.ref C::us,kw⟩)).depth=A.depth+1:=by
 first|rfl|simp[Around.under,Code.weight,Code.isCreation,Code.isGuard,Code.isCaller,Code.frames,Code.isFrame,guardIds]
theorem yE:(A.under (.builtin "type.__call__" ⟨.ref C::us,kw⟩)).units=A.units+1:=by
 first|rfl|simp[Around.under,Code.cUnits,Code.frames,Code.isFrame]
theorem fL.make{k:Nat}(r:fL (k+1) A)(C:Addr)(us:List Value)(kw:List (Str×Value)):fL k (A.under (.builtin "type.__call__" ⟨.ref C::us,kw⟩)):=
 ⟨r.hd,by have:=r.dp;rw[yD];omega,by have:=r.un;rw[yE];omega⟩
theorem fL.depth{k:Nat}(r:fL k A):A.depth<recursionLimit:=by have:=r.dp;omega
theorem fL.units{k:Nat}(r:fL k A):A.units+64<cLine:=by have:=r.un;omega
def Qf:TA:=fun _ H Q=>Q [] H
def MT(ta:TE)(tr:TA):TA:=fun σ H Q=>ta σ H fun x H1=>tr σ H1 fun xs H2=>Q (x::xs) H2
section
variable{X:Cx}{te:TE}{t:TA}
theorem B_:PA X [] Qf:=fun _ _ _ _ H Q I h=>kr ⟨[],H,I,.nil,h⟩
theorem u9(ha:PE X e te)(hr:PA X es t)(hs:starEach (e::es) X.env=(false,eval e X.env)::starEach es X.env:=by rfl):PA X (e::es) (MT te t):=by
 intro pos ac s σ H Q I h
 rw[hs]
 show wpAny _ _ (spliced ((false,eval e X.env)::backTo pos (starEach es X.env))) _ _ s
 refine h9 (fU (ha ac s σ H _ I h) fun u s1 ⟨x,H1,I1,r1,q1⟩=>?_)
 exact fU (hr pos ac s1 σ H1 _ I1 q1) fun us s2 ⟨xs,H2,I2,r2,q2⟩=>⟨x::xs,H2,I2,.cons r1 r2,q2⟩
end
abbrev Sp:=List V->Hp->VK->XK->Prop
abbrev yr:=List Env->Hp->Shared->XK->Value->Shared->Prop
structure qC(P:Program)(w:World)(K:Frag)(mg:Str->Option Value)(base:Heap)(A:Around)(outer:List Env)(s:Shared)(H:Hp):Prop where
 frames:A.frames=some outer
 mod:Mod K mg base
 bs:∀b o,base.get? b=some o->s.heap.get? b=some o/\H b=none
 bsz:base.objs.size<=s.heap.objs.size
 funs:s.heap.FunFrames base outer
 frf:∀b∈qA outer,H b=none
 hok:nh P w H s.heap
 bare:AllBare s.gens
def CE(outer:List Env)(P:Program)(w:World)(H:Hp)(s:Shared)(Q:VK)(u:Value)(s':Shared):Prop:=
 ∃v H',s'.os=s.os/\AllBare s'.gens/\Un (qA outer) [] H H' s.heap s'.heap/\nh P w H' s'.heap/\bK v u/\Q v H'
def CR(CX:yr)(outer:List Env)(P:Program)(w:World)(H:Hp)(s:Shared)(Q:VK)(E:XK)(r:Result)(s':Shared):Prop:=
 match r with
 |.ok (.ret u)=>CE outer P w H s Q u s'
 |.ok _=>False
 |.error e=>CX outer H s E e s'
structure cN(P:Program)(w:World)(K:Frag)(mg:Str->Option Value)(base:Heap)(CX:yr)(k:Nat)(f:Addr)(fd:FuncData)(ps:List Str)(sp:Sp):Prop where
 len:∀vs H Q E,sp vs H Q E->vs.length=ps.length
 run:∀(A:Around) (outer:List Env) (s:Shared) (H:Hp) (args:Args) (us:List Value) (vs:List V) (Q:VK) (E:XK),fL k A->qC P w K mg base A outer s H->BindsTo s fd args (ps.zip us)->bE vs us->sp vs H Q E ->
  codeAny (model P w) A (.call (.ref f) args) (CR CX outer P w H s Q E) s
theorem cN.mono{w:World}{CX:yr}{k:Nat}{f:Addr}{sp:Sp}(F:cN P w K mg base CX j f fd ps sp)(h:j<=k) :
  cN P w K mg base CX k f fd ps sp:=⟨F.len,fun A outer s H args us vs Q E hr=>F.run A outer s H args us vs Q E (hr.mono h)⟩
theorem cN.imp{w:World}{CX:yr}{k:Nat}{f:Addr}{sp RI:Sp}(F:cN P w K mg base CX k f fd ps sp)
  (h:∀vs H Q E,RI vs H Q E->sp vs H Q E):cN P w K mg base CX k f fd ps RI:=
 ⟨fun vs H Q E q=>F.len vs H Q E (h _ _ _ _ q),fun A outer s H args us vs Q E hr he hb hv hs=>F.run A outer s H args us vs Q E hr he hb hv (h _ _ _ _ hs)⟩
theorem qC.make{w:World}{H:Hp}(e:qC P w K mg base A outer s H)(C:Addr)(us:List Value)(kw:List (Str×Value)) :
  qC P w K mg base (A.under (.builtin "type.__call__" ⟨.ref C::us,kw⟩)) outer s H:=⟨by first|exact e.frames|(simpa[Around.under,Code.envs,Code.isFrame,pushEnvs]using e.frames),e.mod,e.bs,e.bsz,e.funs,e.frf,e.hok,e.bare⟩
theorem qC.in1{w:World}{H:Hp}(e:qC P w K mg base A outer s H) :
  qC P w K mg base A.in1 outer s H:=⟨e.frames,e.mod,e.bs,e.bsz,e.funs,e.frf,e.hok,e.bare⟩
section
variable{X:Cx}{σ:St}{H:Hp}{s':Shared}
theorem bb.env0(I:bb X ac σ H s):qC X.prog X.w X.K X.mg X.base X.A X.stack s H:=
 ⟨I.ok.frames,I.ok.mod,I.bs,aQ I.ok.bsz I.sz,I.stack,I.stkFree,I.hok,I.bare⟩
theorem bb.after{Q:VK}(I:bb X ac σ H s)(h:CE X.stack X.prog X.w H s Q u s'):EP X ac σ Q u s':=by
 obtain⟨v,H',os,bare,un,hok,r,q⟩:=h
 obtain⟨hh,g,d,t,os'⟩:=s'
 obtain rfl:os'=s.os:=os
 exact⟨v,H',I.call (h':=hh) (g':=g) (d':=d) (t':=t) (ch:=[]) un hok bare (fun b z=>absurd z (by simp)),r,q⟩
end
def kK(K:Frag)(fd:FuncData)(ps:List Str)(ds:List Value):Prop:=
 ∀(s:Shared) (us:List Value),K.In s.heap->(us++ds).length=ps.length->BindsTo s fd ⟨us,[]⟩ (ps.zip (us++ds))
theorem kK.all(h:∀us:List Value,us.length=ps.length->bindArgs fd ⟨us,[]⟩=pure (ps.zip us)):kK K fd ps []:=fun s us _ hl=>by
 rw[cf]at hl ⊢
 exact .of_eq (h us hl)
def JH(CX:yr)(X:Cx)(E:XK):Prop:=∀(ac:List (Addr×Obj)) (σ:St) (H:Hp) (s:Shared) (e:Value) (s':Shared),bb X ac σ H s->CX X.stack H s E e s'->X.xe e s'
section
variable{X:Cx}{CX:yr}{k:Nat}{f:Addr}{sp:Sp}{dvs:List V}{ds:List Value}{E:XK}{m:Str}{ta:TE}{t:TA}
structure Mk(K:Frag)(C f:Addr):Prop where
 makes:makesIn K C=true
 init:findIn K (.ref C) "__init__"=some (some (.ref f))
 fn:isFn K (.ref f)=true
 kp:keepIn K (.ref C)=true
theorem B'{σ:St}{H:Hp}{Q:VK}{vs:List V}(M:Mk X.K C f)(F:cN X.prog X.w X.K X.mg X.base CX k f fd ps sp)(hr:fL (k+1) X.A)(hb:kK X.K fd ps ds)(hd:bE dvs ds)
  (hx:JH CX X E) (I:bb X ac σ H s) (r:bE vs us)
  (h:∀x dx,H x=none->H dx=none->dx≠x->sp (.ref x::(vs++dvs)) (da (da H dx (.own x)) x (.ins C dx [])) (fun v H2=>v=.non/\Q (.ref x) H2) E) :
  wpAny (model X.prog X.w) X.A (call (.ref C) us) (EP X ac σ Q) X.xe s:=by
 have hq:=h (s.heap.objs.size+1) s.heap.objs.size (I.hok.fresh (e_ _)) (I.hok.fresh (av _)) (aT (i3 _))
 have I2:=bb.made (C:=C) I
 have r2:bE (V.ref (s.heap.objs.size+1)::(vs++dvs)) (Value.ref (s.heap.objs.size+1)::(us++ds)):=.cons rfl (r.append hd)
 have hl:(Value.ref (s.heap.objs.size+1)::us++ds).length=ps.length:=by
  have e:=r2.length
  rw[F.len _ _ _ _ hq]at e
  exact e.symm
 refine wpAny_call (B9 (f:=f) I.kIn M.makes M.init (d_.mp M.fn) (jA (F.run _ X.stack _ _ ⟨Value.ref (s.heap.objs.size+1)::us,[]⟩ (Value.ref (s.heap.objs.size+1)::(us++ds)) _ _ E (hr.make C us [])
  (I2.env0.make C us []) (hb _ (Value.ref (s.heap.objs.size+1)::us) I2.kIn hl) r2 hq) fun r s' hq'=>?_))
 cases r with
 |error e=>exact hx ac σ _ _ e s' I2 hq'
 |ok fl=>
  cases fl with
  |ret u=>
   obtain⟨v,H',I3,rv,ev,q3⟩:=I2.after hq'
   subst ev
   exact⟨rv,⟨V.ref (s.heap.objs.size+1),H',I3,rfl,q3⟩⟩
  |next=>exact False.elim hq'
  |brk=>exact False.elim hq'
  |cont=>exact False.elim hq'
end
def PK(X:Cx)(RL:List Keyword)(t:TA):Prop:=
 ∀(pos:Pos) (ac:List (Addr×Obj)) (s:Shared) (σ:St) (H:Hp) (Q:List V->Hp->Prop),bb X ac σ H s->t σ H Q->wpAny (model X.prog X.w) X.A (evalAll ((backToKw pos (keywordEach RL X.env)).map (·.2))) (AP X ac σ Q) X.xe s
section
variable{X:Cx}{CX:yr}{k:Nat}{f:Addr}{ks:List Str}{sp:Sp}{E:XK}{m:Str}{Rk:Pos}{RL:List Keyword}{te ta:TE}{t tk:TA}{nm:Option Str}
variable{g:List Value->List Value->List Value}{gV:List V->List V->List V}
end
structure bu(N P:List Str)(sc:Scope):Prop where
 kind:sc.kind=.function
 co:sc.isCoroutine=false
 gen:sc.isGenerator=false
 nd:N.Nodup
 pre:N.take P.length=P
 par:∀x∈P,sc.names.lookup x=some .local\/sc.names.lookup x=some .cell
 nofree:∀y∈sc.names,y.2≠.free
theorem uh:∀{binds:List (Str×Value)} {m:Str->Option Value},(∀v,(x,v)∉binds)->bindL kindOf binds m x=m x
 |[],_,_=>rfl
 |(n,v)::r,m,h=>by
  unfold bindL
  rw[uh fun w hw=>h w (aR _ hw)]
  split
  ·have:x≠n:=by rintro rfl;exact h v bW
   simp[this]
  ·rfl
theorem ui:∀{binds:List (Str×Value)} {m:Str->Option Value},(∀v,(x,v)∉binds)->bindC kindOf binds m x=m x
 |[],_,_=>rfl
 |(n,v)::r,m,h=>by
  unfold bindC
  rw[ui fun w hw=>h w (aR _ hw)]
  split
  ·rfl
  ·have:x≠n:=by rintro rfl;exact h v bW
   simp[this]
theorem uj{v:Value}:∀{P:List Str} {vs:List Value} {i:Nat} {m:Str->Option Value},P.Nodup->P[i]?=some x->vs[i]?=some v->kindOf x=some .local ->
  bindL kindOf (P.zip vs) m x=some v
 |[],_,_,_,_,h,_,_=>by simp at h
 |_::_,[],_,_,_,_,h,_=>by simp at h
 |p::P,w::vs,0,m,nd,h1,h2,hk=>by
  simp at h1 h2;subst h1;subst h2
  show bindL kindOf ((p,w)::P.zip vs) m p=_
  unfold bindL
  rw[uh fun v hv=>(gY.mp nd).1 (ms hv).1,aw hk]
  simp
 |p::P,w::vs,i+1,m,nd,h1,h2,hk=>by
  show bindL kindOf ((p,w)::P.zip vs) m x=_
  unfold bindL
  exact uj (i:=i) (gY.mp nd).2 (by simpa using h1) (by simpa using h2) hk
theorem uk{v:Value}:∀{P:List Str} {vs:List Value} {i:Nat} {m:Str->Option Value},P.Nodup->P[i]?=some x->vs[i]?=some v->kindOf x≠some .local ->
  bindC kindOf (P.zip vs) m x=some v
 |[],_,_,_,_,h,_,_=>by simp at h
 |_::_,[],_,_,_,_,h,_=>by simp at h
 |p::P,w::vs,0,m,nd,h1,h2,hk=>by
  simp at h1 h2;subst h1;subst h2
  show bindC kindOf ((p,w)::P.zip vs) m p=_
  unfold bindC
  rw[ui fun v hv=>(gY.mp nd).1 (ms hv).1,ay hk]
  simp
 |p::P,w::vs,i+1,m,nd,h1,h2,hk=>by
  show bindC kindOf ((p,w)::P.zip vs) m x=_
  unfold bindC
  exact uk (i:=i) (gY.mp nd).2 (by simpa using h1) (by simpa using h2) hk
def oq(N:List Str)(vs:List V):St:=vs.map some++List.replicate (N.length-vs.length) none
def wI(CX:yr)(P:Program)(w:World)(K:Frag)(mg:Str->Option Value)(base:Heap)(N:List Str)(eY:Str)(scope:Scope)(f:Addr)(cd:Value)(A:Around)(outer:List Env)(s:Shared)(H:Hp)(E:XK):Cx where
 prog:=P
 w:=w
 K:=K
 mg:=mg
 base:=base
 A:=A.deeper (envOfC eY scope s.heap.objs.size f cd)
 N:=N
 s₀:=s
 H₀:=H
 env:=envOfC eY scope s.heap.objs.size f cd
 outer:=outer
 stack:=envOfC eY scope s.heap.objs.size f cd::outer
 ex:=[]
 calm:=true
 fn:=fun _=>true
 pn:=[]
 xe:=fun e s'=>wpAny (model P w) (A.deeper (envOfC eY scope s.heap.objs.size f cd)) (leaving (envOfC eY scope s.heap.objs.size f cd) e) (fun _ s''=>CX outer H s E e s'') (fun e' s''=>CX outer H s E e' s'') s'
theorem kL{sc:Scope}{n:Nat}(h:sc.names.lookup x=some .cell):∃c,(cellsFrom n sc.names []).lookup x=some c:=by
 have q:=PySem.W.cellsFrom_some sc.names n [] (.inl h)
 exact Option.isSome_iff_exists.mp q
theorem A5{CX:yr}{w:World}{N:List Str}{f:Addr}{cd:Value}{s1:Shared}{H:Hp}{E:XK}{vs:List V}
  (S:bu N ps scope) (hd:A.handled=none) (e0:qC P w K mg base A outer s H) (hl:vs.length=ps.length) (r:bE vs us)
  (x:InCallC s s.heap.objs.size (bindL (envOfC eY scope s.heap.objs.size f cd).kindOf (ps.zip us) fun _=>none) (cellsFrom (s.heap.objs.size+1) scope.names []) (bindC (envOfC eY scope s.heap.objs.size f cd).kindOf (ps.zip us) fun _=>none) s1) :
  bb (wI CX P w K mg base N eY scope f cd A outer s H E) [] (oq N vs) H s1:=by
 have qy:ps.length<=N.length:=by have:=kZ List.length S.pre;rw[aV]at this;omega
 obtain⟨h1,tk,rfl,hk⟩:=x.done
 have noA:∀b:Addr,b∉(wI CX P w K mg base N eY scope f cd A outer s H E).ex:=fun b z=>absurd (show b∈([]:List Addr)from z) (by simp)
 refine⟨⟨e0.mod,S.kind,rfl,rfl,av _,fun y z c h1 h2=>?_,fun y hy=>?_,fun y c _ h=>?_,fun _=>hd,Around.frames_deeper e0.frames,.inr ⟨rfl,rfl⟩,fun b z=>absurd z (noA b),e0.bs,e0.bsz,fun b _ _=>noA b,fun b z=>absurd z (noA b),e0.funs,e0.frf⟩,
  rfl,e0.bare,Un.kept hk,⟨_,x.toInCall.ns,fun i y v h1 h2 h3=>?_⟩,fun y c h=>⟨_,x.cell y c h⟩,e0.hok.fresh (av _),fun y c h=>?_,fun p hp=>absurd (show p∈([]:List (Addr×Obj))from hp) (by simp),e0.hok.kept hk,?_⟩
 ·exact name_of_addr x.apart (PySem.mem_of_lookup h1) (PySem.mem_of_lookup h2)
 ·have hy:scope.names.lookup y=some .cell\/scope.names.lookup y=some .free:=hy
  rcases hy with hy|hy
  ·exact kL hy
  ·exact absurd rfl (S.nofree _ (PySem.mem_of_lookup hy))
 ·exact iD (x.above y c (PySem.mem_of_lookup h))
 ·have hi:i<vs.length:=by
   unfold oq at h2
   by_cases hi:i<vs.length
   ·exact hi
   ·rw[cb (by simpa using hi)]at h2
    rw[k_]at h2
    split at h2<;>cases h2
  have ha:vs[i]?=some v:=by
   unfold oq at h2
   rw[aF (by simpa using hi),af]at h2
   cases e:vs[i]? with
   |none=>rw[e]at h2;cases h2
   |some a=>rw[e]at h2;cases h2;rfl
  obtain⟨u,hu,rv⟩:=r.get ha
  have hp:ps[i]?=some y:=by
   rw[<- S.pre,cy (by omega)];exact h1
  have ndP:ps.Nodup:=by rw[<- S.pre];exact S.nd.sublist (List.take_sublist _ _)
  refine⟨u,rv,?_⟩
  rcases S.par y (aS hp)with k|k
  ·exact .inl ⟨k,uj ndP hp hu k⟩
  ·obtain⟨c,e⟩:=kL (n:=s.heap.objs.size+1) k
   refine .inr ⟨.inl k,c,e,?_⟩
   have q:=x.cell y c e
   rw[uk ndP hp hu (by show scope.names.lookup y≠_;rw[k];decide)]at q
   exact q
 ·exact e0.hok.fresh (iD (x.above y c (PySem.mem_of_lookup h)))
 ·unfold oq
  show _=N.length
  rw[bi,aq,eG]
  omega
theorem Hq{CX:yr}{w:World}{k:Nat}{f:Addr}{params:Arguments}{dV kV pj pm fM ct oc:Value}{an od:Option Addr}
  {Hh:Array (Option Value)} {N ps:List Str} {sp:Sp} (lk:K.lookup f=some ⟨oc,od,.func (fnOf name eY params body scope dV kV pj pm an fM ct),Hh⟩) (zG:codeIn K fM eY=true) (S:bu N ps scope)
  (len:∀vs H Q E,sp vs H Q E->vs.length=ps.length)
  (tL:∀(A:Around) (outer:List Env) (s:Shared) (H:Hp) (vs:List V) (Q:VK) (E:XK),fL k (A.deeper (envOfC eY scope s.heap.objs.size f fM))->sp vs H Q E ->
   ∃t,yq (wI CX P w K mg base N eY scope f fM A outer s H E) body t/\t { nx:=fun _ H'=>Q .non H',rt:=Q } (oq N vs) H) :
  cN P w K mg base CX (k+1) f (fnOf name eY params body scope dV kV pj pm an fM ct) ps sp:=by
 refine⟨len,fun A outer s H args us vs Q E hr e0 hb r Fm=>?_⟩
 have hl:=len _ _ _ _ Fm
 have KX:K.In s.heap:=e0.mod.kin.keeps fun b o e=>(e0.bs b o e).1
 have lim:s.heap.NoLimit:=e0.mod.nolimit.keeps fun b o e=>(e0.bs b o e).1
 have ii:∀y∈ps.zip us,scope.names.lookup y.1=some .local\/(scope.names.lookup y.1=some .cell/\((cellsFrom (s.heap.objs.size+1) scope.names []).lookup y.1).isSome=true):=fun⟨n,v⟩ hy=>by
  rcases S.par n (ms hy).1 with q|q
  ·exact .inl q
  ·exact .inr ⟨q,PySem.W.cellsFrom_some _ _ _ (.inl q)⟩
 refine codeAny_call_function hr.depth (KX _ _ lk) rfl S.co S.gen rfl (PySem.W.codeRec_of KX zG) (hb _ _ _ _ ?_)
 refine wpAny_newFunctionEnv_cells S.kind ii fun env he s1 x=>?_
 subst he
 refine⟨lim.keeps x.toInCall.keep,codeAny_func ?_⟩
 obtain⟨t,ht,hq⟩:=tL A outer s H vs Q E (hr.deeper _) Fm
 have I:bb (wI CX P w K mg base N eY scope f fM A outer s H E) [] (oq N vs) H s1:=A5 S hr.hd e0 hl r x
 refine dE (ht [] s1 (oq N vs) H _ I hq) (fun fl s' hs=>?_) fun e s' hs=>hs
 have m5:∀{σ':St} {H':Hp} {v:V} {u:Value},bb (wI CX P w K mg base N eY scope f fM A outer s H E) [] σ' H' s'->bK v u->Q v H'->CE outer P w H s Q u s':=
  fun{σ' H' v u} J rv q=>⟨v,H',J.os,J.bare,J.base,J.hok,rv,q⟩
 cases fl with
 |ret u=>
  obtain⟨v,σ',H',J,rv,q⟩:=hs
  exact m5 J rv q
 |next=>
  obtain⟨σ',H',J,q⟩:=hs
  exact m5 (v:=V.non) (u:=Value.none) J rfl q
 |brk=>
  obtain⟨_,_,_,q⟩:=hs
  exact False.elim q
 |cont=>
  obtain⟨_,_,_,q⟩:=hs
  exact False.elim q
section
variable{X:Cx}{t:TA}{T:String}{r:List V->Hp->VK->Prop}
def Qg(r:List V->Hp->VK->Prop)(t:TA):TE:=fun σ H Q=>t σ H fun vs H1=>r vs H1 Q
theorem wJ(hc:ik X (.builtin id) r)(hg:Gl X x)(hm:X.mg x=none)(hv:bootBuiltins x=some (.builtin id))(ha:PA X (e::es) t)(hn:x ≠ "__name__":=by decide)(BM:(x==("__debug__":Str))=false:=by decide)
  (he:starEach (e::es) X.env=(false,eval e X.env)::starEach es X.env:=by rfl) (qy:(backTo pos (starEach es X.env)).any (·.1)=false:=by rfl):PE X (.Call (.Name x p) (e::es) [] pos) (Qg r t):=by
 intro ac s σ H Q I h
 refine h_ (jG I hg hm hv ?_ hn BM)
 exact PyProof.Rows.callWith_builtin1 (fU (ha pos ac s σ H _ I h) fun us s1 ⟨vs,H1,I1,r1,q1⟩=>hc ac s1 σ H1 vs us Q I1 r1 q1) he qy
theorem A6(hc:ik X (.type T) r)(hg:Gl X x)(hm:X.mg x=none)(hv:bootBuiltins x=some (.type T))(ha:PA X (e::es) t)(hn:x ≠ "__name__":=by decide)(BM:(x==("__debug__":Str))=false:=by decide)
  (he:starEach (e::es) X.env=(false,eval e X.env)::starEach es X.env:=by rfl) (qy:(backTo pos (starEach es X.env)).any (·.1)=false:=by rfl):PE X (.Call (.Name x p) (e::es) [] pos) (Qg r t):=by
 intro ac s σ H Q I h
 refine h_ (jG I hg hm hv ?_ hn BM)
 exact bv (fU (ha pos ac s σ H _ I h) fun us s1 ⟨vs,H1,I1,r1,q1⟩=>hc ac s1 σ H1 vs us Q I1 r1 q1) he qy
end
end L2
variable{xs:List (List L2.gF×PySem.Addr×PySem.Value)}{H H':L2.Hp}{X:L2.Cx}{v y:L2.V}{σ:L2.St}{te:L2.TE}{ta:L2.TA}{vs:List L2.V}{CX:L2.yr}{sp:L2.Sp}{r':L2.V->Option Int->Option Int->L2.Hp->L2.VK->Prop}{kvs:List (List L2.gF×L2.V)}
namespace HT
open PySem PyProof.Rows
section
open PySem.SeqAt
open PySem.AutoSeq1 (wpAny_loadPart')
open PySem.MeetsSeq PySem.MeetsSeq2 PySem.MeetsSeq3
end
section
variable{w:World}
theorem cat_tup{t:Addr}{vs ws:List Value}(ht:IsTup s.heap t vs.toArray)(hb:IsTup s.heap b ws.toArray)(hv:vs≠[])
  (h1:ws=[]->Q (.ref t) s) (h2:ws≠[]->Q (.ref s.heap.objs.size) { s with heap:=s.heap.push { cls:=.type "tuple",data:=.seq (vs++ws).toArray } })
  (hsz:vs.length+ws.length<=sizeLine):wpAny (model prog w) A (binaryOp .Add (.ref t) (.ref b)) Q E s:=by
 obtain⟨⟨cls,dd,data,sl⟩,ho,hc,n,hd⟩:=id ht
 obtain⟨⟨cls2,dd2,data2,sl2⟩,ho2,hc2,n2,hd2⟩:=id hb
 simp only at hc hd hc2 hd2
 subst hc hd hc2 hd2
 have e:vs.toArray++ws.toArray=(vs++ws).toArray:=by simp
 by_cases hw:ws=[]
 ·exact pA ⟨_,ho,rfl⟩ ⟨_,ho2,rfl⟩ lf nL PySem.F.slot_tuple_add PySem.F.entry_tuple_add (PySem.F.args_tuple_add_2 _ _)
   (tuple_addW1 t b vs.toArray ws.toArray n n2 dd dd2 sl sl2 (by simpa using hv) (by simp[hw])) ⟨ho,ho2,h1 hw⟩
 ·refine pA ⟨_,ho,rfl⟩ ⟨_,ho2,rfl⟩ lf nL PySem.F.slot_tuple_add PySem.F.entry_tuple_add (PySem.F.args_tuple_add_2 _ _)
   (tuple_addW2 t b vs.toArray ws.toArray n n2 dd dd2 sl sl2 (by simpa using hv) (by simpa using hw) (by rw[aH,aH];exact hsz)) ⟨ho,ho2,?_⟩
  rw[e]
  exact h2 hw
def sIx(n d:Nat):Option Int->Nat
 |none=>d
 |some v=>if v<0 then(v+(n:Int)).toNat else min v.toNat n
theorem sIx_none(n d:Nat):sIx n d none=d:=rfl
theorem sIx_nat(n d k:Nat):sIx n d (some (k:Int))=min k n:=by
 show(if (k:Int)<0 then((k:Int)+(n:Int)).toNat else min (k:Int).toNat n)=min k n
 rw[ay (by omega),bj]
theorem sIx_le(n d:Nat)(hd:d<=n)(o:Option Int):sIx n d o<=n:=by
 cases o with
 |none=>exact hd
 |some v=>
  show(if v<0 then(v+(n:Int)).toNat else min v.toNat n)<=n
  by_cases hv:v<0
  ·rw[aw hv];omega
  ·rw[ay hv];exact Nat.min_le_right _ _
theorem zS(v:Int)(n d:Nat):(if v<0 then max (v+(n:Int)) 0 else min v (n:Int))=((sIx n d (some v):Nat):Int):=by
 show(if v<0 then max (v+(n:Int)) 0 else min v (n:Int))=(((if v<0 then(v+(n:Int)).toNat else min v.toNat n):Nat):Int)
 by_cases hv:v<0
 ·simp only[aw hv];omega
 ·simp only[ay hv];omega
theorem yF(lo hi:Option Int)(n:Nat):Builtin.Slice.sliceAdjust lo hi 1 (n:Int)=(((sIx n 0 lo:Nat):Int),((sIx n n hi:Nat):Int)):=by
 have h1:¬ ((1:Int)<0):=by omega
 unfold Builtin.Slice.sliceAdjust
 simp only[h1,fI]
 refine Prod.ext ?_ ?_
 ·cases lo with
  |none=>rfl
  |some v=>exact zS v n 0
 ·cases hi with
  |none=>rfl
  |some v=>exact zS v n n
theorem yG(i j:Nat):Builtin.Slice.slicePlaces (i:Int) (j:Int) 1=j-i:=by
 unfold Builtin.Slice.slicePlaces
 have h1:(1:Int)>0:=by omega
 simp only[h1,gz,Int.ediv_one]
 split<;>omega
theorem rM{v:Value}{o:Option Int}{Q:Option Int->Shared->Prop}(p:IsPart v o)(h:Q o s):wpAny (model prog w) A (Builtin.Slice.slicePartIndex v) Q E s:=by
 cases p with
 |none=>exact slicePart_none h
 |int i t=>exact slicePart_int h
theorem sliceApplied_gen{sl:Addr}{vl vu:Value}{lo hi:Option Int}{Q:Int×Int×Nat->Shared->Prop}(hs:s.heap.IsSliceOf sl vl vu .none)(pl:IsPart vl lo)(pu:IsPart vu hi)
  (h:Q (((sIx n 0 lo:Nat):Int),1,sIx n n hi-sIx n 0 lo) s):wpAny (model prog w) A (Builtin.Slice.sliceApplied (.ref sl) (pure (n:Int))) Q E s:=by
 obtain⟨os,hos,hcs,IV⟩:=id hs
 unfold Builtin.Slice.sliceApplied Builtin.Slice.sliceFields
 refine aa (aa (aY hos IV (x:=vl) rfl (aa (aY hos IV (x:=vu) rfl (aa (aY hos IV (x:=.none) rfl (ar ?_)))))))
 refine aa (slicePart_none ?_)
 show wpAny _ _ (if ((1:Int)==0)=true then _ else _) _ _ s
 rw[ay (by decide)]
 refine aa (rM pl (aa (rM pu (aa (ar ?_)))))
 show wpAny _ _ (match Builtin.Slice.sliceAdjust lo hi 1 (n:Int)with|(lo,hi)=>pure (lo,(1:Int),Builtin.Slice.slicePlaces lo hi 1)) _ _ s
 rw[yF lo hi n]
 show wpAny _ _ (pure (((sIx n 0 lo:Nat):Int),(1:Int),Builtin.Slice.slicePlaces ((sIx n 0 lo:Nat):Int) ((sIx n n hi:Nat):Int) 1)) _ _ s
 rw[yG]
 exact ar h
theorem Ca(xs:Array Value)(i k:Nat):((List.range k).filterMap fun(m:Nat)=>xs[((i:Int)+(m:Int)*1).toNat]?).toArray=((xs.toList.drop i).take k).toArray:=by
 have e:(fun(m:Nat)=>xs[((i:Int)+(m:Int)*1).toNat]?)=fun m=>xs[i+m]?:=by
  funext m
  have:((i:Int)+(m:Int)*1).toNat=i+m:=by omega
  rw[this]
 rw[e]
 have:=pick_run xs i k
 rw[List.filterMap_map]at this
 have e2:((fun x=>xs[x]?)∘fun x=>i+x)=fun m=>xs[i+m]?:=rfl
 rw[e2]at this
 rw[this]
theorem getItem_tuple_cut{t sl:Addr}{items:Array Value}{vl vu:Value}{lo hi:Option Int}(ht:IsTup s.heap t items)(hs:s.heap.IsSliceOf sl vl vu .none)(pl:IsPart vl lo)(pu:IsPart vu hi)
  (hw:¬ (sIx items.size 0 lo=0/\sIx items.size items.size hi=items.size))
  (h:Q (.ref s.heap.objs.size) { s with heap:=s.heap.push { cls:=.type "tuple",data:=.seq ((items.toList.drop (sIx items.size 0 lo)).take (sIx items.size items.size hi-sIx items.size 0 lo)).toArray } })
  (hsz:items.size<=sizeLine):wpAny (model prog w) A (getItem (.ref t) (.ref sl)) Q E s:=by
 have htake:sizeOk (.seq ((items.toList.drop (sIx items.size 0 lo)).take (sIx items.size items.size hi-sIx items.size 0 lo)).toArray):=by
  show((items.toList.drop (sIx items.size 0 lo)).take (sIx items.size items.size hi-sIx items.size 0 lo)).toArray.size<=sizeLine
  rw[aH,aV,dU,fF]
  omega
 have hj:sIx items.size items.size hi<=items.size:=sIx_le _ _ (av _) hi
 obtain⟨os,hos,hcs,IV⟩:=id hs
 have hTs:s.TypeIs (.ref sl) "slice":=⟨os,hos,hcs⟩
 unfold getItem
 try with_reducible refine fY ?_
 first|refine aa (ar ?_)|skip
 refine aa (wpAny_sequenceKey ht.typeIs (by decide) ?_)
 refine aa (bf (name:=Str.ofString "__getitem__") ht.typeIs cW
  (bp cW ht.typeIs entry_tuple_getitem ?_ (args_tuple_getitem _ _)))
 show wpAny _ _ (Builtin.Tuple.tupleItemsOf (.ref t) >>= _) _ _ s
 refine aa (tupleItemsOf_ ht ?_)
 refine aa (pD hTs ?_)
 rw[aw (by decide)]
 refine aa (sliceApplied_gen hs pl pu ?_)
 have hno:¬ ((((sIx items.size 0 lo:Nat):Int)==0&&(1:Int)==1&&(sIx items.size items.size hi-sIx items.size 0 lo)==items.size)=true):=by
  intro q
  rw[cr,cr]at q
  have q1:((sIx items.size 0 lo:Nat):Int)=0:=jF q.1.1
  have q2:sIx items.size items.size hi-sIx items.size 0 lo=items.size:=jF q.2
  exact hw ⟨by omega,by omega⟩
 show wpAny _ _ (if (((sIx items.size 0 lo:Nat):Int)==0&&(1:Int)==1&&(sIx items.size items.size hi-sIx items.size 0 lo)==items.size)=true then _ else _) _ _ s
 rw[ay hno,Ca]
 first
  |exact aa (m:=Builtin.Tuple.tupleExact _) (b8 (ar ⟨_,rfl,ar h⟩) htake)
  |exact aa (m:=Builtin.Tuple.tupleExact _) (b8 (aa (ar (ar ⟨_,rfl,ar h⟩))) htake)
  |exact aa (aa (m:=Builtin.Tuple.tupleExact _) (b8 (ar (ar ⟨_,rfl,ar h⟩)) htake))
  |exact aa (aa (m:=Builtin.Tuple.tupleExact _) (b8 (ar ⟨_,rfl,ar h⟩) htake))
end
end HT
namespace L2
open PySem PySem.Spec PyProof.Rows
abbrev TO:=St->Hp->(Option Int->Hp->Prop)->Prop
def PO(X:Cx)(e:Option Expr)(t:TO):Prop:=
 ∀(ac:List (Addr×Obj)) (s:Shared) (σ:St) (H:Hp) (Q:Option Int->Hp->Prop),bb X ac σ H s->t σ H Q ->
  wpAny (model X.prog X.w) X.A (evalPart e X.env) (fun u s'=>∃o H',bb X ac σ H' s'/\IsPart u o/\Q o H') X.xe s
def FU:TO:=fun _ H Q=>Q none H
def MU(t:TE):TO:=fun σ H Q=>t σ H fun x H1=>∃i,x=.int i/\Q (some i) H1
section
variable{lo hi:Option Expr}{tl th:TO}
theorem FV:PO X none FU:=by
 intro ac s σ H Q I h
 rw[nM]
 exact ar ⟨none,H,I,.none,h⟩
theorem FW(h:PE X e te):PO X (some e) (MU te):=by
 intro ac s σ H Q I hw
 rw[evalPart_some]
 refine fU (h ac s σ H _ I hw) fun u s1 ⟨x,H1,I1,r1,q1⟩=>?_
 obtain⟨i,rfl,q⟩:=q1
 obtain⟨t,rfl⟩:=r1
 exact⟨some i,H1,I1,.int i t,q⟩
def BQ(X:Cx)(r:V->Option Int->Option Int->Hp->VK->Prop):Prop:=
 ∀(ac:List (Addr×Obj)) (s:Shared) (σ:St) (H:Hp) (x:V) (v vl vu:Value) (lo hi:Option Int) (sl:Addr) (Q:VK),bb X ac σ H s->bK x v->s.heap.IsSliceOf sl vl vu .none->IsPart vl lo->IsPart vu hi->r x lo hi H Q ->
  ∃T id,typeLookup (.type T) "__getitem__"=pure (some (.builtin id))/\s.TypeIs v T/\wpAny (model X.prog X.w) X.A (getItem v (.ref sl)) (EP X ac σ Q) X.xe s
theorem BQ.or{r:V->Option Int->Option Int->Hp->VK->Prop}(h:BQ X r)(h':BQ X r'):BQ X (fun x lo hi H Q=>r x lo hi H Q\/r' x lo hi H Q):=by
 intro ac s σ H x v vl vu lo hi sl Q I rx hs pl pu q
 rcases q with q|q
 ·exact h ac s σ H x v vl vu lo hi sl Q I rx hs pl pu q
 ·exact h' ac s σ H x v vl vu lo hi sl Q I rx hs pl pu q
def RQ(r:V->Option Int->Option Int->Hp->VK->Prop)(te:TE)(tl th:TO):TE:=fun σ H Q=>te σ H fun x H1=>tl σ H1 fun l H2=>th σ H2 fun u H3=>r x l u H3 Q
theorem Cb{r:V->Option Int->Option Int->Hp->VK->Prop}(hr:BQ X r)(he:PE X e te)(hl:PO X lo tl)(hu:PO X hi th):PE X (.Subscript e (.Slice lo hi none p2) pos) (RQ r te tl th):=by
 intro ac s σ H Q I h
 refine Subscript_ (fU (he ac s σ H _ I h) fun v s1 ⟨x,H1,I1,r1,q1⟩=>?_)
 refine wpAny_Slice (fU (hl ac s1 σ H1 _ I1 q1) fun vl s2 ⟨l,H2,I2,pl,q2⟩=>fU (hu ac s2 σ H2 _ I2 q2) fun vu s3 ⟨u,H3,I3,pu,q3⟩=>?_)
 rw[nM]
 refine ar ?_
 have I4:bb X ac σ H3 { s3 with heap:=s3.heap.push { cls:=.type "slice",data:=.fields #[vl,vu,.none] } }:=I3.kept (t':=s3.toks) fun b ob q=>ai _ q
 obtain⟨T,id,hT,ht,hg⟩:=hr ac { s3 with heap:=s3.heap.push { cls:=.type "slice",data:=.fields #[vl,vu,.none] } } σ H3 x v vl vu l u s3.heap.objs.size Q I4 r1 (Heap.IsSliceOf.new ..) pl pu q3
 show wpAny (model X.prog X.w) X.A (subscriptTail e (.Slice lo hi none p2) v (.ref s3.heap.objs.size)) (EP X ac σ Q) X.xe { s3 with heap:=s3.heap.push { cls:=.type "slice",data:=.fields #[vl,vu,.none] } }
 exact tail_any (ops:=[.ref s3.heap.objs.size,v]) ht hT hg (by with_unfolding_all rfl)
def rN(xs:List V)(lo hi:Option Int):List V:=(xs.drop (HT.sIx xs.length 0 lo)).take (HT.sIx xs.length xs.length hi-HT.sIx xs.length 0 lo)
theorem qa(xs:List V)(lo hi:Option Int):(rN xs lo hi).length<=xs.length:=by
 unfold rN
 rw[aV,dU]
 omega
def Qh(K:Frag):V->Option Int->Option Int->Hp->VK->Prop:=fun x lo hi H Q=>∃a xs,x=.ref a/\dW K H a xs /\
 ¬ (HT.sIx xs.length 0 lo=0/\HT.sIx xs.length xs.length hi=xs.length)/\∀p,H p=none->Q (.ref p) (da H p (.tup (rN xs lo hi)))
theorem JI:BQ X (Qh X.K):=by
 intro ac s σ H x v vl vu lo hi sl Q I rx hs pl pu h
 obtain⟨a,xs,rfl,hx,hw,q⟩:=h
 cases rx
 obtain⟨bd,r,ht,hz⟩:=I.tuple hx
 have cV:bd.toArray.size=xs.length:=by rw[aH];exact r.length.symm
 refine⟨"tuple",_,cW.lookup,ht.typeIs,?_⟩
 refine HT.getItem_tuple_cut ht hs pl pu (by rw[cV];exact hw) ?_ (by rw[cV];exact hz)
 rw[cV]
 refine⟨.ref s.heap.objs.size,_,I.laid (t':=s.toks) (o:=.tup (rN xs lo hi)) (fun b ob q=>ai _ q) (av _) ?_,rfl,q _ (I.hok.fresh (av _))⟩
 exact⟨aQ (qa xs lo hi) hz,_,(r.drop (HT.sIx xs.length 0 lo)).take (HT.sIx xs.length xs.length hi-HT.sIx xs.length 0 lo),IsTup.new _ _⟩
def MV(K:Frag):R2:=fun x y H Q=>∃a b xs ys,x=.ref a/\y=.ref b/\dW K H a xs/\dW K H b ys/\xs≠[]/\xs.length+ys.length<=sizeLine /\
 (ys=[]->Q (.ref a) H)/\(ys≠[]->∀p,H p=none->Q (.ref p) (da H p (.tup (xs++ys))))
theorem bE.nil_iff{xs:List V}(r:bE xs us):us=[]↔xs=[]:=by
 cases r with
 |nil=>simp
 |cons _ _=>simp
theorem FX:kJ X (binaryOp .Add) (MV X.K):=by
 intro ac s σ H x y v u Q I rx ry h
 obtain⟨a,b,xs,ys,rfl,rfl,ha,hb,hx,hz,q1,q2⟩:=h
 cases rx
 cases ry
 obtain⟨bd,r1,p1,_⟩:=I.tuple ha
 obtain⟨its2,r2,p2,_⟩:=I.tuple hb
 refine HT.cat_tup p1 p2 (fun z=>hx (r1.nil_iff.mp z)) (fun z=>⟨.ref a,H,I,rfl,q1 (r2.nil_iff.mp z)⟩) (fun z=>?_) (by rw[<- r1.length,<- r2.length];exact hz)
 refine⟨.ref s.heap.objs.size,_,I.laid (t':=s.toks) (o:=.tup (xs++ys)) (fun b ob q=>ai _ q) (av _) ?_,rfl,q2 (fun w=>z (r2.nil_iff.mpr w)) _ (I.hok.fresh (av _))⟩
 exact⟨by rw[bi];exact hz,_,r1.append r2,IsTup.new _ _⟩
theorem wK:ik X (.type "tuple") (fun xs H Q=>∃a ys,xs=[.ref a]/\dW X.K H a ys/\Q (.ref a) H):=by
 intro ac s σ H xs us Q I r h
 obtain⟨a,ys,rfl,ha,q⟩:=h
 obtain⟨u,rfl,ru⟩:=oo r
 cases ru
 obtain⟨bd,_,p1,_⟩:=I.tuple ha
 exact call_tuple_same (items:=bd.toArray) p1 ⟨.ref a,H,I,rfl,q⟩
end
def A7(n:Nat)(i:Int):Option Nat:=if 0<=i then(if i<n then some i.toNat else none)else if -(n:Int)<=i then some (i+n).toNat else none
def tP(xs:List α)(i:Int):Option α:=(A7 xs.length i).bind fun j=>xs[j]?
theorem zU{i:Int}(h:A7 n i=some j):seqIndex? i n=some j/\j<n/\-(n:Int)<=i/\i<n:=by
 unfold A7 at h
 by_cases h0:0<=i
 ·rw[aw h0]at h
  by_cases h1:i<n
  ·rw[aw h1]at h
   have e:i.toNat=j:=aL h
   exact⟨by rw[seqIndex_of h0 h1,e],by omega,by omega,h1⟩
  ·rw[ay h1]at h;cases h
 ·rw[ay h0]at h
  by_cases h1:-(n:Int)<=i
  ·rw[aw h1]at h
   have e:(i+n).toNat=j:=aL h
   exact⟨by rw[pE (by omega) h1,e],by omega,h1,by omega⟩
  ·rw[ay h1]at h;cases h
theorem u_{xs:List α}{i:Int}{v:α}(h:tP xs i=some v):∃j,seqIndex? i xs.length=some j/\xs[j]?=some v/\j<xs.length/\-(xs.length:Int)<=i/\i<xs.length:=by
 unfold tP at h
 cases e:A7 xs.length i with
 |none=>rw[e]at h;cases h
 |some j=>
  rw[e]at h
  obtain⟨h1,h2,h3,h4⟩:=zU e
  exact⟨j,h1,h,h2,h3,h4⟩
def zV(b:Expr):Prop:=∀o i,subscripted b false o i=operate [o,i] (getItem o i)
def Fj(X:Cx)(r:R2):Prop:=
 ∀(value slice:Expr) (ac:List (Addr×Obj)) (s:Shared) (σ:St) (H:Hp) (x y:V) (v u:Value) (Q:VK),bb X ac σ H s->bK x v->bK y u->r x y H Q ->
  subscripted slice false v u=operate [v,u] (getItem v u)->wpAny (model X.prog X.w) X.A (subscriptTail value slice v u) (EP X ac σ Q) X.xe s
def wL(X:Cx)(id:String)(r:V->List V->Hp->VK->Prop):Prop:=
 ∀(ac:List (Addr×Obj)) (s:Shared) (σ:St) (H:Hp) (x:V) (xs:List V) (v:Value) (us:List Value) (Q:VK),bb X ac σ H s->bK x v->bE xs us->r x xs H Q ->
  wpAny (model X.prog X.w) X.A (call (.builtin id) (v::us)) (EP X ac σ Q) X.xe s
section
variable{a b:Expr}{ta tb:TE}
theorem Fj.or{r r':R2}(h:Fj X r)(h':Fj X r'):Fj X (fun x y H Q=>r x y H Q\/r' x y H Q):=by
 intro value slice ac s σ H x y v u Q I rx ry q hs
 rcases q with q|q
 ·exact h value slice ac s σ H x y v u Q I rx ry q hs
 ·exact h' value slice ac s σ H x y v u Q I rx ry q hs
theorem wL.or{r r':V->List V->Hp->VK->Prop}(h:wL X id r)(h':wL X id r'):wL X id (fun x xs H Q=>r x xs H Q\/r' x xs H Q):=by
 intro ac s σ H x xs v us Q I rx rs q
 rcases q with q|q
 ·exact h ac s σ H x xs v us Q I rx rs q
 ·exact h' ac s σ H x xs v us Q I rx rs q
theorem MW{r:R2}(hr:Fj X r)(ha:PE X a ta)(hb:PE X b tb)(hs:zV b):PE X (.Subscript a b pos) (MK r ta tb):=by
 intro ac s σ H Q I h
 exact Subscript_ (Js ha hb I h fun v u s2 x y H2 I2 rx ry q=>hr a b ac s2 σ H2 x y v u Q I2 rx ry q (hs _ _))
def MX(K:Frag):R2:=fun x y H Q=>∃p xs i v,x=.ref p/\y=.int i/\jr K H p xs/\tP xs i=some v/\Q v H
def MY(K:Frag):R2:=fun x y H Q=>∃p xs i v,x=.ref p/\y=.int i/\dW K H p xs/\tP xs i=some v/\Q v H
def MZ:R2:=fun x y H Q=>∃z i c,x=.str z/\y=.int i/\z.length<=sizeLine/\tP z.cps.toList i=some c/\Q (.str ⟨#[c]⟩) H
theorem FY:Fj X (MX X.K):=by
 intro value slice ac s σ H x y v u Q I rx ry h hs
 obtain⟨p,xs,i,z,rfl,rfl,hq,he,q⟩:=h
 cases rx
 obtain⟨t,rfl⟩:=ry
 obtain⟨bd,r,pl,hz⟩:=I.list hq
 obtain⟨j,h1,h2,h3,h4,h5⟩:=u_ he
 obtain⟨w,ew,ko⟩:=r.get h2
 have hl:=r.length
 have hn:=pI
 have m5:EP X ac σ Q w s:=⟨z,H,I,ko,q⟩
 by_cases h0:0<=i
 ·have hj:i.toNat=j:=by
   rw[seqIndex_of h0 h5]at h1
   exact aL h1
  exact item_listR pl.isList h0 (by omega) (by rw[hj];simpa using ew) m5 hs
 ·have hj:(i+(bd.toArray.size:Int)).toNat=j:=by
   rw[pE (by omega) h4]at h1
   rw[aH,<- hl]
   exact aL h1
  exact lX (x:=w) pl.isList.typeIs slot_list_getitem.lookup
   (wpAny_getItem_list_neg (Q:=fun r s'=>r=w/\EP X ac σ Q r s') pl.isList (by omega) (by rw[aH]<;>omega) (by omega) (by rw[hj];simpa using ew) ⟨rfl,m5⟩) hs
theorem JJ:Fj X (MY X.K):=by
 intro value slice ac s σ H x y v u Q I rx ry h hs
 obtain⟨p,xs,i,z,rfl,rfl,hq,he,q⟩:=h
 cases rx
 obtain⟨t,rfl⟩:=ry
 obtain⟨bd,r,pl,hz⟩:=I.tuple hq
 obtain⟨j,h1,h2,h3,h4,h5⟩:=u_ he
 obtain⟨w,ew,ko⟩:=r.get h2
 have hl:=r.length
 have hn:=pI
 have m5:EP X ac σ Q w s:=⟨z,H,I,ko,q⟩
 exact lX (x:=w) pl.typeIs slot_tuple_getitem.lookup
  (getItem_tuple (j:=j) (Q:=fun r s'=>r=w/\EP X ac σ Q r s') pl (by omega) (by omega) (by rw[aH,<- hl];exact h1) (by simpa using ew) ⟨rfl,m5⟩) hs
theorem JK:Fj X MZ:=by
 intro value slice ac s σ H x y v u Q I rx ry h hs
 obtain⟨z,i,c,rfl,rfl,hz,he,q⟩:=h
 obtain⟨t,rfl⟩:=rx
 obtain⟨t',rfl⟩:=ry
 obtain⟨j,h1,h2,h3,h4,h5⟩:=u_ he
 have hl:z.cps.toList.length=z.length:=by simp[Str.length]
 rw[hl]at h1 h4 h5
 have hn:=pI
 exact tail_any (i4 s z t) slot_str_getitem.lookup (getItem_str (c:=c) (by
  have e1:decide (i < -(2^63:Int))=false:=bq (by omega)
  have e2:decide (i≥2^63)=false:=bq (by omega)
  rw[e1,e2,Bool.or_false]) (by rw[h1];simpa using h2) ⟨.str ⟨#[c]⟩,H,I.tok _,⟨_,rfl⟩,q⟩) hs
def RR(K:Frag):R2:=fun x y H Q=>MX K x y H Q\/MY K x y H Q\/MZ x y H Q
theorem JL:Fj X (RR X.K):=FY.or (JJ.or JK)
theorem yH(bd:List Value)(n j:Nat)(u:Value):Obj.mapSeq (·.setIfInBounds j u) { cls:=.type "list",data:=.seq bd.toArray n }={ cls:=.type "list",data:=.seq (bd.set j u).toArray n }:=by
 simp[Obj.mapSeq]
theorem bb.lst{p:Addr}{xs:List V}(I:bb X ac σ H s)(h:H p=some (.lst xs)) :
  ∃(bd:List Value) (n:Nat),bE xs bd/\s.heap.get? p=some { cls:=.type "list",data:=.seq bd.toArray n }/\xs.length<=sizeLine:=by
 obtain⟨z,bd,n,r,e⟩:=I.hok p _ h
 exact⟨bd,n,r,e,z⟩
theorem bb.lstUpd{p:Addr}{xs ys:List V}{bd its':List Value}{n':Nat}{f:Obj->Obj}(I:bb X ac σ H s)(h:H p=some (.lst xs))
  (ho:s.heap.get? p=some { cls:=.type "list",data:=.seq bd.toArray n }) (hf:f { cls:=.type "list",data:=.seq bd.toArray n }={ cls:=.type "list",data:=.seq its'.toArray n' }) (r:bE ys its') (hz:ys.length<=sizeLine) (t:Nat) :
  bb X ac σ (da H p (.lst ys)) { s with heap:=s.heap.update p f,toks:=t }:=by
 have e:(s.heap.update p f).get? p=some { cls:=.type "list",data:=.seq its'.toArray n' }:=by
  rw[eJ f ho (by rw[hf]<;>rfl),hf]
 refine I.write (x:=p) (e:=p) (by rw[h];trivial) (.inl rfl) (fun b u hb q=>(dO _ _ (Ne.symm hb)).trans q) ⟨_,e⟩ ?_
 exact⟨hz,its',n',r,e⟩
def M0:V->V->V->Hp->(Hp->Prop)->Prop:=fun o i v H Q=>∃p xs k j,o=.ref p/\i=.int k/\H p=some (.lst xs)/\A7 xs.length k=some j/\Q (da H p (.lst (xs.set j v)))
theorem Cc:AW X M0:=by
 intro ac s σ H o i v ov iv u Q I ro ri rv h
 obtain⟨p,xs,k,j,rfl,rfl,hp,hj,q⟩:=h
 cases ro
 obtain⟨t,rfl⟩:=ri
 obtain⟨bd,n,r,ho,hz⟩:=I.lst hp
 obtain⟨h1,h2,h3,h4⟩:=zU hj
 have hl:=r.length
 have hn:=pI
 have I':bb X ac σ (da H p (.lst (xs.set j v))) { s with heap:=s.heap.update p (Obj.mapSeq (·.setIfInBounds j u)) }:=
  I.lstUpd hp ho (yH bd n j u) (r.set rv j) (by rw[jl];exact hz) s.toks
 by_cases h0:0<=k
 ·have hk:k.toNat=j:=by
   rw[seqIndex_of h0 h4]at h1
   exact aL h1
  exact PySem.W.ki_setAt ho h0 (by omega) (by rw[aH,<- hl];exact h4) (by rw[hk];exact⟨_,I',q⟩)
 ·have hk:(k+(bd.toArray.size:Int)).toNat=j:=by
   rw[pE (by omega) h3]at h1
   rw[aH,<- hl]
   exact aL h1
  exact PySem.W.ki_setBack ho (by omega) (by rw[aH,<- hl];exact h3) (by omega) (by rw[hk];exact⟨_,I',q⟩)
theorem vc(lo hi:Option Int)(n:Nat):(sliceBounds lo hi none n).1=((HT.sIx n 0 lo:Nat):Int)/\(sliceBounds lo hi none n).2.1=((HT.sIx n n hi:Nat):Int)/\(sliceBounds lo hi none n).2.2=1:=by
 refine⟨?_,?_,rfl⟩
 ·cases lo with
  |none=>simp[sliceBounds,HT.sIx]
  |some i=>
   simp only[sliceBounds,HT.sIx,lg,show(1:Int)>0 by decide,gz]
   by_cases h:i<0
   ·simp only[h,gz]<;>omega
   ·simp only[h,fI]<;>omega
 ·cases hi with
  |none=>simp[sliceBounds,HT.sIx]
  |some i=>
   simp only[sliceBounds,HT.sIx,lg,show(1:Int)>0 by decide,gz]
   by_cases h:i<0
   ·simp only[h,gz]<;>omega
   ·simp only[h,fI]<;>omega
theorem tR(bd:List Value)(lo hi:Option Int):slicePick bd.toArray lo hi none=((bd.drop (HT.sIx bd.length 0 lo)).take (HT.sIx bd.length bd.length hi-HT.sIx bd.length 0 lo)).toArray:=by
 obtain⟨h1,h2,h3⟩:=vc lo hi bd.toArray.size
 unfold slicePick
 rw[h1,h2,h3]
 simp only[sliceRange_one,pick_run,aH]<;>rfl
def Qi(K:Frag):V->Option Int->Option Int->Hp->VK->Prop:=fun x lo hi H Q=>∃a xs,x=.ref a/\jr K H a xs/\∀p,H p=none->Q (.ref p) (da H p (.lst (rN xs lo hi)))
theorem FZ:BQ X (Qi X.K):=by
 intro ac s σ H x v vl vu lo hi sl Q I rx hs pl pu h
 obtain⟨a,xs,rfl,hx,q⟩:=h
 cases rx
 obtain⟨bd,r,ht,hz⟩:=I.list hx
 have cV:=r.length
 refine⟨"list",_,slot_list_getitem.lookup,ht.isList.typeIs,?_⟩
 refine kH ht.isList hs pl pu .none (by simp) ?_ (by rw[aH]<;>omega)
 rw[tR,<- cV]
 refine⟨.ref s.heap.objs.size,_,I.laid (t':=s.toks) (o:=.lst (rN xs lo hi)) (fun b ob q=>ai _ q) (av _) ?_,rfl,q _ (I.hok.fresh (av _))⟩
 exact⟨aQ (qa xs lo hi) hz,_,0,(r.drop (HT.sIx xs.length 0 lo)).take (HT.sIx xs.length xs.length hi-HT.sIx xs.length 0 lo),ao _ rfl⟩
theorem ou:ik X (.builtin "len") (fun xs H Q=>∃p ys,xs=[.ref p]/\(jr X.K H p ys\/dW X.K H p ys)/\Q (.int ys.length) H):=by
 intro ac s σ H xs us Q I r h
 obtain⟨p,ys,rfl,hq,q⟩:=h
 obtain⟨u,rfl,rx⟩:=oo r
 cases rx
 have hn:=pI
 rcases hq with hq|hq
 ·obtain⟨bd,r',pl,hz⟩:=I.list hq
  have cV:=r'.length
  exact Calls.call_len_list pl.isList (by simp only[aH]<;>omega) ⟨.int ys.length,H,I.tok _,⟨s.toks+1,by rw[aH,cV]⟩,q⟩
 ·obtain⟨bd,r',pl,hz⟩:=I.tuple hq
  have cV:=r'.length
  exact len_tuple pl (by simp only[aH]<;>omega) ⟨.int ys.length,H,I.tok _,⟨s.toks+1,by rw[aH,cV]⟩,q⟩
theorem vd:ik X (.builtin "len") (fun xs H Q=>∃z,xs=[.str z]/\z.length<=sizeLine/\Q (.int z.length) H):=by
 intro ac s σ H xs us Q I r h
 obtain⟨z,rfl,hz,q⟩:=h
 obtain⟨u,rfl,t,rfl⟩:=oo r
 have hn:=pI
 exact len_str (by omega) ⟨.int z.length,H,I.tok _,⟨_,rfl⟩,q⟩
theorem ik.or{f:Value}{r r':List V->Hp->VK->Prop}(h:ik X f r)(h':ik X f r'):ik X f (fun xs H Q=>r xs H Q\/r' xs H Q):=by
 intro ac s σ H xs us Q I rs q
 rcases q with q|q
 ·exact h ac s σ H xs us Q I rs q
 ·exact h' ac s σ H xs us Q I rs q
theorem tS:ik X (.type "tuple") (fun xs H Q=>∃p ys,xs=[.ref p]/\((jr X.K H p ys/\∀l,H l=none->Q (.ref l) (da H l (.tup ys)))\/(dW X.K H p ys/\Q (.ref p) H))):=by
 intro ac s σ H xs us Q I r h
 obtain⟨p,ys,rfl,h⟩:=h
 obtain⟨u,rfl,rx⟩:=oo r
 cases rx
 rcases h with⟨hq,q⟩|⟨hq,q⟩
 ·obtain⟨bd,r',pl,hz⟩:=I.list hq
  have cV:=r'.length
  refine call_tuple_list pl.isList (fun h' kp=>?_) (by simp only[aH]<;>omega)
  have I1:bb X ac σ H { s with heap:=h' }:=I.kept (t':=s.toks) kp
  have I2:bb X ac σ (da H h'.objs.size (.tup ys)) { s with heap:=h'.push { cls:=.type "tuple",data:=.seq bd.toArray } }:=
   I1.laid (t':=s.toks) (fun b o e=>ai _ e) (av _) (show eV X.prog X.w _ _ _ (.tup ys)from⟨hz,bd,r',IsTup.new _ _⟩)
  exact⟨.ref h'.objs.size,_,I2,rfl,q _ (I1.hok.fresh (av _))⟩
 ·obtain⟨bd,r',pl,hz⟩:=I.tuple hq
  exact call_tuple_same pl ⟨.ref p,H,I,rfl,q⟩
def Po(K:Frag)(T:String)(x:V)(H:Hp):Prop:=match x with
 |.str _=>T="str"
 |.int _=>T="int"
 |.ref p=>(T="list"/\∃xs,jr K H p xs)\/(T="tuple"/\∃o,K.lookup p=some o/\o.cls=.type "tuple"/\o.dict=none) \/
   (T="dict"/\((∃kvs,H p=some (.dK kvs))\/∃kvs,H p=some (.dT kvs)))\/(T="set"/\∃S n,H p=some (.set S n))
 |_=>False
theorem Cd{T:String}{x:V}{v:Value}(I:bb X ac σ H s)(r:bK x v)(ty:Po X.K T x H) :
  s.TypeIs v T/\∀a,v=.ref a->∃ob,s.heap.get? a=some ob/\ob.dict=none:=by
 cases x with
 |str z=>
  obtain⟨t,rfl⟩:=r
  cases(show T="str" from ty)
  exact⟨i4 s z t,fun _ e=>nomatch e⟩
 |int i=>
  obtain⟨t,rfl⟩:=r
  cases(show T="int" from ty)
  exact⟨typeIs_int s i t,fun _ e=>nomatch e⟩
 |ref p=>
  cases r
  rcases ty with⟨rfl,xs,hq⟩|⟨rfl,o,hk,hc,hd⟩|⟨rfl,hk⟩|⟨rfl,S,n,hk⟩
  ·obtain⟨bd,_,pl,_⟩:=I.list hq
   refine⟨pl.isList.typeIs,fun a e=>?_⟩
   cases e
   obtain⟨o,n,e,c,hd,_⟩:=pl
   exact⟨o,e,hd⟩
  ·refine⟨⟨o,I.kIn p o hk,hc⟩,fun a e=>?_⟩
   cases e
   exact⟨o,I.kIn _ o hk,hd⟩
  ·have z:∃o,s.heap.get? p=some o/\o.ExactDict:=by
    rcases hk with⟨kvs,hk⟩|⟨kvs,hk⟩
    ·obtain⟨_,_,_,_,o,_,_,e,ex,_⟩:=I.hok p _ hk
     exact⟨o,e,ex⟩
    ·obtain⟨_,_,_,_,o,_,_,e,ex,_⟩:=I.hok p _ hk
     exact⟨o,e,ex⟩
   obtain⟨o,e,ex⟩:=z
   refine⟨⟨o,e,ex.1⟩,fun a e2=>?_⟩
   cases e2
   exact⟨o,e,ex.2.1⟩
  ·obtain⟨o,_,_,_,e,ex,_⟩:=I.hok p _ hk
   refine⟨⟨o,e,ex.1⟩,fun a e2=>?_⟩
   cases e2
   exact⟨o,e,ex.2.1⟩
 |_=>exact False.elim ty
variable{to:TE}{t:TA}{T:String}{r:V->List V->Hp->VK->Prop}
end
def Rp(X:Cx)(id:String)(r:V->List V->Hp->VK->Prop):Prop:=
 ∀(ac:List (Addr×Obj)) (s:Shared) (σ:St) (H:Hp) (x:V) (xs:List V) (v:Value) (us:List Value) (Q:VK),bb X ac σ H s->bK x v->bE xs us->r x xs H Q ->
  wpAny (model X.prog X.w) X.A (call (.builtin id) (v::us)) (EP X ac σ Q) X.xe s
theorem bE.one:∀{x:V} {us:List Value},bE [x] us->∃u,us=[u]/\bK x u
 |_,_,.cons r .nil=>⟨_,rfl,r⟩
theorem bE.two:∀{x y:V} {us:List Value},bE [x,y] us->∃u v,us=[u,v]/\bK x u/\bK y v
 |_,_,_,.cons r (.cons q .nil)=>⟨_,_,rfl,r,q⟩
theorem bE.zero:∀{us:List Value},bE [] us->us=[]
 |_,.nil=>rfl
theorem bE.dropLast{xs:List V}(h:bE xs us):bE xs.dropLast us.dropLast:=by
 induction h with
 |nil=>exact .nil
 |cons r t ih=>
  cases t with
  |nil=>exact .nil
  |cons q t'=>exact .cons r ih
theorem bE.eraseIdx:∀{xs:List V} {us:List Value} (i:Nat),bE xs us->bE (xs.eraseIdx i) (us.eraseIdx i)
 |_,_,_,.nil=>.nil
 |_,_,0,.cons _ t=>t
 |_,_,i+1,.cons r t=>.cons r (bE.eraseIdx i t)
theorem bE.reverse{xs:List V}(h:bE xs us):bE xs.reverse us.reverse:=by
 induction h with
 |nil=>exact .nil
 |cons r t ih=>rw[fg,fg];exact bE.append ih (.cons r .nil)
theorem yI(l:List α):l.eraseIdx (l.length-1)=l.dropLast:=by
 induction l with
 |nil=>rfl
 |cons a r ih=>
  cases r with
  |nil=>rfl
  |cons b r=>
   have e:(a::b::r).length-1=((b::r).length-1)+1:=by
    have h1:(a::b::r).length=r.length+2:=rfl
    have h2:(b::r).length=r.length+1:=rfl
    omega
   rw[e,List.eraseIdx_cons_succ,ih]
   all_goals rfl
section
variable{l:Addr}{xs ys zs:List V}
theorem bb.lset{bd its':List Value}{f:Array Value->Array Value}{t':Nat}(I:bb X ac σ H s)(hH:H l=some (.lst xs))
  (e:s.heap.get? l=some { cls:=.type "list",data:=.seq bd.toArray n }) (hf:f bd.toArray=its'.toArray) (hv:bE ys its') (hz:ys.length<=sizeLine) :
  bb X ac σ (da H l (.lst ys)) { s with heap:=s.heap.update l (Obj.mapSeq f),toks:=t' }:=by
 have q:=PySem.IsL.update e f
 rw[hf]at q
 refine I.write (x:=l) (e:=l) (by rw[hH];exact trivial) (.inl rfl) (fun b' u hb hu=>(dO s.heap (Obj.mapSeq f) (Ne.symm hb)).trans hu) ⟨_,q⟩ ?_
 exact⟨hz,its',_,hv,q⟩
theorem bb.lnew{bd:List Value}{t':Nat}(I:bb X ac σ H s)(hv:bE ys bd)(hz:ys.length<=sizeLine) :
  bb X ac σ (da H s.heap.objs.size (.lst ys)) { s with heap:=s.heap.push { cls:=.type "list",data:=.seq bd.toArray },toks:=t' }:=
 I.laid (fun _ _ q=>ai _ q) (av _) ⟨hz,bd,0,hv,ao _ rfl⟩
theorem bb.fresh(I:bb X ac σ H s):H s.heap.objs.size=none:=I.hok.fresh (av _)
theorem bb.lstM(I:bb X ac σ H s)(hH:H l=some (.lst xs)):xs.length<=sizeLine/\∃(bd:List Value) (n:Nat),bE xs bd/\xs.length=bd.length/\s.heap.get? l=some { cls:=.type "list",data:=.seq bd.toArray n }:=by
 obtain⟨z,bd,n,r,e⟩:=I.hok l _ hH
 exact⟨z,bd,n,r,r.length,e⟩
end
section
def zW:V->List V->Hp->VK->Prop:=fun x vs H Q=>∃l xs y,x=.ref l/\vs=[y]/\H l=some (.lst xs)/\xs.length<sizeLine/\Q .non (da H l (.lst (xs++[y])))
theorem A8:Rp X "list.append" zW:=by
 intro ac s σ H x vs v us Q I rx rv h
 obtain⟨l,xs,y,rfl,rfl,hH,hz,q⟩:=h
 cases rx
 obtain⟨u,rfl,ru⟩:=rv.one
 obtain⟨z,bd,n,r,hl,e⟩:=I.lstM hH
 refine call_meets F.slot_list_append ⟨_,e,rfl⟩ F.entry_list_append (F.args_list_append_2 _ _) (PySem.list_append l bd.toArray n u (by rw[aH];omega)) ⟨e,?_⟩
 refine⟨.non,_,I.lset (its':=bd++[u]) hH e (by simp) (r.append (.cons ru .nil)) ?_,rfl,q⟩
 rw[bi,iR]
 omega
def M1:V->List V->Hp->VK->Prop:=fun x vs H Q=>∃l xs y,x=.ref l/\vs=[]/\H l=some (.lst xs)/\xs[xs.length-1]?=some y/\Q y (da H l (.lst xs.dropLast))
theorem JM:Rp X "list.pop" M1:=by
 intro ac s σ H x vs v us Q I rx rv h
 obtain⟨l,xs,y,rfl,rfl,hH,hy,q⟩:=h
 cases rx
 have hus:=rv.zero
 subst hus
 obtain⟨z,bd,n,r,hl,e⟩:=I.lstM hH
 obtain⟨u,hu,ru⟩:=r.get hy
 have hy':bd.toArray[bd.toArray.size-1]?=some u:=by
  show bd.toArray[bd.length-1]?=some u
  rw[<- Array.getElem?_toList,<- hl]
  exact hu
 refine call_meets F.slot_list_pop ⟨_,e,rfl⟩ F.entry_list_pop (F.args_list_pop_1 _) (MeetsSeq.list_pop_last l bd.toArray n u hy' (by rw[aH];omega)) ⟨e,?_⟩
 refine⟨y,_,I.lset (its':=bd.dropLast) hH e ?_ r.dropLast ?_,ru,q⟩
 ·show bd.toArray.eraseIdxIfInBounds (bd.toArray.size-1)=bd.dropLast.toArray
  rw[aH,List.eraseIdxIfInBounds_toArray,yI]
 ·rw[List.length_dropLast]
  omega
def Qj:R2:=fun x y H Q=>∃l b xs zs,x=.ref l/\y=.ref b/\H l=some (.lst xs)/\H b=some (.lst zs)/\xs.length+zs.length<=sizeLine/\∀p,H p=none->Q (.ref p) (da H p (.lst (xs++zs)))
theorem JN:kJ X (binaryOp .Add) Qj:=by
 intro ac s σ H x y v u Q I rx ry h
 obtain⟨l,b,xs,zs,rfl,rfl,hH,hB,hz,q⟩:=h
 cases rx
 cases ry
 obtain⟨z,bd,n,r,hl,e⟩:=I.lstM hH
 obtain⟨z2,its2,n2,r2,hl2,e2⟩:=I.lstM hB
 refine PySem.P.add_list e e2 ?_ (by rw[aH,aH];omega)
 have ea:bd.toArray++its2.toArray=(bd++its2).toArray:=by simp
 rw[ea]
 exact⟨.ref _,_,I.lnew (t':=s.toks) (r.append r2) (by rw[bi];omega),rfl,q _ I.fresh⟩
end
section
variable{w:World}
end
section
end
end L2
namespace Att
open PySem PySem.W PySem.Calls PyProof.Rows
theorem qD{P:Params}{h:Heap}:∀(ns:List Int) (vs:List Value),WellAll P h vs (ns.map WData.int)->IntsAre vs ns:=by
 intro ns
 induction ns with
 |nil=>
  intro vs w
  rw[List.map_nil]at w
  cases w
  exact .nil
 |cons n ns ih=>
  intro vs w
  rw[aN]at w
  cases w with
  |cons a b=>
   cases a
   exact .cons _ _ (ih _ b)
theorem A9{l:OpenLaw}(hn:l.most=some n){P:Params}{h:Heap}{args:List WData}{lS:List Value}
  (yk:l.row.toRowW.claim.pre args=true) (Rb:WellAll P h lS args) :
  ∃a vs ns,lS=[Value.ref a]/\args=[WData.list (ns.map WData.int)]/\h.get? a=some { cls:=.type "list",data:=.seq vs.toArray }/\IntsAre vs ns/\ns.length<=n:=by
 have hsh:WShape.hasAll [] args [.list .int]=true:=(pre_splitW yk).1
 have hc:l.pre.holds [] { args:=args }=true:=(pre_splitW yk).2
 obtain⟨d,r,rfl,h1,h2⟩:=hasAllW_cons hsh
 obtain rfl:=hasAllW_nil h2
 obtain⟨xs,rfl,h3⟩:=hasW_list h1
 obtain⟨ns,rfl⟩:=items_int h3
 have cV:ns.length<=n:=by
  unfold OpenLaw.pre at hc
  have h4:(WTm.not (.lt (.lit (.int (n:Int))) (.len (.arg 0)))).holds [] { args:=[.list (ns.map .int)] }=true:=by
   have h4:=(holds_andW hc).1
   rw[hn]at h4
   exact h4
  have h5:=condW_of h4 (w_not (w_lt w_lit (w_len_list (w_arg rfl))))
  rw[aq]at h5
  refine Nat.le_of_not_lt fun q=>?_
  have q':(n:Int)<((ns.length:Nat):Int):=by omega
  first
   |(rw[ce q']at h5;exact absurd h5 (by decide))
   |(simp at h5;omega)
 cases Rb with
 |cons w1 w2=>
  cases w2
  cases w1 with
  |list ho hall=>exact⟨_,_,ns,rfl,rfl,ho,qD ns _ hall,cV⟩
theorem A_(l:OpenLaw)(args:List WData):l.row.toRowW.claim.post args (.bool true) args=true:=
 postW_of (r:=l.row.toRowW) (X:=(true==true))
  (show WShape.has [] (.bool true) .bool=true by first|rfl|decide|simp[WShape.has,WShape.arms,WShape.armsAll])
  (show(WTm.eq .res (.lit (.bool true))).value [] { args:=args,res:=some (.bool true),after:=args }=some (.bool (true==true))from w_eq_bool (w_res rfl) w_lit) rfl
theorem attach_call{l:OpenLaw}{q:Program}{u3:List Str}{d:DefRec}
  (hn:l.most=some n) (Pk:d.params.defaults=[])
  (call:∀(w:World) (s₀ s₁:Shared) (mg mb:Str->Option Value) (fa:Addr) (o:Obj) (pm cd pj:Value) (a:Addr) (vs:List Value) (ns:List Int),
   Ground q u3 [] XP w s₀ mg mb s₁.heap->YP w s₁.heap ->
   s₁.heap.get? fa=some o->o.data=.func (docDef d.name d.params d.body d.scope pm cd pj)->s₁.heap.CodeRec cd d.name->mg d.name=some (.ref fa) ->
   s₁.heap.get? a=some { cls:=.type "list",data:=.seq vs.toArray }->IntsAre vs ns->ns.length<=n->s₁.gens=#[] ->
   codeAny (model l.prog w) callerA (.call (.ref fa) ⟨[.ref a],[]⟩) (fun r s'=>r=.ok (.ret (.bool true))/\OldK s₁.heap s'.heap/\s'.os=s₁.os/\AllBare s'.gens) s₁) :
  WalkO q u3 XP YP l.row.toRowW d [] (fun f vs=>PySem.call f vs):=by
 intro w s₀ s₁ mg mb G Y fa o pm cd pj dV kV ho hd zG hD hmg hg args lS as yk hlay hrd Rb hlo
 obtain rfl:dV=.none:=Dflts.none hD Pk
 obtain rfl:kV=.none:=Dflts.noKw hD
 obtain⟨a,vs,ns,rfl,rfl,hobj,hints,cV⟩:=A9 hn yk Rb
 refine enter_call (jA (call w s₀ s₁ mg mb fa o pm cd pj a vs ns G Y ho (fd_plain hd) zG hmg hobj hints cV hg) fun r s' hq=>?_)
 obtain⟨rfl,h2,h3,h4⟩:=hq
 exact⟨.inl ⟨.bool true,.bool true,[],rfl,fun _=>rfl,.bool true,A_ l _,fun _=>⟨List.Pairwise.nil,fun _ hm=>(nomatch hm)⟩⟩,h2,h3,h4⟩
section
variable{w:World}
end
end Att
namespace L2
open PySem PySem.Spec PyProof.Rows
theorem ul:∀{vs:List Value} {ns:List Int},IntsAre vs ns->bE (ns.map V.int) vs
 |_,_,.nil=>.nil
 |_,_,.cons n t h=>.cons ⟨t,rfl⟩ (ul h)
def F0(H:Hp):Prop:=∀b,H b=none\/∃o xs,H b=some (.frz o (.lst xs))
theorem Ce{P:Program}{w:World}{mb:Str->Option Value}{CX:yr}{k:Nat}{fa:Addr}{fd:FuncData}{sp:Sp}{s₁:Shared}{vs:List Value}{ns:List Int}
  (KX:K.In s₁.heap) (PY:s₁.heap.Ns mainGlobals mg) (hb:s₁.heap.Ns builtinsNs mb) (R4:∀x:Str,x ≠ "__name__"->mb x=bootBuiltins x) (Rc:s₁.heap.NoLimit) (hg:s₁.gens=#[])
  (ha:s₁.heap.get? a=some { cls:=.type "list",data:=.seq vs.toArray }) (hi:IntsAre vs ns) (hl:ns.length<=sizeLine) (hr:fL k callerA)
  (F:∀base:Heap,K.In base->base.Ns mainGlobals mg->cN P w K mg base CX k fa fd [x] sp) (OU:∀(s:Shared) (u:Value),BindsTo s fd ⟨[u],[]⟩ [(x,u)])
  (Fm:∀H:Hp,F0 H->jr K H a (ns.map V.int)->sp [.ref a] H (fun v _=>v=.bl true) fun _ _ _=>False)
  (Ra:∀H e s',CX [] H s₁ (fun _ _ _=>False) e s'->False) :
  codeAny (model P w) callerA (.call (.ref fa) ⟨[.ref a],[]⟩) (fun r s'=>r=.ok (.ret (.bool true))/\OldK s₁.heap s'.heap/\s'.os=s₁.os/\AllBare s'.gens) s₁:=by
 have rv:=ul hi
 have lenV:=hi.length
 have core:∀H:Hp,F0 H->jr K H a (ns.map V.int)->nh P w H s₁.heap->(∀b,H b≠none->b=a)->(H a≠none->K.lookup a=none) ->
   codeAny (model P w) callerA (.call (.ref fa) ⟨[.ref a],[]⟩) (fun r s'=>r=.ok (.ret (.bool true))/\OldK s₁.heap s'.heap/\s'.os=s₁.os/\AllBare s'.gens) s₁:=by
  intro H hO hS hok hA hK
  have base_of:∀{b:Addr} {o:Obj},s₁.heap.get? b=some o->H b=none->(u6 s₁.heap H).get? b=some o:=fun e n=>BY e n
  have noA:∀{b:Addr} {o:Obj} {es:Array DictEntry} {ep:Nat},s₁.heap.get? b=some o->o.data=.dict es ep->H b=none:=fun{b o es ep} e d=>by
   cases q:H b with
   |none=>rfl
   |some u=>
    have e':b=a:=hA b (by rw[q];simp)
    subst e'
    rw[ha]at e;cases e
    have d':Data.seq vs.toArray _=Data.dict es ep:=d
    cases d'
  have nsK:∀{b:Addr} {m:Str->Option Value},s₁.heap.Ns b m->(u6 s₁.heap H).Ns b m:=fun{b m} ⟨o,es,ep,e,d,r⟩=>⟨o,es,ep,base_of e (noA e d),d,r⟩
  have hKb:K.In (u6 s₁.heap H):=fun b o e=>base_of (KX b o e) (by
   cases q:H b with
   |none=>rfl
   |some u=>
    have e':b=a:=hA b (by rw[q];simp)
    subst e'
    rw[hK (by rw[q];simp)]at e;cases e)
  have hM:Mod K mg (u6 s₁.heap H):=⟨hKb,nsK PY,⟨mb,nsK hb,R4⟩,let ⟨mc,h1,h2⟩:=Rc;⟨mc,nsK h1,h2⟩⟩
  have e0:qC P w K mg (u6 s₁.heap H) callerA [] s₁ H:=⟨rfl,hM,fun b o e=>Fq e,Nat.le_of_eq (AU _ _),trivial,fun b hb=>absurd (show b∈([]:List Addr)from hb) (by simp),hok,.of_eq hg⟩
  refine jA ((F _ hKb (nsK PY)).run callerA [] s₁ H ⟨[.ref a],[]⟩ [.ref a] [.ref a] _ _ hr e0 (OU s₁ (.ref a)) (.cons rfl .nil) (Fm H hO hS)) fun r s' h=>?_
  cases r with
  |error e=>exact(Ra H e s' h).elim
  |ok fl=>
   cases fl with
   |next=>exact False.elim h
   |brk=>exact False.elim h
   |cont=>exact False.elim h
   |ret u=>
    obtain⟨v,H',os,bare,un,hok',r',q⟩:=h
    have q':v=.bl true:=q
    subst q'
    obtain rfl:u=Value.bool true:=r'
    refine⟨rfl,OldK.of_keep fun b o e=>?_,os,bare⟩
    cases q:H b with
    |none=>exact un.keep b o e q (by intro z;exact absurd (show b∈([]:List Addr)from z) (by simp)) (by simp)
    |some u=>
     rcases hO b with z|⟨ob,xs,z⟩
     ·rw[q]at z;cases z
     ·have z2:=un.frzs b ob _ z
      obtain⟨e1,_⟩:=hok b _ z
      obtain⟨e2,_⟩:=hok' b _ z2
      rw[e]at e1;cases e1
      exact e2
 cases hk:K.lookup a with
 |some o=>
  have e:=KX a o hk
  rw[ha]at e
  cases e
  refine core (fun _=>none) (fun _=>.inl rfl) (.inr ⟨_,vs.toArray,_,hk,rfl,rfl,rfl,by rw[aH,lenV];exact hl,by simpa using rv⟩) (fun b u z=>by have z':(none:Option HO)=some u:=z;cases z') (fun b z=>absurd rfl z) fun z=>absurd rfl z
 |none=>
  refine core (fun b=>if b=a then some (.frz { cls:=.type "list",data:=.seq vs.toArray } (.lst (ns.map V.int)))else none) (fun b=>?_) (.inl (.inr ⟨{ cls:=.type "list",data:=.seq vs.toArray },aw rfl⟩)) (fun b u z=>?_) (fun b z=>?_) fun _=>hk
  ·by_cases hb:b=a
   ·exact .inr ⟨_,_,aw hb⟩
   ·exact .inl (ay hb)
  ·by_cases hb:b=a
   ·have z':=(aw hb).symm.trans z
    cases z'
    subst hb
    exact⟨ha,by rw[aq];exact hl,vs,_,rv,ha⟩
   ·have z':=(ay hb).symm.trans z
    cases z'
  ·by_cases hb:b=a
   ·exact hb
   ·exact absurd (ay hb) z
theorem walk_of{l:PySem.W.OpenLaw}{n k:Nat}{q:Program}{u3:List Str}{d:DefRec}{K:Params->Frag}{CX:World->yr}{sp:World->Sp}{x:Str}
  (hn:l.most=some n) (PU:n<=sizeLine) (Pk:d.params.defaults=[]) (hr:fL k callerA)
  (hY:∀(w:World) (h:Heap),YP w h->(K w.params).In h)
  (F:∀(w:World) (mg:Str->Option Value) (fa:Addr) (h:Heap),(K w.params).In h->h.Ns mainGlobals mg->mg d.name=some (.ref fa) ->
   ∃fd:FuncData,(∀(s:Shared) (u:Value),BindsTo s fd ⟨[u],[]⟩ [(x,u)]) /\
    ∀base:Heap,(K w.params).In base->base.Ns mainGlobals mg->cN l.prog w (K w.params) mg base (CX w) k fa fd [x] (sp w))
  (Fm:∀(w:World) (H:Hp) (a:Addr) (ns:List Int),ns.length<=n->F0 H->jr (K w.params) H a (ns.map V.int)->sp w [.ref a] H (fun v _=>v=.bl true) fun _ _ _=>False)
  (Ra:∀(w:World) (H:Hp) (s:Shared) (e:Value) (s':Shared),CX w [] H s (fun _ _ _=>False) e s'->False) :
  PySem.W.WalkO q u3 XP YP l.row.toRowW d [] (fun f vs=>PySem.call f vs):=by
 refine Att.attach_call hn Pk fun w s₀ s₁ mg mb fa o pm cd pj a vs ns G Y ho hd zG hmg hobj hints cV hg=>?_
 have KX:=hY w _ Y
 obtain⟨fd,hb,hF⟩:=F w mg fa _ KX G.T.g hmg
 exact Ce KX G.T.g G.T.b G.T.builtins G.T.nolimit hg hobj hints (aQ cV PU) hr hF hb (fun H hO hS=>Fm w H a ns cV hO hS) fun H e s'=>Ra w H s₁ e s'
def gs(s:Stmt):Arguments:=match s with
 |.FunctionDef _ a _ _ _ _ _ _ _ _=>a
 |_=>{ posonlyargs:=[],args:=[],vararg:=none,kwonlyargs:=[],kw_defaults:=[],kwarg:=none,defaults:=[] }
def fE(s:Stmt):List Stmt:=match s with
 |.FunctionDef _ _ b _ _ _ _ _ _ _=>b
 |_=>[]
def aM(s:Stmt):Scope:=match s with
 |.FunctionDef _ _ _ _ _ _ sc _ _ _=>sc
 |_=>{ kind:=.function,names:=[],isGenerator:=false,isCoroutine:=false }
abbrev Ql:yr:=fun _ _ _ _ _ _=>False
structure js(K:Frag)(x eY:Str)(st:Stmt)(f:Addr)(fd:FuncData):Prop where
 ex:∃(oc:Value) (od:Option Addr) (kV pj pm:Value) (an:Option Addr) (fM ct:Value) (Hh:Array (Option Value)),
  fd=fnOf x eY (gs st) (fE st) (aM st) .none kV pj pm an fM ct/\K.lookup f=some ⟨oc,od,.func fd,Hh⟩/\codeIn K fM eY=true
 kp:keepIn K (.ref f)=true
section
variable{w:World}
theorem js.ok{st:Stmt}{f:Addr}{N:List Str}{k:Nat}(F:js K x eY st f fd)(S:bu N ps (aM st))(len:∀vs H Q E,sp vs H Q E->vs.length=ps.length)
  (tL:∀(fM:Value) (A:Around) (outer:List Env) (s:Shared) (H:Hp) (vs:List V) (Q:VK) (E:XK),fL k (A.deeper (envOfC eY (aM st) s.heap.objs.size f fM))->sp vs H Q E ->
   ∃t,yq (wI Ql P w K mg base N eY (aM st) f fM A outer s H E).nox (fE st) t/\t { nx:=fun _ H'=>Q .non H',rt:=Q } (oq N vs) H):cN P w K mg base Ql (k+1) f fd ps sp:=by
 obtain⟨oc,od,kV,pj,pm,an,fM,ct,Hh,rfl,lk,zG⟩:=F.ex
 refine Hq lk zG S len fun A outer s H vs Q E hr Fm=>?_
 obtain⟨t,h,q⟩:=tL fM A outer s H vs Q E hr Fm
 exact⟨t,h.nox,q⟩
theorem js.binds{st:Stmt}{f:Addr}(F:js K x eY st f fd)
  (h:∀(kV pj pm:Value) (an:Option Addr) (fM ct:Value) (us:List Value),us.length=ps.length->bindArgs (fnOf x eY (gs st) (fE st) (aM st) .none kV pj pm an fM ct) ⟨us,[]⟩=pure (ps.zip us)):kK K fd ps []:=by
 obtain⟨oc,od,kV,pj,pm,an,fM,ct,Hh,rfl,lk,zG⟩:=F.ex
 exact .all (h kV pj pm an fM ct)
theorem ve{st:Stmt}{f:Addr}{oc:Value}{od an:Option Addr}{Hh:Array (Option Value)}{kV pj pm fM ct:Value}(l:K.lookup f=some ⟨oc,od,.func (fnOf x eY (gs st) (fE st) (aM st) .none kV pj pm an fM ct),Hh⟩)
  (c:codeIn K fM eY=true) (k:keepIn K (.ref f)=true):js K x eY st f (fnOf x eY (gs st) (fE st) (aM st) .none kV pj pm an fM ct):=⟨⟨oc,od,kV,pj,pm,an,fM,ct,Hh,rfl,l,c⟩,k⟩
end
theorem Hr{k:Nat}(hr:fL k A):A.units+1<cLine:=fQ (Nat.add_le_add_left (by decide:1<=64) _) hr.units
section
theorem pv(i:Nat){pos:Pos}(hN:X.N[i]?=some x:=by rfl)(hv:Mv X.env.scope x:=by first|exact Or.inl rfl|exact Or.inr (Or.inl rfl)|exact Or.inr (Or.inr rfl))(hd:(x==("__debug__":Str))=false:=by decide)
  (zG:(x==("__classdict__":Str))=false:=by decide):PE X (.Name x pos) (Mw i):=I_ hN hv hd zG
end
def j3(H H':Hp):Prop:=∀b o,H b=some o->H' b=some o
theorem j3.refl(H:Hp):j3 H H:=fun _ _ h=>h
theorem j3.trans{H1 H2:Hp}(a:j3 H H1)(b:j3 H1 H2):j3 H H2:=fun c o h=>b c o (a c o h)
theorem j3.free(e:j3 H H'){l:Addr}(h:H' l=Option.none):H l=Option.none:=by
 cases q:H l with
 |none=>rfl
 |some o=>
  rw[e l o q]at h
  cases h
theorem j3.seq{xs:List V}(e:j3 H H')(h:jr K H a xs):jr K H' a xs:=by
 rcases h with(h|⟨o,h⟩)|h
 ·exact .inl (.inl (e _ _ h))
 ·exact .inl (.inr ⟨o,e _ _ h⟩)
 ·exact .inr h
section
variable{κ:Type}[DecidableEq κ]
def mC(kvs:List (κ×V))(k:κ):Option V:=(kvs.find? fun kv=>decide (kv.1=k)).map (·.2)
def ox(kvs:List (κ×V))(k:κ)(v:V):List (κ×V):=
 if (kvs.any fun kv=>decide (kv.1=k))=true then kvs.map (fun kv=>if kv.1=k then(kv.1,v)else kv)else kvs++[(k,v)]
def Hs(kvs:List (κ×V))(k:κ):List (κ×V):=kvs.filter fun kv=>decide (kv.1≠k)
theorem oy{p:κ×V}{r:List (κ×V)}{k:κ}(e:p.1=k):mC (p::r) k=some p.2:=by simp[mC,bR,e]
theorem oz{p:κ×V}{r:List (κ×V)}{k:κ}(e:¬ p.1=k):mC (p::r) k=mC r k:=by simp[mC,bR,e]
theorem wM(k:κ):∀kvs:List (κ×V),(kvs.any fun kv=>decide (kv.1=k))=(mC kvs k).isSome
 |[]=>rfl
 |p::r=>by
  rw[nN]
  by_cases e:p.1=k
  ·simp only[oy e,ce e,Bool.true_or,Option.isSome_some]
  ·rw[oz e,bq e,Bool.false_or];exact wM k r
theorem qb(kvs:List (κ×V))(k:κ)(v:V):(ox kvs k v).length<=kvs.length+1:=by
 unfold ox
 split
 ·rw[aq];omega
 ·rw[bi,a9,gZ];omega
theorem nw.isSome_eq{o:Option V}{u:Option Value}(r:nw o u):o.isSome=u.isSome:=by
 cases o with
 |none=>cases u with
  |none=>rfl
  |some _=>exact(show False from r).elim
 |some _=>cases u with
  |none=>exact(show False from r).elim
  |some _=>rfl
theorem nw.getD{o:Option V}{u:Option Value}{d:V}{d':Value}(r:nw o u)(rd:bK d d'):bK (o.getD d) (u.getD d'):=by
 cases o with
 |none=>cases u with
  |none=>exact rd
  |some _=>exact(show False from r).elim
 |some _=>cases u with
  |none=>exact(show False from r).elim
  |some _=>exact r
theorem KV.val{kvs:List (κ×V)}{vs:List (κ×Value)}(r:KV kvs vs)(k:κ):nw (mC kvs k) (valueAt vs k):=by
 unfold KV at r
 induction r with
 |nil=>exact True.intro
 |@cons p q ps qs h t ih=>
  obtain⟨h1,h2⟩:=h
  by_cases e:p.1=k
  ·have e':q.1=k:=h1.symm.trans e
   have b:valueAt (q::qs) k=some q.2:=by simp[valueAt,bR,e']
   rw[oy e,b];exact h2
  ·have e':¬ q.1=k:=fun z=>e (h1.trans z)
   have b:valueAt (q::qs) k=valueAt qs k:=by simp[valueAt,bR,e']
   rw[oz e,b];exact ih
theorem KV.any{kvs:List (κ×V)}{vs:List (κ×Value)}(r:KV kvs vs)(k:κ):(kvs.any fun kv=>decide (kv.1=k))=vs.any fun kv=>decide (kv.1=k):=by
 unfold KV at r
 induction r with
 |nil=>rfl
 |cons h t ih=>rw[nN,nN,ih,h.1]
theorem KV.repl{kvs:List (κ×V)}{vs:List (κ×Value)}(r:KV kvs vs)(k:κ)(ry:bK y u) :
  KV (kvs.map fun kv=>if kv.1=k then(kv.1,y)else kv) (vs.map fun kv=>if kv.1=k then(kv.1,u)else kv):=by
 unfold KV at r ⊢
 induction r with
 |nil=>exact .nil
 |@cons p q ps qs h t ih=>
  rw[aN,aN]
  refine .cons ?_ ih
  obtain⟨h1,h2⟩:=h
  by_cases e:p.1=k
  ·rw[aw e,aw (h1.symm.trans e)];exact⟨h1,ry⟩
  ·rw[ay e,ay (fun z=>e (h1.trans z))];exact⟨h1,h2⟩
theorem KV.put{kvs:List (κ×V)}{vs:List (κ×Value)}(r:KV kvs vs)(k:κ)(ry:bK y u):KV (ox kvs k y) (stored vs k u):=by
 unfold ox stored
 rw[r.any k]
 by_cases e:(vs.any fun kv=>decide (kv.1=k))=true
 ·rw[aw e,aw e];exact r.repl k ry
 ·rw[ay e,ay e];exact Paired.snoc r ⟨rfl,ry⟩
theorem KV.drop{kvs:List (κ×V)}{vs:List (κ×Value)}(r:KV kvs vs)(k:κ):KV (Hs kvs k) (without vs k):=by
 unfold KV at r ⊢
 unfold Hs without
 induction r with
 |nil=>exact .nil
 |@cons p q ps qs h t ih=>
  obtain⟨h1,h2⟩:=h
  rw[cH,cH]
  by_cases e:p.1=k
  ·have a:¬ decide (p.1≠k)=true:=by simp[e]
   have b:¬ decide (q.1≠k)=true:=by simp[h1.symm.trans e]
   rw[ay a,ay b];exact ih
  ·have e':¬ q.1=k:=fun z=>e (h1.trans z)
   have a:decide (p.1≠k)=true:=by simp[e]
   have b:decide (q.1≠k)=true:=by simp[e']
   rw[aw a,aw b];exact .cons ⟨h1,h2⟩ ih
theorem KV.keys{kvs:List (κ×V)}{vs:List (κ×Value)}(r:KV kvs vs):kvs.map (·.1)=vs.map (·.1):=by
 unfold KV at r
 induction r with
 |nil=>rfl
 |cons h t ih=>rw[aN,aN,ih,h.1]
theorem KV.length{kvs:List (κ×V)}{vs:List (κ×Value)}(r:KV kvs vs):kvs.length=vs.length:=Paired.length r
end
theorem zX{w:World}{k:gF}(r:bK (kV k) u):(cX P w).is k u=true:=by
 cases k with
 |inl i=>obtain⟨t,e⟩:=(show ∃t,u=Value.int i t from r);subst e;exact wB P w i t
 |inr x=>obtain⟨t,e⟩:=(show ∃t,u=Value.str x t from r);subst e;exact wC P w x t
theorem um{w:World}:∀{ks:List gF} {us:List Value},bE (ks.map kV) us->ItemsAre (cX P w) ks us
 |[],_,r=>by rw[List.map_nil]at r;cases r;exact .nil
 |k::ks,_,r=>by
  rw[aN]at r
  cases r with
  |cons h t=>exact .cons (zX h) (um t)
abbrev KT(H:Hp):List (List gF×V)->List (List gF×Addr×Value)->Prop:=Paired fun p q=>p.1=q.1/\H q.2.1=some (.tup (p.1.map kV))/\bK p.2 q.2.2
theorem KT.val(r:KT H kvs xs)(k:List gF):nw (mC kvs k) ((atKey xs k).map (·.2)):=by
 induction r with
 |nil=>exact True.intro
 |@cons p q ps qs h t ih=>
  obtain⟨h1,_,h2⟩:=h
  by_cases e:p.1=k
  ·have e':q.1=k:=h1.symm.trans e
   have b:atKey (q::qs) k=some q.2:=by simp[atKey,bR,e']
   rw[oy e,b];exact h2
  ·have e':¬ q.1=k:=fun z=>e (h1.trans z)
   have b:atKey (q::qs) k=atKey qs k:=by simp[atKey,bR,e']
   rw[oz e,b];exact ih
theorem KT.repl(r:KT H kvs xs)(k:List gF)(ry:bK y u) :
  KT H (kvs.map fun kv=>if kv.1=k then(kv.1,y)else kv) (xs.map (putAt k u)):=by
 induction r with
 |nil=>exact .nil
 |@cons p q ps qs h t ih=>
  rw[aN,aN]
  refine .cons ?_ ih
  obtain⟨h1,h2,h3⟩:=h
  unfold putAt
  by_cases e:p.1=k
  ·rw[aw e,aw (h1.symm.trans e)];exact⟨h1,h2,ry⟩
  ·rw[ay e,ay (fun z=>e (h1.trans z))];exact⟨h1,h2,h3⟩
theorem KT.put(r:KT H kvs xs)(k:List gF)(hb:H b=some (.tup (k.map kV)))(ry:bK y u) :
  KT H (ox kvs k y) (storedH xs k b u):=by
 have e:(kvs.any fun kv=>decide (kv.1=k))=(atKey xs k).isSome:=by
  rw[wM,(r.val k).isSome_eq,Option.isSome_map]
 unfold ox storedH
 rw[e]
 by_cases q:(atKey xs k).isSome=true
 ·rw[aw q,aw q];exact r.repl k ry
 ·rw[ay q,ay q];exact Paired.snoc r ⟨rfl,hb,ry⟩
theorem KT.keeps(r:KT H kvs xs)(ht:∀b ys,H b=some (.tup ys)->H' b=some (.tup ys)):KT H' kvs xs:=
 Paired.mapP r fun _ _ z=>⟨z.1,ht _ _ z.2.1,z.2.2⟩
section
variable{w:World}{h:Heap}
theorem Ht{u:HO}(ok:nh P w H h)(e:Rd H a u):eV P w H h a u:=e.ok ok
theorem Cf{kvs:List (gF×V)}(ok:nh P w H h)(e:Rd H a (.dK kvs)):kvs.length<=sizeLine/\(a==sysModules)=false/\∃vs,KV kvs vs/\h.DictOf (cX P w) a vs:=
 show eV P w H h a (.dK kvs)from Ht ok e
theorem Hu{kvs:List (gF×V)}(ok:nh P w H h)(e:H a=some (.dK kvs)):kvs.length<=sizeLine/\(a==sysModules)=false/\∃vs,KV kvs vs/\h.DictOf (cX P w) a vs:=Cf ok (.inl e)
theorem yJ{ks:List gF}(ok:nh P w H h)(e:H a=some (.tup (ks.map kV))):(tupleKind (cX P w)).is h ks a:=by
 obtain⟨_,bd,r,o,h1,h2,n,h3⟩:=(show eV P w H h a (.tup (ks.map kV))from ok a _ e)
 exact⟨o,bd.toArray,n,h1,h2,h3,by simpa using um r⟩
theorem Cg(ok:nh P w H h)(e:Rd H a (.dT kvs)):kvs.length<=sizeLine/\(a==sysModules)=false /\
  ∃xs,KT H kvs xs/\h.DictOfH (tupleKind (cX P w)) a xs:=by
 obtain⟨z,y,xs,r,o,es,ep,h1,h2,h3,h4,h5⟩:=(show eV P w H h a (.dT kvs)from Ht ok e)
 refine⟨z,y,xs,r,o,es,ep,h1,h2,h3,h4,fun x hx=>?_,h5⟩
 have all:∀{l:List (List gF×V)} {m:List (List gF×Addr×Value)},KT H l m->∀x∈m,(tupleKind (cX P w)).is h x.1 x.2.1:=by
  intro l m q
  induction q with
  |nil=>intro x hx;exact nomatch hx
  |@cons p q ps qs hq t ih=>
   intro x hx
   rcases a_.mp hx with e|hx
   ·subst e
    exact yJ ok (by rw[<- hq.1];exact hq.2.1)
   ·exact ih x hx
 exact all r x hx
theorem M3(ok:nh P w H h)(e:H a=some (.dT kvs)):kvs.length<=sizeLine/\(a==sysModules)=false /\
  ∃xs,KT H kvs xs/\h.DictOfH (tupleKind (cX P w)) a xs:=Cg ok (.inl e)
end
def tU(H:Hp)(a:Addr)(y:V)(r:Option V):Prop:=
 (∃kvs k,Rd H a (.dK kvs)/\y=kV k/\r=mC kvs k)\/∃kvs k b,Rd H a (.dT kvs)/\y=.ref b/\H b=some (.tup (k.map kV))/\r=mC kvs k
def A'(H:Hp)(a:Addr)(y v:V)(H':Hp):Prop:=
 (∃kvs k,H a=some (.dK kvs)/\y=kV k/\kvs.length<sizeLine/\H'=da H a (.dK (ox kvs k v))) \/
 ∃kvs k b,H a=some (.dT kvs)/\y=.ref b/\H b=some (.tup (k.map kV))/\kvs.length<sizeLine/\H'=da H a (.dT (ox kvs k v))
theorem tU.k{kvs:List (gF×V)}{k:gF}(e:H a=some (.dK kvs)):tU H a (kV k) (mC kvs k):=.inl ⟨kvs,k,.inl e,rfl,rfl⟩
theorem tU.t{k:List gF}(e:H a=some (.dT kvs))(eb:H b=some (.tup (k.map kV))):tU H a (.ref b) (mC kvs k):=.inr ⟨kvs,k,b,.inl e,rfl,eb,rfl⟩
theorem A'.k{kvs:List (gF×V)}{k:gF}(e:H a=some (.dK kvs))(hl:kvs.length<sizeLine):A' H a (kV k) v (da H a (.dK (ox kvs k v))):=.inl ⟨kvs,k,e,rfl,hl,rfl⟩
theorem A'.t{k:List gF}(e:H a=some (.dT kvs))(eb:H b=some (.tup (k.map kV)))(hl:kvs.length<sizeLine) :
  A' H a (.ref b) v (da H a (.dT (ox kvs k v))):=.inr ⟨kvs,k,b,e,rfl,eb,hl,rfl⟩
section
variable{r:Value}{o:Option V}
theorem bb.big(I:bb X ac σ H s):sysModules<s.heap.objs.size:=by
 have h:mainGlobals<s.heap.objs.size:=(I.mod.glob.keeps I.bk).lt
 exact Nat.lt_trans (by decide) h
theorem zZ{ob:HO}(I:bb X ac σ H s)(mu:Mg (H a))(hs:Heap.SameBut a s.heap h')(he:∃q,h'.get? a=some q)(new:eV X.prog X.w (da H a ob) h' a ob) :
  bb X ac σ (da H a ob) { s with heap:=h',toks:=t' }:=
 I.write (x:=a) (e:=a) mu (.inl rfl) (fun b q hb z=>(hs.2 b hb).trans z) he new
theorem JO{w:World}{kvs:List (gF×V)}{vs:List (gF×Value)}(z:kvs.length<=sizeLine)(hd:(a==sysModules)=false)(m6:KV kvs vs)(dd:h'.DictOf (cX P w) a vs) :
  eV P w H' h' a (.dK kvs):=⟨z,hd,vs,m6,dd⟩
theorem Ba{Q:Unit->Shared->Prop}(hu:A.units+1<cLine)(I:bb X ac σ H s)(g:A' H a y v H')(ry:bK y u)(rv:bK v r)(h:∀s',bb X ac σ H' s'->Q () s') :
  wpAny (model X.prog X.w) A (setItem (.ref a) u r) Q E s:=by
 rcases g with⟨kvs,k,e,ey,l,eH⟩|⟨kvs,k,b,e,ey,eb,l,eH⟩
 ·subst ey eH
  obtain⟨z,hd,vs,m6,dd⟩:=Hu I.hok e
  have hz:vs.length<=sizeLine:=by rw[<- m6.length];exact z
  have hl:(ox kvs k v).length<=sizeLine:=by have:=qb kvs k v;omega
  refine wpAny_setItem_pairs (hsz:=hz) (zX ry) dd fun h' dd' hs=>h _ ?_
  have he:∃q,h'.get? a=some q:=let ⟨q,_,_,hq,_⟩:=dd';⟨q,hq⟩
  exact zZ I (by rw[e];exact True.intro) hs he (JO hl hd (m6.put k rv) dd')
 ·subst ey eH
  cases(show u=Value.ref b from ry)
  obtain⟨z,hd,xs,m6,dd⟩:=M3 I.hok e
  have hz:xs.length<=sizeLine:=by rw[<- Paired.length m6];exact z
  have hl:(ox kvs k v).length<=sizeLine:=by have:=qb kvs k v;omega
  refine wpAny_setItem_heap (hsz:=hz) (tupleKind_room_in1 hu) (yJ I.hok eb) dd fun h' dd' hs=>h _ ?_
  obtain⟨q,es,ep,hq,h2,h3,h4,_,h5⟩:=dd'
  refine zZ I (by rw[e];exact True.intro) hs ⟨q,hq⟩ ⟨hl,hd,_,(m6.put k eb rv).keeps fun c ys ec=>?_,q,es,ep,hq,h2,h3,h4,h5⟩
  rw[bF (Mu ec e (fun z=>nomatch z))]
  exact ec
end
section
variable{kvs:List (gF×V)}{k:gF}
end
section
variable{i value:Expr}{Re:Pos}{td ty tv:TE}
end
theorem Ch{w:World}(h:Heap)(hb:sysModules<h.objs.size):eV P w H (h.push { cls:=.type "dict",data:=.dict #[] }) h.objs.size (.dK []):=
 ⟨cG _,bZ.mpr (Ne.symm (aT hb)),[],.nil,Heap.DictOf.new h⟩
def JP:TE:=fun _ H Q=>∀p,H p=none->Q (.ref p) (da H p (.dK []))
section
theorem Ci:PE X (.Dict [] [] pos) JP:=fun ac s σ H Q I h=>
 wpAny_Dict_empty ⟨.ref s.heap.objs.size,_,I.laid (a:=s.heap.objs.size) (o:=.dK []) (t':=s.toks) (fun _ _ q=>ai _ q) (av _) (Ch s.heap I.big),rfl,h _ (I.hok.fresh (av _))⟩
end
structure M2(X:Cx)(o:Expr)(m:Str)(d7:Pos)(e f:Expr)(cK:Pos):Prop where
 base:attributeBase o m X.env (eval o X.env)=eval o X.env
 few:((backTo cK (starEach [e,f] X.env)).all (fun x=>!x.1)&&(backToKw cK (keywordEach [] X.env)).all (fun x=>x.1.isSome)
  && decide (([e,f]:List Expr).length+([]:List Keyword).length+(if ([]:List Keyword).isEmpty then 0 else 1)<30))=true
 line:(d7.endLine==cK.line)=true
 trees:backTo cK (starEach [e,f] X.env)=[(false,eval e X.env),(false,eval f X.env)]
def Rq(H:Hp)(a:Addr):Prop:=(∃kvs,Rd H a (.dK kvs))\/∃kvs,Rd H a (.dT kvs)
theorem JQ(I:bb X ac σ H s)(d:Rq H a) :
  s.TypeIs (.ref a) "dict"/\(∀b,Value.ref a=.ref b->∃ob,s.heap.get? b=some ob/\ob.dict=none)/\(a==sysModules)=false:=by
 rcases d with⟨kvs,e⟩|⟨kvs,e⟩
 ·obtain⟨_,hd,vs,_,dd⟩:=Cf I.hok e
  refine⟨dd.typeIs,fun b q=>?_,hd⟩
  cases q
  obtain⟨ob,_,_,h1,h2,_⟩:=dd
  exact⟨ob,h1,h2.2.1⟩
 ·obtain⟨_,hd,xs,_,dd⟩:=Cg I.hok e
  refine⟨dd.typeIs,fun b q=>?_,hd⟩
  cases q
  obtain⟨ob,_,_,h1,h2,_⟩:=dd
  exact⟨ob,h1,h2.2.1⟩
section
variable{d:V}{r:Value}{o:Option V}
theorem JR(hu:A.units+1<cLine)(I:bb X ac σ H s)(g:tU H a y o)(ry:bK y u)(rd:bK d r)(h:∀w' s',bb X ac σ H s'->bK (o.getD d) w'->Q w' s') :
  wpAny (model X.prog X.w) A (call (.builtin "dict.get") [.ref a,u,r]) Q E s:=by
 rcases g with⟨kvs,k,e,ey,l⟩|⟨kvs,k,b,e,ey,eb,l⟩
 ·subst ey
  obtain⟨z,hd,vs,m6,dd⟩:=Cf I.hok e
  refine pF PySem.F.slot_dict_get dd.typeIs PySem.F.entry_dict_get (PySem.F.args_dict_get_3 _ _ _) (meets_dict_get_default (cX X.prog X.w) a (zX ry) hd r) ⟨_,dd.mapOf,h _ _ (I.tok _) ?_⟩
  rw[l]
  exact(m6.val k).getD rd
 ·subst ey
  cases(show u=Value.ref b from ry)
  obtain⟨z,hd,xs,m6,dd⟩:=Cg I.hok e
  refine pF PySem.F.slot_dict_get dd.typeIs PySem.F.entry_dict_get (PySem.F.args_dict_get_3 _ _ _) (meetsH_dict_get_default (tupleKind (cX X.prog X.w)) a b hd r) ⟨tupleKind_room_in1 hu,k,xs,yJ I.hok eb,dd,h _ _ (I.tok _) ?_⟩
  rw[l]
  exact(m6.val k).getD rd
end
def JS(td ty tx:TE):TE:=fun σ H Q=>td σ H fun x H1=>∃a,x=.ref a/\Rq H1 a/\ty σ H1 fun y H2=>tx σ H2 fun z H3=>∃o,tU H3 a y o/\Q (o.getD z) H3
section
variable{f:Expr}{td ty tx:TE}
theorem Cj(hu:X.A.units+1<cLine)(ho:PE X o td)(he:PE X e ty)(hf:PE X f tx)(m:M2 X o "get" d7 e f cK):PE X (.Call (.Attribute o "get" d7) [e,f] [] cK) (JS td ty tx):=by
 intro ac s σ H Q I h
 refine wpAny_Call_method m.base m.few m.line PySem.F.plainAttrs_dict PySem.F.slot_dict_get PySem.F.type_dict_get (fU (ho ac s σ H _ I h) fun u s1 ⟨x,H1,I1,rx,a,ex,d,q1⟩=>?_)
 subst ex
 obtain rfl:u=Value.ref a:=rx
 obtain⟨t1,t2,_⟩:=JQ I1 d
 refine⟨t1,t2,?_⟩
 rw[m.trees]
 refine fR rfl (jg (h9 (fU (he ac s1 σ H1 _ I1 q1) fun iv s2 ⟨y,H2,I2,ry,q2⟩=>
  h9 (fU (hf ac s2 σ H2 _ I2 q2) fun fv s3 ⟨z,H3,I3,rz,ov,g,q3⟩=>kr ?_))))
 exact JR hu I3 g ry rz fun w' s4 I4 ko=>⟨_,H3,I4,ko,q3⟩
end
section
variable{kvs:List (gF×V)}
end
section
end
section
end
section
variable{κ:Type}[DecidableEq κ]
end
end L2
set_option maxHeartbeats 4000000
namespace L2
open PySem PySem.Spec PyProof.Rows
abbrev cw(X:Cx)(nm:List Str)(scope:Scope)(cl:List (Str×Addr))(C:Addr)(s0:Shared)(H0:Hp)(fp:List Addr):Cx:=
 { X with N:=nm,s₀:=s0,H₀:=H0,env:=compEnvC scope cl C X.env,outer:=X.stack,stack:=X.stack,ex:=fp,fn:=fun _=>false,pn:=[],xe:=fun _ _=>False }
def Ck(X:Cx)(kq:List Expr)(t:TT):Prop:=
 ∀(ac:List (Addr×Obj)) (s:Shared) (σ:St) (H:Hp) (Q:Bool->Hp->Prop),bb X ac σ H s->t σ H Q ->
  wpAny (model X.prog X.w) X.A (forIn kq true fun c r=>if r=true then do let ok <- isTrue c X.env (eval c X.env);pure (ForInStep.yield ok)else pure (ForInStep.yield r)) (TP X ac σ Q) X.xe s
def Qm:TT:=fun _ H Q=>Q true H
theorem F1:Ck X [] Qm:=fun _ _ _ H _ I h=>wpAny_tests_nil ⟨H,I,h⟩
theorem F2{t:TT}(hc:PT X c t):Ck X [c] t:=fun ac s σ H Q I h=>wpAny_tests_one (hc ac s σ H Q I h)
def mP(cap:List (Option Nat))(σ:St):St:=cap.map fun o=>o.bind fun j=>(σ[j]?).join
def qc(cap:List (Option Nat))(wi:TI)(g:TG)(tc:TT)(te:TE):TE:=fun σ H Q=>wi σ H fun J H1=>∃W:Nat->Nat->List V->Hp->Prop,(∃m,W 0 m [] H1)/\∀i m ys H2,W i m ys H2 ->
 (J.stop i H2/\ys.length<=sizeLine/\∀p,H2 p=none->Q (.ref p) (da H2 p (.lst ys))) \/
 (J.go i H2/\∀x H3,J.yld i H2 x H3->g x (mP cap σ) H3 fun σ2 H4=>tc σ2 H4 fun b H5=>if b=true then te σ2 H5 fun y H6=>ys.length<sizeLine/\∃m',m'<m/\W (i+1) m' (ys++[y]) H6 else ∃m',m'<m/\W (i+1) m' ys H5)
theorem Un.cellK{fs ex:List Addr}{h:Heap}(u:Un fs ex H H' h h'){c:Addr}{v:Option Value}(x:h.IsCell c v)(n:H c=none)(he:c∉ex):h'.IsCell c v:=by
 obtain⟨o,ho,hd⟩:=x
 obtain⟨sl,q⟩:=u.any ho n he
 exact⟨_,q,hd⟩
structure rO(X:Cx)(scope:Scope)(cl:List (Str×Addr))(x:Str):Prop where
 vis:Mv X.env.scope x
 nl:X.env.scope.names.lookup x≠some .local
 cl:cl.lookup x=X.env.cells.lookup x
 kd:(relabel scope X.env).names.lookup x=some .cell\/(relabel scope X.env).names.lookup x=some .free
theorem kA:∀(names:List (Str×NameKind)) (n:Nat) (gD:List (Str×Addr)) {y:Str} {c:Addr},(y,c)∈cellsFrom n names gD->(y,NameKind.cell)∈names\/(y,c)∈gD
 |[],_,_,_,_,h=>.inr h
 |(x,k)::r,n,gD,y,c,h=>by
  have h:(y,c)∈(if k==.cell then cellsFrom (n+1) r ((x,n)::gD)else cellsFrom n r gD):=h
  split at h
  ·rename_i hk
   rcases kA r _ _ h with q|q
   ·exact .inl (aR _ q)
   ·rcases a_.mp q with e|q
    ·cases e
     exact .inl (by rw[jF hk];exact bW)
    ·exact .inr q
  ·rcases kA r _ _ h with q|q
   ·exact .inl (aR _ q)
   ·exact .inr q
theorem ib:∀{l:List (Str×β)} {x:Str} {b:β},l.lookup x=some b->(x,b)∈l
 |[],_,_,h=>by simp at h
 |(y,c)::r,x,b,h=>by
  rw[i5]at h
  cases hx:x==y with
  |true=>rw[hx]at h;have:=jF hx;subst this;cases h;exact bW
  |false=>rw[hx]at h;exact aR _ (ib h)
theorem i9:∀(names:List (Str×NameKind)) (n:Nat) (gD:List (Str×Addr)),cellsFrom n names gD=cellsFrom n names []++gD
 |[],_,_=>rfl
 |(x,k)::r,n,gD=>by
  show(if k==.cell then cellsFrom (n+1) r ((x,n)::gD)else cellsFrom n r gD)=(if k==.cell then cellsFrom (n+1) r [(x,n)]else cellsFrom n r [])++gD
  split
  ·rw[i9 r (n+1) ((x,n)::gD),i9 r (n+1) [(x,n)],bn];rfl
  ·exact i9 r n gD
abbrev dM(X:Cx)(nm:List Str)(scope:Scope)(cl:List (Str×Addr))(C:Addr)(s0:Shared)(H0:Hp)(fp:List Addr):Cx:=
 { cw X nm scope cl C s0 H0 fp with fn:=fun y=>scope.names.lookup y==some .cell }
theorem F3{M:Model}{A:Around}{E:Value->Shared->Prop}{globals:Addr}{cl:List (Str×Addr)}{Q:Env->Shared->Prop}
  (hQ:∀h':Heap,h'.Ns s.heap.objs.size (fun x=>([]:List (Str×Value)).reverse.lookup x)->(∀b o,s.heap.get? b=some o->h'.get? b=some o)->CellsOk h' (s.heap.objs.size+1) (cellsFrom (s.heap.objs.size+1) scope.names []) ->
   Q (newEnv scope s.heap.objs.size globals (cellsFrom (s.heap.objs.size+1) scope.names []++cl) eY none .none (some env) builtinsNs) { s with heap:=h' }) :
  wpAny M A (newFunctionEnv scope globals cl [] eY none .none (some env)) Q E s:=by
 simp only[newFunctionEnv,Option.isSome_some,gz]
 refine aa (wpAny_alloc ?_)
 refine aa (wpAny_layCells _ (fun name kind cells=>by cases hkc:kind==NameKind.cell<;>simp[hkc]) _ _ _ _ ?_)
 have ok:=cellsFrom_ok scope.names (s.heap.push { cls:=.type "dict",data:=.dict #[] }) (s.heap.objs.size+1) [] ⟨fun _ _ hm=>(nomatch hm),List.Pairwise.nil⟩ (by rw[bt];exact av _)
 rw[bt]at ok
 rw[show({ s with heap:=s.heap.push { cls:=.type "dict",data:=.dict #[] } }:Shared).heap.objs.size=s.heap.objs.size+1 from bt ..,i9 _ _ cl]
 exact aa (ar (ar (hQ _ ((Heap.Ns.new s.heap (.type "dict")).keeps (pushCells_keeps _ _)) (fun b o e=>pushCells_keeps _ _ b o (ai _ e)) ok)))
section
variable{cl:List (Str×Addr)}{wi:TI}{g:TG}{tc:TT}
theorem vf{prog:Program}{w:World}{A:Around}{E:Value->Shared->Prop}{l:Addr}{bd:List Value}{u:Value}{Q:Value->Shared->Prop}
  (e:s.heap.get? l=some { cls:=.type "list",data:=.seq bd.toArray n }) (hz:bd.length<sizeLine)
  (h:∀(h':Heap) (n' tk:Nat),h'.get? l=some { cls:=.type "list",data:=.seq (bd++[u]).toArray n' }->(∀b o,b≠l->s.heap.get? b=some o->h'.get? b=some o)->Q .none { s with heap:=h',toks:=tk }) :
  wpAny (model prog w) A (call (.builtin "list.append") [.ref l,u]) Q E s:=by
 refine call_meets F.slot_list_append ⟨_,e,rfl⟩ F.entry_list_append (F.args_list_append_2 _ _) (PySem.list_append l bd.toArray n u (by rw[aH];omega)) ⟨e,?_⟩
 have q:=PySem.IsL.update e (fun a=>a.push u)
 have q2:(s.heap.update l (Obj.mapSeq fun x=>x.push u)).get? l=some { cls:=.type "list",data:=.seq (bd++[u]).toArray (if ((bd.toArray.push u).size==bd.toArray.size)=true then n else n+1) }:=by
  rw[show(s.heap.update l (Obj.mapSeq fun x=>x.push u)).get? l=_ from q];simp
 exact h _ _ s.toks q2 fun b o hb ho=>(dO s.heap (Obj.mapSeq _) (Ne.symm hb)).trans ho
structure wN(X:Cx)(ac:List (Addr×Obj))(H:Hp)(s:Shared)(C:Addr)(m:Str->Option Value):Prop where
 ns:s.heap.Ns C m
 fr:H C=none
 nl:C≠X.env.locals
 nf:C∉X.fs
 hi:X.s₀.heap.objs.size<=C
 nc:∀x c,X.env.cells.lookup x=some c->c≠C
 np:∀p∈X.pn++ac,p.1≠C
theorem wN.off{m:Str->Option Value}(B:wN X ac H s C m)(I:bb X ac σ H s)(hs:Heap.SameBut C s.heap h'):bb X ac σ H { s with heap:=h' }:=I.turned (t':=s.toks) (it:=C) (fun b o hb e=>hs.extBut b o hb e) B.fr B.nl (.inr B.hi) B.nc B.np
theorem Cm{IS:List (Addr×Obj)}{σ2:St}{H1:Hp}{s2:Shared}
  (qT:∀(i j:Nat),cap[i]?=some (some j)->∃x,nm[i]?=some x/\X.N[j]?=some x/\rO X scope cl x) (cV:cap.length=nm.length)
  (I2:bb X ac σ H1 s2) (R1:∀b∈fp,∀x c,X.env.cells.lookup x=some c->c≠b)
  (I:bb (dM X nm scope cl C s2 H1 fp) IS σ2 H s):bb (dM X nm scope cl C s2 H1 fp) IS (mP cap σ) H s:=by
 refine⟨I.ok,I.os,I.bare,I.base,?_,I.cell,I.free,I.freeC,I.pin,I.hok,by show(mP cap σ).length=nm.length;unfold mP;rw[aq];exact cV⟩
 obtain⟨m,hn,_⟩:=I.loc
 refine⟨m,hn,fun i x v e1 e2 e3=>?_⟩
 unfold mP at e2
 rw[af]at e2
 cases hc:cap[i]? with
 |none=>rw[hc]at e2;cases e2
 |some oj=>
  cases oj with
  |none=>rw[hc]at e2;cases e2
  |some j=>
   rw[hc]at e2
   have e2':(σ[j]?).join=some v:=by simpa using e2
   have e2:σ[j]?=some (some v):=by
    cases hs:σ[j]? with
    |none=>rw[hs]at e2';cases e2'
    |some ov=>rw[hs]at e2';simp at e2';rw[e2']
   obtain⟨x',f1,f2,k⟩:=qT i j hc
   have hx:x'=x:=by
    have z:nm[i]?=some x:=e1
    rw[f1]at z;exact aL z
   subst hx
   obtain⟨m2,_,hl2⟩:=I2.loc
   obtain⟨u,r,l⟩:=hl2 j x' v f2 e2 k.vis
   refine⟨u,r,?_⟩
   rcases l with⟨kl,_⟩|⟨_,c,hcc,gT⟩
   ·exact absurd kl k.nl
   ·refine .inr ⟨k.kd,c,by rw[<- hcc];exact k.cl,?_⟩
    exact I.base.cellK gT (I2.freeC _ _ hcc) fun z=>R1 c z _ _ hcc rfl
theorem yK{Qk:VK}(ig:X.calm=true)(tJ:closureFor scope X.env=pure cl)(rH:∀x c,cl.lookup x=some c->X.env.cells.lookup x=some c)
  (ii:scope.kind=.function) (on:∀x∈scope.names,x.2=.local->scope.names.lookup x.1=some .local) (R3:∀y∈scope.names,y.2=.cell->cl.lookup y.1=none)
  (zI:∀x,scope.names.lookup x≠some .cell->((relabel scope X.env).names.lookup x=some .cell\/(relabel scope X.env).names.lookup x=some .free)->∃c,cl.lookup x=some c)
  (qT:∀(i j:Nat),cap[i]?=some (some j)->∃x,nm[i]?=some x/\X.N[j]?=some x/\rO X scope cl x/\(x,NameKind.cell)∉scope.names) (cV:cap.length=nm.length)
  (hi:PI X tg cx wi) (hg:∀k C s0 H0 fp,PG (dM X nm scope (cellsFrom k scope.names []++cl) C s0 H0 fp) tg g) (ht:∀k C s0 H0 fp,Ck (dM X nm scope (cellsFrom k scope.names []++cl) C s0 H0 fp) kq tc)
  (he:∀k C s0 H0 fp,PE (dM X nm scope (cellsFrom k scope.names []++cl) C s0 H0 fp) m7 te) (hs:∀x,foldedSetIterable cx X.env x=pure x)
  (I:bb X ac σ H s) (h:qc cap wi g tc te σ H Qk) (m5:∀(s4:Shared) (C D:Addr) (m4:Str->Option Value) (Hn:Hp),bb X ac σ Hn s4->wN X ac Hn s4 C m4->Qk (.ref D) Hn->compPost (model X.prog X.w) X.A X.xe use Qv (.ref D) C (.ok .next) s4) :
  wpAny (model X.prog X.w) X.A (comprehension (.ListComp m7 [⟨tg,cx,kq,0⟩] scope pos) scope X.env (firstIterPos [⟨tg,cx,kq,0⟩] pos) (newList []) (firstAsync [⟨tg,cx,kq,0⟩]) (firstIter [⟨tg,cx,kq,0⟩] X.env) use) Qv X.xe s:=by
 refine wpAny_comprehension_free (use:=use) rfl hs tJ ii on (fU (hi ac s σ H _ I h) fun v s1 h1=>fU h1 fun Rh s2 h2=>?_)
 obtain⟨it,fp,tn,J,H1,e,I2,T,dq,f2,W,⟨m0,w0⟩,turn⟩:=h2
 subst e
 have hfpn:∀b∈fp,b<s2.heap.objs.size:=fun b hb=>let ⟨o,ho,_⟩:=T.obj _ _ dq b hb;az ho
 have hfpc:∀b∈fp,∀x c,X.env.cells.lookup x=some c->c≠b:=fun b hb=>(f2 b hb).2.2.2.2.1
 refine b8 (F3 (fun h₁ hns₁ hsb₁ cok=>?_))
 dsimp only at hns₁ hsb₁ cok ⊢
 generalize hH2:s2.heap.push { cls:=.type "list",dict:=none,data:=.seq ([]:List Value).toArray }=G2 at hns₁ hsb₁ cok ⊢
 have hC:G2.objs.size=s2.heap.objs.size+1:=by rw[<- hH2,bt]
 have hDC:s2.heap.objs.size≠G2.objs.size:=by rw[hC];exact aT (i3 _)
 have old:∀b o,s2.heap.get? b=some o->h₁.get? b=some o:=fun b o e=>hsb₁ b o (hH2▸ai _ e)
 have hacc:h₁.get? s2.heap.objs.size=some { cls:=.type "list",data:=.seq ([]:List Value).toArray }:=hsb₁ _ _ (hH2▸ao _ rfl)
 have both:∀y c,(cellsFrom (G2.objs.size+1) scope.names []++cl).lookup y=some c->(cellsFrom (G2.objs.size+1) scope.names []).lookup y=some c\/cl.lookup y=some c:=fun y c e=>by
  rw[ia]at e
  cases h:(cellsFrom (G2.objs.size+1) scope.names []).lookup y with
  |none=>rw[h]at e;exact .inr e
  |some b=>rw[h]at e;exact .inl e
 have ownhi:∀y c,(cellsFrom (G2.objs.size+1) scope.names []).lookup y=some c->h₁.IsCell c none/\G2.objs.size+1<=c:=fun y c e=>cok.empty y c (PySem.mem_of_lookup e)
 have cllow:∀y c,cl.lookup y=some c->c<s2.heap.objs.size:=fun y c e=>by obtain⟨v,hv⟩:=I2.cell y c (rH _ _ e);exact hv.lt
 have hcap0:=qT
 have qT:∀(i j:Nat),cap[i]?=some (some j)->∃x,nm[i]?=some x/\X.N[j]?=some x/\rO X scope (cellsFrom (G2.objs.size+1) scope.names []++cl) x:=fun i j e=>by
  obtain⟨x,q1,q2,k,q3⟩:=hcap0 i j e
  refine⟨x,q1,q2,k.vis,k.nl,?_,k.kd⟩
  rw[ia]
  cases h:(cellsFrom (G2.objs.size+1) scope.names []).lookup x with
  |none=>exact k.cl
  |some c=>
   rcases kA _ _ _ (PySem.mem_of_lookup h)with z|z
   ·exact absurd z q3
   ·cases z
 have okB:(dM X nm scope (cellsFrom (G2.objs.size+1) scope.names []++cl) G2.objs.size s2 H1 fp).Ok:=by
  refine⟨I2.ok.mod,ii,I2.ok.glob,I2.ok.blt,by show s2.heap.objs.size<=G2.objs.size;omega,fun x y c h1 h2=>?_,fun x hx=>?_,fun x c h0 hc=>?_,fun hc=>I2.ok.hd ig,I2.ok.frames,.inl rfl,?_,?_,?_,?_,?_,?_,?_⟩
  ·rcases both x c h1 with q1|q1<;>rcases both y c h2 with q2|q2
   ·exact name_of_addr cok.apart (PySem.mem_of_lookup q1) (PySem.mem_of_lookup q2)
   ·exact absurd (cllow y c q2) (jP.mpr (aQ (by omega) (ownhi x c q1).2))
   ·exact absurd (cllow x c q1) (jP.mpr (aQ (by omega) (ownhi y c q2).2))
   ·exact I2.ok.inj x y c (rH _ _ q1) (rH _ _ q2)
  ·show ∃c,(cellsFrom (G2.objs.size+1) scope.names []++cl).lookup x=some c
   rw[ia]
   by_cases hq:scope.names.lookup x=some .cell
   ·obtain⟨c,e⟩:=kL (n:=G2.objs.size+1) hq
    exact⟨c,by rw[e];rfl⟩
   ·obtain⟨c,e⟩:=zI x hq hx
    cases h:(cellsFrom (G2.objs.size+1) scope.names []).lookup x with
    |none=>exact⟨c,e⟩
    |some b=>exact⟨b,rfl⟩
  ·have hq:scope.names.lookup x=some .cell:=by simpa using h0
   obtain⟨b,e⟩:=kL (n:=G2.objs.size+1) hq
   have hc:(cellsFrom (G2.objs.size+1) scope.names []++cl).lookup x=some c:=hc
   rw[ia,e]at hc
   cases hc
   have:=(ownhi x _ e).2
   show s2.heap.objs.size<=_
   omega
  ·intro b hb
   exact⟨aT (aI (hfpn b hb) (by show _<=G2.objs.size;omega)),fun x c hx=>(both x c hx).elim (fun q=>fP (aI (hfpn b hb) (aQ (by omega) (ownhi x c q).2))) fun q=>hfpc b hb x c (rH _ _ q)⟩
  ·exact fun b o hb=>I2.bs b o hb
  ·exact aQ I2.ok.bsz I2.sz
  ·intro b o hb z
   rcases(f2 b z).2.2.2.1 with q|q
   ·exact I2.ok.noex b o hb q
   ·exact absurd (az (I2.ok.bs b o hb).1) (jP.mpr q)
  ·intro b hb z
   rcases a_.mp (I2.stkSub b z)with q|q
   ·exact(f2 b hb).2.1 q
   ·exact(f2 b hb).2.2.1 q
  ·exact I2.stack
  ·exact I2.stkFree
 have I4:bb (dM X nm scope (cellsFrom (G2.objs.size+1) scope.names []++cl) G2.objs.size s2 H1 fp) [] (mP cap σ) H1 { s2 with heap:=h₁ }:=by
  refine Cm qT cV I2 hfpc (σ2:=List.replicate nm.length none) ⟨okB,rfl,I2.bare,Un.kept old,⟨_,hns₁,fun i x v _ e2=>?_⟩,fun x c hx=>?_,?_,fun x c hx=>(both x c hx).elim (fun q=>I2.hok.fresh (by have:=(ownhi x c q).2;omega)) fun q=>I2.freeC x c (rH _ _ q),fun p hp=>absurd hp (by simp),I2.hok.kept old,by simp⟩
  ·rw[k_]at e2;split at e2<;>cases e2
  ·rcases both x c hx with q|q
   ·exact⟨none,(ownhi x c q).1⟩
   ·obtain⟨v,hv⟩:=I2.cell x c (rH _ _ q)
    exact⟨v,hv.keeps old⟩
  ·exact I2.hok.fresh (by show _<=G2.objs.size;omega)
 have hsz0:∀{Hx:Hp} {sx:Shared} {px:List (Addr×Obj)} {σx:St},bb (dM X nm scope (cellsFrom (G2.objs.size+1) scope.names []++cl) G2.objs.size s2 H1 fp) px σx Hx sx->Hx s2.heap.objs.size=none->∀{oa:Obj},sx.heap.get? s2.heap.objs.size=some oa->(∀v,oa.data≠.cell v) ->
   bb (dM X nm scope (cellsFrom (G2.objs.size+1) scope.names []++cl) G2.objs.size s2 H1 fp) [(s2.heap.objs.size,oa)] σx Hx sx:=fun{Hx sx px σx} Ix hn {oa} ho hd=>Ix.pins_of fun p hp=>by
  have e:p=(s2.heap.objs.size,oa):=by simpa using hp
  subst e
  exact⟨ho,hn,hDC,fun z=>by
   obtain⟨_,o,q,_⟩:=I2.stack.mem z
   exact absurd (az q) (dr _),hd⟩
 have hfpB:∀{Hx:Hp} {oa:Obj},(∀b∈fp,Hx b=none)->∀b∈fp,nP (dM X nm scope (cellsFrom (G2.objs.size+1) scope.names []++cl) G2.objs.size s2 H1 fp) [(s2.heap.objs.size,oa)] Hx b:=fun{Hx oa} hn b hb=>
  ⟨hn b hb,(okB.exf b hb).1,okB.exfs b hb,.inl hb,(okB.exf b hb).2,fun p hp=>by
   have e:p=(s2.heap.objs.size,oa):=by simpa using hp
   subst e
   exact fP (hfpn b hb)⟩
 have hcalmB:(dM X nm scope (cellsFrom (G2.objs.size+1) scope.names []++cl) G2.objs.size s2 H1 fp).calm=true:=ig
 have loop:∀sx:Shared,sx={ s2 with heap:=h₁ } ->
   codeAny (model X.prog X.w) X.A (.compLoop (.ListComp m7 [⟨tg,cx,kq,0⟩] scope pos) 0 (.ref it) (.ref s2.heap.objs.size) (compEnvC scope (cellsFrom (G2.objs.size+1) scope.names []++cl) G2.objs.size X.env))
    (compPost (model X.prog X.w) X.A X.xe use Qv (.ref s2.heap.objs.size) G2.objs.size) sx:=by
  rintro sx rfl
  refine codeAny_loop rfl (fun n s'=>∃i ys H',bb (dM X nm scope (cellsFrom (G2.objs.size+1) scope.names []++cl) G2.objs.size s2 H1 fp) [] (mP cap σ) H' s'/\tn i s'.heap/\(∀b∈fp,H' b=none)/\H' s2.heap.objs.size=none /\
   (∃bd k,bE ys bd/\s'.heap.get? s2.heap.objs.size=some { cls:=.type "list",data:=.seq bd.toArray k })/\W i n ys H') ?_ m0
   ⟨0,[],H1,I4,T.keep _ _ _ dq (fun b _ o e=>old b o e),fun b hb=>(f2 b hb).1,I2.fresh,⟨[],0,.nil,hacc⟩,w0⟩
  rintro n s3 ⟨i,ys,H3,I3,mn,fr3,na3,⟨bd,ka,rv,ea⟩,w3⟩
  show wpAny _ X.A ((compTurn (.ListComp m7 [⟨tg,cx,kq,0⟩] scope pos) 0 (.ref it) (.ref s2.heap.objs.size) (compEnvC scope (cellsFrom (G2.objs.size+1) scope.names []++cl) G2.objs.size X.env)).onRaise (fun x=>do noteFrame x (compEnvC scope (cellsFrom (G2.objs.size+1) scope.names []++cl) G2.objs.size X.env);theTreesLotGoes x)) _ _ s3
  refine wpAny_noted ?_
  rw[compTurn_list]
  refine aa (nK ?_)
  have I3p:=hsz0 I3 na3 ea (fun v z=>by cases z)
  rcases turn i n ys H3 w3 with⟨stop,hz,qn⟩|⟨go,step⟩
  ·refine aa (dE (T.done (dM X nm scope (cellsFrom (G2.objs.size+1) scope.names []++cl) G2.objs.size s2 H1 fp) rfl rfl rfl hcalmB i _ s3 _ H3 (fun _ _=>False) I3p (hfpB fr3) mn stop) (fun r s4 hr=>?_) fun _ _ z=>z.elim)
   obtain⟨hr,I4'⟩:=hr
   subst hr
   refine ar ?_
   obtain⟨m4,hn4,_⟩:=id I4'.loc
   have pa:=I4'.pin (s2.heap.objs.size,{ cls:=.type "list",data:=.seq bd.toArray ka }) (by simp)
   have ne:∀b o,s2.heap.get? b=some o->b≠s2.heap.objs.size/\b≠G2.objs.size:=fun b o e=>⟨aT (az e),aT (by rw[hC];exact kt (az e))⟩
   have I5:bb X ac σ (da H3 s2.heap.objs.size (.lst ys)) s4:=by
    refine I2.call' (ch:=fp) I4'.os ⟨fun b o e n hb hx=>?_,fun b o e n hb hx=>?_,fun b o e n hx=>?_,fun b o e hx=>?_,fun b xs e=>?_,fun b o u e=>?_,fun b ps e=>?_⟩ ?_ I4'.bare fun b hb=>?_
    ·exact I4'.base.keep b o e n hb hx
    ·exact I4'.base.slot b o e n hb hx
    ·rw[bF (ne b o e).1];exact I4'.base.free b o e n hx
    ·exact I4'.base.there b o e hx
    ·have q:=I4'.base.tups b xs e
     rw[bF (dX q na3)];exact q
    ·have q:=I4'.base.frzs b o u e
     rw[bF (dX q na3)];exact q
    ·obtain⟨mr,q⟩:=I4'.base.tbls b ps e
     exact⟨mr,by rw[bF (dX q na3)];exact q⟩
    ·intro b o e
     by_cases hb:b=s2.heap.objs.size
     ·subst hb
      rw[c5]at e;cases e
      exact⟨hz,bd,ka,rv,pa.1⟩
     ·rw[bF hb]at e
      exact(I4'.hok b o e).stay (fun c u hc q=>q) (fun c q=>by rw[bF (dX q na3)];exact q) fun c xs q=>by rw[bF (dX q na3)];exact q
    ·obtain⟨_,g1,_,g3,g4,g5⟩:=f2 b hb
     exact⟨g3,g1,g4,g5⟩
   have lC:s2.heap.objs.size<=G2.objs.size:=by rw[hC];exact e_ _
   exact m5 s4 G2.objs.size _ m4 _ I5 ⟨hn4,by rw[bF (Ne.symm hDC)];exact I4'.free,fP (aI I2.lt lC),I2.nofs lC,aQ I2.sz lC,fun x c hx z=>(by
    obtain⟨v,o,ho,_⟩:=I2.cell x c hx
    exact absurd (az ho) (by rw[z];exact jP.mpr lC)),fun p hp z=>(by
    have:=(I2.pin p hp).1
    exact absurd (az this) (by rw[z];exact jP.mpr lC))⟩ (qn _ na3)
  ·refine aa (dE (T.item (dM X nm scope (cellsFrom (G2.objs.size+1) scope.names []++cl) G2.objs.size s2 H1 fp) rfl rfl rfl hcalmB i _ s3 _ H3 (fun _ _=>False) I3p (hfpB fr3) mn go) (fun r s4 hr=>?_) fun _ _ z=>z.elim)
   obtain⟨u,hr,h4⟩:=hr
   subst hr
   dsimp only
   refine aa (dE h4 (fun _ s5 h5=>?_) fun _ _ z=>z.elim)
   obtain⟨x,H5,I5,r5,y5,st5,fr5⟩:=h5
   have I5':=I5.pinned (hfpB fr5) (T.obj _ _ st5)
   refine aa (dE (hg _ _ _ _ _ _ s5 _ H5 x u _ I5' r5 (step x H5 y5)) (fun _ s6 h6=>?_) fun _ _ z=>z.elim)
   obtain⟨σ6,H6,I6,q6⟩:=h6
   refine aa (dE (ht _ _ _ _ _ _ s6 σ6 H6 _ I6 q6) (fun ok s7 h7=>?_) fun _ _ z=>z.elim)
   obtain⟨H7,I7,q7⟩:=h7
   have back:∀{H8:Hp} {s8:Shared} {IU:List V} {its':List Value} {k':Nat},bb (dM X nm scope (cellsFrom (G2.objs.size+1) scope.names []++cl) G2.objs.size s2 H1 fp) [] σ6 H8 s8->(∀b∈fp,∀o,s5.heap.get? b=some o->s8.heap.get? b=some o)->(∀b∈fp,H8 b=none)->H8 s2.heap.objs.size=none ->
     bE IU its'->s8.heap.get? s2.heap.objs.size=some { cls:=.type "list",data:=.seq its'.toArray k' }->(∃m',m'<n/\W (i+1) m' IU H8) ->
     ∃m,m<n/\∃i ys H',bb (dM X nm scope (cellsFrom (G2.objs.size+1) scope.names []++cl) G2.objs.size s2 H1 fp) [] (mP cap σ) H' s8/\tn i s8.heap/\(∀b∈fp,H' b=none)/\H' s2.heap.objs.size=none /\
      (∃bd k,bE ys bd/\s8.heap.get? s2.heap.objs.size=some { cls:=.type "list",data:=.seq bd.toArray k })/\W i m ys H':=
    fun{H8 s8 IU its' k'} I8 kf f8 n8 rv8 e8 ⟨m',hm,w8⟩=>⟨m',hm,i+1,IU,H8,Cm qT cV I2 hfpc I8,T.keep _ _ _ st5 kf,f8,n8,⟨its',k',rv8,e8⟩,w8⟩
   cases ok with
   |false=>
    refine ar ⟨rfl,?_⟩
    have q7':∃m',m'<n/\W (i+1) m' ys H7:=by simpa using q7
    have pa:=I7.pin (s2.heap.objs.size,{ cls:=.type "list",data:=.seq bd.toArray ka }) (by simp)
    refine back (I7.pins_of fun p hp=>absurd hp (by simp)) (fun b hb o e=>?_) (fun b hb=>?_) pa.2.1 rv pa.1 q7'
    ·exact(I7.pin (b,o) (aP _ (aP _ (iV hb e)))).1
    ·obtain⟨o,e,d⟩:=T.obj _ _ st5 b hb
     exact(I7.pin (b,o) (aP _ (aP _ (iV hb e)))).2.1
   |true=>
    rw[aw rfl]at q7
    refine aa (aa (dE (he _ _ _ _ _ _ s7 σ6 H7 _ I7 q7) (fun xv s8 h8=>?_) fun _ _ z=>z.elim))
    obtain⟨y,H8,I8,r8,hzy,q8⟩:=h8
    have pa:=I8.pin (s2.heap.objs.size,{ cls:=.type "list",data:=.seq bd.toArray ka }) (by simp)
    refine aa (vf pa.1 (by rw[<- rv.length];exact hzy) fun h' k' tk e9 sb=>?_)
    refine ar (ar ⟨rfl,?_⟩)
    have I9:bb (dM X nm scope (cellsFrom (G2.objs.size+1) scope.names []++cl) G2.objs.size s2 H1 fp) [] σ6 H8 { s8 with heap:=h',toks:=tk }:=
     (bb.pins_of (pins':=[]) I8 fun p hp=>absurd hp (by simp)).turned (it:=s2.heap.objs.size) (fun b o hb e=>sb b o hb e) pa.2.1 hDC (.inr (av _)) (fun x c hx z=>by
      rcases both x c hx with q|q
      ·exact jP.mpr (ownhi x c q).2 (by rw[z];omega)
      ·exact dr _ (by have:=cllow x c q;rw[z]at this;exact this)) (fun p hp=>absurd hp (by simp))
    refine back I9 (fun b hb o e=>?_) (fun b hb=>?_) pa.2.1 (rv.append (.cons r8 .nil)) e9 q8
    ·exact sb b o (aT (hfpn b hb)) (I8.pin (b,o) (aP _ (aP _ (iV hb e)))).1
    ·obtain⟨o,e,d⟩:=T.obj _ _ st5 b hb
     exact(I8.pin (b,o) (aP _ (aP _ (iV hb e)))).2.1
 exact codeAny_compStart_list (loop _ rfl) (T.self _ _ _ _ _ (T.keep _ _ _ dq fun b _ o e=>old b o e) (loop _ rfl))
theorem oA:∀(names:List (Str×NameKind)) (n:Nat),(∀y∈names,y.2≠.cell)->cellsFrom n names []=[]
 |[],_,_=>rfl
 |(x,k)::r,n,h=>by
  show(if k==.cell then cellsFrom (n+1) r [(x,n)]else cellsFrom n r [])=[]
  rw[ay (by have:=h (x,k) (by simp);simpa using this)]
  exact oA r n fun y hy=>h y (by simp[hy])
theorem uo{Qk:VK}(ig:X.calm=true)(tJ:closureFor scope X.env=pure cl)(rH:∀x c,cl.lookup x=some c->X.env.cells.lookup x=some c)
  (ii:scope.kind=.function) (on:∀x∈scope.names,x.2=.local->scope.names.lookup x.1=some .local) (gT:∀y∈scope.names,y.2≠.cell)
  (zI:∀x,((relabel scope X.env).names.lookup x=some .cell\/(relabel scope X.env).names.lookup x=some .free)->∃c,cl.lookup x=some c)
  (qT:∀(i j:Nat),cap[i]?=some (some j)->∃x,nm[i]?=some x/\X.N[j]?=some x/\rO X scope cl x) (cV:cap.length=nm.length)
  (hi:PI X tg cx wi) (hg:∀C s0 H0 fp,PG (cw X nm scope cl C s0 H0 fp) tg g) (ht:∀C s0 H0 fp,Ck (cw X nm scope cl C s0 H0 fp) kq tc)
  (he:∀C s0 H0 fp,PE (cw X nm scope cl C s0 H0 fp) m7 te) (hs:∀x,foldedSetIterable cx X.env x=pure x)
  (I:bb X ac σ H s) (h:qc cap wi g tc te σ H Qk) (m5:∀(s4:Shared) (C D:Addr) (m4:Str->Option Value) (Hn:Hp),bb X ac σ Hn s4->wN X ac Hn s4 C m4->Qk (.ref D) Hn->compPost (model X.prog X.w) X.A X.xe use Qv (.ref D) C (.ok .next) s4) :
  wpAny (model X.prog X.w) X.A (comprehension (.ListComp m7 [⟨tg,cx,kq,0⟩] scope pos) scope X.env (firstIterPos [⟨tg,cx,kq,0⟩] pos) (newList []) (firstAsync [⟨tg,cx,kq,0⟩]) (firstIter [⟨tg,cx,kq,0⟩] X.env) use) Qv X.xe s:=by
 have nc:∀k,cellsFrom k scope.names []++cl=cl:=fun k=>by rw[oA _ _ gT];rfl
 have nx:∀C s0 H0 fp,dM X nm scope cl C s0 H0 fp=cw X nm scope cl C s0 H0 fp:=fun C s0 H0 fp=>by
  have:(fun y=>scope.names.lookup y==some .cell)=fun _=>false:=funext fun y=>by
   rw[bZ]
   exact fun e=>gT _ (ib e) rfl
  unfold dM cw
  rw[this]
 exact yK ig tJ rH ii on (fun y hy h=>absurd h (gT y hy)) (fun x _ h=>zI x h) (fun i j h=>let ⟨x,a,b,d⟩:=qT i j h;⟨x,a,b,d,fun z=>gT _ z rfl⟩) cV hi
  (fun k C s0 H0 fp=>by rw[nc,nx];exact hg C s0 H0 fp) (fun k C s0 H0 fp=>by rw[nc,nx];exact ht C s0 H0 fp) (fun k C s0 H0 fp=>by rw[nc,nx];exact he C s0 H0 fp) hs I h m5
theorem F4(ig:X.calm=true)(tJ:closureFor scope X.env=pure cl)(rH:∀x c,cl.lookup x=some c->X.env.cells.lookup x=some c)
  (ii:scope.kind=.function) (on:∀x∈scope.names,x.2=.local->scope.names.lookup x.1=some .local) (gT:∀y∈scope.names,y.2≠.cell)
  (zI:∀x,((relabel scope X.env).names.lookup x=some .cell\/(relabel scope X.env).names.lookup x=some .free)->∃c,cl.lookup x=some c)
  (qT:∀(i j:Nat),cap[i]?=some (some j)->∃x,nm[i]?=some x/\X.N[j]?=some x/\rO X scope cl x) (cV:cap.length=nm.length)
  (hi:PI X tg cx wi) (hg:∀C s0 H0 fp,PG (cw X nm scope cl C s0 H0 fp) tg g) (ht:∀C s0 H0 fp,Ck (cw X nm scope cl C s0 H0 fp) kq tc)
  (he:∀C s0 H0 fp,PE (cw X nm scope cl C s0 H0 fp) m7 te) (hs:∀x,foldedSetIterable cx X.env x=pure x:=by intro _;rfl) :
  PE X (.ListComp m7 [⟨tg,cx,kq,0⟩] scope pos) (qc cap wi g tc te):=by
 intro ac s σ H Q I h
 rw[eval_ListComp]
 exact uo ig tJ rH ii on gT zI qT cV hi hg ht he hs I h fun s4 C D m4 Hn I4 B q=>⟨m4,B.ns,fun h' hs'=>⟨.ref D,Hn,B.off I4 hs',rfl,q⟩⟩
end
def tx(l:List Nat):Str:=⟨l.toArray⟩
theorem JT(l:List Nat):(tx l).cps.toList=l:=rfl
theorem hG(l:List Nat):(tx l).length=l.length:=by show l.toArray.size=_;simp
theorem yL(a b:List Nat):tx a++tx b=tx (a++b):=by
 show(⟨a.toArray++b.toArray⟩:Str)=⟨(a++b).toArray⟩
 simp
theorem Cn{a b:List Nat}:tx a=tx b↔a=b:=⟨fun h=>by have:=kZ (fun z:Str=>z.cps.toList) h;exact this,fun h=>by rw[h]⟩
def M4(lS:List V):It:=⟨fun i _=>i<lS.length,fun i H x H'=>H'=H/\lS[i]?=some x,fun i _=>lS.length<=i⟩
theorem nR{w:World}{lS:List V}{Pr:Nat->Value->Prop}{S:Nat->Heap->Prop}{ty:String}
  (W:∀A:Around,A.handled=none->Walks P w A it [it] [it] lS.length Pr S) (hv:∀i v,i<lS.length->Pr i v->∃x,lS[i]?=some x/\bK x v)
  (BP:∀i h,S i h->∃o vs,h.get? it=some o/\o.cls=.type ty/\o.data=.fields vs)
  (yp:["enumerate","zip","dict_itemiterator","dict_reverseitemiterator","odict_iterator","itertools.zip_longest","itertools.pairwise"].contains ty=false)
  (Fc:∀(A:Around) (i:Nat) (s:Shared) (Q:Value->Shared->Prop) (E:Value->Shared->Prop),S i s.heap->Q (.ref it) s->wpAny (model P w) A (pyIter (.ref it)) Q E s) :
  rK P w K tg (M4 lS) [it] it (fun i h=>i<=lS.length/\S i h) where
 mem:=by simp
 obj:=fun i h st b hb=>by
  have e:b=it:=by simpa using hb
  subst e
  obtain⟨o,vs,e,c,d⟩:=BP i h st.2
  exact⟨o,e,fun v z=>by rw[d]at z;cases z⟩
 keep:=fun i h h' st k=>⟨st.1,(W { depth:=0,handled:=none,frames:=none } rfl).frame i h h' st.2 k⟩
 item:=by
  intro X hP hw hK hc i ac s σ H E I hf st hg
  subst hP hw hK
  obtain⟨f0,f1,f2,f3,f4,f5⟩:=hf it (by simp)
  refine(W X.A (I.ok.hd hc)).item i s _ _ hg st.2 fun v h' tk hp br kk=>?_
  have I1:bb X ac σ H { s with heap:=h',toks:=tk }:=I.turned (fun b o hb e=>kk b o (by simpa using hb) e) f0 f1 f3 f4 f5
  obtain⟨x,hx,rx⟩:=hv i v hg hp
  obtain⟨o,vs,e,c,d⟩:=BP _ _ br
  exact⟨v,rfl,zR (s:={ s with heap:=h',toks:=tk }) e c d yp ⟨x,H,I1,rx,⟨rfl,hx⟩,⟨hg,br⟩,fun b hb=>(hf b hb).1⟩⟩
 done:=by
  intro X hP hw hK hc i ac s σ H E I hf st hg
  subst hP hw hK
  obtain⟨f0,f1,f2,f3,f4,f5⟩:=hf it (by simp)
  have e:i=lS.length:=Nat.le_antisymm st.1 hg
  refine(W X.A (I.ok.hd hc)).done s _ _ (e▸st.2) fun h' tk kk=>⟨rfl,I.turned (fun b o hb e=>kk b o (by simpa using hb) e) f0 f1 f3 f4 f5⟩
 self:=fun A i s Q E st h=>Fc A i s Q E st.2 h
section
def jH(l:List Nat):List V:=l.map fun c=>.str (tx [c])
def Qn(tl:TE):TI:=fun σ H R=>tl σ H fun x H1=>∃l,x=.str (tx l)/\R (M4 (jH l)) H1
theorem Bb(i:Nat)(v:Value)(hi:i<(jH l).length)(h:SignAt (tx l) i v):∃x,(jH l)[i]?=some x/\bK x v:=by
 obtain⟨c,u,hc,e⟩:=h
 refine⟨.str (tx [c]),?_,u,e⟩
 unfold jH
 rw[af]
 have:l[i]?=some c:=by simpa[tx]using hc
 rw[this];rfl
theorem JU{l:Expr}{tl:TE}(hl:PE X l tl):PI X tg l (Qn tl):=by
 intro ac s σ H R I h
 refine fU (hl ac s σ H _ I h) fun v s1 ⟨x,H1,I1,r1,q1⟩=>?_
 obtain⟨l,e,q⟩:=q1
 subst e
 obtain⟨t,rfl⟩:=r1
 have hn:(tx l).cps.size=(jH l).length:=by unfold jH;simp[tx]
 have m5:∀(ob:Obj) (S:Nat->Heap->Prop) (ty:String),(∀A:Around,A.handled=none->Walks X.prog X.w A s1.heap.objs.size [s1.heap.objs.size] [s1.heap.objs.size] (tx l).cps.size (SignAt (tx l)) S)->S 0 (s1.heap.push ob) ->
   (∀i h,S i h->∃o vs,h.get? s1.heap.objs.size=some o/\o.cls=.type ty/\o.data=.fields vs) ->
   ["enumerate","zip","dict_itemiterator","dict_reverseitemiterator","odict_iterator","itertools.zip_longest","itertools.pairwise"].contains ty=false ->
   (∀(A:Around) (i:Nat) (s:Shared) (Q:Value->Shared->Prop) (E:Value->Shared->Prop),S i s.heap->Q (.ref s1.heap.objs.size) s->wpAny (model X.prog X.w) A (pyIter (.ref s1.heap.objs.size)) Q E s) ->
   Pn X ac σ tg R (.ref s1.heap.objs.size) { s1 with heap:=s1.heap.push ob }:=fun ob S ty W h0 BP yp Fc=>by
  rw[hn]at W
  refine⟨s1.heap.objs.size,[s1.heap.objs.size],_,_,H1,rfl,I1.kept (t':=s1.toks) fun b o e=>ai _ e,nR W (fun i v hi hp=>Bb i v hi hp) BP yp Fc,⟨cG _,h0⟩,fun b hb=>?_,q⟩
  have e:b=s1.heap.objs.size:=by simpa using hb
  subst e
  exact I1.fpOk (av _) I1.fresh
 cases ha:(tx l).cps.all (· < 128)
 ·exact wpAny_pyIter_wide ha (m5 _ _ _ (fun A hA=>Walks.strWide hA _ (tx l) t) ⟨_,ao _ rfl,rfl,rfl⟩ (fun i h st=>by obtain⟨o,a,b,c⟩:=st;exact⟨o,_,a,b,c⟩) (by decide) fun A i s Q E st h=>wpAny_pyIter_striter_wide st h)
 ·exact wpAny_pyIter_ascii ha (m5 _ _ _ (fun A hA=>Walks.strAscii hA _ (tx l) t) ⟨_,ao _ rfl,rfl,rfl⟩ (fun i h st=>by obtain⟨o,a,b,c⟩:=st;exact⟨o,_,a,b,c⟩) (by decide) fun A i s Q E st h=>wpAny_pyIter_striter_ascii st h)
def Bc(l:List Nat)(lo hi:Option Int):List Nat:=(l.drop (HT.sIx l.length 0 lo)).take (HT.sIx l.length l.length hi-HT.sIx l.length 0 lo)
theorem wO(l:List Nat)(lo hi:Option Int):(Bc l lo hi).length<=l.length:=by unfold Bc;rw[aV,dU];omega
theorem yM(l:List Nat)(i k:Nat):((List.range k).map fun(m:Nat)=>i+m).filterMap (fun j=>l[j]?)=(l.drop i).take k:=by
 induction k generalizing i with
 |zero=>simp
 |succ k ih=>
  rw[fS,aN,bD]
  have e:((fun m=>i+m)∘Nat.succ)=fun m=>(i+1)+m:=by funext m;simp[Function.comp];omega
  rw[e]
  by_cases h:i<l.length
  ·rw[dJ]
   simp only[iE,ag h]
   rw[ih (i+1),bJ h,List.take_succ_cons]
  ·rw[dJ]
   have h':l.length<=i:=by omega
   simp only[iE,aC h']
   rw[ih (i+1),lY h',lY (by omega)]
   simp
theorem Hv(v:Int)(n d:Nat):(if (1:Int)>0 then max 0 (min (if v<0 then v+(n:Int)else v) (n:Int))else max (-1) (min (if v<0 then v+(n:Int)else v) ((n:Int)-1)))=((HT.sIx n d (some v):Nat):Int):=by
 rw[aw (by omega)]
 show _=(((if v<0 then(v+(n:Int)).toNat else min v.toNat n):Nat):Int)
 by_cases hv:v<0
 ·simp only[aw hv];omega
 ·simp only[ay hv];omega
theorem JV(lo hi:Option Int)(n:Nat):Builtin.Str.strSliceIndices lo hi 1 n=(List.range (HT.sIx n n hi-HT.sIx n 0 lo)).map fun(m:Nat)=>HT.sIx n 0 lo+m:=by
 have key:∀a b:Nat,sliceRange (a:Int) (b:Int) 1=(List.range (b-a)).map fun(m:Nat)=>a+m:=fun a b=>by
  unfold sliceRange
  have e:(if (1:Int)>0 then(if (a:Int)<(b:Int)then((b:Int)-a+1-1)/1 else 0)else(if (a:Int)>b then((a:Int)-b-1-1)/(-1)else 0)).toNat=b-a:=by
   rw[aw (by omega)]
   by_cases h:(a:Int)<b
   ·rw[aw h];omega
   ·rw[ay h];omega
  dsimp only
  rw[e]
  refine bC fun k _=>?_
  omega
 unfold Builtin.Str.strSliceIndices
 rw[<- key]
 dsimp only
 congr 1
 ·cases lo with
  |none=>rfl
  |some v=>exact Hv v n 0
 ·cases hi with
  |none=>rfl
  |some v=>exact Hv v n n
theorem Co(l:List Nat)(lo hi:Option Int):Txt.slice (tx l) lo hi=tx (Bc l lo hi):=by
 unfold Txt.slice
 rw[JV,hG]
 split
 ·rename_i h
  simp only[beq_self_eq_true,Bool.true_and,d_,aq,cQ]at h
  unfold Bc
  have h1:=HT.sIx_le l.length l.length (av _) hi
  have h2:=HT.sIx_le l.length 0 (cG _) lo
  by_cases hz:l.length=0
  ·have:l=[]:=List.eq_nil_of_length_eq_zero hz
   subst this;simp
  ·have e0:HT.sIx l.length 0 lo=0:=by omega
   rw[e0,List.drop_zero,bA (by omega)]
 ·unfold Bc tx
  have:∀j:Nat,(l.toArray)[j]?=l[j]?:=fun j=>by simp
  simp only[this]
  rw[yM]
def Qo:V->Option Int->Option Int->Hp->VK->Prop:=fun x lo hi H Q=>∃l,x=.str (tx l)/\l.length<=sizeLine/\Q (.str (tx (Bc l lo hi))) H
theorem z_{v:Value}{o:Option Int}(p:IsPart v o):∃q:Option (Int×Tok),v=partValue q/\q.map (·.1)=o:=by
 cases p with
 |none=>exact⟨none,rfl,rfl⟩
 |int i t=>exact⟨some (i,t),rfl,rfl⟩
theorem JW:BQ X Qo:=by
 intro ac s σ H x v vl vu lo hi sl Q I rx hs pl pu h
 obtain⟨l,e,hz,q⟩:=h
 subst e
 obtain⟨t,rfl⟩:=rx
 obtain⟨pl',rfl,rfl⟩:=z_ pl
 obtain⟨pu',rfl,rfl⟩:=z_ pu
 refine⟨"str",_,F.slot_str_getitem.lookup,i4 _ _ _,?_⟩
 refine wpAny_getItem_str_slice (l:=pl') (u:=pu') (st:=none) hs rfl (post_val_or_str ?_)
 have e:=Co l (pl'.map (·.1)) (pu'.map (·.1))
 unfold Txt.slice at e
 show(if ((1:Int)==1&&(Builtin.Str.strSliceIndices (pl'.map (·.1)) (pu'.map (·.1)) 1 (tx l).length).length==(tx l).length)=true then tx l else⟨((Builtin.Str.strSliceIndices (pl'.map (·.1)) (pu'.map (·.1)) 1 (tx l).length).filterMap ((tx l).cps[·]?)).toArray⟩:Str).length<=sizeLine /\
  ∀t' k,EP X ac σ Q (.str (if ((1:Int)==1&&(Builtin.Str.strSliceIndices (pl'.map (·.1)) (pu'.map (·.1)) 1 (tx l).length).length==(tx l).length)=true then tx l else⟨((Builtin.Str.strSliceIndices (pl'.map (·.1)) (pu'.map (·.1)) 1 (tx l).length).filterMap ((tx l).cps[·]?)).toArray⟩:Str) t') { s with toks:=k }
 rw[e,hG]
 exact⟨aQ (wO l _ _) hz,fun t' k=>⟨.str _,H,I.tok k,⟨t',rfl⟩,q⟩⟩
theorem Cp(c:Nat)(l:List Nat):(!(Builtin.Str.occurrences (tx l) (tx [c]) 0 (tx l).length 1).isEmpty)=decide (c∈l):=StrLaws.found_one (tx l) c
def M5(Pa:Bool):R2:=fun x y H Q=>∃c l,x=.str (tx [c])/\y=.str (tx l)/\Q (.bl (if Pa then !decide (c∈l)else decide (c∈l))) H
theorem Be:kJ X (compareOp .In) (M5 false):=by
 intro ac s σ H x y v u Q I rx ry h
 obtain⟨c,l,rfl,rfl,q⟩:=h
 exact A1 ac s σ H _ _ v u Q I rx ry ⟨_,_,rfl,rfl,by rw[Cp];exact q⟩
theorem vg:kJ X (compareOp .NotIn) (M5 true):=by
 intro ac s σ H x y v u Q I rx ry h
 obtain⟨c,l,rfl,rfl,q⟩:=h
 exact u8 ac s σ H _ _ v u Q I rx ry ⟨_,_,rfl,rfl,by rw[Cp];exact q⟩
theorem nS:∀{ys:List (List Nat)} {bd:List Value},bE (ys.map fun l=>V.str (tx l)) bd->StrsAre bd (ys.map tx)
 |[],_,r=>by cases r;exact .nil
 |y::ys,_,r=>by
  cases r with
  |cons r rr=>
   obtain⟨t,rfl⟩:=r
   exact .cons _ _ (nS rr)
theorem nT:∀{bd:List Value} {ss:List Str},StrsAre bd ss->bE (ss.map fun z=>V.str z) bd
 |_,_,.nil=>.nil
 |_,_,.cons y t r=>.cons ⟨t,rfl⟩ (nT r)
def mQ(sep:List Nat):List (List Nat)->List Nat
 |[]=>[]
 |[x]=>x
 |x::y::r=>x++sep++mQ sep (y::r)
theorem nj:∀ys:List (List Nat),mQ [] ys=ys.flatten
 |[]=>rfl
 |[x]=>by simp[mQ]
 |x::y::r=>by rw[mQ,nj (y::r)];simp
theorem F5(sep:List Nat):∀ys:List (List Nat),Txt.join (tx sep) (ys.map tx)=tx (mQ sep ys):=fun ys=>by
 show Builtin.Str.glued (tx sep) (ys.map tx)=_
 rw[StrLaws.glued_eq_join]
 induction ys with
 |nil=>rfl
 |cons x r ih=>
  cases r with
  |nil=>rfl
  |cons y r=>
   show tx x++tx sep++Str.join (tx sep) ((y::r).map tx)=tx (x++sep++mQ sep (y::r))
   rw[ih,yL,yL]
def M6(K:Frag):V->List V->Hp->VK->Prop:=fun x vs H Q=>∃(sep:List Nat) (a:Addr) (ys:List (List Nat)),x=.str (tx sep)/\vs=[.ref a]/\jr K H a (ys.map fun l=>V.str (tx l))/\(ys.map List.length).sum+ys.length*sep.length<=16777216/\Q (.str (tx (mQ sep ys))) H
theorem F6:wL X "str.join" (M6 X.K):=by
 intro ac s σ H x vs v us Q I rx rv h
 obtain⟨sep,a,ys,rfl,rfl,hS,hz,q⟩:=h
 obtain⟨t,rfl⟩:=rx
 obtain⟨u,rfl,ru⟩:=rv.one
 cases ru
 obtain⟨bd,r,p,_⟩:=I.list hS
 refine join_list p.isList (nS (by simpa using r)) ?_ fun t' k=>?_
 ·rw[bD,hG,aq]
  have e:((fun z:Str=>z.length)∘tx)=List.length:=by funext l;exact hG l
  rw[e];exact hz
 ·rw[F5]
  exact⟨.str _,H,I.tok k,⟨t',rfl⟩,q⟩
end
inductive D where
 |non|bl (b:Bool)|int (i:Int)|str (l:List Nat)|tnil|tcons (d r:D)
 deriving DecidableEq
def D.tup:List D->D
 |[]=>.tnil
 |d::r=>.tcons d (D.tup r)
mutual
def Dp(K:Frag)(H:Hp):D->V->Prop
 |.non,v=>v=.non
 |.bl b,v=>v=.bl b
 |.int i,v=>v=.int i
 |.str l,v=>v=.str (tx l)
 |.tnil,v=>∃p,v=.ref p/\dW K H p []
 |.tcons d r,v=>∃p x xs,v=.ref p/\dW K H p (x::xs)/\Dp K H d x/\DpL K H r xs
def DpL(K:Frag)(H:Hp):D->List V->Prop
 |.tnil,xs=>xs=[]
 |.tcons d r,xs=>∃x ys,xs=x::ys/\Dp K H d x/\DpL K H r ys
 |.non,_=>False
 |.bl _,_=>False
 |.int _,_=>False
 |.str _,_=>False
end
structure db(K:Frag)(H H':Hp):Prop where
 t:∀p xs,dW K H p xs->dW K H' p xs
 z:∀b o u,H b=some (.frz o u)->H' b=some (.frz o u)
instance {K:Frag} {H H':Hp}:CoeFun (db K H H') (fun _=>∀p xs,dW K H p xs->dW K H' p xs):=⟨db.t⟩
mutual
theorem Dp.mono(e:db K H H'):∀{d:D} {v:V},Dp K H d v->Dp K H' d v
 |.non,_,h=>by unfold Dp at h ⊢;exact h
 |.bl _,_,h=>by unfold Dp at h ⊢;exact h
 |.int _,_,h=>by unfold Dp at h ⊢;exact h
 |.str _,_,h=>by unfold Dp at h ⊢;exact h
 |.tnil,_,h=>by unfold Dp at h ⊢;obtain⟨p,e1,e2⟩:=h;exact⟨p,e1,e _ _ e2⟩
 |.tcons d r,_,h=>by unfold Dp at h ⊢;obtain⟨p,x,xs,e1,e2,h1,h2⟩:=h;exact⟨p,x,xs,e1,e _ _ e2,Dp.mono e h1,DpL.mono e h2⟩
theorem DpL.mono(e:db K H H'):∀{d:D} {v:List V},DpL K H d v->DpL K H' d v
 |.non,_,h=>by unfold DpL at h;exact h.elim
 |.bl _,_,h=>by unfold DpL at h;exact h.elim
 |.int _,_,h=>by unfold DpL at h;exact h.elim
 |.str _,_,h=>by unfold DpL at h;exact h.elim
 |.tnil,_,h=>by unfold DpL at h ⊢;exact h
 |.tcons d r,_,h=>by unfold DpL at h ⊢;obtain⟨x,xs,e1,h1,h2⟩:=h;exact⟨x,xs,e1,Dp.mono e h1,DpL.mono e h2⟩
end
abbrev BR(K:Frag)(H:Hp):List D->List V->Prop:=Paired fun d v=>Dp K H d v
theorem BR.mono(e:db K H H'):∀{ds:List D} {vs:List V},BR K H ds vs->BR K H' ds vs
 |_,_,.nil=>.nil
 |_,_,.cons h t=>.cons (h.mono e) (BR.mono e t)
theorem DpL.of:∀{ds:List D} {vs:List V},BR K H ds vs->DpL K H (D.tup ds) vs
 |_,_,.nil=>by unfold D.tup DpL;rfl
 |_,_,.cons h t=>by unfold D.tup DpL;exact⟨_,_,rfl,h,DpL.of t⟩
theorem DpL.to:∀{ds:List D} {vs:List V},DpL K H (D.tup ds) vs->BR K H ds vs
 |[],_,h=>by unfold D.tup DpL at h;subst h;exact .nil
 |d::ds,_,h=>by unfold D.tup DpL at h;obtain⟨x,xs,rfl,h1,h2⟩:=h;exact .cons h1 (DpL.to h2)
theorem Dp.tupI{p:Addr}{ds:List D}(h:dW K H p vs)(hd:BR K H ds vs):Dp K H (D.tup ds) (.ref p):=by
 cases hd with
 |nil=>unfold D.tup Dp;exact⟨p,rfl,h⟩
 |cons a t=>unfold D.tup Dp;exact⟨p,_,_,rfl,h,a,DpL.of t⟩
theorem Dp.tupE{ds:List D}(h:Dp K H (D.tup ds) v):∃p vs,v=.ref p/\dW K H p vs/\BR K H ds vs:=by
 cases ds with
 |nil=>unfold D.tup Dp at h;obtain⟨p,e,q⟩:=h;exact⟨p,[],e,q,.nil⟩
 |cons d r=>unfold D.tup Dp at h;obtain⟨p,x,xs,e,q,h1,h2⟩:=h;exact⟨p,_,e,q,.cons h1 (DpL.to h2)⟩
theorem dW.same{K:Frag}(e:j3 H H'):db K H H':=⟨fun p xs h=>by
 rcases h with(h|⟨o,h⟩)|h
 ·exact .inl (.inl (e _ _ h))
 ·exact .inl (.inr ⟨o,e _ _ h⟩)
 ·exact .inr h,fun b o u h=>e _ _ h⟩
theorem bP{p:Addr}(h:H p=none)(o:HO):j3 H (da H p o):=fun b u q=>by rw[bF (dX q h)];exact q
def BS(l:Addr)(H H':Hp):Prop:=∀b o,b≠l->H b=some o->H' b=some o
theorem BS.refl{l:Addr}(H:Hp):BS l H H:=fun _ _ _ h=>h
theorem BS.trans{l:Addr}{H1 H2:Hp}(a:BS l H H1)(b:BS l H1 H2):BS l H H2:=fun c o h q=>b c o h (a c o h q)
theorem j3.but{l:Addr}(a:j3 H H'):BS l H H':=fun b o _ q=>a b o q
theorem gU{l:Addr}{o:HO}:BS l H (da H l o):=fun b u h q=>by rw[bF h];exact q
theorem dW.but{l:Addr}{xs:List V}(e:BS l H H')(hl:H l=some (.lst xs)):db K H H':=by
 have uZ:∀{p:Addr} {o:HO},H p=some o->(∀zs,o≠.lst zs)->p≠l:=fun{p o} q hn z=>by subst z;rw[hl]at q;cases q;exact hn _ rfl
 refine⟨fun p ys h=>?_,fun b o u h=>e _ _ (uZ h (fun _ z=>by cases z)) h⟩
 rcases h with(h|⟨o,h⟩)|h
 ·exact .inl (.inl (e _ _ (uZ h (fun _ z=>by cases z)) h))
 ·exact .inl (.inr ⟨o,e _ _ (uZ h (fun _ z=>by cases z)) h⟩)
 ·exact .inr h
theorem db.refl:db K H H:=⟨fun _ _ h=>h,fun _ _ _ h=>h⟩
theorem db.trans{H1 H2:Hp}(a:db K H H1)(b:db K H1 H2):db K H H2:=⟨fun p xs h=>b p xs (a p xs h),fun c o u h=>b.z c o u (a.z c o u h)⟩
theorem dW.new{p:Addr}{xs:List V}:dW K (da H p (.tup xs)) p xs:=dW.of c5
theorem jr.but{l:Addr}{xs:List V}(e:BS l H H')(uZ:a≠l)(h:jr K H a xs):jr K H' a xs:=by
 rcases h with(h|⟨o,h⟩)|h
 ·exact .inl (.inl (e _ _ uZ h))
 ·exact .inl (.inr ⟨o,e _ _ uZ h⟩)
 ·exact .inr h
structure Qp(P:Program)(w:World)(K:Frag)(mg:Str->Option Value)(base:Heap)(k:Nat)(x:Str)(ps:List Str)(sp:Sp):Prop where
 ex:∃(f:Addr) (fd:FuncData),mg x=some (.ref f)/\keepIn K (.ref f)=true/\kK K fd ps []/\cN P w K mg base Ql k f fd ps sp
theorem Qp.mono{w:World}{k:Nat}(h:Qp P w K mg base j x ps sp)(hj:j<=k):Qp P w K mg base k x ps sp:=by
 obtain⟨f,fd,a,b,c,d⟩:=h.ex
 exact⟨f,fd,a,b,c,d.mono hj⟩
theorem M7{pos:Pos}(h:∃u,X.mg x=some u/\bK v u)(hg:Gl X x:=by rfl)(hd:(x==("__debug__":Str))=false:=by decide):PE X (.Name x pos) (tC v):=by
 obtain⟨u,a,b⟩:=h
 exact Fu hg a b hd
section
variable{to:TE}{t:TA}{r:V->List V->Hp->VK->Prop}
def RT(r:V->List V->Hp->VK->Prop)(to:TE)(t:TA):TE:=fun σ H Q=>to σ H fun x H1=>(∃l ys,x=.ref l/\H1 l=some (.lst ys))/\t σ H1 fun xs H2=>r x xs H2 Q
def RU(r:V->List V->Hp->VK->Prop)(to:TE)(t:TA):TE:=fun σ H Q=>to σ H fun x H1=>(∃l,x=.str (tx l))/\t σ H1 fun xs H2=>r x xs H2 Q
def Qq(r:V->List V->Hp->VK->Prop)(to:TE):TE:=fun σ H Q=>to σ H fun x H1=>(∃l ys,x=.ref l/\H1 l=some (.lst ys))/\r x [] H1 Q
theorem wP{x:V}(h:∃l ys,x=.ref l/\H l=some (.lst ys)):Po K "list" x H:=by
 obtain⟨l,ys,rfl,h⟩:=h
 exact .inl ⟨rfl,_,.of h⟩
theorem F7{x:V}(h:∃l,x=.str (tx l)):Po K "str" x H:=by
 obtain⟨l,rfl⟩:=h
 exact rfl
theorem Cq{T:String}{ty:V->Hp->Prop}(Rj:∀x H,ty x H->Po X.K T x H)(pa:PlainAttrs T)(slot:Slot T name id)(yp:typeOf (.builtin id)=pure (.type "method_descriptor"))(hm:wL X id r)(ho:PE X o to)(ha:PA X (e::es) t)
  (je:attributeBase o name X.env (eval o X.env)=eval o X.env)
  (wq:((backTo cK (starEach (e::es) X.env)).all (fun x=>!x.1)&&(backToKw cK (keywordEach [] X.env)).all (fun x=>x.1.isSome)
   && decide ((e::es).length+([]:List Keyword).length+(if ([]:List Keyword).isEmpty then 0 else 1)<30))=true)
  (jf:(d7.endLine==cK.line)=true) (hs:starEach (e::es) X.env=(false,eval e X.env)::starEach es X.env) (lR:(backTo cK (starEach es X.env)).any (·.1)=false) :
  PE X (.Call (.Attribute o name d7) (e::es) [] cK) (fun σ H Q=>to σ H fun x H1=>ty x H1/\t σ H1 fun xs H2=>r x xs H2 Q):=by
 intro ac s σ H Q I h
 refine wpAny_Call_method_late je wq jf rfl (fU (ho ac s σ H _ I h) fun v s1 ⟨x,H1,I1,r1,ty,q1⟩=>?_)
 obtain⟨h1,h2⟩:=Cd I1 r1 (Rj _ _ ty)
 refine⟨T,id,pa,slot,yp,h1,h2,?_⟩
 have hA:=ha cK ac s1 σ H1 _ I1 q1
 rw[hs]at hA ⊢
 refine fR (by show(false||(backTo cK (starEach es X.env)).any (·.1))=false;rw[lR]<;>rfl) (jg ?_)
 exact fU hA fun us s2 ⟨vs,H2,I2,r2,q2⟩=>hm ac s2 σ H2 x vs v us Q I2 r1 r2 q2
theorem M8(slot:Slot "list" name id)(yp:typeOf (.builtin id)=pure (.type "method_descriptor"))(hm:wL X id r)(ho:PE X o to)(ha:PA X (e::es) t)
  (je:attributeBase o name X.env (eval o X.env)=eval o X.env:=by rfl)
  (wq:((backTo cK (starEach (e::es) X.env)).all (fun x=>!x.1)&&(backToKw cK (keywordEach [] X.env)).all (fun x=>x.1.isSome)
   && decide ((e::es).length+([]:List Keyword).length+(if ([]:List Keyword).isEmpty then 0 else 1)<30))=true:=by rfl)
  (jf:(d7.endLine==cK.line)=true:=by rfl) (hs:starEach (e::es) X.env=(false,eval e X.env)::starEach es X.env:=by rfl) (lR:(backTo cK (starEach es X.env)).any (·.1)=false:=by rfl) :
  PE X (.Call (.Attribute o name d7) (e::es) [] cK) (RT r to t):=Cq (ty:=fun x H1=>∃l ys,x=.ref l/\H1 l=some (.lst ys)) (fun _ _ h=>wP h) F.plainAttrs_list slot yp hm ho ha je wq jf hs lR
theorem M9(slot:Slot "str" name id)(yp:typeOf (.builtin id)=pure (.type "method_descriptor"))(hm:wL X id r)(ho:PE X o to)(ha:PA X (e::es) t)
  (je:attributeBase o name X.env (eval o X.env)=eval o X.env:=by rfl)
  (wq:((backTo cK (starEach (e::es) X.env)).all (fun x=>!x.1)&&(backToKw cK (keywordEach [] X.env)).all (fun x=>x.1.isSome)
   && decide ((e::es).length+([]:List Keyword).length+(if ([]:List Keyword).isEmpty then 0 else 1)<30))=true:=by rfl)
  (jf:(d7.endLine==cK.line)=true:=by rfl) (hs:starEach (e::es) X.env=(false,eval e X.env)::starEach es X.env:=by rfl) (lR:(backTo cK (starEach es X.env)).any (·.1)=false:=by rfl) :
  PE X (.Call (.Attribute o name d7) (e::es) [] cK) (RU r to t):=Cq (ty:=fun x H1=>∃l,x=.str (tx l)) (fun _ _ h=>F7 h) F.plainAttrs_str slot yp hm ho ha je wq jf hs lR
theorem JX(slot:Slot "list" name id)(yp:typeOf (.builtin id)=pure (.type "method_descriptor"))(hm:wL X id r)(ho:PE X o to)
  (je:attributeBase o name X.env (eval o X.env)=eval o X.env:=by rfl) (jf:(d7.endLine==cK.line)=true:=by rfl):PE X (.Call (.Attribute o name d7) [] [] cK) (Qq r to):=by
 intro ac s σ H Q I h
 refine lh je jf (fU (ho ac s σ H _ I h) fun v s1 ⟨x,H1,I1,r1,ty,q1⟩=>?_)
 obtain⟨h1,h2⟩:=Cd I1 r1 (wP ty)
 exact⟨"list",id,F.plainAttrs_list,slot,yp,h1,h2,fR rfl (PySem.evalArgs_none (hm ac s1 σ H1 x [] v [] Q I1 r1 .nil q1))⟩
end
section
variable{t:TA}
def M_(t:TA):TE:=fun σ H Q=>t σ H fun xs H1=>xs.length<=sizeLine/\∀p H2,H1 p=none->H2=da H1 p (.tup xs)->Q (.ref p) H2
def M'(t:TA):TE:=fun σ H Q=>t σ H fun xs H1=>xs.length<=sizeLine/\∀p H2,H1 p=none->H2=da H1 p (.lst xs)->Q (.ref p) H2
theorem F8{x1}(h:PA X es t):PE X (.Tuple es x1 pos) (M_ t):=by
 intro ac s σ H Q I hq
 refine wpAny_Tuple_spliced (fU (h pos ac s σ H _ I hq) fun us s1 ⟨xs,H1,I1,r,z,q⟩=>⟨by rw[<- r.length];exact z,?_⟩)
 have hf:H1 s1.heap.objs.size=none:=I1.hok.fresh (av _)
 refine⟨.ref s1.heap.objs.size,da H1 s1.heap.objs.size (.tup xs),I1.laid (t':=s1.toks) (fun b u e=>ai _ e) (av _) ?_,rfl,q _ _ hf rfl⟩
 exact⟨z,us,r,⟨_,ao _ rfl,rfl,_,rfl⟩⟩
theorem F9(h:PA X es t):PE X (.List es pos) (M' t):=by
 intro ac s σ H Q I hq
 refine wpAny_List_spliced (fU (h pos ac s σ H _ I hq) fun us s1 ⟨xs,H1,I1,r,z,q⟩=>⟨by rw[<- r.length];exact z,?_⟩)
 have hf:H1 s1.heap.objs.size=none:=I1.hok.fresh (av _)
 refine⟨.ref s1.heap.objs.size,da H1 s1.heap.objs.size (.lst xs),I1.laid (t':=s1.toks) (fun b u e=>ai _ e) (av _) ?_,rfl,q _ _ hf rfl⟩
 exact⟨z,us,0,r,ao _ rfl⟩
theorem wL.imp{r r':V->List V->Hp->VK->Prop}(h:wL X id r)(i:∀x xs H Q,r' x xs H Q->r x xs H Q):wL X id r':=fun ac s σ H x xs v us Q I rx rv q=>h ac s σ H x xs v us Q I rx rv (i _ _ _ _ q)
theorem ik.imp{f:Value}{r r':List V->Hp->VK->Prop}(h:ik X f r)(i:∀xs H Q,r' xs H Q->r xs H Q):ik X f r':=fun ac s σ H xs us Q I rv q=>h ac s σ H xs us Q I rv (i _ _ _ q)
theorem kJ.imp{r r':R2}(h:kJ X f r)(i:∀x y H Q,r' x y H Q->r x y H Q):kJ X f r':=fun ac s σ H x y v u Q I rx ry q=>h ac s σ H x y v u Q I rx ry (i _ _ _ _ q)
theorem BQ.imp{r:V->Option Int->Option Int->Hp->VK->Prop}(h:BQ X r)(i:∀x lo hi H Q,r' x lo hi H Q->r x lo hi H Q):BQ X r':=fun ac s σ H x v vl vu lo hi sl Q I rx hs pl pu q=>h ac s σ H x v vl vu lo hi sl Q I rx hs pl pu (i _ _ _ _ _ q)
def Cr:V->List V->Hp->VK->Prop:=fun x vs H Q=>∃l xs y,x=.ref l/\vs=[y]/\H l=some (.lst xs)/\xs.length<sizeLine/\∀H2,H2=da H l (.lst (xs++[y]))->Q .non H2
theorem yN:wL X "list.append" Cr:=wL.imp (r:=zW) A8 fun _ _ _ _ ⟨l,xs,y,a,b,c,d,q⟩=>⟨l,xs,y,a,b,c,d,q _ rfl⟩
def Na:V->List V->Hp->VK->Prop:=fun x vs H Q=>∃l xs y,x=.ref l/\vs=[]/\H l=some (.lst (xs++[y]))/\∀H2,H2=da H l (.lst xs)->Q y H2
theorem F_:wL X "list.pop" Na:=wL.imp (r:=M1) JM fun _ _ _ _ ⟨l,xs,y,a,b,c,q⟩=>⟨l,xs++[y],y,a,b,c,by simp,by rw[List.dropLast_concat];exact q _ rfl⟩
def JY:V->V->V->Hp->(Hp->Prop)->Prop:=fun o i v H Q=>∃p xs k j,o=.ref p/\i=.int k/\H p=some (.lst xs)/\A7 xs.length k=some j/\∀H2,H2=da H p (.lst (xs.set j v))->Q H2
theorem Bf:AW X JY:=fun ac s σ H o i v ov iv u Q I r1 r2 r3 q=>by
 obtain⟨p,xs,k,j,a,b,c,d,q⟩:=q
 exact Cc ac s σ H o i v ov iv u Q I r1 r2 r3 ⟨p,xs,k,j,a,b,c,d,q _ rfl⟩
def Cs(K:Frag):List V->Hp->VK->Prop:=fun xs H Q=>∃p ys,xs=[.ref p]/\jr K H p ys/\∀l H2,H l=none->H2=da H l (.tup ys)->Q (.ref l) H2
theorem wQ:ik X (.type "tuple") (Cs X.K):=ik.imp tS fun _ _ _ ⟨p,ys,a,b,q⟩=>⟨p,ys,a,.inl ⟨b,fun l hl=>q l _ hl rfl⟩⟩
def Nb:R2:=fun x y H Q=>∃l b xs zs,x=.ref l/\y=.ref b/\H l=some (.lst xs)/\H b=some (.lst zs)/\xs.length+zs.length<=sizeLine/\∀p H2,H p=none->H2=da H p (.lst (xs++zs))->Q (.ref p) H2
theorem F':kJ X (binaryOp .Add) Nb:=kJ.imp JN fun _ _ _ _ ⟨l,b,xs,zs,h1,h2,h3,h4,h5,q⟩=>⟨l,b,xs,zs,h1,h2,h3,h4,h5,fun p hp=>q p _ hp rfl⟩
end
def Ct(T:String):Prop:=T="tuple"\/T="bool"\/T="int"\/T="str"
theorem DpL.ex:∀{d:D} {xs:List V},DpL K H d xs->∃ds,d=D.tup ds/\BR K H ds xs
 |.tnil,xs,h=>by unfold DpL at h;subst h;exact⟨[],rfl,.nil⟩
 |.tcons d r,xs,h=>by
  unfold DpL at h
  obtain⟨x,ys,rfl,h1,h2⟩:=h
  obtain⟨ds,rfl,hd⟩:=DpL.ex h2
  exact⟨d::ds,rfl,.cons h1 hd⟩
 |.non,_,h=>by unfold DpL at h;exact h.elim
 |.bl _,_,h=>by unfold DpL at h;exact h.elim
 |.int _,_,h=>by unfold DpL at h;exact h.elim
 |.str _,_,h=>by unfold DpL at h;exact h.elim
def D.dep:D->Nat
 |.tcons d r=>max (d.dep+1) r.dep
 |_=>1
theorem BR.get:∀{ds:List D} {vs:List V} {i:Nat} {d:D},BR K H ds vs->ds[i]?=some d->∃v,vs[i]?=some v/\Dp K H d v
 |_,_,_,_,.nil,e=>by simp at e
 |_,_,0,_,.cons r _,e=>by simp at e;subst e;exact⟨_,rfl,r⟩
 |_,_,i+1,d,.cons _ t,e=>by
  obtain⟨u,h1,h2⟩:=BR.get (i:=i) (d:=d) t (by simpa using e)
  exact⟨u,by simpa using h1,h2⟩
end L2
namespace L2
def D.size:D->Nat
 |.tcons d r=>d.size+r.size+1
 |_=>1
end L2
namespace L2
open PySem PySem.Spec PyProof.Rows
structure QE(X:Cx)(e:Expr)(t:TE):Prop where
 h:PE X e t
structure QA(X:Cx)(es:List Expr)(t:TA):Prop where
 h:PA X es t
structure QS(X:Cx)(s:Stmt)(t:TS):Prop where
 h:PS X s t
structure QG(X:Cx)(e:Expr)(t:TG):Prop where
 h:PG X e t
structure QI(X:Cx)(tg it:Expr)(t:TI):Prop where
 h:PI X tg it t
structure Qr(X:Cx)(es:List Expr)(t:TT):Prop where
 h:Ck X es t
structure Rs(X:Cx)(f:Value->Value->Sem Value)(r:R2):Prop where
 h:kJ X f r
structure Hw(X:Cx)(f:Value)(r:List V->Hp->VK->Prop):Prop where
 h:ik X f r
section
variable{a b:Expr}{ta tb tc to:TE}{t u:TA}{tA OV:TT}{dw:List Expr}
theorem Cu:Rs X (binaryOp .LShift) (rI Jv fun i j=>.int (i*2^j.toNat)):=⟨B4⟩
variable{st:Stmt}{sr:List Stmt}{ts us:TS}{g:TG}
end
section
variable{wi:TI}{g:TG}{tb:TS}{tA:TT}
end
def il(env:Env):List (Str×NameKind)->List (Str×Addr)->List (Str×Addr)
 |[],cs=>cs
 |(n,k)::r,cs=>il env r (if k==.free then(n,(env.cells.lookup n).getD 0)::cs else cs)
theorem Nc(h:∀x∈scope.names,x.2=.free->∃c,env.cells.lookup x.1=some c):closureFor scope env=pure (il env scope.names []):=by
 unfold closureFor
 have key:∀(ns:List (Str×NameKind)) (cs:List (Str×Addr)),(∀x∈ns,x.2=.free->∃c,env.cells.lookup x.1=some c) ->
   (forIn ns cs fun(x:Str×NameKind) (r:List (Str×Addr))=>if (x.2==NameKind.free)=true then(do let a <- cellOf env x.1;pure (ForInStep.yield ((x.1,a)::r)))else(pure (ForInStep.yield r):Sem _))=pure (il env ns cs):=by
  intro ns
  induction ns with
  |nil=>intro cs _;rfl
  |cons y r ih=>
   intro cs hc
   obtain⟨n,k⟩:=y
   rw[g6]
   have ihr:=fun cs=>ih cs fun x hx=>hc x (aR _ hx)
   by_cases hk:(k==NameKind.free)=true
   ·obtain⟨c,e⟩:=hc (n,k) bW (jF hk)
    have e2:cellOf env n=pure c:=by unfold cellOf;rw[e]
    show((if (k==NameKind.free)=true then _ else _) >>= _)=pure (il env r (if (k==NameKind.free)=true then _ else _))
    rw[aw hk,aw hk,e2]
    simp only[pure_bind]
    have e3:(env.cells.lookup n).getD 0=c:=by rw[show env.cells.lookup n=some c from e];rfl
    rw[e3]
    exact ihr _
   ·show((if (k==NameKind.free)=true then _ else _) >>= _)=pure (il env r (if (k==NameKind.free)=true then _ else _))
    rw[ay hk,ay hk]
    simp only[pure_bind]
    exact ihr _
 have:=key scope.names [] h
 dsimp only
 rw[this];simp only[pure_bind]
theorem uq:∀(ns:List (Str×NameKind)) (cs:List (Str×Addr)),(∀x∈ns,x.2=.free->∃c,env.cells.lookup x.1=some c)->(∀y∈cs,env.cells.lookup y.1=some y.2)->∀y∈il env ns cs,env.cells.lookup y.1=some y.2
 |[],cs,_,h=>h
 |(n,k)::r,cs,hf,h=>by
  refine uq r _ (fun x hx=>hf x (aR _ hx)) ?_
  by_cases hk:(k==NameKind.free)=true
  ·rw[aw hk]
   intro y hy
   rcases a_.mp hy with rfl|hy
   ·obtain⟨c,e⟩:=hf (n,k) bW (jF hk)
    show env.cells.lookup n=some ((env.cells.lookup n).getD 0)
    rw[show env.cells.lookup n=some c from e];rfl
   ·exact h y hy
  ·rw[ay hk];exact h
theorem rP:∀(ns:List (Str×NameKind)) (cs:List (Str×Addr)) (y:Str×Addr),y∈cs->y∈il env ns cs
 |[],_,_,h=>h
 |(n,k)::r,cs,y,h=>by
  refine rP r _ y ?_
  split
  ·exact aR _ h
  ·exact h
theorem rQ{env:Env}:∀(ns:List (Str×NameKind)) (cs:List (Str×Addr)) (x:Str),(x,NameKind.free)∈ns->∃c,(x,c)∈il env ns cs
 |[],_,_,h=>by simp at h
 |(n,k)::r,cs,x,h=>by
  rcases a_.mp h with e|h
  ·obtain⟨e1,e2⟩:=Prod.mk.inj e
   subst e1;subst e2
   exact⟨_,rP r _ (x,_) (by rw[aw (by rfl:(NameKind.free==NameKind.free)=true)];exact bW)⟩
  ·exact rQ r _ x h
theorem rR:∀{l:List (Str×β)} {x:Str} {b:β},(x,b)∈l->∃c,l.lookup x=some c
 |(y,c)::r,x,b,h=>by
  rw[i5]
  cases hx:x==y with
  |true=>exact⟨c,rfl⟩
  |false=>
   rcases a_.mp h with e|h
   ·cases e;simp at hx
   ·exact rR h
theorem qd{env:Env}{g:Str×NameKind->Bool}:∀{names:List (Str×NameKind)} {x:Str},names.lookup x=some .free ->
  (names.map fun y=>if g y then(y.1,NameKind.cell)else y).lookup x=some .cell\/(names.map fun y=>if g y then(y.1,NameKind.cell)else y).lookup x=some .free
 |[],_,h=>by simp at h
 |(n,k)::r,x,h=>by
  rw[i5]at h
  rw[aN]
  have e1:∀y:Str×NameKind,(if g y then(y.1,NameKind.cell)else y).1=y.1:=fun y=>by split<;>rfl
  have e2:∀(y:Str×NameKind) (l:List (Str×NameKind)),(y::l).lookup x=if (x==y.1)=true then some y.2 else l.lookup x:=fun y l=>by
   obtain⟨a,b⟩:=y
   rw[i5]
   cases x==a<;>rfl
  rw[e2,e1]
  cases hx:x==n with
  |true=>
   rw[hx]at h
   cases h
   rw[aw rfl]
   by_cases hg:g (n,.free)=true
   ·rw[aw hg];exact .inl rfl
   ·rw[ay hg];exact .inr rfl
  |false=>
   rw[hx]at h
   rw[ay (by exact d9)]
   exact qd (env:=env) h
def yO(dn:List (Str×NameKind))(sn:List (Str×NameKind))(nm:List Str)(cap:List (Option Nat))(N:List Str):Bool:=
 (sn.all fun x=>!(x.2==.local)||sn.lookup x.1==some .local)&&(sn.all fun y=>!(y.2==.cell))&&(sn.all fun x=>!(x.2==.free)||dn.lookup x.1==some .cell)&&(cap.length==nm.length) &&
 ((List.range cap.length).all fun i=>match cap[i]? with
  |some (some j)=>(match nm[i]?,N[j]? with
   |some x,some y=>x==y&&dn.lookup x==some .cell&&sn.lookup x==some .free
   |_,_=>false)
  |_=>true)
structure Qs(X:Cx)(scope:Scope)(nm:List Str)(cap:List (Option Nat)):Prop where
 clos:closureFor scope X.env=pure (il X.env scope.names [])
 cl:∀x c,(il X.env scope.names []).lookup x=some c->X.env.cells.lookup x=some c
 nms:∀x∈scope.names,x.2=.local->scope.names.lookup x.1=some .local
 cell:∀y∈scope.names,y.2≠.cell
 has:∀x,((relabel scope X.env).names.lookup x=some .cell\/(relabel scope X.env).names.lookup x=some .free)->∃c,(il X.env scope.names []).lookup x=some c
 cp:∀(i j:Nat),cap[i]?=some (some j)->∃x,nm[i]?=some x/\X.N[j]?=some x/\rO X scope (il X.env scope.names []) x
 len:cap.length=nm.length
theorem Nd{nm:List Str}{cap:List (Option Nat)}(hf:∀x,X.env.scope.names.lookup x=some .cell->∃c,X.env.cells.lookup x=some c)(hB:yO X.env.scope.names scope.names nm cap X.N=true):Qs X scope nm cap:=by
 simp only[yO,cr,List.all_eq_true,mv,ku,d_,bZ]at hB
 obtain⟨⟨⟨⟨b1,b2⟩,b3⟩,b4⟩,b5⟩:=hB
 have has:∀x∈scope.names,x.2=.free->∃c,X.env.cells.lookup x.1=some c:=fun x hx hk=>by
  rcases b3 x hx with z|z
  ·exact absurd hk z
  ·exact hf _ z
 have rH:∀x c,(il X.env scope.names []).lookup x=some c->X.env.cells.lookup x=some c:=fun x c h=>uq scope.names [] has (by simp) (x,c) (ib h)
 have hin:∀x,(x,NameKind.free)∈scope.names->∃c,(il X.env scope.names []).lookup x=some c:=fun x h=>let ⟨_,q⟩:=rQ (env:=X.env) scope.names [] x h;rR q
 have hmap:(relabel scope X.env).names=scope.names.map fun y=>if (y.2==.free&&X.env.scope.kind==.function&&X.env.kindOf y.1==some .cell)then(y.1,NameKind.cell)else y:=by
  show scope.names.map _=_
  refine bC fun y _=>?_
  obtain⟨a,b⟩:=y
  rfl
 have fr:∀x,((relabel scope X.env).names.lookup x=some .cell\/(relabel scope X.env).names.lookup x=some .free)->(x,NameKind.free)∈scope.names:=fun x h=>by
  have h':∃k,(x,k)∈(relabel scope X.env).names/\(k=.cell\/k=.free):=by
   rcases h with h|h
   ·exact⟨_,ib h,.inl rfl⟩
   ·exact⟨_,ib h,.inr rfl⟩
  obtain⟨k,hm,hk⟩:=h'
  rw[hmap]at hm
  obtain⟨y,hy,e⟩:=bH.mp hm
  obtain⟨a,b⟩:=y
  by_cases hb:b=.free
  ·subst hb
   have:a=x:=by split at e<;>(cases e;rfl)
   subst this;exact hy
  ·rw[ay (by simp[hb])]at e
   cases e
   rcases hk with rfl|rfl
   ·exact absurd rfl (b2 _ hy)
   ·exact absurd rfl hb
 refine⟨Nc has,rH,fun x hx hk=>(b1 x hx).resolve_left fun z=>z hk,fun y hy=>b2 y hy,fun x hx=>hin x (fr x hx),fun i j e=>?_,b4⟩
 have hi':i<cap.length:=(ah.mp e).1
 have q:=b5 i (bh.mpr hi')
 rw[e]at q
 dsimp only at q
 cases hx:nm[i]? with
 |none=>rw[hx]at q;simp at q
 |some x=>
  cases hy:X.N[j]? with
  |none=>rw[hx,hy]at q;simp at q
  |some y=>
   rw[hx,hy]at q
   simp only[cr,d_]at q
   obtain⟨⟨rfl,q1⟩,q2⟩:=q
   refine⟨x,rfl,rfl,.inr (.inl q1),(by rw[q1];decide),?_,?_⟩
   ·obtain⟨c,hc⟩:=hin x (ib q2)
    rw[hc,rH _ _ hc]
   ·rw[hmap];exact qd (env:=X.env) q2
theorem Cv{pos:Pos}{wi:TI}{g:TG}{tc:TT}(ig:X.calm=true)
  (lT:X.env.cells=cellsFrom m X.env.scope.names []) (ii:scope.kind=.function) (hB:yO X.env.scope.names scope.names nm cap X.N=true)
  (hi:QI X tg cx wi) (hg:∀cl C s0 H0 fp,QG (cw X nm scope cl C s0 H0 fp) tg g) (ht:∀cl C s0 H0 fp,Qr (cw X nm scope cl C s0 H0 fp) kq tc)
  (he:∀cl C s0 H0 fp,QE (cw X nm scope cl C s0 H0 fp) m7 te) (hs:∀x,foldedSetIterable cx X.env x=pure x:=by intro _;rfl) :
  QE X (.ListComp m7 [⟨tg,cx,kq,0⟩] scope pos) (qc cap wi g tc te):=by
 have F:=Nd (nm:=nm) (cap:=cap) (fun x z=>by rw[lT];exact kL z) hB
 exact⟨F4 ig F.clos F.cl ii F.nms F.cell F.has F.cp F.len hi.h (fun C s0 H0 fp=>(hg _ C s0 H0 fp).h) (fun C s0 H0 fp=>(ht _ C s0 H0 fp).h) (fun C s0 H0 fp=>(he _ C s0 H0 fp).h) hs⟩
def Ga(K:Frag):List V->Hp->VK->Prop:=fun xs H Q=>∃(p:Addr) (ys:List (List Nat)),xs=[.ref p]/\jr K H p (ys.map fun l=>V.str (tx l))/\ys.length<64 /\
 ∀zs:List (List Nat),zs.Perm ys->sortedS (zs.map tx)=true->∀l H2,H l=none->H2=da H l (.lst (zs.map fun l=>V.str (tx l)))->Q (.ref l) H2
theorem Aa(z:Str):tx z.cps.toList=z:=by cases z;rfl
theorem tV:Hw X (.builtin "sorted") (Ga X.K):=⟨by
 intro ac s σ H xs us Q I r h
 obtain⟨p,ys,rfl,hS,h64,q⟩:=h
 obtain⟨u,rfl,ru⟩:=oo r
 cases ru
 obtain⟨bd,rv,pl,hz⟩:=I.list hS
 have hl:=rv.length
 rw[aq]at hl
 refine sorted_strs (ss:=ys.map tx) pl.isList (nS (by simpa using rv)) (by omega) fun out ss' h1 h2 h3=>?_
 obtain⟨ep,hat⟩:=sortedAll_at s.heap bd out
 have rG:H (s.heap.objs.size+1)=none:=I.hok.fresh (e_ _)
 have hmap:(ss'.map fun z=>z.cps.toList).map tx=ss':=by
  rw[bD]
  have:(tx∘fun z:Str=>z.cps.toList)=id:=funext fun z=>Aa z
  rw[this,m9]
 have hperm:(ss'.map fun z=>z.cps.toList).Perm ys:=by
  have e:=h2.map fun z:Str=>z.cps.toList
  rw[bD]at e
  have:((fun z:Str=>z.cps.toList)∘tx)=id:=funext fun l=>by simp[tx]
  rw[this,m9]at e
  exact e
 have hvals:bE ((ss'.map fun z=>z.cps.toList).map fun l=>V.str (tx l)) out.toList:=by
  have e:=nT h1
  rw[<- hmap,bD]at e
  exact e
 refine⟨.ref (s.heap.objs.size+1),_,I.laid (t':=s.toks) (fun b o e=>sortedAll_old e) (e_ _) ?_,rfl,q _ hperm (by rw[hmap];exact h3) _ _ rG rfl⟩
 refine⟨?_,out.toList,ep,hvals,hat⟩
 rw[aq,hperm.length_eq]
 exact aQ (iD h64) (by decide)⟩
theorem bb.turned2{t':Nat}{e:Addr}(I:bb X ac σ H s)(k:∀b o,b≠e->b≠it->s.heap.get? b=some o->h'.get? b=some o)
  (he:∃o,h'.get? e=some o) (f1:nP X ac H e) (f2:nP X ac H it):bb X ac σ H { s with heap:=h',toks:=t' }:=by
 have nit:∀b u,H b=some u->b≠e/\b≠it:=fun b u q=>⟨fun z=>(by rw[z,f1.1]at q;cases q),fun z=>(by rw[z,f2.1]at q;cases q)⟩
 have nin:∀b,b∉[e,it]->b≠e/\b≠it:=fun b h=>⟨fun z=>h (by simp[z]),fun z=>h (by simp[z])⟩
 refine I.step (g':=s.gens) (d':=s.drawn) (ch:=[e,it]) (fun b hb=>?_) (fun b o _ _ hc q _=>k b o (nin b hc).1 (nin b hc).2 q) (fun b o _ _ hc q _=>⟨o.slots,k b o (nin b hc).1 (nin b hc).2 q⟩) (fun _ _ _ _ n=>n)
  (fun b o hc q=>⟨o,k b o (nin b hc).1 (nin b hc).2 q⟩) (fun _ _ q=>q) (fun _ _ _ q=>q) (fun b ps q=>⟨#[],by rw[q];simp⟩) (fun m hm=>?_) (fun b u q=>?_) I.bare
 ·have z:b=e\/b=it:=by simpa using hb
  rcases z with rfl|rfl
  ·exact⟨f1.2.2.2.1,f1.2.1,f1.2.2.2.2.1,f1.2.2.2.2.2⟩
  ·exact⟨f2.2.2.2.1,f2.2.1,f2.2.2.2.2.1,f2.2.2.2.2.2⟩
 ·obtain⟨o,es,ep,ho,r⟩:=hm
  exact⟨o,es,ep,k _ o (Ne.symm f1.2.1) (Ne.symm f2.2.1) ho,r⟩
 ·refine(I.hok b u q).stay (fun c v hc z=>?_) (fun _ z=>z) fun _ _ z=>z
  rcases hc with y|y
  ·rw[y]at z ⊢;exact k b v (nit b u q).1 (nit b u q).2 z
  ·exact k c v (nit c _ y).1 (nit c _ y).2 z
section
variable{w:World}
theorem gP{t:Addr}{x:Value}(st:s.heap.IsTupleIter it t i)(ht:s.heap.IsTuple t bd)(hx:bd[i]?=some x)
  (q:∀g,g.IsTupleIter it t (i+1)->Heap.SameBut it s.heap g->Q x { s with heap:=g }):wpAny (model prog w) A (Builtin.SmallTypes.nextOf (.ref it)) Q E s:=by
 obtain⟨ob,e1,e2,e3⟩:=id st
 obtain⟨ot,g1,_,nt,g3⟩:=ht
 have T:=st.typeIs
 unfold Builtin.SmallTypes.nextOf
 refine aa (bf (name:=Str.ofString "__next__") T ee (bp ee T jB ?_ (jm _)))
 show wpAny _ _ (field (.ref it) 0 >>= _) _ _ s
 refine aa (aY e1 e3 (x:=.ref t) rfl ?_)
 dsimp only
 rw[ay (show ¬ ((Value.ref t==Value.none)=true)from d9)]
 refine aa (aY e1 e3 (x:=.int i 0) rfl ?_)
 dsimp only
 refine aa (bG g1 g3 ?_)
 simp only[bj,hx]
 refine aa (iF e1 e3 (by simp) (ar ⟨x,rfl,ar (q _ ?_ (gO ..))⟩))
 exact⟨_,eJ _ e1 (iS (eh e3 _)),(Obj.cls_mapFields ..).trans e2,by rw[eh e3];simp[rawInt]⟩
theorem im{t:Addr}(hh:A.handled=none)(st:s.heap.IsTupleIter it t i)(ht:s.heap.IsTuple t bd)(hx:bd[i]?=none)
  (q:∀g e,Heap.ExtBut it s.heap g->(∃o,g.get? e=some o/\o.cls=.type "StopIteration")->E (.ref e) { s with heap:=g }):wpAny (model prog w) A (Builtin.SmallTypes.nextOf (.ref it)) Q E s:=by
 obtain⟨ob,e1,e2,e3⟩:=id st
 obtain⟨ot,g1,_,nt,g3⟩:=ht
 have T:=st.typeIs
 unfold Builtin.SmallTypes.nextOf
 refine aa (bf (name:=Str.ofString "__next__") T ee (bp ee T jB ?_ (jm _)))
 show wpAny _ _ (field (.ref it) 0 >>= _) _ _ s
 refine aa (aY e1 e3 (x:=.ref t) rfl ?_)
 dsimp only
 rw[ay (show ¬ ((Value.ref t==Value.none)=true)from d9)]
 refine aa (aY e1 e3 (x:=.int i 0) rfl ?_)
 dsimp only
 refine aa (bG g1 g3 ?_)
 simp only[bj,hx]
 refine aa (gp (aa (iF e1 e3 (by simp) (aa ?_))))
 simp only[newExc,newTuple]
 refine aa (b8 (aa (m:=firstArgMember _ _) (gq (a:=Value.none) (by first|rfl|(simp only[firstArgMember];rfl)) (b8 ?_ (by size_fits)))) (by size_fits))
 simp only[raiseNew]
 refine aa (wpAny_handled ?_)
 rw[show A.in1.handled=none from hh]
 exact aa (ar (wpAny_throw (q _ _ (((gO ..).extBut.push _).push _) ⟨_,ao _ rfl,rfl⟩)))
end
theorem Cw{w:World}{A:Around}(hh:A.handled=none)(it t:Addr)(uZ:t≠it)(bd:Array Value) :
  Draws prog w A it [it,t] bd.size (fun i v=>bd[i]?=some v) (fun i h=>h.IsTupleIter it t i/\h.IsTuple t bd) where
 live:=fun _ _ st=>let ⟨o,e,_⟩:=st.1;⟨o,e⟩
 frame:=fun _ h h' st k=>⟨st.1.at fun o e=>k it (by simp) o e,let ⟨o,e,r⟩:=st.2;⟨o,k t (by simp) o e,r⟩⟩
 item:=fun i s Q E hi st q=>gP st.1 st.2 (x:=bd[i]) (by simp[hi]) fun g a b=>q _ g s.toks (by simp[hi]) ⟨a,st.2.extBut b.extBut uZ⟩ b
 done:=fun s Q E st q=>im hh st.1 st.2 (by simp) q
open AutoSeq1 (wpAny_loadPart')
def Rt(K:Frag)(a:Addr):It:=
 ⟨fun i H=>∃xs x,dW K H a xs/\xs[i]?=some x,fun i H v H'=>∃p,H p=none/\v=.ref p/\∀xs x,dW K H a xs->xs[i]?=some x->H'=da H p (.tup [.int i,x]),fun i H=>∃xs,dW K H a xs/\xs.length<=i⟩
theorem Bg{w:World}(a it e:Addr)(L4:e≠it) :
  rK P w K (.Tuple gw kk pos) (Rt K a) [e,it] e (fun i h=>(∃old,IsEnum h e it i old)/\h.IsTupleIter it a i) where
 mem:=by simp
 obj:=fun i h st b hb=>by
  have z:b=e\/b=it:=by simpa using hb
  rcases z with rfl|rfl
  ·obtain⟨old,q⟩:=st.1
   exact⟨_,q,fun v z=>by cases z⟩
  ·obtain⟨o,q,c,d⟩:=st.2
   exact⟨o,q,fun v z=>by rw[d]at z;cases z⟩
 keep:=fun i h h' st k=>⟨let ⟨old,q⟩:=st.1;⟨old,k e (by simp) _ q⟩,st.2.at fun o q=>k it (by simp) o q⟩
 item:=by
  intro X hP hw hK hc i ac s σ H E I hf st hg
  subst hP hw hK
  obtain⟨xs,x,hq,hx⟩:=hg
  obtain⟨bd,rv,p,hz⟩:=I.tuple hq
  obtain⟨u,hu,ru⟩:=rv.get hx
  obtain⟨⟨old,he⟩,qS⟩:=st
  have hT:s.heap.IsTuple a bd.toArray:=p
  obtain⟨oa,ha,hca,_⟩:=id hT
  obtain⟨oi,hi,hci,_⟩:=id qS
  have nai:a≠it:=fun z=>by
   rw[z,hi]at ha;cases ha
   rw[hci]at hca;injection hca with z;exact absurd z (by decide)
  have nae:a≠e:=fun z=>by
   rw[z,he]at ha;cases ha
   injection hca with z;exact absurd z (by decide)
  have hlt:i<bd.toArray.size:=by
   have:=(ah.mp hu).1
   simpa using this
  refine li (Cw (A:=X.A.in1) (I.ok.hd hc) it a nai bd.toArray) he ⟨qS,hT⟩ hlt L4 (by simp[L4,Ne.symm nae]) fun x' g tk hx' ho' br htup hsz hk=>⟨_,rfl,?_⟩
  have ex:x'=u:=by
   have e1:bd[i]?=some x':=by simpa using hx'
   rw[hu]at e1;exact(aL e1).symm
  subst ex
  refine jQ ho' fun g2 Pi rJ=>?_
  have rG:H s.heap.objs.size=none:=I.hok.fresh (av _)
  have I1:bb X ac σ (da H s.heap.objs.size (.tup [.int i,x])) { s with heap:=s.heap.push { cls:=.type "tuple",data:=.seq #[.int i tk,x'] },toks:=tk+1 }:=I.laid (fun b o q=>ai _ q) (av _)
   ⟨by show 2<=sizeLine;decide,[.int i tk,x'],.cons ⟨tk,rfl⟩ (.cons ru .nil),⟨_,ao _ rfl,rfl,_,rfl⟩⟩
  have nf:∀b∈[e,it],b≠s.heap.objs.size:=fun b hb=>by
   have z:b=e\/b=it:=by simpa using hb
   rcases z with rfl|rfl
   ·exact aT (az he)
   ·exact aT (az hi)
  have fp:∀b∈[e,it],nP X ac (da H s.heap.objs.size (.tup [.int i,x])) b:=fun b hb=>by
   obtain⟨f0,f⟩:=hf b hb
   exact⟨by rw[bF (nf b hb)];exact f0,f⟩
  have he2':IsEnum g2 e it ((i:Int)+1) x':=Pi
  have I2:bb X ac σ (da H s.heap.objs.size (.tup [.int i,x])) { s with heap:=g2,toks:=tk+1 }:=I1.turned2 (t':=tk+1) (fun b o hbe hbi q=>?_) ⟨_,he2'⟩ (fp e (by simp)) (fp it (by simp))
  ·refine⟨.ref s.heap.objs.size,_,I2,rfl,⟨_,rG,rfl,fun ys y hy hy'=>?_⟩,⟨⟨x',by simpa using he2'⟩,br.1.extBut rJ.extBut (Ne.symm L4)⟩,fun b hb=>(fp b hb).1⟩
   have e1:=I.tuple_inj hy hq
   subst e1
   rw[hx]at hy';cases hy';rfl
  ·have q':(s.heap.push { cls:=.type "tuple",data:=.seq #[.int i tk,x'] }).get? b=some o:=q
   refine rJ.extBut b o hbe ?_
   by_cases hb:b=s.heap.objs.size
   ·subst hb
    have e1:=ao s.heap (o:={ cls:=.type "tuple",data:=.seq #[.int i tk,x'] }) rfl
    rw[e1]at q';cases q'
    exact htup
   ·rw[fj _ _ _ hb]at q'
    exact hk b o hbe hbi q'
 done:=by
  intro X hP hw hK hc i ac s σ H E I hf st hg
  subst hP hw hK
  obtain⟨xs,hq,hx⟩:=hg
  obtain⟨bd,rv,p,hz⟩:=I.tuple hq
  obtain⟨⟨old,he⟩,qS⟩:=st
  have hT:s.heap.IsTuple a bd.toArray:=p
  have hl:=rv.length
  have hT':Shared.TypeIs s (.ref e) "enumerate":=⟨_,he,rfl⟩
  unfold pyNext
  refine aa (dR (bf (name:=Str.ofString "__next__") hT' ga (bp ga hT' lZ ?_ (lj _))))
  show wpAny _ _ (field (.ref e) 2 >>= _) _ _ _
  refine aa (aY he rfl (x:=.ref it) rfl (aa (im (show X.A.in1.handled=none from I.ok.hd hc) qS hT (by simp;omega) fun g y hx' hy=>?_)))
  obtain⟨o,ho,rH⟩:=hy
  refine aa (cI (T:="StopIteration") (b:=true) ⟨o,ho,rH⟩ iG (ar ⟨rfl,?_⟩))
  obtain⟨f0,f1,f2,f3,f4,f5⟩:=hf it (by simp)
  exact I.turned (t':=s.toks) (fun b o hb q=>hx' b o hb q) f0 f1 f3 f4 f5
 self:=fun A i s Q E st h=>let ⟨_,q⟩:=st.1;iH q h
open AutoSeq1 (wpAny_loadPart')
abbrev jt(t:Addr):Obj:={ cls:=.type "tuple_iterator",data:=.fields #[.ref t,.int 0 0] }
abbrev pK(it:Addr):Obj:={ cls:=.type "enumerate",data:=.fields #[.none,.bool false,.ref it,rawInt 0,.none,.none] }
theorem JZ(t:Addr)(bd:Array Value)(n:Nat)(dc:Option Addr)(sl:Array (Option Value)) :
  Meets (Builtin.«enumerate.__new__» ⟨[.type "enumerate",.ref t],[]⟩) (fun _ R s=>s.heap.get? t=some { cls:=.type "tuple",dict:=dc,data:=.seq bd n,slots:=sl } /\
   R (.ok (.ret (.ref (s.heap.push (jt t)).objs.size))) { s with heap:=(s.heap.push (jt t)).push (pK s.heap.objs.size) }):=
 .of_wp fun prog w A R s h=>by
  obtain⟨hp,g,d,tk,os⟩:=s
  obtain⟨ht,h⟩:=h
  have sb:=sub_enumerate
  have hT:Heap.IsTuple (Shared.heap ⟨hp,g,d,tk,os⟩) t bd:=⟨_,ht,rfl,n,rfl⟩
  wp_walk using bg ht
  refine wpAny_stack_any fun st=>ar ?_
  split
  ·rename_i c _ _ _ _ _
   cases(c==Value.type "enumerate")<;>(wp_walk using bg ht,d8 hT;exact⟨_,rfl,h⟩)
  ·wp_walk using bg ht,d8 hT
   exact⟨_,rfl,h⟩
section
variable{w:World}
theorem tX{t:Addr}(hT:s.heap.IsTuple t bd)
  (q:∀g,IsEnum g (s.heap.objs.size+1) s.heap.objs.size 0 .none->g.IsTupleIter s.heap.objs.size t 0->(∀b o,s.heap.get? b=some o->g.get? b=some o)->Q (.ref (s.heap.objs.size+1)) { s with heap:=g }) :
  wpAny (model prog w) A (call (.type "enumerate") [.ref t]) Q E s:=by
 obtain⟨⟨c,dc,dt,sl⟩,ht,hc,n,hd⟩:=hT
 obtain rfl:c=.type "tuple":=hc
 obtain rfl:dt=.seq bd n:=hd
 refine jC F.called_enumerate (by decide) (l6 _) (mJ _) (fun ob=>F.args_object_init_2 ob _) mK (JZ t bd n dc sl) ⟨ht,?_⟩
 have z:(s.heap.push (jt t)).objs.size=s.heap.objs.size+1:=bt ..
 show _/\_
 rw[z]
 have e1:IsEnum ((s.heap.push (jt t)).push (pK s.heap.objs.size)) (s.heap.objs.size+1) s.heap.objs.size 0 .none:=by
  have y:=ao (s.heap.push (jt t)) (o:=pK s.heap.objs.size) rfl
  rw[z]at y;exact y
 exact⟨⟨_,e1,rfl⟩,q _ e1 ⟨_,ai _ (ao _ rfl),rfl,rfl⟩ fun b o y=>ai _ (ai _ y)⟩
end
section
def Qt(K:Frag)(ta:TA):TI:=fun σ H R=>ta σ H fun vs H1=>∃a,vs=[.ref a]/\(∃xs,dW K H1 a xs)/\R (Rt K a) H1
theorem Cy{a:Expr}{p pos tp:Pos}{gw:List Expr}{kk:Nat}(hm:X.mg "enumerate"=none)(ha:QA X [a] ta)(hg:Gl X "enumerate":=by rfl)(hs:starEach [a] X.env=[(false,eval a X.env)]:=by rfl) :
  QI X (.Tuple gw kk tp) (.Call (.Name "enumerate" p) [a] [] pos) (Qt X.K ta):=⟨by
 intro ac s σ H R I h
 refine Call_ (jG I hg hm m_ (bv (fU (ha.h pos ac s σ H _ I h) fun us s1 ⟨vs,H1,I1,r1,q1⟩=>?_) hs rfl))
 obtain⟨t,e,⟨xs,hq⟩,q⟩:=q1
 subst e
 obtain⟨u,rfl,ru⟩:=oo r1
 cases ru
 obtain⟨bd,rv,pt,hz⟩:=I1.tuple hq
 refine tX (show s1.heap.IsTuple t bd.toArray from pt) fun g e1 e2 kp=>?_
 refine iH e1 ?_
 refine⟨s1.heap.objs.size+1,[s1.heap.objs.size+1,s1.heap.objs.size],_,_,H1,rfl,I1.kept (t':=s1.toks) kp,Bg t _ _ (Nat.succ_ne_self _),⟨⟨_,e1⟩,e2⟩,fun b hb=>?_,q⟩
 have z:b=s1.heap.objs.size+1\/b=s1.heap.objs.size:=by simpa using hb
 rcases z with rfl|rfl
 ·exact I1.fpOk (e_ _) (I1.hok.fresh (e_ _))
 ·exact I1.fpOk (av _) (I1.hok.fresh (av _))⟩
end
section
variable{g:TG}{tc:TT}{H1:Hp}{Q:VK}
end
def Qu(w:World):Bool:=w.params.followText "set-order"
def Nf(w:World)(n:Nat)(t:SetTable):Prop:=(Qu w=true\/t.led=true)/\(n=0\/t.plain=false)
section
variable{w:World}
def J0(prog:Program)(w:World)(h:Heap)(a:Addr)(ks:List Str):Prop:=
 ∃o es ep t,h.get? a=some o/\o.ExactSet/\o.data=.set es ep t/\ElemsOf (PySem.strKind prog w) es.toList/\(es.toList.map fun e=>strOf e.2).Perm ks/\es.size<scanBound/\t.fits es.size=true/\Nf w es.size t
theorem J0.keep{h:Heap}{ks:List Str}(z:J0 prog w h a ks)(k:∀o,h.get? a=some o->h'.get? a=some o):J0 prog w h' a ks:=let ⟨o,es,ep,t,ho,r⟩:=z;⟨o,es,ep,t,k o ho,r⟩
end
section
variable{w:World}{R:Result->Shared->Prop}{I:Addr}{wr:List Addr}{P:Nat->Value->Prop}{St:Nat->Heap->Prop}
end
section
variable{w:World}
end
section
end
section
variable{w:World}
structure Cz(w:World)(h:Heap)(S:Addr)(es:Array (Int×Value))(ep:Nat)(t:SetTable):Prop where
 ex:∃o,h.get? S=some o/\o.ExactSet/\o.data=.set es ep t
 fits:t.fits es.size=true
theorem Cz.keep{h:Heap}{S:Addr}{es:Array (Int×Value)}{ep:Nat}{t:SetTable}(z:Cz w h S es ep t)(k:∀o,h.get? S=some o->h'.get? S=some o):Cz w h' S es ep t:=⟨let ⟨o,ho,r⟩:=z.ex;⟨o,k o ho,r⟩,z.fits⟩
end
section
variable{w:World}
end
section
variable{w:World}
end
section
variable{w:World}
end
section
variable{w:World}
end
section
variable{w:World}
end
theorem bb.kept2{d':Drawn}(I:bb X ac σ H s)(k:∀b o,s.heap.get? b=some o->h'.get? b=some o):bb X ac σ H { s with heap:=h',drawn:=d',toks:=t' }:=
 I.step (g':=s.gens) (ch:=[]) (fun _ z=>nomatch z) (fun b o _ _ _ e _=>k b o e) (fun b o _ _ _ e _=>⟨o.slots,k b o e⟩) (fun _ _ _ _ n=>n) (fun b o _ e=>⟨o,k b o e⟩) (fun _ _ e=>e) (fun _ _ _ e=>e) (fun b ps e=>⟨#[],by rw[e];simp⟩)
  (fun m hm=>let ⟨o,es,ep,ho,r⟩:=hm;⟨o,es,ep,k _ o ho,r⟩) (I.hok.kept k) I.bare
theorem jd:Slot "reversed" "__next__" "reversed.__next__":=.of (owner:="reversed") (n:="__next__") (by rw[jn,gb];kernel_rfl) (by decide +kernel) (by decide +kernel) (by decide +kernel) (by first|exact .inl (by decide +kernel)|exact .inr (by decide +kernel)) (by rw[jR];kernel_rfl)
theorem qe:Slot "reversed" "__iter__" "reversed.__iter__":=.of (owner:="reversed") (n:="__iter__") (by rw[jn,gb];kernel_rfl) (by decide +kernel) (by decide +kernel) (by decide +kernel) (by first|exact .inl (by decide +kernel)|exact .inr (by decide +kernel)) (by rw[jR];kernel_rfl)
theorem wR:Slot "reversed" "__init__" "object.__init__":=.of (owner:="object") (n:="__init__") (by rw[jn,gb];kernel_rfl) (by decide +kernel) (by decide +kernel) (by decide +kernel) (by first|exact .inl (by decide +kernel)|exact .inr (by decide +kernel)) (by rw[jR];kernel_rfl)
theorem qf:entryFor table "reversed.__next__"=some Builtin.«reversed.__next__»:=entryFor_of_tree (by kernel_rfl)
theorem wS:entryFor table "reversed.__iter__"=some Builtin.«dict_keyiterator.__iter__»:=entryFor_alias (id':="dict_keyiterator.__iter__") (by kernel_rfl) (by first|rfl|decide +kernel|(unfold String.splitOn;simp +decide [String.splitOnAux])) (by decide +kernel) (by kernel_rfl)
theorem qg(a:Value):argsOk "reversed.__next__" ⟨[a],[]⟩:=by unfold argsOk;kernel_rfl
theorem wT(a:Value):argsOk "reversed.__iter__" ⟨[a],[]⟩:=by unfold argsOk;kernel_rfl
theorem yP:TypeCalled "reversed" "reversed.__new__" "object.__init__":=⟨by decide +kernel,PySem.F.create_reversed,⟨_,_,PySem.F.mro_reversed⟩,PySem.F.made_reversed,PySem.F.plain_reversed_new,PySem.F.sub_reversed_self,wR⟩
theorem yQ:typeLookup (.type "str") "__reversed__"=pure none:=by rw[jn,gb];kernel_rfl
abbrev Hy(x:Str)(t:Tok)(i:Int):Obj:={ cls:=.type "reversed",data:=.fields #[.str x t,rawInt i] }
def jI(h:Heap)(it:Addr)(x:Str)(t:Tok)(i:Int):Prop:=∃o,h.get? it=some o/\o.cls=.type "reversed"/\o.data=.fields #[.str x t,rawInt i]
theorem Gb(x:Str)(t:Tok)(hx:¬ (x.length:Int)≥2^63) :
  Meets (Builtin.«reversed.__new__» ⟨[.type "reversed",.str x t],[]⟩) (fun _ R s=>∀tk,R (.ok (.ret (.ref s.heap.objs.size))) { s with heap:=s.heap.push (Hy x t ((x.length:Int)-1)),toks:=tk }):=
 .of_wp fun prog w A R s h=>by
  unfold Builtin.«reversed.__new__»
  refine aa (gq (newClass_reversed _) ?_)
  try dsimp only
  refine aa (gq (a:=()) (by first|rfl|kernel_rfl) (aa (gq (a:=()) (by first|rfl|kernel_rfl) ?_)))
  try dsimp only
  refine aa (eQ (i4 _ _ _) yQ ?_)
  show wpAny _ _ (_ >>= _) _ _ _
  refine aa ?_
  wp_delta
  refine aa (cI (T:="str") (b:=false) (i4 _ _ _) (by rw[jR];kernel_rfl) ?_)
  try dsimp only
  try rw[ay d9]
  refine aa (eQ (i4 _ _ _) PySem.F.slot_str_getitem.lookup ?_)
  try dsimp only
  rw[aw (by decide +kernel)]
  refine ar ?_
  rw[ay (by decide)]
  refine aa (len_str hx (aa (gq (a:=some (x.length:Int)) rfl ?_)))
  try dsimp only
  unfold Builtin.SmallTypes.newRecord
  try dsimp only
  exact aa (b8 (ar ⟨_,rfl,h _⟩))
theorem jI.typeIs{t:Tok}{i:Int}(z:jI s.heap a x t i):s.TypeIs (.ref a) "reversed":=let ⟨o,ho,hc,_⟩:=z;⟨o,ho,hc⟩
theorem jI.keep{h:Heap}{t:Tok}{i:Int}(z:jI h a x t i)(e:∀o,h.get? a=some o->h'.get? a=some o):jI h' a x t i:=let ⟨o,ho,r⟩:=z;⟨o,e _ ho,r⟩
section
variable{w:World}
theorem CA{t:Tok}(hx:¬ (x.length:Int)≥2^63)(q:∀tk,Q (.ref s.heap.objs.size) { s with heap:=s.heap.push (Hy x t ((x.length:Int)-1)),toks:=tk }) :
  wpAny (model prog w) A (call (.type "reversed") [.str x t]) Q E s:=by
 refine jC yP (by decide) (PySem.F.typeCall_reversed_1 _) (PySem.F.newCall_reversed_1 _) (fun ob=>PySem.F.args_object_init_2 ob _) PySem.F.entry_reversed_new (Gb x t hx) fun tk=>?_
 exact⟨⟨_,ao _ rfl,rfl⟩,q tk⟩
theorem CB{t:Tok}{c:Nat}{Q:Option Value->Shared->Prop}(qS:jI s.heap it x t (i:Int))(hc:x.cps[i]?=some c)(hi:(i:Int)<2^63)
  (q:∀g tk u,jI g it x t ((i:Int)-1)->Heap.SameBut it s.heap g->Q (some (.str ⟨#[c]⟩ u)) { s with heap:=g,toks:=tk }):wpAny (model prog w) A (pyNext (.ref it)) Q E s:=by
 obtain⟨o,ho,rH,hd⟩:=id qS
 have T:=qS.typeIs
 unfold pyNext
 refine aa (dR (bf (name:=Str.ofString "__next__") T jd (bp jd T qf ?_ (qg _))))
 unfold Builtin.«reversed.__next__»
 refine aa (gq (a:=(Value.ref it,[])) rfl ?_)
 try dsimp only
 refine aa (aY ho hd (x:=.str x t) rfl (aa (aY ho hd (x:=rawInt (i:Int)) rfl ?_)))
 show wpAny _ _ (if (i:Int)<0 then _ else _) _ _ s
 rw[ay (by omega)]
 refine aa (eQ (i4 _ _ _) PySem.F.slot_str_getitem.lookup ?_)
 rw[ay (by simp)]
 have hlt:i<x.cps.size:=(jS.mp hc).1
 refine aa (wpAny_mkInt (aa (dR (getItem_str (c:=c) (by simp;omega) ?_ ?_))))
 ·rw[show seqIndex? (i:Int) x.length=some i from by rw[PySem.StrLaws.seqIndex_nonneg (by omega) (by have:x.length=x.cps.size:=rfl;omega)];simp]
  exact hc
 try dsimp only
 refine aa (aY ho hd (x:=rawInt (i:Int)) rfl ?_)
 show wpAny _ _ (setField (.ref it) 1 (rawInt ((i:Int)-1)) >>= fun _=>ret _) _ _ _
 refine aa (iF ho hd (by simp) (ar ⟨_,rfl,ar (q _ _ _ ?_ (gO ..))⟩))
 exact⟨_,eJ _ ho (iS (eh hd _)),(Obj.cls_mapFields ..).trans rH,by rw[eh hd];simp⟩
theorem Gd{t:Tok}{Q:Option Value->Shared->Prop}(hh:A.handled=none)(qS:jI s.heap it x t (-1))(q:∀g,(∀b o,b≠it->s.heap.get? b=some o->g.get? b=some o)->Q none { s with heap:=g }):wpAny (model prog w) A (pyNext (.ref it)) Q E s:=by
 obtain⟨o,ho,rH,hd⟩:=id qS
 have T:=qS.typeIs
 unfold pyNext
 refine aa (dR (bf (name:=Str.ofString "__next__") T jd (bp jd T qf ?_ (qg _))))
 unfold Builtin.«reversed.__next__»
 refine aa (gq (a:=(Value.ref it,[])) rfl ?_)
 try dsimp only
 refine aa (aY ho hd (x:=.str x t) rfl (aa (aY ho hd (x:=rawInt (-1)) rfl ?_)))
 show wpAny _ _ (if (-1:Int)<0 then _ else _) _ _ s
 rw[aw (by decide)]
 refine aa (gp (aa ?_))
 wp_delta
 refine aa (iF ho hd (by simp) ?_)
 have ho2:=eJ (Obj.mapFields fun a=>a.set! 1 (rawInt (-1))) ho (iS (eh hd _))
 refine iF ho2 (eh hd _) (by simp) ?_
 refine aa ?_
 show wpAny _ _ (newExc (.type "StopIteration") [] >>= _) _ _ _
 refine aa ?_
 simp only[newExc,newTuple]
 refine aa (b8 (aa (m:=firstArgMember _ _) (gq (a:=Value.none) (by first|rfl|(simp only[firstArgMember];rfl)) (b8 ?_ (by size_fits)))) (by size_fits))
 simp only[raiseNew]
 refine aa (wpAny_handled ?_)
 rw[show A.in1.handled=none from hh]
 refine aa (ar (wpAny_throw ?_))
 refine aa (cI (T:="StopIteration") (b:=true) ⟨_,ao _ rfl,rfl⟩ iG ?_)
 refine ar (q _ fun b o hb e=>ai _ (ai _ ?_))
 exact(dO _ _ (Ne.symm hb)).trans ((dO _ _ (Ne.symm hb)).trans e)
theorem rS{x:Str}{t:Tok}{i:Int}(qS:jI s.heap it x t i)(q:Q (.ref it) s):wpAny (model prog w) A (pyIter (.ref it)) Q E s:=by
 have T:=qS.typeIs
 refine wpAny_pyIter_slot T qe (bp qe T wS ?_ (wT _))
 show wpAny _ _ (ret (.ref it)) _ _ s
 exact ar ⟨_,rfl,"reversed",_,T,jd.lookup,q⟩
end
theorem Bh{w:World}(hh:A.handled=none)(it:Addr)(x:Str)(t:Tok)(hx:(x.length:Int)<2^63) :
  Walks prog w A it [it] [it] x.length (fun i v=>∃c u,x.cps[x.length-1-i]?=some c/\v=.str ⟨#[c]⟩ u) (fun i h=>i<=x.length/\jI h it x t ((x.length:Int)-1-(i:Int))) where
 sub:=fun _ hb=>hb
 frame:=fun _ _ _ st hk=>⟨st.1,st.2.keep fun o e=>hk it (by simp) o e⟩
 item:=fun i s Q E hi st q=>by
  have e:(x.length:Int)-1-(i:Int)=((x.length-1-i:Nat):Int):=by omega
  have qS:=st.2
  rw[e]at qS
  have hlt:x.length-1-i<x.cps.size:=by have:x.length=x.cps.size:=rfl;omega
  have hc:x.cps[x.length-1-i]?=some (x.cps[x.length-1-i]'hlt):=Array.getElem?_eq_getElem hlt
  refine CB qS hc (by omega) fun g tk u hg sb=>?_
  have e2:((x.length-1-i:Nat):Int)-1=(x.length:Int)-1-((i+1:Nat):Int):=by omega
  rw[e2]at hg
  exact q _ g tk ⟨_,u,hc,rfl⟩ ⟨hi,hg⟩ fun b o hb eo=>sb.extBut b o (fun h=>hb (by simp[h])) eo
 done:=fun s Q E st q=>by
  have e:(x.length:Int)-1-(x.length:Int)=-1:=by omega
  have qS:=st.2
  rw[e]at qS
  exact Gd hh qS fun g kp=>q g s.toks fun b o hb eo=>kp b o (fun h=>hb (by simp[h])) eo
 self:=fun _ _ _ _ st q=>rS st.2 q
def Ng(ta:TA):TI:=fun σ H R=>ta σ H fun vs H1=>∃l,vs=[.str (tx l)]/\l.length<=1000000/\R (M4 (jH l.reverse)) H1
theorem Ge{tg a:Expr}{p pos:Pos}(hm:X.mg "reversed"=none)(ha:QA X [a] ta)(hg:Gl X "reversed":=by rfl)(hs:starEach [a] X.env=(false,eval a X.env)::starEach [] X.env:=by rfl) :
  QI X tg (.Call (.Name "reversed" p) [a] [] pos) (Ng ta):=⟨by
 intro ac s σ H R I h
 refine Call_ (jG I hg hm boot_reversed (bv (fU (ha.h pos ac s σ H _ I h) fun us s1 ⟨vs,H1,I1,r1,q1⟩=>?_) hs rfl))
 obtain⟨l,e,hl,q⟩:=q1
 subst e
 cases r1 with
 |cons x1 r1=>
  cases r1
  obtain⟨t,rfl⟩:=x1
  have hn:(tx l).length=(jH l.reverse).length:=by unfold jH;rw[hG];simp
  have hb:((tx l).length:Int)<2^63:=by rw[hG];omega
  refine CA (by omega) fun tk=>?_
  refine rS (x:=tx l) (t:=t) (i:=((tx l).length:Int)-1) ⟨_,ao _ rfl,rfl,rfl⟩ ?_
  refine⟨s1.heap.objs.size,[s1.heap.objs.size],_,_,H1,rfl,I1.kept (t':=tk) fun b o e=>ai _ e,nR (ty:="reversed") (S:=fun i h=>i<=(tx l).length/\jI h s1.heap.objs.size (tx l) t (((tx l).length:Int)-1-(i:Int))) (fun A hA=>by rw[<- hn];exact Bh hA _ (tx l) t hb) (fun k v hk hp=>?_) (fun k h st=>?_) (by decide) (fun A k s Q E st h=>rS st.2 h),⟨cG _,cG _,⟨_,ao _ rfl,rfl,?_⟩⟩,fun b hb=>?_,q⟩
  ·obtain⟨c,u,hc,rfl⟩:=hp
   refine⟨.str (tx [c]),?_,u,rfl⟩
   rw[<- hn]at hk
   rw[hG]at hc hk
   have hc':l[l.length-1-k]?=some c:=by simpa[tx]using hc
   unfold jH
   rw[af,eK hk,hc'];rfl
  ·obtain⟨_,o,e1,e2,e3⟩:=st
   exact⟨o,_,e1,e2,e3⟩
  ·simp
  ·have e:b=s1.heap.objs.size:=by simpa using hb
   subst e
   exact I1.fpOk (av _) I1.fresh⟩
theorem ur(a b:Int):Builtin.Range.rangeSize a b (-1)=((a-b).toNat:Int):=by
 unfold Builtin.Range.rangeSize
 rw[ay (by decide)]
 simp only[Int.neg_neg,Int.ediv_one]
 split<;>omega
theorem yR{a b:Int}(h1:-(2^60)<=a)(h2:a<2^60)(h3:-(2^60)<=b)(h4:b<2^60):Builtin.Range.small a b (-1)=true:=by
 unfold Builtin.Range.small
 rw[ur]
 simp only[Builtin.Range.rangeFitsLong,cr,mv,decide_eq_true_eq,d_,ay (show ¬ ((-1:Int)>0) by decide)]
 omega
def ut(i:Int)(n:Nat):List V:=(List.range n).map fun k:Nat=>V.int (i-k)
def Nh(ta:TA):TI:=fun σ H R=>ta σ H fun vs H1=>∃i j:Int,vs=[.int i,.int j,.int (-1)]/\(-(2^60)<=i/\i<2^60/\-(2^60)<=j/\j<2^60)/\R (M4 (ut i (i-j).toNat)) H1
theorem vh{tg a b:Expr}{p pos:Pos}(hm:X.mg "range"=none)(ha:QA X [a,b,c] ta)(hg:Gl X "range":=by rfl)(hs:starEach [a,b,c] X.env=(false,eval a X.env)::starEach [b,c] X.env:=by rfl)
  (rJ:(backTo pos (starEach [b,c] X.env)).any (·.1)=false:=by rfl):QI X tg (.Call (.Name "range" p) [a,b,c] [] pos) (Nh ta):=⟨by
 intro ac s σ H R I h
 refine Call_ (jG I hg hm boot_range (bv (fU (ha.h pos ac s σ H _ I h) fun us s1 ⟨vs,H1,I1,r1,q1⟩=>?_) hs rJ))
 obtain⟨i,j,e,⟨b1,b2,b3,b4⟩,q⟩:=q1
 subst e
 cases r1 with
 |cons x1 r1=>cases r1 with
  |cons x2 r1=>cases r1 with
   |cons x3 r1=>
    cases r1
    obtain⟨t1,rfl⟩:=x1
    obtain⟨t2,rfl⟩:=x2
    obtain⟨t3,rfl⟩:=x3
    refine call_range_3 (by decide) ?_ (Or.inl (lW (by omega)))
    refine wpAny_pyIter_range (IsRange.new ..) (yR b1 b2 b3 b4) ?_
    generalize hN:(i-j).toNat=n at q
    have hl:(ut i n).length=n:=by unfold ut;simp
    have I2:bb X ac σ H1 { s1 with heap:=s1.heap.push { cls:=.type "range",data:=.fields #[.int i t1,.int j t2,.int (-1) t3] },toks:=s1.toks }:=I1.kept fun b o e=>ai _ e
    refine⟨(s1.heap.push { cls:=.type "range",data:=.fields #[.int i t1,.int j t2,.int (-1) t3] }).objs.size,[(s1.heap.push { cls:=.type "range",data:=.fields #[.int i t1,.int j t2,.int (-1) t3] }).objs.size],_,_,H1,rfl,
     I2.kept (t':=s1.toks) fun b o e=>ai _ e,nR (ty:="range_iterator") (fun A hA=>by rw[hl];exact Walks.range hA _ i (-1) n) (fun k v hk hp=>?_) (fun k h st=>⟨_,_,st,rfl,rfl⟩) (by decide) (fun A k s Q E st h=>lU st h),⟨cG _,?_⟩,fun b hb=>?_,q⟩
    ·obtain⟨t,rfl⟩:=hp
     rw[hl]at hk
     refine⟨.int (i+k*(-1)),?_,t,rfl⟩
     unfold ut
     rw[af,aE hk]
     show some (V.int (i-k))=_
     congr 2;omega
    ·have e1:i+((0:Nat):Int)*(-1)=i:=by simp
     have e2:((n:Nat):Int)-((0:Nat):Int)=Builtin.Range.rangeSize i j (-1):=by rw[ur,hN];simp
     rw[e1,e2]
     exact ao _ rfl
    ·have e:b=(s1.heap.push { cls:=.type "range",data:=.fields #[.int i t1,.int j t2,.int (-1) t3] }).objs.size:=by simpa using hb
     subst e
     exact I2.fpOk (av _) (I2.hok.fresh (av _))⟩
section
variable{cl:List (Str×Addr)}{wi:TI}{g:TG}{tc:TT}
theorem yS{x0:Str}{p0 p1:Pos}{gx:TG}(OZ:PG X (.Name x0 p0) gx)(O1:swapsWith (.ListComp m7 [⟨tg,cx,kq,0⟩] scope pos) (some (.Name x0 p0)) p1.line X.env=pure true)(ig:X.calm=true)(tJ:closureFor scope X.env=pure cl)(rH:∀x c,cl.lookup x=some c->X.env.cells.lookup x=some c)
  (ii:scope.kind=.function) (on:∀x∈scope.names,x.2=.local->scope.names.lookup x.1=some .local) (gT:∀y∈scope.names,y.2≠.cell)
  (zI:∀x,((relabel scope X.env).names.lookup x=some .cell\/(relabel scope X.env).names.lookup x=some .free)->∃c,cl.lookup x=some c)
  (qT:∀(i j:Nat),cap[i]?=some (some j)->∃x,nm[i]?=some x/\X.N[j]?=some x/\rO X scope cl x) (cV:cap.length=nm.length)
  (hi:PI X tg cx wi) (hg:∀C s0 H0 fp,PG (cw X nm scope cl C s0 H0 fp) tg g) (ht:∀C s0 H0 fp,Ck (cw X nm scope cl C s0 H0 fp) kq tc)
  (he:∀C s0 H0 fp,PE (cw X nm scope cl C s0 H0 fp) m7 te) (hs:∀x,foldedSetIterable cx X.env x=pure x:=by intro _;rfl) :
  PS X (.Assign [.Name x0 p0] (.ListComp m7 [⟨tg,cx,kq,0⟩] scope pos) p1) (FJ (qc cap wi g tc te) gx):=by
 intro ac s σ H D I h
 rw[exec_Assign_Name_used _ _ _ _ O1]
 suffices main:wpAny (model X.prog X.w) X.A (comprehension (.ListComp m7 [⟨tg,cx,kq,0⟩] scope pos) scope X.env (firstIterPos [⟨tg,cx,kq,0⟩] pos) (newList []) (firstAsync [⟨tg,cx,kq,0⟩]) (firstIter [⟨tg,cx,kq,0⟩] X.env) (some (assign (.Name x0 p0) X.env))) (fun _ s'=>SP X ac D .next s') X.xe s from
  aa (nK (aa (aa (dE main (fun _ s' h=>ar (ar h)) fun _ _ z=>z))))
 refine uo ig tJ rH ii on gT zI qT cV hi hg ht he hs I h fun s4 C D m4 Hn I4 B q=>?_
 obtain⟨oC,es,ep,hoC,hdC,hrC⟩:=B.ns
 refine dE (OZ _ s4 σ _ (.ref D) (.ref D) _ (I4.pins_of (pins':=ac++[(C,oC)]) fun p hp=>?_) rfl q) (fun _ s5 h5=>?_) fun _ _ z=>z
 ·rcases cS.mp hp with z|z
  ·exact I4.pin p (aP _ z)
  ·have e:p=(C,oC):=by simpa using z
   subst e
   exact⟨hoC,B.fr,B.nl,B.nf,fun v z=>by rw[hdC]at z;cases z⟩
 obtain⟨σ',H',I6,nx⟩:=h5
 have pC:=I6.pin (C,oC) (aP _ (aP _ (fT.mpr rfl)))
 have I7:bb X ac σ' H' s5:=I6.pins_of fun p hp=>I6.pin p (aP _ (gn _ hp))
 have B7:wN X ac H' s5 C m4:=⟨⟨oC,es,ep,pC.1,hdC,hrC⟩,pC.2.1,B.nl,B.nf,B.hi,B.nc,B.np⟩
 exact⟨m4,B7.ns,fun h' hs'=>⟨σ',H',B7.off I7 hs',nx⟩⟩
end
theorem yT{x0:Str}{p0 p1:Pos}{gx:TG}{pos:Pos}{wi:TI}{g:TG}{tc:TT}(OZ:QG X (.Name x0 p0) gx)(ig:X.calm=true)
  (lT:X.env.cells=cellsFrom m X.env.scope.names []) (ii:scope.kind=.function) (hB:yO X.env.scope.names scope.names nm cap X.N=true)
  (hi:QI X tg cx wi) (hg:∀cl C s0 H0 fp,QG (cw X nm scope cl C s0 H0 fp) tg g) (ht:∀cl C s0 H0 fp,Qr (cw X nm scope cl C s0 H0 fp) kq tc)
  (he:∀cl C s0 H0 fp,QE (cw X nm scope cl C s0 H0 fp) m7 te) (hs:∀x,foldedSetIterable cx X.env x=pure x:=by intro _;rfl) (O1:swapsWith (.ListComp m7 [⟨tg,cx,kq,0⟩] scope pos) (some (.Name x0 p0)) p1.line X.env=pure true:=by first|rfl|kernel_rfl) :
  QS X (.Assign [.Name x0 p0] (.ListComp m7 [⟨tg,cx,kq,0⟩] scope pos) p1) (FJ (qc cap wi g tc te) gx):=by
 have F:=Nd (nm:=nm) (cap:=cap) (fun x z=>by rw[lT];exact kL z) hB
 exact⟨yS OZ.h O1 ig F.clos F.cl ii F.nms F.cell F.has F.cp F.len hi.h (fun C s0 H0 fp=>(hg _ C s0 H0 fp).h) (fun C s0 H0 fp=>(ht _ C s0 H0 fp).h) (fun C s0 H0 fp=>(he _ C s0 H0 fp).h) hs⟩
open AutoSeq1 (wpAny_loadPart')
theorem CC(l b:Addr)(i1 i2:Array Value)(n1 n2:Nat)(d1 d2:Option Addr)(s1 s2:Array (Option Value))(h0:i1.isEmpty=true) :
  Meets (Builtin.«tuple.__add__» ⟨[.ref l,.ref b],[]⟩) (fun _ R s=>s.heap.get? l=some { cls:=.type "tuple",dict:=d1,data:=.seq i1 n1,slots:=s1 }/\s.heap.get? b=some { cls:=.type "tuple",dict:=d2,data:=.seq i2 n2,slots:=s2 }/\R (.ok (.ret (.ref b))) s):=
 .of_wp fun prog w A R s h=>by
  obtain⟨hp,g,d,tk,os⟩:=s
  obtain⟨e1,e2,h⟩:=h
  have a2:=PyProof.Rows.sub_tuple_tuple
  wp_walk using bg e1,bg e2
  exact⟨_,rfl,h⟩
def Ni(K:Frag):R2:=fun x y H Q=>∃a b xs ys,x=.ref a/\y=.ref b/\dW K H a xs/\dW K H b ys/\xs.length+ys.length<=sizeLine/\∀p H2,j3 H H2->dW K H2 p (xs++ys)->Q (.ref p) H2
theorem J1:Rs X (binaryOp .Add) (Ni X.K):=⟨by
 intro ac s σ H x y v u Q I rx ry h
 obtain⟨a,b,xs,ys,rfl,rfl,ha,hb,hz,q⟩:=h
 by_cases hx:xs=[]
 ·subst hx
  cases rx
  cases ry
  obtain⟨bd,r1,p1,_⟩:=I.tuple ha
  obtain⟨its2,r2,p2,_⟩:=I.tuple hb
  have e1:bd=[]:=r1.nil_iff.mpr rfl
  obtain⟨⟨c1,d1,g1,l1⟩,f1,hc1,n1,hd1⟩:=id p1
  obtain⟨⟨c2,d2,g2,l2⟩,f2,hc2,n2,hd2⟩:=id p2
  simp only at hc1 hd1 hc2 hd2
  subst hc1 hd1 hc2 hd2
  refine pA ⟨_,f1,rfl⟩ ⟨_,f2,rfl⟩ lf nL PySem.F.slot_tuple_add PySem.F.entry_tuple_add (PySem.F.args_tuple_add_2 _ _) (CC a b bd.toArray its2.toArray n1 n2 d1 d2 l1 l2 (by rw[e1];rfl)) ⟨f1,f2,?_⟩
  exact⟨.ref b,H,I,rfl,q b H (j3.refl H) hb⟩
 ·exact FX ac s σ H _ _ v u Q I rx ry ⟨a,b,xs,ys,rfl,rfl,ha,hb,hx,hz,fun e=>q a H (j3.refl H) (by rw[e,cf];exact ha),fun _ p hp=>q p _ (bP hp _) (dW.of c5)⟩⟩
inductive W where
 |non|bl (b:Bool)|int (i:Int)|str (l:List Nat)|tup (ws:List W)|loc (n:Nat)
inductive DK where
 |i (z:Int)|s (l:List Nat)
deriving DecidableEq
def DK.key:DK->gF
 |.i z=>.inl z
 |.s l=>.inr (tx l)
inductive KX where
 |bo (b:Bool)|fl (ks:List Int)|pr (i:Int) (ks:List Int)
deriving DecidableEq
def KX.w:KX->W
 |.bo b=>.bl b
 |.fl ks=>.tup (ks.map W.int)
 |.pr i ks=>.tup [.int i,.tup (ks.map W.int)]
def CD(ks:List Int):Int:=reduceHash (Builtin.Tuple.tupleHashOf (ks.map hashInt))
def KX.hash:KX->Int
 |.bo b=>hashInt (if b then 1 else 0)
 |.fl ks=>CD ks
 |.pr i ks=>reduceHash (Builtin.Tuple.tupleHashOf [hashInt i,CD ks])
inductive am where
 |lst (ws:List W)
 |ro (ws:List W)
 |exc (c:Str)
 |dct (kvs:List (DK×W))
 |tab (P:Addr) (pos:Pos) (q:Str)
 |rod (kvs:List (DK×W))
 |dcx (kvs:List (KX×W))
 |rox (kvs:List (KX×W))
 |obj (c:Str) (fs:List (Str×W))
 |pin (k:Bool) (c:Addr) (o:Obj) (w:W)
 |gone
abbrev kI:Nat:=1000000
theorem ly(h:n<=kI):n<=sizeLine:=aQ h (by decide)
theorem J2(h:n<=kI):n<sizeLine:=fQ h (by decide)
inductive R(α:Type) where
 |ok (a:α) (st:List am)
 |ex (c:Str) (st:List am)
 |bad
end L2
variable{st br st1:List L2.am}{ws:List L2.W}{F G:List L2.W->List L2.am->L2.R L2.W}{ck:Option (Nat×List L2.W)}
namespace L2
open PySem PySem.Spec PyProof.Rows
def R.bind:R α->(α->List am->R β)->R β
 |.ok a st,k=>k a st
 |.ex c st,_=>.ex c st
 |.bad,_=>.bad
@[simp] theorem R.bind_ok{α β:Type}(a:α)(st:List am)(k:α->List am->R β):(R.ok a st).bind k=k a st:=rfl
@[simp] theorem R.bind_ex{α β:Type}(c:Str)(st:List am)(k:α->List am->R β):(R.ex c st:R α).bind k=.ex c st:=rfl
@[simp] theorem R.bind_bad{α β:Type}(k:α->List am->R β):(R.bad:R α).bind k=.bad:=rfl
abbrev cv:=List (Option W)
inductive RS where
 |nx (ρ:cv) (st:List am)|rt (w:W) (st:List am)|bk (ρ:cv) (st:List am)|ct (ρ:cv) (st:List am)
 |ex (c:Str) (ρ:cv) (st:List am)|bad
abbrev FE:=cv->List am->R W
abbrev FT:=cv->List am->R Bool
abbrev FA:=cv->List am->R (List W)
abbrev FS:=cv->List am->RS
section
variable(K:Frag)
mutual
def a8(μ:List Addr)(H:Hp):W->V->Prop
 |.non,v=>v=.non
 |.bl b,v=>v=.bl b
 |.int i,v=>v=.int i
 |.str l,v=>v=.str (tx l)
 |.tup ws,v=>∃p vs,v=.ref p/\dW K H p vs/\RelWs μ H ws vs
 |.loc n,v=>∃a,μ[n]?=some a/\v=.ref a
def RelWs(μ:List Addr)(H:Hp):List W->List V->Prop
 |[],vs=>vs=[]
 |w::ws,vs=>∃x xs,vs=x::xs/\a8 μ H w x/\RelWs μ H ws xs
end
end
theorem pre_get(h:μ <+: μ')(e:μ[n]?=some a):μ'[n]?=some a:=by
 obtain⟨t,rfl⟩:=h
 rw[aF (ah.mp e).1];exact e
section
mutual
theorem a8.mono(h:μ <+: μ')(e:db K H H'):∀{w:W} {v:V},a8 K μ H w v->a8 K μ' H' w v
 |.non,_,r=>by unfold a8 at r ⊢;exact r
 |.bl _,_,r=>by unfold a8 at r ⊢;exact r
 |.int _,_,r=>by unfold a8 at r ⊢;exact r
 |.str _,_,r=>by unfold a8 at r ⊢;exact r
 |.tup _,_,r=>by unfold a8 at r ⊢;obtain⟨p,vs,a,b,c⟩:=r;exact⟨p,vs,a,e _ _ b,RelWs.mono h e c⟩
 |.loc _,_,r=>by unfold a8 at r ⊢;obtain⟨a,b,c⟩:=r;exact⟨a,pre_get h b,c⟩
theorem RelWs.mono(h:μ <+: μ')(e:db K H H'):∀{ws:List W} {vs:List V},RelWs K μ H ws vs->RelWs K μ' H' ws vs
 |[],_,r=>by unfold RelWs at r ⊢;exact r
 |_::_,_,r=>by unfold RelWs at r ⊢;obtain⟨x,xs,a,b,c⟩:=r;exact⟨x,xs,a,a8.mono h e b,RelWs.mono h e c⟩
end
theorem RelWs.nilI:RelWs K μ H [] []:=by unfold RelWs;rfl
theorem RelWs.consI{w:W}{x:V}{xs:List V}(a:a8 K μ H w x)(b:RelWs K μ H ws xs):RelWs K μ H (w::ws) (x::xs):=by unfold RelWs;exact⟨x,xs,rfl,a,b⟩
theorem RelWs.nilE(h:RelWs K μ H [] vs):vs=[]:=by unfold RelWs at h;exact h
theorem RelWs.consE{w:W}(h:RelWs K μ H (w::ws) vs):∃x xs,vs=x::xs/\a8 K μ H w x/\RelWs K μ H ws xs:=by unfold RelWs at h;exact h
theorem RelWs.pr:∀{ws:List W} {vs:List V},RelWs K μ H ws vs↔Paired (fun w v=>a8 K μ H w v) ws vs
 |[],vs=>⟨fun h=>by rw[h.nilE];exact .nil,fun h=>by cases h;exact .nilI⟩
 |w::ws,vs=>⟨fun h=>by obtain⟨x,xs,rfl,a,b⟩:=h.consE;exact .cons a (RelWs.pr.mp b),fun h=>by cases h with|cons a b=>exact .consI a (RelWs.pr.mpr b)⟩
theorem RelWs.len(h:RelWs K μ H ws vs):ws.length=vs.length:=Paired.length (RelWs.pr.mp h)
theorem RelWs.app:∀{as:List W} {xs:List V} {bs:List W} {ys:List V},RelWs K μ H as xs->RelWs K μ H bs ys->RelWs K μ H (as++bs) (xs++ys)
 |[],xs,bs,ys,a,b=>by rw[a.nilE];exact b
 |w::as,xs,bs,ys,a,b=>by obtain⟨x,xs,rfl,c,d⟩:=a.consE;exact .consI c (RelWs.app d b)
theorem RelWs.get:∀{ws:List W} {vs:List V} {i:Nat} {w:W},RelWs K μ H ws vs->ws[i]?=some w->∃v,vs[i]?=some v/\a8 K μ H w v
 |[],_,_,_,_,e=>by simp at e
 |x::ws,vs,0,w,h,e=>by obtain⟨y,ys,rfl,a,b⟩:=h.consE;simp at e;subst e;exact⟨y,rfl,a⟩
 |x::ws,vs,i+1,w,h,e=>by obtain⟨y,ys,rfl,a,b⟩:=h.consE;simpa using RelWs.get (i:=i) b (by simpa using e)
theorem RelWs.take:∀{ws:List W} {vs:List V} (n:Nat),RelWs K μ H ws vs->RelWs K μ H (ws.take n) (vs.take n)
 |_,_,0,_=>by simp only[List.take_zero];exact .nilI
 |[],vs,n+1,h=>by rw[h.nilE];exact .nilI
 |x::ws,vs,n+1,h=>by obtain⟨y,ys,rfl,a,b⟩:=h.consE;exact .consI a (RelWs.take n b)
theorem RelWs.drop:∀{ws:List W} {vs:List V} (n:Nat),RelWs K μ H ws vs->RelWs K μ H (ws.drop n) (vs.drop n)
 |_,_,0,h=>h
 |[],vs,n+1,h=>by rw[h.nilE];exact .nilI
 |x::ws,vs,n+1,h=>by obtain⟨y,ys,rfl,a,b⟩:=h.consE;exact RelWs.drop n b
theorem RelWs.setI:∀{ws:List W} {vs:List V} (i:Nat) {w:W} {v:V},a8 K μ H w v->RelWs K μ H ws vs->RelWs K μ H (ws.set i w) (vs.set i v)
 |[],vs,_,_,_,_,h=>by rw[h.nilE];exact .nilI
 |x::ws,vs,0,w,v,r,h=>by obtain⟨y,ys,rfl,a,b⟩:=h.consE;exact .consI r b
 |x::ws,vs,i+1,w,v,r,h=>by obtain⟨y,ys,rfl,a,b⟩:=h.consE;exact .consI a (RelWs.setI i r b)
theorem a8.intE{i:Int}(h:a8 K μ H (.int i) v):v=.int i:=by unfold a8 at h;exact h
theorem a8.blE{b:Bool}(h:a8 K μ H (.bl b) v):v=.bl b:=by unfold a8 at h;exact h
theorem a8.nonE(h:a8 K μ H .non v):v=.non:=by unfold a8 at h;exact h
theorem a8.strE(h:a8 K μ H (.str l) v):v=.str (tx l):=by unfold a8 at h;exact h
theorem a8.tupE(h:a8 K μ H (.tup ws) v):∃p vs,v=.ref p/\dW K H p vs/\RelWs K μ H ws vs:=by unfold a8 at h;exact h
theorem a8.locE(h:a8 K μ H (.loc n) v):∃a,μ[n]?=some a/\v=.ref a:=by unfold a8 at h;exact h
theorem a8.int{i:Int}:a8 K μ H (.int i) (.int i):=by unfold a8;rfl
theorem a8.bl{i:Bool}:a8 K μ H (.bl i) (.bl i):=by unfold a8;rfl
theorem a8.non:a8 K μ H .non .non:=by unfold a8;rfl
theorem a8.str:a8 K μ H (.str l) (.str (tx l)):=by unfold a8;rfl
theorem a8.tupI{p:Addr}(a:dW K H p vs)(b:RelWs K μ H ws vs):a8 K μ H (.tup ws) (.ref p):=by unfold a8;exact⟨p,vs,rfl,a,b⟩
theorem a8.locI(e:μ[n]?=some a):a8 K μ H (.loc n) (.ref a):=by unfold a8;exact⟨a,e,rfl⟩
end
def Nj(a:Addr)(C:Value):HO:=.ext fun h=>∃o vs,h.get? a=some o/\o.cls=C/\o.data=.fields vs
def uu(b:Addr)(q:Str):HO:=.ext fun h=>∃o vs t,h.get? b=some o/\o.data=.fields vs/\vs[1]?=some (.str q t)
def Pp(K:Frag)(H:Hp)(a:Addr)(xs:List V):Prop:=
 (∃o,H a=some (.frz o (.lst xs)))\/∃(o:Obj) (bd:Array Value) (n:Nat),K.lookup a=some o/\o.cls=.type "list"/\o.dict=none/\o.data=.seq bd n/\bd.size<=sizeLine/\bE xs bd.toList
theorem Pp.sq{xs:List V}(h:Pp K H a xs):jr K H a xs:=by
 rcases h with⟨o,h⟩|h
 ·exact .inl (.inr ⟨o,h⟩)
 ·exact .inr h
def am.isRo:am->Bool
 |.ro _=>true
 |.gone=>true
 |_=>false
def DX(a:Addr)(es:List DictEntry):Heap->Prop:=fun h=>∃o ep,h.get? a=some o/\o.ExactDict/\o.data=.dict es.toArray ep
abbrev Pq(a:Addr)(es:List DictEntry):HO:=.ext (DX a es)
def tY(K:Frag)(μ:List Addr)(H:Hp)(p:KX×W)(e:DictEntry):Prop:=e.hash=p.1.hash/\(∃v,a8 K μ H p.1.w v/\bK v e.key)/\∃v,a8 K μ H p.2 v/\bK v e.val
def J3(a:Addr)(o:Obj):HO:=.ext fun h=>h.get? a=some o
def j6(K:Frag)(mg:Str->Option Value)(μ:List Addr)(H:Hp):am->Addr->Prop
 |.lst ws,a=>∃vs,H a=some (.lst vs)/\RelWs K μ H ws vs
 |.ro ws,a=>∃vs,Pp K H a vs/\RelWs K μ H ws vs
 |.exc c,a=>∃C,mg c=some C/\H a=some (Nj a C)
 |.dct kvs,a=>∃vs,H a=some (.dK ((kvs.map fun p=>p.1.key).zip vs))/\RelWs K μ H (kvs.map fun p=>p.2) vs
 |.rod kvs,a=>∃vs o,H a=some (.frz o (.dK ((kvs.map fun p=>p.1.key).zip vs)))/\RelWs K μ H (kvs.map fun p=>p.2) vs
 |.dcx kvs,a=>∃es,H a=some (Pq a es)/\(a==sysModules)=false/\Paired (tY K μ H) kvs es/\(kvs.map fun p=>p.1).Nodup
 |.rox kvs,a=>∃es o,H a=some (.frz o (Pq a es))/\(a==sysModules)=false/\Paired (tY K μ H) kvs es/\(kvs.map fun p=>p.1).Nodup
 |.obj c fs,a=>∃C dx vs,mg c=some (.ref C)/\H a=some (.ins C dx ((fs.map fun p=>p.1).zip vs))/\RelWs K μ H (fs.map fun p=>p.2) vs
 |.tab P pos q,a=>a=P/\∃ps,H a=some (.tbl ps)/\TriplesOk ps.toList/\(codeAmong pos ps.toList=none\/∃c,codeAmong pos ps.toList=some (.ref c)/\H c=some (uu c q))
 |.pin k c o w,a=>a=c/\H a=some (J3 a o)/\(k=false->∃fd cd,o.data=.func fd/\fd.code=.ref cd/\H cd=some (uu cd fd.qualname))/\∃v,a8 K μ H w v/\(k=true->∃u,o.data=.cell (some u)/\bK v u)
 |.gone,_=>True
structure gB(K:Frag)(mg:Str->Option Value)(μ:List Addr)(st:List am)(H:Hp):Prop where
 nd:∀(i j:Nat) (a:Addr) (ci cj:am),st[i]?=some ci->st[j]?=some cj->ci.isRo=false->cj.isRo=false->μ[i]?=some a->μ[j]?=some a->i=j
 len:st.length=μ.length
 at':∀(i:Nat) (c:am) (a:Addr),st[i]?=some c->μ[i]?=some a->j6 K mg μ H c a
section
theorem tY.mono(h:μ <+: μ')(x:db K H H'){p:KX×W}{e:DictEntry}(r:tY K μ H p e):tY K μ' H' p e:=by
 obtain⟨a,⟨v,b,c⟩,u,d,g⟩:=r
 exact⟨a,⟨v,b.mono h x,c⟩,u,d.mono h x,g⟩
theorem j6.keep(h:μ <+: μ')(x:db K H H'){c:am}(e:∀o,H a=some o->H' a=some o)(e2:∀b q,H b=some (uu b q)->H' b=some (uu b q))(r:j6 K mg μ H c a):j6 K mg μ' H' c a:=by
 cases c with
 |lst ws=>obtain⟨vs,p,y⟩:=r;exact⟨vs,e _ p,y.mono h x⟩
 |ro ws=>
  obtain⟨vs,p,y⟩:=r
  refine⟨vs,?_,y.mono h x⟩
  rcases p with⟨o,p⟩|p
  ·exact .inl ⟨o,e _ p⟩
  ·exact .inr p
 |exc c=>obtain⟨C,p,y⟩:=r;exact⟨C,p,e _ y⟩
 |dct kvs=>obtain⟨vs,p,y⟩:=r;exact⟨vs,e _ p,y.mono h x⟩
 |rod kvs=>obtain⟨vs,o,p,y⟩:=r;exact⟨vs,o,e _ p,y.mono h x⟩
 |dcx kvs=>obtain⟨es,p,d,y,z⟩:=r;exact⟨es,e _ p,d,Paired.imp' (fun _ _ q=>q.mono h x) y,z⟩
 |rox kvs=>obtain⟨es,o,p,d,y,z⟩:=r;exact⟨es,o,e _ p,d,Paired.imp' (fun _ _ q=>q.mono h x) y,z⟩
 |obj c fs=>obtain⟨C,dx,vs,m,p,y⟩:=r;exact⟨C,dx,vs,m,e _ p,y.mono h x⟩
 |tab P pos q=>
  obtain⟨ea,ps,p,t,y⟩:=r
  refine⟨ea,ps,e _ p,t,?_⟩
  rcases y with y|⟨c,y,z⟩
  ·exact .inl y
  ·exact .inr ⟨c,y,e2 _ _ z⟩
 |pin k c o w=>obtain⟨ea,p,g,v,y,z⟩:=r;exact⟨ea,e _ p,fun q=>let ⟨fd,cd,q1,q2,q3⟩:=g q;⟨fd,cd,q1,q2,e2 _ _ q3⟩,v,y.mono h x,z⟩
 |gone=>trivial
theorem j6.ro_ne{c:am}(r:j6 K mg μ H c a)(h:c.isRo=false):∃o,H a=some o:=by
 cases c with
 |lst ws=>obtain⟨vs,p,y⟩:=r;exact⟨_,p⟩
 |ro ws=>cases h
 |exc c=>obtain⟨C,p,y⟩:=r;exact⟨_,y⟩
 |dct kvs=>obtain⟨vs,p,y⟩:=r;exact⟨_,p⟩
 |rod kvs=>obtain⟨vs,o,p,y⟩:=r;exact⟨_,p⟩
 |dcx kvs=>obtain⟨es,p,_⟩:=r;exact⟨_,p⟩
 |rox kvs=>obtain⟨es,o,p,_⟩:=r;exact⟨_,p⟩
 |obj c fs=>obtain⟨C,dx,vs,m,p,y⟩:=r;exact⟨_,p⟩
 |tab P pos q=>obtain⟨_,ps,p,_⟩:=r;exact⟨_,p⟩
 |pin k c o w=>obtain⟨_,p,_⟩:=r;exact⟨_,p⟩
 |gone=>cases h
theorem gB.same(S:gB K mg μ st H)(e:j3 H H'):gB K mg μ st H':=⟨S.nd,S.len,fun i c a h1 h2=>(S.at' i c a h1 h2).keep (ae _) (dW.same e) (e a) fun b q h=>e b _ h⟩
theorem gB.get(S:gB K mg μ st H){c:am}(h:st[n]?=some c):∃a,μ[n]?=some a/\j6 K mg μ H c a:=by
 have hn:n<μ.length:=by rw[<- S.len];exact(ah.mp h).1
 exact⟨μ[n],ag hn,S.at' n c _ h (ag hn)⟩
theorem gB.push(S:gB K mg μ st H){p:Addr}{o:HO}{c:am}(hp:H p=none)(hc:j6 K mg (μ++[p]) (da H p o) c p):gB K mg (μ++[p]) (st++[c]) (da H p o):=by
 have hs:j3 H (da H p o):=bP hp o
 have yk:μ <+: μ++[p]:=aW _ _
 have old:∀{i:Nat} {d:am} {a:Addr},i<st.length->(st++[c])[i]?=some d->(μ++[p])[i]?=some a->st[i]?=some d/\μ[i]?=some a:=fun{i d a} hi h1 h2=>by
  rw[aF hi]at h1
  rw[aF (by rw[<- S.len];exact hi)]at h2
  exact⟨h1,h2⟩
 have new:∀{i:Nat} {d:am} {a:Addr},¬ i<st.length->(st++[c])[i]?=some d->(μ++[p])[i]?=some a->i=st.length/\d=c/\a=p:=fun{i d a} hi h1 h2=>by
  have hi':i=st.length:=by
   have:=(ah.mp h1).1
   simp at this;omega
  subst hi'
  simp at h1
  rw[S.len,cb (av _)]at h2
  simp at h2
  exact⟨rfl,h1.symm,h2.symm⟩
 refine⟨fun i j a ci cj h1 h2 r1 r2 m1 m2=>?_,by simp[S.len],fun i d a h1 h2=>?_⟩
 ·by_cases hi:i<st.length
  ·obtain⟨x1,x2⟩:=old hi h1 m1
   by_cases hj:j<st.length
   ·obtain⟨y1,y2⟩:=old hj h2 m2
    exact S.nd i j a ci cj x1 y1 r1 r2 x2 y2
   ·obtain⟨_,_,rfl⟩:=new hj h2 m2
    obtain⟨o',z⟩:=(S.at' i ci a x1 x2).ro_ne r1
    rw[hp]at z;cases z
  ·obtain⟨e1,_,rfl⟩:=new hi h1 m1
   by_cases hj:j<st.length
   ·obtain⟨y1,y2⟩:=old hj h2 m2
    obtain⟨o',z⟩:=(S.at' j cj a y1 y2).ro_ne r2
    rw[hp]at z;cases z
   ·obtain⟨e2,_,_⟩:=new hj h2 m2
    omega
 ·by_cases hi:i<st.length
  ·obtain⟨x1,x2⟩:=old hi h1 h2
   exact(S.at' i d a x1 x2).keep yk (dW.same hs) (hs a) fun b q h=>hs b _ h
  ·obtain⟨_,rfl,rfl⟩:=new hi h1 h2
   exact hc
theorem gB.setG(S:gB K mg μ st H){c c':am}{o o':HO}(hn:st[n]?=some c)(wj:c.isRo=false)(hm:μ[n]?=some a)(ha:H a=some o)(hf:∀q u,o≠.frz q u)(hg:∀q,o≠uu a q)(hx:db K H (da H a o'))(RX:c'.isRo=false)(hr:j6 K mg μ (da H a o') c' a):gB K mg μ (st.set n c') (da H a o'):=by
 have hl:n<st.length:=(ah.mp hn).1
 have back:∀{i:Nat} {d:am},(st.set n c')[i]?=some d->∃d',st[i]?=some d'/\(d'=d\/(i=n/\d=c')):=fun{i d} h=>by
  by_cases e:i=n
  ·subst e
   rw[bz hl]at h
   exact⟨_,hn,.inr ⟨rfl,(aL h).symm⟩⟩
  ·rw[bT (Ne.symm e)]at h
   exact⟨d,h,.inl rfl⟩
 refine⟨fun i j b ci cj h1 h2 r1 r2 m1 m2=>?_,by simp[S.len],fun i d b h1 h2=>?_⟩
 ·obtain⟨di,x1,y1⟩:=back h1
  obtain⟨dj,x2,y2⟩:=back h2
  refine S.nd i j b di dj x1 x2 ?_ ?_ m1 m2
  ·rcases y1 with rfl|⟨rfl,rfl⟩
   ·exact r1
   ·rw[hn]at x1;cases x1;exact wj
  ·rcases y2 with rfl|⟨rfl,rfl⟩
   ·exact r2
   ·rw[hn]at x2;cases x2;exact wj
 ·by_cases e:i=n
  ·subst e
   rw[bz hl]at h1
   cases h1
   rw[hm]at h2;cases h2
   exact hr
  ·rw[bT (Ne.symm e)]at h1
   have r:=S.at' i d b h1 h2
   by_cases hrd:d.isRo=true
   ·cases d with
    |ro zs=>
     obtain⟨us,p,q⟩:=r
     refine⟨us,?_,q.mono (ae _) hx⟩
     rcases p with⟨o2,p⟩|p
     ·exact .inl ⟨o2,by rw[bF (by rintro rfl;rw[ha]at p;cases p;exact hf _ _ rfl)];exact p⟩
     ·exact .inr p
    |lst _=>cases hrd
    |exc _=>cases hrd
    |dct _=>cases hrd
    |rod _=>cases hrd
    |dcx _=>cases hrd
    |rox _=>cases hrd
    |obj _ _=>cases hrd
    |tab _ _ _=>cases hrd
    |pin _ _ _ _=>cases hrd
    |gone=>trivial
   ·refine r.keep (ae _) hx (fun o ho=>?_) fun b' q h=>by rw[bF (by rintro rfl;rw[ha]at h;cases h;exact hg _ rfl)];exact h
    have hb:b≠a:=by
     rintro rfl
     exact e (S.nd i n b d _ h1 hn (by simpa using hrd) wj h2 hm)
    rw[bF hb];exact ho
theorem gB.set(S:gB K mg μ st H){LZ:List W}{wn:List V}(hn:st[n]?=some (.lst ws))(hm:μ[n]?=some a)(ha:H a=some (.lst vs))(hr:RelWs K μ H LZ wn):gB K mg μ (st.set n (.lst LZ)) (da H a (.lst wn)):=by
 have hx:db K H (da H a (.lst wn)):=dW.but gU ha
 have hl:n<st.length:=(ah.mp hn).1
 have back:∀{i:Nat} {d:am},(st.set n (.lst LZ))[i]?=some d->∃d',st[i]?=some d'/\(d'=d\/(i=n/\d=.lst LZ)):=fun{i d} h=>by
  by_cases e:i=n
  ·subst e
   rw[bz hl]at h
   exact⟨_,hn,.inr ⟨rfl,(aL h).symm⟩⟩
  ·rw[bT (Ne.symm e)]at h
   exact⟨d,h,.inl rfl⟩
 refine⟨fun i j b ci cj h1 h2 r1 r2 m1 m2=>?_,by simp[S.len],fun i d b h1 h2=>?_⟩
 ·obtain⟨di,x1,y1⟩:=back h1
  obtain⟨dj,x2,y2⟩:=back h2
  refine S.nd i j b di dj x1 x2 ?_ ?_ m1 m2
  ·rcases y1 with rfl|⟨rfl,rfl⟩
   ·exact r1
   ·rw[hn]at x1;cases x1;rfl
  ·rcases y2 with rfl|⟨rfl,rfl⟩
   ·exact r2
   ·rw[hn]at x2;cases x2;rfl
 ·by_cases e:i=n
  ·subst e
   rw[bz hl]at h1
   cases h1
   rw[hm]at h2;cases h2
   exact⟨wn,c5,hr.mono (ae _) hx⟩
  ·rw[bT (Ne.symm e)]at h1
   have r:=S.at' i d b h1 h2
   by_cases wj:d.isRo=true
   ·cases d with
    |ro zs=>
     obtain⟨us,p,q⟩:=r
     refine⟨us,?_,q.mono (ae _) hx⟩
     rcases p with⟨o',p⟩|p
     ·exact .inl ⟨o',by rw[bF (by rintro rfl;rw[ha]at p;cases p)];exact p⟩
     ·exact .inr p
    |lst _=>cases wj
    |exc _=>cases wj
    |dct _=>cases wj
    |rod _=>cases wj
    |dcx _=>cases wj
    |rox _=>cases wj
    |obj _ _=>cases wj
    |tab _ _ _=>cases wj
    |pin _ _ _ _=>cases wj
    |gone=>trivial
   ·refine r.keep (ae _) hx (fun o ho=>?_) fun b' q h=>by rw[bF (by rintro rfl;rw[ha]at h;cases h)];exact h
    have hb:b≠a:=by
     rintro rfl
     exact e (S.nd i n b d _ h1 hn (by simpa using wj) rfl h2 hm)
    rw[bF hb];exact ho
end
structure Rl(X:Cx)(μ:List Addr)(ρ:cv)(st:List am)(σ:St)(H:Hp):Prop where
 env:Paired (fun(o:Option W) (s:Option V)=>∀w,o=some w->∃v,s=some v/\a8 X.K μ H w v) ρ σ
 sto:gB X.K X.mg μ st H
theorem uv(h:μ <+: μ')(x:db K H H'):∀{ρ:cv} {σ:St},Paired (fun(o:Option W) (s:Option V)=>∀w,o=some w->∃v,s=some v/\a8 K μ H w v) ρ σ ->
  Paired (fun(o:Option W) (s:Option V)=>∀w,o=some w->∃v,s=some v/\a8 K μ' H' w v) ρ σ
 |_,_,.nil=>.nil
 |_,_,.cons a t=>.cons (fun w e=>let ⟨v,p,q⟩:=a w e;⟨v,p,q.mono h x⟩) (uv h x t)
theorem Rl.to{ρ:cv}(r:Rl X μ ρ st σ H)(h:μ <+: μ')(x:db X.K H H')(s:gB X.K X.mg μ' br H'):Rl X μ' ρ br σ H':=⟨uv h x r.env,s⟩
theorem rT:∀{ρ:cv} {σ:St} {i:Nat} {w:W},Paired (fun(o:Option W) (s:Option V)=>∀w,o=some w->∃v,s=some v/\a8 K μ H w v) ρ σ->ρ[i]?=some (some w)->∃v,σ[i]?=some (some v)/\a8 K μ H w v
 |_,_,_,_,.nil,e=>by simp at e
 |_,_,0,w,.cons a t,e=>by simp at e;obtain⟨v,p,q⟩:=a w e;exact⟨v,by simp[p],q⟩
 |_,_,i+1,w,.cons a t,e=>by simpa using rT (i:=i) t (by simpa using e)
theorem rV{w:W}(r:a8 K μ H w v):∀{ρ:cv} {σ:St} (i:Nat),Paired (fun(o:Option W) (s:Option V)=>∀w,o=some w->∃v,s=some v/\a8 K μ H w v) ρ σ ->
  Paired (fun(o:Option W) (s:Option V)=>∀w,o=some w->∃v,s=some v/\a8 K μ H w v) (ρ.set i (some w)) (σ.set i (some v))
 |_,_,_,.nil=>.nil
 |_,_,0,.cons a t=>.cons (fun w' e=>⟨v,rfl,by cases e;exact r⟩) t
 |_,_,i+1,.cons a t=>.cons a (rV r i t)
structure qh(X:Cx)(ac:List (Addr×Obj))(σ:St)(c:Str)(H:Hp)(e:Value)(s:Shared):Prop where
 inv:bb X ac σ H s
 ex:∃x C t B,e=.ref x/\X.mg c=some C/\H x=none/\B.StaysIn s.heap/\B.get? x=none/\s.heap.FunFrames B X.stack /\
  (s.heap.TracedW B x C (.ref t)\/(∃oe vs,s.heap.get? x=some oe/\oe.cls=C/\oe.dict=none/\oe.data=.fields vs/\vs[1]?=some .none/\vs[0]?=some (.ref t))\/∃L,X.env.frame=some L/\s.heap.TracedAtW B x C (.ref t) (rawInt L)) /\
  ∀b o,s.heap.get? b=some o->(H b≠none\/((∃o0,X.s₀.heap.get? b=some o0)/\b∉X.fs/\b∉X.ex)\/((∃y,X.env.cells.lookup y=some b)/\b∉qA X.stack)\/∃p∈X.pn++ac,p.1=b)->B.get? b=some o
def XS(X:Cx)(c:Str)(μ:List Addr)(ρ:cv)(st:List am)(H:Hp):Prop:=
 ∀ac μ' σ' H' e s',μ <+: μ'->db X.K H H'->Rl X μ' ρ st σ' H'->qh X ac σ' c H' e s'->X.xe e s'
def XE(X:Cx)(c:Str)(μ:List Addr)(st:List am)(σ:St)(H:Hp):Prop:=
 ∀ac μ' H' e s',μ <+: μ'->db X.K H H'->gB X.K X.mg μ' st H'->qh X ac σ c H' e s'->X.xe e s'
theorem XE.mono{c:Str}{μ1:List Addr}{H1:Hp}(h:XE X c μ st σ H)(p:μ <+: μ1)(x:db X.K H H1):XE X c μ1 st σ H1:=fun ac μ' H' e s' a b=>h ac μ' H' e s' (p.trans a) (x.trans b)
theorem XS.mono{c:Str}{μ1:List Addr}{ρ:cv}{H1:Hp}(h:XS X c μ ρ st H)(p:μ <+: μ1)(x:db X.K H H1):XS X c μ1 ρ st H1:=fun ac μ' σ' H' e s' a b=>h ac μ' σ' H' e s' (p.trans a) (x.trans b)
theorem XS.toE{c:Str}{ρ:cv}{PX:List am}(h:XS X c μ ρ st H)(r:Rl X μ ρ PX σ H):XE X c μ st σ H:=fun ac μ' H' e s' a b s f=>h ac μ' σ H' e s' a b (r.to a b s) f
def RK(X:Cx)(m6:List Addr->Hp->α->β->Prop)(μ:List Addr)(σ:St)(H:Hp)(Q:β->Hp->Prop):R α->Prop
 |.ok a br=>∀μ' b H',μ <+: μ'->db X.K H H'->gB X.K X.mg μ' br H'->m6 μ' H' a b->Q b H'
 |.ex c br=>XE X c μ br σ H
 |.bad=>False
theorem RK.mono{m6:List Addr->Hp->α->β->Prop}{μ1:List Addr}{H1:Hp}{Q:β->Hp->Prop}{r:R α}(h:RK X m6 μ σ H Q r)(p:μ <+: μ1)(x:db X.K H H1):RK X m6 μ1 σ H1 Q r:=by
 cases r with
 |ok a st=>exact fun μ' b H' a1 b1=>h μ' b H' (p.trans a1) (x.trans b1)
 |ex c st=>exact XE.mono h p x
 |bad=>exact h
def tG(X:Cx)(m6:List Addr->Hp->α->β->Prop)(f:cv->List am->R α)(σ:St)(H:Hp)(Q:β->Hp->Prop):Prop:=
 ∃μ ρ st,Rl X μ ρ st σ H/\RK X m6 μ σ H Q (f ρ st)
abbrev nU(X:Cx):List Addr->Hp->W->V->Prop:=fun μ H w v=>a8 X.K μ H w v
abbrev Qw(X:Cx):List Addr->Hp->List W->List V->Prop:=fun μ H w v=>RelWs X.K μ H w v
abbrev Gf:List Addr->Hp->Bool->Bool->Prop:=fun _ _ a b=>a=b
abbrev tE(X:Cx)(f:FE):TE:=tG X (nU X) f
abbrev tT(X:Cx)(f:FT):TT:=tG X Gf f
abbrev Nk(X:Cx)(f:FA):TA:=tG X (Qw X) f
theorem RK.bind{α' β':Type}{m6:List Addr->Hp->α->β->Prop}{Pj:List Addr->Hp->α'->β'->Prop}{ρ:cv}{r:R α}{k:α->List am->R α'}{Q:β'->Hp->Prop}{T:β->Hp->Prop}
  (h:RK X Pj μ σ H Q (r.bind k)) (l:Rl X μ ρ st σ H)
  (hk:∀μ' br x v H',μ <+: μ'->db X.K H H'->Rl X μ' ρ br σ H'->m6 μ' H' x v->RK X Pj μ' σ H' Q (k x br)->T v H'):RK X m6 μ σ H T r:=by
 cases r with
 |ok a br=>exact fun μ' b H' p x s q=>hk μ' br a b H' p x (l.to p x s) q (RK.mono h p x)
 |ex c br=>exact h
 |bad=>exact h
def SK(X:Cx)(μ:List Addr)(H:Hp)(D:wF):RS->Prop
 |.nx ρ st=>∀μ' σ' H',μ <+: μ'->db X.K H H'->Rl X μ' ρ st σ' H'->D.nx σ' H'
 |.bk ρ st=>∀μ' σ' H',μ <+: μ'->db X.K H H'->Rl X μ' ρ st σ' H'->D.bk σ' H'
 |.ct ρ st=>∀μ' σ' H',μ <+: μ'->db X.K H H'->Rl X μ' ρ st σ' H'->D.ct σ' H'
 |.rt w st=>∀μ' v H',μ <+: μ'->db X.K H H'->gB X.K X.mg μ' st H'->a8 X.K μ' H' w v->D.rt v H'
 |.ex c ρ st=>XS X c μ ρ st H
 |.bad=>False
theorem SK.mono{μ1:List Addr}{H1:Hp}{D:wF}{r:RS}(h:SK X μ H D r)(p:μ <+: μ1)(x:db X.K H H1):SK X μ1 H1 D r:=by
 cases r with
 |nx ρ st=>exact fun μ' b H' a1 b1=>h μ' b H' (p.trans a1) (x.trans b1)
 |bk ρ st=>exact fun μ' b H' a1 b1=>h μ' b H' (p.trans a1) (x.trans b1)
 |ct ρ st=>exact fun μ' b H' a1 b1=>h μ' b H' (p.trans a1) (x.trans b1)
 |rt w st=>exact fun μ' b H' a1 b1=>h μ' b H' (p.trans a1) (x.trans b1)
 |ex c ρ st=>exact XS.mono h p x
 |bad=>exact h
def Ru(X:Cx)(g:FS):TS:=fun D σ H=>∃μ ρ st,Rl X μ ρ st σ H/\SK X μ H D (g ρ st)
structure SE(X:Cx)(e:Expr)(f:FE):Prop where
 h:PE X e (tE X f)
structure ST(X:Cx)(e:Expr)(f:FT):Prop where
 h:PT X e (tT X f)
structure SW(X:Cx)(e:Expr)(f:FT):Prop where
 h:PW X e (tT X f)
structure SA(X:Cx)(es:List Expr)(f:FA):Prop where
 h:PA X es (Nk X f)
structure SS(X:Cx)(s:Stmt)(g:FS):Prop where
 h:PS X s (Ru X g)
structure SB(X:Cx)(s:List Stmt)(g:FS):Prop where
 h:yq X s (Ru X g)
theorem PE.imp{t t':TE}(h:PE X e t)(i:∀σ H Q,t' σ H Q->t σ H Q):PE X e t':=fun ac s σ H Q I q=>h ac s σ H Q I (i _ _ _ q)
theorem PT.imp{t t':TT}(h:PT X e t)(i:∀σ H Q,t' σ H Q->t σ H Q):PT X e t':=fun ac s σ H Q I q=>h ac s σ H Q I (i _ _ _ q)
theorem PW.imp{t t':TT}(h:PW X e t)(i:∀σ H Q,t' σ H Q->t σ H Q):PW X e t':=fun wh ac s σ H Q I q=>h wh ac s σ H Q I (i _ _ _ q)
theorem PA.imp{e:List Expr}{t t':TA}(h:PA X e t)(i:∀σ H Q,t' σ H Q->t σ H Q):PA X e t':=fun pos ac s σ H Q I q=>h pos ac s σ H Q I (i _ _ _ q)
theorem PS.imp{e:Stmt}{t t':TS}(h:PS X e t)(i:∀D σ H,t' D σ H->t D σ H):PS X e t':=fun ac s σ H D I q=>h ac s σ H D I (i _ _ _ q)
theorem yq.imp{e:List Stmt}{t t':TS}(h:yq X e t)(i:∀D σ H,t' D σ H->t D σ H):yq X e t':=fun ac s σ H D I q=>h ac s σ H D I (i _ _ _ q)
section
variable{a b:Expr}{dw:List Expr}{fa fb fc fe:FE}{ft fu:FT}{fs:FA}
def al(i:Nat):FE:=fun ρ st=>match ρ[i]? with
 |some (some w)=>.ok w st
 |_=>.bad
theorem aj(i:Nat){pos:Pos}(hN:X.N[i]?=some x:=by rfl)(hv:Mv X.env.scope x:=by first|exact Or.inl rfl|exact Or.inr (Or.inl rfl)|exact Or.inr (Or.inr rfl))(hd:(x==("__debug__":Str))=false:=by decide)
  (zG:(x==("__classdict__":Str))=false:=by decide):SE X (.Name x pos) (al i):=⟨(pv i hN hv hd zG).imp fun σ H Q h=>by
 obtain⟨μ,ρ,st,r,h⟩:=h
 unfold al at h
 cases e:ρ[i]? with
 |none=>rw[e]at h;exact h.elim
 |some ow=>
  cases ow with
  |none=>rw[e]at h;exact h.elim
  |some w=>
   rw[e]at h
   obtain⟨v,e1,e2⟩:=rT r.env e
   exact⟨v,e1,h μ v H (ae _) db.refl r.sto e2⟩⟩
def eC(w:W):FE:=fun _ st=>.ok w st
abbrev eI(n:Int):FE:=eC (.int n)
theorem Nl{w:W}(hc:PE X e (tC v))(hr:∀μ H,a8 X.K μ H w v):SE X e (eC w):=⟨hc.imp fun σ H Q h=>by
 obtain⟨μ,ρ,st,r,h⟩:=h
 exact h μ v H (ae _) db.refl r.sto (hr _ _)⟩
theorem aU{i:Int}:SE X (.Constant (.int i) j pos) (eC (.int i)):=Nl Ja fun _ _=>.int
theorem Bi{k:Bool}:SE X (.Constant (.bool k) j pos) (eC (.bl k)):=Nl Mx fun _ _=>.bl
theorem wU:SE X (.Constant .none j pos) (eC .non):=Nl Jb fun _ _=>.non
theorem uy(h:x=tx l:=by decide +kernel):SE X (.Constant (.str x) j pos) (eC (.str l)):=Nl Jc fun _ _=>by rw[h];exact .str
theorem Nm{w:W}(h:∃u v,X.mg x=some u/\bK v u/\∀μ H,a8 X.K μ H w v)(hg:Gl X x:=by rfl)(hd:(x==("__debug__":Str))=false:=by decide):SE X (.Name x pos) (eC w):=by
 obtain⟨u,v,a,b,c⟩:=h
 exact Nl (M7 ⟨u,a,b⟩ hg hd) c
def e2(f:W->W->List am->R W)(fa fb:FE):FE:=fun ρ st=>(fa ρ st).bind fun x st=>(fb ρ st).bind fun y st=>f x y st
def BU(X:Cx)(μ:List Addr)(H:Hp)(Q:VK):R W->Prop
 |.ok w br=>∀μ' v H',μ <+: μ'->db X.K H H'->gB X.K X.mg μ' br H'->a8 X.K μ' H' w v->Q v H'
 |_=>False
def qE:R α->Prop
 |.ex _ _=>False
 |_=>True
def Qx(X:Cx)(f:W->W->List am->R W):R2:=fun x y H Q=>∃μ st wx wy,gB X.K X.mg μ st H/\a8 X.K μ H wx x/\a8 X.K μ H wy y/\BU X μ H Q (f wx wy st)
structure tQ(X:Cx)(g:Value->Value->Sem Value)(f:W->W->List am->R W):Prop where
 h:kJ X g (Qx X f)
 n:∀x y st,qE (f x y st)
theorem pL{Q:VK}{r:R W}(h:RK X (nU X) μ σ H Q r)(n:qE r):BU X μ H Q r:=by
 cases r with
 |ok a st=>exact h
 |ex c st=>exact n.elim
 |bad=>exact h
theorem Ab{f:W->W->List am->R W}{Q:VK}(n:∀x y st,qE (f x y st))(h:tE X (e2 f fa fb) σ H Q):MK (Qx X f) (tE X fa) (tE X fb) σ H Q:=by
 obtain⟨μ,ρ,st,l,h⟩:=h
 refine⟨μ,ρ,st,l,RK.bind h l fun μ1 st1 x v H1 p1 x1 l1 q1 h1=>⟨μ1,ρ,st1,l1,RK.bind h1 l1 fun μ2 dq y u H2 p2 x2 l2 q2 h2=>?_⟩⟩
 exact⟨μ2,dq,x,y,l2.sto,q1.mono p2 x2,q2,pL h2 (n _ _ _)⟩
theorem b9{op:Operator}{f:W->W->List am->R W}(ho:tQ X (binaryOp op) f)(ha:SE X a fa)(hb:SE X b fb):SE X (.BinOp a op b pos) (e2 f fa fb):=⟨(ML ho.h ha.h hb.h).imp fun _ _ _ h=>Ab ho.n h⟩
theorem uz{f:W->W->List am->R W}(ho:tQ X (compareOp op) f)(ha:SE X a fa)(hb:SE X b fb)(hm:behindInMarks op b=false:=by first|exact B6 _|rfl):SE X (.Compare a [op] [b] pos) (e2 f fa fb):=⟨(FM ho.h ha.h hb.h hm).imp fun _ _ _ h=>Ab ho.n h⟩
def jJ(fa:FE):FT:=fun ρ st=>(fa ρ st).bind fun x st=>match x with
 |.bl k=>.ok k st
 |_=>.bad
theorem oB{Q:Bool->Hp->Prop}(h:tT X (jJ fa) σ H Q):tE X fa σ H fun x H1=>∃k,x=.bl k/\Q k H1:=by
 obtain⟨μ,ρ,st,l,h⟩:=h
 refine⟨μ,ρ,st,l,RK.bind h l fun μ1 st1 x v H1 p1 x1 l1 q1 h1=>?_⟩
 cases x with
 |bl k=>exact⟨k,q1.blE,h1 μ1 k H1 (ae _) db.refl l1.sto rfl⟩
 |_=>exact h1.elim
theorem gG{f:W->W->List am->R W}(ho:tQ X (compareOp op) f)(ha:SE X a fa)(hb:SE X b fb)(hm:behindInMarks op b=false:=by first|exact B6 _|rfl):ST X (.Compare a [op] [b] pos) (jJ (e2 f fa fb)):=⟨(FN ho.h ha.h hb.h hm).imp fun σ H Q h=>by
 have h':tE X (e2 f fa fb) σ H fun x H1=>∃k,x=.bl k/\Q k H1:=oB h
 exact Ab ho.n h'⟩
theorem kB(h:SE X e fe)(he:∀qx,isTrue e X.env qx=(do let v <- qx;standAt e.pos;holding [v] (truthy v)):=by intro _;rfl):ST X e (jJ fe):=⟨(Je h.h he).imp fun σ H Q h=>oB h⟩
def J4(t u:FT):FT:=fun ρ st=>(t ρ st).bind fun k st=>if k then u ρ st else .ok false st
def J5(t u:FT):FT:=fun ρ st=>(t ρ st).bind fun k st=>if k then .ok true st else u ρ st
def Hz(t:FT):FT:=fun ρ st=>(t ρ st).bind fun k st=>.ok (!k) st
theorem Gh(ha:ST X a ft):SW X (.BoolOp .And [a] pos) ft:=⟨Fx ha.h⟩
theorem J6(ha:ST X a ft):SW X (.BoolOp .Or [a] pos) ft:=⟨Jf ha.h⟩
theorem J7(ha:ST X a ft)(hb:SW X (.BoolOp .And (b::dw) pos) fu):SW X (.BoolOp .And (a::b::dw) pos) (J4 ft fu):=⟨(Jg ha.h hb.h).imp fun σ H Q h=>by
 obtain⟨μ,ρ,st,l,h⟩:=h
 refine⟨μ,ρ,st,l,RK.bind h l fun μ1 st1 x v H1 p1 x1 l1 q1 h1=>?_⟩
 cases q1
 cases x with
 |true=>exact⟨μ1,ρ,st1,l1,h1⟩
 |false=>exact h1 μ1 false H1 (ae _) db.refl l1.sto rfl⟩
theorem Nn(ha:ST X a ft)(hb:SW X (.BoolOp .Or (b::dw) pos) fu):SW X (.BoolOp .Or (a::b::dw) pos) (J5 ft fu):=⟨(Mz ha.h hb.h).imp fun σ H Q h=>by
 obtain⟨μ,ρ,st,l,h⟩:=h
 refine⟨μ,ρ,st,l,RK.bind h l fun μ1 st1 x v H1 p1 x1 l1 q1 h1=>?_⟩
 cases q1
 cases x with
 |false=>exact⟨μ1,ρ,st1,l1,h1⟩
 |true=>exact h1 μ1 true H1 (ae _) db.refl l1.sto rfl⟩
theorem No(h:SW X e ft):ST X e ft:=⟨h.h.pt⟩
theorem vi(ha:ST X a ft):ST X (.UnaryOp .Not a pos) (Hz ft):=⟨(Jh ha.h).imp fun σ H Q h=>by
 obtain⟨μ,ρ,st,l,h⟩:=h
 refine⟨μ,ρ,st,l,RK.bind h l fun μ1 st1 x v H1 p1 x1 l1 q1 h1=>?_⟩
 cases q1
 exact h1 μ1 _ H1 (ae _) db.refl l1.sto rfl⟩
def wV(fa fb:FE):FE:=fun ρ st=>(fa ρ st).bind fun x st=>match x with
 |.bl true=>fb ρ st
 |.bl false=>.ok (.bl false) st
 |_=>.bad
def CF(fa:FE):FE:=fun ρ st=>(fa ρ st).bind fun x st=>match x with
 |.bl k=>.ok (.bl (!k)) st
 |_=>.bad
theorem Ac{op:BoolOp}(h:SE X a fa):SE X (.BoolOp op [a] pos) fa:=⟨Ji h.h⟩
theorem wW(ha:SE X a fa)(hb:SE X (.BoolOp .And (b::dw) pos) fb):SE X (.BoolOp .And (a::b::dw) pos) (wV fa fb):=⟨(Jj ha.h hb.h).imp fun σ H Q h=>by
 obtain⟨μ,ρ,st,l,h⟩:=h
 refine⟨μ,ρ,st,l,RK.bind h l fun μ1 st1 x v H1 p1 x1 l1 q1 h1=>?_⟩
 cases x with
 |bl k=>
  refine⟨k,q1.blE,?_⟩
  cases k with
  |true=>exact⟨μ1,ρ,st1,l1,h1⟩
  |false=>exact h1 μ1 _ H1 (ae _) db.refl l1.sto .bl
 |_=>exact h1.elim⟩
theorem HA(ha:SE X a fa):SE X (.UnaryOp .Not a pos) (CF fa):=⟨(Jk ha.h).imp fun σ H Q h=>by
 obtain⟨μ,ρ,st,l,h⟩:=h
 refine⟨μ,ρ,st,l,RK.bind h l fun μ1 st1 x v H1 p1 x1 l1 q1 h1=>?_⟩
 cases x with
 |bl k=>exact⟨k,q1.blE,h1 μ1 _ H1 (ae _) db.refl l1.sto .bl⟩
 |_=>exact h1.elim⟩
def BV(t:FT)(fa fb:FE):FE:=fun ρ st=>(t ρ st).bind fun k st=>if k then fa ρ st else fb ρ st
theorem CG(hc:ST X c ft)(ha:SE X a fa)(hb:SE X b fb):SE X (.IfExp c a b pos) (BV ft fa fb):=⟨(B1 hc.h ha.h hb.h).imp fun σ H Q h=>by
 obtain⟨μ,ρ,st,l,h⟩:=h
 refine⟨μ,ρ,st,l,RK.bind h l fun μ1 st1 x v H1 p1 x1 l1 q1 h1=>?_⟩
 cases q1
 cases x with
 |false=>exact⟨μ1,ρ,st1,l1,h1⟩
 |true=>exact⟨μ1,ρ,st1,l1,h1⟩⟩
def W.isNon:W->Bool
 |.non=>true
 |_=>false
def wX(fa:FE):FE:=fun ρ st=>(fa ρ st).bind fun x st=>.ok (.bl x.isNon) st
def oE(fa:FE):FE:=fun ρ st=>(fa ρ st).bind fun x st=>.ok (.bl (!x.isNon)) st
theorem HB{w:W}(r:a8 X.K μ H w v):decide (v=.non)=w.isNon:=by
 cases w with
 |non=>rw[r.nonE];rfl
 |bl b=>rw[r.blE];rfl
 |int b=>rw[r.intE];rfl
 |str b=>rw[r.strE];rfl
 |tup b=>obtain⟨p,vs,rfl,_⟩:=r.tupE;rfl
 |loc b=>obtain⟨p,_,rfl⟩:=r.locE;rfl
theorem HC{Q:VK}(h:tE X (wX fa) σ H Q):My (tE X fa) σ H Q:=by
 obtain⟨μ,ρ,st,l,h⟩:=h
 refine⟨μ,ρ,st,l,RK.bind h l fun μ1 st1 x v H1 p1 x1 l1 q1 h1=>?_⟩
 show Q (.bl (decide (v=.non))) H1
 rw[HB q1]
 exact h1 μ1 _ H1 (ae _) db.refl l1.sto .bl
theorem J8{Q:VK}(h:tE X (oE fa) σ H Q):Hl (tE X fa) σ H Q:=by
 obtain⟨μ,ρ,st,l,h⟩:=h
 refine⟨μ,ρ,st,l,RK.bind h l fun μ1 st1 x v H1 p1 x1 l1 q1 h1=>?_⟩
 show Q (.bl (!decide (v=.non))) H1
 rw[HB q1]
 exact h1 μ1 _ H1 (ae _) db.refl l1.sto .bl
theorem Np(ha:SE X a fa):SE X (.Compare a [.Is] [.Constant .none j gy] pos) (wX fa):=⟨(Jd (BZ ha.h)).imp fun _ _ _ h=>HC h⟩
theorem CH(ha:SE X a fa):ST X (.Compare a [.Is] [.Constant .none j gy] pos) (jJ (wX fa)):=⟨(B0 (BZ ha.h)).imp fun _ _ _ h=>HC (oB h)⟩
theorem q9(ha:SE X a fa):ST X (.Compare a [.IsNot] [.Constant .none j gy] pos) (jJ (oE fa)):=⟨(B0 (Fw ha.h)).imp fun _ _ _ h=>J8 (oB h)⟩
def aK:FA:=fun _ st=>.ok [] st
def au(fa:FE)(fs:FA):FA:=fun ρ st=>(fa ρ st).bind fun x st=>(fs ρ st).bind fun xs st=>.ok (x::xs) st
theorem ax:SA X [] aK:=⟨B_.imp fun σ H Q h=>by
 obtain⟨μ,ρ,st,l,h⟩:=h
 exact h μ [] H (ae _) db.refl l.sto .nilI⟩
theorem ak(ha:SE X e fe)(hr:SA X es fs)(hs:starEach (e::es) X.env=(false,eval e X.env)::starEach es X.env:=by rfl):SA X (e::es) (au fe fs):=⟨(u9 ha.h hr.h hs).imp fun σ H Q h=>by
 obtain⟨μ,ρ,st,l,h⟩:=h
 refine⟨μ,ρ,st,l,RK.bind h l fun μ1 st1 x v H1 p1 x1 l1 q1 h1=>⟨μ1,ρ,st1,l1,RK.bind h1 l1 fun μ2 dq xs vs H2 p2 x2 l2 q2 h2=>?_⟩⟩
 exact h2 μ2 _ H2 (ae _) db.refl l2.sto (.consI (q1.mono p2 x2) q2)⟩
def Nq(zs:List (List Nat)):FA:=fun _ st=>.ok (zs.map W.str) st
def nC(ws:List W)(st:List am):R W:=if ws.length<=kI then .ok (.tup ws) st else .bad
def jp(ws:List W)(st:List am):R W:=if ws.length<=kI then .ok (.loc st.length) (st++[.lst ws])else .bad
def pM(fs:FA):FE:=fun ρ st=>(fs ρ st).bind fun ws st=>nC ws st
def mD(fs:FA):FE:=fun ρ st=>(fs ρ st).bind fun ws st=>jp ws st
theorem gB.newLst(S:gB K mg μ st H){p:Addr}(hp:H p=none)(r:RelWs K μ H ws vs):gB K mg (μ++[p]) (st++[.lst ws]) (da H p (.lst vs)):=
 S.push hp ⟨vs,c5,r.mono (aW _ _) (dW.same (bP hp _))⟩
theorem rW(S:gB K mg μ st H){p:Addr}:a8 K (μ++[p]) H' (.loc st.length) (.ref p):=.locI (by rw[S.len];simp)
theorem CI{Q:VK}(S:gB X.K X.mg μ st H)(q:RelWs X.K μ H ws vs)(h:RK X (nU X) μ σ H Q (nC ws st)):vs.length<=sizeLine/\∀p H2,H p=none->H2=da H p (.tup vs)->Q (.ref p) H2:=by
 unfold nC at h
 by_cases hz:ws.length<=kI
 ·rw[aw hz]at h
  refine⟨by rw[<- q.len];exact ly hz,fun p H2 hp e=>?_⟩
  subst e
  have x:=dW.same (K:=X.K) (bP hp (.tup vs))
  exact h μ _ _ (ae _) x (S.same (bP hp _)) (.tupI dW.new (q.mono (ae _) x))
 ·rw[ay hz]at h;exact h.elim
theorem mR{σ:St}{Q:VK}(S:gB X.K X.mg μ st H)(q:RelWs X.K μ H ws vs)(h:RK X (nU X) μ σ H Q (jp ws st)):vs.length<=sizeLine/\∀p H2,H p=none->H2=da H p (.lst vs)->Q (.ref p) H2:=by
 unfold jp at h
 by_cases hz:ws.length<=kI
 ·rw[aw hz]at h
  refine⟨by rw[<- q.len];exact ly hz,fun p H2 hp e=>?_⟩
  subst e
  exact h (μ++[p]) _ _ (aW _ _) (dW.same (bP hp _)) (S.newLst hp q) (rW S)
 ·rw[ay hz]at h;exact h.elim
theorem oF{k:Nat}(h:SA X es fs):SE X (.Tuple es k pos) (pM fs):=⟨(F8 h.h).imp fun σ H Q h=>by
 obtain⟨μ,ρ,st,l,h⟩:=h
 exact⟨μ,ρ,st,l,RK.bind h l fun μ1 st1 x v H1 p1 x1 l1 q1 h1=>CI l1.sto q1 h1⟩⟩
theorem j7(h:SA X es fs):SE X (.List es pos) (mD fs):=⟨(F9 h.h).imp fun σ H Q h=>by
 obtain⟨μ,ρ,st,l,h⟩:=h
 exact⟨μ,ρ,st,l,RK.bind h l fun μ1 st1 x v H1 p1 x1 l1 q1 h1=>mR l1.sto q1 h1⟩⟩
end
section
theorem lA{Q:VK}{i:Int}(S:gB X.K X.mg μ st H)(h:BU X μ H Q (.ok (.int i) st)):Q (.int i) H:=h μ _ H (ae _) db.refl S .int
theorem lB{Q:VK}{i:Bool}(S:gB X.K X.mg μ st H)(h:BU X μ H Q (.ok (.bl i) st)):Q (.bl i) H:=h μ _ H (ae _) db.refl S .bl
theorem oG{Q:VK}{i:List Nat}(S:gB X.K X.mg μ st H)(h:BU X μ H Q (.ok (.str i) st)):Q (.str (tx i)) H:=h μ _ H (ae _) db.refl S .str
theorem J9{Q:VK}{r:R W}(h:BU X μ H Q r):RK X (nU X) μ σ H Q r:=by
 cases r with
 |ok a st=>exact h
 |ex c st=>exact h.elim
 |bad=>exact h
def Bj(C:Int->Int->Prop)[∀i j,Decidable (C i j)](f:Int->Int->Int):W->W->List am->R W
 |.int i,.int j,st=>if C i j then .ok (.int (f i j)) st else .bad
 |_,_,_=>.bad
theorem wY{C C':Int->Int->Prop}[∀i j,Decidable (C' i j)]{f:Int->Int->Int}(h:kJ X g (rI C fun i j=>.int (f i j)))(hC:∀i j,C' i j->C i j):tQ X g (Bj C' f):=⟨h.imp fun x y H Q ⟨μ,st,wx,wy,S,rx,ry,q⟩=>by
 cases wx with
 |int i=>
  cases wy with
  |int j=>
   simp only[Bj]at q
   by_cases c:C' i j
   ·rw[aw c]at q;exact⟨i,j,rx.intE,ry.intE,hC i j c,lA S q⟩
   ·rw[ay c]at q;exact q.elim
  |_=>exact q.elim
 |_=>cases wy<;>exact q.elim,fun x y st=>by
 unfold Bj
 split
 ·split<;>trivial
 ·trivial⟩
def Bk(f:Int->Int->Bool):W->W->List am->R W
 |.int i,.int j,st=>.ok (.bl (f i j)) st
 |_,_,_=>.bad
theorem CJ{f:Int->Int->Bool}(h:kJ X g (Fi fun i j=>.bl (f i j))):tQ X g (Bk f):=⟨h.imp fun x y H Q ⟨μ,st,wx,wy,S,rx,ry,q⟩=>by
 cases wx with
 |int i=>
  cases wy with
  |int j=>exact⟨i,j,rx.intE,ry.intE,lB S q⟩
  |_=>exact q.elim
 |_=>cases wy<;>exact q.elim,fun x y st=>by
 unfold Bk
 split<;>trivial⟩
abbrev J_(i j:Int):Prop:=(-(2^64)<i/\i<2^64)\/(-(2^64)<j/\j<2^64)
abbrev qF:=Bj (fun _ _=>True) fun i j=>i-j
abbrev Nr:=Bj J_ fun i j=>i*j
abbrev nV:=Bj (fun _ j=>0<j) fun i j=>i%j
abbrev Ad:=Bj (fun _ j=>0<j/\j<1073741824) fun i j=>i/j
abbrev Nt:=Bj (fun i j=>0<=j/\j<=1000000/\i.natAbs<2^64) fun i j=>i^j.toNat
abbrev rX:=Bj (fun i j=>0<=j/\j<=1000000/\i.natAbs<2^64) fun i j=>i*2^j.toNat
abbrev yU:=Bj (fun _ j=>0<=j) fun i j=>i/2^j.toNat
abbrev wZ:=Bj (fun _ _=>True) fun i j=>Builtin.bitAnd i j
theorem CK{f:Int->Int->V}(h:kJ X g (Fi f)):kJ X g (rI (fun _ _=>True) f):=h.imp fun _ _ _ _ ⟨i,j,a,b,_,q⟩=>⟨i,j,a,b,q⟩
theorem qi:tQ X (binaryOp .Sub) qF:=wY (CK Jy) fun _ _ _=>trivial
theorem Nu:tQ X (binaryOp .Mult) Nr:=wY Jz fun _ _ h=>h
theorem mS:tQ X (binaryOp .Mod) nV:=wY JA fun _ _ h=>h
theorem CL:tQ X (binaryOp .FloorDiv) Ad:=wY FL fun _ _ h=>h
theorem Nv:tQ X (binaryOp .Pow) Nt:=wY JB fun _ _ h=>h
theorem CM:tQ X (binaryOp .LShift) rX:=wY B4 fun _ _ h=>h
theorem HD:tQ X (binaryOp .RShift) yU:=wY JC fun _ _ h=>h
theorem CN:tQ X (binaryOp .BitAnd) wZ:=wY (CK JD) fun _ _ _=>trivial
def fD:W->W->List am->R W
 |.int i,.int j,st=>.ok (.int (i+j)) st
 |.str a,.str b,st=>if a.length+b.length<=kI then .ok (.str (a++b)) st else .bad
 |.tup a,.tup b,st=>nC (a++b) st
 |.loc n,.loc m,st=>match st[n]?,st[m]? with
  |some (.lst a),some (.lst b)=>jp (a++b) st
  |_,_=>.bad
 |_,_,_=>.bad
theorem Gi(ws:List W)(st:List am):qE (nC ws st):=by unfold nC;split<;>trivial
theorem Gj(ws:List W)(st:List am):qE (jp ws st):=by unfold jp;split<;>trivial
theorem fC:tQ X (binaryOp .Add) fD:=⟨fun ac s σ H x y v u Q I rv ru ⟨μ,st,wx,wy,S,rx,ry,q⟩=>by
 cases wx with
 |int i=>
  cases wy with
  |int j=>exact Jx ac s σ H x y v u Q I rv ru ⟨i,j,rx.intE,ry.intE,lA S q⟩
  |_=>exact q.elim
 |str a=>
  cases wy with
  |str b=>
   simp only[fD]at q
   by_cases c:a.length+b.length<=kI
   ·rw[aw c]at q
    exact yz ac s σ H x y v u Q I rv ru ⟨_,_,rx.strE,ry.strE,by rw[hG,hG];exact ly c,by rw[yL];exact oG S q⟩
   ·rw[ay c]at q;exact q.elim
  |_=>exact q.elim
 |tup a=>
  cases wy with
  |tup b=>
   obtain⟨p1,vs1,rfl,h1,r1⟩:=rx.tupE
   obtain⟨p2,vs2,rfl,h2,r2⟩:=ry.tupE
   have q':BU X μ H Q (nC (a++b) st):=q
   unfold nC at q'
   by_cases c:(a++b).length<=kI
   ·rw[aw c]at q'
    refine J1.h ac s σ H _ _ v u Q I rv ru ⟨p1,p2,vs1,vs2,rfl,rfl,h1,h2,by rw[<- r1.len,<- r2.len,<- bi];exact ly c,fun p H2 e t=>?_⟩
    exact q' μ _ _ (ae _) (dW.same e) (S.same e) (.tupI t ((r1.app r2).mono (ae _) (dW.same e)))
   ·rw[ay c]at q';exact q'.elim
  |_=>exact q.elim
 |loc n=>
  cases wy with
  |loc m=>
   simp only[fD]at q
   cases e1:st[n]? with
   |none=>rw[e1]at q;exact q.elim
   |some c1=>
    cases e2:st[m]? with
    |none=>rw[e1,e2]at q;cases c1<;>exact q.elim
    |some c2=>
     cases c1 with
     |lst a=>
      cases c2 with
      |lst b=>
       rw[e1,e2]at q
       obtain⟨a1,g1,vs1,k1,r1⟩:=S.get e1
       obtain⟨a2,g2,vs2,k2,r2⟩:=S.get e2
       obtain⟨b1,f1,rfl⟩:=rx.locE
       obtain⟨b2,f2,rfl⟩:=ry.locE
       rw[g1]at f1;cases f1
       rw[g2]at f2;cases f2
       obtain⟨hz,qq⟩:=mR (σ:=σ) S (r1.app r2) (J9 q)
       exact F' ac s σ H _ _ v u Q I rv ru ⟨a1,a2,vs1,vs2,rfl,rfl,k1,k2,by rw[<- bi];exact hz,qq⟩
      |_=>rw[e1,e2]at q;exact q.elim
     |_=>rw[e1,e2]at q;exact q.elim
  |_=>exact q.elim
 |_=>cases wy<;>exact q.elim,fun x y st=>by
 unfold fD
 split
 ·trivial
 ·split<;>trivial
 ·exact Gi _ _
 ·split
  ·exact Gj _ _
  ·trivial
 ·trivial⟩
abbrev Nw:=Bk fun i j=>decide (i<j)
abbrev CO:=Bk fun i j=>decide (j<i)
abbrev Rv:=Bk fun i j=>decide (j<=i)
theorem w_lt:tQ X (compareOp .Lt) Nw:=CJ MN
theorem yV:tQ X (compareOp .Gt) CO:=CJ MO
theorem Qy:tQ X (compareOp .GtE) Rv:=CJ MP
end
mutual
def ju:W->W->Option Bool
 |.non,.non=>some true
 |.bl a,.bl b=>some (a==b)
 |.bl a,.int b=>some ((if a then 1 else 0)==b)
 |.int a,.bl b=>some (a==(if b then 1 else 0))
 |.int a,.int b=>some (a==b)
 |.str a,.str b=>some (a==b)
 |.tup a,.tup b=>eqWs a b
 |.loc _,_=>none
 |.non,.loc _=>none
 |.bl _,.loc _=>none
 |.int _,.loc _=>none
 |.str _,.loc _=>none
 |.tup _,.loc _=>none
 |.non,.bl _=>some false
 |.non,.int _=>some false
 |.non,.str _=>some false
 |.non,.tup _=>some false
 |.bl _,.non=>some false
 |.bl _,.str _=>some false
 |.bl _,.tup _=>some false
 |.int _,.non=>some false
 |.int _,.str _=>some false
 |.int _,.tup _=>some false
 |.str _,.non=>some false
 |.str _,.bl _=>some false
 |.str _,.int _=>some false
 |.str _,.tup _=>some false
 |.tup _,.non=>some false
 |.tup _,.bl _=>some false
 |.tup _,.int _=>some false
 |.tup _,.str _=>some false
def eqWs:List W->List W->Option Bool
 |[],[]=>some true
 |[],_::_=>some false
 |_::_,[]=>some false
 |x::xs,y::ys=>match ju x y,eqWs xs ys with
  |some a,some b=>some (a&&b)
  |_,_=>none
end
mutual
def W.dep:W->Nat
 |.tup ws=>depWs ws+1
 |_=>0
def depWs:List W->Nat
 |[]=>0
 |w::ws=>max w.dep (depWs ws)
end
theorem nX:∀(xs ys:List W) (b:Bool),eqWs xs ys=some b->∃e:Nat->Bool,(∀j (h1:j<xs.length) (h2:j<ys.length),ju xs[j] ys[j]=some (e j))/\((List.range (min xs.length ys.length)).all e&&xs.length==ys.length)=b
 |[],[],b,h=>by unfold eqWs at h;cases h;exact⟨fun _=>true,fun j h1=>absurd h1 (mw _),rfl⟩
 |[],y::ys,b,h=>by unfold eqWs at h;cases h;exact⟨fun _=>true,fun j h1=>absurd h1 (mw _),by simp⟩
 |x::xs,[],b,h=>by unfold eqWs at h;cases h;exact⟨fun _=>true,fun j _ h1=>absurd h1 (mw _),by simp⟩
 |x::xs,y::ys,b,h=>by
  unfold eqWs at h
  cases e1:ju x y with
  |none=>rw[e1]at h;simp at h
  |some a=>
   cases e2:eqWs xs ys with
   |none=>rw[e1,e2]at h;simp at h
   |some c=>
    rw[e1,e2]at h
    simp at h
    obtain⟨e,he,hb⟩:=nX xs ys c e2
    refine⟨fun j=>match j with|0=>a|j+1=>e j,fun j h1 h2=>?_,?_⟩
    ·cases j with
     |zero=>exact e1
     |succ j=>exact he j (iI h1) (iI h2)
    ·have m:min (x::xs).length (y::ys).length=min xs.length ys.length+1:=by simp only[a9];omega
     rw[m,fS,List.all_cons,List.all_map,<- h,<- hb]
     simp[fm,Bool.and_assoc]
theorem Ae{a b:W}{x:V}{k:Bool}(hn:a.dep<=0)(ra:a8 X.K μ H a x)(rb:a8 X.K μ H b x)(he:ju a b=some k):k=true:=by
 cases a with
 |tup i=>unfold W.dep at hn;omega
 |non=>cases ra.nonE;cases b<;>first|(unfold ju at he;cases he;rfl)|cases rb.blE|cases rb.intE|cases rb.strE|(obtain⟨_,_,z,_⟩:=rb.tupE;cases z)|(unfold ju at he;cases he)
 |bl i=>cases ra.blE;cases b<;>first|(cases rb.blE;unfold ju at he;simp at he;exact he)|cases rb.nonE|cases rb.intE|cases rb.strE|(obtain⟨_,_,z,_⟩:=rb.tupE;cases z)|(unfold ju at he;cases he)
 |int i=>cases ra.intE;cases b<;>first|(cases rb.intE;unfold ju at he;simp at he;exact he)|cases rb.nonE|cases rb.blE|cases rb.strE|(obtain⟨_,_,z,_⟩:=rb.tupE;cases z)|(unfold ju at he;cases he)
 |str i=>cases ra.strE;cases b<;>first|(have z:=rb.strE;injection z with z;rw[Cn.mp z]at he;unfold ju at he;simp at he;exact he)|cases rb.nonE|cases rb.blE|cases rb.intE|(obtain⟨_,_,z,_⟩:=rb.tupE;cases z)|(unfold ju at he;cases he)
 |loc i=>cases b<;>(unfold ju at he;cases he)
theorem CP(I:bb X ac σ H s):∀(n:Nat) (a b:W) (x:V) (k:Bool),a.dep<=n->a8 X.K μ H a x->a8 X.K μ H b x->ju a b=some k->k=true:=by
 intro n
 induction n with
 |zero=>exact fun a b x k hn ra rb he=>Ae hn ra rb he
 |succ n ih=>
  intro a b x k hn ra rb he
  cases a with
  |tup i=>
   obtain⟨p',wn,rfl,hS',r'⟩:=ra.tupE
   cases b with
   |tup z=>
    obtain⟨p,vs,e,hS,r⟩:=rb.tupE
    cases e
    obtain rfl:=I.tuple_inj hS hS'
    have he':eqWs i z=some k:=by unfold ju at he;exact he
    have dn:depWs i<=n:=by unfold W.dep at hn;omega
    have key:∀(i z:List W) (vs:List V) (k:Bool),depWs i<=n->RelWs X.K μ H i vs->RelWs X.K μ H z vs->eqWs i z=some k->k=true:=by
     intro i
     induction i with
     |nil=>
      intro z vs k _ r' r he
      have e1:=r'.nilE
      subst e1
      cases z with
      |nil=>unfold eqWs at he;cases he;rfl
      |cons _ _=>have e2:=r.len;simp at e2
     |cons w i ih2=>
      intro z vs k dn r' r he
      obtain⟨x,xs,rfl,rx,rxs⟩:=r'.consE
      cases z with
      |nil=>have e2:=r.len;simp at e2
      |cons y z=>
       obtain⟨x2,xs2,e3,ry,rys⟩:=r.consE
       cases e3
       unfold eqWs at he
       cases e1:ju w y with
       |none=>rw[e1]at he;simp at he
       |some k1=>
        cases e2:eqWs i z with
        |none=>rw[e1,e2]at he;simp at he
        |some k2=>
         rw[e1,e2]at he
         simp at he
         unfold depWs at dn
         have q1:=ih w y x k1 (by omega) rx ry e1
         have q2:=ih2 z xs k2 (by omega) rxs rys e2
         rw[<- he,q1,q2];rfl
    exact key i z _ k dn r' r he'
   |non=>cases rb.nonE
   |bl z=>cases rb.blE
   |int z=>cases rb.intE
   |str z=>cases rb.strE
   |loc z=>unfold ju at he;cases he
  |_=>exact Ae (av _) ra rb he
theorem pN:∀{ws:List W} {j:Nat} (h:j<ws.length),ws[j].dep<=depWs ws
 |w::ws,0,_=>by unfold depWs;exact Nat.le_max_left _ _
 |w::ws,j+1,h=>by unfold depWs;exact aQ (pN (j:=j) (iI h)) (Nat.le_max_right _ _)
inductive Sh(s:Shared):W->Value->Prop
 |non:Sh s .non .none
 |bl (b:Bool):Sh s (.bl b) (.bool b)
 |int (i:Int) (t:Tok):Sh s (.int i) (.int i t)
 |str (l:List Nat) (t:Tok):Sh s (.str l) (.str (tx l) t)
 |tup (ws:List W) (p:Addr) (bd:List Value) (h:IsTup s.heap p bd.toArray):Sh s (.tup ws) (.ref p)
 |loc (n:Nat) (u:Value):Sh s (.loc n) u
section
theorem qj(I:bb X ac σ H s){a:W}{x:V}(ra:a8 X.K μ H a x)(ru:bK x u):Sh s a u:=by
 cases a with
 |non=>cases ra.nonE;cases ru;exact .non
 |bl i=>cases ra.blE;cases ru;exact .bl _
 |int i=>cases ra.intE;obtain⟨t,rfl⟩:=ru;exact .int _ _
 |str i=>cases ra.strE;obtain⟨t,rfl⟩:=ru;exact .str _ _
 |tup i=>obtain⟨p,vs,rfl,hS,_⟩:=ra.tupE;cases ru;obtain⟨bd,_,ht,_⟩:=I.tuple hS;exact .tup _ _ _ ht
 |loc i=>exact .loc _ _
open SeqAt.EqAt in
theorem Af{a b:W}{v:Value}{k:Bool}(ha:Sh s a u)(hb:Sh s b v)(hu:A.units<cLine)(ht:b.dep=0\/a.dep=0)(he:ju a b=some k):SeqAt.EqAt A s u v k:=by
 cases ha<;>cases hb<;>first
  |(unfold ju at he;cases he;done)
  |(unfold ju at he;cases he;with_reducible first|exact same _|exact bool_none _|exact bool_bool _ _|exact bool_int _ _ _|exact bool_str _ _ _|exact int_none _ _|exact int_bool _ _ _|exact int_int _ _ _ _|exact int_str _ _ _ _|exact str_none _ _|exact str_bool _ _ _|exact str_int _ _ _ _|exact none_bool _|exact none_int _ _|exact none_str _ _)
  |(unfold ju at he;cases he;(with_reducible first|refine' bool_tuple _ ?_ hu|refine' int_tuple _ _ ?_ hu|refine' str_tuple _ _ ?_ hu|refine' tuple_none ?_ hu|refine' tuple_bool _ ?_ hu|refine' tuple_int _ _ ?_ hu|refine' tuple_str _ _ ?_ hu|refine' none_tuple ?_ hu);rotate_left;assumption)
  |(unfold W.dep at ht;omega)
  |skip
 rename_i i t z r
 unfold ju at he;cases he
 have:=str_str (A:=A) (s:=s) (tx i) t (tx z) r
 rw[<- nO]at this
 exact this
open SeqAt.RcAt in
theorem Gk{a b:W}{v:Value}{k:Bool}(ha:Sh s a u)(hb:Sh s b v)(hu:A.units<cLine)(ht:b.dep=0\/a.dep=0)(he:ju a b=some k):SeqAt.RcAt A s u v k:=by
 cases ha<;>cases hb<;>first
  |(unfold ju at he;cases he;done)
  |(unfold ju at he;cases he;with_reducible first|exact none_none|exact bool_none _|exact bool_bool _ _|exact bool_int _ _ _|exact bool_str _ _ _|exact int_none _ _|exact int_bool _ _ _|exact int_int _ _ _ _|exact int_str _ _ _ _|exact str_none _ _|exact str_bool _ _ _|exact str_int _ _ _ _|exact none_bool _|exact none_int _ _|exact none_str _ _)
  |(unfold ju at he;cases he;(with_reducible first|refine' bool_tuple _ ?_ hu|refine' int_tuple _ _ ?_ hu|refine' str_tuple _ _ ?_ hu|refine' tuple_none ?_ hu|refine' tuple_bool _ ?_ hu|refine' tuple_int _ _ ?_ hu|refine' tuple_str _ _ ?_ hu|refine' none_tuple ?_ hu);rotate_left;assumption)
  |(unfold W.dep at ht;omega)
  |skip
 rename_i i t z r
 unfold ju at he;cases he
 have:=str_str (A:=A) (s:=s) (tx i) t (tx z) r
 rw[<- nO]at this
 exact this
open SeqAt.RcNeAt in
theorem Bm         {a b:W} {v:Value} {k:Bool} (ha : Sh s a u) (hb : Sh s b v) (hu : A.units < cLine) (ht : b.dep = 0 \/ a.dep = 0) (he : ju  a b = some k) : SeqAt.RcNeAt A s u v (!k) := by
  cases ha <;> cases hb <;> first
    | (unfold ju  at he; cases he; done)
    | (unfold ju  at he; cases he; try simp only [du           , jT            ]
       with_reducible first | exact none_none | exact bool_none _ | exact bool_bool _ _ | exact bool_int _ _ _ | exact bool_str _ _ _ | exact int_none _ _ | exact int_bool _ _ _ | exact int_int _ _ _ _ | exact int_str _ _ _ _ | exact str_none _ _ | exact str_bool _ _ _ | exact str_int _ _ _ _ | exact none_bool _ | exact none_int _ _ | exact none_str _ _)
    | (unfold ju  at he; cases he; try simp only [du           , jT            ]
       (with_reducible first | refine' bool_tuple _ ?_ hu | refine' int_tuple _ _ ?_ hu | refine' str_tuple _ _ ?_ hu | refine' tuple_none ?_ hu | refine' tuple_bool _ ?_ hu | refine' tuple_int _ _ ?_ hu | refine' tuple_str _ _ ?_ hu | refine' none_tuple ?_ hu); rotate_left; assumption)
    | (unfold W.dep at ht; omega)
    | skip
  rename_i i t z r
  unfold ju  at he; cases he
  have := str_str (A := A) (s := s) (tx i) t (tx z) r
  rw [<- nO           ] at this
  exact this
theorem w4{i z:List W}{wn:List V}{bd its':List Value}{e:Nat->Bool}{A:Around}(ih:∀(a b:W) (A:Around) (x y:V) (u v:Value) (k:Bool),a.dep<=m->a8 X.K μ H a x->a8 X.K μ H b y->bK x u->bK y v->A.units+m<cLine->ju a b=some k->SeqAt.EqAt A s u v k)
  (r':RelWs X.K μ H i wn) (r:RelWs X.K μ H z vs) (w':bE wn its') (w:bE vs bd) (hd:depWs i<=m) (hu:A.units+1+m<cLine) (h1:∀j (h1:j<i.length) (h2:j<z.length),ju i[j] z[j]=some (e j)):∀j (j1:j<its'.toArray.size) (j2:j<bd.toArray.size),SeqAt.EqAt A.in1 s its'.toArray[j] bd.toArray[j] (e j):=fun j j1 j2=>by
 have j1':j<i.length:=by rw[r'.len,w'.length];simpa using j1
 have j2':j<z.length:=by rw[r.len,w.length];simpa using j2
 obtain⟨x1,g1,q1⟩:=r'.get (ag j1')
 obtain⟨x2,g2,q2⟩:=r.get (ag j2')
 obtain⟨u1,f1,v1⟩:=w'.get g1
 obtain⟨u2,f2,v2⟩:=w.get g2
 have E:=ih i[j] z[j] A.in1 x1 x2 u1 u2 (e j) (aQ (pN j1') hd) q1 q2 v1 v2 hu (h1 j j1' j2')
 have t1:its'.toArray[j]=u1:=by simpa using (ah.mp f1).2
 have t2:bd.toArray[j]=u2:=by simpa using (ah.mp f2).2
 rw[t1,t2];exact E
theorem CQ(I:bb X ac σ H s):∀(n:Nat) (a b:W) (A:Around) (x y:V) (u v:Value) (k:Bool),a.dep<=n->a8 X.K μ H a x->a8 X.K μ H b y->bK x u->bK y v->A.units+n<cLine->ju a b=some k->SeqAt.EqAt A s u v k:=by
 intro n
 induction n with
 |zero=>exact fun a b A x y u v k hn ra rb ru rv hu he=>Af (qj I ra ru) (qj I rb rv) hu (.inr (by omega)) he
 |succ m ih=>
  intro a b A x y u v k hn ra rb ru rv hu he
  by_cases hb:b.dep=0\/a.dep=0
  ·exact Af (qj I ra ru) (qj I rb rv) (by omega) hb he
  ·cases b with
   |tup z=>
    cases a with
    |tup i=>
     obtain⟨p',wn,rfl,hS',r'⟩:=id ra.tupE;cases ru;obtain⟨its',w',ht',_⟩:=I.tuple hS'
     obtain⟨p,vs,rfl,hS,r⟩:=id rb.tupE;cases rv;obtain⟨bd,w,ht,_⟩:=I.tuple hS
     by_cases hpp:p'=p
     ·subst hpp
      rw[CP I (m+1) (.tup i) (.tup z) (.ref p') k hn ra rb he]
      exact SeqAt.EqAt.same _
     ·obtain⟨e,h1,h2⟩:=nX i z k (by unfold ju at he;exact he)
      have R:=SeqAt.RcAt.tuples (A:=A) (e:=e) ht' ht (by omega) (w4 ih r' r w' w (by unfold W.dep at hn;omega) (by omega) h1)
      rw[show its'.toArray.size=i.length by simp[<- w'.length,<- r'.len],show bd.toArray.size=z.length by simp[<- w.length,<- r.len],h2]at R
      exact SeqAt.EqAt.of_refs hpp R
    |_=>exact(hb (.inr rfl)).elim
   |_=>exact(hb (.inl rfl)).elim
theorem CS(I:bb X ac σ H s){a b:W}{x:V}{v:Value}{k:Bool}(hn:b.dep=0\/a.dep<=n)(ra:a8 X.K μ H a x)(rb:a8 X.K μ H b y)(ru:bK x u)(rv:bK y v)(hu:A.units+n<cLine)(he:ju a b=some k):SeqAt.RcAt A s u v k/\SeqAt.RcNeAt A s u v (!k):=by
 by_cases hb:b.dep=0\/a.dep=0
 ·exact⟨Gk (qj I ra ru) (qj I rb rv) (by omega) hb he,Bm (qj I ra ru) (qj I rb rv) (by omega) hb he⟩
 cases b with
 |tup z=>
  cases a with
  |tup i=>
   obtain⟨p',wn,rfl,hS',r'⟩:=ra.tupE;cases ru;obtain⟨its',w',ht',_⟩:=I.tuple hS'
   obtain⟨p,vs,rfl,hS,r⟩:=rb.tupE;cases rv;obtain⟨bd,w,ht,_⟩:=I.tuple hS
   obtain⟨e,h1,h2⟩:=nX i z k (by unfold ju at he;exact he)
   have hd:depWs i+1<=n:=hn.elim (fun z=>(hb (.inl z)).elim) id
   obtain⟨m,rfl⟩:∃m,n=m+1:=⟨n-1,by omega⟩
   have T:=w4 (A:=A) (CQ I m) r' r w' w (by omega) (by omega) h1
   have R:=SeqAt.RcAt.tuples (A:=A) (e:=e) ht' ht (by omega) T
   have R2:=SeqAt.RcNeAt.tuples (A:=A) (e:=e) ht' ht (by omega) T
   rw[show its'.toArray.size=i.length by simp[<- w'.length,<- r'.len],show bd.toArray.size=z.length by simp[<- w.length,<- r.len],h2]at R R2
   exact⟨R,R2⟩
  |_=>exact(hb (.inr rfl)).elim
 |_=>exact(hb (.inl rfl)).elim
end
def w5:W->W->List am->R W:=fun x y st=>match ju x y with
 |some k=>if y.dep=0\/x.dep<=64 then .ok (.bl k) st else .bad
 |none=>.bad
theorem yW{k:Nat}(hr:fL k X.A):tQ X (compareOp .Eq) w5:=⟨fun ac s σ H x y v u Q I rv ru ⟨μ,st,wx,wy,S,rx,ry,q⟩=>by
 unfold w5 at q
 cases e:ju wx wy with
 |none=>rw[e]at q;exact q.elim
 |some b=>
  rw[e]at q
  simp only at q
  by_cases c:wy.dep=0\/wx.dep<=64
  ·rw[aw c]at q
   have:=hr.units
   exact(CS I c rx ry rv ru this e).1 X.prog X.w X.xe _ ⟨.bl b,H,I,rfl,lB S q⟩
  ·rw[ay c]at q;exact q.elim,fun x y st=>by
 unfold w5
 split
 ·split<;>trivial
 ·trivial⟩
def Mi:W->W->List am->R W:=fun x y st=>match ju x y with
 |some k=>if y.dep=0\/x.dep<=64 then .ok (.bl (!k)) st else .bad
 |none=>.bad
theorem Nx{k:Nat}(hr:fL k X.A):tQ X (compareOp .NotEq) Mi:=⟨fun ac s σ H x y v u Q I rv ru ⟨μ,st,wx,wy,S,rx,ry,q⟩=>by
 unfold Mi at q
 cases e:ju wx wy with
 |none=>rw[e]at q;exact q.elim
 |some b=>
  rw[e]at q
  simp only at q
  by_cases c:wy.dep=0\/wx.dep<=64
  ·rw[aw c]at q
   have:=hr.units
   exact(CS I c rx ry rv ru this e).2 X.prog X.w X.xe _ ⟨.bl (!b),H,I,rfl,lB S q⟩
  ·rw[ay c]at q;exact q.elim,fun x y st=>by
 unfold Mi
 split
 ·split<;>trivial
 ·trivial⟩
def qG(x:W):List W->Option Bool
 |[]=>some false
 |y::ys=>match ju y x,qG x ys with
  |some a,some b=>some (a||b)
  |_,_=>none
def vj(Pa:Bool)(x y:W)(st:List am):R W:=match y with
 |.str l=>(match x with
  |.str [c]=>.ok (.bl (if Pa then !decide (c∈l)else decide (c∈l))) st
  |_=>.bad)
 |.tup ys=>(match qG x ys with
  |some k=>if depWs ys<=63 then .ok (.bl (if Pa then !k else k)) st else .bad
  |none=>.bad)
 |.loc n=>(match st[n]? with
  |some (.lst ys)=>(match qG x ys with
   |some k=>if depWs ys<=63 then .ok (.bl (if Pa then !k else k)) st else .bad
   |none=>.bad)
  |_=>.bad)
 |_=>.bad
theorem w6{x:W}:∀{ys:List W} {k:Bool},qG x ys=some k->(∀(j:Nat) w,ys[j]?=some w->∃b,ju w x=some b)/\(k=true↔∃(j:Nat) (w:W),ys[j]?=some w/\ju w x=some true)
 |[],k,h=>by
  unfold qG at h;cases h
  exact⟨fun j w e=>by simp at e,fun z=>(by cases z),fun⟨j,w,e,_⟩=>(by simp at e)⟩
 |y::ys,k,h=>by
  unfold qG at h
  cases e1:ju y x with
  |none=>rw[e1]at h;simp at h
  |some a=>
   cases e2:qG x ys with
   |none=>rw[e1,e2]at h;simp at h
   |some b=>
    rw[e1,e2]at h
    simp at h
    obtain⟨q1,q2⟩:=w6 e2
    refine⟨fun j w e=>?_,fun z=>?_,fun⟨j,w,e,f⟩=>?_⟩
    ·cases j with
     |zero=>simp at e;subst e;exact⟨a,e1⟩
     |succ j=>exact q1 j w (by simpa using e)
    ·rw[<- h]at z
     cases a with
     |true=>exact⟨0,y,rfl,e1⟩
     |false=>
      obtain⟨j,w,p,q⟩:=q2.mp (by simpa using z)
      exact⟨j+1,w,by simpa using p,q⟩
    ·rw[<- h]
     cases j with
     |zero=>simp at e;subst e;rw[e1]at f;cases f;rfl
     |succ j=>rw[q2.mpr ⟨j,w,by simpa using e,f⟩];simp
theorem lD(I:bb X ac σ H s){wx:W}{x:V}{v:Value}(rx:a8 X.K μ H wx x)(rv:bK x v)(n:Nat){A:Around}(hu:A.units+n<cLine)
  {ys:List W} {vs:List V} {us:List Value} {k:Bool} (hd:depWs ys<=n) (rs:RelWs X.K μ H ys vs) (ko:bE vs us) (ha:qG wx ys=some k):∃e:Value->Bool,(∀u,u∈us.toArray->SeqAt.EqAt A s u v (e u))/\us.toArray.any e=k:=by
 classical
 obtain⟨q1,q2⟩:=w6 ha
 have at':∀(j:Nat) (u:Value),us[j]?=some u->∃w b,ys[j]?=some w/\ju w wx=some b/\SeqAt.EqAt A s u v b:=fun j u e=>by
  have hj:j<ys.length:=by
   have h1:=(ah.mp e).1
   rw[rs.len,ko.length];exact h1
  obtain⟨b,hb⟩:=q1 j ys[j] (ag hj)
  obtain⟨y,g1,r1⟩:=rs.get (ag hj)
  obtain⟨u',f1,v1⟩:=ko.get g1
  rw[e]at f1;cases f1
  exact⟨_,b,ag hj,hb,CQ I n ys[j] wx A y x u v b (aQ (pN hj) hd) r1 rx v1 rv hu hb⟩
 refine⟨fun u=>decide (∃(j:Nat) (w:W),us[j]?=some u/\ys[j]?=some w/\ju w wx=some true),fun u hu=>?_,?_⟩
 ·by_cases c:∃(j:Nat) (w:W),us[j]?=some u/\ys[j]?=some w/\ju w wx=some true
  ·show SeqAt.EqAt A s u v (decide _)
   rw[ce c]
   obtain⟨j,w,e1,e2,e3⟩:=c
   obtain⟨w',b,f1,f2,f3⟩:=at' j u e1
   rw[e2]at f1;cases f1
   rw[e3]at f2;cases f2
   exact f3
  ·show SeqAt.EqAt A s u v (decide _)
   rw[bq c]
   obtain⟨j,hj,e⟩:=List.mem_iff_getElem.mp (show u∈us by simpa using hu)
   have e':us[j]?=some u:=by rw[ag hj,e]
   obtain⟨w',b,f1,f2,f3⟩:=at' j u e'
   cases b with
   |false=>exact f3
   |true=>exact absurd ⟨j,w',e',f1,f2⟩ c
 ·rw[List.any_toArray]
  cases k with
  |true=>
   obtain⟨j,w,e1,e2⟩:=q2.mp rfl
   have hj:j<us.length:=by rw[<- ko.length,<- rs.len];exact(ah.mp e1).1
   exact List.any_eq_true.mpr ⟨us[j],ln hj,ce ⟨j,w,ag hj,e1,e2⟩⟩
  |false=>
   refine List.any_eq_false.mpr fun u _ c=>?_
   obtain⟨j,w,_,e1,e2⟩:=of_decide_eq_true c
   have:=q2.mpr ⟨j,w,e1,e2⟩
   cases this
theorem J'{k:Nat}(hr:fL k X.A):tQ X (compareOp .In) (vj false):=⟨fun ac s σ H x y v u Q I rv ru ⟨μ,st,wx,wy,S,rx,ry,q⟩=>by
 have hu:=hr.units
 cases wy with
 |str l=>
  simp only[vj]at q
  split at q
  ·exact Be ac s σ H x y v u Q I rv ru ⟨_,_,rx.strE,ry.strE,lB S q⟩
  ·exact q.elim
 |tup ys=>
  simp only[vj]at q
  cases hk:qG wx ys with
  |none=>rw[hk]at q;exact q.elim
  |some kk=>
   rw[hk]at q
   simp only at q
   by_cases c:depWs ys<=63
   ·rw[aw c]at q
    obtain⟨p,vs,rfl,hS,r⟩:=ry.tupE
    cases ru
    obtain⟨bd,w,ht,_⟩:=I.tuple hS
    obtain⟨e,he,ha⟩:=lD (A:=X.A.in1) I rx rv 63 (by show X.A.units+1+63<cLine;omega) c r w hk
    exact SeqAt.in_tupleAt e ht he ⟨.bl _,H,I,rfl,by rw[ha];exact lB S q⟩
   ·rw[ay c]at q;exact q.elim
 |loc n=>
  simp only[vj]at q
  cases e1:st[n]? with
  |none=>rw[e1]at q;exact q.elim
  |some cc=>
   rw[e1]at q
   cases cc with
   |lst ys=>
    simp only at q
    cases hk:qG wx ys with
    |none=>rw[hk]at q;exact q.elim
    |some kk=>
     rw[hk]at q
     simp only at q
     by_cases c:depWs ys<=63
     ·rw[aw c]at q
      obtain⟨a1,g1,vs,k1,r⟩:=S.get e1
      obtain⟨b1,f1,rfl⟩:=ry.locE
      rw[g1]at f1;cases f1
      cases ru
      obtain⟨bd,w,ht,_⟩:=I.list (jr.of k1)
      obtain⟨e,he,ha⟩:=lD (A:=X.A.in1) I rx rv 63 (by show X.A.units+1+63<cLine;omega) c r w hk
      exact SeqAt.in_listAt e ht.isList he ⟨.bl _,H,I,rfl,by rw[ha];exact lB S q⟩
     ·rw[ay c]at q;exact q.elim
   |_=>exact q.elim
 |_=>exact q.elim,fun x y st=>by
 unfold vj
 repeat' split
 all_goals trivial⟩
theorem Ny{k:Nat}(hr:fL k X.A):tQ X (compareOp .NotIn) (vj true):=⟨fun ac s σ H x y v u Q I rv ru ⟨μ,st,wx,wy,S,rx,ry,q⟩=>by
 have hu:=hr.units
 cases wy with
 |str l=>
  simp only[vj]at q
  split at q
  ·exact vg ac s σ H x y v u Q I rv ru ⟨_,_,rx.strE,ry.strE,lB S q⟩
  ·exact q.elim
 |tup ys=>
  simp only[vj]at q
  cases hk:qG wx ys with
  |none=>rw[hk]at q;exact q.elim
  |some kk=>
   rw[hk]at q
   simp only at q
   by_cases c:depWs ys<=63
   ·rw[aw c]at q
    obtain⟨p,vs,rfl,hS,r⟩:=ry.tupE
    cases ru
    obtain⟨bd,w,ht,_⟩:=I.tuple hS
    obtain⟨e,he,ha⟩:=lD (A:=X.A.in1) I rx rv 63 (by show X.A.units+1+63<cLine;omega) c r w hk
    exact SeqAt.notIn_tupleAt e ht he ⟨.bl _,H,I,rfl,by rw[ha];exact lB S q⟩
   ·rw[ay c]at q;exact q.elim
 |loc n=>
  simp only[vj]at q
  cases e1:st[n]? with
  |none=>rw[e1]at q;exact q.elim
  |some cc=>
   rw[e1]at q
   cases cc with
   |lst ys=>
    simp only at q
    cases hk:qG wx ys with
    |none=>rw[hk]at q;exact q.elim
    |some kk=>
     rw[hk]at q
     simp only at q
     by_cases c:depWs ys<=63
     ·rw[aw c]at q
      obtain⟨a1,g1,vs,k1,r⟩:=S.get e1
      obtain⟨b1,f1,rfl⟩:=ry.locE
      rw[g1]at f1;cases f1
      cases ru
      obtain⟨bd,w,ht,_⟩:=I.list (jr.of k1)
      obtain⟨e,he,ha⟩:=lD (A:=X.A.in1) I rx rv 63 (by show X.A.units+1+63<cLine;omega) c r w hk
      exact SeqAt.notIn_listAt e ht.isList he ⟨.bl _,H,I,rfl,by rw[ha];exact lB S q⟩
     ·rw[ay c]at q;exact q.elim
   |_=>exact q.elim
 |_=>exact q.elim,fun x y st=>by
 unfold vj
 repeat' split
 all_goals trivial⟩
section
variable{w:World}
theorem w9{t sl:Addr}{items:Array Value}{vl vu:Value}{lo hi:Option Int}(ht:IsTup s.heap t items)(hs:s.heap.IsSliceOf sl vl vu .none)(pl:IsPart vl lo)(pu:IsPart vu hi)
  (hw:HT.sIx items.size 0 lo=0/\HT.sIx items.size items.size hi=items.size) (h:Q (.ref t) s):wpAny (model prog w) A (getItem (.ref t) (.ref sl)) Q E s:=by
 obtain⟨os,hos,hcs,IV⟩:=id hs
 have hTs:s.TypeIs (.ref sl) "slice":=⟨os,hos,hcs⟩
 unfold getItem
 try with_reducible refine fY ?_
 first|refine aa (ar ?_)|skip
 refine aa (wpAny_sequenceKey ht.typeIs (by decide) ?_)
 refine aa (bf (name:=Str.ofString "__getitem__") ht.typeIs cW
  (bp cW ht.typeIs entry_tuple_getitem ?_ (args_tuple_getitem _ _)))
 show wpAny _ _ (Builtin.Tuple.tupleItemsOf (.ref t) >>= _) _ _ s
 refine aa (tupleItemsOf_ ht ?_)
 refine aa (pD hTs ?_)
 rw[aw (by decide)]
 refine aa (HT.sliceApplied_gen hs pl pu ?_)
 have hyes:(((HT.sIx items.size 0 lo:Nat):Int)==0&&(1:Int)==1&&(HT.sIx items.size items.size hi-HT.sIx items.size 0 lo)==items.size)=true:=by
  rw[hw.1,hw.2];simp
 show wpAny _ _ (if (((HT.sIx items.size 0 lo:Nat):Int)==0&&(1:Int)==1&&(HT.sIx items.size items.size hi-HT.sIx items.size 0 lo)==items.size)=true then _ else _) _ _ s
 rw[aw hyes]
 unfold Builtin.Tuple.tupleIsExact
 obtain⟨ot,hot,hct,nt,hdt⟩:=id ht
 refine aa (aa (pD (T:="tuple") ht.typeIs ?_))
 refine ar ?_
 rw[aw (by decide)]
 exact aa (gp (ar ⟨_,rfl,ar h⟩))
end
section
variable{a b:Expr}{fa fb fc fe:FE}{fs:FA}
def lstOf(st:List am)(n:Nat):Option (List W):=match st[n]? with
 |some (.lst ws)=>some ws
 |some (.ro ws)=>some ws
 |_=>none
theorem gB.lstOf(S:gB K mg μ st H)(h:lstOf st n=some ws):∃a vs,μ[n]?=some a/\jr K H a vs/\RelWs K μ H ws vs:=by
 unfold L2.lstOf at h
 cases e:st[n]? with
 |none=>rw[e]at h;cases h
 |some cc=>
  rw[e]at h
  cases cc with
  |lst zs=>cases h;obtain⟨a,g,vs,k,r⟩:=S.get e;exact⟨a,vs,g,jr.of k,r⟩
  |ro zs=>cases h;obtain⟨a,g,vs,k,r⟩:=S.get e;exact⟨a,vs,g,k.sq,r⟩
  |exc zs=>cases h
  |dct zs=>cases h
  |rod zs=>cases h
  |dcx zs=>cases h
  |rox zs=>cases h
  |obj _ _=>cases h
  |tab _ _ _=>cases h
  |pin _ _ _ _=>cases h
  |gone=>cases h
def pO(o:Option α)(k:α->R W):R W:=match o with
 |some a=>k a
 |none=>.bad
@[simp] theorem dy{α:Type}(a:α)(k:α->R W):pO (some a) k=k a:=rfl
@[simp] theorem Nz{α:Type}(k:α->R W):pO none k=.bad:=rfl
def cZ(x y:W)(st:List am):R W:=match x,y with
 |.tup ws,.int i=>pO (tP ws i) fun w=>.ok w st
 |.str l,.int i=>if l.length<=kI then pO (tP l i) (fun c=>.ok (.str [c]) st)else .bad
 |.loc n,.int i=>pO (lstOf st n) fun ws=>pO (tP ws i) fun w=>.ok w st
 |_,_=>.bad
theorem Ag{i:Int}{w:W}(r:RelWs K μ H ws vs)(h:tP ws i=some w):∃v,tP vs i=some v/\a8 K μ H w v:=by
 unfold tP at h ⊢
 rw[<- r.len]
 cases e:A7 ws.length i with
 |none=>rw[e]at h;cases h
 |some k=>rw[e]at h;exact r.get h
theorem Qz:Fj X (Qx X cZ):=fun value slice ac s σ H x y v u Q I rv ru ⟨μ,st,wx,wy,S,rx,ry,q⟩ hs=>by
 refine JL value slice ac s σ H x y v u Q I rv ru ?_ hs
 cases wy with
 |int i=>
  cases wx with
  |tup ws=>
   simp only[cZ]at q
   cases e1:tP ws i with
   |none=>rw[e1]at q;exact q.elim
   |some w=>
    rw[e1]at q
    obtain⟨p,vs,rfl,hS,r⟩:=rx.tupE
    obtain⟨z,f,g⟩:=Ag r e1
    exact .inr (.inl ⟨p,vs,i,z,rfl,ry.intE,hS,f,q μ z H (ae _) db.refl S g⟩)
  |str l=>
   simp only[cZ]at q
   by_cases c:l.length<=kI
   ·rw[aw c]at q
    cases e1:tP l i with
    |none=>rw[e1]at q;exact q.elim
    |some w=>
     rw[e1]at q
     exact .inr (.inr ⟨_,i,w,rx.strE,ry.intE,by rw[hG];exact ly c,by rw[JT];exact e1,oG S q⟩)
   ·rw[ay c]at q;exact q.elim
  |loc n=>
   simp only[cZ]at q
   cases e0:lstOf st n with
   |none=>rw[e0]at q;exact q.elim
   |some ws=>
    rw[e0]at q
    cases e1:tP ws i with
    |none=>rw[dy,e1]at q;exact q.elim
    |some w=>
     rw[dy,e1]at q
     obtain⟨a,vs,g,hS,r⟩:=S.lstOf e0
     obtain⟨b1,f1,rfl⟩:=rx.locE
     rw[g]at f1;cases f1
     obtain⟨z,f,g⟩:=Ag r e1
     exact .inl ⟨_,vs,i,z,rfl,ry.intE,hS,f,q μ z H (ae _) db.refl S g⟩
  |_=>exact q.elim
 |_=>cases wx<;>exact q.elim
theorem nD{o:Option α}{k:α->R W}(h:∀a,qE (k a)):qE (pO o k):=by
 unfold pO
 split
 ·exact h _
 ·trivial
theorem NA(x y:W)(st:List am):qE (cZ x y st):=by
 unfold cZ
 split
 ·exact nD fun _=>trivial
 ·split
  ·exact nD fun _=>trivial
  ·trivial
 ·exact nD fun _=>nD fun _=>trivial
 ·trivial
theorem dC(ha:SE X a fa)(hb:SE X b fb)(hs:zV b:=by intro _ _;rfl):SE X (.Subscript a b pos) (e2 cZ fa fb):=⟨(MW Qz ha.h hb.h hs).imp fun _ _ _ h=>Ab NA h⟩
abbrev FO:=cv->List am->R (Option Int)
abbrev QB:List Addr->Hp->Option Int->Option Int->Prop:=fun _ _ a b=>a=b
structure SO(X:Cx)(e:Option Expr)(f:FO):Prop where
 h:PO X e (tG X QB f)
def w_:FO:=fun _ st=>.ok none st
def uA(fa:FE):FO:=fun ρ st=>(fa ρ st).bind fun x st=>match x with
 |.int i=>.ok (some i) st
 |_=>.bad
theorem PO.imp{e:Option Expr}{t t':TO}(h:PO X e t)(i:∀σ H Q,t' σ H Q->t σ H Q):PO X e t':=fun ac s σ H Q I q=>h ac s σ H Q I (i _ _ _ q)
theorem vm:SO X none w_:=⟨FV.imp fun σ H Q h=>by
 obtain⟨μ,ρ,st,l,h⟩:=h
 exact h μ none H (ae _) db.refl l.sto rfl⟩
theorem vn(ha:SE X a fa):SO X (some a) (uA fa):=⟨(FW ha.h).imp fun σ H Q h=>by
 obtain⟨μ,ρ,st,l,h⟩:=h
 refine⟨μ,ρ,st,l,RK.bind h l fun μ1 st1 x v H1 p1 x1 l1 q1 h1=>?_⟩
 cases x with
 |int k=>exact⟨k,q1.intE,h1 μ1 _ H1 (ae _) db.refl l1.sto rfl⟩
 |_=>exact h1.elim⟩
def ny(xs:List α)(lo hi:Option Int):List α:=(xs.drop (HT.sIx xs.length 0 lo)).take (HT.sIx xs.length xs.length hi-HT.sIx xs.length 0 lo)
def CT(x:W)(lo hi:Option Int)(st:List am):R W:=match x with
 |.tup ws=>.ok (.tup (ny ws lo hi)) st
 |.str l=>if l.length<=kI then .ok (.str (ny l lo hi)) st else .bad
 |.loc n=>pO (lstOf st n) fun ws=>.ok (.loc st.length) (st++[.lst (ny ws lo hi)])
 |_=>.bad
theorem NB(x:W)(lo hi:Option Int)(st:List am):qE (CT x lo hi st):=by
 unfold CT pO
 repeat' split
 all_goals trivial
def Mj(fa:FE)(fl fh:FO):FE:=fun ρ st=>(fa ρ st).bind fun x st=>(fl ρ st).bind fun l st=>(fh ρ st).bind fun h st=>CT x l h st
theorem QC:BQ X (fun x lo hi H Q=>∃μ st wx,gB X.K X.mg μ st H/\a8 X.K μ H wx x/\BU X μ H Q (CT wx lo hi st)):=by
 intro ac s σ H x v vl vu lo hi sl Q I rv hs pl pu ⟨μ,st,wx,S,rx,q⟩
 cases wx with
 |tup ws=>
  obtain⟨p,vs,rfl,hS,r⟩:=rx.tupE
  have hl:=r.len
  by_cases hw:HT.sIx vs.length 0 lo=0/\HT.sIx vs.length vs.length hi=vs.length
  ·cases rv
   obtain⟨bd,w,ht,hz⟩:=I.tuple hS
   have cV:bd.toArray.size=vs.length:=by rw[aH];exact w.length.symm
   refine⟨"tuple",_,cW.lookup,ht.typeIs,w9 ht hs pl pu (by rw[cV];exact hw) ⟨.ref p,H,I,rfl,?_⟩⟩
   have e:ny ws lo hi=ws:=by
    unfold ny
    rw[hl,hw.1,hw.2,List.drop_zero,Nat.sub_zero,<- hl,cJ]
   have q':BU X μ H Q (.ok (.tup (ny ws lo hi)) st):=q
   rw[e]at q'
   exact q' μ _ H (ae _) db.refl S rx
  ·refine JI ac s σ H _ v vl vu lo hi sl Q I rv hs pl pu ⟨p,vs,rfl,hS,hw,fun p2 hp2=>?_⟩
   have x:=dW.same (K:=X.K) (bP hp2 (.tup (rN vs lo hi)))
   have rc:RelWs X.K μ H (ny ws lo hi) (rN vs lo hi):=by
    unfold ny rN
    rw[hl]
    exact(r.drop _).take _
   exact q μ _ _ (ae _) x (S.same (bP hp2 _)) (.tupI dW.new (rc.mono (ae _) x))
 |str l=>
  simp only[CT]at q
  by_cases c:l.length<=kI
  ·rw[aw c]at q
   exact JW ac s σ H _ v vl vu lo hi sl Q I rv hs pl pu ⟨l,rx.strE,ly c,oG S q⟩
  ·rw[ay c]at q;exact q.elim
 |loc n=>
  simp only[CT]at q
  cases e0:lstOf st n with
  |none=>rw[e0]at q;exact q.elim
  |some ws=>
   rw[e0]at q
   obtain⟨a,vs,g,hS,r⟩:=S.lstOf e0
   obtain⟨b1,f1,rfl⟩:=rx.locE
   rw[g]at f1;cases f1
   have hl:=r.len
   refine FZ ac s σ H _ v vl vu lo hi sl Q I rv hs pl pu ⟨_,vs,rfl,hS,fun p2 hp2=>?_⟩
   have rc:RelWs X.K μ H (ny ws lo hi) (rN vs lo hi):=by
    unfold ny rN
    rw[hl]
    exact(r.drop _).take _
   exact q (μ++[p2]) _ _ (aW _ _) (dW.same (bP hp2 _)) (S.newLst hp2 rc) (rW S)
 |_=>exact q.elim
theorem Ka{lo hi:Option Expr}{fl fh:FO}(ha:SE X a fa)(hl:SO X lo fl)(hh:SO X hi fh):SE X (.Subscript a (.Slice lo hi none p2) pos) (Mj fa fl fh):=⟨(Cb QC ha.h hl.h hh.h).imp fun σ H Q h=>by
 obtain⟨μ,ρ,st,l,h⟩:=h
 refine⟨μ,ρ,st,l,RK.bind h l fun μ1 st1 x v H1 p1 x1 l1 q1 h1=>⟨μ1,ρ,st1,l1,RK.bind h1 l1 fun μ2 dq y u H2 p2 x2 l2 q2 h2=>⟨μ2,ρ,dq,l2,RK.bind h2 l2 fun μ3 mn z t H3 p3 x3 l3 q3 h3=>?_⟩⟩⟩
 cases q2;cases q3
 exact⟨μ3,mn,x,l3.sto,(q1.mono p2 x2).mono p3 x3,pL h3 (NB _ _ _ _)⟩⟩
def Rw(X:Cx)(F:List W->List am->R W):List V->Hp->VK->Prop:=fun vs H Q=>∃μ st ws,gB X.K X.mg μ st H/\RelWs X.K μ H ws vs/\BU X μ H Q (F ws st)
structure qk(X:Cx)(f:Value)(F:List W->List am->R W):Prop where
 h:ik X f (Rw X F)
 n:∀ws st,qE (F ws st)
def cq(F:List W->List am->R W)(fs:FA):FE:=fun ρ st=>(fs ρ st).bind fun ws st=>F ws st
theorem Ah{Q:VK}(n:∀ws st,qE (F ws st))(h:tE X (cq F fs) σ H Q):Qg (Rw X F) (Nk X fs) σ H Q:=by
 obtain⟨μ,ρ,st,l,h⟩:=h
 exact⟨μ,ρ,st,l,RK.bind h l fun μ1 st1 x v H1 p1 x1 l1 q1 h1=>⟨μ1,st1,x,l1.sto,q1,pL h1 (n _ _)⟩⟩
theorem dk(hc:qk X (.builtin id) F)(hm:X.mg x=none)(hv:bootBuiltins x=some (.builtin id))(ha:SA X (e::es) fs)(hg:Gl X x:=by rfl)(hn:x ≠ "__name__":=by decide)(BM:(x==("__debug__":Str))=false:=by decide)
  (he:starEach (e::es) X.env=(false,eval e X.env)::starEach es X.env:=by rfl) (qy:(backTo pos (starEach es X.env)).any (·.1)=false:=by rfl):SE X (.Call (.Name x p) (e::es) [] pos) (cq F fs):=⟨(wJ hc.h hg hm hv ha.h hn BM he qy).imp fun _ _ _ h=>Ah hc.n h⟩
theorem io{T:String}(hc:qk X (.type T) F)(hm:X.mg x=none)(hv:bootBuiltins x=some (.type T))(ha:SA X (e::es) fs)(hg:Gl X x:=by rfl)(hn:x ≠ "__name__":=by decide)(BM:(x==("__debug__":Str))=false:=by decide)
  (he:starEach (e::es) X.env=(false,eval e X.env)::starEach es X.env:=by rfl) (qy:(backTo pos (starEach es X.env)).any (·.1)=false:=by rfl):SE X (.Call (.Name x p) (e::es) [] pos) (cq F fs):=⟨(A6 hc.h hg hm hv ha.h hn BM he qy).imp fun _ _ _ h=>Ah hc.n h⟩
theorem RelWs.two{a b:W}(r:RelWs K μ H [a,b] vs):∃x y,vs=[x,y]/\a8 K μ H a x/\a8 K μ H b y:=by
 obtain⟨x,xs,rfl,rx,rn⟩:=r.consE
 obtain⟨y,ys,rfl,ry,rm⟩:=rn.consE
 rw[rm.nilE];exact⟨x,y,rfl,rx,ry⟩
theorem RelWs.one{a:W}(r:RelWs K μ H [a] vs):∃x,vs=[x]/\a8 K μ H a x:=by
 obtain⟨x,xs,rfl,rx,rn⟩:=r.consE
 rw[rn.nilE];exact⟨x,rfl,rx⟩
def gH(ws:List W)(st:List am):R W:=match ws with
 |[.tup xs]=>.ok (.int xs.length) st
 |[.str l]=>if l.length<=kI then .ok (.int l.length) st else .bad
 |[.loc n]=>pO (lstOf st n) fun xs=>.ok (.int xs.length) st
 |_=>.bad
theorem jq:qk X (.builtin "len") gH:=⟨fun ac s σ H vs us Q I rv ⟨μ,st,ws,S,r,q⟩=>by
 unfold gH at q
 split at q
 ·obtain⟨x,rfl,rx⟩:=r.one
  obtain⟨p,ys,rfl,hS,r'⟩:=rx.tupE
  exact ou ac s σ H _ us Q I rv ⟨p,ys,rfl,.inr hS,by rw[<- r'.len];exact lA S q⟩
 ·obtain⟨x,rfl,rx⟩:=r.one
  split at q
  ·rename_i c
   exact vd ac s σ H _ us Q I rv ⟨_,by rw[rx.strE],by rw[hG];exact ly c,by rw[hG];exact lA S q⟩
  ·exact q.elim
 ·obtain⟨x,rfl,rx⟩:=r.one
  unfold pO at q
  split at q
  ·rename_i ys e0
   obtain⟨a,vs,g,hS,r'⟩:=S.lstOf e0
   obtain⟨b1,f1,rfl⟩:=rx.locE
   rw[g]at f1;cases f1
   exact ou ac s σ H _ us Q I rv ⟨_,vs,rfl,.inl hS,by rw[<- r'.len];exact lA S q⟩
  ·exact q.elim
 ·exact q.elim,fun ws st=>by
 unfold gH pO
 repeat' split
 all_goals trivial⟩
def xa(ws:List W)(st:List am):R W:=match ws with
 |[.int i,.int j]=>.ok (.int (if j<i then j else i)) st
 |_=>.bad
theorem HE(hc:X.calm=true:=by rfl):qk X (.builtin "min") xa:=⟨fun ac s σ H vs us Q I rv ⟨μ,st,ws,S,r,q⟩=>by
 unfold xa at q
 split at q
 ·obtain⟨x,y,rfl,rx,ry⟩:=r.two
  exact A2 hc ac s σ H _ us Q I rv ⟨_,_,by rw[rx.intE,ry.intE],lA S q⟩
 ·exact q.elim,fun ws st=>by unfold xa;split<;>trivial⟩
def hJ(ws:List W)(st:List am):R W:=match ws with
 |[.tup xs]=>.ok (.tup xs) st
 |[.loc n]=>pO (lstOf st n) fun xs=>.ok (.tup xs) st
 |_=>.bad
theorem jv:qk X (.type "tuple") hJ:=⟨fun ac s σ H vs us Q I rv ⟨μ,st,ws,S,r,q⟩=>by
 unfold hJ at q
 split at q
 ·obtain⟨x,rfl,rx⟩:=r.one
  obtain⟨p,ys,rfl,hS,r'⟩:=id rx.tupE
  exact wK ac s σ H _ us Q I rv ⟨p,ys,rfl,hS,q μ _ H (ae _) db.refl S rx⟩
 ·obtain⟨x,rfl,rx⟩:=r.one
  unfold pO at q
  split at q
  ·rename_i ys e0
   obtain⟨a,vs,g,hS,r'⟩:=S.lstOf e0
   obtain⟨b1,f1,rfl⟩:=rx.locE
   rw[g]at f1;cases f1
   refine wQ ac s σ H _ us Q I rv ⟨_,vs,rfl,hS,fun l H2 hl e=>?_⟩
   subst e
   have x:=dW.same (K:=X.K) (bP hl (.tup vs))
   exact q μ _ _ (ae _) x (S.same (bP hl _)) (.tupI dW.new (r'.mono (ae _) x))
  ·exact q.elim
 ·exact q.elim,fun ws st=>by
 unfold hJ pO
 repeat' split
 all_goals trivial⟩
def NC(ws:List W)(st:List am):R W:=match ws with
 |[.tup xs]=>.ok (.loc st.length) (st++[.lst xs])
 |[.loc n]=>pO (lstOf st n) fun xs=>.ok (.loc st.length) (st++[.lst xs])
 |_=>.bad
end
section
variable{a b:Expr}{fa fb fc fe:FE}{fs:FA}{ft:FT}{st1:Stmt}{sr sa sb:List Stmt}{g g':FS}
def be(g g':FS):FS:=fun ρ st=>match g ρ st with
 |.nx ρ' br=>g' ρ' br
 |r=>r
def fW:FS:=fun ρ st=>.nx ρ st
theorem fy:SB X [] fW:=⟨Fy.imp fun D σ H h=>by
 obtain⟨μ,ρ,st,l,h⟩:=h
 exact h μ σ H (ae _) db.refl l⟩
theorem aO(h1:SS X st1 g):SB X [st1] g:=⟨Fz h1.h⟩
theorem aB(h1:SS X st1 g)(h2:SB X sr g'):SB X (st1::sr) (be g g'):=⟨(B2 h1.h h2.h).imp fun D σ H h=>by
 obtain⟨μ,ρ,st,l,h⟩:=h
 refine⟨μ,ρ,st,l,?_⟩
 unfold be at h
 cases e:g ρ st with
 |nx ρ' br=>rw[e]at h;exact fun μ' σ' H' p x l'=>⟨μ',ρ',br,l',SK.mono h p x⟩
 |rt w br=>rw[e]at h;exact h
 |bk ρ' br=>rw[e]at h;exact h
 |ct ρ' br=>rw[e]at h;exact h
 |ex c ρ' br=>rw[e]at h;exact h
 |bad=>rw[e]at h;exact h⟩
def R.stmt(r:R α)(ρ:cv)(k:α->List am->RS):RS:=match r with
 |.ok a st=>k a st
 |.ex c st=>.ex c ρ st
 |.bad=>.bad
@[simp] theorem R.stmt_ok{α:Type}(a:α)(st:List am)(ρ:cv)(k:α->List am->RS):(R.ok a st).stmt ρ k=k a st:=rfl
@[simp] theorem R.stmt_ex{α:Type}(c:Str)(st:List am)(ρ:cv)(k:α->List am->RS):(R.ex c st:R α).stmt ρ k=.ex c ρ st:=rfl
@[simp] theorem R.stmt_bad{α:Type}(ρ:cv)(k:α->List am->RS):(R.bad:R α).stmt ρ k=.bad:=rfl
theorem RK.stmt{m6:List Addr->Hp->α->β->Prop}{ρ:cv}{D:wF}{r:R α}{k:α->List am->RS}{T:β->Hp->Prop}
  (h:SK X μ H D (r.stmt ρ k)) (l:Rl X μ ρ st σ H)
  (hk:∀μ' br x v H',μ <+: μ'->db X.K H H'->Rl X μ' ρ br σ H'->m6 μ' H' x v->SK X μ' H' D (k x br)->T v H'):RK X m6 μ σ H T r:=by
 cases r with
 |ok a br=>exact fun μ' b H' p x s q=>hk μ' br a b H' p x (l.to p x s) q (SK.mono h p x)
 |ex c br=>exact XS.toE h l
 |bad=>exact h
def ip(fe:FE):FS:=fun ρ st=>(fe ρ st).stmt ρ fun _ st=>.nx ρ st
theorem gc(he:SE X e fe)(hs:swapsWith e none pos.line X.env=pure false:=by rfl):SS X (.Expr e pos) (ip fe):=⟨(FB he.h hs).imp fun D σ H h=>by
 obtain⟨μ,ρ,st,l,h⟩:=h
 exact⟨μ,ρ,st,l,RK.stmt h l fun μ1 st1 x v H1 p1 x1 l1 q1 h1=>h1 μ1 σ H1 (ae _) db.refl l1⟩⟩
def dN(fe:FE):FS:=fun ρ st=>(fe ρ st).stmt ρ fun w st=>.rt w st
theorem bL(he:SE X e fe):SS X (.Return (some e) pos) (dN fe):=⟨(Jl he.h).imp fun D σ H h=>by
 obtain⟨μ,ρ,st,l,h⟩:=h
 exact⟨μ,ρ,st,l,RK.stmt h l fun μ1 st1 x v H1 p1 x1 l1 q1 h1=>h1 μ1 v H1 (ae _) db.refl l1.sto q1⟩⟩
def nA(t:FT)(g g':FS):FS:=fun ρ st=>(t ρ st).stmt ρ fun k st=>if k then g ρ st else g' ρ st
theorem gC(hc:ST X c ft)(ha:SB X sa g)(hb:SB X sb g'):SS X (.If c sa sb pos) (nA ft g g'):=⟨(ME hc.h ha.h hb.h).imp fun D σ H h=>by
 obtain⟨μ,ρ,st,l,h⟩:=h
 refine⟨μ,ρ,st,l,RK.stmt h l fun μ1 st1 x v H1 p1 x1 l1 q1 h1=>?_⟩
 cases q1
 cases x with
 |true=>exact⟨μ1,ρ,st1,l1,h1⟩
 |false=>exact⟨μ1,ρ,st1,l1,h1⟩⟩
abbrev FG:=W->cv->Option cv
abbrev HF:=List W->cv->Option cv
def ND(X:Cx)(f:FG):TG:=fun v σ H Q=>∃μ ρ st w ρ',Rl X μ ρ st σ H/\a8 X.K μ H w v/\f w ρ=some ρ'/\∀σ',Rl X μ ρ' st σ' H->Q σ' H
def QD(X:Cx)(f:HF):FC:=fun vs σ H Q=>∃μ ρ st ws ρ',Rl X μ ρ st σ H/\RelWs X.K μ H ws vs/\f ws ρ=some ρ'/\∀σ',Rl X μ ρ' st σ' H->Q σ' H
theorem PG.imp{t t':TG}(h:PG X e t)(i:∀v σ H Q,t' v σ H Q->t v σ H Q):PG X e t':=fun ac s σ H x u Q I r q=>h ac s σ H x u Q I r (i _ _ _ _ q)
theorem Hm.imp{e:List Expr}{t t':FC}(h:Hm X e t)(i:∀v σ H Q,t' v σ H Q->t v σ H Q):Hm X e t':=fun ac s σ H x u Q I r q=>h ac s σ H x u Q I r (i _ _ _ _ q)
structure SG(X:Cx)(e:Expr)(f:FG):Prop where
 h:PG X e (ND X f)
structure Ps(X:Cx)(e:List Expr)(f:HF):Prop where
 h:Hm X e (QD X f)
def fz(i:Nat):FG:=fun w ρ=>some (ρ.set i (some w))
theorem Ai(hN:X.N.Nodup)(hi:X.N[i]?=some x)(hx:Ft X.env.scope x)(hf:X.fn x=true\/X.env.scope.names.lookup x=some .local:=by first|exact .inl rfl|exact .inr rfl|assumption):SG X (.Name x pos) (fz i):=⟨(FF hN hi hx hf).imp fun v σ H Q h=>by
 obtain⟨μ,ρ,st,w,ρ',l,r,e,q⟩:=h
 cases e
 exact q _ ⟨rV r i l.env,l.sto⟩⟩
def j8:HF:=fun ws ρ=>match ws with
 |[]=>some ρ
 |_=>none
def cU(f:FG)(fs:HF):HF:=fun ws ρ=>match ws with
 |w::ws=>(f w ρ).bind fun ρ'=>fs ws ρ'
 |[]=>none
theorem j9:Ps X [] j8:=⟨FH.imp fun vs σ H Q h=>by
 obtain⟨μ,ρ,st,ws,ρ',l,r,e,q⟩:=h
 cases ws with
 |nil=>cases e;exact⟨r.nilE,q σ l⟩
 |cons _ _=>cases e⟩
theorem dG{f:FG}{fs:HF}(h1:SG X e f)(h2:Ps X es fs)(hs:(assignEach (e::es) X.env).map (·.2)=assign e X.env::(assignEach es X.env).map (·.2):=by rfl):Ps X (e::es) (cU f fs):=⟨(B3 h1.h h2.h hs).imp fun vs σ H Q h=>by
 obtain⟨μ,ρ,st,ws,ρ',l,r,e,q⟩:=h
 cases ws with
 |nil=>cases e
 |cons w ws=>
  obtain⟨x,xs,rfl,rx,rs⟩:=r.consE
  simp only[cU]at e
  cases e1:f w ρ with
  |none=>rw[e1]at e;cases e
  |some ρ1=>
   rw[e1]at e
   exact⟨x,xs,rfl,μ,ρ,st,w,ρ1,l,rx,e1,fun σ1 l1=>⟨μ,ρ1,st,ws,ρ',l1,rs,e,q⟩⟩⟩
def yX(n:Nat)(fs:HF):FG:=fun w ρ=>match w with
 |.tup ws=>if ws.length=n then fs ws ρ else none
 |_=>none
theorem mT{k:Nat}{fs:HF}(hc:X.calm=true)(h:Ps X es fs)(hn:(assignEach es X.env).length=n:=by rfl)(mO:(assignEach es X.env).findIdx? (·.1)=none:=by rfl):SG X (.Tuple es k pos) (yX n fs):=⟨(Jm hc h.h hn mO).imp fun v σ H Q h=>by
 obtain⟨μ,ρ,st,w,ρ',l,r,e,q⟩:=h
 cases w with
 |tup ws=>
  obtain⟨p,vs,rfl,hS,rs⟩:=r.tupE
  simp only[yX]at e
  by_cases c:ws.length=n
  ·rw[aw c]at e
   exact⟨p,vs,rfl,hS,by rw[<- rs.len];exact c,μ,ρ,st,ws,ρ',l,rs,e,q⟩
  ·rw[ay c]at e;cases e
 |_=>cases e⟩
def xb(fe:FE)(f:FG):FS:=fun ρ st=>(fe ρ st).stmt ρ fun w st=>match f w ρ with
 |some ρ'=>.nx ρ' st
 |none=>.bad
def cE(i:Nat)(fe:FE):FS:=fun ρ st=>(fe ρ st).stmt ρ fun w st=>.nx (ρ.set i (some w)) st
theorem Kb(hN:X.N.Nodup)(hi:X.N[i]?=some x)(hx:Ft X.env.scope x)(he:SE X e fe)(hs:swapsWith e (some (.Name x gy)) pos.line X.env=pure false:=by rfl)(hf:X.fn x=true\/X.env.scope.names.lookup x=some .local:=by first|exact .inl rfl|exact .inr rfl|assumption) :
  SS X (.Assign [.Name x gy] e pos) (cE i fe):=⟨(Jp hN hi hx he.h hs hf).imp fun D σ H h=>by
 obtain⟨μ,ρ,st,l,h⟩:=h
 exact⟨μ,ρ,st,l,RK.stmt h l fun μ1 st1 x v H1 p1 x1 l1 q1 h1=>h1 μ1 _ H1 (ae _) db.refl ⟨rV q1 i l1.env,l1.sto⟩⟩⟩
def nE(x i v:W)(st:List am):Option (List am):=match x,i with
 |.loc n,.int k=>(match st[n]? with
  |some (.lst ws)=>(A7 ws.length k).map fun j=>st.set n (.lst (ws.set j v))
  |_=>none)
 |_,_=>none
def vo(fo fi fe:FE)(f:W->W->W->List am->Option (List am)):FS:=fun ρ st=>(fe ρ st).stmt ρ fun v st=>(fo ρ st).stmt ρ fun x st=>(fi ρ st).stmt ρ fun i st=>match f x i v st with
 |some br=>.nx ρ br
 |none=>.bad
def CU(X:Cx)(f:W->W->W->List am->Option (List am)):FD:=fun o i v H Q=>∃μ st wo wi wv br,gB X.K X.mg μ st H/\a8 X.K μ H wo o/\a8 X.K μ H wi i/\a8 X.K μ H wv v/\f wo wi wv st=some br/\∀H',db X.K H H'->gB X.K X.mg μ br H'->Q H'
theorem vp:AW X (CU X nE):=fun ac s σ H o i v ov iv u Q I r1 r2 r3 ⟨μ,st,wo,wi,wv,br,S,ro,ri,rv,e,q⟩=>by
 cases wo with
 |loc n=>
  cases wi with
  |int k=>
   simp only[nE]at e
   cases e1:st[n]? with
   |none=>rw[e1]at e;cases e
   |some cc=>
    rw[e1]at e
    cases cc with
    |lst ws=>
     simp only at e
     cases e2:A7 ws.length k with
     |none=>rw[e2]at e;cases e
     |some jj=>
      rw[e2]at e
      cases e
      obtain⟨a1,g1,vs,k1,r⟩:=S.get e1
      obtain⟨b1,f1,rfl⟩:=ro.locE
      rw[g1]at f1;cases f1
      refine Bf ac s σ H _ i v ov iv u Q I r1 r2 r3 ⟨a1,vs,k,jj,rfl,ri.intE,k1,by rw[<- r.len];exact e2,fun H2 eH=>?_⟩
      subst eH
      exact q _ (dW.but gU k1) (S.set e1 g1 k1 (r.setI jj rv))
    |_=>cases e
  |_=>cases e
 |_=>cases wi<;>cases e
theorem rY{f:W->W->W->List am->Option (List am)}{i:Expr}{fi:FE}{fo:FE}(Q_:AW X (CU X f))(he:SE X e fe)(ho:SE X o fo)(hi:SE X i fi)
  (ha:∀v,assign (.Subscript o i gy) X.env v=(do
   let ov <- holding [v] (eval o X.env)
   let iv <- holding [v,ov] (eval i X.env)
   standAt gy
   holding [v,ov,iv] (setItem ov iv v)
   release [v,ov,iv] []):=by intro _;rfl)
  (hs:swapsWithSole [.Subscript o i gy] e pos.line X.env=pure false:=by rfl) (hw:swappedStores [.Subscript o i gy] e X.env=pure none:=by rfl) (h1:(assignEach [.Subscript o i gy] X.env).map (·.2)=[assign (.Subscript o i gy) X.env]:=by rfl) :
  SS X (.Assign [.Subscript o i gy] e pos) (vo fo fi fe f):=⟨(Jo he.h (Jn ho.h hi.h Q_ ha) hs hw h1).imp fun D σ H h=>by
 obtain⟨μ,ρ,st,l,h⟩:=h
 refine⟨μ,ρ,st,l,RK.stmt h l fun μ1 st1 v vv H1 p1 x1 l1 q1 h1=>⟨μ1,ρ,st1,l1,RK.stmt h1 l1 fun μ2 dq x xv H2 p2 x2 l2 q2 h2=>⟨μ2,ρ,dq,l2,RK.stmt h2 l2 fun μ3 mn i iv H3 p3 x3 l3 q3 h3=>?_⟩⟩⟩
 cases e1:f x i v mn with
 |none=>rw[e1]at h3;exact h3.elim
 |some br=>
  rw[e1]at h3
  exact⟨μ3,mn,x,i,v,br,l3.sto,q2.mono p3 x3,q3,(q1.mono p2 x2).mono p3 x3,e1,fun H' xx S'=>h3 μ3 σ H' (ae _) xx (l3.to (ae _) xx S')⟩⟩
end
def iO(st:List am):Option (Nat×List W)->Prop
 |none=>True
 |some (n,ws)=>lstOf st n=some ws
abbrev Bn:=List W×Option (Nat×List W)
abbrev FI:=cv->List am->R Bn
def vq(X:Cx)(J:It)(k:Bn)(μ:List Addr)(H:Hp):Prop:=
 ∀(i:Nat) μ' br H',μ <+: μ'->db X.K H H'->gB X.K X.mg μ' br H'->iO br k.2 ->
  (∀w,k.1[i]?=some w->J.go i H'/\∀x H'',J.yld i H' x H''->db X.K H' H''/\gB X.K X.mg μ' br H''/\a8 X.K μ' H'' w x)/\(k.1.length<=i->J.stop i H')
abbrev NE(X:Cx):List Addr->Hp->Bn->It->Prop:=fun μ H k J=>vq X J k μ H
structure SI(X:Cx)(tg it:Expr)(f:FI):Prop where
 h:PI X tg it (fun σ H R=>tG X (NE X) f σ H R)
theorem PI.imp{it:Expr}{t t':TI}(h:PI X tg it t)(i:∀σ H Q,t' σ H Q->t σ H Q):PI X tg it t':=fun ac s σ H Q I q=>h ac s σ H Q I (i _ _ _ q)
open Classical in
def rZ(f:FG)(body:FS)(ck:Option (Nat×List W)):List W->FS
 |[],ρ,st=>if iO st ck then .nx ρ st else .bad
 |w::ws,ρ,st=>if iO st ck then(match f w ρ with
  |none=>.bad
  |some ρ'=>(match body ρ' st with
   |.nx ρ2 dq=>rZ f body ck ws ρ2 dq
   |.ct ρ2 dq=>rZ f body ck ws ρ2 dq
   |.bk ρ2 dq=>.nx ρ2 dq
   |.rt w dq=>.rt w dq
   |.ex c ρ2 dq=>.ex c ρ2 dq
   |.bad=>.bad))else .bad
def gI(fi:FI)(f:FG)(body:FS):FS:=fun ρ st=>(fi ρ st).stmt ρ fun k st=>rZ f body k.2 k.1 ρ st
section
variable{a b:Expr}{fa fb fe:FE}{fs:FA}{ft:FT}{g:FS}{f:FG}{fi:FI}
theorem de(hi:SI X tg cx fi)(hg:SG X tg f)(hb:SB X body g)(hc:X.calm=true:=by rfl)(hp:PassesOwn (model X.prog X.w) X.A X.env X.xe:=by passes_own)(hs:∀x,foldedSetIterable cx X.env x=pure x:=by intro _;rfl):SS X (.For tg cx body [] pos) (gI fi f g):=⟨(Jr hp hc hi.h hg.h hb.h hs).imp fun D σ H h=>by
 obtain⟨μ,ρ,st,l,h⟩:=h
 refine⟨μ,ρ,st,l,RK.stmt h l fun μ1 st1 k J H1 p1 x1 l1 wk h1=>?_⟩
 refine⟨fun i m σ' H'=>i<=k.1.length/\m=k.1.length-i/\∃μ' ρ' br,μ1 <+: μ'/\db X.K H1 H'/\Rl X μ' ρ' br σ' H'/\SK X μ' H' D (rZ f g k.2 (k.1.drop i) ρ' br),
  ⟨_,cG _,rfl,μ1,ρ,st1,ae _,db.refl,l1,h1⟩,?_⟩
 rintro i m σ' H' ⟨hi,rfl,μ',ρ',br,pm,xm,lm,hm⟩
 by_cases hlt:i<k.1.length
 ·rw[bJ hlt]at hm
  unfold rZ at hm
  by_cases ck:iO br k.2
  ·rw[aw ck]at hm
   obtain⟨go,yld⟩:=(wk i μ' br H' pm xm lm.sto ck).1 _ (ag hlt)
   cases hf:f k.1[i] ρ' with
   |none=>rw[hf]at hm;exact hm.elim
   |some ρ2=>
    rw[hf]at hm
    simp only at hm
    refine .inr ⟨go,fun σ2 H2=>∃μ2 ρ3 dq,μ' <+: μ2/\db X.K H' H2/\Rl X μ2 ρ3 dq σ2 H2/\SK X μ2 H2 D (rZ f g k.2 (k.1.drop (i+1)) ρ3 dq),fun σ2 H2 ⟨μ2,ρ3,dq,q1,q2,q3,q4⟩=>
     ⟨_,by omega,hlt,rfl,μ2,ρ3,dq,pm.trans q1,xm.trans q2,q3,q4⟩,fun x H2 hy=>?_⟩
    obtain⟨y1,y2,y3⟩:=yld x H2 hy
    refine⟨μ',ρ',br,k.1[i],ρ2,lm.to (ae _) y1 y2,y3,hf,fun σ2 l2=>⟨μ',ρ2,br,l2,?_⟩⟩
    cases e:g ρ2 br with
    |nx ρ3 mn=>rw[e]at hm;exact fun μ4 σ4 H4 p4 x4 l4=>⟨μ4,ρ3,mn,p4,y1.trans x4,l4,SK.mono hm p4 (y1.trans x4)⟩
    |ct ρ3 mn=>rw[e]at hm;exact fun μ4 σ4 H4 p4 x4 l4=>⟨μ4,ρ3,mn,p4,y1.trans x4,l4,SK.mono hm p4 (y1.trans x4)⟩
    |bk ρ3 mn=>rw[e]at hm;exact fun μ4 σ4 H4 p4 x4 l4=>hm μ4 σ4 H4 p4 (y1.trans x4) l4
    |rt w mn=>rw[e]at hm;exact fun μ4 v4 H4 p4 x4=>hm μ4 v4 H4 p4 (y1.trans x4)
    |ex c ρ3 mn=>rw[e]at hm;exact XS.mono hm (ae _) y1
    |bad=>rw[e]at hm;exact hm
  ·rw[ay ck]at hm;exact hm.elim
 ·have hi':i=k.1.length:=by omega
  subst hi'
  rw[dP (av _)]at hm
  unfold rZ at hm
  by_cases ck:iO br k.2
  ·rw[aw ck]at hm
   exact .inl ⟨(wk _ μ' br H' pm xm lm.sto ck).2 (av _),hm μ' σ' H' (ae _) db.refl lm⟩
  ·rw[ay ck]at hm;exact hm.elim⟩
def CV(fe:FE):FI:=fun ρ st=>(fe ρ st).bind fun x st=>match x with
 |.tup ws=>.ok (ws,none) st
 |_=>.bad
theorem CW(he:SE X e fe):SI X tg e (CV fe):=⟨(Jq he.h).imp fun σ H R h=>by
 obtain⟨μ,ρ,st,l,h⟩:=h
 refine⟨μ,ρ,st,l,RK.bind h l fun μ1 st1 x v H1 p1 x1 l1 q1 h1=>?_⟩
 cases x with
 |tup ws=>
  obtain⟨p,vs,rfl,hS,r⟩:=q1.tupE
  refine⟨p,rfl,⟨vs,hS⟩,h1 μ1 _ H1 (ae _) db.refl l1.sto fun i μ' br H' pp xx S _=>⟨fun w hw=>?_,fun hl=>⟨vs,xx _ _ hS,by rw[<- r.len];exact hl⟩⟩⟩
  have r':=r.mono pp xx
  obtain⟨v,g1,g2⟩:=r'.get hw
  refine⟨⟨vs,v,xx _ _ hS,g1⟩,fun y H'' hy=>?_⟩
  obtain⟨rfl,hy⟩:=hy
  have:=hy vs (xx _ _ hS)
  rw[g1]at this;cases this
  exact⟨db.refl,S,g2⟩
 |_=>exact h1.elim⟩
def HG(fe:FE):FI:=fun ρ st=>(fe ρ st).bind fun x st=>match x with
 |.loc n=>(match lstOf st n with
  |some ws=>.ok (ws,some (n,ws)) st
  |none=>.bad)
 |_=>.bad
theorem Kc(he:SE X e fe):SI X tg e (HG fe):=⟨(FK he.h).imp fun σ H R h=>by
 obtain⟨μ,ρ,st,l,h⟩:=h
 refine⟨μ,ρ,st,l,RK.bind h l fun μ1 st1 x v H1 p1 x1 l1 q1 h1=>?_⟩
 cases x with
 |loc n=>
  obtain⟨a,ha,rfl⟩:=q1.locE
  simp only at h1
  cases e1:lstOf st1 n with
  |none=>rw[e1]at h1;exact h1.elim
  |some ws=>
   rw[e1]at h1
   obtain⟨a',vs0,g0,hS0,r0⟩:=l1.sto.lstOf e1
   rw[ha]at g0;cases g0
   refine⟨a,rfl,⟨vs0,hS0⟩,h1 μ1 _ H1 (ae _) db.refl l1.sto fun i μ' br H' pp xx S ck=>?_⟩
   obtain⟨a2,vs,g2,hS,r⟩:=S.lstOf (show lstOf br n=some ws from ck)
   have:μ'[n]?=some a:=pre_get pp ha
   rw[g2]at this;cases this
   refine⟨fun w hw=>?_,fun hl=>⟨vs,hS,by rw[<- r.len];exact hl⟩⟩
   obtain⟨v,g1,g3⟩:=r.get hw
   refine⟨⟨vs,v,hS,g1⟩,fun y H'' hy=>?_⟩
   obtain⟨rfl,hy⟩:=hy
   have:=hy vs hS
   rw[g1]at this;cases this
   exact⟨db.refl,S,g3⟩
 |_=>exact h1.elim⟩
def eO(lo:Int)(n:Nat):List W:=(List.range n).map fun(i:Nat)=>W.int (lo+i)
theorem cC(lo:Int)(n:Nat):(eO lo n).length=n:=by simp[eO]
theorem r6{lo:Int}:vq X (MG lo n) (eO lo n,none) μ H:=fun i μ' br H' pp xx S _=>by
 refine⟨fun w hw=>?_,fun hl=>by rw[cC]at hl;exact hl⟩
 have hi:i<n:=by
  have:=(ah.mp hw).1
  rw[cC]at this;exact this
 refine⟨hi,fun y H'' hy=>?_⟩
 obtain⟨rfl,rfl⟩:=hy
 have e:w=.int (lo+i):=by
  unfold eO at hw
  rw[af,aE hi]at hw
  exact(aL hw).symm
 subst e
 exact⟨db.refl,S,.int⟩
def ca(fs:FA):FI:=fun ρ st=>(fs ρ st).bind fun ws st=>match ws with
 |[.int j]=>if -(2^62)<=j/\j<2^62 then .ok (eO 0 j.toNat,none) st else .bad
 |_=>.bad
def oH(fs:FA):FI:=fun ρ st=>(fs ρ st).bind fun ws st=>match ws with
 |[.int i,.int j]=>if -(2^62)<=i/\i<2^62/\-(2^62)<=j/\j<2^62 then .ok (eO i (j-i).toNat,none) st else .bad
 |_=>.bad
theorem df(hm:X.mg "range"=none)(ha:SA X [a] fs)(hg:Gl X "range":=by rfl)(hs:starEach [a] X.env=[(false,eval a X.env)]:=by rfl):SI X tg (.Call (.Name "range" p) [a] [] pos) (ca fs):=⟨(AY hg hm ha.h hs).imp fun σ H R h=>by
 obtain⟨μ,ρ,st,l,h⟩:=h
 refine⟨μ,ρ,st,l,RK.bind h l fun μ1 st1 x v H1 p1 x1 l1 q1 h1=>?_⟩
 split at h1
 ·obtain⟨y,rfl,ry⟩:=q1.one
  split at h1
  ·rename_i c
   exact⟨_,by rw[ry.intE],c.1,c.2,h1 μ1 _ H1 (ae _) db.refl l1.sto r6⟩
  ·exact h1.elim
 ·exact h1.elim⟩
theorem Bo(hm:X.mg "range"=none)(ha:SA X [a,b] fs)(hg:Gl X "range":=by rfl)(hs:starEach [a,b] X.env=[(false,eval a X.env),(false,eval b X.env)]:=by rfl)(rJ:starEach [b] X.env=[(false,eval b X.env)]:=by rfl):SI X tg (.Call (.Name "range" p) [a,b] [] pos) (oH fs):=⟨(AZ hg hm ha.h hs rJ).imp fun σ H R h=>by
 obtain⟨μ,ρ,st,l,h⟩:=h
 refine⟨μ,ρ,st,l,RK.bind h l fun μ1 st1 x v H1 p1 x1 l1 q1 h1=>?_⟩
 split at h1
 ·obtain⟨y,z,rfl,ry,rz⟩:=q1.two
  split at h1
  ·rename_i c
   exact⟨_,_,by rw[ry.intE,rz.intE],c,h1 μ1 _ H1 (ae _) db.refl l1.sto r6⟩
  ·exact h1.elim
 ·exact h1.elim⟩
end
mutual
def W.und(n:Nat):W->Bool
 |.loc m=>decide (m<n)
 |.tup ws=>undWs n ws
 |_=>true
def undWs(n:Nat):List W->Bool
 |[]=>true
 |w::ws=>w.und n&&undWs n ws
end
def am.und(n:Nat):am->Bool
 |.lst ws=>undWs n ws
 |.ro ws=>undWs n ws
 |.exc _=>true
 |.dct kvs=>undWs n (kvs.map fun p=>p.2)
 |.rod kvs=>undWs n (kvs.map fun p=>p.2)
 |.dcx kvs=>undWs n (kvs.map fun p=>p.2)
 |.rox kvs=>undWs n (kvs.map fun p=>p.2)
 |.obj _ fs=>undWs n (fs.map fun p=>p.2)
 |.tab _ _ _=>true
 |.pin _ _ _ w=>w.und n
 |.gone=>true
section
mutual
theorem a8.und:∀{w:W} {v:V},a8 K μ H w v->w.und μ.length=true
 |.non,_,_=>by simp[W.und]
 |.bl _,_,_=>by simp[W.und]
 |.int _,_,_=>by simp[W.und]
 |.str _,_,_=>by simp[W.und]
 |.tup _,_,r=>by obtain⟨p,vs,_,_,c⟩:=r.tupE;unfold W.und;exact RelWs.und c
 |.loc _,_,r=>by obtain⟨a,e,_⟩:=r.locE;unfold W.und;exact ce (ah.mp e).1
theorem RelWs.und:∀{ws:List W} {vs:List V},RelWs K μ H ws vs->undWs μ.length ws=true
 |[],_,_=>by unfold undWs;rfl
 |_::_,_,r=>by obtain⟨x,xs,_,b,c⟩:=r.consE;unfold undWs;rw[a8.und b,RelWs.und c];rfl
end
mutual
theorem a8.take:∀{w:W} {v:V},a8 K μ H w v->w.und n=true->a8 K (μ.take n) H w v
 |.non,_,r,_=>by rw[r.nonE];exact .non
 |.bl _,_,r,_=>by rw[r.blE];exact .bl
 |.int _,_,r,_=>by rw[r.intE];exact .int
 |.str _,_,r,_=>by rw[r.strE];exact .str
 |.tup _,_,r,b=>by obtain⟨p,vs,rfl,h,c⟩:=r.tupE;unfold W.und at b;exact .tupI h (RelWs.takeN c b)
 |.loc _,_,r,b=>by obtain⟨a,e,rfl⟩:=r.locE;unfold W.und at b;exact .locI (by rw[cy (of_decide_eq_true b)];exact e)
theorem RelWs.takeN:∀{ws:List W} {vs:List V},RelWs K μ H ws vs->undWs n ws=true->RelWs K (μ.take n) H ws vs
 |[],_,r,_=>by rw[r.nilE];exact .nilI
 |_::_,_,r,b=>by
  obtain⟨x,xs,rfl,b1,c1⟩:=r.consE
  unfold undWs at b
  rw[cr]at b
  exact .consI (a8.take b1 b.1) (RelWs.takeN c1 b.2)
end
theorem KX.und_w(k:KX)(n:Nat):k.w.und n=true:=by
 have hi:∀ks:List Int,undWs n (ks.map W.int)=true:=fun ks=>by
  induction ks with
  |nil=>rfl
  |cons a l ih=>show(true&&undWs n (l.map W.int))=true;rw[ih];rfl
 cases k with
 |bo b=>rfl
 |fl ks=>unfold KX.w W.und;exact hi ks
 |pr i ks=>unfold KX.w W.und undWs;rw[show(W.int i).und n=true from rfl];unfold undWs;rw[show(W.tup (ks.map W.int)).und n=true by unfold W.und;exact hi ks];rfl
theorem r9:∀{kvs:List (KX×W)} {es:List DictEntry},Paired (tY K μ H) kvs es->undWs μ.length (kvs.map fun p=>p.2)=true
 |_,_,.nil=>rfl
 |_,_,.cons r t=>by
  obtain⟨_,_,v,h,_⟩:=r
  show(_&&undWs _ _)=true
  rw[h.und,r9 t];rfl
theorem pP:∀{kvs:List (KX×W)} {es:List DictEntry},Paired (tY K μ H) kvs es->undWs n (kvs.map fun p=>p.2)=true->Paired (tY K (μ.take n) H) kvs es
 |_,_,.nil,_=>.nil
 |_,_,.cons r t,b=>by
  obtain⟨a,⟨u,c,d⟩,v,h,g⟩:=r
  have b:(_&&undWs n _)=true:=b
  rw[cr]at b
  exact .cons ⟨a,⟨u,a8.take c (KX.und_w _ n),d⟩,v,a8.take h b.1,g⟩ (pP t b.2)
theorem j6.und{c:am}(r:j6 K mg μ H c a):c.und μ.length=true:=by
 cases c with
 |lst ws=>obtain⟨vs,_,y⟩:=r;exact y.und
 |ro ws=>obtain⟨vs,_,y⟩:=r;exact y.und
 |exc c=>rfl
 |dct kvs=>obtain⟨vs,_,y⟩:=r;exact y.und
 |rod kvs=>obtain⟨vs,_,_,y⟩:=r;exact y.und
 |dcx kvs=>obtain⟨es,_,_,y,_⟩:=r;exact r9 y
 |rox kvs=>obtain⟨es,_,_,_,y,_⟩:=r;exact r9 y
 |obj _ fs=>obtain⟨_,_,vs,_,_,y⟩:=r;exact y.und
 |tab _ _ _=>rfl
 |pin _ _ _ _=>obtain⟨_,_,_,v,y,_⟩:=r;exact y.und
 |gone=>rfl
theorem j6.take{c:am}(r:j6 K mg μ H c a)(b:c.und n=true):j6 K mg (μ.take n) H c a:=by
 cases c with
 |lst ws=>obtain⟨vs,x,y⟩:=r;exact⟨vs,x,y.takeN b⟩
 |ro ws=>obtain⟨vs,x,y⟩:=r;exact⟨vs,x,y.takeN b⟩
 |exc c=>exact r
 |dct kvs=>obtain⟨vs,x,y⟩:=r;exact⟨vs,x,y.takeN b⟩
 |rod kvs=>obtain⟨vs,o,x,y⟩:=r;exact⟨vs,o,x,y.takeN b⟩
 |dcx kvs=>obtain⟨es,x,d,y,z⟩:=r;exact⟨es,x,d,pP y b,z⟩
 |rox kvs=>obtain⟨es,o,x,d,y,z⟩:=r;exact⟨es,o,x,d,pP y b,z⟩
 |obj _ fs=>obtain⟨C,dx,vs,m,x,y⟩:=r;exact⟨C,dx,vs,m,x,y.takeN b⟩
 |tab _ _ _=>exact r
 |pin _ _ _ _=>obtain⟨ea,p,g,v,y,z⟩:=r;exact⟨ea,p,g,v,y.take b,z⟩
 |gone=>trivial
end
theorem eV.ex{w:World}{h:Heap}{o:HO}(x:eV P w H h a o):∃ob,h.get? a=some ob:=by
 cases o with
 |lst xs=>obtain⟨_,_,_,_,e⟩:=x;exact⟨_,e⟩
 |tup xs=>obtain⟨_,_,_,o,e,_⟩:=x;exact⟨_,e⟩
 |dK kvs=>obtain⟨_,_,_,_,o,_,_,e,_⟩:=x;exact⟨_,e⟩
 |dT kvs=>obtain⟨_,_,_,_,o,_,_,e,_⟩:=x;exact⟨_,e⟩
 |set S n=>obtain⟨o,_,_,_,e,_⟩:=x;exact⟨_,e⟩
 |ins C dx fs=>obtain⟨_,_,_,e,_⟩:=x;exact⟨_,e⟩
 |own y=>obtain⟨_,e⟩:=x;exact⟨_,e⟩
 |xd fs=>obtain⟨_,⟨_,_,_,e,_⟩,_⟩:=x;exact⟨_,e⟩
 |rng lo hi=>obtain⟨_,_,_,e⟩:=x;exact⟨_,e⟩
 |frz ob u=>obtain⟨e,_⟩:=x;exact⟨_,e⟩
 |tbl ps=>exact⟨_,(show h.get? a=some _ from x)⟩
 |met f y=>exact⟨_,(show h.get? a=some _ from x)⟩
 |ext φ=>obtain⟨_,⟨_,e⟩,_⟩:=x;exact⟨_,e⟩
def HH(st br:List am)(ws:List W):Prop:=undWs st.length ws=true/\st.length<=br.length/\∀(i:Nat),i<st.length->br[i]?=st[i]?\/∃c,br[i]?=some c/\c.und st.length=true
open Classical in
def j_(st br:List am)(ws:List W):List am:=if HH st br ws then br.take st.length else br
theorem r_{ws:List W}{vs:List V}(S:gB K mg μ st H)(S':gB K mg μ' br H')(p:μ <+: μ')(r:RelWs K μ' H' ws vs) :
  ∃μ2,μ <+: μ2/\gB K mg μ2 (j_ st br ws) H'/\RelWs K μ2 H' ws vs:=by
 unfold j_
 by_cases k:HH st br ws
 ·rw[aw k]
  obtain⟨k1,k2,k3⟩:=k
  have e:μ'.take st.length=μ:=by
   obtain⟨t,rfl⟩:=p
   rw[S.len,jU]
  refine⟨μ'.take st.length,by rw[e];exact ae _,⟨fun i j a ci cj h1 h2 r1 r2 m1 m2=>?_,by rw[aV,aV,S'.len],fun i c a h1 h2=>?_⟩,r.takeN k1⟩
  ·have hi:i<st.length:=by have:=(ah.mp h1).1;rw[aV]at this;omega
   have hj:j<st.length:=by have:=(ah.mp h2).1;rw[aV]at this;omega
   rw[cy hi]at h1 m1
   rw[cy hj]at h2 m2
   exact S'.nd i j a ci cj h1 h2 r1 r2 m1 m2
  ·have hi:i<st.length:=by have:=(ah.mp h1).1;rw[aV]at this;omega
   rw[cy hi]at h1 h2
   refine(S'.at' i c a h1 h2).take ?_
   rcases k3 i hi with q|⟨c',q,b⟩
   ·rw[h1]at q
    obtain⟨a0,g0,r0⟩:=S.get q.symm
    have:=r0.und
    rw[S.len];exact this
   ·rw[h1]at q;cases q;exact b
 ·rw[ay k]
  exact⟨μ',p,S',r⟩
def dB(N:Nat)(body:FS)(ws:List W)(st:List am):R W:=match body (ws.map some++List.replicate (N-ws.length) none) st with
 |.rt w br=>.ok w (j_ st br [w])
 |.nx _ br=>.ok .non (j_ st br [])
 |.ex c _ br=>.ex c (j_ st br [])
 |_=>.bad
def i_(P:Program)(w:World):yr:=fun outer H s E e s'=>∃x C t B H',e=.ref x/\E C none H'/\s'.os=s.os/\AllBare s'.gens/\Un (qA outer) [] H H' s.heap s'.heap/\nh P w H' s'.heap/\H' x=none/\Heap.FlyingW B outer x C (.ref t) s'.heap /\
 ∀b o,s'.heap.get? b=some o->(H' b≠none\/((∃o0,s.heap.get? b=some o0)/\b∉qA outer))->B.get? b=some o
def jw(K:Frag)(mg:Str->Option Value)(n:Nat)(F:List W->List am->R W):Sp:=fun vs H Q E=>vs.length=n/\∃μ ws st,gB K mg μ st H/\RelWs K μ H ws vs/\(match F ws st with
 |.ok w br=>∀μ' v H',μ <+: μ'->db K H H'->gB K mg μ' br H'->a8 K μ' H' w v->Q v H'
 |.ex c br=>∀C μ' H',mg c=some C->μ <+: μ'->db K H H'->gB K mg μ' br H'->E C none H'
 |.bad=>False)
theorem qh.noted{c:Str}{e:Value}{Q:Unit->Shared->Prop}{E:Value->Shared->Prop}{M:Model}(f:qh X ac σ c H e s)(mO:X.stack=X.env::outer)(rG:X.env.frame=some X.env.locals)(hA:X.A.frames=some X.stack)
  (h:∀x C t B h',e=.ref x->X.mg c=some C->H x=none->Heap.FlyingW B X.stack x C (.ref t) h'->s.heap.UpToSlots h' ->
   (∀b o,s.heap.get? b=some o->(H b≠none\/((∃o0,X.s₀.heap.get? b=some o0)/\b∉X.fs/\b∉X.ex)\/((∃y,X.env.cells.lookup y=some b)/\b∉qA X.stack)\/∃p∈X.pn++ac,p.1=b)->B.get? b=some o)->Q () { s with heap:=h' }) :
  wpAny M X.A (leaving X.env e) Q E s:=by
 obtain⟨x,C,t,B,rfl,hC,hx,st,nx,ff,tr,cov⟩:=f.ex
 rw[mO]at ff hA
 rcases tr with tr|⟨oe,vs,he,rfl,_,hd,h1,h0⟩|⟨L,hL,tr⟩
 ·refine wpAny_leaving_nextW hA ff rG tr st nx fun h' hL=>?_
  obtain⟨k1,k2,k3,k4⟩:=hL
  exact h x C t B h' rfl hC hx ⟨k1,nx,by rw[mO];exact k2,k3⟩ k4 cov
 ·refine wpAny_leaving_firstW hA ff rG he st nx hd h1 h0 fun h' hL=>?_
  obtain⟨k1,k2,k3,k4⟩:=hL
  exact h x _ t B h' rfl hC hx ⟨k1,nx,by rw[mO];exact k2,k3⟩ k4 cov
 ·unfold leaving
  refine aa (l7 hL tr (wpAny_landsW ⟨st,nx,ff,tr⟩ fun h' fl up=>?_))
  exact h x C t B h' rfl hC hx (by rw[mO];exact fl) up cov
theorem qh.leaves{c:Str}{e:Value}{E:XK}{E':Value->Shared->Prop}(f:qh X ac σ c H e s)(mO:X.stack=X.env::X.outer)(rG:X.env.frame=some X.env.locals)(hA:X.A.frames=some X.stack)(Rf:X.ex=[])
  (hE:∀C,X.mg c=some C->E C none H):wpAny M X.A (leaving X.env e) (fun _ s''=>i_ X.prog X.w X.outer X.H₀ X.s₀ E e s'') E' s:=by
 refine f.noted mO rG hA fun x C t B h' he hC hx fl up cov=>?_
 have I:=f.inv
 have un:=I.base
 rw[Rf]at un
 have fsE:X.fs=qA X.outer:=rfl
 obtain⟨f1,f2,f3,f4⟩:=fl
 rw[mO]at f3
 obtain⟨_,_,f3'⟩:=f3
 have frames:∀b∈qA X.outer,∀o,s.heap.get? b=some o->∃sl,h'.get? b=some { o with slots:=sl }:=fun b hb o ho=>by
  obtain⟨_,o',ho',hd⟩:=I.funs.mem hb
  rw[ho]at ho';cases ho'
  exact up b o ho hd
 have kept:∀b o,s.heap.get? b=some o->(∃o0,X.s₀.heap.get? b=some o0)->b∉qA X.outer->h'.get? b=some o:=fun b o ho h0 hb=>f1 b o (cov b o ho (.inr (.inl ⟨h0,hb,by rw[Rf];simp⟩)))
 have keptH:∀b o,s.heap.get? b=some o->H b≠none->h'.get? b=some o:=fun b o ho h0=>f1 b o (cov b o ho (.inl h0))
 refine⟨x,C,t,B,H,he,hE C hC,I.os,I.bare,⟨fun b o q n hb hx=>?_,fun b o q n hb hx=>?_,fun b o q n hx=>un.free b o q n hx,fun b o q hx=>?_,un.tups,un.frzs,un.tbls⟩,fun b u hb=>?_,hx,⟨f1,f2,f3',f4⟩,fun b o ho hr=>?_⟩
 ·exact kept b o (un.keep b o q n hb hx) ⟨o,q⟩ hb
 ·obtain⟨sl,q1⟩:=un.slot b o q n hb hx
  obtain⟨sl2,q2⟩:=frames b hb _ q1
  exact⟨sl2,q2⟩
 ·obtain⟨o',q1⟩:=un.there b o q hx
  by_cases hb:b∈qA X.outer
  ·obtain⟨sl2,q2⟩:=frames b hb _ q1;exact⟨_,q2⟩
  ·exact⟨o',kept b o' q1 ⟨o,q⟩ hb⟩
 ·refine(I.hok b u hb).stay (fun c v hc q=>?_) (fun _ q=>q) fun _ _ q=>q
  refine keptH c v q ?_
  rcases hc with rfl|hc
  ·rw[hb];simp
  ·rw[hc];simp
 ·rcases hr with hr|⟨⟨o0,h0⟩,hb⟩
  ·cases hu:H b with
   |none=>exact absurd hu hr
   |some u=>
    have lt:=I.hok.lt hu
    obtain⟨ob,BP⟩:∃ob,s.heap.get? b=some ob:=by
     exact(I.hok b u hu).ex
    have:=keptH b ob BP hr
    rw[ho]at this;cases this
    exact cov b o BP (.inl hr)
  ·obtain⟨o',q1⟩:=un.there b o0 h0 (by simp)
   have:=kept b o' q1 ⟨o0,h0⟩ hb
   rw[ho]at this;cases this
   exact cov b o q1 (.inr (.inl ⟨⟨o0,h0⟩,hb,by rw[Rf];simp⟩))
structure bY(P:Program)(w:World)(K:Frag)(mg:Str->Option Value)(base:Heap)(k:Nat)(x:Str)(n:Nat)(F:List W->List am->R W):Prop where
 ex:∃(f:Addr) (fd:FuncData) (ps:List Str),mg x=some (.ref f)/\keepIn K (.ref f)=true/\ps.length=n/\kK K fd ps []/\cN P w K mg base (i_ P w) k f fd ps (jw K mg n F)
theorem bY.mono{w:World}{k:Nat}(h:bY P w K mg base j x n F)(hj:j<=k):bY P w K mg base k x n F:=by
 obtain⟨f,fd,ps,a,b,c,d,e⟩:=h.ex
 exact⟨f,fd,ps,a,b,c,d,e.mono hj⟩
def c6(n:Nat)(F:List W->List am->R W)(fs:FA):FE:=fun ρ st=>(fs ρ st).bind fun ws st=>if ws.length=n then F ws st else .bad
section
theorem CY{k:Nat}{f:Addr}{Q:VK}{us:List Value}{vs:List V}
  (Fn:cN X.prog X.w X.K X.mg X.base (i_ X.prog X.w) k f fd ps (jw X.K X.mg n F)) (hn:ps.length=n) (hr:fL k X.A) (hb:kK X.K fd ps []) (I:bb X ac σ H s) (S:gB X.K X.mg μ st H) (r:RelWs X.K μ H ws vs) (rv:bE vs us) (hl:ws.length=n)
  (h:RK X (nU X) μ σ H Q (F ws st)):wpAny (model X.prog X.w) X.A (call (.ref f) us) (EP X ac σ Q) X.xe s:=by
 have hl':(us++([]:List Value)).length=ps.length:=by rw[cf,<- rv.length,<- r.len,hl,hn]
 cases e:F ws st with
 |bad=>rw[e]at h;exact h.elim
 |ok w br=>
  rw[e]at h
  refine wpAny_call (jA (Fn.run X.A X.stack s H ⟨us,[]⟩ us vs Q (fun _ _ _=>False) hr I.env0 (by have:=hb s us I.kIn hl';rwa[cf]at this) rv ⟨by rw[<- r.len];exact hl,μ,ws,st,S,r,by rw[e];exact h⟩) fun r s' hq=>?_)
  cases r with
  |error e=>obtain⟨_,_,_,_,_,_,z,_⟩:=hq;exact z.elim
  |ok fl=>
   cases fl with
   |ret u=>exact I.after hq
   |next=>exact False.elim hq
   |brk=>exact False.elim hq
   |cont=>exact False.elim hq
 |ex c br=>
  rw[e]at h
  refine wpAny_call (jA (Fn.run X.A X.stack s H ⟨us,[]⟩ us vs (fun _ _=>False) (fun C _ H'=>X.mg c=some C/\∃μ',μ <+: μ'/\db X.K H H'/\gB X.K X.mg μ' br H') hr I.env0 (by have:=hb s us I.kIn hl';rwa[cf]at this) rv
   ⟨by rw[<- r.len];exact hl,μ,ws,st,S,r,by rw[e];exact fun C μ' H' hC p x S'=>⟨hC,μ',p,x,S'⟩⟩) fun r s' hq=>?_)
  cases r with
  |ok fl=>
   cases fl with
   |ret u=>obtain⟨_,_,_,_,_,_,_,z⟩:=hq;exact z.elim
   |next=>exact False.elim hq
   |brk=>exact False.elim hq
   |cont=>exact False.elim hq
  |error ev=>
   obtain⟨x,C,t,B,H',rfl,⟨hC,μ',p,xx,S'⟩,os,bare,un,hok,hx,fl,cov⟩:=hq
   have I':bb X ac σ H' s':=I.call' os un hok bare fun b hb=>absurd hb (by simp)
   refine h ac μ' H' (.ref x) s' p xx S' ⟨I',x,C,t,B,rfl,hC,hx,fl.1,fl.2.1,fl.2.2.1,.inl fl.2.2.2,fun b o ho hrel=>?_⟩
   refine cov b o ho ?_
   rcases hrel with q|⟨⟨o0,h0⟩,hb,hbx⟩|⟨⟨y,hy⟩,hb⟩|⟨pp,hp,rfl⟩
   ·exact .inl q
   ·refine .inr ⟨?_,fun z=>?_⟩
    ·obtain⟨o',q1⟩:=I.base.there b o0 h0 hbx
     exact⟨o',q1⟩
    ·rcases a_.mp (I.stkSub b z)with z|z
     ·rw[z]at h0
      exact absurd (aI (az h0) I.ok.above) (dr _)
     ·exact hb z
   ·obtain⟨v,ov,hov,_⟩:=I.cell y b hy
    exact .inr ⟨⟨_,hov⟩,hb⟩
   ·obtain⟨g1,g2,g3,g4,_⟩:=I.pin pp hp
    refine .inr ⟨⟨_,g1⟩,fun z=>?_⟩
    rcases a_.mp (I.stkSub _ z)with z|z
    ·exact g3 z
    ·exact g4 z
variable{fs:FA}
theorem cu{k k':Nat}(Fn:bY X.prog X.w X.K X.mg X.base k x n F)(hr:fL k' X.A)(hk:k<=k')(ha:SA X (e::es) fs)(hg:Gl X x:=by rfl)(BM:(x==("__debug__":Str))=false:=by decide)
  (he:starEach (e::es) X.env=(false,eval e X.env)::starEach es X.env:=by rfl) (qy:(backTo pos (starEach es X.env)).any (·.1)=false:=by rfl):SE X (.Call (.Name x p) (e::es) [] pos) (c6 n F fs):=⟨by
 intro ac s σ H Q I h
 obtain⟨f,fd,ps,hm,hkp,hn,hb,Fo⟩:=(Fn.mono hk).ex
 refine h_ (qZ I hg hm ?_ BM)
 obtain⟨μ,ρ,st,l,h⟩:=h
 have h':Nk X fs σ H fun vs H1=>∃μ1 st1 ws,Rl X μ1 ρ st1 σ H1/\RelWs X.K μ1 H1 ws vs/\RK X (nU X) μ1 σ H1 Q (if ws.length=n then F ws st1 else .bad):=
  ⟨μ,ρ,st,l,RK.bind h l fun μ1 st1 x v H1 p1 x1 l1 q1 h1=>⟨μ1,st1,x,l1,q1,h1⟩⟩
 refine PySem.W.callWith_K (h₀:=X.base) I.ok.mod.kin hkp (fU (ha.h pos ac s σ H _ I h') fun us s1 ⟨vs,H1,I1,r,μ1,st1,ws,l1,r1,q⟩=>⟨I1.kIn,?_⟩) he qy
 by_cases c:ws.length=n
 ·rw[aw c]at q
  exact CY Fo hn hr hb I1 l1.sto r1 r c q
 ·rw[ay c]at q;exact q.elim⟩
end
theorem Gm{w:World}{st:Stmt}{f:Addr}{N:List Str}{k:Nat}{g:FS}(F:js K x eY st f fd)(S:bu N ps (aM st))(hn:ps.length=n)
  (tL:∀(fM:Value) (A:Around) (outer:List Env) (s:Shared) (H:Hp) (E:XK),fd.code=fM->fL k (A.deeper (envOfC eY (aM st) s.heap.objs.size f fM)) ->
   SB (wI (i_ P w) P w K mg base N eY (aM st) f fM A outer s H E) (fE st) g):cN P w K mg base (i_ P w) (k+1) f fd ps (jw K mg n (dB N.length g)):=by
 obtain⟨oc,od,kV,pj,pm,an,fM,ct,Hh,rfl,lk,zG⟩:=F.ex
 refine Hq lk zG S (fun vs H Q E h=>by rw[hn];exact h.1) fun A outer s H vs Q E hr Fm=>?_
 obtain⟨hl,μ,ws,PX,Sr,r,h⟩:=Fm
 refine⟨_,(tL fM A outer s H E rfl hr).h,μ,ws.map some++List.replicate (N.length-ws.length) none,PX,⟨?_,Sr⟩,?_⟩
 ·unfold oq
  rw[<- r.len]
  have base:∀(ws:List W) (vs:List V) (m:Nat),RelWs K μ H ws vs->Paired (fun(o:Option W) (s:Option V)=>∀w,o=some w->∃v,s=some v/\a8 K μ H w v) (ws.map some++List.replicate m none) (vs.map some++List.replicate m none):=by
   intro ws
   induction ws with
   |nil=>
    intro vs m r
    rw[r.nilE]
    induction m with
    |zero=>exact .nil
    |succ m ih=>exact .cons (fun w z=>nomatch z) ih
   |cons w ws ih=>
    intro vs m r
    obtain⟨y,ys,rfl,ry,rys⟩:=r.consE
    exact .cons (fun w' z=>⟨y,rfl,by cases z;exact ry⟩) (ih ys m rys)
  exact base ws vs _ r
 ·unfold dB at h
  cases e:g (ws.map some++List.replicate (N.length-ws.length) none) PX with
  |rt w br=>
   rw[e]at h
   intro μ' v H' p x S' ko
   obtain⟨μ2,p2,S2,r2⟩:=r_ Sr S' p (.consI ko .nilI)
   obtain⟨_,e2,r3⟩:=r2.one
   cases e2
   exact h μ2 v H' p2 x S2 r3
  |nx ρ' br=>
   rw[e]at h
   intro μ' σ' H' p x l'
   obtain⟨μ2,p2,S2,_⟩:=r_ (ws:=[]) (vs:=[]) Sr l'.sto p .nilI
   exact h μ2 .non H' p2 x S2 .non
  |ex c ρ' br=>
   rw[e]at h
   intro ac μ' σ' H' ev s' p x l' fl
   obtain⟨μ2,p2,S2,_⟩:=r_ (ws:=[]) (vs:=[]) Sr l'.sto p .nilI
   exact fl.leaves rfl rfl fl.inv.ok.frames rfl fun C hC=>h C μ2 H' hC p2 x S2
  |bk ρ' br=>rw[e]at h;exact h.elim
  |ct ρ' br=>rw[e]at h;exact h.elim
  |bad=>rw[e]at h;exact h.elim
theorem b_{w:World}{st:Stmt}{f:Addr}{N:List Str}{k:Nat}{g:FS}(F:js K x eY st f fd)(S:bu N ps (aM st))(hn:ps.length=n)
  (tL:∀(fM:Value) (A:Around) (outer:List Env) (s:Shared) (H:Hp) (E:XK),fL k (A.deeper (envOfC eY (aM st) s.heap.objs.size f fM)) ->
   SB (wI (i_ P w) P w K mg base N eY (aM st) f fM A outer s H E) (fE st) g):cN P w K mg base (i_ P w) (k+1) f fd ps (jw K mg n (dB N.length g)):=Gm F S hn fun fM A outer s H E _ hr=>tL fM A outer s H E hr
theorem vt{w:World}{k:Nat}{st:Stmt}{f:Addr}{ps:List Str}
  (F:js K x x st f fd) (hm:mg x=some (.ref f)) (hn:ps.length=n)
  (hb:∀(kV pj pm:Value) (an:Option Addr) (fM ct:Value) (us:List Value),us.length=ps.length->bindArgs (fnOf x x (gs st) (fE st) (aM st) .none kV pj pm an fM ct) ⟨us,[]⟩=pure (ps.zip us))
  (ok:cN P w K mg base (i_ P w) k f fd ps (jw K mg n G)):bY P w K mg base k x n G:=⟨f,fd,ps,hm,F.kp,hn,F.binds hb,ok⟩
theorem RelWs.split:∀{as bs:List W} {vs:List V},RelWs K μ H (as++bs) vs->∃xs ys,vs=xs++ys/\RelWs K μ H as xs/\RelWs K μ H bs ys
 |[],_,vs,r=>⟨[],vs,rfl,.nilI,r⟩
 |w::as,bs,vs,r=>by
  obtain⟨x,xs,rfl,rx,rs⟩:=r.consE
  obtain⟨ys,zs,rfl,r1,r2⟩:=RelWs.split rs
  exact⟨x::ys,zs,rfl,.consI rx r1,r2⟩
section
variable{a b:Expr}{fa fb fe fo:FE}{fs:FA}
structure Ml(X:Cx)(id:String)(F:W->List W->List am->R W):Prop where
 h:wL X id (fun x vs H Q=>∃μ st wx ws,gB X.K X.mg μ st H/\a8 X.K μ H wx x/\RelWs X.K μ H ws vs/\BU X μ H Q (F wx ws st))
 n:∀x ws st,qE (F x ws st)
def mU(st:List am):W->Bool
 |.loc n=>(match st[n]? with|some (.lst _)=>true|_=>false)
 |_=>false
def CZ:W->Bool
 |.str _=>true
 |_=>false
theorem xc{w:W}(S:gB X.K X.mg μ st H)(r:a8 X.K μ H w v)(h:mU st w=true):∃l ys,v=.ref l/\H l=some (.lst ys):=by
 cases w with
 |loc n=>
  obtain⟨a,ha,rfl⟩:=r.locE
  simp only[mU]at h
  cases e1:st[n]? with
  |none=>rw[e1]at h;cases h
  |some cc=>
   rw[e1]at h
   cases cc with
   |lst ws=>obtain⟨a1,g1,vs,k1,_⟩:=S.get e1;rw[ha]at g1;cases g1;exact⟨_,vs,rfl,k1⟩
   |_=>cases h
 |_=>cases h
def uB(F:W->List W->List am->R W)(fo:FE)(fs:FA):FE:=fun ρ st=>(fo ρ st).bind fun x st=>if mU st x then(fs ρ st).bind fun ws st=>F x ws st else .bad
def HI(F:W->List W->List am->R W)(fo:FE)(fs:FA):FE:=fun ρ st=>(fo ρ st).bind fun x st=>if CZ x then(fs ρ st).bind fun ws st=>F x ws st else .bad
theorem qH{F:W->List W->List am->R W}(slot:Slot "list" name id)(yp:typeOf (.builtin id)=pure (.type "method_descriptor"))(hm:Ml X id F)(ho:SE X o fo)(ha:SA X (e::es) fs)
  (je:attributeBase o name X.env (eval o X.env)=eval o X.env:=by rfl)
  (wq:((backTo cK (starEach (e::es) X.env)).all (fun x=>!x.1)&&(backToKw cK (keywordEach [] X.env)).all (fun x=>x.1.isSome)
   && decide ((e::es).length+([]:List Keyword).length+(if ([]:List Keyword).isEmpty then 0 else 1)<30))=true:=by rfl)
  (jf:(d7.endLine==cK.line)=true:=by rfl) (hs:starEach (e::es) X.env=(false,eval e X.env)::starEach es X.env:=by rfl) (lR:(backTo cK (starEach es X.env)).any (·.1)=false:=by rfl) :
  SE X (.Call (.Attribute o name d7) (e::es) [] cK) (uB F fo fs):=⟨(M8 slot yp hm.h ho.h ha.h je wq jf hs lR).imp fun σ H Q h=>by
 obtain⟨μ,ρ,st,l,h⟩:=h
 refine⟨μ,ρ,st,l,RK.bind h l fun μ1 st1 x v H1 p1 x1 l1 q1 h1=>?_⟩
 by_cases c:mU st1 x=true
 ·rw[aw c]at h1
  refine⟨xc l1.sto q1 c,μ1,ρ,st1,l1,RK.bind h1 l1 fun μ2 dq ws vs H2 p2 x2 l2 q2 h2=>?_⟩
  exact⟨μ2,dq,x,ws,l2.sto,q1.mono p2 x2,q2,pL h2 (hm.n _ _ _)⟩
 ·rw[ay c]at h1;exact h1.elim⟩
theorem HJ{F:W->List W->List am->R W}(slot:Slot "list" name id)(yp:typeOf (.builtin id)=pure (.type "method_descriptor"))(hm:Ml X id F)(ho:SE X o fo)
  (je:attributeBase o name X.env (eval o X.env)=eval o X.env:=by rfl) (jf:(d7.endLine==cK.line)=true:=by rfl):SE X (.Call (.Attribute o name d7) [] [] cK) (uB F fo aK):=⟨(JX slot yp hm.h ho.h je jf).imp fun σ H Q h=>by
 obtain⟨μ,ρ,st,l,h⟩:=h
 refine⟨μ,ρ,st,l,RK.bind h l fun μ1 st1 x v H1 p1 x1 l1 q1 h1=>?_⟩
 by_cases c:mU st1 x=true
 ·rw[aw c]at h1
  exact⟨xc l1.sto q1 c,μ1,st1,x,[],l1.sto,q1,.nilI,pL h1 (hm.n _ _ _)⟩
 ·rw[ay c]at h1;exact h1.elim⟩
theorem NF{F:W->List W->List am->R W}(slot:Slot "str" name id)(yp:typeOf (.builtin id)=pure (.type "method_descriptor"))(hm:Ml X id F)(ho:SE X o fo)(ha:SA X (e::es) fs)
  (je:attributeBase o name X.env (eval o X.env)=eval o X.env:=by rfl)
  (wq:((backTo cK (starEach (e::es) X.env)).all (fun x=>!x.1)&&(backToKw cK (keywordEach [] X.env)).all (fun x=>x.1.isSome)
   && decide ((e::es).length+([]:List Keyword).length+(if ([]:List Keyword).isEmpty then 0 else 1)<30))=true:=by rfl)
  (jf:(d7.endLine==cK.line)=true:=by rfl) (hs:starEach (e::es) X.env=(false,eval e X.env)::starEach es X.env:=by rfl) (lR:(backTo cK (starEach es X.env)).any (·.1)=false:=by rfl) :
  SE X (.Call (.Attribute o name d7) (e::es) [] cK) (HI F fo fs):=⟨(M9 slot yp hm.h ho.h ha.h je wq jf hs lR).imp fun σ H Q h=>by
 obtain⟨μ,ρ,st,l,h⟩:=h
 refine⟨μ,ρ,st,l,RK.bind h l fun μ1 st1 x v H1 p1 x1 l1 q1 h1=>?_⟩
 cases x with
 |str z=>
  rw[aw (show CZ (W.str z)=true from rfl)]at h1
  refine⟨⟨z,q1.strE⟩,μ1,ρ,st1,l1,RK.bind h1 l1 fun μ2 dq ws vs H2 p2 x2 l2 q2 h2=>?_⟩
  exact⟨μ2,dq,_,ws,l2.sto,q1.mono p2 x2,q2,pL h2 (hm.n _ _ _)⟩
 |_=>exact h1.elim⟩
def cO(x:W)(ws:List W)(st:List am):R W:=match x,ws with
 |.loc n,[y]=>(match st[n]? with
  |some (.lst zs)=>if zs.length<kI then .ok .non (st.set n (.lst (zs++[y])))else .bad
  |_=>.bad)
 |_,_=>.bad
theorem eP:Ml X "list.append" cO:=⟨fun ac s σ H x vs v us Q I rv rus ⟨μ,st,wx,ws,S,rx,rs,q⟩=>by
 unfold cO at q
 split at q
 ·rename_i n y
  obtain⟨y1,rfl,ry⟩:=rs.one
  split at q
  ·rename_i zs e1
   split at q
   ·rename_i c
    obtain⟨a1,g1,vs,k1,r⟩:=S.get e1
    obtain⟨b1,f1,rfl⟩:=rx.locE
    rw[g1]at f1;cases f1
    refine yN ac s σ H _ _ v us Q I rv rus ⟨a1,vs,y1,rfl,rfl,k1,by rw[<- r.len];exact J2 (iD c),fun H2 e=>?_⟩
    subst e
    exact q μ _ _ (ae _) (dW.but gU k1) (S.set e1 g1 k1 (r.app (.consI ry .nilI))) .non
   ·exact q.elim
  ·exact q.elim
 ·exact q.elim,fun x ws st=>by
 unfold cO
 repeat' split
 all_goals trivial⟩
def xf(x:W)(ws:List W)(st:List am):R W:=match x,ws with
 |.loc n,[]=>(match st[n]? with
  |some (.lst zs)=>pO zs.getLast? fun w=>.ok w (st.set n (.lst zs.dropLast))
  |_=>.bad)
 |_,_=>.bad
theorem C0:Ml X "list.pop" xf:=⟨fun ac s σ H x vs v us Q I rv rus ⟨μ,st,wx,ws,S,rx,rs,q⟩=>by
 unfold xf at q
 split at q
 ·rename_i n
  have e0:=rs.nilE
  subst e0
  split at q
  ·rename_i zs e1
   obtain⟨a1,g1,vs,k1,r⟩:=S.get e1
   obtain⟨b1,f1,rfl⟩:=rx.locE
   rw[g1]at f1;cases f1
   cases hl:zs.getLast? with
   |none=>rw[hl]at q;exact q.elim
   |some w=>
    rw[hl]at q
    have hz:zs=zs.dropLast++[w]:=by
     obtain⟨ys,rfl⟩:=List.getLast?_eq_some_iff.mp hl
     simp
    rw[hz]at r
    obtain⟨xs',IU,hx,r1,r3⟩:=r.split
    obtain⟨y',rfl,r2⟩:=r3.one
    refine F_ ac s σ H _ _ v us Q I rv rus ⟨a1,xs',y',rfl,rfl,by rw[<- hx];exact k1,fun H2 e=>?_⟩
    subst e
    have xx:db X.K H (da H a1 (.lst xs')):=dW.but gU k1
    exact q μ _ _ (ae _) xx (S.set e1 g1 k1 r1) (r2.mono (ae _) xx)
  ·exact q.elim
 ·exact q.elim,fun x ws st=>by
 unfold xf pO
 repeat' split
 all_goals trivial⟩
def me:List W->Option (List (List Nat))
 |[]=>some []
 |.str l::ws=>(me ws).map (l :: ·)
 |_=>none
theorem sd:∀{ws:List W} {ls:List (List Nat)} {vs:List V},me ws=some ls->RelWs K μ H ws vs->vs=ls.map fun l=>V.str (tx l)
 |[],ls,vs,h,r=>by simp only[me]at h;cases h;exact r.nilE
 |w::ws,ls,vs,h,r=>by
  obtain⟨x,xs,rfl,rx,rs⟩:=r.consE
  cases w with
  |str l=>
   simp only[me]at h
   cases e:me ws with
   |none=>rw[e]at h;cases h
   |some ls'=>rw[e]at h;cases h;rw[rx.strE,sd e rs];rfl
  |_=>simp only[me]at h;cases h
theorem uC(ls:List (List Nat)):me (ls.map W.str)=some ls:=by
 induction ls with
 |nil=>rfl
 |cons a r ih=>show(me (r.map W.str)).map (a :: ·)=_;rw[ih];rfl
def nF(x:W)(ws:List W)(st:List am):R W:=match x,ws with
 |.str sep,[.loc n]=>pO (lstOf st n) fun zs=>pO (me zs) fun ls=>if (ls.map List.length).sum+ls.length*sep.length<=kI then .ok (.str (mQ sep ls)) st else .bad
 |_,_=>.bad
theorem Aj:Ml X "str.join" nF:=⟨fun ac s σ H x vs v us Q I rv rus ⟨μ,st,wx,ws,S,rx,rs,q⟩=>by
 unfold nF at q
 split at q
 ·rename_i sep n
  obtain⟨y1,rfl,ry⟩:=rs.one
  cases e1:lstOf st n with
  |none=>rw[e1]at q;exact q.elim
  |some zs=>
   rw[e1,dy]at q
   cases e2:me zs with
   |none=>rw[e2]at q;exact q.elim
   |some ls=>
    rw[e2,dy]at q
    split at q
    ·rename_i c
     obtain⟨a,vs,g,hS,r⟩:=S.lstOf e1
     obtain⟨b1,f1,rfl⟩:=ry.locE
     rw[g]at f1;cases f1
     have:=sd e2 r
     subst this
     exact F6 ac s σ H _ _ v us Q I rv rus ⟨sep,_,ls,rx.strE,rfl,hS,aQ c (by decide),oG S q⟩
    ·exact q.elim
 ·exact q.elim,fun x ws st=>by
 unfold nF
 split
 ·exact nD fun _=>nD fun _=>by split<;>trivial
 ·trivial⟩
end
def kC(cap:List (Option Nat))(ρ:cv):cv:=cap.map fun o=>o.bind fun j=>(ρ[j]?).join
theorem Kd{ρ:cv}(r:Paired (fun(o:Option W) (s:Option V)=>∀w,o=some w->∃v,s=some v/\a8 X.K μ H w v) ρ σ):∀cap:List (Option Nat),
  Paired (fun(o:Option W) (s:Option V)=>∀w,o=some w->∃v,s=some v/\a8 X.K μ H w v) (kC cap ρ) (mP cap σ)
 |[]=>.nil
 |o::cap=>by
  refine .cons (fun w e=>?_) (Kd r cap)
  cases o with
  |none=>cases e
  |some j=>
   have e':(ρ[j]?).join=some w:=e
   have e2:ρ[j]?=some (some w):=by
    cases h:ρ[j]? with
    |none=>rw[h]at e';cases e'
    |some ow=>rw[h]at e';simp at e';rw[e']
   obtain⟨v,g1,g2⟩:=rT r e2
   exact⟨v,by show(σ[j]?).join=some v;rw[g1];rfl,g2⟩
open Classical in
def mf(f:FG)(t:FT)(el:FE)(ck:Option (Nat×List W))(ρ0:cv):List W->List W->List am->R (List W)
 |[],gD,st=>if iO st ck then .ok gD st else .bad
 |w::ws,gD,st=>if iO st ck then(match f w ρ0 with
  |none=>.bad
  |some ρ'=>(match t ρ' st with
   |.ok true st1=>(match el ρ' st1 with
    |.ok y dq=>mf f t el ck ρ0 ws (gD++[y]) dq
    |_=>.bad)
   |.ok false st1=>mf f t el ck ρ0 ws gD st1
   |_=>.bad))else .bad
def eL(cap:List (Option Nat))(fi:FI)(f:FG)(t:FT)(el:FE):FE:=fun ρ st=>(fi ρ st).bind fun k st=>if k.1.length<=kI then(mf f t el k.2 (kC cap ρ) k.1 [] st).bind fun ys st=>jp ys st else .bad
def Mm(X:Cx)(m6:List Addr->Hp->α->β->Prop)(f:cv->List am->R α)(σ:St)(H:Hp)(Q:β->Hp->Prop):Prop:=
 ∃μ ρ st a br,Rl X μ ρ st σ H/\f ρ st=.ok a br/\∀μ' b H',μ <+: μ'->db X.K H H'->gB X.K X.mg μ' br H'->m6 μ' H' a b->Q b H'
def iL:FT:=fun _ st=>.ok true st
structure Mn(X:Cx)(es:List Expr)(f:FT):Prop where
 h:Ck X es (tT X f)
theorem Ck.imp{e:List Expr}{t t':TT}(h:Ck X e t)(i:∀σ H Q,t' σ H Q->t σ H Q):Ck X e t':=fun ac s σ H Q I q=>h ac s σ H Q I (i _ _ _ q)
theorem gu:Mn X [] iL:=⟨F1.imp fun σ H Q h=>by
 obtain⟨μ,ρ,st,l,h⟩:=h
 exact h μ true H (ae _) db.refl l.sto rfl⟩
theorem vx{t:FT}(hc:ST X c t):Mn X [c] t:=⟨F2 hc.h⟩
theorem C1{fi:FI}{f:FG}{t:FT}{el:FE}{Q:VK}(h:tE X (eL cap fi f t el) σ H Q) :
  qc cap (fun σ H R=>tG X (NE X) fi σ H R) (ND X f) (Mm X Gf t) (Mm X (nU X) el) σ H Q:=by
 obtain⟨μ,ρ,st,l,h⟩:=h
 refine⟨μ,ρ,st,l,RK.bind h l fun μ1 st1 k J H1 p1 x1 l1 wk h1=>?_⟩
 by_cases hz:k.1.length<=kI
 ·rw[aw hz]at h1
  refine⟨fun i m ys H'=>i<=k.1.length/\m=k.1.length-i/\ys.length<=i/\∃μ' gD br,μ1 <+: μ'/\db X.K H1 H'/\Rl X μ' ρ br σ H'/\RelWs X.K μ' H' gD ys/\RK X (nU X) μ' σ H' Q ((mf f t el k.2 (kC cap ρ) (k.1.drop i) gD br).bind fun ys st=>jp ys st),
   ⟨_,cG _,rfl,av _,μ1,[],st1,ae _,db.refl,l1,.nilI,h1⟩,?_⟩
  rintro i m ys H' ⟨hi,rfl,hy,μ',gD,br,pm,xm,lm,ra,hm⟩
  by_cases hlt:i<k.1.length
  ·rw[bJ hlt]at hm
   unfold mf at hm
   by_cases ck:iO br k.2
   ·rw[aw ck]at hm
    obtain⟨go,yld⟩:=(wk i μ' br H' pm xm lm.sto ck).1 _ (ag hlt)
    refine .inr ⟨go,fun x H2 hy2=>?_⟩
    obtain⟨y1,y2,y3⟩:=yld x H2 hy2
    cases hf:f k.1[i] (kC cap ρ)with
    |none=>rw[hf]at hm;exact hm.elim
    |some ρ2=>
     rw[hf]at hm
     simp only at hm
     have lb:Rl X μ' (kC cap ρ) br (mP cap σ) H2:=⟨Kd (lm.to (ae _) y1 y2).env cap,y2⟩
     refine⟨μ',kC cap ρ,br,k.1[i],ρ2,lb,y3,hf,fun σ2 l2=>?_⟩
     cases ht:t ρ2 br with
     |bad=>rw[ht]at hm;exact hm.elim
     |ex c s=>rw[ht]at hm;exact hm.elim
     |ok kk dq=>
      rw[ht]at hm
      refine⟨μ',ρ2,br,kk,dq,l2,ht,fun μ3 b3 H3 p3 x3 S3 q3=>?_⟩
      cases q3
      cases kk with
      |false=>
       exact⟨_,by omega,hlt,rfl,by omega,μ3,gD,dq,pm.trans p3,xm.trans (y1.trans x3),lm.to p3 (y1.trans x3) S3,ra.mono p3 (y1.trans x3),RK.mono hm p3 (y1.trans x3)⟩
      |true=>
       rw[aw rfl]
       simp only at hm
       cases he:el ρ2 dq with
       |bad=>rw[he]at hm;exact hm.elim
       |ex c s=>rw[he]at hm;exact hm.elim
       |ok w mn=>
        rw[he]at hm
        refine⟨μ3,ρ2,dq,w,mn,l2.to p3 x3 S3,he,fun μ4 b4 H4 p4 x4 S4 q4=>?_⟩
        have pp:=p3.trans p4
        have xx:=y1.trans (x3.trans x4)
        exact⟨fQ hy (aI hlt (ly hz)),_,by omega,hlt,rfl,by simp;omega,μ4,gD++[w],mn,pm.trans pp,xm.trans xx,lm.to pp xx S4,(ra.mono pp xx).app (.consI q4 .nilI),RK.mono hm pp xx⟩
   ·rw[ay ck]at hm;exact hm.elim
  ·have hi':i=k.1.length:=by omega
   subst hi'
   rw[dP (av _)]at hm
   unfold mf at hm
   by_cases ck:iO br k.2
   ·rw[aw ck]at hm
    obtain⟨z1,z2⟩:=mR lm.sto ra hm
    exact .inl ⟨(wk _ μ' br H' pm xm lm.sto ck).2 (av _),z1,fun p hp=>z2 p _ hp rfl⟩
   ·rw[ay ck]at hm;exact hm.elim
 ·rw[ay hz]at h1;exact h1.elim
section
variable{fi:FI}{f:FG}{t:FT}{el:FE}
theorem QF{X X':Cx}{f:FE}(hK:X'.K=X.K)(hm:X'.mg=X.mg)(h:SE X' e f):QE X' e (Mm X (nU X) f):=⟨h.h.imp fun σ H Q ⟨μ,ρ,st,a,br,l,e,q⟩=>⟨μ,ρ,st,⟨by rw[hK];exact l.env,by rw[hK,hm];exact l.sto⟩,by rw[e];exact fun μ' b H' p x S r=>q μ' b H' p (by rw[<- hK];exact x) (by rw[<- hK,<- hm];exact S) (by show a8 X.K μ' H' a b;rw[<- hK];exact r)⟩⟩
theorem QH{X X':Cx}{e:List Expr}{f:FT}(hK:X'.K=X.K)(hm:X'.mg=X.mg)(h:Mn X' e f):Qr X' e (Mm X Gf f):=⟨h.h.imp fun σ H Q ⟨μ,ρ,st,a,br,l,e,q⟩=>⟨μ,ρ,st,⟨by rw[hK];exact l.env,by rw[hK,hm];exact l.sto⟩,by rw[e];exact fun μ' b H' p x S r=>q μ' b H' p (by rw[<- hK];exact x) (by rw[<- hK,<- hm];exact S) r⟩⟩
theorem QJ{X X':Cx}(hK:X'.K=X.K)(hm:X'.mg=X.mg)(h:SG X' e f):QG X' e (ND X f):=⟨h.h.imp fun v σ H Q ⟨μ,ρ,st,w,ρ',l,r,e,q⟩=>⟨μ,ρ,st,w,ρ',⟨by rw[hK];exact l.env,by rw[hK,hm];exact l.sto⟩,by rw[hK];exact r,e,fun σ' l'=>q σ' ⟨by rw[<- hK];exact l'.env,by rw[<- hK,<- hm];exact l'.sto⟩⟩⟩
theorem kD(hB:yO X.env.scope.names scope.names nm cap X.N=true)(lT:X.env.cells=cellsFrom m X.env.scope.names [])(hi:SI X tg cx fi)(hg:∀cl C s0 H0 fp,SG (cw X nm scope cl C s0 H0 fp) tg f)(ht:∀cl C s0 H0 fp,Mn (cw X nm scope cl C s0 H0 fp) kq t)
  (he:∀cl C s0 H0 fp,SE (cw X nm scope cl C s0 H0 fp) m7 el) (ig:X.calm=true:=by rfl) (ii:scope.kind=.function:=by rfl) (hs:∀x,foldedSetIterable cx X.env x=pure x:=by intro _;rfl) :
  SE X (.ListComp m7 [⟨tg,cx,kq,0⟩] scope pos) (eL cap fi f t el):=
 ⟨(Cv ig lT ii hB ⟨hi.h⟩ (fun cl C s0 H0 fp=>QJ (X:=X) rfl rfl (hg cl C s0 H0 fp)) (fun cl C s0 H0 fp=>QH (X:=X) rfl rfl (ht cl C s0 H0 fp)) (fun cl C s0 H0 fp=>QF (X:=X) rfl rfl (he cl C s0 H0 fp)) hs).h.imp fun _ _ _ h=>C1 h⟩
theorem jK{x0:Str}{p0 p1:Pos}(OZ:SG X (.Name x0 p0) (fz i))(hB:yO X.env.scope.names scope.names nm cap X.N=true)(lT:X.env.cells=cellsFrom m X.env.scope.names [])(hi:SI X tg cx fi)(hg:∀cl C s0 H0 fp,SG (cw X nm scope cl C s0 H0 fp) tg f)(ht:∀cl C s0 H0 fp,Mn (cw X nm scope cl C s0 H0 fp) kq t)
  (he:∀cl C s0 H0 fp,SE (cw X nm scope cl C s0 H0 fp) m7 el) (ig:X.calm=true:=by rfl) (ii:scope.kind=.function:=by rfl) (hs:∀x,foldedSetIterable cx X.env x=pure x:=by intro _;rfl)
  (O1:swapsWith (.ListComp m7 [⟨tg,cx,kq,0⟩] scope pos) (some (.Name x0 p0)) p1.line X.env=pure true:=by first|rfl|kernel_rfl) :
  SS X (.Assign [.Name x0 p0] (.ListComp m7 [⟨tg,cx,kq,0⟩] scope pos) p1) (xb (eL cap fi f t el) (fz i)):=
 ⟨(yT ⟨OZ.h⟩ ig lT ii hB ⟨hi.h⟩ (fun cl C s0 H0 fp=>QJ (X:=X) rfl rfl (hg cl C s0 H0 fp)) (fun cl C s0 H0 fp=>QH (X:=X) rfl rfl (ht cl C s0 H0 fp)) (fun cl C s0 H0 fp=>QF (X:=X) rfl rfl (he cl C s0 H0 fp)) hs O1).h.imp fun D σ H h=>by
  obtain⟨μ,ρ,st,l,h⟩:=h
  have h':tE X (eL cap fi f t el) σ H fun x H1=>ND X (fz i) x σ H1 D.nx:=⟨μ,ρ,st,l,RK.stmt h l fun μ1 st1 x v H1 p1 x1 l1 q1 h1=>⟨μ1,ρ,st1,x,ρ.set i (some x),l1,q1,rfl,fun σ' l'=>h1 μ1 σ' H1 (ae _) db.refl l'⟩⟩
  exact C1 h'⟩
end
section
variable{a b:Expr}{fa fb fc fe fo:FE}{fs:FA}
theorem pQ{lS:List V}(hr:∀μ H,RelWs X.K μ H ws lS):vq X (M4 lS) (ws,none) μ H:=fun i μ' br H' pp xx S _=>by
 have hl:ws.length=lS.length:=(hr μ H).len
 refine⟨fun w hw=>?_,fun h=>by show lS.length<=i;rw[<- hl];exact h⟩
 obtain⟨v,g1,g2⟩:=(hr μ' H').get hw
 refine⟨(ah.mp g1).1,fun y H'' hy=>?_⟩
 obtain⟨rfl,hy⟩:=hy
 rw[g1]at hy;cases hy
 exact⟨db.refl,S,g2⟩
def gJ(l:List Nat):List W:=l.map fun c=>.str [c]
theorem uD(l:List Nat)(μ:List Addr)(H:Hp):RelWs X.K μ H (gJ l) (jH l):=by
 induction l with
 |nil=>exact .nilI
 |cons a r ih=>exact .consI .str ih
def HK(fe:FE):FI:=fun ρ st=>(fe ρ st).bind fun x st=>match x with
 |.str l=>.ok (gJ l,none) st
 |_=>.bad
theorem Ke(he:SE X e fe):SI X tg e (HK fe):=⟨(JU he.h).imp fun σ H R h=>by
 obtain⟨μ,ρ,st,l,h⟩:=h
 refine⟨μ,ρ,st,l,RK.bind h l fun μ1 st1 x v H1 p1 x1 l1 q1 h1=>?_⟩
 cases x with
 |str z=>exact⟨z,q1.strE,h1 μ1 _ H1 (ae _) db.refl l1.sto (pQ (uD z))⟩
 |_=>exact h1.elim⟩
def dz(fe:FE):FI:=fun ρ st=>(fe ρ st).bind fun x st=>match x with
 |.tup ws=>.ok (ws,none) st
 |.loc n=>(match lstOf st n with
  |some ws=>.ok (ws,some (n,ws)) st
  |none=>.bad)
 |.str l=>.ok (gJ l,none) st
 |_=>.bad
theorem fZ(he:SE X e fe):SI X tg e (dz fe):=⟨fun ac s σ H Rr I h=>by
 obtain⟨μ,ρ,st,l,h⟩:=h
 cases e1:fe ρ st with
 |bad=>simp only[dz,e1,R.bind_bad]at h;exact h.elim
 |ex c st1=>
  refine(CW (tg:=tg) he).h ac s σ H Rr I ⟨μ,ρ,st,l,?_⟩
  simp only[dz,CV,e1,R.bind_ex]at h ⊢;exact h
 |ok w st1=>
  cases w with
  |tup ws=>
   refine(CW (tg:=tg) he).h ac s σ H Rr I ⟨μ,ρ,st,l,?_⟩
   simp only[dz,CV,e1,R.bind_ok]at h ⊢;exact h
  |loc n=>
   refine(Kc (tg:=tg) he).h ac s σ H Rr I ⟨μ,ρ,st,l,?_⟩
   simp only[dz,HG,e1,R.bind_ok]at h ⊢;exact h
  |str z=>
   refine(Ke (tg:=tg) he).h ac s σ H Rr I ⟨μ,ρ,st,l,?_⟩
   simp only[dz,HK,e1,R.bind_ok]at h ⊢;exact h
  |_=>simp only[dz,e1,R.bind_ok]at h;exact h.elim⟩
def ic(ws:List W):List W:=(List.range ws.length).map fun(i:Nat)=>W.tup [.int i,ws.getD i .non]
theorem kM{w:W}(h:(ic ws)[i]?=some w):∃y,ws[i]?=some y/\w=.tup [.int i,y]:=by
 unfold ic at h
 rw[af]at h
 by_cases hi:i<ws.length
 ·rw[aE hi]at h
  refine⟨ws[i],ag hi,?_⟩
  have:=(aL h).symm
  rw[this]
  show W.tup [W.int i,ws.getD i W.non]=_
  rw[aA,ag hi];rfl
 ·rw[aC (by simpa using hi)]at h;cases h
theorem kN(ws:List W):(ic ws).length=ws.length:=by simp[ic]
def lE(fs:FA):FI:=fun ρ st=>(fs ρ st).bind fun ws st=>match ws with
 |[.tup zs]=>.ok (ic zs,none) st
 |_=>.bad
theorem q_{gw:List Expr}{kk:Nat}{tp:Pos}(hm:X.mg "enumerate"=none)(ha:SA X [a] fs)(hg:Gl X "enumerate":=by rfl)(hs:starEach [a] X.env=[(false,eval a X.env)]:=by rfl) :
  SI X (.Tuple gw kk tp) (.Call (.Name "enumerate" p) [a] [] pos) (lE fs):=⟨(Cy hm ⟨ha.h⟩ hg hs).h.imp fun σ H R h=>by
 obtain⟨μ,ρ,st,l,h⟩:=h
 refine⟨μ,ρ,st,l,RK.bind h l fun μ1 st1 x v H1 p1 x1 l1 q1 h1=>?_⟩
 split at h1
 ·rename_i zs
  obtain⟨y,rfl,ry⟩:=q1.one
  obtain⟨p,vs,rfl,hS,r⟩:=ry.tupE
  refine⟨p,rfl,⟨vs,hS⟩,h1 μ1 _ H1 (ae _) db.refl l1.sto fun i μ' br H' pp xx S _=>⟨fun w hw=>?_,fun hl=>⟨vs,xx _ _ hS,by rw[kN]at hl;rw[<- r.len];exact hl⟩⟩⟩
  obtain⟨y,hy,rfl⟩:=kM hw
  have r':=r.mono pp xx
  obtain⟨v,g1,g2⟩:=r'.get hy
  refine⟨⟨vs,v,xx _ _ hS,g1⟩,fun z H'' hz=>?_⟩
  obtain⟨q,hq,rfl,hH⟩:=hz
  have e:=hH vs v (xx _ _ hS) g1
  subst e
  have ex:=dW.same (K:=X.K) (bP hq (.tup [.int i,v]))
  exact⟨ex,S.same (bP hq _),.tupI dW.new (.consI .int (.consI (g2.mono (ae _) ex) .nilI))⟩
 ·exact h1.elim⟩
def C2(fa:FE):FE:=fun ρ st=>(fa ρ st).bind fun x st=>match x with
 |.int i=>.ok (.int (-i)) st
 |_=>.bad
theorem HL(ha:SE X a fa):SE X (.UnaryOp .USub a pos) (C2 fa):=⟨(MM JE ha.h).imp fun σ H Q h=>by
 obtain⟨μ,ρ,st,l,h⟩:=h
 refine⟨μ,ρ,st,l,RK.bind h l fun μ1 st1 x v H1 p1 x1 l1 q1 h1=>?_⟩
 cases x with
 |int k=>exact⟨k,q1.intE,h1 μ1 _ H1 (ae _) db.refl l1.sto .int⟩
 |_=>exact h1.elim⟩
def QK(x y:W)(st:List am):R W:=match x,y with
 |.int i,.int j=>.ok (.bl (decide (i<=j))) st
 |.str [c],.str [d]=>.ok (.bl (decide (c<=d))) st
 |_,_=>.bad
end
def yY(c:List Nat):List (List Nat)->List (List Nat)
 |[]=>[c]
 |d::r=>if c<d then c::d::r else d::yY c r
def iq(l:List (List Nat)):List (List Nat):=l.foldr yY []
theorem pR(c:List Nat):∀l:List (List Nat),(yY c l).Perm (c::l)
 |[]=>ng _
 |d::r=>by
  unfold yY
  split
  ·exact ng _
  ·exact((pR c r).cons d).trans (List.Perm.swap c d r)
theorem gk(l:List (List Nat)):(iq l).Perm l:=by
 induction l with
 |nil=>exact ng _
 |cons a r ih=>exact(pR a _).trans (ih.cons a)
def Gn:List (List Nat)->Prop:=List.Pairwise fun a b=>¬ b<a
theorem Ak(c:List Nat):∀{l:List (List Nat)},Gn l->Gn (yY c l)
 |[],_=>by simp[yY,Gn]
 |d::r,h=>by
  obtain⟨h1,h2⟩:=dh.mp h
  unfold yY
  split
  ·rename_i hc
   refine dh.mpr ⟨fun x hx=>?_,h⟩
   rcases a_.mp hx with rfl|hx
   ·exact fun z=>List.lt_irrefl _ (List.lt_trans z hc)
   ·exact fun z=>h1 x hx (List.lt_trans z hc)
  ·rename_i hc
   refine dh.mpr ⟨fun x hx=>?_,Ak c h2⟩
   rcases a_.mp ((pR c r).mem_iff.mp hx)with rfl|hx
   ·exact hc
   ·exact h1 x hx
theorem xg(l:List (List Nat)):Gn (iq l):=by
 induction l with
 |nil=>exact List.Pairwise.nil
 |cons a r ih=>exact Ak a ih
theorem vy:∀{l m:List (List Nat)},Gn l->Gn m->l.Perm m->l=m
 |[],m,_,_,h=>(List.Perm.nil_eq h)
 |a::l,[],_,_,h=>(by have:=h.length_eq;simp at this)
 |a::l,b::m,h1,h2,h=>by
  obtain⟨p1,p2⟩:=dh.mp h1
  obtain⟨q1,q2⟩:=dh.mp h2
  have e:a=b:=by
   rcases a_.mp (h.mem_iff.mp (by simp:a∈a::l))with z|z
   ·exact z
   ·rcases a_.mp (h.mem_iff.mpr (by simp:b∈b::m))with y|y
    ·exact y.symm
    ·exact List.le_antisymm (show a<=b from p1 b y) (show b<=a from q1 a z)
  subst e
  rw[vy p2 q2 (List.perm_cons a |>.mp h)]
theorem se:∀{zs:List (List Nat)},sortedS (zs.map tx)=true->Gn zs:=by
 have key:∀(zs:List (List Nat)) (p:List Nat),risingS (tx p) (zs.map tx)=true->Gn (p::zs):=by
  intro zs
  induction zs with
  |nil=>intro p _;simp[Gn]
  |cons a r ih=>
   intro p h
   have h':(!ltCps a p&&risingS (tx a) (r.map tx))=true:=h
   rw[cr,ku,ltCps_eq,decide_eq_false_iff_not]at h'
   have u:=ih a h'.2
   refine dh.mpr ⟨fun x hx=>?_,u⟩
   rcases a_.mp hx with rfl|hx
   ·exact h'.1
   ·have:=(dh.mp u).1 x hx
    exact List.not_lt.mpr (List.le_trans (List.not_lt.mp h'.1) (List.not_lt.mp this))
 intro zs h
 cases zs with
 |nil=>exact List.Pairwise.nil
 |cons a r=>exact key r a h
section
variable{a b:Expr}{fa fb fc fe fo:FE}{fs:FA}
def nn(ws:List W)(st:List am):R W:=match ws with
 |[.loc n]=>pO (lstOf st n) fun zs=>pO (me zs) fun ls=>if ls.length<64 then .ok (.loc st.length) (st++[.lst ((iq ls).map W.str)])else .bad
 |_=>.bad
theorem xh(ls:List (List Nat)):RelWs K μ H (ls.map W.str) (ls.map fun l=>V.str (tx l)):=by
 induction ls with
 |nil=>exact .nilI
 |cons a r ih=>exact .consI .str ih
theorem xi:qk X (.builtin "sorted") nn:=⟨fun ac s σ H vs us Q I rv ⟨μ,st,ws,S,r,q⟩=>by
 unfold nn at q
 split at q
 ·rename_i n
  obtain⟨y,rfl,ry⟩:=r.one
  cases e1:lstOf st n with
  |none=>rw[e1]at q;exact q.elim
  |some zs=>
   rw[e1,dy]at q
   cases e2:me zs with
   |none=>rw[e2]at q;exact q.elim
   |some ls=>
    rw[e2,dy]at q
    split at q
    ·rename_i c
     obtain⟨a,vs,g,hS,rz⟩:=S.lstOf e1
     obtain⟨b1,f1,rfl⟩:=ry.locE
     rw[g]at f1;cases f1
     have:=sd e2 rz
     subst this
     refine tV.h ac s σ H _ us Q I rv ⟨_,ls,rfl,hS,c,fun zs hp hs l H2 hl eH=>?_⟩
     subst eH
     have ez:zs=iq ls:=vy (se hs) (xg ls) (hp.trans (gk ls).symm)
     subst ez
     exact q (μ++[l]) _ _ (aW _ _) (dW.same (bP hl _)) (S.newLst hl (xh _)) (rW S)
    ·exact q.elim
 ·exact q.elim,fun ws st=>by
 unfold nn
 split
 ·exact nD fun _=>nD fun _=>by split<;>trivial
 ·trivial⟩
end
def W.ty:W->Option String
 |.non=>some "NoneType" | .bl _=>some "bool" | .int _=>some "int" | .str _=>some "str" | .tup _=>some "tuple" | .loc _=>none
def Go(t T:String):Bool:=(t==T)||(t == "bool" && T == "int")
theorem NG{K:Frag}{T:String}(h:Ct T){w:W}{t:String}(hw:w.ty=some t):PySem.W.kitOne K (.type t) (.type T)=some (Go t T):=by
 cases w<;>simp only[W.ty]at hw<;>cases hw<;>(rcases h with rfl|rfl|rfl|rfl<;>rfl)
def pS(T:String)(fa:FE):FE:=fun ρ st=>(fa ρ st).bind fun x st=>match x.ty with
 |some t=>.ok (.bl (Go t T)) st
 |none=>.bad
section
variable{a b:Expr}{fa fb fc fe fo:FE}{fs:FA}
theorem nG{T:String}{xT:Str}(hm:X.mg "isinstance"=none)(hT:X.mg xT=none)(hv:bootBuiltins xT=some (.type T))(ha:SE X a fa)(hk:Ct T:=by first|exact .inl rfl|exact .inr (.inl rfl)|exact .inr (.inr (.inl rfl))|exact .inr (.inr (.inr rfl)))
  (hg:Gl X "isinstance":=by rfl) (R7:Gl X xT:=by rfl) (hn:xT ≠ "__name__":=by decide) (hd:(xT==("__debug__":Str))=false:=by decide)
  (he:starEach [a,.Name xT p2] X.env=(false,eval a X.env)::starEach [.Name xT p2] X.env:=by rfl) (Pi:starEach [.Name xT p2] X.env=(false,eval (.Name xT p2) X.env)::starEach [] X.env:=by rfl) (qy:(backTo pos (starEach [.Name xT p2] X.env)).any (·.1)=false:=by rfl) :
  SE X (.Call (.Name "isinstance" p) [a,.Name xT p2] [] pos) (pS T fa):=by
 have C:ik X (.builtin "isinstance") (fun xs H Q=>∃x μ st w t,xs=[x,.ty T]/\gB X.K X.mg μ st H/\a8 X.K μ H w x/\w.ty=some t/\Q (.bl (Go t T)) H):=by
  intro ac s σ H xs us Q I r h
  obtain⟨x,μ,st,w,t,rfl,S,rx,ht,q⟩:=h
  obtain⟨u,u2,rfl,r1,r2⟩:=bE.two r
  obtain rfl:u2=.type T:=r2
  have e:=NG (K:=X.K) hk ht
  cases w with
  |tup ws=>
   cases ht
   obtain⟨p,vs,rfl,hS,_⟩:=rx.tupE
   cases(show u=Value.ref p from r1)
   obtain⟨bd,_,hp,_⟩:=I.tuple hS
   obtain⟨o,h1,h2,_⟩:=hp
   exact kia_one PySem.W.kitx_tuple I.kIn ⟨o,h1,h2⟩ e (fun z=>nomatch z) fun tk=>⟨.bl _,H,I.tok tk,rfl,q⟩
  |non=>cases ht;cases rx.nonE;exact ni I r1 .non e fun tk=>⟨.bl _,H,I.tok tk,rfl,q⟩
  |bl b=>cases ht;cases rx.blE;exact ni I r1 (.bl _) e fun tk=>⟨.bl _,H,I.tok tk,rfl,q⟩
  |int b=>cases ht;cases rx.intE;exact ni I r1 (.int _) e fun tk=>⟨.bl _,H,I.tok tk,rfl,q⟩
  |str b=>cases ht;cases rx.strE;exact ni I r1 (.str _) e fun tk=>⟨.bl _,H,I.tok tk,rfl,q⟩
  |loc b=>cases ht
 refine⟨(wJ C hg hm boot_isinstance (u9 ha.h (u9 (Fv R7 hT hv (v:=.ty T) rfl hn hd) B_ Pi) he) (by decide) (by decide) he qy).imp fun σ H Q h=>?_⟩
 obtain⟨μ,ρ,st,l,h⟩:=h
 refine⟨μ,ρ,st,l,RK.bind h l fun μ1 st1 x v H1 p1 x1 l1 q1 h1=>?_⟩
 cases ht:x.ty with
 |none=>rw[ht]at h1;exact h1.elim
 |some t=>
  rw[ht]at h1
  exact⟨v,μ1,st1,x,t,rfl,l1.sto,q1,ht,h1 μ1 _ H1 (ae _) db.refl l1.sto .bl⟩
theorem C3{w:World}{k:Nat}{st:Stmt}{f:Addr}{ps:List Str}
  (F:js K x x st f fd) (hm:mg x=some (.ref f)) (hn:ps.length=n)
  (hb:∀(kV pj pm:Value) (an:Option Addr) (fM ct:Value) (us:List Value),us.length=ps.length->bindArgs (fnOf x x (gs st) (fE st) (aM st) .none kV pj pm an fM ct) ⟨us,[]⟩=pure (ps.zip us)) :
  bY P w K mg base k x n (fun _ _=>.bad):=vt F hm hn hb ⟨fun vs H Q E h=>by rw[hn];exact h.1,fun _ _ _ _ _ _ _ _ _ _ _ _ _ h=>by obtain⟨_,_,_,_,_,_,z⟩:=h;exact z.elim⟩
end
def HM(F:List W->List am->R W):Prop:=∀ns:List Int,ns.length<=63->∃br,F [.loc 0] [.ro (ns.map W.int)]=.ok (.bl true) br
theorem walkW{l:PySem.W.OpenLaw}{k:Nat}{q:Program}{u3:List Str}{d:DefRec}{K:Params->Frag}(hn:l.most=some 63)(Pk:d.params.defaults=[])(hr:fL k callerA)
  (hY:∀(w:World) (h:Heap),YP w h->(K w.params).In h)
  (F:∀(w:World) (mg:Str->Option Value) (fa:Addr) (h:Heap),(K w.params).In h->h.Ns mainGlobals mg->mg d.name=some (.ref fa) ->
   ∃fd:FuncData,(∀(s:Shared) (u:Value),BindsTo s fd ⟨[u],[]⟩ [(x,u)])/\∀base:Heap,(K w.params).In base->base.Ns mainGlobals mg->cN l.prog w (K w.params) mg base (i_ l.prog w) k fa fd [x] (jw (K w.params) mg 1 G))
  (ok:HM G):PySem.W.WalkO q u3 XP YP l.row.toRowW d [] (fun f vs=>PySem.call f vs):=by
 refine L2.walk_of (n:=63) (k:=k) (x:=x) (CX:=fun w=>i_ l.prog w)
  (sp:=fun w=>fun vs H Q E=>∃(a:Addr) (ns:List Int),vs=[.ref a]/\jr (K w.params) H a (ns.map V.int)/\F0 H/\ns.length<=63/\∀H',Q (.bl true) H') hn (by decide) Pk hr hY (fun w mg fa h h1 h2 h3=>?_)
  (fun w H a ns hl hO hS=>⟨a,ns,rfl,hS,hO,hl,fun _=>rfl⟩) fun w H s e s' z=>?_
 ·obtain⟨fd,hb,ho⟩:=F w mg fa h h1 h2 h3
  refine⟨fd,hb,fun base kb nb=>(ho base kb nb).imp fun vs H Q E hh=>?_⟩
  obtain⟨a,ns,rfl,hS,hO,hl,q⟩:=hh
  obtain⟨br,e⟩:=ok ns hl
  have wj:Pp (K w.params) H a (ns.map V.int):=by
   rcases hS with(z|⟨o,z⟩)|z
   ·rcases hO a with y|⟨o,xs,y⟩
    ·rw[z]at y;cases y
    ·rw[z]at y;cases y
   ·exact .inl ⟨o,z⟩
   ·exact .inr z
  have hr:RelWs (K w.params) [a] H (ns.map W.int) (ns.map V.int):=by
   clear hS wj e hl
   induction ns with
   |nil=>exact .nilI
   |cons n r ih=>exact .consI .int ih
  refine⟨rfl,[a],[.loc 0],[.ro (ns.map W.int)],⟨fun i j b ci cj c1 c2 r1 r2 m1 m2=>?_,rfl,fun i c b c1 c2=>?_⟩,.consI (.locI rfl) .nilI,?_⟩
  ·cases i with
   |zero=>cases c1;cases r1
   |succ i=>simp at c1
  ·cases i with
   |zero=>cases c1;cases c2;exact⟨_,wj,hr⟩
   |succ i=>simp at c1
  ·rw[e]
   intro μ' v H' _ _ _ rv
   rw[rv.blE];exact q H'
 ·obtain⟨_,_,_,_,_,_,z,_⟩:=z
  exact z
abbrev NH:List Value:=[.type "ValueError",.type "Exception",.type "BaseException",.type "object"]
abbrev HN:String:="ValueError.__new__"
def Kf(K:Frag)(C:Addr):List Value:=match K.lookup C with
 |some ⟨_,_,.cls cd,_⟩=>cd.mro
 |_=>[]
theorem Gp{h:Heap}{RH:List Value}{Fg:String}(X:K.In h)(q:excIn K C RH Fg=true) :
  ∃bm N nm qn bs hdct sn sub ab col dd k0 k1 k2 k3 k5 mN,h.get? C=some (excClassObj nm qn C N bs bm hdct sn sub ab col dd k0 k1 k2 k3 k5 Fg)/\h.Ns N mN/\mN "__init__"=none/\OwnTail h RH bm/\Kf K C=.ref C::bm:=by
 have q0:=q
 unfold excIn at q
 split at q
 ·rename_i dd cd sl ho
  split at q
  ·rename_i C' bm k0 k1 k2 k3 n k5 hm hs
   simp only[cr,d_,ku]at q
   obtain⟨⟨⟨⟨⟨rfl,rfl⟩,hdel⟩,ht⟩,hok⟩,hni⟩:=q
   have hmro:Kf K C'=cd.mro:=by unfold Kf;rw[ho]
   obtain⟨nm,bs,mro,ns,qn,hd,sn,sub,ab,col,del⟩:=cd
   dsimp only at hm hdel hok hni hmro
   subst hm hdel
   have hsl:sl=#[k0,k1,k2,k3,some (.builtin n),k5]:=by
    obtain⟨l⟩:=sl
    simp only at hs
    rw[hs]
   subst hsl
   exact⟨bm,ns,nm,qn,bs,hd,sn,sub,ab,col,dd,k0,k1,k2,k3,k5,_,X _ _ ho,.of_isNs (PySem.W.isNs_of_in X hok),PySem.W.nsMap_none_of_in X hok hni,PySem.W.tail_of_in X ht,hmro⟩
  ·cases q
 ·cases q
structure NI(K:Frag)(mg:Str->Option Value)(x:Str):Prop where
 ex:∃C,mg x=some (.ref C)/\excIn K C NH HN=true
def yZ(c:Str):FS:=fun ρ st=>.ex c ρ st
theorem xj{np cK pos p':Pos}{z:Str}{j:Nat}(hC:NI X.K X.mg x)(ig:X.calm=true:=by rfl)(hg:Gl X x:=by rfl)(hd:(x==("__debug__":Str))=false:=by decide)
  (he:starEach [.Constant (.str z) j p'] X.env=(false,eval (.Constant (.str z) j p') X.env)::starEach [] X.env:=by rfl):SS X (.Raise (some (.Call (.Name x np) [.Constant (.str z) j p'] [] cK)) none pos) (yZ x):=⟨by
 intro ac s σ H D I h
 obtain⟨μ,ρ,st,l,h⟩:=h
 obtain⟨C,hm,q⟩:=hC.ex
 have hh:X.A.handled=none:=I.ok.hd ig
 obtain⟨bm,N,nm,qn,bs,hdct,sn,sub,ab,col,dd,k0,k1,k2,k3,k5,mN,g1,g2,g3,g4,g5⟩:=Gp I.kIn q
 refine wpAny_Raise_call_subT (C:=C) (nm:=nm) (q:=qn) (N:=N) (bs:=bs) (bm:=bm) (hdct:=hdct) (sn:=sn) (sub:=sub) (ab:=ab) (col:=col) (dd:=dd) (k0:=k0) (k1:=k1) (k2:=k2) (k3:=k3) (k5:=k5)
  F.excBase_ValueError (mN:=mN) (g4.hasType F.excBase_ValueError.hasBase) hh (by rw[he];rfl) g3 (qZ I hg hm ⟨rfl,?_⟩ hd)
 rw[he]
 refine jg ?_
 show wpAny _ _ (spliced ((false,eval (.Constant (.str z) j p') X.env)::[])) _ _ s
 refine h9 (wpAny_Constant_str (kr ?_))
 refine⟨rfl,(by show 1<=sizeLine;decide),g1,g2,g4,fun h' e hx=>?_⟩
 have I2:bb X ac σ H { s with heap:=h',toks:=s.toks+1 }:=I.kept hx.keeps
 have en:H e=none:=by
  cases hu:H e with
  |none=>rfl
  |some u=>
   obtain⟨ob,BP⟩:=(I.hok e u hu).ex
   have:=hx.new
   rw[show({ s with toks:=s.toks+1 }:Shared).heap=s.heap from rfl]at this
   rw[BP]at this;cases this
 obtain⟨t,RE,ht2,ht3⟩:=hx.there
 have hin:∀env∈X.stack,∀b,env.frame=some b->b∈qA X.stack:=fun env he b hb=>jN.mpr ⟨env,he,hb⟩
 refine h ac μ σ H (.ref e) _ (ae _) db.refl l ⟨I2,e,.ref C,t,hideAll s.heap (qA X.stack),rfl,hm,en,fun b o hb=>hx.keeps b o (PySem.W.of_hideAll _ hb),?_,?_,.inr (.inl ⟨_,_,RE,rfl,rfl,rfl,rfl,rfl⟩),fun b o hb hr=>?_⟩
 ·cases hq:(hideAll s.heap (qA X.stack)).get? e with
  |none=>rfl
  |some o=>have z:=PySem.W.of_hideAll _ hq;have y:=hx.new;rw[show({ s with toks:=s.toks+1 }:Shared).heap=s.heap from rfl,z]at y;cases y
 ·exact(PySem.W.funFrames_hide I.stack hin).of_keeps fun b o hb _=>⟨o,hx.keeps b o hb,rfl⟩
 ·have old:∀o0,s.heap.get? b=some o0->s.heap.get? b=some o:=fun o0 h0=>by
   have h1:h'.get? b=some o0:=hx.keeps b o0 h0
   have h2:h'.get? b=some o:=hb
   rw[h1]at h2;rw[<- h2];exact h0
  have m5:∀o0,s.heap.get? b=some o0->b∉qA X.stack->(hideAll s.heap (qA X.stack)).get? b=some o:=fun o0 h0 hn=>PySem.W.hideAll_get _ (old o0 h0) hn
  rcases hr with hr|⟨⟨o0,h0⟩,hf,hbx⟩|⟨⟨y,hy⟩,hf⟩|⟨pp,hp,rfl⟩
  ·cases hu:H b with
   |none=>exact absurd hu hr
   |some u=>
    obtain⟨ob,BP⟩:=(I.hok b u hu).ex
    exact m5 ob BP fun z=>by have:=I.stkFree b z;rw[hu]at this;cases this
  ·obtain⟨o1,h1⟩:=I.base.there b o0 h0 hbx
   refine m5 o1 h1 fun z=>?_
   rcases a_.mp (I.stkSub b z)with z|z
   ·rw[z]at h0;exact absurd (aI (az h0) I.ok.above) (dr _)
   ·exact hf z
  ·obtain⟨v,ov,hov,_⟩:=I.cell y b hy
   exact m5 ov hov hf
  ·obtain⟨p1,p2,p3,p4,_⟩:=I.pin pp hp
   refine m5 _ p1 fun z=>?_
   rcases a_.mp (I.stkSub _ z)with z|z
   ·exact p3 z
   ·exact p4 z⟩
abbrev Cx.within(X:Cx)(v:Value):Cx:={ X with A:=X.A.mark (some v),calm:=false,xe:=fun _ _=>False }
theorem Cx.Ok.within(k:X.Ok)(v:Value):(X.within v).Ok:=⟨k.mod,k.kind,k.glob,k.blt,k.above,k.inj,k.has,k.cab,(fun z=>by cases z),k.frames,k.stk,k.exf,k.bs,k.bsz,k.noex,k.exfs,k.funs,k.frf⟩
section
theorem bb.within(I:bb X ac σ H s)(v:Value):bb (X.within v) ac σ H s:=⟨I.ok.within v,I.os,I.bare,I.base,I.loc,I.cell,I.free,I.freeC,I.pin,I.hok,I.len⟩
theorem bb.out{v:Value}(ok:X.Ok)(I:bb (X.within v) ac σ H s):bb X ac σ H s:=⟨ok,I.os,I.bare,I.base,I.loc,I.cell,I.free,I.freeC,I.pin,I.hok,I.len⟩
end
open AutoSeq1 (wpAny_loadPart')
section
end
section
variable{a b:Expr}{fa fb fe fo:FE}{fs:FA}
def uE(i:Int)(n:Nat):List W:=(List.range n).map fun k:Nat=>W.int (i-k)
theorem C4(i:Int)(n:Nat)(μ:List Addr)(H:Hp):RelWs X.K μ H (uE i n) (ut i n):=by
 unfold uE ut
 induction (List.range n)with
 |nil=>exact .nilI
 |cons a r ih=>exact .consI .int ih
def vz(fs:FA):FI:=fun ρ st=>(fs ρ st).bind fun ws st=>match ws with
 |[.int i,.int j,.int k]=>if k=-1/\(-(2^60)<=i/\i<2^60/\-(2^60)<=j/\j<2^60)then .ok (uE i (i-j).toNat,none) st else .bad
 |_=>.bad
theorem Gq(hm:X.mg "range"=none)(ha:SA X [a,b,c] fs)(hg:Gl X "range":=by rfl)(hs:starEach [a,b,c] X.env=(false,eval a X.env)::starEach [b,c] X.env:=by rfl)(qy:(backTo pos (starEach [b,c] X.env)).any (·.1)=false:=by rfl) :
  SI X tg (.Call (.Name "range" p) [a,b,c] [] pos) (vz fs):=⟨(vh hm ⟨ha.h⟩ hg hs qy).h.imp fun σ H R h=>by
 obtain⟨μ,ρ,st,l,h⟩:=h
 refine⟨μ,ρ,st,l,RK.bind h l fun μ1 st1 x v H1 p1 x1 l1 q1 h1=>?_⟩
 split at h1
 ·rename_i i j k
  obtain⟨y,ys,rfl,ry,r1⟩:=q1.consE
  obtain⟨z,zs,rfl,rz,r2⟩:=r1.consE
  obtain⟨w,rfl,ko⟩:=r2.one
  split at h1
  ·rename_i cc
   obtain⟨rfl,cc⟩:=cc
   exact⟨_,_,by rw[ry.intE,rz.intE,ko.intE],cc,h1 μ1 _ H1 (ae _) db.refl l1.sto (pQ (C4 _ _))⟩
  ·exact h1.elim
 ·exact h1.elim⟩
def y0(fs:FA):FI:=fun ρ st=>(fs ρ st).bind fun ws st=>match ws with
 |[.str l]=>if l.length<=1000000 then .ok (gJ l.reverse,none) st else .bad
 |_=>.bad
theorem Gs(hm:X.mg "reversed"=none)(ha:SA X [a] fs)(hg:Gl X "reversed":=by rfl)(hs:starEach [a] X.env=(false,eval a X.env)::starEach [] X.env:=by rfl) :
  SI X tg (.Call (.Name "reversed" p) [a] [] pos) (y0 fs):=⟨(Ge hm ⟨ha.h⟩ hg hs).h.imp fun σ H R h=>by
 obtain⟨μ,ρ,st,l,h⟩:=h
 refine⟨μ,ρ,st,l,RK.bind h l fun μ1 st1 x v H1 p1 x1 l1 q1 h1=>?_⟩
 split at h1
 ·obtain⟨y,rfl,ry⟩:=q1.one
  split at h1
  ·rename_i cc
   exact⟨_,by rw[ry.strE],cc,h1 μ1 _ H1 (ae _) db.refl l1.sto (pQ (uD _))⟩
  ·exact h1.elim
 ·exact h1.elim⟩
end
def QL(i:Nat):RS->RS
 |.nx ρ st=>.nx (ρ.set i none) st
 |.bk ρ st=>.bk (ρ.set i none) st
 |.ct ρ st=>.ct (ρ.set i none) st
 |.rt w st=>.rt w st
 |_=>.bad
section
variable{w:World}{h:Heap}{g:Array GenState}{d:Drawn}{t:Nat}{os:OsState}{o:Obj}
 {nm q:Str} {C N:Addr} {bs bm:List Value} {hdct:Bool} {sn:List Str} {sub:List Value} {ab:Bool} {col:Option Bool} {dd:Option Addr} {k0 k1 k2 k3 k5:Option Value} {Fg:String} {K:Frag}
end
section
variable{a:Expr}{fa:FE}
end
section
variable{a:Expr}{fa:FE}{k:Nat}
end
section
end
section
theorem sf(l:List α):∀(k:Nat) (gD:List α),List.foldl (fun x1 x2=>x1++x2) gD.toArray (List.replicate k l.toArray)=(gD++(List.replicate k l).flatten).toArray
 |0,gD=>by simp
 |k+1,gD=>by
  have e:gD.toArray++l.toArray=(gD++l).toArray:=by simp
  rw[List.replicate_succ,List.foldl_cons,e,sf l k (gD++l),List.replicate_succ,ky,bn]
theorem Kg(l:List Nat)(n:Int):Txt.mul (tx l) n=tx (List.replicate n.toNat l).flatten:=by
 unfold Txt.mul
 by_cases h:n<1
 ·rw[aw h,show n.toNat=0 by omega];rfl
 ·rw[ay h]
  split
  ·rename_i hc
   rw[mv,d_,d_,hG]at hc
   rcases hc with rfl|hc
   ·simp
   ·have:l=[]:=List.length_eq_zero_iff.mp hc
    subst this
    simp
  ·have:=sf l n.toNat []
   rw[fX]at this
   show Str.mk _=Str.mk _
   congr 1
theorem Gu:kJ X (binaryOp .Mult) (fun x y H Q=>∃(l:List Nat) (k:Int),x=.str (tx l)/\y=.int k/\-(2^62)<=k/\k<2^62/\l.length*k.toNat<=1000000/\Q (.str (tx (List.replicate k.toNat l).flatten)) H):=by
 intro ac s σ H x y v u Q I rx ry h
 obtain⟨l,k,rfl,rfl,h1,h2,h3,q⟩:=h
 obtain⟨t,rfl⟩:=rx
 obtain⟨t',rfl⟩:=ry
 refine SB.mul ⟨?_,?_,?_⟩ fun t2 tk=>⟨.str _,H,I.tok _,⟨t2,?_⟩,q⟩
 ·simp;omega
 ·intro hk hx
  rw[hG]
  intro hg
  have hk1:1<=k:=by omega
  have:k*((2^63-1)/k)<=2^63-1:=Int.mul_ediv_self_le (by omega)
  have h4:(2^63-1)<k*(l.length:Int):=by
   have:=Int.lt_mul_of_ediv_lt (a:=2^63-1) (b:=(l.length:Int)) (c:=k) (by omega) hg
   rw[l8];exact this
  have h5:k*(l.length:Int)=((l.length*k.toNat:Nat):Int):=by
   rw[eT,Int.toNat_of_nonneg (by omega),l8]
  rw[h5]at h4
  omega
 ·intro hk hx
  rw[hG]
  unfold Builtin.Str.tooLong
  rw[bq]
  have:(1000000:Nat)<=sizeLine:=by decide
  omega
 ·rw[Kg]
def eM:W->W->List am->R W
 |.int i,.int j,st=>if J_ i j then .ok (.int (i*j)) st else .bad
 |.str l,.int k,st=>if -(2^62)<=k/\k<2^62/\l.length*k.toNat<=kI then .ok (.str (List.replicate k.toNat l).flatten) st else .bad
 |_,_,_=>.bad
theorem gK:tQ X (binaryOp .Mult) eM:=⟨fun ac s σ H x y v u Q I rv ru ⟨μ,st,wx,wy,S,rx,ry,q⟩=>by
 cases wx with
 |int i=>
  cases wy with
  |int j=>
   have q':BU X μ H Q (Nr (.int i) (.int j) st):=q
   exact Nu.h ac s σ H x y v u Q I rv ru ⟨μ,st,.int i,.int j,S,rx,ry,q'⟩
  |_=>exact q.elim
 |str l=>
  cases wy with
  |int k=>
   simp only[eM]at q
   split at q
   ·rename_i cc
    exact Gu ac s σ H x y v u Q I rv ru ⟨l,k,rx.strE,ry.intE,cc.1,cc.2.1,cc.2.2,oG S q⟩
   ·exact q.elim
  |_=>exact q.elim
 |_=>cases wy<;>exact q.elim,fun x y st=>by
 unfold eM
 repeat' split
 all_goals trivial⟩
end
structure sg(k:Nat)(A:Around):Prop where
 dp:A.depth+2*k+5<recursionLimit
 un:A.units+16*k+200<cLine
theorem fL.h{k:Nat}(r:fL k A)(v:Option Value):sg k (A.mark v):=⟨r.dp,r.un⟩
theorem sg.mono{k:Nat}(r:sg k A)(h:j<=k):sg j A:=⟨by have:=r.dp;omega,by have:=r.un;omega⟩
theorem sg.units{k:Nat}(r:sg k A):A.units+64<cLine:=by have:=r.un;omega
structure Al(P:Program)(w:World)(K:Frag)(mg:Str->Option Value)(base:Heap)(CX:yr)(k:Nat)(f:Addr)(fd:FuncData)(ps:List Str)(sp:Sp):Prop where
 len:∀vs H Q E,sp vs H Q E->vs.length=ps.length
 run:∀(A:Around) (outer:List Env) (s:Shared) (H:Hp) (args:Args) (us:List Value) (vs:List V) (Q:VK) (E:XK),sg k A->qC P w K mg base A outer s H->BindsTo s fd args (ps.zip us)->bE vs us->sp vs H Q E ->
  codeAny (model P w) A (.call (.ref f) args) (CR CX outer P w H s Q E) s
theorem Al.mono{w:World}{k:Nat}{f:Addr}(F:Al P w K mg base CX j f fd ps sp)(h:j<=k) :
  Al P w K mg base CX k f fd ps sp:=⟨F.len,fun A outer s H args us vs Q E hr=>F.run A outer s H args us vs Q E (hr.mono h)⟩
structure Kh(P:Program)(w:World)(K:Frag)(mg:Str->Option Value)(base:Heap)(k:Nat)(x:Str)(n:Nat)(F:List W->List am->R W):Prop where
 ex:∃(f:Addr) (fd:FuncData) (ps:List Str),mg x=some (.ref f)/\keepIn K (.ref f)=true/\ps.length=n/\kK K fd ps []/\Al P w K mg base (i_ P w) k f fd ps (jw K mg n F)
theorem Kh.mono{w:World}{k:Nat}(h:Kh P w K mg base j x n F)(hj:j<=k):Kh P w K mg base k x n F:=by
 obtain⟨f,fd,ps,a,b,c,d,e⟩:=h.ex
 exact⟨f,fd,ps,a,b,c,d,e.mono hj⟩
section
variable{fs:FA}
end
section
variable{w:World}
theorem si:∀(l:List Nat) (vs:List Value),vs.length=l.length->(∀(j:Nat) (v:Value),vs[j]?=some v->∃c u,l[j]?=some c/\v=.str (tx [c]) u)->StrsAre vs (l.map fun c=>tx [c])
 |[],[],_,_=>.nil
 |c::l,v::vs,hl,h=>by
  obtain⟨d,u,e,rfl⟩:=h 0 v rfl
  cases e
  exact .cons _ _ (si l vs (Nat.succ.inj hl) fun j v hj=>h (j+1) v hj)
 |[],_::_,hl,_=>nomatch hl
 |_::_,[],hl,_=>nomatch hl
theorem xk{t:Tok}(few:l.length<64)(hh:A.handled=none)
  (q:∀(s1:Shared) (g1:Heap) (out:Array Value) (ss:List Str) (e:Nat),(∀b o,s.heap.get? b=some o->s1.heap.get? b=some o)->s1.gens=s.gens->s1.drawn=s.drawn->s1.os=s.os->(∀b o,s1.heap.get? b=some o->g1.get? b=some o)->g1.get? s1.heap.objs.size=some (seqObj "list" out e) ->
   StrsAre out.toList ss->ss.Perm (l.map fun c=>tx [c])->sortedS ss=true->Q (.ref s1.heap.objs.size) { s1 with heap:=g1 }):wpAny (model prog w) A (call (.builtin "sorted") [.str (tx l) t]) Q E s:=by
 have hn:(tx l).cps.size=l.length:=by simp[tx]
 apply Calls.call_function_entry kind_sorted plain_sorted entry_sorted (args_sorted1 _)
 show wpAny _ _ (checkCount "sorted" 1 1 _ >>= _) _ _ _
 refine aa (ar (aa (wpAny_collect_str (by simpa using hh) _ _ (fun s1 gD kp eg ed eo ha=>?_) (by rw[m8];omega))))
 have mO:StrsAre gD.toList (l.map fun c=>tx [c]):=by
  refine si l _ (by rw[fF,ha.1,hn]) fun j v hj=>?_
  obtain⟨c,u,hc,e⟩:=ha.2 j v (by simpa using hj)
  exact⟨c,u,by simpa[tx]using hc,e⟩
 have hvl:gD.toList.length<64:=by rw[fF,ha.1,hn];exact few
 refine aa (wpAny_newList ?_ (by rw[m8];omega))
 have oL:(s1.heap.push (seqObj "list" gD.toList.toArray 0)).get? s1.heap.objs.size=some (seqObj "list" gD.toList.toArray 0):=ao _ rfl
 refine aa (fY (bp slot_list_sort ⟨_,oL,rfl⟩ entry_list_sort (list_sort_treeK strKind_oneLt oL mO.keysOf (fun a b r e=>keyKind_strs (by rw[<- e];exact mO)) hvl fun st a1 a2=>⟨_,rfl,?_⟩) (args_list_sort _)))
 obtain⟨ss,h1,h2,h3⟩:=sorted_out_str mO a1 a2
 obtain⟨e,he⟩:=sortedHeap_at (out:=(arrOf st).map (·.2)) oL
 refine ar ⟨_,rfl,q s1 _ _ ss e kp eg ed eo (fun b o hb=>?_) he h1 h2 h3⟩
 rw[sortedHeap_old (aT (az hb)) (by rw[bt];exact kt (az hb))]
 exact ai _ hb
end
section
def lF(ws:List W)(st:List am):R W:=match ws with
 |[.str l]=>if l.length<64 then .ok (.loc st.length) (st++[.lst ((iq (l.map fun c=>[c])).map W.str)])else .bad
 |[.loc n]=>nn [.loc n] st
 |_=>.bad
theorem Gv(hc:X.calm=true:=by rfl):qk X (.builtin "sorted") lF:=⟨fun ac s σ H vs us Q I rv ⟨μ,st,ws,S,r,q⟩=>by
 unfold lF at q
 split at q
 ·rename_i l
  split at q
  ·rename_i c
   obtain⟨y,rfl,ry⟩:=r.one
   have:=ry.strE;subst this
   obtain⟨u,rfl,ru⟩:=oo rv
   obtain⟨t,rfl⟩:=ru
   refine xk c (I.ok.hd hc) fun s1 g1 out ss e kp eg ed eo k1 gL mO hp hsr=>?_
   have es:s1={ s with heap:=s1.heap,toks:=s1.toks }:=by cases s1;cases s;cases eg;cases ed;cases eo;rfl
   generalize s1.heap=g0,s1.toks=tk at es kp k1 gL ⊢
   subst es
   have I2:bb X ac σ H { s with heap:=g0,toks:=tk }:=I.kept2 (d':=s.drawn) fun b o e=>kp b o e
   have rG:H g0.objs.size=none:=I2.hok.fresh (av _)
   have hmap:(ss.map fun z=>z.cps.toList).map tx=ss:=by
    rw[bD]
    have:(tx∘fun z:Str=>z.cps.toList)=id:=funext fun z=>Aa z
    rw[this,m9]
   have hperm:(ss.map fun z=>z.cps.toList).Perm (l.map fun c=>[c]):=by
    have e:=hp.map fun z:Str=>z.cps.toList
    rw[bD]at e
    exact e
   have ez:(ss.map fun z=>z.cps.toList)=iq (l.map fun c=>[c]):=vy (se (by rw[hmap];exact hsr)) (xg _) (hperm.trans (gk _).symm)
   have hvals:bE ((iq (l.map fun c=>[c])).map fun l=>V.str (tx l)) out.toList:=by
    have e:=nT mO
    rw[<- hmap,ez,bD]at e
    exact e
   refine⟨.ref g0.objs.size,_,I2.laid (o:=.lst ((iq (l.map fun c=>[c])).map fun l=>V.str (tx l))) (t':=tk) k1 (av _) ⟨?_,out.toList,e,hvals,gL⟩,rfl,?_⟩
   ·rw[aq,(gk _).length_eq,aq]
    exact aQ (iD c) (by decide)
   ·exact q (μ++[g0.objs.size]) _ _ (aW _ _) (dW.same (bP rG _)) (S.newLst rG (xh _)) (rW S)
  ·exact q.elim
 ·exact xi.h ac s σ H _ us Q I rv ⟨μ,st,_,S,r,q⟩
 ·exact q.elim,fun ws st=>by
 unfold lF
 split
 ·split<;>trivial
 ·exact(xi (X:=X)).n _ _
 ·trivial⟩
end
section
variable{a b:Expr}{fs:FA}
end
section
variable{fi:FI}{f:FG}{t:FT}{el:FE}
end
theorem bb.turnedL{s:Shared}{t':Nat}{ch:List Addr}(I:bb X ac σ H s)(k:∀b o,b∉ch->s.heap.get? b=some o->h'.get? b=some o)
  (f:∀b∈ch,nP X ac H b):bb X ac σ H { s with heap:=h',toks:=t' }:=by
 have nit:∀b u,H b=some u->b∉ch:=fun b u q z=>by rw[(f b z).1]at q;cases q
 refine I.step (g':=s.gens) (d':=s.drawn) (ch:=ch) (fun b hb=>?_) (fun b o _ _ hc q _=>k b o hc q) (fun b o _ _ hc q _=>⟨o.slots,k b o hc q⟩) (fun _ _ _ _ n=>n)
  (fun b o hc q=>⟨o,k b o hc q⟩) (fun _ _ q=>q) (fun _ _ _ q=>q) (fun b ps q=>⟨#[],by rw[q];simp⟩) (fun m hm=>?_) (fun b u q=>?_) I.bare
 ·exact⟨(f b hb).2.2.2.1,(f b hb).2.1,(f b hb).2.2.2.2.1,(f b hb).2.2.2.2.2⟩
 ·obtain⟨o,es,ep,ho,r⟩:=hm
  exact⟨o,es,ep,k _ o (fun z=>(f _ z).2.1 rfl) ho,r⟩
 ·refine(I.hok b u q).stay (fun c v hc z=>?_) (fun _ z=>z) fun _ _ z=>z
  rcases hc with y|y
  ·rw[y]at z ⊢;exact k b v (nit b u q) z
  ·exact k c v (nit c _ y) z
section
variable{w:World}
variable{z P O i j:Addr}{xs:Array Value}{x y v:Value}
theorem Gw(D:ZipApart z P O i j a b)(qz:IsZip s.heap z P O .none)(qP:IsPair s.heap P (.ref i) (.ref j))(qO:IsPair s.heap O u v)
  (q1:s.heap.IsTupleIter i a n) (q2:s.heap.IsTupleIter j b m) (ta:s.heap.IsTuple a xs) (tb:s.heap.IsTuple b ys) (hx:xs[n]?=some x) (hy:ys[m]?=some y)
  (hQ:∀g,IsZip g z P O (rawInt s.heap.objs.size)->IsPair g O x y->g.IsTupleIter i a (n+1)->g.IsTupleIter j b (m+1)->IsPair g s.heap.objs.size x y ->
   (∀c o,c≠z->c≠O->c≠i->c≠j->s.heap.get? c=some o->g.get? c=some o)->Q (.ref s.heap.objs.size) { s with heap:=g }) :
  wpAny (model prog w) A (Builtin.«zip.__next__» ⟨[.ref z],[]⟩) (fun m5 s'=>∃v,m5=.done (.ret v)/\Q v s') E s:=by
 show wpAny _ _ (field (.ref z) 2 >>= _) _ _ _
 refine aa (aY qz rfl (x:=.bool false) rfl ?_)
 show wpAny _ _ (field (.ref z) 3 >>= _) _ _ _
 refine aa (aY qz rfl (x:=.ref P) rfl (aa (bG qP rfl ?_)))
 show wpAny _ _ (Builtin.SmallTypes.ownedTupleIsFree (.ref z) >>= _) _ _ _
 refine aa ?_;unfold Builtin.SmallTypes.ownedTupleIsFree
 refine aa (aY qz rfl (x:=.none) rfl (ar ?_));simp only[gz]
 refine aa (gp (aa (aY qz rfl (x:=.ref O) rfl ?_)))
 refine aa (bM qz (by simp) fun g1 z1 s1=>?_)
 replace z1:IsZip g1 z P O .ellipsis:=z1
 refine aa ?_
 simp only[i6,jo,g6,jV]
 refine aa (aa (fA ?_))
 show wpAny _ _ (Builtin.SmallTypes.nextOf (.ref i) >>= _) _ _ _
 refine aa (gP (q1.extBut s1.extBut D.i1z) (ta.extBut s1.extBut D.l1z) hx fun g2 k2 s2=>ar ?_)
 have O2:IsPair g2 O u v:=s2.extBut _ _ D.TOi1 (s1.extBut _ _ D.TOz qO)
 refine aa (bG O2 rfl (aa (jh O2 fun g3 O3 s3=>?_)))
 replace O3:IsPair g3 O x v:=O3
 refine aa (ji (ar (aa (aa (fA ?_)))))
 show wpAny _ _ (Builtin.SmallTypes.nextOf (.ref j) >>= _) _ _ _
 refine aa (gP (((q2.extBut s1.extBut D.i2z).extBut s2.extBut D.i12.symm).extBut s3.extBut D.TOi2.symm)
  (((tb.extBut s1.extBut D.l2z).extBut s2.extBut D.l2i1).extBut s3.extBut D.l2TO) hy fun g4 k4 s4=>ar ?_)
 have O4:IsPair g4 O x v:=s4.extBut _ _ D.TOi2 O3
 refine aa (bG O4 rfl (aa (jh O4 fun g5 O5 s5=>?_)))
 replace O5:IsPair g5 O x y:=O5
 refine aa (ji (ar (ar (aa (bG O5 rfl (aa (wpAny_newTuple ?_)))))))
 have sz:g5.objs.size=s.heap.objs.size:=by rw[s5.1,s4.1,s3.1,s2.1,s1.1]
 have z5:IsZip g5 z P O .ellipsis:=s5.extBut _ _ D.TOz.symm (s4.extBut _ _ D.i2z.symm (s3.extBut _ _ D.TOz.symm (s2.extBut _ _ D.i1z.symm z1)))
 have kp:∀c o,c≠z->c≠O->c≠i->c≠j->s.heap.get? c=some o->g5.get? c=some o:=fun c o c1 c2 c3 c4 e=>
  s5.extBut _ _ c2 (s4.extBut _ _ c4 (s3.extBut _ _ c2 (s2.extBut _ _ c3 (s1.extBut _ _ c1 e))))
 have k5:g5.IsTupleIter i a (n+1):=((k2.extBut s3.extBut D.TOi1.symm).extBut s4.extBut D.i12).extBut s5.extBut D.TOi1.symm
 have l5:g5.IsTupleIter j b (m+1):=k4.extBut s5.extBut D.TOi2.symm
 have zlt:z<g5.objs.size:=az z5
 show wpAny _ _ (Builtin.SmallTypes.ownedTupleHandOut (.ref z) (.ref g5.objs.size) >>= _) _ _ _
 refine aa ?_;unfold Builtin.SmallTypes.ownedTupleHandOut
 have z6:IsZip (g5.push { cls:=.type "tuple",data:=.seq #[x,y] }) z P O .ellipsis:=ai _ z5
 refine aa (bM z6 (by simp) fun g7 z7 s7=>?_)
 replace z7:IsZip g7 z P O (rawInt g5.objs.size):=z7
 refine bM z7 (by simp) fun g8 z8 s8=>?_
 replace z8:IsZip g8 z P O (rawInt g5.objs.size):=z8
 have up:∀c o,c≠z->g5.get? c=some o->g8.get? c=some o:=fun c o c1 e=>s8.extBut _ _ c1 (s7.extBut _ _ c1 (ai _ e))
 have T8:IsPair g8 g5.objs.size x y:=s8.extBut _ _ (fP zlt) (s7.extBut _ _ (fP zlt) (ao _ rfl))
 rw[sz]at z8 T8
 refine ar ⟨_,rfl,?_⟩
 show Q (.ref g5.objs.size) _
 rw[sz]
 exact hQ g8 z8 (up _ _ D.TOz O5) (k5.at fun o e=>up _ o D.i1z e) (l5.at fun o e=>up _ o D.i2z e) T8 fun c o c1 c2 c3 c4 e=>up c o c1 (kp c o c1 c2 c3 c4 e)
theorem Ki{Q:Fin->Shared->Prop}(hh:A.handled=none)(D:ZipApart z P O i j a b)(qz:IsZip s.heap z P O .none)(qP:IsPair s.heap P (.ref i) (.ref j))(qO:IsPair s.heap O u v)
  (q1:s.heap.IsTupleIter i a n) (q2:s.heap.IsTupleIter j b m) (ta:s.heap.IsTuple a xs) (tb:s.heap.IsTuple b ys) (he:xs[n]?=none\/ys[m]?=none)
  (hE:∀g e,(∀c o,c≠z->c≠O->c≠i->c≠j->s.heap.get? c=some o->g.get? c=some o)->(∃o,g.get? e=some o/\o.cls=.type "StopIteration")->E (.ref e) { s with heap:=g }) :
  wpAny (model prog w) A (Builtin.«zip.__next__» ⟨[.ref z],[]⟩) Q E s:=by
 show wpAny _ _ (field (.ref z) 2 >>= _) _ _ _
 refine aa (aY qz rfl (x:=.bool false) rfl ?_)
 show wpAny _ _ (field (.ref z) 3 >>= _) _ _ _
 refine aa (aY qz rfl (x:=.ref P) rfl (aa (bG qP rfl ?_)))
 show wpAny _ _ (Builtin.SmallTypes.ownedTupleIsFree (.ref z) >>= _) _ _ _
 refine aa ?_;unfold Builtin.SmallTypes.ownedTupleIsFree
 refine aa (aY qz rfl (x:=.none) rfl (ar ?_));simp only[gz]
 refine aa (gp (aa (aY qz rfl (x:=.ref O) rfl ?_)))
 refine aa (bM qz (by simp) fun g1 z1 s1=>?_)
 replace z1:IsZip g1 z P O .ellipsis:=z1
 refine aa ?_
 simp only[i6,jo,g6,jV]
 refine aa (aa (fA ?_))
 show wpAny _ _ (Builtin.SmallTypes.nextOf (.ref i) >>= _) _ _ _
 cases hx:xs[n]? with
 |none=>
  refine aa (im hh (q1.extBut s1.extBut D.i1z) (ta.extBut s1.extBut D.l1z) hx fun g2 e s2 ye=>?_)
  obtain⟨oe,h1,h2⟩:=ye
  have z2:IsZip g2 z P O .ellipsis:=s2 _ _ D.i1z.symm z1
  have nez:e≠z:=fun q=>by subst q;rw[z2]at h1;cases h1;simp at h2
  exact bM z2 (by simp) fun g3 _ s3=>hE g3 e (fun c o c1 _ c3 _ q=>s3.extBut _ _ c1 (s2 _ _ c3 (s1.extBut _ _ c1 q))) ⟨oe,s3.extBut _ _ nez h1,h2⟩
 |some x=>
  have hy:ys[m]?=none:=by rcases he with h|h;rw[hx]at h;cases h;exact h
  refine aa (gP (q1.extBut s1.extBut D.i1z) (ta.extBut s1.extBut D.l1z) hx fun g2 k2 s2=>ar ?_)
  have O2:IsPair g2 O u v:=s2.extBut _ _ D.TOi1 (s1.extBut _ _ D.TOz qO)
  refine aa (bG O2 rfl (aa (jh O2 fun g3 O3 s3=>?_)))
  refine aa (ji (ar (aa (aa (fA ?_)))))
  show wpAny _ _ (Builtin.SmallTypes.nextOf (.ref j) >>= _) _ _ _
  refine aa (im hh (((q2.extBut s1.extBut D.i2z).extBut s2.extBut D.i12.symm).extBut s3.extBut D.TOi2.symm)
   (((tb.extBut s1.extBut D.l2z).extBut s2.extBut D.l2i1).extBut s3.extBut D.l2TO) hy fun g4 e s4 ye=>?_)
  obtain⟨oe,h1,h2⟩:=ye
  have z4:IsZip g4 z P O .ellipsis:=s4 _ _ D.i2z.symm (s3.extBut _ _ D.TOz.symm (s2.extBut _ _ D.i1z.symm z1))
  have nez:e≠z:=fun q=>by subst q;rw[z4]at h1;cases h1;simp at h2
  exact bM z4 (by simp) fun g5 _ s5=>hE g5 e (fun c o c1 c2 c3 c4 q=>s5.extBut _ _ c1 (s4 _ _ c4 (s3.extBut _ _ c2 (s2.extBut _ _ c3 (s1.extBut _ _ c1 q))))) ⟨oe,s5.extBut _ _ nez h1,h2⟩
theorem Gx{Q:Option Value->Shared->Prop}(D:ZipApart z P O i j a b)(qz:IsZip s.heap z P O .none)(qP:IsPair s.heap P (.ref i) (.ref j))(qO:IsPair s.heap O u v)
  (q1:s.heap.IsTupleIter i a n) (q2:s.heap.IsTupleIter j b m) (ta:s.heap.IsTuple a xs) (tb:s.heap.IsTuple b ys) (hx:xs[n]?=some x) (hy:ys[m]?=some y)
  (hQ:∀g,IsZip g z P O (rawInt s.heap.objs.size)->IsPair g O x y->g.IsTupleIter i a (n+1)->g.IsTupleIter j b (m+1)->IsPair g s.heap.objs.size x y ->
   (∀c o,c≠z->c≠O->c≠i->c≠j->s.heap.get? c=some o->g.get? c=some o)->Q (some (.ref s.heap.objs.size)) { s with heap:=g }) :
  wpAny (model prog w) A (pyNext (.ref z)) Q E s:=by
 have T:s.TypeIs (.ref z) "zip":=⟨_,qz,rfl⟩
 unfold pyNext
 exact aa (dR (bf (name:=Str.ofString "__next__") T dF (bp dF T i7
   (Gw D qz qP qO q1 q2 ta tb hx hy fun g a1 a2 a3 a4 a5 a6=>ar (hQ g a1 a2 a3 a4 a5 a6)) (iJ _))))
theorem Gy{Q:Option Value->Shared->Prop}(hh:A.handled=none)(D:ZipApart z P O i j a b)(qz:IsZip s.heap z P O .none)(qP:IsPair s.heap P (.ref i) (.ref j))(qO:IsPair s.heap O u v)
  (q1:s.heap.IsTupleIter i a n) (q2:s.heap.IsTupleIter j b m) (ta:s.heap.IsTuple a xs) (tb:s.heap.IsTuple b ys) (he:xs[n]?=none\/ys[m]?=none)
  (hQ:∀g,(∀c o,c≠z->c≠O->c≠i->c≠j->s.heap.get? c=some o->g.get? c=some o)->Q none { s with heap:=g }):wpAny (model prog w) A (pyNext (.ref z)) Q E s:=by
 have T:s.TypeIs (.ref z) "zip":=⟨_,qz,rfl⟩
 unfold pyNext
 refine aa (dR (bf (name:=Str.ofString "__next__") T dF (bp dF T i7 (Ki hh D qz qP qO q1 q2 ta tb he fun g e hk ye=>?_) (iJ _))))
 obtain⟨o,ho,hc⟩:=ye
 exact aa (cI (T:="StopIteration") (b:=true) ⟨o,ho,hc⟩ iG (ar (hQ _ hk)))
end
open AutoSeq1 (wpAny_loadPart')
abbrev Pt(h:Heap)(a:Addr):Heap:=h.push (jt a)
abbrev Pu(h:Heap)(a b:Addr):Heap:=(Pt h a).push (jt b)
abbrev Pv(h:Heap)(a b:Addr):Heap:=(Pu h a b).push { cls:=.type "tuple",data:=.seq #[.ref h.objs.size,.ref (Pt h a).objs.size] }
abbrev Pw(h:Heap)(a b:Addr):Heap:=(Pv h a b).push { cls:=.type "tuple",data:=.seq #[.none,.none] }
abbrev Mo(h:Heap)(a b:Addr):Heap:=(Pw h a b).push { cls:=.type "zip",data:=.fields #[.none,.bool false,.bool false,.ref (Pu h a b).objs.size,.ref (Pv h a b).objs.size] }
theorem Kj     (a b : Addr) (xs ys : Array Value) : Meets (Builtin.«zip.__new__» ⟨[.type "zip", .ref a, .ref b], []⟩) (fun _ R s => s.heap.IsTuple a xs /\ s.heap.IsTuple b ys /\
      R (.ok (.ret (.ref (Pw  s.heap a b).objs.size))) { s with heap := Mo  s.heap a b }) :=
  .of_wp fun prog w A R s h => by
    obtain ⟨hp, g, d, tk, os⟩ := s
    obtain ⟨ha, hb, h⟩ := h
    have sb := sub_zip
    have hA : Heap.IsTuple (Shared.heap ⟨hp, g, d, tk, os⟩) a xs := ha
    have hB : Heap.IsTuple (Shared.heap ⟨hp.push (jt      a), g, d, tk, os⟩) b ys := hb.at fun o e => ai                     _ e
    wp_walk using d8                 hA, d8                 hB
    exact ⟨_, rfl, h⟩
section
variable{w:World}
theorem Gz{xs:Array Value}(ha:s.heap.IsTuple a xs)(hb:s.heap.IsTuple b ys)
  (q:∀g,IsZip g (s.heap.objs.size+4) (s.heap.objs.size+2) (s.heap.objs.size+3) .none->IsPair g (s.heap.objs.size+2) (.ref s.heap.objs.size) (.ref (s.heap.objs.size+1)) ->
   IsPair g (s.heap.objs.size+3) .none .none->g.IsTupleIter s.heap.objs.size a 0->g.IsTupleIter (s.heap.objs.size+1) b 0->(∀c o,s.heap.get? c=some o->g.get? c=some o)->Q (.ref (s.heap.objs.size+4)) { s with heap:=g }) :
  wpAny (model prog w) A (call (.type "zip") [.ref a,.ref b]) Q E s:=by
 refine jC F.called_zip (by decide) (F.typeCall_zip_2 _ _) (F.newCall_zip_2 _ _) (fun ob=>F.args_object_init_3 ob _ _) F.entry_zip_new (Kj a b xs ys) ⟨ha,hb,?_⟩
 have n1:(Pt s.heap a).objs.size=s.heap.objs.size+1:=bt ..
 have n2:(Pu s.heap a b).objs.size=s.heap.objs.size+2:=by rw[bt,n1]
 have n3:(Pv s.heap a b).objs.size=s.heap.objs.size+3:=by rw[bt,n2]
 have n4:(Pw s.heap a b).objs.size=s.heap.objs.size+4:=by rw[bt,n3]
 have p:∀{h:Heap} {c:Addr} {o u:Obj},h.get? c=some o->(h.push u).get? c=some o:=fun e=>ai _ e
 have g5:(Mo s.heap a b).get? (Pw s.heap a b).objs.size=some _:=ao _ rfl
 have g4:(Mo s.heap a b).get? (Pv s.heap a b).objs.size=some _:=p (ao _ rfl)
 have g3:(Mo s.heap a b).get? (Pu s.heap a b).objs.size=some _:=p (p (ao _ rfl))
 have g2:(Mo s.heap a b).get? (Pt s.heap a).objs.size=some _:=p (p (p (ao _ rfl)))
 have g1:(Mo s.heap a b).get? s.heap.objs.size=some _:=p (p (p (p (ao _ rfl))))
 show _/\_
 rw[n2,n3,n4]at g5
 rw[n1,n2]at g3
 rw[n3]at g4
 rw[n1]at g2
 rw[n4]
 exact⟨⟨_,g5,rfl⟩,q _ g5 g3 g4 ⟨_,g1,rfl,rfl⟩ ⟨_,g2,rfl,rfl⟩ fun c o e=>p (p (p (p (p e))))⟩
end
def Rx(K:Frag)(a b:Addr):It:=
  ⟨fun i H=>∃xs ys x y,dW K H a xs/\dW K H b ys/\xs[i]?=some x/\ys[i]?=some y,
   fun i H v H'=>∃p,H p=none/\v=.ref p/\∀xs ys x y,dW K H a xs->dW K H b ys->xs[i]?=some x->ys[i]?=some y->H'=da H p (.tup [x,y]),
   fun i H=>∃xs ys,dW K H a xs/\dW K H b ys/\(xs.length<=i\/ys.length<=i)⟩
theorem GA{w:World}{z T O i j:Addr}(D:ZipApart z T O i j a b) :
  rK P w K (.Tuple gw kk pos) (Rx K a b) [z,T,O,i,j] z (fun k h=>IsZip h z T O .none/\IsPair h T (.ref i) (.ref j)/\(∃u v,IsPair h O u v)/\h.IsTupleIter i a k/\h.IsTupleIter j b k) where
 mem:=by simp
 obj:=fun k h st c hc=>by
  obtain⟨h1,h2,⟨u,v,h3⟩,⟨o4,e4,_,d4⟩,⟨o5,e5,_,d5⟩⟩:=st
  have q:c=z\/c=T\/c=O\/c=i\/c=j:=by simpa using hc
  rcases q with rfl|rfl|rfl|rfl|rfl
  ·exact⟨_,h1,fun v q=>by cases q⟩
  ·exact⟨_,h2,fun v q=>by cases q⟩
  ·exact⟨_,h3,fun v q=>by cases q⟩
  ·exact⟨_,e4,fun v q=>by rw[d4]at q;cases q⟩
  ·exact⟨_,e5,fun v q=>by rw[d5]at q;cases q⟩
 keep:=fun k h h' st kp=>by
  obtain⟨h1,h2,⟨u,v,h3⟩,h4,h5⟩:=st
  exact⟨kp z (by simp) _ h1,kp T (by simp) _ h2,⟨u,v,kp O (by simp) _ h3⟩,h4.at fun o e=>kp i (by simp) o e,h5.at fun o e=>kp j (by simp) o e⟩
 item:=by
  intro X hP hw hK hc k ac s σ H E I hf st hg
  subst hP hw hK
  obtain⟨xs,ys,x,y,hq,hr,hx,hy⟩:=hg
  obtain⟨bd,rv,p1,_⟩:=I.tuple hq
  obtain⟨jts,ko,p2,_⟩:=I.tuple hr
  obtain⟨u,hu,ru⟩:=rv.get hx
  obtain⟨v,hv,rv'⟩:=ko.get hy
  obtain⟨h1,h2,⟨c1,c2,h3⟩,h4,h5⟩:=st
  refine Gx D h1 h2 h3 h4 h5 (show s.heap.IsTuple a bd.toArray from p1) (show s.heap.IsTuple b jts.toArray from p2) (x:=u) (y:=v) (by simpa using hu) (by simpa using hv) fun g a1 a2 a3 a4 a5 kp=>⟨_,rfl,?_⟩
  refine gE a1 fun g2 b1 s2=>?_
  have rG:H s.heap.objs.size=none:=I.hok.fresh (av _)
  have I1:bb X ac σ (da H s.heap.objs.size (.tup [x,y])) { s with heap:=s.heap.push { cls:=.type "tuple",data:=.seq #[u,v] },toks:=s.toks }:=I.laid (fun c o q=>ai _ q) (av _)
   ⟨by show 2<=sizeLine;decide,[u,v],.cons ru (.cons rv' .nil),⟨_,ao _ rfl,rfl,_,rfl⟩⟩
  have lt:∀{c o},s.heap.get? c=some o->c≠s.heap.objs.size:=fun e=>aT (az e)
  have nf:∀c∈[z,T,O,i,j],c≠s.heap.objs.size:=fun c hb=>by
   have q:c=z\/c=T\/c=O\/c=i\/c=j:=by simpa using hb
   rcases q with rfl|rfl|rfl|rfl|rfl
   ·exact lt h1
   ·exact lt h2
   ·exact lt h3
   ·obtain⟨_,e,_⟩:=h4;exact lt e
   ·obtain⟨_,e,_⟩:=h5;exact lt e
  have fp:∀c∈[z,T,O,i,j],nP X ac (da H s.heap.objs.size (.tup [x,y])) c:=fun c hb=>by
   obtain⟨f0,f⟩:=hf c hb
   exact⟨by rw[bF (nf c hb)];exact f0,f⟩
  have I2:bb X ac σ (da H s.heap.objs.size (.tup [x,y])) { s with heap:=g2,toks:=s.toks }:=bb.turnedL (s:={ s with heap:=s.heap.push { cls:=.type "tuple",data:=.seq #[u,v] },toks:=s.toks }) (ch:=[z,O,i,j]) (t':=s.toks) I1 (fun c o hb q=>?_) fun c hb=>fp c (by
   have q:c=z\/c=O\/c=i\/c=j:=by simpa using hb
   rcases q with rfl|rfl|rfl|rfl<;>simp)
  ·refine⟨.ref s.heap.objs.size,_,I2,rfl,⟨_,rG,rfl,fun xs' IU x' y' e1 e2 e3 e4=>?_⟩,⟨b1,s2.extBut _ _ D.TIz (kp _ _ D.TIz D.TITO D.TIi1 D.TIi2 h2),⟨_,_,s2.extBut _ _ D.TOz a2⟩,a3.extBut s2.extBut D.i1z,a4.extBut s2.extBut D.i2z⟩,fun c hb=>(fp c hb).1⟩
   have q1:=I.tuple_inj e1 hq
   have q2:=I.tuple_inj e2 hr
   subst q1 q2
   rw[hx]at e3;rw[hy]at e4;cases e3;cases e4;rfl
  ·have q':(s.heap.push { cls:=.type "tuple",data:=.seq #[u,v] }).get? c=some o:=q
   have hn:c≠z/\c≠O/\c≠i/\c≠j:=by simpa using hb
   refine s2.extBut c o hn.1 ?_
   by_cases hb':c=s.heap.objs.size
   ·subst hb'
    have e1:=ao s.heap (o:={ cls:=.type "tuple",data:=.seq #[u,v] }) rfl
    rw[e1]at q';cases q'
    exact a5
   ·rw[fj _ _ _ hb']at q'
    exact kp c o hn.1 hn.2.1 hn.2.2.1 hn.2.2.2 q'
 done:=by
  intro X hP hw hK hc k ac s σ H E I hf st hg
  subst hP hw hK
  obtain⟨xs,ys,hq,hr,he⟩:=hg
  obtain⟨bd,rv,p1,_⟩:=I.tuple hq
  obtain⟨jts,ko,p2,_⟩:=I.tuple hr
  obtain⟨h1,h2,⟨c1,c2,h3⟩,h4,h5⟩:=st
  have l1:=rv.length
  have l2:=ko.length
  refine Gy (I.ok.hd hc) D h1 h2 h3 h4 h5 (show s.heap.IsTuple a bd.toArray from p1) (show s.heap.IsTuple b jts.toArray from p2) (by
   rcases he with q|q
   ·exact .inl (by simp;omega)
   ·exact .inr (by simp;omega)) fun g kp=>⟨rfl,?_⟩
  exact I.turnedL (ch:=[z,O,i,j]) (t':=s.toks) (fun c o hb q=>by
   have hn:c≠z/\c≠O/\c≠i/\c≠j:=by simpa using hb
   exact kp c o hn.1 hn.2.1 hn.2.2.1 hn.2.2.2 q) fun c hb=>hf c (by
   have q:c=z\/c=O\/c=i\/c=j:=by simpa using hb
   rcases q with rfl|rfl|rfl|rfl<;>simp)
 self:=fun A k s Q E st h=>fJ st.1 h
def iM:List W->List W->List W
 |x::xs,y::ys=>.tup [x,y]::iM xs ys
 |_,_=>[]
theorem iu:∀{xs ys:List W} {i:Nat} {w:W},(iM xs ys)[i]?=some w->∃x y,xs[i]?=some x/\ys[i]?=some y/\w=.tup [x,y]
 |x::xs,y::ys,0,w,h=>by simp[iM]at h;exact⟨x,y,rfl,rfl,h.symm⟩
 |x::xs,y::ys,i+1,w,h=>by simp[iM]at h;simpa using iu h
 |[],_,i,w,h=>by simp[iM]at h
 |_::_,[],i,w,h=>by simp[iM]at h
theorem gQ:∀(xs ys:List W),(iM xs ys).length=min xs.length ys.length
 |x::xs,y::ys=>by simp[iM,gQ xs ys]
 |[],_=>by simp[iM]
 |_::_,[]=>by simp[iM]
section
variable{a b:Expr}{fs:FA}
def y4(fs:FA):FI:=fun ρ st=>(fs ρ st).bind fun ws st=>match ws with
 |[.tup xs,.tup ys]=>.ok (iM xs ys,none) st
 |_=>.bad
end
open Builtin.Str (tooLong)
section
variable{w:World}
end
section
end
theorem xn(zs:List Int):∀n,n<=zs.length->preSum (fun i=>zs.getD i 0) n=(zs.take n).sum
 |0,_=>by simp[preSum]
 |n+1,h=>by
  have ih:=xn zs n (by omega)
  show preSum (fun i=>zs.getD i 0) n+zs.getD n 0=_
  have e:zs[n]?=some (zs.getD n 0):=by rw[aA,ag (by omega)];rfl
  rw[ih,gr,e,List.sum_append]
  simp
def QM(K:Frag):List V->Hp->VK->Prop:=fun xs H Q=>∃(p:Addr) (zs:List Int),xs=[.ref p]/\jr K H p (zs.map V.int)/\Q (.int zs.sum) H
theorem NJ(hc:X.calm=true:=by rfl):Hw X (.builtin "sum") (QM X.K):=⟨by
 intro ac s σ H xs us Q I r h
 obtain⟨p,zs,rfl,hS,q⟩:=h
 obtain⟨u,rfl,ru⟩:=oo r
 cases ru
 obtain⟨bd,rv,pl,hz⟩:=I.list hS
 have hh:=I.ok.hd hc
 have hl:s.heap.IsList p bd.toArray:=pl.isList
 have hlt:p<s.heap.objs.size:=by obtain⟨o,ho,_⟩:=hl;exact az ho
 have cV:bd.toArray.size=zs.length:=by have:=rv.length;rw[aq]at this;simpa using this.symm
 refine call_sum_walkAnyS (gj hl ?_)
 refine⟨_,_,_,_,_,_,_,fun i=>zs.getD i 0,rfl,(Walks.list (A:=X.A.in1) (by simpa using hh) s.heap.objs.size p (aT hlt) bd.toArray).toS,⟨⟨_,ao _ rfl,rfl,rfl⟩,hl.at fun o e=>ai _ e⟩,fun b hb=>?_,fun i v hP=>?_,fun s1 t' hm=>?_⟩
 ·have z:b=s.heap.objs.size\/b=p:=by simpa using hb
  show b<(s.heap.push _).objs.size
  rw[bt]
  rcases z with rfl|rfl
  ·exact i3 _
  ·exact kt hlt
 ·have hi:bd[i]?=some v:=by simpa using hP
  have hlt:i<zs.length:=by
   have:=(ah.mp hi).1
   rw[<- cV];simpa using this
  have hx:(zs.map V.int)[i]?=some (.int zs[i]):=by rw[af,ag hlt];rfl
  obtain⟨u,hu,ru⟩:=rv.get hx
  rw[hi]at hu
  obtain⟨t,et⟩:=ru
  refine⟨t,(aL hu).trans ?_⟩
  rw[et];show Value.int zs[i] t=Value.int (zs.getD i 0) t;rw[aA,ag hlt];rfl
 ·have e:preSum (fun i=>zs.getD i 0) bd.toArray.size=zs.sum:=by rw[cV,xn zs _ (av _),cJ]
  rw[e]
  have eg:s1.gens=s.gens:=hm.gens
  have ed:s1.drawn=s.drawn:=hm.drawn
  have eo:s1.os=s.os:=hm.os
  have kp:∀b o,s.heap.get? b=some o->s1.heap.get? b=some o:=fun b o eb=>hm.heap b o (fun z=>by
   have z:b=s.heap.objs.size:=by simpa using z
   exact absurd (az eb) (by rw[z];exact dr _)) (ai _ eb)
  have es:s1={ s with heap:=s1.heap,toks:=s1.toks }:=by cases s1;cases s;cases eg;cases ed;cases eo;rfl
  generalize s1.heap=g0,s1.toks=tk at es kp
  subst es
  exact⟨.int _,H,I.kept2 (d':=s.drawn) fun b o e=>kp b o e,⟨t',rfl⟩,q⟩⟩
section
def oI:List W->Option (List Int)
 |[]=>some []
 |.int z::ws=>(oI ws).map (z :: ·)
 |_=>none
theorem xo:∀{ws:List W} {l:List Int} {vs:List V},oI ws=some l->RelWs K μ H ws vs->vs=l.map V.int
 |[],l,vs,h,r=>by simp only[oI]at h;cases h;exact r.nilE
 |w::ws,l,vs,h,r=>by
  obtain⟨x,xs,rfl,rx,rs⟩:=r.consE
  unfold oI at h
  split at h
  ·rename_i e;cases e
  ·rename_i z LZ e
   cases e
   cases e2:oI ws with
   |none=>rw[e2]at h;cases h
   |some l'=>rw[e2]at h;cases h;rw[rx.intE,xo e2 rs];rfl
  ·cases h
def xp(ws:List W)(st:List am):R W:=match ws with
 |[.loc n]=>pO (lstOf st n) fun zs=>pO (oI zs) fun ls=>.ok (.int ls.sum) st
 |_=>.bad
theorem HP(hc:X.calm=true:=by rfl):qk X (.builtin "sum") xp:=⟨fun ac s σ H vs us Q I rv ⟨μ,st,ws,S,r,q⟩=>by
 unfold xp at q
 split at q
 ·rename_i n
  obtain⟨y,rfl,ry⟩:=r.one
  cases e1:lstOf st n with
  |none=>rw[e1]at q;exact q.elim
  |some zs=>
   rw[e1,dy]at q
   cases e2:oI zs with
   |none=>rw[e2]at q;exact q.elim
   |some ls=>
    rw[e2,dy]at q
    obtain⟨a,vs,g,hS,rz⟩:=S.lstOf e1
    obtain⟨b1,f1,rfl⟩:=ry.locE
    rw[g]at f1;cases f1
    have:=xo e2 rz
    subst this
    exact(NJ hc).h ac s σ H _ us Q I rv ⟨_,ls,rfl,hS,lA S q⟩
 ·exact q.elim,fun ws st=>by
 unfold xp
 split
 ·exact nD fun _=>nD fun _=>trivial
 ·trivial⟩
end
section
theorem Bp(l:List α):(sliceRange ((l.length:Int)-1) (-1) (-1)).filterMap (fun j=>l[j]?)=l.reverse:=by
 unfold sliceRange
 have h1:¬ ((-1:Int)>0):=by decide
 simp only[h1,fI]
 have e:(if (l.length:Int)-1 > -1 then((l.length:Int)-1 - -1 - -1-1)/(- -1)else 0).toNat=l.length:=by
  by_cases h:(l.length:Int)-1 > -1
  ·rw[aw h];simp
  ·rw[ay h];omega
 rw[e]
 have mp:∀k:Nat,k<=l.length->((List.range k).map fun(k:Nat)=>((l.length:Int)-1+-1*(k:Int)).toNat).filterMap (fun j=>l[j]?)=l.reverse.take k:=by
  intro k
  induction k with
  |zero=>intro _;simp
  |succ k ih=>
   intro hk
   rw[cm,cn,List.filterMap_append,ih (by omega),jW]
   have e2:((l.length:Int)-1+-1*(k:Int)).toNat=l.length-1-k:=by omega
   rw[e2,dJ]
   have hlt:l.length-1-k<l.length:=by omega
   rw[ag hlt,List.filterMap_nil,gr,eK (by omega),ag hlt]
   rfl
 rw[mp l.length (av _),bA (by simp)]
theorem C5(bd:List Value):slicePick bd.toArray none none (some (-1))=bd.reverse.toArray:=by
 have h:=Bp bd
 unfold slicePick
 congr 1
 rw[<- h]
 have:∀j:Nat,(bd.toArray)[j]?=bd[j]?:=fun j=>by simp
 simp only[this]
 show(sliceRange ((bd.toArray.size:Int)-1) (-1) (-1)).filterMap _=_
 simp
theorem bE.rev:∀{xs:List V} {us:List Value},bE xs us->bE xs.reverse us.reverse
 |_,_,.nil=>.nil
 |_,_,.cons r t=>by rw[fg,fg];exact bE.append (bE.rev t) (.cons r .nil)
def NK(K:Frag)(te:TE):TE:=fun σ H Q=>te σ H fun x H1=>∃a xs,x=.ref a/\jr K H1 a xs/\∀p,H1 p=none->Q (.ref p) (da H1 p (.lst xs.reverse))
theorem GB{p3:Pos}{p4:Pos}(he:PE X e te):PE X (.Subscript e (.Slice none none (some (.UnaryOp .USub (.Constant (.int 1) j p4) p3)) p2) pos) (NK X.K te):=by
 intro ac s σ H Q I h
 refine Subscript_ (fU (he ac s σ H _ I h) fun v s1 ⟨x,H1,I1,r1,q1⟩=>?_)
 obtain⟨a,xs,e,hS,q⟩:=q1
 subst e
 cases r1
 obtain⟨bd,r,ht,hz⟩:=I1.list hS
 have cV:=r.length
 refine wpAny_Slice ?_
 rw[nM]
 refine ar (ar ?_)
 show wpAny (model X.prog X.w) X.A (eval (.UnaryOp .USub (.Constant (.int 1) j p4) p3) X.env) _ _ s1
 refine UnaryOp_ (wpAny_Constant_int (neg_int ?_))
 dsimp only
 have hl:(s1.heap.push { cls:=.type "slice",data:=.fields #[.none,.none,.int (-1) (s1.toks+1)] }).IsList a bd.toArray:=ht.isList.push _
 refine tail_any (ops:=[.ref a,.ref s1.heap.objs.size]) hl.typeIs slot_list_getitem.lookup ?_ (by with_unfolding_all rfl)
 refine kH (vl:=.none) (vu:=.none) (vs:=.int (-1) (s1.toks+1)) hl ⟨_,ao _ rfl,rfl,rfl⟩ .none .none (.int _ _) (by simp) ?_ (by rw[aH]<;>omega)
 rw[C5]
 have I4:bb X ac σ H1 { s1 with heap:=s1.heap.push { cls:=.type "slice",data:=.fields #[.none,.none,.int (-1) (s1.toks+1)] },toks:=s1.toks+1+1 }:=I1.kept fun b o q=>ai _ q
 refine⟨.ref _,_,I4.laid (o:=.lst xs.reverse) (t':=s1.toks+1+1) (fun b ob q=>ai _ q) (av _) ?_,rfl,q _ (I4.hok.fresh (av _))⟩
 exact⟨by rw[List.length_reverse];exact hz,_,0,r.rev,ao _ rfl⟩
theorem RelWs.rev:∀{a:List W} {vs:List V},RelWs K μ H a vs->RelWs K μ H a.reverse vs.reverse
 |[],vs,r=>by rw[r.nilE];exact .nilI
 |x::xs,vs,r=>by
  obtain⟨y,ys,rfl,r1,r2⟩:=r.consE
  rw[fg,fg]
  exact(RelWs.rev r2).app (.consI r1 .nilI)
def Am(fa:FE):FE:=fun ρ st=>(fa ρ st).bind fun x st=>match x with
 |.loc n=>(match lstOf st n with
  |some ws=>jp ws.reverse st
  |none=>.bad)
 |_=>.bad
theorem Kk{a:Expr}{fa:FE}{p3 p4:Pos}(ha:SE X a fa):SE X (.Subscript a (.Slice none none (some (.UnaryOp .USub (.Constant (.int 1) j p4) p3)) p2) pos) (Am fa):=⟨(GB ha.h).imp fun σ H Q h=>by
 obtain⟨μ,ρ,st,l,h⟩:=h
 refine⟨μ,ρ,st,l,RK.bind h l fun μ1 st1 x v H1 p1 x1 l1 q1 h1=>?_⟩
 cases x with
 |loc n=>
  dsimp only at h1
  split at h1
  ·rename_i ys e0
   obtain⟨a,vs,g,hS,r'⟩:=l1.sto.lstOf e0
   obtain⟨b1,f1,rfl⟩:=q1.locE
   rw[g]at f1;cases f1
   exact⟨_,vs,rfl,hS,fun p hp=>(mR l1.sto r'.rev h1).2 p _ hp rfl⟩
  ·exact h1.elim
 |_=>exact h1.elim⟩
end
def NL(K:Frag)(a b:Addr):It:=
  ⟨fun i H=>∃xs ys x y,jr K H a xs/\jr K H b ys/\xs[i]?=some x/\ys[i]?=some y,
   fun i H v H'=>∃p,H p=none/\v=.ref p/\∀xs ys x y,jr K H a xs->jr K H b ys->xs[i]?=some x->ys[i]?=some y->H'=da H p (.tup [x,y]),
   fun i H=>∃xs ys,jr K H a xs/\jr K H b ys/\(xs.length<=i\/ys.length<=i)⟩
theorem GC{w:World}{z T O i j:Addr}(D:ZipApart z T O i j a b) :
  rK P w K (.Tuple gw kk pos) (NL K a b) [z,T,O,i,j] z (fun k h=>IsZip h z T O .none/\IsPair h T (.ref i) (.ref j)/\(∃u v,IsPair h O u v)/\h.IsListIter i a k/\h.IsListIter j b k) where
 mem:=by simp
 obj:=fun k h st c hc=>by
  obtain⟨h1,h2,⟨u,v,h3⟩,⟨o4,e4,_,d4⟩,⟨o5,e5,_,d5⟩⟩:=st
  have q:c=z\/c=T\/c=O\/c=i\/c=j:=by simpa using hc
  rcases q with rfl|rfl|rfl|rfl|rfl
  ·exact⟨_,h1,fun v q=>by cases q⟩
  ·exact⟨_,h2,fun v q=>by cases q⟩
  ·exact⟨_,h3,fun v q=>by cases q⟩
  ·exact⟨_,e4,fun v q=>by rw[d4]at q;cases q⟩
  ·exact⟨_,e5,fun v q=>by rw[d5]at q;cases q⟩
 keep:=fun k h h' st kp=>by
  obtain⟨h1,h2,⟨u,v,h3⟩,h4,h5⟩:=st
  exact⟨kp z (by simp) _ h1,kp T (by simp) _ h2,⟨u,v,kp O (by simp) _ h3⟩,h4.at fun o e=>kp i (by simp) o e,h5.at fun o e=>kp j (by simp) o e⟩
 item:=by
  intro X hP hw hK hc k ac s σ H E I hf st hg
  subst hP hw hK
  obtain⟨xs,ys,x,y,hq,hr,hx,hy⟩:=hg
  obtain⟨bd,rv,p1,_⟩:=I.list hq
  obtain⟨jts,ko,p2,_⟩:=I.list hr
  obtain⟨u,hu,ru⟩:=rv.get hx
  obtain⟨v,hv,rv'⟩:=ko.get hy
  obtain⟨h1,h2,⟨c1,c2,h3⟩,h4,h5⟩:=st
  refine wpAny_pyNext_zip_item D h1 h2 h3 h4 h5 p1.isList p2.isList (x:=u) (y:=v) (by simpa using hu) (by simpa using hv) fun g a1 a2 a3 a4 a5 _ kp=>⟨_,rfl,?_⟩
  refine gE a1 fun g2 b1 s2=>?_
  have rG:H s.heap.objs.size=none:=I.hok.fresh (av _)
  have I1:bb X ac σ (da H s.heap.objs.size (.tup [x,y])) { s with heap:=s.heap.push { cls:=.type "tuple",data:=.seq #[u,v] },toks:=s.toks }:=I.laid (fun c o q=>ai _ q) (av _)
   ⟨by show 2<=sizeLine;decide,[u,v],.cons ru (.cons rv' .nil),⟨_,ao _ rfl,rfl,_,rfl⟩⟩
  have lt:∀{c o},s.heap.get? c=some o->c≠s.heap.objs.size:=fun e=>aT (az e)
  have nf:∀c∈[z,T,O,i,j],c≠s.heap.objs.size:=fun c hb=>by
   have q:c=z\/c=T\/c=O\/c=i\/c=j:=by simpa using hb
   rcases q with rfl|rfl|rfl|rfl|rfl
   ·exact lt h1
   ·exact lt h2
   ·exact lt h3
   ·obtain⟨_,e,_⟩:=h4;exact lt e
   ·obtain⟨_,e,_⟩:=h5;exact lt e
  have fp:∀c∈[z,T,O,i,j],nP X ac (da H s.heap.objs.size (.tup [x,y])) c:=fun c hb=>by
   obtain⟨f0,f⟩:=hf c hb
   exact⟨by rw[bF (nf c hb)];exact f0,f⟩
  have I2:bb X ac σ (da H s.heap.objs.size (.tup [x,y])) { s with heap:=g2,toks:=s.toks }:=bb.turnedL (s:={ s with heap:=s.heap.push { cls:=.type "tuple",data:=.seq #[u,v] },toks:=s.toks }) (ch:=[z,O,i,j]) (t':=s.toks) I1 (fun c o hb q=>?_) fun c hb=>fp c (by
   have q:c=z\/c=O\/c=i\/c=j:=by simpa using hb
   rcases q with rfl|rfl|rfl|rfl<;>simp)
  ·refine⟨.ref s.heap.objs.size,_,I2,rfl,⟨_,rG,rfl,fun xs' IU x' y' e1 e2 e3 e4=>?_⟩,⟨b1,s2.extBut _ _ D.TIz (kp _ _ D.TIz D.TITO D.TIi1 D.TIi2 h2),⟨_,_,s2.extBut _ _ D.TOz a2⟩,a3.extBut s2.extBut D.i1z,a4.extBut s2.extBut D.i2z⟩,fun c hb=>(fp c hb).1⟩
   have q1:=I.list_inj e1 hq
   have q2:=I.list_inj e2 hr
   subst q1 q2
   rw[hx]at e3;rw[hy]at e4;cases e3;cases e4;rfl
  ·have q':(s.heap.push { cls:=.type "tuple",data:=.seq #[u,v] }).get? c=some o:=q
   have hn:c≠z/\c≠O/\c≠i/\c≠j:=by simpa using hb
   refine s2.extBut c o hn.1 ?_
   by_cases hb':c=s.heap.objs.size
   ·subst hb'
    have e1:=ao s.heap (o:={ cls:=.type "tuple",data:=.seq #[u,v] }) rfl
    rw[e1]at q';cases q'
    exact a5
   ·rw[fj _ _ _ hb']at q'
    exact kp c o hn.1 hn.2.1 hn.2.2.1 hn.2.2.2 q'
 done:=by
  intro X hP hw hK hc k ac s σ H E I hf st hg
  subst hP hw hK
  obtain⟨xs,ys,hq,hr,he⟩:=hg
  obtain⟨bd,rv,p1,_⟩:=I.list hq
  obtain⟨jts,ko,p2,_⟩:=I.list hr
  obtain⟨h1,h2,⟨c1,c2,h3⟩,h4,h5⟩:=st
  have l1:=rv.length
  have l2:=ko.length
  refine wpAny_pyNext_zip_end (I.ok.hd hc) D h1 h2 h3 h4 h5 p1.isList p2.isList (by
   rcases he with q|q
   ·exact .inl (by simp;omega)
   ·exact .inr (by simp;omega)) fun g kp=>⟨rfl,?_⟩
  exact I.turnedL (ch:=[z,O,i,j]) (t':=s.toks) (fun c o hb q=>by
   have hn:c≠z/\c≠O/\c≠i/\c≠j:=by simpa using hb
   exact kp c o hn.1 hn.2.1 hn.2.2.1 hn.2.2.2 q) fun c hb=>hf c (by
   have q:c=z\/c=O\/c=i\/c=j:=by simpa using hb
   rcases q with rfl|rfl|rfl|rfl<;>simp)
 self:=fun A k s Q E st h=>fJ st.1 h
def QN(K:Frag)(ta:TA):TI:=fun σ H R=>ta σ H fun vs H1=>∃a b,vs=[.ref a,.ref b]/\(∃xs,jr K H1 a xs)/\(∃ys,jr K H1 b ys)/\R (NL K a b) H1
theorem GD{a b:Expr}{p pos tp:Pos}{gw:List Expr}{kk:Nat}(hm:X.mg "zip"=none)(ha:QA X [a,b] ta)(hg:Gl X "zip":=by rfl)(hs:starEach [a,b] X.env=(false,eval a X.env)::starEach [b] X.env:=by rfl)
  (rJ:(backTo pos (starEach [b] X.env)).any (·.1)=false:=by rfl):QI X (.Tuple gw kk tp) (.Call (.Name "zip" p) [a,b] [] pos) (QN X.K ta):=⟨by
 intro ac s σ H R I h
 refine Call_ (jG I hg hm boot_zip (bv (fU (ha.h pos ac s σ H _ I h) fun us s1 ⟨vs,H1,I1,r1,q1⟩=>?_) hs rJ))
 obtain⟨t,t',e,⟨xs,hq⟩,⟨ys,hr⟩,q⟩:=q1
 subst e
 cases r1 with
 |cons x1 r1=>cases r1 with
  |cons x2 r1=>
   cases r1
   cases x1
   cases x2
   obtain⟨bd,rv,p1,_⟩:=I1.list hq
   obtain⟨jts,ko,p2,_⟩:=I1.list hr
   have lt1:t<s1.heap.objs.size:=by obtain⟨_,_,e,_⟩:=p1;exact az e
   have lt2:t'<s1.heap.objs.size:=by obtain⟨_,_,e,_⟩:=p2;exact az e
   refine call_zip_2 p1.isList p2.isList fun g e1 e2 e3 e4 e5 _ kp=>?_
   refine fJ e1 ?_
   refine⟨s1.heap.objs.size+4,[s1.heap.objs.size+4,s1.heap.objs.size+2,s1.heap.objs.size+3,s1.heap.objs.size,s1.heap.objs.size+1],_,_,H1,rfl,I1.kept (t':=s1.toks) kp,GC (zipApart_new lt1 lt2),⟨e1,e2,⟨_,_,e3⟩,e4,e5⟩,fun c hb=>?_,q⟩
   have hc:s1.heap.objs.size<=c:=by
    have z:c=s1.heap.objs.size+4\/c=s1.heap.objs.size+2\/c=s1.heap.objs.size+3\/c=s1.heap.objs.size\/c=s1.heap.objs.size+1:=by simpa using hb
    rcases z with rfl|rfl|rfl|rfl|rfl<;>simp
   exact I1.fpOk hc (I1.hok.fresh hc)⟩
def y6(st:List am)(l:List (Nat×List W)):Prop:=∀p∈l,lstOf st p.1=some p.2
abbrev C6:=List W×List (Nat×List W)
abbrev HQ:=cv->List am->R C6
def GE(X:Cx)(J:It)(k:C6)(μ:List Addr)(H:Hp):Prop:=
 ∀(i:Nat) μ' br H',μ <+: μ'->db X.K H H'->gB X.K X.mg μ' br H'->y6 br k.2 ->
  (∀w,k.1[i]?=some w->J.go i H'/\∀x H'',J.yld i H' x H''->db X.K H' H''/\gB X.K X.mg μ' br H''/\a8 X.K μ' H'' w x)/\(k.1.length<=i->J.stop i H')
abbrev HR(X:Cx):List Addr->Hp->C6->It->Prop:=fun μ H k J=>GE X J k μ H
structure Ry(X:Cx)(tg it:Expr)(f:HQ):Prop where
 h:PI X tg it (fun σ H R=>tG X (HR X) f σ H R)
open Classical in
def lG(f:FG)(t:FT)(el:FE)(ck:List (Nat×List W))(ρ0:cv):List W->List W->List am->R (List W)
 |[],gD,st=>if y6 st ck then .ok gD st else .bad
 |w::ws,gD,st=>if y6 st ck then(match f w ρ0 with
  |none=>.bad
  |some ρ'=>(match t ρ' st with
   |.ok true st1=>(match el ρ' st1 with
    |.ok y dq=>lG f t el ck ρ0 ws (gD++[y]) dq
    |_=>.bad)
   |.ok false st1=>lG f t el ck ρ0 ws gD st1
   |_=>.bad))else .bad
def pT(cap:List (Option Nat))(fi:HQ)(f:FG)(t:FT)(el:FE):FE:=fun ρ st=>(fi ρ st).bind fun k st=>if k.1.length<=kI then(lG f t el k.2 (kC cap ρ) k.1 [] st).bind fun ys st=>jp ys st else .bad
theorem GF{fi:HQ}{f:FG}{t:FT}{el:FE}{Q:VK}(h:tE X (pT cap fi f t el) σ H Q) :
  qc cap (fun σ H R=>tG X (HR X) fi σ H R) (ND X f) (Mm X Gf t) (Mm X (nU X) el) σ H Q:=by
 obtain⟨μ,ρ,st,l,h⟩:=h
 refine⟨μ,ρ,st,l,RK.bind h l fun μ1 st1 k J H1 p1 x1 l1 wk h1=>?_⟩
 by_cases hz:k.1.length<=kI
 ·rw[aw hz]at h1
  refine⟨fun i m ys H'=>i<=k.1.length/\m=k.1.length-i/\ys.length<=i/\∃μ' gD br,μ1 <+: μ'/\db X.K H1 H'/\Rl X μ' ρ br σ H'/\RelWs X.K μ' H' gD ys/\RK X (nU X) μ' σ H' Q ((lG f t el k.2 (kC cap ρ) (k.1.drop i) gD br).bind fun ys st=>jp ys st),
   ⟨_,cG _,rfl,av _,μ1,[],st1,ae _,db.refl,l1,.nilI,h1⟩,?_⟩
  rintro i m ys H' ⟨hi,rfl,hy,μ',gD,br,pm,xm,lm,ra,hm⟩
  by_cases hlt:i<k.1.length
  ·rw[bJ hlt]at hm
   unfold lG at hm
   by_cases ck:y6 br k.2
   ·rw[aw ck]at hm
    obtain⟨go,yld⟩:=(wk i μ' br H' pm xm lm.sto ck).1 _ (ag hlt)
    refine .inr ⟨go,fun x H2 hy2=>?_⟩
    obtain⟨y1,y2,y3⟩:=yld x H2 hy2
    cases hf:f k.1[i] (kC cap ρ)with
    |none=>rw[hf]at hm;exact hm.elim
    |some ρ2=>
     rw[hf]at hm
     simp only at hm
     have lb:Rl X μ' (kC cap ρ) br (mP cap σ) H2:=⟨Kd (lm.to (ae _) y1 y2).env cap,y2⟩
     refine⟨μ',kC cap ρ,br,k.1[i],ρ2,lb,y3,hf,fun σ2 l2=>?_⟩
     cases ht:t ρ2 br with
     |bad=>rw[ht]at hm;exact hm.elim
     |ex c s=>rw[ht]at hm;exact hm.elim
     |ok kk dq=>
      rw[ht]at hm
      refine⟨μ',ρ2,br,kk,dq,l2,ht,fun μ3 b3 H3 p3 x3 S3 q3=>?_⟩
      cases q3
      cases kk with
      |false=>
       exact⟨_,by omega,hlt,rfl,by omega,μ3,gD,dq,pm.trans p3,xm.trans (y1.trans x3),lm.to p3 (y1.trans x3) S3,ra.mono p3 (y1.trans x3),RK.mono hm p3 (y1.trans x3)⟩
      |true=>
       rw[aw rfl]
       simp only at hm
       cases he:el ρ2 dq with
       |bad=>rw[he]at hm;exact hm.elim
       |ex c s=>rw[he]at hm;exact hm.elim
       |ok w mn=>
        rw[he]at hm
        refine⟨μ3,ρ2,dq,w,mn,l2.to p3 x3 S3,he,fun μ4 b4 H4 p4 x4 S4 q4=>?_⟩
        have pp:=p3.trans p4
        have xx:=y1.trans (x3.trans x4)
        exact⟨fQ hy (aI hlt (ly hz)),_,by omega,hlt,rfl,by simp;omega,μ4,gD++[w],mn,pm.trans pp,xm.trans xx,lm.to pp xx S4,(ra.mono pp xx).app (.consI q4 .nilI),RK.mono hm pp xx⟩
   ·rw[ay ck]at hm;exact hm.elim
  ·have hi':i=k.1.length:=by omega
   subst hi'
   rw[dP (av _)]at hm
   unfold lG at hm
   by_cases ck:y6 br k.2
   ·rw[aw ck]at hm
    obtain⟨z1,z2⟩:=mR lm.sto ra hm
    exact .inl ⟨(wk _ μ' br H' pm xm lm.sto ck).2 (av _),z1,fun p hp=>z2 p _ hp rfl⟩
   ·rw[ay ck]at hm;exact hm.elim
 ·rw[ay hz]at h1;exact h1.elim
section
variable{fi:HQ}{f:FG}{t:FT}{el:FE}
theorem GG(hB:yO X.env.scope.names scope.names nm cap X.N=true)(lT:X.env.cells=cellsFrom m X.env.scope.names [])(hi:Ry X tg cx fi)(hg:∀cl C s0 H0 fp,SG (cw X nm scope cl C s0 H0 fp) tg f)(ht:∀cl C s0 H0 fp,Mn (cw X nm scope cl C s0 H0 fp) kq t)
  (he:∀cl C s0 H0 fp,SE (cw X nm scope cl C s0 H0 fp) m7 el) (ig:X.calm=true:=by rfl) (ii:scope.kind=.function:=by rfl) (hs:∀x,foldedSetIterable cx X.env x=pure x:=by intro _;rfl) :
  SE X (.ListComp m7 [⟨tg,cx,kq,0⟩] scope pos) (pT cap fi f t el):=
 ⟨(Cv ig lT ii hB ⟨hi.h⟩ (fun cl C s0 H0 fp=>QJ (X:=X) rfl rfl (hg cl C s0 H0 fp)) (fun cl C s0 H0 fp=>QH (X:=X) rfl rfl (ht cl C s0 H0 fp)) (fun cl C s0 H0 fp=>QF (X:=X) rfl rfl (he cl C s0 H0 fp)) hs).h.imp fun _ _ _ h=>GF h⟩
end
section
variable{a b:Expr}{fs:FA}
def sj(fs:FA):HQ:=fun ρ st=>(fs ρ st).bind fun ws st=>match ws with
 |[.loc n,.loc m]=>(match lstOf st n,lstOf st m with
  |some xs,some ys=>.ok (iM xs ys,[(n,xs),(m,ys)]) st
  |_,_=>.bad)
 |_=>.bad
theorem GH{gw:List Expr}{kk:Nat}{tp:Pos}(hm:X.mg "zip"=none)(ha:SA X [a,b] fs)(hg:Gl X "zip":=by rfl)(hs:starEach [a,b] X.env=(false,eval a X.env)::starEach [b] X.env:=by rfl)(qy:(backTo pos (starEach [b] X.env)).any (·.1)=false:=by rfl) :
  Ry X (.Tuple gw kk tp) (.Call (.Name "zip" p) [a,b] [] pos) (sj fs):=⟨(GD hm ⟨ha.h⟩ hg hs qy).h.imp fun σ H R h=>by
 obtain⟨μ,ρ,st,l,h⟩:=h
 refine⟨μ,ρ,st,l,RK.bind h l fun μ1 st1 x v H1 p1 x1 l1 q1 h1=>?_⟩
 split at h1
 ·rename_i n m
  split at h1
  ·rename_i zs ws e1 e2
   obtain⟨y,ys,rfl,ry,r1⟩:=q1.consE
   obtain⟨w,rfl,ko⟩:=r1.one
   obtain⟨t,vs,g,hS,r⟩:=l1.sto.lstOf e1
   obtain⟨t',wn,g',hS',r'⟩:=l1.sto.lstOf e2
   obtain⟨b1,f1,rfl⟩:=ry.locE
   rw[g]at f1;cases f1
   obtain⟨b2,f2,rfl⟩:=ko.locE
   rw[g']at f2;cases f2
   refine⟨t,t',rfl,⟨vs,hS⟩,⟨wn,hS'⟩,h1 μ1 _ H1 (ae _) db.refl l1.sto fun i μ' br H' pp xx S ck=>?_⟩
   obtain⟨a1,us,k1,hS1,m1⟩:=S.lstOf (ck (n,zs) (by simp))
   obtain⟨a2,us',k2,hS2,m2⟩:=S.lstOf (ck (m,ws) (by simp))
   have ea1:a1=t:=by obtain⟨tt,rfl⟩:=pp;rw[aF (ah.mp g).1,g]at k1;exact(aL k1).symm
   have ea2:a2=t':=by obtain⟨tt,rfl⟩:=pp;rw[aF (ah.mp g').1,g']at k2;exact(aL k2).symm
   subst ea1 ea2
   refine⟨fun w hw=>?_,fun hl=>⟨us,us',hS1,hS2,by rw[gQ]at hl;rw[<- m1.len,<- m2.len];show zs.length<=i\/ws.length<=i;omega⟩⟩
   obtain⟨x,y,hx,hy,rfl⟩:=iu hw
   obtain⟨v1,g1,g2⟩:=m1.get hx
   obtain⟨v2,g3,g4⟩:=m2.get hy
   refine⟨⟨us,us',v1,v2,hS1,hS2,g1,g3⟩,fun z H'' hz=>?_⟩
   obtain⟨q,hq,rfl,hH⟩:=hz
   have e:=hH us us' v1 v2 hS1 hS2 g1 g3
   subst e
   have ex:=dW.same (K:=X.K) (bP hq (.tup [v1,v2]))
   exact⟨ex,S.same (bP hq _),.tupI dW.new (.consI (g2.mono (ae _) ex) (.consI (g4.mono (ae _) ex) .nilI))⟩
  ·exact h1.elim
 ·exact h1.elim⟩
end
section
end
theorem qh.held{c:Str}{e:Value}{Q:Unit->Shared->Prop}{E:Value->Shared->Prop}{M:Model}{LX:Env}{L:Addr}(f:qh X ac σ c H e s)
  (mO:X.stack=LX::outer) (PP:LX.frame=some L) (RZ:X.env.frame=some L) (hA:X.A.frames=some X.stack)
  (h:∀x C t B h',e=.ref x->X.mg c=some C->H x=none->Heap.HeldW B X.stack x C (.ref t) L h'->s.heap.UpToSlots h' ->
   (∀b o,s.heap.get? b=some o->(H b≠none\/((∃o0,X.s₀.heap.get? b=some o0)/\b∉X.fs/\b∉X.ex)\/((∃y,X.env.cells.lookup y=some b)/\b∉qA X.stack)\/∃p∈X.pn++ac,p.1=b)->B.get? b=some o)->Q () { s with heap:=h' }) :
  wpAny M X.A (noteFrame e LX) Q E s:=by
 obtain⟨x,C,t,B,rfl,hC,hx,st,nx,ff,tr,cov⟩:=f.ex
 rw[mO]at ff hA
 rcases tr with tr|⟨oe,vs,he,rfl,_,hd,h1,h0⟩|⟨L',hL,tr⟩
 ·exact wpAny_looks_onW hA PP ⟨st,nx,ff,tr⟩ fun h1 hh u1=>h x C t B h1 rfl hC hx (by rw[mO];exact hh) u1 cov
 ·unfold noteFrame
  simp only[PP]
  refine aa (aY he hd h1 ?_)
  rw[ay (by decide)]
  refine wpAny_entryW hA ff PP he st nx hd (jS.mp h1).1 h0 fun h' hN=>?_
  obtain⟨k1,k2,k3,k4⟩:=hN
  exact h x _ t B h' rfl hC hx ⟨k1,nx,by rw[mO];exact k2,k3⟩ k4 cov
 ·rw[RZ]at hL
  cases hL
  exact l7 PP tr (h x C t B s.heap rfl hC hx ⟨st,nx,by rw[mO];exact ff,tr⟩ (Heap.UpToSlots.refl _) cov)
section
variable{wi:TI}{g:TG}{te:Cx->TE}
end
section
variable{fi:FI}{f:FG}{el:FE}
end
theorem DK.key_inj{a b:DK}:a.key=b.key↔a=b:=by
 cases a<;>cases b<;>simp[DK.key,Cn]
def DK.w:DK->W
 |.i z=>.int z
 |.s l=>.str l
def mV:W->Option DK
 |.int z=>some (.i z)
 |.str l=>some (.s l)
 |_=>none
theorem vA{w:W}{k:DK}(h:mV w=some k)(r:a8 K μ H w v):v=kV k.key:=by
 cases w with
 |int z=>cases h;exact r.intE
 |str l=>cases h;exact r.strE
 |_=>cases h
theorem DK.w_rel(k:DK):a8 K μ H k.w (kV k.key):=by
 cases k with
 |i z=>exact .int
 |s l=>exact .str
def qI(kvs:List (DK×W))(k:DK):Option W:=(kvs.find? fun p=>decide (p.1=k)).map fun p=>p.2
def vB(kvs:List (DK×W))(k:DK)(v:W):List (DK×W):=if (kvs.any fun p=>decide (p.1=k))=true then kvs.map fun p=>if p.1=k then(p.1,v)else p else kvs++[(k,v)]
abbrev dV(kvs:List (DK×W))(vs:List V):List (gF×V):=(kvs.map fun p=>p.1.key).zip vs
section
theorem C7:∀{kvs:List (DK×W)} {vs:List V} (k:DK),RelWs K μ H (kvs.map fun p=>p.2) vs->(∃w v,qI kvs k=some w/\mC (dV kvs vs) k.key=some v/\a8 K μ H w v)\/(qI kvs k=none/\mC (dV kvs vs) k.key=none)
 |[],vs,k,r=>.inr ⟨rfl,rfl⟩
 |p::kvs,vs,k,r=>by
  obtain⟨x,xs,rfl,a,b⟩:=RelWs.consE r
  have ih:=C7 (kvs:=kvs) k b
  by_cases h:p.1=k
  ·refine .inl ⟨p.2,x,?_,?_,a⟩
   ·unfold qI;rw[bR];simp[h]
   ·show mC ((p.1.key,x)::dV kvs xs) k.key=some x
    exact oy (by rw[h])
  ·have e1:qI (p::kvs) k=qI kvs k:=by unfold qI;rw[bR];simp[h]
   have e2:mC (dV (p::kvs) (x::xs)) k.key=mC (dV kvs xs) k.key:=oz (p:=(p.1.key,x)) fun z=>h (DK.key_inj.mp z)
   rw[e1,e2];exact ih
theorem C8:∀{kvs:List (DK×W)} {vs:List V} (k:DK),RelWs K μ H (kvs.map fun p=>p.2) vs->((dV kvs vs).any fun kv=>decide (kv.1=k.key))=(kvs.any fun p=>decide (p.1=k))
 |[],vs,k,r=>rfl
 |p::kvs,vs,k,r=>by
  obtain⟨x,xs,rfl,a,b⟩:=RelWs.consE r
  show(decide (p.1.key=k.key)||(dV kvs xs).any _)=(decide (p.1=k)||kvs.any _)
  rw[C8 k b]
  congr 1
  rw[decide_eq_decide];exact DK.key_inj
theorem C9{k:DK}{w:W}:∀{kvs:List (DK×W)} {vs:List V},RelWs K μ H (kvs.map fun p=>p.2) vs->a8 K μ H w v->∃us,(dV kvs vs).map (fun kv=>if kv.1=k.key then(kv.1,v)else kv)=dV (kvs.map fun p=>if p.1=k then(p.1,w)else p) us/\RelWs K μ H ((kvs.map fun p=>if p.1=k then(p.1,w)else p).map fun p=>p.2) us
 |[],vs,r,ko=>⟨[],rfl,.nilI⟩
 |p::kvs,vs,r,ko=>by
  obtain⟨x,xs,rfl,a,b⟩:=RelWs.consE r
  obtain⟨us,e,q⟩:=C9 (k:=k) b ko
  by_cases h:p.1=k
  ·refine⟨v::us,?_,?_⟩
   ·show(if p.1.key=k.key then(p.1.key,v)else(p.1.key,x))::(dV kvs xs).map _=_
    rw[aw (by rw[h]),e,aN,aw h];rfl
   ·rw[aN,aw h];exact .consI ko q
  ·refine⟨x::us,?_,?_⟩
   ·show(if p.1.key=k.key then(p.1.key,v)else(p.1.key,x))::(dV kvs xs).map _=_
    rw[ay (fun z=>h (DK.key_inj.mp z)),e,aN,ay h];rfl
   ·rw[aN,ay h];exact .consI a q
theorem Kl{kvs:List (DK×W)}{k:DK}{w:W}(r:RelWs K μ H (kvs.map fun p=>p.2) vs)(ko:a8 K μ H w v):∃us,ox (dV kvs vs) k.key v=dV (vB kvs k w) us/\RelWs K μ H ((vB kvs k w).map fun p=>p.2) us:=by
 unfold ox vB
 rw[C8 k r]
 by_cases h:(kvs.any fun p=>decide (p.1=k))=true
 ·rw[aw h,aw h]
  exact C9 r ko
 ·rw[ay h,ay h]
  refine⟨vs++[v],?_,?_⟩
  ·unfold dV
   rw[cn,List.zip_append (by rw[aq,<- r.len,aq])];rfl
  ·rw[cn];exact r.app (.consI ko .nilI)
theorem C_{kvs:List (DK×W)}(r:RelWs K μ H (kvs.map fun p=>p.2) vs):(dV kvs vs).length=kvs.length:=by
 unfold dV;rw[List.length_zip,aq,<- r.len,aq,Nat.min_self]
theorem dW.butD{l:Addr}{xs:List (gF×V)}(e:BS l H H')(hl:H l=some (.dK xs)):db K H H':=by
 have uZ:∀{p:Addr} {o:HO},H p=some o->(∀zs,o≠.dK zs)->p≠l:=fun{p o} q hn z=>by subst z;rw[hl]at q;cases q;exact hn _ rfl
 refine⟨fun p ys h=>?_,fun b o u h=>e _ _ (uZ h (fun _ z=>by cases z)) h⟩
 rcases h with(h|⟨o,h⟩)|h
 ·exact .inl (.inl (e _ _ (uZ h (fun _ z=>by cases z)) h))
 ·exact .inl (.inr ⟨o,e _ _ (uZ h (fun _ z=>by cases z)) h⟩)
 ·exact .inr h
end
theorem gB.setD(S:gB K mg μ st H){kvs Mb:List (DK×W)}{xs:List (gF×V)}{us:List V}(hn:st[n]?=some (.dct kvs))(hm:μ[n]?=some a)(ha:H a=some (.dK xs))(hr:RelWs K μ H (Mb.map fun p=>p.2) us) :
  gB K mg μ (st.set n (.dct Mb)) (da H a (.dK (dV Mb us))):=
 S.setG hn rfl hm ha (fun _ _ z=>by cases z) (fun _ z=>by cases z) (dW.butD gU ha) rfl ⟨us,c5,hr.mono (ae _) (dW.butD gU ha)⟩
def iw(st:List am):W->Option (Nat×List (DK×W))
 |.loc n=>(match st[n]? with
  |some (.dct kvs)=>some (n,kvs)
  |some (.rod kvs)=>some (n,kvs)
  |_=>none)
 |_=>none
def Bq(st:List am):W->Option (Nat×List (DK×W))
 |.loc n=>(match st[n]? with
  |some (.dct kvs)=>some (n,kvs)
  |_=>none)
 |_=>none
theorem sk(S:gB K mg μ st H){x:W}{kvs:List (DK×W)}(h:iw st x=some (n,kvs))(r:a8 K μ H x v) :
  ∃a vs,(st[n]?=some (.dct kvs)\/st[n]?=some (.rod kvs))/\μ[n]?=some a/\v=.ref a/\Rd H a (.dK (dV kvs vs))/\RelWs K μ H (kvs.map fun p=>p.2) vs:=by
 cases x with
 |loc m=>
  simp only[iw]at h
  cases e:st[m]? with
  |none=>rw[e]at h;cases h
  |some c=>
   rw[e]at h
   cases c with
   |dct z=>
    cases h
    obtain⟨a,g,vs,k,rr⟩:=S.get e
    obtain⟨b,f,rfl⟩:=r.locE
    rw[g]at f;cases f
    exact⟨a,vs,.inl e,g,rfl,.inl k,rr⟩
   |rod z=>
    cases h
    obtain⟨a,g,vs,o,k,rr⟩:=S.get e
    obtain⟨b,f,rfl⟩:=r.locE
    rw[g]at f;cases f
    exact⟨a,vs,.inr e,g,rfl,.inr ⟨o,k⟩,rr⟩
   |_=>cases h
 |_=>cases h
theorem GI(S:gB K mg μ st H){x:W}{kvs:List (DK×W)}(h:Bq st x=some (n,kvs))(r:a8 K μ H x v) :
  ∃a vs,st[n]?=some (.dct kvs)/\μ[n]?=some a/\v=.ref a/\H a=some (.dK (dV kvs vs))/\RelWs K μ H (kvs.map fun p=>p.2) vs:=by
 cases x with
 |loc m=>
  simp only[Bq]at h
  cases e:st[m]? with
  |none=>rw[e]at h;cases h
  |some c=>
   rw[e]at h
   cases c with
   |dct z=>
    cases h
    obtain⟨a,g,vs,k,rr⟩:=S.get e
    obtain⟨b,f,rfl⟩:=r.locE
    rw[g]at f;cases f
    exact⟨a,vs,e,g,rfl,k,rr⟩
   |_=>cases h
 |_=>cases h
theorem tU.r{kvs:List (gF×V)}{k:gF}(e:Rd H a (.dK kvs)):tU H a (kV k) (mC kvs k):=.inl ⟨kvs,k,e,rfl,rfl⟩
section
variable{a b d i:Expr}{fa fb fc fe fo fi:FE}{fs:FA}
def xq(x i v:W)(st:List am):Option (List am):=match Bq st x,mV i with
 |some (n,kvs),some k=>if kvs.length<kI then some (st.set n (.dct (vB kvs k v)))else none
 |_,_=>none
theorem Km(hr:fL kk X.A):AW X (CU X xq):=fun ac s σ H o i v ov iv u Q I r1 r2 r3 ⟨μ,st,wo,wi,wv,br,S,ro,ri,rv,e,q⟩=>by
 unfold xq at e
 cases e1:Bq st wo with
 |none=>rw[e1]at e;cases e
 |some nk=>
  obtain⟨n,kvs⟩:=nk
  cases e2:mV wi with
  |none=>rw[e1,e2]at e;cases e
  |some k=>
   rw[e1,e2]at e
   simp only at e
   split at e
   ·rename_i hl
    cases e
    obtain⟨a,vs,hn,hm,rfl,ha,r⟩:=GI S e1 ro
    have:=vA e2 ri
    subst this
    obtain rfl:ov=Value.ref a:=r1
    obtain⟨us,g1,g2⟩:=Kl (k:=k) r rv
    refine Ba (Hr hr) I (A'.k ha (by rw[C_ r];exact aI hl (by decide))) r2 r3 fun s' I'=>⟨_,I',?_⟩
    rw[g1]
    exact q _ (dW.butD gU ha) (S.setD hn hm ha g2)
   ·cases e
def Da:FE:=fun _ st=>.ok (.loc st.length) (st++[.dct []])
theorem Db:SE X (.Dict [] [] pos) Da:=⟨Ci.imp fun σ H Q h=>by
 obtain⟨μ,ρ,st,l,h⟩:=h
 intro p hp
 have hs:j3 H (da H p (.dK [])):=bP hp _
 exact h (μ++[p]) (.ref p) _ (aW _ _) (dW.same hs) (l.sto.push (c:=.dct []) hp ⟨[],c5,.nilI⟩) (rW l.sto)⟩
def keysOf:List (W×W)->Option (List (DK×W))
 |[]=>some []
 |(k,v)::r=>match mV k,keysOf r with
  |some k,some r=>some ((k,v)::r)
  |_,_=>none
end
section
theorem GJ{w:World}{k:gF}{v:Value}(h:(cX P w).is k v=true):bK (kV k) v:=by
 rcases dQ h with⟨i,t,rfl,rfl⟩|⟨x,t,rfl,rfl⟩
 ·exact⟨t,rfl⟩
 ·exact⟨t,rfl⟩
structure Dd(X:Cx)(ac:List (Addr×Obj))(σ:St)(H:Hp)(s:Shared)(f c0 cd a it:Addr)(fo:Obj)(q:Str)(vs:List (gF×Value))(ep j:Nat):Prop where
 inv:bb X ac σ H s
 fn:s.heap.get? f=some fo
 code:s.heap.CodeRec (.ref cd) q
 cell:s.heap.IsCell c0 (some (.ref a))
 dict:s.heap.DictAt (cX X.prog X.w) a vs ep
 cx:s.heap.IsKeyIter it a j vs.length ep
theorem Dd.go{f c0 cd:Addr}{fo:Obj}{q:Str}{vs:List (gF×Value)}{ep j':Nat}{b0:Addr}(M:Dd X ac σ H s f c0 cd a it fo q vs ep j)(I:bb X ac σ H { s with heap:=h',toks:=t' })
  (k:∀b o,b≠b0->s.heap.get? b=some o->h'.get? b=some o) (n1:f≠b0) (n2:cd≠b0) (n3:c0≠b0) (n4:a≠b0) (hi:h'.IsKeyIter it a j' vs.length ep):Dd X ac σ H { s with heap:=h',toks:=t' } f c0 cd a it fo q vs ep j':=by
 obtain⟨c2,oc,ws,tt,e2,hoc,hd,hv⟩:=M.code
 cases e2
 refine⟨I,k f _ n1 M.fn,⟨_,oc,ws,tt,rfl,k _ _ n2 hoc,hd,hv⟩,?_,M.dict.at' fun o e=>k a o n4 e,hi⟩
 obtain⟨o,ho,hd⟩:=M.cell
 exact⟨o,k c0 o n3 ho,hd⟩
end
section
theorem De{l:List α}{x:α}(h:l[i]?=some x):l.set i x=l:=by
 refine bS fun j=>?_
 by_cases e:i=j
 ·subst e;rw[bz (ah.mp h).1,h]
 ·rw[bT e]
end
section
end
section
variable{en dn q:Str}{pr:Arguments}{p1 p3 p4 Rg Rk:Pos}{sc:Scope}{c P:Addr}
end
theorem bb.freeze{kvs:List (gF×V)}{o:Obj}(I:bb X ac σ H s)(ha:H a=some (.dK kvs))(ho:s.heap.get? a=some o):bb X ac σ (da H a (.frz o (.dK kvs))) s:=by
 have ne:∀b u,H b=some u->(∀z,u≠.dK z)->da H a (.frz o (.dK kvs)) b=some u:=fun b u e n=>by rw[bF (fun z=>by rw[z,ha]at e;cases e;exact n _ rfl)];exact e
 have:bb X ac σ (da H a (.frz o (.dK kvs))) { s with heap:=s.heap,toks:=s.toks }:=by
  refine I.un ⟨fun b o e n hb hx=>e,fun b o e n hb hx=>⟨o.slots,e⟩,fun b o e n hx=>?_,fun b o e hx=>⟨o,e⟩,fun b xs e=>ne b _ e fun _ z=>(by cases z),fun b o u e=>ne b _ e fun _ z=>(by cases z),fun b ps e=>⟨#[],by rw[ne b _ e fun _ z=>(by cases z)];simp⟩⟩ fun b u e=>?_
  ·rw[bF (fun z=>by rw[z,ha]at n;cases n)];exact n
  ·by_cases hb:b=a
   ·subst hb
    rw[c5]at e;cases e
    exact⟨ho,I.hok b _ ha⟩
   ·rw[bF hb]at e
    exact(I.hok b u e).stay (fun _ _ _ q=>q) (fun c q=>ne c _ q fun _ z=>(by cases z)) fun c xs q=>ne c _ q fun _ z=>(by cases z)
 exact this
def Br(o:Obj):Nat:=match o.data with
 |.dict _ ep=>ep
 |_=>0
theorem y7{kvs:List (gF×V)}{o:Obj}(I:bb X ac σ H s)(ha:H a=some (.frz o (.dK kvs))):∃vs,KV kvs vs/\(a==sysModules)=false/\s.heap.DictAt (cX X.prog X.w) a vs (Br o):=by
 obtain⟨e,_,hs,vs,m6,o',es,ep,e',r1,r2,r⟩:=I.hok a _ ha
 rw[e]at e';cases e'
 refine⟨vs,m6,hs,o,es,e,r1,?_,r⟩
 have:Br o=ep:=by unfold Br;rw[r2]
 rw[this];exact r2
section
variable{f:Expr}{fo fk fd fe:FE}
def vC(fo fk fd:FE):FE:=fun ρ st=>(fo ρ st).bind fun x st=>match iw st x with
 |some _=>(fk ρ st).bind fun y st=>(fd ρ st).bind fun z st=>(match iw st x,mV y with
  |some (_,kvs),some k=>.ok ((qI kvs k).getD z) st
  |_,_=>.bad)
 |none=>.bad
theorem GK(hr:fL kk X.A)(ho:SE X o fo)(he:SE X e fe)(hf:SE X f fd)(m:M2 X o "get" d7 e f cK:=by exact⟨by rfl,by rfl,by rfl,by rfl⟩):SE X (.Call (.Attribute o "get" d7) [e,f] [] cK) (vC fo fe fd):=⟨(Cj (Hr hr) ho.h he.h hf.h m).imp fun σ H Q h=>by
 obtain⟨μ,ρ,st,l,h⟩:=h
 refine⟨μ,ρ,st,l,RK.bind h l fun μ1 st1 x v H1 p1 x1 l1 q1 h1=>?_⟩
 cases e0:iw st1 x with
 |none=>rw[e0]at h1;exact h1.elim
 |some nk0=>
  obtain⟨n0,kvs0⟩:=nk0
  rw[e0]at h1
  simp only at h1
  obtain⟨a0,vs0,_,hm0,rfl,ha0,_⟩:=sk l1.sto e0 q1
  refine⟨a0,rfl,.inl ⟨_,ha0⟩,μ1,ρ,st1,l1,RK.bind h1 l1 fun μ2 dq y u H2 p2 x2 l2 q2 h2=>⟨μ2,ρ,dq,l2,RK.bind h2 l2 fun μ3 mn d t H3 p3 x3 l3 q3 h3=>?_⟩⟩
  cases e1:iw mn x with
  |none=>rw[e1]at h3;exact h3.elim
  |some nk=>
   obtain⟨n,kvs⟩:=nk
   cases e2:mV y with
   |none=>rw[e1,e2]at h3;exact h3.elim
   |some k=>
    rw[e1,e2]at h3
    simp only at h3
    obtain⟨a,vs,_,hm,ea,ha,r⟩:=sk l3.sto e1 ((q1.mono p2 x2).mono p3 x3)
    cases ea
    have:=vA e2 q2
    subst this
    rcases C7 k r with⟨w,z,g1,g2,g3⟩|⟨g1,g2⟩
    ·rw[g1]at h3
     exact⟨some z,by rw[<- g2];exact tU.r ha,h3 μ3 z H3 (ae _) db.refl l3.sto g3⟩
    ·rw[g1]at h3
     exact⟨none,by rw[<- g2];exact tU.r ha,h3 μ3 t H3 (ae _) db.refl l3.sto q3⟩⟩
end
section
variable{y:Str}{a b:Expr}{fs:FA}
end
inductive DefIn(K:Frag)(x:Str)(st:Stmt):Prop
 |mk {ad:Addr} {od an:Option Addr} {sl:Array (Option Value)} {oc kV dc pm cd ct:Value} (a:nsIn K mainGlobals x=some (some (.ref ad)))
   (l:K.lookup ad=some ⟨oc,od,.func (fnOf x x (gs st) (fE st) (aM st) .none kV dc pm an cd ct),sl⟩) (c:codeIn K cd x=true) (k:keepIn K (.ref ad)=true):DefIn K x st
theorem DefIn.fn{st:Stmt}{h:Heap}(d:DefIn K x st)(X:K.In h)(G:h.Ns mainGlobals mg):∃f fd,js K x x st f fd/\mg x=some (.ref f):=by
 obtain⟨a,l,c,k⟩:=d
 exact⟨_,_,ve (st:=st) l c k,mg_of X G a⟩
theorem QO:∀{l:List Value},l.length=1->∃a,l=[a]
 |[a],_=>⟨a,rfl⟩
theorem QP:∀{l:List Value},l.length=2->∃a b,l=[a,b]
 |[a,b],_=>⟨a,b,rfl⟩
theorem QQ:∀{l:List Value},l.length=3->∃a b c,l=[a,b,c]
 |[a,b,c],_=>⟨a,b,c,rfl⟩
theorem QR:∀{l:List Value},l.length=4->∃a b c d,l=[a,b,c,d]
 |[a,b,c,d],_=>⟨a,b,c,d,rfl⟩
theorem QT:∀{l:List Value},l.length=5->∃a b c d e,l=[a,b,c,d,e]
 |[a,b,c,d,e],_=>⟨a,b,c,d,e,rfl⟩
theorem QU:∀{l:List Value},l.length=6->∃a b c d e f,l=[a,b,c,d,e,f]
 |[a,b,c,d,e,f],_=>⟨a,b,c,d,e,f,rfl⟩
section
variable{w:World}{k:Nat}{st:Stmt}{f:Addr}
theorem cD(F:js K x x st f fd)(hm:mg x=some (.ref f))(ok:cN P w K mg base (i_ P w) k f fd ps (jw K mg n G))(hn:ps.length=n:=by rfl)
  (hb:∀(kV pj pm:Value) (an:Option Addr) (fM ct:Value) (us:List Value),us.length=ps.length->bindArgs (fnOf x x (gs st) (fE st) (aM st) .none kV pj pm an fM ct) ⟨us,[]⟩=pure (ps.zip us):=by(intro _ _ _ _ _ _ _ q;first|(obtain⟨_,rfl⟩:=QO q;rfl)|(obtain⟨_,_,rfl⟩:=QP q;rfl)|(obtain⟨_,_,_,rfl⟩:=QQ q;rfl)|(obtain⟨_,_,_,_,rfl⟩:=QR q;rfl)|(obtain⟨_,_,_,_,_,rfl⟩:=QT q;rfl)|(obtain⟨_,_,_,_,_,_,rfl⟩:=QU q;rfl))):bY P w K mg base k x n G:=vt F hm hn hb ok
end
section
variable{fe:FE}{sp:Scope}
theorem mM{N:List Str}(a:sp.kind=.function:=by rfl)(b:sp.isCoroutine=false:=by rfl)(c:sp.isGenerator=false:=by rfl)(d:N.Nodup:=by decide +kernel)(f:N.take ps.length=ps:=by rfl)(g:∀x∈ps,sp.names.lookup x=some .local\/sp.names.lookup x=some .cell:=by decide +kernel)(h:∀y∈sp.names,y.2≠.free:=by decide +kernel):bu N ps sp:=⟨a,b,c,d,f,g,h⟩
theorem sS(i:Nat){gy:Pos}(sc:bu X.N ps sp)(he:SE X e fe)(hi:X.N[i]?=some x:=by rfl)(hx:Ft X.env.scope x:=by first|exact .inl rfl|exact .inr rfl)(hs:swapsWith e (some (.Name x gy)) pos.line X.env=pure false:=by rfl)(hf:X.fn x=true\/X.env.scope.names.lookup x=some .local:=by first|exact .inl rfl|exact .inr rfl|assumption) :
  SS X (.Assign [.Name x gy] e pos) (cE i fe):=Kb sc.nd hi hx he hs hf
theorem sG(i:Nat)(sc:bu X.N ps sp)(hi:X.N[i]?=some x:=by rfl)(hx:Ft X.env.scope x:=by first|exact .inl rfl|exact .inr rfl)(hf:X.fn x=true\/X.env.scope.names.lookup x=some .local:=by first|exact .inl rfl|exact .inr rfl|assumption):SG X (.Name x pos) (fz i):=Ai sc.nd hi hx hf
theorem sC{cl:List (Str×Addr)}{C s0 H0 fp}(i:Nat)(hN:nm.Nodup:=by decide +kernel)(hi:nm[i]?=some x:=by rfl)(hx:Ft (cw X nm scope cl C s0 H0 fp).env.scope x:=by first|exact .inl rfl|exact .inr rfl)(hf:(cw X nm scope cl C s0 H0 fp).fn x=true\/(cw X nm scope cl C s0 H0 fp).env.scope.names.lookup x=some .local:=by first|exact .inl rfl|exact .inr rfl|assumption) :
  SG (cw X nm scope cl C s0 H0 fp) (.Name x pos) (fz i):=Ai (X:=cw X nm scope cl C s0 H0 fp) hN hi hx hf
end
section
variable{fi:FI}{f:FG}{t:FT}{el:FE}
end
end L2
variable{ρ:L2.cv}{fa fb fe el:L2.FE}{fi:L2.FI}
namespace HT
open PySem PyProof.Rows
section
open PySem.SeqAt
open PySem.AutoSeq1 (wpAny_loadPart')
open PySem.MeetsSeq PySem.MeetsSeq2 PySem.MeetsSeq3
end
end HT
namespace L2
open PySem PySem.Spec PyProof.Rows
section
end
end L2
namespace PK
open PySem
section
variable{w:World}{K1 K2:Type}[DecidableEq K1][DecidableEq K2](knd:KeyKind prog w K1)(hk:HeapKind prog w K2)
def Is(h:Heap)(k:K1×K2)(a:Addr):Prop:=∃o v b n,h.get? a=some o/\o.cls=.type "tuple"/\o.data=.seq #[v,.ref b] n/\knd.is k.1 v=true/\hk.is h k.2 b
def hash(k:K1×K2):Int:=reduceHash (Builtin.Tuple.tupleHashOf [knd.hash k.1,hk.hash k.2])
variable{knd hk}
theorem Is.typeIs{k:K1×K2}(x:Is knd hk s.heap k a):s.TypeIs (.ref a) "tuple":=let ⟨o,_,_,_,ho,hc,_⟩:=x;⟨o,ho,hc⟩
theorem Is.inj{h:Heap}{x y:K1×K2}(hx:Is knd hk h x a)(hy:Is knd hk h y a):x=y:=by
 obtain⟨o,v,b,n,ho,_,hd,h1,h2⟩:=hx
 obtain⟨o',v',b',n',ho',_,hd',h1',h2'⟩:=hy
 obtain rfl:o=o':=aL (ho.symm.trans ho')
 rw[hd]at hd'
 injection hd' with e _
 have e:=kZ Array.toList e
 simp only[List.cons.injEq,Value.ref.injEq,and_true]at e
 obtain⟨rfl,rfl⟩:=e
 exact Prod.ext (knd.inj _ _ _ h1 h1') (hk.inj h2 h2')
theorem Is.keeps{h:Heap}{k:K1×K2}{d:Addr}{o:Obj}{es ep}(x:Is knd hk h k a)(ho:h.get? d=some o)(hd:o.data=.dict es ep)(hs:Heap.SameBut d h h'):Is knd hk h' k a:=by
 obtain⟨o',v,b,n,ho',hc,hd',h1,h2⟩:=x
 have uZ:a≠d:=by
  rintro rfl
  obtain rfl:o'=o:=aL (ho'.symm.trans ho)
  rw[hd]at hd';exact nomatch hd'
 exact⟨o',v,b,n,(hs.2 a uZ).trans ho',hc,hd',h1,hk.keeps h2 ho hd hs⟩
theorem pyHash{k:K1×K2}{Q:Int->Shared->Prop}(hu:A.units<cLine)(hr:hk.room A.in1)(hx:Is knd hk s.heap k a)(h:Q (hash knd hk k) { s with toks:=s.toks+(1+hk.draws k.2+1) }) :
  wpAny (model prog w) A (PySem.pyHash (.ref a)) Q E s:=by
 have hT:=hx.typeIs
 obtain⟨o,v,b,n,ho,_,hd,h1,h2⟩:=hx
 unfold PySem.pyHash
 first|unfold pyHashByItsType|skip
 first|refine aa (wpAny_cRoomFor_or (.inr hu) ?_)|skip
 refine aa (eQ hT F.slot_tuple_hash.lookup ?_)
 show wpAny _ _ (if (some (Value.builtin "tuple.__hash__")==some Value.none)=true then _ else _) Q E s
 rw[ay (by rw[beq_builtin_none];exact d9)]
 refine aa (eQ hT F.slot_tuple_hash.lookup ?_)
 show wpAny _ _ (callSpecialIfBoundUnlessNone? (.ref a) "__hash__" _ >>= _) Q E s
 refine aa (wpAny_callSpecialIfBoundUnlessNone?_slot hT F.slot_tuple_hash (bp F.slot_tuple_hash hT F.entry_tuple_hash ?_ (F.args_tuple_hash_1 _)))
 show wpAny _ _ (Builtin.Tuple.tupleItemsOf (.ref a) >>= _) _ _ s
 refine aa (jX ho hd ?_)
 refine aa ?_
 rw[<- jY]
 refine i8 _
  (fun dw (c:Array Int) s'=>(dw=[v,.ref b]/\c.toList=[]/\s'=s)\/(dw=[.ref b]/\c.toList=[knd.hash k.1]/\s'={ s with toks:=s.toks+1 })\/(dw=[]/\c.toList=[knd.hash k.1,hk.hash k.2]/\s'={ s with toks:=s.toks+1+hk.draws k.2 }))
  _ ?_ ?_ _ _ (.inl ⟨rfl,rfl,rfl⟩)
 ·rintro x dw c s' (⟨e,hc,rfl⟩|⟨e,hc,rfl⟩|⟨e,_⟩)
  ·injection e with e1 e2
   subst e1;subst e2
   refine aa (knd.pyHash h1 ?_)
   first
    |exact ar (.inr (.inl ⟨rfl,by simp[hc],rfl⟩))
    |exact aa (ar (ar (.inr (.inl ⟨rfl,by simp[hc],rfl⟩))))
  ·injection e with e1 e2
   subst e1;subst e2
   refine aa (hk.pyHash (k:=k.2) hr h2 ?_)
   first
    |exact ar (.inr (.inr ⟨rfl,by simp[hc],rfl⟩))
    |exact aa (ar (ar (.inr (.inr ⟨rfl,by simp[hc],rfl⟩))))
  ·cases e
 ·rintro c s' (⟨e,_⟩|⟨e,_⟩|⟨_,hc,rfl⟩)
  ·cases e
  ·cases e
  show wpAny _ _ (retInt (Builtin.Tuple.tupleHashOf c.toList)) _ _ _
  rw[hc]
  refine wpAny_ret_mkInt ?_
  show wpAny _ _ (if (decide (-(2:Int)^63<=Builtin.Tuple.tupleHashOf [knd.hash k.1,hk.hash k.2])&&decide (Builtin.Tuple.tupleHashOf [knd.hash k.1,hk.hash k.2]<2^63))=true then _ else _) Q E _
  unfold hash reduceHash at h
  by_cases hr:(decide (-(2:Int)^63<=Builtin.Tuple.tupleHashOf [knd.hash k.1,hk.hash k.2])&&decide (Builtin.Tuple.tupleHashOf [knd.hash k.1,hk.hash k.2]<2^63))=true
  ·rw[aw hr]
   rw[aw hr]at h
   exact ar (by simpa[jb]using h)
  ·rw[ay hr]
   rw[ay hr]at h
   exact aa (gp (ar (by simpa[jb]using h)))
theorem GL{x y:K1×K2}{P:Fin->Shared->Prop}(hr:hk.room A)(hx:Is knd hk s.heap x a)(hy:Is knd hk s.heap y b)(h:P (.done (.ret (.bool (decide (x=y))))) s) :
  wpAny (model prog w) A (Builtin.«tuple.__eq__» ⟨[.ref a,.ref b],[]⟩) P E s:=by
 have hTb:=hy.typeIs
 obtain⟨oa,v,c,na,hoa,_,hda,h1,h2⟩:=hx
 obtain⟨ob,u,d,nb,BP,_,BM,g1,g2⟩:=hy
 show wpAny _ _ (isInstance (.ref b) (.type "tuple") >>= _) _ _ s
 refine aa (cI hTb iT ?_)
 simp only[du,bX,fI]
 refine aa (jX hoa hda ?_)
 refine aa (jX BP BM ?_)
 refine aa ?_
 refine i8 _
  (fun dw r s'=>r.1=none/\s'=s/\((dw=[(v,u),(.ref c,.ref d)])\/(dw=[(.ref c,.ref d)]/\x.1=y.1)\/(dw=[]/\x=y)))
  _ ?_ ?_ _ _ ⟨rfl,rfl,.inl rfl⟩
 ·rintro⟨p,q⟩ dw r s' ⟨hr0,rfl,e|⟨e,e0⟩|⟨e,_⟩⟩
  ·injection e with e1 e2
   injection e1 with e3 e4
   subst e3;subst e4;subst e2
   refine aa (knd.eqBool (a:=x.1) (b:=y.1) h1 g1 ?_)
   by_cases z:x.1=y.1
   ·rw[ce z]
    simp only[du,bX,fI]
    exact ar ⟨rfl,rfl,.inr (.inl ⟨by first|rfl|trivial,z⟩)⟩
   ·rw[bq z]
    simp only[jT,gz]
    have hf:decide (x=y)=false:=bq fun e=>z (by rw[e])
    rw[hf]at h
    exact aa (ar (ar (ar h)))
  ·injection e with e1 e2
   injection e1 with e3 e4
   subst e3;subst e4;subst e2
   refine aa (hk.eqBool (x:=x.2) (y:=y.2) hr h2 g2 ?_)
   by_cases z:x.2=y.2
   ·rw[ce z]
    simp only[du,bX,fI]
    exact ar ⟨rfl,rfl,.inr (.inr ⟨by first|rfl|trivial,Prod.ext e0 z⟩)⟩
   ·rw[bq z]
    simp only[jT,gz]
    have hf:decide (x=y)=false:=bq fun e=>z (by rw[e])
    rw[hf]at h
    exact aa (ar (ar (ar h)))
  ·cases e
 ·rintro⟨r1,r2⟩ s' ⟨hr0,rfl,e|⟨e,_⟩|⟨_,e⟩⟩
  ·cases e
  ·cases e
  simp only at hr0
  subst hr0
  refine ar ?_
  rw[ce e]at h
  exact h
theorem eqBool{x y:K1×K2}{a b:Addr}{Q:Bool->Shared->Prop}(hu:A.units<cLine)(hr:hk.room A.in1)(hx:Is knd hk s.heap x a)(hy:Is knd hk s.heap y b)(h:Q (decide (x=y)) s) :
  wpAny (model prog w) A (PySem.eqBool (.ref a) (.ref b)) Q E s:=by
 unfold PySem.eqBool
 try with_reducible refine fY ?_
 show wpAny _ _ (if (Value.ref a==Value.ref b)=true then _ else _) Q E s
 by_cases hab:(Value.ref a==Value.ref b)=true
 ·rw[aw hab]
  have e:a=b:=by have:=jF hab;injection this
  subst e
  obtain rfl:=hx.inj hy
  exact aa (gp (ar (by simpa using h)))
 ·rw[ay hab]
  exact aa (wpAny_richCompare_same_room (op:=.Eq) hx.typeIs hy.typeIs F.slot_tuple_eq
   (bp F.slot_tuple_eq hx.typeIs F.entry_tuple_eq (GL hr hx hy ⟨_,rfl,(fun e=>nomatch e),eZ h⟩) (F.args_tuple_eq_2 _ _)) hu)
theorem quiet{k:K1×K2}{Q:Bool->Shared->Prop}(hq:∀{b:Addr} {Q:Bool->Shared->Prop},hk.is s.heap k.2 b->Q true s->wpAny (model prog w) A (eqIsQuiet 7 (.ref b)) Q E s)(hx:Is knd hk s.heap k a)(h:Q true s):wpAny (model prog w) A (eqIsQuiet 8 (.ref a)) Q E s:=by
 have hT:=hx.typeIs
 obtain⟨o,v,b,n,ho,_,hd,h1,h2⟩:=hx
 unfold eqIsQuiet
 refine aa (eQ hT F.slot_tuple_eq.lookup ?_)
 show wpAny _ _ (isInstance (.ref a) (.type "tuple") >>= _) _ _ s
 refine aa (cI hT iT ?_)
 simp only[du,bX,fI]
 refine aa (bG ho hd ?_)
 refine aa ?_
 show wpAny _ _ (forIn #[v,Value.ref b] _ _) _ _ s
 rw[<- jY]
 refine i8 _ (fun dw r s'=>r.1=none/\s'=s/\(dw=[v,.ref b]\/dw=[.ref b]\/dw=[])) _ ?_ ?_ _ _ ⟨rfl,rfl,.inl rfl⟩
 ·rintro x dw r s' ⟨hr,rfl,e|e|e⟩
  ·injection e with e1 e2
   subst e1;subst e2
   rw[eqIsQuiet_byValue _ (knd.byValue _ _ h1)]
   refine aa (ar ?_)
   simp only[du,bX,fI]
   exact ar ⟨rfl,rfl,.inr (.inl (by first|rfl|trivial))⟩
  ·injection e with e1 e2
   subst e1;subst e2
   refine aa (hq h2 ?_)
   simp only[du,bX,fI]
   exact ar ⟨rfl,rfl,.inr (.inr (by first|rfl|trivial))⟩
  ·cases e
 ·rintro⟨r1,r2⟩ s' ⟨hr,rfl,_⟩
  simp only at hr
  subst hr
  exact ar h
end
theorem Bs{w:World}{K:Type}[DecidableEq K]{knd:KeyKind prog w K}(f:Nat){ks:List K}{Q:Bool->Shared->Prop}(hk:IsTupleKey knd s.heap ks a)(h:Q true s):wpAny (model prog w) A (eqIsQuiet (f+1) (.ref a)) Q E s:=by
 have hT:=hk.typeIs
 obtain⟨o,items,n,ho,_,hd,hi⟩:=hk
 unfold eqIsQuiet
 refine aa (eQ hT F.slot_tuple_eq.lookup ?_)
 show wpAny _ _ (isInstance (.ref a) (.type "tuple") >>= _) _ _ s
 refine aa (cI hT iT ?_)
 simp only[du,bX,fI]
 refine aa (bG ho hd ?_)
 refine aa ?_
 show wpAny _ _ (forIn items _ _) _ _ s
 rw[<- jY]
 refine i8 _ (fun dw r s'=>r.1=none/\s'=s/\∀v∈dw,carriedByValue v=true) _ ?_ ?_ _ _ ⟨rfl,rfl,hi.byValue⟩
 ·rintro v dw r s' ⟨hr,rfl,hall⟩
  rw[eqIsQuiet_byValue _ (hall v bW)]
  refine aa (ar ?_)
  simp only[du,bX,fI]
  exact ar ⟨rfl,rfl,fun u hu'=>hall u (aR _ hu')⟩
 ·rintro⟨r1,r2⟩ s' ⟨hr,rfl,_⟩
  simp only at hr
  subst hr
  exact ar h
def kind{w:World}{K1 K:Type}[DecidableEq K1][DecidableEq K](knd:KeyKind prog w K1)(kd:KeyKind prog w K):HeapKind prog w (K1×List K) where
 is:=Is knd (tupleKind kd)
 hash:=hash knd (tupleKind kd)
 draws:=fun k=>1+(k.2.length+1)+1
 room:=fun A=>A.units+1<cLine
 inj:=fun hx hy=>hx.inj hy
 keeps:=fun x ho hd hs=>x.keeps ho hd hs
 pyHash:=fun hu hk h=>pyHash (Nat.lt_of_succ_lt hu) hu hk h
 eqBool:=fun hu hx hy h=>eqBool (Nat.lt_of_succ_lt hu) hu hx hy h
 quiet:=fun hk h=>quiet (fun hb hq=>Bs 6 hb hq) hk h
section
variable{w:World}{K:Type}[DecidableEq K]{knd:HeapKind prog w K}
end
end PK
namespace L2
open PySem PySem.Spec PyProof.Rows
section
variable{w:World}{h:Heap}{es:List DictEntry}
end
section
variable{K:Type}[DecidableEq K]{knd:HeapKind X.prog X.w K}{xs:List (K×Addr×Value)}{k:K}
abbrev NM(knd:HeapKind X.prog X.w K)(xs:List (K×Addr×Value)):List DictEntry:=xs.map (entryOfKey knd)
end
structure HV(X:Cx)(K:Type)[DecidableEq K] where
 knd:HeapKind X.prog X.w K
 em:K->KX
 inj:∀{a b:K},em a=em b->a=b
 hash:∀k,(em k).hash=knd.hash k
 is:∀{ac:List (Addr×Obj)} {σ:St} {H:Hp} {s:Shared} {μ:List Addr} {k:K} {v:V} {u:Value},bb X ac σ H s->a8 X.K μ H (em k).w v->bK v u->∃b,u=.ref b/\knd.is s.heap k b
 room:∀{A:Around},A.units+2<cLine->knd.room A.in1
theorem items_int{w:World}:∀{ks:List Int} {bd:List Value},bE (ks.map V.int) bd->ItemsAre (intKind P w) ks bd
 |[],_,r=>by cases r;exact .nil
 |k::ks,_,r=>by
  cases r with
  |cons h t=>
   obtain⟨q,rfl⟩:=h
   exact .cons (by simp[intKind,Value.isInt]) (items_int t)
def qJ(kvs:List (KX×W))(k:KX):Option W:=(kvs.find? fun p=>decide (p.1=k)).map fun p=>p.2
def Df(kvs:List (KX×W))(k:KX)(v:W):List (KX×W):=if (qJ kvs k).isSome=true then kvs.map fun p=>if p.1=k then(p.1,v)else p else kvs++[(k,v)]
section
variable{K:Type}[DecidableEq K](G:HV X K)
def Vw(μ:List Addr)(H:Hp):List (KX×W)->List (K×Addr×Value)->Prop:=Paired fun p x=>p.1=G.em x.1/\a8 X.K μ H p.1.w (.ref x.2.1)/\∃v,a8 X.K μ H p.2 v/\bK v x.2.2
variable{G}
theorem An:∀{kvs:List (KX×W)} {xs:List (K×Addr×Value)} (k:K),Vw G μ H kvs xs->(∃w p v,qJ kvs (G.em k)=some w/\atKey xs k=some p/\a8 X.K μ H w v/\bK v p.2)\/(qJ kvs (G.em k)=none/\atKey xs k=none)
 |_,_,k,.nil=>.inr ⟨rfl,rfl⟩
 |_,_,k,.cons (a:=p) (b:=x) (l₁:=kvs) (l₂:=xs) ⟨h1,_,v,h3,h4⟩ t=>by
  by_cases e:x.1=k
  ·refine .inl ⟨p.2,x.2,v,?_,?_,h3,h4⟩
   ·unfold qJ;rw[bR];simp[h1,e]
   ·unfold atKey;rw[bR];simp[e]
  ·have e2:p.1≠G.em k:=fun z=>e (G.inj (h1.symm.trans z))
   have a1:qJ (p::kvs) (G.em k)=qJ kvs (G.em k):=by unfold qJ;rw[bR];simp[e2]
   have a2:atKey (x::xs) k=atKey xs k:=by unfold atKey;rw[bR];simp[e]
   rw[a1,a2]
   exact An k t
theorem uF:∀{kvs:List (KX×W)} {xs:List (K×Addr×Value)},Vw G μ H kvs xs->Paired (tY X.K μ H) kvs (NM G.knd xs)
 |_,_,.nil=>.nil
 |_,_,.cons ⟨h1,h2,h3⟩ t=>.cons ⟨by rw[h1,G.hash];rfl,⟨_,h2,rfl⟩,h3⟩ (uF t)
theorem xu{k:K}{w:W}(ko:a8 X.K μ H w v)(ru:bK v u):∀{kvs:List (KX×W)} {xs:List (K×Addr×Value)},Vw G μ H kvs xs->Vw G μ H (kvs.map fun p=>if p.1=G.em k then(p.1,w)else p) (xs.map (putAt k u))
 |_,_,.nil=>.nil
 |_,_,.cons (a:=p) (b:=x) ⟨h1,h2,h3⟩ t=>by
  refine .cons ?_ (xu ko ru t)
  by_cases e:x.1=k
  ·simp only[]
   rw[aw (by rw[h1,e])]
   unfold putAt
   rw[aw e]
   exact⟨h1,h2,v,ko,ru⟩
  ·simp only[]
   rw[ay fun z=>e (G.inj (h1.symm.trans z))]
   unfold putAt
   rw[ay e]
   exact⟨h1,h2,h3⟩
theorem Dg{k:K}{w:W}{kvs:List (KX×W)}{xs:List (K×Addr×Value)}(vw:Vw G μ H kvs xs)(rk:a8 X.K μ H (G.em k).w (.ref b))(ko:a8 X.K μ H w v)(ru:bK v u):Vw G μ H (Df kvs (G.em k) w) (storedH xs k b u):=by
 unfold Df storedH
 rcases An (G:=G) k vw with⟨w',p,v',e1,e2,_⟩|⟨e1,e2⟩
 ·rw[e1,e2]
  exact xu ko ru vw
 ·rw[e1,e2]
  simp only[Option.isSome_none,bX,fI]
  exact Paired.snoc vw ⟨rfl,rk,v,ko,ru⟩
end
section
structure Dc(X:Cx)(μ:List Addr)(H:Hp)(s:Shared)(st:List am)(n:Nat)(kvs:List (KX×W))(a:Addr)(es:List DictEntry):Prop where
 m:μ[n]?=some a
 c:∃c,st[n]?=some c/\c.isRo=false
 o:∃o,H a=some o/\(∀q u,o≠.frz q u)/\∀q,o≠uu a q
 d:DX a es s.heap
 sm:(a==sysModules)=false
 p:Paired (tY X.K μ H) kvs es
 nd:(kvs.map fun p=>p.1).Nodup
 mu:Mg (H a)
 sq:∀es',db X.K H (da H a (Pq a es'))
end
theorem Bt{kvs:List (KX×W)}{k:KX}(h:qJ kvs k=none):k∉kvs.map fun p=>p.1:=fun z=>by
 obtain⟨p,hp,e⟩:=bH.mp z
 unfold qJ at h
 rw[Option.map_eq_none_iff,List.find?_eq_none]at h
 exact h p hp (ce e)
theorem GM{kvs:List (KX×W)}(k:KX)(v:W)(h:(kvs.map fun p=>p.1).Nodup):((Df kvs k v).map fun p=>p.1).Nodup:=by
 unfold Df
 by_cases z:(qJ kvs k).isSome=true
 ·rw[aw z,bD]
  have:((fun p:KX×W=>p.1)∘fun p:KX×W=>if p.1=k then(p.1,v)else p)=fun p=>p.1:=by
   funext p
   show(if p.1=k then(p.1,v)else p).1=p.1
   split<;>rfl
  rw[this];exact h
 ·rw[ay z,cn,List.nodup_append]
  have hn:qJ kvs k=none:=by
   cases e:qJ kvs k with
   |none=>rfl
   |some _=>rw[e]at z;exact(z rfl).elim
  refine⟨h,by simp,fun a ha b hb=>?_⟩
  have:b=k:=by simpa using hb
  subst this
  exact fun e=>Bt hn (e▸ha)
section
theorem Dc.put{K:Type}[DecidableEq K]{G:HV X K}{kvs:List (KX×W)}{es:List DictEntry}(D:Dc X μ H s st n kvs a es)(S:gB X.K X.mg μ st H)
  {xs:List (K×Addr×Value)} {z:K} {b:Addr} {wv:W} {v:V} {u:Value} (vw:Vw G μ H kvs xs) (rk:a8 X.K μ H (G.em z).w (.ref b)) (rv:a8 X.K μ H wv v) (ru:bK v u) :
  gB X.K X.mg μ (st.set n (.dcx (Df kvs (G.em z) wv))) (da H a (Pq a (NM G.knd (storedH xs z b u)))):=by
 obtain⟨c,hc,wj⟩:=D.c
 obtain⟨o,ho,hf,hg⟩:=D.o
 exact S.setG hc wj D.m ho hf hg (D.sq _) rfl ⟨_,c5,D.sm,Paired.imp' (fun _ _ q=>q.mono (ae _) (D.sq _)) (uF (Dg vw rk rv ru)),GM _ _ D.nd⟩
end
end L2
namespace PK
open PySem
section
variable{w:World}
end
end PK
namespace L2
open PySem PySem.Spec PyProof.Rows
section
variable{w:World}{K:Type}[DecidableEq K]{knd:KeyKind prog w K}{es:List DictEntry}{k:K}{key dflt:Value}
end
section
end
section
variable{w:World}{es:List DictEntry}
end
section
end
def NN(K:Frag)(a:Addr):It:=
 ⟨fun i H=>∃xs x,jr K H a xs/\xs[i]?=some x,fun i H v H'=>∃p,H p=none/\v=.ref p/\∀xs x,jr K H a xs->xs[i]?=some x->H'=da H p (.tup [.int i,x]),fun i H=>∃xs,jr K H a xs/\xs.length<=i⟩
theorem y8{w:World}(a it e:Addr)(L4:e≠it) :
  rK P w K (.Tuple gw kk pos) (NN K a) [e,it] e (fun i h=>(∃old,IsEnum h e it i old)/\h.IsListIter it a i) where
 mem:=by simp
 obj:=fun i h st b hb=>by
  have z:b=e\/b=it:=by simpa using hb
  rcases z with rfl|rfl
  ·obtain⟨old,q⟩:=st.1
   exact⟨_,q,fun v z=>by cases z⟩
  ·obtain⟨o,q,c,d⟩:=st.2
   exact⟨o,q,fun v z=>by rw[d]at z;cases z⟩
 keep:=fun i h h' st k=>⟨let ⟨old,q⟩:=st.1;⟨old,k e (by simp) _ q⟩,st.2.at fun o q=>k it (by simp) o q⟩
 item:=by
  intro X hP hw hK hc i ac s σ H E I hf st hg
  subst hP hw hK
  obtain⟨xs,x,hq,hx⟩:=hg
  obtain⟨bd,rv,p,hz⟩:=I.list hq
  obtain⟨u,hu,ru⟩:=rv.get hx
  obtain⟨⟨old,he⟩,qS⟩:=st
  have hT:s.heap.IsList a bd.toArray:=p.isList
  obtain⟨oa,ha,hca,_⟩:=id hT
  obtain⟨oi,hi,hci,_⟩:=id qS
  have nai:a≠it:=fun z=>by
   rw[z,hi]at ha;cases ha
   rw[hci]at hca;injection hca with z;exact absurd z (by decide)
  have nae:a≠e:=fun z=>by
   rw[z,he]at ha;cases ha
   injection hca with z;exact absurd z (by decide)
  have hlt:i<bd.toArray.size:=by
   have:=(ah.mp hu).1
   simpa using this
  refine li (Draws.list (A:=X.A.in1) (I.ok.hd hc) it a nai bd.toArray) he ⟨qS,hT⟩ hlt L4 (by simp[L4,Ne.symm nae]) fun x' g tk hx' ho' br htup hsz hk=>⟨_,rfl,?_⟩
  have ex:x'=u:=by
   have e1:bd[i]?=some x':=by simpa using hx'
   rw[hu]at e1;exact(aL e1).symm
  subst ex
  refine jQ ho' fun g2 Pi rJ=>?_
  have rG:H s.heap.objs.size=none:=I.hok.fresh (av _)
  have I1:bb X ac σ (da H s.heap.objs.size (.tup [.int i,x])) { s with heap:=s.heap.push { cls:=.type "tuple",data:=.seq #[.int i tk,x'] },toks:=tk+1 }:=I.laid (fun b o q=>ai _ q) (av _)
   ⟨by show 2<=sizeLine;decide,[.int i tk,x'],.cons ⟨tk,rfl⟩ (.cons ru .nil),⟨_,ao _ rfl,rfl,_,rfl⟩⟩
  have nf:∀b∈[e,it],b≠s.heap.objs.size:=fun b hb=>by
   have z:b=e\/b=it:=by simpa using hb
   rcases z with rfl|rfl
   ·exact aT (az he)
   ·exact aT (az hi)
  have fp:∀b∈[e,it],nP X ac (da H s.heap.objs.size (.tup [.int i,x])) b:=fun b hb=>by
   obtain⟨f0,f⟩:=hf b hb
   exact⟨by rw[bF (nf b hb)];exact f0,f⟩
  have he2':IsEnum g2 e it ((i:Int)+1) x':=Pi
  have I2:bb X ac σ (da H s.heap.objs.size (.tup [.int i,x])) { s with heap:=g2,toks:=tk+1 }:=I1.turned2 (t':=tk+1) (fun b o hbe hbi q=>?_) ⟨_,he2'⟩ (fp e (by simp)) (fp it (by simp))
  ·refine⟨.ref s.heap.objs.size,_,I2,rfl,⟨_,rG,rfl,fun ys y hy hy'=>?_⟩,⟨⟨x',by simpa using he2'⟩,br.1.extBut rJ.extBut (Ne.symm L4)⟩,fun b hb=>(fp b hb).1⟩
   have e1:=I.list_inj hy hq
   subst e1
   rw[hx]at hy';cases hy';rfl
  ·have q':(s.heap.push { cls:=.type "tuple",data:=.seq #[.int i tk,x'] }).get? b=some o:=q
   refine rJ.extBut b o hbe ?_
   by_cases hb:b=s.heap.objs.size
   ·subst hb
    have e1:=ao s.heap (o:={ cls:=.type "tuple",data:=.seq #[.int i tk,x'] }) rfl
    rw[e1]at q';cases q'
    exact htup
   ·rw[fj _ _ _ hb]at q'
    exact hk b o hbe hbi q'
 done:=by
  intro X hP hw hK hc i ac s σ H E I hf st hg
  subst hP hw hK
  obtain⟨xs,hq,hx⟩:=hg
  obtain⟨bd,rv,p,hz⟩:=I.list hq
  obtain⟨⟨old,he⟩,qS⟩:=st
  have hT:s.heap.IsList a bd.toArray:=p.isList
  have hl:=rv.length
  have hT':Shared.TypeIs s (.ref e) "enumerate":=⟨_,he,rfl⟩
  unfold pyNext
  refine aa (dR (bf (name:=Str.ofString "__next__") hT' ga (bp ga hT' lZ ?_ (lj _))))
  show wpAny _ _ (field (.ref e) 2 >>= _) _ _ _
  refine aa (aY he rfl (x:=.ref it) rfl (aa (mL (show X.A.in1.handled=none from I.ok.hd hc) qS hT (by simp;omega) fun g y hx' hy=>?_)))
  obtain⟨o,ho,rH⟩:=hy
  refine aa (cI (T:="StopIteration") (b:=true) ⟨o,ho,rH⟩ iG (ar ⟨rfl,?_⟩))
  obtain⟨f0,f1,f2,f3,f4,f5⟩:=hf it (by simp)
  exact I.turned (t':=s.toks) (fun b o hb q=>hx' b o hb q) f0 f1 f3 f4 f5
 self:=fun A i s Q E st h=>let ⟨_,q⟩:=st.1;iH q h
open AutoSeq1 (wpAny_loadPart')
abbrev lH(t:Addr):Obj:={ cls:=.type "list_iterator",data:=.fields #[.ref t,.int 0 0] }
theorem GN(t:Addr)(bd:Array Value)(n:Nat)(dc:Option Addr)(sl:Array (Option Value)) :
  Meets (Builtin.«enumerate.__new__» ⟨[.type "enumerate",.ref t],[]⟩) (fun _ R s=>s.heap.get? t=some { cls:=.type "list",dict:=dc,data:=.seq bd n,slots:=sl } /\
   R (.ok (.ret (.ref (s.heap.push (lH t)).objs.size))) { s with heap:=(s.heap.push (lH t)).push (pK s.heap.objs.size) }):=
 .of_wp fun prog w A R s h=>by
  obtain⟨hp,g,d,tk,os⟩:=s
  obtain⟨ht,h⟩:=h
  have sb:=sub_enumerate
  have hT:Heap.IsList (Shared.heap ⟨hp,g,d,tk,os⟩) t bd:=⟨_,ht,rfl,n,rfl⟩
  wp_walk using bg ht
  refine wpAny_stack_any fun st=>ar ?_
  split
  ·rename_i c _ _ _ _ _
   cases(c==Value.type "enumerate")<;>(wp_walk using bg ht,gj hT;exact⟨_,rfl,h⟩)
  ·wp_walk using bg ht,gj hT
   exact⟨_,rfl,h⟩
section
variable{w:World}
theorem su{t:Addr}(hT:s.heap.IsList t bd)
  (q:∀g,IsEnum g (s.heap.objs.size+1) s.heap.objs.size 0 .none->g.IsListIter s.heap.objs.size t 0->(∀b o,s.heap.get? b=some o->g.get? b=some o)->Q (.ref (s.heap.objs.size+1)) { s with heap:=g }) :
  wpAny (model prog w) A (call (.type "enumerate") [.ref t]) Q E s:=by
 obtain⟨⟨c,dc,dt,sl⟩,ht,hc,n,hd⟩:=hT
 obtain rfl:c=.type "list":=hc
 obtain rfl:dt=.seq bd n:=hd
 refine jC F.called_enumerate (by decide) (l6 _) (mJ _) (fun ob=>F.args_object_init_2 ob _) mK (GN t bd n dc sl) ⟨ht,?_⟩
 have z:(s.heap.push (lH t)).objs.size=s.heap.objs.size+1:=bt ..
 show _/\_
 rw[z]
 have e1:IsEnum ((s.heap.push (lH t)).push (pK s.heap.objs.size)) (s.heap.objs.size+1) s.heap.objs.size 0 .none:=by
  have y:=ao (s.heap.push (lH t)) (o:=pK s.heap.objs.size) rfl
  rw[z]at y;exact y
 exact⟨⟨_,e1,rfl⟩,q _ e1 ⟨_,ai _ (ao _ rfl),rfl,rfl⟩ fun b o y=>ai _ (ai _ y)⟩
end
section
def QV(K:Frag)(ta:TA):TI:=fun σ H R=>ta σ H fun vs H1=>∃a,vs=[.ref a]/\(∃xs,jr K H1 a xs)/\R (NN K a) H1
theorem Dh{a:Expr}{p pos tp:Pos}{gw:List Expr}{kk:Nat}(hm:X.mg "enumerate"=none)(ha:QA X [a] ta)(hg:Gl X "enumerate":=by rfl)(hs:starEach [a] X.env=[(false,eval a X.env)]:=by rfl) :
  QI X (.Tuple gw kk tp) (.Call (.Name "enumerate" p) [a] [] pos) (QV X.K ta):=⟨by
 intro ac s σ H R I h
 refine Call_ (jG I hg hm m_ (bv (fU (ha.h pos ac s σ H _ I h) fun us s1 ⟨vs,H1,I1,r1,q1⟩=>?_) hs rfl))
 obtain⟨t,e,⟨xs,hq⟩,q⟩:=q1
 subst e
 obtain⟨u,rfl,ru⟩:=oo r1
 cases ru
 obtain⟨bd,rv,pt,hz⟩:=I1.list hq
 refine su pt.isList fun g e1 e2 kp=>?_
 refine iH e1 ?_
 refine⟨s1.heap.objs.size+1,[s1.heap.objs.size+1,s1.heap.objs.size],_,_,H1,rfl,I1.kept (t':=s1.toks) kp,y8 t _ _ (Nat.succ_ne_self _),⟨⟨_,e1⟩,e2⟩,fun b hb=>?_,q⟩
 have z:b=s1.heap.objs.size+1\/b=s1.heap.objs.size:=by simpa using hb
 rcases z with rfl|rfl
 ·exact I1.fpOk (e_ _) (I1.hok.fresh (e_ _))
 ·exact I1.fpOk (av _) (I1.hok.fresh (av _))⟩
end
section
variable{a:Expr}{fs:FA}
def lI(fs:FA):FI:=fun ρ st=>(fs ρ st).bind fun ws st=>match ws with
 |[.tup zs]=>.ok (ic zs,none) st
 |[.loc n]=>(match lstOf st n with
  |some zs=>.ok (ic zs,some (n,zs)) st
  |none=>.bad)
 |_=>.bad
def Ao(fs:FA):FI:=fun ρ st=>(fs ρ st).bind fun ws st=>match ws with
 |[.loc n]=>(match lstOf st n with
  |some zs=>.ok (ic zs,some (n,zs)) st
  |none=>.bad)
 |_=>.bad
theorem Di{gw:List Expr}{kk:Nat}{tp:Pos}(hm:X.mg "enumerate"=none)(ha:SA X [a] fs)(hg:Gl X "enumerate":=by rfl)(hs:starEach [a] X.env=[(false,eval a X.env)]:=by rfl) :
  SI X (.Tuple gw kk tp) (.Call (.Name "enumerate" p) [a] [] pos) (Ao fs):=⟨(Dh hm ⟨ha.h⟩ hg hs).h.imp fun σ H R h=>by
 obtain⟨μ,ρ,st,l,h⟩:=h
 refine⟨μ,ρ,st,l,RK.bind h l fun μ1 st1 x v H1 p1 x1 l1 q1 h1=>?_⟩
 split at h1
 ·rename_i n
  obtain⟨y,rfl,ry⟩:=q1.one
  obtain⟨a,ha,rfl⟩:=ry.locE
  cases e1:lstOf st1 n with
  |none=>rw[e1]at h1;exact h1.elim
  |some zs=>
   rw[e1]at h1
   obtain⟨a',vs0,g0,hS0,r0⟩:=l1.sto.lstOf e1
   rw[ha]at g0;cases g0
   refine⟨a,rfl,⟨vs0,hS0⟩,h1 μ1 _ H1 (ae _) db.refl l1.sto fun i μ' br H' pp xx S ck=>?_⟩
   obtain⟨a2,vs,g2,hS,r⟩:=S.lstOf (show lstOf br n=some zs from ck)
   have:μ'[n]?=some a:=pre_get pp ha
   rw[g2]at this;cases this
   refine⟨fun w hw=>?_,fun hl=>⟨vs,hS,by rw[kN]at hl;rw[<- r.len];exact hl⟩⟩
   obtain⟨y,hy,rfl⟩:=kM hw
   obtain⟨v,g1,g3⟩:=r.get hy
   refine⟨⟨vs,v,hS,g1⟩,fun z H'' hz=>?_⟩
   obtain⟨q,hq,rfl,hH⟩:=hz
   have e:=hH vs v hS g1
   subst e
   have ex:=dW.same (K:=X.K) (bP hq (.tup [.int i,v]))
   exact⟨ex,S.same (bP hq _),.tupI dW.new (.consI .int (.consI (g3.mono (ae _) ex) .nilI))⟩
 ·exact h1.elim⟩
theorem Dj{gw:List Expr}{kk:Nat}{tp:Pos}(hm:X.mg "enumerate"=none)(ha:SA X [a] fs)(hg:Gl X "enumerate":=by rfl)(hs:starEach [a] X.env=[(false,eval a X.env)]:=by rfl) :
  SI X (.Tuple gw kk tp) (.Call (.Name "enumerate" p) [a] [] pos) (lI fs):=⟨fun ac s σ H Rr I h=>by
 obtain⟨μ,ρ,st,l,h⟩:=h
 cases e1:fs ρ st with
 |bad=>simp only[lI,e1,R.bind_bad]at h;exact h.elim
 |ex c st1=>
  refine(q_ hm ha hg hs).h ac s σ H Rr I ⟨μ,ρ,st,l,?_⟩
  simp only[lI,lE,e1,R.bind_ex]at h ⊢;exact h
 |ok ws st1=>
  simp only[lI,e1,R.bind_ok]at h
  split at h
  ·refine(q_ hm ha hg hs).h ac s σ H Rr I ⟨μ,ρ,st,l,?_⟩
   simp only[lE,e1,R.bind_ok];exact h
  ·refine(Di hm ha hg hs).h ac s σ H Rr I ⟨μ,ρ,st,l,?_⟩
   simp only[Ao,e1,R.bind_ok];exact h
  ·exact h.elim⟩
end
section
end
section
end
section
end
section
end
theorem GO{w:World}{h:Heap}{o:Obj}(e:h.get? a=some o):eV P w H h a (J3 a o):=⟨e,⟨o,e⟩,fun h1 h2 p k=>k o p⟩
section
variable{w:World}{h:Heap}
theorem nh.put{c:Addr}{o:Obj}(hok:nh P w H h)(hc:H c=none)(e:h.get? c=some o):nh P w (da H c (J3 c o)) h:=fun b u q=>by
 by_cases hb:b=c
 ·subst hb;rw[c5]at q;cases q;exact GO e
 ·rw[bF hb]at q
  refine(hok b u q).stay (fun _ _ _ z=>z) (fun x z=>?_) fun x xs z=>?_
  ·rw[bF (by rintro rfl;rw[hc]at z;cases z)];exact z
  ·rw[bF (by rintro rfl;rw[hc]at z;cases z)];exact z
abbrev NO:=Nat×Addr×Obj×W
def NP:List NO->List am:=fun l=>l.map fun x=>.pin true x.2.1 x.2.2.1 x.2.2.2
end
section
end
section
variable{q:Str}{pr:Arguments}{dw:List Stmt}{sc:Scope}{P c:Addr}{xs:List Str}{g:Addr->Obj->FS}
end
section
variable{w:World}
def GP(o:Obj):List (Str×Addr):=match o.data with
 |.func fd=>fd.closure
 |_=>[]
structure y9(P:Program)(w:World)(K:Frag)(mg:Str->Option Value)(base:Heap)(k n m:Nat)(ok:Obj->Prop)(F:List W->List am->R W):Prop where
 run:∀(A:Around) (outer:List Env) (s:Shared) (H:Hp) (f:Addr) (o:Obj) (fd:FuncData) (us PM:List Value) (vs PV:List V) (Q:VK) (E:XK),fL k A->qC P w K mg base A outer s H->s.heap.get? f=some o->ok o->o.data=.func fd->s.heap.CodeRec fd.code fd.qualname ->
  bE vs us->bE PV PM->us.length=n->Paired (fun(y:Str×Addr) (u:Value)=>s.heap.IsCell y.2 (some u)/\H y.2=none) (GP o) PM->jw K mg (n+m) F (vs++PV) H Q E ->
  codeAny (model P w) A (.call (.ref f) ⟨us,[]⟩) (CR (i_ P w) outer P w H s Q E) s
theorem y9.mono{k:Nat}{ok:Obj->Prop}(h:y9 P w K mg base j n m ok F)(hj:j<=k):y9 P w K mg base k n m ok F:=
 ⟨fun A outer s H f o fd us PM vs PV Q E hr=>h.run A outer s H f o fd us PM vs PV Q E (hr.mono hj)⟩
end
section
variable{fs:FA}
end
def Kn:List (Str×Addr)->List Obj->List W->List NO
 |y::cl,o::os,w::ws=>(0,y.2,o,w)::Kn cl os ws
 |_,_,_=>[]
section
variable{fs:FA}
end
section
variable{q:Str}{st:Stmt}{dw:List Stmt}{P c:Addr}{xs:List Str}{g:Addr->Obj->FS}
variable{fs:FA}
end
section
variable{a:Expr}
end
end L2
namespace L2
open PySem PySem.Spec PyProof.Rows PySem.W
section
end
end L2
namespace L2
open PySem PySem.Spec PyProof.Rows
section
end
section
end
section
end
section
variable{q:Str}{pr:Arguments}{sc:Scope}{RY Rg:Pos}{P:Addr}{xs:List Str}{R':Stmt}
end
def RV(K:Frag)(mg:Str->Option Value)(n:Nat)(IT:Obj->Prop)(F:List W->List am->R (List W)):Sp:=fun vs H Q E=>vs.length=n/\∃μ ws st,gB K mg μ st H/\RelWs K μ H ws vs/\(match F ws st with
 |.ok cws br=>∀μ' f o os H0 H',μ <+: μ'->db K H H0->gB K mg μ' br H0->db K H0 H'->IT o->os.length=(GP o).length->gB K mg (μ'++[f]++(Kn (GP o) os cws).map fun x=>x.2.1) (br++[.pin false f o .non]++NP (Kn (GP o) os cws)) H'->Q (.ref f) H'
 |_=>False)
structure Ko(P:Program)(w:World)(K:Frag)(mg:Str->Option Value)(base:Heap)(k:Nat)(x:Str)(n:Nat)(IT:Obj->Prop)(G:List W->List am->R (List W)):Prop where
 ex:∃(f:Addr) (fd:FuncData) (ps:List Str),mg x=some (.ref f)/\keepIn K (.ref f)=true/\ps.length=n/\kK K fd ps []/\cN P w K mg base (i_ P w) k f fd ps (RV K mg n IT G)
theorem Ko.mono{w:World}{k:Nat}{G:List W->List am->R (List W)}(h:Ko P w K mg base j x n IT G)(hj:j<=k):Ko P w K mg base k x n IT G:=by
 obtain⟨f,fd,ps,a,b,c,d,e⟩:=h.ex
 exact⟨f,fd,ps,a,b,c,d,e.mono hj⟩
section
variable{cs:List Expr}{R5:Pos}{y:Str}{fs:FA}{G:List W->List am->R (List W)}
variable{ea eb:Expr}
end
open AutoSeq1 (wpAny_loadPart')
section
variable{w:World}
variable{n c:Addr}{k:Nat}{xs zs:Array Value}{x y t:Value}
end
abbrev Px(h:Heap)(a:Addr):Heap:=h.push (lH a)
section
variable{w:World}
end
section
variable{a b:Expr}{fs:FA}
end
section
variable{w:World}{d:Addr}{o:Obj}{es:Array DictEntry}{ep:Nat}
end
section
end
open AutoSeq1 (wpAny_loadPart')
section
end
section
variable{q:Str}{st:Stmt}{P c:Addr}{xs:List Str}
end
section
variable{w:World}{k:Nat}{st:Stmt}{f:Addr}{G:List W->List am->R (List W)}
end
section
variable{fi:HQ}{f:FG}{t:FT}
end
section
end
section
variable{w:World}
end
section
variable{f:FG}{t:FT}
end
section
end
section
variable{w:World}{R:Result->Shared->Prop}{K:Type}[DecidableEq K]{knd:KeyKind prog w K}
end
section
variable{w:World}
variable{K:Type}[DecidableEq K]{knd:KeyKind prog w K}
end
def pU:List W->Option (List (DK×W))
 |[]=>some []
 |.tup [k,v]::r=>match mV k,pU r with
  |some k,some r=>some ((k,v)::r)
  |_,_=>none
 |_=>none
theorem xw{x:W}{r:List W}{kvs:List (DK×W)}(h:pU (x::r)=some kvs):∃k v k' r',x=.tup [k,v]/\mV k=some k'/\pU r=some r'/\kvs=(k',v)::r':=by
 unfold pU at h
 split at h
 ·rename_i he;cases he
 ·rename_i k v r0 he
  cases he
  cases e1:mV k with
  |none=>rw[e1]at h;cases h
  |some k'=>
   cases e2:pU r with
   |none=>rw[e1,e2]at h;cases h
   |some r'=>rw[e1,e2]at h;cases h;exact⟨k,v,k',r',rfl,e1,rfl,rfl⟩
 ·cases h
section
theorem sv(I:bb X ac σ H s):∀{ys:List W} {kvs:List (DK×W)} {vs:List V} {bd:List Value},pU ys=some kvs->RelWs X.K μ H ys vs->bE vs bd ->
  ∃(us:List V) (ps:List (gF×Value)),RelWs X.K μ H (kvs.map fun p=>p.2) us/\KV (dV kvs us) ps/\bd.length=ps.length /\
   ∀(j:Nat) (x:Value),bd[j]?=some x->∃p key k v,x=.ref p/\(∃o m,s.heap.get? p=some o/\o.cls=.type "tuple"/\o.data=.seq #[key,v] m)/\ps[j]?=some (k,v)/\(cX X.prog X.w).is k key=true
 |[],kvs,vs,bd,h,r,hv=>by
  cases h
  have e:vs=[]:=r.nilE
  subst e
  cases hv
  exact⟨[],[],.nilI,.nil,rfl,fun j x h=>by simp at h⟩
 |y::ys,kvs,vs,bd,h,r,hv=>by
  obtain⟨k,w,k',r',rfl,ek,er,rfl⟩:=xw h
  obtain⟨x,xs,rfl,rx,rxs⟩:=r.consE
  cases hv with
  |cons hx hxs=>
  rename_i u bd
  obtain⟨us,ps,a1,a2,a3,a4⟩:=sv I er rxs hxs
  obtain⟨p,zs,rfl,hS,rz⟩:=id rx.tupE
  obtain⟨z1,z2,rfl,rk,rz2⟩:=rz.consE
  obtain⟨z3,rfl,ko⟩:=rz2.one
  obtain⟨its2,hv2,hT,_⟩:=I.tuple hS
  cases hv2 with
  |cons g1 g2=>
  cases g2 with
  |cons g2 g3=>
  cases g3
  rename_i k1 v1
  have:=vA ek rk
  subst this
  obtain⟨o,e1,e2,m,e3⟩:=hT
  refine⟨z3::us,(k'.key,v1)::ps,.consI ko a1,.cons ⟨rfl,g2⟩ a2,by simp[a3],fun j x hj=>?_⟩
  cases j with
  |zero=>
   cases hj
   obtain rfl:u=Value.ref p:=hx
   exact⟨p,k1,k'.key,v1,rfl,⟨o,m,e1,e2,e3⟩,rfl,zX g1⟩
  |succ j=>exact a4 j x hj
end
structure Kq(K:Frag)(mg:Str->Option Value)(c:Str)(fs:List Str):Prop where
 ex:∃C,mg c=some (.ref C)/\Cls K C/\∀f∈fs,nQ K C f
def mh(st:List am):W->Option (Nat×Str×List (Str×W))
 |.loc n=>(match st[n]? with
  |some (.obj c fs)=>some (n,c,fs)
  |_=>none)
 |_=>none
def qK(f:Str)(v:W):List (Str×W)->List (Str×W)
 |[]=>[(f,v)]
 |(g,x)::r=>if g=f then(g,v)::r else(g,x)::qK f v r
abbrev fV(fs:List (Str×W))(vs:List V):List (Str×V):=(fs.map fun p=>p.1).zip vs
section
theorem oJ(S:gB K mg μ st H){x:W}{c:Str}{fs:List (Str×W)}(h:mh st x=some (n,c,fs))(r:a8 K μ H x v) :
  x=.loc n/\st[n]?=some (.obj c fs)/\∃a C dx vs,μ[n]?=some a/\v=.ref a/\mg c=some (.ref C)/\H a=some (.ins C dx (fV fs vs))/\RelWs K μ H (fs.map fun p=>p.2) vs:=by
 cases x with
 |loc m=>
  simp only[mh]at h
  cases e:st[m]? with
  |none=>rw[e]at h;cases h
  |some cc=>
   rw[e]at h
   cases cc with
   |obj c' z=>
    cases h
    obtain⟨a,g,C,dx,vs,m1,k,rr⟩:=S.get e
    obtain⟨b,f,rfl⟩:=r.locE
    rw[g]at f;cases f
    exact⟨rfl,e,a,C,dx,vs,g,rfl,m1,k,rr⟩
   |_=>cases h
 |_=>cases h
theorem vD(f:Str):∀{fs:List (Str×W)} {vs:List V},RelWs K μ H (fs.map fun p=>p.2) vs->(∀w,fs.lookup f=some w->∃v,(fV fs vs).lookup f=some v/\a8 K μ H w v)/\(fs.lookup f=none->(fV fs vs).lookup f=none)
 |[],vs,r=>⟨fun w h=>(by cases h),fun _=>rfl⟩
 |(g,x)::fs,vs,r=>by
  obtain⟨y,ys,rfl,a,b⟩:=RelWs.consE r
  have ih:=vD f (fs:=fs) b
  have e1:List.lookup f ((g,x)::fs)=(match f==g with|true=>some x|false=>fs.lookup f):=rfl
  have e2:List.lookup f (fV ((g,x)::fs) (y::ys))=(match f==g with|true=>some y|false=>(fV fs ys).lookup f):=rfl
  rw[e1,e2]
  cases f==g with
  |true=>exact⟨fun w h=>(by cases h;exact⟨y,rfl,a⟩),fun h=>(by cases h)⟩
  |false=>exact ih
theorem Dk(f:Str){w:W}(ko:a8 K μ H w v):∀{fs:List (Str×W)} {vs:List V},RelWs K μ H (fs.map fun p=>p.2) vs->∃us,mB f v (fV fs vs)=fV (qK f w fs) us/\RelWs K μ H ((qK f w fs).map fun p=>p.2) us
 |[],vs,r=>⟨[v],rfl,.consI ko .nilI⟩
 |(g,x)::fs,vs,r=>by
  obtain⟨y,ys,rfl,a,b⟩:=RelWs.consE r
  obtain⟨us,e,q⟩:=Dk f ko (fs:=fs) b
  show ∃us,(if g=f then(g,v)::fV fs ys else(g,y)::mB f v (fV fs ys))=_/\_
  by_cases h:g=f
  ·refine⟨v::ys,?_,?_⟩
   ·rw[aw h];show _=fV (if g=f then(g,w)::fs else(g,x)::qK f w fs) _;rw[aw h];rfl
   ·show RelWs K μ H ((if g=f then(g,w)::fs else(g,x)::qK f w fs).map fun p=>p.2) _
    rw[aw h];exact .consI ko b
  ·refine⟨y::us,?_,?_⟩
   ·rw[ay h];show _=fV (if g=f then(g,w)::fs else(g,x)::qK f w fs) _;rw[ay h,e];rfl
   ·show RelWs K μ H ((if g=f then(g,w)::fs else(g,x)::qK f w fs).map fun p=>p.2) _
    rw[ay h];exact .consI a q
theorem dW.butI{l dx:Addr}{xs:List (Str×V)}(e:BS l H H')(hl:H l=some (.ins C dx xs)):db K H H':=by
 have uZ:∀{p:Addr} {o:HO},H p=some o->(∀c d zs,o≠.ins c d zs)->p≠l:=fun{p o} q hn z=>by subst z;rw[hl]at q;cases q;exact hn _ _ _ rfl
 refine⟨fun p ys h=>?_,fun b o u h=>e _ _ (uZ h (fun _ _ _ z=>by cases z)) h⟩
 rcases h with(h|⟨o,h⟩)|h
 ·exact .inl (.inl (e _ _ (uZ h (fun _ _ _ z=>by cases z)) h))
 ·exact .inl (.inr ⟨o,e _ _ (uZ h (fun _ _ _ z=>by cases z)) h⟩)
 ·exact .inr h
theorem gB.setI(S:gB K mg μ st H){dx:Addr}{c:Str}{fs L_:List (Str×W)}{xs:List (Str×V)}{us:List V}(hn:st[n]?=some (.obj c fs))(hm:μ[n]?=some a)(hc:mg c=some (.ref C))(ha:H a=some (.ins C dx xs))(hr:RelWs K μ H (L_.map fun p=>p.2) us) :
  gB K mg μ (st.set n (.obj c L_)) (da H a (.ins C dx (fV L_ us))):=
 S.setG hn rfl hm ha (fun _ _ z=>by cases z) (fun _ z=>by cases z) (dW.butI gU ha) rfl ⟨C,dx,us,hc,c5,hr.mono (ae _) (dW.butI gU ha)⟩
end
section
variable{a value:Expr}{c f m:Str}{fl:List Str}{fo:FE}{fs:FA}
def oK(c f:Str)(fa:FE):FE:=fun ρ st=>(fa ρ st).bind fun x st=>match mh st x with
 |some (_,c',fs)=>if c'=c then pO (fs.lookup f) fun w=>.ok w st else .bad
 |none=>.bad
theorem oM(hC:Kq X.K X.mg c fl)(ha:SE X a fa)(hf:f∈fl:=by decide)(hb:attributeBase a f X.env (eval a X.env)=eval a X.env:=by rfl):SE X (.Attribute a f pos) (oK c f fa):=⟨(JF ha.h hb).imp fun σ H Q h=>by
 obtain⟨μ,ρ,st,l,h⟩:=h
 refine⟨μ,ρ,st,l,RK.bind h l fun μ1 st1 x v H1 p1 x1 l1 q1 h1=>?_⟩
 cases e0:mh st1 x with
 |none=>rw[e0]at h1;exact h1.elim
 |some nk=>
  obtain⟨n,c',fs⟩:=nk
  rw[e0]at h1
  simp only at h1
  obtain⟨rfl,hn,a,C,dx,vs,hm,rfl,hc,hI,rr⟩:=oJ l1.sto e0 q1
  by_cases z:c'=c
  ·rw[aw z]at h1
   subst z
   obtain⟨C',hc',cl,na⟩:=hC.ex
   rw[hc]at hc';cases hc'
   unfold pO at h1
   split at h1
   ·rename_i w ew
    obtain⟨v,ev,rv⟩:=(vD f rr).1 w ew
    exact⟨a,C,dx,_,v,rfl,hI,cl,na f hf,ev,h1 μ1 v H1 (ae _) db.refl l1.sto rv⟩
   ·exact h1.elim
  ·rw[ay z]at h1;exact h1.elim⟩
def nB(c f:Str)(fo fe:FE):FS:=fun ρ st=>(fe ρ st).stmt ρ fun y st=>(fo ρ st).stmt ρ fun x st=>match mh st x with
 |some (n,c',fs)=>if c'=c/\fs.length<900 then .nx ρ (st.set n (.obj c (qK f y fs)))else .bad
 |none=>.bad
theorem jk(hC:Kq X.K X.mg c fl)(ho:SE X o fo)(he:SE X value fe)(hf:f∈fl:=by decide)(hs:swapsWith value (some (.Attribute o f gy)) pos.line X.env=pure false:=by rfl):SS X (.Assign [.Attribute o f gy] value pos) (nB c f fo fe):=⟨(JG ho.h he.h hs).imp fun D σ H h=>by
 obtain⟨μ,ρ,st,l,h⟩:=h
 refine⟨μ,ρ,st,l,RK.stmt h l fun μ1 st1 y yv H1 p1 x1 l1 q1 h1=>⟨μ1,ρ,st1,l1,RK.stmt h1 l1 fun μ2 dq x xv H2 p2 x2 l2 q2 h2=>?_⟩⟩
 cases e0:mh dq x with
 |none=>rw[e0]at h2;exact h2.elim
 |some nk=>
  obtain⟨n,c',fs⟩:=nk
  rw[e0]at h2
  simp only at h2
  obtain⟨rfl,hn,a,C,dx,vs,hm,rfl,hc,hI,rr⟩:=oJ l2.sto e0 q2
  by_cases z:c'=c/\fs.length<900
  ·rw[aw z]at h2
   obtain⟨z,hz⟩:=z
   subst z
   obtain⟨C',hc',cl,na⟩:=hC.ex
   rw[hc]at hc';cases hc'
   obtain⟨us,e1,r1⟩:=Dk f (q1.mono p2 x2) rr
   have cV:(fV fs vs).length<1000:=by
    unfold fV
    rw[List.length_zip,aq]
    omega
   refine⟨a,C,dx,_,rfl,hI,cl,na f hf,cV,?_⟩
   rw[e1]
   exact h2 μ2 σ _ (ae _) (dW.butI gU hI) (l2.to (ae _) (dW.butI gU hI) (l2.sto.setI hn hm hc hI r1))
  ·rw[ay z]at h2;exact h2.elim⟩
structure sw(P:Program)(w:World)(K:Frag)(mg:Str->Option Value)(base:Heap)(k:Nat)(c m:Str)(n:Nat)(F:List W->List am->R W):Prop where
 ex:∃(C g:Addr) (fd:FuncData) (ps:List Str),mg c=some (.ref C)/\Cls K C/\MS K C m g/\ps.length=n/\kK K fd ps []/\cN P w K mg base (i_ P w) k g fd ps (jw K mg n F)
theorem sw.mono{w:World}{k:Nat}(h:sw P w K mg base j c m n F)(hj:j<=k):sw P w K mg base k c m n F:=by
 obtain⟨C,g,fd,ps,a,b,b2,c,d,e⟩:=h.ex
 exact⟨C,g,fd,ps,a,b,b2,c,d,e.mono hj⟩
def qm(c m:Str)(n:Nat)(F:List W->List am->R W)(fo:FE)(fs:FA):FE:=fun ρ st=>(fo ρ st).bind fun x st=>match mh st x with
 |some (_,c',fl)=>if c'=c/\fl.lookup m=none then(fs ρ st).bind fun ws st=>if ws.length+1=n then F (x::ws) st else .bad else .bad
 |none=>.bad
theorem y_{k k':Nat}{pl:Sem Bool}(Fn:sw X.prog X.w X.K X.mg X.base k c m n F)(hr:fL k' X.A)(hk:k<=k')(ho:SE X o fo)(ha:SA X (e::es) fs)
  (mO:starEach (e::es) X.env=(false,eval e X.env)::starEach es X.env:=by rfl) (qy:(backTo pos (starEach es X.env)).any (·.1)=false:=by rfl)
  (ht:eval (.Call (.Attribute o m d7) (e::es) [] pos) X.env=(do
   let ov <- eval o X.env
   standAt d7.atName
   let (f,fst') <- holding [ov] (getMethod ov m pl)
   callWith pos f fst' (backTo pos (starEach (e::es) X.env)) (backToKw pos (keywordEach [] X.env))):=by rfl):SE X (.Call (.Attribute o m d7) (e::es) [] pos) (qm c m n F fo fs):=⟨by
 intro ac s σ H Q I h
 obtain⟨C,g,fd,ps,hc,cl,hm,hn,hb,Fo⟩:=(Fn.mono hk).ex
 obtain⟨μ,ρ,st,l,h⟩:=h
 have h':tE X fo σ H fun x H1=>∃(a dx:Addr) (xs:List (Str×V)),x=.ref a/\H1 a=some (.ins C dx xs)/\xs.lookup m=none/\Nk X fs σ H1 fun vs H2=>∃μ2 dq ws,Rl X μ2 ρ dq σ H2/\RelWs X.K μ2 H2 ws (.ref a::vs)/\ws.length=n/\RK X (nU X) μ2 σ H2 Q (F ws dq):=by
  refine⟨μ,ρ,st,l,RK.bind h l fun μ1 st1 x v H1 p1 x1 l1 q1 h1=>?_⟩
  cases e0:mh st1 x with
  |none=>rw[e0]at h1;exact h1.elim
  |some nk=>
   obtain⟨i,c',fl⟩:=nk
   rw[e0]at h1
   simp only at h1
   obtain⟨rfl,hi,a,C',dx,vs,hma,rfl,hc',hI,rr⟩:=oJ l1.sto e0 q1
   by_cases z:c'=c/\fl.lookup m=none
   ·rw[aw z]at h1
    obtain⟨z,hz⟩:=z
    subst z
    rw[hc]at hc';cases hc'
    refine⟨a,dx,_,rfl,hI,(vD m rr).2 hz,μ1,ρ,st1,l1,RK.bind h1 l1 fun μ2 dq ws vs2 H2 p2 x2 l2 q2 h2=>?_⟩
    by_cases y:ws.length+1=n
    ·rw[aw y]at h2
     exact⟨μ2,dq,.loc i::ws,l2,.consI (q1.mono p2 x2) q2,y,h2⟩
    ·rw[ay y]at h2;exact h2.elim
   ·rw[ay z]at h1;exact h1.elim
 refine PySem.W.methodCall_KW (pl:=pl) (fU (ho.h ac s σ H _ I h') fun u s1 ⟨x,H1,I1,rx,a,dx,xs,ex,ea,lk,q⟩=>?_) ht
 subst ex
 obtain rfl:u=Value.ref a:=rx
 refine rL I1 ea cl hm lk ?_
 refine PySem.W.callWith_K (first:=[.ref a]) (h₀:=X.base) I.ok.mod.kin hm.kp (fU (ha.h pos ac s1 σ H1 _ I1 q) fun us s2 ⟨vs,H2,I2,r,μ2,dq,ws,l2,r2,y,q2⟩=>⟨I2.kIn,?_⟩) mO qy
 exact CY (us:=.ref a::us) (vs:=.ref a::vs) Fo hn hr hb I2 l2.sto r2 (.cons rfl r) y q2⟩
theorem GQ{k k':Nat}(Fn:sw X.prog X.w X.K X.mg X.base k c m 1 F)(hr:fL k' X.A)(hk:k<=k')(ho:SE X o fo)
  (ht:eval (.Call (.Attribute o m d7) [] [] pos) X.env=(do
   let ov <- eval o X.env
   standAt d7.atName
   let (f,fst') <- holding [ov] (getMethod ov m pl)
   callWith pos f fst' (backTo pos (starEach [] X.env)) (backToKw pos (keywordEach [] X.env))):=by rfl):SE X (.Call (.Attribute o m d7) [] [] pos) (qm c m 1 F fo aK):=⟨by
 intro ac s σ H Q I h
 obtain⟨C,g,fd,ps,hc,cl,hm,hn,hb,Fo⟩:=(Fn.mono hk).ex
 obtain⟨μ,ρ,st,l,h⟩:=h
 have h':tE X fo σ H fun x H1=>∃(a dx:Addr) (xs:List (Str×V)),x=.ref a/\H1 a=some (.ins C dx xs)/\xs.lookup m=none/\∃μ2 dq ws,Rl X μ2 ρ dq σ H1/\RelWs X.K μ2 H1 ws [.ref a]/\ws.length=1/\RK X (nU X) μ2 σ H1 Q (F ws dq):=by
  refine⟨μ,ρ,st,l,RK.bind h l fun μ1 st1 x v H1 p1 x1 l1 q1 h1=>?_⟩
  cases e0:mh st1 x with
  |none=>rw[e0]at h1;exact h1.elim
  |some nk=>
   obtain⟨i,c',fl⟩:=nk
   rw[e0]at h1
   simp only at h1
   obtain⟨rfl,hi,a,C',dx,vs,hma,rfl,hc',hI,rr⟩:=oJ l1.sto e0 q1
   by_cases z:c'=c/\fl.lookup m=none
   ·rw[aw z]at h1
    obtain⟨z,hz⟩:=z
    subst z
    rw[hc]at hc';cases hc'
    exact⟨a,dx,_,rfl,hI,(vD m rr).2 hz,μ1,st1,[.loc i],l1,.consI q1 .nilI,rfl,h1⟩
   ·rw[ay z]at h1;exact h1.elim
 refine PySem.W.methodCall_KW (pl:=pl) (fU (ho.h ac s σ H _ I h') fun u s1 ⟨x,H1,I1,rx,a,dx,xs,ex,ea,lk,μ2,dq,ws,l2,r2,y,q2⟩=>?_) ht
 subst ex
 obtain rfl:u=Value.ref a:=rx
 refine rL I1 ea cl hm lk ?_
 exact PySem.W.callWith_K0 (first:=[.ref a]) I1.kIn hm.kp (CY (us:=[.ref a]) (vs:=[.ref a]) Fo hn hr hb I1 l2.sto r2 (.cons rfl .nil) y q2)⟩
structure zc(P:Program)(w:World)(K:Frag)(mg:Str->Option Value)(base:Heap)(k:Nat)(c:Str)(n:Nat)(F:List W->List am->R W):Prop where
 ex:∃(C g:Addr) (fd:FuncData) (ps:List Str),mg c=some (.ref C)/\Mk K C g/\ps.length=n/\kK K fd ps []/\cN P w K mg base (i_ P w) k g fd ps (jw K mg n F)
theorem zc.mono{w:World}{k:Nat}(h:zc P w K mg base j c n F)(hj:j<=k):zc P w K mg base k c n F:=by
 obtain⟨C,g,fd,ps,a,b,c,d,e⟩:=h.ex
 exact⟨C,g,fd,ps,a,b,c,d,e.mono hj⟩
def Ap(c:Str)(n:Nat)(F:List W->List am->R W)(fs:FA):FE:=fun ρ st=>(fs ρ st).bind fun ws st=>if ws.length+1=n then(match F (.loc st.length::ws) (st++[.obj c []])with
  |.ok .non br=>.ok (.loc st.length) br
  |_=>.bad)else .bad
theorem Kr{k k':Nat}(Fn:zc X.prog X.w X.K X.mg X.base k c n F)(hr:fL k' X.A)(hk:k+1<=k')(ha:SA X (e::es) fs)(hg:Gl X c:=by rfl)(BM:(c==("__debug__":Str))=false:=by decide)
  (he:starEach (e::es) X.env=(false,eval e X.env)::starEach es X.env:=by rfl) (qy:(backTo pos (starEach es X.env)).any (·.1)=false:=by rfl):SE X (.Call (.Name c p) (e::es) [] pos) (Ap c n F fs):=⟨by
 intro ac s σ H Q I h
 obtain⟨C,g,fd,ps,hc,M,hn,hb,Fo⟩:=Fn.ex
 refine h_ (qZ I hg hc ?_ BM)
 obtain⟨μ,ρ,st,l,h⟩:=h
 have h':Nk X fs σ H fun vs H1=>∃μ1 st1 ws dq,Rl X μ1 ρ st1 σ H1/\RelWs X.K μ1 H1 ws vs/\ws.length+1=n/\F (.loc st1.length::ws) (st1++[.obj c []])=.ok .non dq/\RK X (nU X) μ1 σ H1 Q (.ok (.loc st1.length) dq):=by
  refine⟨μ,ρ,st,l,RK.bind h l fun μ1 st1 x v H1 p1 x1 l1 q1 h1=>?_⟩
  by_cases y:x.length+1=n
  ·rw[aw y]at h1
   split at h1
   ·rename_i dq e2
    exact⟨μ1,st1,x,dq,l1,q1,y,e2,h1⟩
   ·exact h1.elim
  ·rw[ay y]at h1;exact h1.elim
 refine PySem.W.callWith_K (h₀:=X.base) I.ok.mod.kin M.kp (fU (ha.h pos ac s σ H _ I h') fun us s1 ⟨vs,H1,I1,r,μ1,st1,ws,dq,l1,r1,y,e2,q⟩=>⟨I1.kIn,?_⟩) he qy
 refine B' (dvs:=[]) (ds:=[]) (E:=fun _ _ _=>False) M Fo (hr.mono hk) hb .nil (fun ac σ H s e s' I hq=>by obtain⟨_,_,_,_,_,_,z,_⟩:=hq;exact z.elim) I1 r fun x dx hx hdx uZ=>?_
 have hs1:j3 H1 (da H1 dx (.own x)):=bP hdx _
 have hx1:(da H1 dx (.own x)) x=none:=by rw[bF (Ne.symm uZ)];exact hx
 have rJ:j3 (da H1 dx (.own x)) (da (da H1 dx (.own x)) x (.ins C dx [])):=bP hx1 _
 have xt:db X.K H1 (da (da H1 dx (.own x)) x (.ins C dx [])):=(dW.same hs1).trans (dW.same rJ)
 have S2:gB X.K X.mg (μ1++[x]) (st1++[.obj c []]) (da (da H1 dx (.own x)) x (.ins C dx [])):=(l1.sto.same hs1).push (c:=.obj c []) hx1 ⟨C,dx,[],hc,c5,.nilI⟩
 have hmx:(μ1++[x])[st1.length]?=some x:=by rw[l1.sto.len];simp
 refine⟨by rw[cf,a9,<- r1.len];exact y,μ1++[x],.loc st1.length::ws,st1++[.obj c []],S2,.consI (.locI hmx) (by rw[cf];exact r1.mono (aW _ _) xt),?_⟩
 rw[e2]
 intro μ' v H' pp xx S' rv
 exact⟨rv.nonE,q μ' (.ref x) H' ((aW _ _).trans pp) (xt.trans xx) S' (.locI (L2.pre_get pp hmx))⟩⟩
end
def vE:Stmt->List Stmt
 |.ClassDef _ _ _ b _ _ _ _ _ _ _=>b
 |_=>[]
inductive DefM(K:Frag)(C:Addr)(q m:Str)(st:Stmt):Prop
 |mk {ad:Addr} {od an:Option Addr} {sl:Array (Option Value)} {oc kV dc pm cd ct:Value} (a:findIn K (.ref C) m=some (some (.ref ad))) (i:isFn K (.ref ad)=true)
   (l:K.lookup ad=some ⟨oc,od,.func (fnOf m q (gs st) (fE st) (aM st) .none kV dc pm an cd ct),sl⟩) (c:codeIn K cd q=true) (k:keepIn K (.ref ad)=true):DefM K C q m st
section
variable{w:World}{k:Nat}{c q m:Str}{st:Stmt}
theorem Dl(d:DefM K C q m st)(hC:mg c=some (.ref C))(cl:Cls K C)(ok:∀{f:Addr} {fd:FuncData},js K m q st f fd->cN P w K mg base (i_ P w) k f fd ps (jw K mg n G))(hn:ps.length=n:=by rfl)
  (hb:∀(kV pj pm:Value) (an:Option Addr) (fM ct:Value) (us:List Value),us.length=ps.length->bindArgs (fnOf m q (gs st) (fE st) (aM st) .none kV pj pm an fM ct) ⟨us,[]⟩=pure (ps.zip us):=by(intro _ _ _ _ _ _ _ q;first|(obtain⟨_,rfl⟩:=QO q;rfl)|(obtain⟨_,_,rfl⟩:=QP q;rfl)|(obtain⟨_,_,_,rfl⟩:=QQ q;rfl)|(obtain⟨_,_,_,_,rfl⟩:=QR q;rfl)|(obtain⟨_,_,_,_,_,rfl⟩:=QT q;rfl)|(obtain⟨_,_,_,_,_,_,rfl⟩:=QU q;rfl))):sw P w K mg base k c m n G:=by
 obtain⟨a,i,l,cc,kk⟩:=d
 exact⟨C,_,_,ps,hC,cl,⟨a,i,kk⟩,hn,kK.all fun us hl=>hb _ _ _ _ _ _ us hl,ok (ve (st:=st) l cc kk)⟩
theorem Kt(d:DefM K C q "__init__" st)(hC:mg c=some (.ref C))(mk:makesIn K C=true)(kc:keepIn K (.ref C)=true)(ok:∀{f:Addr} {fd:FuncData},js K "__init__" q st f fd->cN P w K mg base (i_ P w) k f fd ps (jw K mg n G))(hn:ps.length=n:=by rfl)
  (hb:∀(kV pj pm:Value) (an:Option Addr) (fM ct:Value) (us:List Value),us.length=ps.length->bindArgs (fnOf "__init__" q (gs st) (fE st) (aM st) .none kV pj pm an fM ct) ⟨us,[]⟩=pure (ps.zip us):=by(intro _ _ _ _ _ _ _ q;first|(obtain⟨_,rfl⟩:=QO q;rfl)|(obtain⟨_,_,rfl⟩:=QP q;rfl)|(obtain⟨_,_,_,rfl⟩:=QQ q;rfl)|(obtain⟨_,_,_,_,rfl⟩:=QR q;rfl)|(obtain⟨_,_,_,_,_,rfl⟩:=QT q;rfl)|(obtain⟨_,_,_,_,_,_,rfl⟩:=QU q;rfl))):zc P w K mg base k c n G:=by
 obtain⟨a,i,l,cc,kk⟩:=d
 exact⟨C,_,_,ps,hC,⟨mk,a,i,kc⟩,hn,kK.all fun us hl=>hb _ _ _ _ _ _ us hl,ok (ve (st:=st) l cc kk)⟩
end
theorem xy:entryFor table "dict_itemiterator.__iter__"=some Builtin.«dict_keyiterator.__iter__»:=entryFor_alias (id':="dict_keyiterator.__iter__") (by kernel_rfl) (by first|rfl|decide +kernel|(unfold String.splitOn;simp +decide [String.splitOnAux])) (by decide +kernel) (by kernel_rfl)
theorem Dm{w:World}{d:Addr}{ep:Nat}{ok ov:Value}(qS:IsItemIter s.heap it d i n ep ok ov)(q:Q (.ref it) s):wpAny (model prog w) A (pyIter (.ref it)) Q E s:=by
 have T:s.TypeIs (.ref it) "dict_itemiterator":=⟨_,qS,rfl⟩
 exact wpAny_pyIter_slot T PySem.F.slot_dict_itemiterator_iter (bp PySem.F.slot_dict_itemiterator_iter T xy (ar ⟨_,rfl,"dict_itemiterator",_,T,PySem.F.slot_dict_itemiterator_next.lookup,q⟩) (PySem.F.args_dict_itemiterator_iter_1 _))
theorem KV.at_{κ:Type}:∀{kvs:List (κ×V)} {vs:List (κ×Value)},KV kvs vs->∀{i:Nat} {p:κ×V} {q:κ×Value},kvs[i]?=some p->vs[i]?=some q->p.1=q.1/\bK p.2 q.2
 |_,_,.nil,i,p,q,h,_=>by simp at h
 |_,_,.cons h t,0,p,q,h1,h2=>by simp at h1 h2;subst h1 h2;exact h
 |_,_,.cons h t,i+1,p,q,h1,h2=>KV.at_ t (by simpa using h1) (by simpa using h2)
def Mp(a:Addr)(o:Obj)(kvs:List (gF×V)):It where
 go:=fun i H=>H a=some (.frz o (.dK kvs))/\i<kvs.length
 yld:=fun i H x H'=>∃p q,kvs[i]?=some q/\H p=none/\x=.ref p/\H'=da H p (.tup [kV q.1,q.2])
 stop:=fun i H=>H a=some (.frz o (.dK kvs))/\kvs.length<=i
theorem zd{w:World}(a it:Addr)(o:Obj)(kvs:List (gF×V)):rK P w K (.Tuple gw kk pos) (Mp a o kvs) [it] it (fun i h=>∃ok ov,IsItemIter h it a i kvs.length (Br o) ok ov) where
 mem:=by simp
 obj:=fun i h st b hb=>by
  have e:b=it:=by simpa using hb
  subst e
  obtain⟨_,_,e⟩:=st
  exact⟨_,e,fun v z=>by cases z⟩
 keep:=fun i h h' st k=>let ⟨x,y,e⟩:=st;⟨x,y,k it (by simp) _ e⟩
 item:=by
  intro X hP hw hK hc i ac s σ H E I hf st hg
  subst hP hw hK
  obtain⟨ha,hi⟩:=hg
  obtain⟨ok,ov,st⟩:=st
  obtain⟨vs,m6,_,dd⟩:=y7 I ha
  have cV:kvs.length=vs.length:=m6.length
  obtain⟨f0,f1,f2,f3,f4,f5⟩:=hf it (by simp)
  obtain⟨⟨k,y⟩,hy⟩:∃p,vs[i]?=some p:=⟨_,ag (by omega)⟩
  obtain⟨⟨k',x⟩,hx⟩:∃p,kvs[i]?=some p:=⟨_,ag hi⟩
  obtain⟨ek,rxy⟩:=m6.at_ hx hy
  have ek:k'=k:=ek
  subst ek
  rw[cV]at st
  refine wpAny_pyNext_items_item st dd hy fun key h' hk out htup hsz kp=>⟨_,rfl,?_⟩
  refine wpAny_letOwnedTupleGo_items out fun g2 dq sb=>?_
  have rG:H s.heap.objs.size=none:=I.hok.fresh (av _)
  have I1:bb X ac σ (da H s.heap.objs.size (.tup [kV k',x])) { s with heap:=s.heap.push { cls:=.type "tuple",data:=.seq #[key,y] } }:=I.laid (t':=s.toks) (fun b o q=>ai _ q) (av _)
   ⟨by show 2<=sizeLine;decide,[key,y],.cons (GJ hk) (.cons rxy .nil),⟨_,ao _ rfl,rfl,_,rfl⟩⟩
  have nit:it≠s.heap.objs.size:=aT (az st)
  have I2:bb X ac σ (da H s.heap.objs.size (.tup [kV k',x])) { s with heap:=g2 }:=bb.turned (s:={ s with heap:=s.heap.push { cls:=.type "tuple",data:=.seq #[key,y] } }) (it:=it) (t':=s.toks) I1 (fun b o hb q=>?_) (by rw[bF nit];exact f0) f1 f3 f4 f5
  ·exact⟨.ref s.heap.objs.size,_,I2,rfl,⟨_,(k',x),hx,rG,rfl,rfl⟩,⟨_,_,by rw[cV];exact dq⟩,fun b hb=>by
    have e:b=it:=by simpa using hb
    subst e
    rw[bF nit];exact f0⟩
  ·have q':(s.heap.push { cls:=.type "tuple",data:=.seq #[key,y] }).get? b=some o:=q
   refine sb.extBut b o hb ?_
   by_cases hb2:b=s.heap.objs.size
   ·subst hb2
    have e1:=ao s.heap (o:={ cls:=.type "tuple",data:=.seq #[key,y] }) rfl
    rw[e1]at q';cases q'
    exact htup
   ·rw[fj _ _ _ hb2]at q'
    exact kp b o hb q'
 done:=by
  intro X hP hw hK hc i ac s σ H E I hf st hg
  subst hP hw hK
  obtain⟨ha,hi⟩:=hg
  obtain⟨ok,ov,st⟩:=st
  obtain⟨vs,m6,_,dd⟩:=y7 I ha
  have cV:kvs.length=vs.length:=m6.length
  obtain⟨f0,f1,f2,f3,f4,f5⟩:=hf it (by simp)
  rw[cV]at st
  exact wpAny_pyNext_items_end (I.ok.hd hc) st dd (by rw[aC];omega) fun h' eb=>⟨rfl,I.turned (t':=s.toks) (fun b o hb e=>eb b o hb e) f0 f1 f3 f4 f5⟩
 self:=fun _ _ _ _ _ st h=>let ⟨_,_,e⟩:=st;Dm e h
def Ku(te:TE):TI:=fun σ H R=>te σ H fun x H1=>∃a kvs,x=.ref a/\((H1 a=some (.dK kvs)/\∀o,R (Mp a o kvs) (da H1 a (.frz o (.dK kvs))))\/∃o,H1 a=some (.frz o (.dK kvs))/\R (Mp a o kvs) H1)
theorem Dn{gw:List Expr}{kk:Nat}{tp d7 cK:Pos}(he:PE X o te)(je:attributeBase o "items" X.env (eval o X.env)=eval o X.env:=by rfl)(jf:(d7.endLine==cK.line)=true:=by rfl) :
  PI X (.Tuple gw kk tp) (.Call (.Attribute o "items" d7) [] [] cK) (Ku te):=fun ac s σ H R I h=>by
 refine lh je jf (fU (he ac s σ H _ I h) fun u s1 hh=>?_)
 obtain⟨x,H1,I1,rx,a,kvs,rfl,hc⟩:=hh
 obtain rfl:u=Value.ref a:=rx
 have walk:∀(o:Obj) (H2:Hp),bb X ac σ H2 s1->H2 a=some (.frz o (.dK kvs))->R (Mp a o kvs) H2->MethodOn X.prog X.w X.A "items" cK (.ref a) [] (fun v s2=>wpAny (model X.prog X.w) X.A (pyIter v) (Pn X ac σ (.Tuple gw kk tp) R) X.xe s2) X.xe s1:=fun o H2 I2 ha q=>by
  obtain⟨vs,m6,hs,dd⟩:=y7 I2 ha
  have cV:kvs.length=vs.length:=m6.length
  obtain⟨ob,es,e1,e2,e3,e4⟩:=id dd
  have hof:s1.heap.DictOf (cX X.prog X.w) a vs:=⟨ob,es,_,e1,e2,e3,e4⟩
  refine⟨"dict","dict.items",PySem.F.plainAttrs_dict,PySem.F.slot_dict_items,PySem.F.type_dict_items,⟨ob,e1,e2.1⟩,fun b z=>by cases z;exact⟨ob,e1,e2.2.1⟩,fR rfl (PySem.evalArgs_none ?_)⟩
  refine pF PySem.F.slot_dict_items hof.typeIs PySem.F.entry_dict_items (PySem.F.args_dict_items_1 _) (meets_dict_items (cX X.prog X.w) a hs) ⟨⟨vs,hof⟩,?_⟩
  have k1:∀b o',s1.heap.get? b=some o'->(s1.heap.push { cls:=.type "dict_items",data:=.fields #[.ref a] }).get? b=some o':=fun b o' e=>ai _ e
  refine wpAny_pyIter_items (knd:=cX X.prog X.w) (d:=a) (kvs:=vs) (ep:=Br o) ⟨_,ao _ rfl,rfl,rfl⟩ ⟨ob,es,k1 _ _ e1,e2,e3,e4⟩ ?_
  have n1:(s1.heap.push { cls:=.type "dict_items",data:=.fields #[.ref a] }).objs.size=s1.heap.objs.size+1:=bt ..
  refine⟨s1.heap.objs.size+1,[s1.heap.objs.size+1],_,Mp a o kvs,H2,by rw[n1],I2.kept (t':=s1.toks) fun b o' e=>ai _ (k1 b o' e),zd a _ o kvs,?_,fun b hb=>?_,q⟩
  ·have:=ao (s1.heap.push { cls:=.type "dict_items",data:=.fields #[.ref a] }) (o:={ cls:=.type "dict_itemiterator",data:=.fields #[.none,.bool false,.ref a,.int 0 0,.int vs.length 0,.int (Br o) 0,.none,.none] }) rfl
   rw[n1]at this
   exact⟨_,_,by rw[cV];exact this⟩
  ·have e:b=s1.heap.objs.size+1:=by simpa using hb
   subst e
   exact I2.fpOk (e_ _) (I2.hok.fresh (e_ _))
 rcases hc with⟨ha,q⟩|⟨o,ha,q⟩
 ·obtain⟨_,_,vs,_,o,es,ep,ho,_⟩:=Hu I1.hok ha
  exact walk o _ (I1.freeze ha ho) c5 (q o)
 ·exact walk o H1 I1 ha q
def re(fe:FE):FI:=fun ρ st=>(fe ρ st).bind fun x st=>match iw st x with
 |some (n,kvs)=>.ok (kvs.map (fun p=>.tup [p.1.w,p.2]),none) (st.set n (.rod kvs))
 |none=>.bad
theorem Do{gw:List Expr}{kk:Nat}{tp d7 cK:Pos}(he:SE X o fe)(je:attributeBase o "items" X.env (eval o X.env)=eval o X.env:=by rfl)(jf:(d7.endLine==cK.line)=true:=by rfl) :
  SI X (.Tuple gw kk tp) (.Call (.Attribute o "items" d7) [] [] cK) (re fe):=⟨(Dn he.h je jf).imp fun σ H R h=>by
 obtain⟨μ,ρ,st,l,h⟩:=h
 refine⟨μ,ρ,st,l,RK.bind h l fun μ1 st1 x v H1 p1 x1 l1 q1 h1=>?_⟩
 cases e:iw st1 x with
 |none=>rw[e]at h1;exact h1.elim
 |some nk=>
  obtain⟨n,kvs⟩:=nk
  rw[e]at h1
  simp only at h1
  obtain⟨a,vs,hn,hm,rfl,ha,r⟩:=sk l1.sto e q1
  have wk:∀(o:Obj) (H2:Hp),db X.K H1 H2->H2 a=some (.frz o (.dK (dV kvs vs)))->vq X (Mp a o (dV kvs vs)) (kvs.map (fun p=>.tup [p.1.w,p.2]),none) μ1 H2:=fun o H2 x2 hz i μ' br H' pm xm S _=>by
   have hz':=xm.z _ _ _ hz
   have cV:(dV kvs vs).length=kvs.length:=C_ r
   refine⟨fun w hw=>?_,fun hi=>⟨hz',by rw[cV];simpa using hi⟩⟩
   rw[af]at hw
   obtain⟨p,hp,rfl⟩:=aJ.mp hw
   refine⟨⟨hz',by rw[cV];exact(ah.mp hp).1⟩,fun x H'' hy=>?_⟩
   obtain⟨pa,q,hq,rG,rfl,rfl⟩:=hy
   have hq2:=List.getElem?_zip_eq_some.mp (show((kvs.map fun p=>p.1.key).zip vs)[i]?=some (q.1,q.2)from hq)
   have ek:q.1=p.1.key:=by
    have:=hq2.1
    rw[af,hp]at this
    exact(aL this).symm
   obtain⟨v',PN,rv⟩:=(r.mono pm (x2.trans xm)).get (show(kvs.map fun p=>p.2)[i]?=some p.2 by rw[af,hp];rfl)
   have ev:v'=q.2:=by rw[hq2.2]at PN;exact(aL PN).symm
   subst ev
   have ex:=dW.same (K:=X.K) (bP rG (.tup [kV q.1,q.2]))
   refine⟨ex,S.same (bP rG _),.tupI dW.new (.consI ?_ (.consI (rv.mono (ae _) ex) .nilI))⟩
   rw[ek];exact DK.w_rel _
  refine⟨a,dV kvs vs,rfl,?_⟩
  rcases hn with hn|hn
  ·have hd:H1 a=some (.dK (dV kvs vs)):=by
    obtain⟨a',g,wn,k,_⟩:=l1.sto.get hn
    rw[hm]at g;cases g
    rcases ha with ha|⟨o,ha⟩
    ·exact ha
    ·rw[k]at ha;cases ha
   refine .inl ⟨hd,fun o=>?_⟩
   have hx:db X.K H1 (da H1 a (.frz o (.dK (dV kvs vs)))):=dW.butD gU hd
   have S2:gB X.K X.mg μ1 (st1.set n (.rod kvs)) (da H1 a (.frz o (.dK (dV kvs vs)))):=l1.sto.setG hn rfl hm hd (fun _ _ z=>by cases z) (fun _ z=>by cases z) hx rfl ⟨vs,o,c5,r.mono (ae _) hx⟩
   exact h1 μ1 _ _ (ae _) hx S2 (wk o _ hx c5)
  ·have hd:∃o,H1 a=some (.frz o (.dK (dV kvs vs))):=by
    obtain⟨a',g,wn,o,k,_⟩:=l1.sto.get hn
    rw[hm]at g;cases g
    rcases ha with ha|ha
    ·rw[k]at ha;cases ha
    ·exact ha
   obtain⟨o,hd⟩:=hd
   refine .inr ⟨o,hd,?_⟩
   rw[De hn]at h1
   exact h1 μ1 _ _ (ae _) db.refl l1.sto (wk o _ db.refl hd)⟩
open AutoSeq1 (wpAny_loadPart')
abbrev mi(h:Heap)(T:Addr)(a b:Value):Prop:=h.get? T=some { cls:=.type "tuple",data:=.seq #[a,b] }
section
variable{w:World}
theorem vF{T:Addr}{a b x:Value}{k:Nat}{Q:Unit->Shared->Prop}(hT:mi s.heap T a b)
  (h:∀h',h'.get? T=some { cls:=.type "tuple",data:=.seq ((#[a,b]:Array Value).setIfInBounds k x) }->Heap.SameBut T s.heap h'->Q () { s with heap:=h' }) :
  wpAny (model prog w) A (updateSeq T (·.setIfInBounds k x)) Q E s:=by
 refine wpAny_updateSeq hT rfl (h _ ?_ (gO ..))
 rw[eJ _ hT rfl]
 simp[Obj.mapSeq]
structure ZM(h:Heap)(n a b:Addr)(k:Nat)(f:Value):Prop where
 z:IsZip h (n+4) (n+2) (n+3) f
 P:mi h (n+2) (.ref n) (.ref (n+1))
 O:∃u v,mi h (n+3) u v
 i:h.IsListIter n a k
 j:h.IsTupleIter (n+1) b k
variable{n:Addr}{k:Nat}{xs:Array Value}{x y:Value}
theorem GR(ha:a<n)(hb:b<n)(q:ZM s.heap n a b k .none)(la:s.heap.IsList a xs)(lb:s.heap.IsTuple b ys)
  (hx:xs[k]?=some x) (hy:ys[k]?=some y)
  (hQ:∀g,ZM g n a b (k+1) (rawInt s.heap.objs.size)->mi g s.heap.objs.size x y ->
   (∀d o,d≠n+4->d≠n+3->d≠n->d≠n+1->s.heap.get? d=some o->g.get? d=some o)->Q (.ref s.heap.objs.size) { s with heap:=g }) :
  wpAny (model prog w) A (Builtin.«zip.__next__» ⟨[.ref (n+4)],[]⟩) (fun m5 s'=>∃v,m5=.done (.ret v)/\Q v s') E s:=by
 obtain⟨qz,qP,⟨u0,v0,qO⟩,q1,q2⟩:=q
 have N:∀{p q:Nat},p≠q->n+p≠n+q:=fun h e=>h (dL e)
 have M:∀{d p:Nat},d<n->d≠n+p:=fun h=>aT (aI h (Nat.le_add_right _ _))
 show wpAny _ _ (field (.ref (n+4)) 2 >>= _) _ _ _
 refine aa (aY qz rfl (x:=.bool false) rfl ?_)
 show wpAny _ _ (field (.ref (n+4)) 3 >>= _) _ _ _
 refine aa (aY qz rfl (x:=.ref (n+2)) rfl (aa (bG qP rfl ?_)))
 show wpAny _ _ (Builtin.SmallTypes.ownedTupleIsFree (.ref (n+4)) >>= _) _ _ _
 refine aa ?_;unfold Builtin.SmallTypes.ownedTupleIsFree
 refine aa (aY qz rfl (x:=.none) rfl (ar ?_));simp only[gz]
 refine aa (gp (aa (aY qz rfl (x:=.ref (n+3)) rfl ?_)))
 refine aa (bM qz (by simp) fun g1 z1 s1=>?_)
 replace z1:IsZip g1 (n+4) (n+2) (n+3) .ellipsis:=z1
 refine aa ?_
 simp only[i6,jo,g6,jV]
 refine aa (aa (fA ?_))
 show wpAny _ _ (Builtin.SmallTypes.nextOf (.ref n) >>= _) _ _ _
 have n0:∀p,p≠0->n≠n+p:=fun p h e=>h (dL (e.symm.trans (iE n).symm))
 refine aa (l9 (q1.extBut s1.extBut (n0 4 (by decide))) (la.extBut s1.extBut (M ha)) hx fun g2 k2 s2=>ar ?_)
 have O2:mi g2 (n+3) u0 v0:=s2.extBut _ _ (n0 3 (by decide)).symm (s1.extBut _ _ (N (by decide)) qO)
 refine aa (bG O2 rfl (aa (vF O2 fun g3 O3 s3=>?_)))
 replace O3:mi g3 (n+3) x v0:=O3
 refine aa (ji (ar (aa (aa (fA ?_)))))
 show wpAny _ _ (Builtin.SmallTypes.nextOf (.ref (n+1)) >>= _) _ _ _
 refine aa (gP (((q2.extBut s1.extBut (N (by decide))).extBut s2.extBut (n0 1 (by decide)).symm).extBut s3.extBut (N (by decide)))
  (((lb.extBut s1.extBut (M hb)).extBut s2.extBut (aT hb)).extBut s3.extBut (M hb)) hy fun g4 k4 s4=>ar ?_)
 have O4:mi g4 (n+3) x v0:=s4.extBut _ _ (N (by decide)) O3
 refine aa (bG O4 rfl (aa (vF O4 fun g5 O5 s5=>?_)))
 replace O5:mi g5 (n+3) x y:=O5
 refine aa (ji (ar (ar (aa (bG O5 rfl (aa (wpAny_newTuple ?_)))))))
 have sz:g5.objs.size=s.heap.objs.size:=by rw[s5.1,s4.1,s3.1,s2.1,s1.1]
 have kp:∀d o,d≠n+3->d≠n->d≠n+1->g1.get? d=some o->g5.get? d=some o:=fun d o c2 c3 c4 e=>
  s5.extBut _ _ c2 (s4.extBut _ _ c4 (s3.extBut _ _ c2 (s2.extBut _ _ c3 e)))
 have z7:IsZip g5 (n+4) (n+2) (n+3) .ellipsis:=kp _ _ (N (by decide)) (n0 4 (by decide)).symm (N (by decide)) z1
 have P7:mi g5 (n+2) (.ref n) (.ref (n+1)):=kp _ _ (N (by decide)) (n0 2 (by decide)).symm (N (by decide)) (s1.extBut _ _ (N (by decide)) qP)
 have a7:g5.IsListIter n a (k+1):=((k2.extBut s3.extBut (n0 3 (by decide))).extBut s4.extBut (n0 1 (by decide))).extBut s5.extBut (n0 3 (by decide))
 have b7:g5.IsTupleIter (n+1) b (k+1):=k4.extBut s5.extBut (N (by decide))
 have zlt:n+4<g5.objs.size:=az z7
 show wpAny _ _ (Builtin.SmallTypes.ownedTupleHandOut (.ref (n+4)) (.ref g5.objs.size) >>= _) _ _ _
 refine aa ?_;unfold Builtin.SmallTypes.ownedTupleHandOut
 have z8:IsZip (g5.push { cls:=.type "tuple",data:=.seq #[x,y] }) (n+4) (n+2) (n+3) .ellipsis:=ai _ z7
 refine aa (bM z8 (by simp) fun g9 z9 s9=>?_)
 replace z9:IsZip g9 (n+4) (n+2) (n+3) (rawInt g5.objs.size):=z9
 refine bM z9 (by simp) fun gA zA sA=>?_
 replace zA:IsZip gA (n+4) (n+2) (n+3) (rawInt g5.objs.size):=zA
 have up:∀d o,d≠n+4->g5.get? d=some o->gA.get? d=some o:=fun d o c1 e=>sA.extBut _ _ c1 (s9.extBut _ _ c1 (ai _ e))
 have TA:mi gA g5.objs.size x y:=sA.extBut _ _ (fP zlt) (s9.extBut _ _ (fP zlt) (ao _ rfl))
 rw[sz]at zA TA
 refine ar ⟨_,rfl,?_⟩
 show Q (.ref g5.objs.size) _
 rw[sz]
 exact hQ gA ⟨zA,up _ _ (N (by decide)) P7,⟨_,_,up _ _ (N (by decide)) O5⟩,a7.at fun o e=>up _ o (n0 4 (by decide)) e,b7.at fun o e=>up _ o (N (by decide)) e⟩ TA
  fun d o c1 c2 c3 c4 e=>up d o c1 (kp d o c2 c3 c4 (s1.extBut _ _ c1 e))
theorem Kv{Q:Fin->Shared->Prop}(hh:A.handled=none)(ha:a<n)(hb:b<n)(q:ZM s.heap n a b k .none)(la:s.heap.IsList a xs)(lb:s.heap.IsTuple b ys)
  (he:xs[k]?=none\/ys[k]?=none)
  (hE:∀g e,(∀d o,d≠n+4->d≠n+3->d≠n->d≠n+1->s.heap.get? d=some o->g.get? d=some o)->(∃o,g.get? e=some o/\o.cls=.type "StopIteration")->E (.ref e) { s with heap:=g }) :
  wpAny (model prog w) A (Builtin.«zip.__next__» ⟨[.ref (n+4)],[]⟩) Q E s:=by
 obtain⟨qz,qP,⟨u0,v0,qO⟩,q1,q2⟩:=q
 have N:∀{p q:Nat},p≠q->n+p≠n+q:=fun h e=>h (dL e)
 have M:∀{d p:Nat},d<n->d≠n+p:=fun h=>aT (aI h (Nat.le_add_right _ _))
 have n0:∀p,p≠0->n≠n+p:=fun p h e=>h (dL (e.symm.trans (iE n).symm))
 show wpAny _ _ (field (.ref (n+4)) 2 >>= _) _ _ _
 refine aa (aY qz rfl (x:=.bool false) rfl ?_)
 show wpAny _ _ (field (.ref (n+4)) 3 >>= _) _ _ _
 refine aa (aY qz rfl (x:=.ref (n+2)) rfl (aa (bG qP rfl ?_)))
 show wpAny _ _ (Builtin.SmallTypes.ownedTupleIsFree (.ref (n+4)) >>= _) _ _ _
 refine aa ?_;unfold Builtin.SmallTypes.ownedTupleIsFree
 refine aa (aY qz rfl (x:=.none) rfl (ar ?_));simp only[gz]
 refine aa (gp (aa (aY qz rfl (x:=.ref (n+3)) rfl ?_)))
 refine aa (bM qz (by simp) fun g1 z1 s1=>?_)
 replace z1:IsZip g1 (n+4) (n+2) (n+3) .ellipsis:=z1
 refine aa ?_
 simp only[i6,jo,g6,jV]
 refine aa (aa (fA ?_))
 show wpAny _ _ (Builtin.SmallTypes.nextOf (.ref n) >>= _) _ _ _
 have m5:∀(g2:Heap) (e:Addr),(∀d o,d≠n+3->d≠n->d≠n+1->g1.get? d=some o->g2.get? d=some o)->(∃o,g2.get? e=some o/\o.cls=.type "StopIteration")->wpAny (model prog w) A (setField (.ref (n+4)) 0 .none) (fun _ s'=>E (.ref e) s') E { s with heap:=g2 }:=fun g2 e kp ye=>by
  obtain⟨oe,h1,h2⟩:=ye
  have z2:IsZip g2 (n+4) (n+2) (n+3) .ellipsis:=kp _ _ (N (by decide)) (n0 4 (by decide)).symm (N (by decide)) z1
  have nez:e≠n+4:=fun q=>by subst q;rw[z2]at h1;cases h1;simp at h2
  exact bM z2 (by simp) fun g3 _ s3=>hE g3 e (fun d o c1 c2 c3 c4 q=>s3.extBut _ _ c1 (kp d o c2 c3 c4 (s1.extBut _ _ c1 q))) ⟨oe,s3.extBut _ _ nez h1,h2⟩
 cases hx:xs[k]? with
 |none=>
  exact aa (mL hh (q1.extBut s1.extBut (n0 4 (by decide))) (la.extBut s1.extBut (M ha)) hx fun g2 e s2 ye=>m5 g2 e (fun d o _ c3 _ q=>s2 _ _ c3 q) ye)
 |some x=>
  have hy:ys[k]?=none:=by rcases he with h|h;rw[hx]at h;cases h;exact h
  refine aa (l9 (q1.extBut s1.extBut (n0 4 (by decide))) (la.extBut s1.extBut (M ha)) hx fun g2 k2 s2=>ar ?_)
  have O2:mi g2 (n+3) u0 v0:=s2.extBut _ _ (n0 3 (by decide)).symm (s1.extBut _ _ (N (by decide)) qO)
  refine aa (bG O2 rfl (aa (vF O2 fun g3 O3 s3=>?_)))
  refine aa (ji (ar (aa (aa (fA ?_)))))
  show wpAny _ _ (Builtin.SmallTypes.nextOf (.ref (n+1)) >>= _) _ _ _
  exact aa (im hh (((q2.extBut s1.extBut (N (by decide))).extBut s2.extBut (n0 1 (by decide)).symm).extBut s3.extBut (N (by decide)))
   (((lb.extBut s1.extBut (M hb)).extBut s2.extBut (aT hb)).extBut s3.extBut (M hb)) hy fun g4 e s4 ye=>m5 g4 e (fun d o c2 c3 c4 q=>s4 _ _ c4 (s3.extBut _ _ c2 (s2.extBut _ _ c3 q))) ye)
theorem GS{Q:Option Value->Shared->Prop}(ha:a<n)(hb:b<n)(q:ZM s.heap n a b k .none)(la:s.heap.IsList a xs)(lb:s.heap.IsTuple b ys)
  (hx:xs[k]?=some x) (hy:ys[k]?=some y)
  (hQ:∀g,ZM g n a b (k+1) (rawInt s.heap.objs.size)->mi g s.heap.objs.size x y ->
   (∀d o,d≠n+4->d≠n+3->d≠n->d≠n+1->s.heap.get? d=some o->g.get? d=some o)->Q (some (.ref s.heap.objs.size)) { s with heap:=g }) :
  wpAny (model prog w) A (pyNext (.ref (n+4))) Q E s:=by
 have T:s.TypeIs (.ref (n+4)) "zip":=⟨_,q.z,rfl⟩
 unfold pyNext
 exact aa (dR (bf (name:=Str.ofString "__next__") T dF (bp dF T i7
   (GR ha hb q la lb hx hy fun g a1 a2 a3=>ar (hQ g a1 a2 a3)) (iJ _))))
theorem GT{Q:Option Value->Shared->Prop}(hh:A.handled=none)(ha:a<n)(hb:b<n)(q:ZM s.heap n a b k .none)(la:s.heap.IsList a xs)(lb:s.heap.IsTuple b ys)
  (he:xs[k]?=none\/ys[k]?=none)
  (hQ:∀g,(∀d o,d≠n+4->d≠n+3->d≠n->d≠n+1->s.heap.get? d=some o->g.get? d=some o)->Q none { s with heap:=g }):wpAny (model prog w) A (pyNext (.ref (n+4))) Q E s:=by
 have T:s.TypeIs (.ref (n+4)) "zip":=⟨_,q.z,rfl⟩
 unfold pyNext
 refine aa (dR (bf (name:=Str.ofString "__next__") T dF (bp dF T i7 (Kv hh ha hb q la lb he fun g e hk ye=>?_) (iJ _))))
 obtain⟨o,ho,rH⟩:=ye
 exact aa (cI (T:="StopIteration") (b:=true) ⟨o,ho,rH⟩ iG (ar (hQ _ hk)))
end
abbrev Py(h:Heap)(a b:Addr):Heap:=(Px h a).push (jt b)
abbrev Pz(h:Heap)(a b:Addr):Heap:=(Py h a b).push { cls:=.type "tuple",data:=.seq #[.ref h.objs.size,.ref (Px h a).objs.size] }
abbrev PB(h:Heap)(a b:Addr):Heap:=(Pz h a b).push { cls:=.type "tuple",data:=.seq #[.none,.none] }
abbrev Mq(h:Heap)(a b:Addr):Heap:=(PB h a b).push { cls:=.type "zip",data:=.fields #[.none,.bool false,.bool false,.ref (Py h a b).objs.size,.ref (Pz h a b).objs.size] }
theorem Kw     (a b : Addr) (xs ys : Array Value) : Meets (Builtin.«zip.__new__» ⟨[.type "zip", .ref a, .ref b], []⟩) (fun _ R s => s.heap.IsList a xs /\ s.heap.IsTuple b ys /\
      R (.ok (.ret (.ref (PB  s.heap a b).objs.size))) { s with heap := Mq  s.heap a b }) :=
  .of_wp fun prog w A R s h => by
    obtain ⟨hp, g, d, tk, os⟩ := s
    obtain ⟨ha, hb, h⟩ := h
    have sb := sub_zip
    have hA : Heap.IsList (Shared.heap ⟨hp, g, d, tk, os⟩) a xs := ha
    have hB : Heap.IsTuple (Shared.heap ⟨hp.push (lH      a), g, d, tk, os⟩) b ys := hb.at fun o e => ai                     _ e
    wp_walk using gj                hA, d8                 hB
    exact ⟨_, rfl, h⟩
section
variable{w:World}
theorem GU{xs:Array Value}(ha:s.heap.IsList a xs)(hb:s.heap.IsTuple b ys)
  (q:∀g,ZM g s.heap.objs.size a b 0 .none->(∀d o,s.heap.get? d=some o->g.get? d=some o)->Q (.ref (s.heap.objs.size+4)) { s with heap:=g }) :
  wpAny (model prog w) A (call (.type "zip") [.ref a,.ref b]) Q E s:=by
 refine jC F.called_zip (by decide) (F.typeCall_zip_2 _ _) (F.newCall_zip_2 _ _) (fun ob=>F.args_object_init_3 ob _ _) F.entry_zip_new (Kw a b xs ys) ⟨ha,hb,?_⟩
 have n1:(Px s.heap a).objs.size=s.heap.objs.size+1:=bt ..
 have n2:(Py s.heap a b).objs.size=s.heap.objs.size+2:=by rw[bt,n1]
 have n3:(Pz s.heap a b).objs.size=s.heap.objs.size+3:=by rw[bt,n2]
 have n4:(PB s.heap a b).objs.size=s.heap.objs.size+4:=by rw[bt,n3]
 have p:∀{h:Heap} {c:Addr} {o u:Obj},h.get? c=some o->(h.push u).get? c=some o:=fun e=>ai _ e
 have g5:(Mq s.heap a b).get? (PB s.heap a b).objs.size=some _:=ao _ rfl
 have g4:(Mq s.heap a b).get? (Pz s.heap a b).objs.size=some _:=p (ao _ rfl)
 have g3:(Mq s.heap a b).get? (Py s.heap a b).objs.size=some _:=p (p (ao _ rfl))
 have g2:(Mq s.heap a b).get? (Px s.heap a).objs.size=some _:=p (p (p (ao _ rfl)))
 have g1:(Mq s.heap a b).get? s.heap.objs.size=some _:=p (p (p (p (ao _ rfl))))
 show _/\_
 rw[n2,n3,n4]at g5
 rw[n1,n2]at g3
 rw[n3]at g4
 rw[n1]at g2
 rw[n4]
 exact⟨⟨_,g5,rfl⟩,q _ ⟨g5,g3,⟨_,_,g4⟩,⟨_,g1,rfl,rfl⟩,⟨_,g2,rfl,rfl⟩⟩ fun d o e=>p (p (p (p (p e))))⟩
end
def Rz(K:Frag)(a b:Addr):It:=
  ⟨fun i H=>∃xs ys x y,jr K H a xs/\dW K H b ys/\xs[i]?=some x/\ys[i]?=some y,
   fun i H v H'=>∃p,H p=none/\v=.ref p/\∀xs ys x y,jr K H a xs->dW K H b ys->xs[i]?=some x->ys[i]?=some y->H'=da H p (.tup [x,y]),
   fun i H=>∃xs ys,jr K H a xs/\dW K H b ys/\(xs.length<=i\/ys.length<=i)⟩
theorem GV{w:World}{n:Addr}(ha:a<n)(hb:b<n) :
  rK P w K (.Tuple gw kk pos) (Rz K a b) [n+4,n+2,n+3,n,n+1] (n+4) (fun k h=>ZM h n a b k .none) where
 mem:=by simp
 obj:=fun k h st d hd=>by
  obtain⟨h1,h2,⟨u,v,h3⟩,⟨o4,e4,_,d4⟩,⟨o5,e5,_,d5⟩⟩:=st
  have q:d=n+4\/d=n+2\/d=n+3\/d=n\/d=n+1:=by simpa using hd
  rcases q with rfl|rfl|rfl|rfl|rfl
  ·exact⟨_,h1,fun v q=>by cases q⟩
  ·exact⟨_,h2,fun v q=>by cases q⟩
  ·exact⟨_,h3,fun v q=>by cases q⟩
  ·exact⟨_,e4,fun v q=>by rw[d4]at q;cases q⟩
  ·exact⟨_,e5,fun v q=>by rw[d5]at q;cases q⟩
 keep:=fun k h h' st kp=>by
  obtain⟨h1,h2,⟨u,v,h3⟩,h4,h5⟩:=st
  exact⟨kp (n+4) (by simp) _ h1,kp (n+2) (by simp) _ h2,⟨u,v,kp (n+3) (by simp) _ h3⟩,h4.at fun o e=>kp n (by simp) o e,h5.at fun o e=>kp (n+1) (by simp) o e⟩
 item:=by
  intro X hP hw hK hc' k ac s σ H E I hf st hg
  subst hP hw hK
  obtain⟨xs,ys,x,y,hq,hr,hx,hy⟩:=hg
  obtain⟨bd,r1,p1,_⟩:=I.list hq
  obtain⟨jts,r2,p2,_⟩:=I.tuple hr
  obtain⟨u,hu,ru⟩:=r1.get hx
  obtain⟨v,hv,rv⟩:=r2.get hy
  refine GS ha hb st (show s.heap.IsList a bd.toArray from p1.isList) (show s.heap.IsTuple b jts.toArray from p2) (x:=u) (y:=v) (by simpa using hu) (by simpa using hv) fun g a1 a5 kp=>⟨_,rfl,?_⟩
  refine gE a1.z fun g2 b1 s2=>?_
  have rG:H s.heap.objs.size=none:=I.hok.fresh (av _)
  have I1:bb X ac σ (da H s.heap.objs.size (.tup [x,y])) { s with heap:=s.heap.push { cls:=.type "tuple",data:=.seq #[u,v] },toks:=s.toks }:=I.laid (fun c o q=>ai _ q) (av _)
   ⟨by show 2<=sizeLine;decide,[u,v],.cons ru (.cons rv .nil),⟨_,ao _ rfl,rfl,_,rfl⟩⟩
  have lt:∀{c o},s.heap.get? c=some o->c≠s.heap.objs.size:=fun e=>aT (az e)
  have nf:∀d∈[n+4,n+2,n+3,n,n+1],d≠s.heap.objs.size:=fun d hd=>by
   obtain⟨h1,h2,⟨u,v,h3⟩,⟨o4,e4,_,d4⟩,⟨o5,e5,_,d5⟩⟩:=st
   have q:d=n+4\/d=n+2\/d=n+3\/d=n\/d=n+1:=by simpa using hd
   rcases q with rfl|rfl|rfl|rfl|rfl
   ·exact lt h1
   ·exact lt h2
   ·exact lt h3
   ·exact lt e4
   ·exact lt e5
  have fp:∀d∈[n+4,n+2,n+3,n,n+1],nP X ac (da H s.heap.objs.size (.tup [x,y])) d:=fun d hb=>by
   obtain⟨f0,f⟩:=hf d hb
   exact⟨by rw[bF (nf d hb)];exact f0,f⟩
  have N:∀{p q:Nat},p≠q->n+p≠n+q:=fun h e=>h (dL e)
  have n0:∀p,p≠0->n≠n+p:=fun p h e=>h (dL (e.symm.trans (iE n).symm))
  have I2:bb X ac σ (da H s.heap.objs.size (.tup [x,y])) { s with heap:=g2,toks:=s.toks }:=bb.turnedL (s:={ s with heap:=s.heap.push { cls:=.type "tuple",data:=.seq #[u,v] },toks:=s.toks }) (ch:=[n+4,n+3,n,n+1]) (t':=s.toks) I1 (fun d o hb q=>?_) fun d hb=>fp d (by
   have q:d=n+4\/d=n+3\/d=n\/d=n+1:=by simpa using hb
   rcases q with rfl|rfl|rfl|rfl<;>simp)
  ·refine⟨.ref s.heap.objs.size,_,I2,rfl,⟨_,rG,rfl,fun xs' IU x' y' e1 e2 e4 e5=>?_⟩,⟨b1,s2.extBut _ _ (N (by decide)) a1.P,let ⟨_,_,q⟩:=a1.O;⟨_,_,s2.extBut _ _ (N (by decide)) q⟩,a1.i.extBut s2.extBut (n0 4 (by decide)),a1.j.extBut s2.extBut (N (by decide))⟩,fun d hb=>(fp d hb).1⟩
   have q1:=I.list_inj e1 hq
   have q2:=I.tuple_inj e2 hr
   subst q1 q2
   rw[hx]at e4;rw[hy]at e5;cases e4;cases e5;rfl
  ·have q':(s.heap.push { cls:=.type "tuple",data:=.seq #[u,v] }).get? d=some o:=q
   have hn:d≠n+4/\d≠n+3/\d≠n/\d≠n+1:=by simpa using hb
   refine s2.extBut d o hn.1 ?_
   by_cases hb':d=s.heap.objs.size
   ·subst hb'
    have e1:=ao s.heap (o:={ cls:=.type "tuple",data:=.seq #[u,v] }) rfl
    rw[e1]at q';cases q'
    exact a5
   ·rw[fj _ _ _ hb']at q'
    exact kp d o hn.1 hn.2.1 hn.2.2.1 hn.2.2.2 q'
 done:=by
  intro X hP hw hK hc' k ac s σ H E I hf st hg
  subst hP hw hK
  obtain⟨xs,ys,hq,hr,he⟩:=hg
  obtain⟨bd,r1,p1,_⟩:=I.list hq
  obtain⟨jts,r2,p2,_⟩:=I.tuple hr
  have l1:=r1.length
  have l2:=r2.length
  refine GT (I.ok.hd hc') ha hb st (show s.heap.IsList a bd.toArray from p1.isList) (show s.heap.IsTuple b jts.toArray from p2) (by
   rcases he with q|q
   ·exact .inl (by simp;omega)
   ·exact .inr (by simp;omega)) fun g kp=>⟨rfl,?_⟩
  exact I.turnedL (ch:=[n+4,n+3,n,n+1]) (t':=s.toks) (fun d o hb q=>by
   have hn:d≠n+4/\d≠n+3/\d≠n/\d≠n+1:=by simpa using hb
   exact kp d o hn.1 hn.2.1 hn.2.2.1 hn.2.2.2 q) fun d hb=>hf d (by
   have q:d=n+4\/d=n+3\/d=n\/d=n+1:=by simpa using hb
   rcases q with rfl|rfl|rfl|rfl<;>simp)
 self:=fun A k s Q E st h=>fJ st.z h
def QW(K:Frag)(ta:TA):TI:=fun σ H R=>ta σ H fun vs H1=>∃a b,vs=[.ref a,.ref b]/\(∃ys,dW K H1 b ys)/\((∃xs,dW K H1 a xs)/\R (Rx K a b) H1\/(∃xs,jr K H1 a xs)/\R (Rz K a b) H1)
theorem GW{a b:Expr}{p pos tp:Pos}{gw:List Expr}{kk:Nat}(hm:X.mg "zip"=none)(ha:QA X [a,b] ta)(hg:Gl X "zip":=by rfl)(hs:starEach [a,b] X.env=(false,eval a X.env)::starEach [b] X.env:=by rfl)
  (rJ:(backTo pos (starEach [b] X.env)).any (·.1)=false:=by rfl):QI X (.Tuple gw kk tp) (.Call (.Name "zip" p) [a,b] [] pos) (QW X.K ta):=⟨by
 intro ac s σ H R I h
 refine Call_ (jG I hg hm boot_zip (bv (fU (ha.h pos ac s σ H _ I h) fun us s1 ⟨vs,H1,I1,r1,q1⟩=>?_) hs rJ))
 obtain⟨t,t',e,⟨ys,hr⟩,q⟩:=q1
 subst e
 cases r1 with
 |cons x1 r1=>cases r1 with
  |cons x2 r1=>
   cases r1
   cases x1
   cases x2
   obtain⟨jts,ko,p2,_⟩:=I1.tuple hr
   have lt2:t'<s1.heap.objs.size:=by obtain⟨_,e,_⟩:=(show s1.heap.IsTuple t' jts.toArray from p2);exact az e
   rcases q with⟨⟨xs,hq⟩,q⟩|⟨⟨xs,hq⟩,q⟩
   ·obtain⟨bd,rv,p1,_⟩:=I1.tuple hq
    have lt1:t<s1.heap.objs.size:=by obtain⟨_,e,_⟩:=(show s1.heap.IsTuple t bd.toArray from p1);exact az e
    refine Gz (show s1.heap.IsTuple t bd.toArray from p1) (show s1.heap.IsTuple t' jts.toArray from p2) fun g e1 e2 e3 e4 e5 kp=>?_
    refine fJ e1 ?_
    refine⟨s1.heap.objs.size+4,[s1.heap.objs.size+4,s1.heap.objs.size+2,s1.heap.objs.size+3,s1.heap.objs.size,s1.heap.objs.size+1],_,_,H1,rfl,I1.kept (t':=s1.toks) kp,GA (zipApart_new lt1 lt2),⟨e1,e2,⟨_,_,e3⟩,e4,e5⟩,fun c hb=>?_,q⟩
    have hc:s1.heap.objs.size<=c:=by
     have z:c=s1.heap.objs.size+4\/c=s1.heap.objs.size+2\/c=s1.heap.objs.size+3\/c=s1.heap.objs.size\/c=s1.heap.objs.size+1:=by simpa using hb
     rcases z with rfl|rfl|rfl|rfl|rfl<;>simp
    exact I1.fpOk hc (I1.hok.fresh hc)
   ·obtain⟨bd,rv,p1,_⟩:=I1.list hq
    have lt1:t<s1.heap.objs.size:=by obtain⟨_,e,_⟩:=(show s1.heap.IsList t bd.toArray from p1.isList);exact az e
    refine GU (show s1.heap.IsList t bd.toArray from p1.isList) (show s1.heap.IsTuple t' jts.toArray from p2) fun g e1 kp=>?_
    refine fJ e1.z ?_
    refine⟨s1.heap.objs.size+4,[s1.heap.objs.size+4,s1.heap.objs.size+2,s1.heap.objs.size+3,s1.heap.objs.size,s1.heap.objs.size+1],_,_,H1,rfl,I1.kept (t':=s1.toks) kp,GV lt1 lt2,e1,fun c hb=>?_,q⟩
    have hc:s1.heap.objs.size<=c:=by
     have z:c=s1.heap.objs.size+4\/c=s1.heap.objs.size+2\/c=s1.heap.objs.size+3\/c=s1.heap.objs.size\/c=s1.heap.objs.size+1:=by simpa using hb
     rcases z with rfl|rfl|rfl|rfl|rfl<;>simp
    exact I1.fpOk hc (I1.hok.fresh hc)⟩
section
variable{a b:Expr}{fs:FA}
def pV(fs:FA):FI:=fun ρ st=>(fs ρ st).bind fun ws st=>match ws with
 |[.tup xs,.tup ys]=>.ok (iM xs ys,none) st
 |[.loc n,.tup ys]=>(match lstOf st n with
  |some xs=>.ok (iM xs ys,some (n,xs)) st
  |none=>.bad)
 |_=>.bad
theorem Aq{gw:List Expr}{kk:Nat}{tp:Pos}(hm:X.mg "zip"=none)(ha:SA X [a,b] fs)(hg:Gl X "zip":=by rfl)(hs:starEach [a,b] X.env=(false,eval a X.env)::starEach [b] X.env:=by rfl)(qy:(backTo pos (starEach [b] X.env)).any (·.1)=false:=by rfl) :
  SI X (.Tuple gw kk tp) (.Call (.Name "zip" p) [a,b] [] pos) (pV fs):=⟨(GW hm ⟨ha.h⟩ hg hs qy).h.imp fun σ H R h=>by
 obtain⟨μ,ρ,st,l,h⟩:=h
 refine⟨μ,ρ,st,l,RK.bind h l fun μ1 st1 x v H1 p1 x1 l1 q1 h1=>?_⟩
 split at h1
 ·rename_i ws us
  obtain⟨y,ys,rfl,ry,r1⟩:=q1.consE
  obtain⟨y2,rfl,ry2⟩:=r1.one
  obtain⟨t,vs,rfl,hS,r⟩:=ry.tupE
  obtain⟨t',wn,rfl,hS',r'⟩:=ry2.tupE
  refine⟨t,t',rfl,⟨wn,hS'⟩,.inl ⟨⟨vs,hS⟩,h1 μ1 _ H1 (ae _) db.refl l1.sto fun i μ' br H' pp xx S _=>?_⟩⟩
  refine⟨fun w hw=>?_,fun hl=>⟨vs,wn,xx _ _ hS,xx _ _ hS',by rw[gQ]at hl;rw[<- r.len,<- r'.len];omega⟩⟩
  obtain⟨x,y,hx,hy,rfl⟩:=iu hw
  have m1:=r.mono pp xx
  have m2:=r'.mono pp xx
  obtain⟨v1,g1,g2⟩:=m1.get hx
  obtain⟨v2,g3,g4⟩:=m2.get hy
  refine⟨⟨vs,wn,v1,v2,xx _ _ hS,xx _ _ hS',g1,g3⟩,fun u H'' hu=>?_⟩
  obtain⟨q,hq,rfl,hH⟩:=hu
  have e:=hH vs wn v1 v2 (xx _ _ hS) (xx _ _ hS') g1 g3
  subst e
  have ex:=dW.same (K:=X.K) (bP hq (.tup [v1,v2]))
  exact⟨ex,S.same (bP hq _),.tupI dW.new (.consI (g2.mono (ae _) ex) (.consI (g4.mono (ae _) ex) .nilI))⟩
 ·rename_i n us
  obtain⟨y,ys,rfl,ry,r1⟩:=q1.consE
  obtain⟨y2,rfl,ry2⟩:=r1.one
  obtain⟨t1,ha1,rfl⟩:=ry.locE
  obtain⟨t,vs,rfl,hS,r⟩:=ry2.tupE
  cases e1:lstOf st1 n with
  |none=>rw[e1]at h1;exact h1.elim
  |some xs=>
   rw[e1]at h1
   obtain⟨a',vs0,g0,hS0,r0⟩:=l1.sto.lstOf e1
   rw[ha1]at g0;cases g0
   refine⟨t1,t,rfl,⟨vs,hS⟩,.inr ⟨⟨vs0,hS0⟩,h1 μ1 _ H1 (ae _) db.refl l1.sto fun i μ' br H' pp xx S ck=>?_⟩⟩
   obtain⟨a2,vl,g2,hL,rl⟩:=S.lstOf (show lstOf br n=some xs from ck)
   have:μ'[n]?=some t1:=L2.pre_get pp ha1
   rw[g2]at this;cases this
   refine⟨fun w hw=>?_,fun hl=>⟨vl,vs,hL,xx _ _ hS,by rw[gQ]at hl;rw[<- rl.len,<- r.len];omega⟩⟩
   obtain⟨x,y,hx,hy,rfl⟩:=iu hw
   have m1:=r.mono pp xx
   obtain⟨v0,f1,f2⟩:=rl.get hx
   obtain⟨v1,g1,g2⟩:=m1.get hy
   refine⟨⟨vl,vs,v0,v1,hL,xx _ _ hS,f1,g1⟩,fun u H'' hu=>?_⟩
   obtain⟨q,hq,rfl,hH⟩:=hu
   have e:=hH vl vs v0 v1 hL (xx _ _ hS) f1 g1
   subst e
   have ex:=dW.same (K:=X.K) (bP hq (.tup [v0,v1]))
   exact⟨ex,S.same (bP hq _),.tupI dW.new (.consI (f2.mono (ae _) ex) (.consI (g2.mono (ae _) ex) .nilI))⟩
 ·exact h1.elim⟩
end
theorem lJ(st x:List am)(k:Nat):(st++x)[st.length+k]?=x[k]?:=by rw[cb (by omega)];congr 1;omega
theorem gR(st x:List am):(st++x)[st.length]?=x[0]?:=lJ st x 0
theorem oN(st x:List am)(k:Nat)(c:am):(st++x).set (st.length+k) c=st++x.set k c:=by rw[List.set_append_right _ _ (by omega)];congr 2;omega
theorem jE(st x:List am)(c:am):(st++x).set st.length c=st++x.set 0 c:=oN st x 0 c
theorem bI{x:List am}{c:am}(h:st[n]?=some c):(st++x)[n]?=some c:=by
 rw[aF (ah.mp h).1];exact h
theorem ze(st:List am)(ws:List W):j_ st st ws=st:=by unfold j_;split<;>simp
theorem uG{st x:List am}{ws:List W}(h:undWs st.length ws=true):j_ st (st++x) ws=st:=by
 unfold j_
 rw[aw ⟨h,by simp,fun i hi=>.inl (aF hi)⟩]
 simp
theorem pW(h:undWs st.length ws=false):j_ st br ws=br:=by
 unfold j_
 rw[ay fun k=>by have:=k.1;rw[h]at this;cases this]
theorem no{N:Nat}{body:FS}{ws:List W}{w:W}(h:body (ws.map some++List.replicate (N-ws.length) none) st=.rt w br):dB N body ws st=.ok w (j_ st br [w]):=by
 unfold dB;rw[h]
theorem nq{body:FS}{w:W}(h:body (ws.map some++List.replicate (N-ws.length) none) st=.rt w st):dB N body ws st=.ok w st:=by
 rw[no h,ze]
theorem xz{body:FS}{x:List am}{w:W}(h:body (ws.map some++List.replicate (N-ws.length) none) st=.rt w (st++x))(hu:undWs st.length [w]=true):dB N body ws st=.ok w st:=by
 rw[no h,uG hu]
theorem Dq{body:FS}{x:List am}{k:Nat}(h:body (ws.map some++List.replicate (N-ws.length) none) st=.rt (.loc (st.length+k)) (st++x)):dB N body ws st=.ok (.loc (st.length+k)) (st++x):=by
 rw[no h,pW (by simp[undWs,W.und])]
theorem Dr{g g':FS}{ρ':cv}(h:g ρ st=.nx ρ' br):be g g' ρ st=g' ρ' br:=by unfold be;rw[h]
theorem Ar{f:FG}{body:FS}{k:Bn}(h:fi ρ st=.ok k br):gI fi f body ρ st=rZ f body k.2 k.1 ρ br:=by unfold gI;rw[h];rfl
theorem sy{f:FG}{body:FS}{ck:Option (Nat×List W)}(I:Nat->cv->List am->Prop):∀{ws:List W} {ρ:cv} {st:List am} (i0:Nat),I i0 ρ st->(∀i ρ st,I i ρ st->iO st ck) ->
  (∀i w ρ st,ws[i]?=some w->I (i0+i) ρ st->∃ρ' ρ2 dq,f w ρ=some ρ'/\body ρ' st=.nx ρ2 dq/\I (i0+i+1) ρ2 dq) ->
  ∃ρ2 dq,rZ f body ck ws ρ st=.nx ρ2 dq/\I (i0+ws.length) ρ2 dq
 |[],ρ,st,i0,h0,hc,hs=>⟨ρ,st,by unfold rZ;rw[aw (hc _ _ _ h0)],h0⟩
 |w::ws,ρ,st,i0,h0,hc,hs=>by
  obtain⟨ρ',ρ2,dq,e1,e2,h1⟩:=hs 0 w ρ st rfl h0
  obtain⟨ρ3,mn,e3,h3⟩:=sy I (ws:=ws) (ρ:=ρ2) (st:=dq) (i0+1) h1 hc fun i w ρ st hw hI=>by
   obtain⟨a,b,c,d,e,g⟩:=hs (i+1) w ρ st (by simpa using hw) (by rw[show i0+(i+1)=i0+1+i by omega];exact hI)
   exact⟨a,b,c,d,e,by rw[show i0+1+i+1=i0+(i+1)+1 by omega];exact g⟩
  refine⟨ρ3,mn,?_,by rw[a9,show i0+(ws.length+1)=i0+1+ws.length by omega];exact h3⟩
  unfold rZ
  rw[aw (hc _ _ _ h0),e1]
  simp only[e2]
  exact e3
section
variable{ρ':cv}{dq mn PR:List am}{fo fi:FE}{fs:FA}{t u:FT}{x y z w v:W}{xs zs:List W}{a b k:Bool}{g g':FS}
theorem iP(h:ρ[i]?=some (some w)):al i ρ st=.ok w st:=by unfold al;rw[h]
theorem gg:eC w ρ st=.ok w st:=rfl
theorem dS{f:W->W->List am->R W}(h1:fa ρ st=.ok x st1)(h2:fb ρ st1=.ok y dq)(h3:f x y dq=.ok z mn):e2 f fa fb ρ st=.ok z mn:=by unfold e2;rw[h1];simp only[R.bind_ok];rw[h2];exact h3
theorem bB:aK ρ st=.ok [] st:=rfl
theorem aD(h1:fa ρ st=.ok x st1)(h2:fs ρ st1=.ok xs dq):au fa fs ρ st=.ok (x::xs) dq:=by unfold au;rw[h1];simp only[R.bind_ok];rw[h2];rfl
theorem Kx:Nq ls ρ st=.ok (ls.map W.str) st:=rfl
theorem sB(h1:fs ρ st=.ok ws st1)(h2:ws.length<=kI):pM fs ρ st=.ok (.tup ws) st1:=by unfold pM;rw[h1];simp only[R.bind_ok,nC];rw[aw h2]
theorem oO(h1:fs ρ st=.ok ws st1)(h2:ws.length<=kI):mD fs ρ st=.ok (.loc st1.length) (st1++[.lst ws]):=by unfold mD;rw[h1];simp only[R.bind_ok,jp];rw[aw h2]
theorem dY(h1:fs ρ st=.ok ws st1)(h2:F ws st1=.ok w dq):cq F fs ρ st=.ok w dq:=by unfold cq;rw[h1];exact h2
theorem cL(h1:fs ρ st=.ok ws st1)(h2:F ws st1=.ok w dq)(hn:ws.length=n):c6 n F fs ρ st=.ok w dq:=by unfold c6;rw[h1];simp only[R.bind_ok];rw[aw hn];exact h2
theorem dZ(h:fa ρ st=.ok (.bl k) st1):jJ fa ρ st=.ok k st1:=by unfold jJ;rw[h];rfl
theorem rf(h1:t ρ st=.ok true st1)(h2:u ρ st1=.ok k dq):J4 t u ρ st=.ok k dq:=by unfold J4;rw[h1];exact h2
theorem vG(h1:t ρ st=.ok false st1):J4 t u ρ st=.ok false st1:=by unfold J4;rw[h1];rfl
theorem vH(h1:t ρ st=.ok false st1)(h2:u ρ st1=.ok k dq):J5 t u ρ st=.ok k dq:=by unfold J5;rw[h1];exact h2
theorem As(h1:t ρ st=.ok true st1):J5 t u ρ st=.ok true st1:=by unfold J5;rw[h1];rfl
theorem Au(h1:t ρ st=.ok a st1)(h2:(!a)=k):Hz t ρ st=.ok k st1:=by unfold Hz;rw[h1,<- h2];rfl
theorem oP(h1:fa ρ st=.ok (.bl true) st1)(h2:fb ρ st1=.ok w dq):wV fa fb ρ st=.ok w dq:=by unfold wV;rw[h1];exact h2
theorem HS(h1:fa ρ st=.ok (.bl a) st1)(h2:(!a)=k):CF fa ρ st=.ok (.bl k) st1:=by unfold CF;rw[h1,<- h2];rfl
theorem sD(h1:t ρ st=.ok true st1)(h2:fa ρ st1=.ok w dq):BV t fa fb ρ st=.ok w dq:=by unfold BV;rw[h1];exact h2
theorem sE(h1:t ρ st=.ok false st1)(h2:fb ρ st1=.ok w dq):BV t fa fb ρ st=.ok w dq:=by unfold BV;rw[h1];exact h2
theorem qL{F:W->List W->List am->R W}(h1:fo ρ st=.ok x st1)(hl:mU st1 x=true)(h2:fs ρ st1=.ok ws dq)(h3:F x ws dq=.ok w mn):uB F fo fs ρ st=.ok w mn:=by unfold uB;rw[h1];simp only[R.bind_ok];rw[aw hl,h2];exact h3
theorem GX{F:W->List W->List am->R W}(h1:fo ρ st=.ok x st1)(hl:CZ x=true)(h2:fs ρ st1=.ok ws dq)(h3:F x ws dq=.ok w mn):HI F fo fs ρ st=.ok w mn:=by unfold HI;rw[h1];simp only[R.bind_ok];rw[aw hl,h2];exact h3
theorem gW(h:st[n]?=some (.lst ws)):mU st (.loc n)=true:=by simp only[mU,h]
theorem Ds(h:fa ρ st=.ok (.int q) st1):C2 fa ρ st=.ok (.int (-q)) st1:=by unfold C2;rw[h];rfl
theorem Dt{T c:String}(h:fa ρ st=.ok x st1)(hx:x.ty=some c)(hk:Go c T=k):pS T fa ρ st=.ok (.bl k) st1:=by unfold pS;rw[h];simp only[R.bind_ok,hx,hk]
theorem Du(h:fa ρ st=.ok x st1)(hk:x.isNon=k):wX fa ρ st=.ok (.bl k) st1:=by unfold wX;rw[h,<- hk];rfl
theorem sF(h:fa ρ st=.ok x st1)(hk:(!x.isNon)=k):oE fa ρ st=.ok (.bl k) st1:=by unfold oE;rw[h,<- hk];rfl
theorem NQ:w_ ρ st=.ok none st:=rfl
theorem NR(h:fa ρ st=.ok (.int q) st1):uA fa ρ st=.ok (some q) st1:=by unfold uA;rw[h];rfl
theorem NS{fl fh:FO}{l h:Option Int}(h1:fa ρ st=.ok x st1)(h2:fl ρ st1=.ok l dq)(h3:fh ρ dq=.ok h mn)(h4:CT x l h mn=.ok w PR):Mj fa fl fh ρ st=.ok w PR:=by unfold Mj;rw[h1];simp only[R.bind_ok];rw[h2];simp only[R.bind_ok];rw[h3];exact h4
theorem cM(h:fe ρ st=.ok w st1):cE i fe ρ st=.nx (ρ.set i (some w)) st1:=by unfold cE;rw[h];rfl
theorem kE(h:fe ρ st=.ok w st1):ip fe ρ st=.nx ρ st1:=by unfold ip;rw[h];rfl
theorem Dv(h:fe ρ st=.ok w st1):dN fe ρ st=.rt w st1:=by unfold dN;rw[h];rfl
theorem uH{f:W->W->W->List am->Option (List am)}(h1:fe ρ st=.ok v st1)(h2:fo ρ st1=.ok x dq)(h3:fi ρ dq=.ok y mn)(h4:f x y v mn=some PR):vo fo fi fe f ρ st=.nx ρ PR:=by
 unfold vo;rw[h1];simp only[R.stmt_ok];rw[h2];simp only[R.stmt_ok];rw[h3];simp only[R.stmt_ok];rw[h4]
theorem lK{r:RS}(h1:t ρ st=.ok true st1)(h2:g ρ st1=r):nA t g g' ρ st=r:=by unfold nA;rw[h1];exact h2
theorem vI{r:RS}(h1:t ρ st=.ok false st1)(h2:g' ρ st1=r):nA t g g' ρ st=r:=by unfold nA;rw[h1];exact h2
theorem Dw:fW ρ st=.nx ρ st:=rfl
theorem HU{r:RS}(h:g ρ st=.nx ρ' st1)(h2:g' ρ' st1=r):be g g' ρ st=r:=by rw[Dr h];exact h2
theorem Dx(h:g ρ st=.rt w st1):be g g' ρ st=.rt w st1:=by unfold be;rw[h]
theorem hU{p:Int}:fD (.int p) (.int q) st=.ok (.int (p+q)) st:=rfl
theorem zg{p q:List Nat}(h:p.length+q.length<=kI):fD (.str p) (.str q) st=.ok (.str (p++q)) st:=by simp only[fD];rw[aw h]
theorem mE{C:Int->Int->Prop}[∀i j,Decidable (C i j)]{f:Int->Int->Int}{p:Int}(h:C p q):Bj C f (.int p) (.int q) st=.ok (.int (f p q)) st:=by simp only[Bj];rw[aw h]
theorem lL{p:Int}(h:J_ p q):eM (.int p) (.int q) st=.ok (.int (p*q)) st:=by simp only[eM];rw[aw h]
theorem Ky{l:List Nat}(h:-(2^62)<=q/\q<2^62/\l.length*q.toNat<=kI):eM (.str l) (.int q) st=.ok (.str (List.replicate q.toNat l).flatten) st:=by simp only[eM];rw[aw h]
theorem kO{f:Int->Int->Bool}{p:Int}(h:f p q=k):Bk f (.int p) (.int q) st=.ok (.bl k) st:=by rw[<- h];rfl
theorem NT{p:Int}(h:decide (p<=q)=k):QK (.int p) (.int q) st=.ok (.bl k) st:=by rw[<- h];rfl
theorem sH{p:Int}(h:(p==q)=k):w5 (.int p) (.int q) st=.ok (.bl k) st:=by rw[<- h];rfl
theorem HW{p:Int}(h:(!(p==q))=k):Mi (.int p) (.int q) st=.ok (.bl k) st:=by rw[<- h];rfl
theorem NU{p q:List Nat}(h:(p==q)=k):w5 (.str p) (.str q) st=.ok (.bl k) st:=by rw[<- h];rfl
theorem qo(h:tP ws q=some w):cZ (.tup ws) (.int q) st=.ok w st:=by unfold cZ;simp only[h,dy]
theorem kv(h:ρ[i]?=some (some w):=by rfl):al i ρ st=.ok w st:=iP h
theorem kn(h:ρ[i]?=some (some w):=by rfl):au (al i) aK ρ st=.ok [w] st:=aD (iP h) bB
theorem kx{q:Int}(h:ρ[i]?=some (some (.tup ws)):=by rfl)(h2:tP ws q=some w:=by rfl):e2 cZ (al i) (eC (.int q)) ρ st=.ok w st:=dS (iP h) gg (qo h2)
theorem HX{c:Nat}(hl:l.length<=kI)(h:tP l q=some c):cZ (.str l) (.int q) st=.ok (.str [c]) st:=by unfold cZ;simp only[h,dy];rw[aw hl]
theorem kP(hl:lstOf st n=some ws)(h:tP ws q=some w):cZ (.loc n) (.int q) st=.ok w st:=by unfold cZ;simp only[hl,h,dy]
theorem zh:gH [.tup ws] st=.ok (.int ws.length) st:=rfl
theorem vJ(h:l.length<=kI):gH [.str l] st=.ok (.int l.length) st:=by unfold gH;simp only;rw[aw h]
theorem vK(hl:lstOf st n=some ws):gH [.loc n] st=.ok (.int ws.length) st:=by unfold gH;simp only[hl,dy]
theorem ba(h:st[n]?=some (.lst ws)):lstOf st n=some ws:=by unfold lstOf;rw[h]
theorem rg(h:st[n]?=some (.ro ws)):lstOf st n=some ws:=by unfold lstOf;rw[h]
theorem uI(h:st[n]?=some (.lst ws))(hl:ws.length<kI):cO (.loc n) [y] st=.ok .non (st.set n (.lst (ws++[y]))):=by unfold cO;simp only[h];rw[aw hl]
theorem NV(h:st[n]?=some (.lst (ws++[y]))):xf (.loc n) [] st=.ok y (st.set n (.lst ws)):=by unfold xf;simp only[h];simp
theorem Kz(h:st[n]?=some (.lst ws))(hi:A7 ws.length q=some j):nE (.loc n) (.int q) v st=some (st.set n (.lst (ws.set j v))):=by unfold nE;simp only[h,hi];rfl
theorem zi{sep:List Nat}(h:lstOf st n=some (ls.map W.str))(hl:(ls.map List.length).sum+ls.length*sep.length<=kI):nF (.str sep) [.loc n] st=.ok (.str (mQ sep ls)) st:=by
 unfold nF;simp only[h,dy,uC];rw[aw hl]
theorem HY{l h:Option Int}{z:List Nat}(hl:z.length<=kI):CT (.str z) l h st=.ok (.str (ny z l h)) st:=by unfold CT;simp only;rw[aw hl]
theorem NW{l h:Option Int}:CT (.tup ws) l h st=.ok (.tup (ny ws l h)) st:=rfl
theorem lM(h:fe ρ st=.ok (.tup ws) st1):dz fe ρ st=.ok (ws,none) st1:=by unfold dz;rw[h];rfl
theorem ke(h:fe ρ st=.ok (.loc n) st1)(hl:lstOf st1 n=some ws):dz fe ρ st=.ok (ws,some (n,ws)) st1:=by unfold dz;rw[h];simp only[R.bind_ok,hl]
theorem gm(h:fs ρ st=.ok [.int q] st1)(hq:-(2^62)<=q/\q<2^62):ca fs ρ st=.ok (eO 0 q.toNat,none) st1:=by unfold ca;rw[h];simp only[R.bind_ok];rw[aw hq]
theorem f9{l:List α}{q:Nat}{x:α}(h:l[q]?=some x):tP l (q:Int)=some x:=by
 have hq:q<l.length:=(ah.mp h).1
 unfold tP A7
 rw[aw (by omega),aw (by omega)]
 simpa using h
def kg(P:RS->Prop)(r:RS):Prop:=P r
def KA(I:cv->List am->Prop):RS->Prop:=fun r=>∃ρ st,r=.nx ρ st/\I ρ st
def yt(I:W->List am->Prop):RS->Prop:=fun r=>∃w st,r=.rt w st/\I w st
variable{P:RS->Prop}{dw:FS}
theorem cP{r r':RS}(h:r=r')(h2:P r'):kg P r:=by rw[h];exact h2
theorem aG(h:g ρ st=.nx ρ' st1)(h2:kg P (g' ρ' st1)):kg P (be g g' ρ st):=by rw[Dr h];exact h2
theorem uJ(h1:t ρ st=.ok true st1)(h2:kg P (g ρ st1)):kg P (nA t g g' ρ st):=by rw[lK h1 rfl];exact h2
theorem nH(h1:t ρ st=.ok false st1)(h2:kg P (g' ρ st1)):kg P (nA t g g' ρ st):=by rw[vI h1 rfl];exact h2
theorem kQ(h1:t ρ st=.ok true st1)(h2:kg P (be g dw ρ st1)):kg P (be (nA t g g') dw ρ st):=by
 unfold be at h2 ⊢;rw[lK h1 rfl];exact h2
theorem dg(h1:t ρ st=.ok false st1)(h2:kg P (be g' dw ρ st1)):kg P (be (nA t g g') dw ρ st):=by
 unfold be at h2 ⊢;rw[vI h1 rfl];exact h2
theorem uK{h:FS}(h2:kg P (be g (be g' h) ρ st)):kg P (be (be g g') h ρ st):=by
 unfold be at h2 ⊢
 cases e:g ρ st<;>simp only[e]at h2 ⊢ <;> exact h2
theorem d3(h2:kg P (dw ρ st)):kg P (be fW dw ρ st):=h2
theorem bN(h:fe ρ st=.ok w st1)(h2:P (.rt w st1)):kg P (dN fe ρ st):=by rw[Dv h];exact h2
theorem kh(h:fe ρ st=.ok w st1)(h2:P (.rt w st1)):kg P (be (dN fe) dw ρ st):=by rw[Dx (Dv h)];exact h2
theorem dm{fi:FI}{f:FG}{body:FS}{k:Bn}(I:Nat->cv->List am->Prop)(h:fi ρ st=.ok k st1)(h0:I 0 ρ st1)(hc:∀i ρ st,I i ρ st->iO st k.2)
  (hs:∀i w ρ st,k.1[i]?=some w->I i ρ st->∃ρ',f w ρ=some ρ'/\kg (KA (I (i+1))) (body ρ' st)) (he:∀ρ st,I k.1.length ρ st->kg P (dw ρ st)):kg P (be (gI fi f body) dw ρ st):=by
 obtain⟨ρ2,dq,e,h2⟩:=sy (f:=f) (body:=body) (ck:=k.2) I (ws:=k.1) (ρ:=ρ) (st:=st1) 0 h0 hc fun i w ρ st hw hI=>by
  rw[dv]at hI ⊢
  obtain⟨ρ',e1,ρ2,dq,e2,h2⟩:=hs i w ρ st hw hI
  exact⟨ρ',ρ2,dq,e1,e2,h2⟩
 rw[dv]at h2
 exact aG (by rw[Ar h];exact e) (he _ _ h2)
theorem Av{body:FS}{Q:W->Prop}(h:kg (yt fun w br=>(∃x,br=st++x)/\undWs st.length [w]=true/\Q w) (body (ws.map some++List.replicate (N-ws.length) none) st)):∃w,Q w/\dB N body ws st=.ok w st:=by
 obtain⟨w,br,e,⟨x,rfl⟩,hu,q⟩:=h
 exact⟨w,q,xz e hu⟩
theorem fO{N:Nat}{body:FS}(h:kg (yt fun w' br=>w'=w/\∃x,br=st++x) (body (ws.map some++List.replicate (N-ws.length) none) st))(hu:undWs st.length [w]=true):dB N body ws st=.ok w st:=by
 obtain⟨w,br,e,rfl,x,rfl⟩:=h
 exact xz e hu
theorem lO{body:FS}{Q:Nat->List am->Prop}(h:kg (yt fun w br=>∃j x,w=.loc (st.length+j)/\br=st++x/\Q j x) (body (ws.map some++List.replicate (N-ws.length) none) st)):∃j x,Q j x/\dB N body ws st=.ok (.loc (st.length+j)) (st++x):=by
 obtain⟨w,br,e,j,x,rfl,rfl,q⟩:=h
 exact⟨j,x,q,Dq e⟩
theorem fG{q:Nat}{lo:Int}(h:(eO lo q)[i]?=some w):i<q/\w=.int (lo+i):=by
 unfold eO at h
 obtain⟨h1,h2⟩:=ah.mp h
 simp only[aq,cQ]at h1
 exact⟨h1,by rw[<- h2];simp⟩
theorem vL{l:List α}{q:Nat}(h:q<=l.length):ny l none (some (q:Int))=l.take q:=by
 unfold ny;rw[HT.sIx_none,HT.sIx_nat,mx h];simp
theorem rh{l:List α}{q:Nat}(h:q<=l.length):ny l (some (q:Int)) none=l.drop q:=by
 unfold ny;rw[HT.sIx_none,HT.sIx_nat,mx h];rw[bA (by simp)]
theorem oQ{q:Int}{n:Nat}(h:0<n):∃m:Nat,m<n/\q%(n:Int)=m:=by
 have h0:0<=q%(n:Int):=g_ _ (by omega)
 have h1:q%(n:Int)<n:=jZ _ (by omega)
 exact⟨(q%(n:Int)).toNat,by omega,by omega⟩
end
section
variable{t u:FT}{a b k:Bool}{P:RS->Prop}{g g' dw:FS}{w:W}
theorem KB(h1:t ρ st=.ok a st)(h2:u ρ st=.ok b st):J4 t u ρ st=.ok (a&&b) st:=by cases a;exact vG h1;exact rf h1 h2
theorem KC(h1:t ρ st=.ok a st)(h2:u ρ st=.ok b st):J5 t u ρ st=.ok (a||b) st:=by cases a;exact vH h1 h2;exact As h1
theorem KD(h1:t ρ st=.ok a st):Hz t ρ st=.ok (!a) st:=Au h1 rfl
theorem kR{body:FS}(h:kg (yt fun w' br=>w'=w/\br=st) (body (ws.map some++List.replicate (N-ws.length) none) st)):dB N body ws st=.ok w st:=by
 obtain⟨w,br,e,rfl,rfl⟩:=h
 exact nq e
end
end L2
open L2
local macro_rules | `(tactic| walk_at "ev1") => `(tactic| first
 | (with_reducible apply iP) <;> rfl
 | (with_reducible apply qo) <;> rfl
 | with_reducible first
  | exact gg | exact bB | exact Kx | exact NQ | exact hU | exact zh | exact Dw | exact NW
  | apply dS | apply aD | apply sB | apply oO | apply dY | apply cL | apply dZ | apply Au | apply HS
  | apply qL | apply GX | apply Ds | apply Dt | apply Du | apply sF | apply NR | apply NS | apply cM | apply kE | apply Dv | apply uH
  | apply mE | apply lL | apply kO | apply NT | apply sH | apply HW | apply NU | apply zg
 | decide
 | (show List.length _ <= kI; exact aX rfl)
 | (show @Eq Nat _ _; exact rfl)
 | (show @Eq Bool _ _; exact rfl)
 | (show @Eq (Option String) _ _; exact rfl)
 | (show @Eq _ _ _; with_reducible assumption))
local macro_rules | `(tactic| walk_at "evs") => `(tactic| repeat' walk_at "ev1")
local macro_rules | `(tactic| walk_at "tst") => `(tactic| first
 | (walk_at "evs"; done)
 | (apply vG; (focus walk_at "tst"); done)
 | (apply rf; (focus walk_at "tst"); (focus walk_at "tst"); done)
 | (apply As; (focus walk_at "tst"); done)
 | (apply vH; (focus walk_at "tst"); (focus walk_at "tst"); done))
local macro_rules | `(tactic| walk_at "go1") => `(tactic| first
 | apply d3
 | (apply kh; (focus (walk_at "evs"; done)))
 | (apply bN; (focus (walk_at "evs"; done)))
 | (apply kQ; (focus walk_at "tst"))
 | (apply dg; (focus walk_at "tst"))
 | (apply uJ; (focus walk_at "tst"))
 | (apply nH; (focus walk_at "tst"))
 | (apply aG; (focus (walk_at "evs"; done))))
local macro_rules | `(tactic| walk_at "go") => `(tactic| repeat walk_at "go1")
local macro_rules | `(tactic| walk_at "tb") => `(tactic| repeat' (first | with_reducible apply KB | with_reducible apply KC | with_reducible apply KD | walk_at "ev1"))
local macro_rules | `(tactic| walk_at "len") => `(tactic| (simp only [bi, a9, gZ]; show _ <= 1000000; omega))
namespace L2
open PySem PySem.Spec PyProof.Rows
section
variable{ρ' ρ2:cv}{dq:List am}{fs:FA}{g gh dw:FS}{w:W}{c:Str}{cs:List Str}{P:RS->Prop}{b:Bool}
theorem xA{body:FS}(h:kg (KA fun _ br=>∃x,br=st++x) (body (ws.map some++List.replicate (N-ws.length) none) st)):dB N body ws st=.ok .non st:=by
 obtain⟨ρ,br,e,x,rfl⟩:=h
 unfold dB
 rw[e]
 simp only[uG (st:=st) (x:=x) (ws:=[]) rfl]
theorem NX{p q:Bool}(h:(p==q)=b):w5 (.bl p) (.bl q) st=.ok (.bl b) st:=by rw[<- h];rfl
end
section
variable{f:FG}{t:FT}
theorem xB{ρ0:cv}(hc:iO st ck)(T:W->Bool)(Y:W->W):∀(ws gD:List W),(∀w∈ws,∃ρ',f w ρ0=some ρ'/\t ρ' st=.ok (T w) st/\(T w=true->el ρ' st=.ok (Y w) st)) ->
  mf f t el ck ρ0 ws gD st=.ok (gD++(ws.filter T).map Y) st
 |[],gD,_=>by unfold mf;rw[aw hc];simp
 |w::ws,gD,h=>by
  obtain⟨ρ',e1,e2,e3⟩:=h w (by simp)
  have ih:=fun gD=>xB hc T Y ws gD fun w' hw'=>h w' (by simp[hw'])
  unfold mf
  rw[aw hc,e1]
  simp only[e2]
  cases hT:T w with
  |true=>
   simp only[e3 hT]
   rw[ih]
   simp[cH,hT]
  |false=>
   simp only
   rw[ih]
   simp[cH,hT]
theorem sI(T:W->Bool)(Y:W->W)(h:fi ρ st=.ok (ws,ck) st1)(hl:ws.length<=kI)(hc:iO st1 ck)
  (hs:∀w∈ws,∃ρ',f w (kC cap ρ)=some ρ'/\t ρ' st1=.ok (T w) st1/\(T w=true->el ρ' st1=.ok (Y w) st1)):eL cap fi f t el ρ st=.ok (.loc st1.length) (st1++[.lst ((ws.filter T).map Y)]):=by
 unfold eL
 rw[h]
 simp only[R.bind_ok]
 rw[aw hl,xB hc T Y ws [] hs]
 simp only[R.bind_ok,fX,jp]
 rw[aw]
 rw[aq]
 exact aQ (iU _ _) hl
theorem rj(Y:W->W)(h:fi ρ st=.ok (ws,ck) st1)(hl:ws.length<=kI)(hc:iO st1 ck)
  (hs:∀w∈ws,∃ρ',f w (kC cap ρ)=some ρ'/\el ρ' st1=.ok (Y w) st1):eL cap fi f iL el ρ st=.ok (.loc st1.length) (st1++[.lst (ws.map Y)]):=by
 have:=sI (fi:=fi) (f:=f) (t:=iL) (el:=el) (cap:=cap) (fun _=>true) Y h hl hc fun w hw=>by
  obtain⟨ρ',e1,e2⟩:=hs w hw
  exact⟨ρ',e1,rfl,fun _=>e2⟩
 rw[List.filter_eq_self.mpr (fun _ _=>rfl)]at this
 exact this
theorem Bu{q:Nat}{lo:Int}{w:W}(h:w∈eO lo q):∃i:Nat,i<q/\w=.int (lo+i):=by
 unfold eO at h
 obtain⟨i,hi,rfl⟩:=bH.mp h
 exact⟨i,bh.mp hi,rfl⟩
theorem pX(h:lstOf st n=some ws):hJ [.loc n] st=.ok (.tup ws) st:=by unfold hJ;simp only[h,dy]
theorem Dy{ws xs:List W}(h:(ws++xs).length<=kI):fD (.tup ws) (.tup xs) st=.ok (.tup (ws++xs)) st:=by simp only[fD,nC];rw[aw h]
end
section
end
end L2
namespace P
open PySem L2
open PyProof.Rows (boot_sorted boot_set boot_ord boot_all boot_enumerate boot_int boot_str boot_bool boot_list boot_tuple boot_isinstance boot_max boot_min boot_zip boot_sum)
def jL(i:Nat):Stmt:=PySem.Challenge.pw_trunksay_k64_whole_counts_by_shapes.main.body.getD i (.Pass ⟨0,0,0,0⟩)
abbrev KF:Stmt:=jL 6
abbrev Bv:List Str:=["many"]
abbrev NY:List Str:=["many"]
theorem NZ:bu Bv NY (aM KF):=mM
abbrev KG:Stmt:=jL 7
abbrev qM:List Str:=["size"]
abbrev N0:List Str:=["size"]
theorem N3:bu qM N0 (aM KG):=mM
abbrev KH:Stmt:=jL 8
abbrev sJ:List Str:=["machine"]
abbrev N4:List Str:=["machine"]
theorem N5:bu sJ N4 (aM KH):=mM
abbrev KI:Stmt:=jL 9
abbrev tZ:List Str:=["machine","counts","many","others","left","right","pairs","leads"]
abbrev N6:List Str:=["machine","counts"]
theorem sK:bu tZ N6 (aM KI):=mM
abbrev KJ:Stmt:=jL 10
abbrev vM:List Str:=["machine","size","counts","each"]
abbrev N7:List Str:=["machine","size"]
theorem Dz:bu vM N7 (aM KJ):=mM
abbrev KL:Stmt:=jL 11
abbrev xC:List Str:=["machine","size"]
abbrev N8:List Str:=["machine","size"]
theorem N9:bu xC N8 (aM KL):=mM
abbrev KM:Stmt:=jL 12
abbrev zj:List Str:=["machine","many"]
abbrev N_:List Str:=["machine","many"]
theorem N':bu zj N_ (aM KM):=mM
abbrev KN:Stmt:=jL 13
abbrev Bw:List Str:=["machine","size"]
abbrev Oa:List Str:=["machine","size"]
theorem Ob:bu Bw Oa (aM KN):=mM
abbrev KO:Stmt:=jL 15
abbrev DA:List Str:=["exponent","power","each"]
abbrev Oc:List Str:=["exponent"]
theorem Aw:bu DA Oc (aM KO):=mM
abbrev DB:Stmt:=jL 16
abbrev xD:List Str:=["names","marks","number","name"]
abbrev HZ:List Str:=["names","marks"]
theorem sL:bu xD HZ (aM DB):=mM
abbrev DC:Stmt:=jL 17
abbrev zk:List Str:=["names","number","marks","rest","name"]
abbrev H9:List Str:=["names","number"]
theorem pY:bu zk H9 (aM DC):=mM
abbrev DD:Stmt:=jL 19
abbrev zl:List Str:=["place"]
abbrev H_:List Str:=["place"]
theorem KP:bu zl H_ (aM DD):=mM
abbrev DE:Stmt:=jL 20
abbrev xE:List Str:=["place"]
abbrev Ia:List Str:=["place"]
theorem KQ:bu xE Ia (aM DE):=mM
abbrev DF:Stmt:=jL 21
abbrev zm:List Str:=["tree","links","tops","number","place","right","left"]
abbrev Ib:List Str:=["tree"]
theorem nY:bu zm Ib (aM DF):=mM
abbrev DG:Stmt:=jL 22
abbrev DH:List Str:=["tree","lefts","rights","number","pair"]
abbrev Ic:List Str:=["tree"]
theorem sM:bu DH Ic (aM DG):=mM
abbrev DI:Stmt:=jL 23
abbrev zn:List Str:=["tree","sizes","left","right","size"]
abbrev Ie:List Str:=["tree"]
theorem nZ:bu zn Ie (aM DI):=mM
abbrev DJ:Stmt:=jL 26
abbrev sN:List Str:=["names"]
abbrev Ig:List Str:=["names"]
theorem KR:bu sN Ig (aM DJ):=mM
abbrev DL:Stmt:=jL 27
abbrev Bx:List Str:=["marks","names"]
abbrev Ih:List Str:=["marks","names"]
theorem KS:bu Bx Ih (aM DL):=mM
abbrev DM:Stmt:=jL 28
abbrev vN:List Str:=["machine","names","marks","bare"]
abbrev Ii:List Str:=["machine","names","marks"]
theorem DN:bu vN Ii (aM DM):=mM
abbrev DO:Stmt:=jL 29
abbrev zo:List Str:=["numbers","times","number"]
abbrev Ij:List Str:=["numbers"]
theorem zp:bu zo Ij (aM DO):=mM
abbrev DP:Stmt:=jL 30
abbrev xF:List Str:=["machine","times","lefts","rights","many","left","right","pairs","number","each","room"]
abbrev Ik:List Str:=["machine","times","lefts","rights"]
theorem mW:bu xF Ik (aM DP):=mM
abbrev DQ:Stmt:=jL 31
abbrev t0:List Str:=["tree","begun","sizes","place"]
abbrev Il:List Str:=["tree"]
theorem vO:bu t0 Il (aM DQ):=mM
abbrev iy:Stmt:=(vE (jL 32)).getD 0 (.Pass ⟨0,0,0,0⟩)
abbrev oR:List Str:=["self","machine","tree","names","times","pair"]
abbrev ki:List Str:=["self","machine","tree","names"]
theorem hW:bu oR ki (aM iy):=mM
abbrev f_:Stmt:=(vE (jL 32)).getD 1 (.Pass ⟨0,0,0,0⟩)
abbrev mF:List Str:=["self","place"]
abbrev iQ:List Str:=["self","place"]
theorem lP:bu mF iQ (aM f_):=mM
abbrev iW:Stmt:=(vE (jL 32)).getD 2 (.Pass ⟨0,0,0,0⟩)
abbrev pZ:List Str:=["self"]
abbrev kS:List Str:=["self"]
theorem oS:bu pZ kS (aM iW):=mM
abbrev DR:Stmt:=jL 33
abbrev zq:List Str:=["machine","tree","names"]
abbrev Im:List Str:=["machine","tree","names"]
theorem KU:bu zq Im (aM DR):=mM
abbrev DS:Stmt:=jL 35
abbrev xG:List Str:=["_law_script","_law_k"]
abbrev Io:List Str:=["_law_script","_law_k"]
theorem KW:bu xG Io (aM DS):=mM
abbrev DT:Stmt:=jL 36
abbrev vP:List Str:=["_law_cell_here","_law_k","_law_salt","_law_first"]
abbrev Ip:List Str:=["_law_cell_here","_law_k","_law_salt"]
theorem DU:bu vP Ip (aM DT):=mM
abbrev DV:Stmt:=jL 37
abbrev vQ:List Str:=["_law_cell_here","_law_many","_law_salt","_law_found","_law_rest","_law_k"]
abbrev Iq:List Str:=["_law_cell_here","_law_many","_law_salt"]
theorem p5:bu vQ Iq (aM DV):=mM
abbrev DW:Stmt:=jL 38
abbrev xH:List Str:=["_law_found","_law_due","_law_k"]
abbrev DY:List Str:=["_law_found","_law_due"]
theorem DZ:bu xH DY (aM DW):=mM
abbrev D0:Stmt:=jL 39
abbrev xI:List Str:=["_law_cell_here","_law_many","_law_salt","_law_rest","_law_found","_law_d","_law_at"]
abbrev Ir:List Str:=["_law_cell_here","_law_many","_law_salt"]
theorem n_:bu xI Ir (aM D0):=mM
abbrev D1:Stmt:=jL 40
abbrev sO:List Str:=["_law_names","_law_many","_law_top","_law_draws_here","_law_good","_law_table","_law_at","_law_letter","_law_rows","_law_l"]
abbrev Iu:List Str:=["_law_names","_law_many","_law_top","_law_draws_here"]
theorem mX:bu sO Iu (aM D1):=mM
abbrev D2:Stmt:=jL 41
abbrev t4:List Str:=["_law_size","_law_found","_law_many","_law_row","_law_k","_law_branches","_law_left","_law_right"]
abbrev Iv:List Str:=["_law_size"]
theorem mY:bu t4 Iv (aM D2):=mM
abbrev D3:Stmt:=jL 42
abbrev vR:List Str:=["_law_found"]
abbrev Iw:List Str:=["_law_found"]
theorem KY:bu vR Iw (aM D3):=mM
abbrev D4:Stmt:=jL 43
abbrev xJ:List Str:=["_law_tree","_law_letter","_law_way"]
abbrev Iy:List Str:=["_law_tree","_law_letter","_law_way"]
theorem KZ:bu xJ Iy (aM D4):=mM
abbrev oT:Stmt:=jL 44
abbrev Od:List Str:=["_law_script","_law_shape","_law_many","_law_rooms","_law_size","_law_names","_law_draws_here","_law_machine_here","_law_due","_law_tree","_law_told","_law_parts","_law_way","_law_part"]
abbrev D5:List Str:=["_law_script"]
theorem gM:bu Od D5 (aM oT):=mM
structure Bl(mg:Str->Option Value):Prop where
 bool:mg "bool"=Option.none
 enumerate:mg "enumerate"=Option.none
 int:mg "int"=Option.none
 isinstance:mg "isinstance"=Option.none
 len:mg "len"=Option.none
 min:mg "min"=Option.none
 range:mg "range"=Option.none
 reversed:mg "reversed"=Option.none
 sorted:mg "sorted"=Option.none
 str:mg "str"=Option.none
 sum:mg "sum"=Option.none
 tuple:mg "tuple"=Option.none
 zip:mg "zip"=Option.none
def mZ:W:=.int 24
def nI:W:=.int 4
structure Gc(K:Frag)(mg:Str->Option Value):Prop where
 MOST_COUNTED:∃u v,mg "MOST_COUNTED"=some u/\bK v u/\∀μ H,a8 K μ H mZ v
 MOST_FILLED:∃u v,mg "MOST_FILLED"=some u/\bK v u/\∀μ H,a8 K μ H nI v
structure Cls(K:Frag)(mg:Str->Option Value):Prop where
 TooGreat:NI K mg "TooGreat"
structure Ow(K:Frag)(mg:Str->Option Value):Prop where
 Course:Kq K mg "Course" ["begun","counts","links","machine","marks","names","numbers","rooms","times","tree","ups","weights"]
section
variable{w:World}{f:Addr}
def Oe:FS:=(dN (eL [none,none] (lI (au (al 0) aK)) (yX 2 (cU (fz 0) (cU (fz 1) j8))) (jJ (e2 CO (al 1) (eI 0))) (al 0)))
def By:List W->List am->R W:=dB 1 Oe
theorem Of(F:js K "come_to" "come_to" KF f fd)(B:Bl mg) :cN P w K mg base (i_ P w) 1 f fd NY (jw K mg 1 By):=
 b_ (k:=0) F NZ rfl fun fM A outer s H E hr=>(aO (bL (kD (m:=0) (nm:=["room","each"]) (cap:=[none,none]) (by first|rfl|kernel_rfl) rfl (Dj B.enumerate (ak (aj 0) ax)) (fun _ _ _ _ _=>(mT rfl (dG (sC 0) (dG (sC 1) j9)))) (fun _ _ _ _ _=>(vx (gG yV (aj 1) aU))) (fun _ _ _ _ _=>(aj 0)))))
def QX:FS:=(nA (jJ (e2 CO (al 0) (eC mZ))) (yZ "TooGreat") fW)
def D6:List W->List am->R W:=dB 1 QX
theorem Og(F:js K "check_counted" "check_counted" KG f fd)(G:Gc K mg)(C:Cls K mg) :cN P w K mg base (i_ P w) 1 f fd N0 (jw K mg 1 D6):=
 b_ (k:=0) F N3 rfl fun fM A outer s H E hr=>(aO (gC (gG yV (aj 0) (Nm G.MOST_COUNTED)) (aO (xj C.TooGreat)) fy))
def QY:FS:=(dN (cq hJ (au (eL [none] (ca (au (cq gH (au (e2 cZ (al 0) (eI 1)) aK)) aK)) (fz 0) iL (BV (jJ (e2 w5 (al 0) (eI 0))) (eI 1) (eI 0))) aK)))
def zr:List W->List am->R W:=dB 1 QY
theorem Oh(F:js K "empty_counts" "empty_counts" KH f fd)(B:Bl mg) :cN P w K mg base (i_ P w) 1 f fd N4 (jw K mg 1 zr):=
 b_ (k:=0) F N5 rfl fun fM A outer s H E hr=>(aO (bL (io jv B.tuple ej (ak (kD (m:=0) (nm:=["room"]) (cap:=[none]) (by first|rfl|kernel_rfl) rfl (df B.range (ak (dk jq B.len eD (ak (dC (aj 0) aU) ax)) ax)) (fun _ _ _ _ _=>(sC 0)) (fun _ _ _ _ _=>gu) (fun _ _ _ _ _=>(CG (gG (yW hr) (aj 0) aU) aU aU))) ax))))
def QZ:FS:=(be (xb (eL [none] (dz (e2 cZ (al 0) (eI 1))) (fz 0) iL (eI 0)) (fz 2)) (be (cE 3 (Am (al 1))) (be (gI (ca (au (cq gH (au (al 2) aK)) aK)) (fz 4) (gI (ca (au (cq gH (au (al 2) aK)) aK)) (fz 5) (be (cE 6 (cq xp (au (pT [none,none,some 4,some 5] (sj (au (al 1) (au (al 3) aK))) (yX 2 (cU (fz 0) (cU (fz 1) j8))) iL (e2 eM (e2 cZ (al 0) (al 2)) (e2 cZ (al 1) (al 3)))) aK))) (nA (jJ (e2 CO (al 6) (eI 0))) (gI (dz (e2 cZ (al 0) (eI 2))) (fz 7) (vo (al 2) (e2 cZ (e2 cZ (al 7) (al 4)) (al 5)) (e2 fD (e2 cZ (al 2) (e2 cZ (e2 cZ (al 7) (al 4)) (al 5))) (al 6)) nE)) fW)))) (dN (cq hJ (au (al 2) aK))))))
def D7:List W->List am->R W:=dB 8 QZ
theorem Oi(F:js K "next_counts" "next_counts" KI f fd)(B:Bl mg) :cN P w K mg base (i_ P w) 1 f fd N6 (jw K mg 2 D7):=
 b_ (k:=0) F sK rfl fun fM A outer s H E hr=>(aB (jK (sG 2 sK) (nm:=["room"]) (cap:=[none]) (by first|rfl|kernel_rfl) rfl (fZ (dC (aj 0) aU)) (fun _ _ _ _ _=>(sC 0)) (fun _ _ _ _ _=>gu) (fun _ _ _ _ _=>aU)) (aB (sS 3 sK (Kk (aj 1))) (aB (de (df B.range (ak (dk jq B.len eD (ak (aj 2) ax)) ax)) (sG 4 sK) (aO (de (df B.range (ak (dk jq B.len eD (ak (aj 2) ax)) ax)) (sG 5 sK) (aB (sS 6 sK (dk HP B.sum boot_sum (ak (GG (nm:=["one","other","left","right"]) (cap:=[none,none,some 4,some 5]) (by first|rfl|kernel_rfl) rfl (GH B.zip (ak (aj 1) (ak (aj 3) ax))) (fun _ _ _ _ _=>(mT rfl (dG (sC 0) (dG (sC 1) j9)))) (fun _ _ _ _ _=>gu) (fun _ _ _ _ _=>(b9 gK (dC (aj 0) (aj 2)) (dC (aj 1) (aj 3))))) ax))) (aO (gC (gG yV (aj 6) aU) (aO (de (fZ (dC (aj 0) aU)) (sG 7 sK) (aO (rY vp (b9 fC (dC (aj 2) (dC (dC (aj 7) (aj 4)) (aj 5))) (aj 6)) (aj 2) (dC (dC (aj 7) (aj 4)) (aj 5)))))) fy)))))) (aO (bL (io jv B.tuple ej (ak (aj 2) ax)))))))
def Oj:FS:=(be (ip (c6 1 D6 (au (al 1) aK))) (be (cE 2 (mD (au (c6 1 zr (au (al 0) aK)) aK))) (be (gI (ca (au (al 1) aK)) (fz 3) (ip (uB cO (al 2) (au (c6 2 D7 (au (al 0) (au (al 2) aK))) aK)))) (dN (al 2)))))
def D8:List W->List am->R W:=dB 4 Oj
theorem Ol(F:js K "all_counts" "all_counts" KJ f fd)(B:Bl mg)(Md:bY P w K mg base 1 "check_counted" 1 D6)(BH:bY P w K mg base 1 "empty_counts" 1 zr)(LW:bY P w K mg base 1 "next_counts" 2 D7):cN P w K mg base (i_ P w) 2 f fd N7 (jw K mg 2 D8):=
 b_ (k:=1) F Dz rfl fun fM A outer s H E hr=>(aB (gc (cu Md hr (by omega) (ak (aj 1) ax))) (aB (sS 2 Dz (j7 (ak (cu BH hr (by omega) (ak (aj 0) ax)) ax))) (aB (de (df B.range (ak (aj 1) ax)) (sG 3 Dz) (aO (gc (qH PySem.F.slot_list_append PySem.F.type_list_append eP (aj 2) (ak (cu LW hr (by omega) (ak (aj 0) (ak (aj 2) ax))) ax))))) (aO (bL (aj 2))))))
def Q0:FS:=(dN (e2 cZ (c6 2 D8 (au (al 0) (au (al 1) aK))) (al 1)))
def D9:List W->List am->R W:=dB 2 Q0
theorem Om(F:js K "counts_of" "counts_of" KL f fd) (L5:bY P w K mg base 2 "all_counts" 2 D8):cN P w K mg base (i_ P w) 3 f fd N8 (jw K mg 2 D9):=
 b_ (k:=2) F N9 rfl fun fM A outer s H E hr=>(aO (bL (dC (cu L5 hr (by omega) (ak (aj 0) (ak (aj 1) ax))) (aj 1))))
def Q1:FS:=(dN (cq xp (au (eL [none,none] (pV (au (al 1) (au (e2 cZ (al 0) (eI 1)) aK))) (yX 2 (cU (fz 0) (cU (fz 1) j8))) (jJ (al 1)) (al 0)) aK)))
def xK:List W->List am->R W:=dB 2 Q1
theorem On(F:js K "let_many" "let_many" KM f fd)(B:Bl mg) :cN P w K mg base (i_ P w) 1 f fd N_ (jw K mg 2 xK):=
 b_ (k:=0) F N' rfl fun fM A outer s H E hr=>(aO (bL (dk HP B.sum boot_sum (ak (kD (m:=0) (nm:=["each","good"]) (cap:=[none,none]) (by first|rfl|kernel_rfl) rfl (Aq B.zip (ak (aj 1) (ak (dC (aj 0) aU) ax))) (fun _ _ _ _ _=>(mT rfl (dG (sC 0) (dG (sC 1) j9)))) (fun _ _ _ _ _=>(vx (kB (aj 1)))) (fun _ _ _ _ _=>(aj 0))) ax))))
def Q2:FS:=(dN (c6 2 xK (au (al 0) (au (c6 2 D9 (au (al 0) (au (al 1) aK))) aK))))
def D_:List W->List am->R W:=dB 2 Q2
theorem Oo(F:js K "counted" "counted" KN f fd) (L1:bY P w K mg base 3 "counts_of" 2 D9)(BN:bY P w K mg base 1 "let_many" 2 xK):cN P w K mg base (i_ P w) 4 f fd Oa (jw K mg 2 D_):=
 b_ (k:=3) F Ob rfl fun fM A outer s H E hr=>(aO (bL (cu BN hr (by omega) (ak (aj 0) (ak (cu L1 hr (by omega) (ak (aj 0) (ak (aj 1) ax))) ax)))))
def Op:FS:=(be (cE 1 (eI 1)) (be (gI (ca (au (al 0) aK)) (fz 2) (cE 1 (e2 eM (al 1) (eI 2)))) (dN (al 1))))
def Bz:List W->List am->R W:=dB 3 Op
theorem Oq(F:js K "two_to" "two_to" KO f fd)(B:Bl mg) :cN P w K mg base (i_ P w) 1 f fd Oc (jw K mg 1 Bz):=
 b_ (k:=0) F Aw rfl fun fM A outer s H E hr=>(aB (sS 1 Aw aU) (aB (de (df B.range (ak (aj 0) ax)) (sG 2 Aw) (aO (sS 1 Aw (b9 gK (aj 1) aU)))) (aO (bL (aj 1)))))
def Iz:FS:=(be (cE 2 (eI 0)) (be (gI (dz (al 0)) (fz 3) (be (cE 2 (e2 eM (al 2) (eI 2))) (nA (jJ (e2 (vj false) (al 3) (al 1))) (cE 2 (e2 fD (al 2) (eI 1))) fW))) (dN (al 2))))
def qp:List W->List am->R W:=dB 4 Iz
theorem K0(F:js K "letter_of" "letter_of" DB f fd)  :cN P w K mg base (i_ P w) 1 f fd HZ (jw K mg 2 qp):=
 b_ (k:=0) F sL rfl fun fM A outer s H E hr=>(aB (sS 2 sL aU) (aB (de (fZ (aj 0)) (sG 3 sL) (aB (sS 2 sL (b9 gK (aj 2) aU)) (aO (gC (gG (J' hr) (aj 3) (aj 1)) (aO (sS 2 sL (b9 fC (aj 2) aU))) fy)))) (aO (bL (aj 2)))))
def IA:FS:=(be (cE 2 (eC (.str []))) (be (cE 3 (al 1)) (be (gI (y0 (au (al 0) aK)) (fz 4) (be (nA (jJ (e2 w5 (e2 wZ (al 3) (eI 1)) (eI 1))) (cE 2 (e2 fD (al 4) (al 2))) fW) (cE 3 (e2 yU (al 3) (eI 1))))) (dN (al 2)))))
def sP:List W->List am->R W:=dB 5 IA
theorem K3(F:js K "marks_of" "marks_of" DC f fd)(B:Bl mg) :cN P w K mg base (i_ P w) 1 f fd H9 (jw K mg 2 sP):=
 b_ (k:=0) F pY rfl fun fM A outer s H E hr=>(aB (sS 2 pY uy) (aB (sS 3 pY (aj 1)) (aB (de (Gs B.reversed (ak (aj 0) ax)) (sG 4 pY) (aB (gC (gG (yW hr) (b9 CN (aj 3) aU) aU) (aO (sS 2 pY (b9 fC (aj 4) (aj 2)))) fy) (aO (sS 3 pY (b9 HD (aj 3) aU))))) (aO (bL (aj 2))))))
def Os:FS:=(dN (e2 (vj false) (e2 cZ (al 0) (eI 0)) (pM (au (eI 1) (au (eI 3) aK)))))
def oU:List W->List am->R W:=dB 1 Os
theorem K4(F:js K "has_left" "has_left" DD f fd)  :cN P w K mg base (i_ P w) 1 f fd H_ (jw K mg 1 oU):=
 b_ (k:=0) F KP rfl fun fM A outer s H E hr=>(aO (bL (uz (J' hr) (dC (aj 0) aU) (oF (ak aU (ak aU ax))))))
def Ot:FS:=(dN (e2 (vj false) (e2 cZ (al 0) (eI 0)) (pM (au (eI 2) (au (eI 3) aK)))))
def oV:List W->List am->R W:=dB 1 Ot
theorem K5(F:js K "has_right" "has_right" DE f fd)  :cN P w K mg base (i_ P w) 1 f fd Ia (jw K mg 1 oV):=
 b_ (k:=0) F KQ rfl fun fM A outer s H E hr=>(aO (bL (uz (J' hr) (dC (aj 0) aU) (oF (ak aU (ak aU ax))))))
def IB:FS:=(be (cE 1 (mD aK)) (be (cE 2 (mD aK)) (be (gI (lE (au (al 0) aK)) (yX 2 (cU (fz 3) (cU (fz 4) j8))) (be (cE 5 (BV (jJ (c6 1 oV (au (al 4) aK))) (uB xf (al 2) aK) (eC .non))) (be (cE 6 (BV (jJ (c6 1 oU (au (al 4) aK))) (uB xf (al 2) aK) (eC .non))) (be (ip (uB cO (al 2) (au (al 3) aK))) (ip (uB cO (al 1) (au (pM (au (al 6) (au (al 5) aK))) aK))))))) (dN (cq hJ (au (al 1) aK))))))
def oX:List W->List am->R W:=dB 7 IB
theorem K6(F:js K "links_of" "links_of" DF f fd)(B:Bl mg)(ET:bY P w K mg base 1 "has_left" 1 oU)(E9:bY P w K mg base 1 "has_right" 1 oV):cN P w K mg base (i_ P w) 2 f fd Ib (jw K mg 1 oX):=
 b_ (k:=1) F nY rfl fun fM A outer s H E hr=>(aB (sS 1 nY (j7 ax)) (aB (sS 2 nY (j7 ax)) (aB (de (q_ B.enumerate (ak (aj 0) ax)) (mT rfl (dG (sG 3 nY) (dG (sG 4 nY) j9))) (aB (sS 5 nY (CG (kB (cu E9 hr (by omega) (ak (aj 4) ax))) (HJ PySem.F.slot_list_pop PySem.F.type_list_pop C0 (aj 2)) wU)) (aB (sS 6 nY (CG (kB (cu ET hr (by omega) (ak (aj 4) ax))) (HJ PySem.F.slot_list_pop PySem.F.type_list_pop C0 (aj 2)) wU)) (aB (gc (qH PySem.F.slot_list_append PySem.F.type_list_append eP (aj 2) (ak (aj 3) ax))) (aO (gc (qH PySem.F.slot_list_append PySem.F.type_list_append eP (aj 1) (ak (oF (ak (aj 6) (ak (aj 5) ax))) ax)))))))) (aO (bL (io jv B.tuple ej (ak (aj 1) ax)))))))
def D':FS:=(be (xb (eL [none] (dz (al 0)) (fz 0) iL (eC .non)) (fz 1)) (be (xb (eL [none] (dz (al 0)) (fz 0) iL (eC .non)) (fz 2)) (be (gI (lE (au (c6 1 oX (au (al 0) aK)) aK)) (yX 2 (cU (fz 3) (cU (fz 4) j8))) (be (nA (jJ (oE (e2 cZ (al 4) (eI 0)))) (vo (al 1) (e2 cZ (al 4) (eI 0)) (al 3) nE) fW) (nA (jJ (oE (e2 cZ (al 4) (eI 1)))) (vo (al 2) (e2 cZ (al 4) (eI 1)) (al 3) nE) fW))) (dN (pM (au (al 1) (au (al 2) aK)))))))
def xL:List W->List am->R W:=dB 5 D'
theorem K7(F:js K "ups_of" "ups_of" DG f fd)(B:Bl mg)(pz:bY P w K mg base 2 "links_of" 1 oX):cN P w K mg base (i_ P w) 3 f fd Ic (jw K mg 1 xL):=
 b_ (k:=2) F sM rfl fun fM A outer s H E hr=>(aB (jK (sG 1 sM) (m:=0) (nm:=["place"]) (cap:=[none]) (by first|rfl|kernel_rfl) rfl (fZ (aj 0)) (fun _ _ _ _ _=>(sC 0)) (fun _ _ _ _ _=>gu) (fun _ _ _ _ _=>wU)) (aB (jK (sG 2 sM) (m:=0) (nm:=["place"]) (cap:=[none]) (by first|rfl|kernel_rfl) rfl (fZ (aj 0)) (fun _ _ _ _ _=>(sC 0)) (fun _ _ _ _ _=>gu) (fun _ _ _ _ _=>wU)) (aB (de (q_ B.enumerate (ak (cu pz hr (by omega) (ak (aj 0) ax)) ax)) (mT rfl (dG (sG 3 sM) (dG (sG 4 sM) j9))) (aB (gC (q9 (dC (aj 4) aU)) (aO (rY vp (aj 3) (aj 1) (dC (aj 4) aU))) fy) (aO (gC (q9 (dC (aj 4) aU)) (aO (rY vp (aj 3) (aj 2) (dC (aj 4) aU))) fy)))) (aO (bL (oF (ak (aj 1) (ak (aj 2) ax))))))))
def IC:FS:=(be (cE 1 (mD aK)) (be (gI (dz (c6 1 oX (au (al 0) aK))) (yX 2 (cU (fz 2) (cU (fz 3) j8))) (be (cE 4 (eI 1)) (be (nA (jJ (oE (al 2))) (cE 4 (e2 fD (al 4) (e2 cZ (al 1) (al 2)))) fW) (be (nA (jJ (oE (al 3))) (cE 4 (e2 fD (al 4) (e2 cZ (al 1) (al 3)))) fW) (ip (uB cO (al 1) (au (al 4) aK))))))) (dN (cq hJ (au (al 1) aK)))))
def xM:List W->List am->R W:=dB 5 IC
theorem K8(F:js K "sizes_of" "sizes_of" DI f fd)(B:Bl mg)(pz:bY P w K mg base 2 "links_of" 1 oX):cN P w K mg base (i_ P w) 3 f fd Ie (jw K mg 1 xM):=
 b_ (k:=2) F nZ rfl fun fM A outer s H E hr=>(aB (sS 1 nZ (j7 ax)) (aB (de (fZ (cu pz hr (by omega) (ak (aj 0) ax))) (mT rfl (dG (sG 2 nZ) (dG (sG 3 nZ) j9))) (aB (sS 4 nZ aU) (aB (gC (q9 (aj 2)) (aO (sS 4 nZ (b9 fC (aj 4) (dC (aj 1) (aj 2))))) fy) (aB (gC (q9 (aj 3)) (aO (sS 4 nZ (b9 fC (aj 4) (dC (aj 1) (aj 3))))) fy) (aO (gc (qH PySem.F.slot_list_append PySem.F.type_list_append eP (aj 1) (ak (aj 4) ax)))))))) (aO (bL (io jv B.tuple ej (ak (aj 1) ax))))))
def Ou:FS:=(nA (jJ (e2 CO (cq gH (au (al 0) aK)) (eC nI))) (yZ "TooGreat") fW)
def xN:List W->List am->R W:=dB 1 Ou
theorem K9(F:js K "check_filled" "check_filled" DJ f fd)(B:Bl mg)(G:Gc K mg)(C:Cls K mg) :cN P w K mg base (i_ P w) 1 f fd Ig (jw K mg 1 xN):=
 b_ (k:=0) F KR rfl fun fM A outer s H E hr=>(aO (gC (gG yV (dk jq B.len eD (ak (aj 0) ax)) (Nm G.MOST_FILLED)) (aO (xj C.TooGreat)) fy))
def ID:FS:=(dN (HI nF (eC (.str [])) (au (eL [none,some 1] (dz (al 0)) (fz 0) (jJ (e2 (vj true) (al 0) (al 1))) (al 0)) aK)))
def xO:List W->List am->R W:=dB 2 ID
theorem K_(F:js K "without" "without" DL f fd)  :cN P w K mg base (i_ P w) 1 f fd Ih (jw K mg 2 xO):=
 b_ (k:=0) F KS rfl fun fM A outer s H E hr=>(aO (bL (NF PySem.F.slot_str_join PySem.F.type_str_join Aj uy (ak (kD (nm:=["letter","names"]) (cap:=[none,some 1]) (by first|rfl|kernel_rfl) rfl (fZ (aj 0)) (fun _ _ _ _ _=>(sC 0)) (fun _ _ _ _ _=>(vx (gG (Ny hr) (aj 0) (aj 1)))) (fun _ _ _ _ _=>(aj 0))) ax))))
def IE:FS:=(be (cE 3 (c6 2 qp (au (e2 cZ (al 0) (eI 0)) (au (c6 2 xO (au (al 2) (au (al 1) aK))) aK)))) (dN (eL [none,some 3,some 0,some 1] (ca (au (c6 1 Bz (au (cq gH (au (al 1) aK)) aK)) aK)) (fz 0) iL (e2 fD (al 1) (c6 2 qp (au (e2 cZ (al 2) (eI 0)) (au (c6 2 sP (au (al 3) (au (al 0) aK))) aK)))))))
def uL:List W->List am->R W:=dB 4 IE
theorem K'(F:js K "numbers_at" "numbers_at" DM f fd)(B:Bl mg)(AO:bY P w K mg base 1 "letter_of" 2 qp)(E_:bY P w K mg base 1 "marks_of" 2 sP)(L9:bY P w K mg base 1 "two_to" 1 Bz)(E5:bY P w K mg base 1 "without" 2 xO):cN P w K mg base (i_ P w) 2 f fd Ii (jw K mg 3 uL):=
 b_ (k:=1) F DN rfl fun fM A outer s H E hr=>(aB (sS 3 DN (cu AO hr (by omega) (ak (dC (aj 0) aU) (ak (cu E5 hr (by omega) (ak (aj 2) (ak (aj 1) ax))) ax)))) (aO (bL (kD (nm:=["choice","bare","machine","names"]) (cap:=[none,some 3,some 0,some 1]) (by first|rfl|kernel_rfl) rfl (df B.range (ak (cu L9 hr (by omega) (ak (dk jq B.len eD (ak (aj 1) ax)) ax)) ax)) (fun _ _ _ _ _=>(sC 0)) (fun _ _ _ _ _=>gu) (fun _ _ _ _ _=>(b9 fC (aj 1) (cu AO hr (by omega) (ak (dC (aj 2) aU) (ak (cu E_ hr (by omega) (ak (aj 3) (ak (aj 0) ax))) ax)))))))))
def IF:FS:=(be (cE 1 Da) (be (gI (dz (al 0)) (fz 2) (vo (al 1) (al 2) (e2 fD (vC (al 1) (al 2) (eI 0)) (eI 1)) xq)) (dN (al 1))))
def uM:List W->List am->R W:=dB 3 IF
theorem La(F:js K "times_of" "times_of" DO f fd)  :cN P w K mg base (i_ P w) 1 f fd Ij (jw K mg 1 uM):=
 b_ (k:=0) F zp rfl fun fM A outer s H E hr=>(aB (sS 1 zp Db) (aB (de (fZ (aj 0)) (sG 2 zp) (aO (rY (Km hr) (b9 fC (GK hr (aj 1) (aj 2) aU) aU) (aj 1) (aj 2)))) (aO (bL (aj 1)))))
def Ea:FS:=(be (xb (eL [none] (dz (e2 cZ (al 0) (eI 1))) (fz 0) iL (eI 0)) (fz 4)) (be (gI (dz (c6 1 By (au (al 2) aK))) (fz 5) (gI (dz (c6 1 By (au (al 3) aK))) (fz 6) (be (cE 7 (e2 eM (e2 cZ (al 2) (al 5)) (e2 cZ (al 3) (al 6)))) (gI (re (al 1)) (yX 2 (cU (fz 8) (cU (fz 9) j8))) (be (cE 10 (e2 cZ (e2 cZ (e2 cZ (e2 cZ (al 0) (eI 2)) (al 8)) (al 5)) (al 6))) (vo (al 4) (al 10) (e2 fD (e2 cZ (al 4) (al 10)) (e2 eM (al 7) (al 9))) nE)))))) (dN (al 4))))
def xP:List W->List am->R W:=dB 11 Ea
theorem Lc(F:js K "counts_at" "counts_at" DP f fd) (Hg:bY P w K mg base 1 "come_to" 1 By):cN P w K mg base (i_ P w) 2 f fd Ik (jw K mg 4 xP):=
 b_ (k:=1) F mW rfl fun fM A outer s H E hr=>(aB (jK (sG 4 mW) (m:=0) (nm:=["room"]) (cap:=[none]) (by first|rfl|kernel_rfl) rfl (fZ (dC (aj 0) aU)) (fun _ _ _ _ _=>(sC 0)) (fun _ _ _ _ _=>gu) (fun _ _ _ _ _=>aU)) (aB (de (fZ (cu Hg hr (by omega) (ak (aj 2) ax))) (sG 5 mW) (aO (de (fZ (cu Hg hr (by omega) (ak (aj 3) ax))) (sG 6 mW) (aB (sS 7 mW (b9 gK (dC (aj 2) (aj 5)) (dC (aj 3) (aj 6)))) (aO (de (Do (aj 1)) (mT rfl (dG (sG 8 mW) (dG (sG 9 mW) j9))) (aB (sS 10 mW (dC (dC (dC (dC (aj 0) aU) (aj 8)) (aj 5)) (aj 6))) (aO (rY vp (b9 fC (dC (aj 4) (aj 10)) (b9 gK (aj 7) (aj 9))) (aj 4) (aj 10)))))))))) (aO (bL (aj 4)))))
def IG:FS:=(be (xb (eL [none] (dz (al 0)) (fz 0) iL (mD aK)) (fz 1)) (be (cE 2 (c6 1 xM (au (al 0) aK))) (be (gI (vz (au (e2 qF (cq gH (au (al 0) aK)) (eI 1)) (au (C2 (eI 1)) (au (C2 (eI 1)) aK)))) (fz 3) (ip (uB cO (e2 cZ (al 1) (e2 qF (e2 fD (al 3) (eI 1)) (e2 cZ (al 2) (al 3)))) (au (al 3) aK)))) (dN (al 1)))))
def xQ:List W->List am->R W:=dB 4 IG
theorem Ld(F:js K "parts_begun" "parts_begun" DQ f fd)(B:Bl mg)(Fe:bY P w K mg base 3 "sizes_of" 1 xM):cN P w K mg base (i_ P w) 4 f fd Il (jw K mg 1 xQ):=
 b_ (k:=3) F vO rfl fun fM A outer s H E hr=>(aB (jK (sG 1 vO) (m:=0) (nm:=["place"]) (cap:=[none]) (by first|rfl|kernel_rfl) rfl (fZ (aj 0)) (fun _ _ _ _ _=>(sC 0)) (fun _ _ _ _ _=>gu) (fun _ _ _ _ _=>(j7 ax))) (aB (sS 2 vO (cu Fe hr (by omega) (ak (aj 0) ax))) (aB (de (Gq B.range (ak (b9 qi (dk jq B.len eD (ak (aj 0) ax)) aU) (ak (HL aU) (ak (HL aU) ax)))) (sG 3 vO) (aO (gc (qH PySem.F.slot_list_append PySem.F.type_list_append eP (dC (aj 1) (b9 qi (b9 fC (aj 3) aU) (dC (aj 2) (aj 3)))) (ak (aj 3) ax))))) (aO (bL (aj 1))))))
def mG:FS:=(dN (BV (jJ (wX (al 1))) (c6 1 zr (au (oK "Course" "machine" (al 0)) aK)) (e2 cZ (oK "Course" "counts" (al 0)) (al 1))))
def bQ:List W->List am->R W:=dB 2 mG
theorem lQ(F:js K "counts_below" "Course.counts_below" f_ f fd)(O:Ow K mg)(BH:bY P w K mg base 1 "empty_counts" 1 zr):cN P w K mg base (i_ P w) 2 f fd iQ (jw K mg 2 bQ):=
 b_ (k:=1) F lP rfl fun fM A outer s H E hr=>(aO (bL (CG (CH (aj 1)) (cu BH hr (by omega) (ak (oM O.Course (aj 0)) ax)) (dC (oM O.Course (aj 0)) (aj 1)))))
def gi:FS:=(be (ip (c6 1 xN (au (al 3) aK))) (be (nB "Course" "machine" (al 0) (al 1)) (be (nB "Course" "tree" (al 0) (al 2)) (be (nB "Course" "names" (al 0) (al 3)) (be (nB "Course" "links" (al 0) (c6 1 oX (au (al 2) aK))) (be (nB "Course" "ups" (al 0) (c6 1 xL (au (al 2) aK))) (be (nB "Course" "begun" (al 0) (c6 1 xQ (au (al 2) aK))) (be (nB "Course" "numbers" (al 0) (eL [none,some 1,some 3] (dz (al 2)) (fz 0) iL (c6 3 uL (au (al 1) (au (al 2) (au (e2 cZ (al 0) (eI 1)) aK)))))) (be (nB "Course" "times" (al 0) (eL [none] (dz (oK "Course" "numbers" (al 0))) (fz 0) iL (c6 1 uM (au (al 0) aK)))) (be (nB "Course" "counts" (al 0) (mD aK)) (be (gI (pV (au (oK "Course" "times" (al 0)) (au (oK "Course" "links" (al 0)) aK))) (yX 2 (cU (fz 4) (cU (fz 5) j8))) (ip (uB cO (oK "Course" "counts" (al 0)) (au (c6 4 xP (au (al 1) (au (al 4) (au (qm "Course" "counts_below" 2 bQ (al 0) (au (e2 cZ (al 5) (eI 0)) aK)) (au (qm "Course" "counts_below" 2 bQ (al 0) (au (e2 cZ (al 5) (eI 1)) aK)) aK))))) aK)))) (be (nB "Course" "weights" (al 0) Da) (be (nB "Course" "rooms" (al 0) (mD aK)) (nB "Course" "marks" (al 0) (mD aK)))))))))))))))
def eX:List W->List am->R W:=dB 6 gi
theorem og(F:js K "__init__" "Course.__init__" iy f fd)(B:Bl mg)(O:Ow K mg)(b6:sw P w K mg base 2 "Course" "counts_below" 2 bQ)(E0:bY P w K mg base 1 "check_filled" 1 xN)(EW:bY P w K mg base 2 "counts_at" 4 xP)(pz:bY P w K mg base 2 "links_of" 1 oX)(Fb:bY P w K mg base 2 "numbers_at" 3 uL)(E1:bY P w K mg base 4 "parts_begun" 1 xQ)(Ff:bY P w K mg base 1 "times_of" 1 uM)(EV:bY P w K mg base 3 "ups_of" 1 xL):cN P w K mg base (i_ P w) 5 f fd ki (jw K mg 4 eX):=
 b_ (k:=4) F hW rfl fun fM A outer s H E hr=>(aB (gc (cu E0 hr (by omega) (ak (aj 3) ax))) (aB (jk O.Course (aj 0) (aj 1)) (aB (jk O.Course (aj 0) (aj 2)) (aB (jk O.Course (aj 0) (aj 3)) (aB (jk O.Course (aj 0) (cu pz hr (by omega) (ak (aj 2) ax))) (aB (jk O.Course (aj 0) (cu EV hr (by omega) (ak (aj 2) ax))) (aB (jk O.Course (aj 0) (cu E1 hr (by omega) (ak (aj 2) ax))) (aB (jk O.Course (aj 0) (kD (nm:=["place","machine","names"]) (cap:=[none,some 1,some 3]) (by first|rfl|kernel_rfl) rfl (fZ (aj 2)) (fun _ _ _ _ _=>(sC 0)) (fun _ _ _ _ _=>gu) (fun _ _ _ _ _=>(cu Fb hr (by omega) (ak (aj 1) (ak (aj 2) (ak (dC (aj 0) aU) ax))))))) (aB (jk O.Course (aj 0) (kD (nm:=["numbers"]) (cap:=[none]) (by first|rfl|kernel_rfl) rfl (fZ (oM O.Course (aj 0))) (fun _ _ _ _ _=>(sC 0)) (fun _ _ _ _ _=>gu) (fun _ _ _ _ _=>(cu Ff hr (by omega) (ak (aj 0) ax))))) (aB (jk O.Course (aj 0) (j7 ax)) (aB (de (Aq B.zip (ak (oM O.Course (aj 0)) (ak (oM O.Course (aj 0)) ax))) (mT rfl (dG (sG 4 hW) (dG (sG 5 hW) j9))) (aO (gc (qH PySem.F.slot_list_append PySem.F.type_list_append eP (oM O.Course (aj 0)) (ak (cu EW hr (by omega) (ak (aj 1) (ak (aj 4) (ak (y_ b6 hr (by omega) (aj 0) (ak (dC (aj 5) aU) ax)) (ak (y_ b6 hr (by omega) (aj 0) (ak (dC (aj 5) aU) ax)) ax))))) ax))))) (aB (jk O.Course (aj 0) Db) (aB (jk O.Course (aj 0) (j7 ax)) (aO (jk O.Course (aj 0) (j7 ax))))))))))))))))
def p6:FS:=(dN (c6 2 xK (au (oK "Course" "machine" (al 0)) (au (qm "Course" "counts_below" 2 bQ (al 0) (au (BV (jJ (e2 CO (cq gH (au (oK "Course" "tree" (al 0)) aK)) (eI 0))) (e2 qF (cq gH (au (oK "Course" "tree" (al 0)) aK)) (eI 1)) (eC .non)) aK)) aK))))
def fH:List W->List am->R W:=dB 1 p6
theorem oY(F:js K "let_all" "Course.let_all" iW f fd)(B:Bl mg)(O:Ow K mg)(b6:sw P w K mg base 2 "Course" "counts_below" 2 bQ)(BN:bY P w K mg base 1 "let_many" 2 xK):cN P w K mg base (i_ P w) 3 f fd kS (jw K mg 1 fH):=
 b_ (k:=2) F oS rfl fun fM A outer s H E hr=>(aO (bL (cu BN hr (by omega) (ak (oM O.Course (aj 0)) (ak (y_ b6 hr (by omega) (aj 0) (ak (CG (gG yV (dk jq B.len eD (ak (oM O.Course (aj 0)) ax)) aU) (b9 qi (dk jq B.len eD (ak (oM O.Course (aj 0)) ax)) aU) wU) ax)) ax)))))
def Ov:FS:=(dN (qm "Course" "let_all" 1 fH (Ap "Course" 4 eX (au (al 0) (au (al 1) (au (al 2) aK)))) aK))
def qt:List W->List am->R W:=dB 3 Ov
theorem Le(F:js K "fillings" "fillings" DR f fd) (iC:zc P w K mg base 5 "Course" 4 eX)(iZ:sw P w K mg base 3 "Course" "let_all" 1 fH):cN P w K mg base (i_ P w) 7 f fd Im (jw K mg 3 qt):=
 b_ (k:=6) F KU rfl fun fM A outer s H E hr=>(aO (bL (GQ iZ hr (by omega) (Kr iC hr (by omega) (ak (aj 0) (ak (aj 1) (ak (aj 2) ax)))))))
def Ox:FS:=(be (nA (jJ (e2 w5 (cq gH (au (al 0) aK)) (eI 0))) (dN (eI 0)) fW) (dN (e2 cZ (al 0) (e2 nV (al 1) (cq gH (au (al 0) aK))))))
def sQ:List W->List am->R W:=dB 2 Ox
theorem Lf(F:js K "_law_cell" "_law_cell" DS f fd)(B:Bl mg) :cN P w K mg base (i_ P w) 1 f fd Io (jw K mg 2 sQ):=
 b_ (k:=0) F KW rfl fun fM A outer s H E hr=>(aB (gC (gG (yW hr) (dk jq B.len eD (ak (aj 0) ax)) aU) (aO (bL aU)) fy) (aO (bL (dC (aj 0) (b9 mS (aj 1) (dk jq B.len eD (ak (aj 0) ax)))))))
def Oy:FS:=(be (cE 3 (e2 nV (e2 eM (e2 fD (e2 fD (e2 fD (al 0) (e2 eM (e2 eM (eI 7) (al 1)) (al 1))) (e2 eM (eI 13) (al 1))) (al 2)) (eI 69621)) (eI 2147483647))) (dN (e2 nV (e2 eM (e2 nV (e2 fD (e2 fD (e2 eM (al 3) (e2 fD (e2 Ad (al 3) (eI 1009)) (eI 3))) (e2 eM (eI 31) (al 1))) (al 2)) (eI 2147483629)) (eI 48271)) (eI 1000000007))))
def uN:List W->List am->R W:=dB 4 Oy
theorem Lg(F:js K "_law_mixed" "_law_mixed" DT f fd)  :cN P w K mg base (i_ P w) 1 f fd Ip (jw K mg 3 uN):=
 b_ (k:=0) F DU rfl fun fM A outer s H E hr=>(aB (sS 3 DU (b9 mS (b9 gK (b9 fC (b9 fC (b9 fC (aj 0) (b9 gK (b9 gK aU (aj 1)) (aj 1))) (b9 gK aU (aj 1))) (aj 2)) aU) aU)) (aO (bL (b9 mS (b9 gK (b9 mS (b9 fC (b9 fC (b9 gK (aj 3) (b9 fC (b9 CL (aj 3) aU) aU)) (b9 gK aU (aj 1))) (aj 2)) aU) aU) aU))))
def IH:FS:=(be (cE 3 (mD aK)) (be (cE 4 (eI 0)) (be (nA (jJ (e2 Rv (al 0) (e2 Nt (eI 10) (eI 18)))) (cE 4 (al 0)) fW) (be (gI (ca (au (al 1) aK)) (fz 5) (nA (jJ (e2 CO (al 4) (eI 0))) (be (ip (uB cO (al 3) (au (e2 nV (al 4) (eI 64)) aK))) (cE 4 (e2 Ad (al 4) (eI 64)))) (ip (uB cO (al 3) (au (c6 3 uN (au (al 0) (au (al 5) (au (al 2) aK)))) aK))))) (dN (al 3))))))
def oZ:List W->List am->R W:=dB 6 IH
theorem Lh(F:js K "_law_draws" "_law_draws" DV f fd)(B:Bl mg)(Fh:bY P w K mg base 1 "_law_mixed" 3 uN):cN P w K mg base (i_ P w) 2 f fd Iq (jw K mg 3 oZ):=
 b_ (k:=1) F p5 rfl fun fM A outer s H E hr=>(aB (sS 3 p5 (j7 ax)) (aB (sS 4 p5 aU) (aB (gC (gG Qy (aj 0) (b9 Nv aU aU)) (aO (sS 4 p5 (aj 0))) fy) (aB (de (df B.range (ak (aj 1) ax)) (sG 5 p5) (aO (gC (gG yV (aj 4) aU) (aB (gc (qH PySem.F.slot_list_append PySem.F.type_list_append eP (aj 3) (ak (b9 mS (aj 4) aU) ax))) (aO (sS 4 p5 (b9 CL (aj 4) aU)))) (aO (gc (qH PySem.F.slot_list_append PySem.F.type_list_append eP (aj 3) (ak (cu Fh hr (by omega) (ak (aj 0) (ak (aj 5) (ak (aj 2) ax)))) ax))))))) (aO (bL (aj 3)))))))
def xR(Pd:List W->List am->R W):FS:=(be (nA (jJ (pS "tuple" (al 1))) (be (nA (J5 (Hz (jJ (pS "tuple" (al 0)))) (jJ (e2 Mi (cq gH (au (al 0) aK)) (cq gH (au (al 1) aK))))) (dN (eC (.bl false))) fW) (be (gI (ca (au (cq gH (au (al 1) aK)) aK)) (fz 2) (nA (Hz (jJ (c6 2 Pd (au (e2 cZ (al 0) (al 2)) (au (e2 cZ (al 1) (al 2)) aK))))) (dN (eC (.bl false))) fW)) (dN (eC (.bl true))))) fW) (be (nA (jJ (wX (al 1))) (dN (wX (al 0))) fW) (be (nA (jJ (pS "bool" (al 1))) (dN (wV (pS "bool" (al 0)) (e2 w5 (al 0) (al 1)))) fW) (be (nA (jJ (pS "int" (al 1))) (dN (wV (pS "int" (al 0)) (wV (CF (pS "bool" (al 0))) (e2 w5 (al 0) (al 1))))) fW) (dN (wV (pS "str" (al 0)) (e2 w5 (al 0) (al 1))))))))
def kj:Nat->List W->List am->R W
 |0=>fun _ _=>.bad
 |k+1=>dB 3 (xR (kj k))
theorem Ax{E6:Addr}{Ma:FuncData}(u4:js K "_law_same" "_law_same" DW E6 Ma)(yd:mg "_law_same"=some (.ref E6))(B:Bl mg) :∀k:Nat,bY P w K mg base (0+k) "_law_same" 2 (kj k)
 |0=>C3 (ps:=DY) u4 yd rfl (fun _ _ _ _ _ _ us hl=>match us,hl with|[_,_],_=>rfl)
 |k+1=>by
  have yg:=Ax u4 yd B  k
  exact vt (ps:=DY) u4 yd rfl (fun _ _ _ _ _ _ us hl=>match us,hl with|[_,_],_=>rfl) (b_ (k:=0+k) u4 DZ rfl fun fM A outer s H E hr=>(aB (gC (kB (nG B.isinstance B.tuple ej (aj 1))) (aB (gC (No (Nn (vi (kB (nG B.isinstance B.tuple ej (aj 0)))) (J6 (gG (Nx hr) (dk jq B.len eD (ak (aj 0) ax)) (dk jq B.len eD (ak (aj 1) ax)))))) (aO (bL Bi)) fy) (aB (de (df B.range (ak (dk jq B.len eD (ak (aj 1) ax)) ax)) (sG 2 DZ) (aO (gC (vi (kB (cu yg hr (by omega) (ak (dC (aj 0) (aj 2)) (ak (dC (aj 1) (aj 2)) ax))))) (aO (bL Bi)) fy))) (aO (bL Bi)))) fy) (aB (gC (CH (aj 1)) (aO (bL (Np (aj 0)))) fy) (aB (gC (kB (nG B.isinstance B.bool nv (aj 1))) (aO (bL (wW (nG B.isinstance B.bool nv (aj 0)) (Ac (uz (yW hr) (aj 0) (aj 1)))))) fy) (aB (gC (kB (nG B.isinstance B.int boot_int (aj 1))) (aO (bL (wW (nG B.isinstance B.int boot_int (aj 0)) (wW (HA (nG B.isinstance B.bool nv (aj 0))) (Ac (uz (yW hr) (aj 0) (aj 1))))))) fy) (aO (bL (wW (nG B.isinstance B.str boot_str (aj 0)) (Ac (uz (yW hr) (aj 0) (aj 1)))))))))))
def II:FS:=(be (cE 3 (eC (.str [65,66,67,68,69,70,71,72,73,74,75,76,77,78,79,80,81,82,83,84,85,86,87,88,89,90,97,98,99,100,101,102,103,104,105,106,107,108,109,110,111,112,113,114,115,116,117,118,119,120,121,122]))) (be (cE 4 (eC (.str []))) (be (gI (dz (c6 3 oZ (au (al 0) (au (al 1) (au (al 2) aK))))) (fz 5) (be (cE 6 (e2 nV (al 5) (cq gH (au (al 3) aK)))) (be (cE 4 (e2 fD (al 4) (e2 cZ (al 3) (al 6)))) (cE 3 (e2 fD (Mj (al 3) w_ (uA (al 6))) (Mj (al 3) (uA (e2 fD (al 6) (eI 1))) w_)))))) (dN (al 4)))))
def xS:List W->List am->R W:=dB 7 II
theorem Li(F:js K "_law_pool" "_law_pool" D0 f fd)(B:Bl mg)(tI:bY P w K mg base 2 "_law_draws" 3 oZ):cN P w K mg base (i_ P w) 3 f fd Ir (jw K mg 3 xS):=
 b_ (k:=2) F n_ rfl fun fM A outer s H E hr=>(aB (sS 3 n_ uy) (aB (sS 4 n_ uy) (aB (de (fZ (cu tI hr (by omega) (ak (aj 0) (ak (aj 1) (ak (aj 2) ax))))) (sG 5 n_) (aB (sS 6 n_ (b9 mS (aj 5) (dk jq B.len eD (ak (aj 3) ax)))) (aB (sS 4 n_ (b9 fC (aj 4) (dC (aj 3) (aj 6)))) (aO (sS 3 n_ (b9 fC (Ka (aj 3) vm (vn (aj 6))) (Ka (aj 3) (vn (b9 fC (aj 6) aU)) vm))))))) (aO (bL (aj 4))))))
def IJ:FS:=(be (cE 4 (cq hJ (au (eL [none,some 3] (ca (au (al 1) aK)) (fz 0) iL (e2 w5 (e2 nV (e2 cZ (al 1) (al 0)) (eI 2)) (eI 1))) aK))) (be (cE 5 (mD aK)) (be (cE 6 (al 1)) (be (gI (ca (au (e2 rX (eI 1) (cq gH (au (al 0) aK))) aK)) (fz 7) (be (cE 8 (mD aK)) (be (gI (ca (au (al 1) aK)) (fz 9) (be (ip (uB cO (al 8) (au (cq hJ (au (eL [none,some 2,some 3,some 6] (ca (au (al 1) aK)) (fz 0) iL (e2 nV (e2 cZ (al 2) (e2 fD (al 3) (al 0))) (al 1))) aK)) aK))) (cE 6 (e2 fD (al 6) (al 1))))) (ip (uB cO (al 5) (au (cq hJ (au (al 8) aK)) aK)))))) (dN (pM (au (al 0) (au (al 4) (au (cq hJ (au (al 5) aK)) aK)))))))))
def xU:List W->List am->R W:=dB 10 IJ
theorem Lj(F:js K "_law_machine" "_law_machine" D1 f fd)(B:Bl mg) :cN P w K mg base (i_ P w) 1 f fd Iu (jw K mg 4 xU):=
 b_ (k:=0) F mX rfl fun fM A outer s H E hr=>(aB (sS 4 mX (io jv B.tuple ej (ak (kD (nm:=["_law_k","_law_draws_here"]) (cap:=[none,some 3]) (by first|rfl|kernel_rfl) rfl (df B.range (ak (aj 1) ax)) (fun _ _ _ _ _=>(sC 0)) (fun _ _ _ _ _=>gu) (fun _ _ _ _ _=>(uz (yW hr) (b9 mS (dC (aj 1) (aj 0)) aU) aU))) ax))) (aB (sS 5 mX (j7 ax)) (aB (sS 6 mX (aj 1)) (aB (de (df B.range (ak (b9 CM aU (dk jq B.len eD (ak (aj 0) ax))) ax)) (sG 7 mX) (aB (sS 8 mX (j7 ax)) (aB (de (df B.range (ak (aj 1) ax)) (sG 9 mX) (aB (gc (qH PySem.F.slot_list_append PySem.F.type_list_append eP (aj 8) (ak (io jv B.tuple ej (ak (kD (nm:=["_law_r","_law_top","_law_draws_here","_law_at"]) (cap:=[none,some 2,some 3,some 6]) (by first|rfl|kernel_rfl) rfl (df B.range (ak (aj 1) ax)) (fun _ _ _ _ _=>(sC 0)) (fun _ _ _ _ _=>gu) (fun _ _ _ _ _=>(b9 mS (dC (aj 2) (b9 fC (aj 3) (aj 0))) (aj 1)))) ax)) ax))) (aO (sS 6 mX (b9 fC (aj 6) (aj 1)))))) (aO (gc (qH PySem.F.slot_list_append PySem.F.type_list_append eP (aj 5) (ak (io jv B.tuple ej (ak (aj 8) ax)) ax))))))) (aO (bL (oF (ak (aj 0) (ak (aj 4) (ak (io jv B.tuple ej (ak (aj 5) ax)) ax))))))))))
def Oz:FS:=(be (cE 1 (mD (au (mD (au (pM aK) aK)) aK))) (be (gI (oH (au (eI 1) (au (e2 fD (al 0) (eI 1)) aK))) (fz 2) (be (cE 3 (mD aK)) (be (gI (ca (au (al 2) aK)) (fz 4) (be (cE 5 (e2 fD (cq xa (au (al 4) (au (eI 1) aK))) (e2 eM (eI 2) (cq xa (au (e2 qF (e2 qF (al 2) (eI 1)) (al 4)) (au (eI 1) aK)))))) (gI (dz (e2 cZ (al 1) (al 4))) (fz 6) (gI (dz (e2 cZ (al 1) (e2 qF (e2 qF (al 2) (eI 1)) (al 4)))) (fz 7) (ip (uB cO (al 3) (au (e2 fD (e2 fD (al 6) (al 7)) (pM (au (pM (au (al 5) (au (eC (.str [])) aK))) aK))) aK))))))) (ip (uB cO (al 1) (au (al 3) aK)))))) (dN (e2 cZ (al 1) (al 0)))))
def xV:List W->List am->R W:=dB 8 Oz
theorem Lk(F:js K "_law_shapes" "_law_shapes" D2 f fd)(B:Bl mg) :cN P w K mg base (i_ P w) 1 f fd Iv (jw K mg 1 xV):=
 b_ (k:=0) F mY rfl fun fM A outer s H E hr=>(aB (sS 1 mY (j7 (ak (j7 (ak (oF ax) ax)) ax))) (aB (de (Bo B.range (ak aU (ak (b9 fC (aj 0) aU) ax))) (sG 2 mY) (aB (sS 3 mY (j7 ax)) (aB (de (df B.range (ak (aj 2) ax)) (sG 4 mY) (aB (sS 5 mY (b9 fC (dk HE B.min boot_min (ak (aj 4) (ak aU ax))) (b9 gK aU (dk HE B.min boot_min (ak (b9 qi (b9 qi (aj 2) aU) (aj 4)) (ak aU ax)))))) (aO (de (fZ (dC (aj 1) (aj 4))) (sG 6 mY) (aO (de (fZ (dC (aj 1) (b9 qi (b9 qi (aj 2) aU) (aj 4)))) (sG 7 mY) (aO (gc (qH PySem.F.slot_list_append PySem.F.type_list_append eP (aj 3) (ak (b9 fC (b9 fC (aj 6) (aj 7)) (oF (ak (oF (ak (aj 5) (ak uy ax))) ax))) ax)))))))))) (aO (gc (qH PySem.F.slot_list_append PySem.F.type_list_append eP (aj 1) (ak (aj 3) ax))))))) (aO (bL (dC (aj 1) (aj 0))))))
def OA:FS:=(dN (wV (pS "int" (al 0)) (CF (pS "bool" (al 0)))))
def uO:List W->List am->R W:=dB 1 OA
theorem Ll(F:js K "_law_whole" "_law_whole" D3 f fd)(B:Bl mg) :cN P w K mg base (i_ P w) 1 f fd Iw (jw K mg 1 uO):=
 b_ (k:=0) F KY rfl fun fM A outer s H E hr=>(aO (bL (wW (nG B.isinstance B.int boot_int (aj 0)) (Ac (HA (nG B.isinstance B.bool nv (aj 0)))))))
def OB:FS:=(dN (cq hJ (au (eL [none,some 1,some 0,some 2] (ca (au (cq gH (au (al 0) aK)) aK)) (fz 0) iL (pM (au (e2 cZ (e2 cZ (al 2) (al 0)) (eI 0)) (au (e2 eM (al 1) (e2 wZ (e2 yU (al 3) (al 0)) (eI 1))) aK)))) aK)))
def xW:List W->List am->R W:=dB 3 OB
theorem Lm(F:js K "_law_worn" "_law_worn" D4 f fd)(B:Bl mg) :cN P w K mg base (i_ P w) 1 f fd Iy (jw K mg 3 xW):=
 b_ (k:=0) F KZ rfl fun fM A outer s H E hr=>(aO (bL (io jv B.tuple ej (ak (kD (nm:=["_law_k","_law_letter","_law_tree","_law_way"]) (cap:=[none,some 1,some 0,some 2]) (by first|rfl|kernel_rfl) rfl (df B.range (ak (dk jq B.len eD (ak (aj 0) ax)) ax)) (fun _ _ _ _ _=>(sC 0)) (fun _ _ _ _ _=>gu) (fun _ _ _ _ _=>(oF (ak (dC (dC (aj 2) (aj 0)) aU) (ak (b9 gK (aj 1) (b9 CN (b9 HD (aj 3) (aj 0)) aU)) ax))))) ax))))
def IK:FS:=(be (cE 1 (c6 3 oZ (au (c6 2 sQ (au (al 0) (au (eI 0) aK))) (au (eI 3) (au (eI 50021) aK))))) (be (cE 2 (e2 nV (e2 cZ (al 1) (eI 0)) (eI 3))) (be (cE 3 (e2 fD (eI 1) (e2 nV (e2 cZ (al 1) (eI 1)) (e2 qF (eI 7) (e2 eM (eI 2) (al 2)))))) (be (cE 4 (e2 nV (e2 cZ (al 1) (eI 2)) (eI 6))) (be (cE 5 (HI nF (eC (.str [])) (au (cq lF (au (c6 3 xS (au (c6 2 sQ (au (al 0) (au (eI 1) aK))) (au (al 2) (au (eI 100003) aK)))) aK)) aK))) (be (cE 6 (c6 3 oZ (au (c6 2 sQ (au (al 0) (au (eI 2) aK))) (au (e2 fD (al 3) (e2 rX (e2 eM (al 3) (al 3)) (al 2))) (au (eI 200017) aK))))) (be (cE 7 (c6 4 xU (au (al 5) (au (al 3) (au (al 3) (au (al 6) aK)))))) (be (cE 8 (eI 0)) (be (gI (dz (c6 1 xV (au (al 4) aK))) (fz 9) (be (cE 10 (c6 3 qt (au (al 7) (au (al 9) (au (al 5) aK))))) (be (nA (Hz (jJ (c6 1 uO (au (al 10) aK)))) (dN (eC (.bl false))) fW) (be (cE 8 (e2 fD (al 8) (al 10))) (nA (J4 (jJ (e2 CO (al 2) (eI 0))) (jJ (e2 Nw (al 4) (eI 4)))) (be (cE 11 (eI 0)) (be (gI (ca (au (e2 rX (eI 1) (al 4)) aK)) (fz 12) (be (cE 13 (c6 3 qt (au (al 7) (au (c6 3 xW (au (al 9) (au (e2 cZ (al 5) (eI 0)) (au (al 12) aK)))) (au (Mj (al 5) (uA (eI 1)) w_) aK))))) (be (nA (Hz (jJ (c6 1 uO (au (al 13) aK)))) (dN (eC (.bl false))) fW) (cE 11 (e2 fD (al 11) (al 13)))))) (nA (jJ (e2 Mi (al 11) (al 10))) (dN (eC (.bl false))) fW))) fW))))) (dN (c6 2 (kj 40) (au (c6 2 D_ (au (al 7) (au (al 4) aK))) (au (al 8) aK)))))))))))))
def f_q33:List W->List am->R W:=dB 14 IK
theorem Ln(F:js K "law" "law" oT f fd)(B:Bl mg)(yi:bY P w K mg base 1 "_law_cell" 2 sQ)(tI:bY P w K mg base 2 "_law_draws" 3 oZ)(EU:bY P w K mg base 1 "_law_machine" 4 xU)(Fd:bY P w K mg base 3 "_law_pool" 3 xS)(yg:bY P w K mg base 40 "_law_same" 2 (kj 40))(E4:bY P w K mg base 1 "_law_shapes" 1 xV)(AR:bY P w K mg base 1 "_law_whole" 1 uO)(Fa:bY P w K mg base 1 "_law_worn" 3 xW)(Mf:bY P w K mg base 4 "counted" 2 D_)(AQ:bY P w K mg base 7 "fillings" 3 qt):cN P w K mg base (i_ P w) 41 f fd D5 (jw K mg 1 f_q33):=
 b_ (k:=40) F gM rfl fun fM A outer s H E hr=>(aB (sS 1 gM (cu tI hr (by omega) (ak (cu yi hr (by omega) (ak (aj 0) (ak aU ax))) (ak aU (ak aU ax))))) (aB (sS 2 gM (b9 mS (dC (aj 1) aU) aU)) (aB (sS 3 gM (b9 fC aU (b9 mS (dC (aj 1) aU) (b9 qi aU (b9 gK aU (aj 2)))))) (aB (sS 4 gM (b9 mS (dC (aj 1) aU) aU)) (aB (sS 5 gM (NF PySem.F.slot_str_join PySem.F.type_str_join Aj uy (ak (dk Gv B.sorted boot_sorted (ak (cu Fd hr (by omega) (ak (cu yi hr (by omega) (ak (aj 0) (ak aU ax))) (ak (aj 2) (ak aU ax)))) ax)) ax))) (aB (sS 6 gM (cu tI hr (by omega) (ak (cu yi hr (by omega) (ak (aj 0) (ak aU ax))) (ak (b9 fC (aj 3) (b9 CM (b9 gK (aj 3) (aj 3)) (aj 2))) (ak aU ax))))) (aB (sS 7 gM (cu EU hr (by omega) (ak (aj 5) (ak (aj 3) (ak (aj 3) (ak (aj 6) ax)))))) (aB (sS 8 gM aU) (aB (de (fZ (cu E4 hr (by omega) (ak (aj 4) ax))) (sG 9 gM) (aB (sS 10 gM (cu AQ hr (by omega) (ak (aj 7) (ak (aj 9) (ak (aj 5) ax))))) (aB (gC (vi (kB (cu AR hr (by omega) (ak (aj 10) ax)))) (aO (bL Bi)) fy) (aB (sS 8 gM (b9 fC (aj 8) (aj 10))) (aO (gC (No (J7 (gG yV (aj 2) aU) (Gh (gG w_lt (aj 4) aU)))) (aB (sS 11 gM aU) (aB (de (df B.range (ak (b9 CM aU (aj 4)) ax)) (sG 12 gM) (aB (sS 13 gM (cu AQ hr (by omega) (ak (aj 7) (ak (cu Fa hr (by omega) (ak (aj 9) (ak (dC (aj 5) aU) (ak (aj 12) ax)))) (ak (Ka (aj 5) (vn aU) vm) ax))))) (aB (gC (vi (kB (cu AR hr (by omega) (ak (aj 13) ax)))) (aO (bL Bi)) fy) (aO (sS 11 gM (b9 fC (aj 11) (aj 13))))))) (aO (gC (gG (Nx hr) (aj 11) (aj 10)) (aO (bL Bi)) fy)))) fy)))))) (aO (bL (cu yg hr (by omega) (ak (cu Mf hr (by omega) (ak (aj 7) (ak (aj 4) ax))) (ak (aj 8) ax))))))))))))))
end
theorem Lo(ns:List α)(hl:0<ns.length)(k:Int):∃c∈ns,tP ns (k%((ns.length:Nat):Int))=some c:=by
 have h0:0<=k%((ns.length:Nat):Int):=g_ _ (by omega)
 have h1:k%((ns.length:Nat):Int)<ns.length:=jZ _ (by omega)
 obtain⟨m,hm⟩:=Int.eq_ofNat_of_zero_le h0
 rw[hm]at h1 ⊢
 have h2:m<ns.length:=by omega
 exact⟨ns[m],ln _,f9 (by simp[h2])⟩
theorem vS{ns:List Int}(h:st[n]?=some (.ro (ns.map W.int)))(k:Int):∃c,sQ [.loc n,.int k] st=.ok (.int c) st:=by
 by_cases hn:ns=[]
 ·subst hn
  refine⟨0,?_⟩
  apply nq;apply Dx;apply lK
  ·(repeat' (first|with_reducible exact vK (rg h)|walk_at "ev1"))
  ·(walk_at "evs")
 ·have hl:0<ns.length:=List.length_pos_iff.mpr hn
  obtain⟨c,hc,e⟩:=Lo (ns.map W.int) (by simpa using hl) k
  obtain⟨c,_,rfl⟩:=bH.mp hc
  refine⟨c,?_⟩
  apply nq;apply HU
  ·apply vI
   ·(repeat' (first|with_reducible exact vK (rg h)|walk_at "ev1"))
    rw[bZ,aq];omega
   ·(walk_at "evs")
  ·(repeat' (first|with_reducible exact vK (rg h)|with_reducible exact kP (rg h) e|walk_at "ev1"))
   rw[aq];omega
theorem Eb(c k s:Int)(hk:-(2^64)<k/\k<2^64)(st:List am):∃r,0<=r/\uN [.int c,.int k,.int s] st=.ok (.int r) st:=by
 have big:∀q:Int,0<=q%2147483647/\q%2147483647<2147483647:=fun q=>⟨g_ _ (by decide),jZ _ (by decide)⟩
 refine⟨(((c+7*k*k+13*k+s)*69621%2147483647*((c+7*k*k+13*k+s)*69621%2147483647/1009+3)+31*k+s)%2147483629*48271)%1000000007,g_ _ (by decide),?_⟩
 apply nq;apply HU
 ·(walk_at "evs")<;>first|exact .inl (by decide)|exact .inr (by decide)|exact .inr hk
 ·(walk_at "evs")<;>first|exact .inl (by decide)|exact .inr (by decide)|exact .inl (by have:=big ((c+7*k*k+13*k+s)*69621);omega)
theorem sR(c s:Int)(m:Nat)(hm:m<=1000)(st:List am):∃ds:List Int,ds.length=m/\(∀d∈ds,0<=d)/\oZ [.int c,.int m,.int s] st=.ok (.loc st.length) (st++[.lst (ds.map W.int)]):=by
 suffices hh:kg (yt fun w br=>∃j x,w=.loc (st.length+j)/\br=st++x/\j=0/\∃ds:List Int,x=[.lst (ds.map W.int)]/\ds.length=m/\∀d∈ds,0<=d) (IH ([W.int c,.int m,.int s].map some++List.replicate (6-3) none) st) by
  obtain⟨j,x,⟨rfl,ds,rfl,h1,h2⟩,e⟩:=lO hh
  exact⟨ds,h1,h2,e⟩
 apply aG
 ·(walk_at "evs")
 apply aG
 ·(walk_at "evs")
 have main:∀r0:Int,kg (yt fun w br=>∃j x,w=.loc (st.length+j)/\br=st++x/\j=0/\∃ds:List Int,x=[.lst (ds.map W.int)]/\ds.length=m/\∀d∈ds,0<=d)
   (be (gI (ca (au (al 1) aK)) (fz 5) (nA (jJ (e2 CO (al 4) (eI 0))) (be (ip (uB cO (al 3) (au (e2 nV (al 4) (eI 64)) aK))) (cE 4 (e2 Ad (al 4) (eI 64)))) (ip (uB cO (al 3) (au (c6 3 uN (au (al 0) (au (al 5) (au (al 2) aK)))) aK))))) (dN (al 3))
   [some (.int c),some (.int m),some (.int s),some (.loc st.length),some (.int r0),none] (st++[.lst []])):=by
  intro r0
  refine dm (fun i ρ br=>∃(r:Int) (o:Option W) (ds:List Int),ρ=[some (.int c),some (.int m),some (.int s),some (.loc st.length),some (.int r),o]/\br=st++[.lst (ds.map W.int)]/\ds.length=i/\∀d∈ds,0<=d) (gm (by(walk_at "evs");rfl) (by omega))
   ⟨r0,none,[],rfl,rfl,rfl,by simp⟩ (fun _ _ _ _=>trivial) ?_ ?_
  ·rintro i w ρ br hw ⟨r,o,ds,rfl,rfl,hd,h⟩
   obtain⟨hi,rfl⟩:=fG hw
   refine⟨_,rfl,?_⟩
   have gT:(st++[am.lst (ds.map W.int)])[st.length]?=some (.lst (ds.map W.int)):=by rw[gR];rfl
   have hsh:(ds.map W.int).length<kI:=by rw[aq,hd];show i<1000000;omega
   by_cases hr:0<r
   ·apply uJ
    ·(walk_at "evs");simpa using hr
    apply aG
    ·(repeat' (first|with_reducible exact gW gT|with_reducible exact uI gT hsh|walk_at "ev1"))
    rw[jE]
    apply cP
    ·(walk_at "evs")
    ·refine⟨_,_,rfl,r/64,_,ds++[r%64],rfl,by simp,by simp[hd],fun d hd'=>?_⟩
     rcases cS.mp hd' with hd'|hd'
     ·exact h d hd'
     ·rw[fT.mp hd'];exact g_ _ (by decide)
   ·obtain⟨q,hq,e⟩:=Eb c (0+i) s (by omega) (st++[am.lst (ds.map W.int)])
    apply nH
    ·(walk_at "evs");simpa using hr
    apply cP
    ·(repeat' (first|with_reducible exact gW gT|with_reducible exact uI gT hsh|with_reducible exact e|walk_at "ev1"))
    ·refine⟨_,_,rfl,r,_,ds++[q],rfl,by rw[jE];simp,by simp[hd],fun d hd'=>?_⟩
     rcases cS.mp hd' with hd'|hd'
     ·exact h d hd'
     ·rw[fT.mp hd'];exact hq
  ·rintro ρ br ⟨r,o,ds,rfl,rfl,hd,h⟩
   apply bN
   ·(walk_at "evs")
   ·exact⟨_,_,rfl,0,_,rfl,rfl,rfl,ds,rfl,by rw[hd];simpa using cC 0 m,h⟩
 by_cases hc:(10:Int)^18<=c
 ·apply aG
  ·apply lK
   ·(walk_at "evs")<;>simpa using hc
   ·(walk_at "evs")
  ·exact main c
 ·apply aG
  ·apply vI
   ·(walk_at "evs")<;>simpa using hc
   ·(walk_at "evs")
  ·exact main 0
abbrev LL:List Nat:=[65,66,67,68,69,70,71,72,73,74,75,76,77,78,79,80,81,82,83,84,85,86,87,88,89,90,97,98,99,100,101,102,103,104,105,106,107,108,109,110,111,112,113,114,115,116,117,118,119,120,121,122]
theorem GY(c s:Int)(m:Nat)(hm:m<=52)(st:List am):∃l:List Nat,l.length=m/\l.Nodup/\(∀d∈l,d∈LL)/\xS [.int c,.int m,.int s] st=.ok (.str l) st:=by
 suffices hh:kg (yt fun w br=>(∃x,br=st++x)/\undWs st.length [w]=true/\∃l:List Nat,w=.str l/\l.length=m/\l.Nodup/\∀d∈l,d∈LL) (II ([W.int c,.int m,.int s].map some++List.replicate (7-3) none) st) by
  obtain⟨w,⟨l,rfl,h1,h2,h3⟩,e⟩:=Av hh
  exact⟨l,h1,h2,h3,e⟩
 obtain⟨ds,h1,h2,e⟩:=sR c s m (by omega) st
 apply aG
 ·(walk_at "evs")
 apply aG
 ·(walk_at "evs")
 have gT:lstOf (st++[am.lst (ds.map W.int)]) st.length=some (ds.map W.int):=ba (by rw[gR];rfl)
 refine dm (fun i ρ br=>∃(r f:List Nat) (o o2:Option W),ρ=[some (.int c),some (.int m),some (.int s),some (.str r),some (.str f),o,o2]/\br=st++[.lst (ds.map W.int)]/\f.length=i/\r.length+i=52/\(f++r).Perm LL) (ke (by(repeat' (first|with_reducible exact e|walk_at "ev1"))) gT)
  ⟨LL,[],none,none,rfl,rfl,rfl,rfl,.refl _⟩ (fun i ρ br h=>?_) ?_ ?_
 ·obtain⟨r,f,o,o2,rfl,rfl,_⟩:=h
  exact gT
 ·rintro i w ρ br hw ⟨r,f,o,o2,rfl,rfl,hf,hr,hfl⟩
  obtain⟨d,hd,rfl⟩:∃d,ds[i]?=some d/\w=.int d:=by
   simp only[af,aJ]at hw
   obtain⟨d,h1,rfl⟩:=hw
   exact⟨d,h1,rfl⟩
  have hi:i<m:=by rw[<- h1];exact(ah.mp hd).1
  obtain⟨q,hq,eq⟩:=oQ (q:=d) (n:=r.length) (by omega)
  have hL:r.length<=kI:=by show _<=1000000;omega
  have hLf:f.length<=kI:=by show _<=1000000;omega
  have hat:tP r (d%(r.length:Int))=some r[q]:=by rw[eq];exact f9 (by simp[hq])
  refine⟨_,rfl,?_⟩
  apply aG
  ·(repeat' (first|with_reducible exact vJ hL|walk_at "ev1"))
   show 0<(r.length:Int);omega
  apply aG
  ·have ha:f.length+[r[q]].length<=kI:=by show _+1<=1000000;omega
   (repeat' (first|with_reducible exact HX hL hat|with_reducible exact zg ha|walk_at "ev1"))
  apply cP
  ·(repeat' (first|with_reducible exact HY hL|walk_at "ev1"))
   rw[eq,vL (by omega),show((q:Int)+1)=((q+1:Nat):Int)from rfl,rh (by omega),aV,dU]
   show _<=1000000;omega
  ·refine⟨_,_,rfl,_,_,_,_,rfl,rfl,by simp[hf],?_,?_⟩
   ·rw[eq,vL (by omega),show((q:Int)+1)=((q+1:Nat):Int)from rfl,rh (by omega),bi,aV,dU]
    omega
   ·rw[eq,vL (by omega),show((q:Int)+1)=((q+1:Nat):Int)from rfl,rh (by omega)]
    refine List.Perm.trans ?_ hfl
    rw[bn]
    refine List.Perm.append_left f ?_
    have e:r=r.take q++r[q]::r.drop (q+1):=by rw[<- bJ hq,c_]
    have e2:(r[q]::(r.take q++r.drop (q+1))).Perm r:=(List.perm_middle.symm).trans (by rw[<- e])
    exact e2
 ·rintro ρ br ⟨r,f,o,o2,rfl,rfl,hf,hr,hfl⟩
  apply bN
  ·(walk_at "evs")
  ·exact⟨_,_,rfl,⟨_,rfl⟩,rfl,f,rfl,by rw[hf];simpa using h1,(List.nodup_append.mp (hfl.nodup_iff.mpr (by decide))).1,fun d hd=>hfl.mem_iff.mp (gn _ hd)⟩
theorem km{s:List am}{p:Nat}{c:am}(h:st <+: s)(hp:st.length<=p):st <+: s.set p c:=by
 obtain⟨x,rfl⟩:=h
 rw[show p=st.length+(p-st.length) by omega,oN]
 exact aW _ _
theorem ja{s y:List am}(h:st <+: s):st <+: s++y:=h.trans (aW _ _)
theorem pre_get{s:List am}{c:am}(h:st <+: s)(e:st[i]?=some c):s[i]?=some c:=by
 obtain⟨x,rfl⟩:=h
 exact bI e
theorem iX{s:List am}{p:Nat}{c d:am}(h:s[p]?=some d):(s.set p c)[p]?=some c:=by
 rw[bz (ah.mp h).1]
theorem gN{s:List am}{p q:Nat}{c:am}(h:p≠q):(s.set p c)[q]?=s[q]?:=bT h
theorem hX{s:List am}{p:Nat}{c:am}(h:s[p]?=some c):p<s.length:=(ah.mp h).1
theorem bO{s:List am}{c:am}:(s++[c])[s.length]?=some c:=by rw[gR];rfl
def PD(l:List Int):List W:=l.map W.int
theorem Ay{s:List am}{p:Nat}{ds:List Int}{d:Int}(h:s[p]?=some (.lst (PD ds)))(e:ds[i]?=some d):cZ (.loc p) (.int i) s=.ok (.int d) s:=kP (ba h) (f9 (by rw[PD,af,e];rfl))
theorem Ec(h:lstOf st n=some (ls.map W.str))(hl:ls.length<64):lF [.loc n] st=.ok (.loc st.length) (st++[.lst ((iq ls).map W.str)]):=by
 show nn [.loc n] st=_
 unfold nn
 simp only[h,dy,uC]
 rw[aw hl]
theorem sT{a b:List (List Nat)}(h:a.Perm b):(a.map List.length).sum=(b.map List.length).sum:=by
 induction h with
 |nil=>rfl
 |cons x _ ih=>simp only[aN,jc,ih]
 |swap x y l=>simp only[aN,jc];omega
 |trans _ _ ih1 ih2=>rw[ih1,ih2]
theorem sU(l:List Nat):(((l.map fun c=>[c])).map List.length).sum=l.length:=by
 induction l with
 |nil=>rfl
 |cons a r ih=>simp only[aN,jc,a9,ih,gZ];omega
def IL(l:List Nat):List Nat:=mQ [] (iq (l.map fun c=>[c]))
theorem vT(l:List Nat):(IL l).length=l.length:=by
 unfold IL;rw[nj,List.length_flatten,sT (gk _),sU]
theorem Ed(l:List Nat):(IL l).Perm l:=by
 unfold IL;rw[nj]
 have h:(iq (l.map fun c=>[c])).flatten.Perm (l.map fun c=>[c]).flatten:=(gk _).flatten
 refine h.trans (.of_eq ?_)
 induction l with
 |nil=>rfl
 |cons a r ih=>
  have ih':=ih ((gk _).flatten)
  simp only[aN,ky,ih',List.cons_append,fX]
theorem PF{s1:List am}(h:fe ρ st=.ok (.loc n) s1)(hc:lstOf s1 n=some ((l.map fun c=>[c]).map W.str))(hl:l.length<64) :
  HI nF (eC (.str [])) (au (cq lF (au fe aK)) aK) ρ st=.ok (.str (IL l)) (s1++[.lst ((iq (l.map fun c=>[c])).map W.str)]):=by
 have hs:=Ec hc (by simpa using hl)
 have hcell2:lstOf (s1++[am.lst ((iq (l.map fun c=>[c])).map W.str)]) s1.length=some ((iq (l.map fun c=>[c])).map W.str):=ba bO
 have hj:=zi (sep:=[]) hcell2 (by rw[sT (gk _),sU];show _<=1000000;simp;omega)
 exact GX gg rfl (aD (dY (aD h bB) hs) bB) hj
theorem GZ{s1:List am}(h:fe ρ st=.ok (.str l) s1)(hl:l.length<64) :
  HI nF (eC (.str [])) (au (cq lF (au fe aK)) aK) ρ st=.ok (.str (IL l)) (s1++[.lst ((iq (l.map fun c=>[c])).map W.str)]):=by
 have hs:lF [.str l] s1=.ok (.loc s1.length) (s1++[.lst ((iq (l.map fun c=>[c])).map W.str)]):=by unfold lF;simp only;rw[aw hl]
 have hcell2:lstOf (s1++[am.lst ((iq (l.map fun c=>[c])).map W.str)]) s1.length=some ((iq (l.map fun c=>[c])).map W.str):=ba bO
 have hj:=zi (sep:=[]) hcell2 (by rw[sT (gk _),sU];show _<=1000000;simp;omega)
 exact GX gg rfl (aD (dY (aD h bB) hs) bB) hj
section
variable{fs:FA}
theorem Az(V:β->W)(Pb:Nat->β->Prop)(hr:fs ρ st=.ok [.int n] st)(hn:n<=100000)(h:∀i:Nat,i<n->∃b,Pb i b/\el ((kC cap ρ).set 0 (some (.int i))) st=.ok (V b) st) :
  ∃r:List β,r.length=n/\(∀i b,r[i]?=some b->Pb i b)/\eL cap (ca fs) (fz 0) iL el ρ st=.ok (.loc st.length) (st++[.lst (r.map V)]):=by
 let f:Fin n->β:=fun i=>Classical.choose (h i i.2)
 have hf:∀i:Fin n,Pb i (f i)/\el ((kC cap ρ).set 0 (some (.int (i:Nat)))) st=.ok (V (f i)) st:=fun i=>Classical.choose_spec (h i i.2)
 let Y:W->W:=fun w=>match w with
  |.int z=>if hz:z.toNat<n then V (f ⟨z.toNat,hz⟩)else .non
  |_=>.non
 have ir:ca fs ρ st=.ok (eO 0 n,none) st:=by
  have:=gm hr (by omega)
  rw[bj]at this
  exact this
 have hc:=rj (fi:=ca fs) (f:=fz 0) (el:=el) (cap:=cap) (ρ:=ρ) Y ir (by rw[cC];show _<=1000000;omega) trivial fun w hw=>by
  obtain⟨i,hi,rfl⟩:=Bu hw
  refine⟨_,rfl,?_⟩
  rw[show((0:Int)+(i:Int))=(i:Int) by omega]
  show _=R.ok (if hz:(i:Int).toNat<n then V (f ⟨(i:Int).toNat,hz⟩)else .non) st
  rw[dif_pos (show(i:Int).toNat<n by omega)]
  exact(hf ⟨i,hi⟩).2
 refine⟨List.ofFn f,by simp,fun i b hb=>?_,?_⟩
 ·obtain⟨h1,h2⟩:=ah.mp hb
  rw[List.getElem_ofFn]at h2
  rw[<- h2]
  exact(hf ⟨i,by simpa using h1⟩).1
 ·rw[hc]
  have e:(eO 0 n).map Y=(List.ofFn f).map V:=by
   refine List.ext_getElem (by simp[cC]) fun i h1 h2=>?_
   have hi:i<n:=by simpa[cC]using h1
   rw[lq,lq,List.getElem_ofFn]
   unfold eO
   rw[lq,List.getElem_range,show((0:Int)+(i:Int))=(i:Int) by omega]
   show(if hz:(i:Int).toNat<n then V (f ⟨(i:Int).toNat,hz⟩)else .non)=_
   rw[dif_pos (show(i:Int).toNat<n by omega)]
  rw[e]
theorem vU(V:β->W)(Pb:Nat->β->Prop)(hr:fs ρ st=.ok [.int n] st)(hn:n<=100000)(h:∀i:Nat,i<n->∃b,Pb i b/\el ((kC cap ρ).set 0 (some (.int i))) st=.ok (V b) st) :
  ∃r:List β,r.length=n/\(∀i b,r[i]?=some b->Pb i b)/\cq hJ (au (eL cap (ca fs) (fz 0) iL el) aK) ρ st=.ok (.tup (r.map V)) (st++[.lst (r.map V)]):=by
 obtain⟨r,h1,h2,e⟩:=Az (cap:=cap) (el:=el) V Pb hr hn h
 exact⟨r,h1,h2,dY (aD e bB) (pX (ba bO))⟩
end
structure Mc where
 nm:List Nat
 gd:List Bool
 tb:List (List (List Nat))
def dD(r:List Nat):W:=.tup (r.map fun k=>W.int (k:Nat))
def sV(t:List (List Nat)):W:=.tup (t.map dD)
def Mc.w(M:Mc):W:=.tup [.str M.nm,.tup (M.gd.map W.bl),.tup (M.tb.map sV)]
def RA(n:Nat)(t:List (List Nat)):Prop:=t.length=n/\∀r∈t,r.length=n/\∀k∈r,k<n
structure AA(M:Mc)(n:Nat):Prop where
 gd:M.gd.length=n
 tb:M.tb.length=2^M.nm.length
 t:∀t∈M.tb,RA n t
theorem o_(r:List Nat)(n:Nat):(dD r).und n=true:=by
 unfold dD W.und
 induction r with
 |nil=>rfl
 |cons x r ih=>simp only[aN,undWs,ih,cz];rfl
theorem G0(t:List (List Nat))(n:Nat):(sV t).und n=true:=by
 unfold sV W.und
 induction t with
 |nil=>rfl
 |cons x r ih=>simp only[aN,undWs,ih,cz];exact o_ x n
theorem Ee(t:List (List (List Nat)))(n:Nat):undWs n (t.map sV)=true:=by
 induction t with
 |nil=>rfl
 |cons x r ih=>simp only[aN,undWs,ih,cz];exact G0 x n
theorem G1(t:List Bool)(n:Nat):undWs n (t.map W.bl)=true:=by
 induction t with
 |nil=>rfl
 |cons x r ih=>simp only[aN,undWs,ih,cz];rfl
theorem Lp(M:Mc)(n:Nat):M.w.und n=true:=by
 unfold Mc.w
 simp[W.und,undWs,Ee,G1]
theorem Cu{c:Nat}(h:c<=100):rX (.int 1) (.int c) st=.ok (.int ((2^c:Nat):Int)) st:=by
 have:=mE (C:=fun i j=>0<=j/\j<=1000000/\i.natAbs<2^64) (f:=fun i j=>i*2^j.toNat) (p:=1) (q:=(c:Int)) (st:=st) ⟨by omega,by omega,by decide⟩
 rw[show rX (.int 1) (.int c) st=_ from this]
 simp
theorem oh{s:List am}{p:Nat}{y:W}(h:s[p]?=some (.lst ws))(hl:ws.length<1000000):cO (.loc p) [y] s=.ok .non (s.set p (.lst (ws++[y]))):=uI h hl
theorem Lq{q:Nat}(h:q<n):A7 n (q:Int)=some q:=by
 unfold A7
 rw[aw (by omega),aw (by omega)];simp
theorem vV{s:List am}{p q:Nat}{v:W}(h:s[p]?=some (.lst ws))(hq:q<ws.length):nE (.loc p) (.int q) v s=some (s.set p (.lst (ws.set q v))):=Kz h (Lq hq)
theorem Ef{fs:FA}{i j:Int}(h:fs ρ st=.ok [.int i,.int j] st1)(hq:-(2^62)<=i/\i<2^62/\-(2^62)<=j/\j<2^62):oH fs ρ st=.ok (eO i (j-i).toNat,none) st1:=by
 unfold oH;rw[h];simp only[R.bind_ok];rw[aw hq]
theorem Q3{s:List am}:NC [.tup ws] s=.ok (.loc s.length) (s++[.lst ws]):=rfl
theorem PH{l:List α}{x y:α}(h:y∈l.set i x):y∈l\/y=x:=List.mem_or_eq_of_mem_set h
def nW(l:List Nat):List W:=l.map fun k=>W.int (k:Nat)
theorem Eg{s:List am}{p:Nat}{k:Nat}(h:s[p]?=some (.lst (nW l)))(e:l[i]?=some k):cZ (.loc p) (.int i) s=.ok (.int k) s:=kP (ba h) (f9 (by rw[nW,af,e];rfl))
theorem sW{s:List am}{k:Nat}(e:l[i]?=some k):cZ (dD l) (.int i) s=.ok (.int k) s:=qo (f9 (by rw[af,e];rfl))
theorem Eh{s:List am}{t:List (List Nat)}{r:List Nat}(e:t[i]?=some r):cZ (sV t) (.int i) s=.ok (dD r) s:=qo (f9 (by rw[af,e];rfl))
def R8(n:Nat)(zs:List Nat):Prop:=zs.length=n/\∀r,r∈zs↔r<n
theorem xX{f:FG}{ρ':cv}{w:W}(h:fe ρ st=.ok w st1)(h2:f w ρ=some ρ'):xb fe f ρ st=.nx ρ' st1:=by
 unfold xb;rw[h];simp only[R.stmt_ok];rw[h2]
theorem zt(nm:List Nat)(n jL dl:Nat)(ds:List Int)(st:List am)(OY:nm.length<=6)(hn:1<=n)(R_:n<=9)(RE:1<=jL)(R9:jL<=n)(hd:st[dl]?=some (.lst (PD ds)))(IV:n+2^nm.length*(n*n)<=ds.length) :
  ∃M:Mc,M.nm=nm/\AA M n/\xU [.str nm,.int n,.int jL,.loc dl] st=.ok M.w st:=by
 suffices hh:kg (yt fun w br=>(∃x,br=st++x)/\undWs st.length [w]=true/\∃M:Mc,w=M.w/\M.nm=nm/\AA M n) (IJ ([W.str nm,.int n,.int jL,.loc dl].map some++List.replicate (10-4) none) st) by
  obtain⟨w,⟨M,rfl,h1,h2⟩,e⟩:=Av hh
  exact⟨M,h1,h2,e⟩
 have cV:∀s:List am,gH [.str nm] s=.ok (.int nm.length) s:=fun s=>vJ (by show _<=1000000;omega)
 have p2:2^nm.length<=64:=dA (by omega) OY
 obtain⟨N,hN⟩:∃N,N=2^nm.length:=⟨_,rfl⟩
 have sh:∀s:List am,rX (.int 1) (.int nm.length) s=.ok (.int N) s:=fun s=>by rw[hN];exact Cu (by omega)
 rw[<- hN]at p2 IV
 have hdn:n<=ds.length:=by omega
 obtain⟨gd,hgl,_,eg⟩:=vU (cap:=[none,some 3]) (ρ:=[some (.str nm),some (.int n),some (.int jL),some (.loc dl),none,none,none,none,none,none]) (st:=st) (fs:=au (al 1) aK) (n:=n)
  (el:=e2 w5 (e2 nV (e2 cZ (al 1) (al 0)) (eI 2)) (eI 1)) W.bl (fun _ _=>True) kn (by omega) fun q hq=>by
   obtain⟨d,hdd⟩:∃d,ds[q]?=some d:=⟨_,ag (by omega)⟩
   exact⟨_,trivial,dS (dS (dS kv kv (Ay hd hdd)) gg (mE (by decide))) gg (sH rfl)⟩
 apply aG
 ·exact cM eg
 generalize hs0:st++[am.lst (gd.map W.bl)]=s0
 have hst0:st <+: s0:=by rw[<- hs0];exact aW _ _
 apply aG
 ·(walk_at "evs")
 apply aG
 ·(walk_at "evs")
 refine dm (fun i ρ s=>∃(tb:List (List (List Nat))) (a:Nat) (o7 o8 o9:Option W),ρ=[some (.str nm),some (.int n),some (.int jL),some (.loc dl),some (.tup (gd.map W.bl)),some (.loc s0.length),some (.int a),o7,o8,o9]/\s0 <+: s/\s[s0.length]?=some (.lst (tb.map sV))/\tb.length=i/\(∀t∈tb,RA n t)/\a+(N-i)*(n*n)<=ds.length)
  (gm (q:=(N:Int)) (st1:=s0++[am.lst []]) (aD (dS gg (dY kn (cV _)) (sh _)) bB) (by omega))
  ⟨[],n,none,none,none,rfl,aW _ _,bO,rfl,by simp,by simpa using IV⟩ (fun _ _ _ _=>trivial) ?_ ?_
 ·rintro i w ρ s hw ⟨tb,a,o7,o8,o9,rfl,hp,hc,hl,ht,hal⟩
  obtain⟨hi,rfl⟩:=fG hw
  rw[bj]at hi
  refine⟨_,rfl,?_⟩
  rw[show N-i=(N-(i+1))+1 by omega,pG]at hal
  apply aG
  ·(walk_at "evs")
  refine dm (fun j ρ z=>∃(wm:List (List Nat)) (a:Nat) (o9:Option W),ρ=[some (.str nm),some (.int n),some (.int jL),some (.loc dl),some (.tup (gd.map W.bl)),some (.loc s0.length),some (.int a),some (.int (0+(i:Int))),some (.loc s.length),o9]/\s <+: z/\z[s.length]?=some (.lst (wm.map dD))/\wm.length=j/\(∀r∈wm,r.length=n/\∀k∈r,k<n)/\a+((N-(i+1))*(n*n)+(n-j)*n)<=ds.length)
   (gm (q:=(n:Int)) (st1:=s++[am.lst []]) (by(walk_at "evs")) (by omega)) ⟨[],a,_,rfl,aW _ _,bO,rfl,by simp,by simpa using hal⟩ (fun _ _ _ _=>trivial) ?_ ?_
  ·rintro j w ρ z hw ⟨wm,a,o9,rfl,hz,hcz,hrl,hr,hal⟩
   obtain⟨hj,rfl⟩:=fG hw
   rw[bj]at hj
   refine⟨_,rfl,?_⟩
   rw[show n-j=(n-(j+1))+1 by omega,pG]at hal
   have pt:(0:Int)<(jL:Int):=by omega
   obtain⟨r,hrn,hrb,er⟩:=vU (cap:=[none,some 2,some 3,some 6]) (ρ:=[some (.str nm),some (.int n),some (.int jL),some (.loc dl),some (.tup (gd.map W.bl)),some (.loc s0.length),some (.int a),some (.int (0+(i:Int))),some (.loc s.length),some (.int (0+(j:Int)))]) (st:=z) (fs:=au (al 1) aK) (n:=n)
    (el:=e2 nV (e2 cZ (al 2) (e2 fD (al 3) (al 0))) (al 1)) (fun k:Nat=>W.int (k:Nat)) (fun _ k=>k<n) kn (by omega) fun q hq=>by
     obtain⟨d,hdd⟩:∃d,ds[a+q]?=some d:=⟨_,ag (by omega)⟩
     obtain⟨k,hk,ek⟩:=oQ (q:=d) (n:=jL) (by omega)
     refine⟨k,by omega,?_⟩
     rw[<- ek]
     exact dS (dS kv (dS kv kv hU) (Ay (pre_get (hst0.trans (hp.trans hz)) hd) hdd)) kv (mE pt)
   have ap:=oh (y:=dD r) (pre_get (s:=z++[.lst (r.map fun k:Nat=>W.int k)]) (aW _ _) hcz) (by rw[aq];omega)
   apply aG
   ·exact kE (qL kv (gW hcz) (aD er bB) ap)
   apply cP
   ·exact cM (dS kv kv hU)
   ·refine⟨_,_,rfl,wm++[r],a+n,_,rfl,km (ja hz) (av _),?_,by simp[hrl],?_,by omega⟩
    ·rw[iX (pre_get (aW _ _) hcz)];simp
    ·intro x hx
     rcases cS.mp hx with y|y
     ·exact hr x y
     ·simp at y;subst y
      refine⟨hrn,fun k hk=>?_⟩
      obtain⟨q,hq⟩:=fq hk
      exact hrb q k hq
  ·rintro ρ z ⟨wm,a,o9,rfl,hz,hcz,hrl,hr,hal⟩
   have hrl:wm.length=n:=by rw[hrl];simp[cC]
   have hcp:=pre_get hz hc
   have ap:=oh (y:=sV wm) hcp (by rw[aq,hl];omega)
   apply cP
   ·exact kE (qL kv (gW hcp) (aD (dY kn (pX (ba hcz))) bB) ap)
   ·refine⟨_,_,rfl,tb++[wm],a,_,_,_,rfl,km (hp.trans hz) (av _),?_,by simp[hl],?_,by omega⟩
    ·rw[iX hcp];simp
    ·intro x hx
     rcases cS.mp hx with y|y
     ·exact ht x y
     ·simp at y;subst y
      exact⟨hrl,hr⟩
 ·rintro ρ s ⟨tb,a,o7,o8,o9,rfl,hp,hc,hl,ht,hal⟩
  have hl:tb.length=N:=by rw[hl];simp[cC]
  obtain⟨x,rfl⟩:=hst0.trans hp
  apply bN
  ·exact sB (aD kv (aD kv (aD (dY kn (pX (ba hc))) bB))) (aX rfl)
  ·exact⟨_,_,rfl,⟨_,rfl⟩,by simp only[undWs,cz];exact Lp ⟨nm,gd,tb⟩ _,⟨nm,gd,tb⟩,rfl,rfl,hgl,by rw[hl,hN],ht⟩
theorem OC(l:List Nat)(k:Nat)(st:List am):kj (k+1) [.str l,.str l] st=.ok (.bl true) st:=by
 refine fO (N:=3) (ws:=[.str l,.str l]) (body:=xR (kj k)) ?_ rfl
 (walk_at "go")
 apply bN
 ·apply oP
  ·(walk_at "evs")
  ·(walk_at "evs")
 ·exact⟨_,_,rfl,by simp,[],by simp⟩
theorem OD{k:Nat}(hl:ws.length<=1000)(h:∀w∈ws,kj k [w,w] st=.ok (.bl true) st):kj (k+1) [.tup ws,.tup ws] st=.ok (.bl true) st:=by
 refine fO (N:=3) (ws:=[.tup ws,.tup ws]) (body:=xR (kj k)) ?_ rfl
 apply kQ
 ·(walk_at "evs")
 apply uK
 apply dg
 ·apply vH
  ·(walk_at "evs")
  ·(walk_at "evs")
   simp
 apply d3
 apply uK
 refine dm (fun i ρ br=>∃o,ρ=[some (.tup ws),some (.tup ws),o]/\br=st) (gm (by(walk_at "evs")) (by omega)) ⟨none,rfl,rfl⟩ (fun _ _ _ _=>trivial) ?_ ?_
 ·rintro i w ρ br hw ⟨o,rfl,rfl⟩
  obtain⟨hi,rfl⟩:=fG hw
  refine⟨_,rfl,?_⟩
  have hi':i<ws.length:=by simpa using hi
  have hat:cZ (.tup ws) (.int (0+(i:Int))) br=.ok ws[i] br:=qo (by rw[Int.zero_add];exact f9 (by simp[hi']))
  have hs:=h ws[i] (ln _)
  apply nH
  ·(walk_at "evs")
  apply cP
  ·(walk_at "evs")
  ·exact⟨_,_,rfl,_,rfl,rfl⟩
 ·rintro ρ br ⟨o,rfl,rfl⟩
  apply kh
  ·(walk_at "evs")
  ·exact⟨_,_,rfl,rfl,[],by simp⟩
theorem Mr(b:Bool)(k:Nat)(st:List am):kj (k+1) [.bl b,.bl b] st=.ok (.bl true) st:=by
 have hb:w5 (.bl b) (.bl b) st=.ok (.bl true) st:=NX (by simp)
 refine fO (N:=3) (ws:=[.bl b,.bl b]) (body:=xR (kj k)) ?_ rfl
 apply dg
 ·(walk_at "evs")
 apply d3
 apply dg
 ·(walk_at "evs")
 apply d3
 apply kQ
 ·(walk_at "evs")
 apply kh
 ·apply oP
  ·(walk_at "evs")
  ·(walk_at "evs")
 ·exact⟨_,_,rfl,rfl,[],by simp⟩
theorem xY(z:Int)(k:Nat)(st:List am):kj (k+1) [.int z,.int z] st=.ok (.bl true) st:=by
 have hb:w5 (.int z) (.int z) st=.ok (.bl true) st:=sH (by simp)
 refine fO (N:=3) (ws:=[.int z,.int z]) (body:=xR (kj k)) ?_ rfl
 apply dg
 ·(walk_at "evs")
 apply d3
 apply dg
 ·(walk_at "evs")
 apply d3
 apply dg
 ·(walk_at "evs")
 apply d3
 apply kQ
 ·(walk_at "evs")
 apply kh
 ·apply oP
  ·(walk_at "evs")
  ·apply oP
   ·(walk_at "evs")
   ·(walk_at "evs")
 ·exact⟨_,_,rfl,by simp,[],by simp⟩
def Sm(w:W):Prop:=∀st,kj 40 [w,w] st=.ok (.bl true) st
theorem Q4(z:Int):Sm (.int z):=fun st=>xY z 39 st
end P
namespace P
def sm(L:List α)(f:α->Nat):Nat:=(L.map f).sum
section
theorem vW(f:α->Nat):sm [] f=0:=rfl
theorem bV(x:α)(L:List α)(f:α->Nat):sm (x::L) f=f x+sm L f:=by simp[sm]
theorem sX(L K:List α)(f:α->Nat):sm (L++K) f=sm L f+sm K f:=by simp[sm]
theorem kF(L:List α)(g:α->β)(f:β->Nat):sm (L.map g) f=sm L fun x=>f (g x):=by simp[sm,fm]
theorem aZ{L:List α}{f g:α->Nat}(h:∀x∈L,f x=g x):sm L f=sm L g:=by
 unfold sm;rw[bC h]
theorem jx(L:List α)(g:α->List β)(f:β->Nat):sm (L.flatMap g) f=sm L fun x=>sm (g x) f:=by
 induction L with
 |nil=>rfl
 |cons x L ih=>rw[List.flatMap_cons,sX,bV,ih]
theorem Lr(L:List α)(f g:α->Nat):sm L (fun x=>f x+g x)=sm L f+sm L g:=by
 induction L with
 |nil=>rfl
 |cons x L ih=>rw[bV,bV,bV,ih];omega
theorem rp(L:List α):sm L (fun _=>0)=0:=by
 induction L with
 |nil=>rfl
 |cons x L ih=>rw[bV,ih]
theorem nr(L:List α)(f:α->Nat)(c:Nat):sm L (fun x=>f x*c)=sm L f*c:=by
 induction L with
 |nil=>simp[sm]
 |cons x L ih=>rw[bV,bV,ih,Nat.add_mul]
theorem nu(L:List α)(f:α->Nat)(c:Nat):sm L (fun x=>c*f x)=c*sm L f:=by
 rw[l_,<- nr];exact aZ fun x _=>l_ _ _
theorem iA(L:List α)(K:List β)(f:α->β->Nat):sm L (fun x=>sm K fun y=>f x y)=sm K fun y=>sm L fun x=>f x y:=by
 induction L with
 |nil=>simp only[vW];rw[rp]
 |cons x L ih=>rw[bV,ih,<- Lr];exact aZ fun y _=>(bV x L fun x=>f x y).symm
theorem gS(n:Nat)(f:Nat->Nat):sm (List.range (n+1)) f=sm (List.range n) f+f n:=by
 rw[cm,sX,bV,vW];rfl
theorem vX(a b:Nat)(f:Nat->Nat):sm (List.range (a+b)) f=sm (List.range a) f+sm (List.range b) fun i=>f (a+i):=by
 induction b with
 |zero=>rfl
 |succ b ih=>rw[<- jb,gS,gS,ih];omega
theorem jy(a b:Nat)(f:Nat->Nat):sm (List.range (a*b)) f=sm (List.range b) fun j=>sm (List.range a) fun i=>f (i+a*j):=by
 induction b with
 |zero=>rfl
 |succ b ih=>
  rw[Nat.mul_succ,vX,gS,ih]
  congr 1
  exact aZ fun i _=>by rw[Nat.add_comm]
theorem AB{x:Nat}(h:x<n)(g:Nat->Nat):sm (List.range n) (fun a=>(if x=a then 1 else 0)*g a)=g x:=by
 induction n with
 |zero=>omega
 |succ n ih=>
  rw[gS]
  by_cases e:x=n
  ·subst e
   rw[aw rfl,Nat.one_mul,aZ (g:=fun _=>0) (fun a ha=>?_),rp,dv]
   rw[bh]at ha
   rw[ay (by omega),jD]
  ·rw[ih (by omega),ay e,jD];rfl
end
def ct(q:Nat)(L:List Nat):Nat:=sm L fun x=>if x=q then 1 else 0
theorem AC{n:Nat}{L:List Nat}(h:∀x∈L,x<n)(g:Nat->Nat):sm L g=sm (List.range n) fun a=>ct a L*g a:=by
 unfold ct
 rw[aZ (L:=List.range n) (g:=fun a=>sm L fun x=>(if x=a then 1 else 0)*g a) (fun a _=>(nr ..).symm),iA]
 exact aZ fun x hx=>(AB (h x hx) g).symm
section
variable(T:Nat->Nat->Nat->Nat)
def pop(b:Bool)(st:List Nat):Nat×List Nat:=if b then(st.headD 0,st.tail)else(0,st)
def xZ(b x:Nat)(st:List Nat):List Nat:=
 T x (pop (b%2==1) (pop (decide (2<=b)) st).2).1 (pop (decide (2<=b)) st).1::(pop (b%2==1) (pop (decide (2<=b)) st).2).2
def run:List Nat->List Nat->List Nat->List Nat
 |b::bs,x::xs,st=>run bs xs (xZ T b x st)
 |_,_,st=>st
theorem pb:∀{s1 x1:List Nat} (s2 x2 st:List Nat),s1.length=x1.length->run T (s1++s2) (x1++x2) st=run T s2 x2 (run T s1 x1 st)
 |[],[],s2,x2,st,_=>rfl
 |b::bs,x::xs,s2,x2,st,h=>by
  show run T (bs++s2) (xs++x2) (xZ T b x st)=_
  rw[pb s2 x2 _ (by simpa using h)];rfl
 |[],_::_,_,_,_,h=>by simp at h
 |_::_,[],_,_,_,h=>by simp at h
def rm(s x:List Nat):Nat:=(run T s x [0]).headD 0
end
def bc(k m:Nat):Nat:=min k 1+2*min (m-1-k) 1
def row(F:List (List (List Nat)))(m:Nat):List (List Nat):=
 (List.range m).flatMap fun k=>(F.getD k []).flatMap fun l=>(F.getD (m-1-k) []).map fun r=>l++r++[bc k m]
def Ei:Nat->List (List (List Nat))
 |0=>[[[]]]
 |m+1=>Ei m++[row (Ei m) (m+1)]
def sh(k:Nat):List (List Nat):=(Ei k).getD k []
theorem rq:∀m,(Ei m).length=m+1
 |0=>rfl
 |m+1=>by rw[Ei,bi,rq m];rfl
theorem zu:∀{m k:Nat},k<=m->(Ei m).getD k []=sh k
 |0,k,h=>by rw[show k=0 by omega];rfl
 |m+1,k,h=>by
  by_cases e:k=m+1
  ·subst e;rfl
  ·rw[<- zu (m:=m) (by omega),Ei]
   rw[aA,aA,aF (by rw[rq];omega)]
theorem pd:sh 0=[[]]:=rfl
theorem rA(m:Nat):sh (m+1)=(List.range (m+1)).flatMap fun k=>(sh k).flatMap fun l=>(sh (m-k)).map fun r=>l++r++[bc k (m+1)]:=by
 have e:sh (m+1)=row (Ei m) (m+1):=by
  unfold sh
  rw[Ei,aA,cb (by rw[rq];omega),rq]
  simp
 rw[e]
 unfold row
 have:∀k∈List.range (m+1),((Ei m).getD k []).flatMap (fun l=>((Ei m).getD (m+1-1-k) []).map fun r=>l++r++[bc k (m+1)])=(sh k).flatMap fun l=>(sh (m-k)).map fun r=>l++r++[bc k (m+1)]:=by
  intro k hk
  rw[bh]at hk
  rw[zu (by omega),zu (by omega)]
  rfl
 rw[List.flatMap_def,List.flatMap_def,bC this]
theorem sY{s:List Nat}(h:s∈sh (m+1)):∃k l r,k<=m/\l∈sh k/\r∈sh (m-k)/\s=l++r++[bc k (m+1)]:=by
 rw[rA]at h
 obtain⟨k,hk,h⟩:=lu.mp h
 obtain⟨l,hl,h⟩:=lu.mp h
 obtain⟨r,hr,h⟩:=bH.mp h
 rw[bh]at hk
 exact⟨k,l,r,by omega,hl,hr,h.symm⟩
theorem iY:∀(m:Nat) (s:List Nat),s∈sh m->s.length=m:=by
 intro m
 induction m using Nat.strongRecOn with
 |_ m ih=>
  intro s h
  cases m with
  |zero=>rw[pd]at h;simp at h;rw[h];rfl
  |succ m=>
   obtain⟨k,l,r,hk,hl,hr,rfl⟩:=sY h
   rw[bi,bi,ih k (by omega) l hl,ih (m-k) (by omega) r hr]
   simp;omega
section
variable(T:Nat->Nat->Nat->Nat)
theorem vY:∀(m:Nat) (s x st:List Nat),s∈sh m->x.length=m->run T s x st=if m=0 then st else rm T s x::st:=by
 intro m
 induction m using Nat.strongRecOn with
 |_ m ih=>
  intro s x st h hx
  cases m with
  |zero=>
   rw[pd]at h;simp at h;subst h
   rw[aw rfl];cases x<;>rfl
  |succ m=>
   obtain⟨k,l,r,hk,hl,hr,rfl⟩:=sY h
   rw[ay (by omega)]
   obtain⟨y,z,t,rfl,hy,hz⟩:∃y z t,x=y++z++[t]/\y.length=k/\z.length=m-k:=by
    refine⟨x.take k,(x.drop k).take (m-k),x.getD m 0,?_,by rw[aV];omega,by rw[aV,dU];omega⟩
    have e:x.drop m=[x.getD m 0]:=by
     rw[bJ (by omega),dP (by omega),aA,ag (by omega)];rfl
    have e2:(x.drop k).drop (m-k)=[x.getD m 0]:=by rw[List.drop_drop,show k+(m-k)=m by omega];exact e
    rw[bn,<- e2,c_,c_]
   have hll:=iY k l hl
   have hrl:=iY (m-k) r hr
   have key:∀st,run T (l++r++[bc k (m+1)]) (y++z++[t]) st=T t (rm T l y) (rm T r z)::st:=by
    intro st
    rw[pb T _ _ _ (by simp;omega),pb T _ _ _ (by omega)]
    have rl:∀st,run T l y st=if k=0 then st else rm T l y::st:=fun st=>ih k (by omega) l y st hl hy
    have rr:∀st,run T r z st=if m-k=0 then st else rm T r z::st:=fun st=>ih (m-k) (by omega) r z st hr hz
    have l0:k=0->rm T l y=0:=fun e=>by unfold rm;rw[rl,aw e];rfl
    have r0:m-k=0->rm T r z=0:=fun e=>by unfold rm;rw[rr,aw e];rfl
    rw[rr,rl]
    show xZ T (bc k (m+1)) t _=_
    unfold xZ
    by_cases e1:k=0
    ·by_cases e2:m-k=0
     ·have hb:bc k (m+1)=0:=by unfold bc;omega
      rw[hb,aw e1,aw e2,l0 e1,r0 e2];rfl
     ·have hb:bc k (m+1)=2:=by unfold bc;omega
      rw[hb,aw e1,ay e2,l0 e1];rfl
    ·by_cases e2:m-k=0
     ·have hb:bc k (m+1)=1:=by unfold bc;omega
      rw[hb,ay e1,aw e2,r0 e2];rfl
     ·have hb:bc k (m+1)=3:=by unfold bc;omega
      rw[hb,ay e1,ay e2];rfl
   have e0:rm T (l++r++[bc k (m+1)]) (y++z++[t])=T t (rm T l y) (rm T r z):=by
    show(run T _ _ [0]).headD 0=_
    rw[key];rfl
   rw[key,e0]
theorem G3{k:Nat}{r y:List Nat}{t:Nat}(hk:k<=m)(hl:l∈sh k)(hr:r∈sh (m-k))(hy:y.length=k)(hz:z.length=m-k) :
  rm T (l++r++[bc k (m+1)]) (y++z++[t])=T t (rm T l y) (rm T r z):=by
 have hll:=iY k l hl
 have hrl:=iY (m-k) r hr
 have l0:k=0->rm T l y=0:=fun e=>by unfold rm;rw[vY T k l y _ hl hy,aw e];rfl
 have r0:m-k=0->rm T r z=0:=fun e=>by unfold rm;rw[vY T (m-k) r z _ hr hz,aw e];rfl
 show(run T _ _ [0]).headD 0=_
 rw[pb T _ _ _ (by simp;omega),pb T _ _ _ (by omega),vY T k l y _ hl hy,vY T (m-k) r z _ hr hz]
 show(xZ T (bc k (m+1)) t _).headD 0=_
 unfold xZ
 by_cases e1:k=0
 ·by_cases e2:m-k=0
  ·have hb:bc k (m+1)=0:=by unfold bc;omega
   rw[hb,aw e1,aw e2,l0 e1,r0 e2];rfl
  ·have hb:bc k (m+1)=2:=by unfold bc;omega
   rw[hb,aw e1,ay e2,l0 e1];rfl
 ·by_cases e2:m-k=0
  ·have hb:bc k (m+1)=1:=by unfold bc;omega
   rw[hb,ay e1,aw e2,r0 e2];rfl
  ·have hb:bc k (m+1)=3:=by unfold bc;omega
   rw[hb,ay e1,ay e2];rfl
end
def uP(B k w:Nat):List Nat:=(List.range k).map fun j=>w/B^j%B
theorem rB(B k w:Nat):(uP B k w).length=k:=by simp[uP]
theorem x5{B k j a b t:Nat}(hB:0<B)(ha:a<B^k)(hb:b<B^j)(ht:t<B):uP B (k+j+1) (a+B^k*(b+B^j*t))=uP B k a++uP B j b++[t]:=by
 have pB:∀i,0<B^i:=fun i=>Nat.pow_pos hB
 unfold uP
 rw[cm,cn,List.range_add,cn,bD,jW]
 congr 1
 ·congr 1
  ·apply bC
   intro i hi
   rw[bh]at hi
   have e:B^k=B^i*(B*B^(k-i-1)):=by rw[<- Nat.pow_succ',<- ij];congr 1;omega
   rw[e,fB,fx _ _ (pB i),fB,j5]
  ·apply bC
   intro i hi
   rw[bh]at hi
   show(a+B^k*(b+B^j*t))/B^(k+i)%B=_
   rw[ij,<- iK,fx _ _ (pB k),lv ha,dv]
   have e:B^j=B^i*(B*B^(j-i-1)):=by rw[<- Nat.pow_succ',<- ij];congr 1;omega
   rw[e,fB,fx _ _ (pB i),fB,j5]
 ·congr 1
  rw[ij,<- iK,fx _ _ (pB k),lv ha,dv,fx _ _ (pB j),lv hb,dv,Nat.mod_eq_of_lt ht]
section
variable(T:Nat->Nat->Nat->Nat)(B:Nat)
def fN(k:Nat):List Nat:=(sh k).flatMap fun s=>(List.range (B^k)).map fun w=>rm T s (uP B k w)
theorem pe(k:Nat)(g:Nat->Nat):sm (fN T B k) g=sm (sh k) fun s=>sm (List.range (B^k)) fun w=>g (rm T s (uP B k w)):=by
 unfold fN
 rw[jx]
 exact aZ fun s _=>kF ..
theorem sZ(hB:0<B)(m:Nat)(g:Nat->Nat):sm (fN T B (m+1)) g=sm (List.range (m+1)) fun k=>sm (fN T B k) fun a=>sm (fN T B (m-k)) fun b=>sm (List.range B) fun t=>g (T t a b):=by
 rw[pe,rA,jx]
 refine aZ fun k hk=>?_
 rw[bh]at hk
 rw[jx,pe]
 refine aZ fun l hl=>?_
 rw[kF]
 have inner:∀r∈sh (m-k),sm (List.range (B^(m+1))) (fun w=>g (rm T (l++r++[bc k (m+1)]) (uP B (m+1) w))) =
   sm (List.range (B^k)) fun a=>sm (List.range (B^(m-k))) fun b=>sm (List.range B) fun t=>g (T t (rm T l (uP B k a)) (rm T r (uP B (m-k) b))):=by
  intro r hr
  have e:B^(m+1)=B^k*(B^(m-k)*B):=by rw[<- ma,<- ij];congr 1;omega
  rw[e,jy,iA]
  refine aZ fun a ha=>?_
  rw[jy,iA]
  refine aZ fun b hb=>aZ fun t ht=>?_
  rw[bh]at ha hb ht
  have:=x5 (B:=B) (k:=k) (j:=m-k) hB ha hb ht
  rw[show k+(m-k)+1=m+1 by omega]at this
  rw[this,G3 T (by omega) hl hr (rB ..) (rB ..)]
 rw[aZ inner,iA]
 refine aZ fun a _=>?_
 rw[pe]
end
end P
namespace P
open PySem L2
def Tm(tb:List (List (List Nat)))(t a b:Nat):Nat:=((tb.getD t []).getD a []).getD b 0
theorem kT(l:List α)(i:Nat)(d:α):l.getD i d=d\/l.getD i d∈l:=by
 rw[aA]
 cases h:l[i]? with
 |none=>exact .inl rfl
 |some x=>exact .inr (aS h)
theorem Ej{M:Mc}(hM:AA M n)(hn:1<=n)(t a b:Nat):Tm M.tb t a b<n:=by
 unfold Tm
 rcases kT ((M.tb.getD t []).getD a []) b 0 with h|h
 ·omega
 ·rcases kT (M.tb.getD t []) a []with h1|h1
  ·rw[h1]at h;simp at h
  ·rcases kT M.tb t []with h2|h2
   ·rw[h2]at h1;simp at h1
   ·exact((hM.t _ h2).2 _ h1).2 _ h
section
variable{B:Nat}
theorem Ek(h:∀t a b,T t a b<n):∀(s x st:List Nat),(∀y∈st,y<n)->∀y∈run T s x st,y<n
 |[],_,st,hs,y,hy=>hs y (by unfold run at hy;exact hy)
 |_::_,[],st,hs,y,hy=>hs y (by unfold run at hy;exact hy)
 |b::bs,x::xs,st,hs,y,hy=>by
  refine Ek h bs xs (xZ T b x st) (fun z hz=>?_) y hy
  have p2:∀(c:Bool) (st:List Nat),(∀y∈st,y<n)->∀y∈(pop c st).2,y<n:=fun c st hs y hy=>by
   unfold pop at hy
   split at hy
   ·exact hs y (List.mem_of_mem_tail hy)
   ·exact hs y hy
  unfold xZ at hz
  rcases a_.mp hz with rfl|hz
  ·exact h _ _ _
  ·exact p2 _ _ (p2 _ _ hs) z hz
theorem OE(h:∀t a b,T t a b<n)(hn:1<=n)(s x:List Nat):rm T s x<n:=by
 have:=Ek h s x [0] (by simp;omega)
 unfold rm
 cases e:run T s x [0]with
 |nil=>exact hn
 |cons y ys=>rw[e]at this;exact this y (by simp)
theorem s_(h:∀t a b,T t a b<n)(hn:1<=n)(k:Nat):∀x∈fN T B k,x<n:=by
 intro x hx
 obtain⟨s,_,hx⟩:=lu.mp hx
 obtain⟨w,_,rfl⟩:=bH.mp hx
 exact OE h hn _ _
def cl(n:Nat)(T:Nat->Nat->Nat->Nat)(B k:Nat):List Nat:=(List.range n).map fun q=>ct q (fN T B k)
def cs(n:Nat)(T:Nat->Nat->Nat->Nat)(B m:Nat):List (List Nat):=(List.range m).map (cl n T B)
def pr(C:List (List Nat))(a b:Nat):Nat:=sm (List.range C.length) fun k=>(C.getD k []).getD a 0*(C.getD (C.length-1-k) []).getD b 0
theorem vZ(k:Nat):(cl n T B k).length=n:=by simp[cl]
theorem v3(m:Nat):(cs n T B m).length=m:=by simp[cs]
theorem G4(m:Nat):cs n T B (m+1)=cs n T B m++[cl n T B m]:=by simp[cs,cm]
theorem kU(f:α->β){l:List α}{d:β}{x:α}(h:l[i]?=some x):(l.map f).getD i d=f x:=by
 rw[aA,af,h];rfl
theorem AD{k q:Nat}(h:q<n):(cl n T B k).getD q 0=ct q (fN T B k):=kU (fun q=>ct q (fN T B k)) (aE h)
theorem AE{k:Nat}(h:k<m):(cs n T B m).getD k []=cl n T B k:=kU (cl n T B) (aE h)
theorem G5(h:∀t a b,T t a b<n)(hn:1<=n)(hB:0<B)(m:Nat) :
  cl n T B (m+1)=(List.range n).map fun q=>sm (List.range n) fun a=>sm (List.range n) fun b=>pr (cs n T B (m+1)) a b*ct q ((List.range B).map fun t=>T t a b):=by
 unfold cl
 refine bC fun q _=>?_
 show sm (fN T B (m+1)) (fun x=>if x=q then 1 else 0)=_
 rw[sZ T B hB]
 have e1:∀k∈List.range (m+1),(sm (fN T B k) fun a=>sm (fN T B (m-k)) fun b=>sm (List.range B) fun t=>if T t a b=q then 1 else 0) =
   sm (List.range n) fun a=>sm (List.range n) fun b=>ct a (fN T B k)*ct b (fN T B (m-k))*ct q ((List.range B).map fun t=>T t a b):=by
  intro k _
  rw[AC (s_ h hn k)]
  refine aZ fun a _=>?_
  rw[AC (s_ h hn (m-k)),<- nu]
  refine aZ fun b _=>?_
  rw[fB]
  congr 2
  unfold ct
  rw[kF]
 rw[aZ e1,iA]
 refine aZ fun a ha=>?_
 rw[iA]
 refine aZ fun b hb=>?_
 rw[bh]at ha hb
 rw[nr]
 congr 1
 unfold pr
 rw[v3]
 refine aZ fun k hk=>?_
 rw[bh]at hk
 rw[AE (by omega),AE (by omega),AD ha,AD hb,show m+1-1-k=m-k by omega]
def wt(n:Nat)(P:List (Nat×Nat)):List Nat:=(List.range n).map fun q=>sm P fun p=>if p.1=q then p.2 else 0
theorem m3(P:List (Nat×Nat)):(wt n P).length=n:=by simp[wt]
theorem uQ{P:List (Nat×Nat)}{q:Nat}(h:q<n):(wt n P)[q]?=some (sm P fun p=>if p.1=q then p.2 else 0):=by
 unfold wt;rw[af,aE h];rfl
theorem AF{P:List (Nat×Nat)}{r w:Nat}(h:r<n):(wt n P).set r ((sm P fun p=>if p.1=r then p.2 else 0)+w)=wt n (P++[(r,w)]):=by
 refine bS fun q=>?_
 by_cases hq:q<n
 ·rw[uQ hq,sX,bV,vW]
  by_cases e:r=q
  ·subst e
   rw[bz (by rw[m3];exact hq)]
   simp
  ·rw[bT e,uQ hq]
   simp[e]
 ·rw[aC (by rw[jl,m3];omega),aC (by rw[m3];omega)]
theorem G6{P K:List (Nat×Nat)}(h:∀p∈K,p.2=0):wt n (P++K)=wt n P:=by
 unfold wt
 refine bC fun q _=>?_
 rw[sX,aZ (L:=K) (g:=fun _=>0) fun p hp=>by rw[h p hp];simp,rp];rfl
theorem OF(k:Nat):wt n ((fN T B k).map fun r=>(r,1))=cl n T B k:=by
 unfold wt cl
 refine bC fun q _=>?_
 rw[kF];rfl
def gone(n:Nat)(tb:List (List (List Nat)))(f:Nat->Nat->Nat):List (Nat×Nat):=
 (List.range n).flatMap fun a=>(List.range n).flatMap fun b=>tb.map fun t=>((t.getD a []).getD b 0,f a b)
theorem uR(l:List α)(d:α)(f:α->β):(List.range l.length).map (fun i=>f (l.getD i d))=l.map f:=by
 refine bS fun i=>?_
 rw[af,af]
 by_cases h:i<l.length
 ·rw[aE h,ag h]
  show some (f (l.getD i d))=_
  rw[aA,ag h];rfl
 ·rw[aC (by simpa using h),aC (by omega)];rfl
theorem G7{tb:List (List (List Nat))}(f:Nat->Nat->Nat):wt n (gone n tb f)=(List.range n).map fun q=>sm (List.range n) fun a=>sm (List.range n) fun b=>f a b*ct q ((List.range tb.length).map fun t=>Tm tb t a b):=by
 unfold wt
 refine bC fun q _=>?_
 unfold gone
 rw[jx]
 refine aZ fun a _=>?_
 rw[jx]
 refine aZ fun b _=>?_
 rw[kF]
 have e:=uR tb [] fun t=>(t.getD a []).getD b 0
 show _=f a b*ct q ((List.range tb.length).map fun t=>((tb.getD t []).getD a []).getD b 0)
 rw[e]
 unfold ct
 rw[kF,<- nu]
 refine aZ fun t _=>?_
 dsimp only
 split<;>simp
end
section
variable{f:FG}{t:FT}
theorem uS{fi:HQ}{ck:List (Nat×List W)}{ρ0:cv}(hc:y6 st ck)(Y:W->W):∀(ws gD:List W),(∀w∈ws,∃ρ',f w ρ0=some ρ'/\el ρ' st=.ok (Y w) st) ->
  lG f iL el ck ρ0 ws gD st=.ok (gD++ws.map Y) st
 |[],gD,_=>by unfold lG;rw[aw hc];simp
 |w::ws,gD,h=>by
  obtain⟨ρ',e1,e3⟩:=h w (by simp)
  have ih:=fun gD=>uS (fi:=fi) hc Y ws gD fun w' hw'=>h w' (by simp[hw'])
  unfold lG
  rw[aw hc,e1]
  simp only[iL,e3]
  rw[ih]
  simp
theorem El{fi:HQ}{ck:List (Nat×List W)}(Y:W->W)(h:fi ρ st=.ok (ws,ck) st1)(hl:ws.length<=kI)(hc:y6 st1 ck)
  (hs:∀w∈ws,∃ρ',f w (kC cap ρ)=some ρ'/\el ρ' st1=.ok (Y w) st1):pT cap fi f iL el ρ st=.ok (.loc st1.length) (st1++[.lst (ws.map Y)]):=by
 unfold pT
 rw[h]
 simp only[R.bind_ok]
 rw[aw hl,uS (fi:=fi) hc Y ws [] hs]
 simp only[R.bind_ok,fX,jp]
 rw[aw]
 rw[aq]
 exact hl
theorem Ls{fs:FA}{xs ys:List W}(h:fs ρ st=.ok [.loc n,.loc m] st1)(h1:lstOf st1 n=some xs)(h2:lstOf st1 m=some ys):sj fs ρ st=.ok (iM xs ys,[(n,xs),(m,ys)]) st1:=by
 unfold sj;rw[h];simp only[R.bind_ok,h1,h2]
theorem Lu{fs:FA}{xs ys:List W}(h:fs ρ st=.ok [.tup xs,.tup ys] st1):y4 fs ρ st=.ok (iM xs ys,none) st1:=by
 unfold y4;rw[h];rfl
theorem Lv(h:fa ρ st=.ok (.loc n) st1)(h1:lstOf st1 n=some ws)(hl:ws.length<=kI):Am fa ρ st=.ok (.loc st1.length) (st1++[.lst ws.reverse]):=by
 unfold Am;rw[h];simp only[R.bind_ok,h1,jp];rw[aw (by rw[List.length_reverse];exact hl)]
theorem Em(ls:List Int):oI (ls.map W.int)=some ls:=by
 induction ls with
 |nil=>rfl
 |cons x r ih=>simp only[aN,oI,ih];rfl
theorem En{ls:List Int}(h:lstOf st n=some (ls.map W.int)):xp [.loc n] st=.ok (.int ls.sum) st:=by
 unfold xp;simp only[h,dy,Em]
theorem kW{body:FS}{k:Bn}{P:RS->Prop}(I:Nat->cv->List am->Prop)(h:fi ρ st=.ok k st1)(h0:I 0 ρ st1)(hc:∀i ρ st,I i ρ st->iO st k.2)
  (hs:∀i w ρ st,k.1[i]?=some w->I i ρ st->∃ρ',f w ρ=some ρ'/\kg (KA (I (i+1))) (body ρ' st)) (he:∀ρ st,I k.1.length ρ st->P (.nx ρ st)):kg P (gI fi f body ρ st):=by
 obtain⟨ρ2,dq,e,h2⟩:=sy (f:=f) (body:=body) (ck:=k.2) I (ws:=k.1) (ρ:=ρ) (st:=st1) 0 h0 hc fun i w ρ st hw hI=>by
  rw[dv]at hI ⊢
  obtain⟨ρ',e1,ρ2,dq,e2,h2⟩:=hs i w ρ st hw hI
  exact⟨ρ',ρ2,dq,e1,e2,h2⟩
 rw[dv]at h2
 exact cP (by rw[Ar h];exact e) (he _ _ h2)
end
theorem tf(l:List Nat):(l.map fun(k:Nat)=>(k:Int)).sum=(l.sum:Nat):=by
 induction l with
 |nil=>rfl
 |cons x r ih=>simp only[aN,jc,ih];omega
theorem Lw(L:List α)(f:α->Nat):(L.map fun x=>((f x:Nat):Int)).sum=(sm L f:Nat):=by
 unfold sm
 rw[<- tf,bD];rfl
theorem mj{M:Mc}(T:Nat->Nat->Nat->Nat)(B:Nat)(hM:AA M n)(hn:n<=1000)(st:List am):zr [M.w] st=.ok (dD (cl n T B 0)) st:=by
 obtain⟨r,hl,hr,e⟩:=vU (cap:=[none]) (ρ:=[some M.w]) (st:=st) (fs:=au (cq gH (au (e2 cZ (al 0) (eI 1)) aK)) aK) (n:=n)
  (el:=BV (jJ (e2 w5 (al 0) (eI 0))) (eI 1) (eI 0)) (fun k:Nat=>W.int (k:Nat)) (fun i k=>k=if i=0 then 1 else 0)
  (by
   have:gH [.tup (M.gd.map W.bl)] st=.ok (.int n) st:=by rw[zh,aq,hM.gd]
   exact aD (dY (aD kx bB) this) bB) (by omega) fun i hi=>by
   refine⟨_,rfl,?_⟩
   by_cases h:i=0
   ·subst h;exact sD (dZ (dS kv gg (sH rfl))) gg
   ·rw[ay h]
    exact sE (dZ (dS kv gg (sH (by simpa using h)))) gg
 have er:r=cl n T B 0:=by
  refine bS fun i=>?_
  by_cases h:i<n
  ·obtain⟨x,hx⟩:∃x,r[i]?=some x:=⟨_,ag (by omega)⟩
   rw[hx,hr i x hx]
   unfold cl
   rw[af,aE h]
   show _=some (ct i [0])
   unfold ct
   rw[bV,vW]
   by_cases e:i=0
   ·subst e;rfl
   ·rw[ay e,ay (Ne.symm e)]
  ·rw[aC (by omega),aC (by rw[vZ];omega)]
 subst er
 refine fO (w:=dD (cl n T B 0)) ?_ (by simp only[undWs,o_,cz])
 apply bN
 ·exact e
 ·exact⟨_,_,rfl,rfl,_,rfl⟩
def IM(i:Nat):W->Int
 |.tup ws=>(match ws[i]? with
  |some (.int z)=>z
  |_=>0)
 |_=>0
theorem rC(i:Nat)(l:List Nat):IM i (dD l)=(l.getD i 0:Nat):=by
 unfold dD IM
 simp only[af,aA]
 cases l[i]?<;>rfl
def RB(i j:Nat):W->W
 |.tup [x,y]=>.int (IM i x*IM j y)
 |_=>.non
theorem Lx(C:List (List Nat))(i j:Nat):(iM (C.map dD) (C.map dD).reverse).map (RB i j)=((List.range C.length).map fun k=>(((C.getD k []).getD i 0*(C.getD (C.length-1-k) []).getD j 0:Nat):Int)).map W.int:=by
 refine bS fun k=>?_
 by_cases h:k<C.length
 ·have hz:(iM (C.map dD) (C.map dD).reverse)[k]?=some (.tup [dD (C.getD k []),dD (C.getD (C.length-1-k) [])]):=by
   have hl:k<(iM (C.map dD) (C.map dD).reverse).length:=by rw[gQ];simp;exact h
   obtain⟨w,hw⟩:∃w,(iM (C.map dD) (C.map dD).reverse)[k]?=some w:=⟨_,ag hl⟩
   obtain⟨x,y,hx,hy,rfl⟩:=iu hw
   rw[af,ag h]at hx
   rw[eK (by simpa using h),aq,af,ag (by omega)]at hy
   rw[hw,<- aL hx,<- aL hy,aA,aA,ag h,ag (by omega)]
   rfl
  rw[af,hz,af,af,aE h]
  show some (W.int (IM i (dD _)*IM j (dD _)))=some (W.int _)
  rw[rC,rC]
  show _=some (W.int (((C.getD k []).getD i 0*(C.getD (C.length-1-k) []).getD j 0:Nat):Int))
  rw[eT]
 ·rw[aC (by rw[aq,gQ];simp;omega),aC (by simp;omega)]
theorem dH{l:List α}(d:α)(h:i<l.length):l[i]?=some (l.getD i d):=by
 rw[aA,ag h];rfl
theorem sv{C:List (List Nat)}{n i j:Nat}{s:List am}{c o:Nat}(hρ:kC [none,none,some 4,some 5] ρ=[none,none,some (.int i),some (.int j)])(h1:ρ[1]?=some (some (.loc c)))(h3:ρ[3]?=some (some (.loc o)))
  (hc:s[c]?=some (.lst (C.map dD))) (ho:s[o]?=some (.lst (C.map dD).reverse)) (hC:C.length<=1000) (hr:∀r∈C,r.length=n) (hi:i<n) (hj:j<n)
  (hb:∀k<C.length,∀a b,(C.getD k []).getD a 0<2^64\/(C.getD (C.length-1-k) []).getD b 0<2^64) :
  ∃x,cq xp (au (pT [none,none,some 4,some 5] (sj (au (al 1) (au (al 3) aK))) (yX 2 (cU (fz 0) (cU (fz 1) j8))) iL (e2 eM (e2 cZ (al 0) (al 2)) (e2 cZ (al 1) (al 3)))) aK) ρ s=.ok (.int (pr C i j:Nat)) (s++[x]):=by
 have hz:=Ls (ρ:=ρ) (st:=s) (fs:=au (al 1) (au (al 3) aK)) (aD (iP h1) (aD (iP h3) bB)) (ba hc) (ba ho)
 have hcm:=El (cap:=[none,none,some 4,some 5]) (f:=yX 2 (cU (fz 0) (cU (fz 1) j8))) (el:=e2 eM (e2 cZ (al 0) (al 2)) (e2 cZ (al 1) (al 3))) (RB i j) hz
  (by rw[gQ];simp;show _<=1000000;omega) (fun p hp=>by
   have:p=(c,C.map dD)\/p=(o,(C.map dD).reverse):=by simpa using hp
   rcases this with rfl|rfl
   ·exact ba hc
   ·exact ba ho) fun w hw=>by
   obtain⟨k,hk⟩:=fq hw
   obtain⟨x,y,hx,hy,rfl⟩:=iu hk
   have hkl:k<C.length:=by have:=(ah.mp hx).1;simpa using this
   rw[af,dH [] hkl]at hx
   rw[eK (by simpa using hkl),aq,af,dH [] (show C.length-1-k<C.length by omega)]at hy
   have ex:x=dD (C.getD k []):=(aL hx).symm
   have ey:y=dD (C.getD (C.length-1-k) []):=(aL hy).symm
   subst ex ey
   have l1:(C.getD k []).length=n:=hr _ (aS (dH [] hkl))
   have l2:(C.getD (C.length-1-k) []).length=n:=hr _ (aS (dH [] (show C.length-1-k<C.length by omega)))
   rw[hρ]
   refine⟨_,rfl,?_⟩
   show _=R.ok (W.int (IM i (dD _)*IM j (dD _))) s
   rw[rC,rC]
   refine dS (dS kv kv (sW (dH 0 (by omega)))) (dS kv kv (sW (dH 0 (by omega)))) (lL ?_)
   rcases hb k hkl i j with h|h
   ·exact .inl ⟨by omega,by omega⟩
   ·exact .inr ⟨by omega,by omega⟩
 rw[Lx]at hcm
 have:=En (ba (bO (s:=s) (c:=.lst (((List.range C.length).map fun k=>(((C.getD k []).getD i 0*(C.getD (C.length-1-k) []).getD j 0:Nat):Int)).map W.int))))
 rw[Lw]at this
 exact⟨_,dY (aD hcm bB) this⟩
theorem Eo(l:List Nat)(i k:Nat):(nW l).set i (.int (k:Nat))=nW (l.set i k):=by
 unfold nW;rw[List.map_set]
theorem tj{M:Mc}{c:Nat}{C:List (List Nat)}(hM:AA M n)(hn:n<=1000)(st:List am)(hc:st[c]?=some (.lst (C.map dD)))(hC:C.length<=1000)(hr:∀r∈C,r.length=n)
  (hb:∀k<C.length,∀a b,(C.getD k []).getD a 0<2^64\/(C.getD (C.length-1-k) []).getD b 0<2^64):D7 [M.w,.loc c] st=.ok (dD (wt n (gone n M.tb (pr C)))) st:=by
 refine fO (w:=dD (wt n (gone n M.tb (pr C)))) ?_ (by simp only[undWs,o_,cz])
 have e0:eL [none] (dz (e2 cZ (al 0) (eI 1))) (fz 0) iL (eI 0) [some M.w,some (.loc c),none,none,none,none,none,none] st=.ok (.loc st.length) (st++[.lst (nW (wt n []))]):=by
  have:=rj (cap:=[none]) (f:=fz 0) (el:=eC (.int 0)) (ρ:=[some M.w,some (.loc c),none,none,none,none,none,none]) (st:=st) (fun _=>.int 0) (lM (fe:=e2 cZ (al 0) (eI 1)) (ws:=M.gd.map W.bl) (st1:=st) kx)
   (by rw[aq,hM.gd];show _<=1000000;omega) trivial fun w _=>⟨_,rfl,gg⟩
  rw[this]
  congr 4
  refine bS fun i=>?_
  rw[af,af,nW,af]
  by_cases h:i<n
  ·rw[ag (by rw[hM.gd];exact h),uQ h];rfl
  ·rw[aC (by rw[hM.gd];omega),aC (by rw[m3];omega)];rfl
 apply aG
 ·exact xX e0 rfl
 have hc1:(st++[am.lst (nW (wt n []))])[c]?=some (.lst (C.map dD)):=bI hc
 apply aG
 ·exact cM (Lv kv (ba hc1) (by rw[aq];show _<=1000000;omega))
 generalize hs0:st++[am.lst (nW (wt n []))]++[.lst (C.map dD).reverse]=s0
 have l0:st.length<(st++[am.lst (nW (wt n []))]).length:=by simp
 have lo:(st++[am.lst (nW (wt n []))]).length=st.length+1:=by simp
 rw[lo]
 have lc:=hX hc
 let G:Nat->List (Nat×Nat):=fun i=>(List.range i).flatMap fun a=>(List.range n).flatMap fun b=>M.tb.map fun t=>((t.getD a []).getD b 0,pr C a b)
 let K:Nat->Nat->List (Nat×Nat):=fun i j=>(List.range j).flatMap fun b=>M.tb.map fun t=>((t.getD i []).getD b 0,pr C i b)
 let St:List am->List (Nat×Nat)->Prop:=fun s P=>st <+: s/\s[st.length]?=some (.lst (nW (wt n P)))/\s[st.length+1]?=some (.lst (C.map dD).reverse)
 have cV:∀s P,St s P->gH [.loc st.length] s=.ok (.int n) s:=fun s P h=>by
  have:=vK (ba h.2.1)
  rw[this];unfold nW;rw[aq,m3]
 have h00:St s0 []:=by
  rw[<- hs0]
  refine⟨ja (ja (ae _)),?_,?_⟩
  ·exact bI bO
  ·rw[<- lo];exact bO
 refine dm (fun i ρ s=>∃(o4 o5 o6 o7:Option W),ρ=[some M.w,some (.loc c),some (.loc st.length),some (.loc (st.length+1)),o4,o5,o6,o7]/\St s (G i))
  (gm (q:=(n:Int)) (st1:=s0) (aD (dY kn (cV _ _ h00)) bB) (by omega)) ⟨none,none,none,none,rfl,h00⟩ (fun _ _ _ _=>trivial) ?_ ?_
 ·rintro i w ρ s hw ⟨o4,o5,o6,o7,rfl,hS⟩
  obtain⟨hi,rfl⟩:=fG hw
  rw[bj]at hi
  rw[show((0:Int)+(i:Int))=(i:Int) by omega]
  refine⟨_,rfl,?_⟩
  refine kW (fun j ρ s=>∃(o5 o6 o7:Option W),ρ=[some M.w,some (.loc c),some (.loc st.length),some (.loc (st.length+1)),some (.int i),o5,o6,o7]/\St s (G i++K i j))
   (gm (q:=(n:Int)) (st1:=s) (aD (dY kn (cV _ _ hS)) bB) (by omega)) ⟨_,_,_,rfl,by simpa[K]using hS⟩ (fun _ _ _ _=>trivial) ?_ ?_
  ·rintro j w ρ s hw ⟨o5,o6,o7,rfl,hp,hm,ho⟩
   obtain⟨hj,rfl⟩:=fG hw
   rw[bj]at hj
   rw[show((0:Int)+(j:Int))=(j:Int) by omega]
   refine⟨_,rfl,?_⟩
   obtain⟨x,hx⟩:=sv (n:=n) (i:=i) (j:=j) (ρ:=[some M.w,some (.loc c),some (.loc st.length),some (.loc (st.length+1)),some (.int i),some (.int j),o6,o7]) (s:=s) rfl rfl rfl (pre_get hp hc) ho hC hr hi hj hb
   apply aG
   ·exact cM hx
   have hS2:St (s++[x]) (G i++K i j):=⟨ja hp,bI hm,bI ho⟩
   have Ks:K i (j+1)=K i j++M.tb.map fun t=>((t.getD i []).getD j 0,pr C i j):=by
    show(List.range (j+1)).flatMap _=_
    rw[cm,cR];simp[K]
   by_cases hpos:0<pr C i j
   ·apply uJ
    ·exact dZ (dS kv gg (kO (by simp;omega)))
    refine kW (fun l ρ s=>∃(o7:Option W),ρ=[some M.w,some (.loc c),some (.loc st.length),some (.loc (st.length+1)),some (.int i),some (.int j),some (.int (pr C i j:Nat)),o7]/\St s (G i++K i j++(M.tb.take l).map fun t=>((t.getD i []).getD j 0,pr C i j)))
     (lM (fe:=e2 cZ (al 0) (eI 2)) (ws:=M.tb.map sV) (st1:=s++[x]) kx) ⟨_,rfl,by simpa using hS2⟩ (fun _ _ _ _=>trivial) ?_ ?_
    ·rintro l w ρ s hw ⟨o7,rfl,hp,hm,ho⟩
     rw[af]at hw
     obtain⟨t,ht,rfl⟩:=aJ.mp hw
     refine⟨_,rfl,?_⟩
     obtain⟨t1,t2⟩:=hM.t t (aS ht)
     have g1:t[i]?=some (t.getD i []):=dH [] (by omega)
     obtain⟨r1,r2⟩:=t2 _ (aS g1)
     have g2:(t.getD i [])[j]?=some ((t.getD i []).getD j 0):=dH 0 (by omega)
     have hrn:(t.getD i []).getD j 0<n:=r2 _ (aS g2)
     have ei:∀s:List am,e2 cZ (e2 cZ (al 7) (al 4)) (al 5) [some M.w,some (.loc c),some (.loc st.length),some (.loc (st.length+1)),some (.int i),some (.int j),some (.int (pr C i j:Nat)),some (sV t)] s=.ok (.int ((t.getD i []).getD j 0:Nat)) s:=
      fun s=>dS (dS kv kv (Eh g1)) kv (sW g2)
     apply cP
     ·exact uH (dS (dS kv (ei _) (Eg hm (uQ hrn))) kv hU) kv (ei _) (vV hm (by unfold nW;rw[aq,m3];exact hrn))
     ·refine⟨_,_,rfl,_,rfl,km hp (av _),?_,?_⟩
      ·rw[iX hm,<- eU,Eo,AF hrn,gr,ht]
       simp[bn]
      ·rw[gN (by omega)];exact ho
    ·rintro ρ s ⟨o7,rfl,hS3⟩
     refine⟨_,_,rfl,_,_,_,rfl,?_⟩
     rw[aq,cJ,bn]at hS3
     rw[Ks];exact hS3
   ·apply nH
    ·exact dZ (dS kv gg (kO (by simp;omega)))
    refine⟨_,_,rfl,_,_,_,rfl,?_⟩
    obtain⟨z1,z2,z3⟩:=hS2
    refine⟨z1,?_,z3⟩
    rw[Ks,<- bn,G6 (K:=M.tb.map fun t=>((t.getD i []).getD j 0,pr C i j)) fun p hp=>by
     obtain⟨t,_,rfl⟩:=bH.mp hp
     show pr C i j=0;omega]
    exact z2
  ·rintro ρ s ⟨o5,o6,o7,rfl,hS3⟩
   refine⟨_,_,rfl,_,_,_,_,rfl,?_⟩
   have e:G (i+1)=G i++K i n:=by
    show(List.range (i+1)).flatMap _=_
    rw[cm,cR];simp[G,K]
   rw[show(eO 0 (n:Int).toNat,(none:Option (Nat×List W))).fst.length=n by simp[cC]]at hS3
   rw[e];exact hS3
 ·rintro ρ s ⟨o4,o5,o6,o7,rfl,hp,hm,ho⟩
  rw[show(eO 0 (n:Int).toNat,(none:Option (Nat×List W))).fst.length=n by simp[cC]]at hm
  apply bN
  ·exact dY kn (pX (ba hm))
  ·obtain⟨x,rfl⟩:=hp
   exact⟨_,_,rfl,rfl,_,rfl⟩
theorem Ep(h:m<=24)(st:List am):D6 [.int m] st=.ok .non st:=by
 refine xA ?_
 apply nH
 ·exact dZ (dS kv gg (kO (by simp;omega)))
 ·exact⟨_,_,rfl,[],by simp⟩
theorem AG{l:List α}(d:α)(h:l.length<=i):l.getD i d=d:=by
 rw[aA,aC h];rfl
section
variable{M:Mc}
theorem t5(hM:AA M n)(hn:n<=1000)(ue:1<=n)(hm:m<=24)(hb:∀k,2*k<m->∀a,ct a (fN (Tm M.tb) M.tb.length k)<2^64)(st:List am) :
  D8 [M.w,.int m] st=.ok (.loc st.length) (st++[.lst ((cs n (Tm M.tb) M.tb.length (m+1)).map dD)]):=by
 have hB:0<M.tb.length:=by rw[hM.tb];exact Nat.pow_pos (by omega)
 suffices hh:kg (yt fun w br=>∃j x,w=.loc (st.length+j)/\br=st++x/\j=0/\x=[.lst ((cs n (Tm M.tb) M.tb.length (m+1)).map dD)]) (Oj ([M.w,W.int m].map some++List.replicate (4-2) none) st) by
  obtain⟨j,x,⟨rfl,rfl⟩,e⟩:=lO hh
  exact e
 apply aG
 ·exact kE (cL kn (Ep hm _) rfl)
 apply aG
 ·exact cM (oO (aD (cL kn (mj (Tm M.tb) M.tb.length hM hn _) rfl) bB) (aX rfl))
 refine dm (fun i ρ s=>∃(o:Option W),ρ=[some M.w,some (.int m),some (.loc st.length),o]/\s=st++[.lst ((cs n (Tm M.tb) M.tb.length (i+1)).map dD)])
  (gm (q:=(m:Int)) kn (by omega)) ⟨none,rfl,rfl⟩ (fun _ _ _ _=>trivial) ?_ ?_
 ·rintro i w ρ s hw ⟨o,rfl,rfl⟩
  obtain⟨hi,rfl⟩:=fG hw
  rw[bj]at hi
  refine⟨_,rfl,?_⟩
  have hc:(st++[am.lst ((cs n (Tm M.tb) M.tb.length (i+1)).map dD)])[st.length]?=some (.lst ((cs n (Tm M.tb) M.tb.length (i+1)).map dD)):=bO
  have clb:∀k,2*k<m->∀a,(cl n (Tm M.tb) M.tb.length k).getD a 0<2^64:=fun k hk a=>by
   by_cases ha:a<n
   ·rw[AD ha];exact hb k hk a
   ·rw[AG 0 (by rw[vZ];omega)];decide
  have hnx:=tj hM hn (st++[am.lst ((cs n (Tm M.tb) M.tb.length (i+1)).map dD)]) hc (by rw[v3];omega) (fun r hr=>by
   obtain⟨k,_,rfl⟩:=bH.mp hr
   exact vZ k) fun k hk a b=>by
   rw[v3]at hk ⊢
   rw[AE hk,AE (by omega)]
   by_cases h2:2*k<m
   ·exact .inl (clb k h2 a)
   ·exact .inr (clb _ (by omega) b)
  rw[G7,<- G5 (Ej hM ue) ue hB]at hnx
  apply cP
  ·exact kE (qL kv (gW hc) (aD (cL (aD kv kn) hnx rfl) bB) (oh hc (by rw[aq,v3];omega)))
  ·refine⟨_,_,rfl,_,rfl,?_⟩
   rw[jE,G4 (i+1)]
   simp
 ·rintro ρ s ⟨o,rfl,rfl⟩
  rw[show(eO 0 (m:Int).toNat,(none:Option (Nat×List W))).fst.length=m by simp[cC]]
  apply bN
  ·exact iP rfl
  ·exact⟨_,_,rfl,0,_,rfl,rfl,rfl,rfl⟩
theorem v5(hM:AA M n)(hn:n<=1000)(ue:1<=n)(hm:m<=24)(hb:∀k,2*k<m->∀a,ct a (fN (Tm M.tb) M.tb.length k)<2^64)(st:List am) :
  D9 [M.w,.int m] st=.ok (dD (cl n (Tm M.tb) M.tb.length m)) st:=by
 refine fO (w:=dD (cl n (Tm M.tb) M.tb.length m)) ?_ (by simp only[undWs,o_,cz])
 apply bN
 ·refine dS (cL (aD kv kn) (t5 hM hn ue hm hb st) rfl) kv (kP (ba bO) (f9 (x:=dD (cl n (Tm M.tb) M.tb.length m)) ?_))
  rw[af,cs,af,aE (by omega)];rfl
 ·exact⟨_,_,rfl,rfl,_,rfl⟩
end
def zf:List Nat->List Bool->List Nat
 |x::xs,b::bs=>if b then x::zf xs bs else zf xs bs
 |_,_=>[]
def gf(n:Nat)(gd:List Bool)(l:List Nat):List Nat:=((List.range n).filter fun q=>gd.getD q false).map fun q=>l.getD q 0
theorem Er:∀{n:Nat} {l:List Nat} {gd:List Bool},l.length=n->gd.length=n->zf l gd=gf n gd l
 |0,[],[],_,_=>rfl
 |n+1,x::xs,b::bs,h1,h2=>by
  have ih:=Er (n:=n) (l:=xs) (gd:=bs) (by simpa using h1) (by simpa using h2)
  unfold zf gf
  rw[fS,cH,my,ih]
  unfold gf
  cases b<;>simp[fm]
 |0,_::_,_,h1,_=>by simp at h1
 |0,[],_::_,_,h2=>by simp at h2
 |n+1,[],_,h1,_=>by simp at h1
 |n+1,_::_,[],_,h2=>by simp at h2
def zT:W->Bool
 |.tup [_,.bl b]=>b
 |_=>false
def zY:W->W
 |.tup [x,_]=>x
 |_=>.non
theorem zv:∀(l:List Nat) (gd:List Bool),((iM (nW l) (gd.map W.bl)).filter zT).map zY=nW (zf l gd)
 |x::xs,b::bs=>by
  have ih:=zv xs bs
  show(((W.tup [.int x,.bl b])::iM (nW xs) (bs.map W.bl)).filter zT).map zY=_
  rw[cH]
  unfold zf
  cases b
  ·rw[ay (by simp[zT]),ay (by simp)];exact ih
  ·rw[aw (by simp[zT]),aw rfl,aN,ih];rfl
 |[],_=>by simp[nW,iM,zf]
 |_::_,[]=>by simp[nW,iM,zf]
theorem Es(l:List Nat):nW l=(l.map fun(k:Nat)=>(k:Int)).map W.int:=by unfold nW;rw[bD];rfl
theorem qu{M:Mc}(hM:AA M n)(hn:n<=1000)(hl:l.length=n)(st:List am):xK [M.w,dD l] st=.ok (.int ((gf n M.gd l).sum:Nat)) st:=by
 refine fO (w:=.int ((gf n M.gd l).sum:Nat)) ?_ rfl
 have hcm:=sI (cap:=[none,none]) (f:=yX 2 (cU (fz 0) (cU (fz 1) j8))) (t:=jJ (al 1)) (el:=al 0) (ρ:=[some M.w,some (dD l)]) (st:=st) (fi:=y4 (au (al 1) (au (e2 cZ (al 0) (eI 1)) aK))) zT zY
  (Lu (xs:=nW l) (ys:=M.gd.map W.bl) (st1:=st) (aD kv (aD kx bB))) (by rw[gQ];simp[nW,hl];have:=hM.gd;show _<=1000000;omega) trivial fun w hw=>by
   obtain⟨k,hk⟩:=fq hw
   obtain⟨x,y,hx,hy,rfl⟩:=iu hk
   rw[af]at hy
   obtain⟨b,_,rfl⟩:=aJ.mp hy
   exact⟨_,rfl,dZ kv,fun _=>iP rfl⟩
 rw[zv,Er hl hM.gd,Es]at hcm
 apply bN
 ·exact dY (aD hcm bB) (En (ba bO))
 ·exact⟨_,_,rfl,by rw[tf],_,rfl⟩
theorem zw{M:Mc}(hM:AA M n)(hn:n<=1000)(ue:1<=n)(hm:m<=24)(hb:∀k,2*k<m->∀a,ct a (fN (Tm M.tb) M.tb.length k)<2^64)(st:List am) :
  D_ [M.w,.int m] st=.ok (.int ((gf n M.gd (cl n (Tm M.tb) M.tb.length m)).sum:Nat)) st:=by
 refine fO (w:=.int ((gf n M.gd (cl n (Tm M.tb) M.tb.length m)).sum:Nat)) ?_ rfl
 apply bN
 ·exact cL (aD kv (aD (cL (aD kv kn) (v5 hM hn ue hm hb st) rfl) bB)) (qu hM hn (vZ m) st) rfl
 ·exact⟨_,_,rfl,rfl,[],by simp⟩
structure Pl where
 b:Nat
 m:List Nat
def Pl.w(p:Pl):W:=.tup [.int p.b,.str p.m]
def jz(t:List Pl):W:=.tup (t.map Pl.w)
inductive St(n:Nat):List Nat->Nat->List Nat->Nat->Option Nat×Option Nat->Prop
 |z {S:List Nat}:St n S 0 (1::S) 1 (none,none)
 |l {a:Nat} {S:List Nat}:St n (a::S) 1 ((1+a)::S) (1+a) (some (n-1),none)
 |r {a:Nat} {S:List Nat}:St n (a::S) 2 ((1+a)::S) (1+a) (none,some (n-1))
 |b {c a:Nat} {S:List Nat}:St n (c::a::S) 3 ((1+c+a)::S) (1+c+a) (some (n-1-c),some (n-1))
inductive Gr:List Pl->List Nat->List Nat->List (Option Nat×Option Nat)->Prop
 |nil:Gr [] [] [] []
 |snoc {ps:List Pl} {S S' sz:List Nat} {lk:List (Option Nat×Option Nat)} {b k:Nat} {m:List Nat} {x:Option Nat×Option Nat}:Gr ps S sz lk->St ps.length S b S' k x->Gr (ps++[⟨b,m⟩]) S' (sz++[k]) (lk++[x])
def At(sz:List Nat):List Nat->Nat->Prop
 |[],n=>n=0
 |a::S,n=>sz[n-1]?=some a/\a<=n/\1<=a/\At sz S (n-a)
theorem At.app{sz x:List Nat}:∀{S:List Nat} {n:Nat},n<=sz.length->At sz S n->At (sz++x) S n
 |[],_,_,h=>h
 |a::S,n,hn,⟨h1,h2,h3,h4⟩=>⟨by rw[aF (by omega)];exact h1,h2,h3,At.app (by omega) h4⟩
theorem St.at'{sz S':List Nat}{b k:Nat}{x:Option Nat×Option Nat}(h:St n S b S' k x)(hn:sz.length=n)(ha:At sz S n):At (sz++[k]) S' (n+1):=by
 have hk:(sz++[k])[n+1-1]?=some k:=by rw[eE,<- hn];simp
 cases h with
 |z=>exact⟨hk,by omega,by omega,by rw[eE];exact ha.app (by omega)⟩
 |@l a S=>exact⟨hk,by have:=ha.2.1;omega,by omega,by rw[show n+1-(1+a)=n-a by omega];exact ha.2.2.2.app (by omega)⟩
 |@r a S=>exact⟨hk,by have:=ha.2.1;omega,by omega,by rw[show n+1-(1+a)=n-a by omega];exact ha.2.2.2.app (by omega)⟩
 |@b c a S=>exact⟨hk,by have:=ha.2.1;have:=ha.2.2.2.2.1;omega,by omega,by rw[show n+1-(1+c+a)=n-c-a by omega];exact ha.2.2.2.2.2.2.app (by omega)⟩
theorem Gr.ok{ps:List Pl}{sz:List Nat}{lk:List (Option Nat×Option Nat)}(h:Gr ps S sz lk):sz.length=ps.length/\lk.length=ps.length/\At sz S ps.length:=by
 induction h with
 |nil=>exact⟨rfl,rfl,rfl⟩
 |snoc _ hs ih=>
  obtain⟨h1,h2,h3⟩:=ih
  exact⟨by simp[h1],by simp[h2],by rw[bi];exact hs.at' h1 h3⟩
theorem Gr.step{ps:List Pl}{sz:List Nat}{lk:List (Option Nat×Option Nat)}(h:Gr ps S sz lk):∀i,i<ps.length->∃S1 S2 p k x,Gr (ps.take i) S1 (sz.take i) (lk.take i)/\ps[i]?=some p/\sz[i]?=some k/\lk[i]?=some x/\St i S1 p.b S2 k x/\Gr (ps.take (i+1)) S2 (sz.take (i+1)) (lk.take (i+1)):=by
 induction h with
 |nil=>intro i hi;simp at hi
 |@snoc ps S S' sz lk b k m x hg hs ih=>
  intro i hi
  obtain⟨l1,l2,_⟩:=hg.ok
  by_cases e:i=ps.length
  ·subst e
   refine⟨S,S',⟨b,m⟩,k,x,?_,by simp,by rw[<- l1];simp,by rw[<- l2];simp,hs,?_⟩
   ·rw[jU,<- l1,jU]
    rw[l1,<- l2,jU];exact hg
   ·rw[bA (by simp),bA (by simp[l1]),bA (by simp[l2])]
    exact .snoc hg hs
  ·have hi':i<ps.length:=by simp at hi;omega
   obtain⟨S1,S2,p,k1,x1,g1,q1,q2,q3,hs1,g2⟩:=ih i hi'
   refine⟨S1,S2,p,k1,x1,?_,by rw[aF hi'];exact q1,by rw[aF (by omega)];exact q2,by rw[aF (by omega)];exact q3,hs1,?_⟩
   ·rw[bU (by omega),bU (by omega),bU (by omega)];exact g1
   ·rw[bU (by omega),bU (by omega),bU (by omega)];exact g2
theorem Gr.cut{ps:List Pl}{sz:List Nat}{lk:List (Option Nat×Option Nat)}(h:Gr ps S sz lk)(hi:i<ps.length):∃(p:Pl) (L R:Nat),ps[i]?=some p/\sz[i]?=some (1+L+R)/\L+R<=i/\p.b<=3/\(0<L↔p.b%2=1)/\(0<R↔2<=p.b)/\(2<=p.b->1<=i/\sz[i-1]?=some R):=by
 obtain⟨S1,S2,p,k,x,g1,q1,q2,q3,hs,_⟩:=h.step i hi
 obtain⟨l1,l2,ha⟩:=g1.ok
 have cV:(ps.take i).length=i:=by rw[aV];omega
 rw[cV]at ha
 obtain⟨b,m⟩:=p
 have get:∀j a,1<=i->j=i-1->(sz.take i)[j]?=some a->sz[j]?=some a:=fun j a hi1 hj e=>by
  rw[cy (by omega)]at e;exact e
 cases hs with
 |z=>exact⟨⟨0,m⟩,0,0,q1,q2,by omega,by simp,by simp,by simp,by simp⟩
 |@l a S=>
  have ha1:(sz.take i)[i-1]?=some a:=ha.1
  have ha2:a<=i:=ha.2.1
  have ha3:1<=a:=ha.2.2.1
  exact⟨⟨1,m⟩,a,0,q1,q2,by omega,by simp,by simp;omega,by simp,by simp⟩
 |@r a S=>
  have ha1:(sz.take i)[i-1]?=some a:=ha.1
  have ha2:a<=i:=ha.2.1
  have ha3:1<=a:=ha.2.2.1
  exact⟨⟨2,m⟩,0,a,q1,by rw[q2],by omega,by simp,by simp,by simp;omega,fun _=>⟨by omega,get _ _ (by omega) rfl ha1⟩⟩
 |@b c a S=>
  have ha1:(sz.take i)[i-1]?=some c:=ha.1
  have ha2:c<=i:=ha.2.1
  have ha3:1<=c:=ha.2.2.1
  have hb2:a<=i-c:=ha.2.2.2.2.1
  have hb3:1<=a:=ha.2.2.2.2.2.1
  exact⟨⟨3,m⟩,a,c,q1,by rw[q2];congr 1<;>omega,by omega,by simp,by simp;omega,by simp;omega,fun _=>⟨by omega,get _ _ (by omega) rfl ha1⟩⟩
theorem OG{b:Nat}(h:b<=3)(st:List am):vj false (.int b) (.tup [.int 1,.int 3]) st=.ok (.bl (decide (b%2=1))) st:=by
 obtain rfl|rfl|rfl|rfl:b=0\/b=1\/b=2\/b=3:=by omega
 all_goals rfl
theorem OH{b:Nat}(h:b<=3)(st:List am):vj false (.int b) (.tup [.int 2,.int 3]) st=.ok (.bl (decide (2<=b))) st:=by
 obtain rfl|rfl|rfl|rfl:b=0\/b=1\/b=2\/b=3:=by omega
 all_goals rfl
theorem G8{p:Pl}(h:p.b<=3)(st:List am):oU [p.w] st=.ok (.bl (decide (p.b%2=1))) st:=by
 have:=OG h st
 have i0:cZ p.w (.int 0) st=.ok (.int p.b) st:=rfl
 apply kR
 apply bN
 ·(walk_at "evs")
 ·exact⟨_,_,rfl,rfl,rfl⟩
theorem Et{p:Pl}(h:p.b<=3)(st:List am):oV [p.w] st=.ok (.bl (decide (2<=p.b))) st:=by
 have:=OH h st
 have i0:cZ p.w (.int 0) st=.ok (.int p.b) st:=rfl
 apply kR
 apply bN
 ·(walk_at "evs")
 ·exact⟨_,_,rfl,rfl,rfl⟩
def oW:Option Nat->W
 |none=>.non
 |some k=>.int k
def mm(x:Option Nat×Option Nat):W:=.tup [oW x.1,oW x.2]
def lx:List Nat->Nat->List Nat
 |[],_=>[]
 |a::S,n=>(n-1)::lx S (n-a)
theorem pf:∀(S:List Nat) (n:Nat),(lx S n).length=S.length
 |[],_=>rfl
 |a::S,n=>by simp[lx,pf S]
theorem At.le{sz:List Nat}:∀{S:List Nat} {n:Nat},At sz S n->S.length<=n
 |[],_,_=>cG _
 |a::S,n,⟨_,h2,h3,h4⟩=>by have:=At.le h4;simp;omega
theorem St.det{S1 S2:List Nat}{b k1 k2:Nat}{x1 x2:Option Nat×Option Nat}(h1:St n S b S1 k1 x1)(h2:St n S b S2 k2 x2):S1=S2/\k1=k2/\x1=x2:=by
 cases h1<;>cases h2<;>exact⟨rfl,rfl,rfl⟩
theorem Gr.det{ps:List Pl}{sz:List Nat}{lk:List (Option Nat×Option Nat)}(h:Gr ps S sz lk):∀{PQ:List Pl} {S' Pc:List Nat} {OW:List (Option Nat×Option Nat)},Gr PQ S' Pc OW->ps=PQ->S=S':=by
 induction h with
 |nil=>
  intro PQ S' Pc OW h' e
  cases h' with
  |nil=>rfl
  |snoc _ _=>simp at e
 |snoc hg hs ih=>
  intro PQ S' Pc OW h' e
  cases h' with
  |nil=>simp at e
  |snoc hg' hs'=>
   have e2:=List.append_inj' e rfl
   have:=ih hg' e2.1
   subst this
   have e3:Pl.mk _ _=Pl.mk _ _:=lw e2.2
   injection e3 with eb em
   subst eb
   rw[<- e2.1]at hs'
   exact(hs.det hs').1
def d6(l:List Nat):List W:=l.map fun k:Nat=>W.int k
section
variable{ps:List Pl}{sz:List Nat}{lk:List (Option Nat×Option Nat)}
theorem tm(h:Gr ps S sz lk)(hn:ps.length<=1000)(st:List am):oX [jz ps] st=.ok (.tup (lk.map mm)) st:=by
 obtain⟨l1,l2,_⟩:=h.ok
 have hu:∀(l:List (Option Nat×Option Nat)) (n:Nat),undWs n (l.map mm)=true:=by
  intro l n
  induction l with
  |nil=>rfl
  |cons x r ih=>
   obtain⟨a,b⟩:=x
   simp only[aN,undWs,ih,cz,mm,W.und]
   cases a<;>cases b<;>rfl
 refine fO (N:=7) (ws:=[jz ps]) (body:=IB) ?_ (by simp[undWs,W.und,hu])
 apply aG
 ·(walk_at "evs")
 apply aG
 ·(walk_at "evs")
 rw[show(st++[am.lst []]).length=st.length+1 by simp,show st++[am.lst []]++[am.lst []]=st++[am.lst [],am.lst []] by simp]
 refine dm (fun i ρ br=>∃(S1:List Nat) (o3 o4 o5 o6:Option W),ρ=[some (jz ps),some (.loc st.length),some (.loc (st.length+1)),o3,o4,o5,o6]/\br=st++[.lst ((lk.take i).map mm),.lst (d6 (lx S1 i).reverse)]/\Gr (ps.take i) S1 (sz.take i) (lk.take i)/\i<=ps.length) (k:=(ic (ps.map Pl.w),none))
  (by show lE (au (al 0) aK) _ _=_;unfold lE;rfl) ⟨[],none,none,none,none,rfl,rfl,.nil,cG _⟩ (fun _ _ _ _=>trivial) ?_ ?_
 ·rintro i w ρ br hw ⟨S1,o3,o4,o5,o6,rfl,rfl,hg,hi⟩
  obtain⟨y,hy,rfl⟩:=kM hw
  have hip:i<ps.length:=by have:=(ah.mp hy).1;simpa using this
  obtain⟨S1',S2,p,k,x,g1,q1,q2,q3,hs,g2⟩:=h.step i hip
  rw[af,q1]at hy
  cases hy
  refine⟨_,rfl,?_⟩
  have hS:=hg.det g1 rfl
  subst hS
  obtain⟨lz,ll,ha⟩:=g1.ok
  have hti:(ps.take i).length=i:=by rw[aV];omega
  rw[hti]at ha lz ll
  have hSl:=ha.le
  obtain⟨p',L,R,q1',q2',_,hb3,hL,hR,_⟩:=h.cut hip
  rw[q1]at q1';cases q1'
  have hlk:lk.take (i+1)=lk.take i++[x]:=by rw[List.take_add_one,q3];rfl
  have hrt:=fun st=>Et (p:=p) hb3 st
  have hlf:=fun st=>G8 (p:=p) hb3 st
  have pop:∀(A:List W) (B:List Nat) (q:Nat),xf (.loc (st.length+1)) [] (st++[.lst A,.lst (d6 (q::B).reverse)])=.ok (.int q) (st++[.lst A,.lst (d6 B.reverse)]):=fun A B q=>by
   have hc:(st++[am.lst A,.lst (d6 (q::B).reverse)])[st.length+1]?=some (.lst (d6 B.reverse++[.int q])):=by rw[lJ];simp[d6]
   rw[NV hc,oN];rfl
  have isl:∀(A:List W) (B:List W),mU (st++[.lst A,.lst B]) (.loc (st.length+1))=true:=fun A B=>gW (by rw[lJ];rfl)
  have isl0:∀(A:List W) (B:List W),mU (st++[.lst A,.lst B]) (.loc st.length)=true:=fun A B=>gW (by rw[gR];rfl)
  have app:∀(A:List W) (B:List Nat) (q:Nat),B.length<1000->cO (.loc (st.length+1)) [.int q] (st++[.lst A,.lst (d6 B.reverse)])=.ok .non (st++[.lst A,.lst (d6 (q::B).reverse)]):=fun A B q hB=>by
   have hc:(st++[am.lst A,.lst (d6 B.reverse)])[st.length+1]?=some (.lst (d6 B.reverse)):=by rw[lJ];rfl
   rw[uI hc (by simp[d6];show _<1000000;omega),oN]
   simp[d6]
  have app0:∀(B:List W) (w:W),cO (.loc st.length) [w] (st++[.lst ((lk.take i).map mm),.lst B])=.ok .non (st++[.lst ((lk.take i).map mm++[w]),.lst B]):=fun B w=>by
   have hc:(st++[am.lst ((lk.take i).map mm),.lst B])[st.length]?=some (.lst ((lk.take i).map mm)):=by rw[gR];rfl
   rw[uI hc (by simp;show _<1000000;omega),jE];rfl
  have m5:∀(o3 o4 o5 o6:Option W) (B:List Nat),B=lx S2 (i+1)->KA (fun ρ br=>∃(S1:List Nat) (o3 o4 o5 o6:Option W),ρ=[some (jz ps),some (.loc st.length),some (.loc (st.length+1)),o3,o4,o5,o6]/\br=st++[.lst ((lk.take (i+1)).map mm),.lst (d6 (lx S1 (i+1)).reverse)]/\Gr (ps.take (i+1)) S1 (sz.take (i+1)) (lk.take (i+1))/\i+1<=ps.length)
    (.nx [some (jz ps),some (.loc st.length),some (.loc (st.length+1)),o3,o4,o5,o6] (st++[.lst ((lk.take i).map mm++[mm x]),.lst (d6 B.reverse)])):=by
   rintro o3 o4 o5 o6 B rfl
   exact⟨_,_,rfl,S2,_,_,_,_,rfl,by rw[hlk];simp,g2,by omega⟩
  obtain⟨b,m⟩:=p
  have hiS:∀T:List Nat,T.length<=i->(lx T i).length<1000:=fun T hT=>by rw[pf];omega
  cases hs with
  |@z=>
   have hr:oV [(Pl.mk 0 m).w]=fun st=>.ok (.bl false) st:=funext hrt
   have hl:oU [(Pl.mk 0 m).w]=fun st=>.ok (.bl false) st:=funext hlf
   have a1:=app ((lk.take i).map mm) (lx S1 i) i (hiS _ hSl)
   have a2:=app0 (d6 (i::lx S1 i).reverse) (.tup [.non,.non])
   apply aG
   ·apply cM
    apply sE
    ·(repeat' (first|with_reducible exact j0 hr _|walk_at "ev1"))
    ·(walk_at "evs")
   apply aG
   ·apply cM
    apply sE
    ·(repeat' (first|with_reducible exact j0 hl _|walk_at "ev1"))
    ·(walk_at "evs")
   apply aG
   ·(repeat' (first|with_reducible exact isl _ _|walk_at "ev1"))
   apply cP
   ·(repeat' (first|with_reducible exact isl0 _ _|walk_at "ev1"))
   ·exact m5 _ _ _ _ (i::lx S1 i) rfl
  |@l a S=>
   have hr:oV [(Pl.mk 1 m).w]=fun st=>.ok (.bl false) st:=funext hrt
   have hl:oU [(Pl.mk 1 m).w]=fun st=>.ok (.bl true) st:=funext hlf
   have hSl':S.length<=i:=by simp at hSl;omega
   have p1:=pop ((lk.take i).map mm) (lx S (i-a)) (i-1)
   have a1:=app ((lk.take i).map mm) (lx S (i-a)) i (by rw[pf];omega)
   have a2:=app0 (d6 (i::lx S (i-a)).reverse) (.tup [.int (i-1:Nat),.non])
   apply aG
   ·apply cM
    apply sE
    ·(repeat' (first|with_reducible exact j0 hr _|walk_at "ev1"))
    ·(walk_at "evs")
   apply aG
   ·apply cM
    apply sD
    ·(repeat' (first|with_reducible exact j0 hl _|walk_at "ev1"))
    ·exact qL kv (isl _ _) bB p1
   apply aG
   ·(repeat' (first|with_reducible exact isl _ _|walk_at "ev1"))
   apply cP
   ·(repeat' (first|with_reducible exact isl0 _ _|walk_at "ev1"))
   ·exact m5 _ _ _ _ (i::lx S (i-a)) (by simp only[lx];congr 1;congr 1;omega)
  |@r a S=>
   have hr:oV [(Pl.mk 2 m).w]=fun st=>.ok (.bl true) st:=funext hrt
   have hl:oU [(Pl.mk 2 m).w]=fun st=>.ok (.bl false) st:=funext fun st=>(hlf st).trans (by rw[show decide ((Pl.mk 2 m).b%2=1)=false from by simp])
   have hSl':S.length<=i:=by simp at hSl;omega
   have p1:=pop ((lk.take i).map mm) (lx S (i-a)) (i-1)
   have a1:=app ((lk.take i).map mm) (lx S (i-a)) i (by rw[pf];omega)
   have a2:=app0 (d6 (i::lx S (i-a)).reverse) (.tup [.non,.int (i-1:Nat)])
   apply aG
   ·apply cM
    apply sD
    ·(repeat' (first|with_reducible exact j0 hr _|walk_at "ev1"))
    ·exact qL kv (isl _ _) bB p1
   apply aG
   ·apply cM
    apply sE
    ·(repeat' (first|with_reducible exact j0 hl _|walk_at "ev1"))
    ·(walk_at "evs")
   apply aG
   ·(repeat' (first|with_reducible exact isl _ _|walk_at "ev1"))
   apply cP
   ·(repeat' (first|with_reducible exact isl0 _ _|walk_at "ev1"))
   ·exact m5 _ _ _ _ (i::lx S (i-a)) (by simp only[lx];congr 1;congr 1;omega)
  |@b c a S=>
   have hr:oV [(Pl.mk 3 m).w]=fun st=>.ok (.bl true) st:=funext hrt
   have hl:oU [(Pl.mk 3 m).w]=fun st=>.ok (.bl true) st:=funext fun st=>(hlf st).trans (by rw[show decide ((Pl.mk 3 m).b%2=1)=true from by simp])
   have hSl':S.length<=i:=by simp at hSl;omega
   have hca:(i-c-1)=(i-1-c):=by omega
   have p1:=pop ((lk.take i).map mm) ((i-1-c)::lx S (i-c-a)) (i-1)
   have p2:=pop ((lk.take i).map mm) (lx S (i-c-a)) (i-1-c)
   have a1:=app ((lk.take i).map mm) (lx S (i-c-a)) i (by rw[pf];omega)
   have a2:=app0 (d6 (i::lx S (i-c-a)).reverse) (.tup [.int (i-1-c:Nat),.int (i-1:Nat)])
   have ht:lx (c::a::S) i=(i-1)::(i-1-c)::lx S (i-c-a):=by simp only[lx,hca]
   rw[ht]
   apply aG
   ·apply cM
    apply sD
    ·(repeat' (first|with_reducible exact j0 hr _|walk_at "ev1"))
    ·exact qL kv (isl _ _) bB p1
   apply aG
   ·apply cM
    apply sD
    ·(repeat' (first|with_reducible exact j0 hl _|walk_at "ev1"))
    ·exact qL kv (isl _ _) bB p2
   apply aG
   ·(repeat' (first|with_reducible exact isl _ _|walk_at "ev1"))
   apply cP
   ·(repeat' (first|with_reducible exact isl0 _ _|walk_at "ev1"))
   ·exact m5 _ _ _ _ (i::lx S (i-c-a)) (by simp only[lx];congr 1;congr 1;omega)
 ·rintro ρ br ⟨S1,o3,o4,o5,o6,rfl,rfl,hg,hi⟩
  have cV:(ic (ps.map Pl.w)).length=ps.length:=by simp[ic]
  have hc:(st++[am.lst ((lk.take (ic (ps.map Pl.w),(none:Option (Nat×List W))).1.length).map mm),.lst (d6 (lx S1 (ic (ps.map Pl.w),(none:Option (Nat×List W))).1.length).reverse)])[st.length]?=some (.lst (lk.map mm)):=by
   rw[gR]
   show some (am.lst ((lk.take (ic (ps.map Pl.w)).length).map mm))=_
   rw[cV,bA (by omega)]
  apply bN
  ·(repeat' (first|with_reducible exact pX (ba hc)|walk_at "ev1"))
  ·exact⟨_,_,rfl,rfl,_,rfl⟩
end
theorem Ly(t:List Pl)(n:Nat):(jz t).und n=true:=by
 unfold jz W.und
 induction t with
 |nil=>rfl
 |cons x r ih=>simp only[aN,undWs,ih,cz];simp[Pl.w,W.und,undWs]
theorem tq(a:List Pl)(st:List am):gH [jz a] st=.ok (.int a.length) st:=by
 unfold jz
 rw[zh,aq]
theorem OI{a:List Pl}{q:Nat}{p:Pl}(h:a[q]?=some p)(st:List am):cZ (jz a) (.int q) st=.ok p.w st:=qo (f9 (by simp[h]))
theorem Q5(p:Pl)(st:List am):cZ p.w (.int 1) st=.ok (.str p.m) st:=rfl
theorem Q6(p:Pl)(st:List am):cZ p.w (.int 0) st=.ok (.int p.b) st:=rfl
section
variable{ps:List Pl}{sz:List Nat}{lk:List (Option Nat×Option Nat)}
theorem Eu(l:List Nat)(n:Nat):undWs n (d6 l)=true:=by
 unfold d6
 induction l with
 |nil=>rfl
 |cons x r ih=>simp[undWs,W.und,ih]
theorem AH{st:List am}{q a:Nat}(x:List am)(h:z[q]?=some a):cZ (.loc st.length) (.int q) (st++.lst (d6 z)::x)=.ok (.int a) (st++.lst (d6 z)::x):=
 kP (ba (by rw[gR];rfl)) (f9 (by unfold d6;rw[af,h];rfl))
theorem Lz{st:List am}{z:List Nat}(q:Nat)(hz:z.length<1000):cO (.loc st.length) [.int q] (st++[.lst (d6 z)])=.ok .non (st++[.lst (d6 (z++[q]))]):=by
 have hc:(st++[am.lst (d6 z)])[st.length]?=some (.lst (d6 z)):=by rw[gR];rfl
 rw[uI hc (by simp[d6];show _<1000000;omega),jE]
 simp[d6]
theorem RW{l:List α}{x:α}(h:l[i]?=some x):l.take (i+1)=l.take i++[x]:=by rw[List.take_add_one,h];rfl
theorem Ev(h:Gr ps S sz lk)(hn:ps.length<=900)(st:List am):xM [jz ps] st=.ok (.tup (d6 sz)) st:=by
 obtain⟨l1,l2,_⟩:=h.ok
 refine fO (N:=5) (ws:=[jz ps]) (body:=IC) ?_ (by simp[undWs,W.und,Eu])
 apply aG
 ·(walk_at "evs")
 have hlk:=tm h (by omega) (st++[am.lst []])
 refine dm (fun i ρ br=>∃(o2 o3 o4:Option W),ρ=[some (jz ps),some (.loc st.length),o2,o3,o4]/\br=st++[.lst (d6 (sz.take i))]) (k:=(lk.map mm,none))
  (lM (st1:=st++[am.lst []]) (by(walk_at "evs"))) ⟨none,none,none,rfl,rfl⟩ (fun _ _ _ _=>trivial) ?_ ?_
 ·rintro i w ρ br hw ⟨o2,o3,o4,rfl,rfl⟩
  have hip:i<ps.length:=by have:=(ah.mp hw).1;simp at this;omega
  obtain⟨S1,S2,p,k,x,g1,q1,q2,q3,hs,g2⟩:=h.step i hip
  rw[show(lk.map mm,(none:Option (Nat×List W))).1=lk.map mm from rfl,af,q3]at hw
  cases hw
  obtain⟨lz,ll,ha⟩:=g1.ok
  have hti:(ps.take i).length=i:=by rw[aV];omega
  rw[hti]at ha lz
  have isl:mU (st++[.lst (d6 (sz.take i))]) (.loc st.length)=true:=gW (by rw[gR];rfl)
  have ap:=Lz (st:=st) (z:=sz.take i) k (by omega)
  rw[<- RW q2]at ap
  obtain⟨b,m⟩:=p
  cases hs with
  |z=>
   rw[show((1:Nat):Int)=1 from rfl]at ap
   refine⟨_,rfl,?_⟩
   apply aG
   ·(walk_at "evs")
   apply dg
   ·(walk_at "evs")
   apply d3
   apply dg
   ·(walk_at "evs")
   apply d3
   apply cP
   ·(walk_at "evs")
   ·exact⟨_,_,rfl,_,_,_,rfl,rfl⟩
  |@l a S=>
   rw[show((1+a:Nat):Int)=1+(a:Int) by omega]at ap
   have x1:cZ (.loc st.length) (oW ((some (i-1),none):Option Nat×Option Nat).fst) (st++[.lst (d6 (sz.take i))])=.ok (.int a) (st++[.lst (d6 (sz.take i))]):=AH (st:=st) [] ha.1
   refine⟨_,rfl,?_⟩
   apply aG
   ·(walk_at "evs")
   apply aG
   ·apply lK
    ·(walk_at "evs")
    ·(walk_at "evs")
   apply dg
   ·(walk_at "evs")
   apply d3
   apply cP
   ·(walk_at "evs")
   ·exact⟨_,_,rfl,_,_,_,rfl,rfl⟩
  |@r a S=>
   rw[show((1+a:Nat):Int)=1+(a:Int) by omega]at ap
   have x1:cZ (.loc st.length) (oW ((none,some (i-1)):Option Nat×Option Nat).snd) (st++[.lst (d6 (sz.take i))])=.ok (.int a) (st++[.lst (d6 (sz.take i))]):=AH (st:=st) [] ha.1
   refine⟨_,rfl,?_⟩
   apply aG
   ·(walk_at "evs")
   apply dg
   ·(walk_at "evs")
   apply d3
   apply aG
   ·apply lK
    ·(walk_at "evs")
    ·(walk_at "evs")
   apply cP
   ·(walk_at "evs")
   ·exact⟨_,_,rfl,_,_,_,rfl,rfl⟩
  |@b c a S=>
   have x1:cZ (.loc st.length) (oW ((some (i-1-c),some (i-1)):Option Nat×Option Nat).snd) (st++[.lst (d6 (sz.take i))])=.ok (.int c) (st++[.lst (d6 (sz.take i))]):=AH (st:=st) [] ha.1
   have x2:=AH (st:=st) [] ha.2.2.2.1
   rw[show i-c-1=i-1-c by omega]at x2
   have x2:cZ (.loc st.length) (oW ((some (i-1-c),some (i-1)):Option Nat×Option Nat).fst) (st++[.lst (d6 (sz.take i))])=.ok (.int a) (st++[.lst (d6 (sz.take i))]):=x2
   rw[show((1+c+a:Nat):Int)=1+(a:Int)+(c:Int) by omega]at ap
   refine⟨_,rfl,?_⟩
   apply aG
   ·(walk_at "evs")
   apply aG
   ·apply lK
    ·(walk_at "evs")
    ·(walk_at "evs")
   apply aG
   ·apply lK
    ·(walk_at "evs")
    ·(walk_at "evs")
   apply cP
   ·(walk_at "evs")
   ·exact⟨_,_,rfl,_,_,_,rfl,rfl⟩
 ·rintro ρ br ⟨o2,o3,o4,rfl,rfl⟩
  have hc:(st++[am.lst (d6 (sz.take (lk.map mm,(none:Option (Nat×List W))).1.length))])[st.length]?=some (.lst (d6 sz)):=by
   rw[gR]
   show some (am.lst (d6 (sz.take (lk.map mm).length)))=_
   rw[bA (by simp;omega)]
  apply bN
  ·(repeat' (first|with_reducible exact pX (ba hc)|walk_at "ev1"))
  ·exact⟨_,_,rfl,rfl,_,rfl⟩
end
theorem IN{c:Nat}:vj false (.str [c]) (.str l) st=.ok (.bl (decide (c∈l))) st:=rfl
theorem AI{st1:List am}(h:fe ρ st=.ok (.str l) st1):dz fe ρ st=.ok (gJ l,none) st1:=by unfold dz;rw[h];rfl
theorem Ew{w:W}(h:(gJ l)[i]?=some w):∃c,l[i]?=some c/\w=.str [c]:=by
 simp only[gJ,af,aJ]at h
 obtain⟨c,h1,rfl⟩:=h
 exact⟨c,h1,rfl⟩
theorem uT(l:List Nat):(gJ l).length=l.length:=by simp[gJ]
theorem ie{l:List α}{c:α}(h:l[i]?=some c):l.take (i+1)=l.take i++[c]:=by
 rw[gr,h];rfl
def ol(m:List Nat)(l:List Nat):Nat:=l.foldl (fun a c=>2*a+if c∈m then 1 else 0) 0
theorem BA(m l:List Nat)(c:Nat):ol m (l++[c])=2*ol m l+if c∈m then 1 else 0:=by unfold ol;rw[List.foldl_append];rfl
theorem PJ(m:List Nat)(l:List Nat):ol m l<2^l.length:=by
 have key:∀(l:List Nat) (a k:Nat),a<2^k->l.foldl (fun a c=>2*a+if c∈m then 1 else 0) a<2^(k+l.length):=by
  intro l
  induction l with
  |nil=>intro a k h;simpa using h
  |cons c r ih=>
   intro a k h
   have:=ih (2*a+if c∈m then 1 else 0) (k+1) (by rw[ma];split<;>omega)
   rw[List.foldl_cons,a9,show k+(r.length+1)=k+1+r.length by omega];exact this
 have:=key l 0 0 (by simp)
 simpa[ol]using this
theorem uU(names m:List Nat)(st:List am):qp [.str names,.str m] st=.ok (.int (ol m names:Nat)) st:=by
 refine fO (N:=4) (ws:=[.str names,.str m]) (body:=Iz) ?_ rfl
 apply aG
 ·(walk_at "evs")
 refine dm (fun i ρ s=>∃o3:Option W,ρ=[some (.str names),some (.str m),some (.int (ol m (names.take i):Nat)),o3]/\s=st) (AI (st1:=st) kv) ⟨none,rfl,rfl⟩ (fun _ _ _ _=>trivial) ?_ ?_
 ·rintro i w ρ s hw ⟨o3,rfl,rfl⟩
  obtain⟨c,hc,rfl⟩:=Ew hw
  refine⟨_,rfl,?_⟩
  have e:=BA m (names.take i) c
  rw[<- ie hc]at e
  apply aG
  ·exact cM (dS kv gg (lL (.inr (by decide))))
  by_cases h:c∈m
  ·have t1:decide (c∈m)=true:=ce h
   rw[aw h]at e
   apply uJ
   ·exact dZ (dS kv kv (by rw[IN,t1]))
   apply cP
   ·exact cM (dS kv gg hU)
   ·exact⟨_,_,rfl,_,by rw[e,eU,eT,l8];rfl,rfl⟩
  ·have t1:decide (c∈m)=false:=bq h
   rw[ay h]at e
   apply nH
   ·exact dZ (dS kv kv (by rw[IN,t1]))
   apply cP
   ·exact Dw
   ·exact⟨_,_,rfl,_,by rw[e,eU,eT,l8];rfl,rfl⟩
 ·rintro ρ s ⟨o3,rfl,rfl⟩
  apply bN
  ·(walk_at "evs")
  ·exact⟨_,_,rfl,by rw[show(gJ names,(none:Option (Nat×List W))).fst.length=names.length from uT names,cJ],[],by simp⟩
theorem BB(l:List Nat):mQ [] (l.map fun c=>[c])=l:=by
 rw[nj]
 induction l with
 |nil=>rfl
 |cons a r ih=>simp only[aN,ky,ih];rfl
theorem Ex(l:List Nat):(((l.map fun c=>[c])).map List.length).sum=l.length:=by
 induction l with
 |nil=>rfl
 |cons a r ih=>simp only[aN,jc,a9,ih,gZ];omega
theorem LA{fe:FE}{t:FT}(T:Nat->Bool)(h:fe ρ st=.ok (.str l) st1)(hl:l.length<=10000)(h0:0<cap.length)
  (ht:∀c∈l,t ((kC cap ρ).set 0 (some (.str [c]))) st1=.ok (T c) st1) :
  ∃x,HI nF (eC (.str [])) (au (eL cap (dz fe) (fz 0) t (al 0)) aK) ρ st=.ok (.str (l.filter T)) (st1++x):=by
 have cg:=sI (cap:=cap) (ρ:=ρ) (st:=st) (st1:=st1) (f:=fz 0) (t:=t) (el:=al 0) (fun w=>match w with|.str [c]=>T c|_=>false) id (AI h) (by rw[uT];show _<=1000000;omega) trivial fun w hw=>by
  obtain⟨c,hc,rfl⟩:=bH.mp hw
  exact⟨_,rfl,ht c hc,fun _=>iP (by rw[bz (by simp[kC];exact h0)];rfl)⟩
 have e:((gJ l).filter (fun w=>match w with|.str [c]=>T c|_=>false)).map id=((l.filter T).map fun c=>[c]).map W.str:=by
  rw[m9]
  unfold gJ
  rw[my,bD];rfl
 rw[e]at cg
 have hj:=zi (sep:=[]) (st:=st1++[.lst (((l.filter T).map fun c=>[c]).map W.str)]) (n:=st1.length) (ba bO) (by
  rw[Ex]
  have:=iU T l
  show _<=1000000;simp;omega)
 rw[BB]at hj
 exact⟨_,GX gg rfl (aD cg bB) hj⟩
theorem LB(k:Nat)(hk:k<=1000)(st:List am):Bz [.int k] st=.ok (.int (2^k:Nat)) st:=by
 refine fO (N:=3) (ws:=[.int k]) (body:=Op) ?_ rfl
 apply aG
 ·(walk_at "evs")
 refine dm (fun i ρ s=>∃o2:Option W,ρ=[some (.int k),some (.int (2^i:Nat)),o2]/\s=st) (gm (q:=(k:Int)) (st1:=st) kn (by omega)) ⟨none,rfl,rfl⟩ (fun _ _ _ _=>trivial) ?_ ?_
 ·rintro i w ρ s hw ⟨o4,rfl,rfl⟩
  obtain⟨hi,rfl⟩:=fG hw
  refine⟨_,rfl,?_⟩
  apply cP
  ·exact cM (dS kv gg (lL (.inr (by decide))))
  ·exact⟨_,_,rfl,_,by rw[show((2^i:Nat):Int)*2=((2^(i+1):Nat):Int) by rw[ma,eT];rfl];rfl,rfl⟩
 ·rintro ρ s ⟨o2,rfl,rfl⟩
  apply bN
  ·(walk_at "evs")
  ·refine⟨_,_,rfl,?_,[],by simp⟩
   rw[show(eO 0 (k:Int).toNat,(none:Option (Nat×List W))).fst.length=k by simp[cC]]
def x6(n a k:Nat):Bool:=decide (a/2^(n-1-k)%2=1)
def Ey(nm:List Nat)(a:Nat):List Nat:=((List.range nm.length).filter (x6 nm.length a)).map fun k=>nm.getD k 0
def Fk(nm:List Nat)(a i:Nat):List Nat:=((List.range' (nm.length-i) i).filter (x6 nm.length a)).map fun k=>nm.getD k 0
theorem G9(m:Nat):Builtin.bitAnd (m:Int) 1=((m%2:Nat):Int):=by
 unfold Builtin.bitAnd
 rw[ce (by omega),ce (by omega)]
 show((((m:Int).toNat &&& 1:Nat)):Int)=_
 rw[bj,Nat.and_one_is_mod]
theorem v6:wZ (.int (m:Nat)) (.int 1) st=.ok (.int ((m%2:Nat):Int)) st:=by
 rw[<- G9];exact mE trivial
theorem Ez{a c:Nat}:yU (.int (a:Nat)) (.int (c:Nat)) st=.ok (.int ((a/2^c:Nat):Int)) st:=by
 have:=mE (C:=fun(_ j:Int)=>0<=j) (f:=fun i j=>i/2^j.toNat) (p:=(a:Int)) (q:=(c:Int)) (st:=st) (by omega)
 rw[show yU (.int (a:Nat)) (.int (c:Nat)) st=_ from this,bj]
 simp
theorem EA(nm:List Nat)(a i:Nat)(hi:i<nm.length):Fk nm a (i+1)=(if a/2^i%2=1 then[nm.getD (nm.length-1-i) 0]else[])++Fk nm a i:=by
 unfold Fk
 rw[List.range'_succ,show nm.length-(i+1)+1=nm.length-i by omega,cH]
 have e:x6 nm.length a (nm.length-(i+1))=decide (a/2^i%2=1):=by unfold x6;rw[show nm.length-1-(nm.length-(i+1))=i by omega]
 rw[e,show nm.length-(i+1)=nm.length-1-i by omega]
 by_cases h:a/2^i%2=1
 ·simp[h]
 ·simp[h]
theorem AJ(nm:List Nat)(a:Nat):Fk nm a nm.length=Ey nm a:=by
 unfold Fk Ey;rw[Nat.sub_self,List.range_eq_range']
theorem AK(nm:List Nat)(a i:Nat):(Fk nm a i).length<=i:=by
 unfold Fk
 rw[aq]
 exact aQ (iU _ _) (by simp)
theorem PL(nm:List Nat)(a:Nat):(Ey nm a).length<=nm.length:=by rw[<- AJ];exact AK nm a _
theorem EB(nm:List Nat)(a:Nat)(hn:nm.length<=60)(st:List am):sP [.str nm,.int (a:Nat)] st=.ok (.str (Ey nm a)) st:=by
 refine fO (N:=5) (ws:=[.str nm,.int (a:Nat)]) (body:=IA) ?_ rfl
 apply aG
 ·(walk_at "evs")
 apply aG
 ·(walk_at "evs")
 refine dm (fun i ρ s=>∃o:Option W,ρ=[some (.str nm),some (.int (a:Nat)),some (.str (Fk nm a i)),some (.int ((a/2^i:Nat):Int)),o]/\s=st) (k:=(gJ nm.reverse,none)) (st1:=st)
  (by unfold y0;rw[show au (al 0) aK _ st=.ok [.str nm] st from rfl];simp only[R.bind_ok];rw[aw (by omega)]) ⟨none,by rw[Nat.pow_zero,Nat.div_one];rfl,rfl⟩ (fun _ _ _ _=>trivial) ?_ ?_
 ·rintro i w ρ s hw ⟨o,rfl,rfl⟩
  unfold gJ at hw
  rw[af]at hw
  have hi:i<nm.length:=by
   rcases Nat.lt_or_ge i nm.length with z|z
   ·exact z
   ·rw[aC (by simpa using z)]at hw;cases hw
  rw[eK hi,ag (by omega)]at hw
  have hw:some (W.str [nm[nm.length-1-i]])=some w:=hw
  cases hw
  have hg:nm[nm.length-1-i]'(by omega)=nm.getD (nm.length-1-i) 0:=by rw[aA,ag (by omega)];rfl
  have hl:=AK nm a i
  have hnext:∀m:List Nat,m=Fk nm a (i+1)->kg (KA fun ρ s'=>∃o:Option W,ρ=[some (.str nm),some (.int (a:Nat)),some (.str (Fk nm a (i+1))),some (.int ((a/2^(i+1):Nat):Int)),o]/\s'=s) (cE 3 (e2 yU (al 3) (eI 1)) [some (.str nm),some (.int (a:Nat)),some (.str m),some (.int ((a/2^i:Nat):Int)),some (.str [nm[nm.length-1-i]])] s):=fun m hm=>by
   subst hm
   refine⟨_,_,cM (dS kv gg (Ez (c:=1))),some (.str [nm[nm.length-1-i]]),?_,rfl⟩
   rw[iK,<- ij];rfl
  refine⟨_,rfl,?_⟩
  have mO:=EA nm a i hi
  by_cases hb:a/2^i%2=1
  ·rw[aw hb]at mO
   apply kQ
   ·exact dZ (dS (dS kv gg v6) gg (sH (by rw[hb];rfl)))
   apply aG
   ·exact cM (dS kv kv (zg (by simp only[a9,gZ];show _<=1000000;omega)))
   exact hnext _ (by rw[mO,hg])
  ·rw[ay hb]at mO
   apply dg
   ·exact dZ (dS (dS kv gg v6) gg (sH (by rw[bZ];omega)))
   apply d3
   exact hnext _ (by rw[mO];rfl)
 ·rintro ρ s ⟨o,rfl,rfl⟩
  refine bN kv ⟨_,_,rfl,?_,[],by simp⟩
  rw[show(gJ nm.reverse).length=nm.length by simp[gJ],AJ]
def dI(f:α->Nat)(g:α->W)(l:List α):List (DK×W):=l.map fun a=>(DK.i (f a:Nat),g a)
section
variable{f:α->Nat}{g:α->W}{l:List α}
theorem EC(q:Nat)(a:α):decide ((DK.i (f a:Nat))=DK.i (q:Nat))=decide (f a=q):=by
 rw[mz,eF,eF]
 constructor
 ·intro h;injection h with h;omega
 ·intro h;rw[h]
theorem ED(q:Nat):qI (dI f g l) (.i q)=(l.find? fun a=>decide (f a=q)).map g:=by
 unfold qI dI
 rw[List.find?_map]
 simp only[fm,EC,Option.map_map]
theorem OJ(q:Nat):(qI (dI f g l) (.i q)).isSome=decide (q∈l.map f):=by
 rw[ED,Option.isSome_map,mz,List.find?_isSome,eF,bH]
 simp
theorem RC{a:α}(h:(l.map f).Nodup)(ha:a∈l):qI (dI f g l) (.i (f a:Nat))=some (g a):=by
 rw[ED]
 induction l with
 |nil=>cases ha
 |cons b l ih=>
  simp only[aN,gY]at h
  rw[bR]
  rcases a_.mp ha with rfl|ha'
  ·simp
  ·have:f b≠f a:=fun z=>h.1 (z▸bH.mpr ⟨a,ha',rfl⟩)
   rw[show decide (f b=f a)=false from bq this]
   exact ih h.2 ha'
theorem LC{a:α}(h:f a∉l.map f):vB (dI f g l) (.i (f a:Nat)) (g a)=dI f g (l++[a]):=by
 unfold vB
 rw[ay]
 ·unfold dI;rw[cn];rfl
 ·intro z
  unfold dI at z
  rw[List.any_map,List.any_eq_true]at z
  obtain⟨x,hx,e⟩:=z
  simp only[fm,EC,eF]at e
  exact h (bH.mpr ⟨x,hx,e⟩)
theorem EE:(dI f g l).length=l.length:=by simp[dI]
end
section
variable{kvs:List (DK×W)}
theorem LD(h:st[n]?=some (.dct kvs)):Bq st (.loc n)=some (n,kvs):=by simp only[Bq,h]
theorem LF{q:Nat}{v:W}(h:st[n]?=some (.dct kvs))(hl:kvs.length<kI):xq (.loc n) (.int q) v st=some (st.set n (.dct (vB kvs (.i q) v))):=by
 simp only[xq,LD h,mV];rw[aw hl]
end
theorem IP{p:Int}:xa [.int p,.int q] st=.ok (.int (if q<p then q else p)) st:=rfl
theorem x8{L:List α}{f:α->List β}{x:α}{y:List β}(hx:L[i]?=some x)(hy:y <+: f x):(L.take i).flatMap f++y <+: L.flatMap f:=by
 obtain⟨h1,h2⟩:=ah.mp hx
 have e:L=L.take i++x::L.drop (i+1):=by rw[<- h2,<- bJ h1,c_]
 obtain⟨z,hz⟩:=hy
 refine⟨z++(L.drop (i+1)).flatMap f,?_⟩
 conv=>rhs;rw[e,cR,List.flatMap_cons,<- hz]
 simp[bn]
theorem BC{L:List α}{f:α->List β}{x:α}(hx:L[i]?=some x):(L.take (i+1)).flatMap f=(L.take i).flatMap f++f x:=by
 rw[gr,hx,cR];simp
theorem zx{k:Nat}(h:k<=n):(List.range n).take k=List.range k:=by
 refine bS fun i=>?_
 rw[List.getElem?_take]
 by_cases hi:i<k
 ·rw[aw hi,aE (by omega),aE hi]
 ·rw[ay hi,aC (by simp;omega)]
def Fl(b:Nat):Pl:=⟨b,[]⟩
def x9(s:List Nat):W:=jz (s.map Fl)
def tW(s:List Nat):List W:=(s.map Fl).map Pl.w
theorem G_(l r:List Nat)(b:Nat):x9 (l++r++[b])=.tup ((tW l++tW r)++[.tup [.int (b:Nat),.str []]]):=by
 unfold x9 tW jz;simp[Fl,Pl.w]
theorem BD{m:Nat}(hm:m<=10)(hs:∀k,k<=m->(sh k).length<100000)(st:List am) :
  ∃j x,(st++x)[st.length+j]?=some (.lst ((sh m).map x9))/\xV [.int m] st=.ok (.loc (st.length+j)) (st++x):=by
 refine lO (Q:=fun j x=>(st++x)[st.length+j]?=some (.lst ((sh m).map x9))) ?_
 apply aG
 ·exact cM (oO (aD (oO (aD (sB bB (aX rfl)) bB) (aX rfl)) bB) (aX rfl))
 generalize hp:(st++[am.lst [.tup []]]).length=p
 have qy:p=st.length+1:=by rw[<- hp];simp
 generalize hs0:st++[am.lst [.tup []]]++[.lst [.loc st.length]]=s0
 have h00:st <+: s0/\s0[p]?=some (.lst ([st.length].map W.loc))/\s0[st.length]?=some (.lst ((sh 0).map x9)):=by
  rw[<- hs0]
  refine⟨ja (ja (ae _)),?_,?_⟩
  ·rw[<- hp];exact bO
  ·exact bI bO
 refine dm (fun i ρ s=>∃(qs:List Nat) (o2 o3 o4 o5 o6 o7:Option W),ρ=[some (.int m),some (.loc p),o2,o3,o4,o5,o6,o7]/\st <+: s/\s[p]?=some (.lst (qs.map W.loc))/\qs.length=i+1 /\
   ∀k q,qs[k]?=some q->st.length<=q/\q≠p/\s[q]?=some (.lst ((sh k).map x9)))
  (Ef (i:=1) (j:=(m:Int)+1) (st1:=s0) (aD gg (aD (dS kv gg hU) bB)) (by omega)) ⟨[st.length],none,none,none,none,none,none,rfl,h00.1,h00.2.1,rfl,fun k q hq=>?_⟩ (fun _ _ _ _=>trivial) ?_ ?_
 ·cases k with
  |zero=>simp at hq;subst hq;exact⟨av _,by omega,h00.2.2⟩
  |succ k=>simp at hq
 ·rintro i w ρ s hw ⟨qs,o2,o3,o4,o5,o6,o7,rfl,mO,wl,hql,hq⟩
  obtain⟨hi,rfl⟩:=fG hw
  have hi:i<m:=by omega
  rw[show((1:Int)+(i:Int))=((i+1:Nat):Int) by omega]
  refine⟨_,rfl,?_⟩
  have hsi:=hs (i+1) (by omega)
  have q0:∀k,k<=i->∃q,qs[k]?=some q/\st.length<=q/\q≠p/\s[q]?=some (.lst ((sh k).map x9)):=fun k hk=>by
   obtain⟨q,e⟩:∃q,qs[k]?=some q:=⟨_,ag (by omega)⟩
   exact⟨q,e,hq k q e⟩
  let g:Nat->List Nat->List (List Nat):=fun k l=>(sh (i-k)).map fun r=>l++r++[bc k (i+1)]
  let F:Nat->List (List Nat):=fun k=>(sh k).flatMap (g k)
  have eS:sh (i+1)=(List.range (i+1)).flatMap F:=rA i
  apply aG
  ·exact cM (oO bB (aX rfl))
  refine dm (fun k ρ z=>∃(o4 o5 o6 o7:Option W),ρ=[some (.int m),some (.loc p),some (.int ((i+1:Nat):Int)),some (.loc s.length),o4,o5,o6,o7]/\s <+: z/\z[s.length]?=some (.lst (((List.range k).flatMap F).map x9)))
   (gm (q:=((i+1:Nat):Int)) (st1:=s++[am.lst []]) kn (by omega)) ⟨_,_,_,_,rfl,aW _ _,bO⟩ (fun _ _ _ _=>trivial) ?_ ?_
  ·rintro k w ρ z hw ⟨o4,o5,o6,o7,rfl,hz,hzc⟩
   obtain⟨hk,rfl⟩:=fG hw
   have hk:k<i+1:=by omega
   rw[show((0:Int)+(k:Int))=((k:Nat):Int) by omega]
   refine⟨_,rfl,?_⟩
   have ebc:(if (1:Int)<(k:Int)then(1:Int)else(k:Int))+2*(if (1:Int)<(((i+1:Nat):Int)-1-(k:Int))then(1:Int)else(((i+1:Nat):Int)-1-(k:Int)))=(bc k (i+1):Nat):=by
    unfold bc;split<;>split<;>omega
   have e5:e2 fD (cq xa (au (al 4) (au (eI 1) aK))) (e2 eM (eI 2) (cq xa (au (e2 qF (e2 qF (al 2) (eI 1)) (al 4)) (au (eI 1) aK)))) [some (.int m),some (.loc p),some (.int ((i+1:Nat):Int)),some (.loc s.length),some (.int (k:Nat)),o5,o6,o7] z=.ok (.int (bc k (i+1):Nat)) z:=by
    rw[<- ebc]
    exact dS (dY (aD kv (aD gg bB)) IP) (dS gg (dY (aD (dS (dS kv gg (mE trivial)) kv (mE trivial)) (aD gg bB)) IP) (lL (.inl (by decide)))) hU
   apply aG
   ·exact cM e5
   obtain⟨ql,eql,_,_,hqlc⟩:=q0 k (by omega)
   obtain⟨qr,eqr,_,_,hqrc⟩:=q0 (i-k) (by omega)
   have ixl:∀z:List am,s <+: z->cZ (.loc p) (.int (k:Nat)) z=.ok (.loc ql) z:=fun z hz=>kP (ba (pre_get hz wl)) (f9 (by rw[af,eql];rfl))
   have ixr:∀z:List am,s <+: z->cZ (.loc p) (.int (((i+1:Nat):Int)-1-(k:Int))) z=.ok (.loc qr) z:=fun z hz=>by
    rw[show((i+1:Nat):Int)-1-(k:Int)=((i-k:Nat):Int) by omega]
    exact kP (ba (pre_get hz wl)) (f9 (by rw[af,eqr];rfl))
   refine kW (fun a ρ z=>∃(o6 o7:Option W),ρ=[some (.int m),some (.loc p),some (.int ((i+1:Nat):Int)),some (.loc s.length),some (.int (k:Nat)),some (.int (bc k (i+1):Nat)),o6,o7]/\s <+: z/\z[s.length]?=some (.lst (((List.range k).flatMap F++((sh k).take a).flatMap (g k)).map x9)))
    (ke (dS kv kv (ixl z hz)) (ba (pre_get hz hqlc))) ⟨_,_,rfl,hz,by simpa using hzc⟩ (fun _ _ z h=>by obtain⟨_,_,_,hz,_⟩:=h;exact ba (pre_get hz hqlc)) ?_ ?_
   ·rintro a w ρ z hw ⟨o6,o7,rfl,hz,hzc⟩
    rw[af]at hw
    obtain⟨l,hl,rfl⟩:=aJ.mp hw
    refine⟨_,rfl,?_⟩
    refine kW (fun b ρ z=>∃(o7:Option W),ρ=[some (.int m),some (.loc p),some (.int ((i+1:Nat):Int)),some (.loc s.length),some (.int (k:Nat)),some (.int (bc k (i+1):Nat)),some (x9 l),o7]/\s <+: z/\z[s.length]?=some (.lst (((List.range k).flatMap F++(((sh k).take a).flatMap (g k)++(g k l).take b)).map x9)))
     (ke (dS kv (dS (dS kv gg (mE trivial)) kv (mE trivial)) (ixr z hz)) (ba (pre_get hz hqrc))) ⟨_,rfl,hz,by simpa using hzc⟩ (fun _ _ z h=>by obtain⟨_,_,hz,_⟩:=h;exact ba (pre_get hz hqrc)) ?_ ?_
    ·rintro b w ρ z hw ⟨o7,rfl,hz,hzc⟩
     rw[af]at hw
     obtain⟨r,hr,rfl⟩:=aJ.mp hw
     refine⟨_,rfl,?_⟩
     have hgb:(g k l)[b]?=some (l++r++[bc k (i+1)]):=by show((sh (i-k)).map _)[b]?=_;rw[af,hr];rfl
     have yk:(List.range k).flatMap F++(((sh k).take a).flatMap (g k)++(g k l).take b) <+: sh (i+1):=by
      rw[eS,<- zx (show k<=i+1 by omega)]
      exact x8 (aE hk) (x8 hl (List.take_prefix _ _))
     have cV:(((List.range k).flatMap F++(((sh k).take a).flatMap (g k)++(g k l).take b)).map x9).length<1000000:=by
      rw[aq]
      have:=yk.length_le
      omega
     have ll:=iY k l (aS hl)
     have rl:=iY (i-k) r (aS hr)
     apply cP
     ·exact kE (qL kv (gW hzc) (aD (dS (dS kv kv (Dy (ws:=tW l) (xs:=tW r) (by unfold tW;simp;show _<=1000000;omega))) (sB (aD (sB (aD kv (aD gg bB)) (aX rfl)) bB) (aX rfl)) (Dy (by unfold tW;simp;show _<=1000000;omega))) bB) (oh hzc cV))
     ·refine⟨_,_,rfl,_,rfl,km hz (av _),?_⟩
      rw[iX hzc,gr (l:=g k l),hgb,<- G_]
      simp[bn]
    ·rintro ρ z ⟨o7,rfl,hz,hzc⟩
     refine⟨_,_,rfl,_,_,rfl,hz,?_⟩
     rw[aq]at hzc
     rw[BC hl,hzc,bA (l:=g k l) (by show((sh (i-k)).map _).length<=_;rw[aq];exact av _)]
   ·rintro ρ z ⟨o6,o7,rfl,hz,hzc⟩
    refine⟨_,_,rfl,_,_,_,_,rfl,hz,?_⟩
    rw[aq,cJ]at hzc
    rw[hzc,cm,cR]
    simp[F]
  ·rintro ρ z ⟨o4,o5,o6,o7,rfl,hz,hzc⟩
   rw[show(eO 0 ((i+1:Nat):Int).toNat,(none:Option (Nat×List W))).fst.length=i+1 by simp[cC],<- eS]at hzc
   have hpz:=pre_get hz wl
   have lp:=hX wl
   apply cP
   ·exact kE (qL kv (gW hpz) kn (oh hpz (by rw[aq];omega)))
   ·refine⟨_,_,rfl,qs++[s.length],_,_,_,_,_,_,rfl,km (mO.trans hz) (by omega),by rw[iX hpz];simp,by simp[hql],fun k q hkq=>?_⟩
    by_cases hk:k<qs.length
    ·rw[aF hk]at hkq
     obtain⟨a1,a2,a3⟩:=hq k q hkq
     exact⟨a1,a2,by rw[gN (Ne.symm a2)];exact pre_get hz a3⟩
    ·rw[cb (by omega)]at hkq
     have hk0:k-qs.length=0:=by
      have:=(ah.mp hkq).1
      simp at this;omega
     rw[hk0]at hkq
     have:s.length=q:=by simpa using hkq
     subst this
     have hk':k=i+1:=by omega
     subst hk'
     exact⟨mO.length_le,by omega,by rw[gN (by omega)];exact hzc⟩
 ·rintro ρ s ⟨qs,o2,o3,o4,o5,o6,o7,rfl,mO,wl,hql,hq⟩
  rw[show(eO 1 (((m:Int)+1)-1).toNat,(none:Option (Nat×List W))).fst.length=m by rw[cC];omega]at hql
  obtain⟨q,e⟩:∃q,qs[m]?=some q:=⟨_,ag (by omega)⟩
  obtain⟨a1,a2,a3⟩:=hq m q e
  apply bN
  ·exact dS kv kv (kP (ba wl) (f9 (by rw[af,e];rfl)))
  ·obtain⟨x,rfl⟩:=mO
   exact⟨_,_,rfl,q-st.length,x,by rw[show st.length+(q-st.length)=q by omega],rfl,by rw[show st.length+(q-st.length)=q by omega];exact a3⟩
section
variable(T:β->α->α->α)(e:α)
def EF(b:Bool)(st:List α):α×List α:=if b then(st.headD e,st.tail)else(e,st)
def tu(b:Nat)(x:β)(st:List α):List α:=
 T x (EF e (b%2==1) (EF e (decide (2<=b)) st).2).1 (EF e (decide (2<=b)) st).1::(EF e (b%2==1) (EF e (decide (2<=b)) st).2).2
def t6:List Nat->List β->List α->List α
 |b::bs,x::xs,st=>t6 bs xs (tu T e b x st)
 |_,_,st=>st
theorem kX:∀{s1:List Nat} {x1:List β} (s2:List Nat) (x2:List β) (st:List α),s1.length=x1.length->t6 T e (s1++s2) (x1++x2) st=t6 T e s2 x2 (t6 T e s1 x1 st)
 |[],[],s2,x2,st,_=>rfl
 |b::bs,x::xs,s2,x2,st,h=>by
  show t6 T e (bs++s2) (xs++x2) (tu T e b x st)=_
  rw[kX s2 x2 _ (by simpa using h)];rfl
 |[],_::_,_,_,_,h=>by simp at h
 |_::_,[],_,_,_,h=>by simp at h
def gv(s:List Nat)(x:List β):α:=(t6 T e s x []).headD e
theorem Q7{x:List β}{k:Nat}(hk:k<=m)(hx:x.length=m+1):∃y z t,x=y++z++[t]/\y.length=k/\z.length=m-k:=by
 refine⟨x.take k,(x.drop k).take (m-k),x[m]'(by omega),?_,by rw[aV];omega,by rw[aV,dU];omega⟩
 have e:x.drop m=[x[m]'(by omega)]:=by rw[bJ (by omega),dP (by omega)]
 have e2:(x.drop k).drop (m-k)=[x[m]'(by omega)]:=by rw[List.drop_drop,show k+(m-k)=m by omega];exact e
 rw[bn,<- e2,c_,c_]
theorem rD:∀(m:Nat) (s:List Nat) (x:List β),s∈sh m->x.length=m->∀st,t6 T e s x st=if m=0 then st else gv T e s x::st:=by
 intro m
 induction m using Nat.strongRecOn with
 |_ m ih=>
  intro s x h hx
  cases m with
  |zero=>
   intro st
   rw[pd]at h;simp at h;subst h
   rw[aw rfl];cases x<;>rfl
  |succ m=>
   obtain⟨k,l,r,hk,hl,hr,rfl⟩:=sY h
   obtain⟨y,z,t,rfl,hy,hz⟩:=Q7 hk hx
   have hll:=iY k l hl
   have hrl:=iY (m-k) r hr
   have key:∀st,t6 T e (l++r++[bc k (m+1)]) (y++z++[t]) st=T t (gv T e l y) (gv T e r z)::st:=by
    intro st
    rw[kX T e _ _ _ (by simp;omega),kX T e _ _ _ (by omega)]
    have rl:=ih k (by omega) l y hl hy
    have rr:=ih (m-k) (by omega) r z hr hz
    have l0:k=0->gv T e l y=e:=fun h=>by unfold gv;rw[rl,aw h];rfl
    have r0:m-k=0->gv T e r z=e:=fun h=>by unfold gv;rw[rr,aw h];rfl
    rw[rr,rl]
    show tu T e (bc k (m+1)) t _=_
    unfold tu
    by_cases e1:k=0
    ·by_cases e2:m-k=0
     ·have hb:bc k (m+1)=0:=by unfold bc;omega
      rw[hb,aw e1,aw e2,l0 e1,r0 e2];rfl
     ·have hb:bc k (m+1)=2:=by unfold bc;omega
      rw[hb,aw e1,ay e2,l0 e1];rfl
    ·by_cases e2:m-k=0
     ·have hb:bc k (m+1)=1:=by unfold bc;omega
      rw[hb,ay e1,aw e2,r0 e2];rfl
     ·have hb:bc k (m+1)=3:=by unfold bc;omega
      rw[hb,ay e1,ay e2];rfl
   intro st
   rw[ay (by omega),key]
   unfold gv
   rw[key];rfl
theorem EG{k:Nat}{r:List Nat}{y z:List β}{t:β}(hk:k<=m)(hl:l∈sh k)(hr:r∈sh (m-k))(hy:y.length=k)(hz:z.length=m-k) :
  gv T e (l++r++[bc k (m+1)]) (y++z++[t])=T t (gv T e l y) (gv T e r z):=by
 have hll:=iY k l hl
 have hrl:=iY (m-k) r hr
 have rl:=rD T e k l y hl hy
 have rr:=rD T e (m-k) r z hr hz
 have l0:k=0->gv T e l y=e:=fun h=>by unfold gv;rw[rl,aw h];rfl
 have r0:m-k=0->gv T e r z=e:=fun h=>by unfold gv;rw[rr,aw h];rfl
 show(t6 T e _ _ []).headD e=_
 rw[kX T e _ _ _ (by simp;omega),kX T e _ _ _ (by omega),rr,rl]
 show(tu T e (bc k (m+1)) t _).headD e=_
 unfold tu
 by_cases e1:k=0
 ·by_cases e2:m-k=0
  ·have hb:bc k (m+1)=0:=by unfold bc;omega
   rw[hb,aw e1,aw e2,l0 e1,r0 e2];rfl
  ·have hb:bc k (m+1)=2:=by unfold bc;omega
   rw[hb,aw e1,ay e2,l0 e1];rfl
 ·by_cases e2:m-k=0
  ·have hb:bc k (m+1)=1:=by unfold bc;omega
   rw[hb,ay e1,aw e2,r0 e2];rfl
  ·have hb:bc k (m+1)=3:=by unfold bc;omega
   rw[hb,ay e1,ay e2];rfl
end
def ez(n:Nat):List Nat:=(List.range n).map fun q=>if 0=q then 1 else 0
def kY(n:Nat)(T:Nat->Nat->Nat->Nat)(ns va vb:List Nat):List Nat:=(List.range n).map fun q=>sm (List.range n) fun a=>sm (List.range n) fun b=>va.getD a 0*vb.getD b 0*ct q (ns.map fun t=>T t a b)
def mH(n:Nat)(v:List Nat)(g:Nat->Nat):Nat:=sm (List.range n) fun q=>v.getD q 0*g q
section
theorem v7:(ez n).length=n:=by simp[ez]
theorem G'(ns va vb:List Nat):(kY n T ns va vb).length=n:=by simp[kY]
theorem OK{q:Nat}(h:q<n):(ez n).getD q 0=if 0=q then 1 else 0:=kU (fun q=>if 0=q then 1 else 0) (aE h)
theorem EH(hn:1<=n)(g:Nat->Nat):mH n (ez n) g=g 0:=by
 unfold mH
 rw[aZ (g:=fun a=>(if 0=a then 1 else 0)*g a) fun q hq=>by rw[OK (bh.mp hq)]]
 exact AB (by omega) g
theorem Ha(B:Nat):cl n T B 0=ez n:=rfl
theorem v8(L:List α)(v:List Nat)(f:α->Nat->Nat):sm L (fun r=>mH n v (f r))=mH n v fun q=>sm L fun r=>f r q:=by
 unfold mH
 rw[iA]
 exact aZ fun q _=>nu ..
theorem p7{v:List Nat}{f g:Nat->Nat}(h:∀q,f q=g q):mH n v f=mH n v g:=by rw[show f=g from funext h]
theorem rE(hT:∀t a b,T t a b<n)(ns va vb:List Nat)(g:Nat->Nat):mH n (kY n T ns va vb) g=mH n va fun a=>mH n vb fun b=>sm ns fun t=>g (T t a b):=by
 have e1:mH n (kY n T ns va vb) g=sm (List.range n) fun q=>sm (List.range n) fun a=>sm (List.range n) fun b=>va.getD a 0*vb.getD b 0*(ct q (ns.map fun t=>T t a b)*g q):=by
  unfold mH
  refine aZ fun q hq=>?_
  rw[show(kY n T ns va vb).getD q 0=_ from kU _ (aE (bh.mp hq)),<- nr]
  refine aZ fun a _=>?_
  rw[<- nr]
  exact aZ fun b _=>fB ..
 rw[e1,iA]
 unfold mH
 refine aZ fun a _=>?_
 rw[iA,<- nu]
 refine aZ fun b _=>?_
 rw[nu,<- AC (n:=n) (fun x hx=>by obtain⟨t,_,rfl⟩:=bH.mp hx;exact hT ..),kF,fB]
theorem zy(hT:∀t a b,T t a b<n)(hn:1<=n){B:Nat}(hB:0<B):∀(m:Nat) (g:Nat->Nat),sm (sh m) (fun s=>mH n (gv (kY n T) (ez n) s (List.replicate m (List.range B))) g)=sm (fN T B m) g:=by
 intro m
 induction m using Nat.strongRecOn with
 |_ m ih=>
  intro g
  cases m with
  |zero=>
   show mH n (ez n) g+0=_
   rw[EH hn];rfl
  |succ m=>
   rw[sZ T B hB,rA,jx]
   refine aZ fun k hk=>?_
   rw[bh]at hk
   rw[jx]
   have e:List.replicate (m+1) (List.range B)=List.replicate k (List.range B)++List.replicate (m-k) (List.range B)++[List.range B]:=by
    rw[iN,show k+(m-k)=m by omega,List.replicate_succ']
   rw[aZ (g:=fun l=>mH n (gv (kY n T) (ez n) l (List.replicate k (List.range B))) fun a=>sm (fN T B (m-k)) fun b=>sm (List.range B) fun t=>g (T t a b)) fun l hl=>?_]
   ·exact ih k (by omega) _
   ·rw[kF,aZ (g:=fun r=>mH n (gv (kY n T) (ez n) l (List.replicate k (List.range B))) fun a=>mH n (gv (kY n T) (ez n) r (List.replicate (m-k) (List.range B))) fun b=>sm (List.range B) fun t=>g (T t a b)) fun r hr=>?_,v8]
    ·exact p7 fun a=>ih (m-k) (by omega) _
    ·rw[e,EG (kY n T) (ez n) (by omega) hl hr (eG ..) (eG ..),rE hT]
theorem EI(hT:∀t a b,T t a b<n){R:List Nat}{nb:Nat->List Nat}(hR:∀f:Nat->Nat,sm R f=sm (List.range 2) fun c=>sm (nb c) f) :
  ∀(m:Nat) (s:List Nat),s∈sh m->∀g:Nat->Nat,sm (List.range (2^m)) (fun w=>mH n (gv (kY n T) (ez n) s ((uP 2 m w).map nb)) g)=mH n (gv (kY n T) (ez n) s (List.replicate m R)) g:=by
 intro m
 induction m using Nat.strongRecOn with
 |_ m ih=>
  intro s hs g
  cases m with
  |zero=>
   rw[pd]at hs;simp at hs;subst hs
   show _+0=_
   rw[iE];rfl
  |succ m=>
   obtain⟨k,l,r,hk,hl,hr,rfl⟩:=sY hs
   have e0:List.replicate (m+1) R=List.replicate k R++List.replicate (m-k) R++[R]:=by
    rw[iN,show k+(m-k)=m by omega,List.replicate_succ']
   rw[e0,EG (kY n T) (ez n) (by omega) hl hr (eG ..) (eG ..),rE hT]
   have e:2^(m+1)=2^k*(2^(m-k)*2):=by rw[<- ma,<- ij];congr 1;omega
   rw[e,jy,iA]
   rw[aZ (g:=fun a=>mH n (gv (kY n T) (ez n) l ((uP 2 k a).map nb)) fun p=>mH n (gv (kY n T) (ez n) r (List.replicate (m-k) R)) fun q=>sm R fun t=>g (T t p q)) fun a ha=>?_]
   ·exact ih k (by omega) l hl _
   ·rw[jy,iA]
    rw[aZ (g:=fun b=>mH n (gv (kY n T) (ez n) l ((uP 2 k a).map nb)) fun p=>mH n (gv (kY n T) (ez n) r ((uP 2 (m-k) b).map nb)) fun q=>sm R fun t=>g (T t p q)) fun b hb=>?_,v8]
    ·exact p7 fun p=>ih (m-k) (by omega) r hr _
    ·rw[aZ (g:=fun t=>mH n (gv (kY n T) (ez n) l ((uP 2 k a).map nb)) fun p=>mH n (gv (kY n T) (ez n) r ((uP 2 (m-k) b).map nb)) fun q=>sm (nb t) fun u=>g (T u p q)) fun t ht=>?_,v8]
     ·refine p7 fun p=>?_
      rw[v8]
      exact p7 fun q=>(hR _).symm
     ·rw[bh]at ha hb ht
      have:=x5 (B:=2) (k:=k) (j:=m-k) (by omega) ha hb ht
      rw[show k+(m-k)+1=m+1 by omega]at this
      rw[this,cn,cn,jW,EG (kY n T) (ez n) (by omega) hl hr (by rw[aq,rB]) (by rw[aq,rB]),rE hT]
theorem EJ{gd:List Bool}(v:List Nat):(gf n gd v).sum=mH n v fun q=>if gd.getD q false then 1 else 0:=by
 unfold gf mH
 show sm ((List.range n).filter _) (fun q=>v.getD q 0)=_
 generalize List.range n=L
 induction L with
 |nil=>rfl
 |cons q L ih=>
  rw[bV,<- ih,cH]
  cases h:gd.getD q false
  ·simp only[h,bX,fI,Nat.mul_zero,dv]
  ·simp only[h,gz,Nat.mul_one,bV]
theorem LG(hT:∀t a b,T t a b<n)(hn:1<=n)(B m:Nat)(g:Nat->Nat):mH n (cl n T B m) g=sm (fN T B m) g:=by
 rw[AC (s_ hT hn m)]
 unfold mH
 exact aZ fun q hq=>by rw[AD (bh.mp hq)]
end
theorem St.ex{b:Nat}(hb:b<=3)(h:(b+1)/2<=S.length):∃S' k x,St n S b S' k x/\S'.length+(b+1)/2=S.length+1:=by
 obtain rfl|rfl|rfl|rfl:b=0\/b=1\/b=2\/b=3:=by omega
 ·exact⟨_,_,_,.z,by simp⟩
 ·match S,h with
  |a::S,_=>exact⟨_,_,_,.l,by simp⟩
 ·match S,h with
  |a::S,_=>exact⟨_,_,_,.r,by simp⟩
 ·match S,h with
  |c::a::S,_=>exact⟨_,_,_,.b,by simp⟩
  |[_],hz=>simp at hz
  |[],hz=>simp at hz
theorem Gr.grow:∀(m:Nat) (s:List Nat),s∈sh m->∀qs:List Pl,qs.map Pl.b=s->∀{ps:List Pl} {S sz:List Nat} {lk:List (Option Nat×Option Nat)},Gr ps S sz lk->∃S' Pc OW,Gr (ps++qs) S' Pc OW/\S'.length=S.length+if m=0 then 0 else 1:=by
 intro m
 induction m using Nat.strongRecOn with
 |_ m ih=>
  intro s hs qs hq ps S sz lk hg
  cases m with
  |zero=>
   rw[pd]at hs;simp at hs;subst hs
   have:qs=[]:=by simpa using hq
   subst this
   exact⟨S,sz,lk,by rw[cf];exact hg,rfl⟩
  |succ m=>
   obtain⟨k,l,r,hk,hl,hr,rfl⟩:=sY hs
   obtain⟨q1,q2,rfl,h1,h2⟩:=md.mp hq
   obtain⟨ql,qr,rfl,h3,h4⟩:=md.mp h1
   obtain⟨q,rfl⟩:∃q,q2=[q]:=by
    cases q2 with
    |nil=>simp at h2
    |cons q t=>cases t with
     |nil=>exact⟨q,rfl⟩
     |cons _ _=>simp at h2
   have hb:q.b=bc k (m+1):=by simpa using h2
   obtain⟨S1,z1,k1,g1,e1⟩:=ih k (by omega) l hl ql h3 hg
   obtain⟨S2,z2,k2,g2,e2⟩:=ih (m-k) (by omega) r hr qr h4 g1
   have b3:q.b<=3:=by rw[hb];unfold bc;omega
   have hS:(q.b+1)/2=(if k=0 then 0 else 1)+if m-k=0 then 0 else 1:=by
    rw[hb];unfold bc
    split<;>split<;>omega
   obtain⟨S3,z,x,mO,e3⟩:=St.ex (n:=(ps++ql++qr).length) (b:=q.b) (S:=S2) b3 (by omega)
   refine⟨S3,z2++[z],k2++[x],?_,by rw[ay (by omega)];omega⟩
   have:=Gr.snoc (m:=q.m) g2 mO
   rw[show ps++(ql++qr++[q])=ps++ql++qr++[q] by simp]
   exact this
section
variable(n:Nat)(T:Nat->Nat->Nat->Nat)
def v9(r:List (List Nat)):Option Nat->List Nat
 |none=>ez n
 |some k=>r.getD k (ez n)
def uV:List (List Nat)->List (Option Nat×Option Nat)->List (List Nat)->List (List Nat)
 |x::ns,y::lk,r=>uV ns lk (r++[kY n T x (v9 n r y.1) (v9 n r y.2)])
 |_,_,r=>r
theorem tw(x:List Nat)(y:Option Nat×Option Nat):∀(ns:List (List Nat)) (lk:List (Option Nat×Option Nat)) (r:List (List Nat)),ns.length=lk.length->uV n T (ns++[x]) (lk++[y]) r=uV n T ns lk r++[kY n T x (v9 n (uV n T ns lk r) y.1) (v9 n (uV n T ns lk r) y.2)]
 |[],[],r,_=>rfl
 |a::ns,b::lk,r,h=>tw x y ns lk _ (by simpa using h)
 |[],_::_,_,h=>by simp at h
 |_::_,[],_,h=>by simp at h
theorem v_:∀(ns:List (List Nat)) (lk:List (Option Nat×Option Nat)) (r:List (List Nat)),ns.length=lk.length->(uV n T ns lk r).length=r.length+ns.length
 |[],[],r,_=>rfl
 |a::ns,b::lk,r,h=>by
  show(uV n T ns lk _).length=_
  rw[v_ ns lk _ (by simpa using h)];simp;omega
 |[],_::_,_,h=>by simp at h
 |_::_,[],_,h=>by simp at h
theorem wa:∀(ns:List (List Nat)) (lk:List (Option Nat×Option Nat)) (r:List (List Nat)),(∀v∈r,v.length=n)->∀v∈uV n T ns lk r,v.length=n
 |x::ns,y::lk,r,h=>wa ns lk _ fun v hv=>by
  rcases cS.mp hv with z|z
  ·exact h v z
  ·rw[fT.mp z,G']
 |[],[],r,h=>h
 |[],_::_,_,h=>h
 |_::_,[],_,h=>h
end
theorem EK{sz:List Nat}:∀{S:List Nat} {n:Nat},At sz S n->∀p∈lx S n,p<n
 |[],_,_,p,hp=>by cases hp
 |a::S,n,⟨_,h2,h3,h4⟩,p,hp=>by
  rcases a_.mp hp with rfl|z
  ·omega
  ·have:=EK h4 p z;omega
theorem Gr.tie(n:Nat)(T:Nat->Nat->Nat->Nat){ps:List Pl}{sz:List Nat}{lk:List (Option Nat×Option Nat)}(h:Gr ps S sz lk):∀ns:List (List Nat),ns.length=ps.length ->
  t6 (kY n T) (ez n) (ps.map Pl.b) ns []=(lx S ps.length).map fun p=>(uV n T ns lk []).getD p (ez n):=by
 induction h with
 |nil=>intro ns hn;cases ns with
  |nil=>rfl
  |cons _ _=>simp at hn
 |@snoc ps S S' sz lk b k m y hg hs ih=>
  intro ns hn
  obtain⟨l1,l2,ha⟩:=hg.ok
  obtain⟨x,ns,rfl⟩:∃x ns',ns=ns'++[x]:=by
   have:ns≠[]:=by intro z;subst z;simp at hn
   exact⟨ns.getLast this,ns.dropLast,(List.dropLast_concat_getLast this).symm⟩
  have hn':ns.length=ps.length:=by simp at hn;exact hn
  rw[cn,kX _ _ _ _ _ (by simp[hn']),ih ns hn',tw n T x y ns lk [] (by omega)]
  generalize hV:uV n T ns lk []=V
  have lV:V.length=ps.length:=by rw[<- hV,v_ n T ns lk [] (by omega)];simp[hn']
  have old:∀(S0:List Nat) (j:Nat),(∀p∈lx S0 j,p<ps.length)->(lx S0 j).map (fun p=>(V++[kY n T x (v9 n V y.1) (v9 n V y.2)]).getD p (ez n))=(lx S0 j).map fun p=>V.getD p (ez n):=fun S0 j hj=>by
   refine bC fun p hp=>?_
   have:=hj p hp
   rw[aA,aF (by omega),<- aA]
  have new:(V++[kY n T x (v9 n V y.1) (v9 n V y.2)]).getD ps.length (ez n)=kY n T x (v9 n V y.1) (v9 n V y.2):=by
   rw[aA,<- lV];simp
  have hlt:=EK ha
  rw[bi,iR]
  generalize hN:ps.length=N at *
  show tu (kY n T) (ez n) b x _=_
  cases hs with
  |z=>
   show _=(V++_).getD (N+1-1) (ez n)::(lx S (N+1-1)).map _
   rw[eE,new,old S N hlt];rfl
  |@l a S=>
   obtain⟨a1,a2,a3,a4⟩:=ha
   show _=(V++_).getD (N+1-1) (ez n)::(lx S (N+1-(1+a))).map _
   rw[eE,new,show N+1-(1+a)=N-a by omega,old S (N-a) fun p hp=>hlt p (aR _ hp)];rfl
  |@r a S=>
   obtain⟨a1,a2,a3,a4⟩:=ha
   show _=(V++_).getD (N+1-1) (ez n)::(lx S (N+1-(1+a))).map _
   rw[eE,new,show N+1-(1+a)=N-a by omega,old S (N-a) fun p hp=>hlt p (aR _ hp)];rfl
  |@b c a S=>
   obtain⟨a1,a2,a3,a4,a5,a6,a7⟩:=ha
   show _=(V++_).getD (N+1-1) (ez n)::(lx S (N+1-(1+c+a))).map _
   rw[eE,new,show N+1-(1+c+a)=N-c-a by omega,old S (N-c-a) fun p hp=>hlt p (aR _ (aR _ hp)),show N-1-c=N-c-1 by omega];rfl
theorem Hb(n:Nat)(T:Nat->Nat->Nat->Nat){s:List Nat}(hs:s∈sh m){ps:List Pl}(hp:ps.map Pl.b=s){sz:List Nat}{lk:List (Option Nat×Option Nat)}(h:Gr ps S sz lk)(ns:List (List Nat))(hn:ns.length=m) :
  (if 0<m then(uV n T ns lk []).getD (m-1) (ez n)else ez n)=gv (kY n T) (ez n) s ns:=by
 have hl:ps.length=m:=by rw[<- iY m s hs,<- hp,aq]
 have t:=h.tie n T ns (by omega)
 rw[hp,rD _ _ m s ns hs hn,hl]at t
 by_cases hm:m=0
 ·subst hm
  rw[ay (by omega)]
  unfold gv
  rw[rD _ _ 0 s ns hs hn,aw rfl];rfl
 ·rw[aw (by omega)]
  rw[ay hm]at t
  cases S with
  |nil=>exact absurd t (by simp[lx])
  |cons a S=>
   have:=lw t
   exact this.symm
theorem LH{c:Nat}:vj true (.str [c]) (.str l) st=.ok (.bl (!decide (c∈l))) st:=rfl
theorem zz(m nm:List Nat)(hm:m.length<=10000)(st:List am):xO [.str m,.str nm] st=.ok (.str (m.filter fun c=>!decide (c∈nm))) st:=by
 obtain⟨x,e⟩:=LA (fe:=al 0) (t:=jJ (e2 (vj true) (al 0) (al 1))) (cap:=[none,some 1]) (ρ:=[some (.str m),some (.str nm)]) (st:=st) (l:=m) (fun c=>!decide (c∈nm)) kv hm (by decide) fun c _=>dZ (dS kv kv LH)
 refine fO (N:=2) (ws:=[.str m,.str nm]) (body:=ID) ?_ rfl
 apply bN
 ·exact e
 ·exact⟨_,_,rfl,rfl,_,rfl⟩
def f'(nm u5 m:List Nat):List Nat:=(List.range (2^u5.length)).map fun c=>ol (m.filter fun d=>!decide (d∈u5)) nm+ol (Ey u5 c) nm
theorem zB(M:Mc)(u5 m:List Nat)(hn:u5.length<=4)(hm:m.length<=10000)(st:List am):uL [M.w,.str u5,.str m] st=.ok (.loc st.length) (st++[.lst (nW (f' M.nm u5 m))]):=by
 have hp:2^u5.length<=16:=aQ (dA (by decide) hn) (by decide)
 suffices hh:kg (yt fun w br=>∃j x,w=.loc (st.length+j)/\br=st++x/\j=0/\x=[.lst (nW (f' M.nm u5 m))]) (IE ([M.w,.str u5,.str m].map some++List.replicate (4-3) none) st) by
  obtain⟨j,x,⟨rfl,rfl⟩,e⟩:=lO hh
  exact e
 apply aG
 ·exact cM (cL (aD kx (aD (cL (aD kv kn) (zz m u5 hm st) rfl) bB)) (uU M.nm _ st) rfl)
 generalize hA:ol (m.filter fun d=>!decide (d∈u5)) M.nm=A
 obtain⟨r,hr1,hr2,hr3⟩:=Az (cap:=[none,some 3,some 0,some 1]) (ρ:=[some M.w,some (.str u5),some (.str m),some (.int (A:Nat))]) (st:=st) (n:=2^u5.length)
  (el:=e2 fD (al 1) (c6 2 qp (au (e2 cZ (al 2) (eI 0)) (au (c6 2 sP (au (al 3) (au (al 0) aK))) aK))))
  (fs:=au (c6 1 Bz (au (cq gH (au (al 1) aK)) aK)) aK) (fun k:Nat=>W.int k) (fun i b=>b=A+ol (Ey u5 i) M.nm)
  (aD (cL (aD (dY kn (vJ (by show _<=1000000;omega))) bB) (LB _ (by omega) st) rfl) bB) (by omega) fun i hi=>by
   refine⟨_,rfl,?_⟩
   have:=dS (f:=fD) (ρ:=[some (.int (i:Nat)),some (.int (A:Nat)),some M.w,some (.str u5)]) (st:=st) (fa:=al 1) (fb:=c6 2 qp (au (e2 cZ (al 2) (eI 0)) (au (c6 2 sP (au (al 3) (au (al 0) aK))) aK))) kv
    (cL (aD kx (aD (cL (aD kv kn) (EB u5 i (by omega) st) rfl) bB)) (uU M.nm (Ey u5 i) st) rfl) hU
   rw[<- eU]at this
   exact this
 have er:r=f' M.nm u5 m:=by
  unfold f'
  rw[hA]
  refine bS fun i=>?_
  rw[af]
  by_cases hi:i<2^u5.length
  ·rw[aE hi,ag (by omega)]
   rw[hr2 i _ (ag (by omega))];rfl
  ·rw[aC (by omega),aC (by simpa using hi)];rfl
 subst er
 apply bN
 ·exact hr3
 ·exact⟨_,_,rfl,0,_,rfl,rfl,rfl,rfl⟩
def ph(ns:List Nat):List (DK×W):=dI (fun t:Nat=>t) (fun _=>W.int 1) ns
theorem EL{ns:List Nat}(hd:ns.Nodup)(hl:ns.length<=1000){p:Nat}(hp:st[p]?=some (.lst (nW ns))):uM [.loc p] st=.ok (.loc st.length) (st++[.dct (ph ns)]):=by
 suffices hh:kg (yt fun w br=>∃j x,w=.loc (st.length+j)/\br=st++x/\j=0/\x=[.dct (ph ns)]) (IF ([W.loc p].map some++List.replicate (3-1) none) st) by
  obtain⟨j,x,⟨rfl,rfl⟩,e⟩:=lO hh
  exact e
 apply aG
 ·exact cM rfl
 refine dm (fun i ρ s=>∃o:Option W,ρ=[some (.loc p),some (.loc st.length),o]/\s=st++[.dct (ph (ns.take i))]) (ke kv (ba (bI hp))) ⟨none,rfl,rfl⟩ (fun i ρ s h=>by obtain⟨_,_,rfl⟩:=h;exact ba (bI hp)) ?_ ?_
 ·rintro i w ρ s hw ⟨o,rfl,rfl⟩
  unfold nW at hw
  rw[af]at hw
  obtain⟨t,ht,rfl⟩:=aJ.mp hw
  refine⟨_,rfl,?_⟩
  have hnew:t∉(ns.take i).map fun t:Nat=>t:=by
   rw[pH]
   intro z
   obtain⟨j,hj⟩:=fq z
   rw[List.getElem?_take]at hj
   by_cases hji:j<i
   ·rw[aw hji]at hj
    have:=(List.getElem?_inj (ah.mp hj).1 hd).mp (hj.trans ht.symm)
    omega
   ·rw[ay hji]at hj;cases hj
  have hn:qI (ph (ns.take i)) (.i (t:Nat))=none:=by
   have:=OJ (f:=fun t:Nat=>t) (g:=fun _=>W.int 1) (l:=ns.take i) t
   rw[bq hnew]at this
   exact Option.isSome_eq_false_iff.mp this |> Option.isNone_iff_eq_none.mp
  have hc:(st++[am.dct (ph (ns.take i))])[st.length]?=some (.dct (ph (ns.take i))):=bO
  have hg:vC (al 1) (al 2) (eI 0) [some (.loc p),some (.loc st.length),some (.int (t:Nat))] (st++[am.dct (ph (ns.take i))])=.ok (.int 0) (st++[am.dct (ph (ns.take i))]):=by
   have ev1:al 1 [some (.loc p),some (.loc st.length),some (W.int (t:Nat))] (st++[am.dct (ph (ns.take i))])=.ok (.loc st.length) (st++[am.dct (ph (ns.take i))]):=iP rfl
   have hdc:iw (st++[am.dct (ph (ns.take i))]) (.loc st.length)=some (st.length,ph (ns.take i)):=by simp only[iw,hc]
   unfold vC
   rw[ev1]
   simp only[R.bind_ok,hdc]
   rw[show al 2 [some (.loc p),some (.loc st.length),some (W.int (t:Nat))] (st++[am.dct (ph (ns.take i))])=.ok (.int (t:Nat)) (st++[am.dct (ph (ns.take i))])from iP rfl]
   simp only[R.bind_ok,gg,hdc,mV,hn,lg]
  apply cP
  ·exact uH (dS hg gg hU) kv kv (LF hc (by unfold ph;rw[EE,aV];show _<1000000;omega))
  ·refine⟨_,_,rfl,_,rfl,?_⟩
   have:=LC (f:=fun t:Nat=>t) (g:=fun _=>W.int 1) (l:=ns.take i) (a:=t) hnew
   rw[jE]
   show st++[am.dct (vB (ph (ns.take i)) (.i (t:Nat)) (.int 1))]=_
   rw[show vB (ph (ns.take i)) (.i (t:Nat)) (.int 1)=_ from this,ie ht];rfl
 ·rintro ρ s ⟨o,rfl,rfl⟩
  apply bN
  ·exact iP rfl
  ·exact⟨_,_,rfl,0,_,rfl,rfl,rfl,by unfold nW;rw[aq,cJ]⟩
def qv(st:List am)(x:W)(v:List Nat):Prop:=x=dD v\/∃p,x=.loc p/\st[p]?=some (.lst (nW v))
def nz(v:List Nat):List Nat:=(List.range v.length).filter fun i=>decide (0<v.getD i 0)
theorem AL(v:List Nat):ic (nW v)=(List.range v.length).map fun i=>W.tup [.int (i:Nat),.int (v.getD i 0:Nat)]:=by
 refine bS fun i=>?_
 rw[af]
 by_cases hi:i<v.length
 ·obtain⟨w,hw⟩:∃w,(ic (nW v))[i]?=some w:=⟨_,ag (by rw[kN];unfold nW;simpa using hi)⟩
  obtain⟨y,hy,rfl⟩:=kM hw
  unfold nW at hy
  rw[af,dH 0 hi]at hy
  cases hy
  rw[hw,aE hi];rfl
 ·rw[aC (by rw[kN];unfold nW;simpa using hi),aC (by simpa using hi)];rfl
def cT:W->Bool
 |.tup [_,.int z]=>decide (z>0)
 |_=>false
def cY:W->W
 |.tup [x,_]=>x
 |w=>w
theorem AM{v:List Nat}{x:W}(h:qv st x v)(hl:v.length<=1000):By [x] st=.ok (.loc st.length) (st++[.lst (nW (nz v))]):=by
 have hi:∃ck,iO st ck/\lI (au (al 0) aK) [some x] st=.ok (ic (nW v),ck) st:=by
  rcases h with rfl|⟨p,rfl,hp⟩
  ·exact⟨none,trivial,rfl⟩
  ·refine⟨some (p,nW v),ba hp,?_⟩
   unfold lI
   rw[show au (al 0) aK [some (W.loc p)] st=.ok [.loc p] st from rfl]
   simp only[R.bind_ok,ba hp]
 obtain⟨ck,hck,hi⟩:=hi
 have hc:=sI (cap:=[none,none]) (f:=yX 2 (cU (fz 0) (cU (fz 1) j8))) (t:=jJ (e2 CO (al 1) (eI 0))) (el:=al 0) cT cY hi (by rw[kN];unfold nW;rw[aq];show _<=1000000;omega) hck fun w hw=>by
  rw[AL]at hw
  obtain⟨i,_,rfl⟩:=bH.mp hw
  exact⟨_,rfl,dZ (dS kv gg (kO rfl)),fun _=>iP rfl⟩
 have e:((ic (nW v)).filter cT).map cY=nW (nz v):=by
  rw[AL,my,bD]
  unfold nW nz
  have:(cT∘fun i:Nat=>W.tup [.int (i:Nat),.int (v.getD i 0:Nat)])=fun i=>decide (0<v.getD i 0):=by
   funext i
   show decide (((v.getD i 0:Nat):Int)>0)=_
   rw[mz,eF,eF];omega
  rw[this];rfl
 rw[e]at hc
 suffices hh:kg (yt fun w br=>∃j y,w=.loc (st.length+j)/\br=st++y/\j=0/\y=[.lst (nW (nz v))]) (Oe ([x].map some++List.replicate (1-1) none) st) by
  obtain⟨j,y,⟨rfl,rfl⟩,e⟩:=lO hh
  exact e
 apply bN
 ·exact hc
 ·exact⟨_,_,rfl,0,_,rfl,rfl,rfl,rfl⟩
def Kp(a b:Nat)(s0 s:List am):Prop:=∀(i:Nat) (c:am),s0[i]?=some c->i≠a->i≠b->s[i]?=some c
section
variable{a b:Nat}{s0 s1 s s2:List am}
theorem Kp.refl:Kp a b s s:=fun _ _ h _ _=>h
theorem Kp.trans(h:Kp a b s0 s1)(h2:Kp a b s1 s2):Kp a b s0 s2:=fun i c e x y=>h2 i c (h i c e x y) x y
theorem Kp.app{x:List am}(h:Kp a b s0 s):Kp a b s0 (s++x):=fun i c e x y=>bI (h i c e x y)
theorem Kp.of_app{x:List am}(h:Kp a b (s0++x) s):Kp a b s0 s:=fun i c e x y=>h i c (bI e) x y
theorem Kp.setA{c:am}(h:Kp a b s0 s):Kp a b s0 (s.set a c):=fun i d e x y=>by rw[gN (Ne.symm x)];exact h i d e x y
theorem Kp.setB{c:am}(h:Kp a b s0 s):Kp a b s0 (s.set b c):=fun i d e x y=>by rw[gN (Ne.symm y)];exact h i d e x y
end
theorem uW(L:List α)(t:α->Bool)(g:α->Nat)(h:∀x,t x=false->g x=0):sm (L.filter t) g=sm L g:=by
 induction L with
 |nil=>rfl
 |cons x L ih=>
  rw[cH,bV]
  cases e:t x
  ·rw[h x e,dv,ay (by simp)];exact ih
  ·rw[aw rfl,bV,ih]
def Q8(n:Nat)(tbl:List (List (List Nat)))(ns vl vr:List Nat):List (Nat×Nat):=(nz vl).flatMap fun a=>(nz vr).flatMap fun b=>ns.map fun t=>(Tm tbl t a b,vl.getD a 0*vr.getD b 0)
theorem LI{tbl:List (List (List Nat))}{ns vl vr:List Nat}(hl:vl.length=n)(hr:vr.length=n):wt n (Q8 n tbl ns vl vr)=kY n (Tm tbl) ns vl vr:=by
 unfold wt kY Q8
 refine bC fun q _=>?_
 rw[jx]
 unfold nz
 have key:∀a,sm ((List.filter (fun i=>decide (0<vr.getD i 0)) (List.range vr.length)).flatMap fun b=>ns.map fun t=>(Tm tbl t a b,vl.getD a 0*vr.getD b 0)) (fun p:Nat×Nat=>if p.1=q then p.2 else 0)=sm (List.range n) fun b=>vl.getD a 0*vr.getD b 0*ct q (ns.map fun t=>Tm tbl t a b):=by
  intro a
  have e:∀b,sm (ns.map fun t=>(Tm tbl t a b,vl.getD a 0*vr.getD b 0)) (fun p:Nat×Nat=>if p.1=q then p.2 else 0)=vl.getD a 0*vr.getD b 0*ct q (ns.map fun t=>Tm tbl t a b):=fun b=>by
   unfold ct
   rw[kF,kF,<- nu]
   refine aZ fun t _=>?_
   show(if Tm tbl t a b=q then _ else _)=_
   split<;>simp
  rw[jx,uW _ _ _ fun b hb=>?_,hr]
  ·exact aZ fun b _=>e b
  ·rw[e]
   have:vr.getD b 0=0:=by have:=of_decide_eq_false hb;omega
   rw[this,Nat.mul_zero,jD]
 rw[uW _ _ _ fun a ha=>?_,hl]
 ·exact aZ fun a _=>key a
 ·rw[key]
  have:vl.getD a 0=0:=by have:=of_decide_eq_false ha;omega
  rw[aZ (g:=fun _=>0) fun b _=>by rw[this,jD,jD],rp]
theorem IQ{v:List Nat}{a:Nat}(h:(nz v)[i]?=some a):a<v.length:=by
 have:=aS h
 exact bh.mp (mo.mp this).1
theorem EM{x:W}{v:List Nat}{a:Nat}(h:qv st x v)(ha:a<v.length):cZ x (.int (a:Nat)) st=.ok (.int (v.getD a 0:Nat)) st:=by
 rcases h with rfl|⟨p,rfl,hp⟩
 ·exact sW (dH 0 ha)
 ·exact Eg hp (dH 0 ha)
theorem Hc{kvs:List (DK×W)}(h:fe ρ st=.ok (.loc n) st1)(hd:iw st1 (.loc n)=some (n,kvs)):re fe ρ st=.ok (kvs.map (fun p=>.tup [p.1.w,p.2]),none) (st1.set n (.rod kvs)):=by
 unfold re;rw[h];simp only[R.bind_ok,hd]
theorem wb{M:Mc}{tp:Nat}{ns vl vr:List Nat}{xl xr:W}(hM:AA M n)(hn:n<=1000)(PY:∀t∈ns,t<M.tb.length)(R6:ns.length<=1000)(ht:st[tp]?=some (.dct (ph ns)))(hl:qv st xl vl)(hr:qv st xr vr)(ll:vl.length=n)(lr:vr.length=n)(hb:∀a,vl.getD a 0<2^64) :
  ∃s',xP [M.w,.loc tp,xl,xr] st=.ok (.loc st.length) s'/\Kp tp st.length st s'/\s'[st.length]?=some (.lst (nW (kY n (Tm M.tb) ns vl vr))):=by
 suffices hh:kg (yt fun w s'=>w=.loc st.length/\Kp tp st.length st s'/\s'[st.length]?=some (.lst (nW (kY n (Tm M.tb) ns vl vr)))) (Ea ([M.w,.loc tp,xl,xr].map some++List.replicate (11-4) none) st) by
  obtain⟨w,s',e,rfl,h1,h2⟩:=hh
  refine⟨s',?_,h1,h2⟩
  have:=no (N:=11) (body:=Ea) (ws:=[M.w,.loc tp,xl,xr]) e
  rw[pW (by simp[undWs,W.und])]at this
  exact this
 have ltp:tp<st.length:=hX ht
 have e0:eL [none] (dz (e2 cZ (al 0) (eI 1))) (fz 0) iL (eI 0) [some M.w,some (.loc tp),some xl,some xr,none,none,none,none,none,none,none] st=.ok (.loc st.length) (st++[.lst (nW (wt n []))]):=by
  have:=rj (cap:=[none]) (f:=fz 0) (el:=eC (.int 0)) (ρ:=[some M.w,some (.loc tp),some xl,some xr,none,none,none,none,none,none,none]) (st:=st) (fun _=>.int 0) (lM (fe:=e2 cZ (al 0) (eI 1)) (ws:=M.gd.map W.bl) (st1:=st) kx)
   (by rw[aq,hM.gd];show _<=1000000;omega) trivial fun w _=>⟨_,rfl,gg⟩
  rw[this]
  congr 4
  refine bS fun i=>?_
  rw[af,af,nW,af]
  by_cases h:i<n
  ·rw[ag (by rw[hM.gd];exact h),uQ h];rfl
  ·rw[aC (by rw[hM.gd];omega),aC (by rw[m3];omega)];rfl
 apply aG
 ·exact xX e0 rfl
 generalize hs1:st++[am.lst (nW (wt n []))]=s1
 generalize hml:st.length=ml at *
 have vk:∀(x:W) (v:List Nat) (s:List am),qv st x v->Kp tp ml st s->qv s x v:=fun x v s h k=>by
  rcases h with rfl|⟨p,rfl,hp⟩
  ·exact .inl rfl
  ·refine .inr ⟨p,rfl,k p _ hp (fun z=>?_) (fun z=>?_)⟩
   ·subst z;rw[ht]at hp;cases hp
   ·have:=hX hp;omega
 let St:List am->List (Nat×Nat)->Prop:=fun s P=>Kp tp ml st s/\iw s (.loc tp)=some (tp,ph ns)/\s[ml]?=some (.lst (nW (wt n P)))
 have dct_app:∀(s x:List am),iw s (.loc tp)=some (tp,ph ns)->iw (s++x) (.loc tp)=some (tp,ph ns):=fun s x h=>by
  have hlt:tp<s.length:=by
   rcases Nat.lt_or_ge tp s.length with z|z
   ·exact z
   ·simp only[iw,aC z]at h;cases h
  simp only[iw,aF hlt]at h ⊢;exact h
 have st_app:∀(s x:List am) (P:List (Nat×Nat)),St s P->St (s++x) P:=fun s x P ⟨h1,h2,h3⟩=>⟨h1.app,dct_app s x h2,bI h3⟩
 have h0:St s1 []:=by
  rw[<- hs1]
  refine⟨Kp.refl.app,?_,by rw[<- hml];exact bO⟩
  simp only[iw,bI ht]
 let G:Nat->List (Nat×Nat):=fun i=>((nz vl).take i).flatMap fun a=>(nz vr).flatMap fun b=>ns.map fun t=>(Tm M.tb t a b,vl.getD a 0*vr.getD b 0)
 let K:Nat->Nat->List (Nat×Nat):=fun a j=>((nz vr).take j).flatMap fun b=>ns.map fun t=>(Tm M.tb t a b,vl.getD a 0*vr.getD b 0)
 have hc1:=AM (vk xl vl s1 hl h0.1) (by omega)
 have hp1:s1.length≠tp/\s1.length≠ml:=by rw[<- hs1];simp;omega
 refine dm (fun i ρ s=>∃(o5 o6 o7 o8 o9 zK:Option W),ρ=[some M.w,some (.loc tp),some xl,some xr,some (.loc ml),o5,o6,o7,o8,o9,zK]/\St s (G i)/\Kp tp ml (s1++[.lst (nW (nz vl))]) s)
  (ke (cL kn hc1 rfl) (ba bO)) ⟨none,none,none,none,none,none,rfl,st_app _ _ _ h0,Kp.refl⟩ (fun i ρ s h=>by
   obtain⟨_,_,_,_,_,_,_,_,k⟩:=h
   exact ba (k _ _ bO hp1.1 hp1.2)) ?_ ?_
 ·rintro i w ρ s hw ⟨o5,o6,o7,o8,o9,zK,rfl,hS,hk⟩
  unfold nW at hw
  rw[af]at hw
  obtain⟨a,ha,rfl⟩:=aJ.mp hw
  have han:=IQ ha
  refine⟨_,rfl,?_⟩
  have hc2:=AM (vk xr vr s hr hS.1) (by omega)
  have lms:ml<s.length:=hX hS.2.2
  have hp2:s.length≠tp/\s.length≠ml:=by omega
  refine kW (fun j ρ z=>∃(o6 o7 o8 o9 zK:Option W),ρ=[some M.w,some (.loc tp),some xl,some xr,some (.loc ml),some (.int (a:Nat)),o6,o7,o8,o9,zK]/\St z (G i++K a j)/\Kp tp ml (s++[.lst (nW (nz vr))]) z)
   (ke (cL kn hc2 rfl) (ba bO)) ⟨_,_,_,_,_,rfl,by simpa[K]using st_app _ [.lst (nW (nz vr))] _ hS,Kp.refl⟩ (fun i ρ s h=>by
    obtain⟨_,_,_,_,_,_,_,k⟩:=h
    exact ba (k _ _ bO hp2.1 hp2.2)) ?_ ?_
  ·rintro j w ρ z hw ⟨o6,o7,o8,o9,zK,rfl,hZ,hkz⟩
   unfold nW at hw
   rw[af]at hw
   obtain⟨b,hbj,rfl⟩:=aJ.mp hw
   have hbn:=IQ hbj
   refine⟨_,rfl,?_⟩
   apply aG
   ·exact cM (dS (dS kv kv (EM (vk xl vl z hl hZ.1) han)) (dS kv kv (EM (vk xr vr z hr hZ.1) hbn)) (lL (.inl ⟨by omega,by have:=hb a;omega⟩)))
   rw[<- eT]
   have ltz:tp<z.length:=by have:=hX hZ.2.2;omega
   have Ks:K a (j+1)=K a j++ns.map fun t=>(Tm M.tb t a b,vl.getD a 0*vr.getD b 0):=by
    show((nz vr).take (j+1)).flatMap _=_
    rw[ie hbj,cR];simp[K]
   refine kW (fun k ρ z'=>∃(o8 o9 zK:Option W),ρ=[some M.w,some (.loc tp),some xl,some xr,some (.loc ml),some (.int (a:Nat)),some (.int (b:Nat)),some (.int ((vl.getD a 0*vr.getD b 0:Nat):Int)),o8,o9,zK]/\St z' (G i++K a j++(ns.take k).map fun t=>(Tm M.tb t a b,vl.getD a 0*vr.getD b 0))/\Kp tp ml z z')
    (Hc kv hZ.2.1) ⟨_,_,_,rfl,⟨hZ.1.setA,by simp only[iw,bz ltz],by rw[gN (by omega)];simpa using hZ.2.2⟩,Kp.refl.setA⟩ (fun _ _ _ _=>trivial) ?_ ?_
   ·rintro k w ρ z' hw ⟨o8,o9,zK,rfl,hZ',hkz'⟩
    unfold ph dI at hw
    rw[bD,af]at hw
    obtain⟨t,ht',rfl⟩:=aJ.mp hw
    refine⟨_,rfl,?_⟩
    have htb:M.tb[t]?=some (M.tb.getD t []):=dH [] (PY t (aS ht'))
    obtain⟨t1,t2⟩:=hM.t _ (aS htb)
    have g1:(M.tb.getD t [])[a]?=some ((M.tb.getD t []).getD a []):=dH [] (by omega)
    obtain⟨r1,r2⟩:=t2 _ (aS g1)
    have g2:((M.tb.getD t []).getD a [])[b]?=some (((M.tb.getD t []).getD a []).getD b 0):=dH 0 (by omega)
    have hq:Tm M.tb t a b<n:=r2 _ (aS g2)
    have ix:cZ (.tup (M.tb.map sV)) (.int (t:Nat)) z'=.ok (sV (M.tb.getD t [])) z':=qo (f9 (by rw[af,htb];rfl))
    apply aG
    ·exact cM (w:=.int (Tm M.tb t a b:Nat)) (dS (dS (dS kx kv ix) kv (Eh g1)) kv (sW g2))
    apply cP
    ·exact uH (dS (dS kv kv (Eg hZ'.2.2 (uQ hq))) (dS kv kv (lL (.inr (by decide)))) hU) kv kv (vV hZ'.2.2 (by unfold nW;rw[aq,m3];exact hq))
    ·refine⟨_,_,rfl,_,_,_,rfl,⟨hZ'.1.setB,?_,?_⟩,hkz'.setB⟩
     ·have:=hZ'.2.1
      simp only[iw,gN (show ml≠tp by omega)]at this ⊢;exact this
     ·rw[iX hZ'.2.2,Int.mul_one,<- eU,Eo,AF hq,ie ht']
      simp[bn]
   ·rintro ρ z' ⟨o8,o9,zK,rfl,hZ',hkz'⟩
    refine⟨_,_,rfl,_,_,_,_,_,rfl,?_,hkz.trans hkz'⟩
    rw[show(List.map (fun p:DK×W=>W.tup [p.1.w,p.2]) (ph ns),(none:Option (Nat×List W))).fst.length=ns.length by unfold ph;rw[aq,EE],cJ]at hZ'
    rw[Ks,<- bn];exact hZ'
  ·rintro ρ z ⟨o6,o7,o8,o9,zK,rfl,hZ,hkz⟩
   refine⟨_,_,rfl,_,_,_,_,_,_,rfl,?_,hk.trans hkz.of_app⟩
   have e:G (i+1)=G i++K a (nW (nz vr)).length:=by
    show((nz vl).take (i+1)).flatMap _=_
    rw[ie ha,cR]
    unfold nW
    simp[G,K]
   rw[e];exact hZ
 ·rintro ρ s ⟨o5,o6,o7,o8,o9,zK,rfl,hS,hk⟩
  apply bN
  ·exact iP rfl
  ·refine⟨_,_,rfl,rfl,hS.1,?_⟩
   rw[hS.2.2,<- LI ll lr]
   unfold nW Q8
   rw[aq]
   simp only[G,cJ]
def Q9(n:Nat)(x:Option Nat×Option Nat):Prop:=(∀k,x.1=some k->k<n)/\∀k,x.2=some k->k<n
theorem Gr.lk{ps:List Pl}{sz:List Nat}{lk:List (Option Nat×Option Nat)}(h:Gr ps S sz lk){x:Option Nat×Option Nat}(hx:lk[i]?=some x):Q9 i x:=by
 obtain⟨_,l2,_⟩:=h.ok
 have hi:i<ps.length:=by have:=(ah.mp hx).1;omega
 obtain⟨S1,S2,p,k,x',g1,q1,q2,q3,hs,g2⟩:=h.step i hi
 rw[hx]at q3;cases q3
 obtain⟨_,_,ha⟩:=g1.ok
 rw[show(ps.take i).length=i by rw[aV];omega]at ha
 obtain⟨b,m⟩:=p
 cases hs with
 |z=>exact⟨fun k e=>by simp at e,fun k e=>by simp at e⟩
 |@l a S=>have:=ha.2.1;have:=ha.2.2.1;exact⟨fun k e=>by simp at e;omega,fun k e=>by simp at e⟩
 |@r a S=>have:=ha.2.1;have:=ha.2.2.1;exact⟨fun k e=>by simp at e,fun k e=>by simp at e;omega⟩
 |@b c a S=>have:=ha.2.1;have:=ha.2.2.1;exact⟨fun k e=>by simp at e;omega,fun k e=>by simp at e;omega⟩
theorem uX{f:FG}{ρ0:cv}:∀(ws gD:List W) (C:Nat->am) (s:List am),(∀x,iO (s++x) ck)->(∀i w,ws[i]?=some w->∀x,∃ρ',f w ρ0=some ρ'/\el ρ' (s++x)=.ok (.loc (s++x).length) (s++x++[C i])) ->
  mf f iL el ck ρ0 ws gD s=.ok (gD++(List.range ws.length).map fun i=>W.loc (s.length+i)) (s++(List.range ws.length).map C)
 |[],gD,C,s,hc,_=>by
  have:=hc [];rw[cf]at this
  unfold mf;rw[aw this];simp
 |w::ws,gD,C,s,hc,h=>by
  obtain⟨ρ',e1,e3⟩:=h 0 w rfl []
  rw[cf]at e3
  have hc0:=hc []
  rw[cf]at hc0
  unfold mf
  rw[aw hc0,e1]
  simp only[show iL ρ' s=.ok true s from rfl,e3]
  rw[uX ws _ (fun i=>C (i+1)) (s++[C 0]) (fun x=>by rw[bn];exact hc _) fun i v hv x=>by
   have:=h (i+1) v (by simpa using hv) ([C 0]++x)
   rw[<- bn]at this
   exact this]
  rw[a9,fS,bi]
  simp[fm,jb,Nat.add_comm 1]
theorem wc{s1:List am}{f:FG}{cap:List (Option Nat)}(C:Nat->am)(h:fi ρ st=.ok (ws,ck) s1)(hl:ws.length<=100000)(hc:∀x,iO (s1++x) ck)
  (hs:∀i w,ws[i]?=some w->∀x,∃ρ',f w (kC cap ρ)=some ρ'/\el ρ' (s1++x)=.ok (.loc (s1++x).length) (s1++x++[C i])) :
  eL cap fi f iL el ρ st=.ok (.loc (s1.length+ws.length)) (s1++(List.range ws.length).map C++[.lst ((List.range ws.length).map fun i=>W.loc (s1.length+i))]):=by
 unfold eL
 rw[h]
 simp only[R.bind_ok]
 rw[aw (show ws.length<=1000000 by omega),uX ws [] C s1 hc hs]
 simp only[R.bind_ok,fX,jp]
 rw[aw (by rw[aq,cQ];show ws.length<=1000000;omega)]
 simp
theorem LJ{fs:FA}(h:fs ρ st=.ok [.tup ws] st1):lE fs ρ st=.ok (ic ws,none) st1:=by unfold lE;rw[h];rfl
theorem LK{fs:FA}{i j:Int}(h:fs ρ st=.ok [.int i,.int j,.int (-1)] st1)(hq:-(2^60)<=i/\i<2^60/\-(2^60)<=j/\j<2^60):vz fs ρ st=.ok (uE i (i-j).toNat,none) st1:=by
 unfold vz;rw[h];simp only[R.bind_ok];rw[aw ⟨trivial,hq⟩]
section
variable{ps:List Pl}{sz:List Nat}{lk:List (Option Nat×Option Nat)}
theorem AN(ps:List Pl)(hn:ps.length<=1000)(hρ:ρ[0]?=some (some (jz ps)))(st:List am):∃A:List W,A.length=ps.length/\eL [none] (dz (al 0)) (fz 0) iL (eC .non) ρ st=.ok (.loc st.length) (st++[.lst A]):=
 ⟨_,by simp,rj (cap:=[none]) (f:=fz 0) (el:=eC .non) (ρ:=ρ) (st:=st) (fun _=>.non) (lM (fe:=al 0) (ws:=ps.map Pl.w) (st1:=st) (iP hρ)) (by rw[aq];show _<=1000000;omega) trivial fun w _=>⟨_,rfl,gg⟩⟩
theorem LM(h:Gr ps S sz lk)(hn:ps.length<=900)(st:List am):∃w x,xL [jz ps] st=.ok w (st++x):=by
 obtain⟨l1,l2,_⟩:=h.ok
 suffices hh:kg (yt fun w br=>w=.tup [.loc st.length,.loc (st.length+1)]/\st <+: br) (D' ([jz ps].map some++List.replicate (5-1) none) st) by
  obtain⟨w,s',e,rfl,x,rfl⟩:=hh
  refine⟨.tup [.loc st.length,.loc (st.length+1)],x,?_⟩
  have:=no (N:=5) (body:=D') (ws:=[jz ps]) e
  rw[pW (by simp[undWs,W.und])]at this
  exact this
 obtain⟨A,hA,eA⟩:=AN ps (by omega) (ρ:=[some (jz ps),none,none,none,none]) rfl st
 apply aG
 ·exact xX eA rfl
 obtain⟨B,hB,eB⟩:=AN ps (by omega) (ρ:=[some (jz ps),some (.loc st.length),none,none,none]) rfl (st++[.lst A])
 apply aG
 ·exact xX eB rfl
 rw[show(st++[am.lst A]).length=st.length+1 by simp]
 have hlk:=tm h (by omega) (st++[am.lst A]++[.lst B])
 refine dm (fun i ρ s=>∃(o3 o4:Option W) (A B:List W),ρ=[some (jz ps),some (.loc st.length),some (.loc (st.length+1)),o3,o4]/\st <+: s/\A.length=ps.length/\B.length=ps.length/\s[st.length]?=some (.lst A)/\s[st.length+1]?=some (.lst B)) (k:=(ic (lk.map mm),none))
  (st1:=st++[am.lst A]++[.lst B]) (LJ (aD (cL kn hlk rfl) bB)) ⟨none,none,A,B,rfl,ja (ja (ae _)),hA,hB,bI bO,by rw[show st.length+1=(st++[am.lst A]).length by simp];exact bO⟩ (fun _ _ _ _=>trivial) ?_ ?_
 ·rintro i w ρ s hw ⟨o3,o4,A,B,rfl,hp,hA,hB,cA,cB⟩
  obtain⟨y,hy,rfl⟩:=kM hw
  rw[af]at hy
  obtain⟨x,hx,rfl⟩:=aJ.mp hy
  obtain⟨k1,k2⟩:=h.lk hx
  have hi:i<ps.length:=by have:=(ah.mp hx).1;omega
  refine⟨_,rfl,?_⟩
  obtain⟨a,b⟩:=x
  have last:∀(s:List am) (A:List W),st <+: s->A.length=ps.length->s[st.length]?=some (.lst A)->s[st.length+1]?=some (.lst B)->kg (KA fun ρ s=>∃(o3 o4:Option W) (A B:List W),ρ=[some (jz ps),some (.loc st.length),some (.loc (st.length+1)),o3,o4]/\st <+: s/\A.length=ps.length/\B.length=ps.length/\s[st.length]?=some (.lst A)/\s[st.length+1]?=some (.lst B))
    (nA (jJ (oE (e2 cZ (al 4) (eI 1)))) (vo (al 2) (e2 cZ (al 4) (eI 1)) (al 3) nE) fW [some (jz ps),some (.loc st.length),some (.loc (st.length+1)),some (.int (i:Nat)),some (mm (a,b))] s):=by
   intro s A hp hA cA cB
   cases b with
   |none=>
    apply nH
    ·exact dZ (sF kx rfl)
    ·exact⟨_,_,rfl,_,_,A,B,rfl,hp,hA,hB,cA,cB⟩
   |some q=>
    have:=k2 q rfl
    apply uJ
    ·exact dZ (sF kx rfl)
    apply cP
    ·exact uH kv kv kx (vV (q:=q) cB (by omega))
    ·exact⟨_,_,rfl,_,_,A,B.set q (.int i),rfl,km hp (by omega),hA,by rw[jl];exact hB,by rw[gN (by omega)];exact cA,iX cB⟩
  cases a with
  |none=>
   apply dg
   ·exact dZ (sF kx rfl)
   apply d3
   exact last s A hp hA cA cB
  |some q=>
   have:=k1 q rfl
   apply aG
   ·exact lK (dZ (sF kx rfl)) (uH kv kv kx (vV (q:=q) cA (by omega)))
   exact last _ (A.set q (.int i)) (km hp (av _)) (by rw[jl];exact hA) (iX cA) (by rw[gN (by omega)];exact cB)
 ·rintro ρ s ⟨o3,o4,A,B,rfl,hp,hA,hB,cA,cB⟩
  apply bN
  ·exact sB (aD kv kn) (aX rfl)
  ·exact⟨_,_,rfl,rfl,hp⟩
theorem EN(h:Gr ps S sz lk)(hn:ps.length<=900)(st:List am):∃w x,xQ [jz ps] st=.ok w (st++x):=by
 obtain⟨l1,l2,_⟩:=h.ok
 suffices hh:kg (yt fun w br=>∃j x,w=.loc (st.length+j)/\br=st++x/\True) (IG ([jz ps].map some++List.replicate (4-1) none) st) by
  obtain⟨j,x,_,e⟩:=lO hh
  exact⟨_,_,e⟩
 have e0:=wc (cap:=[none]) (ρ:=[some (jz ps),none,none,none]) (f:=fz 0) (el:=mD aK) (fun _=>am.lst []) (lM (fe:=al 0) (ws:=ps.map Pl.w) (st1:=st) kv) (by rw[aq];omega) (fun _=>trivial) fun i w _ x=>⟨_,rfl,oO bB (aX rfl)⟩
 rw[aq]at e0
 apply aG
 ·exact xX e0 rfl
 generalize hs0:st++(List.range ps.length).map (fun _=>am.lst [])++[.lst ((List.range ps.length).map fun i=>W.loc (st.length+i))]=s0
 have p0:st <+: s0:=by rw[<- hs0];exact ja (ja (ae _))
 have c0:s0[st.length+ps.length]?=some (.lst ((List.range ps.length).map fun i=>W.loc (st.length+i))):=by
  rw[<- hs0,show st.length+ps.length=(st++(List.range ps.length).map fun _=>am.lst []).length by simp];exact bO
 have c1:∀j,j<ps.length->s0[st.length+j]?=some (.lst []):=fun j hj=>by
  rw[<- hs0]
  refine bI ?_
  rw[lJ,af,aE hj];rfl
 apply aG
 ·exact cM (cL kn (Ev h hn s0) rfl)
 refine dm (fun i ρ s=>∃o:Option W,ρ=[some (jz ps),some (.loc (st.length+ps.length)),some (.tup (d6 sz)),o]/\st <+: s/\s[st.length+ps.length]?=some (.lst ((List.range ps.length).map fun i=>W.loc (st.length+i)))/\∀j,j<ps.length->∃ws,s[st.length+j]?=some (.lst ws)/\ws.length<=i) (k:=(uE ((ps.length:Int)-1) (((ps.length:Int)-1)-(-1)).toNat,none)) (st1:=s0)
  (LK (i:=(ps.length:Int)-1) (j:=-1) (aD (dS (dY kn (tq ps s0)) gg (mE trivial)) (aD (Ds gg) (aD (Ds gg) bB))) (by omega)) ⟨none,rfl,p0,c0,fun j hj=>⟨[],c1 j hj,av _⟩⟩ (fun _ _ _ _=>trivial) ?_ ?_
 ·rintro i w ρ s hw ⟨o,rfl,hp,hc,hj⟩
  unfold uE at hw
  rw[af]at hw
  obtain⟨i',hi',rfl⟩:=aJ.mp hw
  have hi:i<ps.length:=by have:=(ah.mp hi').1;rw[cQ]at this;omega
  rw[aE (by omega)]at hi'
  cases hi'
  obtain⟨t,ht⟩:∃t:Nat,t=ps.length-1-i:=⟨_,rfl⟩
  rw[show((ps.length:Int)-1-(i:Int))=(t:Nat) by omega]
  refine⟨_,rfl,?_⟩
  obtain⟨p,L,R,q1,q2,q3,_⟩:=h.cut (show t<ps.length by omega)
  obtain⟨ws,hws,hl⟩:=hj (t-(L+R)) (by omega)
  have ix:cZ (.loc (st.length+ps.length)) (.int (((t:Int)+1)-((1+L+R:Nat):Int))) s=.ok (.loc (st.length+(t-(L+R)))) s:=by
   rw[show((t:Int)+1)-((1+L+R:Nat):Int)=((t-(L+R):Nat):Int) by omega]
   exact kP (ba hc) (f9 (by rw[af,aE (by omega)];rfl))
  have iz:cZ (.tup (d6 sz)) (.int (t:Nat)) s=.ok (.int (1+L+R:Nat)) s:=qo (f9 (by unfold d6;rw[af,q2];rfl))
  apply cP
  ·exact kE (qL (dS kv (dS (dS kv gg hU) (dS kv kv iz) (mE trivial)) ix) (gW hws) kn (oh hws (by omega)))
  ·refine⟨_,_,rfl,_,rfl,km hp (by omega),by rw[gN (by omega)];exact hc,fun j hj'=>?_⟩
   by_cases e:j=t-(L+R)
   ·subst e
    exact⟨_,iX hws,by simp;omega⟩
   ·obtain⟨LZ,h1,h2⟩:=hj j hj'
    exact⟨LZ,by rw[gN (by omega)];exact h1,by omega⟩
 ·rintro ρ s ⟨o,rfl,hp,hc,hj⟩
  obtain⟨x,rfl⟩:=hp
  apply bN
  ·exact iP rfl
  ·exact⟨_,_,rfl,_,x,rfl,rfl,trivial⟩
end
section
variable{c f m:Str}{fo:FE}{fs:FA}{z z1 z2 z3:List am}{k L:Nat}{fl fl':List (Str×W)}{y w:W}{P:RS->Prop}{dw:FS}
theorem EO(h1:fe ρ z=.ok y z1)(h2:fo ρ z1=.ok (.loc n) z2)(h3:z2[n]?=some (.obj c fl))(hl:fl.length<900):nB c f fo fe ρ z=.nx ρ (z2.set n (.obj c (qK f y fl))):=by
 unfold nB
 rw[h1];simp only[R.stmt_ok];rw[h2];simp only[R.stmt_ok,mh,h3]
 rw[aw ⟨trivial,hl⟩]
theorem kG(h:fa ρ z=.ok (.loc n) z1)(h3:z1[n]?=some (.obj c fl))(hk:fl.lookup f=some w):oK c f fa ρ z=.ok w z1:=by
 unfold oK
 rw[h];simp only[R.bind_ok,mh,h3,gz,hk,dy]
theorem wd(h:fo ρ z=.ok (.loc n) z1)(h3:z1[n]?=some (.obj c fl))(hm:fl.lookup m=none)(ha:fs ρ z1=.ok ws z2)(hn:ws.length+1=k)(hF:F (.loc n::ws) z2=.ok w z3):qm c m k F fo fs ρ z=.ok w z3:=by
 unfold qm
 rw[h];simp only[R.bind_ok,mh,h3]
 rw[aw ⟨trivial,hm⟩,ha];simp only[R.bind_ok]
 rw[aw hn,hF]
theorem LN(ha:fs ρ z=.ok ws z1)(hn:ws.length+1=k)(hF:F (.loc z1.length::ws) (z1++[.obj c []])=.ok .non z2):Ap c k F fs ρ z=.ok (.loc z1.length) z2:=by
 unfold Ap
 rw[ha];simp only[R.bind_ok]
 rw[aw hn,hF]
theorem iB(hρ:ρ[0]?=some (some (.loc L)))(h1:fe ρ z=.ok y z1)(h3:z1[L]?=some (.obj c fl))(hl:fl.length<900)(hf:qK f y fl=fl')(next:∀z',z'[L]?=some (.obj c fl')->Kp L L z1 z'->z'.length=z1.length->kg P (dw ρ z')):kg P (be (nB c f (al 0) fe) dw ρ z):=by
 refine aG (EO h1 (iP hρ) h3 hl) (next _ (by rw[iX h3,hf]) Kp.refl.setA (by simp))
end
def BW(st z:List am):Prop:=∀(i:Nat) (c:am),st[i]?=some c->z[i]?=some c
theorem BW.pre{z:List am}(h:BW st z):∃x,z=st++x:=by
 have:st <+: z:=List.prefix_iff_getElem?.mpr fun i hi=>h i _ (ag hi)
 exact this.imp fun x e=>e.symm
theorem BW.kp{a b:Nat}{z z':List am}(h:BW st z)(k:Kp a b z z')(ha:st.length<=a)(hb:st.length<=b):BW st z':=fun i c e=>by
 have:=hX e
 exact k i c (h i c e) (by omega) (by omega)
def Bd:Nat->Nat
 |0=>1
 |i+1=>4*(Bd i*Bd i)
theorem tz:∀i,1<=Bd i
 |0=>av _
 |i+1=>by have:=fK (tz i) (tz i);show 1<=4*_;omega
theorem rF:∀(i j:Nat),Bd i<=Bd (i+j)
 |i,0=>av _
 |i,j+1=>by
  have h1:=rF i j
  have h2:=fK (tz (i+j)) (av (Bd (i+j)))
  show _<=4*(Bd (i+j)*Bd (i+j))
  omega
def yu(n:Nat)(v:List Nat):Nat:=mH n v fun _=>1
section
theorem uY(v:List Nat)(c:Nat):mH n v (fun _=>c)=yu n v*c:=by
 unfold yu mH
 rw[<- nr]
 exact aZ fun q _=>by rw[Nat.mul_one]
theorem EQ(hn:1<=n):yu n (ez n)=1:=EH hn _
theorem LO(L:List α):sm L (fun _=>1)=L.length:=by
 induction L with
 |nil=>rfl
 |cons x L ih=>rw[bV,ih,a9];omega
theorem Hd(hT:∀t a b,T t a b<n)(ns va vb:List Nat):yu n (kY n T ns va vb)=yu n va*(yu n vb*ns.length):=by
 rw[show yu n (kY n T ns va vb)=_ from rE hT ns va vb _]
 rw[p7 (g:=fun _=>yu n vb*ns.length) fun a=>by rw[p7 (g:=fun _=>ns.length) fun b=>LO ns,uY],uY]
theorem we(hn:1<=n){r:List (List Nat)}(h:∀v∈r,yu n v<=Bd j)(o:Option Nat):yu n (v9 n r o)<=Bd j:=by
 cases o with
 |none=>show yu n (ez n)<=_;rw[EQ hn];exact tz j
 |some k=>
  show yu n (r.getD k (ez n))<=_
  rcases kT r k (ez n)with e|e
  ·rw[e,EQ hn];exact tz j
  ·exact h _ e
theorem ER(hT:∀t a b,T t a b<n)(hn:1<=n):∀(ns:List (List Nat)) (lk:List (Option Nat×Option Nat)) (r:List (List Nat)) (j:Nat),(∀x∈ns,x.length<=4)->(∀v∈r,yu n v<=Bd j)->∀v∈uV n T ns lk r,yu n v<=Bd (j+ns.length)
 |x::ns,y::lk,r,j,h4,h,v,hv=>by
  have:=ER hT hn ns lk (r++[kY n T x (v9 n r y.1) (v9 n r y.2)]) (j+1) (fun x hx=>h4 x (aR _ hx)) (fun v hv=>by
   rcases cS.mp hv with z|z
   ·exact aQ (h v z) (rF j 1)
   ·rw[fT.mp z,Hd hT]
    have a1:=we hn h y.1
    have a2:=fK (we hn h y.2) (h4 x bW)
    have a3:=fK a1 a2
    show _<=4*(Bd j*Bd j)
    rw[show Bd j*(Bd j*4)=4*(Bd j*Bd j) by rw[<- fB,l_]]at a3
    exact a3) v hv
  rw[a9,show j+(ns.length+1)=j+1+ns.length by omega]
  exact this
 |[],[],r,j,_,h,v,hv=>h v hv
 |[],_::_,r,j,_,h,v,hv=>h v hv
 |x::ns,[],r,j,_,h,v,hv=>aQ (h v hv) (rF _ _)
theorem OL{L:List α}{f:α->Nat}{x:α}(h:x∈L):f x<=sm L f:=by
 induction L with
 |nil=>cases h
 |cons y L ih=>
  rw[bV]
  rcases a_.mp h with rfl|h
  ·omega
  ·have:=ih h;omega
theorem LP{v:List Nat}{a:Nat}(hl:v.length=n):v.getD a 0<=yu n v:=by
 by_cases ha:a<n
 ·have:=OL (f:=fun q=>v.getD q 0*1) (bh.mpr ha)
  rw[Nat.mul_one]at this
  exact this
 ·rw[AG 0 (by omega)];exact cG _
end
theorem qN{nm:List Nat}(h:nm.length<=4)(st:List am):xN [.str nm] st=.ok .non st:=by
 refine xA ?_
 apply nH
 ·exact dZ (dS (dY kn (vJ (by show _<=1000000;omega))) gg (kO (by simp;omega)))
 ·exact⟨_,_,rfl,[],by simp⟩
theorem zC{M:Mc}{x:W}(hM:AA M n)(hn:n<=1000)(hl:l.length=n)(hx:qv st x l):xK [M.w,x] st=.ok (.int ((gf n M.gd l).sum:Nat)) st:=by
 rcases hx with rfl|⟨p,rfl,hp⟩
 ·exact qu hM hn hl st
 refine fO (w:=.int ((gf n M.gd l).sum:Nat)) ?_ rfl
 have hcm:=sI (cap:=[none,none]) (f:=yX 2 (cU (fz 0) (cU (fz 1) j8))) (t:=jJ (al 1)) (el:=al 0) (ρ:=[some M.w,some (.loc p)]) (st:=st) (st1:=st) (ws:=iM (nW l) (M.gd.map W.bl)) (ck:=some (p,nW l)) (fi:=pV (au (al 1) (au (e2 cZ (al 0) (eI 1)) aK))) zT zY
  (by
   unfold pV
   rw[aD kv (aD kx bB)]
   simp only[R.bind_ok,ba hp]) (by rw[gQ];simp[nW,hl];have:=hM.gd;show _<=1000000;omega) (ba hp) fun w hw=>by
   obtain⟨k,hk⟩:=fq hw
   obtain⟨x,y,hx,hy,rfl⟩:=iu hk
   rw[af]at hy
   obtain⟨b,_,rfl⟩:=aJ.mp hy
   exact⟨_,rfl,dZ kv,fun _=>iP rfl⟩
 rw[zv,Er hl hM.gd,Es]at hcm
 apply bN
 ·exact dY (aD hcm bB) (En (ba bO))
 ·exact⟨_,_,rfl,by rw[tf],_,rfl⟩
theorem tD{M:Mc}{n L pc:Nat}{fl:List (Str×W)}{z:List am}{qs:List Nat}{V:List (List Nat)}(hM:AA M n)(hn:n<=1000)(ho:z[L]?=some (.obj "Course" fl))(hm:fl.lookup ("machine":Str)=some M.w)(hc:fl.lookup ("counts":Str)=some (.loc pc))(wl:z[pc]?=some (.lst (qs.map W.loc)))
  (hq:∀j q:Nat,qs[j]?=some q->z[q]?=some (.lst (nW (V.getD j (ez n))))) (o:Option Nat) (hk:∀k,o=some k->k<qs.length):∃x,bQ [.loc L,oW o] z=.ok x z/\qv z x (v9 n V o):=by
 cases o with
 |none=>
  refine⟨dD (ez n),?_,.inl rfl⟩
  refine fO (w:=dD (ez n)) ?_ (by simp only[undWs,o_,cz])
  apply bN
  ·exact sD (dZ (Du kv rfl)) (cL (aD (kG kv ho hm) bB) (mj (fun _ _ _=>0) 1 hM hn z) rfl)
  ·exact⟨_,_,rfl,by rw[Ha],[],by simp⟩
 |some k=>
  obtain⟨q,e⟩:∃q,qs[k]?=some q:=⟨_,ag (hk k rfl)⟩
  refine⟨.loc q,?_,.inr ⟨q,rfl,hq k q e⟩⟩
  refine kR ?_
  apply bN
  ·exact sE (dZ (Du kv rfl)) (dS (kG kv ho hc) kv (kP (ba wl) (f9 (by rw[af,e];rfl))))
  ·exact⟨_,_,rfl,rfl,rfl⟩
section
variable{ps:List Pl}{sz:List Nat}{lk:List (Option Nat×Option Nat)}{M:Mc}{nm:List Nat}
abbrev wf(M:Mc)(nm:List Nat)(ps:List Pl):List (List Nat):=ps.map fun p=>f' M.nm nm p.m
structure RD(M:Mc)(n:Nat)(ps:List Pl)(V:List (List Nat))(st:List am)(L:Nat)(z:List am):Prop where
 old:BW st z
 ex:∃(fl:List (Str×W)) (pc:Nat) (qs:List Nat),z[L]?=some (.obj "Course" fl)/\fl.lookup ("machine":Str)=some M.w/\fl.lookup ("tree":Str)=some (jz ps)/\fl.lookup ("counts":Str)=some (.loc pc)/\fl.lookup ("counts_below":Str)=none/\fl.lookup ("let_all":Str)=none /\
  z[pc]?=some (.lst (qs.map W.loc))/\qs.length=ps.length/\∀j q:Nat,qs[j]?=some q->z[q]?=some (.lst (nW (V.getD j (ez n))))
theorem He(h:Gr ps S sz lk)(hl:ps.length<=5)(hM:AA M n)(ue:1<=n)(hn:n<=1000)(OY:nm.length<=2)(hm:∀p∈ps,p.m.length<=1000)(Ms:∀p∈ps,(f' M.nm nm p.m).Nodup/\∀t∈f' M.nm nm p.m,t<M.tb.length)(st:List am) :
  ∃z,eX [.loc st.length,M.w,jz ps,.str nm] (st++[.obj "Course" []])=.ok .non z/\RD M n ps (uV n (Tm M.tb) (wf M nm ps) lk []) st st.length z:=by
 obtain⟨l1,l2,_⟩:=h.ok
 generalize hL:st.length=L
 have hT:∀t a b,Tm M.tb t a b<n:=Ej hM ue
 have len4:∀m,(f' M.nm nm m).length<=4:=fun m=>by
  unfold f'
  rw[aq,cQ]
  exact aQ (dA (by decide) OY) (by decide)
 suffices hh:kg (KA fun _ z=>RD M n ps (uV n (Tm M.tb) (wf M nm ps) lk []) st L z/\∃(fl:List (Str×W)) (q:Nat),z[L]?=some (.obj "Course" (fl++[(("marks":Str),W.loc q)]))/\L+1<=q) (gi ([.loc L,M.w,jz ps,.str nm].map some++List.replicate (6-4) none) (st++[.obj "Course" []])) by
  obtain⟨ρ,z,e,hC,fl,q,hf,hq⟩:=hh
  refine⟨z,?_,hC⟩
  show dB 6 gi _ _=_
  unfold dB
  rw[show gi (List.map some [W.loc L,M.w,jz ps,W.str nm]++List.replicate (6-[W.loc L,M.w,jz ps,W.str nm].length) none) (st++[.obj "Course" []])=_ from e]
  show R.ok W.non (j_ (st++[.obj "Course" []]) z [])=_
  unfold j_
  rw[ay]
  rintro⟨_,_,k⟩
  have z0:(st++[am.obj "Course" []])[L]?=some (.obj "Course" []):=by rw[<- hL];exact bO
  rcases k L (by simp;omega)with k|⟨c,k,hu⟩
  ·rw[hf,z0]at k
   simp at k
  ·rw[hf]at k
   cases k
   have hu:undWs (st++[am.obj "Course" []]).length ((fl++[(("marks":Str),W.loc q)]).map fun p=>p.2)=true:=hu
   rw[cn]at hu
   have key:∀(ws:List W),undWs (st++[am.obj "Course" []]).length (ws++[.loc q])=true->False:=by
    intro ws
    induction ws with
    |nil=>intro e;simp[undWs,W.und]at e;omega
    |cons w ws ih=>intro e;simp only[List.cons_append,undWs,cr]at e;exact ih e.2
   exact key _ hu
 have o0:(st++[am.obj "Course" []])[L]?=some (.obj "Course" []):=by rw[<- hL];exact bO
 have O0:BW st (st++[am.obj "Course" []]):=fun i c e=>bI e
 apply aG
 ·exact kE (cL kn (qN (by omega) _) rfl)
 refine iB (L:=L) (fl':=[("machine",M.w)]) rfl kv o0 (by decide) rfl fun z1 o1 k1 n1=>?_
 refine iB (L:=L) (fl':=[("machine",M.w),("tree",jz ps)]) rfl kv o1 (by simp) rfl fun z2 o2 k2 n2=>?_
 refine iB (L:=L) (fl':=[("machine",M.w),("tree",jz ps),("names",.str nm)]) rfl kv o2 (by simp) rfl fun z3 o3 k3 n3=>?_
 refine iB (L:=L) (fl':=[("machine",M.w),("tree",jz ps),("names",.str nm),("links",.tup (lk.map mm))]) rfl (cL kn (tm h (by omega) z3) rfl) o3 (by simp) rfl fun z4 o4 k4 n4=>?_
 obtain⟨uw,ux,eu⟩:=LM h (by omega) z4
 refine iB (L:=L) (fl':=[("machine",M.w),("tree",jz ps),("names",.str nm),("links",.tup (lk.map mm)),("ups",uw)]) rfl (cL kn eu rfl) (bI o4) (by simp) rfl fun z5 o5 k5 n5=>?_
 obtain⟨bw,bx,eb⟩:=EN h (by omega) z5
 refine iB (L:=L) (fl':=[("machine",M.w),("tree",jz ps),("names",.str nm),("links",.tup (lk.map mm)),("ups",uw),("begun",bw)]) rfl (cL kn eb rfl) (bI o5) (by simp) rfl fun z6 o6 k6 n6=>?_
 have hLs:st.length<=L:=by omega
 have O6:BW st z6:=(((((O0.kp k1 hLs hLs).kp k2 hLs hLs).kp k3 hLs hLs).kp k4 hLs hLs).kp k5.of_app hLs hLs).kp k6.of_app hLs hLs
 have L6:L<z6.length:=hX o6
 have e7:=wc (cap:=[none,some 1,some 3]) (ρ:=[some (.loc L),some M.w,some (jz ps),some (.str nm),none,none]) (f:=fz 0) (el:=c6 3 uL (au (al 1) (au (al 2) (au (e2 cZ (al 0) (eI 1)) aK)))) (fun i=>am.lst (nW ((wf M nm ps).getD i [])))
  (lM (fe:=al 2) (ws:=ps.map Pl.w) (st1:=z6) kv) (by rw[aq];omega) (fun _=>trivial) fun i w hw x=>by
   rw[af]at hw
   obtain⟨p,hp,rfl⟩:=aJ.mp hw
   refine⟨_,rfl,?_⟩
   have:=zB M nm p.m (by omega) (by have:=hm p (aS hp);omega) (z6++x)
   rw[show(wf M nm ps).getD i []=f' M.nm nm p.m from kU _ hp]
   exact cL (aD kv (aD kv (aD (dS kv gg (Q5 p _)) bB))) this rfl
 rw[aq]at e7
 refine iB (L:=L) (fl':=[("machine",M.w),("tree",jz ps),("names",.str nm),("links",.tup (lk.map mm)),("ups",uw),("begun",bw),("numbers",.loc (z6.length+ps.length))]) rfl e7 (by rw[bn];exact bI o6) (by simp) rfl fun z7 o7 k7 n7=>?_
 have c7:∀i,i<ps.length->z7[z6.length+i]?=some (.lst (nW ((wf M nm ps).getD i []))):=fun i hi=>by
  refine k7 _ _ (bI ?_) (by omega) (by omega)
  rw[lJ,af,aE hi];rfl
 have t7:z7[z6.length+ps.length]?=some (.lst ((List.range ps.length).map fun i=>W.loc (z6.length+i))):=by
  refine k7 _ _ ?_ (by omega) (by omega)
  rw[show z6.length+ps.length=(z6++(List.range ps.length).map fun i=>am.lst (nW ((wf M nm ps).getD i []))).length by simp];exact bO
 have O7:BW st z7:=O6.kp (k7.of_app.of_app) hLs hLs
 have L7:L<z7.length:=hX o7
 have e8:=wc (cap:=[none]) (ρ:=[some (.loc L),some M.w,some (jz ps),some (.str nm),none,none]) (f:=fz 0) (el:=c6 1 uM (au (al 0) aK)) (fun i=>am.dct (ph ((wf M nm ps).getD i [])))
  (ke (kG (f:="numbers") (fa:=al 0) kv o7 rfl) (ba t7)) (by rw[aq,cQ];omega) (fun x=>ba (bI t7)) fun i w hw x=>by
   rw[af]at hw
   obtain⟨i',hi',rfl⟩:=aJ.mp hw
   have hi:i<ps.length:=by have:=(ah.mp hi').1;simpa using this
   rw[aE hi]at hi'
   cases hi'
   refine⟨_,rfl,?_⟩
   have hp:ps[i]?=some ps[i]:=ag hi
   have eg:(wf M nm ps).getD i []=f' M.nm nm ps[i].m:=kU _ hp
   exact cL kn (EL (by rw[eg];exact(Ms _ (aS hp)).1) (by rw[eg];have:=len4 ps[i].m;omega) (bI (c7 i hi))) rfl
 rw[aq,cQ]at e8
 refine iB (L:=L) (fl':=[("machine",M.w),("tree",jz ps),("names",.str nm),("links",.tup (lk.map mm)),("ups",uw),("begun",bw),("numbers",.loc (z6.length+ps.length)),("times",.loc (z7.length+ps.length))]) rfl e8 (by rw[bn];exact bI o7) (by simp) rfl fun z8 o8 k8 n8=>?_
 have c8:∀i,i<ps.length->z8[z7.length+i]?=some (.dct (ph ((wf M nm ps).getD i []))):=fun i hi=>by
  refine k8 _ _ (bI ?_) (by omega) (by omega)
  rw[lJ,af,aE hi];rfl
 have t8:z8[z7.length+ps.length]?=some (.lst ((List.range ps.length).map fun i=>W.loc (z7.length+i))):=by
  refine k8 _ _ ?_ (by omega) (by omega)
  rw[show z7.length+ps.length=(z7++(List.range ps.length).map fun i=>am.dct (ph ((wf M nm ps).getD i []))).length by simp];exact bO
 have O8:BW st z8:=O7.kp (k8.of_app.of_app) hLs hLs
 have L8:z7.length+ps.length<z8.length:=hX t8
 generalize hfl:([("machine",M.w),("tree",jz ps),("names",.str nm),("links",.tup (lk.map mm)),("ups",uw),("begun",bw),("numbers",.loc (z6.length+ps.length)),("times",.loc (z7.length+ps.length)),("counts",.loc z8.length)]:List (Str×W))=fl
 refine iB (L:=L) (fl':=fl) rfl (oO bB (aX rfl)) (bI o8) (by simp) (by rw[<- hfl];rfl) fun z9 o9 k9 n9=>?_
 have pc9:z9[z8.length]?=some (.lst []):=k9 _ _ bO (by omega) (by omega)
 have O9:BW st z9:=O8.kp k9.of_app hLs hLs
 have f1:fl.lookup ("machine":Str)=some M.w:=by rw[<- hfl];rfl
 have f2:fl.lookup ("tree":Str)=some (jz ps):=by rw[<- hfl];rfl
 have f3:fl.lookup ("counts":Str)=some (.loc z8.length):=by rw[<- hfl];rfl
 have f4:fl.lookup ("counts_below":Str)=none:=by rw[<- hfl];rfl
 have f5:fl.lookup ("let_all":Str)=none:=by rw[<- hfl];rfl
 have f6:fl.lookup ("times":Str)=some (.loc (z7.length+ps.length)):=by rw[<- hfl];rfl
 have f7:fl.lookup ("links":Str)=some (.tup (lk.map mm)):=by rw[<- hfl];rfl
 have t9:z9[z7.length+ps.length]?=some (.lst ((List.range ps.length).map fun i=>W.loc (z7.length+i))):=k9 _ _ (bI t8) (by omega) (by omega)
 have c9:∀i,i<ps.length->z9[z7.length+i]?=some (.dct (ph ((wf M nm ps).getD i []))):=fun i hi=>k9 _ _ (bI (c8 i hi)) (by omega) (by omega)
 generalize hN:wf M nm ps=N at *
 have lN:N.length=ps.length:=by rw[<- hN];simp
 let V:Nat->List (List Nat):=fun i=>uV n (Tm M.tb) (N.take i) (lk.take i) []
 have vlen:∀i,i<=ps.length->(V i).length=i:=fun i hi=>by
  show(uV n (Tm M.tb) (N.take i) (lk.take i) []).length=i
  rw[v_ n _ _ _ _ (by simp;omega)];simp;omega
 refine dm (fun i ρ z=>∃(o4 o5:Option W) (qs:List Nat),ρ=[some (.loc L),some M.w,some (jz ps),some (.str nm),o4,o5]/\BW st z/\z[L]?=some (.obj "Course" fl)/\z[z8.length]?=some (.lst (qs.map W.loc))/\qs.length=i/\i<=ps.length/\(∀j q:Nat,qs[j]?=some q->z8.length<q/\z[q]?=some (.lst (nW ((V i).getD j (ez n))))) /\
   z[z7.length+ps.length]?=some (.lst ((List.range ps.length).map fun i=>W.loc (z7.length+i)))/\∀j,i<=j->j<ps.length->z[z7.length+j]?=some (.dct (ph (N.getD j []))))
  (k:=(iM ((List.range ps.length).map fun i=>W.loc (z7.length+i)) (lk.map mm),some (z7.length+ps.length,(List.range ps.length).map fun i=>W.loc (z7.length+i)))) (st1:=z9)
  (by
   unfold pV
   rw[aD (kG kv o9 f6) (aD (kG kv o9 f7) bB)]
   simp only[R.bind_ok,ba t9]) ⟨none,none,[],rfl,O9,o9,pc9,rfl,cG _,fun j q e=>by simp at e,t9,fun j _ hj=>c9 j hj⟩ (fun i ρ z hI=>by
   obtain⟨_,_,_,_,_,_,_,_,_,_,t,_⟩:=hI
   exact ba t) ?_ ?_
 ·rintro i w ρ z hw ⟨o4,o5,qs,rfl,hO,ho,wl,hql,hile,hq,ht,hd⟩
  obtain⟨x,y,hx,hy,rfl⟩:=iu hw
  rw[af]at hx hy
  obtain⟨i',hi',rfl⟩:=aJ.mp hx
  have hi:i<ps.length:=by have:=(ah.mp hi').1;simpa using this
  rw[aE hi]at hi'
  cases hi'
  obtain⟨u,hu,rfl⟩:=aJ.mp hy
  obtain⟨u1,u2⟩:=h.lk hu
  refine⟨_,rfl,?_⟩
  have hq':∀j q:Nat,qs[j]?=some q->z[q]?=some (.lst (nW ((V i).getD j (ez n)))):=fun j q e=>(hq j q e).2
  obtain⟨xl,el,vl⟩:=tD (n:=n) (V:=V i) hM hn ho f1 f3 wl hq' u.1 (fun k e=>by rw[hql];exact u1 k e)
  obtain⟨xr,er,vr⟩:=tD (n:=n) (V:=V i) hM hn ho f1 f3 wl hq' u.2 (fun k e=>by rw[hql];exact u2 k e)
  have hVr:∀v∈V i,v.length=n:=wa n _ _ _ _ (by simp)
  have bl:∀o,(v9 n (V i) o).length=n:=fun o=>by
   cases o with
   |none=>exact v7
   |some k=>
    show((V i).getD k (ez n)).length=n
    rcases kT (V i) k (ez n)with e|e
    ·rw[e];exact v7
    ·exact hVr _ e
  have hVb:∀v∈V i,yu n v<=Bd 5:=fun v hv=>by
   have:=ER hT ue (N.take i) (lk.take i) [] 0 (fun x hx=>by
    have:=List.mem_of_mem_take hx
    rw[<- hN]at this
    obtain⟨p,_,rfl⟩:=bH.mp this
    exact len4 _) (by simp) v hv
   refine aQ this ?_
   rw[aV,dv,lN,mx hile]
   have:=rF i (5-i)
   rw[show i+(5-i)=5 by omega]at this
   exact this
  have hg:N[i]?=some (N.getD i []):=dH [] (by omega)
  have hNi:N.getD i []∈N:=aS hg
  have hNi2:(∀t∈N.getD i [],t<M.tb.length)/\(N.getD i []).length<=1000:=by
   rw[<- hN]at hNi ⊢
   obtain⟨p,hp,e⟩:=bH.mp hNi
   rw[<- e]
   exact⟨(Ms p hp).2,by have:=len4 p.m;omega⟩
  obtain⟨z',ec,kc,cc⟩:=wb (tp:=z7.length+i) hM hn hNi2.1 hNi2.2 (hd i (av _) hi) vl vr (bl _) (bl _) (fun a=>by
   have h1:=LP (a:=a) (bl u.1)
   have h2:=we ue hVb u.1
   have h3:Bd 5<2^64:=by decide
   omega)
  have lz:z8.length<z.length:=hX wl
  have hpc':z'[z8.length]?=some (.lst (qs.map W.loc)):=kc _ _ wl (by omega) (by omega)
  apply cP
  ·exact kE (qL (kG kv ho f3) (gW wl) (aD (cL (aD kv (aD kv (aD (wd kv ho f4 (aD kx bB) rfl el) (aD (wd kv ho f4 (aD kx bB) rfl er) bB)))) ec rfl) bB) (oh hpc' (by rw[aq];omega)))
  ·have Vs:V (i+1)=V i++[kY n (Tm M.tb) (N.getD i []) (v9 n (V i) u.1) (v9 n (V i) u.2)]:=by
    show uV n (Tm M.tb) (N.take (i+1)) (lk.take (i+1)) []=_
    rw[ie hg,ie hu]
    exact tw n _ _ _ _ _ _ (by simp;omega)
   refine⟨_,_,rfl,_,_,qs++[z.length],rfl,(hO.kp kc (by omega) (by omega)).kp (Kp.refl.setA (a:=z8.length) (b:=z8.length)) (by omega) (by omega),?_,by rw[iX hpc'];simp,by simp[hql],hi,fun j q e=>?_,?_,fun j h1 h2=>?_⟩
   ·rw[gN (by omega)];exact kc _ _ ho (by omega) (by omega)
   ·by_cases hj:j<qs.length
    ·rw[aF hj]at e
     obtain⟨q1,q2⟩:=hq j q e
     refine⟨q1,?_⟩
     have:=hX q2
     rw[gN (by omega),kc _ _ q2 (by omega) (by omega),Vs,aA,aA,aF (by rw[vlen i hile];omega)]
    ·rw[cb (by omega)]at e
     have hj0:j-qs.length=0:=by
      have:=(ah.mp e).1
      simp at this;omega
     rw[hj0]at e
     have e:z.length=q:=by simpa using e
     subst e
     refine⟨lz,?_⟩
     have hj':j=(V i).length:=by rw[vlen i hile];omega
     rw[gN (by omega),cc,Vs,hj',aA]
     simp
   ·rw[gN (by omega)];exact kc _ _ ht (by omega) (by omega)
   ·rw[gN (by omega)];exact kc _ _ (hd j (by omega) h2) (by omega) (by have:=hX (hd j (by omega) h2);omega)
 ·rintro ρ z ⟨o4,o5,qs,rfl,hO,ho,wl,hql,hile,hq,ht,hd⟩
  rw[show(iM ((List.range ps.length).map fun i=>W.loc (z7.length+i)) (lk.map mm),some (z7.length+ps.length,(List.range ps.length).map fun i=>W.loc (z7.length+i))).fst.length=ps.length by show(iM _ _).length=_;rw[gQ];simp;omega]at hql hq
  have VE:V ps.length=uV n (Tm M.tb) N lk []:=by
   show uV n (Tm M.tb) (N.take ps.length) (lk.take ps.length) []=_
   rw[bA (by omega),bA (by omega)]
  have lz:z8.length<z.length:=hX wl
  obtain⟨gl,hgl⟩:∃gl:List (Str×W),gl=fl++[(("weights":Str),W.loc z.length)]:=⟨_,rfl⟩
  refine iB (L:=L) (z1:=z++[.dct []]) (y:=.loc z.length) (fl':=gl) rfl rfl (bI ho) (by rw[<- hfl];simp) (by rw[hgl,<- hfl];rfl) fun za oa ka na=>?_
  obtain⟨hl',hhl⟩:∃hl':List (Str×W),hl'=gl++[(("rooms":Str),W.loc za.length)]:=⟨_,rfl⟩
  refine iB (L:=L) (fl':=hl') rfl (oO bB (aX rfl)) (bI oa) (by rw[hgl,<- hfl];simp) (by rw[hhl,hgl,<- hfl];rfl) fun zb ob kb nb=>?_
  have olb:(zb++[am.lst []])[L]?=some (.obj "Course" hl'):=bI ob
  apply cP
  ·exact EO (oO bB (aX rfl)) kv olb (by rw[hhl,hgl,<- hfl];simp)
  ·have kz:Kp L L z ((zb++[am.lst []]).set L (.obj "Course" (qK "marks" (.loc zb.length) hl'))):=(ka.of_app.trans kb.of_app).app.setA
   have ef:qK "marks" (.loc zb.length) hl'=hl'++[(("marks":Str),W.loc zb.length)]:=by rw[hhl,hgl,<- hfl];rfl
   have Lb:L<zb.length:=hX ob
   rw[ef]at kz ⊢
   refine⟨_,_,rfl,⟨hO.kp kz hLs hLs,_,z8.length,qs,iX olb,?_,?_,?_,?_,?_,kz _ _ wl (by omega) (by omega),hql,fun j q e=>?_⟩,hl',zb.length,iX olb,Lb⟩
   ·rw[hhl,hgl,<- hfl];rfl
   ·rw[hhl,hgl,<- hfl];rfl
   ·rw[hhl,hgl,<- hfl];rfl
   ·rw[hhl,hgl,<- hfl];rfl
   ·rw[hhl,hgl,<- hfl];rfl
   ·obtain⟨q1,q2⟩:=hq j q e
    rw[VE]at q2
    exact kz _ _ q2 (by omega) (by omega)
theorem qw{s:List Nat}(hs:s∈sh m)(Sa:m<=5)(Ri:ps.map Pl.b=s)(hM:AA M n)(ue:1<=n)(hn:n<=1000)(OY:nm.length<=2)(hm:∀p∈ps,p.m.length<=1000)(Ms:∀p∈ps,(f' M.nm nm p.m).Nodup/\∀t∈f' M.nm nm p.m,t<M.tb.length)(st:List am) :
  qt [M.w,jz ps,.str nm] st=.ok (.int (mH n (gv (kY n (Tm M.tb)) (ez n) s (wf M nm ps)) (fun q=>if M.gd.getD q false then 1 else 0):Nat)) st:=by
 have hl:ps.length=m:=by rw[<- iY m s hs,<- Ri,aq]
 obtain⟨S,sz,lk,hg,_⟩:=Gr.grow m s hs ps Ri Gr.nil
 rw[fX]at hg
 obtain⟨z,e1,hO,fl,pc,qs,ho,f1,f2,f3,f4,f5,wl,hql,hq⟩:=He hg (by omega) hM ue hn OY hm Ms st
 obtain⟨x,rfl⟩:=hO.pre
 have tv:=Hb n (Tm M.tb) hs Ri hg (wf M nm ps) (by rw[aq];exact hl)
 generalize hV:uV n (Tm M.tb) (wf M nm ps) lk []=V at *
 have hVr:∀v∈V,v.length=n:=by rw[<- hV];exact wa n _ _ _ _ (by simp)
 have key:∃o:Option Nat,(∀k,o=some k->k<qs.length)/\v9 n V o=gv (kY n (Tm M.tb)) (ez n) s (wf M nm ps) /\
   BV (jJ (e2 CO (cq gH (au (oK "Course" "tree" (al 0)) aK)) (eI 0))) (e2 qF (cq gH (au (oK "Course" "tree" (al 0)) aK)) (eI 1)) (eC .non) [some (.loc st.length)] (st++x)=.ok (oW o) (st++x):=by
  by_cases h0:0<m
  ·rw[aw h0]at tv
   refine⟨some (m-1),fun k e=>by cases e;omega,tv,?_⟩
   have:=sD (fb:=eC .non) (ρ:=[some (.loc st.length)]) (st:=st++x) (dZ (dS (dY (aD (kG (fa:=al 0) kv ho f2) bB) (tq ps _)) (gg (w:=.int 0)) (kO (f:=fun a b=>decide (a>b)) (k:=true) (by simp;omega)))) (dS (dY (aD (kG (fa:=al 0) kv ho f2) bB) (tq ps _)) (gg (w:=.int 1)) (mE (C:=fun _ _=>True) (f:=fun a b=>a-b) trivial))
   rw[show((ps.length:Int)-1)=((m-1:Nat):Int) by omega]at this
   exact this
  ·rw[ay h0]at tv
   refine⟨none,fun k e=>(by cases e),tv,?_⟩
   exact sE (dZ (dS (dY (aD (kG kv ho f2) bB) (tq ps _)) (gg (w:=.int 0)) (kO (f:=fun a b=>decide (a>b)) (k:=false) (bq (by omega))))) gg
 obtain⟨o,ho1,ho2,ho3⟩:=key
 obtain⟨xv,e2,e3⟩:=tD (n:=n) (V:=V) hM hn ho f1 f3 wl hq o ho1
 have vl:(v9 n V o).length=n:=by
  cases o with
  |none=>exact v7
  |some k=>
   show(V.getD k (ez n)).length=n
   rcases kT V k (ez n)with e|e
   ·rw[e];exact v7
   ·exact hVr _ e
 have e4:=zC hM hn vl e3
 rw[EJ,ho2]at e4
 have la:fH [.loc st.length] (st++x)=.ok (.int (mH n (gv (kY n (Tm M.tb)) (ez n) s (wf M nm ps)) (fun q=>if M.gd.getD q false then 1 else 0):Nat)) (st++x):=by
  refine kR ?_
  apply bN
  ·exact cL (aD (kG kv ho f1) (aD (wd kv ho f4 (aD ho3 bB) rfl e2) bB)) e4 rfl
  ·exact⟨_,_,rfl,rfl,rfl⟩
 refine fO ?_ rfl
 apply bN
 ·exact wd (LN (aD kv (aD kv kn)) rfl e1) ho f5 bB rfl la
 ·exact⟨_,_,rfl,rfl,_,rfl⟩
end
theorem LQ{a b:Nat}(h:a<1000000):eM (.int (a:Nat)) (.int (b:Nat)) st=.ok (.int ((a*b:Nat):Int)) st:=by
 rw[lL (.inl ⟨by omega,by omega⟩),eT]
theorem OM{f g:α->Nat}(L:List α)(h:∀x,f x<=g x):sm L f<=sm L g:=by
 induction L with
 |nil=>exact av _
 |cons x L ih=>rw[bV,bV];have:=h x;omega
theorem pi(L:List α)(c:Nat):sm L (fun _=>c)=L.length*c:=by
 induction L with
 |nil=>simp[sm]
 |cons x L ih=>rw[bV,ih,a9,pG];omega
theorem ON(q:Nat)(L:List Nat):ct q L<=L.length:=by
 have:ct q L<=sm L fun _=>1:=OM L fun x=>by split<;>omega
 rw[pi]at this;omega
theorem BE(T:Nat->Nat->Nat->Nat)(B k:Nat):(fN T B k).length=(sh k).length*B^k:=by
 have e:sm (fN T B k) (fun _=>1)=(fN T B k).length:=by rw[pi];omega
 rw[<- e,pe,aZ (g:=fun _=>B^k) fun s _=>by rw[pi,cQ];omega,pi]
theorem LR{a c:Nat}(ha:a<2^64)(hc:c<=1000):rX (.int (a:Nat)) (.int (c:Nat)) st=.ok (.int ((a*2^c:Nat):Int)) st:=by
 have:=mE (C:=fun i j=>0<=j/\j<=1000000/\i.natAbs<2^64) (f:=fun i j=>i*2^j.toNat) (p:=(a:Int)) (q:=(c:Int)) (st:=st) ⟨by omega,by omega,by omega⟩
 rw[show rX (.int (a:Nat)) (.int (c:Nat)) st=_ from this,bj]
 simp
theorem x_(z:Int)(st:List am):uO [.int z] st=.ok (.bl true) st:=by
 refine kR ?_
 apply bN
 ·exact oP (Dt kv rfl rfl) (HS (Dt kv rfl rfl) rfl)
 ·exact⟨_,_,rfl,rfl,rfl⟩
def BX(s:List Nat)(a w:Nat):List Pl:=(List.range s.length).map fun k=>⟨s.getD k 0,(List.replicate (w/2^k%2) [a]).flatten⟩
theorem OO(s:List Nat)(a w:Nat):(BX s a w).map Pl.b=s:=by
 unfold BX
 rw[bD]
 have:=uR s 0 (fun x=>x)
 rw[pH]at this
 exact this
theorem IR{s:List Nat}{a w:Nat}{p:Pl}(h:p∈BX s a w):p.m=[]\/p.m=[a]:=by
 obtain⟨k,_,rfl⟩:=bH.mp h
 rcases Nat.mod_two_eq_zero_or_one (w/2^k)with e|e<;>simp[e]
theorem Hf(s:List Nat)(hs:s.length<=1000)(a w:Nat)(st:List am):xW [x9 s,.str [a],.int (w:Nat)] st=.ok (jz (BX s a w)) st:=by
 obtain⟨r,hr1,hr2,hr3⟩:=vU (cap:=[none,some 1,some 0,some 2]) (ρ:=[some (x9 s),some (.str [a]),some (.int (w:Nat))]) (st:=st) (n:=s.length)
  (el:=pM (au (e2 cZ (e2 cZ (al 2) (al 0)) (eI 0)) (au (e2 eM (al 1) (e2 wZ (e2 yU (al 3) (al 0)) (eI 1))) aK)))
  (fs:=au (cq gH (au (al 0) aK)) aK) Pl.w (fun i b=>b=⟨s.getD i 0,(List.replicate (w/2^i%2) [a]).flatten⟩)
  (aD (dY kn (by have:=tq (s.map Fl) st;rw[aq]at this;exact this)) bB) (by omega) fun i hi=>by
   refine⟨_,rfl,?_⟩
   have hix:cZ (x9 s) (.int (i:Nat)) st=.ok (Fl (s.getD i 0)).w st:=OI (by rw[af,dH 0 hi];rfl) st
   have hlt:w/2^i%2<2:=Nat.mod_lt _ (by decide)
   have hmul:eM (.str [a]) (.int ((w/2^i%2:Nat):Int)) st=.ok (.str (List.replicate (w/2^i%2) [a]).flatten) st:=by
    have:=Ky (l:=[a]) (q:=((w/2^i%2:Nat):Int)) (st:=st) ⟨by omega,by omega,by rw[bj];simp only[iR];show _<=1000000;omega⟩
    rw[bj]at this
    exact this
   exact sB (aD (dS (dS kv kv hix) gg (Q6 _ _)) (aD (dS kv (dS (dS kv kv Ez) gg v6) hmul) bB)) (aX rfl)
 have er:r=BX s a w:=by
  refine bS fun i=>?_
  unfold BX
  rw[af]
  by_cases hi:i<s.length
  ·rw[aE hi,ag (by omega)]
   rw[hr2 i _ (ag (by omega))];rfl
  ·rw[aC (by omega),aC (by simpa using hi)];rfl
 subst er
 refine fO (w:=jz (BX s a w)) ?_ (by simp only[undWs,Ly,cz])
 apply bN
 ·exact hr3
 ·exact⟨_,_,rfl,rfl,_,rfl⟩
theorem OP:f' [] [] []=List.range 1:=by decide
theorem OQ(a:Nat):f' [a] [a] []=List.range 2:=by
 simp[f',Ey,x6,ol,cm]
theorem OR{a b:Nat}(h:a≠b):f' [a,b] [a,b] []=List.range 4:=by
 simp[f',Ey,x6,ol,cm,h,Ne.symm h]
theorem LS(a:Nat):f' [a] [] []=[0]/\f' [a] [] [a]=[1]:=by
 simp[f',Ey,x6,ol,cm]
theorem LU{a b:Nat}(h:a≠b):f' [a,b] [b] []=[0,1]/\f' [a,b] [b] [a]=[2,3]:=by
 simp[f',Ey,x6,ol,cm,h,Ne.symm h]
theorem BF{nm:List Nat}(hd:nm.Nodup)(hl:nm.length<=2):f' nm nm []=List.range (2^nm.length) /\
  ∀a tl,nm=a::tl->(∀f:Nat->Nat,sm (List.range (2^nm.length)) f=sm (List.range 2) fun c=>sm (f' nm tl (List.replicate c [a]).flatten) f)/\∀m,m=[]\/m=[a]->(f' nm tl m).Nodup/\∀t∈f' nm tl m,t<2^nm.length:=by
 match nm,hl with
 |[],_=>exact⟨OP,fun a tl e=>by cases e⟩
 |[a],_=>
  refine⟨OQ a,fun a' tl e=>?_⟩
  cases e
  obtain⟨h1,h2⟩:=LS a
  refine⟨fun f=>?_,fun m hm=>?_⟩
  ·show sm [0,1] f=sm [0,1] _
   rw[bV,bV,bV,bV]
   show _=sm (f' [a] [] []) f+(sm (f' [a] [] [a]) f+_)
   rw[h1,h2];simp[sm]
  ·rcases hm with rfl|rfl
   ·rw[h1];exact⟨by decide,by simp⟩
   ·rw[h2];exact⟨by decide,by simp⟩
 |[a,b],_=>
  have hab:a≠b:=by intro z;subst z;simp at hd
  refine⟨OR hab,fun a' tl e=>?_⟩
  cases e
  obtain⟨h1,h2⟩:=LU hab
  refine⟨fun f=>?_,fun m hm=>?_⟩
  ·show sm [0,1,2,3] f=sm [0,1] _
   rw[bV,bV,bV,bV,bV,bV]
   show _=sm (f' [a,b] [b] []) f+(sm (f' [a,b] [b] [a]) f+_)
   rw[h1,h2];simp[sm,jb]
  ·rcases hm with rfl|rfl
   ·rw[h1];exact⟨by decide,by simp⟩
   ·rw[h2];exact⟨by decide,by simp⟩
theorem ya{k:Nat}(h:k<=5):(sh k).length<=42:=by
 have:k=0\/k=1\/k=2\/k=3\/k=4\/k=5:=by omega
 rcases this with rfl|rfl|rfl|rfl|rfl|rfl<;>decide
theorem law_ok:HM f_q33:=by
 intro ns hn
 suffices hh:kg (yt fun w br=>w=.bl true) (IK ([W.loc 0].map some++List.replicate (14-1) none) [.ro (ns.map W.int)]) by
  obtain⟨w,br,e,rfl⟩:=hh
  exact⟨_,no e⟩
 have h0:([am.ro (ns.map W.int)]:List am)[0]?=some (.ro (ns.map W.int)):=rfl
 generalize hs0:([am.ro (ns.map W.int)]:List am)=s0 at h0
 obtain⟨c0,e0⟩:=vS h0 0
 obtain⟨ds,hdl,hdp,e1⟩:=sR c0 50021 3 (by omega) s0
 have e1:oZ [.int c0,.int 3,.int 50021] s0=_:=e1
 obtain⟨d0,d1,d2,rfl⟩:∃a b c,ds=[a,b,c]:=by
  match ds,hdl with
  |[a,b,c],_=>exact⟨_,_,_,rfl⟩
 apply aG
 ·exact cM (cL (aD (cL (aD kv (aD gg bB)) e0 rfl) (aD gg (aD gg bB))) e1 rfl)
 generalize hs1:s0++[am.lst ([d0,d1,d2].map W.int)]=s
 have k1:s0 <+: s:=by rw[<- hs1];exact aW _ _
 have i0:cZ (.loc s0.length) (.int 0) s=.ok (.int d0) s:=by rw[<- hs1];exact kP (ba bO) rfl
 have i1:cZ (.loc s0.length) (.int 1) s=.ok (.int d1) s:=by rw[<- hs1];exact kP (ba bO) rfl
 have i2:cZ (.loc s0.length) (.int 2) s=.ok (.int d2) s:=by rw[<- hs1];exact kP (ba bO) rfl
 obtain⟨c,hc,ec⟩:=oQ (q:=d0) (n:=3) (by omega)
 have ec:d0%3=(c:Int):=ec
 apply aG
 ·exact cM (dS (dS kv gg i0) gg (mE (by decide)))
 rw[ec]
 obtain⟨n',hn',en⟩:=oQ (q:=d1) (n:=7-2*c) (by omega)
 have en:d1%(7-(2*c:Int))=(n':Int):=by rw[<- en];congr 1;omega
 have p1:(0:Int)<7-(2*c:Int):=by omega
 apply aG
 ·exact cM (dS gg (dS (dS kv gg i1) (dS gg (dS gg kv (lL (.inl (by decide)))) (mE trivial)) (mE p1)) hU)
 rw[en]
 obtain⟨n,hnn'⟩:∃n,n=1+n':=⟨_,rfl⟩
 rw[show(1:Int)+(n':Int)=(n:Int) by omega]
 obtain⟨m,hm',em⟩:=oQ (q:=d2) (n:=6) (by omega)
 have em:d2%6=(m:Int):=em
 apply aG
 ·exact cM (dS (dS kv gg i2) gg (mE (by decide)))
 rw[em]
 have ue:1<=n:=by omega
 have hn5:n<=7:=by omega
 have hnn:n+n*n*2^c<=1000:=by
  have x2:n*n<=7*7:=fK (by omega) (by omega)
  have x1:c=0\/c=1\/c=2:=by omega
  rcases x1 with rfl|rfl|rfl<;>omega
 have h1:=pre_get k1 h0
 obtain⟨c1,e1⟩:=vS h1 1
 obtain⟨pool,qy,hpn,hpp,e2'⟩:=GY c1 100003 c (by omega) s
 apply aG
 ·exact cM (GZ (cL (aD (cL (aD kv (aD gg bB)) e1 rfl) (aD kv (aD gg bB))) e2' rfl) (by omega))
 generalize rJ:s++[am.lst ((iq (pool.map fun c=>[c])).map W.str)]=s2
 have h2:s2[0]?=some (.ro (ns.map W.int)):=by rw[<- rJ];exact bI h1
 obtain⟨c2,e3⟩:=vS h2 2
 obtain⟨ds,hdl,hdp,e4⟩:=sR c2 200017 (n+n*n*2^c) hnn s2
 have e5:e2 fD (al 3) (e2 rX (e2 eM (al 3) (al 3)) (al 2)) [some (.loc 0),some (.loc s0.length),some (.int c),some (.int n),some (.int m),some (.str (IL pool)),none,none,none,none,none,none,none,none] s2=.ok (.int ((n+n*n*2^c:Nat):Int)) s2:=by
  rw[show((n+n*n*2^c:Nat):Int)=(n:Int)+((n*n*2^c:Nat):Int) by omega]
  have:n*n<=7*7:=fK hn5 hn5
  exact dS kv (dS (dS kv kv (LQ (by omega))) kv (LR (by omega) (by omega))) hU
 apply aG
 ·exact cM (cL (aD (cL (aD kv (aD gg bB)) e3 rfl) (aD e5 (aD gg bB))) e4 rfl)
 generalize hs3:s2++[am.lst (ds.map W.int)]=s3
 have hd3:s3[s2.length]?=some (.lst (PD ds)):=by rw[<- hs3];exact bO
 obtain⟨M,hMn,hM,e6⟩:=zt (IL pool) n n s2.length ds s3 (by rw[vT];omega) ue (by omega) ue (av _) hd3 (by rw[vT,qy,hdl,l_ (2^c)];exact av _)
 apply aG
 ·exact cM (cL (aD kv (aD kv (aD kv kn))) e6 rfl)
 have hnl:M.nm.length=c:=by rw[hMn,vT,qy]
 have Ms:M.nm.Nodup:=by rw[hMn];exact(Ed pool).nodup_iff.mpr hpn
 have hB:M.tb.length=2^c:=by rw[hM.tb,hnl]
 have hB4:M.tb.length<=4:=by rw[hB];exact aQ (dA (by omega) (show c<=2 by omega)) (by decide)
 rw[<- hMn]
 clear e6 e5 e4 e3 e2' e1 rJ hs3 hd3 hdl hdp h1 h2
 apply aG
 ·exact cM gg
 obtain⟨j,x,hsc,esh⟩:=BD (m:=m) (by omega) (fun k hk=>fQ (ya (by omega)) (by decide)) s3
 generalize hz:s3++x=z at *
 obtain⟨N1,N2⟩:=BF Ms (by omega)
 rw[hnl]at N1 N2
 generalize hg:(fun q=>if M.gd.getD q false then 1 else 0:Nat->Nat)=g at *
 have hT:∀t a b,Tm M.tb t a b<n:=Ej hM ue
 let Hj:List Nat->Nat:=fun s=>mH n (gv (kY n (Tm M.tb)) (ez n) s (List.replicate m (List.range M.tb.length))) g
 refine dm (fun i ρ z'=>∃o9 zK o11 o12 o13:Option W,ρ=[some (.loc 0),some (.loc s0.length),some (.int c),some (.int n),some (.int m),some (.str M.nm),some (.loc s2.length),some M.w,some (.int (sm ((sh m).take i) Hj:Nat)),o9,zK,o11,o12,o13]/\z'=z)
  (ke (st1:=z) (cL kn esh rfl) (ba hsc)) ⟨none,none,none,none,none,rfl,rfl⟩ (fun _ _ _ h=>by obtain⟨_,_,_,_,_,_,rfl⟩:=h;exact ba hsc) ?_ ?_
 ·rintro i w ρ z' hw ⟨o9,zK,o11,o12,o13,rfl,rfl⟩
  rw[af]at hw
  obtain⟨s,hs,rfl⟩:=aJ.mp hw
  have hsm:=aS hs
  have hsl:=iY m s hsm
  refine⟨_,rfl,?_⟩
  have f1:=qw (ps:=s.map Fl) (nm:=M.nm) hsm (by omega) (by rw[bD];exact pH s) hM ue (by omega) (by omega) (fun p hp=>by obtain⟨b,_,rfl⟩:=bH.mp hp;simp[Fl]) (fun p hp=>by
   obtain⟨b,_,rfl⟩:=bH.mp hp
   show(f' M.nm M.nm []).Nodup/\_
   rw[show(Fl b).m=[]from rfl,N1,hB]
   exact⟨List.nodup_range,fun t ht=>bh.mp ht⟩) z'
  have eR:wf M M.nm (s.map Fl)=List.replicate m (List.range M.tb.length):=by
   show(s.map Fl).map (fun p=>f' M.nm M.nm p.m)=_
   rw[bD,hB,<- N1,<- hsl]
   show List.map (fun _=>f' M.nm M.nm []) s=_
   exact List.map_const' ..
  rw[hg,eR]at f1
  have f1:qt [M.w,x9 s,.str M.nm] z'=.ok (.int (Hj s:Nat)) z':=f1
  apply aG
  ·exact cM (cL (aD kv (aD kv kn)) f1 rfl)
  apply dg
  ·exact Au (dZ (cL kn (x_ _ _) rfl)) rfl
  apply d3
  apply aG
  ·exact cM (dS kv kv hU)
  have ed:((sm ((sh m).take i) Hj:Nat):Int)+((Hj s:Nat):Int)=((sm ((sh m).take (i+1)) Hj:Nat):Int):=by
   rw[<- eU,ie hs,sX];simp[sm]
  rw[ed]
  by_cases hbr:0<c/\m<4
  ·obtain⟨a,tl,eN⟩:∃a tl,M.nm=a::tl:=by
    cases h:M.nm with
    |nil=>rw[h]at hnl;simp at hnl;omega
    |cons a tl=>exact⟨a,tl,rfl⟩
   obtain⟨hR,hND⟩:=N2 a tl eN
   apply uJ
   ·exact rf (dZ (dS kv gg (kO (by simp;omega)))) (dZ (dS kv gg (kO (by simp;omega))))
   apply aG
   ·exact cM gg
   have ha:cZ (.str M.nm) (.int 0) z'=.ok (.str [a]) z':=by rw[eN];exact HX (by rw[<- eN];show _<=1000000;omega) (f9 (l:=a::tl) (q:=0) rfl)
   have hsl1:CT (.str M.nm) (some 1) none z'=.ok (.str tl) z':=by
    have:=rh (l:=a::tl) (q:=1) (by simp)
    rw[eN,HY (by rw[<- eN];show _<=1000000;omega),show(some (1:Int))=some ((1:Nat):Int)from rfl,this];rfl
   let nb:Nat->List Nat:=fun t=>f' M.nm tl (List.replicate t [a]).flatten
   let fw:Nat->Nat:=fun w=>mH n (gv (kY n (Tm M.tb)) (ez n) s ((uP 2 m w).map nb)) g
   have tot':sm (List.range (2^m)) fw=Hj s:=by
    have:=EI hT (R:=List.range M.tb.length) (nb:=nb) (by rw[hB];exact hR) m s hsm g
    exact this
   obtain⟨K,hK⟩:∃K,K=2^m:=⟨_,rfl⟩
   have htl:tl.length<=2:=by
    have:(a::tl).length=c:=by rw[<- eN];exact hnl
    rw[a9]at this;omega
   have hshl:rX (.int 1) (.int m) z'=.ok (.int (K:Nat)) z':=by rw[hK];exact Cu (by omega)
   rw[<- hK]at tot'
   have p16:K<=16:=by rw[hK];exact aQ (dA (by decide) (show m<=4 by omega)) (by decide)
   refine dm (fun w ρ y=>∃o12 o13:Option W,ρ=[some (.loc 0),some (.loc s0.length),some (.int c),some (.int n),some (.int m),some (.str M.nm),some (.loc s2.length),some M.w,some (.int (sm ((sh m).take (i+1)) Hj:Nat)),some (x9 s),some (.int (Hj s:Nat)),some (.int (sm (List.range w) fw:Nat)),o12,o13]/\y=z')
    (gm (q:=(K:Int)) (st1:=z') (aD (dS gg kv hshl) bB) (by omega)) ⟨_,_,rfl,rfl⟩ (fun _ _ _ _=>trivial) ?_ ?_
   ·rintro v w ρ y hw ⟨o12,o13,rfl,rfl⟩
    obtain⟨hv,rfl⟩:=fG hw
    rw[bj]at hv
    rw[show((0:Int)+(v:Int))=(v:Int) by omega]
    refine⟨_,rfl,?_⟩
    have f2:=qw (ps:=BX s a v) (nm:=tl) hsm (by omega) (OO s a v) hM ue (by omega) htl (fun p hp=>by rcases IR hp with e|e<;>rw[e]<;>simp) (fun p hp=>by
     rw[hB];exact hND p.m (IR hp)) y
    have eW:wf M tl (BX s a v)=(uP 2 m v).map nb:=by
     show(BX s a v).map (fun p=>f' M.nm tl p.m)=_
     unfold BX uP
     rw[bD,bD,hsl];rfl
    rw[hg,eW]at f2
    have f2:qt [M.w,jz (BX s a v),.str tl] y=.ok (.int (fw v:Nat)) y:=f2
    apply aG
    ·exact cM (cL (aD kv (aD (cL (aD kv (aD (dS kv gg ha) kn)) (Hf s (by omega) a v y) rfl) (aD (NS kv (NR gg) NQ hsl1) bB))) f2 rfl)
    apply dg
    ·exact Au (dZ (cL kn (x_ _ _) rfl)) rfl
    apply d3
    apply cP
    ·exact cM (dS kv kv hU)
    ·refine⟨_,_,rfl,some (.int (v:Nat)),some (.int (fw v:Nat)),?_,rfl⟩
     rw[<- eU,<- gS];rfl
   ·rintro ρ y ⟨o12,o13,rfl,rfl⟩
    rw[show(eO 0 (K:Int).toNat,(none:Option (Nat×List W))).fst.length=K by simp only[cC,bj],tot']
    apply nH
    ·exact dZ (dS kv kv (HW (by simp)))
    ·exact⟨_,_,rfl,_,_,_,_,_,rfl,rfl⟩
  ·apply nH
   ·by_cases hc0:0<c
    ·exact rf (dZ (dS kv gg (kO (by simp;omega)))) (dZ (dS kv gg (kO (by simp;omega))))
    ·exact vG (dZ (dS kv gg (kO (by simp;omega))))
   ·exact⟨_,_,rfl,_,_,_,_,_,rfl,rfl⟩
 ·rintro ρ z' ⟨o9,zK,o11,o12,o13,rfl,rfl⟩
  rw[aq,cJ]
  have hb:∀k,2*k<m->∀a,ct a (fN (Tm M.tb) M.tb.length k)<2^64:=fun k hk a=>by
   have h1:=ON a (fN (Tm M.tb) M.tb.length k)
   rw[BE]at h1
   have h2:=ya (show k<=5 by omega)
   have h3:M.tb.length^k<=4^5:=aQ (Nat.pow_le_pow_left hB4 k) (dA (by omega) (by omega))
   have h4:=fK h2 h3
   omega
  have hcn:=zw hM (by omega) ue (by omega:m<=24) hb z'
  have hB0:0<M.tb.length:=by rw[hB];exact Nat.pow_pos (by decide)
  have key:(gf n M.gd (cl n (Tm M.tb) M.tb.length m)).sum=sm (sh m) Hj:=by
   rw[EJ,hg,LG hT ue]
   exact(zy hT ue hB0 m g).symm
  rw[key]at hcn
  apply bN
  ·exact cL (aD (cL (aD kv kn) hcn rfl) kn) (xY _ 39 _) rfl
  ·exact⟨_,_,rfl,rfl⟩
theorem all_mk{l:PySem.W.OpenLaw}{w:World}{h:Heap}{fa:Addr}(X:K.In h)(G:h.Ns mainGlobals mg)(R0:mg "law"=some (.ref fa))
  {zO:Addr} {Me ES:Option Addr} {LV:Array (Option Value)} {LY E3 EY E2 zM EZ:Value} {cF:Addr} {om:Addr} {tH:Tok} {ua:Tok}
  (BG:DefIn K "come_to" KF)
  (qV:DefIn K "check_counted" KG)
  (tK:DefIn K "empty_counts" KH)
  (ud:DefIn K "next_counts" KI)
  (wA:DefIn K "all_counts" KJ)
  (yo:DefIn K "counts_of" KL)
  (zJ:DefIn K "let_many" KM)
  (BO:DefIn K "counted" KN)
  (EX:DefIn K "two_to" KO)
  (yl:DefIn K "letter_of" DB)
  (zH:DefIn K "marks_of" DC)
  (zP:DefIn K "has_left" DD)
  (yj:DefIn K "has_right" DE)
  (zN:DefIn K "links_of" DF)
  (E8:DefIn K "ups_of" DG)
  (zE:DefIn K "sizes_of" DI)
  (tM:DefIn K "check_filled" DJ)
  (BJ:DefIn K "without" DL)
  (wp:DefIn K "numbers_at" DM)
  (zQ:DefIn K "times_of" DO)
  (ym:DefIn K "counts_at" DP)
  (ub:DefIn K "parts_begun" DQ)
  (zF:DefIn K "fillings" DR)
  (yb:DefIn K "_law_cell" DS)
  (wz:DefIn K "_law_mixed" DT)
  (wg:DefIn K "_law_draws" DV)
  (yh:DefIn K "_law_same" DW)
  (yf:DefIn K "_law_pool" D0)
  (tO:DefIn K "_law_machine" D1)
  (t_:DefIn K "_law_shapes" D2)
  (wu:DefIn K "_law_whole" D3)
  (yc:DefIn K "_law_worn" D4)
  (IW:nsIn K mainGlobals "law"=some (some (.ref zO)))
  (Pf:K.lookup zO=some ⟨LY,Me,.func (fnOf "law" "law" (gs oT) (fE oT) (aM oT) .none E3 EY E2 ES zM EZ),LV⟩)
  (BL:codeIn K zM "law"=true)
  (OX:keepIn K (.ref zO)=true)
  (pk:nsIn K mainGlobals "Course"=some (some (.ref cF)))
  (cl_Course:L2.Cls K cF)
  (qR:findIn K (.ref cF) "begun"=some none)
  (p8:findIn K (.ref cF) "counts"=some none)
  (qY:findIn K (.ref cF) "links"=some none)
  (pw:findIn K (.ref cF) "machine"=some none)
  (qX:findIn K (.ref cF) "marks"=some none)
  (qQ:findIn K (.ref cF) "names"=some none)
  (pq:findIn K (.ref cF) "numbers"=some none)
  (qW:findIn K (.ref cF) "rooms"=some none)
  (qU:findIn K (.ref cF) "times"=some none)
  (tF:findIn K (.ref cF) "tree"=some none)
  (uf:findIn K (.ref cF) "ups"=some none)
  (py:findIn K (.ref cF) "weights"=some none)
  (BK:makesIn K cF=true)
  (BI:keepIn K (.ref cF)=true)
  (dm_Course___init__:DefM K cF "Course.__init__" "__init__" iy)
  (dm_Course_counts_below:DefM K cF "Course.counts_below" "counts_below" f_)
  (dm_Course_let_all:DefM K cF "Course.let_all" "let_all" iW)
  (zL:nsIn K mainGlobals "TooGreat"=some (some (.ref om)))
  (x_TooGreat:excIn K om NH HN=true)
  (L0:nsIn K mainGlobals "bool"=some none)
  (yn:nsIn K mainGlobals "enumerate"=some none)
  (O_:nsIn K mainGlobals "int"=some none)
  (ww:nsIn K mainGlobals "isinstance"=some none)
  (Ph:nsIn K mainGlobals "len"=some none)
  (Pe:nsIn K mainGlobals "min"=some none)
  (Hi:nsIn K mainGlobals "range"=some none)
  (zD:nsIn K mainGlobals "reversed"=some none)
  (E7:nsIn K mainGlobals "sorted"=some none)
  (Pg:nsIn K mainGlobals "str"=some none)
  (OT:nsIn K mainGlobals "sum"=some none)
  (Hk:nsIn K mainGlobals "tuple"=some none)
  (OS:nsIn K mainGlobals "zip"=some none)
  (tN:nsIn K mainGlobals "MOST_COUNTED"=some (some (.int 24 tH)))
  (uc:nsIn K mainGlobals "MOST_FILLED"=some (some (.int 4 ua))) :
  ∃fd:FuncData,(∀(s:Shared) (v:Value),BindsTo s fd ⟨[v],[]⟩ [("_law_script",v)])/\∀base:Heap,K.In base->base.Ns mainGlobals mg->cN l.prog w K mg base (i_ l.prog w) 41 fa fd D5 (jw K mg 1 f_q33):=by
 have e:=R0.symm.trans (mg_of X G IW)
 cases e
 obtain⟨_,_,F_q1,m_q1⟩:=BG.fn X G
 obtain⟨_,_,F_q2,m_q2⟩:=qV.fn X G
 obtain⟨_,_,F_q3,m_q3⟩:=tK.fn X G
 obtain⟨_,_,F_q4,m_q4⟩:=ud.fn X G
 obtain⟨_,_,F_q5,m_q5⟩:=wA.fn X G
 obtain⟨_,_,F_q6,m_q6⟩:=yo.fn X G
 obtain⟨_,_,F_q7,m_q7⟩:=zJ.fn X G
 obtain⟨_,_,F_q8,m_q8⟩:=BO.fn X G
 obtain⟨_,_,F_q9,m_q9⟩:=EX.fn X G
 obtain⟨_,_,F_q10,m_q10⟩:=yl.fn X G
 obtain⟨_,_,F_q11,m_q11⟩:=zH.fn X G
 obtain⟨_,_,F_q12,m_q12⟩:=zP.fn X G
 obtain⟨_,_,F_q13,m_q13⟩:=yj.fn X G
 obtain⟨_,_,F_q14,m_q14⟩:=zN.fn X G
 obtain⟨_,_,F_q15,m_q15⟩:=E8.fn X G
 obtain⟨_,_,F_q16,m_q16⟩:=zE.fn X G
 obtain⟨_,_,F_q17,m_q17⟩:=tM.fn X G
 obtain⟨_,_,F_q18,m_q18⟩:=BJ.fn X G
 obtain⟨_,_,F_q19,m_q19⟩:=wp.fn X G
 obtain⟨_,_,F_q20,m_q20⟩:=zQ.fn X G
 obtain⟨_,_,F_q21,m_q21⟩:=ym.fn X G
 obtain⟨_,_,F_q22,m_q22⟩:=ub.fn X G
 obtain⟨_,_,F_q23,m_q23⟩:=zF.fn X G
 obtain⟨_,_,F_q24,m_q24⟩:=yb.fn X G
 obtain⟨_,_,F_q25,m_q25⟩:=wz.fn X G
 obtain⟨_,_,F_q26,m_q26⟩:=wg.fn X G
 obtain⟨_,_,u4,yd⟩:=yh.fn X G
 obtain⟨_,_,F_q28,m_q28⟩:=yf.fn X G
 obtain⟨_,_,F_q29,m_q29⟩:=tO.fn X G
 obtain⟨_,_,F_q30,m_q30⟩:=t_.fn X G
 obtain⟨_,_,F_q31,m_q31⟩:=wu.fn X G
 obtain⟨_,_,F_q32,m_q32⟩:=yc.fn X G
 have F_q33:=ve (st:=oT) Pf BL OX
 have m_q33:=mg_of X G IW
 have B:Bl mg:=⟨mg_none_of X G L0,mg_none_of X G yn,mg_none_of X G O_,mg_none_of X G ww,mg_none_of X G Ph,mg_none_of X G Pe,mg_none_of X G Hi,mg_none_of X G zD,mg_none_of X G E7,mg_none_of X G Pg,mg_none_of X G OT,mg_none_of X G Hk,mg_none_of X G OS⟩
 have C:Cls K mg:=⟨⟨om,mg_of X G zL,x_TooGreat⟩⟩
 have O:Ow K mg:=⟨⟨cF,mg_of X G pk,cl_Course,fun f hf=>by simp only[a_,List.not_mem_nil,or_false]at hf;rcases hf with rfl|rfl|rfl|rfl|rfl|rfl|rfl|rfl|rfl|rfl|rfl|rfl;(· exact qR);(· exact p8);(· exact qY);(· exact pw);(· exact qX);(· exact qQ);(· exact pq);(· exact qW);(· exact qU);(· exact tF);(· exact uf);(· exact py)⟩⟩
 have Gg:Gc K mg:=⟨⟨_,.int 24,mg_of X G tN,⟨_,rfl⟩,fun μ H=>.int⟩,⟨_,.int 4,mg_of X G uc,⟨_,rfl⟩,fun μ H=>.int⟩⟩
 refine⟨fnOf "law" "law" (gs oT) (fE oT) (aM oT) .none E3 EY E2 ES zM EZ,fun s v=>.of_eq rfl,fun base _ _=>?_⟩
 have Hg:bY l.prog w K mg base 1 "come_to" 1 By:=cD F_q1 m_q1 (Of F_q1 B)
 have Md:bY l.prog w K mg base 1 "check_counted" 1 D6:=cD F_q2 m_q2 (Og F_q2 Gg C)
 have BH:bY l.prog w K mg base 1 "empty_counts" 1 zr:=cD F_q3 m_q3 (Oh F_q3 B)
 have LW:bY l.prog w K mg base 1 "next_counts" 2 D7:=cD F_q4 m_q4 (Oi F_q4 B)
 have L5:bY l.prog w K mg base 2 "all_counts" 2 D8:=cD F_q5 m_q5 (Ol F_q5 B  Md BH LW)
 have L1:bY l.prog w K mg base 3 "counts_of" 2 D9:=cD F_q6 m_q6 (Om F_q6   L5)
 have BN:bY l.prog w K mg base 1 "let_many" 2 xK:=cD F_q7 m_q7 (On F_q7 B)
 have Mf:bY l.prog w K mg base 4 "counted" 2 D_:=cD F_q8 m_q8 (Oo F_q8   L1 BN)
 have L9:bY l.prog w K mg base 1 "two_to" 1 Bz:=cD F_q9 m_q9 (Oq F_q9 B)
 have AO:bY l.prog w K mg base 1 "letter_of" 2 qp:=cD F_q10 m_q10 (K0 F_q10)
 have E_:bY l.prog w K mg base 1 "marks_of" 2 sP:=cD F_q11 m_q11 (K3 F_q11 B)
 have ET:bY l.prog w K mg base 1 "has_left" 1 oU:=cD F_q12 m_q12 (K4 F_q12)
 have E9:bY l.prog w K mg base 1 "has_right" 1 oV:=cD F_q13 m_q13 (K5 F_q13)
 have pz:bY l.prog w K mg base 2 "links_of" 1 oX:=cD F_q14 m_q14 (K6 F_q14 B  ET E9)
 have EV:bY l.prog w K mg base 3 "ups_of" 1 xL:=cD F_q15 m_q15 (K7 F_q15 B  pz)
 have Fe:bY l.prog w K mg base 3 "sizes_of" 1 xM:=cD F_q16 m_q16 (K8 F_q16 B  pz)
 have E0:bY l.prog w K mg base 1 "check_filled" 1 xN:=cD F_q17 m_q17 (K9 F_q17 B Gg C)
 have E5:bY l.prog w K mg base 1 "without" 2 xO:=cD F_q18 m_q18 (K_ F_q18)
 have Fb:bY l.prog w K mg base 2 "numbers_at" 3 uL:=cD F_q19 m_q19 (K' F_q19 B  AO E_ L9 E5)
 have Ff:bY l.prog w K mg base 1 "times_of" 1 uM:=cD F_q20 m_q20 (La F_q20)
 have EW:bY l.prog w K mg base 2 "counts_at" 4 xP:=cD F_q21 m_q21 (Lc F_q21   Hg)
 have E1:bY l.prog w K mg base 4 "parts_begun" 1 xQ:=cD F_q22 m_q22 (Ld F_q22 B  Fe)
 have b6:sw l.prog w K mg base 2 "Course" "counts_below" 2 bQ:=Dl dm_Course_counts_below (mg_of X G pk) cl_Course (fun F=>lQ F O BH)
 have iC:zc l.prog w K mg base 5 "Course" 4 eX:=Kt dm_Course___init__ (mg_of X G pk) BK BI (fun F=>og F B O b6 E0 EW pz Fb E1 Ff EV)
 have iZ:sw l.prog w K mg base 3 "Course" "let_all" 1 fH:=Dl dm_Course_let_all (mg_of X G pk) cl_Course (fun F=>oY F B O b6 BN)
 have AQ:bY l.prog w K mg base 7 "fillings" 3 qt:=cD F_q23 m_q23 (Le F_q23   iC iZ)
 have yi:bY l.prog w K mg base 1 "_law_cell" 2 sQ:=cD F_q24 m_q24 (Lf F_q24 B)
 have Fh:bY l.prog w K mg base 1 "_law_mixed" 3 uN:=cD F_q25 m_q25 (Lg F_q25)
 have tI:bY l.prog w K mg base 2 "_law_draws" 3 oZ:=cD F_q26 m_q26 (Lh F_q26 B  Fh)
 have yg:=Ax (P:=l.prog) (w:=w) (base:=base) u4 yd B  40
 have Fd:bY l.prog w K mg base 3 "_law_pool" 3 xS:=cD F_q28 m_q28 (Li F_q28 B  tI)
 have EU:bY l.prog w K mg base 1 "_law_machine" 4 xU:=cD F_q29 m_q29 (Lj F_q29 B)
 have E4:bY l.prog w K mg base 1 "_law_shapes" 1 xV:=cD F_q30 m_q30 (Lk F_q30 B)
 have AR:bY l.prog w K mg base 1 "_law_whole" 1 uO:=cD F_q31 m_q31 (Ll F_q31 B)
 have Fa:bY l.prog w K mg base 1 "_law_worn" 3 xW:=cD F_q32 m_q32 (Lm F_q32 B)
 exact Ln F_q33 B  yi tI EU Fd yg E4 AR Fa Mf AQ
end P
end
namespace PySem.W.Fast
def tw2406251716212461567:=0
def tw6893555604539488127:=0
def tw4467811726044735995:=0
def tw9506836104772244726:=0
def tw2350396730282028915:=0
def tw8798054117409986643:=0
def tw15917939238174266609:=0
def tw16302165822593993614:=0
def tw17681830334984241707:=0
def tw4275802588957493066:=0
def tw12646263273277812874:=0
def tw2312641641970793961:=0
def tw17305339490451978313:=0
def tw11911557499551932168:=0
def tw16063057235904288456:=0
def tw18104943385917993666:=0
def tw11476003714647180674:=0
def tw9207769544157212975:=0
def tw10951238518952553016:=0
def tw81731070859118904:=0
def tw4249136739708711061:=0
def tw7372388806403294718:=0
def tw15460008196404400858:=0
def tw16206637672789983562:=0
def tw8030122518377813802:=0
def tw10508055985340801712:=0
def tw11216933640733269836:=0
def tw17034301934809238134:=0
def tw11172192893507983351:=0
def tw12949753644402053680:=0
def tw8567262203237850220:=0
def tw9486475215454420060:=0
def tw14843211027650706894:=0
def tw15734676311435198448:=0
def tw13633713777388542083:=0
def tw2472623795990858415:=0
def tw1502556050509259176:=0
def tw17060618787747776931:=0
def tw4818913508920588531:=0
def tw246264611906269661:=0
def tw15499448075978176080:=0
def tw4691242768285888222:=0
def tw1066474482439177985:=0
def tw1059285549466778772:=0
def tw13126890356858927074:=0
def tw3152585553147576801:=0
def tw6884210216167693097:=0
def tw13064679276808158143:=0
def tw5864808529162917199:=0
def tw7418528937538899865:=0
def tw9895193433416006464:=0
def tw8860611304515508826:=0
def tw397717021653455311:=0
def tw6211061258587376970:=0
def tw13648166965082839569:=0
def tw3026433986066651429:=0
def tw3392961926523067464:=0
def tw4022283446213697109:=0
def tw3076604708248289590:=0
def tw9656230807260454965:=0
def tw8304952685369986160:=0
def tw2305423258662508711:=0
def tw9274197291786511267:=0
def tw17730430972960438230:=0
def tw7423389842577936623:=0
def tw2663403222404051633:=0
def tw2766383791137360938:=0
def tw10698364292223627360:=0
def tw9084781241920208375:=0
def tw615426139088597544:=0
def tw11973736207780205895:=0
def tw7970503052807121723:=0
def tw16807060530008085607:=0
def tw12502679090883992512:=0
def tw11609622208082348715:=0
def tw9975108679738286461:=0
def tw8739388902719249310:=0
def tw16483348014031555265:=0
def tw16221672421480032958:=0
def tw11357540056184348100:=0
def tw2476988901364681878:=0
def tw16834854219848668159:=0
def tw11322935667379988251:=0
def tw2595146676441485267:=0
def tw7716562689053760291:=0
def tw719585844348950803:=0
def tw16909604260468842339:=0
def tw15251642853679144523:=0
def tw17577210443772928204:=0
def tw7317277339642446780:=0
def tw11797394019639522736:=0
def tw765631430814083390:=0
def tw15325954671234928014:=0
def tw18009548835126417077:=0
def tw4964812853591584294:=0
def tw12074058116252136003:=0
def tw1585094633703307677:=0
def tw12621672299053270238:=0
def tw10638745650501309278:=0
def tw2680063970093927114:=0
def tw2882140924244978975:=0
def tw4687672766700142572:=0
def tw10500348766418735334:=0
def tw14401193954708729646:=0
def tw9642571186537956318:=0
def tw3730963833481438752:=0
def tw1506052012987803610:=0
def tw10193076050402882768:=0
def tw18086432648574009162:=0
def tw11822389339786641825:=0
def tw3097305601449112197:=0
def tw8568447390631702104:=0
def tw1154535113567362240:=0
def tw11588190722852124319:=0
def tw13232932077186138204:=0
def tw3345588060138694629:=0
def tw18379483320957067441:=0
def tw5151303686572829631:=0
def tw9248499487983739913:=0
def tw1095320001339405334:=0
def tw11098289720307821783:=0
def tw5149250641639382929:=0
def tw17739637754846767242:=0
def tw13978912209391956973:=0
def tw4642110688087036775:=0
def tw16105382533493049927:=0
def tw4182946973270563421:=0
def tw4074586505940526942:=0
def tw8171833170401079682:=0
def tw200699419379328171:=0
def tw1336217859681917559:=0
def tw10596808433468774151:=0
def tw10482665467482483710:=0
def tw14277426156515917234:=0
def tw13124100600930911204:=0
def tw1544578834862469615:=0
def tw617892246324466983:=0
def tw2574615444862300551:=0
def tw13353903895219717786:=0
def tw14709433393185430023:=0
def tw12067714766217262271:=0
def tw10099640212605540396:=0
def tw15300397899481749621:=0
def tw82129870090219136:=0
def tw14487845367669611295:=0
def tw5045287203358188823:=0
def tw8067196471651977546:=0
def tw18337951317155414208:=0
def tw1219242065183049539:=0
def tw506324642530316592:=0
def tw14483110222574026675:=0
def tw5392920162816589061:=0
def tw3435917786544210781:=0
def tw2818162665888462814:=0
def tw11291810980393643270:=0
def tw9250440212961679946:=0
def tw11643896458965257685:=0
def tw16954267167270149427:=0
def tw8827398048768488672:=0
def tw5316104072003345156:=0
def tw8989780313877423384:=0
def tw13686770140778363095:=0
def tw169264688728615517:=0
def tw6417499996514364998:=0
def tw8963502271805614634:=0
def tw14347921611973246768:=0
def tw16221284790784983001:=0
def tw10386198779773524876:=0
def tw786435090326257782:=0
def tw9475606973216888716:=0
def tw17459866412059442800:=0
def tw1218557050469699491:=0
def tw2566031120508910916:=0
def tw10621801506162538946:=0
def tw6572632844794180406:=0
def tw5856273725896979419:=0
def tw8051694779716388897:=0
def tw7162217825066318905:=0
def tw18309050873605873875:=0
def tw8533128790911654953:=0
def tw4057979981982130167:=0
def tw10406852940872734680:=0
def tw10747374409968175549:=0
def tw6176804412785502844:=0
def tw10344565761357487421:=0
def tw6912137555909300487:=0
def tw13853194864961094384:=0
def tw2005956369758398014:=0
def tw15091177083152977132:=0
def tw14684254898464347472:=0
def tw3234013344160318493:=0
def tw2764664913564059591:=0
def tw15004031963317519165:=0
def tw15428163880641044851:=0
def tw311725406050005084:=0
def tw4420546952301701173:=0
def tw2090695050383332558:=0
def tw15199169001473215094:=0
def tw5617011654858792495:=0
def tw5603803997468340031:=0
def tw4662120896635446073:=0
def tw205288713538611711:=0
def tw10116924333744346527:=0
def tw15357154967629961981:=0
def tw7421397205268064710:=0
def tw6683047657325672816:=0
def tw13740931972234745219:=0
def tw17456538550372964759:=0
def tw16715671370875603674:=0
def tw13647473831792284980:=0
def tw5311140908492291571:=0
def tw15638411415059230966:=0
def tw8048559125135048702:=0
def tw5738682717628075949:=0
def tw16351933830824814939:=0
def tw9896580295470661257:=0
def tw9794419874398654828:=0
def tw9758946659465709546:=0
def tw9520729283185152273:=0
def tw9489277835550225572:=0
def tw9452019760872452571:=0
def tw923681362712145522:=0
def tw8646711615605340339:=0
def tw8574926188545483783:=0
def tw851551290774564461:=0
def tw8089832406565126425:=0
def tw7991249245886651525:=0
def tw7970170990276308592:=0
def tw7962814266133196334:=0
def tw7556048338325889410:=0
def tw7352179162554877950:=0
def tw714231008578377564:=0
def tw7080853632121961928:=0
def tw7066301121076941589:=0
def tw6979961047168021744:=0
def tw6529286360402785232:=0
def tw6403625446154354144:=0
def tw6115404577835307198:=0
def tw6114007550677170427:=0
def tw608347343923042273:=0
def tw594956130765301183:=0
def tw5275021582417776619:=0
def tw5167518787520054861:=0
def tw4753038081572096764:=0
def tw4567596665508880777:=0
def tw407731602878091300:=0
def tw3826973339856875398:=0
def tw3640299742205502843:=0
def tw3413772161790508734:=0
def tw3382647995007994548:=0
def tw3294127171416988833:=0
def tw3238412600124492908:=0
def tw3110126569753214883:=0
def tw2885792065437771477:=0
def tw2776241624372941054:=0
def tw17900177765160261322:=0
def tw17638981894666091091:=0
def tw175143247046916154:=0
def tw17465822229008165340:=0
def tw16939250112140595067:=0
def tw16895473607978549647:=0
def tw16778633039723471271:=0
def tw1649365324986411871:=0
def tw16405390314850316155:=0
def tw16296204602328472153:=0
def tw16248071624001056838:=0
def tw15765781315620519477:=0
def tw15756739614403843438:=0
def tw15329554123624300607:=0
def tw15314794968756541702:=0
def tw15032697057288085192:=0
def tw14953324089722824504:=0
def tw14776462766138641218:=0
def tw14492908116054118356:=0
def tw14307354591243264726:=0
def tw14199469346161023430:=0
def tw14039202447577552984:=0
def tw13815970028887563639:=0
def tw13736944033308748739:=0
def tw13613950538182998322:=0
def tw13605125128197977858:=0
def tw13528819496925691375:=0
def tw13353630367599662779:=0
def tw13193071353275542852:=0
def tw13145271499420341432:=0
def tw13103859473732542914:=0
def tw12730250628357362405:=0
def tw1272323837255905700:=0
def tw11809232481988901129:=0
def tw11717915317521135481:=0
def tw11311246966332937597:=0
def tw11167433628553835288:=0
def tw10567944372886446279:=0
def tw10541489036363837869:=0
end PySem.W.Fast
open PySem PySem.W PyProof.Rows
set_option maxRecDepth 100000 in
set_option maxHeartbeats 0 in
theorem PySem.Challenge.cw_trunksay_k64_whole_counts_by_shapes_holds : PySem.Challenge.rw_trunksay_k64_whole_counts_by_shapes.Holds := by
 w_on; o_law; k_head; (case hw => w_witness2)
 k_fill
 refine L2.walkW (l := PySem.Challenge.rw_trunksay_k64_whole_counts_by_shapes) (k := 41) (x := "_law_script") (G := P.f_q33) rfl rfl ⟨rfl, by decide, by decide⟩ (fun w h Y => PySem.W.kIn_of Y) ?F P.law_ok
 case F =>
  intro w mg fa h KX G hmg
  refine' P.all_mk KX G hmg ?_ ?_ ?_ ?_ ?_ ?_ ?_ ?_ ?_ ?_ ?_ ?_ ?_ ?_ ?_ ?_ ?_ ?_ ?_ ?_ ?_ ?_ ?_ ?_ ?_ ?_ ?_ ?_ ?_ ?_ ?_ ?_ ?_ ?_ ?_ ?_ ?_ ?cl_Course ?_ ?_ ?_ ?_ ?_ ?_ ?_ ?_ ?_ ?_ ?_ ?_ ?_ ?_ ?dm_Course___init__ ?dm_Course_counts_below ?dm_Course_let_all ?_ ?x_TooGreat ?_ ?_ ?_ ?_ ?_ ?_ ?_ ?_ ?_ ?_ ?_ ?_ ?_ ?_ ?_
  any_goals (refine' L2.DefIn.mk ?a ?l ?c ?k; (case a => k_is); (case l => k_is); (case c => k_is); (case k => k_is))
  any_goals k_is
  (case cl_Course => exact ⟨by kernel_rfl, by kernel_rfl, by kernel_rfl, by first | k_is | kernel_rfl⟩)
  (case dm_Course___init__ => (refine' L2.DefM.mk ?a ?i ?l ?c ?k; (case a => k_is); (case i => first | k_is | kernel_rfl); (case l => k_is); (case c => k_is); (case k => k_is)))
  (case dm_Course_counts_below => (refine' L2.DefM.mk ?a ?i ?l ?c ?k; (case a => k_is); (case i => first | k_is | kernel_rfl); (case l => k_is); (case c => k_is); (case k => k_is)))
  (case dm_Course_let_all => (refine' L2.DefM.mk ?a ?i ?l ?c ?k; (case a => k_is); (case i => first | k_is | kernel_rfl); (case l => k_is); (case c => k_is); (case k => k_is)))
  (case x_TooGreat => k_exc)
