import PyProof.Rows.All
import Wide.All
import OpenK.AllK
import Wide.FinOn
import Lean
import PyProof.EqAt
import PyProof.EqKinds
import PyProof.TupleCall
import PyProof.StrLawsIn
import PyProof.StationsW
import PyProof.NeData
import OpenK.KOwn
import PyProof.NsDelKeeps
import PyProof.ExcArgsOwn
import PyProof.ExcAttrAll.ValueError
import PyProof.IsiH_tuple
import KE.KIsAll
import PyProof.CollectStr
import PyProof.ZipIter
import PyProof.Rows.ZipGen
import PyProof.JoinWalk
import PyProof.CollectIter
import PyProof.EnumMake
import PyProof.SumAny
import PyProof.DictTruth
import KE.KDictList
import KE.KNest
import KE.KEqDict
import PyProof.ListRange
import KE.KEqSeq
import PySem.Challenge.RW_trunksay_k25_least_machine_rooms
set_option Elab.async false
set_option linter.all false
set_option genSizeOf false
set_option maxRecDepth 100000
def aa:=@List.getElem?_eq_some_iff
def ae:=@List.getElem?_eq_getElem
def ag:=@List.prefix_refl
def ah:=@PySem.wpAny_bind
def ai:=@List.length_map
def ak:=@List.getElem?_map
def al:=@List.mem_of_getElem?
def am:=@if_pos
def ao:=@PySem.Heap.get?_push_of_some
def aq:=@List.prefix_append
def ar:=@List.mem_map
def au:=@Nat.le_refl
def av:=@List.getElem?_append_left
def aw:=@List.append_assoc
def ax:=@PySem.wpAny_pure
def az:=@if_neg
def aA:=@List.mem_cons_of_mem
def aC:=@List.length_append
def aE:=@List.getD_eq_getElem?_getD
def aF:=@List.map_cons
def aH:=@List.size_toArray
def aI:=@PySem.Heap.lt_size
def aK:=@List.mem_cons
def aL:=@List.mem_append
def aM:=@List.mem_range
def aN:=@List.mem_cons_self
def aQ:=@beq_eq_false_iff_ne
def aR:=@Int.toNat_natCast
def aS:=@List.map_map
def aT:=@PySem.Heap.get?_push_size
def aU:=@Option.some.inj
def aW:=@List.mem_append_right
def aX:=@Option.map_eq_some_iff
def a6:=@Nat.lt_of_lt_of_le
def a7:=@List.length_take
def a8:=@Bool.and_eq_true
def a9:=@List.getElem?_of_mem
def a_:=@Nat.le_trans
def bb:=@decide_eq_false
def bf:=@List.map_congr_left
def bh:=@List.getElem?_set_self
def bn:=@decide_eq_true_iff
def bp:=@List.getElem?_set_ne
def br:=@List.length_cons
def bx:=@List.find?_cons
def bz:=@List.mem_singleton
def bA:=@Nat.lt_irrefl
def bB:=@List.getElem?_take_of_lt
def bD:=@Nat.ne_of_lt
def bF:=@List.nodup_cons
def bH:=@decide_eq_true
def bL:=@PySem.wpAny_loadPart'
def bO:=@Bool.false_ne_true
def bP:=@List.append_nil
def bR:=@List.getElem?_concat_length
def bV:=@List.map_append
def bZ:=@List.filter_cons
def b8:=@Nat.not_lt_zero
def b9:=@List.length_range
def b_:=@List.pairwise_cons
def ca:=@Bool.and_true
def cv:=@Nat.le_of_ble_eq_true
def cw:=@Nat.lt_or_ge
def cy:=@List.getElem?_append_right
def cz:=@beq_iff_eq
def cB:=@Bool.false_eq_true
def cC:=@PySem.wpAny_holding
def cD:=@List.all_eq_true
def cG:=@Nat.zero_le
def cH:=@PySem.Heap.SameBut.update
def cJ:=@Function.comp_def
def cN:=@List.mem_append_left
def cQ:=@List.take_of_length_le
def cR:=@Int.zero_add
def cS:=@List.getElem_map
def cW:=@List.getElem?_range
def cX:=@List.findSome?_cons
def de:=@List.mem_filter
def df:=@Nat.le_of_lt
def dg:=@List.map_nil
def dq:=@congrArg
def du:=@PySem.wpAny_callSpecial?_slot
def dw:=@PySem.wpAny_call_entry
def dy:=@Nat.le_of_not_lt
def dA:=@PyProof.Rows.callWith_type1
def dF:=@if_true
def dG:=@List.nodup_append
def dJ:=@List.length_nil
def dL:=@PyProof.Rows.slot_tuple_getitem
def dO:=@PySem.wpAny_mono
def dP:=@List.length_drop
def dQ:=@beq_self_eq_true
def dZ:=@Bool.not_true
def ej:=@PySem.wpAny_newObj_type
def eA:=@List.take_add_one
def eB:=@PyProof.Rows.boot_tuple
def eD:=@List.length_pos_iff
def eS:=@List.take_length
def eZ:=@PySem.Calls.spliced_cons
def e_:=@PySem.wpAny_Call_Name_kw
def fg:=@PySem.F.slot_tuple_iterator_next
def fj:=@List.length_filter_le
def fm:=@List.set_append_right
def fB:=@List.drop_eq_getElem_cons
def fD:=@PySem.wpAny_passesOwn
def fE:=@PySem.wpAny_specialOf
def fF:=@Bool.or_eq_true
def fJ:=@List.any_eq_false
def fO:=@List.filterMap_cons
def fP:=@Array.length_toList
def fU:=@List.lookup_cons
def fV:=@PySem.wpAny_seqItems
def fW:=@List.any_eq_true
def ga:=@PySem.Calls.callWith_builtin
def gb:=@List.range_succ_eq_map
def gc:=@Nat.zero_add
def gf:=@Nat.eq_zero_or_pos
def gp:=@if_false
def gq:=@Nat.le_antisymm
def gr:=@Bool.eq_iff_iff
def gv:=@PySem.Heap.get?_update_self
def gw:=@List.getElem?_eq_none
def gy:=@PySem.wpAny_callSpecialIfBoundUnlessNone?_slot
def gC:=@PySem.wpAny_truthy_bool
def gD:=@List.take_sublist
def gE:=@Option.isSome_map
def gF:=@Nat.lt_succ_of_lt
def gG:=@Bool.not_eq_true'
def gH:=@Nat.lt_trichotomy
def gO:=@PySem.wpAny_field
def gP:=@PySem.Calls.evalArgs_plain
def gQ:=@PySem.wpAny_tryCatch
def gR:=@PySem.Obj.data_mapDictKeys
def gS:=@Nat.pow_le_pow_right
def gY:=@PySem.wpAny_forIn_list
def gZ:=@Nat.lt_succ_self
def g6:=@List.getElem_mem
def hV:=@List.length_set
def hW:=@Int.emod_nonneg
def hX:=@PySem.wpAny_rule
def hZ:=@List.find?_eq_none
def ib:=@List.getElem?_replicate
def ie:=@Nat.le_succ
def ig:=@List.length_eq_zero_iff
def iu:=@PySem.Calls.spliced_nil
def iw:=@PySem.Heap.get?_update_other
def iy:=@PySem.codeAny_mono
def iz:=@Nat.add_zero
def iA:=@Nat.lt_of_succ_lt_succ
def iB:=@of_decide_eq_true
def iC:=@List.length_pos_of_mem
def iD:=@List.pairwise_map
def iE:=@Nat.mul_le_mul
def iF:=@List.flatMap_cons
def iK:=@List.length_singleton
def iL:=@PySem.isSubtype_tuple_tuple
def iV:=@PySem.wpAny_isInstance
def iW:=@List.mem_flatMap
def iX:=@List.not_mem_nil
def jd:=@PySem.Around.under_plainId
def je:=@PySem.boot_len
def jl:=@PySem.wpAny_execs_nil
def jm:=@List.of_mem_zip
def jn:=@PySem.F.args_tuple_iterator_next_1
def jo:=@PySem.wpAny_updateSeq
def jp:=@List.nil_append
def jq:=@Int.natCast_mul
def jr:=@Nat.min_eq_left
def jt:=@List.range_succ
def ju:=@Option.map_some
def jA:=@List.replicate_succ
def jB:=@Int.toNat_of_nonneg
def jC:=@List.flatMap_append
def jD:=@Nat.mul_le_mul_left
def jL:=@PySem.call_meetsIn
def jM:=@PySem.F.entry_tuple_iterator_next
def jN:=@List.map_set
def jO:=@List.idxOf_lt_length_of_mem
def jS:=@LawfulBEq.eq_of_beq
def ki:=@PySem.Calls.Name_function_global
def kj:=@PySem.wpAny_pyIter_tuple
def ko:=@Nat.lt_of_le_of_lt
def kq:=@PySem.tupleKind_room_in1
def kr:=@PySem.Heap.size_push
def kt:=@Bool.not_false
def ku:=@List.Perm.refl
def kw:=@PySem.wpAny_tupleItemsOf
def ky:=@Array.forIn_toList
def kA:=@List.nodup_nil
def kB:=@Int.emod_lt_of_pos
def kC:=@List.getElem_range
def kE:=@Nat.eq_or_lt_of_le
def kL:=@PySem.Calls.call_function_entry
def kM:=@List.mem_of_find?_eq_some
def kN:=@List.getElem?_zip_eq_some
def kO:=@List.findIdx?_eq_none_iff
def kP:=@List.getElem?_eq_none_iff
def lg:=@PySem.sizeLine_eq
def lh:=@PySem.wpAny_Call_method
def lj:=@List.map_id
def lp:=@PySem.wpAny_letGo
def lq:=@List.ext_getElem?
def lu:=@PySem.wpAny_dictEntries
def lw:=@List.idxOf_append
def lE:=@PySem.wpAny_standAt
def lF:=@Option.isSome_iff_exists
def lG:=@PySem.AutoSeq1.sub_tuple_tuple
def lH:=@List.all_cons
def lI:=@PySem.plainId_quiet
def l9:=@PySem.noFill_tuple_add
def l_:=@PySem.wpAny_getItem_of
def ma:=@Int.eq_ofNat_of_zero_le
def md:=@List.getElem?_cons_succ
def me:=@List.nodup_range
def mf:=@List.ext_getElem
def mh:=@List.cons_append
def mi:=@Nat.le_mul_of_pos_right
def mj:=@Nat.add_sub_cancel_left
def mN:=@PySem.wpAny_Name
def mO:=@PySem.wpAny_pyIter_rangeiter
def mP:=@PyProof.noPylong_small
def mQ:=@PyProof.Rows.subscriptTail_builtinR
def mR:=@PySem.call_meets
def mS:=@List.drop_eq_nil_of_le
def mT:=@List.drop_of_length_le
def mU:=@dif_pos
def mV:=@PySem.wpAny_call
def mW:=@PySem.wpAny_pyNext_dict_item
def mX:=@List.pairwise_lt_range
def ng:=@PySem.codeAny_builtin
def nh:=@List.cons.injEq
def ni:=@PySem.wpAny_ret_mkInt
def nj:=@List.filter_map
def no:=@Int.natCast_add
def nz:=@PySem.wpAny_isTrue_Compare1
def nA:=@List.length_replicate
def nB:=@PySem.F.slot_enumerate_next
def nC:=@PySem.wpAny_notOrdered_dict
def nD:=@List.findIdx?_toArray
def nE:=@List.getElem?_reverse
def nF:=@List.take_append_drop
def nZ:=@Prod.mk.inj
def n5:=@Nat.add_mul
def oS:=@PyProof.Rows.Constant_none
def oT:=@PySem.seq_tuple_add
def oU:=@List.any_cons
def oV:=@Bool.false_or
def oX:=@Bool.true_and
def oY:=@PySem.SeqAt.str_beq
def oZ:=@Nat.add_assoc
def o_:=@List.sum_cons
def pb:=@List.map_drop
def pL:=@PyProof.Rows.boot_range
def qz:=@Nat.ne_of_gt
def qA:=@PySem.concat_meets
def qB:=@PySem.wpAny_typeOf
def qC:=@PySem.seqIndex_neg
def qD:=@Nat.lt_trans
def qE:=@Nat.sub_self
def qF:=@Nat.mul_comm
def qG:=@List.set_set
def qH:=@or_false
set_option compiler.extract_closed false
noncomputable section
variable{us bC:List PySem.Value}{x name qual:PySem.Str}{u v:PySem.Value}{a b it f cd:PySem.Addr}{o:PySem.Obj}{P prog:PySem.Program}{h h' base:PySem.Heap}{α β:Type}{pins:List (PySem.Addr×PySem.Obj)}{s:PySem.Shared}{g':Array PySem.GenState}{t' N i j n m kk q L:Nat}{ch fp μ μ':List PySem.Addr}{M:PySem.Model}{A:PySem.Around}{E Q:PySem.Value->PySem.Shared->Prop}{e c tg iter mM:PySem.Expr}{pos iU p fI p2 c8:PySem.Pos}{op:PySem.CmpOp}{K:PySem.W.Frag}{es kJ HY:List PySem.Expr}{g:PySem.Value->PySem.Value->PySem.Sem PySem.Value}{body:List PySem.Stmt}{C cl:List (PySem.Str×PySem.Addr)}{mA mg:PySem.Str->Option PySem.Value}{fd:PySem.FuncData}{ps nm:List PySem.Str}{kindOf:PySem.Str->Option PySem.NameKind}{sc scope:PySem.Scope}{id:String}{T:Nat->Nat->Nat->Nat}{l row rs:List Nat}{items:Array PySem.Value}{ns:List Int}{XP:(PySem.Str->Option PySem.Value)->PySem.Heap->Prop}{YP:PySem.World->PySem.Heap->Prop}{env:PySem.Env}{ks:List (Option PySem.Expr)}{cap:List (Option Nat)}{φ:PySem.Heap->Prop}{ls:List (List Nat)}{B B':Nat->Nat}
open PySem.W (Frag)
open PySem.W (kia_one fnOf codeIn keepIn codeHdIn kla_obj nsIn mg_of sortI fnMade mg_none_of)
namespace L2
open PySem PySem.Spec PyProof.Rows
abbrev fZ:=Sum Int Str
def u4:fZ->Value->Bool
 |.inl k,v=>Value.isInt k v
 |.inr x,v=>Value.isStrOf x v
def To(w:World):fZ->Int
 |.inl k=>hashInt k
 |.inr x=>hashStr w x
theorem eJ:∀{k:fZ} {v:Value},u4 k v=true->(∃i t,k=Sum.inl i/\v=Value.int i t)\/(∃x t,k=Sum.inr x/\v=Value.str x t)
 |.inl i,v,h=>by
  obtain⟨t,e⟩:=Value.isInt_shape (k:=i) (v:=v) h
  exact .inl ⟨i,t,rfl,e⟩
 |.inr x,v,h=>by
  obtain⟨t,e⟩:=Value.isStrOf_shape (x:=x) (v:=v) h
  exact .inr ⟨x,t,rfl,e⟩
theorem CO(i:Int)(t:Tok):u4 (.inl i) (.int i t)=true:=by simp[u4,Value.isInt]
theorem CP(x:Str)(t:Tok):u4 (.inr x) (.str x t)=true:=by simp[u4,Value.isStrOf]
theorem Me(a b:Int):decide ((Sum.inl a:fZ)=Sum.inl b)=(a==b):=by
 by_cases e:a=b
 ·subst e;simp
 ·have h:¬ (Sum.inl a:fZ)=Sum.inl b:=fun q=>e (Sum.inl.inj q)
  rw[bb h]
  exact(aQ.mpr e).symm
theorem Mf(a b:Str):decide ((Sum.inr a:fZ)=Sum.inr b)=decide (a=b):=by
 by_cases e:a=b
 ·subst e;simp
 ·have h:¬ (Sum.inr a:fZ)=Sum.inr b:=fun q=>e (Sum.inr.inj q)
  rw[bb h,bb e]
theorem Mg(a:Int)(b:Str):decide ((Sum.inl a:fZ)=Sum.inr b)=false:=bb (fun q=>nomatch q)
theorem Mh(a:Str)(b:Int):decide ((Sum.inr a:fZ)=Sum.inl b)=false:=bb (fun q=>nomatch q)
def eF(prog:Program)(w:World):PySem.KeyKind prog w fZ where
 is:=u4
 hash:=To w
 inj:=fun v a b ha hb=>by
  rcases eJ ha with⟨i,t,rfl,rfl⟩|⟨x,t,rfl,rfl⟩
  ·rcases eJ hb with⟨j,u,rfl,e⟩|⟨y,u,rfl,e⟩
   ·injection e with e1 _;rw[e1]
   ·exact nomatch e
  ·rcases eJ hb with⟨j,u,rfl,e⟩|⟨y,u,rfl,e⟩
   ·exact nomatch e
   ·injection e with e1 _;rw[e1]
 byValue:=fun k v h=>by
  rcases eJ h with⟨i,t,rfl,rfl⟩|⟨x,t,rfl,rfl⟩<;>rfl
 pyHash:=fun hv h=>by
  rcases eJ hv with⟨i,t,rfl,rfl⟩|⟨x,t,rfl,rfl⟩
  ·exact wpAny_pyHash_int h
  ·exact wpAny_pyHash_str h
 eqBool:=fun hu hv h=>by
  rcases eJ hu with⟨i,t,rfl,rfl⟩|⟨x,t,rfl,rfl⟩
  ·rcases eJ hv with⟨j,u,rfl,rfl⟩|⟨y,u,rfl,rfl⟩
   ·rw[Me]at h;exact wpAny_eqBool_int h
   ·rw[Mg]at h;exact SeqAt.EqAt.int_str i t y u _ _ _ _ h
  ·rcases eJ hv with⟨j,u,rfl,rfl⟩|⟨y,u,rfl,rfl⟩
   ·rw[Mh]at h;exact SeqAt.EqAt.str_int x t j u _ _ _ _ h
   ·rw[Mf]at h;exact wpAny_eqBool_str h
 «strs»:=fun k x t v h=>by
  rcases eJ h with⟨i,u,rfl,e⟩|⟨y,u,rfl,e⟩
  ·exact nomatch e
  ·injection e with e1 _
   subst e1
   cases v<;>rfl
theorem x5(prog:Program)(w:World)(i:Int)(t:Tok):(eF prog w).is (.inl i) (.int i t)=true:=CO i t
theorem x6(prog:Program)(w:World)(x:Str)(t:Tok):(eF prog w).is (.inr x) (.str x t)=true:=CP x t
inductive V where
 |non|bl (b:Bool)|int (i:Int)|str (x:Str)|byt (b:Array UInt8)|flt (b:UInt64)|ref (a:Addr)|ty (n:String)
 deriving DecidableEq
def bN:V->Value->Prop
 |.non,u=>u=Value.none
 |.bl b,u=>u=Value.bool b
 |.int i,u=>∃t,u=Value.int i t
 |.str x,u=>∃t,u=Value.str x t
 |.byt b,u=>∃t,u=Value.bytes b t
 |.flt b,u=>∃t,u=Value.float b t
 |.ref a,u=>u=Value.ref a
 |.ty n,u=>u=Value.type n
abbrev cA:List V->List Value->Prop:=Paired bN
theorem cA.length{xs:List V}(r:cA xs us):xs.length=us.length:=Paired.length r
theorem cA.get:∀{xs:List V} {us:List Value} {i:Nat} {x:V},cA xs us->xs[i]?=some x->∃u,us[i]?=some u/\bN x u
 |_,_,_,_,.nil,e=>by simp at e
 |_,_,0,_,.cons r _,e=>by simp at e;subst e;exact⟨_,rfl,r⟩
 |_,_,i+1,x,.cons _ t,e=>by
  obtain⟨u,h1,h2⟩:=cA.get (i:=i) (x:=x) t (by simpa using e)
  exact⟨u,by simpa using h1,h2⟩
theorem cA.set{x:V}(r:bN x u):∀{xs:List V} {us:List Value} (i:Nat),cA xs us->cA (xs.set i x) (us.set i u)
 |_,_,_,.nil=>.nil
 |_,_,0,.cons _ t=>.cons r t
 |_,_,i+1,.cons q t=>.cons q (cA.set r i t)
theorem cA.append:∀{xs ys:List V} {us ws:List Value},cA xs us->cA ys ws->cA (xs++ys) (us++ws)
 |_,_,_,_,.nil,s=>s
 |_,_,_,_,.cons r t,s=>.cons r (cA.append t s)
theorem cA.take:∀{xs:List V} {us:List Value} (n:Nat),cA xs us->cA (xs.take n) (us.take n)
 |_,_,0,_=>.nil
 |_,_,_+1,.nil=>.nil
 |_,_,n+1,.cons r t=>.cons r (cA.take n t)
theorem cA.drop:∀{xs:List V} {us:List Value} (n:Nat),cA xs us->cA (xs.drop n) (us.drop n)
 |_,_,0,r=>r
 |_,_,_+1,.nil=>.nil
 |_,_,n+1,.cons _ t=>cA.drop n t
def pP:Option V->Option Value->Prop
 |some v,some u=>bN v u
 |none,none=>True
 |_,_=>False
def KV{κ:Type}:List (κ×V)->List (κ×Value)->Prop:=Paired fun(p:κ×V) (q:κ×Value)=>p.1=q.1/\bN p.2 q.2
def kV:fZ->V
 |.inl i=>.int i
 |.inr x=>.str x
inductive HO where
 /-- a list -/
 |lst (xs:List V)
 /-- a tuple (never changes) -/
 |tup (xs:List V)
 /-- a dict whose keys are ints and texts;one whose keys are tuples of ints and texts (the empty one is both) -/
 |dK (kvs:List (fZ×V))|dT (kvs:List (List fZ×V))
 /-- a set of ints: bC members,bC size -/
 |set (S:Int->Bool) (n:Nat)
 /-- an instance of the class at C,bC dict at dx,bC attributes -/
 |ins (C dx:Addr) (fs:List (Str×V))
 /-- the dict of the instance at x -/
 |own (x:Addr)
 /-- the dict of an exception -/
 |xd (fs:List (Str×V))
 /-- a bound method,f of x -/
 |met (f x:Addr)
 /-- a range object lo,lo+1,.. below hi -/
 |rng (lo hi:Int)
 /-- a thing that is known to the object (the script;a dict while a loop walks it): read,never written while it is so -/
 |frz (o:Obj) (u:HO)
 /-- a code object's table -/
 |tbl (ps:Array Value)
 /-- any other thing,by what is true of bC one object (a def of UH own: SetO a S n:=HO.ext fun h=>..) -/
 |ext (φ:Heap->Prop)
abbrev Hp:=Addr->Option HO
def d_(H:Hp)(a:Addr)(o:HO):Hp:=fun b=>if b=a then some o else H b
theorem dD{H:Hp}{o:HO}:d_ H a o a=some o:=by unfold d_;rw[am rfl]
theorem cu{H:Hp}{o:HO}(h:b≠a):d_ H a o b=H b:=by unfold d_;rw[az h]
theorem Pw{H:Hp}{o u:HO}(h:H a=some o)(h':H b=some u)(d:o≠u):a≠b:=by
 intro e;subst e;rw[h]at h';exact d (aU h')
theorem eU{H:Hp}{o:HO}(h:H a=some o)(h':H b=none):a≠b:=by
 intro e;subst e;rw[h]at h';cases h'
section
variable(P:Program)(w:World)
def dR(H:Hp)(h:Heap)(a:Addr):HO->Prop
 |.lst xs=>xs.length<=sizeLine/\∃(bC:List Value) (n:Nat),cA xs bC/\h.get? a=some { cls:=.type "list",data:=.seq bC.toArray n }
 |.tup xs=>xs.length<=sizeLine/\∃bC:List Value,cA xs bC/\IsTup h a bC.toArray
 |.dK kvs=>kvs.length<=sizeLine/\(a==sysModules)=false/\∃vs,KV kvs vs/\h.DictOf (eF P w) a vs
 |.dT kvs=>kvs.length<=sizeLine/\(a==sysModules)=false/\∃xs:List (List fZ×Addr×Value),
   Paired (fun(p:List fZ×V) (q:List fZ×Addr×Value)=>p.1=q.1/\H q.2.1=some (.tup (p.1.map kV))/\bN p.2 q.2.2) kvs xs /\
   ∃o es ep,h.get? a=some o/\o.ExactDict/\o.data=.dict es ep/\es.toList=xs.map (entryOfKey (tupleKind (eF P w)))/\(xs.map (·.1)).Nodup
 |.set S n=>h.SetOf (intKind P w) a S n
 |.ins C dx fs=>H dx=some (.own a)/\fs.length<=1000/\dx≠a/\h.get? a=some (PySem.W.instObj C dx) /\
   ∃mA,h.Ns1 dx mA/\(∀f,pP (fs.lookup f) (mA f))/\PySem.Within mA (fs.map (·.1))
 |.own _=>∃o,h.get? a=some o
 |.xd fs=>∃mA,h.Ns1 a mA/\∀f,pP (fs.lookup f) (mA f)
 |.rng lo hi=>∃t u v,h.get? a=some { cls:=.type "range",data:=.fields #[.int lo t,.int hi u,.int 1 v] }
 |.frz o u=>h.get? a=some o/\dR H h a u
 |.tbl ps=>h.get? a=some { cls:=.none,data:=.fields ps }
 |.met f x=>h.get? a=some (PySem.W.methodObj (.ref f) (.ref x))
 |.ext φ=>φ h/\(∃o,h.get? a=some o)/\∀h1 h2:Heap,φ h1->(∀o,h1.get? a=some o->h2.get? a=some o)->φ h2
def kF(H:Hp)(h:Heap):Prop:=∀a o,H a=some o->dR P w H h a o
end
section
variable{w:World}{H H':Hp}{o:HO}
theorem dR.lt(x:dR P w H h a o):a<h.objs.size:=by
 cases o with
 |lst xs=>obtain⟨_,_,_,_,e⟩:=x;exact aI e
 |tup xs=>obtain⟨_,_,_,p⟩:=x;exact p.lt
 |dK kvs=>obtain⟨_,_,_,_,o,_,_,e,_⟩:=x;exact aI e
 |dT kvs=>obtain⟨_,_,_,_,o,_,_,e,_⟩:=x;exact aI e
 |set S n=>obtain⟨o,_,_,_,e,_⟩:=x;exact aI e
 |ins C dx fs=>obtain⟨_,_,_,e,_⟩:=x;exact aI e
 |own y=>obtain⟨_,e⟩:=x;exact aI e
 |xd fs=>obtain⟨_,⟨_,_,_,e,_⟩,_⟩:=x;exact aI e
 |rng lo hi=>obtain⟨_,_,_,e⟩:=x;exact aI e
 |frz ob u=>obtain⟨e,_⟩:=x;exact aI e
 |tbl ps=>exact aI (show h.get? a=some _ from x)
 |met f y=>exact aI (show h.get? a=some _ from x)
 |ext φ=>obtain⟨_,⟨_,e⟩,_⟩:=x;exact aI e
theorem Paired.mapP{F G:α->β->Prop}:∀{l₁:List α} {l₂:List β},Paired F l₁ l₂->(∀a b,F a b->G a b)->Paired G l₁ l₂
 |_,_,.nil,_=>.nil
 |_,_,.cons r t,f=>.cons (f _ _ r) (Paired.mapP t f)
theorem Paired.imp'{F G:α->β->Prop}(f:∀a b,F a b->G a b){l₁:List α}{l₂:List β}(r:Paired F l₁ l₂):Paired G l₁ l₂:=Paired.mapP r f
theorem dR.stay(x:dR P w H h a o)(k:∀b u,(b=a\/H b=some (.own a))->h.get? b=some u->h'.get? b=some u)
  (ho:∀b,H b=some (.own a)->H' b=some (.own a)) (ht:∀b xs,H b=some (.tup xs)->H' b=some (.tup xs)):dR P w H' h' a o:=by
 induction o with
 |lst xs=>obtain⟨z,bC,n,r,e⟩:=x;exact⟨z,bC,n,r,k _ _ (.inl rfl) e⟩
 |tup xs=>obtain⟨z,bC,r,ob,e,c⟩:=x;exact⟨z,bC,r,ob,k _ _ (.inl rfl) e,c⟩
 |dK kvs=>obtain⟨z,y,vs,r,ob,es,ep,e,c⟩:=x;exact⟨z,y,vs,r,ob,es,ep,k _ _ (.inl rfl) e,c⟩
 |dT kvs=>
  obtain⟨z,y,xs,r,ob,es,ep,e,c⟩:=x
  exact⟨z,y,xs,Paired.mapP r fun p q z=>⟨z.1,ht _ _ z.2.1,z.2.2⟩,ob,es,ep,k _ _ (.inl rfl) e,c⟩
 |set S n=>obtain⟨ob,es,ep,t,e,c⟩:=x;exact⟨ob,es,ep,t,k _ _ (.inl rfl) e,c⟩
 |ins C dx fs=>
  obtain⟨d,z,ne,e,mA,⟨od,es,ep,e2,c⟩,r⟩:=x
  exact⟨ho _ d,z,ne,k _ _ (.inl rfl) e,mA,⟨od,es,ep,k _ _ (.inr d) e2,c⟩,r⟩
 |own y=>obtain⟨ob,e⟩:=x;exact⟨ob,k _ _ (.inl rfl) e⟩
 |xd fs=>obtain⟨mA,⟨od,es,ep,e,c⟩,r⟩:=x;exact⟨mA,⟨od,es,ep,k _ _ (.inl rfl) e,c⟩,r⟩
 |rng lo hi=>obtain⟨t,u,v,e⟩:=x;exact⟨t,u,v,k _ _ (.inl rfl) e⟩
 |frz ob u ih=>obtain⟨e,q⟩:=x;exact⟨k _ _ (.inl rfl) e,ih q⟩
 |tbl ps=>
  have e:h.get? a=some { cls:=.none,data:=.fields ps }:=x
  show h'.get? a=some { cls:=.none,data:=.fields ps }
  exact k a _ (.inl rfl) e
 |met f y=>
  have e:h.get? a=some (PySem.W.methodObj (.ref f) (.ref y)):=x
  show h'.get? a=some (PySem.W.methodObj (.ref f) (.ref y))
  exact k a _ (.inl rfl) e
 |ext φ=>obtain⟨p,⟨o,e⟩,st⟩:=x;exact⟨st _ _ p fun o q=>k _ _ (.inl rfl) q,⟨o,k _ _ (.inl rfl) e⟩,st⟩
theorem kF.lt(x:kF P w H h)(e:H a=some o):a<h.objs.size:=(x a o e).lt
theorem kF.fresh(x:kF P w H h)(e:h.objs.size<=a):H a=none:=by
 cases q:H a with
 |none=>rfl
 |some u=>exact absurd (a6 (x.lt q) e) (bA _)
theorem kF.kept(x:kF P w H h)(k:∀b u,h.get? b=some u->h'.get? b=some u):kF P w H h':=fun a o e=>
 (x a o e).stay (fun b u _ q=>k b u q) (fun _ q=>q) fun _ _ q=>q
theorem kF.laid(x:kF P w H h)(k:∀b u,h.get? b=some u->h'.get? b=some u)(hp:h.objs.size<=a)(new:dR P w (d_ H a o) h' a o):kF P w (d_ H a o) h':=fun b u e=>by
 have hn:=x.fresh hp
 by_cases hb:b=a
 ·subst hb;rw[dD]at e;cases e;exact new
 ·rw[cu hb]at e
  exact(x b u e).stay (fun c v _ q=>k c v q) (fun c q=>by rw[cu (eU q hn)];exact q) fun c xs q=>by rw[cu (eU q hn)];exact q
end
def Rd(H:Hp)(a:Addr)(u:HO):Prop:=H a=some u\/∃o,H a=some (.frz o u)
theorem Rd.ok{w:World}{H:Hp}{u:HO}(r:Rd H a u)(x:kF P w H h):dR P w H h a u:=by
 rcases r with r|⟨o,r⟩
 ·exact x a u r
 ·obtain⟨_,q⟩:=x a _ r
  exact q
def Mi:Option HO->Prop
 |some (.lst _)=>True
 |some (.dK _)=>True
 |some (.dT _)=>True
 |some (.set _ _)=>True
 |some (.ins _ _ _)=>True
 |some (.ext _)=>True
 |_=>False
section
variable{w:World}{H:Hp}{x e:Addr}{o':HO}
theorem kF.write(ok:kF P w H h)(mu:Mi (H x))(he:e=x\/H e=some (.own x))(k:∀b u,b≠e->h.get? b=some u->h'.get? b=some u)(Ps:∃u,h'.get? e=some u)
  (new:dR P w (d_ H x o') h' x o'):kF P w (d_ H x o') h':=fun b u q=>by
 have nown:∀c y,H c=some (.own y)->c≠x:=fun c y r z=>by subst z;rw[r]at mu;exact mu
 have ntup:∀c xs,H c=some (.tup xs)->c≠x:=fun c xs r z=>by subst z;rw[r]at mu;exact mu
 by_cases hb:b=x
 ·subst hb;rw[dD]at q;cases q;exact new
 ·rw[cu hb]at q
  by_cases hbe:b=e
  ·have q':H b=some (.own x):=by
    rcases he with z|z
    ·exact absurd (hbe.trans z) hb
    ·rw[hbe];exact z
   rw[q]at q';cases q'
   obtain⟨v,hv⟩:=Ps
   exact⟨v,by rw[hbe];exact hv⟩
  ·refine(ok b u q).stay (fun c v hc r=>k c v ?_ r) (fun c r=>by rw[cu (nown c b r)];exact r) fun c xs r=>by rw[cu (ntup c xs r)];exact r
   rcases hc with rfl|hc
   ·exact hbe
   ·rintro rfl
    rcases he with z|z
    ·exact nown c b hc z
    ·rw[hc]at z;cases z;exact hb rfl
end
structure Un(fs ex:List Addr)(H H':Hp)(h h':Heap):Prop where
 keep:∀b o,h.get? b=some o->H b=none->b∉fs->b∉ex->h'.get? b=some o
 slot:∀b o,h.get? b=some o->H b=none->b∈fs->b∉ex->∃sl,h'.get? b=some { o with slots:=sl }
 free:∀b o,h.get? b=some o->H b=none->b∉ex->H' b=none
 there:∀b o,h.get? b=some o->b∉ex->∃o',h'.get? b=some o'
 tups:∀b xs,H b=some (.tup xs)->H' b=some (.tup xs)
 frzs:∀b o u,H b=some (.frz o u)->H' b=some (.frz o u)
 tbls:∀b ps,H b=some (.tbl ps)->∃kh,H' b=some (.tbl (ps++kh))
section
variable{fs U1 ex Vg:List Addr}{H H1 H2:Hp}{h1 h2:Heap}{x e:Addr}{o:HO}
theorem Un.any(u:Un fs ex H H1 h h1){ob:Obj}(q:h.get? b=some ob)(n:H b=none)(hx:b∉ex):∃sl,h1.get? b=some { ob with slots:=sl }:=by
 by_cases hb:b∈fs
 ·exact u.slot b ob q n hb hx
 ·exact⟨ob.slots,u.keep b ob q n hb hx⟩
theorem Un.kept(k:∀b u,h.get? b=some u->h'.get? b=some u):Un fs ex H H h h':=
 ⟨fun b ob q _ _ _=>k b ob q,fun b ob q _ _ _=>⟨ob.slots,k b ob q⟩,fun _ _ _ n _=>n,fun b ob q _=>⟨ob,k b ob q⟩,fun _ _ q=>q,fun _ _ _ q=>q,fun _ ps q=>⟨#[],by rw[q];simp⟩⟩
theorem Un.refl:Un fs ex H H h h:=Un.kept fun _ _ q=>q
theorem Un.laid(k:∀b u,h.get? b=some u->h'.get? b=some u)(hp:h.objs.size<=a)(hn:H a=none):Un fs ex H (d_ H a o) h h' where
 keep:=fun b u q _ _ _=>k b u q
 slot:=fun b u q _ _ _=>⟨u.slots,k b u q⟩
 free:=fun b u q n _=>by rw[cu (bD (a6 (aI q) hp))];exact n
 there:=fun b u q _=>⟨u,k b u q⟩
 tups:=fun b xs q=>by rw[cu (eU q hn)];exact q
 frzs:=fun b u xs q=>by rw[cu (eU q hn)];exact q
 tbls:=fun b ps q=>⟨#[],by rw[cu (eU q hn),q];simp⟩
theorem Un.write(mu:Mi (H x))(he:e=x\/H e=some (.own x))(k:∀b u,b≠e->h.get? b=some u->h'.get? b=some u)(Ps:∃u,h'.get? e=some u):Un fs ex H (d_ H x o) h h':=by
 have hx:∀b,H b=none->b≠x:=fun b n z=>by subst z;rw[n]at mu;exact mu
 have hb:∀b,H b=none->b≠e:=fun b n z=>by
  subst z
  rcases he with r|r
  ·exact hx b n r
  ·rw[n]at r;cases r
 have hm:∀b u,H b=some u->¬ Mi (some u)->b≠x:=fun b u q nm z=>by subst z;rw[q]at mu;exact nm mu
 refine⟨fun b u q n _ _=>k b u (hb b n) q,fun b u q n _ _=>⟨u.slots,k b u (hb b n) q⟩,fun b u q n _=>by rw[cu (hx b n)];exact n,fun b u q _=>?_,
  fun b xs q=>by rw[cu (hm b _ q fun z=>z)];exact q,fun b u xs q=>by rw[cu (hm b _ q fun z=>z)];exact q,fun b ps q=>⟨#[],by rw[cu (hm b _ q fun z=>z),q];simp⟩⟩
 by_cases hbe:b=e
 ·subst hbe;exact Ps
 ·exact⟨u,k b u hbe q⟩
end
def SY(h:Heap)(H:Hp):List Addr:=(List.range h.objs.size).filter fun a=>(H a).isSome
def uD(h:Heap)(H:Hp):Heap:=PySem.W.hideAll h (SY h H)
theorem CQ(h:Heap)(H:Hp):(uD h H).objs.size=h.objs.size:=PySem.W.hideAll_size _ _
theorem Em{H:Hp}(e:h.get? b=some o)(n:H b=none):(uD h H).get? b=some o:=
 PySem.W.hideAll_get _ e fun hm=>by
  have q:(H b).isSome=true:=(de.mp hm).2
  rw[n]at q;simp at q
theorem Ik{H:Hp}(e:(uD h H).get? b=some o):h.get? b=some o/\H b=none:=by
 have e':h.get? b=some o:=PySem.W.of_hideAll (SY h H) e
 refine⟨e',?_⟩
 cases q:H b with
 |none=>rfl
 |some x=>
  have hm:b∈SY h H:=de.mpr ⟨aM.mpr (aI e'),by simp[q]⟩
  have z:(uD h H).get? b=none:=PySem.W.hideAll_none (SY h H) hm
  rw[z]at e;cases e
def Il(g h:Heap)(L:Addr):List (Addr×Obj):=(List.range h.objs.size).filterMap fun a=>if a=L\/(g.get? a).isSome=true then none else(h.get? a).map fun o=>(a,o)
def rest(g h:Heap)(L d:Addr):List (Addr×Obj):=(Il g h L).filter fun p=>decide (p.1≠d)
structure Mod(K:Frag)(mg:Str->Option Value)(base:Heap):Prop where
 kin:K.In base
 glob:base.Ns mainGlobals mg
 blt:∃mb,base.Ns builtinsNs mb/\∀x:Str,x ≠ "__name__"->mb x=bootBuiltins x
 nolimit:base.NoLimit
structure Cx where
 prog:Program
 w:World
 K:Frag
 mg:Str->Option Value
 base:Heap
 A:Around
 N:List Str
 s₀:Shared
 H₀:Hp
 env:Env
 outer:List Env
 stack:List Env
 ex:List Addr
 fn:Str->Bool
 calm:Bool
 pn:List (Addr×Obj)
 xe:Value->Shared->Prop
def ml(l:List Env):List Addr:=l.filterMap (·.frame)
abbrev Cx.fs(X:Cx):List Addr:=ml X.outer
def Pf(sc:Scope)(x:Str):Prop:=sc.names.lookup x=some .local\/sc.names.lookup x=some .cell\/sc.names.lookup x=some .free
def Ec(sc:Scope)(x:Str):Prop:=sc.names.lookup x=some .local\/sc.names.lookup x=some .cell
def Tp(env:Env)(h:Heap)(m:Str->Option Value)(x:Str)(u:Value):Prop:=
 (env.kindOf x=some .local/\m x=some u)\/((env.kindOf x=some .cell\/env.kindOf x=some .free)/\∃c,env.cells.lookup x=some c/\h.IsCell c (some u))
structure Cx.Ok(X:Cx):Prop where
 mod:Mod X.K X.mg X.base
 kind:X.env.scope.kind=.function
 glob:X.env.globals=mainGlobals
 blt:X.env.builtins=builtinsNs
 above:X.s₀.heap.objs.size<=X.env.locals
 inj:∀x y c,X.env.cells.lookup x=some c->X.env.cells.lookup y=some c->x=y
 has:∀x,(X.env.kindOf x=some .cell\/X.env.kindOf x=some .free)->∃c,X.env.cells.lookup x=some c
 cab:∀x c,X.fn x=true->X.env.cells.lookup x=some c->X.s₀.heap.objs.size<=c
 hd:X.calm=true->X.A.handled=none
 frames:X.A.frames=some X.stack
 stk:X.stack=X.outer\/(X.stack=X.env::X.outer/\X.env.frame=some X.env.locals)
 exf:∀b∈X.ex,b≠X.env.locals/\∀x c,X.env.cells.lookup x=some c->c≠b
 bs:∀b o,X.base.get? b=some o->X.s₀.heap.get? b=some o/\X.H₀ b=none
 bsz:X.base.objs.size<=X.s₀.heap.objs.size
 noex:∀b o,X.base.get? b=some o->b∉X.ex
 exfs:∀b∈X.ex,b∉X.fs
 funs:X.s₀.heap.FunFrames X.base X.outer
 frf:∀b∈X.fs,X.H₀ b=none
structure bv(X:Cx)(pins:List (Addr×Obj))(σ:List (Option V))(H:Hp)(s:Shared):Prop where
 ok:X.Ok
 os:s.os=X.s₀.os
 bare:AllBare s.gens
 base:Un X.fs X.ex X.H₀ H X.s₀.heap s.heap
 loc:∃m,s.heap.Ns X.env.locals m/\∀(i:Nat) (x:Str) (v:V),X.N[i]?=some x->σ[i]?=some (some v)->Pf X.env.scope x->∃u,bN v u/\Tp X.env s.heap m x u
 cell:∀x c,X.env.cells.lookup x=some c->∃v,s.heap.IsCell c v
 free:H X.env.locals=none
 freeC:∀x c,X.env.cells.lookup x=some c->H c=none
 pin:∀p∈X.pn++pins,s.heap.get? p.1=some p.2/\H p.1=none/\p.1≠X.env.locals/\p.1∉X.fs/\∀v,p.2.data≠.cell v
 hok:kF X.prog X.w H s.heap
 len:σ.length=X.N.length
section
variable{X:Cx}{σ:List (Option V)}{H H':Hp}
theorem Cx.Ok.nofr(ok:X.Ok)(e:X.base.get? b=some o):b∉X.fs:=fun hb=>by
 have:=(ok.funs.mem hb).1
 rw[e]at this;cases this
theorem bv.bs(I:bv X pins σ H s):∀b o,X.base.get? b=some o->s.heap.get? b=some o/\H b=none:=fun b o e=>
 ⟨I.base.keep b o (I.ok.bs b o e).1 (I.ok.bs b o e).2 (I.ok.nofr e) (I.ok.noex b o e),I.base.free b o (I.ok.bs b o e).1 (I.ok.bs b o e).2 (I.ok.noex b o e)⟩
theorem bv.bk(I:bv X pins σ H s):∀b o,X.base.get? b=some o->s.heap.get? b=some o:=fun b o e=>(I.bs b o e).1
theorem bv.mod(I:bv X pins σ H s):Mod X.K X.mg X.base:=I.ok.mod
theorem bv.kIn(I:bv X pins σ H s):X.K.In s.heap:=I.ok.mod.kin.keeps I.bk
theorem bv.nolimit(I:bv X pins σ H s):s.heap.NoLimit:=I.ok.mod.nolimit.keeps I.bk
theorem bv.lt(I:bv X pins σ H s):X.env.locals<s.heap.objs.size:=let ⟨_,hn,_⟩:=I.loc;hn.lt
theorem bv.sz(I:bv X pins σ H s):X.s₀.heap.objs.size<=s.heap.objs.size:=a_ I.ok.above (df I.lt)
theorem bv.nofs(I:bv X pins σ H s)(h:s.heap.objs.size<=a):a∉X.fs:=fun hb=>by
 obtain⟨_,o,ho,_⟩:=I.ok.funs.mem hb
 exact absurd (a6 (aI ho) (a_ I.sz h)) (bA _)
theorem bv.cne(I:bv X pins σ H s):∀x c,X.env.cells.lookup x=some c->c≠X.env.locals:=fun x c e z=>by
 obtain⟨v,o,ho,hd⟩:=I.cell x c e
 obtain⟨m,⟨o',es,ep,ho',hd',_⟩,_⟩:=I.loc
 rw[z,ho']at ho;cases ho;rw[hd']at hd;cases hd
theorem bv.funs(I:bv X pins σ H s):s.heap.FunFrames X.base X.outer:=by
 have all:∀(l:List Env),(∀b∈ml l,b∈X.fs)->X.s₀.heap.FunFrames X.base l->s.heap.FunFrames X.base l:=by
  intro l
  induction l with
  |nil=>intro _ _;trivial
  |cons env r ih=>
   intro hs hl
   obtain⟨hk,⟨L,o,hf,hn,ho,hd⟩,hr⟩:=hl
   have hL:L∈X.fs:=hs L (by unfold ml;rw[fO,hf];exact aN)
   obtain⟨sl,e⟩:=I.base.slot L o ho (I.ok.frf L hL) hL fun z=>I.ok.exfs L z hL
   exact⟨hk,⟨L,_,hf,hn,e,hd⟩,ih (fun b hb=>hs b (by unfold ml;rw[fO,hf];exact aA _ hb)) hr⟩
 exact all X.outer (fun _ hb=>hb) I.ok.funs
theorem bv.stack(I:bv X pins σ H s):s.heap.FunFrames X.base X.stack:=by
 rcases I.ok.stk with e|⟨e,hf⟩
 ·rw[e];exact I.funs
 ·rw[e]
  obtain⟨m,hn,_⟩:=I.loc
  refine .cons (by rw[I.ok.kind];decide) hf hn ?_ I.funs
  exact Heap.get?_none_of_le (a_ I.ok.bsz I.ok.above)
theorem bv.stkSub(I:bv X pins σ H s):∀b∈ml X.stack,b∈X.env.locals::X.fs:=fun b hb=>by
 rcases I.ok.stk with e|⟨e,hf⟩
 ·rw[e]at hb;exact aA _ hb
 ·rw[e]at hb
  unfold ml at hb
  rw[fO,hf]at hb
  exact hb
theorem bv.stkFree(I:bv X pins σ H s):∀b∈ml X.stack,H b=none:=fun b hb=>by
 rcases aK.mp (I.stkSub b hb)with e|hb
 ·rw[e];exact I.free
 ·obtain⟨_,o,ho,_⟩:=I.ok.funs.mem hb
  exact I.base.free b o ho (I.ok.frf b hb) fun z=>I.ok.exfs b z hb
theorem bv.step{g':Array GenState}{t':Nat}{d':Drawn}{ch:List Addr}(I:bv X pins σ H s)
  (Ij:∀b∈ch,(b∈X.ex\/X.s₀.heap.objs.size<=b)/\b≠X.env.locals/\(∀x c,X.env.cells.lookup x=some c->c≠b)/\∀p∈X.pn++pins,p.1≠b)
  (keep:∀b o,b≠X.env.locals->b∉X.fs->b∉ch->s.heap.get? b=some o->H b=none->h'.get? b=some o)
  (slot:∀b o,b≠X.env.locals->b∈X.fs->b∉ch->s.heap.get? b=some o->H b=none->∃sl,h'.get? b=some { o with slots:=sl }) (free:∀b o,b∉ch->s.heap.get? b=some o->H b=none->H' b=none)
  (there:∀b o,b∉ch->s.heap.get? b=some o->∃o',h'.get? b=some o')
  (tups:∀b xs,H b=some (.tup xs)->H' b=some (.tup xs)) (frzs:∀b o u,H b=some (.frz o u)->H' b=some (.frz o u)) (tbls:∀b ps,H b=some (.tbl ps)->∃kh,H' b=some (.tbl (ps++kh)))
  (ns:∀m,s.heap.Ns X.env.locals m->h'.Ns X.env.locals m) (hok:kF X.prog X.w H' h') (hg:AllBare g') :
  bv X pins σ H' { s with heap:=h',gens:=g',drawn:=d',toks:=t' }:=by
 have neL:∀b o,X.s₀.heap.get? b=some o->b≠X.env.locals:=fun b o e=>bD (a6 (aI e) I.ok.above)
 have neC:∀b o,X.s₀.heap.get? b=some o->b∉X.ex->b∉ch:=fun b o e hx hb=>by
  rcases(Ij b hb).1 with z|z
  ·exact hx z
  ·exact absurd (a6 (aI e) z) (bA _)
 have cellK:∀x c,X.env.cells.lookup x=some c->∀v,s.heap.IsCell c v->h'.IsCell c v:=fun x c e v ⟨o,ho,hd⟩=>by
  have nch:c∉ch:=fun z=>(Ij c z).2.2.1 x c e rfl
  by_cases hc:c∈X.fs
  ·obtain⟨sl,q⟩:=slot c o (I.cne x c e) hc nch ho (I.freeC x c e)
   exact⟨_,q,hd⟩
  ·exact⟨o,keep c o (I.cne x c e) hc nch ho (I.freeC x c e),hd⟩
 refine⟨I.ok,I.os,hg,⟨fun b o e n hb hx=>?_,fun b o e n hb hx=>?_,fun b o e n hx=>?_,fun b o e hx=>?_,fun b xs e=>tups b xs (I.base.tups b xs e),fun b o xs e=>frzs b o xs (I.base.frzs b o xs e),fun b ps e=>?_⟩,?_,fun x c e=>?_,?_,fun x c e=>?_,fun p hp=>?_,hok,I.len⟩
 ·exact keep b o (neL b o e) hb (neC b o e hx) (I.base.keep b o e n hb hx) (I.base.free b o e n hx)
 ·obtain⟨sl,e1⟩:=I.base.slot b o e n hb hx
  obtain⟨sl',e2⟩:=slot b _ (neL b o e) hb (neC b o e hx) e1 (I.base.free b o e n hx)
  exact⟨sl',e2⟩
 ·obtain⟨o',e1⟩:=I.base.there b o e hx
  exact free b o' (neC b o e hx) e1 (I.base.free b o e n hx)
 ·obtain⟨o',e1⟩:=I.base.there b o e hx
  exact there b o' (neC b o e hx) e1
 ·obtain⟨m1,e1⟩:=I.base.tbls b ps e
  obtain⟨m2,e2⟩:=tbls b _ e1
  exact⟨m1++m2,by rw[e2,Array.append_assoc]⟩
 ·obtain⟨m,hn,hl⟩:=I.loc
  refine⟨m,ns m hn,fun i x v e1 e2 e3=>?_⟩
  obtain⟨u,r,l⟩:=hl i x v e1 e2 e3
  refine⟨u,r,?_⟩
  rcases l with l|⟨k,c,e,z⟩
  ·exact .inl l
  ·exact .inr ⟨k,c,e,cellK x c e _ z⟩
 ·obtain⟨v,z⟩:=I.cell x c e
  exact⟨v,cellK x c e v z⟩
 ·obtain⟨m,⟨o,_,_,ho,_⟩,_⟩:=I.loc
  exact free _ o (fun z=>(Ij _ z).2.1 rfl) ho I.free
 ·obtain⟨v,o,ho,hd⟩:=I.cell x c e
  exact free c o (fun z=>(Ij c z).2.2.1 x c e rfl) ho (I.freeC x c e)
 ·obtain⟨e,n,ne,nf,d⟩:=I.pin p hp
  have nch:p.1∉ch:=fun z=>(Ij p.1 z).2.2.2 p hp rfl
  exact⟨keep p.1 p.2 ne nf nch e n,free p.1 p.2 nch e n,ne,nf,d⟩
theorem bv.un{t':Nat}(I:bv X pins σ H s)(u:Un X.fs [] H H' s.heap h')(hok:kF X.prog X.w H' h'):bv X pins σ H' { s with heap:=h',toks:=t' }:=by
 obtain⟨m,⟨o,es,ep,ho,r⟩,_⟩:=id I.loc
 obtain⟨sl,hL⟩:=u.any ho I.free (by simp)
 exact I.step (g':=s.gens) (d':=s.drawn) (ch:=[]) (fun _ z=>nomatch z) (fun b o _ hb _ e n=>u.keep b o e n hb (by simp)) (fun b o _ hb _ e n=>u.slot b o e n hb (by simp)) (fun b o _ e n=>u.free b o e n (by simp)) (fun b o _ e=>u.there b o e (by simp)) u.tups u.frzs u.tbls (fun m' hm=>by
  obtain⟨o',es',ep',ho',r'⟩:=hm
  rw[ho]at ho';cases ho'
  exact⟨_,es',ep',hL,r'⟩) hok I.bare
theorem bv.call{g':Array GenState}{t':Nat}{d':Drawn}{ch:List Addr}(I:bv X pins σ H s)(u:Un (ml X.stack) ch H H' s.heap h')(hok:kF X.prog X.w H' h')(hg:AllBare g')
  (Ij:∀b∈ch,(b∈X.ex\/X.s₀.heap.objs.size<=b)/\b≠X.env.locals/\(∀x c,X.env.cells.lookup x=some c->c≠b)/\∀p∈X.pn++pins,p.1≠b) :
  bv X pins σ H' { s with heap:=h',gens:=g',drawn:=d',toks:=t' }:=by
 obtain⟨m,⟨o,es,ep,ho,r⟩,_⟩:=id I.loc
 obtain⟨sl,hL⟩:=u.any ho I.free fun z=>(Ij _ z).2.1 rfl
 exact I.step (ch:=ch) Ij (fun b o hL hb hc e n=>u.keep b o e n (fun z=>(aK.mp (I.stkSub b z)).elim hL hb) hc) (fun b o _ _ hc e n=>u.any e n hc) (fun b o hc e n=>u.free b o e n hc) (fun b o hc e=>u.there b o e hc) u.tups u.frzs u.tbls (fun m' hm=>by
  obtain⟨o',es',ep',ho',r'⟩:=hm
  rw[ho]at ho';cases ho'
  exact⟨_,es',ep',hL,r'⟩) hok hg
theorem bv.turned{t':Nat}{it:Addr}(I:bv X pins σ H s)(k:∀b o,b≠it->s.heap.get? b=some o->h'.get? b=some o)(hn:H it=none)(hL:it≠X.env.locals)
  (h1:it∈X.ex\/X.s₀.heap.objs.size<=it) (h2:∀x c,X.env.cells.lookup x=some c->c≠it) (h3:∀p∈X.pn++pins,p.1≠it):bv X pins σ H { s with heap:=h',toks:=t' }:=by
 have nit:∀b u,H b=some u->b≠it:=fun b u e z=>by rw[z,hn]at e;cases e
 refine I.step (g':=s.gens) (d':=s.drawn) (ch:=[it]) (fun b hb=>?_) (fun b o _ _ hc e _=>k b o (fun z=>hc (by simp[z])) e) (fun b o _ _ hc e _=>⟨o.slots,k b o (fun z=>hc (by simp[z])) e⟩) (fun _ _ _ _ n=>n)
  (fun b o hc e=>⟨o,k b o (fun z=>hc (by simp[z])) e⟩) (fun _ _ e=>e) (fun _ _ _ e=>e) (fun b ps e=>⟨#[],by rw[e];simp⟩) (fun m hm=>?_) (fun b u e=>?_) I.bare
 ·have e:b=it:=by simpa using hb
  subst e
  exact⟨h1,hL,h2,h3⟩
 ·obtain⟨o,es,ep,ho,r⟩:=hm
  exact⟨o,es,ep,k _ o (Ne.symm hL) ho,r⟩
 ·refine(I.hok b u e).stay (fun c v hc q=>k c v ?_ q) (fun _ q=>q) fun _ _ q=>q
  rcases hc with z|z
  ·rw[z];exact nit b u e
  ·exact nit c _ z
theorem bv.tok(I:bv X pins σ H s)(t:Nat):bv X pins σ H { s with toks:=t }:=I.un (h':=s.heap) (t':=t) Un.refl I.hok
theorem bv.kept{t':Nat}(I:bv X pins σ H s)(k:∀b u,s.heap.get? b=some u->h'.get? b=some u):bv X pins σ H { s with heap:=h',toks:=t' }:=I.un (Un.kept k) (I.hok.kept k)
theorem bv.laid{a:Addr}{o:HO}{t':Nat}(I:bv X pins σ H s)(k:∀b u,s.heap.get? b=some u->h'.get? b=some u)(hp:s.heap.objs.size<=a)(new:dR X.prog X.w (d_ H a o) h' a o) :
  bv X pins σ (d_ H a o) { s with heap:=h',toks:=t' }:=I.un (Un.laid k hp (I.hok.fresh hp)) (I.hok.laid k hp new)
theorem bv.write{x e:Addr}{o:HO}(I:bv X pins σ H s)(mu:Mi (H x))(he:e=x\/H e=some (.own x))(k:∀b u,b≠e->s.heap.get? b=some u->h'.get? b=some u)(Ps:∃u,h'.get? e=some u)
  (new:dR X.prog X.w (d_ H x o) h' x o):bv X pins σ (d_ H x o) { s with heap:=h',toks:=t' }:=I.un (Un.write mu he k Ps) (I.hok.write mu he k Ps new)
theorem bv.pins_of{pins':List (Addr×Obj)}(I:bv X pins σ H s)(h:∀p∈pins',s.heap.get? p.1=some p.2/\H p.1=none/\p.1≠X.env.locals/\p.1∉X.fs/\∀v,p.2.data≠.cell v):bv X pins' σ H s:=
 ⟨I.ok,I.os,I.bare,I.base,I.loc,I.cell,I.free,I.freeC,fun p hp=>(aL.mp hp).elim (fun z=>I.pin p (cN _ z)) (h p),I.hok,I.len⟩
theorem x8{N:List Str}(hN:N.Nodup)(a:N[i]?=some x)(b:N[j]?=some x):i=j:=by
 obtain⟨h1,e1⟩:=aa.mp a
 obtain⟨h2,e2⟩:=aa.mp b
 exact(List.getElem_inj hN).mp (e1.trans e2.symm)
theorem CS{M:Model}{A:Around}{E:Value->Shared->Prop}{v:V}{Q:Unit->Shared->Prop}(I:bv X pins σ H s)(hN:X.N.Nodup)(hi:X.N[i]?=some x)(hx:Ec X.env.scope x)(r:bN v u)
  (h:∀s',bv X pins (σ.set i (some v)) H s'->(∃a,Heap.SameBut a s.heap s'.heap/\(a=X.env.locals\/X.env.cells.lookup x=some a))->Q () s') (hf:X.fn x=true\/X.env.scope.names.lookup x=some .local:=by first|exact .inl rfl|exact .inr rfl|assumption):wpAny M A (storeName X.env x u) Q E s:=by
 obtain⟨m,hn,hl⟩:=id I.loc
 have hcls:(X.env.scope.kind==.class||(X.env.scope.kind==.module&&X.env.locals != X.env.globals))=false:=by rw[I.ok.kind];rfl
 have hiσ:i<σ.length:=by rw[I.len];exact(aa.mp hi).1
 have cne:=I.cne
 have tracked:∀{a:Addr} {h':Heap},(∃o,s.heap.get? a=some o/\H a=none)->Heap.SameBut a s.heap h'->kF X.prog X.w H h':=fun{a h'} ha hs b ob e=>by
  obtain⟨_,_,hfree⟩:=ha
  refine(I.hok b ob e).stay (fun c w' hc q=>(hs.2 c ?_).trans q) (fun _ q=>q) fun _ _ q=>q
  rintro rfl
  rcases hc with rfl|hc
  ·rw[hfree]at e;cases e
  ·rw[hfree]at hc;cases hc
 rcases hx with hk|hk
 ·refine wpAny_storeName_local hk hn (fun h' hn' hs=>?_) hcls
  obtain⟨oL,_,_,hoL,_⟩:=id hn
  refine h _ ⟨I.ok,I.os,I.bare,⟨fun b o e n hb hx=>?_,fun b o e n hb hx=>?_,I.base.free,fun b o e hx=>?_,I.base.tups,I.base.frzs,I.base.tbls⟩,⟨_,hn',fun j y v' e1 e2 e3=>?_⟩,fun y c e=>?_,I.free,I.freeC,fun p hp=>?_,tracked ⟨oL,hoL,I.free⟩ hs,by simpa using I.len⟩ ⟨_,hs,.inl rfl⟩
  ·exact(hs.2 b (bD (a6 (aI e) I.ok.above))).trans (I.base.keep b o e n hb hx)
  ·obtain⟨sl,e1⟩:=I.base.slot b o e n hb hx
   exact⟨sl,(hs.2 b (bD (a6 (aI e) I.ok.above))).trans e1⟩
  ·obtain⟨o',e1⟩:=I.base.there b o e hx
   exact⟨o',(hs.2 b (bD (a6 (aI e) I.ok.above))).trans e1⟩
  ·by_cases hj:j=i
   ·subst hj
    rw[hi]at e1;cases e1
    rw[bh hiσ]at e2
    cases e2
    exact⟨u,r,.inl ⟨hk,by simp⟩⟩
   ·rw[bp (Ne.symm hj)]at e2
    obtain⟨u',r',q⟩:=hl j y v' e1 e2 e3
    refine⟨u',r',?_⟩
    rcases q with⟨k,e⟩|⟨k,c,e,z⟩
    ·refine .inl ⟨k,?_⟩
     have:y≠x:=fun e=>hj (x8 hN e1 (e▸hi))
     simp[this,e]
    ·exact .inr ⟨k,c,e,z.sameBut hs (cne y c e)⟩
  ·obtain⟨w',z⟩:=I.cell y c e
   exact⟨w',z.sameBut hs (cne y c e)⟩
  ·obtain⟨e,n,ne,nf,d⟩:=I.pin p hp
   exact⟨(hs.2 p.1 ne).trans e,n,ne,nf,d⟩
 ·have zP:X.fn x=true:=by
   rcases hf with z|z
   ·exact z
   ·rw[z]at hk;cases hk
  obtain⟨c,hc⟩:=I.ok.has x (.inl hk)
  obtain⟨w',z⟩:=I.cell x c hc
  refine wpAny_storeName_cell I.ok.kind hk hc z (fun h' hc' hs=>?_)
  obtain⟨oc,hoc,hocd⟩:=id z
  refine h { s with heap:=h' } ⟨I.ok,I.os,I.bare,⟨fun b o e n hb hx=>?_,fun b o e n hb hx=>?_,I.base.free,fun b o e hx=>?_,I.base.tups,I.base.frzs,I.base.tbls⟩,⟨m,hn.sameBut hs (Ne.symm (cne x c hc)),fun j y v' e1 e2 e3=>?_⟩,fun y c' e=>?_,I.free,I.freeC,fun p hp=>?_,tracked ⟨oc,hoc,I.freeC x c hc⟩ hs,by simpa using I.len⟩ ⟨c,hs,.inr hc⟩
  ·exact(hs.2 b (bD (a6 (aI e) (I.ok.cab x c zP hc)))).trans (I.base.keep b o e n hb hx)
  ·obtain⟨sl,e1⟩:=I.base.slot b o e n hb hx
   exact⟨sl,(hs.2 b (bD (a6 (aI e) (I.ok.cab x c zP hc)))).trans e1⟩
  ·obtain⟨o',e1⟩:=I.base.there b o e hx
   exact⟨o',(hs.2 b (bD (a6 (aI e) (I.ok.cab x c zP hc)))).trans e1⟩
  ·by_cases hj:j=i
   ·subst hj
    rw[hi]at e1;cases e1
    rw[bh hiσ]at e2
    cases e2
    exact⟨u,r,.inr ⟨.inl hk,c,hc,hc'⟩⟩
   ·rw[bp (Ne.symm hj)]at e2
    obtain⟨u',r',q⟩:=hl j y v' e1 e2 e3
    refine⟨u',r',?_⟩
    rcases q with q|⟨k,c',e,z'⟩
    ·exact .inl q
    ·refine .inr ⟨k,c',e,z'.sameBut hs ?_⟩
     rintro rfl
     exact hj (x8 hN e1 (I.ok.inj _ _ _ e hc▸hi))
  ·by_cases hcc:c'=c
   ·subst hcc;exact⟨_,hc'⟩
   ·obtain⟨w2,z2⟩:=I.cell y c' e
    exact⟨w2,z2.sameBut hs hcc⟩
  ·obtain⟨e,n,ne,nf,d⟩:=I.pin p hp
   refine⟨(hs.2 p.1 ?_).trans e,n,ne,nf,d⟩
   intro q
   rw[q,hoc]at e
   have q':oc=p.2:=aU e
   exact d w' (by rw[<- q'];exact hocd)
theorem sJ{M:Model}{A:Around}{E:Value->Shared->Prop}{v:V}{Q:Unit->Shared->Prop}(I:bv X pins σ H s)(hN:X.N.Nodup)(hi:X.N[i]?=some x)(hx:Ec X.env.scope x)(r:bN v u)
  (h:∀s',bv X pins (σ.set i (some v)) H s'->Q () s') (hf:X.fn x=true\/X.env.scope.names.lookup x=some .local:=by first|exact .inl rfl|exact .inr rfl|assumption):wpAny M A (storeName X.env x u) Q E s:=
 CS I hN hi hx r (fun s' I' _=>h s' I') hf
theorem bv.call'{s':Shared}{ch:List Addr}(I:bv X pins σ H s)(ho:s'.os=s.os)(u:Un (ml X.stack) ch H H' s.heap s'.heap)(hok:kF X.prog X.w H' s'.heap)(hg:AllBare s'.gens)
  (Ij:∀b∈ch,(b∈X.ex\/X.s₀.heap.objs.size<=b)/\b≠X.env.locals/\(∀x c,X.env.cells.lookup x=some c->c≠b)/\∀p∈X.pn++pins,p.1≠b):bv X pins σ H' s':=by
 obtain⟨h',g',d',t',o'⟩:=s'
 have e:o'=s.os:=ho
 subst e
 exact I.call (g':=g') (t':=t') (d':=d') u hok hg Ij
end
abbrev XK:=Value->Option Addr->Hp->Prop
abbrev St:=List (Option V)
abbrev VK:=V->Hp->Prop
abbrev TE:=St->Hp->VK->Prop
abbrev TT:=St->Hp->(Bool->Hp->Prop)->Prop
abbrev TA:=St->Hp->(List V->Hp->Prop)->Prop
structure v5 where
 nx:St->Hp->Prop
 rt:VK
 bk:St->Hp->Prop:=fun _ _=>False
 ct:St->Hp->Prop:=fun _ _=>False
abbrev TS:=v5->St->Hp->Prop
def EP(X:Cx)(pins:List (Addr×Obj))(σ:St)(Q:VK)(u:Value)(s':Shared):Prop:=∃v H',bv X pins σ H' s'/\bN v u/\Q v H'
def TP(X:Cx)(pins:List (Addr×Obj))(σ:St)(Q:Bool->Hp->Prop)(b:Bool)(s':Shared):Prop:=∃H',bv X pins σ H' s'/\Q b H'
def AP(X:Cx)(pins:List (Addr×Obj))(σ:St)(Q:List V->Hp->Prop)(us:List Value)(s':Shared):Prop:=∃vs H',bv X pins σ H' s'/\cA vs us/\Q vs H'
def SP(X:Cx)(pins:List (Addr×Obj))(D:v5)(f:Flow)(s':Shared):Prop:=
 match f with
 |.next=>∃σ' H',bv X pins σ' H' s'/\D.nx σ' H'
 |.brk=>∃σ' H',bv X pins σ' H' s'/\D.bk σ' H'
 |.cont=>∃σ' H',bv X pins σ' H' s'/\D.ct σ' H'
 |.ret u=>∃v σ' H',bv X pins σ' H' s'/\bN v u/\D.rt v H'
def PE(X:Cx)(e:Expr)(t:TE):Prop:=
 ∀(pins:List (Addr×Obj)) (s:Shared) (σ:St) (H:Hp) (Q:VK),bv X pins σ H s->t σ H Q->wpAny (model X.prog X.w) X.A (eval e X.env) (EP X pins σ Q) X.xe s
def PT(X:Cx)(e:Expr)(t:TT):Prop:=
 ∀(pins:List (Addr×Obj)) (s:Shared) (σ:St) (H:Hp) (Q:Bool->Hp->Prop),bv X pins σ H s->t σ H Q->wpAny (model X.prog X.w) X.A (isTrue e X.env (eval e X.env)) (TP X pins σ Q) X.xe s
def PW(X:Cx)(e:Expr)(t:TT):Prop:=
 ∀(uw:Sem Value) (pins:List (Addr×Obj)) (s:Shared) (σ:St) (H:Hp) (Q:Bool->Hp->Prop),bv X pins σ H s->t σ H Q->wpAny (model X.prog X.w) X.A (isTrue e X.env uw) (TP X pins σ Q) X.xe s
theorem PW.pt{X:Cx}{t:TT}(h:PW X e t):PT X e t:=h _
def PA(X:Cx)(es:List Expr)(t:TA):Prop:=
 ∀(pos:Pos) (pins:List (Addr×Obj)) (s:Shared) (σ:St) (H:Hp) (Q:List V->Hp->Prop),bv X pins σ H s->t σ H Q->wpAny (model X.prog X.w) X.A (spliced (backTo pos (starEach es X.env))) (AP X pins σ Q) X.xe s
def PS(X:Cx)(st:Stmt)(t:TS):Prop:=
 ∀(pins:List (Addr×Obj)) (s:Shared) (σ:St) (H:Hp) (D:v5),bv X pins σ H s->t D σ H->wpAny (model X.prog X.w) X.A (exec st X.env) (SP X pins D) X.xe s
def CU(X:Cx)(st:List Stmt)(t:TS):Prop:=
 ∀(pins:List (Addr×Obj)) (s:Shared) (σ:St) (H:Hp) (D:v5),bv X pins σ H s->t D σ H->wpAny (model X.prog X.w) X.A (execs st X.env) (SP X pins D) X.xe s
theorem f6{t:Sem α}{Q Q':α->Shared->Prop}(h:wpAny M A t Q E s)(hQ:∀a s,Q a s->Q' a s):wpAny M A t Q' E s:=dO h hQ fun _ _ x=>x
section
variable{X:Cx}
def Px(i:Nat):TE:=fun σ H Q=>∃v,σ[i]?=some (some v)/\Q v H
def tC(v:V):TE:=fun _ H Q=>Q v H
theorem Mj{pos:Pos}(hN:X.N[i]?=some x)(hv:Pf X.env.scope x)(hd:(x==("__debug__":Str))=false:=by decide)(lK:(x==("__classdict__":Str))=false:=by decide):PE X (.Name x pos) (Px i):=by
 intro pins s σ H Q I h
 obtain⟨v,e,h⟩:=h
 obtain⟨m,hn,hl⟩:=I.loc
 obtain⟨u,r,l⟩:=hl i x v hN e hv
 have fin:EP X pins σ Q u s:=⟨v,H,I,r,h⟩
 rcases l with⟨hk,hm⟩|⟨hk,c,hc,gk⟩
 ·exact mN (wpAny_loadName_local I.ok.kind hk hn hm fin) hd
 ·rcases hk with hk|hk
  ·exact mN (wpAny_loadName_cell I.ok.kind hk hc gk fin) hd
  ·exact mN (wpAny_loadName_free I.ok.kind hk hc gk fin lK) hd
theorem Mk{i j pos}:PE X (.Constant (.int i) j pos) (tC (.int i)):=fun _ _ _ H _ I h=>wpAny_Constant_int ⟨.int i,H,I.tok _,⟨_,rfl⟩,h⟩
theorem Py{b j pos}:PE X (.Constant (.bool b) j pos) (tC (.bl b)):=fun _ _ _ H _ I h=>Constant_bool ⟨.bl b,H,I,rfl,h⟩
theorem Ml{j pos}:PE X (.Constant .none j pos) (tC .non):=fun _ _ _ H _ I h=>oS ⟨.non,H,I,rfl,h⟩
theorem Mm{x j pos}:PE X (.Constant (.str x) j pos) (tC (.str x)):=fun _ _ _ H _ I h=>Calls.Constant_str ⟨.str x,H,I.tok _,⟨_,rfl⟩,h⟩
def Gl(X:Cx)(x:Str):Prop:=X.env.kindOf x=some .globalImplicit
theorem Bj{E:Value->Shared->Prop}{σ:St}{H:Hp}{pos:Pos}(I:bv X pins σ H s)(hg:Gl X x)(hm:X.mg x=some u)(h:Q u s)
  (hd:(x==("__debug__":Str))=false:=by decide):wpAny (model X.prog X.w) X.A (eval (.Name x pos) X.env) Q E s:=
 ki I.ok.kind hg (Calls.loadGlobal_global (by rw[I.ok.glob];exact I.mod.glob.keeps I.bk) hm h) hd
theorem nG{E:Value->Shared->Prop}{σ:St}{H:Hp}{pos:Pos}(I:bv X pins σ H s)(hg:Gl X x)(hm:X.mg x=none)(hv:bootBuiltins x=some u)(h:Q u s)
  (hn:x ≠ "__name__":=by decide) (hd:(x==("__debug__":Str))=false:=by decide):wpAny (model X.prog X.w) X.A (eval (.Name x pos) X.env) Q E s:=by
 obtain⟨mb,h1,h2⟩:=I.mod.blt
 exact ki I.ok.kind hg (Calls.loadGlobal_builtin (by rw[I.ok.glob];exact I.mod.glob.keeps I.bk) hm (by rw[I.ok.blt];exact h1.keeps I.bk) ((h2 x hn).trans hv) h) hd
theorem Im{v:V}{pos:Pos}(hg:Gl X x)(hm:X.mg x=none)(hv:bootBuiltins x=some u)(r:bN v u)(hn:x ≠ "__name__":=by decide)(hd:(x==("__debug__":Str))=false:=by decide):PE X (.Name x pos) (tC v):=
 fun _ _ _ H _ I h=>nG I hg hm hv ⟨v,H,I,r,h⟩ hn hd
variable{a b:Expr}{ta tb:TE}
def PC(X:Cx)(op:CmpOp)(a b:Expr)(t:TE):Prop:=
 ∀(pins:List (Addr×Obj)) (s:Shared) (σ:St) (H:Hp) (Q:VK),bv X pins σ H s->t σ H Q ->
  wpAny (model X.prog X.w) X.A (eval a X.env) (fun v s₁=>wpAny (model X.prog X.w) X.A (eval b X.env) (fun u s₂=>wpAny (model X.prog X.w) X.A (compareOp op v u) (EP X pins σ Q) X.xe s₂) X.xe s₁) X.xe s
theorem En(b:Expr)(h:op≠.In)(h2:op≠.NotIn):behindInMarks op b=false:=by
 have e1:(op==CmpOp.In)=false:=by cases op<;>first|rfl|exact absurd rfl h
 have e2:(op==CmpOp.NotIn)=false:=by cases op<;>first|rfl|exact absurd rfl h2
 cases b<;>simp[behindInMarks,e1,e2]
def Pz(ta:TE):TE:=fun σ H Q=>ta σ H fun x H1=>Q (.bl (decide (x=.non))) H1
def KC(ta:TE):TE:=fun σ H Q=>ta σ H fun x H1=>Q (.bl (!decide (x=.non))) H1
theorem bN.none_iff{x:V}(r:bN x v):(v==Value.none)=decide (x=.non):=by
 cases x with
 |non=>cases r;rfl
 |bl _=>cases r;rfl
 |int _=>obtain⟨t,rfl⟩:=r;rfl
 |str _=>obtain⟨t,rfl⟩:=r;rfl
 |byt _=>obtain⟨t,rfl⟩:=r;rfl
 |flt _=>obtain⟨t,rfl⟩:=r;rfl
 |ref _=>cases r;rfl
 |ty _=>cases r;rfl
theorem Mn{j iU}(ha:PE X a ta):PC X .Is a (.Constant .none j iU) (Pz ta):=by
 intro pins s σ H Q I h
 refine f6 (ha pins s σ H _ I h) fun v s1 ⟨x,H1,I1,r1,q1⟩=>?_
 exact oS (is_none_gen ⟨.bl _,H1,I1,by rw[r1.none_iff];rfl,q1⟩)
theorem Io{j iU}(ha:PE X a ta):PC X .IsNot a (.Constant .none j iU) (KC ta):=by
 intro pins s σ H Q I h
 refine f6 (ha pins s σ H _ I h) fun v s1 ⟨x,H1,I1,r1,q1⟩=>?_
 exact oS (isnot_none_gen ⟨.bl _,H1,I1,by rw[r1.none_iff];rfl,q1⟩)
def tB(t:TE):TT:=fun σ H Q=>t σ H fun x H1=>∃c,x=.bl c/\Q c H1
theorem Eo{t:TE}(h:PC X op a b t)(h1:behindInMarks op b=false:=by first|exact En _ (by decide) (by decide)|rfl):PT X (.Compare a [op] [b] pos) (tB t):=by
 intro pins s σ H Q I hw
 refine nz (f6 (h pins s σ H _ I hw) fun v s1 h1=>f6 h1 fun u s2 h2=>f6 h2 fun c s3 ⟨x,H1,I1,r1,q1⟩=>?_) h1
 obtain⟨d,rfl,q⟩:=q1
 cases r1
 exact gC ⟨H1,I1,q⟩
theorem Mo{t:TE}(h:PE X e t)(he:∀uw,isTrue e X.env uw=(do let v <- uw;standAt e.pos;holding [v] (truthy v)):=by intro _;rfl):PT X e (tB t):=by
 intro pins s σ H Q I hw
 refine isTrue_plain (f6 (h pins s σ H _ I hw) fun v s1 ⟨x,H1,I1,r1,q1⟩=>?_) (he _)
 obtain⟨d,rfl,q⟩:=q1
 cases r1
 exact gC ⟨H1,I1,q⟩
variable{tA Sf:TT}{rest:List Expr}
def Tq(t u:TT):TT:=fun σ H Q=>t σ H fun c H1=>if c=true then u σ H1 Q else Q false H1
def UN(t u:TT):TT:=fun σ H Q=>t σ H fun c H1=>if c=true then Q true H1 else u σ H1 Q
def Tr(t:TT):TT:=fun σ H Q=>t σ H fun c H1=>Q (!c) H1
theorem Ip(ha:PT X a tA):PW X (.BoolOp .And [a] pos) tA:=by
 intro wh pins s σ H Q I h
 refine isTrue_and (f6 (ha pins s σ H Q I h) fun c s1 e=>?_)
 cases c with
 |true=>exact isTrue_and_nil e
 |false=>exact e
theorem Mp(ha:PT X a tA):PW X (.BoolOp .Or [a] pos) tA:=by
 intro wh pins s σ H Q I h
 refine isTrue_or (f6 (ha pins s σ H Q I h) fun c s1 e=>?_)
 cases c with
 |false=>exact isTrue_or_nil e
 |true=>exact e
theorem Mq(ha:PT X a tA)(hb:PW X (.BoolOp .And (b::rest) pos) Sf):PW X (.BoolOp .And (a::b::rest) pos) (Tq tA Sf):=by
 intro wh pins s σ H Q I h
 refine isTrue_and (f6 (ha pins s σ H _ I h) fun c s1 ⟨H1,I1,q1⟩=>?_)
 cases c with
 |true=>exact hb wh pins s1 σ H1 Q I1 q1
 |false=>exact⟨H1,I1,q1⟩
theorem PB(ha:PT X a tA)(hb:PW X (.BoolOp .Or (b::rest) pos) Sf):PW X (.BoolOp .Or (a::b::rest) pos) (UN tA Sf):=by
 intro wh pins s σ H Q I h
 refine isTrue_or (f6 (ha pins s σ H _ I h) fun c s1 ⟨H1,I1,q1⟩=>?_)
 cases c with
 |true=>exact⟨H1,I1,q1⟩
 |false=>exact hb wh pins s1 σ H1 Q I1 q1
theorem Mr(ha:PT X a tA):PT X (.UnaryOp .Not a pos) (Tr tA):=by
 intro pins s σ H Q I h
 exact isTrue_not (ha pins s σ H (fun c H1=>Q (!c) H1) I h)
end
def rO(K:Frag)(H:Hp)(a:Addr)(xs:List V):Prop:=
 Rd H a (.lst xs) \/
  ∃(o:Obj) (bC:Array Value) (n:Nat),K.lookup a=some o/\o.cls=.type "list"/\o.dict=none/\o.data=.seq bC n/\bC.size<=sizeLine/\cA xs bC.toList
def fq(K:Frag)(H:Hp)(a:Addr)(xs:List V):Prop:=
 Rd H a (.tup xs) \/
  ∃(o:Obj) (bC:Array Value) (n:Nat),K.lookup a=some o/\o.cls=.type "tuple"/\o.data=.seq bC n/\bC.size<=sizeLine/\cA xs bC.toList
def Ts:Value->Option V
 |.none=>some .non
 |.bool b=>some (.bl b)
 |.int i _=>some (.int i)
 |.str x _=>some (.str x)
 |.bytes b _=>some (.byt b)
 |.float b _=>some (.flt b)
 |.ref a=>some (.ref a)
 |.type n=>some (.ty n)
 |_=>none
theorem bN.abs{x:V}(r:bN x u):Ts u=some x:=by
 cases x with
 |non=>cases r;rfl
 |bl _=>cases r;rfl
 |int _=>obtain⟨t,rfl⟩:=r;rfl
 |str _=>obtain⟨t,rfl⟩:=r;rfl
 |byt _=>obtain⟨t,rfl⟩:=r;rfl
 |flt _=>obtain⟨t,rfl⟩:=r;rfl
 |ref _=>cases r;rfl
 |ty _=>cases r;rfl
theorem bN.inj{x y:V}(r:bN x u)(q:bN y u):x=y:=aU (r.abs.symm.trans q.abs)
theorem cA.inj:∀{xs ys:List V} {us:List Value},cA xs us->cA ys us->xs=ys
 |_,_,_,.nil,.nil=>rfl
 |_,_,_,.cons r t,.cons r' t'=>by rw[r.inj r',cA.inj t t']
section
variable{X:Cx}{σ:St}{H:Hp}{xs ys:List V}
theorem rO.of(h:H a=some (.lst xs)):rO K H a xs:=.inl (.inl h)
theorem fq.of(h:H a=some (.tup xs)):fq K H a xs:=.inl (.inl h)
theorem bv.list(I:bv X pins σ H s)(h:rO X.K H a xs):∃bC:List Value,cA xs bC/\PlainL s.heap a bC.toArray/\xs.length<=sizeLine:=by
 rcases h with h|⟨o,bC,n,hk,hc,hd,hs,hz,r⟩
 ·obtain⟨z,bC,n,r,e⟩:=h.ok I.hok
  exact⟨bC,r,⟨_,n,e,rfl,rfl,rfl⟩,z⟩
 ·refine⟨bC.toList,r,⟨o,n,I.kIn a o hk,hc,hd,by simpa using hs⟩,?_⟩
  have e:=r.length
  simp only[fP]at e
  omega
theorem bv.tuple(I:bv X pins σ H s)(h:fq X.K H a xs):∃bC:List Value,cA xs bC/\IsTup s.heap a bC.toArray/\xs.length<=sizeLine:=by
 rcases h with h|⟨o,bC,n,hk,hc,hs,hz,r⟩
 ·obtain⟨z,bC,r,p⟩:=h.ok I.hok
  exact⟨bC,r,p,z⟩
 ·refine⟨bC.toList,r,⟨o,I.kIn a o hk,hc,n,by simpa using hs⟩,?_⟩
  have e:=r.length
  simp only[fP]at e
  omega
theorem bv.list_inj(I:bv X pins σ H s)(h:rO X.K H a xs)(h':rO X.K H a ys):xs=ys:=by
 obtain⟨bC,r,⟨o,n,e,_,_,d⟩,_⟩:=I.list h
 obtain⟨its',r',⟨o',n',e',_,_,d'⟩,_⟩:=I.list h'
 rw[e]at e';cases e'
 rw[d]at d'
 injection d' with d1 _
 have:bC=its':=by simpa using dq Array.toList d1
 subst this
 exact r.inj r'
theorem bv.tuple_inj(I:bv X pins σ H s)(h:fq X.K H a xs)(h':fq X.K H a ys):xs=ys:=by
 obtain⟨bC,r,⟨o,e,_,n,d⟩,_⟩:=I.tuple h
 obtain⟨its',r',⟨o',e',_,n',d'⟩,_⟩:=I.tuple h'
 rw[e]at e';cases e'
 rw[d]at d'
 injection d' with d1 _
 have:bC=its':=by simpa using dq Array.toList d1
 subst this
 exact r.inj r'
end
section
variable{X:Cx}{σ:St}{H:Hp}
end
section
variable{X:Cx}{st:Stmt}{rest:List Stmt}{t u:TS}{te:TE}
def PD:TS:=fun D σ H=>D.nx σ H
def Tt(t u:TS):TS:=fun D σ H=>t { D with nx:=u D } σ H
theorem Iq:CU X [] PD:=fun _ _ σ H _ I h=>jl ⟨σ,H,I,h⟩
theorem x9(h1:PS X st t)(h2:CU X rest u):CU X (st::rest) (Tt t u):=by
 intro pins s σ H D I h
 refine wpAny_execs_cons (f6 (h1 pins s σ H { D with nx:=u D } I h) fun f s1 q=>?_)
 cases f with
 |next=>
  obtain⟨σ',H',I',q⟩:=q
  exact h2 pins s1 σ' H' D I' q
 |ret v=>exact q
 |brk=>exact q
 |cont=>exact q
theorem Ir(h1:PS X st t):CU X [st] t:=by
 intro pins s σ H D I h
 refine wpAny_execs_cons (f6 (h1 pins s σ H D I h) fun f s1 q=>?_)
 cases f with
 |next=>exact jl q
 |ret v=>exact q
 |brk=>exact q
 |cont=>exact q
theorem bv.quiet{σ:St}{H:Hp}(I:bv X pins σ H s):interactive X.env=false:=by simp[interactive,I.ok.kind]
def PF(te:TE):TS:=fun D σ H=>te σ H fun _ H1=>D.nx σ H1
theorem Iu(he:PE X e te)(hs:swapsWith e none pos.line X.env=pure false:=by rfl):PS X (.Expr e pos) (PF te):=by
 intro pins s σ H D I h
 exact wpAny_Expr_any (f6 (he pins s σ H _ I h) fun v s1 ⟨x,H1,I1,r1,q1⟩=>⟨σ,H1,I1,q1⟩) I.quiet hs
def Tu(te:TE):TS:=fun D σ H=>te σ H D.rt
theorem Ms(he:PE X e te):PS X (.Return (some e) pos) (Tu te):=by
 intro pins s σ H D I h
 exact wpAny_Return_some (f6 (he pins s σ H _ I h) fun v s1 ⟨x,H1,I1,r1,q1⟩=>⟨x,σ,H1,I1,r1,q1⟩)
def Tv(c:TT)(t u:TS):TS:=fun D σ H=>c σ H fun b H1=>if b=true then t D σ H1 else u D σ H1
theorem PH{a b:List Stmt}{tc:TT}(hc:PT X c tc)(ha:CU X a t)(hb:CU X b u):PS X (.If c a b pos) (Tv tc t u):=by
 intro pins s σ H D I h
 refine wpAny_If (f6 (hc pins s σ H _ I h) fun d s1 ⟨H1,I1,q1⟩=>?_)
 cases d with
 |true=>exact ha pins s1 σ H1 D I1 q1
 |false=>exact hb pins s1 σ H1 D I1 q1
end
abbrev TG:=V->St->Hp->(St->Hp->Prop)->Prop
abbrev Iv:=List V->St->Hp->(St->Hp->Prop)->Prop
def PG(X:Cx)(OV:Expr)(t:TG):Prop:=
 ∀(pins:List (Addr×Obj)) (s:Shared) (σ:St) (H:Hp) (v:V) (u:Value) (Q:St->Hp->Prop),bv X pins σ H s->bN v u->t v σ H Q ->
  wpAny (model X.prog X.w) X.A (assign OV X.env u) (fun _ s'=>∃σ' H',bv X pins σ' H' s'/\Q σ' H') X.xe s
def KD(X:Cx)(ts:List Expr)(t:Iv):Prop:=
 ∀(pins:List (Addr×Obj)) (s:Shared) (σ:St) (H:Hp) (vs:List V) (us:List Value) (Q:St->Hp->Prop),bv X pins σ H s->cA vs us->t vs σ H Q ->
  wpAny (model X.prog X.w) X.A (assignInOrder ((assignEach ts X.env).map (·.2)) us) (fun _ s'=>∃σ' H',bv X pins σ' H' s'/\Q σ' H') X.xe s
abbrev Iw:=V->V->V->Hp->(Hp->Prop)->Prop
def zS(X:Cx)(t:Iw):Prop:=
 ∀(pins:List (Addr×Obj)) (s:Shared) (σ:St) (H:Hp) (o i v:V) (ov iv u:Value) (Q:Hp->Prop),bv X pins σ H s->bN o ov->bN i iv->bN v u->t o i v H Q ->
  wpAny (model X.prog X.w) X.A (setItem ov iv u) (fun _ s'=>∃H',bv X pins σ H' s'/\Q H') X.xe s
section
variable{X:Cx}
def KF(i:Nat):TG:=fun v σ H Q=>Q (σ.set i (some v)) H
theorem Iy(hN:X.N.Nodup)(hi:X.N[i]?=some x)(hx:Ec X.env.scope x)(hf:X.fn x=true\/X.env.scope.names.lookup x=some .local:=by first|exact .inl rfl|exact .inr rfl|assumption):PG X (.Name x pos) (KF i):=by
 intro pins s σ H v u Q I r h
 exact wpAny_assign_Name (sJ I hN hi hx r (fun s' I'=>⟨_,H,I',h⟩) hf)
def Tw:Iv:=fun vs σ H Q=>vs=[]/\Q σ H
def PJ(t:TG)(u:Iv):Iv:=fun vs σ H Q=>∃v r,vs=v::r/\t v σ H fun σ' H'=>u r σ' H' Q
theorem Iz:KD X [] Tw:=by
 intro pins s σ H vs us Q I r h
 obtain⟨e,h⟩:=h
 subst e
 cases r
 exact assignInOrder_nil ⟨σ,H,I,h⟩
theorem Ep{t:TG}{u:Iv}(h1:PG X e t)(h2:KD X es u)
  (hs:(assignEach (e::es) X.env).map (·.2)=assign e X.env::(assignEach es X.env).map (·.2):=by rfl):KD X (e::es) (PJ t u):=by
 intro pins s σ H vs us Q I r h
 obtain⟨v,vr,e1,h⟩:=h
 subst e1
 cases r with
 |cons r rr=>
  rw[hs]
  refine assignInOrder_cons (f6 (h1 pins s σ H _ _ _ I r h) fun _ s1 ⟨σ1,H1,I1,q1⟩=>?_)
  exact h2 pins s1 σ1 H1 _ _ Q I1 rr q1
def Tx(K:Frag)(n:Nat)(t:Iv):TG:=fun v σ H Q=>∃a xs,v=.ref a/\fq K H a xs/\xs.length=n/\t xs σ H Q
theorem Mt{k:Nat}{t:Iv}(hc:X.calm=true)(h:KD X es t)
  (hn:(assignEach es X.env).length=n:=by rfl) (xI:(assignEach es X.env).findIdx? (·.1)=none:=by rfl):PG X (.Tuple es k pos) (Tx X.K n t):=by
 intro pins s σ H v u Q I r hw
 obtain⟨a,xs,e1,hq,hl,hw⟩:=hw
 subst e1
 cases r
 obtain⟨bC,rv,ht,hz⟩:=I.tuple hq
 refine assign_Tuple_tuple (I.ok.hd hc) ht (by simp[hn,<- hl,rv.length]) xI fun h' hx=>?_
 have I1:bv X pins σ H { s with heap:=h' }:=I.kept (t':=s.toks) fun b o e=>hx b o (bD (aI e)) e
 exact h pins _ σ H xs _ Q I1 (by simpa using rv) hw
def Tz(to ti:TE)(t:Iw):TG:=fun v σ H Q=>to σ H fun o H1=>ti σ H1 fun i H2=>t o i v H2 fun H3=>Q σ H3
theorem Mu{o i:Expr}{to ti:TE}{t:Iw}(ho:PE X o to)(hi:PE X i ti)(hs:zS X t)
  (ha:∀v,assign (.Subscript o i pos) X.env v=(do
   let ov <- holding [v] (eval o X.env)
   let iv <- holding [v,ov] (eval i X.env)
   standAt pos
   holding [v,ov,iv] (setItem ov iv v)
   release [v,ov,iv] []):=by intro _;rfl):PG X (.Subscript o i pos) (Tz to ti t):=by
 intro pins s σ H v u Q I r h
 rw[ha]
 refine ah (cC (f6 (ho pins s σ H _ I h) fun ov s1 ⟨x,H1,I1,r1,q1⟩=>?_))
 refine ah (cC (f6 (hi pins s1 σ H1 _ I1 q1) fun iv s2 ⟨y,H2,I2,r2,q2⟩=>?_))
 refine ah (lE (ah (cC (f6 (hs pins s2 σ H2 x y v ov iv u _ I2 r1 r2 r q2) fun _ s3 ⟨H3,I3,q3⟩=>?_))))
 exact wpAny_release ⟨σ,H3,I3,q3⟩
def Er(te:TE)(g:TG):TS:=fun D σ H=>te σ H fun x H1=>g x σ H1 D.nx
theorem Es{te:TE}{g:TG}(he:PE X e te)(hg:PG X tg g)(hs:swapsWithSole [tg] e pos.line X.env=pure false:=by rfl)(hw:swappedStores [tg] e X.env=pure none:=by rfl)
  (h1:(assignEach [tg] X.env).map (·.2)=[assign tg X.env]:=by rfl):PS X (.Assign [tg] e pos) (Er te g):=by
 intro pins s σ H D I h
 refine wpAny_Assign_stores (f6 (he pins s σ H _ I h) fun v s1 ⟨x,H1,I1,r1,q1⟩=>?_) hs hw
 rw[h1]
 exact f6 (hg pins s1 σ H1 x v _ I1 r1 q1) fun _ s2 q=>q
theorem Mv{te:TE}(hN:X.N.Nodup)(hi:X.N[i]?=some x)(hx:Ec X.env.scope x)(he:PE X e te)(hs:swapsWith e (some (.Name x iU)) pos.line X.env=pure false:=by rfl)(hf:X.fn x=true\/X.env.scope.names.lookup x=some .local:=by first|exact .inl rfl|exact .inr rfl|assumption) :
  PS X (.Assign [.Name x iU] e pos) (Er te (KF i)):=by
 intro pins s σ H D I h
 refine wpAny_Assign_Name (f6 (he pins s σ H _ I h) fun v s1 ⟨y,H1,I1,r1,q1⟩=>?_) hs
 exact sJ I1 hN hi hx r1 (fun s2 I2=>⟨_,H1,I2,q1⟩) hf
end
section
variable{X:Cx}
def Et(c:TT)(tb:TS):TS:=fun D σ H=>∃W:Nat->St->Hp->Prop,(∃m,W m σ H)/\∀m σ H,W m σ H ->
 c σ H fun b H1=>if b=true then ∃N:St->Hp->Prop,(∀σ' H',N σ' H'->∃m',m'<m/\W m' σ' H')/\tb { D with nx:=N,ct:=N,bk:=D.nx } σ H1 else D.nx σ H1
theorem Eu{tc:TT}{tb:TS}(hp:PassesOwn (model X.prog X.w) X.A X.env X.xe)(hc:PT X c tc)(hb:CU X body tb):PS X (.While c body [] pos) (Et tc tb):=by
 intro pins s σ H D I h
 obtain⟨W,⟨m0,w0⟩,turn⟩:=h
 refine wpAny_While (codeAny_whileLoop (fun n s'=>∃σ' H',bv X pins σ' H' s'/\W n σ' H') ?_ m0 ⟨σ,H,I,w0⟩)
 rintro n s1 ⟨σ1,H1,I1,w1⟩
 refine fD hp (f6 (hc pins s1 σ1 H1 _ I1 (turn n σ1 H1 w1)) fun b s2 ⟨H2,I2,q2⟩=>?_)
 cases b with
 |true=>
  obtain⟨N,hN,q2⟩:=q2
  rw[am rfl]
  refine fD hp (f6 (hb pins s2 σ1 H2 _ I2 q2) fun f s3 q3=>?_)
  cases f with
  |next=>
   obtain⟨σ3,H3,I3,n3⟩:=q3
   obtain⟨m',hm,w3⟩:=hN σ3 H3 n3
   exact⟨m',hm,σ3,H3,I3,w3⟩
  |cont=>
   obtain⟨σ3,H3,I3,n3⟩:=q3
   obtain⟨m',hm,w3⟩:=hN σ3 H3 n3
   exact⟨m',hm,σ3,H3,I3,w3⟩
  |brk=>exact q3
  |ret v=>exact q3
 |false=>
  rw[az bO]
  exact jl ⟨σ1,H2,I2,q2⟩
end
structure It where
 go:Nat->Hp->Prop
 yld:Nat->Hp->V->Hp->Prop
 stop:Nat->Hp->Prop
def pQ(X:Cx)(pins:List (Addr×Obj))(H:Hp)(b:Addr):Prop:=
 H b=none/\b≠X.env.locals/\b∉X.fs/\(b∈X.ex\/X.s₀.heap.objs.size<=b)/\(∀x c,X.env.cells.lookup x=some c->c≠b)/\∀p∈X.pn++pins,p.1≠b
theorem bv.fpOk{X:Cx}{σ:St}{H H':Hp}(I:bv X pins σ H s)(hb:s.heap.objs.size<=b)(hn:H' b=none):pQ X pins H' b:=by
 refine⟨hn,qz (a6 I.lt hb),I.nofs hb,.inr (a_ I.sz hb),fun x c e z=>?_,fun p hp z=>?_⟩
 ·obtain⟨v,q⟩:=I.cell x c e
  exact absurd (a6 q.lt (by rw[z];exact hb)) (bA _)
 ·exact absurd (a6 (aI (I.pin p hp).1) (by rw[z];exact hb)) (bA _)
structure CV(P:Program)(w:World)(K:Frag)(tg:Expr)(J:It)(fp:List Addr)(it:Addr)(tn:Nat->Heap->Prop):Prop where
 mem:it∈fp
 obj:∀i h,tn i h->∀b∈fp,∃o,h.get? b=some o/\∀v,o.data≠.cell v
 keep:∀i h h',tn i h->(∀b∈fp,∀o,h.get? b=some o->h'.get? b=some o)->tn i h'
 item:∀(X:Cx),X.prog=P->X.w=w->X.K=K->X.calm=true->∀(i:Nat) (pins:List (Addr×Obj)) (s:Shared) (σ:St) (H:Hp) (E:Value->Shared->Prop),bv X pins σ H s->(∀b∈fp,pQ X pins H b)->tn i s.heap->J.go i H ->
  wpAny (model P w) X.A (pyNext (.ref it)) (fun r s1=>∃u,r=some u /\
   wpAny (model P w) X.A (letOwnedTupleGo tg (.ref it) u) (fun _ s2=>∃x H',bv X pins σ H' s2/\bN x u/\J.yld i H x H'/\tn (i+1) s2.heap/\∀b∈fp,H' b=none) E s1) E s
 done:∀(X:Cx),X.prog=P->X.w=w->X.K=K->X.calm=true->∀(i:Nat) (pins:List (Addr×Obj)) (s:Shared) (σ:St) (H:Hp) (E:Value->Shared->Prop),bv X pins σ H s->(∀b∈fp,pQ X pins H b)->tn i s.heap->J.stop i H ->
  wpAny (model P w) X.A (pyNext (.ref it)) (fun r s1=>r=none/\bv X pins σ H s1) E s
 self:∀(A:Around) (i:Nat) (s:Shared) (Q:Value->Shared->Prop) (E:Value->Shared->Prop),tn i s.heap->Q (.ref it) s->wpAny (model P w) A (pyIter (.ref it)) Q E s
abbrev TI:=St->Hp->(It->Hp->Prop)->Prop
def TB(X:Cx)(pins:List (Addr×Obj))(σ:St)(tg:Expr)(R:It->Hp->Prop)(Ui:Value)(s2:Shared):Prop:=
 ∃(it:Addr) (fp:List Addr) (tn:Nat->Heap->Prop) (J:It) (H':Hp),Ui=.ref it/\bv X pins σ H' s2/\CV X.prog X.w X.K tg J fp it tn/\tn 0 s2.heap/\(∀b∈fp,pQ X pins H' b)/\R J H'
def PI(X:Cx)(tg iter:Expr)(wi:TI):Prop:=
 ∀(pins:List (Addr×Obj)) (s:Shared) (σ:St) (H:Hp) (R:It->Hp->Prop),bv X pins σ H s->wi σ H R ->
  wpAny (model X.prog X.w) X.A (eval iter X.env) (fun v s1=>wpAny (model X.prog X.w) X.A (pyIter v) (TB X pins σ tg R) X.xe s1) X.xe s
theorem Bm      {E:Value -> Shared -> Prop} {s:Shared}     {n:String} {vs:Array Value} {Q:Unit -> Shared -> Prop} (ho : s.heap.get? it = some o) (hc : o.cls = .type n) (hd : o.data = .fields vs)
    (hn : ["enumerate", "zip", "dict_itemiterator", "dict_reverseitemiterator", "odict_iterator", "itertools.zip_longest", "itertools.pairwise"].contains n = false) (hQ : Q () s) : wpAny M A (letOwnedTupleGo tg (.ref it) u) Q E s := by
  unfold letOwnedTupleGo
  cases tg <;> first
    | exact ax         hQ
    | (cases u <;> first
        | exact ax         hQ
        | (refine ah         (wpAny_load ho ?_)
           rw [hc, hd]
           show wpAny M A (if (["enumerate", "zip", "dict_itemiterator", "dict_reverseitemiterator", "odict_iterator", "itertools.zip_longest", "itertools.pairwise"].contains n && vs[0]? == some (rawInt _)) = true then _ else _) Q E s
           rw [az     (by intro h; rw [hn, Bool.false_and] at h; cases h)]
           exact ax         hQ))
def Uu(K:Frag)(a:Addr):It:=
 ⟨fun i H=>∃xs x,rO K H a xs/\xs[i]?=some x,fun i H x H'=>H'=H/\∀xs,rO K H a xs->xs[i]?=some x,fun i H=>∃xs,rO K H a xs/\xs.length<=i⟩
def Uv(K:Frag)(a:Addr):It:=
 ⟨fun i H=>∃xs x,fq K H a xs/\xs[i]?=some x,fun i H x H'=>H'=H/\∀xs,fq K H a xs->xs[i]?=some x,fun i H=>∃xs,fq K H a xs/\xs.length<=i⟩
def PL(lo:Int)(n:Nat):It:=⟨fun i _=>i<n,fun i H x H'=>H'=H/\x=.int (lo+i),fun i _=>n<=i⟩
theorem CW{w:World}(a it:Addr):CV P w K tg (Uu K a) [it] it (fun i h=>h.IsListIter it a i) where
 mem:=by simp
 obj:=fun i h st b hb=>by
  have e:b=it:=by simpa using hb
  subst e
  obtain⟨o,e,c,d⟩:=st
  exact⟨o,e,fun v z=>by rw[d]at z;cases z⟩
 keep:=fun i h h' st k=>st.at fun o e=>k it (by simp) o e
 item:=by
  intro X hP hw hK hc i pins s σ H E I hf st hg
  subst hP hw hK
  obtain⟨xs,x,hq,hx⟩:=hg
  obtain⟨bC,rv,p,hz⟩:=I.list hq
  obtain⟨u,hu,ru⟩:=rv.get hx
  obtain⟨f0,f1,f2,f3,f4,f5⟩:=hf it (by simp)
  refine wpAny_pyNext_list_item st p.isList (x:=u) (by simpa using hu) fun h' bE sb=>?_
  have I1:bv X pins σ H { s with heap:=h' }:=I.turned (t':=s.toks) (fun b o hb e=>(sb.2 b hb).trans e) f0 f1 f3 f4 f5
  obtain⟨o,e,c,d⟩:=id bE
  exact⟨u,rfl,Bm (s:={ s with heap:=h' }) e c d (by decide) ⟨x,H,I1,ru,⟨rfl,fun ys hy=>by rw[I.list_inj hy hq];exact hx⟩,bE,fun b hb=>(hf b hb).1⟩⟩
 done:=by
  intro X hP hw hK hc i pins s σ H E I hf st hg
  subst hP hw hK
  obtain⟨xs,hq,hx⟩:=hg
  obtain⟨bC,rv,p,hz⟩:=I.list hq
  obtain⟨f0,f1,f2,f3,f4,f5⟩:=hf it (by simp)
  have hl:=rv.length
  exact wpAny_pyNext_list_end (I.ok.hd hc) st p.isList (by simp;omega) fun h' eb=>⟨rfl,I.turned (t':=s.toks) (fun b o hb e=>eb b o hb e) f0 f1 f3 f4 f5⟩
 self:=fun _ _ _ _ _ st h=>wpAny_pyIter_listiter st h
theorem zT{w:World}(a it:Addr):CV P w K tg (Uv K a) [it] it (fun i h=>h.IsTupleIter it a i) where
 mem:=by simp
 obj:=fun i h st b hb=>by
  have e:b=it:=by simpa using hb
  subst e
  obtain⟨o,e,c,d⟩:=st
  exact⟨o,e,fun v z=>by rw[d]at z;cases z⟩
 keep:=fun i h h' st k=>st.at fun o e=>k it (by simp) o e
 item:=by
  intro X hP hw hK hc i pins s σ H E I hf st hg
  subst hP hw hK
  obtain⟨xs,x,hq,hx⟩:=hg
  obtain⟨bC,rv,p,hz⟩:=I.tuple hq
  obtain⟨u,hu,ru⟩:=rv.get hx
  obtain⟨f0,f1,f2,f3,f4,f5⟩:=hf it (by simp)
  refine wpAny_pyNext_tuple_item st (show s.heap.IsTuple a bC.toArray from p) (x:=u) (by simpa using hu) fun h' bE sb=>?_
  have I1:bv X pins σ H { s with heap:=h' }:=I.turned (t':=s.toks) (fun b o hb e=>(sb.2 b hb).trans e) f0 f1 f3 f4 f5
  obtain⟨o,e,c,d⟩:=id bE
  exact⟨u,rfl,Bm (s:={ s with heap:=h' }) e c d (by decide) ⟨x,H,I1,ru,⟨rfl,fun ys hy=>by rw[I.tuple_inj hy hq];exact hx⟩,bE,fun b hb=>(hf b hb).1⟩⟩
 done:=by
  intro X hP hw hK hc i pins s σ H E I hf st hg
  subst hP hw hK
  obtain⟨xs,hq,hx⟩:=hg
  obtain⟨bC,rv,p,hz⟩:=I.tuple hq
  obtain⟨f0,f1,f2,f3,f4,f5⟩:=hf it (by simp)
  have hl:=rv.length
  exact wpAny_pyNext_tuple_end (I.ok.hd hc) st (show s.heap.IsTuple a bC.toArray from p) (by simp;omega) fun h' eb=>⟨rfl,I.turned (t':=s.toks) (fun b o hb e=>eb b o hb e) f0 f1 f3 f4 f5⟩
 self:=fun _ _ _ _ _ st h=>wpAny_pyIter_tupleiter st h
theorem zU{w:World}(it:Addr)(lo:Int)(n:Nat):CV P w K tg (PL lo n) [it] it (fun i h=>IsRangeIter h it (lo+(i:Nat)*1) ((n:Int)-(i:Nat)) 1) where
 mem:=by simp
 obj:=fun i h st b hb=>by
  have e:b=it:=by simpa using hb
  subst e
  exact⟨_,st,fun v z=>by
   have z':Data.fields _=Data.cell v:=z
   cases z'⟩
 keep:=fun i h h' st k=>k it (by simp) _ st
 item:=by
  intro X hP hw hK hc i pins s σ H E I hf st hg
  subst hP hw hK
  obtain⟨f0,f1,f2,f3,f4,f5⟩:=hf it (by simp)
  have W:=Walks.range (prog:=X.prog) (w:=X.w) (I.ok.hd hc) it lo 1 n
  refine W.item i s _ _ hg st fun v h' tk hv bE kk=>?_
  obtain⟨t,rfl⟩:=hv
  have I1:bv X pins σ H { s with heap:=h',toks:=tk }:=I.turned (fun b o hb e=>kk b o (by simpa using hb) e) f0 f1 f3 f4 f5
  refine⟨_,rfl,Bm (s:={ s with heap:=h',toks:=tk }) (n:="range_iterator") bE rfl rfl (by decide) ⟨.int (lo+i),H,I1,⟨t,?_⟩,⟨rfl,rfl⟩,bE,fun b hb=>(hf b hb).1⟩⟩
  rw[Int.mul_one]
 done:=by
  intro X hP hw hK hc i pins s σ H E I hf st hg
  subst hP hw hK
  obtain⟨f0,f1,f2,f3,f4,f5⟩:=hf it (by simp)
  exact wpAny_pyNext_range_end (I.ok.hd hc) st (by have:n<=i:=hg;omega) fun h' eb=>⟨rfl,I.turned (t':=s.toks) (fun b o hb e=>eb b o hb e) f0 f1 f3 f4 f5⟩
 self:=fun _ _ _ _ _ st h=>mO st h
section
variable{X:Cx}
def PM(K:Frag)(tl:TE):TI:=fun σ H R=>tl σ H fun x H1=>∃a,x=.ref a/\(∃xs,rO K H1 a xs)/\R (Uu K a) H1
def TC(K:Frag)(tl:TE):TI:=fun σ H R=>tl σ H fun x H1=>∃a,x=.ref a/\(∃xs,fq K H1 a xs)/\R (Uv K a) H1
theorem IA{l:Expr}{tl:TE}(hl:PE X l tl):PI X tg l (PM X.K tl):=by
 intro pins s σ H R I h
 refine f6 (hl pins s σ H _ I h) fun v s1 ⟨x,H1,I1,r1,q1⟩=>?_
 obtain⟨a,e,⟨xs,hq⟩,q⟩:=q1
 subst e
 cases r1
 obtain⟨bC,rv,p,hz⟩:=I1.list hq
 refine wpAny_pyIter_list p.isList ?_
 refine⟨s1.heap.objs.size,[s1.heap.objs.size],_,_,H1,rfl,I1.kept (t':=s1.toks) fun b o e=>ao _ e,CW a _,⟨_,aT _ rfl,rfl,rfl⟩,fun b hb=>?_,q⟩
 have e:b=s1.heap.objs.size:=by simpa using hb
 subst e
 exact I1.fpOk (au _) (I1.hok.fresh (au _))
theorem Mw{l:Expr}{tl:TE}(hl:PE X l tl):PI X tg l (TC X.K tl):=by
 intro pins s σ H R I h
 refine f6 (hl pins s σ H _ I h) fun v s1 ⟨x,H1,I1,r1,q1⟩=>?_
 obtain⟨a,e,⟨xs,hq⟩,q⟩:=q1
 subst e
 cases r1
 obtain⟨bC,rv,p,hz⟩:=I1.tuple hq
 refine kj (show s1.heap.IsTuple a bC.toArray from p) ?_
 refine⟨s1.heap.objs.size,[s1.heap.objs.size],_,_,H1,rfl,I1.kept (t':=s1.toks) fun b o e=>ao _ e,zT a _,⟨_,aT _ rfl,rfl,rfl⟩,fun b hb=>?_,q⟩
 have e:b=s1.heap.objs.size:=by simpa using hb
 subst e
 exact I1.fpOk (au _) (I1.hok.fresh (au _))
theorem x_{σ:St}{H:Hp}{R:It->Hp->Prop}{lo hi:Int}{t u v:Tok}{tk:Nat}(I:bv X pins σ H s)(h1:-(2^62)<=lo)(h2:lo<2^62)(h3:-(2^62)<=hi)(h4:hi<2^62)
  (q:R (PL lo (hi-lo).toNat) H):wpAny (model X.prog X.w) X.A (pyIter (.ref s.heap.objs.size)) (TB X pins σ tg R) E { s with heap:=s.heap.push { cls:=.type "range",data:=.fields #[.int lo t,.int hi u,.int 1 v] },toks:=tk }:=by
 refine wpAny_pyIter_range (IsRange.new ..) (small_one h1 h2 h3 h4) ?_
 have I1:bv X pins σ H { s with heap:=s.heap.push { cls:=.type "range",data:=.fields #[.int lo t,.int hi u,.int 1 v] },toks:=tk }:=I.kept fun b o e=>ao _ e
 refine⟨(s.heap.push { cls:=.type "range",data:=.fields #[.int lo t,.int hi u,.int 1 v] }).objs.size,[(s.heap.push { cls:=.type "range",data:=.fields #[.int lo t,.int hi u,.int 1 v] }).objs.size],_,_,H,rfl,
  I1.kept (t':=tk) fun b o e=>ao _ e,zU _ lo (hi-lo).toNat,?_,fun b hb=>?_,q⟩
 ·have e1:lo+((0:Nat):Int)*1=lo:=by simp
  have e2:(((hi-lo).toNat:Nat):Int)-((0:Nat):Int)=Builtin.Range.rangeSize lo hi 1:=by rw[rangeSize_one];split<;>omega
  show IsRangeIter _ _ (lo+((0:Nat):Int)*1) ((((hi-lo).toNat:Nat):Int)-((0:Nat):Int)) 1
  rw[e1,e2]
  exact aT _ rfl
 ·have e:b=(s.heap.push { cls:=.type "range",data:=.fields #[.int lo t,.int hi u,.int 1 v] }).objs.size:=by simpa using hb
  subst e
  exact I1.fpOk (au _) (I1.hok.fresh (au _))
def PN(ta:TA):TI:=fun σ H R=>ta σ H fun vs H1=>∃j:Int,vs=[.int j]/\-(2^62)<=j/\j<2^62/\R (PL 0 j.toNat) H1
def PP(ta:TA):TI:=fun σ H R=>ta σ H fun vs H1=>∃i j:Int,vs=[.int i,.int j]/\(-(2^62)<=i/\i<2^62/\-(2^62)<=j/\j<2^62)/\R (PL i (j-i).toNat) H1
theorem CY{a:Expr}{ta:TA}{p pos:Pos}(hg:Gl X "range")(hm:X.mg "range"=none)(ha:PA X [a] ta)(hs:starEach [a] X.env=[(false,eval a X.env)]:=by rfl):PI X tg (.Call (.Name "range" p) [a] [] pos) (PN ta):=by
 intro pins s σ H R I h
 refine Call_ (nG I hg hm pL (dA (f6 (ha pos pins s σ H _ I h) fun us s1 ⟨vs,H1,I1,r1,q1⟩=>?_) hs rfl))
 obtain⟨j,e,q1,q2,q⟩:=q1
 subst e
 cases r1 with
 |cons r rr=>
  cases rr
  obtain⟨t,rfl⟩:=r
  exact call_range_1 (x_ I1 (by omega) (by omega) q1 q2 (by simpa using q))
theorem CZ{a b:Expr}{ta:TA}{p pos:Pos}(hg:Gl X "range")(hm:X.mg "range"=none)(ha:PA X [a,b] ta)(hs:starEach [a,b] X.env=[(false,eval a X.env),(false,eval b X.env)]:=by rfl)(A5:starEach [b] X.env=[(false,eval b X.env)]:=by rfl) :
  PI X tg (.Call (.Name "range" p) [a,b] [] pos) (PP ta):=by
 intro pins s σ H R I h
 refine Call_ (nG I hg hm pL (dA (f6 (ha pos pins s σ H _ I h) fun us s1 ⟨vs,H1,I1,r1,q1⟩=>?_) (by rw[hs,A5]) (by rw[A5];rfl)))
 obtain⟨i,j,e,⟨q1,q2,q3,q4⟩,q⟩:=q1
 subst e
 cases r1 with
 |cons r rr=>
  cases rr with
  |cons r' rr=>
   cases rr
   obtain⟨t,rfl⟩:=r
   obtain⟨t',rfl⟩:=r'
   exact call_range_2 (x_ I1 q1 q2 q3 q4 q)
def TD(wi:TI)(g:TG)(tb:TS):TS:=fun D σ H=>wi σ H fun J H1=>∃W:Nat->Nat->St->Hp->Prop,(∃m,W 0 m σ H1)/\∀i m σ H,W i m σ H ->
 (J.stop i H/\D.nx σ H)\/(J.go i H/\∃N:St->Hp->Prop,(∀σ' H',N σ' H'->∃m',m'<m/\W (i+1) m' σ' H')/\∀x H',J.yld i H x H'->g x σ H' fun σ2 H2=>tb { D with nx:=N,ct:=N,bk:=D.nx } σ2 H2)
def v6(fp:List Addr)(h:Heap):List (Addr×Obj):=fp.filterMap fun b=>(h.get? b).map fun o=>(b,o)
theorem iM(hb:b∈fp)(e:h.get? b=some o):(b,o)∈v6 fp h:=List.mem_filterMap.mpr ⟨b,hb,by rw[e];rfl⟩
theorem C0{p:Addr×Obj}(hp:p∈v6 fp h):p.1∈fp/\h.get? p.1=some p.2:=by
 obtain⟨b,hb,e⟩:=List.mem_filterMap.mp hp
 cases q:h.get? b with
 |none=>rw[q]at e;cases e
 |some o=>
  rw[q]at e
  have e':(b,o)=p:=aU e
  subst e'
  exact⟨hb,q⟩
theorem bv.pinned{σ:St}{H:Hp}(I:bv X pins σ H s)(hf:∀b∈fp,pQ X pins H b)(ho:∀b∈fp,∃o,s.heap.get? b=some o/\∀v,o.data≠.cell v):bv X (pins++v6 fp s.heap) σ H s:=
 I.pins_of fun p hp=>(aL.mp hp).elim (fun z=>I.pin p (aW _ z)) fun z=>by
  obtain⟨hb,e⟩:=C0 z
  obtain⟨f0,f1,f2,_⟩:=hf p.1 hb
  obtain⟨o,e',d⟩:=ho p.1 hb
  rw[e]at e';cases e'
  exact⟨e,f0,f1,f2,d⟩
theorem bv.unpinned{pl:List (Addr×Obj)}{σ:St}{H:Hp}(I:bv X (pins++pl) σ H s):bv X pins σ H s:=I.pins_of fun p hp=>I.pin p (aW _ (cN _ hp))
theorem Mx{wi:TI}{g:TG}{tb:TS}{pos:Pos}(hp:PassesOwn (model X.prog X.w) X.A X.env X.xe)(hc:X.calm=true)(hi:PI X tg iter wi)(hg:PG X tg g)(hb:CU X body tb)
  (hs:∀x,foldedSetIterable iter X.env x=pure x:=by intro _;rfl):PS X (.For tg iter body [] pos) (TD wi g tb):=by
 intro pins s σ H D I h
 refine wpAny_For (f6 (hi pins s σ H _ I h) fun v s1 h1=>f6 h1 fun Ui s2 h2=>?_) hs
 obtain⟨it,fp,tn,J,H2,e,I2,T,cM,f2,W,⟨m0,w0⟩,turn⟩:=h2
 subst e
 have stat:∀{H':Hp},(∀b∈fp,H' b=none)->∀b∈fp,pQ X pins H' b:=fun hn b hb=>⟨hn b hb,(f2 b hb).2⟩
 refine codeAny_forLoop_any (fun n s'=>∃i σ' H',bv X pins σ' H' s'/\tn i s'.heap/\(∀b∈fp,H' b=none)/\W i n σ' H') ?_ m0 ⟨0,σ,H2,I2,cM,fun b hb=>(f2 b hb).1,w0⟩
 rintro n s3 ⟨i,σ3,H3,I3,i5,fr3,w3⟩
 rcases turn i n σ3 H3 w3 with⟨stop,qn⟩|⟨go,N,hN,step⟩
 ·refine fD hp (f6 (T.done X rfl rfl rfl hc i pins s3 σ3 H3 X.xe I3 (stat fr3) i5 stop) fun r s4 ⟨hr,I4⟩=>?_)
  subst hr
  exact jl ⟨σ3,H3,I4,qn⟩
 ·refine fD hp (f6 (T.item X rfl rfl rfl hc i pins s3 σ3 H3 X.xe I3 (stat fr3) i5 go) fun r s4 ⟨u,hr,h4⟩=>?_)
  subst hr
  refine fD hp (f6 h4 fun _ s5 ⟨x,H5,I5,r5,y5,st5,fr5⟩=>?_)
  have I5':=I5.pinned (stat fr5) (T.obj _ _ st5)
  refine fD hp (f6 (hg _ s5 σ3 H5 x u _ I5' r5 (step x H5 y5)) fun _ s6 ⟨σ6,H6,I6,q6⟩=>?_)
  refine fD hp (f6 (hb _ s6 σ6 H6 _ I6 q6) fun f s7 q7=>?_)
  have again:∀{σ7:St} {H7:Hp},bv X (pins++v6 fp s5.heap) σ7 H7 s7->N σ7 H7->∃m,m<n/\∃i σ' H',bv X pins σ' H' s7/\tn i s7.heap/\(∀b∈fp,H' b=none)/\W i m σ' H':=fun{σ7 H7} I7 n7=>by
   obtain⟨m',hm,w7⟩:=hN σ7 H7 n7
   refine⟨m',hm,i+1,σ7,H7,I7.unpinned,T.keep _ _ _ st5 fun b hb o e=>(I7.pin (b,o) (aW _ (aW _ (iM hb e)))).1,fun b hb=>?_,w7⟩
   obtain⟨o,e,d⟩:=T.obj _ _ st5 b hb
   exact(I7.pin (b,o) (aW _ (aW _ (iM hb e)))).2.1
  cases f with
  |next=>obtain⟨σ7,H7,I7,n7⟩:=q7;exact again I7 n7
  |cont=>obtain⟨σ7,H7,I7,n7⟩:=q7;exact again I7 n7
  |brk=>obtain⟨σ7,H7,I7,q7⟩:=q7;exact⟨σ7,H7,I7.unpinned,q7⟩
  |ret v=>obtain⟨x7,σ7,H7,I7,r7,q7⟩:=q7;exact⟨x7,σ7,H7,I7.unpinned,r7,q7⟩
end
abbrev R2:=V->V->Hp->VK->Prop
def n6(X:Cx)(f:Value->Value->Sem Value)(r:R2):Prop:=
 ∀(pins:List (Addr×Obj)) (s:Shared) (σ:St) (H:Hp) (x y:V) (v u:Value) (Q:VK),bv X pins σ H s->bN x v->bN y u->r x y H Q ->
  wpAny (model X.prog X.w) X.A (f v u) (EP X pins σ Q) X.xe s
def TF(X:Cx)(f:Value->Sem Value)(r:V->Hp->VK->Prop):Prop:=
 ∀(pins:List (Addr×Obj)) (s:Shared) (σ:St) (H:Hp) (x:V) (v:Value) (Q:VK),bv X pins σ H s->bN x v->r x H Q ->
  wpAny (model X.prog X.w) X.A (f v) (EP X pins σ Q) X.xe s
def g9(X:Cx)(f:Value)(r:List V->Hp->VK->Prop):Prop:=
 ∀(pins:List (Addr×Obj)) (s:Shared) (σ:St) (H:Hp) (xs:List V) (us:List Value) (Q:VK),bv X pins σ H s->cA xs us->r xs H Q ->
  wpAny (model X.prog X.w) X.A (call f us) (EP X pins σ Q) X.xe s
def PQ(r:R2)(ta tb:TE):TE:=fun σ H Q=>ta σ H fun x H1=>tb σ H1 fun y H2=>r x y H2 Q
def UO(r:V->Hp->VK->Prop)(ta:TE):TE:=fun σ H Q=>ta σ H fun x H1=>r x H1 Q
def rI(C:Int->Int->Prop)(g:Int->Int->V):R2:=fun x y H Q=>∃i j,x=.int i/\y=.int j/\C i j/\Q (g i j) H
def IB(g:Int->Int->V):R2:=fun x y H Q=>∃i j,x=.int i/\y=.int j/\Q (g i j) H
def rU(g:Int->V):V->Hp->VK->Prop:=fun x H Q=>∃i,x=.int i/\Q (g i) H
section
variable{X:Cx}{a b:Expr}{ta tb tc:TE}
theorem My(ha:PE X a ta)(hb:PE X b tb){σ:St}{H:Hp}{R:V->V->Hp->Prop}(I:bv X pins σ H s)
  (h:ta σ H fun x H1=>tb σ H1 fun y H2=>R x y H2) {Q:Value->Shared->Prop} {f:Value->Value->Sem Value}
  (hf:∀v u s2 x y H2,bv X pins σ H2 s2->bN x v->bN y u->R x y H2->wpAny (model X.prog X.w) X.A (f v u) Q X.xe s2) :
  wpAny (model X.prog X.w) X.A (eval a X.env) (fun v s₁=>wpAny (model X.prog X.w) X.A (eval b X.env) (fun u s₂=>wpAny (model X.prog X.w) X.A (f v u) Q X.xe s₂) X.xe s₁) X.xe s:=by
 refine f6 (ha pins s σ H _ I h) fun v s1 ⟨x,H1,I1,r1,q1⟩=>?_
 refine f6 (hb pins s1 σ H1 _ I1 q1) fun u s2 ⟨y,H2,I2,r2,q2⟩=>?_
 exact hf v u s2 x y H2 I2 r1 r2 q2
theorem PR{op:Operator}{r:R2}(ho:n6 X (binaryOp op) r)(ha:PE X a ta)(hb:PE X b tb):PE X (.BinOp a op b pos) (PQ r ta tb):=by
 intro pins s σ H Q I h
 exact wpAny_BinOp (My ha hb I h fun v u s2 x y H2 I2 rx ry q=>ho pins s2 σ H2 x y v u Q I2 rx ry q)
theorem PU{op:UnaryOp}{r:V->Hp->VK->Prop}(ho:TF X (unaryOp op) r)(ha:PE X a ta):PE X (.UnaryOp op a pos) (UO r ta):=by
 intro pins s σ H Q I h
 exact UnaryOp_ (f6 (ha pins s σ H _ I h) fun v s1 ⟨x,H1,I1,r1,q1⟩=>ho pins s1 σ H1 x v Q I1 r1 q1)
theorem PV{f:Value->Value->Sem Value}{C:Int->Int->Prop}{g:Int->Int->Int}
  (rule:∀(i j:Int) (t u:Tok) (s:Shared) (Q:Value->Shared->Prop) (E:Value->Shared->Prop),C i j->Q (.int (g i j) s.toks) { s with toks:=s.toks+1 }->wpAny (model X.prog X.w) X.A (f (.int i t) (.int j u)) Q E s) :
  n6 X f (rI C fun i j=>.int (g i j)):=by
 intro pins s σ H x y v u Q I rx ry h
 obtain⟨i,j,rfl,rfl,hc,q⟩:=h
 obtain⟨t,rfl⟩:=rx
 obtain⟨t',rfl⟩:=ry
 exact rule i j t t' s _ _ hc ⟨.int (g i j),H,I.tok _,⟨_,rfl⟩,q⟩
theorem PY{f:Value->Value->Sem Value}{g:Int->Int->Int}
  (rule:∀(i j:Int) (t u:Tok) (s:Shared) (Q:Value->Shared->Prop) (E:Value->Shared->Prop),Q (.int (g i j) s.toks) { s with toks:=s.toks+1 }->wpAny (model X.prog X.w) X.A (f (.int i t) (.int j u)) Q E s) :
  n6 X f (IB fun i j=>.int (g i j)):=by
 intro pins s σ H x y v u Q I rx ry h
 obtain⟨i,j,rfl,rfl,q⟩:=h
 obtain⟨t,rfl⟩:=rx
 obtain⟨t',rfl⟩:=ry
 exact rule i j t t' s _ _ ⟨.int (g i j),H,I.tok _,⟨_,rfl⟩,q⟩
theorem Mz{f:Value->Value->Sem Value}{g:Int->Int->Bool}
  (rule:∀(i j:Int) (t u:Tok) (s:Shared) (Q:Value->Shared->Prop) (E:Value->Shared->Prop),Q (.bool (g i j)) s->wpAny (model X.prog X.w) X.A (f (.int i t) (.int j u)) Q E s) :
  n6 X f (IB fun i j=>.bl (g i j)):=by
 intro pins s σ H x y v u Q I rx ry h
 obtain⟨i,j,rfl,rfl,q⟩:=h
 obtain⟨t,rfl⟩:=rx
 obtain⟨t',rfl⟩:=ry
 exact rule i j t t' s _ _ ⟨.bl (g i j),H,I,rfl,q⟩
def TH(i j:Int):Prop:=0<j/\j<1073741824
def MA(i j:Int):Prop:=0<=j/\j<=1000000/\i.natAbs<2^64
def MB(i j:Int):Prop:=(-(2^64)<i/\i<2^64)\/(-(2^64)<j/\j<2^64)
theorem MB.ok{i j:Int}(h:MB i j):IntMulOk i j:=by
 rcases h with⟨h1,h2⟩|⟨h1,h2⟩
 ·exact .of_left (intBits_le_64 h1 h2)
 ·exact .of_right (intBits_le_64 h1 h2)
theorem MC:n6 X (binaryOp .Add) (IB fun i j=>.int (i+j)):=PY fun _ _ _ _ _ _ _ q=>add_int q
theorem MD:n6 X (binaryOp .Sub) (IB fun i j=>.int (i-j)):=PY fun _ _ _ _ _ _ _ q=>sub_int q
theorem ME:n6 X (binaryOp .Mult) (rI MB fun i j=>.int (i*j)):=PV fun _ _ _ _ _ _ _ hc q=>mul_int q hc.ok
theorem IC:n6 X (binaryOp .FloorDiv) (rI TH fun i j=>.int (i/j)):=PV fun i j _ _ _ _ _ hc q=>by
 have h1:(0:Int)<j:=hc.1
 have h2:j<1073741824:=hc.2
 exact floordiv_int (by omega) (by rw[Int.fdiv_eq_ediv_of_nonneg i (by omega)];exact q) (.inl (mP (by omega)))
theorem MF:n6 X (binaryOp .Mod) (rI (fun _ j=>0<j) fun i j=>.int (i%j)):=PV fun i j _ _ _ _ _ hc q=>by
 have h1:(0:Int)<j:=hc
 exact mod_int' (by omega) (by rw[Int.fmod_eq_emod_of_nonneg i (by omega)];exact q)
theorem MG:n6 X (binaryOp .Pow) (rI MA fun i j=>.int (i^j.toNat)):=PV fun _ _ _ _ _ _ _ hc q=>pow_int_small hc.1 hc.2.1 hc.2.2 q
theorem Ev:n6 X (binaryOp .LShift) (rI MA fun i j=>.int (i*2^j.toNat)):=PV fun _ _ _ _ _ _ _ hc q=>lshift_int_small hc.1 hc.2.1 hc.2.2 q
theorem UP{f:Value->Sem Value}{g:Int->Int}
  (rule:∀(i:Int) (t:Tok) (s:Shared) (Q:Value->Shared->Prop) (E:Value->Shared->Prop),Q (.int (g i) s.toks) { s with toks:=s.toks+1 }->wpAny (model X.prog X.w) X.A (f (.int i t)) Q E s) :
  TF X f (rU fun i=>.int (g i)):=by
 intro pins s σ H x v Q I rx h
 obtain⟨i,rfl,q⟩:=h
 obtain⟨t,rfl⟩:=rx
 exact rule i t s _ _ ⟨.int (g i),H,I.tok _,⟨_,rfl⟩,q⟩
theorem MH:TF X (unaryOp .USub) (rU fun i=>.int (-i)):=UP fun _ _ _ _ _ q=>neg_int q
end
section
variable{X:Cx}{a b:Expr}{ta tb tc:TE}
theorem MI{σ:St}{H:Hp}{Q:VK}{k k':Bool}(I:bv X pins σ H s)(q:Q (.bl k) H)(e:k=k'):EP X pins σ Q (.bool k') s:=by
 subst e
 exact⟨.bl k,H,I,rfl,q⟩
theorem PZ:n6 X (compareOp .Lt) (IB fun i j=>.bl (decide (i<j))):=Mz fun _ _ _ _ _ _ _ q=>lt_int q
theorem P0:n6 X (compareOp .Gt) (IB fun i j=>.bl (decide (j<i))):=Mz fun _ _ _ _ _ _ _ q=>gt_int q
theorem P1:n6 X (compareOp .GtE) (IB fun i j=>.bl (decide (j<=i))):=Mz fun _ _ _ _ _ _ _ q=>ge_int q
theorem v7:n6 X (compareOp .NotIn) (fun x y H Q=>∃i j,x=.str i/\y=.str j/\Q (.bl (!(!(Builtin.Str.occurrences j i 0 j.length 1).isEmpty))) H):=by
 intro pins s σ H x y v u Q I rx ry h
 obtain⟨i,j,rfl,rfl,q⟩:=h
 obtain⟨t,rfl⟩:=rx
 obtain⟨t',rfl⟩:=ry
 exact notIn_str (MI I q rfl)
theorem Ew(b:Expr)(h:op≠.In:=by decide)(h2:op≠.NotIn:=by decide):behindInMarks op b=false:=by
 have e1:(op==CmpOp.In)=false:=by cases op<;>first|rfl|exact absurd rfl h
 have e2:(op==CmpOp.NotIn)=false:=by cases op<;>first|rfl|exact absurd rfl h2
 cases b<;>simp[behindInMarks,e1,e2]
theorem ID{r:R2}(ho:n6 X (compareOp op) r)(ha:PE X a ta)(hb:PE X b tb)(hm:behindInMarks op b=false):PE X (.Compare a [op] [b] pos) (PQ r ta tb):=by
 intro pins s σ H Q I h
 exact wpAny_Compare1 (My ha hb I h fun v u s2 x y H2 I2 rx ry q=>ho pins s2 σ H2 x y v u Q I2 rx ry q) hm
def P2(t:TE):TT:=fun σ H Q=>t σ H fun x H'=>∃k,x=.bl k/\Q k H'
theorem IE{r:R2}(ho:n6 X (compareOp op) r)(ha:PE X a ta)(hb:PE X b tb)(hm:behindInMarks op b=false):PT X (.Compare a [op] [b] pos) (P2 (PQ r ta tb)):=by
 intro pins s σ H Q I h
 refine nz (f6 (ha pins s σ H _ I h) fun v s1 ⟨x,H1,I1,r1,q1⟩=>f6 (hb pins s1 σ H1 _ I1 q1) fun u s2 ⟨y,H2,I2,r2,q2⟩=>
  f6 (ho pins s2 σ H2 x y v u _ I2 r1 r2 q2) fun c s3 ⟨z,H3,I3,r3,k,e,q3⟩=>?_) hm
 subst e
 cases r3
 exact gC ⟨H3,I3,q3⟩
theorem qJ:(sizeLine:Nat)<2^63:=by rw[lg];decide
theorem zV:n6 X (binaryOp .Add) (fun x y H Q=>∃i j,x=.str i/\y=.str j/\i.length+j.length<=sizeLine/\Q (.str (i++j)) H):=by
 intro pins s σ H x y v u Q I rx ry h
 obtain⟨i,j,rfl,rfl,hz,q⟩:=h
 obtain⟨t,rfl⟩:=rx
 obtain⟨t',rfl⟩:=ry
 exact add_str (fun t' tk=>⟨.str (i++j),H,I.tok _,⟨_,rfl⟩,q⟩) hz
theorem kQ{x:V}(r:cA [x] us):∃u,us=[u]/\bN x u:=by
 cases r with
 |cons r1 r2=>cases r2;exact⟨_,rfl,r1⟩
theorem KG{x y:V}(r:cA [x,y] us):∃u w',us=[u,w']/\bN x u/\bN y w':=by
 cases r with
 |cons r1 r2=>
  cases r2 with
  |cons r3 r4=>cases r4;exact⟨_,_,rfl,r1,r3⟩
theorem C1(hc:X.calm=true):g9 X (.builtin "max") (fun xs H Q=>∃i j,xs=[.int i,.int j]/\Q (.int (if j>i then j else i)) H):=by
 intro pins s σ H xs us Q I r h
 obtain⟨i,j,rfl,q⟩:=h
 obtain⟨u,w',rfl,⟨t,rfl⟩,⟨t',rfl⟩⟩:=KG r
 refine max_two_ints (I.ok.hd hc) fun h' tk k=>⟨_,H,I.kept k,?_,q⟩
 by_cases hj:j>i
 ·rw[am hj,am hj];exact⟨_,rfl⟩
 ·rw[az hj,az hj];exact⟨_,rfl⟩
theorem C2(hc:X.calm=true):g9 X (.builtin "min") (fun xs H Q=>∃i j,xs=[.int i,.int j]/\Q (.int (if j<i then j else i)) H):=by
 intro pins s σ H xs us Q I r h
 obtain⟨i,j,rfl,q⟩:=h
 obtain⟨u,w',rfl,⟨t,rfl⟩,⟨t',rfl⟩⟩:=KG r
 refine min_two_ints (I.ok.hd hc) fun h' tk k=>⟨_,H,I.kept k,?_,q⟩
 by_cases hj:j<i
 ·rw[am hj,am hj];exact⟨_,rfl⟩
 ·rw[az hj,az hj];exact⟨_,rfl⟩
end
structure MJ(h:Heap)(x dx C:Addr)(mA:Str->Option Value):Prop where
 obj:h.get? x=some (PySem.W.instObj C dx)
 ns:h.Ns1 dx mA
 ne:dx≠x
theorem C3{dx:Addr}(n:h.Ns1 dx mA):∃od,h.get? dx=some od/\∀name,PySem.W.lookIn name od=some (mA name):=by
 obtain⟨o,es,ep,ho,hd,hk,_,hm⟩:=n
 refine⟨o,ho,fun name=>?_⟩
 have e:=hm name
 unfold nsFind findBy at e
 rw[<- Array.find?_toList]at e
 unfold PySem.W.lookIn
 rw[hd]
 dsimp only
 split
 ·rename_i y q
  rw[q]at e
  exact dq some e
 ·rename_i q
  rw[q]at e
  have a:es.toList.any (·.refKey)=false:=by
   rw[fJ]
   intro y hy
   obtain⟨z,t,se⟩:=hk y (Array.mem_toList_iff.mp hy)
   simp[DictEntry.refKey,se]
  have a':¬ es.toList.any (·.refKey)=true:=by rw[a];exact bO
  rw[az a']
  exact dq some e
theorem MJ.look{x dx C:Addr}(I:MJ h x dx C mA):∃od,PySem.W.InstAt h x (PySem.W.instObj C dx) C (some od)/\∀name,PySem.W.lookIn name od=some (mA name):=
 let ⟨od,ho,hl⟩:=C3 I.ns
 ⟨od,⟨I.obj,rfl,rfl,ho⟩,hl⟩
section
variable{w:World}{x dx C:Addr}
end
theorem pP.some_of{v:V}{o:Option Value}(r:pP (some v) o):∃u,o=some u/\bN v u:=by
 cases o with
 |none=>exact(show False from r).elim
 |some u=>exact⟨u,rfl,r⟩
section
variable{w:World}{H H':Hp}{C dx:Addr}{fs U1:List (Str×V)}
theorem IF(hok:kF P w H h)(e:H a=some (.ins C dx fs)):∃mA,MJ h a dx C mA/\(∀f,pP (fs.lookup f) (mA f))/\PySem.Within mA (fs.map (·.1))/\fs.length<=1000/\H dx=some (.own a):=by
 obtain⟨d,z,ne,ob,mA,n,r,q⟩:=(show dR P w H h a (.ins C dx fs)from hok a _ e)
 exact⟨mA,⟨ob,n,ne⟩,r,q,z,d⟩
end
structure TJ(K:Frag)(C:Addr):Prop where
 pg:PySem.W.plainGet K C Str.empty=true
 hd:PySem.W.hasDictIn K C=true
 po:PySem.W.plainOver K C=true
 sa:PySem.W.findIn K (.ref C) "__setattr__"=some (some (.builtin "object.__setattr__"))
theorem TJ.get{C:Addr}(c:TJ K C)(f:Str):PySem.W.plainGet K C f=true:=c.pg
section
variable{X:Cx}{σ:St}{H:Hp}{C dx:Addr}{fs:List (Str×V)}{f:Str}{v:V}
end
section
variable{X:Cx}{o value:Expr}{f:Str}{Us:Pos}{ta tv:TE}
end
section
variable{X:Cx}{σ:St}{H:Hp}{c:Value}{b:Bool}
inductive rP(K:Frag)(H:Hp):V->Value->Prop where
 |non:rP K H .non (.type "NoneType")
 |bl (x:Bool):rP K H (.bl x) (.type "bool")
 |int (i:Int):rP K H (.int i) (.type "int")
 |str (x:Str):rP K H (.str x) (.type "str")
 |flt (x:UInt64):rP K H (.flt x) (.type "float")
 |lst {a:Addr} {xs:List V} (e:H a=some (.lst xs)):rP K H (.ref a) (.type "list")
 |frz {a:Addr} {o:Obj} {xs:List V} (e:H a=some (.frz o (.lst xs))):rP K H (.ref a) (.type "list")
 |tup {a:Addr} {xs:List V} (e:H a=some (.tup xs)):rP K H (.ref a) (.type "tuple")
 |dK {a:Addr} {kvs:List (fZ×V)} (e:H a=some (.dK kvs)):rP K H (.ref a) (.type "dict")
 |dT {a:Addr} {kvs:List (List fZ×V)} (e:H a=some (.dT kvs)):rP K H (.ref a) (.type "dict")
 |ins {a C dx:Addr} {fs:List (Str×V)} (e:H a=some (.ins C dx fs)) (cl:TJ K C) (ha:PySem.W.findIn K (.ref C) "__class__"=some (some (.builtin "object.__class__")))
   (hn:PySem.W.specialIn K (.builtin "object.__class__") "__get__"=some (some (.builtin "getset_descriptor.__get__"))) (CK:PySem.W.takesIn K (.builtin "object.__class__")=some true)
   (hm:PySem.W.mroIn K C (.type "object")=some true):rP K H (.ref a) (.ref C)
theorem n9{x:V}{t:Value}(I:bv X pins σ H s)(rx:bN x u)(ty:rP X.K H x t)(e:PySem.W.kitOne X.K t c=some b)(h:∀tk,Q (.bool b) { s with toks:=tk }) :
  wpAny (model X.prog X.w) A (call (.builtin "isinstance") [u,c]) Q E s:=by
 cases ty with
 |non=>cases(show u=Value.none from rx);exact kia_one PySem.W.kitx_none I.kIn True.intro e (fun z=>nomatch z) h
 |bl y=>cases(show u=Value.bool y from rx);exact kia_one PySem.W.kitx_bool I.kIn True.intro e (fun z=>nomatch z) h
 |int i=>obtain⟨t,q⟩:=(show ∃t,u=Value.int i t from rx);cases q;exact kia_one PySem.W.kitx_int I.kIn True.intro e (fun z=>nomatch z) h
 |str y=>obtain⟨t,q⟩:=(show ∃t,u=Value.str y t from rx);cases q;exact kia_one PySem.W.kitx_str I.kIn True.intro e (fun z=>nomatch z) h
 |flt y=>obtain⟨t,q⟩:=(show ∃t,u=Value.float y t from rx);cases q;exact kia_one PySem.W.kitx_float I.kIn True.intro e (fun z=>nomatch z) h
 |@lst a xs ea=>
  cases(show u=Value.ref a from rx)
  obtain⟨_,_,n,_,h1⟩:=(show dR X.prog X.w H s.heap a (.lst xs)from I.hok a _ ea)
  exact kia_one PySem.W.kitx_list I.kIn ⟨_,h1,rfl⟩ e (fun z=>nomatch z) h
 |@frz a ob xs ea=>
  cases(show u=Value.ref a from rx)
  obtain⟨_,_,_,n,_,h1⟩:=(show dR X.prog X.w H s.heap a (.frz ob (.lst xs))from I.hok a _ ea)
  exact kia_one PySem.W.kitx_list I.kIn ⟨_,h1,rfl⟩ e (fun z=>nomatch z) h
 |@tup a xs ea=>
  cases(show u=Value.ref a from rx)
  obtain⟨_,_,_,p⟩:=(show dR X.prog X.w H s.heap a (.tup xs)from I.hok a _ ea)
  obtain⟨o,h1,h2,_⟩:=p
  exact kia_one PySem.W.kitx_tuple I.kIn ⟨o,h1,h2⟩ e (fun z=>nomatch z) h
 |@dK a kvs ea=>
  cases(show u=Value.ref a from rx)
  obtain⟨_,_,vs,_,p⟩:=(show dR X.prog X.w H s.heap a (.dK kvs)from I.hok a _ ea)
  obtain⟨o,es,ep,h1,h2,_⟩:=p
  exact kia_one PySem.W.kitx_dict I.kIn ⟨o,h1,h2.1⟩ e (fun z=>nomatch z) h
 |@dT a kvs ea=>
  cases(show u=Value.ref a from rx)
  obtain⟨_,_,xs,_,o,es,ep,h1,h2,_⟩:=(show dR X.prog X.w H s.heap a (.dT kvs)from I.hok a _ ea)
  exact kia_one PySem.W.kitx_dict I.kIn ⟨o,h1,h2.1⟩ e (fun z=>nomatch z) h
 |@ins a C dx fs ea cl ha hn CK hm=>
  cases(show u=Value.ref a from rx)
  obtain⟨mA,O,_⟩:=IF I.hok ea
  obtain⟨od,J,_⟩:=O.look
  exact kia_one (PySem.W.kitx_own (cl.get _) cl.hd ha hn CK hm) I.kIn J e (fun z=>nomatch z) h
end
structure fY(k:Nat)(A:Around):Prop where
 hd:A.handled=none
 dp:A.depth+2*k+5<recursionLimit
 un:A.units+16*k+200<cLine
theorem fY.mono{k:Nat}(r:fY k A)(h:j<=k):fY j A:=⟨r.hd,by have:=r.dp;omega,by have:=r.un;omega⟩
theorem fY.deeper{k:Nat}(r:fY (k+1) A)(env:Env):fY k (A.deeper env):=
 ⟨r.hd,by have:=r.dp;show A.depth+1+2*k+5<_;omega,by have:=r.un;show A.units+3+16*k+200<_;omega⟩
theorem fY.depth{k:Nat}(r:fY k A):A.depth<recursionLimit:=by have:=r.dp;omega
theorem fY.units{k:Nat}(r:fY k A):A.units+64<cLine:=by have:=r.un;omega
def TK:TA:=fun _ H Q=>Q [] H
def P3(ta:TE)(tr:TA):TA:=fun σ H Q=>ta σ H fun x H1=>tr σ H1 fun xs H2=>Q (x::xs) H2
section
variable{X:Cx}{te:TE}{t:TA}
theorem v8:PA X [] TK:=fun _ _ _ _ H Q I h=>iu ⟨[],H,I,.nil,h⟩
theorem pR(ha:PE X e te)(hr:PA X es t)(hs:starEach (e::es) X.env=(false,eval e X.env)::starEach es X.env:=by rfl):PA X (e::es) (P3 te t):=by
 intro pos pins s σ H Q I h
 rw[hs]
 show wpAny _ _ (spliced ((false,eval e X.env)::backTo pos (starEach es X.env))) _ _ s
 refine eZ (f6 (ha pins s σ H _ I h) fun u s1 ⟨x,H1,I1,r1,q1⟩=>?_)
 exact f6 (hr pos pins s1 σ H1 _ I1 q1) fun us s2 ⟨xs,H2,I2,r2,q2⟩=>⟨x::xs,H2,I2,.cons r1 r2,q2⟩
end
abbrev Sp:=List V->Hp->VK->XK->Prop
abbrev Ed:=List Env->Hp->Shared->XK->Value->Shared->Prop
structure ya(P:Program)(w:World)(K:Frag)(mg:Str->Option Value)(base:Heap)(A:Around)(outer:List Env)(s:Shared)(H:Hp):Prop where
 frames:A.frames=some outer
 mod:Mod K mg base
 bs:∀b o,base.get? b=some o->s.heap.get? b=some o/\H b=none
 bsz:base.objs.size<=s.heap.objs.size
 funs:s.heap.FunFrames base outer
 frf:∀b∈ml outer,H b=none
 hok:kF P w H s.heap
 bare:AllBare s.gens
def CE(outer:List Env)(P:Program)(w:World)(H:Hp)(s:Shared)(Q:VK)(u:Value)(s':Shared):Prop:=
 ∃v H',s'.os=s.os/\AllBare s'.gens/\Un (ml outer) [] H H' s.heap s'.heap/\kF P w H' s'.heap/\bN v u/\Q v H'
def CR(CX:Ed)(outer:List Env)(P:Program)(w:World)(H:Hp)(s:Shared)(Q:VK)(E:XK)(r:Result)(s':Shared):Prop:=
 match r with
 |.ok (.ret u)=>CE outer P w H s Q u s'
 |.ok _=>False
 |.error e=>CX outer H s E e s'
structure fy(P:Program)(w:World)(K:Frag)(mg:Str->Option Value)(base:Heap)(CX:Ed)(k:Nat)(f:Addr)(fd:FuncData)(ps:List Str)(sp:Sp):Prop where
 len:∀vs H Q E,sp vs H Q E->vs.length=ps.length
 run:∀(A:Around) (outer:List Env) (s:Shared) (H:Hp) (args:Args) (us:List Value) (vs:List V) (Q:VK) (E:XK),fY k A->ya P w K mg base A outer s H->BindsTo s fd args (ps.zip us)->cA vs us->sp vs H Q E ->
  codeAny (model P w) A (.call (.ref f) args) (CR CX outer P w H s Q E) s
theorem fy.mono{w:World}{CX:Ed}{k:Nat}{sp:Sp}(F:fy P w K mg base CX j f fd ps sp)(h:j<=k) :
  fy P w K mg base CX k f fd ps sp:=⟨F.len,fun A outer s H args us vs Q E hr=>F.run A outer s H args us vs Q E (hr.mono h)⟩
section
variable{X:Cx}{σ:St}{H:Hp}{s':Shared}
theorem bv.env0(I:bv X pins σ H s):ya X.prog X.w X.K X.mg X.base X.A X.stack s H:=
 ⟨I.ok.frames,I.ok.mod,I.bs,a_ I.ok.bsz I.sz,I.stack,I.stkFree,I.hok,I.bare⟩
theorem bv.after{Q:VK}(I:bv X pins σ H s)(h:CE X.stack X.prog X.w H s Q u s'):EP X pins σ Q u s':=by
 obtain⟨v,H',os,bare,un,hok,r,q⟩:=h
 obtain⟨hh,g,d,t,os'⟩:=s'
 obtain rfl:os'=s.os:=os
 exact⟨v,H',I.call (h':=hh) (g':=g) (d':=d) (t':=t) (ch:=[]) un hok bare (fun b z=>absurd z (by simp)),r,q⟩
end
def yb(K:Frag)(fd:FuncData)(ps:List Str)(ds:List Value):Prop:=
 ∀(s:Shared) (us:List Value),K.In s.heap->(us++ds).length=ps.length->BindsTo s fd ⟨us,[]⟩ (ps.zip (us++ds))
theorem yb.all(h:∀us:List Value,us.length=ps.length->bindArgs fd ⟨us,[]⟩=pure (ps.zip us)):yb K fd ps []:=fun s us _ hl=>by
 rw[bP]at hl ⊢
 exact .of_eq (h us hl)
section
variable{X:Cx}{CX:Ed}{k:Nat}{C:Addr}{sp:Sp}{Vf:List V}{ds:List Value}{E:XK}{m:Str}{o:Expr}{ta:TE}{t:TA}
end
def PK(X:Cx)(UI:List Keyword)(t:TA):Prop:=
 ∀(pos:Pos) (pins:List (Addr×Obj)) (s:Shared) (σ:St) (H:Hp) (Q:List V->Hp->Prop),bv X pins σ H s->t σ H Q->wpAny (model X.prog X.w) X.A (evalAll ((backToKw pos (keywordEach UI X.env)).map (·.2))) (AP X pins σ Q) X.xe s
section
variable{X:Cx}{CX:Ed}{k:Nat}{C:Addr}{ks:List Str}{sp:Sp}{E:XK}{m:Str}{Ss:Pos}{o:Expr}{UI:List Keyword}{te ta:TE}{t tk:TA}{nm:Option Str}
variable{g:List Value->List Value->List Value}{gV:List V->List V->List V}
end
structure bS(N P:List Str)(sc:Scope):Prop where
 kind:sc.kind=.function
 co:sc.isCoroutine=false
 gen:sc.isGenerator=false
 nd:N.Nodup
 pre:N.take P.length=P
 par:∀x∈P,sc.names.lookup x=some .local\/sc.names.lookup x=some .cell
 nofree:∀y∈sc.names,y.2≠.free
theorem u5:∀{binds:List (Str×Value)} {m:Str->Option Value},(∀v,(x,v)∉binds)->bindL kindOf binds m x=m x
 |[],_,_=>rfl
 |(n,v)::r,m,h=>by
  unfold bindL
  rw[u5 fun w hw=>h w (aA _ hw)]
  split
  ·have:x≠n:=by rintro rfl;exact h v aN
   simp[this]
  ·rfl
theorem u6:∀{binds:List (Str×Value)} {m:Str->Option Value},(∀v,(x,v)∉binds)->bindC kindOf binds m x=m x
 |[],_,_=>rfl
 |(n,v)::r,m,h=>by
  unfold bindC
  rw[u6 fun w hw=>h w (aA _ hw)]
  split
  ·rfl
  ·have:x≠n:=by rintro rfl;exact h v aN
   simp[this]
theorem u7:∀{P:List Str} {vs:List Value} {i:Nat} {m:Str->Option Value},P.Nodup->P[i]?=some x->vs[i]?=some v->kindOf x=some .local ->
  bindL kindOf (P.zip vs) m x=some v
 |[],_,_,_,_,h,_,_=>by simp at h
 |_::_,[],_,_,_,_,h,_=>by simp at h
 |p::P,w::vs,0,m,nd,h1,h2,hk=>by
  simp at h1 h2;subst h1;subst h2
  show bindL kindOf ((p,w)::P.zip vs) m p=_
  unfold bindL
  rw[u5 fun v hv=>(bF.mp nd).1 (jm hv).1,am hk]
  simp
 |p::P,w::vs,i+1,m,nd,h1,h2,hk=>by
  show bindL kindOf ((p,w)::P.zip vs) m x=_
  unfold bindL
  exact u7 (i:=i) (bF.mp nd).2 (by simpa using h1) (by simpa using h2) hk
theorem u8:∀{P:List Str} {vs:List Value} {i:Nat} {m:Str->Option Value},P.Nodup->P[i]?=some x->vs[i]?=some v->kindOf x≠some .local ->
  bindC kindOf (P.zip vs) m x=some v
 |[],_,_,_,_,h,_,_=>by simp at h
 |_::_,[],_,_,_,_,h,_=>by simp at h
 |p::P,w::vs,0,m,nd,h1,h2,hk=>by
  simp at h1 h2;subst h1;subst h2
  show bindC kindOf ((p,w)::P.zip vs) m p=_
  unfold bindC
  rw[u6 fun v hv=>(bF.mp nd).1 (jm hv).1,az hk]
  simp
 |p::P,w::vs,i+1,m,nd,h1,h2,hk=>by
  show bindC kindOf ((p,w)::P.zip vs) m x=_
  unfold bindC
  exact u8 (i:=i) (bF.mp nd).2 (by simpa using h1) (by simpa using h2) hk
def jv(N:List Str)(vs:List V):St:=vs.map some++List.replicate (N.length-vs.length) none
def zX(CX:Ed)(P:Program)(w:World)(K:Frag)(mg:Str->Option Value)(base:Heap)(N:List Str)(qual:Str)(scope:Scope)(f:Addr)(cd:Value)(A:Around)(outer:List Env)(s:Shared)(H:Hp)(E:XK):Cx where
 prog:=P
 w:=w
 K:=K
 mg:=mg
 base:=base
 A:=A.deeper (envOfC qual scope s.heap.objs.size f cd)
 N:=N
 s₀:=s
 H₀:=H
 env:=envOfC qual scope s.heap.objs.size f cd
 outer:=outer
 stack:=envOfC qual scope s.heap.objs.size f cd::outer
 ex:=[]
 calm:=true
 fn:=fun _=>true
 pn:=[]
 xe:=fun e s'=>wpAny (model P w) (A.deeper (envOfC qual scope s.heap.objs.size f cd)) (leaving (envOfC qual scope s.heap.objs.size f cd) e) (fun _ s''=>CX outer H s E e s'') (fun e' s''=>CX outer H s E e' s'') s'
theorem jT{n:Nat}(h:sc.names.lookup x=some .cell):∃c,(cellsFrom n sc.names []).lookup x=some c:=by
 have q:=PySem.W.cellsFrom_some sc.names n [] (.inl h)
 exact lF.mp q
theorem C4{CX:Ed}{w:World}{N:List Str}{cd:Value}{outer:List Env}{s1:Shared}{H:Hp}{E:XK}{vs:List V}
  (S:bS N ps scope) (hd:A.handled=none) (e0:ya P w K mg base A outer s H) (hl:vs.length=ps.length) (r:cA vs us)
  (x:InCallC s s.heap.objs.size (bindL (envOfC qual scope s.heap.objs.size f cd).kindOf (ps.zip us) fun _=>none) (cellsFrom (s.heap.objs.size+1) scope.names []) (bindC (envOfC qual scope s.heap.objs.size f cd).kindOf (ps.zip us) fun _=>none) s1) :
  bv (zX CX P w K mg base N qual scope f cd A outer s H E) [] (jv N vs) H s1:=by
 have pK:ps.length<=N.length:=by have:=dq List.length S.pre;rw[a7]at this;omega
 obtain⟨h1,tk,rfl,hk⟩:=x.done
 have noA:∀b:Addr,b∉(zX CX P w K mg base N qual scope f cd A outer s H E).ex:=fun b z=>absurd (show b∈([]:List Addr)from z) (by simp)
 refine⟨⟨e0.mod,S.kind,rfl,rfl,au _,fun y z c h1 h2=>?_,fun y hy=>?_,fun y c _ h=>?_,fun _=>hd,Around.frames_deeper e0.frames,.inr ⟨rfl,rfl⟩,fun b z=>absurd z (noA b),e0.bs,e0.bsz,fun b _ _=>noA b,fun b z=>absurd z (noA b),e0.funs,e0.frf⟩,
  rfl,e0.bare,Un.kept hk,⟨_,x.toInCall.ns,fun i y v h1 h2 h3=>?_⟩,fun y c h=>⟨_,x.cell y c h⟩,e0.hok.fresh (au _),fun y c h=>?_,fun p hp=>absurd (show p∈([]:List (Addr×Obj))from hp) (by simp),e0.hok.kept hk,?_⟩
 ·exact name_of_addr x.apart (PySem.mem_of_lookup h1) (PySem.mem_of_lookup h2)
 ·have hy:scope.names.lookup y=some .cell\/scope.names.lookup y=some .free:=hy
  rcases hy with hy|hy
  ·exact jT hy
  ·exact absurd rfl (S.nofree _ (PySem.mem_of_lookup hy))
 ·exact df (x.above y c (PySem.mem_of_lookup h))
 ·have hi:i<vs.length:=by
   unfold jv at h2
   by_cases hi:i<vs.length
   ·exact hi
   ·rw[cy (by simpa using hi)]at h2
    rw[ib]at h2
    split at h2<;>cases h2
  have ha:vs[i]?=some v:=by
   unfold jv at h2
   rw[av (by simpa using hi),ak]at h2
   cases e:vs[i]? with
   |none=>rw[e]at h2;cases h2
   |some a=>rw[e]at h2;cases h2;rfl
  obtain⟨u,hu,rv⟩:=r.get ha
  have hp:ps[i]?=some y:=by
   rw[<- S.pre,bB (by omega)];exact h1
  have ndP:ps.Nodup:=by rw[<- S.pre];exact S.nd.sublist (gD _ _)
  refine⟨u,rv,?_⟩
  rcases S.par y (al hp)with k|k
  ·exact .inl ⟨k,u7 ndP hp hu k⟩
  ·obtain⟨c,e⟩:=jT (n:=s.heap.objs.size+1) k
   refine .inr ⟨.inl k,c,e,?_⟩
   have q:=x.cell y c e
   rw[u8 ndP hp hu (by show scope.names.lookup y≠_;rw[k];decide)]at q
   exact q
 ·exact e0.hok.fresh (df (x.above y c (PySem.mem_of_lookup h)))
 ·unfold jv
  show _=N.length
  rw[aC,ai,nA]
  omega
theorem P4{CX:Ed}{w:World}{k:Nat}{params:Arguments}{dV kV jb pm gX ct oc:Value}{an od:Option Addr}
  {L_:Array (Option Value)} {N ps:List Str} {sp:Sp} (lk:K.lookup f=some ⟨oc,od,.func (fnOf name qual params body scope dV kV jb pm an gX ct),L_⟩) (lK:codeIn K gX qual=true) (S:bS N ps scope)
  (len:∀vs H Q E,sp vs H Q E->vs.length=ps.length)
  (uz:∀(A:Around) (outer:List Env) (s:Shared) (H:Hp) (vs:List V) (Q:VK) (E:XK),fY k (A.deeper (envOfC qual scope s.heap.objs.size f gX))->sp vs H Q E ->
   ∃t,CU (zX CX P w K mg base N qual scope f gX A outer s H E) body t/\t { nx:=fun _ H'=>Q .non H',rt:=Q } (jv N vs) H) :
  fy P w K mg base CX (k+1) f (fnOf name qual params body scope dV kV jb pm an gX ct) ps sp:=by
 refine⟨len,fun A outer s H args us vs Q E hr e0 hb r L5=>?_⟩
 have hl:=len _ _ _ _ L5
 have KX:K.In s.heap:=e0.mod.kin.keeps fun b o e=>(e0.bs b o e).1
 have lim:s.heap.NoLimit:=e0.mod.nolimit.keeps fun b o e=>(e0.bs b o e).1
 have gj:∀y∈ps.zip us,scope.names.lookup y.1=some .local\/(scope.names.lookup y.1=some .cell/\((cellsFrom (s.heap.objs.size+1) scope.names []).lookup y.1).isSome=true):=fun⟨n,v⟩ hy=>by
  rcases S.par n (jm hy).1 with q|q
  ·exact .inl q
  ·exact .inr ⟨q,PySem.W.cellsFrom_some _ _ _ (.inl q)⟩
 refine codeAny_call_function hr.depth (KX _ _ lk) rfl S.co S.gen rfl (PySem.W.codeRec_of KX lK) (hb _ _ _ _ ?_)
 refine wpAny_newFunctionEnv_cells S.kind gj fun env he s1 x=>?_
 subst he
 refine⟨lim.keeps x.toInCall.keep,codeAny_func ?_⟩
 obtain⟨t,ht,hq⟩:=uz A outer s H vs Q E (hr.deeper _) L5
 have I:bv (zX CX P w K mg base N qual scope f gX A outer s H E) [] (jv N vs) H s1:=C4 S hr.hd e0 hl r x
 refine dO (ht [] s1 (jv N vs) H _ I hq) (fun fl s' hs=>?_) fun e s' hs=>hs
 have fin:∀{σ':St} {H':Hp} {v:V} {u:Value},bv (zX CX P w K mg base N qual scope f gX A outer s H E) [] σ' H' s'->bN v u->Q v H'->CE outer P w H s Q u s':=
  fun{σ' H' v u} J rv q=>⟨v,H',J.os,J.bare,J.base,J.hok,rv,q⟩
 cases fl with
 |ret u=>
  obtain⟨v,σ',H',J,rv,q⟩:=hs
  exact fin J rv q
 |next=>
  obtain⟨σ',H',J,q⟩:=hs
  exact fin (v:=V.non) (u:=Value.none) J rfl q
 |brk=>
  obtain⟨_,_,_,q⟩:=hs
  exact False.elim q
 |cont=>
  obtain⟨_,_,_,q⟩:=hs
  exact False.elim q
section
variable{X:Cx}{t:TA}{T:String}{r:List V->Hp->VK->Prop}
def TL(r:List V->Hp->VK->Prop)(t:TA):TE:=fun σ H Q=>t σ H fun vs H1=>r vs H1 Q
theorem yd(hc:g9 X (.builtin id) r)(hg:Gl X x)(hm:X.mg x=none)(hv:bootBuiltins x=some (.builtin id))(ha:PA X (e::es) t)(hn:x ≠ "__name__":=by decide)(zL:(x==("__debug__":Str))=false:=by decide)
  (he:starEach (e::es) X.env=(false,eval e X.env)::starEach es X.env:=by rfl) (pK:(backTo pos (starEach es X.env)).any (·.1)=false:=by rfl):PE X (.Call (.Name x p) (e::es) [] pos) (TL r t):=by
 intro pins s σ H Q I h
 refine e_ (nG I hg hm hv ?_ hn zL)
 exact PyProof.Rows.callWith_builtin1 (f6 (ha pos pins s σ H _ I h) fun us s1 ⟨vs,H1,I1,r1,q1⟩=>hc pins s1 σ H1 vs us Q I1 r1 q1) he pK
theorem qK(hc:g9 X (.type T) r)(hg:Gl X x)(hm:X.mg x=none)(hv:bootBuiltins x=some (.type T))(ha:PA X (e::es) t)(hn:x ≠ "__name__":=by decide)(zL:(x==("__debug__":Str))=false:=by decide)
  (he:starEach (e::es) X.env=(false,eval e X.env)::starEach es X.env:=by rfl) (pK:(backTo pos (starEach es X.env)).any (·.1)=false:=by rfl):PE X (.Call (.Name x p) (e::es) [] pos) (TL r t):=by
 intro pins s σ H Q I h
 refine e_ (nG I hg hm hv ?_ hn zL)
 exact dA (f6 (ha pos pins s σ H _ I h) fun us s1 ⟨vs,H1,I1,r1,q1⟩=>hc pins s1 σ H1 vs us Q I1 r1 q1) he pK
end
end L2
variable{xs:List (List L2.fZ×PySem.Addr×PySem.Value)}{H H':L2.Hp}{X:L2.Cx}{σ:L2.St}{y:L2.V}{te:L2.TE}{tc:L2.TT}{wi:L2.TI}{vs:List L2.V}
namespace HT
open PySem PyProof.Rows
def lexLt:List Int->List Int->Bool
 |[],[]=>false
 |[],_::_=>true
 |_::_,[]=>false
 |x::xs,y::ys=>if x=y then lexLt xs ys else decide (x<y)
theorem lexLt_cons(x y:Int)(xs ys:List Int):lexLt (x::xs) (y::ys)=if x=y then lexLt xs ys else decide (x<y):=rfl
theorem lexLt_nil_nil:lexLt [] []=false:=rfl
theorem sK(y:Int)(ys:List Int):lexLt [] (y::ys)=true:=rfl
theorem sL(x:Int)(xs:List Int):lexLt (x::xs) []=false:=rfl
theorem Ex(A:Around)(s:Shared)(a:Int)(t:Tok)(c:Int)(u:Tok):∃e,SeqAt.EqAt A s (.int a t) (.int c u) e/\(e=true↔a=c):=
 ⟨(a==c),SeqAt.EqAt.int_int a t c u,by simp⟩
theorem Ey(A:Around)(s:Shared)(a:Int)(t:Tok)(c:Int)(u:Tok)(prog:Program)(w:World)(E:Value->Shared->Prop)(Q:Value->Shared->Prop)(h:Q (.bool (decide (a<c))) s) :
  wpAny (model prog w) A (richCompare .Lt (.int a t) (.int c u)) Q E s:=
 (PyProof.Rows.lt_int h:wpAny (model prog w) A (compareOp .Lt (.int a t) (.int c u)) Q E s)
section
open PySem.SeqAt
open PySem.AutoSeq1 (wpAny_loadPart')
open PySem.MeetsSeq PySem.MeetsSeq2 PySem.MeetsSeq3
theorem uE(l b:Addr)(items g8:Array Value)(n n2:Nat)(dd Pt:Option Addr)(sl Kx:Array (Option Value))(ns ms:List Int)(hi:IntsAre items.toList ns)(hj:IntsAre g8.toList ms) :
  Meets (Builtin.«tuple.__lt__» ⟨[.ref l,.ref b],[]⟩)
   (fun _ R s=>s.heap.get? l=some { cls:=.type "tuple",dict:=dd,data:=.seq items n,slots:=sl }/\s.heap.get? b=some { cls:=.type "tuple",dict:=Pt,data:=.seq g8 n2,slots:=Kx } /\
    R (.ok (.ret (.bool (lexLt ns ms)))) s):=
 .of_wp fun prog w A R s h=>by
  obtain⟨hp,g,d,tk,os⟩:=s;obtain⟨hl,hb,h⟩:=h
  have f2:=lG
  have z1:items.size=ns.length:=by rw[<- hi.length];simp
  have z2:g8.size=ms.length:=by rw[<- hj.length];simp
  wp_walk using bL hl,bL hb,gY _ (fun rest b s'=>b.1=none/\s'=⟨hp,g,d,tk,os⟩/\∃(vs ws:List Value) (Pe Pu:List Int),rest=vs.zip ws /\
   IntsAre vs Pe/\IntsAre ws Pu/\Pe.length+g8.size=Pu.length+items.size/\R (.ok (.ret (.bool (lexLt Pe Pu)))) ⟨hp,g,d,tk,os⟩) _
  case turn=>
   rintro⟨y,x⟩ rest b s' ⟨hb',rfl,vs,ws,Pe,Pu,hz,hvi,hwi,dk,hR⟩
   cases hvi with
   |nil=>rw[List.zip_nil_left]at hz;cases hz
   |cons a t hvi'=>
    cases hwi with
    |nil=>rw[List.zip_nil_right]at hz;cases hz
    |cons c u hwi'=>
     rw[List.zip_cons_cons]at hz
     injection hz with hyx l8
     injection hyx with hy hx
     subst hy hx
     rw[lexLt_cons]at hR
     simp only[br]at dk
     obtain⟨e,he,hiff⟩:=Ex A.in1 ⟨hp,g,d,tk,os⟩ a t c u
     refine ah (he prog w _ _ ?_)
     cases e with
     |true=>
      rw[am (hiff.mp rfl)]at hR
      wp_walk
      exact⟨rfl,rfl,_,_,_,_,l8,hvi',hwi',by omega,hR⟩
     |false=>
      rw[az (fun q=>absurd (hiff.mpr q) bO)]at hR
      have hri:=Ey A.in1 ⟨hp,g,d,tk,os⟩ a t c u prog w
      wp_walk using hri
      exact⟨_,rfl,by simpa using hR⟩
  case fin=>
   rintro⟨b1,b2⟩ s' ⟨hb',rfl,vs,ws,Pe,Pu,hz,hvi,hwi,dk,hR⟩
   simp only at hb'
   subst hb'
   have hv:lexLt Pe Pu=decide (items.size<g8.size):=by
    cases hvi with
    |nil=>
     cases hwi with
     |nil=>
      simp only[dJ]at dk
      rw[lexLt_nil_nil]
      exact(bb (by omega)).symm
     |cons c u hw=>
      simp only[dJ,br]at dk
      rw[sK]
      exact(bH (by omega)).symm
    |cons a t hv=>
     cases hwi with
     |nil=>
      simp only[dJ,br]at dk
      rw[sL]
      exact(bb (by omega)).symm
     |cons c u hw=>
      rw[List.zip_cons_cons]at hz
      cases hz
   rw[hv]at hR
   wp_walk
   exact⟨_,rfl,by simpa[Builtin.Tuple.tupleCompareSizes]using hR⟩
  case h=>
   exact⟨rfl,rfl,items.toList,g8.toList,ns,ms,rfl,hi,hj,by omega,h⟩
end
section
variable{w:World}
theorem lt_tupInts{l:Addr}{g8:Array Value}{ms:List Int}(hl:IsTup s.heap l items)(hb:IsTup s.heap b g8)(hi:IntsAre items.toList ns)(hj:IntsAre g8.toList ms)
  (hu:A.units<cLine) (h:Q (.bool (lexLt ns ms)) s):wpAny (model prog w) A (compareOp .Lt (.ref l) (.ref b)) Q E s:=by
 obtain⟨⟨cls,dd,data,sl⟩,ho,hc,n,hd⟩:=id hl
 obtain⟨⟨cls2,Pt,data2,Kx⟩,ho2,hc2,n2,CN⟩:=id hb
 simp only at hc hd hc2 CN
 subst hc hd hc2 CN
 exact richCompare_meets_room (op:=.Lt) ⟨_,ho,rfl⟩ ⟨_,ho2,rfl⟩ PySem.F.slot_tuple_lt PySem.F.entry_tuple_lt (PySem.F.args_tuple_lt_2 _ _) (uE l b items g8 n n2 dd Pt sl Kx ns ms hi hj)
  ⟨ho,ho2,show Value.bool (lexLt ns ms)≠Value.notImplemented/\Q (.bool (lexLt ns ms)) s from⟨(fun x=>nomatch x),h⟩⟩ hu
theorem cat_tup{t:Addr}{vs ws:List Value}(ht:IsTup s.heap t vs.toArray)(hb:IsTup s.heap b ws.toArray)(hv:vs≠[])
  (h1:ws=[]->Q (.ref t) s) (h2:ws≠[]->Q (.ref s.heap.objs.size) { s with heap:=s.heap.push { cls:=.type "tuple",data:=.seq (vs++ws).toArray } })
  (hsz:vs.length+ws.length<=sizeLine):wpAny (model prog w) A (binaryOp .Add (.ref t) (.ref b)) Q E s:=by
 obtain⟨⟨cls,dd,data,sl⟩,ho,hc,n,hd⟩:=id ht
 obtain⟨⟨cls2,Pt,data2,Kx⟩,ho2,hc2,n2,CN⟩:=id hb
 simp only at hc hd hc2 CN
 subst hc hd hc2 CN
 have e:vs.toArray++ws.toArray=(vs++ws).toArray:=by simp
 by_cases hw:ws=[]
 ·exact qA ⟨_,ho,rfl⟩ ⟨_,ho2,rfl⟩ l9 oT PySem.F.slot_tuple_add PySem.F.entry_tuple_add (PySem.F.args_tuple_add_2 _ _)
   (tuple_addW1 t b vs.toArray ws.toArray n n2 dd Pt sl Kx (by simpa using hv) (by simp[hw])) ⟨ho,ho2,h1 hw⟩
 ·refine qA ⟨_,ho,rfl⟩ ⟨_,ho2,rfl⟩ l9 oT PySem.F.slot_tuple_add PySem.F.entry_tuple_add (PySem.F.args_tuple_add_2 _ _)
   (tuple_addW2 t b vs.toArray ws.toArray n n2 dd Pt sl Kx (by simpa using hv) (by simpa using hw) (by rw[aH,aH];exact hsz)) ⟨ho,ho2,?_⟩
  rw[e]
  exact h2 hw
def sIx(n d:Nat):Option Int->Nat
 |none=>d
 |some v=>if v<0 then(v+(n:Int)).toNat else min v.toNat n
theorem sIx_none(n d:Nat):sIx n d none=d:=rfl
theorem sIx_nat(n d k:Nat):sIx n d (some (k:Int))=min k n:=by
 show(if (k:Int)<0 then((k:Int)+(n:Int)).toNat else min (k:Int).toNat n)=min k n
 rw[az (by omega),aR]
theorem sIx_le(n d:Nat)(hd:d<=n)(o:Option Int):sIx n d o<=n:=by
 cases o with
 |none=>exact hd
 |some v=>
  show(if v<0 then(v+(n:Int)).toNat else min v.toNat n)<=n
  by_cases hv:v<0
  ·rw[am hv];omega
  ·rw[az hv];exact Nat.min_le_right _ _
theorem Bn(v:Int)(n d:Nat):(if v<0 then max (v+(n:Int)) 0 else min v (n:Int))=((sIx n d (some v):Nat):Int):=by
 show(if v<0 then max (v+(n:Int)) 0 else min v (n:Int))=(((if v<0 then(v+(n:Int)).toNat else min v.toNat n):Nat):Int)
 by_cases hv:v<0
 ·simp only[am hv];omega
 ·simp only[az hv];omega
theorem zY(lo hi:Option Int)(n:Nat):Builtin.Slice.sliceAdjust lo hi 1 (n:Int)=(((sIx n 0 lo:Nat):Int),((sIx n n hi:Nat):Int)):=by
 have h1:¬ ((1:Int)<0):=by omega
 unfold Builtin.Slice.sliceAdjust
 simp only[h1,gp]
 refine Prod.ext ?_ ?_
 ·cases lo with
  |none=>rfl
  |some v=>exact Bn v n 0
 ·cases hi with
  |none=>rfl
  |some v=>exact Bn v n n
theorem zZ(i j:Nat):Builtin.Slice.slicePlaces (i:Int) (j:Int) 1=j-i:=by
 unfold Builtin.Slice.slicePlaces
 have h1:(1:Int)>0:=by omega
 simp only[h1,dF,Int.ediv_one]
 split<;>omega
theorem sM{o:Option Int}{Q:Option Int->Shared->Prop}(p:IsPart v o)(h:Q o s):wpAny (model prog w) A (Builtin.Slice.slicePartIndex v) Q E s:=by
 cases p with
 |none=>exact slicePart_none h
 |int i t=>exact slicePart_int h
theorem sliceApplied_gen{sl:Addr}{vl vu:Value}{lo hi:Option Int}{Q:Int×Int×Nat->Shared->Prop}(hs:s.heap.IsSliceOf sl vl vu .none)(pl:IsPart vl lo)(pu:IsPart vu hi)
  (h:Q (((sIx n 0 lo:Nat):Int),1,sIx n n hi-sIx n 0 lo) s):wpAny (model prog w) A (Builtin.Slice.sliceApplied (.ref sl) (pure (n:Int))) Q E s:=by
 obtain⟨os,hos,hcs,CL⟩:=id hs
 unfold Builtin.Slice.sliceApplied Builtin.Slice.sliceFields
 refine ah (ah (gO hos CL (x:=vl) rfl (ah (gO hos CL (x:=vu) rfl (ah (gO hos CL (x:=.none) rfl (ax ?_)))))))
 refine ah (slicePart_none ?_)
 show wpAny _ _ (if ((1:Int)==0)=true then _ else _) _ _ s
 rw[az (by decide)]
 refine ah (sM pl (ah (sM pu (ah (ax ?_)))))
 show wpAny _ _ (match Builtin.Slice.sliceAdjust lo hi 1 (n:Int)with|(lo,hi)=>pure (lo,(1:Int),Builtin.Slice.slicePlaces lo hi 1)) _ _ s
 rw[zY lo hi n]
 show wpAny _ _ (pure (((sIx n 0 lo:Nat):Int),(1:Int),Builtin.Slice.slicePlaces ((sIx n 0 lo:Nat):Int) ((sIx n n hi:Nat):Int) 1)) _ _ s
 rw[zZ]
 exact ax h
theorem Ez(xs:Array Value)(i k:Nat):((List.range k).filterMap fun(m:Nat)=>xs[((i:Int)+(m:Int)*1).toNat]?).toArray=((xs.toList.drop i).take k).toArray:=by
 have e:(fun(m:Nat)=>xs[((i:Int)+(m:Int)*1).toNat]?)=fun m=>xs[i+m]?:=by
  funext m
  have:((i:Int)+(m:Int)*1).toNat=i+m:=by omega
  rw[this]
 rw[e]
 have:=pick_run xs i k
 rw[List.filterMap_map]at this
 have e2:((fun x=>xs[x]?)∘fun x=>i+x)=fun m=>xs[i+m]?:=rfl
 rw[e2]at this
 rw[this]
theorem getItem_tuple_cut{t sl:Addr}{vl vu:Value}{lo hi:Option Int}(ht:IsTup s.heap t items)(hs:s.heap.IsSliceOf sl vl vu .none)(pl:IsPart vl lo)(pu:IsPart vu hi)
  (hw:¬ (sIx items.size 0 lo=0/\sIx items.size items.size hi=items.size))
  (h:Q (.ref s.heap.objs.size) { s with heap:=s.heap.push { cls:=.type "tuple",data:=.seq ((items.toList.drop (sIx items.size 0 lo)).take (sIx items.size items.size hi-sIx items.size 0 lo)).toArray } })
  (hsz:items.size<=sizeLine):wpAny (model prog w) A (getItem (.ref t) (.ref sl)) Q E s:=by
 have htake:sizeOk (.seq ((items.toList.drop (sIx items.size 0 lo)).take (sIx items.size items.size hi-sIx items.size 0 lo)).toArray):=by
  show((items.toList.drop (sIx items.size 0 lo)).take (sIx items.size items.size hi-sIx items.size 0 lo)).toArray.size<=sizeLine
  rw[aH,a7,dP,fP]
  omega
 have hj:sIx items.size items.size hi<=items.size:=sIx_le _ _ (au _) hi
 obtain⟨os,hos,hcs,CL⟩:=id hs
 have hTs:s.TypeIs (.ref sl) "slice":=⟨os,hos,hcs⟩
 unfold getItem
 try with_reducible refine cC ?_
 first|refine ah (ax ?_)|skip
 refine ah (wpAny_sequenceKey ht.typeIs (by decide) ?_)
 refine ah (du (name:=Str.ofString "__getitem__") ht.typeIs dL
  (dw dL ht.typeIs entry_tuple_getitem ?_ (args_tuple_getitem _ _)))
 show wpAny _ _ (Builtin.Tuple.tupleItemsOf (.ref t) >>= _) _ _ s
 refine ah (tupleItemsOf_ ht ?_)
 refine ah (qB hTs ?_)
 rw[am (by decide)]
 refine ah (sliceApplied_gen hs pl pu ?_)
 have hno:¬ ((((sIx items.size 0 lo:Nat):Int)==0&&(1:Int)==1&&(sIx items.size items.size hi-sIx items.size 0 lo)==items.size)=true):=by
  intro q
  rw[a8,a8]at q
  have q1:((sIx items.size 0 lo:Nat):Int)=0:=jS q.1.1
  have q2:sIx items.size items.size hi-sIx items.size 0 lo=items.size:=jS q.2
  exact hw ⟨by omega,by omega⟩
 show wpAny _ _ (if (((sIx items.size 0 lo:Nat):Int)==0&&(1:Int)==1&&(sIx items.size items.size hi-sIx items.size 0 lo)==items.size)=true then _ else _) _ _ s
 rw[az hno,Ez]
 first
  |exact ah (m:=Builtin.Tuple.tupleExact _) (ej (ax ⟨_,rfl,ax h⟩) htake)
  |exact ah (m:=Builtin.Tuple.tupleExact _) (ej (ah (ax (ax ⟨_,rfl,ax h⟩))) htake)
  |exact ah (ah (m:=Builtin.Tuple.tupleExact _) (ej (ax (ax ⟨_,rfl,ax h⟩)) htake))
  |exact ah (ah (m:=Builtin.Tuple.tupleExact _) (ej (ax ⟨_,rfl,ax h⟩) htake))
end
end HT
namespace L2
open PySem PySem.Spec PyProof.Rows
abbrev TO:=St->Hp->(Option Int->Hp->Prop)->Prop
def PO(X:Cx)(e:Option Expr)(t:TO):Prop:=
 ∀(pins:List (Addr×Obj)) (s:Shared) (σ:St) (H:Hp) (Q:Option Int->Hp->Prop),bv X pins σ H s->t σ H Q ->
  wpAny (model X.prog X.w) X.A (evalPart e X.env) (fun u s'=>∃o H',bv X pins σ H' s'/\IsPart u o/\Q o H') X.xe s
def IG:TO:=fun _ H Q=>Q none H
def P5(t:TE):TO:=fun σ H Q=>t σ H fun x H1=>∃i,x=.int i/\Q (some i) H1
theorem mq:∀{us:List Value},cA (ns.map V.int) us->IntsAre us ns:=by
 induction ns with
 |nil=>intro us r;rw[dg]at r;cases r;exact .nil
 |cons n ns ih=>
  intro us r
  rw[aF]at r
  cases r with
  |cons r1 r2=>
   obtain⟨t,e⟩:=r1
   subst e
   exact .cons n t (ih r2)
section
variable{lo hi:Option Expr}{tl th:TO}
theorem IH:PO X none IG:=by
 intro pins s σ H Q I h
 rw[evalPart_none]
 exact ax ⟨none,H,I,.none,h⟩
theorem II(h:PE X e te):PO X (some e) (P5 te):=by
 intro pins s σ H Q I hw
 rw[evalPart_some]
 refine f6 (h pins s σ H _ I hw) fun u s1 ⟨x,H1,I1,r1,q1⟩=>?_
 obtain⟨i,rfl,q⟩:=q1
 obtain⟨t,rfl⟩:=r1
 exact⟨some i,H1,I1,.int i t,q⟩
def P6(X:Cx)(r:V->Option Int->Option Int->Hp->VK->Prop):Prop:=
 ∀(pins:List (Addr×Obj)) (s:Shared) (σ:St) (H:Hp) (x:V) (v vl vu:Value) (lo hi:Option Int) (sl:Addr) (Q:VK),bv X pins σ H s->bN x v->s.heap.IsSliceOf sl vl vu .none->IsPart vl lo->IsPart vu hi->r x lo hi H Q ->
  ∃T id,typeLookup (.type T) "__getitem__"=pure (some (.builtin id))/\s.TypeIs v T/\wpAny (model X.prog X.w) X.A (getItem v (.ref sl)) (EP X pins σ Q) X.xe s
def UQ(r:V->Option Int->Option Int->Hp->VK->Prop)(te:TE)(tl th:TO):TE:=fun σ H Q=>te σ H fun x H1=>tl σ H1 fun l H2=>th σ H2 fun u H3=>r x l u H3 Q
theorem EA{r:V->Option Int->Option Int->Hp->VK->Prop}(hr:P6 X r)(he:PE X e te)(hl:PO X lo tl)(hu:PO X hi th):PE X (.Subscript e (.Slice lo hi none p2) pos) (UQ r te tl th):=by
 intro pins s σ H Q I h
 refine Subscript_ (f6 (he pins s σ H _ I h) fun v s1 ⟨x,H1,I1,r1,q1⟩=>?_)
 refine wpAny_Slice (f6 (hl pins s1 σ H1 _ I1 q1) fun vl s2 ⟨l,H2,I2,pl,q2⟩=>f6 (hu pins s2 σ H2 _ I2 q2) fun vu s3 ⟨u,H3,I3,pu,q3⟩=>?_)
 rw[evalPart_none]
 refine ax ?_
 have I4:bv X pins σ H3 { s3 with heap:=s3.heap.push { cls:=.type "slice",data:=.fields #[vl,vu,.none] } }:=I3.kept (t':=s3.toks) fun b ob q=>ao _ q
 obtain⟨T,id,hT,ht,hg⟩:=hr pins { s3 with heap:=s3.heap.push { cls:=.type "slice",data:=.fields #[vl,vu,.none] } } σ H3 x v vl vu l u s3.heap.objs.size Q I4 r1 (Heap.IsSliceOf.new ..) pl pu q3
 show wpAny (model X.prog X.w) X.A (subscriptTail e (.Slice lo hi none p2) v (.ref s3.heap.objs.size)) (EP X pins σ Q) X.xe { s3 with heap:=s3.heap.push { cls:=.type "slice",data:=.fields #[vl,vu,.none] } }
 exact tail_any (ops:=[.ref s3.heap.objs.size,v]) ht hT hg (by with_unfolding_all rfl)
def sN(xs:List V)(lo hi:Option Int):List V:=(xs.drop (HT.sIx xs.length 0 lo)).take (HT.sIx xs.length xs.length hi-HT.sIx xs.length 0 lo)
theorem rA(xs:List V)(lo hi:Option Int):(sN xs lo hi).length<=xs.length:=by
 unfold sN
 rw[a7,dP]
 omega
def TM(K:Frag):V->Option Int->Option Int->Hp->VK->Prop:=fun x lo hi H Q=>∃a xs,x=.ref a/\fq K H a xs /\
 ¬ (HT.sIx xs.length 0 lo=0/\HT.sIx xs.length xs.length hi=xs.length)/\∀p,H p=none->Q (.ref p) (d_ H p (.tup (sN xs lo hi)))
theorem MK:P6 X (TM X.K):=by
 intro pins s σ H x v vl vu lo hi sl Q I rx hs pl pu h
 obtain⟨a,xs,rfl,hx,hw,q⟩:=h
 cases rx
 obtain⟨bC,r,ht,hz⟩:=I.tuple hx
 have dk:bC.toArray.size=xs.length:=by rw[aH];exact r.length.symm
 refine⟨"tuple",_,dL.lookup,ht.typeIs,?_⟩
 refine HT.getItem_tuple_cut ht hs pl pu (by rw[dk];exact hw) ?_ (by rw[dk];exact hz)
 rw[dk]
 refine⟨.ref s.heap.objs.size,_,I.laid (t':=s.toks) (o:=.tup (sN xs lo hi)) (fun b ob q=>ao _ q) (au _) ?_,rfl,q _ (I.hok.fresh (au _))⟩
 exact⟨a_ (rA xs lo hi) hz,_,(r.drop (HT.sIx xs.length 0 lo)).take (HT.sIx xs.length xs.length hi-HT.sIx xs.length 0 lo),IsTup.new _ _⟩
def TN(K:Frag):R2:=fun x y H Q=>∃a b ns ms,x=.ref a/\y=.ref b/\fq K H a (ns.map V.int)/\fq K H b (ms.map V.int)/\Q (.bl (HT.lexLt ns ms)) H
theorem ML(hu:X.A.units<cLine):n6 X (compareOp .Lt) (TN X.K):=by
 intro pins s σ H x y v u Q I rx ry h
 obtain⟨a,b,ns,ms,rfl,rfl,ha,hb,q⟩:=h
 cases rx
 cases ry
 obtain⟨bC,r1,p1,_⟩:=I.tuple ha
 obtain⟨its2,r2,p2,_⟩:=I.tuple hb
 have i1:IntsAre bC.toArray.toList ns:=mq r1
 have i2:IntsAre its2.toArray.toList ms:=mq r2
 exact HT.lt_tupInts p1 p2 i1 i2 hu ⟨.bl (HT.lexLt ns ms),H,I,rfl,q⟩
def P7(K:Frag):R2:=fun x y H Q=>∃a b xs ys,x=.ref a/\y=.ref b/\fq K H a xs/\fq K H b ys/\xs≠[]/\xs.length+ys.length<=sizeLine /\
 (ys=[]->Q (.ref a) H)/\(ys≠[]->∀p,H p=none->Q (.ref p) (d_ H p (.tup (xs++ys))))
theorem cA.nil_iff{xs:List V}(r:cA xs us):us=[]↔xs=[]:=by
 cases r with
 |nil=>simp
 |cons _ _=>simp
theorem IJ:n6 X (binaryOp .Add) (P7 X.K):=by
 intro pins s σ H x y v u Q I rx ry h
 obtain⟨a,b,xs,ys,rfl,rfl,ha,hb,hx,hz,q1,q2⟩:=h
 cases rx
 cases ry
 obtain⟨bC,r1,p1,_⟩:=I.tuple ha
 obtain⟨its2,r2,p2,_⟩:=I.tuple hb
 refine HT.cat_tup p1 p2 (fun z=>hx (r1.nil_iff.mp z)) (fun z=>⟨.ref a,H,I,rfl,q1 (r2.nil_iff.mp z)⟩) (fun z=>?_) (by rw[<- r1.length,<- r2.length];exact hz)
 refine⟨.ref s.heap.objs.size,_,I.laid (t':=s.toks) (o:=.tup (xs++ys)) (fun b ob q=>ao _ q) (au _) ?_,rfl,q2 (fun w=>z (r2.nil_iff.mpr w)) _ (I.hok.fresh (au _))⟩
 exact⟨by rw[aC];exact hz,_,r1.append r2,IsTup.new _ _⟩
theorem ye:g9 X (.type "tuple") (fun xs H Q=>∃a ys,xs=[.ref a]/\fq X.K H a ys/\Q (.ref a) H):=by
 intro pins s σ H xs us Q I r h
 obtain⟨a,ys,rfl,ha,q⟩:=h
 obtain⟨u,rfl,ru⟩:=kQ r
 cases ru
 obtain⟨bC,_,p1,_⟩:=I.tuple ha
 exact call_tuple_same (items:=bC.toArray) p1 ⟨.ref a,H,I,rfl,q⟩
end
def Bo(n:Nat)(i:Int):Option Nat:=if 0<=i then(if i<n then some i.toNat else none)else if -(n:Int)<=i then some (i+n).toNat else none
def pS(xs:List α)(i:Int):Option α:=(Bo xs.length i).bind fun j=>xs[j]?
theorem Bp{i:Int}(h:Bo n i=some j):seqIndex? i n=some j/\j<n/\-(n:Int)<=i/\i<n:=by
 unfold Bo at h
 by_cases h0:0<=i
 ·rw[am h0]at h
  by_cases h1:i<n
  ·rw[am h1]at h
   have e:i.toNat=j:=aU h
   exact⟨by rw[seqIndex_of h0 h1,e],by omega,by omega,h1⟩
  ·rw[az h1]at h;cases h
 ·rw[az h0]at h
  by_cases h1:-(n:Int)<=i
  ·rw[am h1]at h
   have e:(i+n).toNat=j:=aU h
   exact⟨by rw[qC (by omega) h1,e],by omega,h1,by omega⟩
  ·rw[az h1]at h;cases h
theorem v9{xs:List α}{i:Int}{v:α}(h:pS xs i=some v):∃j,seqIndex? i xs.length=some j/\xs[j]?=some v/\j<xs.length/\-(xs.length:Int)<=i/\i<xs.length:=by
 unfold pS at h
 cases e:Bo xs.length i with
 |none=>rw[e]at h;cases h
 |some j=>
  rw[e]at h
  obtain⟨h1,h2,h3,h4⟩:=Bp e
  exact⟨j,h1,h,h2,h3,h4⟩
def Bq(b:Expr):Prop:=∀o i,subscripted b false o i=operate [o,i] (getItem o i)
def H_(X:Cx)(r:R2):Prop:=
 ∀(value slice:Expr) (pins:List (Addr×Obj)) (s:Shared) (σ:St) (H:Hp) (x y:V) (v u:Value) (Q:VK),bv X pins σ H s->bN x v->bN y u->r x y H Q ->
  subscripted slice false v u=operate [v,u] (getItem v u)->wpAny (model X.prog X.w) X.A (subscriptTail value slice v u) (EP X pins σ Q) X.xe s
def Ia(X:Cx)(id:String)(r:V->List V->Hp->VK->Prop):Prop:=
 ∀(pins:List (Addr×Obj)) (s:Shared) (σ:St) (H:Hp) (x:V) (xs:List V) (v:Value) (us:List Value) (Q:VK),bv X pins σ H s->bN x v->cA xs us->r x xs H Q ->
  wpAny (model X.prog X.w) X.A (call (.builtin id) (v::us)) (EP X pins σ Q) X.xe s
section
variable{a b:Expr}{ta tb:TE}
theorem H_.or{r r':R2}(h:H_ X r)(h':H_ X r'):H_ X (fun x y H Q=>r x y H Q\/r' x y H Q):=by
 intro value slice pins s σ H x y v u Q I rx ry q hs
 rcases q with q|q
 ·exact h value slice pins s σ H x y v u Q I rx ry q hs
 ·exact h' value slice pins s σ H x y v u Q I rx ry q hs
theorem P8{r:R2}(hr:H_ X r)(ha:PE X a ta)(hb:PE X b tb)(hs:Bq b):PE X (.Subscript a b pos) (PQ r ta tb):=by
 intro pins s σ H Q I h
 exact Subscript_ (My ha hb I h fun v u s2 x y H2 I2 rx ry q=>hr a b pins s2 σ H2 x y v u Q I2 rx ry q (hs _ _))
def P9(K:Frag):R2:=fun x y H Q=>∃p xs i v,x=.ref p/\y=.int i/\rO K H p xs/\pS xs i=some v/\Q v H
def P_(K:Frag):R2:=fun x y H Q=>∃p xs i v,x=.ref p/\y=.int i/\fq K H p xs/\pS xs i=some v/\Q v H
def P':R2:=fun x y H Q=>∃z i c,x=.str z/\y=.int i/\z.length<=sizeLine/\pS z.cps.toList i=some c/\Q (.str ⟨#[c]⟩) H
theorem IK:H_ X (P9 X.K):=by
 intro value slice pins s σ H x y v u Q I rx ry h hs
 obtain⟨p,xs,i,z,rfl,rfl,hq,he,q⟩:=h
 cases rx
 obtain⟨t,rfl⟩:=ry
 obtain⟨bC,r,pl,hz⟩:=I.list hq
 obtain⟨j,h1,h2,h3,h4,h5⟩:=v9 he
 obtain⟨w,ew,kG⟩:=r.get h2
 have hl:=r.length
 have hn:=qJ
 have fin:EP X pins σ Q w s:=⟨z,H,I,kG,q⟩
 by_cases h0:0<=i
 ·have hj:i.toNat=j:=by
   rw[seqIndex_of h0 h5]at h1
   exact aU h1
  exact item_listR pl.isList h0 (by omega) (by rw[hj];simpa using ew) fin hs
 ·have hj:(i+(bC.toArray.size:Int)).toNat=j:=by
   rw[qC (by omega) h4]at h1
   rw[aH,<- hl]
   exact aU h1
  exact mQ (x:=w) pl.isList.typeIs slot_list_getitem.lookup
   (wpAny_getItem_list_neg (Q:=fun r s'=>r=w/\EP X pins σ Q r s') pl.isList (by omega) (by rw[aH]<;>omega) (by omega) (by rw[hj];simpa using ew) ⟨rfl,fin⟩) hs
theorem MM:H_ X (P_ X.K):=by
 intro value slice pins s σ H x y v u Q I rx ry h hs
 obtain⟨p,xs,i,z,rfl,rfl,hq,he,q⟩:=h
 cases rx
 obtain⟨t,rfl⟩:=ry
 obtain⟨bC,r,pl,hz⟩:=I.tuple hq
 obtain⟨j,h1,h2,h3,h4,h5⟩:=v9 he
 obtain⟨w,ew,kG⟩:=r.get h2
 have hl:=r.length
 have hn:=qJ
 have fin:EP X pins σ Q w s:=⟨z,H,I,kG,q⟩
 exact mQ (x:=w) pl.typeIs slot_tuple_getitem.lookup
  (getItem_tuple (j:=j) (Q:=fun r s'=>r=w/\EP X pins σ Q r s') pl (by omega) (by omega) (by rw[aH,<- hl];exact h1) (by simpa using ew) ⟨rfl,fin⟩) hs
theorem MN:H_ X P':=by
 intro value slice pins s σ H x y v u Q I rx ry h hs
 obtain⟨z,i,c,rfl,rfl,hz,he,q⟩:=h
 obtain⟨t,rfl⟩:=rx
 obtain⟨t',rfl⟩:=ry
 obtain⟨j,h1,h2,h3,h4,h5⟩:=v9 he
 have hl:z.cps.toList.length=z.length:=by simp[Str.length]
 rw[hl]at h1 h4 h5
 have hn:=qJ
 exact tail_any (typeIs_str s z t) slot_str_getitem.lookup (getItem_str (c:=c) (by
  have e1:decide (i < -(2^63:Int))=false:=bb (by omega)
  have e2:decide (i≥2^63)=false:=bb (by omega)
  rw[e1,e2,Bool.or_false]) (by rw[h1];simpa using h2) ⟨.str ⟨#[c]⟩,H,I.tok _,⟨_,rfl⟩,q⟩) hs
def UR(K:Frag):R2:=fun x y H Q=>P9 K x y H Q\/P_ K x y H Q\/P' x y H Q
theorem MO:H_ X (UR X.K):=IK.or (MM.or MN)
theorem z6(bC:List Value)(n j:Nat)(u:Value):Obj.mapSeq (·.setIfInBounds j u) { cls:=.type "list",data:=.seq bC.toArray n }={ cls:=.type "list",data:=.seq (bC.set j u).toArray n }:=by
 simp[Obj.mapSeq]
theorem bv.lst{p:Addr}{xs:List V}(I:bv X pins σ H s)(h:H p=some (.lst xs)) :
  ∃(bC:List Value) (n:Nat),cA xs bC/\s.heap.get? p=some { cls:=.type "list",data:=.seq bC.toArray n }/\xs.length<=sizeLine:=by
 obtain⟨z,bC,n,r,e⟩:=I.hok p _ h
 exact⟨bC,n,r,e,z⟩
theorem bv.lstUpd{p:Addr}{xs ys:List V}{its':List Value}{n':Nat}{f:Obj->Obj}(I:bv X pins σ H s)(h:H p=some (.lst xs))
  (ho:s.heap.get? p=some { cls:=.type "list",data:=.seq bC.toArray n }) (hf:f { cls:=.type "list",data:=.seq bC.toArray n }={ cls:=.type "list",data:=.seq its'.toArray n' }) (r:cA ys its') (hz:ys.length<=sizeLine) (t:Nat) :
  bv X pins σ (d_ H p (.lst ys)) { s with heap:=s.heap.update p f,toks:=t }:=by
 have e:(s.heap.update p f).get? p=some { cls:=.type "list",data:=.seq its'.toArray n' }:=by
  rw[gv f ho (by rw[hf]<;>rfl),hf]
 refine I.write (x:=p) (e:=p) (by rw[h];trivial) (.inl rfl) (fun b u hb q=>(iw _ _ (Ne.symm hb)).trans q) ⟨_,e⟩ ?_
 exact⟨hz,its',n',r,e⟩
def Qa:V->V->V->Hp->(Hp->Prop)->Prop:=fun o i v H Q=>∃p xs k j,o=.ref p/\i=.int k/\H p=some (.lst xs)/\Bo xs.length k=some j/\Q (d_ H p (.lst (xs.set j v)))
theorem EB:zS X Qa:=by
 intro pins s σ H o i v ov iv u Q I ro ri rv h
 obtain⟨p,xs,k,j,rfl,rfl,hp,hj,q⟩:=h
 cases ro
 obtain⟨t,rfl⟩:=ri
 obtain⟨bC,n,r,ho,hz⟩:=I.lst hp
 obtain⟨h1,h2,h3,h4⟩:=Bp hj
 have hl:=r.length
 have hn:=qJ
 have I':bv X pins σ (d_ H p (.lst (xs.set j v))) { s with heap:=s.heap.update p (Obj.mapSeq (·.setIfInBounds j u)) }:=
  I.lstUpd hp ho (z6 bC n j u) (r.set rv j) (by rw[hV];exact hz) s.toks
 by_cases h0:0<=k
 ·have hk:k.toNat=j:=by
   rw[seqIndex_of h0 h4]at h1
   exact aU h1
  exact PySem.W.ki_setAt ho h0 (by omega) (by rw[aH,<- hl];exact h4) (by rw[hk];exact⟨_,I',q⟩)
 ·have hk:(k+(bC.toArray.size:Int)).toNat=j:=by
   rw[qC (by omega) h3]at h1
   rw[aH,<- hl]
   exact aU h1
  exact PySem.W.ki_setBack ho (by omega) (by rw[aH,<- hl];exact h3) (by omega) (by rw[hk];exact⟨_,I',q⟩)
theorem v_(lo hi:Option Int)(n:Nat):(sliceBounds lo hi none n).1=((HT.sIx n 0 lo:Nat):Int)/\(sliceBounds lo hi none n).2.1=((HT.sIx n n hi:Nat):Int)/\(sliceBounds lo hi none n).2.2=1:=by
 refine⟨?_,?_,rfl⟩
 ·cases lo with
  |none=>simp[sliceBounds,HT.sIx]
  |some i=>
   simp only[sliceBounds,HT.sIx,Option.getD_none,show(1:Int)>0 by decide,dF]
   by_cases h:i<0
   ·simp only[h,dF]<;>omega
   ·simp only[h,gp]<;>omega
 ·cases hi with
  |none=>simp[sliceBounds,HT.sIx]
  |some i=>
   simp only[sliceBounds,HT.sIx,Option.getD_none,show(1:Int)>0 by decide,dF]
   by_cases h:i<0
   ·simp only[h,dF]<;>omega
   ·simp only[h,gp]<;>omega
theorem uF(bC:List Value)(lo hi:Option Int):slicePick bC.toArray lo hi none=((bC.drop (HT.sIx bC.length 0 lo)).take (HT.sIx bC.length bC.length hi-HT.sIx bC.length 0 lo)).toArray:=by
 obtain⟨h1,h2,h3⟩:=v_ lo hi bC.toArray.size
 unfold slicePick
 rw[h1,h2,h3]
 simp only[sliceRange_one,pick_run,aH]<;>rfl
def TQ(K:Frag):V->Option Int->Option Int->Hp->VK->Prop:=fun x lo hi H Q=>∃a xs,x=.ref a/\rO K H a xs/\∀p,H p=none->Q (.ref p) (d_ H p (.lst (sN xs lo hi)))
theorem IL:P6 X (TQ X.K):=by
 intro pins s σ H x v vl vu lo hi sl Q I rx hs pl pu h
 obtain⟨a,xs,rfl,hx,q⟩:=h
 cases rx
 obtain⟨bC,r,ht,hz⟩:=I.list hx
 have dk:=r.length
 refine⟨"list",_,slot_list_getitem.lookup,ht.isList.typeIs,?_⟩
 refine wpAny_getItem_list_slice ht.isList hs pl pu .none (by simp) ?_ (by rw[aH]<;>omega)
 rw[uF,<- dk]
 refine⟨.ref s.heap.objs.size,_,I.laid (t':=s.toks) (o:=.lst (sN xs lo hi)) (fun b ob q=>ao _ q) (au _) ?_,rfl,q _ (I.hok.fresh (au _))⟩
 exact⟨a_ (rA xs lo hi) hz,_,0,(r.drop (HT.sIx xs.length 0 lo)).take (HT.sIx xs.length xs.length hi-HT.sIx xs.length 0 lo),aT _ rfl⟩
theorem pU:g9 X (.builtin "len") (fun xs H Q=>∃p ys,xs=[.ref p]/\(rO X.K H p ys\/fq X.K H p ys)/\Q (.int ys.length) H):=by
 intro pins s σ H xs us Q I r h
 obtain⟨p,ys,rfl,hq,q⟩:=h
 obtain⟨u,rfl,rx⟩:=kQ r
 cases rx
 have hn:=qJ
 rcases hq with hq|hq
 ·obtain⟨bC,r',pl,hz⟩:=I.list hq
  have dk:=r'.length
  exact Calls.call_len_list pl.isList (by simp only[aH]<;>omega) ⟨.int ys.length,H,I.tok _,⟨s.toks+1,by rw[aH,dk]⟩,q⟩
 ·obtain⟨bC,r',pl,hz⟩:=I.tuple hq
  have dk:=r'.length
  exact len_tuple pl (by simp only[aH]<;>omega) ⟨.int ys.length,H,I.tok _,⟨s.toks+1,by rw[aH,dk]⟩,q⟩
theorem wa:g9 X (.builtin "len") (fun xs H Q=>∃z,xs=[.str z]/\z.length<=sizeLine/\Q (.int z.length) H):=by
 intro pins s σ H xs us Q I r h
 obtain⟨z,rfl,hz,q⟩:=h
 obtain⟨u,rfl,t,rfl⟩:=kQ r
 have hn:=qJ
 exact len_str (by omega) ⟨.int z.length,H,I.tok _,⟨_,rfl⟩,q⟩
theorem wb:g9 X (.type "list") (fun xs H Q=>∃p ys,xs=[.ref p]/\(rO X.K H p ys\/fq X.K H p ys)/\∀l,H l=none->Q (.ref l) (d_ H l (.lst ys))):=by
 intro pins s σ H xs us Q I r h
 obtain⟨p,ys,rfl,hq,q⟩:=h
 obtain⟨u,rfl,rx⟩:=kQ r
 cases rx
 have fin:∀(bC:List Value),cA ys bC->ys.length<=sizeLine->∀(h':Heap) (c':Nat),(∀b o',s.heap.get? b=some o'->h'.get? b=some o') ->
   h'.get? s.heap.objs.size=some { cls:=.type "list",dict:=none,data:=.seq bC.toArray c',slots:=#[] }->EP X pins σ Q (.ref s.heap.objs.size) { s with heap:=h' }:=fun bC r' hz h' c' kp e=>
  ⟨.ref s.heap.objs.size,_,I.laid (t':=s.toks) kp (au _) (show dR X.prog X.w _ h' _ (.lst ys)from⟨hz,bC,c',r',e⟩),rfl,q _ (I.hok.fresh (au _))⟩
 rcases hq with hq|hq
 ·obtain⟨bC,r',pl,hz⟩:=I.list hq
  have dk:=r'.length
  obtain⟨o,ho,hc,n,hd⟩:=pl.isList
  exact call_list_seq p (.inl rfl) ho hc hd (fun h' c' kp e=>fin bC r' hz h' c' kp e) (by simp only[aH]<;>omega)
 ·obtain⟨bC,r',pl,hz⟩:=I.tuple hq
  have dk:=r'.length
  obtain⟨o,ho,hc,n,hd⟩:=pl
  exact call_list_seq p (.inr rfl) ho hc hd (fun h' c' kp e=>fin bC r' hz h' c' kp e) (by simp only[aH]<;>omega)
theorem uG:g9 X (.type "tuple") (fun xs H Q=>∃p ys,xs=[.ref p]/\((rO X.K H p ys/\∀l,H l=none->Q (.ref l) (d_ H l (.tup ys)))\/(fq X.K H p ys/\Q (.ref p) H))):=by
 intro pins s σ H xs us Q I r h
 obtain⟨p,ys,rfl,h⟩:=h
 obtain⟨u,rfl,rx⟩:=kQ r
 cases rx
 rcases h with⟨hq,q⟩|⟨hq,q⟩
 ·obtain⟨bC,r',pl,hz⟩:=I.list hq
  have dk:=r'.length
  refine call_tuple_list pl.isList (fun h' kp=>?_) (by simp only[aH]<;>omega)
  have I1:bv X pins σ H { s with heap:=h' }:=I.kept (t':=s.toks) kp
  have I2:bv X pins σ (d_ H h'.objs.size (.tup ys)) { s with heap:=h'.push { cls:=.type "tuple",data:=.seq bC.toArray } }:=
   I1.laid (t':=s.toks) (fun b o e=>ao _ e) (au _) (show dR X.prog X.w _ _ _ (.tup ys)from⟨hz,bC,r',IsTup.new _ _⟩)
  exact⟨.ref h'.objs.size,_,I2,rfl,q _ (I1.hok.fresh (au _))⟩
 ·obtain⟨bC,r',pl,hz⟩:=I.tuple hq
  exact call_tuple_same pl ⟨.ref p,H,I,rfl,q⟩
def SZ(K:Frag)(T:String)(x:V)(H:Hp):Prop:=match x with
 |.str _=>T="str"
 |.int _=>T="int"
 |.ref p=>(T="list"/\∃xs,rO K H p xs)\/(T="tuple"/\∃o,K.lookup p=some o/\o.cls=.type "tuple"/\o.dict=none) \/
   (T="dict"/\((∃kvs,H p=some (.dK kvs))\/∃kvs,H p=some (.dT kvs)))\/(T="set"/\∃S n,H p=some (.set S n))
 |_=>False
theorem MP{T:String}{x:V}(I:bv X pins σ H s)(r:bN x v)(ty:SZ X.K T x H) :
  s.TypeIs v T/\∀a,v=.ref a->∃ob,s.heap.get? a=some ob/\ob.dict=none:=by
 cases x with
 |str z=>
  obtain⟨t,rfl⟩:=r
  cases(show T="str" from ty)
  exact⟨typeIs_str s z t,fun _ e=>nomatch e⟩
 |int i=>
  obtain⟨t,rfl⟩:=r
  cases(show T="int" from ty)
  exact⟨typeIs_int s i t,fun _ e=>nomatch e⟩
 |ref p=>
  cases r
  rcases ty with⟨rfl,xs,hq⟩|⟨rfl,o,hk,hc,hd⟩|⟨rfl,hk⟩|⟨rfl,S,n,hk⟩
  ·obtain⟨bC,_,pl,_⟩:=I.list hq
   refine⟨pl.isList.typeIs,fun a e=>?_⟩
   cases e
   obtain⟨o,n,e,c,hd,_⟩:=pl
   exact⟨o,e,hd⟩
  ·refine⟨⟨o,I.kIn p o hk,hc⟩,fun a e=>?_⟩
   cases e
   exact⟨o,I.kIn _ o hk,hd⟩
  ·have z:∃o,s.heap.get? p=some o/\o.ExactDict:=by
    rcases hk with⟨kvs,hk⟩|⟨kvs,hk⟩
    ·obtain⟨_,_,_,_,o,_,_,e,ex,_⟩:=I.hok p _ hk
     exact⟨o,e,ex⟩
    ·obtain⟨_,_,_,_,o,_,_,e,ex,_⟩:=I.hok p _ hk
     exact⟨o,e,ex⟩
   obtain⟨o,e,ex⟩:=z
   refine⟨⟨o,e,ex.1⟩,fun a e2=>?_⟩
   cases e2
   exact⟨o,e,ex.2.1⟩
  ·obtain⟨o,_,_,_,e,ex,_⟩:=I.hok p _ hk
   refine⟨⟨o,e,ex.1⟩,fun a e2=>?_⟩
   cases e2
   exact⟨o,e,ex.2.1⟩
 |_=>exact False.elim ty
variable{o:Expr}{to:TE}{t:TA}{T:String}{r:V->List V->Hp->VK->Prop}
end
def S5(X:Cx)(id:String)(r:V->List V->Hp->VK->Prop):Prop:=
 ∀(pins:List (Addr×Obj)) (s:Shared) (σ:St) (H:Hp) (x:V) (xs:List V) (v:Value) (us:List Value) (Q:VK),bv X pins σ H s->bN x v->cA xs us->r x xs H Q ->
  wpAny (model X.prog X.w) X.A (call (.builtin id) (v::us)) (EP X pins σ Q) X.xe s
theorem cA.one:∀{x:V} {us:List Value},cA [x] us->∃u,us=[u]/\bN x u
 |_,_,.cons r .nil=>⟨_,rfl,r⟩
theorem cA.two:∀{x y:V} {us:List Value},cA [x,y] us->∃u v,us=[u,v]/\bN x u/\bN y v
 |_,_,_,.cons r (.cons q .nil)=>⟨_,_,rfl,r,q⟩
section
variable{l:Addr}{xs ys zs:List V}
theorem bv.lset{its':List Value}{f:Array Value->Array Value}{t':Nat}(I:bv X pins σ H s)(hH:H l=some (.lst xs))
  (e:s.heap.get? l=some { cls:=.type "list",data:=.seq bC.toArray n }) (hf:f bC.toArray=its'.toArray) (hv:cA ys its') (hz:ys.length<=sizeLine) :
  bv X pins σ (d_ H l (.lst ys)) { s with heap:=s.heap.update l (Obj.mapSeq f),toks:=t' }:=by
 have q:=PySem.IsL.update e f
 rw[hf]at q
 refine I.write (x:=l) (e:=l) (by rw[hH];exact trivial) (.inl rfl) (fun b' u hb hu=>(iw s.heap (Obj.mapSeq f) (Ne.symm hb)).trans hu) ⟨_,q⟩ ?_
 exact⟨hz,its',_,hv,q⟩
theorem bv.lnew{t':Nat}(I:bv X pins σ H s)(hv:cA ys bC)(hz:ys.length<=sizeLine) :
  bv X pins σ (d_ H s.heap.objs.size (.lst ys)) { s with heap:=s.heap.push { cls:=.type "list",data:=.seq bC.toArray },toks:=t' }:=
 I.laid (fun _ _ q=>ao _ q) (au _) ⟨hz,bC,0,hv,aT _ rfl⟩
theorem bv.fresh(I:bv X pins σ H s):H s.heap.objs.size=none:=I.hok.fresh (au _)
theorem bv.lstM(I:bv X pins σ H s)(hH:H l=some (.lst xs)):xs.length<=sizeLine/\∃(bC:List Value) (n:Nat),cA xs bC/\xs.length=bC.length/\s.heap.get? l=some { cls:=.type "list",data:=.seq bC.toArray n }:=by
 obtain⟨z,bC,n,r,e⟩:=I.hok l _ hH
 exact⟨z,bC,n,r,r.length,e⟩
theorem yf(h:n<=sizeLine):Builtin.List.listTooLong n=false:=by
 unfold Builtin.List.listTooLong
 exact bb (by omega)
end
section
def Br:V->List V->Hp->VK->Prop:=fun x vs H Q=>∃l xs y,x=.ref l/\vs=[y]/\H l=some (.lst xs)/\xs.length<sizeLine/\Q .non (d_ H l (.lst (xs++[y])))
theorem C5:S5 X "list.append" Br:=by
 intro pins s σ H x vs v us Q I rx rv h
 obtain⟨l,xs,y,rfl,rfl,hH,hz,q⟩:=h
 cases rx
 obtain⟨u,rfl,ru⟩:=rv.one
 obtain⟨z,bC,n,r,hl,e⟩:=I.lstM hH
 refine mR F.slot_list_append ⟨_,e,rfl⟩ F.entry_list_append (F.args_list_append_2 _ _) (PySem.list_append l bC.toArray n u (by rw[aH];omega)) ⟨e,?_⟩
 refine⟨.non,_,I.lset (its':=bC++[u]) hH e (by simp) (r.append (.cons ru .nil)) ?_,rfl,q⟩
 rw[aC,iK]
 omega
def IM:V->List V->Hp->VK->Prop:=fun x vs H Q=>∃l b xs zs,x=.ref l/\vs=[.ref b]/\H l=some (.lst xs)/\H b=some (.lst zs)/\xs.length+zs.length<=sizeLine/\Q .non (d_ H l (.lst (xs++zs)))
theorem C6:S5 X "list.extend" IM:=by
 intro pins s σ H x vs v us Q I rx rv h
 obtain⟨l,b,xs,zs,rfl,rfl,hH,hB,hz,q⟩:=h
 cases rx
 obtain⟨u,rfl,ru⟩:=rv.one
 cases ru
 obtain⟨z,bC,n,r,hl,e⟩:=I.lstM hH
 obtain⟨z2,its2,n2,r2,hl2,e2⟩:=I.lstM hB
 have hsz:bC.toArray.size+its2.toArray.size<=sizeLine:=by rw[aH,aH];omega
 have hlong:¬ (!bC.toArray.isEmpty&&Builtin.List.listTooLong (bC.toArray.size+its2.toArray.size))=true:=by
  rw[yf hsz,Bool.and_false]
  exact bO
 refine mR F.slot_list_extend ⟨_,e,rfl⟩ F.entry_list_extend (F.args_list_extend_2 _ _)
  (AutoSeq1.list_extend_list_list_0 l bC.toArray n b its2.toArray n2 hlong (by rw[aH];omega) (by omega)) ⟨e,e2,?_⟩
 refine⟨.non,_,I.lset (its':=bC++its2) hH e (by simp) (r.append r2) ?_,rfl,q⟩
 rw[aC]
 omega
def TR:R2:=fun x y H Q=>∃l b xs zs,x=.ref l/\y=.ref b/\H l=some (.lst xs)/\H b=some (.lst zs)/\xs.length+zs.length<=sizeLine/\∀p,H p=none->Q (.ref p) (d_ H p (.lst (xs++zs)))
theorem MQ:n6 X (binaryOp .Add) TR:=by
 intro pins s σ H x y v u Q I rx ry h
 obtain⟨l,b,xs,zs,rfl,rfl,hH,hB,hz,q⟩:=h
 cases rx
 cases ry
 obtain⟨z,bC,n,r,hl,e⟩:=I.lstM hH
 obtain⟨z2,its2,n2,r2,hl2,e2⟩:=I.lstM hB
 refine PySem.P.add_list e e2 ?_ (by rw[aH,aH];omega)
 have ea:bC.toArray++its2.toArray=(bC++its2).toArray:=by simp
 rw[ea]
 exact⟨.ref _,_,I.lnew (t':=s.toks) (r.append r2) (by rw[aC];omega),rfl,q _ I.fresh⟩
end
section
variable{w:World}
end
section
end
end L2
namespace Att
open PySem PySem.W PySem.Calls PyProof.Rows
theorem rQ{P:Params}:∀(ns:List Int) (vs:List Value),WellAll P h vs (ns.map WData.int)->IntsAre vs ns:=by
 intro ns
 induction ns with
 |nil=>
  intro vs w
  rw[dg]at w
  cases w
  exact .nil
 |cons n ns ih=>
  intro vs w
  rw[aF]at w
  cases w with
  |cons a b=>
   cases a
   exact .cons _ _ (ih _ b)
theorem C7{l:OpenLaw}(hn:l.most=some n){P:Params}{args:List WData}{mL:List Value}
  (xL:l.row.toRowW.claim.pre args=true) (HW:WellAll P h mL args) :
  ∃a vs ns,mL=[Value.ref a]/\args=[WData.list (ns.map WData.int)]/\h.get? a=some { cls:=.type "list",data:=.seq vs.toArray }/\IntsAre vs ns/\ns.length<=n:=by
 have hsh:WShape.hasAll [] args [.list .int]=true:=(pre_splitW xL).1
 have hc:l.pre.holds [] { args:=args }=true:=(pre_splitW xL).2
 obtain⟨d,r,rfl,h1,h2⟩:=hasAllW_cons hsh
 obtain rfl:=hasAllW_nil h2
 obtain⟨xs,rfl,h3⟩:=hasW_list h1
 obtain⟨ns,rfl⟩:=items_int h3
 have dk:ns.length<=n:=by
  unfold OpenLaw.pre at hc
  have h4:(WTm.not (.lt (.lit (.int (n:Int))) (.len (.arg 0)))).holds [] { args:=[.list (ns.map .int)] }=true:=by
   have h4:=(holds_andW hc).1
   rw[hn]at h4
   exact h4
  have h5:=condW_of h4 (w_not (w_lt w_lit (w_len_list (w_arg rfl))))
  rw[ai]at h5
  refine dy fun q=>?_
  have q':(n:Int)<((ns.length:Nat):Int):=by omega
  first
   |(rw[bH q']at h5;exact absurd h5 (by decide))
   |(simp at h5;omega)
 cases HW with
 |cons w1 w2=>
  cases w2
  cases w1 with
  |list ho l7=>exact⟨_,_,ns,rfl,rfl,ho,rQ ns _ l7,dk⟩
theorem C8(l:OpenLaw)(args:List WData):l.row.toRowW.claim.post args (.bool true) args=true:=
 postW_of (r:=l.row.toRowW) (X:=(true==true))
  (show WShape.has [] (.bool true) .bool=true by first|rfl|decide|simp[WShape.has,WShape.arms,WShape.armsAll])
  (show(WTm.eq .res (.lit (.bool true))).value [] { args:=args,res:=some (.bool true),after:=args }=some (.bool (true==true))from w_eq_bool (w_res rfl) w_lit) rfl
theorem attach_call{l:OpenLaw}{q:Program}{CM:List Str}{d:DefRec}
  (hn:l.most=some n) (Uq:d.params.defaults=[])
  (call:∀(w:World) (s₀ s₁:Shared) (mg mb:Str->Option Value) (fa:Addr) (o:Obj) (pm cd jb:Value) (a:Addr) (vs:List Value) (ns:List Int),
   Ground q CM [] XP w s₀ mg mb s₁.heap->YP w s₁.heap ->
   s₁.heap.get? fa=some o->o.data=.func (docDef d.name d.params d.body d.scope pm cd jb)->s₁.heap.CodeRec cd d.name->mg d.name=some (.ref fa) ->
   s₁.heap.get? a=some { cls:=.type "list",data:=.seq vs.toArray }->IntsAre vs ns->ns.length<=n->s₁.gens=#[] ->
   codeAny (model l.prog w) callerA (.call (.ref fa) ⟨[.ref a],[]⟩) (fun r s'=>r=.ok (.ret (.bool true))/\OldK s₁.heap s'.heap/\s'.os=s₁.os/\AllBare s'.gens) s₁) :
  WalkO q CM XP YP l.row.toRowW d [] (fun f vs=>PySem.call f vs):=by
 intro w s₀ s₁ mg mb G Y fa o pm cd jb dV kV ho hd lK hD hmg hg args mL as xL hlay hrd HW hlo
 obtain rfl:dV=.none:=Dflts.none hD Uq
 obtain rfl:kV=.none:=Dflts.noKw hD
 obtain⟨a,vs,ns,rfl,rfl,hobj,hints,dk⟩:=C7 hn xL HW
 refine enter_call (iy (call w s₀ s₁ mg mb fa o pm cd jb a vs ns G Y ho (fd_plain hd) lK hmg hobj hints dk hg) fun r s' hq=>?_)
 obtain⟨rfl,h2,h3,h4⟩:=hq
 exact⟨.inl ⟨.bool true,.bool true,[],rfl,fun _=>rfl,.bool true,C8 l _,fun _=>⟨List.Pairwise.nil,fun _ hm=>(nomatch hm)⟩⟩,h2,h3,h4⟩
section
variable{w:World}
end
end Att
namespace L2
open PySem PySem.Spec PyProof.Rows
theorem u9:∀{vs:List Value} {ns:List Int},IntsAre vs ns->cA (ns.map V.int) vs
 |_,_,.nil=>.nil
 |_,_,.cons n t h=>.cons ⟨t,rfl⟩ (u9 h)
def dS(s:Stmt):Arguments:=match s with
 |.FunctionDef _ a _ _ _ _ _ _ _ _=>a
 |_=>{ posonlyargs:=[],args:=[],vararg:=none,kwonlyargs:=[],kw_defaults:=[],kwarg:=none,defaults:=[] }
def dU(s:Stmt):List Stmt:=match s with
 |.FunctionDef _ _ b _ _ _ _ _ _ _=>b
 |_=>[]
def aZ(s:Stmt):Scope:=match s with
 |.FunctionDef _ _ _ _ _ _ sc _ _ _=>sc
 |_=>{ kind:=.function,names:=[],isGenerator:=false,isCoroutine:=false }
structure mn(K:Frag)(x qual:Str)(st:Stmt)(f:Addr)(fd:FuncData):Prop where
 ex:∃(oc:Value) (od:Option Addr) (kV jb pm:Value) (an:Option Addr) (gX ct:Value) (L_:Array (Option Value)),
  fd=fnOf x qual (dS st) (dU st) (aZ st) .none kV jb pm an gX ct/\K.lookup f=some ⟨oc,od,.func fd,L_⟩/\codeIn K gX qual=true
 kp:keepIn K (.ref f)=true
section
variable{w:World}
theorem mn.binds{st:Stmt}(F:mn K x qual st f fd)
  (h:∀(kV jb pm:Value) (an:Option Addr) (gX ct:Value) (us:List Value),us.length=ps.length->bindArgs (fnOf x qual (dS st) (dU st) (aZ st) .none kV jb pm an gX ct) ⟨us,[]⟩=pure (ps.zip us)):yb K fd ps []:=by
 obtain⟨oc,od,kV,jb,pm,an,gX,ct,L_,rfl,lk,lK⟩:=F.ex
 exact .all (h kV jb pm an gX ct)
theorem wc{st:Stmt}{oc:Value}{od an:Option Addr}{L_:Array (Option Value)}{kV jb pm gX ct:Value}(l:K.lookup f=some ⟨oc,od,.func (fnOf x qual (dS st) (dU st) (aZ st) .none kV jb pm an gX ct),L_⟩)
  (c:codeIn K gX qual=true) (k:keepIn K (.ref f)=true):mn K x qual st f (fnOf x qual (dS st) (dU st) (aZ st) .none kV jb pm an gX ct):=⟨⟨oc,od,kV,jb,pm,an,gX,ct,L_,rfl,l,c⟩,k⟩
end
theorem EC{k:Nat}(hr:fY k A):A.units+1<cLine:=ko (Nat.add_le_add_left (by decide:1<=64) _) hr.units
section
theorem pv(i:Nat){pos:Pos}(hN:X.N[i]?=some x:=by rfl)(hv:Pf X.env.scope x:=by first|exact Or.inl rfl|exact Or.inr (Or.inl rfl)|exact Or.inr (Or.inr rfl))(hd:(x==("__debug__":Str))=false:=by decide)
  (lK:(x==("__classdict__":Str))=false:=by decide):PE X (.Name x pos) (Px i):=Mj hN hv hd lK
end
def oE(H H':Hp):Prop:=∀b o,H b=some o->H' b=some o
theorem oE.refl(H:Hp):oE H H:=fun _ _ h=>h
section
variable{κ:Type}[DecidableEq κ]
def jU(kvs:List (κ×V))(k:κ):Option V:=(kvs.find? fun kv=>decide (kv.1=k)).map (·.2)
def nq(kvs:List (κ×V))(k:κ)(v:V):List (κ×V):=
 if (kvs.any fun kv=>decide (kv.1=k))=true then kvs.map (fun kv=>if kv.1=k then(kv.1,v)else kv)else kvs++[(k,v)]
def mY(kvs:List (κ×V))(k:κ):List (κ×V):=kvs.filter fun kv=>decide (kv.1≠k)
theorem nH{p:κ×V}{r:List (κ×V)}{k:κ}(e:p.1=k):jU (p::r) k=some p.2:=by simp[jU,bx,e]
theorem pV{p:κ×V}{r:List (κ×V)}{k:κ}(e:¬ p.1=k):jU (p::r) k=jU r k:=by simp[jU,bx,e]
theorem yg(k:κ):∀kvs:List (κ×V),(kvs.any fun kv=>decide (kv.1=k))=(jU kvs k).isSome
 |[]=>rfl
 |p::r=>by
  rw[oU]
  by_cases e:p.1=k
  ·simp only[nH e,bH e,Bool.true_or,Option.isSome_some]
  ·rw[pV e,bb e,oV];exact yg k r
theorem nI(kvs:List (κ×V))(k:κ)(v:V):(nq kvs k v).length<=kvs.length+1:=by
 unfold nq
 split
 ·rw[ai];omega
 ·rw[aC,br,dJ];omega
theorem pP.isSome_eq{o:Option V}{u:Option Value}(r:pP o u):o.isSome=u.isSome:=by
 cases o with
 |none=>cases u with
  |none=>rfl
  |some _=>exact(show False from r).elim
 |some _=>cases u with
  |none=>exact(show False from r).elim
  |some _=>rfl
theorem KV.val{kvs:List (κ×V)}{vs:List (κ×Value)}(r:KV kvs vs)(k:κ):pP (jU kvs k) (valueAt vs k):=by
 unfold KV at r
 induction r with
 |nil=>exact True.intro
 |@cons p q ps qs h t ih=>
  obtain⟨h1,h2⟩:=h
  by_cases e:p.1=k
  ·have e':q.1=k:=h1.symm.trans e
   have b:valueAt (q::qs) k=some q.2:=by simp[valueAt,bx,e']
   rw[nH e,b];exact h2
  ·have e':¬ q.1=k:=fun z=>e (h1.trans z)
   have b:valueAt (q::qs) k=valueAt qs k:=by simp[valueAt,bx,e']
   rw[pV e,b];exact ih
theorem KV.any{kvs:List (κ×V)}{vs:List (κ×Value)}(r:KV kvs vs)(k:κ):(kvs.any fun kv=>decide (kv.1=k))=vs.any fun kv=>decide (kv.1=k):=by
 unfold KV at r
 induction r with
 |nil=>rfl
 |cons h t ih=>rw[oU,oU,ih,h.1]
theorem KV.repl{kvs:List (κ×V)}{vs:List (κ×Value)}(r:KV kvs vs)(k:κ)(ry:bN y u) :
  KV (kvs.map fun kv=>if kv.1=k then(kv.1,y)else kv) (vs.map fun kv=>if kv.1=k then(kv.1,u)else kv):=by
 unfold KV at r ⊢
 induction r with
 |nil=>exact .nil
 |@cons p q ps qs h t ih=>
  rw[aF,aF]
  refine .cons ?_ ih
  obtain⟨h1,h2⟩:=h
  by_cases e:p.1=k
  ·rw[am e,am (h1.symm.trans e)];exact⟨h1,ry⟩
  ·rw[az e,az (fun z=>e (h1.trans z))];exact⟨h1,h2⟩
theorem KV.put{kvs:List (κ×V)}{vs:List (κ×Value)}(r:KV kvs vs)(k:κ)(ry:bN y u):KV (nq kvs k y) (stored vs k u):=by
 unfold nq stored
 rw[r.any k]
 by_cases e:(vs.any fun kv=>decide (kv.1=k))=true
 ·rw[am e,am e];exact r.repl k ry
 ·rw[az e,az e];exact Paired.snoc r ⟨rfl,ry⟩
theorem KV.drop{kvs:List (κ×V)}{vs:List (κ×Value)}(r:KV kvs vs)(k:κ):KV (mY kvs k) (without vs k):=by
 unfold KV at r ⊢
 unfold mY without
 induction r with
 |nil=>exact .nil
 |@cons p q ps qs h t ih=>
  obtain⟨h1,h2⟩:=h
  rw[bZ,bZ]
  by_cases e:p.1=k
  ·have a:¬ decide (p.1≠k)=true:=by simp[e]
   have b:¬ decide (q.1≠k)=true:=by simp[h1.symm.trans e]
   rw[az a,az b];exact ih
  ·have e':¬ q.1=k:=fun z=>e (h1.trans z)
   have a:decide (p.1≠k)=true:=by simp[e]
   have b:decide (q.1≠k)=true:=by simp[e']
   rw[am a,am b];exact .cons ⟨h1,h2⟩ ih
theorem KV.keys{kvs:List (κ×V)}{vs:List (κ×Value)}(r:KV kvs vs):kvs.map (·.1)=vs.map (·.1):=by
 unfold KV at r
 induction r with
 |nil=>rfl
 |cons h t ih=>rw[aF,aF,ih,h.1]
theorem KV.length{kvs:List (κ×V)}{vs:List (κ×Value)}(r:KV kvs vs):kvs.length=vs.length:=Paired.length r
theorem ED(kvs:List (κ×V))(k:κ):(mY kvs k).length<=kvs.length:=fj _ _
end
theorem sO{w:World}{k:fZ}(r:bN (kV k) u):(eF P w).is k u=true:=by
 cases k with
 |inl i=>obtain⟨t,e⟩:=(show ∃t,u=Value.int i t from r);subst e;exact x5 P w i t
 |inr x=>obtain⟨t,e⟩:=(show ∃t,u=Value.str x t from r);subst e;exact x6 P w x t
theorem u_{w:World}:∀{ks:List fZ} {us:List Value},cA (ks.map kV) us->ItemsAre (eF P w) ks us
 |[],_,r=>by rw[dg]at r;cases r;exact .nil
 |k::ks,_,r=>by
  rw[aF]at r
  cases r with
  |cons h t=>exact .cons (sO h) (u_ t)
abbrev KT(H:Hp):List (List fZ×V)->List (List fZ×Addr×Value)->Prop:=Paired fun p q=>p.1=q.1/\H q.2.1=some (.tup (p.1.map kV))/\bN p.2 q.2.2
theorem KT.val{kvs:List (List fZ×V)}(r:KT H kvs xs)(k:List fZ):pP (jU kvs k) ((atKey xs k).map (·.2)):=by
 induction r with
 |nil=>exact True.intro
 |@cons p q ps qs h t ih=>
  obtain⟨h1,_,h2⟩:=h
  by_cases e:p.1=k
  ·have e':q.1=k:=h1.symm.trans e
   have b:atKey (q::qs) k=some q.2:=by simp[atKey,bx,e']
   rw[nH e,b];exact h2
  ·have e':¬ q.1=k:=fun z=>e (h1.trans z)
   have b:atKey (q::qs) k=atKey qs k:=by simp[atKey,bx,e']
   rw[pV e,b];exact ih
theorem KT.repl{kvs:List (List fZ×V)}(r:KT H kvs xs)(k:List fZ)(ry:bN y u) :
  KT H (kvs.map fun kv=>if kv.1=k then(kv.1,y)else kv) (xs.map (putAt k u)):=by
 induction r with
 |nil=>exact .nil
 |@cons p q ps qs h t ih=>
  rw[aF,aF]
  refine .cons ?_ ih
  obtain⟨h1,h2,h3⟩:=h
  unfold putAt
  by_cases e:p.1=k
  ·rw[am e,am (h1.symm.trans e)];exact⟨h1,h2,ry⟩
  ·rw[az e,az (fun z=>e (h1.trans z))];exact⟨h1,h2,h3⟩
theorem KT.put{kvs:List (List fZ×V)}(r:KT H kvs xs)(k:List fZ)(hb:H b=some (.tup (k.map kV)))(ry:bN y u) :
  KT H (nq kvs k y) (storedH xs k b u):=by
 have e:(kvs.any fun kv=>decide (kv.1=k))=(atKey xs k).isSome:=by
  rw[yg,(r.val k).isSome_eq,gE]
 unfold nq storedH
 rw[e]
 by_cases q:(atKey xs k).isSome=true
 ·rw[am q,am q];exact r.repl k ry
 ·rw[az q,az q];exact Paired.snoc r ⟨rfl,hb,ry⟩
theorem KT.keeps{kvs:List (List fZ×V)}(r:KT H kvs xs)(ht:∀b ys,H b=some (.tup ys)->H' b=some (.tup ys)):KT H' kvs xs:=
 Paired.mapP r fun _ _ z=>⟨z.1,ht _ _ z.2.1,z.2.2⟩
section
variable{w:World}
theorem KH{u:HO}(ok:kF P w H h)(e:Rd H a u):dR P w H h a u:=e.ok ok
theorem oH{kvs:List (fZ×V)}(ok:kF P w H h)(e:Rd H a (.dK kvs)):kvs.length<=sizeLine/\(a==sysModules)=false/\∃vs,KV kvs vs/\h.DictOf (eF P w) a vs:=
 show dR P w H h a (.dK kvs)from KH ok e
theorem Bs{kvs:List (fZ×V)}(ok:kF P w H h)(e:H a=some (.dK kvs)):kvs.length<=sizeLine/\(a==sysModules)=false/\∃vs,KV kvs vs/\h.DictOf (eF P w) a vs:=oH ok (.inl e)
theorem wd{ks:List fZ}(ok:kF P w H h)(e:H a=some (.tup (ks.map kV))):(tupleKind (eF P w)).is h ks a:=by
 obtain⟨_,bC,r,o,h1,h2,n,h3⟩:=(show dR P w H h a (.tup (ks.map kV))from ok a _ e)
 exact⟨o,bC.toArray,n,h1,h2,h3,by simpa using u_ r⟩
theorem yh{kvs:List (List fZ×V)}(ok:kF P w H h)(e:Rd H a (.dT kvs)):kvs.length<=sizeLine/\(a==sysModules)=false /\
  ∃xs,KT H kvs xs/\h.DictOfH (tupleKind (eF P w)) a xs:=by
 obtain⟨z,y,xs,r,o,es,ep,h1,h2,h3,h4,h5⟩:=(show dR P w H h a (.dT kvs)from KH ok e)
 refine⟨z,y,xs,r,o,es,ep,h1,h2,h3,h4,fun x hx=>?_,h5⟩
 have all:∀{l:List (List fZ×V)} {m:List (List fZ×Addr×Value)},KT H l m->∀x∈m,(tupleKind (eF P w)).is h x.1 x.2.1:=by
  intro l m q
  induction q with
  |nil=>intro x hx;exact nomatch hx
  |@cons p q ps qs hq t ih=>
   intro x hx
   rcases aK.mp hx with e|hx
   ·subst e
    exact wd ok (by rw[<- hq.1];exact hq.2.1)
   ·exact ih x hx
 exact all r x hx
theorem Qb{kvs:List (List fZ×V)}(ok:kF P w H h)(e:H a=some (.dT kvs)):kvs.length<=sizeLine/\(a==sysModules)=false /\
  ∃xs,KT H kvs xs/\h.DictOfH (tupleKind (eF P w)) a xs:=yh ok (.inl e)
end
def yi(H:Hp)(a:Addr)(y:V)(r:Option V):Prop:=
 (∃kvs k,Rd H a (.dK kvs)/\y=kV k/\r=jU kvs k)\/∃kvs k b,Rd H a (.dT kvs)/\y=.ref b/\H b=some (.tup (k.map kV))/\r=jU kvs k
def IN(H:Hp)(a:Addr)(y v:V)(H':Hp):Prop:=
 (∃kvs k,H a=some (.dK kvs)/\y=kV k/\kvs.length<sizeLine/\H'=d_ H a (.dK (nq kvs k v))) \/
 ∃kvs k b,H a=some (.dT kvs)/\y=.ref b/\H b=some (.tup (k.map kV))/\kvs.length<sizeLine/\H'=d_ H a (.dT (nq kvs k v))
theorem IN.k{kvs:List (fZ×V)}{k:fZ}{v:V}(e:H a=some (.dK kvs))(hl:kvs.length<sizeLine):IN H a (kV k) v (d_ H a (.dK (nq kvs k v))):=.inl ⟨kvs,k,e,rfl,hl,rfl⟩
section
variable{v:V}{r:Value}{o:Option V}
theorem bv.big(I:bv X pins σ H s):sysModules<s.heap.objs.size:=by
 have h:mainGlobals<s.heap.objs.size:=(I.mod.glob.keeps I.bk).lt
 exact qD (by decide) h
theorem C9(hu:A.units+1<cLine)(I:bv X pins σ H s)(g:yi H a y (some v))(ry:bN y u)(h:∀w' s',bv X pins σ H s'->bN v w'->Q w' s') :
  wpAny (model X.prog X.w) A (getItem (.ref a) u) Q E s:=by
 rcases g with⟨kvs,k,e,ey,l⟩|⟨kvs,k,b,e,ey,eb,l⟩
 ·subst ey
  obtain⟨z,hd,vs,jc,dd⟩:=oH I.hok e
  obtain⟨w',hw,kG⟩:=pP.some_of (v:=v) (o:=valueAt vs k) (by rw[l];exact jc.val k)
  exact l_ (sO ry) dd.mapOf hw (h w' _ (I.tok _) kG)
 ·subst ey
  cases(show u=Value.ref b from ry)
  obtain⟨z,hd,xs,jc,dd⟩:=yh I.hok e
  obtain⟨w',hw,kG⟩:=pP.some_of (v:=v) (o:=(atKey xs k).map (·.2)) (by rw[l];exact jc.val k)
  obtain⟨p,hp,hp2⟩:=aX.mp hw
  refine wpAny_getItem_heap (kq hu) (wd I.hok eb) dd hp ?_
  rw[hp2]
  exact h w' _ (I.tok _) kG
theorem IP(hu:A.units+1<cLine)(I:bv X pins σ H s)(g:yi H a y o)(ry:bN y u)(h:∀s',bv X pins σ H s'->Q (.bool (!o.isSome)) s') :
  wpAny (model X.prog X.w) A (compareOp .NotIn u (.ref a)) Q E s:=by
 rcases g with⟨kvs,k,e,ey,l⟩|⟨kvs,k,b,e,ey,eb,l⟩
 ·subst ey
  obtain⟨z,hd,vs,jc,dd⟩:=oH I.hok e
  refine wpAny_notIn_of (sO ry) hd dd.mapOf ?_
  rw[<- (jc.val k).isSome_eq,<- l]
  exact h _ (I.tok _)
 ·subst ey
  cases(show u=Value.ref b from ry)
  obtain⟨z,hd,xs,jc,dd⟩:=yh I.hok e
  refine wpAny_notIn_heap (kq hu) (wd I.hok eb) hd dd ?_
  have q:=(jc.val k).isSome_eq
  rw[gE]at q
  rw[<- q,<- l]
  exact h _ (I.tok _)
theorem mv{t':Nat}{ob:HO}(I:bv X pins σ H s)(mu:Mi (H a))(hs:Heap.SameBut a s.heap h')(he:∃q,h'.get? a=some q)(new:dR X.prog X.w (d_ H a ob) h' a ob) :
  bv X pins σ (d_ H a ob) { s with heap:=h',toks:=t' }:=
 I.write (x:=a) (e:=a) mu (.inl rfl) (fun b q hb z=>(hs.2 b hb).trans z) he new
theorem z7{w:World}{kvs:List (fZ×V)}{vs:List (fZ×Value)}(z:kvs.length<=sizeLine)(hd:(a==sysModules)=false)(jc:KV kvs vs)(dd:h'.DictOf (eF P w) a vs) :
  dR P w H' h' a (.dK kvs):=⟨z,hd,vs,jc,dd⟩
theorem C_{Q:Unit->Shared->Prop}(hu:A.units+1<cLine)(I:bv X pins σ H s)(g:IN H a y v H')(ry:bN y u)(rv:bN v r)(h:∀s',bv X pins σ H' s'->Q () s') :
  wpAny (model X.prog X.w) A (setItem (.ref a) u r) Q E s:=by
 rcases g with⟨kvs,k,e,ey,l,eH⟩|⟨kvs,k,b,e,ey,eb,l,eH⟩
 ·subst ey eH
  obtain⟨z,hd,vs,jc,dd⟩:=Bs I.hok e
  have hz:vs.length<=sizeLine:=by rw[<- jc.length];exact z
  have hl:(nq kvs k v).length<=sizeLine:=by have:=nI kvs k v;omega
  refine wpAny_setItem_pairs (hsz:=hz) (sO ry) dd fun h' dd' hs=>h _ ?_
  have he:∃q,h'.get? a=some q:=let ⟨q,_,_,hq,_⟩:=dd';⟨q,hq⟩
  exact mv I (by rw[e];exact True.intro) hs he (z7 hl hd (jc.put k rv) dd')
 ·subst ey eH
  cases(show u=Value.ref b from ry)
  obtain⟨z,hd,xs,jc,dd⟩:=Qb I.hok e
  have hz:xs.length<=sizeLine:=by rw[<- Paired.length jc];exact z
  have hl:(nq kvs k v).length<=sizeLine:=by have:=nI kvs k v;omega
  refine wpAny_setItem_heap (hsz:=hz) (kq hu) (wd I.hok eb) dd fun h' dd' hs=>h _ ?_
  obtain⟨q,es,ep,hq,h2,h3,h4,_,h5⟩:=dd'
  refine mv I (by rw[e];exact True.intro) hs ⟨q,hq⟩ ⟨hl,hd,_,(jc.put k eb rv).keeps fun c ys ec=>?_,q,es,ep,hq,h2,h3,h4,h5⟩
  rw[cu (Pw ec e (fun z=>nomatch z))]
  exact ec
end
section
variable{kvs:List (fZ×V)}{k:fZ}
theorem Qc{v:V}{kh:List Value}(I:bv X pins σ H s)(e:H a=some (.dK kvs))(ry:bN (kV k) u)(l:jU kvs k=some v)(hm:kh=[]\/∃x,kh=[x])
  (h:∀w' s',bv X pins σ (d_ H a (.dK (mY kvs k))) s'->bN v w'->Q w' s'):wpAny (model X.prog X.w) A (call (.builtin "dict.pop") (.ref a::u::kh)) Q E s:=by
 obtain⟨z,hd,vs,jc,dd⟩:=Bs I.hok e
 obtain⟨w',hw,kG⟩:=pP.some_of (v:=v) (o:=valueAt vs k) (by rw[<- l];exact jc.val k)
 have hp:(keyPart u).isSome=true:=by
  cases k with
  |inl i=>obtain⟨t,q⟩:=(show ∃t,u=Value.int i t from ry);subst q;rfl
  |inr x=>obtain⟨t,q⟩:=(show ∃t,u=Value.str x t from ry);subst q;rfl
 have ha:argsOk "dict.pop" ⟨.ref a::u::kh,[]⟩:=by
  rcases hm with q|⟨x,q⟩
  ·subst q;exact PySem.F.args_dict_pop_2 _ _
  ·subst q;exact PySem.F.args_dict_pop_3 _ _ _
 refine jL PySem.F.slot_dict_pop dd.typeIs PySem.F.entry_dict_pop ha (meets_dict_pop_there (eF X.prog X.w) a (sO ry) kh hm hp)
  ⟨vs,w',dd,by rw[<- jc.length];exact z,hw,fun h' dd' hs=>h w' _ ?_ kG⟩
 have he:∃q,h'.get? a=some q:=let ⟨q,_,_,hq,_⟩:=dd';⟨q,hq⟩
 exact mv I (by rw[e];exact True.intro) hs he (z7 (a_ (ED kvs k) z) hd (jc.drop k) dd')
theorem Qd(I:bv X pins σ H s)(e:Rd H a (.dK kvs))(h:∀t s',bv X pins σ H s'->Q (.int kvs.length t) s'):wpAny (model X.prog X.w) A (call (.builtin "len") [.ref a]) Q E s:=by
 obtain⟨z,hd,vs,jc,dd⟩:=oH I.hok e
 refine call_len_dict hd dd (by rw[<- jc.length];rw[lg]at z;omega) ?_
 rw[<- jc.length]
 exact h _ _ (I.tok _)
end
def EE(i:Expr):Prop:=∀ov iv,subscripted i false ov iv=operate [ov,iv] (getItem ov iv)
theorem we{w:World}{value slice:Expr}{T:String}
  (hl:typeLookup (.type T) "__getitem__"=pure (some (.builtin id))) (hs:EE slice)
  (h:wpAny (model prog w) A (eval value env) (fun o s₁=>wpAny (model prog w) A (eval slice env) (fun i s₂=>s₂.TypeIs o T/\wpAny (model prog w) A (getItem o i) Q E s₂) E s₁) E s) :
  wpAny (model prog w) A (eval (.Subscript value slice pos) env) Q E s:=by
 refine Subscript_ (dO h (fun o s₁ h₁=>dO h₁ (fun i s₂ h₂=>?_) fun _ _ x=>x) fun _ _ x=>x)
 obtain⟨hT,h₂⟩:=h₂
 unfold subscriptTail
 refine ah ?_
 rw[getitemInPython_of_ne hT.not_modules]
 refine ah (fE hT hl ?_)
 have fin:wpAny (model prog w) A (subscripted slice false o i) (fun r s₃=>wpAny (model prog w) A (letTemporaryGo value o r >>= fun _=>pure r) Q E s₃) E s₂:=by
  rw[hs o i]
  exact wpAny_operating (dO h₂ (fun r s₃ h₃=>ah (wpAny_letTemporaryGo (ax h₃))) fun _ _ x=>x)
 first
  |exact ax (ah fin)
  |exact ah (ax (ah fin))
  |exact ah fin
theorem yj{o:Option V}(I:bv X pins σ H s)(g:yi H a y o):s.TypeIs (.ref a) "dict":=by
 rcases g with⟨kvs,k,e,_,_⟩|⟨kvs,k,b,e,_,_,_⟩
 ·obtain⟨_,_,vs,_,dd⟩:=oH I.hok e
  exact dd.typeIs
 ·obtain⟨_,_,xs,_,dd⟩:=yh I.hok e
  exact dd.typeIs
def Qe(td ty:TE):TE:=fun σ H Q=>td σ H fun x H1=>ty σ H1 fun y H2=>∃a v,x=.ref a/\yi H2 a y (some v)/\Q v H2
section
variable{o i value:Expr}{Us:Pos}{td ty tv:TE}
theorem IQ(hu:X.A.units+1<cLine)(ho:PE X o td)(hi:PE X i ty)(hs:EE i):PE X (.Subscript o i pos) (Qe td ty):=by
 intro pins s σ H Q I h
 refine we PySem.F.slot_dict_getitem.lookup hs (f6 (ho pins s σ H _ I h) fun u s1 ⟨x,H1,I1,rx,q1⟩=>f6 (hi pins s1 σ H1 _ I1 q1) fun iv s2 ⟨y,H2,I2,ry,a,v,ex,g,q2⟩=>?_)
 subst ex
 obtain rfl:u=Value.ref a:=rx
 exact⟨yj I2 g,C9 hu I2 g ry fun w' s3 I3 kG=>⟨v,H2,I3,kG,q2⟩⟩
end
theorem yk{w:World}(h:Heap)(hb:sysModules<h.objs.size):dR P w H (h.push { cls:=.type "dict",data:=.dict #[] }) h.objs.size (.dK []):=
 ⟨cG _,aQ.mpr (Ne.symm (bD hb)),[],.nil,Heap.DictOf.new h⟩
def MR:TE:=fun _ H Q=>∀p,H p=none->Q (.ref p) (d_ H p (.dK []))
section
theorem EF:PE X (.Dict [] [] pos) MR:=fun pins s σ H Q I h=>
 wpAny_Dict_empty ⟨.ref s.heap.objs.size,_,I.laid (a:=s.heap.objs.size) (o:=.dK []) (t':=s.toks) (fun _ _ q=>ao _ q) (au _) (yk s.heap I.big),rfl,h _ (I.hok.fresh (au _))⟩
end
def wf:List (TE×TE)->St->Hp->(List (V×V)->Hp->Prop)->Prop
 |[],_,H,Q=>Q [] H
 |(tk,tv)::r,σ,H,Q=>tk σ H fun x H1=>tv σ H1 fun y H2=>wf r σ H2 fun ps H3=>Q ((x,y)::ps) H3
abbrev VV:List (V×V)->List (Value×Value)->Prop:=Paired fun p q=>bN p.1 q.1/\bN p.2 q.2
def Qf(X:Cx)(pos:Pos)(keys:List (Option Expr))(kg:List Expr)(Bg:List (TE×TE)):Prop:=
 ∀(pins:List (Addr×Obj)) (s:Shared) (σ:St) (H:Hp) (Q:List (V×V)->Hp->Prop),bv X pins σ H s->wf Bg σ H Q ->
  wpAny (model X.prog X.w) X.A (evalPairs (pairTrees keys kg X.env pos)) (fun vs s'=>∃ps H',bv X pins σ H' s'/\VV ps vs/\Q ps H') X.xe s
theorem IR:Qf X pos [] [] []:=fun pins s σ H Q I h=>pairTrees_nil_walk ⟨[],H,I,.nil,h⟩
theorem EG{k v:Expr}{vs:List Expr}{tk tv:TE}{Bg:List (TE×TE)}(hk:PE X k tk)(hv:PE X v tv)(hr:Qf X pos ks vs Bg) :
  Qf X pos (some k::ks) (v::vs) ((tk,tv)::Bg):=fun pins s σ H Q I h=>
 pairTrees_cons_walk (f6 (hk pins s σ H _ I h) fun u s1 ⟨x,H1,I1,rx,q1⟩=>f6 (hv pins s1 σ H1 _ I1 q1) fun w2 s2 ⟨y,H2,I2,ry,q2⟩=>
  f6 (hr pins s2 σ H2 _ I2 q2) fun ws s3 ⟨ps,H3,I3,jc,q3⟩=>⟨(x,y)::ps,H3,I3,.cons ⟨rx,ry⟩ jc,q3⟩)
def nJ(kvs kh:List (fZ×V)):List (fZ×V):=kh.foldl (fun acc kv=>nq acc kv.1 kv.2) kvs
theorem KV.merge:∀{kh:List (fZ×V)} {rs:List (fZ×Value)} {kvs:List (fZ×V)} {vs:List (fZ×Value)},KV kh rs->KV kvs vs->KV (nJ kvs kh) (merged vs rs):=by
 intro kh rs kvs vs r
 unfold KV at r
 induction r generalizing kvs vs with
 |nil=>intro q;exact q
 |@cons p q ps qs h t ih=>
  intro r0
  have e:KV (nq kvs p.1 p.2) (stored vs q.1 q.2):=by
   have:=r0.put p.1 h.2
   rw[<- h.1];exact this
  exact ih e
theorem oI:∀(kh kvs:List (fZ×V)),(nJ kvs kh).length<=kvs.length+kh.length
 |[],kvs=>by show kvs.length<=kvs.length+0;omega
 |p::r,kvs=>by
  have h1:=oI r (nq kvs p.1 p.2)
  have h2:=nI kvs p.1 p.2
  show(nJ (nq kvs p.1 p.2) r).length<=_
  rw[br];omega
theorem sP{P:Program}{w:World}:∀{kvs:List (fZ×V)} {ws:List (Value×Value)},VV (kvs.map fun kv=>(kV kv.1,kv.2)) ws->∃rs,Carries (eF P w) ws rs/\KV kvs rs
 |[],_,r=>by rw[dg]at r;cases r;exact⟨[],True.intro,.nil⟩
 |p::kvs,_,r=>by
  rw[aF]at r
  cases r with
  |@cons a b as bs h t=>
   obtain⟨rs,c,q⟩:=sP (P:=P) (w:=w) t
   obtain⟨b1,b2⟩:=b
   exact⟨(p.1,b2)::rs,⟨sO h.1,rfl,c⟩,.cons ⟨rfl,h.2⟩ q⟩
def Qg(Bg:List (TE×TE)):TE:=fun σ H Q=>∀p,H p=none->wf Bg σ (d_ H p (.dK [])) fun ps H2=>H2 p=some (.dK [])/\∃kvs:List (fZ×V),ps=kvs.map (fun kv=>(kV kv.1,kv.2))/\kvs.length<=15/\Q (.ref p) (d_ H2 p (.dK (nJ [] kvs)))
theorem IS{keys:List (Option Expr)}{kg:List Expr}{Bg:List (TE×TE)}(h:Qf X pos keys kg Bg)(l7:keys.all (·.isSome)=true)(hl:keys.length=kg.length)(h0:keys≠[])
  (Uj:keys.length<=15):PE X (.Dict keys kg pos) (Qg Bg):=by
 intro pins s σ H Q I q
 have hn:=I.hok.fresh (au s.heap.objs.size)
 have I1:=I.laid (a:=s.heap.objs.size) (o:=.dK []) (h':=s.heap.push { cls:=.type "dict",data:=.dict #[] }) (t':=s.toks) (fun _ _ q=>ao _ q) (au _) (yk s.heap I.big)
 refine wpAny_Dict_walk (knd:=eF X.prog X.w) l7 hl h0 Uj (f6 (h pins _ σ _ _ I1 (q _ hn)) fun ws s2 ⟨ps,H2,I2,jc,e,kvs,ep,lk,q2⟩=>?_)
 subst ep
 obtain⟨rs,c,rk⟩:=sP (P:=X.prog) (w:=X.w) jc
 obtain⟨z,hd,vs0,r0,dd⟩:=Bs I2.hok e
 cases r0
 refine⟨rs,c,dd,fun h' dd' hs=>⟨.ref s.heap.objs.size,_,?_,rfl,q2⟩⟩
 have hz:(nJ [] kvs).length<=sizeLine:=by
  have h1:=oI kvs []
  rw[dJ]at h1
  rw[lg];omega
 have he:∃q,h'.get? s.heap.objs.size=some q:=let ⟨q,_,_,hq,_⟩:=dd';⟨q,hq⟩
 exact mv I2 (by rw[e];exact True.intro) hs he (z7 hz hd (rk.merge .nil) dd')
structure M1(X:Cx)(o:Expr)(m:Str)(fI:Pos)(e:Expr)(c8:Pos):Prop where
 base:attributeBase o m X.env (eval o X.env)=eval o X.env
 few:((backTo c8 (starEach [e] X.env)).all (fun x=>!x.1)&&(backToKw c8 (keywordEach [] X.env)).all (fun x=>x.1.isSome)
  && decide (([e]:List Expr).length+([]:List Keyword).length+(if ([]:List Keyword).isEmpty then 0 else 1)<30))=true
 line:(fI.endLine==c8.line)=true
 trees:backTo c8 (starEach [e] X.env)=[(false,eval e X.env)]
structure M2(X:Cx)(o:Expr)(m:Str)(fI:Pos)(e f:Expr)(c8:Pos):Prop where
 base:attributeBase o m X.env (eval o X.env)=eval o X.env
 few:((backTo c8 (starEach [e,f] X.env)).all (fun x=>!x.1)&&(backToKw c8 (keywordEach [] X.env)).all (fun x=>x.1.isSome)
  && decide (([e,f]:List Expr).length+([]:List Keyword).length+(if ([]:List Keyword).isEmpty then 0 else 1)<30))=true
 line:(fI.endLine==c8.line)=true
 trees:backTo c8 (starEach [e,f] X.env)=[(false,eval e X.env),(false,eval f X.env)]
def Uw(H:Hp)(a:Addr):Prop:=(∃kvs,Rd H a (.dK kvs))\/∃kvs,Rd H a (.dT kvs)
theorem MS(I:bv X pins σ H s)(d:Uw H a) :
  s.TypeIs (.ref a) "dict"/\(∀b,Value.ref a=.ref b->∃ob,s.heap.get? b=some ob/\ob.dict=none)/\(a==sysModules)=false:=by
 rcases d with⟨kvs,e⟩|⟨kvs,e⟩
 ·obtain⟨_,hd,vs,_,dd⟩:=oH I.hok e
  refine⟨dd.typeIs,fun b q=>?_,hd⟩
  cases q
  obtain⟨ob,_,_,h1,h2,_⟩:=dd
  exact⟨ob,h1,h2.2.1⟩
 ·obtain⟨_,hd,xs,_,dd⟩:=yh I.hok e
  refine⟨dd.typeIs,fun b q=>?_,hd⟩
  cases q
  obtain⟨ob,_,_,h1,h2,_⟩:=dd
  exact⟨ob,h1,h2.2.1⟩
section
variable{d:V}{r:Value}{o:Option V}
end
def MT(td ty:TE):TE:=fun σ H Q=>td σ H fun x H1=>∃a,x=.ref a/\Uw H1 a/\ty σ H1 fun y H2=>∃kvs k v,H2 a=some (.dK kvs)/\y=kV k/\jU kvs k=some v/\Q v (d_ H2 a (.dK (mY kvs k)))
section
variable{o f:Expr}{td ty tx:TE}
theorem EH(ho:PE X o td)(he:PE X e ty)(m:M1 X o "pop" fI e c8):PE X (.Call (.Attribute o "pop" fI) [e] [] c8) (MT td ty):=by
 intro pins s σ H Q I h
 refine lh m.base m.few m.line PySem.F.plainAttrs_dict PySem.F.slot_dict_pop PySem.F.type_dict_pop (f6 (ho pins s σ H _ I h) fun u s1 ⟨x,H1,I1,rx,a,ex,d,q1⟩=>?_)
 subst ex
 obtain rfl:u=Value.ref a:=rx
 obtain⟨t1,t2,_⟩:=MS I1 d
 refine⟨t1,t2,?_⟩
 rw[m.trees]
 refine ga rfl (gP (eZ (f6 (he pins s1 σ H1 _ I1 q1) fun iv s2 ⟨y,H2,I2,ry,kvs,k,v,ea,ey,l,q2⟩=>iu ?_)))
 subst ey
 exact Qc I2 ea ry l (.inl rfl) fun w' s3 I3 kG=>⟨v,_,I3,kG,q2⟩
end
section
variable{kvs:List (fZ×V)}
end
section
end
section
end
section
variable{κ:Type}[DecidableEq κ]
theorem Da{p:κ×V}{r:List (κ×V)}{k:κ}(e:p.1=k):mY (p::r) k=mY r k:=by
 unfold mY
 rw[bZ,az (by simp[e])]
theorem Db{p:κ×V}{r:List (κ×V)}{k:κ}(e:¬ p.1=k):mY (p::r) k=p::mY r k:=by
 unfold mY
 rw[bZ,am (by simp[e])]
end
end L2
set_option maxHeartbeats 4000000
namespace L2
open PySem PySem.Spec PyProof.Rows
abbrev bG(X:Cx)(nm:List Str)(scope:Scope)(cl:List (Str×Addr))(C:Addr)(s0:Shared)(H0:Hp)(fp:List Addr):Cx:=
 { X with N:=nm,s₀:=s0,H₀:=H0,env:=compEnvC scope cl C X.env,outer:=X.stack,stack:=X.stack,ex:=fp,fn:=fun _=>false,pn:=[],xe:=fun _ _=>False }
def Ib(X:Cx)(kJ:List Expr)(t:TT):Prop:=
 ∀(pins:List (Addr×Obj)) (s:Shared) (σ:St) (H:Hp) (Q:Bool->Hp->Prop),bv X pins σ H s->t σ H Q ->
  wpAny (model X.prog X.w) X.A (forIn kJ true fun c r=>if r=true then do let ok <- isTrue c X.env (eval c X.env);pure (ForInStep.yield ok)else pure (ForInStep.yield r)) (TP X pins σ Q) X.xe s
def TU:TT:=fun _ H Q=>Q true H
theorem IT:Ib X [] TU:=fun _ _ _ H _ I h=>wpAny_tests_nil ⟨H,I,h⟩
theorem IU{t:TT}(hc:PT X c t):Ib X [c] t:=fun pins s σ H Q I h=>wpAny_tests_one (hc pins s σ H Q I h)
def oJ(cap:List (Option Nat))(σ:St):St:=cap.map fun o=>o.bind fun j=>(σ[j]?).join
def sQ(cap:List (Option Nat))(wi:TI)(g:TG)(tc:TT)(te:TE):TE:=fun σ H Q=>wi σ H fun J H1=>∃W:Nat->Nat->List V->Hp->Prop,(∃m,W 0 m [] H1)/\∀i m ys H2,W i m ys H2 ->
 (J.stop i H2/\ys.length<=sizeLine/\∀p,H2 p=none->Q (.ref p) (d_ H2 p (.lst ys))) \/
 (J.go i H2/\∀x H3,J.yld i H2 x H3->g x (oJ cap σ) H3 fun σ2 H4=>tc σ2 H4 fun b H5=>if b=true then te σ2 H5 fun y H6=>ys.length<sizeLine/\∃m',m'<m/\W (i+1) m' (ys++[y]) H6 else ∃m',m'<m/\W (i+1) m' ys H5)
theorem Un.cellK{fs ex:List Addr}(u:Un fs ex H H' h h'){c:Addr}{v:Option Value}(x:h.IsCell c v)(n:H c=none)(he:c∉ex):h'.IsCell c v:=by
 obtain⟨o,ho,hd⟩:=x
 obtain⟨sl,q⟩:=u.any ho n he
 exact⟨_,q,hd⟩
structure Bt(X:Cx)(scope:Scope)(cl:List (Str×Addr))(x:Str):Prop where
 vis:Pf X.env.scope x
 nl:X.env.scope.names.lookup x≠some .local
 cl:cl.lookup x=X.env.cells.lookup x
 kd:(relabel scope X.env).names.lookup x=some .cell\/(relabel scope X.env).names.lookup x=some .free
section
variable{g:TG}
theorem KI{LX:List (Addr×Obj)}{σ2:St}{H1:Hp}{s2:Shared}{C:Addr}
  (zF:∀(i j:Nat),cap[i]?=some (some j)->∃x,nm[i]?=some x/\X.N[j]?=some x/\Bt X scope cl x) (dk:cap.length=nm.length)
  (I2:bv X pins σ H1 s2) (U4:∀b∈fp,∀x c,X.env.cells.lookup x=some c->c≠b)
  (I:bv (bG X nm scope cl C s2 H1 fp) LX σ2 H s):bv (bG X nm scope cl C s2 H1 fp) LX (oJ cap σ) H s:=by
 refine⟨I.ok,I.os,I.bare,I.base,?_,I.cell,I.free,I.freeC,I.pin,I.hok,by show(oJ cap σ).length=nm.length;unfold oJ;rw[ai];exact dk⟩
 obtain⟨m,hn,_⟩:=I.loc
 refine⟨m,hn,fun i x v e1 e2 e3=>?_⟩
 unfold oJ at e2
 rw[ak]at e2
 cases hc:cap[i]? with
 |none=>rw[hc]at e2;cases e2
 |some oj=>
  cases oj with
  |none=>rw[hc]at e2;cases e2
  |some j=>
   rw[hc]at e2
   have e2':(σ[j]?).join=some v:=by simpa using e2
   have e2:σ[j]?=some (some v):=by
    cases hs:σ[j]? with
    |none=>rw[hs]at e2';cases e2'
    |some ov=>rw[hs]at e2';simp at e2';rw[e2']
   obtain⟨x',f1,f2,k⟩:=zF i j hc
   have hx:x'=x:=by
    have z:nm[i]?=some x:=e1
    rw[f1]at z;exact aU z
   subst hx
   obtain⟨m2,_,hl2⟩:=I2.loc
   obtain⟨u,r,l⟩:=hl2 j x' v f2 e2 k.vis
   refine⟨u,r,?_⟩
   rcases l with⟨kl,_⟩|⟨_,c,hcc,gk⟩
   ·exact absurd kl k.nl
   ·refine .inr ⟨k.kd,c,by rw[<- hcc];exact k.cl,?_⟩
    exact I.base.cellK gk (I2.freeC _ _ hcc) fun z=>U4 c z _ _ hcc rfl
theorem wg{prog:Program}{w:World}{A:Around}{E:Value->Shared->Prop}{l:Addr}{u:Value}{Q:Value->Shared->Prop}
  (e:s.heap.get? l=some { cls:=.type "list",data:=.seq bC.toArray n }) (hz:bC.length<sizeLine)
  (h:∀(h':Heap) (n' tk:Nat),h'.get? l=some { cls:=.type "list",data:=.seq (bC++[u]).toArray n' }->(∀b o,b≠l->s.heap.get? b=some o->h'.get? b=some o)->Q .none { s with heap:=h',toks:=tk }) :
  wpAny (model prog w) A (call (.builtin "list.append") [.ref l,u]) Q E s:=by
 refine mR F.slot_list_append ⟨_,e,rfl⟩ F.entry_list_append (F.args_list_append_2 _ _) (PySem.list_append l bC.toArray n u (by rw[aH];omega)) ⟨e,?_⟩
 have q:=PySem.IsL.update e (fun a=>a.push u)
 have q2:(s.heap.update l (Obj.mapSeq fun x=>x.push u)).get? l=some { cls:=.type "list",data:=.seq (bC++[u]).toArray (if ((bC.toArray.push u).size==bC.toArray.size)=true then n else n+1) }:=by
  rw[show(s.heap.update l (Obj.mapSeq fun x=>x.push u)).get? l=_ from q];simp
 exact h _ _ s.toks q2 fun b o hb ho=>(iw s.heap (Obj.mapSeq _) (Ne.symm hb)).trans ho
structure Bu(X:Cx)(pins:List (Addr×Obj))(H:Hp)(s:Shared)(C:Addr)(m:Str->Option Value):Prop where
 ns:s.heap.Ns C m
 fr:H C=none
 nl:C≠X.env.locals
 nf:C∉X.fs
 hi:X.s₀.heap.objs.size<=C
 nc:∀x c,X.env.cells.lookup x=some c->c≠C
 np:∀p∈X.pn++pins,p.1≠C
theorem Bu.off{C:Addr}{m:Str->Option Value}(B:Bu X pins H s C m)(I:bv X pins σ H s)(hs:Heap.SameBut C s.heap h'):bv X pins σ H { s with heap:=h' }:=I.turned (t':=s.toks) (it:=C) (fun b o hb e=>hs.extBut b o hb e) B.fr B.nl (.inr B.hi) B.nc B.np
theorem vc{use:Option (Value->Sem Unit)}{Qk:VK}{Qv:Value->Shared->Prop}(gA:X.calm=true)(zK:closureFor scope X.env=pure cl)(kK:∀x c,cl.lookup x=some c->X.env.cells.lookup x=some c)
  (gj:scope.kind=.function) (ut:∀x∈scope.names,x.2=.local->scope.names.lookup x.1=some .local) (gk:∀y∈scope.names,y.2≠.cell)
  (HI:∀x,((relabel scope X.env).names.lookup x=some .cell\/(relabel scope X.env).names.lookup x=some .free)->∃c,cl.lookup x=some c)
  (zF:∀(i j:Nat),cap[i]?=some (some j)->∃x,nm[i]?=some x/\X.N[j]?=some x/\Bt X scope cl x) (dk:cap.length=nm.length)
  (hi:PI X tg iter wi) (hg:∀C s0 H0 fp,PG (bG X nm scope cl C s0 H0 fp) tg g) (ht:∀C s0 H0 fp,Ib (bG X nm scope cl C s0 H0 fp) kJ tc)
  (he:∀C s0 H0 fp,PE (bG X nm scope cl C s0 H0 fp) mM te) (hs:∀x,foldedSetIterable iter X.env x=pure x)
  (I:bv X pins σ H s) (h:sQ cap wi g tc te σ H Qk) (fin:∀(s4:Shared) (C D:Addr) (m4:Str->Option Value) (Hn:Hp),bv X pins σ Hn s4->Bu X pins Hn s4 C m4->Qk (.ref D) Hn->compPost (model X.prog X.w) X.A X.xe use Qv (.ref D) C (.ok .next) s4) :
  wpAny (model X.prog X.w) X.A (comprehension (.ListComp mM [⟨tg,iter,kJ,0⟩] scope pos) scope X.env (firstIterPos [⟨tg,iter,kJ,0⟩] pos) (newList []) (firstAsync [⟨tg,iter,kJ,0⟩]) (firstIter [⟨tg,iter,kJ,0⟩] X.env) use) Qv X.xe s:=by
 refine wpAny_comprehension_free (use:=use) rfl hs zK gj ut (f6 (hi pins s σ H _ I h) fun v s1 h1=>f6 h1 fun Ui s2 h2=>?_)
 obtain⟨it,fp,tn,J,H1,e,I2,T,cM,f2,W,⟨m0,w0⟩,turn⟩:=h2
 subst e
 have hfpn:∀b∈fp,b<s2.heap.objs.size:=fun b hb=>let ⟨o,ho,_⟩:=T.obj _ _ cM b hb;aI ho
 have hfpc:∀b∈fp,∀x c,X.env.cells.lookup x=some c->c≠b:=fun b hb=>(f2 b hb).2.2.2.2.1
 refine ej (wpAny_newFunctionEnv gk (by intro y hy;simp at hy) (fun h₁ hns₁ hsb₁=>?_) gj)
 dsimp only at hns₁ hsb₁ ⊢
 generalize hH2:s2.heap.push { cls:=.type "list",dict:=none,data:=.seq ([]:List Value).toArray }=G2 at hns₁ hsb₁ ⊢
 have hC:G2.objs.size=s2.heap.objs.size+1:=by rw[<- hH2,kr]
 have hDC:s2.heap.objs.size≠G2.objs.size:=by rw[hC];exact bD (gZ _)
 have old:∀b o,s2.heap.get? b=some o->h₁.get? b=some o:=fun b o e=>hsb₁.extBut b o (by rw[hC];exact bD (gF (aI e))) (ao _ (hH2▸ao _ e))
 have hacc:h₁.get? s2.heap.objs.size=some { cls:=.type "list",data:=.seq ([]:List Value).toArray }:=hsb₁.extBut _ _ hDC (ao _ (hH2▸aT _ rfl))
 have okB:(bG X nm scope cl G2.objs.size s2 H1 fp).Ok:=by
  refine⟨I2.ok.mod,gj,I2.ok.glob,I2.ok.blt,by show s2.heap.objs.size<=G2.objs.size;omega,fun x y c h1 h2=>I2.ok.inj x y c (kK _ _ h1) (kK _ _ h2),fun x hx=>HI x hx,fun x c h0=>(by cases h0),fun hc=>I2.ok.hd gA,I2.ok.frames,.inl rfl,?_,?_,?_,?_,?_,?_,?_⟩
  ·intro b hb
   exact⟨bD (a6 (hfpn b hb) (by show _<=G2.objs.size;omega)),fun x c hx=>hfpc b hb x c (kK _ _ hx)⟩
  ·exact fun b o hb=>I2.bs b o hb
  ·exact a_ I2.ok.bsz I2.sz
  ·intro b o hb z
   rcases(f2 b z).2.2.2.1 with q|q
   ·exact I2.ok.noex b o hb q
   ·exact absurd (aI (I2.ok.bs b o hb).1) (Nat.not_lt.mpr q)
  ·intro b hb z
   rcases aK.mp (I2.stkSub b z)with q|q
   ·exact(f2 b hb).2.1 q
   ·exact(f2 b hb).2.2.1 q
  ·exact I2.stack
  ·exact I2.stkFree
 have I4:bv (bG X nm scope cl G2.objs.size s2 H1 fp) [] (oJ cap σ) H1 { s2 with heap:=h₁,toks:=s2.toks+([]:List (Str×Value)).length }:=by
  refine KI zF dk I2 hfpc (σ2:=List.replicate nm.length none) ⟨okB,rfl,I2.bare,Un.kept old,⟨_,hns₁,fun i x v _ e2=>?_⟩,fun x c hx=>?_,?_,fun x c hx=>I2.freeC x c (kK _ _ hx),fun p hp=>absurd hp (by simp),I2.hok.kept old,by simp⟩
  ·rw[ib]at e2;split at e2<;>cases e2
  ·obtain⟨v,hv⟩:=I2.cell x c (kK _ _ hx)
   exact⟨v,hv.keeps old⟩
  ·exact I2.hok.fresh (by show _<=G2.objs.size;omega)
 have hsz0:∀{Hx:Hp} {sx:Shared} {px:List (Addr×Obj)} {σx:St},bv (bG X nm scope cl G2.objs.size s2 H1 fp) px σx Hx sx->Hx s2.heap.objs.size=none->∀{oa:Obj},sx.heap.get? s2.heap.objs.size=some oa->(∀v,oa.data≠.cell v) ->
   bv (bG X nm scope cl G2.objs.size s2 H1 fp) [(s2.heap.objs.size,oa)] σx Hx sx:=fun{Hx sx px σx} Ix hn {oa} ho hd=>Ix.pins_of fun p hp=>by
  have e:p=(s2.heap.objs.size,oa):=by simpa using hp
  subst e
  exact⟨ho,hn,hDC,fun z=>by
   obtain⟨_,o,q,_⟩:=I2.stack.mem z
   exact absurd (aI q) (bA _),hd⟩
 have hfpB:∀{Hx:Hp} {oa:Obj},(∀b∈fp,Hx b=none)->∀b∈fp,pQ (bG X nm scope cl G2.objs.size s2 H1 fp) [(s2.heap.objs.size,oa)] Hx b:=fun{Hx oa} hn b hb=>
  ⟨hn b hb,(okB.exf b hb).1,okB.exfs b hb,.inl hb,(okB.exf b hb).2,fun p hp=>by
   have e:p=(s2.heap.objs.size,oa):=by simpa using hp
   subst e
   exact qz (hfpn b hb)⟩
 have hcalmB:(bG X nm scope cl G2.objs.size s2 H1 fp).calm=true:=gA
 have loop:∀sx:Shared,sx={ s2 with heap:=h₁,toks:=s2.toks+([]:List (Str×Value)).length } ->
   codeAny (model X.prog X.w) X.A (.compLoop (.ListComp mM [⟨tg,iter,kJ,0⟩] scope pos) 0 (.ref it) (.ref s2.heap.objs.size) (compEnvC scope cl G2.objs.size X.env))
    (compPost (model X.prog X.w) X.A X.xe use Qv (.ref s2.heap.objs.size) G2.objs.size) sx:=by
  rintro sx rfl
  refine codeAny_loop rfl (fun n s'=>∃i ys H',bv (bG X nm scope cl G2.objs.size s2 H1 fp) [] (oJ cap σ) H' s'/\tn i s'.heap/\(∀b∈fp,H' b=none)/\H' s2.heap.objs.size=none /\
   (∃bC k,cA ys bC/\s'.heap.get? s2.heap.objs.size=some { cls:=.type "list",data:=.seq bC.toArray k })/\W i n ys H') ?_ m0
   ⟨0,[],H1,I4,T.keep _ _ _ cM (fun b _ o e=>old b o e),fun b hb=>(f2 b hb).1,I2.fresh,⟨[],0,.nil,hacc⟩,w0⟩
  rintro n s3 ⟨i,ys,H3,I3,i5,fr3,na3,⟨bC,ka,rv,ea⟩,w3⟩
  show wpAny _ X.A ((compTurn (.ListComp mM [⟨tg,iter,kJ,0⟩] scope pos) 0 (.ref it) (.ref s2.heap.objs.size) (compEnvC scope cl G2.objs.size X.env)).onRaise (fun x=>do noteFrame x (compEnvC scope cl G2.objs.size X.env);theTreesLotGoes x)) _ _ s3
  refine wpAny_noted ?_
  rw[compTurn_list]
  refine ah (lE ?_)
  have I3p:=hsz0 I3 na3 ea (fun v z=>by cases z)
  rcases turn i n ys H3 w3 with⟨stop,hz,qn⟩|⟨go,step⟩
  ·refine ah (dO (T.done (bG X nm scope cl G2.objs.size s2 H1 fp) rfl rfl rfl hcalmB i _ s3 _ H3 (fun _ _=>False) I3p (hfpB fr3) i5 stop) (fun r s4 hr=>?_) fun _ _ z=>z.elim)
   obtain⟨hr,I4'⟩:=hr
   subst hr
   refine ax ?_
   obtain⟨m4,hn4,_⟩:=id I4'.loc
   have pa:=I4'.pin (s2.heap.objs.size,{ cls:=.type "list",data:=.seq bC.toArray ka }) (by simp)
   have ne:∀b o,s2.heap.get? b=some o->b≠s2.heap.objs.size/\b≠G2.objs.size:=fun b o e=>⟨bD (aI e),bD (by rw[hC];exact gF (aI e))⟩
   have I5:bv X pins σ (d_ H3 s2.heap.objs.size (.lst ys)) s4:=by
    refine I2.call' (ch:=fp) I4'.os ⟨fun b o e n hb hx=>?_,fun b o e n hb hx=>?_,fun b o e n hx=>?_,fun b o e hx=>?_,fun b xs e=>?_,fun b o u e=>?_,fun b ps e=>?_⟩ ?_ I4'.bare fun b hb=>?_
    ·exact I4'.base.keep b o e n hb hx
    ·exact I4'.base.slot b o e n hb hx
    ·rw[cu (ne b o e).1];exact I4'.base.free b o e n hx
    ·exact I4'.base.there b o e hx
    ·have q:=I4'.base.tups b xs e
     rw[cu (eU q na3)];exact q
    ·have q:=I4'.base.frzs b o u e
     rw[cu (eU q na3)];exact q
    ·obtain⟨mr,q⟩:=I4'.base.tbls b ps e
     exact⟨mr,by rw[cu (eU q na3)];exact q⟩
    ·intro b o e
     by_cases hb:b=s2.heap.objs.size
     ·subst hb
      rw[dD]at e;cases e
      exact⟨hz,bC,ka,rv,pa.1⟩
     ·rw[cu hb]at e
      exact(I4'.hok b o e).stay (fun c u hc q=>q) (fun c q=>by rw[cu (eU q na3)];exact q) fun c xs q=>by rw[cu (eU q na3)];exact q
    ·obtain⟨_,g1,_,g3,g4,g5⟩:=f2 b hb
     exact⟨g3,g1,g4,g5⟩
   have lC:s2.heap.objs.size<=G2.objs.size:=by rw[hC];exact ie _
   exact fin s4 G2.objs.size _ m4 _ I5 ⟨hn4,by rw[cu (Ne.symm hDC)];exact I4'.free,qz (a6 I2.lt lC),I2.nofs lC,a_ I2.sz lC,fun x c hx z=>(by
    obtain⟨v,o,ho,_⟩:=I2.cell x c hx
    exact absurd (aI ho) (by rw[z];exact Nat.not_lt.mpr lC)),fun p hp z=>(by
    have:=(I2.pin p hp).1
    exact absurd (aI this) (by rw[z];exact Nat.not_lt.mpr lC))⟩ (qn _ na3)
  ·refine ah (dO (T.item (bG X nm scope cl G2.objs.size s2 H1 fp) rfl rfl rfl hcalmB i _ s3 _ H3 (fun _ _=>False) I3p (hfpB fr3) i5 go) (fun r s4 hr=>?_) fun _ _ z=>z.elim)
   obtain⟨u,hr,h4⟩:=hr
   subst hr
   dsimp only
   refine ah (dO h4 (fun _ s5 h5=>?_) fun _ _ z=>z.elim)
   obtain⟨x,H5,I5,r5,y5,st5,fr5⟩:=h5
   have I5':=I5.pinned (hfpB fr5) (T.obj _ _ st5)
   refine ah (dO (hg _ _ _ _ _ s5 _ H5 x u _ I5' r5 (step x H5 y5)) (fun _ s6 h6=>?_) fun _ _ z=>z.elim)
   obtain⟨σ6,H6,I6,q6⟩:=h6
   refine ah (dO (ht _ _ _ _ _ s6 σ6 H6 _ I6 q6) (fun ok s7 h7=>?_) fun _ _ z=>z.elim)
   obtain⟨H7,I7,q7⟩:=h7
   have back:∀{H8:Hp} {s8:Shared} {Tl:List V} {its':List Value} {k':Nat},bv (bG X nm scope cl G2.objs.size s2 H1 fp) [] σ6 H8 s8->(∀b∈fp,∀o,s5.heap.get? b=some o->s8.heap.get? b=some o)->(∀b∈fp,H8 b=none)->H8 s2.heap.objs.size=none ->
     cA Tl its'->s8.heap.get? s2.heap.objs.size=some { cls:=.type "list",data:=.seq its'.toArray k' }->(∃m',m'<n/\W (i+1) m' Tl H8) ->
     ∃m,m<n/\∃i ys H',bv (bG X nm scope cl G2.objs.size s2 H1 fp) [] (oJ cap σ) H' s8/\tn i s8.heap/\(∀b∈fp,H' b=none)/\H' s2.heap.objs.size=none /\
      (∃bC k,cA ys bC/\s8.heap.get? s2.heap.objs.size=some { cls:=.type "list",data:=.seq bC.toArray k })/\W i m ys H':=
    fun{H8 s8 Tl its' k'} I8 kf f8 n8 rv8 e8 ⟨m',hm,w8⟩=>⟨m',hm,i+1,Tl,H8,KI zF dk I2 hfpc I8,T.keep _ _ _ st5 kf,f8,n8,⟨its',k',rv8,e8⟩,w8⟩
   cases ok with
   |false=>
    refine ax ⟨rfl,?_⟩
    have q7':∃m',m'<n/\W (i+1) m' ys H7:=by simpa using q7
    have pa:=I7.pin (s2.heap.objs.size,{ cls:=.type "list",data:=.seq bC.toArray ka }) (by simp)
    refine back (I7.pins_of fun p hp=>absurd hp (by simp)) (fun b hb o e=>?_) (fun b hb=>?_) pa.2.1 rv pa.1 q7'
    ·exact(I7.pin (b,o) (aW _ (aW _ (iM hb e)))).1
    ·obtain⟨o,e,d⟩:=T.obj _ _ st5 b hb
     exact(I7.pin (b,o) (aW _ (aW _ (iM hb e)))).2.1
   |true=>
    rw[am rfl]at q7
    refine ah (ah (dO (he _ _ _ _ _ s7 σ6 H7 _ I7 q7) (fun xv s8 h8=>?_) fun _ _ z=>z.elim))
    obtain⟨y,H8,I8,r8,hzy,q8⟩:=h8
    have pa:=I8.pin (s2.heap.objs.size,{ cls:=.type "list",data:=.seq bC.toArray ka }) (by simp)
    refine ah (wg pa.1 (by rw[<- rv.length];exact hzy) fun h' k' tk e9 sb=>?_)
    refine ax (ax ⟨rfl,?_⟩)
    have I9:bv (bG X nm scope cl G2.objs.size s2 H1 fp) [] σ6 H8 { s8 with heap:=h',toks:=tk }:=
     (bv.pins_of (pins':=[]) I8 fun p hp=>absurd hp (by simp)).turned (it:=s2.heap.objs.size) (fun b o hb e=>sb b o hb e) pa.2.1 hDC (.inr (au _)) (fun x c hx z=>by
      obtain⟨v,hv⟩:=I2.cell x c (kK _ _ hx)
      exact absurd hv.lt (by rw[z];exact bA _)) (fun p hp=>absurd hp (by simp))
    refine back I9 (fun b hb o e=>?_) (fun b hb=>?_) pa.2.1 (rv.append (.cons r8 .nil)) e9 q8
    ·exact sb b o (bD (hfpn b hb)) (I8.pin (b,o) (aW _ (aW _ (iM hb e)))).1
    ·obtain⟨o,e,d⟩:=T.obj _ _ st5 b hb
     exact(I8.pin (b,o) (aW _ (aW _ (iM hb e)))).2.1
 exact codeAny_compStart_list (loop _ rfl) (T.self _ _ _ _ _ (T.keep _ _ _ cM fun b _ o e=>old b o e) (loop _ rfl))
theorem Bv(gA:X.calm=true)(zK:closureFor scope X.env=pure cl)(kK:∀x c,cl.lookup x=some c->X.env.cells.lookup x=some c)
  (gj:scope.kind=.function) (ut:∀x∈scope.names,x.2=.local->scope.names.lookup x.1=some .local) (gk:∀y∈scope.names,y.2≠.cell)
  (HI:∀x,((relabel scope X.env).names.lookup x=some .cell\/(relabel scope X.env).names.lookup x=some .free)->∃c,cl.lookup x=some c)
  (zF:∀(i j:Nat),cap[i]?=some (some j)->∃x,nm[i]?=some x/\X.N[j]?=some x/\Bt X scope cl x) (dk:cap.length=nm.length)
  (hi:PI X tg iter wi) (hg:∀C s0 H0 fp,PG (bG X nm scope cl C s0 H0 fp) tg g) (ht:∀C s0 H0 fp,Ib (bG X nm scope cl C s0 H0 fp) kJ tc)
  (he:∀C s0 H0 fp,PE (bG X nm scope cl C s0 H0 fp) mM te) (hs:∀x,foldedSetIterable iter X.env x=pure x:=by intro _;rfl) :
  PE X (.ListComp mM [⟨tg,iter,kJ,0⟩] scope pos) (sQ cap wi g tc te):=by
 intro pins s σ H Q I h
 rw[eval_ListComp]
 exact vc gA zK kK gj ut gk HI zF dk hi hg ht he hs I h fun s4 C D m4 Hn I4 B q=>⟨m4,B.ns,fun h' hs'=>⟨.ref D,Hn,B.off I4 hs',rfl,q⟩⟩
end
def tx(l:List Nat):Str:=⟨l.toArray⟩
theorem MU(l:List Nat):(tx l).cps.toList=l:=rfl
theorem jf(l:List Nat):(tx l).length=l.length:=by show l.toArray.size=_;simp
theorem z8(a b:List Nat):tx a++tx b=tx (a++b):=by
 show(⟨a.toArray++b.toArray⟩:Str)=⟨(a++b).toArray⟩
 simp
theorem EI{a b:List Nat}:tx a=tx b↔a=b:=⟨fun h=>by have:=dq (fun z:Str=>z.cps.toList) h;exact this,fun h=>by rw[h]⟩
def S7(mL:List V):It:=⟨fun i _=>i<mL.length,fun i H x H'=>H'=H/\mL[i]?=some x,fun i _=>mL.length<=i⟩
theorem sR{w:World}{mL:List V}{Pr:Nat->Value->Prop}{S:Nat->Heap->Prop}{ty:String}
  (W:∀A:Around,A.handled=none->Walks P w A it [it] [it] mL.length Pr S) (hv:∀i v,i<mL.length->Pr i v->∃x,mL[i]?=some x/\bN x v)
  (HK:∀i h,S i h->∃o vs,h.get? it=some o/\o.cls=.type ty/\o.data=.fields vs)
  (D7:["enumerate","zip","dict_itemiterator","dict_reverseitemiterator","odict_iterator","itertools.zip_longest","itertools.pairwise"].contains ty=false)
  (zN:∀(A:Around) (i:Nat) (s:Shared) (Q:Value->Shared->Prop) (E:Value->Shared->Prop),S i s.heap->Q (.ref it) s->wpAny (model P w) A (pyIter (.ref it)) Q E s) :
  CV P w K tg (S7 mL) [it] it (fun i h=>i<=mL.length/\S i h) where
 mem:=by simp
 obj:=fun i h st b hb=>by
  have e:b=it:=by simpa using hb
  subst e
  obtain⟨o,vs,e,c,d⟩:=HK i h st.2
  exact⟨o,e,fun v z=>by rw[d]at z;cases z⟩
 keep:=fun i h h' st k=>⟨st.1,(W { depth:=0,handled:=none,frames:=none } rfl).frame i h h' st.2 k⟩
 item:=by
  intro X hP hw hK hc i pins s σ H E I hf st hg
  subst hP hw hK
  obtain⟨f0,f1,f2,f3,f4,f5⟩:=hf it (by simp)
  refine(W X.A (I.ok.hd hc)).item i s _ _ hg st.2 fun v h' tk hp bE kk=>?_
  have I1:bv X pins σ H { s with heap:=h',toks:=tk }:=I.turned (fun b o hb e=>kk b o (by simpa using hb) e) f0 f1 f3 f4 f5
  obtain⟨x,hx,rx⟩:=hv i v hg hp
  obtain⟨o,vs,e,c,d⟩:=HK _ _ bE
  exact⟨v,rfl,Bm (s:={ s with heap:=h',toks:=tk }) e c d D7 ⟨x,H,I1,rx,⟨rfl,hx⟩,⟨hg,bE⟩,fun b hb=>(hf b hb).1⟩⟩
 done:=by
  intro X hP hw hK hc i pins s σ H E I hf st hg
  subst hP hw hK
  obtain⟨f0,f1,f2,f3,f4,f5⟩:=hf it (by simp)
  have e:i=mL.length:=gq st.1 hg
  refine(W X.A (I.ok.hd hc)).done s _ _ (e▸st.2) fun h' tk kk=>⟨rfl,I.turned (fun b o hb e=>kk b o (by simpa using hb) e) f0 f1 f3 f4 f5⟩
 self:=fun A i s Q E st h=>zN A i s Q E st.2 h
section
def pd(l:List Nat):List V:=l.map fun c=>.str (tx [c])
def TV(tl:TE):TI:=fun σ H R=>tl σ H fun x H1=>∃l,x=.str (tx l)/\R (S7 (pd l)) H1
theorem Dd(i:Nat)(v:Value)(hi:i<(pd l).length)(h:SignAt (tx l) i v):∃x,(pd l)[i]?=some x/\bN x v:=by
 obtain⟨c,u,hc,e⟩:=h
 refine⟨.str (tx [c]),?_,u,e⟩
 unfold pd
 rw[ak]
 have:l[i]?=some c:=by simpa[tx]using hc
 rw[this];rfl
theorem MV{l:Expr}{tl:TE}(hl:PE X l tl):PI X tg l (TV tl):=by
 intro pins s σ H R I h
 refine f6 (hl pins s σ H _ I h) fun v s1 ⟨x,H1,I1,r1,q1⟩=>?_
 obtain⟨l,e,q⟩:=q1
 subst e
 obtain⟨t,rfl⟩:=r1
 have hn:(tx l).cps.size=(pd l).length:=by unfold pd;simp[tx]
 have fin:∀(ob:Obj) (S:Nat->Heap->Prop) (ty:String),(∀A:Around,A.handled=none->Walks X.prog X.w A s1.heap.objs.size [s1.heap.objs.size] [s1.heap.objs.size] (tx l).cps.size (SignAt (tx l)) S)->S 0 (s1.heap.push ob) ->
   (∀i h,S i h->∃o vs,h.get? s1.heap.objs.size=some o/\o.cls=.type ty/\o.data=.fields vs) ->
   ["enumerate","zip","dict_itemiterator","dict_reverseitemiterator","odict_iterator","itertools.zip_longest","itertools.pairwise"].contains ty=false ->
   (∀(A:Around) (i:Nat) (s:Shared) (Q:Value->Shared->Prop) (E:Value->Shared->Prop),S i s.heap->Q (.ref s1.heap.objs.size) s->wpAny (model X.prog X.w) A (pyIter (.ref s1.heap.objs.size)) Q E s) ->
   TB X pins σ tg R (.ref s1.heap.objs.size) { s1 with heap:=s1.heap.push ob }:=fun ob S ty W h0 HK D7 zN=>by
  rw[hn]at W
  refine⟨s1.heap.objs.size,[s1.heap.objs.size],_,_,H1,rfl,I1.kept (t':=s1.toks) fun b o e=>ao _ e,sR W (fun i v hi hp=>Dd i v hi hp) HK D7 zN,⟨cG _,h0⟩,fun b hb=>?_,q⟩
  have e:b=s1.heap.objs.size:=by simpa using hb
  subst e
  exact I1.fpOk (au _) I1.fresh
 cases ha:(tx l).cps.all (· < 128)
 ·exact wpAny_pyIter_wide ha (fin _ _ _ (fun A hA=>Walks.strWide hA _ (tx l) t) ⟨_,aT _ rfl,rfl,rfl⟩ (fun i h st=>by obtain⟨o,a,b,c⟩:=st;exact⟨o,_,a,b,c⟩) (by decide) fun A i s Q E st h=>wpAny_pyIter_striter_wide st h)
 ·exact wpAny_pyIter_ascii ha (fin _ _ _ (fun A hA=>Walks.strAscii hA _ (tx l) t) ⟨_,aT _ rfl,rfl,rfl⟩ (fun i h st=>by obtain⟨o,a,b,c⟩:=st;exact⟨o,_,a,b,c⟩) (by decide) fun A i s Q E st h=>wpAny_pyIter_striter_ascii st h)
def De(l:List Nat)(lo hi:Option Int):List Nat:=(l.drop (HT.sIx l.length 0 lo)).take (HT.sIx l.length l.length hi-HT.sIx l.length 0 lo)
theorem yl(l:List Nat)(lo hi:Option Int):(De l lo hi).length<=l.length:=by unfold De;rw[a7,dP];omega
theorem z9(l:List Nat)(i k:Nat):((List.range k).map fun(m:Nat)=>i+m).filterMap (fun j=>l[j]?)=(l.drop i).take k:=by
 induction k generalizing i with
 |zero=>simp
 |succ k ih=>
  rw[gb,aF,aS]
  have e:((fun m=>i+m)∘Nat.succ)=fun m=>(i+1)+m:=by funext m;simp[Function.comp];omega
  rw[e]
  by_cases h:i<l.length
  ·rw[fO]
   simp only[iz,ae h]
   rw[ih (i+1),fB h,List.take_succ_cons]
  ·rw[fO]
   have h':l.length<=i:=by omega
   simp only[iz,gw h']
   rw[ih (i+1),mS h',mS (by omega)]
   simp
theorem KJ(v:Int)(n d:Nat):(if (1:Int)>0 then max 0 (min (if v<0 then v+(n:Int)else v) (n:Int))else max (-1) (min (if v<0 then v+(n:Int)else v) ((n:Int)-1)))=((HT.sIx n d (some v):Nat):Int):=by
 rw[am (by omega)]
 show _=(((if v<0 then(v+(n:Int)).toNat else min v.toNat n):Nat):Int)
 by_cases hv:v<0
 ·simp only[am hv];omega
 ·simp only[az hv];omega
theorem MW(lo hi:Option Int)(n:Nat):Builtin.Str.strSliceIndices lo hi 1 n=(List.range (HT.sIx n n hi-HT.sIx n 0 lo)).map fun(m:Nat)=>HT.sIx n 0 lo+m:=by
 have key:∀a b:Nat,sliceRange (a:Int) (b:Int) 1=(List.range (b-a)).map fun(m:Nat)=>a+m:=fun a b=>by
  unfold sliceRange
  have e:(if (1:Int)>0 then(if (a:Int)<(b:Int)then((b:Int)-a+1-1)/1 else 0)else(if (a:Int)>b then((a:Int)-b-1-1)/(-1)else 0)).toNat=b-a:=by
   rw[am (by omega)]
   by_cases h:(a:Int)<b
   ·rw[am h];omega
   ·rw[az h];omega
  dsimp only
  rw[e]
  refine bf fun k _=>?_
  omega
 unfold Builtin.Str.strSliceIndices
 rw[<- key]
 dsimp only
 congr 1
 ·cases lo with
  |none=>rfl
  |some v=>exact KJ v n 0
 ·cases hi with
  |none=>rfl
  |some v=>exact KJ v n n
theorem EJ(l:List Nat)(lo hi:Option Int):Txt.slice (tx l) lo hi=tx (De l lo hi):=by
 unfold Txt.slice
 rw[MW,jf]
 split
 ·rename_i h
  simp only[dQ,oX,cz,ai,b9]at h
  unfold De
  have h1:=HT.sIx_le l.length l.length (au _) hi
  have h2:=HT.sIx_le l.length 0 (cG _) lo
  by_cases hz:l.length=0
  ·have:l=[]:=List.eq_nil_of_length_eq_zero hz
   subst this;simp
  ·have e0:HT.sIx l.length 0 lo=0:=by omega
   rw[e0,List.drop_zero,cQ (by omega)]
 ·unfold De tx
  have:∀j:Nat,(l.toArray)[j]?=l[j]?:=fun j=>by simp
  simp only[this]
  rw[z9]
def TW:V->Option Int->Option Int->Hp->VK->Prop:=fun x lo hi H Q=>∃l,x=.str (tx l)/\l.length<=sizeLine/\Q (.str (tx (De l lo hi))) H
theorem Bw{o:Option Int}(p:IsPart v o):∃q:Option (Int×Tok),v=partValue q/\q.map (·.1)=o:=by
 cases p with
 |none=>exact⟨none,rfl,rfl⟩
 |int i t=>exact⟨some (i,t),rfl,rfl⟩
theorem MX:P6 X TW:=by
 intro pins s σ H x v vl vu lo hi sl Q I rx hs pl pu h
 obtain⟨l,e,hz,q⟩:=h
 subst e
 obtain⟨t,rfl⟩:=rx
 obtain⟨pl',rfl,rfl⟩:=Bw pl
 obtain⟨pu',rfl,rfl⟩:=Bw pu
 refine⟨"str",_,F.slot_str_getitem.lookup,typeIs_str _ _ _,?_⟩
 refine wpAny_getItem_str_slice (l:=pl') (u:=pu') (st:=none) hs rfl (post_val_or_str ?_)
 have e:=EJ l (pl'.map (·.1)) (pu'.map (·.1))
 unfold Txt.slice at e
 show(if ((1:Int)==1&&(Builtin.Str.strSliceIndices (pl'.map (·.1)) (pu'.map (·.1)) 1 (tx l).length).length==(tx l).length)=true then tx l else⟨((Builtin.Str.strSliceIndices (pl'.map (·.1)) (pu'.map (·.1)) 1 (tx l).length).filterMap ((tx l).cps[·]?)).toArray⟩:Str).length<=sizeLine /\
  ∀t' k,EP X pins σ Q (.str (if ((1:Int)==1&&(Builtin.Str.strSliceIndices (pl'.map (·.1)) (pu'.map (·.1)) 1 (tx l).length).length==(tx l).length)=true then tx l else⟨((Builtin.Str.strSliceIndices (pl'.map (·.1)) (pu'.map (·.1)) 1 (tx l).length).filterMap ((tx l).cps[·]?)).toArray⟩:Str) t') { s with toks:=k }
 rw[e,jf]
 exact⟨a_ (yl l _ _) hz,fun t' k=>⟨.str _,H,I.tok k,⟨t',rfl⟩,q⟩⟩
theorem MY(c:Nat)(l:List Nat):(!(Builtin.Str.occurrences (tx l) (tx [c]) 0 (tx l).length 1).isEmpty)=decide (c∈l):=StrLaws.found_one (tx l) c
def TX(A8:Bool):R2:=fun x y H Q=>∃c l,x=.str (tx [c])/\y=.str (tx l)/\Q (.bl (if A8 then !decide (c∈l)else decide (c∈l))) H
theorem wj:n6 X (compareOp .NotIn) (TX true):=by
 intro pins s σ H x y v u Q I rx ry h
 obtain⟨c,l,rfl,rfl,q⟩:=h
 exact v7 pins s σ H _ _ v u Q I rx ry ⟨_,_,rfl,rfl,by rw[MY];exact q⟩
theorem pe:∀{ys:List (List Nat)} {bC:List Value},cA (ys.map fun l=>V.str (tx l)) bC->StrsAre bC (ys.map tx)
 |[],_,r=>by cases r;exact .nil
 |y::ys,_,r=>by
  cases r with
  |cons r rr=>
   obtain⟨t,rfl⟩:=r
   exact .cons _ _ (pe rr)
theorem pf:∀{bC:List Value} {ss:List Str},StrsAre bC ss->cA (ss.map fun z=>V.str z) bC
 |_,_,.nil=>.nil
 |_,_,.cons y t r=>.cons ⟨t,rfl⟩ (pf r)
def oK(sep:List Nat):List (List Nat)->List Nat
 |[]=>[]
 |[x]=>x
 |x::y::r=>x++sep++oK sep (y::r)
theorem vd:∀ys:List (List Nat),oK [] ys=ys.flatten
 |[]=>rfl
 |[x]=>by simp[oK]
 |x::y::r=>by rw[oK,vd (y::r)];simp
theorem IV(sep:List Nat):∀ys:List (List Nat),Txt.join (tx sep) (ys.map tx)=tx (oK sep ys):=fun ys=>by
 show Builtin.Str.glued (tx sep) (ys.map tx)=_
 rw[StrLaws.glued_eq_join]
 induction ys with
 |nil=>rfl
 |cons x r ih=>
  cases r with
  |nil=>rfl
  |cons y r=>
   show tx x++tx sep++Str.join (tx sep) ((y::r).map tx)=tx (x++sep++oK sep (y::r))
   rw[ih,z8,z8]
def Qh(K:Frag):V->List V->Hp->VK->Prop:=fun x vs H Q=>∃(sep:List Nat) (a:Addr) (ys:List (List Nat)),x=.str (tx sep)/\vs=[.ref a]/\rO K H a (ys.map fun l=>V.str (tx l))/\(ys.map List.length).sum+ys.length*sep.length<=16777216/\Q (.str (tx (oK sep ys))) H
theorem IW:Ia X "str.join" (Qh X.K):=by
 intro pins s σ H x vs v us Q I rx rv h
 obtain⟨sep,a,ys,rfl,rfl,hS,hz,q⟩:=h
 obtain⟨t,rfl⟩:=rx
 obtain⟨u,rfl,ru⟩:=rv.one
 cases ru
 obtain⟨bC,r,p,_⟩:=I.list hS
 refine join_list p.isList (pe (by simpa using r)) ?_ fun t' k=>?_
 ·rw[aS,jf,ai]
  have e:((fun z:Str=>z.length)∘tx)=List.length:=by funext l;exact jf l
  rw[e];exact hz
 ·rw[IV]
  exact⟨.str _,H,I.tok k,⟨t',rfl⟩,q⟩
end
inductive D where
 |non|bl (b:Bool)|int (i:Int)|str (l:List Nat)|tnil|tcons (d r:D)
 deriving DecidableEq
structure dB(K:Frag)(H H':Hp):Prop where
 t:∀p xs,fq K H p xs->fq K H' p xs
 z:∀b o u,H b=some (.frz o u)->H' b=some (.frz o u)
instance {K:Frag} {H H':Hp}:CoeFun (dB K H H') (fun _=>∀p xs,fq K H p xs->fq K H' p xs):=⟨dB.t⟩
theorem fq.same{K:Frag}(e:oE H H'):dB K H H':=⟨fun p xs h=>by
 rcases h with(h|⟨o,h⟩)|h
 ·exact .inl (.inl (e _ _ h))
 ·exact .inl (.inr ⟨o,e _ _ h⟩)
 ·exact .inr h,fun b o u h=>e _ _ h⟩
theorem ce{p:Addr}(h:H p=none)(o:HO):oE H (d_ H p o):=fun b u q=>by rw[cu (eU q h)];exact q
def Qi(l:Addr)(H H':Hp):Prop:=∀b o,b≠l->H b=some o->H' b=some o
theorem f7{l:Addr}{o:HO}:Qi l H (d_ H l o):=fun b u h q=>by rw[cu h];exact q
theorem fq.but{l:Addr}{xs:List V}(e:Qi l H H')(hl:H l=some (.lst xs)):dB K H H':=by
 have mJ:∀{p:Addr} {o:HO},H p=some o->(∀zs,o≠.lst zs)->p≠l:=fun{p o} q hn z=>by subst z;rw[hl]at q;cases q;exact hn _ rfl
 refine⟨fun p ys h=>?_,fun b o u h=>e _ _ (mJ h (fun _ z=>by cases z)) h⟩
 rcases h with(h|⟨o,h⟩)|h
 ·exact .inl (.inl (e _ _ (mJ h (fun _ z=>by cases z)) h))
 ·exact .inl (.inr ⟨o,e _ _ (mJ h (fun _ z=>by cases z)) h⟩)
 ·exact .inr h
theorem dB.refl:dB K H H:=⟨fun _ _ h=>h,fun _ _ _ h=>h⟩
theorem dB.trans{H1 H2:Hp}(a:dB K H H1)(b:dB K H1 H2):dB K H H2:=⟨fun p xs h=>b p xs (a p xs h),fun c o u h=>b.z c o u (a.z c o u h)⟩
theorem fq.new{p:Addr}{xs:List V}:fq K (d_ H p (.tup xs)) p xs:=fq.of dD
section
variable{o:Expr}{to:TE}{t:TA}{r:V->List V->Hp->VK->Prop}
def US(r:V->List V->Hp->VK->Prop)(to:TE)(t:TA):TE:=fun σ H Q=>to σ H fun x H1=>(∃l ys,x=.ref l/\H1 l=some (.lst ys))/\t σ H1 fun xs H2=>r x xs H2 Q
def UT(r:V->List V->Hp->VK->Prop)(to:TE)(t:TA):TE:=fun σ H Q=>to σ H fun x H1=>(∃l,x=.str (tx l))/\t σ H1 fun xs H2=>r x xs H2 Q
theorem EK{x:V}(h:∃l ys,x=.ref l/\H l=some (.lst ys)):SZ K "list" x H:=by
 obtain⟨l,ys,rfl,h⟩:=h
 exact .inl ⟨rfl,_,.of h⟩
theorem IX{x:V}(h:∃l,x=.str (tx l)):SZ K "str" x H:=by
 obtain⟨l,rfl⟩:=h
 exact rfl
theorem EL{T:String}{ty:V->Hp->Prop}(Uo:∀x H,ty x H->SZ X.K T x H)(pa:PlainAttrs T)(slot:Slot T name id)(D7:typeOf (.builtin id)=pure (.type "method_descriptor"))(hm:Ia X id r)(ho:PE X o to)(ha:PA X (e::es) t)
  (qv:attributeBase o name X.env (eval o X.env)=eval o X.env)
  (xQ:((backTo c8 (starEach (e::es) X.env)).all (fun x=>!x.1)&&(backToKw c8 (keywordEach [] X.env)).all (fun x=>x.1.isSome)
   && decide ((e::es).length+([]:List Keyword).length+(if ([]:List Keyword).isEmpty then 0 else 1)<30))=true)
  (qw:(fI.endLine==c8.line)=true) (hs:starEach (e::es) X.env=(false,eval e X.env)::starEach es X.env) (mK:(backTo c8 (starEach es X.env)).any (·.1)=false) :
  PE X (.Call (.Attribute o name fI) (e::es) [] c8) (fun σ H Q=>to σ H fun x H1=>ty x H1/\t σ H1 fun xs H2=>r x xs H2 Q):=by
 intro pins s σ H Q I h
 refine wpAny_Call_method_late qv xQ qw rfl (f6 (ho pins s σ H _ I h) fun v s1 ⟨x,H1,I1,r1,ty,q1⟩=>?_)
 obtain⟨h1,h2⟩:=MP I1 r1 (Uo _ _ ty)
 refine⟨T,id,pa,slot,D7,h1,h2,?_⟩
 have hA:=ha c8 pins s1 σ H1 _ I1 q1
 rw[hs]at hA ⊢
 refine ga (by show(false||(backTo c8 (starEach es X.env)).any (·.1))=false;rw[mK]<;>rfl) (gP ?_)
 exact f6 hA fun us s2 ⟨vs,H2,I2,r2,q2⟩=>hm pins s2 σ H2 x vs v us Q I2 r1 r2 q2
theorem Qj(slot:Slot "list" name id)(D7:typeOf (.builtin id)=pure (.type "method_descriptor"))(hm:Ia X id r)(ho:PE X o to)(ha:PA X (e::es) t)
  (qv:attributeBase o name X.env (eval o X.env)=eval o X.env:=by rfl)
  (xQ:((backTo c8 (starEach (e::es) X.env)).all (fun x=>!x.1)&&(backToKw c8 (keywordEach [] X.env)).all (fun x=>x.1.isSome)
   && decide ((e::es).length+([]:List Keyword).length+(if ([]:List Keyword).isEmpty then 0 else 1)<30))=true:=by rfl)
  (qw:(fI.endLine==c8.line)=true:=by rfl) (hs:starEach (e::es) X.env=(false,eval e X.env)::starEach es X.env:=by rfl) (mK:(backTo c8 (starEach es X.env)).any (·.1)=false:=by rfl) :
  PE X (.Call (.Attribute o name fI) (e::es) [] c8) (US r to t):=EL (ty:=fun x H1=>∃l ys,x=.ref l/\H1 l=some (.lst ys)) (fun _ _ h=>EK h) F.plainAttrs_list slot D7 hm ho ha qv xQ qw hs mK
theorem Ql(slot:Slot "str" name id)(D7:typeOf (.builtin id)=pure (.type "method_descriptor"))(hm:Ia X id r)(ho:PE X o to)(ha:PA X (e::es) t)
  (qv:attributeBase o name X.env (eval o X.env)=eval o X.env:=by rfl)
  (xQ:((backTo c8 (starEach (e::es) X.env)).all (fun x=>!x.1)&&(backToKw c8 (keywordEach [] X.env)).all (fun x=>x.1.isSome)
   && decide ((e::es).length+([]:List Keyword).length+(if ([]:List Keyword).isEmpty then 0 else 1)<30))=true:=by rfl)
  (qw:(fI.endLine==c8.line)=true:=by rfl) (hs:starEach (e::es) X.env=(false,eval e X.env)::starEach es X.env:=by rfl) (mK:(backTo c8 (starEach es X.env)).any (·.1)=false:=by rfl) :
  PE X (.Call (.Attribute o name fI) (e::es) [] c8) (UT r to t):=EL (ty:=fun x H1=>∃l,x=.str (tx l)) (fun _ _ h=>IX h) F.plainAttrs_str slot D7 hm ho ha qv xQ qw hs mK
end
section
variable{t:TA}
def Qm(t:TA):TE:=fun σ H Q=>t σ H fun xs H1=>xs.length<=sizeLine/\∀p H2,H1 p=none->H2=d_ H1 p (.tup xs)->Q (.ref p) H2
def Qn(t:TA):TE:=fun σ H Q=>t σ H fun xs H1=>xs.length<=sizeLine/\∀p H2,H1 p=none->H2=d_ H1 p (.lst xs)->Q (.ref p) H2
theorem IY{x1}(h:PA X es t):PE X (.Tuple es x1 pos) (Qm t):=by
 intro pins s σ H Q I hq
 refine wpAny_Tuple_spliced (f6 (h pos pins s σ H _ I hq) fun us s1 ⟨xs,H1,I1,r,z,q⟩=>⟨by rw[<- r.length];exact z,?_⟩)
 have hf:H1 s1.heap.objs.size=none:=I1.hok.fresh (au _)
 refine⟨.ref s1.heap.objs.size,d_ H1 s1.heap.objs.size (.tup xs),I1.laid (t':=s1.toks) (fun b u e=>ao _ e) (au _) ?_,rfl,q _ _ hf rfl⟩
 exact⟨z,us,r,⟨_,aT _ rfl,rfl,_,rfl⟩⟩
theorem IZ(h:PA X es t):PE X (.List es pos) (Qn t):=by
 intro pins s σ H Q I hq
 refine wpAny_List_spliced (f6 (h pos pins s σ H _ I hq) fun us s1 ⟨xs,H1,I1,r,z,q⟩=>⟨by rw[<- r.length];exact z,?_⟩)
 have hf:H1 s1.heap.objs.size=none:=I1.hok.fresh (au _)
 refine⟨.ref s1.heap.objs.size,d_ H1 s1.heap.objs.size (.lst xs),I1.laid (t':=s1.toks) (fun b u e=>ao _ e) (au _) ?_,rfl,q _ _ hf rfl⟩
 exact⟨z,us,0,r,aT _ rfl⟩
theorem Ia.imp{r r':V->List V->Hp->VK->Prop}(h:Ia X id r)(i:∀x xs H Q,r' x xs H Q->r x xs H Q):Ia X id r':=fun pins s σ H x xs v us Q I rx rv q=>h pins s σ H x xs v us Q I rx rv (i _ _ _ _ q)
theorem g9.imp{f:Value}{r r':List V->Hp->VK->Prop}(h:g9 X f r)(i:∀xs H Q,r' xs H Q->r xs H Q):g9 X f r':=fun pins s σ H xs us Q I rv q=>h pins s σ H xs us Q I rv (i _ _ _ q)
theorem n6.imp{f:Value->Value->Sem Value}{r r':R2}(h:n6 X f r)(i:∀x y H Q,r' x y H Q->r x y H Q):n6 X f r':=fun pins s σ H x y v u Q I rx ry q=>h pins s σ H x y v u Q I rx ry (i _ _ _ _ q)
def EM:V->List V->Hp->VK->Prop:=fun x vs H Q=>∃l xs y,x=.ref l/\vs=[y]/\H l=some (.lst xs)/\xs.length<sizeLine/\∀H2,H2=d_ H l (.lst (xs++[y]))->Q .non H2
theorem z_:Ia X "list.append" EM:=Ia.imp (r:=Br) C5 fun _ _ _ _ ⟨l,xs,y,a,b,c,d,q⟩=>⟨l,xs,y,a,b,c,d,q _ rfl⟩
def MZ:V->V->V->Hp->(Hp->Prop)->Prop:=fun o i v H Q=>∃p xs k j,o=.ref p/\i=.int k/\H p=some (.lst xs)/\Bo xs.length k=some j/\∀H2,H2=d_ H p (.lst (xs.set j v))->Q H2
theorem Df:zS X MZ:=fun pins s σ H o i v ov iv u Q I r1 r2 r3 q=>by
 obtain⟨p,xs,k,j,a,b,c,d,q⟩:=q
 exact EB pins s σ H o i v ov iv u Q I r1 r2 r3 ⟨p,xs,k,j,a,b,c,d,q _ rfl⟩
def EN(K:Frag):List V->Hp->VK->Prop:=fun xs H Q=>∃p ys,xs=[.ref p]/\rO K H p ys/\∀l H2,H l=none->H2=d_ H l (.tup ys)->Q (.ref l) H2
theorem ym:g9 X (.type "tuple") (EN X.K):=g9.imp uG fun _ _ _ ⟨p,ys,a,b,q⟩=>⟨p,ys,a,.inl ⟨b,fun l hl=>q l _ hl rfl⟩⟩
def I0(K:Frag):List V->Hp->VK->Prop:=fun xs H Q=>∃p ys,xs=[.ref p]/\(rO K H p ys\/fq K H p ys)/\∀l H2,H l=none->H2=d_ H l (.lst ys)->Q (.ref l) H2
theorem sT:g9 X (.type "list") (I0 X.K):=g9.imp wb fun _ _ _ ⟨p,ys,a,b,q⟩=>⟨p,ys,a,b,fun l hl=>q l _ hl rfl⟩
def Qo:R2:=fun x y H Q=>∃l b xs zs,x=.ref l/\y=.ref b/\H l=some (.lst xs)/\H b=some (.lst zs)/\xs.length+zs.length<=sizeLine/\∀p H2,H p=none->H2=d_ H p (.lst (xs++zs))->Q (.ref p) H2
theorem I_:n6 X (binaryOp .Add) Qo:=n6.imp MQ fun _ _ _ _ ⟨l,b,xs,zs,h1,h2,h3,h4,h5,q⟩=>⟨l,b,xs,zs,h1,h2,h3,h4,h5,fun p hp=>q p _ hp rfl⟩
end
def EO(T:String):Prop:=T="tuple"\/T="bool"\/T="int"\/T="str"
end L2
namespace L2
end L2
namespace L2
open PySem PySem.Spec PyProof.Rows
structure QE(X:Cx)(e:Expr)(t:TE):Prop where
 h:PE X e t
structure QA(X:Cx)(es:List Expr)(t:TA):Prop where
 h:PA X es t
structure QS(X:Cx)(s:Stmt)(t:TS):Prop where
 h:PS X s t
structure QG(X:Cx)(e:Expr)(t:TG):Prop where
 h:PG X e t
structure QI(X:Cx)(tg it:Expr)(t:TI):Prop where
 h:PI X tg it t
structure S8(X:Cx)(es:List Expr)(t:TT):Prop where
 h:Ib X es t
structure Ux(X:Cx)(f:Value->Value->Sem Value)(r:R2):Prop where
 h:n6 X f r
structure Qp(X:Cx)(f:Value)(r:List V->Hp->VK->Prop):Prop where
 h:g9 X f r
section
variable{a b o:Expr}{ta tb tc to:TE}{t u:TA}{tA Sf:TT}{rest:List Expr}
theorem yn:Ux X (binaryOp .LShift) (rI MA fun i j=>.int (i*2^j.toNat)):=⟨Ev⟩
variable{st:Stmt}{sr:List Stmt}{ts us:TS}{g:TG}
end
section
variable{g:TG}{tb:TS}{tA:TT}
end
def cI(env:Env):List (Str×NameKind)->List (Str×Addr)->List (Str×Addr)
 |[],cs=>cs
 |(n,k)::r,cs=>cI env r (if k==.free then(n,(env.cells.lookup n).getD 0)::cs else cs)
theorem yo(h:∀x∈scope.names,x.2=.free->∃c,env.cells.lookup x.1=some c):closureFor scope env=pure (cI env scope.names []):=by
 unfold closureFor
 have key:∀(ns:List (Str×NameKind)) (cs:List (Str×Addr)),(∀x∈ns,x.2=.free->∃c,env.cells.lookup x.1=some c) ->
   (forIn ns cs fun(x:Str×NameKind) (r:List (Str×Addr))=>if (x.2==NameKind.free)=true then(do let a <- cellOf env x.1;pure (ForInStep.yield ((x.1,a)::r)))else(pure (ForInStep.yield r):Sem _))=pure (cI env ns cs):=by
  intro ns
  induction ns with
  |nil=>intro cs _;rfl
  |cons y r ih=>
   intro cs hc
   obtain⟨n,k⟩:=y
   rw[List.forIn_cons]
   have ihr:=fun cs=>ih cs fun x hx=>hc x (aA _ hx)
   by_cases hk:(k==NameKind.free)=true
   ·obtain⟨c,e⟩:=hc (n,k) aN (jS hk)
    have e2:cellOf env n=pure c:=by unfold cellOf;rw[e]
    show((if (k==NameKind.free)=true then _ else _) >>= _)=pure (cI env r (if (k==NameKind.free)=true then _ else _))
    rw[am hk,am hk,e2]
    simp only[pure_bind]
    have e3:(env.cells.lookup n).getD 0=c:=by rw[show env.cells.lookup n=some c from e];rfl
    rw[e3]
    exact ihr _
   ·show((if (k==NameKind.free)=true then _ else _) >>= _)=pure (cI env r (if (k==NameKind.free)=true then _ else _))
    rw[az hk,az hk]
    simp only[pure_bind]
    exact ihr _
 have:=key scope.names [] h
 dsimp only
 rw[this];simp only[pure_bind]
theorem jP:∀(ns:List (Str×NameKind)) (cs:List (Str×Addr)),(∀x∈ns,x.2=.free->∃c,env.cells.lookup x.1=some c)->(∀y∈cs,env.cells.lookup y.1=some y.2)->∀y∈cI env ns cs,env.cells.lookup y.1=some y.2
 |[],cs,_,h=>h
 |(n,k)::r,cs,hf,h=>by
  refine jP r _ (fun x hx=>hf x (aA _ hx)) ?_
  by_cases hk:(k==NameKind.free)=true
  ·rw[am hk]
   intro y hy
   rcases aK.mp hy with rfl|hy
   ·obtain⟨c,e⟩:=hf (n,k) aN (jS hk)
    show env.cells.lookup n=some ((env.cells.lookup n).getD 0)
    rw[show env.cells.lookup n=some c from e];rfl
   ·exact h y hy
  ·rw[az hk];exact h
theorem sU:∀(ns:List (Str×NameKind)) (cs:List (Str×Addr)) (y:Str×Addr),y∈cs->y∈cI env ns cs
 |[],_,_,h=>h
 |(n,k)::r,cs,y,h=>by
  refine sU r _ y ?_
  split
  ·exact aA _ h
  ·exact h
theorem mw{env:Env}:∀(ns:List (Str×NameKind)) (cs:List (Str×Addr)) (x:Str),(x,NameKind.free)∈ns->∃c,(x,c)∈cI env ns cs
 |[],_,_,h=>by simp at h
 |(n,k)::r,cs,x,h=>by
  rcases aK.mp h with e|h
  ·obtain⟨e1,e2⟩:=nZ e
   subst e1;subst e2
   exact⟨_,sU r _ (x,_) (by rw[am (by rfl:(NameKind.free==NameKind.free)=true)];exact aN)⟩
  ·exact mw r _ x h
theorem dm:∀{l:List (Str×β)} {x:Str} {b:β},l.lookup x=some b->(x,b)∈l
 |[],_,_,h=>by simp at h
 |(y,c)::r,x,b,h=>by
  rw[fU]at h
  cases hx:x==y with
  |true=>rw[hx]at h;have:=jS hx;subst this;cases h;exact aN
  |false=>rw[hx]at h;exact aA _ (dm h)
theorem my:∀{l:List (Str×β)} {x:Str} {b:β},(x,b)∈l->∃c,l.lookup x=some c
 |(y,c)::r,x,b,h=>by
  rw[fU]
  cases hx:x==y with
  |true=>exact⟨c,rfl⟩
  |false=>
   rcases aK.mp h with e|h
   ·cases e;simp at hx
   ·exact my h
theorem kR{env:Env}{g:Str×NameKind->Bool}:∀{names:List (Str×NameKind)} {x:Str},names.lookup x=some .free ->
  (names.map fun y=>if g y then(y.1,NameKind.cell)else y).lookup x=some .cell\/(names.map fun y=>if g y then(y.1,NameKind.cell)else y).lookup x=some .free
 |[],_,h=>by simp at h
 |(n,k)::r,x,h=>by
  rw[fU]at h
  rw[aF]
  have e1:∀y:Str×NameKind,(if g y then(y.1,NameKind.cell)else y).1=y.1:=fun y=>by split<;>rfl
  have e2:∀(y:Str×NameKind) (l:List (Str×NameKind)),(y::l).lookup x=if (x==y.1)=true then some y.2 else l.lookup x:=fun y l=>by
   obtain⟨a,b⟩:=y
   rw[fU]
   cases x==a<;>rfl
  rw[e2,e1]
  cases hx:x==n with
  |true=>
   rw[hx]at h
   cases h
   rw[am rfl]
   by_cases hg:g (n,.free)=true
   ·rw[am hg];exact .inl rfl
   ·rw[az hg];exact .inr rfl
  |false=>
   rw[hx]at h
   rw[az (by exact bO)]
   exact kR (env:=env) h
def sV(dn:List (Str×NameKind))(sn:List (Str×NameKind))(nm:List Str)(cap:List (Option Nat))(N:List Str):Bool:=
 (sn.all fun x=>!(x.2==.local)||sn.lookup x.1==some .local)&&(sn.all fun y=>!(y.2==.cell))&&(sn.all fun x=>!(x.2==.free)||dn.lookup x.1==some .cell)&&(cap.length==nm.length) &&
 ((List.range cap.length).all fun i=>match cap[i]? with
  |some (some j)=>(match nm[i]?,N[j]? with
   |some x,some y=>x==y&&dn.lookup x==some .cell&&sn.lookup x==some .free
   |_,_=>false)
  |_=>true)
theorem M4{pos:Pos}{g:TG}(gA:X.calm=true)
  (fL:X.env.cells=cellsFrom m X.env.scope.names []) (gj:scope.kind=.function) (hB:sV X.env.scope.names scope.names nm cap X.N=true)
  (hi:QI X tg iter wi) (hg:∀cl C s0 H0 fp,QG (bG X nm scope cl C s0 H0 fp) tg g) (ht:∀cl C s0 H0 fp,S8 (bG X nm scope cl C s0 H0 fp) kJ tc)
  (he:∀cl C s0 H0 fp,QE (bG X nm scope cl C s0 H0 fp) mM te) (hs:∀x,foldedSetIterable iter X.env x=pure x:=by intro _;rfl) :
  QE X (.ListComp mM [⟨tg,iter,kJ,0⟩] scope pos) (sQ cap wi g tc te):=by
 simp only[sV,a8,cD,fF,gG,cz,aQ]at hB
 obtain⟨⟨⟨⟨b1,b2⟩,b3⟩,b4⟩,b5⟩:=hB
 have has:∀x∈scope.names,x.2=.free->∃c,X.env.cells.lookup x.1=some c:=fun x hx hk=>by
  rw[fL]
  rcases b3 x hx with z|z
  ·exact absurd hk z
  ·exact jT z
 have kK:∀x c,(cI X.env scope.names []).lookup x=some c->X.env.cells.lookup x=some c:=fun x c h=>jP scope.names [] has (by simp) (x,c) (dm h)
 have hin:∀x,(x,NameKind.free)∈scope.names->∃c,(cI X.env scope.names []).lookup x=some c:=fun x h=>let ⟨_,q⟩:=mw (env:=X.env) scope.names [] x h;my q
 have hmap:(relabel scope X.env).names=scope.names.map fun y=>if (y.2==.free&&X.env.scope.kind==.function&&X.env.kindOf y.1==some .cell)then(y.1,NameKind.cell)else y:=by
  show scope.names.map _=_
  refine bf fun y _=>?_
  obtain⟨a,b⟩:=y
  rfl
 have fr:∀x,((relabel scope X.env).names.lookup x=some .cell\/(relabel scope X.env).names.lookup x=some .free)->(x,NameKind.free)∈scope.names:=fun x h=>by
  have h':∃k,(x,k)∈(relabel scope X.env).names/\(k=.cell\/k=.free):=by
   rcases h with h|h
   ·exact⟨_,dm h,.inl rfl⟩
   ·exact⟨_,dm h,.inr rfl⟩
  obtain⟨k,hm,hk⟩:=h'
  rw[hmap]at hm
  obtain⟨y,hy,e⟩:=ar.mp hm
  obtain⟨a,b⟩:=y
  by_cases hb:b=.free
  ·subst hb
   have:a=x:=by split at e<;>(cases e;rfl)
   subst this;exact hy
  ·rw[az (by simp[hb])]at e
   cases e
   rcases hk with rfl|rfl
   ·exact absurd rfl (b2 _ hy)
   ·exact absurd rfl hb
 refine⟨Bv (cl:=cI X.env scope.names []) (cap:=cap) (nm:=nm) gA (yo has) kK gj (fun x hx hk=>(b1 x hx).resolve_left fun z=>z hk) (fun y hy=>b2 y hy) (fun x hx=>hin x (fr x hx)) (fun i j e=>?_) b4 hi.h (fun C s0 H0 fp=>(hg _ C s0 H0 fp).h) (fun C s0 H0 fp=>(ht _ C s0 H0 fp).h) (fun C s0 H0 fp=>(he _ C s0 H0 fp).h) hs⟩
 have hi':i<cap.length:=(aa.mp e).1
 have q:=b5 i (aM.mpr hi')
 rw[e]at q
 dsimp only at q
 cases hx:nm[i]? with
 |none=>rw[hx]at q;simp at q
 |some x=>
  cases hy:X.N[j]? with
  |none=>rw[hx,hy]at q;simp at q
  |some y=>
   rw[hx,hy]at q
   simp only[a8,cz]at q
   obtain⟨⟨rfl,q1⟩,q2⟩:=q
   refine⟨x,rfl,rfl,.inr (.inl q1),(by rw[q1];decide),?_,?_⟩
   ·obtain⟨c,hc⟩:=hin x (dm q2)
    rw[hc,kK _ _ hc]
   ·rw[hmap];exact kR (env:=X.env) q2
def Ja(K:Frag):List V->Hp->VK->Prop:=fun xs H Q=>∃(p:Addr) (ys:List (List Nat)),xs=[.ref p]/\rO K H p (ys.map fun l=>V.str (tx l))/\ys.length<64 /\
 ∀zs:List (List Nat),zs.Perm ys->sortedS (zs.map tx)=true->∀l H2,H l=none->H2=d_ H l (.lst (zs.map fun l=>V.str (tx l)))->Q (.ref l) H2
theorem Bx(z:Str):tx z.cps.toList=z:=by cases z;rfl
theorem uH:Qp X (.builtin "sorted") (Ja X.K):=⟨by
 intro pins s σ H xs us Q I r h
 obtain⟨p,ys,rfl,hS,h64,q⟩:=h
 obtain⟨u,rfl,ru⟩:=kQ r
 cases ru
 obtain⟨bC,rv,pl,hz⟩:=I.list hS
 have hl:=rv.length
 rw[ai]at hl
 refine sorted_strs (ss:=ys.map tx) pl.isList (pe (by simpa using rv)) (by omega) fun out ss' h1 h2 h3=>?_
 obtain⟨ep,hat⟩:=sortedAll_at s.heap bC out
 have rq:H (s.heap.objs.size+1)=none:=I.hok.fresh (ie _)
 have hmap:(ss'.map fun z=>z.cps.toList).map tx=ss':=by
  rw[aS]
  have:(tx∘fun z:Str=>z.cps.toList)=id:=funext fun z=>Bx z
  rw[this,lj]
 have hperm:(ss'.map fun z=>z.cps.toList).Perm ys:=by
  have e:=h2.map fun z:Str=>z.cps.toList
  rw[aS]at e
  have:((fun z:Str=>z.cps.toList)∘tx)=id:=funext fun l=>by simp[tx]
  rw[this,lj]at e
  exact e
 have hvals:cA ((ss'.map fun z=>z.cps.toList).map fun l=>V.str (tx l)) out.toList:=by
  have e:=pf h1
  rw[<- hmap,aS]at e
  exact e
 refine⟨.ref (s.heap.objs.size+1),_,I.laid (t':=s.toks) (fun b o e=>sortedAll_old e) (ie _) ?_,rfl,q _ hperm (by rw[hmap];exact h3) _ _ rq rfl⟩
 refine⟨?_,out.toList,ep,hvals,hat⟩
 rw[ai,hperm.length_eq]
 exact a_ (df h64) (by decide)⟩
theorem bv.turned2{t':Nat}{e:Addr}(I:bv X pins σ H s)(k:∀b o,b≠e->b≠it->s.heap.get? b=some o->h'.get? b=some o)
  (he:∃o,h'.get? e=some o) (f1:pQ X pins H e) (f2:pQ X pins H it):bv X pins σ H { s with heap:=h',toks:=t' }:=by
 have nit:∀b u,H b=some u->b≠e/\b≠it:=fun b u q=>⟨fun z=>(by rw[z,f1.1]at q;cases q),fun z=>(by rw[z,f2.1]at q;cases q)⟩
 have nin:∀b,b∉[e,it]->b≠e/\b≠it:=fun b h=>⟨fun z=>h (by simp[z]),fun z=>h (by simp[z])⟩
 refine I.step (g':=s.gens) (d':=s.drawn) (ch:=[e,it]) (fun b hb=>?_) (fun b o _ _ hc q _=>k b o (nin b hc).1 (nin b hc).2 q) (fun b o _ _ hc q _=>⟨o.slots,k b o (nin b hc).1 (nin b hc).2 q⟩) (fun _ _ _ _ n=>n)
  (fun b o hc q=>⟨o,k b o (nin b hc).1 (nin b hc).2 q⟩) (fun _ _ q=>q) (fun _ _ _ q=>q) (fun b ps q=>⟨#[],by rw[q];simp⟩) (fun m hm=>?_) (fun b u q=>?_) I.bare
 ·have z:b=e\/b=it:=by simpa using hb
  rcases z with rfl|rfl
  ·exact⟨f1.2.2.2.1,f1.2.1,f1.2.2.2.2.1,f1.2.2.2.2.2⟩
  ·exact⟨f2.2.2.2.1,f2.2.1,f2.2.2.2.2.1,f2.2.2.2.2.2⟩
 ·obtain⟨o,es,ep,ho,r⟩:=hm
  exact⟨o,es,ep,k _ o (Ne.symm f1.2.1) (Ne.symm f2.2.1) ho,r⟩
 ·refine(I.hok b u q).stay (fun c v hc z=>?_) (fun _ z=>z) fun _ _ z=>z
  rcases hc with y|y
  ·rw[y]at z ⊢;exact k b v (nit b u q).1 (nit b u q).2 z
  ·exact k c v (nit c _ y).1 (nit c _ y).2 z
section
variable{w:World}
theorem uI{t:Addr}{bC:Array Value}{x:Value}(st:s.heap.IsTupleIter it t i)(ht:s.heap.IsTuple t bC)(hx:bC[i]?=some x)
  (q:∀g,g.IsTupleIter it t (i+1)->Heap.SameBut it s.heap g->Q x { s with heap:=g }):wpAny (model prog w) A (Builtin.SmallTypes.nextOf (.ref it)) Q E s:=by
 obtain⟨ob,e1,e2,e3⟩:=id st
 obtain⟨ot,g1,_,nt,g3⟩:=ht
 have T:=st.typeIs
 unfold Builtin.SmallTypes.nextOf
 refine ah (du (name:=Str.ofString "__next__") T fg (dw fg T jM ?_ (jn _)))
 show wpAny _ _ (field (.ref it) 0 >>= _) _ _ s
 refine ah (gO e1 e3 (x:=.ref t) rfl ?_)
 dsimp only
 rw[az (show ¬ ((Value.ref t==Value.none)=true)from bO)]
 refine ah (gO e1 e3 (x:=.int i 0) rfl ?_)
 dsimp only
 refine ah (fV g1 g3 ?_)
 simp only[aR,hx]
 refine ah (wpAny_setField e1 e3 (by simp) (ax ⟨x,rfl,ax (q _ ?_ (cH ..))⟩))
 exact⟨_,gv _ e1 (Obj.isFreed_of_fields (Obj.data_mapFields e3 _)),(Obj.cls_mapFields ..).trans e2,by rw[Obj.data_mapFields e3];simp[rawInt]⟩
theorem pW{t:Addr}{bC:Array Value}(hh:A.handled=none)(st:s.heap.IsTupleIter it t i)(ht:s.heap.IsTuple t bC)(hx:bC[i]?=none)
  (q:∀g e,Heap.ExtBut it s.heap g->(∃o,g.get? e=some o/\o.cls=.type "StopIteration")->E (.ref e) { s with heap:=g }):wpAny (model prog w) A (Builtin.SmallTypes.nextOf (.ref it)) Q E s:=by
 obtain⟨ob,e1,e2,e3⟩:=id st
 obtain⟨ot,g1,_,nt,g3⟩:=ht
 have T:=st.typeIs
 unfold Builtin.SmallTypes.nextOf
 refine ah (du (name:=Str.ofString "__next__") T fg (dw fg T jM ?_ (jn _)))
 show wpAny _ _ (field (.ref it) 0 >>= _) _ _ s
 refine ah (gO e1 e3 (x:=.ref t) rfl ?_)
 dsimp only
 rw[az (show ¬ ((Value.ref t==Value.none)=true)from bO)]
 refine ah (gO e1 e3 (x:=.int i 0) rfl ?_)
 dsimp only
 refine ah (fV g1 g3 ?_)
 simp only[aR,hx]
 refine ah (hX (ah (wpAny_setField e1 e3 (by simp) (ah ?_))))
 simp only[newExc,newTuple]
 refine ah (ej (ah (m:=firstArgMember _ _) (wpAny_of_eq (a:=Value.none) (by first|rfl|(simp only[firstArgMember];rfl)) (ej ?_ (by size_fits)))) (by size_fits))
 simp only[raiseNew]
 refine ah (wpAny_handled ?_)
 rw[show A.in1.handled=none from hh]
 exact ah (ax (wpAny_throw (q _ _ (((cH ..).extBut.push _).push _) ⟨_,aT _ rfl,rfl⟩)))
end
theorem EQ{w:World}{A:Around}(hh:A.handled=none)(it t:Addr)(mJ:t≠it)(bC:Array Value) :
  Draws prog w A it [it,t] bC.size (fun i v=>bC[i]?=some v) (fun i h=>h.IsTupleIter it t i/\h.IsTuple t bC) where
 live:=fun _ _ st=>let ⟨o,e,_⟩:=st.1;⟨o,e⟩
 frame:=fun _ h h' st k=>⟨st.1.at fun o e=>k it (by simp) o e,let ⟨o,e,r⟩:=st.2;⟨o,k t (by simp) o e,r⟩⟩
 item:=fun i s Q E hi st q=>uI st.1 st.2 (x:=bC[i]) (by simp[hi]) fun g a b=>q _ g s.toks (by simp[hi]) ⟨a,st.2.extBut b.extBut mJ⟩ b
 done:=fun s Q E st q=>pW hh st.1 st.2 (by simp) q
open AutoSeq1 (wpAny_loadPart')
def Uy(K:Frag)(a:Addr):It:=
 ⟨fun i H=>∃xs x,fq K H a xs/\xs[i]?=some x,fun i H v H'=>∃p,H p=none/\v=.ref p/\∀xs x,fq K H a xs->xs[i]?=some x->H'=d_ H p (.tup [.int i,x]),fun i H=>∃xs,fq K H a xs/\xs.length<=i⟩
theorem Dg{w:World}(a it e:Addr)(Uk:e≠it) :
  CV P w K (.Tuple HY kk pos) (Uy K a) [e,it] e (fun i h=>(∃old,IsEnum h e it i old)/\h.IsTupleIter it a i) where
 mem:=by simp
 obj:=fun i h st b hb=>by
  have z:b=e\/b=it:=by simpa using hb
  rcases z with rfl|rfl
  ·obtain⟨old,q⟩:=st.1
   exact⟨_,q,fun v z=>by cases z⟩
  ·obtain⟨o,q,c,d⟩:=st.2
   exact⟨o,q,fun v z=>by rw[d]at z;cases z⟩
 keep:=fun i h h' st k=>⟨let ⟨old,q⟩:=st.1;⟨old,k e (by simp) _ q⟩,st.2.at fun o q=>k it (by simp) o q⟩
 item:=by
  intro X hP hw hK hc i pins s σ H E I hf st hg
  subst hP hw hK
  obtain⟨xs,x,hq,hx⟩:=hg
  obtain⟨bC,rv,p,hz⟩:=I.tuple hq
  obtain⟨u,hu,ru⟩:=rv.get hx
  obtain⟨⟨old,he⟩,hit⟩:=st
  have hT:s.heap.IsTuple a bC.toArray:=p
  obtain⟨oa,ha,hca,_⟩:=id hT
  obtain⟨oi,hi,hci,_⟩:=id hit
  have nai:a≠it:=fun z=>by
   rw[z,hi]at ha;cases ha
   rw[hci]at hca;injection hca with z;exact absurd z (by decide)
  have nae:a≠e:=fun z=>by
   rw[z,he]at ha;cases ha
   injection hca with z;exact absurd z (by decide)
  have ny:i<bC.toArray.size:=by
   have:=(aa.mp hu).1
   simpa using this
  refine wpAny_pyNext_enum_itemD (EQ (A:=X.A.in1) (I.ok.hd hc) it a nai bC.toArray) he ⟨hit,hT⟩ ny Uk (by simp[Uk,Ne.symm nae]) fun x' g tk qx ho' bE htup hsz hk=>⟨_,rfl,?_⟩
  have ex:x'=u:=by
   have e1:bC[i]?=some x':=by simpa using qx
   rw[hu]at e1;exact(aU e1).symm
  subst ex
  refine wpAny_letOwnedTupleGo_enum ho' fun g2 Pq A5=>?_
  have rq:H s.heap.objs.size=none:=I.hok.fresh (au _)
  have I1:bv X pins σ (d_ H s.heap.objs.size (.tup [.int i,x])) { s with heap:=s.heap.push { cls:=.type "tuple",data:=.seq #[.int i tk,x'] },toks:=tk+1 }:=I.laid (fun b o q=>ao _ q) (au _)
   ⟨by show 2<=sizeLine;decide,[.int i tk,x'],.cons ⟨tk,rfl⟩ (.cons ru .nil),⟨_,aT _ rfl,rfl,_,rfl⟩⟩
  have nf:∀b∈[e,it],b≠s.heap.objs.size:=fun b hb=>by
   have z:b=e\/b=it:=by simpa using hb
   rcases z with rfl|rfl
   ·exact bD (aI he)
   ·exact bD (aI hi)
  have fp:∀b∈[e,it],pQ X pins (d_ H s.heap.objs.size (.tup [.int i,x])) b:=fun b hb=>by
   obtain⟨f0,f⟩:=hf b hb
   exact⟨by rw[cu (nf b hb)];exact f0,f⟩
  have he2':IsEnum g2 e it ((i:Int)+1) x':=Pq
  have I2:bv X pins σ (d_ H s.heap.objs.size (.tup [.int i,x])) { s with heap:=g2,toks:=tk+1 }:=I1.turned2 (t':=tk+1) (fun b o hbe hbi q=>?_) ⟨_,he2'⟩ (fp e (by simp)) (fp it (by simp))
  ·refine⟨.ref s.heap.objs.size,_,I2,rfl,⟨_,rq,rfl,fun ys y hy xX=>?_⟩,⟨⟨x',by simpa using he2'⟩,bE.1.extBut A5.extBut (Ne.symm Uk)⟩,fun b hb=>(fp b hb).1⟩
   have e1:=I.tuple_inj hy hq
   subst e1
   rw[hx]at xX;cases xX;rfl
  ·have q':(s.heap.push { cls:=.type "tuple",data:=.seq #[.int i tk,x'] }).get? b=some o:=q
   refine A5.extBut b o hbe ?_
   by_cases hb:b=s.heap.objs.size
   ·subst hb
    have e1:=aT s.heap (o:={ cls:=.type "tuple",data:=.seq #[.int i tk,x'] }) rfl
    rw[e1]at q';cases q'
    exact htup
   ·rw[Heap.get?_push_ne _ _ _ hb]at q'
    exact hk b o hbe hbi q'
 done:=by
  intro X hP hw hK hc i pins s σ H E I hf st hg
  subst hP hw hK
  obtain⟨xs,hq,hx⟩:=hg
  obtain⟨bC,rv,p,hz⟩:=I.tuple hq
  obtain⟨⟨old,he⟩,hit⟩:=st
  have hT:s.heap.IsTuple a bC.toArray:=p
  have hl:=rv.length
  have hT':Shared.TypeIs s (.ref e) "enumerate":=⟨_,he,rfl⟩
  unfold pyNext
  refine ah (wpAny_attempt (du (name:=Str.ofString "__next__") hT' nB (dw nB hT' F.entry_enumerate_next ?_ (F.args_enumerate_next_1 _))))
  show wpAny _ _ (field (.ref e) 2 >>= _) _ _ _
  refine ah (gO he rfl (x:=.ref it) rfl (ah (pW (show X.A.in1.handled=none from I.ok.hd hc) hit hT (by simp;omega) fun g y qx hy=>?_)))
  obtain⟨o,ho,kK⟩:=hy
  refine ah (iV (T:="StopIteration") (b:=true) ⟨o,ho,kK⟩ isSubtype_stop (ax ⟨rfl,?_⟩))
  obtain⟨f0,f1,f2,f3,f4,f5⟩:=hf it (by simp)
  exact I.turned (t':=s.toks) (fun b o hb q=>qx b o hb q) f0 f1 f3 f4 f5
 self:=fun A i s Q E st h=>let ⟨_,q⟩:=st.1;wpAny_pyIter_enum q h
open AutoSeq1 (wpAny_loadPart')
abbrev pX(t:Addr):Obj:={ cls:=.type "tuple_iterator",data:=.fields #[.ref t,.int 0 0] }
abbrev Aa(it:Addr):Obj:={ cls:=.type "enumerate",data:=.fields #[.none,.bool false,.ref it,rawInt 0,.none,.none] }
theorem M5(t:Addr)(bC:Array Value)(n:Nat)(dc:Option Addr)(sl:Array (Option Value)) :
  Meets (Builtin.«enumerate.__new__» ⟨[.type "enumerate",.ref t],[]⟩) (fun _ R s=>s.heap.get? t=some { cls:=.type "tuple",dict:=dc,data:=.seq bC n,slots:=sl } /\
   R (.ok (.ret (.ref (s.heap.push (pX t)).objs.size))) { s with heap:=(s.heap.push (pX t)).push (Aa s.heap.objs.size) }):=
 .of_wp fun prog w A R s h=>by
  obtain⟨hp,g,d,tk,os⟩:=s
  obtain⟨ht,h⟩:=h
  have sb:=sub_enumerate
  have hT:Heap.IsTuple (Shared.heap ⟨hp,g,d,tk,os⟩) t bC:=⟨_,ht,rfl,n,rfl⟩
  wp_walk using bL ht
  refine wpAny_stack_any fun st=>ax ?_
  split
  ·rename_i c _ _ _ _ _
   cases(c==Value.type "enumerate")<;>(wp_walk using bL ht,kj hT;exact⟨_,rfl,h⟩)
  ·wp_walk using bL ht,kj hT
   exact⟨_,rfl,h⟩
section
variable{w:World}
theorem uJ{t:Addr}{bC:Array Value}(hT:s.heap.IsTuple t bC)
  (q:∀g,IsEnum g (s.heap.objs.size+1) s.heap.objs.size 0 .none->g.IsTupleIter s.heap.objs.size t 0->(∀b o,s.heap.get? b=some o->g.get? b=some o)->Q (.ref (s.heap.objs.size+1)) { s with heap:=g }) :
  wpAny (model prog w) A (call (.type "enumerate") [.ref t]) Q E s:=by
 obtain⟨⟨c,dc,dt,sl⟩,ht,hc,n,hd⟩:=hT
 obtain rfl:c=.type "tuple":=hc
 obtain rfl:dt=.seq bC n:=hd
 refine callType_new F.called_enumerate (by decide) (F.typeCall_enumerate_1 _) (F.newCall_enumerate_1 _) (fun ob=>F.args_object_init_2 ob _) F.entry_enumerate_new (M5 t bC n dc sl) ⟨ht,?_⟩
 have z:(s.heap.push (pX t)).objs.size=s.heap.objs.size+1:=kr ..
 show _/\_
 rw[z]
 have e1:IsEnum ((s.heap.push (pX t)).push (Aa s.heap.objs.size)) (s.heap.objs.size+1) s.heap.objs.size 0 .none:=by
  have y:=aT (s.heap.push (pX t)) (o:=Aa s.heap.objs.size) rfl
  rw[z]at y;exact y
 exact⟨⟨_,e1,rfl⟩,q _ e1 ⟨_,ao _ (aT _ rfl),rfl,rfl⟩ fun b o y=>ao _ (ao _ y)⟩
end
section
def TY(K:Frag)(ta:TA):TI:=fun σ H R=>ta σ H fun vs H1=>∃a,vs=[.ref a]/\(∃xs,fq K H1 a xs)/\R (Uy K a) H1
theorem ER{a:Expr}{ta:TA}{p pos tp:Pos}{HY:List Expr}{kk:Nat}(hm:X.mg "enumerate"=none)(ha:QA X [a] ta)(hg:Gl X "enumerate":=by rfl)(hs:starEach [a] X.env=[(false,eval a X.env)]:=by rfl) :
  QI X (.Tuple HY kk tp) (.Call (.Name "enumerate" p) [a] [] pos) (TY X.K ta):=⟨by
 intro pins s σ H R I h
 refine Call_ (nG I hg hm boot_enumerate (dA (f6 (ha.h pos pins s σ H _ I h) fun us s1 ⟨vs,H1,I1,r1,q1⟩=>?_) hs rfl))
 obtain⟨t,e,⟨xs,hq⟩,q⟩:=q1
 subst e
 obtain⟨u,rfl,ru⟩:=kQ r1
 cases ru
 obtain⟨bC,rv,pt,hz⟩:=I1.tuple hq
 refine uJ (show s1.heap.IsTuple t bC.toArray from pt) fun g e1 e2 kp=>?_
 refine wpAny_pyIter_enum e1 ?_
 refine⟨s1.heap.objs.size+1,[s1.heap.objs.size+1,s1.heap.objs.size],_,_,H1,rfl,I1.kept (t':=s1.toks) kp,Dg t _ _ (Nat.succ_ne_self _),⟨⟨_,e1⟩,e2⟩,fun b hb=>?_,q⟩
 have z:b=s1.heap.objs.size+1\/b=s1.heap.objs.size:=by simpa using hb
 rcases z with rfl|rfl
 ·exact I1.fpOk (ie _) (I1.hok.fresh (ie _))
 ·exact I1.fpOk (au _) (I1.hok.fresh (au _))⟩
end
section
variable{g:TG}{H1:Hp}{Q:VK}
end
section
variable{w:World}
end
section
variable{w:World}{R:Result->Shared->Prop}{I:Addr}{wr:List Addr}{P:Nat->Value->Prop}{St:Nat->Heap->Prop}
end
section
variable{w:World}
end
section
end
section
variable{w:World}
end
section
variable{w:World}
end
section
variable{w:World}
end
section
variable{w:World}
end
section
variable{w:World}
end
section
variable{w:World}
end
theorem bv.kept2{d':Drawn}(I:bv X pins σ H s)(k:∀b o,s.heap.get? b=some o->h'.get? b=some o):bv X pins σ H { s with heap:=h',drawn:=d',toks:=t' }:=
 I.step (g':=s.gens) (ch:=[]) (fun _ z=>nomatch z) (fun b o _ _ _ e _=>k b o e) (fun b o _ _ _ e _=>⟨o.slots,k b o e⟩) (fun _ _ _ _ n=>n) (fun b o _ e=>⟨o,k b o e⟩) (fun _ _ e=>e) (fun _ _ _ e=>e) (fun b ps e=>⟨#[],by rw[e];simp⟩)
  (fun m hm=>let ⟨o,es,ep,ho,r⟩:=hm;⟨o,es,ep,k _ o ho,r⟩) (I.hok.kept k) I.bare
section
variable{w:World}
end
section
variable{g:TG}
theorem Ab{x0:Str}{p0 p1:Pos}{gx:TG}(O':PG X (.Name x0 p0) gx)(O3:swapsWith (.ListComp mM [⟨tg,iter,kJ,0⟩] scope pos) (some (.Name x0 p0)) p1.line X.env=pure true)(gA:X.calm=true)(zK:closureFor scope X.env=pure cl)(kK:∀x c,cl.lookup x=some c->X.env.cells.lookup x=some c)
  (gj:scope.kind=.function) (ut:∀x∈scope.names,x.2=.local->scope.names.lookup x.1=some .local) (gk:∀y∈scope.names,y.2≠.cell)
  (HI:∀x,((relabel scope X.env).names.lookup x=some .cell\/(relabel scope X.env).names.lookup x=some .free)->∃c,cl.lookup x=some c)
  (zF:∀(i j:Nat),cap[i]?=some (some j)->∃x,nm[i]?=some x/\X.N[j]?=some x/\Bt X scope cl x) (dk:cap.length=nm.length)
  (hi:PI X tg iter wi) (hg:∀C s0 H0 fp,PG (bG X nm scope cl C s0 H0 fp) tg g) (ht:∀C s0 H0 fp,Ib (bG X nm scope cl C s0 H0 fp) kJ tc)
  (he:∀C s0 H0 fp,PE (bG X nm scope cl C s0 H0 fp) mM te) (hs:∀x,foldedSetIterable iter X.env x=pure x:=by intro _;rfl) :
  PS X (.Assign [.Name x0 p0] (.ListComp mM [⟨tg,iter,kJ,0⟩] scope pos) p1) (Er (sQ cap wi g tc te) gx):=by
 intro pins s σ H D I h
 rw[exec_Assign_Name_used _ _ _ _ O3]
 suffices main:wpAny (model X.prog X.w) X.A (comprehension (.ListComp mM [⟨tg,iter,kJ,0⟩] scope pos) scope X.env (firstIterPos [⟨tg,iter,kJ,0⟩] pos) (newList []) (firstAsync [⟨tg,iter,kJ,0⟩]) (firstIter [⟨tg,iter,kJ,0⟩] X.env) (some (assign (.Name x0 p0) X.env))) (fun _ s'=>SP X pins D .next s') X.xe s from
  ah (lE (ah (ah (dO main (fun _ s' h=>ax (ax h)) fun _ _ z=>z))))
 refine vc gA zK kK gj ut gk HI zF dk hi hg ht he hs I h fun s4 C D m4 Hn I4 B q=>?_
 obtain⟨oC,es,ep,hoC,hdC,hrC⟩:=B.ns
 refine dO (O' _ s4 σ _ (.ref D) (.ref D) _ (I4.pins_of (pins':=pins++[(C,oC)]) fun p hp=>?_) rfl q) (fun _ s5 h5=>?_) fun _ _ z=>z
 ·rcases aL.mp hp with z|z
  ·exact I4.pin p (aW _ z)
  ·have e:p=(C,oC):=by simpa using z
   subst e
   exact⟨hoC,B.fr,B.nl,B.nf,fun v z=>by rw[hdC]at z;cases z⟩
 obtain⟨σ',H',I6,nx⟩:=h5
 have pC:=I6.pin (C,oC) (aW _ (aW _ (bz.mpr rfl)))
 have I7:bv X pins σ' H' s5:=I6.pins_of fun p hp=>I6.pin p (aW _ (cN _ hp))
 have B7:Bu X pins H' s5 C m4:=⟨⟨oC,es,ep,pC.1,hdC,hrC⟩,pC.2.1,B.nl,B.nf,B.hi,B.nc,B.np⟩
 exact⟨m4,B7.ns,fun h' hs'=>⟨σ',H',B7.off I7 hs',nx⟩⟩
end
theorem Ac{x0:Str}{p0 p1:Pos}{gx:TG}{pos:Pos}{g:TG}(O':QG X (.Name x0 p0) gx)(gA:X.calm=true)
  (fL:X.env.cells=cellsFrom m X.env.scope.names []) (gj:scope.kind=.function) (hB:sV X.env.scope.names scope.names nm cap X.N=true)
  (hi:QI X tg iter wi) (hg:∀cl C s0 H0 fp,QG (bG X nm scope cl C s0 H0 fp) tg g) (ht:∀cl C s0 H0 fp,S8 (bG X nm scope cl C s0 H0 fp) kJ tc)
  (he:∀cl C s0 H0 fp,QE (bG X nm scope cl C s0 H0 fp) mM te) (hs:∀x,foldedSetIterable iter X.env x=pure x:=by intro _;rfl) (O3:swapsWith (.ListComp mM [⟨tg,iter,kJ,0⟩] scope pos) (some (.Name x0 p0)) p1.line X.env=pure true:=by first|rfl|kernel_rfl) :
  QS X (.Assign [.Name x0 p0] (.ListComp mM [⟨tg,iter,kJ,0⟩] scope pos) p1) (Er (sQ cap wi g tc te) gx):=by
 simp only[sV,a8,cD,fF,gG,cz,aQ]at hB
 obtain⟨⟨⟨⟨b1,b2⟩,b3⟩,b4⟩,b5⟩:=hB
 have has:∀x∈scope.names,x.2=.free->∃c,X.env.cells.lookup x.1=some c:=fun x hx hk=>by
  rw[fL]
  rcases b3 x hx with z|z
  ·exact absurd hk z
  ·exact jT z
 have kK:∀x c,(cI X.env scope.names []).lookup x=some c->X.env.cells.lookup x=some c:=fun x c h=>jP scope.names [] has (by simp) (x,c) (dm h)
 have hin:∀x,(x,NameKind.free)∈scope.names->∃c,(cI X.env scope.names []).lookup x=some c:=fun x h=>let ⟨_,q⟩:=mw (env:=X.env) scope.names [] x h;my q
 have hmap:(relabel scope X.env).names=scope.names.map fun y=>if (y.2==.free&&X.env.scope.kind==.function&&X.env.kindOf y.1==some .cell)then(y.1,NameKind.cell)else y:=by
  show scope.names.map _=_
  refine bf fun y _=>?_
  obtain⟨a,b⟩:=y
  rfl
 have fr:∀x,((relabel scope X.env).names.lookup x=some .cell\/(relabel scope X.env).names.lookup x=some .free)->(x,NameKind.free)∈scope.names:=fun x h=>by
  have h':∃k,(x,k)∈(relabel scope X.env).names/\(k=.cell\/k=.free):=by
   rcases h with h|h
   ·exact⟨_,dm h,.inl rfl⟩
   ·exact⟨_,dm h,.inr rfl⟩
  obtain⟨k,hm,hk⟩:=h'
  rw[hmap]at hm
  obtain⟨y,hy,e⟩:=ar.mp hm
  obtain⟨a,b⟩:=y
  by_cases hb:b=.free
  ·subst hb
   have:a=x:=by split at e<;>(cases e;rfl)
   subst this;exact hy
  ·rw[az (by simp[hb])]at e
   cases e
   rcases hk with rfl|rfl
   ·exact absurd rfl (b2 _ hy)
   ·exact absurd rfl hb
 refine⟨Ab O'.h O3 (cl:=cI X.env scope.names []) (cap:=cap) (nm:=nm) gA (yo has) kK gj (fun x hx hk=>(b1 x hx).resolve_left fun z=>z hk) (fun y hy=>b2 y hy) (fun x hx=>hin x (fr x hx)) (fun i j e=>?_) b4 hi.h (fun C s0 H0 fp=>(hg _ C s0 H0 fp).h) (fun C s0 H0 fp=>(ht _ C s0 H0 fp).h) (fun C s0 H0 fp=>(he _ C s0 H0 fp).h) hs⟩
 have hi':i<cap.length:=(aa.mp e).1
 have q:=b5 i (aM.mpr hi')
 rw[e]at q
 dsimp only at q
 cases hx:nm[i]? with
 |none=>rw[hx]at q;simp at q
 |some x=>
  cases hy:X.N[j]? with
  |none=>rw[hx,hy]at q;simp at q
  |some y=>
   rw[hx,hy]at q
   simp only[a8,cz]at q
   obtain⟨⟨rfl,q1⟩,q2⟩:=q
   refine⟨x,rfl,rfl,.inr (.inl q1),(by rw[q1];decide),?_,?_⟩
   ·obtain⟨c,hc⟩:=hin x (dm q2)
    rw[hc,kK _ _ hc]
   ·rw[hmap];exact kR (env:=X.env) q2
open AutoSeq1 (wpAny_loadPart')
theorem ES(l b:Addr)(i1 i2:Array Value)(n1 n2:Nat)(d1 d2:Option Addr)(s1 s2:Array (Option Value))(h0:i1.isEmpty=true) :
  Meets (Builtin.«tuple.__add__» ⟨[.ref l,.ref b],[]⟩) (fun _ R s=>s.heap.get? l=some { cls:=.type "tuple",dict:=d1,data:=.seq i1 n1,slots:=s1 }/\s.heap.get? b=some { cls:=.type "tuple",dict:=d2,data:=.seq i2 n2,slots:=s2 }/\R (.ok (.ret (.ref b))) s):=
 .of_wp fun prog w A R s h=>by
  obtain⟨hp,g,d,tk,os⟩:=s
  obtain⟨e1,e2,h⟩:=h
  have a2:=PyProof.Rows.sub_tuple_tuple
  wp_walk using bL e1,bL e2
  exact⟨_,rfl,h⟩
def Qq(K:Frag):R2:=fun x y H Q=>∃a b xs ys,x=.ref a/\y=.ref b/\fq K H a xs/\fq K H b ys/\xs.length+ys.length<=sizeLine/\∀p H2,oE H H2->fq K H2 p (xs++ys)->Q (.ref p) H2
theorem M6:Ux X (binaryOp .Add) (Qq X.K):=⟨by
 intro pins s σ H x y v u Q I rx ry h
 obtain⟨a,b,xs,ys,rfl,rfl,ha,hb,hz,q⟩:=h
 by_cases hx:xs=[]
 ·subst hx
  cases rx
  cases ry
  obtain⟨bC,r1,p1,_⟩:=I.tuple ha
  obtain⟨its2,r2,p2,_⟩:=I.tuple hb
  have e1:bC=[]:=r1.nil_iff.mpr rfl
  obtain⟨⟨c1,d1,g1,l1⟩,f1,hc1,n1,OS⟩:=id p1
  obtain⟨⟨c2,d2,g2,l2⟩,f2,hc2,n2,CN⟩:=id p2
  simp only at hc1 OS hc2 CN
  subst hc1 OS hc2 CN
  refine qA ⟨_,f1,rfl⟩ ⟨_,f2,rfl⟩ l9 oT PySem.F.slot_tuple_add PySem.F.entry_tuple_add (PySem.F.args_tuple_add_2 _ _) (ES a b bC.toArray its2.toArray n1 n2 d1 d2 l1 l2 (by rw[e1];rfl)) ⟨f1,f2,?_⟩
  exact⟨.ref b,H,I,rfl,q b H (oE.refl H) hb⟩
 ·exact IJ pins s σ H _ _ v u Q I rx ry ⟨a,b,xs,ys,rfl,rfl,ha,hb,hx,hz,fun e=>q a H (oE.refl H) (by rw[e,bP];exact ha),fun _ p hp=>q p _ (ce hp _) (fq.of dD)⟩⟩
inductive W where
 |non|bl (b:Bool)|int (i:Int)|str (l:List Nat)|tup (ws:List W)|loc (n:Nat)
inductive DK where
 |i (z:Int)|s (l:List Nat)
deriving DecidableEq
def DK.key:DK->fZ
 |.i z=>.inl z
 |.s l=>.inr (tx l)
inductive KX where
 |bo (b:Bool)|fl (ks:List Int)|pr (i:Int) (ks:List Int)
deriving DecidableEq
def KX.w:KX->W
 |.bo b=>.bl b
 |.fl ks=>.tup (ks.map W.int)
 |.pr i ks=>.tup [.int i,.tup (ks.map W.int)]
def ET(ks:List Int):Int:=reduceHash (Builtin.Tuple.tupleHashOf (ks.map hashInt))
def KX.hash:KX->Int
 |.bo b=>hashInt (if b then 1 else 0)
 |.fl ks=>ET ks
 |.pr i ks=>reduceHash (Builtin.Tuple.tupleHashOf [hashInt i,ET ks])
inductive aj where
 |lst (ws:List W)
 |ro (ws:List W)
 |exc (c:Str)
 |dct (kvs:List (DK×W))
 |tab (P:Addr) (pos:Pos) (q:Str)
 |rod (kvs:List (DK×W))
 |dcx (kvs:List (KX×W))
 |pin (k:Bool) (c:Addr) (o:Obj) (w:W)
 |gone
abbrev jw:Nat:=1000000
theorem iN(h:n<=jw):n<=sizeLine:=a_ h (by decide)
theorem M7(h:n<=jw):n<sizeLine:=ko h (by decide)
inductive R(α:Type) where
 |ok (a:α) (st:List aj)
 |ex (c:Str) (st:List aj)
 |bad
end L2
variable{kvs:List (L2.KX×L2.W)}{ws cws:List L2.W}{bE st1 S:List L2.aj}{F G:List L2.W->List L2.aj->L2.R L2.W}{ck:Option (Nat×List L2.W)}
namespace L2
open PySem PySem.Spec PyProof.Rows
def R.bind:R α->(α->List aj->R β)->R β
 |.ok a st,k=>k a st
 |.ex c st,_=>.ex c st
 |.bad,_=>.bad
@[simp] theorem R.bind_ok{α β:Type}(a:α)(st:List aj)(k:α->List aj->R β):(R.ok a st).bind k=k a st:=rfl
@[simp] theorem R.bind_ex{α β:Type}(c:Str)(st:List aj)(k:α->List aj->R β):(R.ex c st:R α).bind k=.ex c st:=rfl
@[simp] theorem R.bind_bad{α β:Type}(k:α->List aj->R β):(R.bad:R α).bind k=.bad:=rfl
abbrev bQ:=List (Option W)
inductive RS where
 |nx (ρ:bQ) (st:List aj)|rt (w:W) (st:List aj)|bk (ρ:bQ) (st:List aj)|ct (ρ:bQ) (st:List aj)
 |ex (c:Str) (ρ:bQ) (st:List aj)|bad
abbrev FE:=bQ->List aj->R W
abbrev FT:=bQ->List aj->R Bool
abbrev FA:=bQ->List aj->R (List W)
abbrev FS:=bQ->List aj->RS
section
variable(K:Frag)
mutual
def be(μ:List Addr)(H:Hp):W->V->Prop
 |.non,v=>v=.non
 |.bl b,v=>v=.bl b
 |.int i,v=>v=.int i
 |.str l,v=>v=.str (tx l)
 |.tup ws,v=>∃p vs,v=.ref p/\fq K H p vs/\RelWs μ H ws vs
 |.loc n,v=>∃a,μ[n]?=some a/\v=.ref a
def RelWs(μ:List Addr)(H:Hp):List W->List V->Prop
 |[],vs=>vs=[]
 |w::ws,vs=>∃x xs,vs=x::xs/\be μ H w x/\RelWs μ H ws xs
end
end
theorem pre_get(h:μ <+: μ')(e:μ[n]?=some a):μ'[n]?=some a:=by
 obtain⟨t,rfl⟩:=h
 rw[av (aa.mp e).1];exact e
section
mutual
theorem be.mono(h:μ <+: μ')(e:dB K H H'):∀{w:W} {v:V},be K μ H w v->be K μ' H' w v
 |.non,_,r=>by unfold be at r ⊢;exact r
 |.bl _,_,r=>by unfold be at r ⊢;exact r
 |.int _,_,r=>by unfold be at r ⊢;exact r
 |.str _,_,r=>by unfold be at r ⊢;exact r
 |.tup _,_,r=>by unfold be at r ⊢;obtain⟨p,vs,a,b,c⟩:=r;exact⟨p,vs,a,e _ _ b,RelWs.mono h e c⟩
 |.loc _,_,r=>by unfold be at r ⊢;obtain⟨a,b,c⟩:=r;exact⟨a,pre_get h b,c⟩
theorem RelWs.mono(h:μ <+: μ')(e:dB K H H'):∀{ws:List W} {vs:List V},RelWs K μ H ws vs->RelWs K μ' H' ws vs
 |[],_,r=>by unfold RelWs at r ⊢;exact r
 |_::_,_,r=>by unfold RelWs at r ⊢;obtain⟨x,xs,a,b,c⟩:=r;exact⟨x,xs,a,be.mono h e b,RelWs.mono h e c⟩
end
theorem RelWs.nilI:RelWs K μ H [] []:=by unfold RelWs;rfl
theorem RelWs.consI{w:W}{x:V}{xs:List V}(a:be K μ H w x)(b:RelWs K μ H ws xs):RelWs K μ H (w::ws) (x::xs):=by unfold RelWs;exact⟨x,xs,rfl,a,b⟩
theorem RelWs.nilE(h:RelWs K μ H [] vs):vs=[]:=by unfold RelWs at h;exact h
theorem RelWs.consE{w:W}(h:RelWs K μ H (w::ws) vs):∃x xs,vs=x::xs/\be K μ H w x/\RelWs K μ H ws xs:=by unfold RelWs at h;exact h
theorem RelWs.pr:∀{ws:List W} {vs:List V},RelWs K μ H ws vs↔Paired (fun w v=>be K μ H w v) ws vs
 |[],vs=>⟨fun h=>by rw[h.nilE];exact .nil,fun h=>by cases h;exact .nilI⟩
 |w::ws,vs=>⟨fun h=>by obtain⟨x,xs,rfl,a,b⟩:=h.consE;exact .cons a (RelWs.pr.mp b),fun h=>by cases h with|cons a b=>exact .consI a (RelWs.pr.mpr b)⟩
theorem RelWs.len(h:RelWs K μ H ws vs):ws.length=vs.length:=Paired.length (RelWs.pr.mp h)
theorem RelWs.app:∀{as:List W} {xs:List V} {bs:List W} {ys:List V},RelWs K μ H as xs->RelWs K μ H bs ys->RelWs K μ H (as++bs) (xs++ys)
 |[],xs,bs,ys,a,b=>by rw[a.nilE];exact b
 |w::as,xs,bs,ys,a,b=>by obtain⟨x,xs,rfl,c,d⟩:=a.consE;exact .consI c (RelWs.app d b)
theorem RelWs.get:∀{ws:List W} {vs:List V} {i:Nat} {w:W},RelWs K μ H ws vs->ws[i]?=some w->∃v,vs[i]?=some v/\be K μ H w v
 |[],_,_,_,_,e=>by simp at e
 |x::ws,vs,0,w,h,e=>by obtain⟨y,ys,rfl,a,b⟩:=h.consE;simp at e;subst e;exact⟨y,rfl,a⟩
 |x::ws,vs,i+1,w,h,e=>by obtain⟨y,ys,rfl,a,b⟩:=h.consE;simpa using RelWs.get (i:=i) b (by simpa using e)
theorem RelWs.take:∀{ws:List W} {vs:List V} (n:Nat),RelWs K μ H ws vs->RelWs K μ H (ws.take n) (vs.take n)
 |_,_,0,_=>by simp only[List.take_zero];exact .nilI
 |[],vs,n+1,h=>by rw[h.nilE];exact .nilI
 |x::ws,vs,n+1,h=>by obtain⟨y,ys,rfl,a,b⟩:=h.consE;exact .consI a (RelWs.take n b)
theorem RelWs.drop:∀{ws:List W} {vs:List V} (n:Nat),RelWs K μ H ws vs->RelWs K μ H (ws.drop n) (vs.drop n)
 |_,_,0,h=>h
 |[],vs,n+1,h=>by rw[h.nilE];exact .nilI
 |x::ws,vs,n+1,h=>by obtain⟨y,ys,rfl,a,b⟩:=h.consE;exact RelWs.drop n b
theorem RelWs.setI:∀{ws:List W} {vs:List V} (i:Nat) {w:W} {v:V},be K μ H w v->RelWs K μ H ws vs->RelWs K μ H (ws.set i w) (vs.set i v)
 |[],vs,_,_,_,_,h=>by rw[h.nilE];exact .nilI
 |x::ws,vs,0,w,v,r,h=>by obtain⟨y,ys,rfl,a,b⟩:=h.consE;exact .consI r b
 |x::ws,vs,i+1,w,v,r,h=>by obtain⟨y,ys,rfl,a,b⟩:=h.consE;exact .consI a (RelWs.setI i r b)
theorem be.intE{i:Int}{v:V}(h:be K μ H (.int i) v):v=.int i:=by unfold be at h;exact h
theorem be.blE{b:Bool}{v:V}(h:be K μ H (.bl b) v):v=.bl b:=by unfold be at h;exact h
theorem be.nonE{v:V}(h:be K μ H .non v):v=.non:=by unfold be at h;exact h
theorem be.strE{v:V}(h:be K μ H (.str l) v):v=.str (tx l):=by unfold be at h;exact h
theorem be.tupE{v:V}(h:be K μ H (.tup ws) v):∃p vs,v=.ref p/\fq K H p vs/\RelWs K μ H ws vs:=by unfold be at h;exact h
theorem be.locE{v:V}(h:be K μ H (.loc n) v):∃a,μ[n]?=some a/\v=.ref a:=by unfold be at h;exact h
theorem be.int{i:Int}:be K μ H (.int i) (.int i):=by unfold be;rfl
theorem be.bl{i:Bool}:be K μ H (.bl i) (.bl i):=by unfold be;rfl
theorem be.non:be K μ H .non .non:=by unfold be;rfl
theorem be.str:be K μ H (.str l) (.str (tx l)):=by unfold be;rfl
theorem be.tupI{p:Addr}(a:fq K H p vs)(b:RelWs K μ H ws vs):be K μ H (.tup ws) (.ref p):=by unfold be;exact⟨p,vs,rfl,a,b⟩
theorem be.locI(e:μ[n]?=some a):be K μ H (.loc n) (.ref a):=by unfold be;exact⟨a,e,rfl⟩
end
def Qr(a:Addr)(C:Value):HO:=.ext fun h=>∃o vs,h.get? a=some o/\o.cls=C/\o.data=.fields vs
def iH(b:Addr)(q:Str):HO:=.ext fun h=>∃o vs t,h.get? b=some o/\o.data=.fields vs/\vs[1]?=some (.str q t)
def S9(K:Frag)(H:Hp)(a:Addr)(xs:List V):Prop:=
 (∃o,H a=some (.frz o (.lst xs)))\/∃(o:Obj) (bC:Array Value) (n:Nat),K.lookup a=some o/\o.cls=.type "list"/\o.dict=none/\o.data=.seq bC n/\bC.size<=sizeLine/\cA xs bC.toList
theorem S9.sq{xs:List V}(h:S9 K H a xs):rO K H a xs:=by
 rcases h with⟨o,h⟩|h
 ·exact .inl (.inr ⟨o,h⟩)
 ·exact .inr h
def aj.isRo:aj->Bool
 |.ro _=>true
 |.gone=>true
 |_=>false
def DX(a:Addr)(es:List DictEntry):Heap->Prop:=fun h=>∃o ep,h.get? a=some o/\o.ExactDict/\o.data=.dict es.toArray ep
abbrev M8(a:Addr)(es:List DictEntry):HO:=.ext (DX a es)
def rR(K:Frag)(μ:List Addr)(H:Hp)(p:KX×W)(e:DictEntry):Prop:=e.hash=p.1.hash/\(∃v,be K μ H p.1.w v/\bN v e.key)/\∃v,be K μ H p.2 v/\bN v e.val
def lM(a:Addr)(o:Obj):HO:=.ext fun h=>h.get? a=some o
def kS(K:Frag)(mg:Str->Option Value)(μ:List Addr)(H:Hp):aj->Addr->Prop
 |.lst ws,a=>∃vs,H a=some (.lst vs)/\RelWs K μ H ws vs
 |.ro ws,a=>∃vs,S9 K H a vs/\RelWs K μ H ws vs
 |.exc c,a=>∃C,mg c=some C/\H a=some (Qr a C)
 |.dct kvs,a=>∃vs,H a=some (.dK ((kvs.map fun p=>p.1.key).zip vs))/\RelWs K μ H (kvs.map fun p=>p.2) vs
 |.rod kvs,a=>∃vs o,H a=some (.frz o (.dK ((kvs.map fun p=>p.1.key).zip vs)))/\RelWs K μ H (kvs.map fun p=>p.2) vs
 |.dcx kvs,a=>∃es,H a=some (M8 a es)/\(a==sysModules)=false/\Paired (rR K μ H) kvs es/\(kvs.map fun p=>p.1).Nodup
 |.tab P pos q,a=>a=P/\∃ps,H a=some (.tbl ps)/\TriplesOk ps.toList/\(codeAmong pos ps.toList=none\/∃c,codeAmong pos ps.toList=some (.ref c)/\H c=some (iH c q))
 |.pin k c o w,a=>a=c/\H a=some (lM a o)/\(k=false->∃fd cd,o.data=.func fd/\fd.code=.ref cd/\H cd=some (iH cd fd.qualname))/\∃v,be K μ H w v/\(k=true->∃u,o.data=.cell (some u)/\bN v u)
 |.gone,_=>True
structure fX(K:Frag)(mg:Str->Option Value)(μ:List Addr)(st:List aj)(H:Hp):Prop where
 nd:∀(i j:Nat) (a:Addr) (ci cj:aj),st[i]?=some ci->st[j]?=some cj->ci.isRo=false->cj.isRo=false->μ[i]?=some a->μ[j]?=some a->i=j
 len:st.length=μ.length
 at':∀(i:Nat) (c:aj) (a:Addr),st[i]?=some c->μ[i]?=some a->kS K mg μ H c a
section
variable{st:List aj}
theorem rR.mono(h:μ <+: μ')(x:dB K H H'){p:KX×W}{e:DictEntry}(r:rR K μ H p e):rR K μ' H' p e:=by
 obtain⟨a,⟨v,b,c⟩,u,d,g⟩:=r
 exact⟨a,⟨v,b.mono h x,c⟩,u,d.mono h x,g⟩
theorem kS.keep(h:μ <+: μ')(x:dB K H H'){c:aj}(e:∀o,H a=some o->H' a=some o)(e2:∀b q,H b=some (iH b q)->H' b=some (iH b q))(r:kS K mg μ H c a):kS K mg μ' H' c a:=by
 cases c with
 |lst ws=>obtain⟨vs,p,y⟩:=r;exact⟨vs,e _ p,y.mono h x⟩
 |ro ws=>
  obtain⟨vs,p,y⟩:=r
  refine⟨vs,?_,y.mono h x⟩
  rcases p with⟨o,p⟩|p
  ·exact .inl ⟨o,e _ p⟩
  ·exact .inr p
 |exc c=>obtain⟨C,p,y⟩:=r;exact⟨C,p,e _ y⟩
 |dct kvs=>obtain⟨vs,p,y⟩:=r;exact⟨vs,e _ p,y.mono h x⟩
 |rod kvs=>obtain⟨vs,o,p,y⟩:=r;exact⟨vs,o,e _ p,y.mono h x⟩
 |dcx kvs=>obtain⟨es,p,d,y,z⟩:=r;exact⟨es,e _ p,d,Paired.imp' (fun _ _ q=>q.mono h x) y,z⟩
 |tab P pos q=>
  obtain⟨ea,ps,p,t,y⟩:=r
  refine⟨ea,ps,e _ p,t,?_⟩
  rcases y with y|⟨c,y,z⟩
  ·exact .inl y
  ·exact .inr ⟨c,y,e2 _ _ z⟩
 |pin k c o w=>obtain⟨ea,p,g,v,y,z⟩:=r;exact⟨ea,e _ p,fun q=>let ⟨fd,cd,q1,q2,q3⟩:=g q;⟨fd,cd,q1,q2,e2 _ _ q3⟩,v,y.mono h x,z⟩
 |gone=>trivial
theorem kS.ro_ne{c:aj}(r:kS K mg μ H c a)(h:c.isRo=false):∃o,H a=some o:=by
 cases c with
 |lst ws=>obtain⟨vs,p,y⟩:=r;exact⟨_,p⟩
 |ro ws=>cases h
 |exc c=>obtain⟨C,p,y⟩:=r;exact⟨_,y⟩
 |dct kvs=>obtain⟨vs,p,y⟩:=r;exact⟨_,p⟩
 |rod kvs=>obtain⟨vs,o,p,y⟩:=r;exact⟨_,p⟩
 |dcx kvs=>obtain⟨es,p,_⟩:=r;exact⟨_,p⟩
 |tab P pos q=>obtain⟨_,ps,p,_⟩:=r;exact⟨_,p⟩
 |pin k c o w=>obtain⟨_,p,_⟩:=r;exact⟨_,p⟩
 |gone=>cases h
theorem fX.same(S:fX K mg μ st H)(e:oE H H'):fX K mg μ st H':=⟨S.nd,S.len,fun i c a h1 h2=>(S.at' i c a h1 h2).keep (ag _) (fq.same e) (e a) fun b q h=>e b _ h⟩
theorem fX.get(S:fX K mg μ st H){c:aj}(h:st[n]?=some c):∃a,μ[n]?=some a/\kS K mg μ H c a:=by
 have hn:n<μ.length:=by rw[<- S.len];exact(aa.mp h).1
 exact⟨μ[n],ae hn,S.at' n c _ h (ae hn)⟩
theorem fX.push(S:fX K mg μ st H){p:Addr}{o:HO}{c:aj}(hp:H p=none)(hc:kS K mg (μ++[p]) (d_ H p o) c p):fX K mg (μ++[p]) (st++[c]) (d_ H p o):=by
 have hs:oE H (d_ H p o):=ce hp o
 have xL:μ <+: μ++[p]:=aq _ _
 have old:∀{i:Nat} {d:aj} {a:Addr},i<st.length->(st++[c])[i]?=some d->(μ++[p])[i]?=some a->st[i]?=some d/\μ[i]?=some a:=fun{i d a} hi h1 h2=>by
  rw[av hi]at h1
  rw[av (by rw[<- S.len];exact hi)]at h2
  exact⟨h1,h2⟩
 have new:∀{i:Nat} {d:aj} {a:Addr},¬ i<st.length->(st++[c])[i]?=some d->(μ++[p])[i]?=some a->i=st.length/\d=c/\a=p:=fun{i d a} hi h1 h2=>by
  have hi':i=st.length:=by
   have:=(aa.mp h1).1
   simp at this;omega
  subst hi'
  simp at h1
  rw[S.len,cy (au _)]at h2
  simp at h2
  exact⟨rfl,h1.symm,h2.symm⟩
 refine⟨fun i j a ci cj h1 h2 r1 r2 m1 m2=>?_,by simp[S.len],fun i d a h1 h2=>?_⟩
 ·by_cases hi:i<st.length
  ·obtain⟨x1,x2⟩:=old hi h1 m1
   by_cases hj:j<st.length
   ·obtain⟨y1,y2⟩:=old hj h2 m2
    exact S.nd i j a ci cj x1 y1 r1 r2 x2 y2
   ·obtain⟨_,_,rfl⟩:=new hj h2 m2
    obtain⟨o',z⟩:=(S.at' i ci a x1 x2).ro_ne r1
    rw[hp]at z;cases z
  ·obtain⟨e1,_,rfl⟩:=new hi h1 m1
   by_cases hj:j<st.length
   ·obtain⟨y1,y2⟩:=old hj h2 m2
    obtain⟨o',z⟩:=(S.at' j cj a y1 y2).ro_ne r2
    rw[hp]at z;cases z
   ·obtain⟨e2,_,_⟩:=new hj h2 m2
    omega
 ·by_cases hi:i<st.length
  ·obtain⟨x1,x2⟩:=old hi h1 h2
   exact(S.at' i d a x1 x2).keep xL (fq.same hs) (hs a) fun b q h=>hs b _ h
  ·obtain⟨_,rfl,rfl⟩:=new hi h1 h2
   exact hc
theorem fX.setG(S:fX K mg μ st H){c c':aj}{o o':HO}(hn:st[n]?=some c)(ux:c.isRo=false)(hm:μ[n]?=some a)(ha:H a=some o)(hf:∀q u,o≠.frz q u)(hg:∀q,o≠iH a q)(hx:dB K H (d_ H a o'))(Va:c'.isRo=false)(hr:kS K mg μ (d_ H a o') c' a):fX K mg μ (st.set n c') (d_ H a o'):=by
 have hl:n<st.length:=(aa.mp hn).1
 have back:∀{i:Nat} {d:aj},(st.set n c')[i]?=some d->∃d',st[i]?=some d'/\(d'=d\/(i=n/\d=c')):=fun{i d} h=>by
  by_cases e:i=n
  ·subst e
   rw[bh hl]at h
   exact⟨_,hn,.inr ⟨rfl,(aU h).symm⟩⟩
  ·rw[bp (Ne.symm e)]at h
   exact⟨d,h,.inl rfl⟩
 refine⟨fun i j b ci cj h1 h2 r1 r2 m1 m2=>?_,by simp[S.len],fun i d b h1 h2=>?_⟩
 ·obtain⟨di,x1,y1⟩:=back h1
  obtain⟨dj,x2,y2⟩:=back h2
  refine S.nd i j b di dj x1 x2 ?_ ?_ m1 m2
  ·rcases y1 with rfl|⟨rfl,rfl⟩
   ·exact r1
   ·rw[hn]at x1;cases x1;exact ux
  ·rcases y2 with rfl|⟨rfl,rfl⟩
   ·exact r2
   ·rw[hn]at x2;cases x2;exact ux
 ·by_cases e:i=n
  ·subst e
   rw[bh hl]at h1
   cases h1
   rw[hm]at h2;cases h2
   exact hr
  ·rw[bp (Ne.symm e)]at h1
   have r:=S.at' i d b h1 h2
   by_cases hrd:d.isRo=true
   ·cases d with
    |ro zs=>
     obtain⟨us,p,q⟩:=r
     refine⟨us,?_,q.mono (ag _) hx⟩
     rcases p with⟨o2,p⟩|p
     ·exact .inl ⟨o2,by rw[cu (by rintro rfl;rw[ha]at p;cases p;exact hf _ _ rfl)];exact p⟩
     ·exact .inr p
    |lst _=>cases hrd
    |exc _=>cases hrd
    |dct _=>cases hrd
    |rod _=>cases hrd
    |dcx _=>cases hrd
    |tab _ _ _=>cases hrd
    |pin _ _ _ _=>cases hrd
    |gone=>trivial
   ·refine r.keep (ag _) hx (fun o ho=>?_) fun b' q h=>by rw[cu (by rintro rfl;rw[ha]at h;cases h;exact hg _ rfl)];exact h
    have hb:b≠a:=by
     rintro rfl
     exact e (S.nd i n b d _ h1 hn (by simpa using hrd) ux h2 hm)
    rw[cu hb];exact ho
theorem fX.set(S:fX K mg μ st H){SU:List W}{Ii:List V}(hn:st[n]?=some (.lst ws))(hm:μ[n]?=some a)(ha:H a=some (.lst vs))(hr:RelWs K μ H SU Ii):fX K mg μ (st.set n (.lst SU)) (d_ H a (.lst Ii)):=by
 have hx:dB K H (d_ H a (.lst Ii)):=fq.but f7 ha
 have hl:n<st.length:=(aa.mp hn).1
 have back:∀{i:Nat} {d:aj},(st.set n (.lst SU))[i]?=some d->∃d',st[i]?=some d'/\(d'=d\/(i=n/\d=.lst SU)):=fun{i d} h=>by
  by_cases e:i=n
  ·subst e
   rw[bh hl]at h
   exact⟨_,hn,.inr ⟨rfl,(aU h).symm⟩⟩
  ·rw[bp (Ne.symm e)]at h
   exact⟨d,h,.inl rfl⟩
 refine⟨fun i j b ci cj h1 h2 r1 r2 m1 m2=>?_,by simp[S.len],fun i d b h1 h2=>?_⟩
 ·obtain⟨di,x1,y1⟩:=back h1
  obtain⟨dj,x2,y2⟩:=back h2
  refine S.nd i j b di dj x1 x2 ?_ ?_ m1 m2
  ·rcases y1 with rfl|⟨rfl,rfl⟩
   ·exact r1
   ·rw[hn]at x1;cases x1;rfl
  ·rcases y2 with rfl|⟨rfl,rfl⟩
   ·exact r2
   ·rw[hn]at x2;cases x2;rfl
 ·by_cases e:i=n
  ·subst e
   rw[bh hl]at h1
   cases h1
   rw[hm]at h2;cases h2
   exact⟨Ii,dD,hr.mono (ag _) hx⟩
  ·rw[bp (Ne.symm e)]at h1
   have r:=S.at' i d b h1 h2
   by_cases ux:d.isRo=true
   ·cases d with
    |ro zs=>
     obtain⟨us,p,q⟩:=r
     refine⟨us,?_,q.mono (ag _) hx⟩
     rcases p with⟨o',p⟩|p
     ·exact .inl ⟨o',by rw[cu (by rintro rfl;rw[ha]at p;cases p)];exact p⟩
     ·exact .inr p
    |lst _=>cases ux
    |exc _=>cases ux
    |dct _=>cases ux
    |rod _=>cases ux
    |dcx _=>cases ux
    |tab _ _ _=>cases ux
    |pin _ _ _ _=>cases ux
    |gone=>trivial
   ·refine r.keep (ag _) hx (fun o ho=>?_) fun b' q h=>by rw[cu (by rintro rfl;rw[ha]at h;cases h)];exact h
    have hb:b≠a:=by
     rintro rfl
     exact e (S.nd i n b d _ h1 hn (by simpa using ux) rfl h2 hm)
    rw[cu hb];exact ho
end
structure Rl(X:Cx)(μ:List Addr)(ρ:bQ)(st:List aj)(σ:St)(H:Hp):Prop where
 env:Paired (fun(o:Option W) (s:Option V)=>∀w,o=some w->∃v,s=some v/\be X.K μ H w v) ρ σ
 sto:fX X.K X.mg μ st H
theorem qL(h:μ <+: μ')(x:dB K H H'):∀{ρ:bQ} {σ:St},Paired (fun(o:Option W) (s:Option V)=>∀w,o=some w->∃v,s=some v/\be K μ H w v) ρ σ ->
  Paired (fun(o:Option W) (s:Option V)=>∀w,o=some w->∃v,s=some v/\be K μ' H' w v) ρ σ
 |_,_,.nil=>.nil
 |_,_,.cons a t=>.cons (fun w e=>let ⟨v,p,q⟩:=a w e;⟨v,p,q.mono h x⟩) (qL h x t)
theorem Rl.to{ρ:bQ}{st:List aj}(r:Rl X μ ρ st σ H)(h:μ <+: μ')(x:dB X.K H H')(s:fX X.K X.mg μ' bE H'):Rl X μ' ρ bE σ H':=⟨qL h x r.env,s⟩
theorem lN:∀{ρ:bQ} {σ:St} {i:Nat} {w:W},Paired (fun(o:Option W) (s:Option V)=>∀w,o=some w->∃v,s=some v/\be K μ H w v) ρ σ->ρ[i]?=some (some w)->∃v,σ[i]?=some (some v)/\be K μ H w v
 |_,_,_,_,.nil,e=>by simp at e
 |_,_,0,w,.cons a t,e=>by simp at e;obtain⟨v,p,q⟩:=a w e;exact⟨v,by simp[p],q⟩
 |_,_,i+1,w,.cons a t,e=>by simpa using lN (i:=i) t (by simpa using e)
theorem pY{w:W}{v:V}(r:be K μ H w v):∀{ρ:bQ} {σ:St} (i:Nat),Paired (fun(o:Option W) (s:Option V)=>∀w,o=some w->∃v,s=some v/\be K μ H w v) ρ σ ->
  Paired (fun(o:Option W) (s:Option V)=>∀w,o=some w->∃v,s=some v/\be K μ H w v) (ρ.set i (some w)) (σ.set i (some v))
 |_,_,_,.nil=>.nil
 |_,_,0,.cons a t=>.cons (fun w' e=>⟨v,rfl,by cases e;exact r⟩) t
 |_,_,i+1,.cons a t=>.cons a (pY r i t)
structure ve(X:Cx)(pins:List (Addr×Obj))(σ:St)(c:Str)(H:Hp)(e:Value)(s:Shared):Prop where
 inv:bv X pins σ H s
 ex:∃x C t B,e=.ref x/\X.mg c=some C/\H x=none/\B.StaysIn s.heap/\B.get? x=none/\s.heap.FunFrames B X.stack /\
  (s.heap.TracedW B x C (.ref t)\/(∃oe vs,s.heap.get? x=some oe/\oe.cls=C/\oe.dict=none/\oe.data=.fields vs/\vs[1]?=some .none/\vs[0]?=some (.ref t))\/∃L,X.env.frame=some L/\s.heap.TracedAtW B x C (.ref t) (rawInt L)) /\
  ∀b o,s.heap.get? b=some o->(H b≠none\/((∃o0,X.s₀.heap.get? b=some o0)/\b∉X.fs/\b∉X.ex)\/((∃y,X.env.cells.lookup y=some b)/\b∉ml X.stack)\/∃p∈X.pn++pins,p.1=b)->B.get? b=some o
def XS(X:Cx)(c:Str)(μ:List Addr)(ρ:bQ)(st:List aj)(H:Hp):Prop:=
 ∀pins μ' σ' H' e s',μ <+: μ'->dB X.K H H'->Rl X μ' ρ st σ' H'->ve X pins σ' c H' e s'->X.xe e s'
def XE(X:Cx)(c:Str)(μ:List Addr)(st:List aj)(σ:St)(H:Hp):Prop:=
 ∀pins μ' H' e s',μ <+: μ'->dB X.K H H'->fX X.K X.mg μ' st H'->ve X pins σ c H' e s'->X.xe e s'
theorem XE.mono{c:Str}{μ1:List Addr}{st:List aj}{H1:Hp}(h:XE X c μ st σ H)(p:μ <+: μ1)(x:dB X.K H H1):XE X c μ1 st σ H1:=fun pins μ' H' e s' a b=>h pins μ' H' e s' (p.trans a) (x.trans b)
theorem XS.mono{c:Str}{μ1:List Addr}{ρ:bQ}{st:List aj}{H1:Hp}(h:XS X c μ ρ st H)(p:μ <+: μ1)(x:dB X.K H H1):XS X c μ1 ρ st H1:=fun pins μ' σ' H' e s' a b=>h pins μ' σ' H' e s' (p.trans a) (x.trans b)
theorem XS.toE{c:Str}{ρ:bQ}{CJ st:List aj}(h:XS X c μ ρ st H)(r:Rl X μ ρ CJ σ H):XE X c μ st σ H:=fun pins μ' H' e s' a b s f=>h pins μ' σ H' e s' a b (r.to a b s) f
def RK(X:Cx)(jc:List Addr->Hp->α->β->Prop)(μ:List Addr)(σ:St)(H:Hp)(Q:β->Hp->Prop):R α->Prop
 |.ok a bE=>∀μ' b H',μ <+: μ'->dB X.K H H'->fX X.K X.mg μ' bE H'->jc μ' H' a b->Q b H'
 |.ex c bE=>XE X c μ bE σ H
 |.bad=>False
theorem RK.mono{jc:List Addr->Hp->α->β->Prop}{μ1:List Addr}{H1:Hp}{Q:β->Hp->Prop}{r:R α}(h:RK X jc μ σ H Q r)(p:μ <+: μ1)(x:dB X.K H H1):RK X jc μ1 σ H1 Q r:=by
 cases r with
 |ok a st=>exact fun μ' b H' a1 b1=>h μ' b H' (p.trans a1) (x.trans b1)
 |ex c st=>exact XE.mono h p x
 |bad=>exact h
def tG(X:Cx)(jc:List Addr->Hp->α->β->Prop)(f:bQ->List aj->R α)(σ:St)(H:Hp)(Q:β->Hp->Prop):Prop:=
 ∃μ ρ st,Rl X μ ρ st σ H/\RK X jc μ σ H Q (f ρ st)
abbrev rS(X:Cx):List Addr->Hp->W->V->Prop:=fun μ H w v=>be X.K μ H w v
abbrev TZ(X:Cx):List Addr->Hp->List W->List V->Prop:=fun μ H w v=>RelWs X.K μ H w v
abbrev M9:List Addr->Hp->Bool->Bool->Prop:=fun _ _ a b=>a=b
abbrev tE(X:Cx)(f:FE):TE:=tG X (rS X) f
abbrev tT(X:Cx)(f:FT):TT:=tG X M9 f
abbrev Qs(X:Cx)(f:FA):TA:=tG X (TZ X) f
theorem RK.bind{α' β':Type}{jc:List Addr->Hp->α->β->Prop}{So:List Addr->Hp->α'->β'->Prop}{ρ:bQ}{st:List aj}{r:R α}{k:α->List aj->R α'}{Q:β'->Hp->Prop}{T:β->Hp->Prop}
  (h:RK X So μ σ H Q (r.bind k)) (l:Rl X μ ρ st σ H)
  (hk:∀μ' bE x v H',μ <+: μ'->dB X.K H H'->Rl X μ' ρ bE σ H'->jc μ' H' x v->RK X So μ' σ H' Q (k x bE)->T v H'):RK X jc μ σ H T r:=by
 cases r with
 |ok a bE=>exact fun μ' b H' p x s q=>hk μ' bE a b H' p x (l.to p x s) q (RK.mono h p x)
 |ex c bE=>exact h
 |bad=>exact h
def SK(X:Cx)(μ:List Addr)(H:Hp)(D:v5):RS->Prop
 |.nx ρ st=>∀μ' σ' H',μ <+: μ'->dB X.K H H'->Rl X μ' ρ st σ' H'->D.nx σ' H'
 |.bk ρ st=>∀μ' σ' H',μ <+: μ'->dB X.K H H'->Rl X μ' ρ st σ' H'->D.bk σ' H'
 |.ct ρ st=>∀μ' σ' H',μ <+: μ'->dB X.K H H'->Rl X μ' ρ st σ' H'->D.ct σ' H'
 |.rt w st=>∀μ' v H',μ <+: μ'->dB X.K H H'->fX X.K X.mg μ' st H'->be X.K μ' H' w v->D.rt v H'
 |.ex c ρ st=>XS X c μ ρ st H
 |.bad=>False
theorem SK.mono{μ1:List Addr}{H1:Hp}{D:v5}{r:RS}(h:SK X μ H D r)(p:μ <+: μ1)(x:dB X.K H H1):SK X μ1 H1 D r:=by
 cases r with
 |nx ρ st=>exact fun μ' b H' a1 b1=>h μ' b H' (p.trans a1) (x.trans b1)
 |bk ρ st=>exact fun μ' b H' a1 b1=>h μ' b H' (p.trans a1) (x.trans b1)
 |ct ρ st=>exact fun μ' b H' a1 b1=>h μ' b H' (p.trans a1) (x.trans b1)
 |rt w st=>exact fun μ' b H' a1 b1=>h μ' b H' (p.trans a1) (x.trans b1)
 |ex c ρ st=>exact XS.mono h p x
 |bad=>exact h
def Pg(X:Cx)(g:FS):TS:=fun D σ H=>∃μ ρ st,Rl X μ ρ st σ H/\SK X μ H D (g ρ st)
structure SE(X:Cx)(e:Expr)(f:FE):Prop where
 h:PE X e (tE X f)
structure ST(X:Cx)(e:Expr)(f:FT):Prop where
 h:PT X e (tT X f)
structure SW(X:Cx)(e:Expr)(f:FT):Prop where
 h:PW X e (tT X f)
structure SA(X:Cx)(es:List Expr)(f:FA):Prop where
 h:PA X es (Qs X f)
structure SS(X:Cx)(s:Stmt)(g:FS):Prop where
 h:PS X s (Pg X g)
structure SB(X:Cx)(s:List Stmt)(g:FS):Prop where
 h:CU X s (Pg X g)
theorem PE.imp{t t':TE}(h:PE X e t)(i:∀σ H Q,t' σ H Q->t σ H Q):PE X e t':=fun pins s σ H Q I q=>h pins s σ H Q I (i _ _ _ q)
theorem PT.imp{t t':TT}(h:PT X e t)(i:∀σ H Q,t' σ H Q->t σ H Q):PT X e t':=fun pins s σ H Q I q=>h pins s σ H Q I (i _ _ _ q)
theorem PW.imp{t t':TT}(h:PW X e t)(i:∀σ H Q,t' σ H Q->t σ H Q):PW X e t':=fun wh pins s σ H Q I q=>h wh pins s σ H Q I (i _ _ _ q)
theorem PA.imp{e:List Expr}{t t':TA}(h:PA X e t)(i:∀σ H Q,t' σ H Q->t σ H Q):PA X e t':=fun pos pins s σ H Q I q=>h pos pins s σ H Q I (i _ _ _ q)
theorem PS.imp{e:Stmt}{t t':TS}(h:PS X e t)(i:∀D σ H,t' D σ H->t D σ H):PS X e t':=fun pins s σ H D I q=>h pins s σ H D I (i _ _ _ q)
theorem CU.imp{e:List Stmt}{t t':TS}(h:CU X e t)(i:∀D σ H,t' D σ H->t D σ H):CU X e t':=fun pins s σ H D I q=>h pins s σ H D I (i _ _ _ q)
section
variable{a b o:Expr}{rest:List Expr}{fa fb fc fe:FE}{ft fu:FT}{fs:FA}
def ac(i:Nat):FE:=fun ρ st=>match ρ[i]? with
 |some (some w)=>.ok w st
 |_=>.bad
theorem aY(i:Nat){pos:Pos}(hN:X.N[i]?=some x:=by rfl)(hv:Pf X.env.scope x:=by first|exact Or.inl rfl|exact Or.inr (Or.inl rfl)|exact Or.inr (Or.inr rfl))(hd:(x==("__debug__":Str))=false:=by decide)
  (lK:(x==("__classdict__":Str))=false:=by decide):SE X (.Name x pos) (ac i):=⟨(pv i hN hv hd lK).imp fun σ H Q h=>by
 obtain⟨μ,ρ,st,r,h⟩:=h
 unfold ac at h
 cases e:ρ[i]? with
 |none=>rw[e]at h;exact h.elim
 |some ow=>
  cases ow with
  |none=>rw[e]at h;exact h.elim
  |some w=>
   rw[e]at h
   obtain⟨v,e1,e2⟩:=lN r.env e
   exact⟨v,e1,h μ v H (ag _) dB.refl r.sto e2⟩⟩
def eC(w:W):FE:=fun _ st=>.ok w st
abbrev eI(n:Int):FE:=eC (.int n)
theorem S_{w:W}{v:V}(hc:PE X e (tC v))(hr:∀μ H,be X.K μ H w v):SE X e (eC w):=⟨hc.imp fun σ H Q h=>by
 obtain⟨μ,ρ,st,r,h⟩:=h
 exact h μ v H (ag _) dB.refl r.sto (hr _ _)⟩
theorem bY{i:Int}:SE X (.Constant (.int i) j pos) (eC (.int i)):=S_ Mk fun _ _=>.int
theorem Dh{k:Bool}:SE X (.Constant (.bool k) j pos) (eC (.bl k)):=S_ Py fun _ _=>.bl
theorem Qt:SE X (.Constant .none j pos) (eC .non):=S_ Ml fun _ _=>.non
theorem KL(h:x=tx l:=by decide +kernel):SE X (.Constant (.str x) j pos) (eC (.str l)):=S_ Mm fun _ _=>by rw[h];exact .str
def e2(f:W->W->List aj->R W)(fa fb:FE):FE:=fun ρ st=>(fa ρ st).bind fun x st=>(fb ρ st).bind fun y st=>f x y st
def Ee(X:Cx)(μ:List Addr)(H:Hp)(Q:VK):R W->Prop
 |.ok w bE=>∀μ' v H',μ <+: μ'->dB X.K H H'->fX X.K X.mg μ' bE H'->be X.K μ' H' w v->Q v H'
 |_=>False
def qM:R α->Prop
 |.ex _ _=>False
 |_=>True
def T0(X:Cx)(f:W->W->List aj->R W):R2:=fun x y H Q=>∃μ st wx wy,fX X.K X.mg μ st H/\be X.K μ H wx x/\be X.K μ H wy y/\Ee X μ H Q (f wx wy st)
structure rT(X:Cx)(g:Value->Value->Sem Value)(f:W->W->List aj->R W):Prop where
 h:n6 X g (T0 X f)
 n:∀x y st,qM (f x y st)
theorem sW{Q:VK}{r:R W}(h:RK X (rS X) μ σ H Q r)(n:qM r):Ee X μ H Q r:=by
 cases r with
 |ok a st=>exact h
 |ex c st=>exact n.elim
 |bad=>exact h
theorem By{f:W->W->List aj->R W}{Q:VK}(n:∀x y st,qM (f x y st))(h:tE X (e2 f fa fb) σ H Q):PQ (T0 X f) (tE X fa) (tE X fb) σ H Q:=by
 obtain⟨μ,ρ,st,l,h⟩:=h
 refine⟨μ,ρ,st,l,RK.bind h l fun μ1 st1 x v H1 p1 x1 l1 q1 h1=>⟨μ1,ρ,st1,l1,RK.bind h1 l1 fun μ2 cM y u H2 p2 x2 l2 q2 h2=>?_⟩⟩
 exact⟨μ2,cM,x,y,l2.sto,q1.mono p2 x2,q2,sW h2 (n _ _ _)⟩
theorem nr{op:Operator}{f:W->W->List aj->R W}(ho:rT X (binaryOp op) f)(ha:SE X a fa)(hb:SE X b fb):SE X (.BinOp a op b pos) (e2 f fa fb):=⟨(PR ho.h ha.h hb.h).imp fun _ _ _ h=>By ho.n h⟩
theorem EU{f:W->W->List aj->R W}(ho:rT X (compareOp op) f)(ha:SE X a fa)(hb:SE X b fb)(hm:behindInMarks op b=false:=by first|exact Ew _|rfl):SE X (.Compare a [op] [b] pos) (e2 f fa fb):=⟨(ID ho.h ha.h hb.h hm).imp fun _ _ _ h=>By ho.n h⟩
def eV(fa:FE):FT:=fun ρ st=>(fa ρ st).bind fun x st=>match x with
 |.bl k=>.ok k st
 |_=>.bad
theorem pZ{Q:Bool->Hp->Prop}(h:tT X (eV fa) σ H Q):tE X fa σ H fun x H1=>∃k,x=.bl k/\Q k H1:=by
 obtain⟨μ,ρ,st,l,h⟩:=h
 refine⟨μ,ρ,st,l,RK.bind h l fun μ1 st1 x v H1 p1 x1 l1 q1 h1=>?_⟩
 cases x with
 |bl k=>exact⟨k,q1.blE,h1 μ1 k H1 (ag _) dB.refl l1.sto rfl⟩
 |_=>exact h1.elim
theorem jV{f:W->W->List aj->R W}(ho:rT X (compareOp op) f)(ha:SE X a fa)(hb:SE X b fb)(hm:behindInMarks op b=false:=by first|exact Ew _|rfl):ST X (.Compare a [op] [b] pos) (eV (e2 f fa fb)):=⟨(IE ho.h ha.h hb.h hm).imp fun σ H Q h=>by
 have h':tE X (e2 f fa fb) σ H fun x H1=>∃k,x=.bl k/\Q k H1:=pZ h
 exact By ho.n h'⟩
theorem Ad(h:SE X e fe)(he:∀uw,isTrue e X.env uw=(do let v <- uw;standAt e.pos;holding [v] (truthy v)):=by intro _;rfl):ST X e (eV fe):=⟨(Mo h.h he).imp fun σ H Q h=>pZ h⟩
def Ef(t u:FT):FT:=fun ρ st=>(t ρ st).bind fun k st=>if k then u ρ st else .ok false st
def uB(t u:FT):FT:=fun ρ st=>(t ρ st).bind fun k st=>if k then .ok true st else u ρ st
def Bz(t:FT):FT:=fun ρ st=>(t ρ st).bind fun k st=>.ok (!k) st
theorem Jb(ha:ST X a ft):SW X (.BoolOp .And [a] pos) ft:=⟨Ip ha.h⟩
theorem wm(ha:ST X a ft):SW X (.BoolOp .Or [a] pos) ft:=⟨Mp ha.h⟩
theorem EV(ha:ST X a ft)(hb:SW X (.BoolOp .And (b::rest) pos) fu):SW X (.BoolOp .And (a::b::rest) pos) (Ef ft fu):=⟨(Mq ha.h hb.h).imp fun σ H Q h=>by
 obtain⟨μ,ρ,st,l,h⟩:=h
 refine⟨μ,ρ,st,l,RK.bind h l fun μ1 st1 x v H1 p1 x1 l1 q1 h1=>?_⟩
 cases q1
 cases x with
 |true=>exact⟨μ1,ρ,st1,l1,h1⟩
 |false=>exact h1 μ1 false H1 (ag _) dB.refl l1.sto rfl⟩
theorem yp(ha:ST X a ft)(hb:SW X (.BoolOp .Or (b::rest) pos) fu):SW X (.BoolOp .Or (a::b::rest) pos) (uB ft fu):=⟨(PB ha.h hb.h).imp fun σ H Q h=>by
 obtain⟨μ,ρ,st,l,h⟩:=h
 refine⟨μ,ρ,st,l,RK.bind h l fun μ1 st1 x v H1 p1 x1 l1 q1 h1=>?_⟩
 cases q1
 cases x with
 |false=>exact⟨μ1,ρ,st1,l1,h1⟩
 |true=>exact h1 μ1 true H1 (ag _) dB.refl l1.sto rfl⟩
theorem EW(h:SW X e ft):ST X e ft:=⟨h.h.pt⟩
theorem Ae(ha:ST X a ft):ST X (.UnaryOp .Not a pos) (Bz ft):=⟨(Mr ha.h).imp fun σ H Q h=>by
 obtain⟨μ,ρ,st,l,h⟩:=h
 refine⟨μ,ρ,st,l,RK.bind h l fun μ1 st1 x v H1 p1 x1 l1 q1 h1=>?_⟩
 cases q1
 exact h1 μ1 _ H1 (ag _) dB.refl l1.sto rfl⟩
def Qu(fa:FE):FE:=fun ρ st=>(fa ρ st).bind fun x st=>match x with
 |.bl k=>.ok (.bl (!k)) st
 |_=>.bad
def W.isNon:W->Bool
 |.non=>true
 |_=>false
def Af(fa:FE):FE:=fun ρ st=>(fa ρ st).bind fun x st=>.ok (.bl x.isNon) st
def vf(fa:FE):FE:=fun ρ st=>(fa ρ st).bind fun x st=>.ok (.bl (!x.isNon)) st
theorem KM{w:W}{v:V}(r:be X.K μ H w v):decide (v=.non)=w.isNon:=by
 cases w with
 |non=>rw[r.nonE];rfl
 |bl b=>rw[r.blE];rfl
 |int b=>rw[r.intE];rfl
 |str b=>rw[r.strE];rfl
 |tup b=>obtain⟨p,vs,rfl,_⟩:=r.tupE;rfl
 |loc b=>obtain⟨p,_,rfl⟩:=r.locE;rfl
theorem Qw{Q:VK}(h:tE X (Af fa) σ H Q):Pz (tE X fa) σ H Q:=by
 obtain⟨μ,ρ,st,l,h⟩:=h
 refine⟨μ,ρ,st,l,RK.bind h l fun μ1 st1 x v H1 p1 x1 l1 q1 h1=>?_⟩
 show Q (.bl (decide (v=.non))) H1
 rw[KM q1]
 exact h1 μ1 _ H1 (ag _) dB.refl l1.sto .bl
theorem M_{Q:VK}(h:tE X (vf fa) σ H Q):KC (tE X fa) σ H Q:=by
 obtain⟨μ,ρ,st,l,h⟩:=h
 refine⟨μ,ρ,st,l,RK.bind h l fun μ1 st1 x v H1 p1 x1 l1 q1 h1=>?_⟩
 show Q (.bl (!decide (v=.non))) H1
 rw[KM q1]
 exact h1 μ1 _ H1 (ag _) dB.refl l1.sto .bl
theorem Na(ha:SE X a fa):ST X (.Compare a [.Is] [.Constant .none j iU] pos) (eV (Af fa)):=⟨(Eo (Mn ha.h)).imp fun _ _ _ h=>Qw (pZ h)⟩
theorem Jc(ha:SE X a fa):ST X (.Compare a [.IsNot] [.Constant .none j iU] pos) (eV (vf fa)):=⟨(Eo (Io ha.h)).imp fun _ _ _ h=>M_ (pZ h)⟩
def aB:FA:=fun _ st=>.ok [] st
def af(fa:FE)(fs:FA):FA:=fun ρ st=>(fa ρ st).bind fun x st=>(fs ρ st).bind fun xs st=>.ok (x::xs) st
theorem bj:SA X [] aB:=⟨v8.imp fun σ H Q h=>by
 obtain⟨μ,ρ,st,l,h⟩:=h
 exact h μ [] H (ag _) dB.refl l.sto .nilI⟩
theorem aD(ha:SE X e fe)(hr:SA X es fs)(hs:starEach (e::es) X.env=(false,eval e X.env)::starEach es X.env:=by rfl):SA X (e::es) (af fe fs):=⟨(pR ha.h hr.h hs).imp fun σ H Q h=>by
 obtain⟨μ,ρ,st,l,h⟩:=h
 refine⟨μ,ρ,st,l,RK.bind h l fun μ1 st1 x v H1 p1 x1 l1 q1 h1=>⟨μ1,ρ,st1,l1,RK.bind h1 l1 fun μ2 cM xs vs H2 p2 x2 l2 q2 h2=>?_⟩⟩
 exact h2 μ2 _ H2 (ag _) dB.refl l2.sto (.consI (q1.mono p2 x2) q2)⟩
def Qx(zs:List (List Nat)):FA:=fun _ st=>.ok (zs.map W.str) st
def p5(ws:List W)(st:List aj):R W:=if ws.length<=jw then .ok (.tup ws) st else .bad
def mZ(ws:List W)(st:List aj):R W:=if ws.length<=jw then .ok (.loc st.length) (st++[.lst ws])else .bad
def d5(fs:FA):FE:=fun ρ st=>(fs ρ st).bind fun ws st=>p5 ws st
def kH(fs:FA):FE:=fun ρ st=>(fs ρ st).bind fun ws st=>mZ ws st
theorem fX.newLst{st:List aj}(S:fX K mg μ st H){p:Addr}(hp:H p=none)(r:RelWs K μ H ws vs):fX K mg (μ++[p]) (st++[.lst ws]) (d_ H p (.lst vs)):=
 S.push hp ⟨vs,dD,r.mono (aq _ _) (fq.same (ce hp _))⟩
theorem mz{st:List aj}(S:fX K mg μ st H){p:Addr}:be K (μ++[p]) H' (.loc st.length) (.ref p):=.locI (by rw[S.len];simp)
theorem EX{st:List aj}{Q:VK}(S:fX X.K X.mg μ st H)(q:RelWs X.K μ H ws vs)(h:RK X (rS X) μ σ H Q (p5 ws st)):vs.length<=sizeLine/\∀p H2,H p=none->H2=d_ H p (.tup vs)->Q (.ref p) H2:=by
 unfold p5 at h
 by_cases hz:ws.length<=jw
 ·rw[am hz]at h
  refine⟨by rw[<- q.len];exact iN hz,fun p H2 hp e=>?_⟩
  subst e
  have x:=fq.same (K:=X.K) (ce hp (.tup vs))
  exact h μ _ _ (ag _) x (S.same (ce hp _)) (.tupI fq.new (q.mono (ag _) x))
 ·rw[az hz]at h;exact h.elim
theorem sX{st:List aj}{σ:St}{Q:VK}(S:fX X.K X.mg μ st H)(q:RelWs X.K μ H ws vs)(h:RK X (rS X) μ σ H Q (mZ ws st)):vs.length<=sizeLine/\∀p H2,H p=none->H2=d_ H p (.lst vs)->Q (.ref p) H2:=by
 unfold mZ at h
 by_cases hz:ws.length<=jw
 ·rw[am hz]at h
  refine⟨by rw[<- q.len];exact iN hz,fun p H2 hp e=>?_⟩
  subst e
  exact h (μ++[p]) _ _ (aq _ _) (fq.same (ce hp _)) (S.newLst hp q) (mz S)
 ·rw[az hz]at h;exact h.elim
theorem oM{k:Nat}(h:SA X es fs):SE X (.Tuple es k pos) (d5 fs):=⟨(IY h.h).imp fun σ H Q h=>by
 obtain⟨μ,ρ,st,l,h⟩:=h
 exact⟨μ,ρ,st,l,RK.bind h l fun μ1 st1 x v H1 p1 x1 l1 q1 h1=>EX l1.sto q1 h1⟩⟩
theorem BA(h:SA X es fs):SE X (.List es pos) (kH fs):=⟨(IZ h.h).imp fun σ H Q h=>by
 obtain⟨μ,ρ,st,l,h⟩:=h
 exact⟨μ,ρ,st,l,RK.bind h l fun μ1 st1 x v H1 p1 x1 l1 q1 h1=>sX l1.sto q1 h1⟩⟩
end
section
theorem mC{st:List aj}{Q:VK}{i:Int}(S:fX X.K X.mg μ st H)(h:Ee X μ H Q (.ok (.int i) st)):Q (.int i) H:=h μ _ H (ag _) dB.refl S .int
theorem jg{st:List aj}{Q:VK}{i:Bool}(S:fX X.K X.mg μ st H)(h:Ee X μ H Q (.ok (.bl i) st)):Q (.bl i) H:=h μ _ H (ag _) dB.refl S .bl
theorem p9{st:List aj}{Q:VK}{i:List Nat}(S:fX X.K X.mg μ st H)(h:Ee X μ H Q (.ok (.str i) st)):Q (.str (tx i)) H:=h μ _ H (ag _) dB.refl S .str
theorem Nb{Q:VK}{r:R W}(h:Ee X μ H Q r):RK X (rS X) μ σ H Q r:=by
 cases r with
 |ok a st=>exact h
 |ex c st=>exact h.elim
 |bad=>exact h
def EY(C:Int->Int->Prop)[∀i j,Decidable (C i j)](f:Int->Int->Int):W->W->List aj->R W
 |.int i,.int j,st=>if C i j then .ok (.int (f i j)) st else .bad
 |_,_,_=>.bad
theorem Di{C C':Int->Int->Prop}[∀i j,Decidable (C' i j)]{f:Int->Int->Int}(h:n6 X g (rI C fun i j=>.int (f i j)))(hC:∀i j,C' i j->C i j):rT X g (EY C' f):=⟨h.imp fun x y H Q ⟨μ,st,wx,wy,S,rx,ry,q⟩=>by
 cases wx with
 |int i=>
  cases wy with
  |int j=>
   simp only[EY]at q
   by_cases c:C' i j
   ·rw[am c]at q;exact⟨i,j,rx.intE,ry.intE,hC i j c,mC S q⟩
   ·rw[az c]at q;exact q.elim
  |_=>exact q.elim
 |_=>cases wy<;>exact q.elim,fun x y st=>by
 unfold EY
 split
 ·split<;>trivial
 ·trivial⟩
def Dj(f:Int->Int->Bool):W->W->List aj->R W
 |.int i,.int j,st=>.ok (.bl (f i j)) st
 |_,_,_=>.bad
theorem EZ{f:Int->Int->Bool}(h:n6 X g (IB fun i j=>.bl (f i j))):rT X g (Dj f):=⟨h.imp fun x y H Q ⟨μ,st,wx,wy,S,rx,ry,q⟩=>by
 cases wx with
 |int i=>
  cases wy with
  |int j=>exact⟨i,j,rx.intE,ry.intE,jg S q⟩
  |_=>exact q.elim
 |_=>cases wy<;>exact q.elim,fun x y st=>by
 unfold Dj
 split<;>trivial⟩
abbrev Ag(i j:Int):Prop:=(-(2^64)<i/\i<2^64)\/(-(2^64)<j/\j<2^64)
abbrev lP:=EY (fun _ _=>True) fun i j=>i-j
abbrev Qy:=EY Ag fun i j=>i*j
abbrev eK:=EY (fun _ j=>0<j) fun i j=>i%j
abbrev yq:=EY (fun _ j=>0<j/\j<1073741824) fun i j=>i/j
abbrev Qz:=EY (fun i j=>0<=j/\j<=1000000/\i.natAbs<2^64) fun i j=>i^j.toNat
abbrev wn:=EY (fun i j=>0<=j/\j<=1000000/\i.natAbs<2^64) fun i j=>i*2^j.toNat
theorem Nc{f:Int->Int->V}(h:n6 X g (IB f)):n6 X g (rI (fun _ _=>True) f):=h.imp fun _ _ _ _ ⟨i,j,a,b,_,q⟩=>⟨i,j,a,b,q⟩
theorem vg:rT X (binaryOp .Sub) lP:=Di (Nc MD) fun _ _ _=>trivial
theorem QB:rT X (binaryOp .Mult) Qy:=Di ME fun _ _ h=>h
theorem sY:rT X (binaryOp .Mod) eK:=Di MF fun _ _ h=>h
theorem Nd:rT X (binaryOp .FloorDiv) yq:=Di IC fun _ _ h=>h
theorem QC:rT X (binaryOp .Pow) Qz:=Di MG fun _ _ h=>h
theorem QD:rT X (binaryOp .LShift) wn:=Di Ev fun _ _ h=>h
def d6:W->W->List aj->R W
 |.int i,.int j,st=>.ok (.int (i+j)) st
 |.str a,.str b,st=>if a.length+b.length<=jw then .ok (.str (a++b)) st else .bad
 |.tup a,.tup b,st=>p5 (a++b) st
 |.loc n,.loc m,st=>match st[n]?,st[m]? with
  |some (.lst a),some (.lst b)=>mZ (a++b) st
  |_,_=>.bad
 |_,_,_=>.bad
theorem Jd(ws:List W)(st:List aj):qM (p5 ws st):=by unfold p5;split<;>trivial
theorem Je(ws:List W)(st:List aj):qM (mZ ws st):=by unfold mZ;split<;>trivial
theorem yr:rT X (binaryOp .Add) d6:=⟨fun pins s σ H x y v u Q I rv ru ⟨μ,st,wx,wy,S,rx,ry,q⟩=>by
 cases wx with
 |int i=>
  cases wy with
  |int j=>exact MC pins s σ H x y v u Q I rv ru ⟨i,j,rx.intE,ry.intE,mC S q⟩
  |_=>exact q.elim
 |str a=>
  cases wy with
  |str b=>
   simp only[d6]at q
   by_cases c:a.length+b.length<=jw
   ·rw[am c]at q
    exact zV pins s σ H x y v u Q I rv ru ⟨_,_,rx.strE,ry.strE,by rw[jf,jf];exact iN c,by rw[z8];exact p9 S q⟩
   ·rw[az c]at q;exact q.elim
  |_=>exact q.elim
 |tup a=>
  cases wy with
  |tup b=>
   obtain⟨p1,vs1,rfl,h1,r1⟩:=rx.tupE
   obtain⟨p2,vs2,rfl,h2,r2⟩:=ry.tupE
   have q':Ee X μ H Q (p5 (a++b) st):=q
   unfold p5 at q'
   by_cases c:(a++b).length<=jw
   ·rw[am c]at q'
    refine M6.h pins s σ H _ _ v u Q I rv ru ⟨p1,p2,vs1,vs2,rfl,rfl,h1,h2,by rw[<- r1.len,<- r2.len,<- aC];exact iN c,fun p H2 e t=>?_⟩
    exact q' μ _ _ (ag _) (fq.same e) (S.same e) (.tupI t ((r1.app r2).mono (ag _) (fq.same e)))
   ·rw[az c]at q';exact q'.elim
  |_=>exact q.elim
 |loc n=>
  cases wy with
  |loc m=>
   simp only[d6]at q
   cases e1:st[n]? with
   |none=>rw[e1]at q;exact q.elim
   |some c1=>
    cases e2:st[m]? with
    |none=>rw[e1,e2]at q;cases c1<;>exact q.elim
    |some c2=>
     cases c1 with
     |lst a=>
      cases c2 with
      |lst b=>
       rw[e1,e2]at q
       obtain⟨a1,g1,vs1,k1,r1⟩:=S.get e1
       obtain⟨a2,g2,vs2,k2,r2⟩:=S.get e2
       obtain⟨b1,f1,rfl⟩:=rx.locE
       obtain⟨b2,f2,rfl⟩:=ry.locE
       rw[g1]at f1;cases f1
       rw[g2]at f2;cases f2
       obtain⟨hz,qq⟩:=sX (σ:=σ) S (r1.app r2) (Nb q)
       exact I_ pins s σ H _ _ v u Q I rv ru ⟨a1,a2,vs1,vs2,rfl,rfl,k1,k2,by rw[<- aC];exact hz,qq⟩
      |_=>rw[e1,e2]at q;exact q.elim
     |_=>rw[e1,e2]at q;exact q.elim
  |_=>exact q.elim
 |_=>cases wy<;>exact q.elim,fun x y st=>by
 unfold d6
 split
 ·trivial
 ·split<;>trivial
 ·exact Jd _ _
 ·split
  ·exact Je _ _
  ·trivial
 ·trivial⟩
abbrev yt:=Dj fun i j=>decide (i<j)
abbrev Eg:=Dj fun i j=>decide (j<i)
abbrev QF:=Dj fun i j=>decide (j<=i)
theorem w_lt:rT X (compareOp .Lt) yt:=EZ PZ
theorem E0:rT X (compareOp .Gt) Eg:=EZ P0
theorem QH:rT X (compareOp .GtE) QF:=EZ P1
end
mutual
def jx:W->W->Option Bool
 |.non,.non=>some true
 |.bl a,.bl b=>some (a==b)
 |.bl a,.int b=>some ((if a then 1 else 0)==b)
 |.int a,.bl b=>some (a==(if b then 1 else 0))
 |.int a,.int b=>some (a==b)
 |.str a,.str b=>some (a==b)
 |.tup a,.tup b=>eqWs a b
 |.loc _,_=>none
 |.non,.loc _=>none
 |.bl _,.loc _=>none
 |.int _,.loc _=>none
 |.str _,.loc _=>none
 |.tup _,.loc _=>none
 |.non,.bl _=>some false
 |.non,.int _=>some false
 |.non,.str _=>some false
 |.non,.tup _=>some false
 |.bl _,.non=>some false
 |.bl _,.str _=>some false
 |.bl _,.tup _=>some false
 |.int _,.non=>some false
 |.int _,.str _=>some false
 |.int _,.tup _=>some false
 |.str _,.non=>some false
 |.str _,.bl _=>some false
 |.str _,.int _=>some false
 |.str _,.tup _=>some false
 |.tup _,.non=>some false
 |.tup _,.bl _=>some false
 |.tup _,.int _=>some false
 |.tup _,.str _=>some false
def eqWs:List W->List W->Option Bool
 |[],[]=>some true
 |[],_::_=>some false
 |_::_,[]=>some false
 |x::xs,y::ys=>match jx x y,eqWs xs ys with
  |some a,some b=>some (a&&b)
  |_,_=>none
end
mutual
def W.dep:W->Nat
 |.tup ws=>depWs ws+1
 |_=>0
def depWs:List W->Nat
 |[]=>0
 |w::ws=>max w.dep (depWs ws)
end
theorem ph:∀(xs ys:List W) (b:Bool),eqWs xs ys=some b->∃e:Nat->Bool,(∀j (h1:j<xs.length) (h2:j<ys.length),jx xs[j] ys[j]=some (e j))/\((List.range (min xs.length ys.length)).all e&&xs.length==ys.length)=b
 |[],[],b,h=>by unfold eqWs at h;cases h;exact⟨fun _=>true,fun j h1=>absurd h1 (b8 _),rfl⟩
 |[],y::ys,b,h=>by unfold eqWs at h;cases h;exact⟨fun _=>true,fun j h1=>absurd h1 (b8 _),by simp⟩
 |x::xs,[],b,h=>by unfold eqWs at h;cases h;exact⟨fun _=>true,fun j _ h1=>absurd h1 (b8 _),by simp⟩
 |x::xs,y::ys,b,h=>by
  unfold eqWs at h
  cases e1:jx x y with
  |none=>rw[e1]at h;simp at h
  |some a=>
   cases e2:eqWs xs ys with
   |none=>rw[e1,e2]at h;simp at h
   |some c=>
    rw[e1,e2]at h
    simp at h
    obtain⟨e,he,hb⟩:=ph xs ys c e2
    refine⟨fun j=>match j with|0=>a|j+1=>e j,fun j h1 h2=>?_,?_⟩
    ·cases j with
     |zero=>exact e1
     |succ j=>exact he j (iA h1) (iA h2)
    ·have m:min (x::xs).length (y::ys).length=min xs.length ys.length+1:=by simp only[br];omega
     rw[m,gb,lH,List.all_map,<- h,<- hb]
     simp[cJ,Bool.and_assoc]
theorem BB{a b:W}{x:V}{k:Bool}(hn:a.dep<=0)(ra:be X.K μ H a x)(rb:be X.K μ H b x)(he:jx a b=some k):k=true:=by
 cases a with
 |tup i=>unfold W.dep at hn;omega
 |non=>cases ra.nonE;cases b<;>first|(unfold jx at he;cases he;rfl)|cases rb.blE|cases rb.intE|cases rb.strE|(obtain⟨_,_,z,_⟩:=rb.tupE;cases z)|(unfold jx at he;cases he)
 |bl i=>cases ra.blE;cases b<;>first|(cases rb.blE;unfold jx at he;simp at he;exact he)|cases rb.nonE|cases rb.intE|cases rb.strE|(obtain⟨_,_,z,_⟩:=rb.tupE;cases z)|(unfold jx at he;cases he)
 |int i=>cases ra.intE;cases b<;>first|(cases rb.intE;unfold jx at he;simp at he;exact he)|cases rb.nonE|cases rb.blE|cases rb.strE|(obtain⟨_,_,z,_⟩:=rb.tupE;cases z)|(unfold jx at he;cases he)
 |str i=>cases ra.strE;cases b<;>first|(have z:=rb.strE;injection z with z;rw[EI.mp z]at he;unfold jx at he;simp at he;exact he)|cases rb.nonE|cases rb.blE|cases rb.intE|(obtain⟨_,_,z,_⟩:=rb.tupE;cases z)|(unfold jx at he;cases he)
 |loc i=>cases b<;>(unfold jx at he;cases he)
theorem E1(I:bv X pins σ H s):∀(n:Nat) (a b:W) (x:V) (k:Bool),a.dep<=n->be X.K μ H a x->be X.K μ H b x->jx a b=some k->k=true:=by
 intro n
 induction n with
 |zero=>exact fun a b x k hn ra rb he=>BB hn ra rb he
 |succ n ih=>
  intro a b x k hn ra rb he
  cases a with
  |tup i=>
   obtain⟨p',Ii,rfl,hS',r'⟩:=ra.tupE
   cases b with
   |tup z=>
    obtain⟨p,vs,e,hS,r⟩:=rb.tupE
    cases e
    obtain rfl:=I.tuple_inj hS hS'
    have he':eqWs i z=some k:=by unfold jx at he;exact he
    have dn:depWs i<=n:=by unfold W.dep at hn;omega
    have key:∀(i z:List W) (vs:List V) (k:Bool),depWs i<=n->RelWs X.K μ H i vs->RelWs X.K μ H z vs->eqWs i z=some k->k=true:=by
     intro i
     induction i with
     |nil=>
      intro z vs k _ r' r he
      have e1:=r'.nilE
      subst e1
      cases z with
      |nil=>unfold eqWs at he;cases he;rfl
      |cons _ _=>have e2:=r.len;simp at e2
     |cons w i ih2=>
      intro z vs k dn r' r he
      obtain⟨x,xs,rfl,rx,rxs⟩:=r'.consE
      cases z with
      |nil=>have e2:=r.len;simp at e2
      |cons y z=>
       obtain⟨x2,xs2,e3,ry,rys⟩:=r.consE
       cases e3
       unfold eqWs at he
       cases e1:jx w y with
       |none=>rw[e1]at he;simp at he
       |some k1=>
        cases e2:eqWs i z with
        |none=>rw[e1,e2]at he;simp at he
        |some k2=>
         rw[e1,e2]at he
         simp at he
         unfold depWs at dn
         have q1:=ih w y x k1 (by omega) rx ry e1
         have q2:=ih2 z xs k2 (by omega) rxs rys e2
         rw[<- he,q1,q2];rfl
    exact key i z _ k dn r' r he'
   |non=>cases rb.nonE
   |bl z=>cases rb.blE
   |int z=>cases rb.intE
   |str z=>cases rb.strE
   |loc z=>unfold jx at he;cases he
  |_=>exact BB (au _) ra rb he
theorem qN:∀{ws:List W} {j:Nat} (h:j<ws.length),ws[j].dep<=depWs ws
 |w::ws,0,_=>by unfold depWs;exact Nat.le_max_left _ _
 |w::ws,j+1,h=>by unfold depWs;exact a_ (qN (j:=j) (iA h)) (Nat.le_max_right _ _)
inductive Sh(s:Shared):W->Value->Prop
 |non:Sh s .non .none
 |bl (b:Bool):Sh s (.bl b) (.bool b)
 |int (i:Int) (t:Tok):Sh s (.int i) (.int i t)
 |str (l:List Nat) (t:Tok):Sh s (.str l) (.str (tx l) t)
 |tup (ws:List W) (p:Addr) (bC:List Value) (h:IsTup s.heap p bC.toArray):Sh s (.tup ws) (.ref p)
 |loc (n:Nat) (u:Value):Sh s (.loc n) u
section
theorem rB(I:bv X pins σ H s){a:W}{x:V}(ra:be X.K μ H a x)(ru:bN x u):Sh s a u:=by
 cases a with
 |non=>cases ra.nonE;cases ru;exact .non
 |bl i=>cases ra.blE;cases ru;exact .bl _
 |int i=>cases ra.intE;obtain⟨t,rfl⟩:=ru;exact .int _ _
 |str i=>cases ra.strE;obtain⟨t,rfl⟩:=ru;exact .str _ _
 |tup i=>obtain⟨p,vs,rfl,hS,_⟩:=ra.tupE;cases ru;obtain⟨bC,_,ht,_⟩:=I.tuple hS;exact .tup _ _ _ ht
 |loc i=>exact .loc _ _
open SeqAt.EqAt in
theorem BC{a b:W}{k:Bool}(ha:Sh s a u)(hb:Sh s b v)(hu:A.units<cLine)(ht:b.dep=0\/a.dep=0)(he:jx a b=some k):SeqAt.EqAt A s u v k:=by
 cases ha<;>cases hb<;>first
  |(unfold jx at he;cases he;done)
  |(unfold jx at he;cases he;with_reducible first|exact same _|exact bool_none _|exact bool_bool _ _|exact bool_int _ _ _|exact bool_str _ _ _|exact int_none _ _|exact int_bool _ _ _|exact int_int _ _ _ _|exact int_str _ _ _ _|exact str_none _ _|exact str_bool _ _ _|exact str_int _ _ _ _|exact none_bool _|exact none_int _ _|exact none_str _ _)
  |(unfold jx at he;cases he;(with_reducible first|refine' bool_tuple _ ?_ hu|refine' int_tuple _ _ ?_ hu|refine' str_tuple _ _ ?_ hu|refine' tuple_none ?_ hu|refine' tuple_bool _ ?_ hu|refine' tuple_int _ _ ?_ hu|refine' tuple_str _ _ ?_ hu|refine' none_tuple ?_ hu);rotate_left;assumption)
  |(unfold W.dep at ht;omega)
  |skip
 rename_i i t z r
 unfold jx at he;cases he
 have:=str_str (A:=A) (s:=s) (tx i) t (tx z) r
 rw[<- oY]at this
 exact this
open SeqAt.RcAt in
theorem Jf{a b:W}{k:Bool}(ha:Sh s a u)(hb:Sh s b v)(hu:A.units<cLine)(ht:b.dep=0\/a.dep=0)(he:jx a b=some k):SeqAt.RcAt A s u v k:=by
 cases ha<;>cases hb<;>first
  |(unfold jx at he;cases he;done)
  |(unfold jx at he;cases he;with_reducible first|exact none_none|exact bool_none _|exact bool_bool _ _|exact bool_int _ _ _|exact bool_str _ _ _|exact int_none _ _|exact int_bool _ _ _|exact int_int _ _ _ _|exact int_str _ _ _ _|exact str_none _ _|exact str_bool _ _ _|exact str_int _ _ _ _|exact none_bool _|exact none_int _ _|exact none_str _ _)
  |(unfold jx at he;cases he;(with_reducible first|refine' bool_tuple _ ?_ hu|refine' int_tuple _ _ ?_ hu|refine' str_tuple _ _ ?_ hu|refine' tuple_none ?_ hu|refine' tuple_bool _ ?_ hu|refine' tuple_int _ _ ?_ hu|refine' tuple_str _ _ ?_ hu|refine' none_tuple ?_ hu);rotate_left;assumption)
  |(unfold W.dep at ht;omega)
  |skip
 rename_i i t z r
 unfold jx at he;cases he
 have:=str_str (A:=A) (s:=s) (tx i) t (tx z) r
 rw[<- oY]at this
 exact this
open SeqAt.RcNeAt in
theorem Dk         {a b:W}  {k:Bool} (ha : Sh s a u) (hb : Sh s b v) (hu : A.units < cLine) (ht : b.dep = 0 \/ a.dep = 0) (he : jx  a b = some k) : SeqAt.RcNeAt A s u v (!k) := by
  cases ha <;> cases hb <;> first
    | (unfold jx  at he; cases he; done)
    | (unfold jx  at he; cases he; try simp only [dZ           , kt            ]
       with_reducible first | exact none_none | exact bool_none _ | exact bool_bool _ _ | exact bool_int _ _ _ | exact bool_str _ _ _ | exact int_none _ _ | exact int_bool _ _ _ | exact int_int _ _ _ _ | exact int_str _ _ _ _ | exact str_none _ _ | exact str_bool _ _ _ | exact str_int _ _ _ _ | exact none_bool _ | exact none_int _ _ | exact none_str _ _)
    | (unfold jx  at he; cases he; try simp only [dZ           , kt            ]
       (with_reducible first | refine' bool_tuple _ ?_ hu | refine' int_tuple _ _ ?_ hu | refine' str_tuple _ _ ?_ hu | refine' tuple_none ?_ hu | refine' tuple_bool _ ?_ hu | refine' tuple_int _ _ ?_ hu | refine' tuple_str _ _ ?_ hu | refine' none_tuple ?_ hu); rotate_left; assumption)
    | (unfold W.dep at ht; omega)
    | skip
  rename_i i t z r
  unfold jx  at he; cases he
  have := str_str (A := A) (s := s) (tx i) t (tx z) r
  rw [<- oY           ] at this
  exact this
theorem yu{i z:List W}{Ii:List V}{its':List Value}{e:Nat->Bool}{A:Around}(ih:∀(a b:W) (A:Around) (x y:V) (u v:Value) (k:Bool),a.dep<=m->be X.K μ H a x->be X.K μ H b y->bN x u->bN y v->A.units+m<cLine->jx a b=some k->SeqAt.EqAt A s u v k)
  (r':RelWs X.K μ H i Ii) (r:RelWs X.K μ H z vs) (w':cA Ii its') (w:cA vs bC) (hd:depWs i<=m) (hu:A.units+1+m<cLine) (h1:∀j (h1:j<i.length) (h2:j<z.length),jx i[j] z[j]=some (e j)):∀j (j1:j<its'.toArray.size) (j2:j<bC.toArray.size),SeqAt.EqAt A.in1 s its'.toArray[j] bC.toArray[j] (e j):=fun j j1 j2=>by
 have j1':j<i.length:=by rw[r'.len,w'.length];simpa using j1
 have j2':j<z.length:=by rw[r.len,w.length];simpa using j2
 obtain⟨x1,g1,q1⟩:=r'.get (ae j1')
 obtain⟨x2,g2,q2⟩:=r.get (ae j2')
 obtain⟨u1,f1,v1⟩:=w'.get g1
 obtain⟨u2,f2,v2⟩:=w.get g2
 have E:=ih i[j] z[j] A.in1 x1 x2 u1 u2 (e j) (a_ (qN j1') hd) q1 q2 v1 v2 hu (h1 j j1' j2')
 have t1:its'.toArray[j]=u1:=by simpa using (aa.mp f1).2
 have t2:bC.toArray[j]=u2:=by simpa using (aa.mp f2).2
 rw[t1,t2];exact E
theorem E2(I:bv X pins σ H s):∀(n:Nat) (a b:W) (A:Around) (x y:V) (u v:Value) (k:Bool),a.dep<=n->be X.K μ H a x->be X.K μ H b y->bN x u->bN y v->A.units+n<cLine->jx a b=some k->SeqAt.EqAt A s u v k:=by
 intro n
 induction n with
 |zero=>exact fun a b A x y u v k hn ra rb ru rv hu he=>BC (rB I ra ru) (rB I rb rv) hu (.inr (by omega)) he
 |succ m ih=>
  intro a b A x y u v k hn ra rb ru rv hu he
  by_cases hb:b.dep=0\/a.dep=0
  ·exact BC (rB I ra ru) (rB I rb rv) (by omega) hb he
  ·cases b with
   |tup z=>
    cases a with
    |tup i=>
     obtain⟨p',Ii,rfl,hS',r'⟩:=id ra.tupE;cases ru;obtain⟨its',w',LW,_⟩:=I.tuple hS'
     obtain⟨p,vs,rfl,hS,r⟩:=id rb.tupE;cases rv;obtain⟨bC,w,ht,_⟩:=I.tuple hS
     by_cases hpp:p'=p
     ·subst hpp
      rw[E1 I (m+1) (.tup i) (.tup z) (.ref p') k hn ra rb he]
      exact SeqAt.EqAt.same _
     ·obtain⟨e,h1,h2⟩:=ph i z k (by unfold jx at he;exact he)
      have R:=SeqAt.RcAt.tuples (A:=A) (e:=e) LW ht (by omega) (yu ih r' r w' w (by unfold W.dep at hn;omega) (by omega) h1)
      rw[show its'.toArray.size=i.length by simp[<- w'.length,<- r'.len],show bC.toArray.size=z.length by simp[<- w.length,<- r.len],h2]at R
      exact SeqAt.EqAt.of_refs hpp R
    |_=>exact(hb (.inr rfl)).elim
   |_=>exact(hb (.inl rfl)).elim
theorem E3(I:bv X pins σ H s){a b:W}{x:V}{k:Bool}(hn:b.dep=0\/a.dep<=n)(ra:be X.K μ H a x)(rb:be X.K μ H b y)(ru:bN x u)(rv:bN y v)(hu:A.units+n<cLine)(he:jx a b=some k):SeqAt.RcAt A s u v k/\SeqAt.RcNeAt A s u v (!k):=by
 by_cases hb:b.dep=0\/a.dep=0
 ·exact⟨Jf (rB I ra ru) (rB I rb rv) (by omega) hb he,Dk (rB I ra ru) (rB I rb rv) (by omega) hb he⟩
 cases b with
 |tup z=>
  cases a with
  |tup i=>
   obtain⟨p',Ii,rfl,hS',r'⟩:=ra.tupE;cases ru;obtain⟨its',w',LW,_⟩:=I.tuple hS'
   obtain⟨p,vs,rfl,hS,r⟩:=rb.tupE;cases rv;obtain⟨bC,w,ht,_⟩:=I.tuple hS
   obtain⟨e,h1,h2⟩:=ph i z k (by unfold jx at he;exact he)
   have hd:depWs i+1<=n:=hn.elim (fun z=>(hb (.inl z)).elim) id
   obtain⟨m,rfl⟩:∃m,n=m+1:=⟨n-1,by omega⟩
   have T:=yu (A:=A) (E2 I m) r' r w' w (by omega) (by omega) h1
   have R:=SeqAt.RcAt.tuples (A:=A) (e:=e) LW ht (by omega) T
   have R2:=SeqAt.RcNeAt.tuples (A:=A) (e:=e) LW ht (by omega) T
   rw[show its'.toArray.size=i.length by simp[<- w'.length,<- r'.len],show bC.toArray.size=z.length by simp[<- w.length,<- r.len],h2]at R R2
   exact⟨R,R2⟩
  |_=>exact(hb (.inr rfl)).elim
 |_=>exact(hb (.inl rfl)).elim
end
def nu:W->W->List aj->R W:=fun x y st=>match jx x y with
 |some k=>if y.dep=0\/x.dep<=64 then .ok (.bl k) st else .bad
 |none=>.bad
theorem Ah{k:Nat}(hr:fY k X.A):rT X (compareOp .Eq) nu:=⟨fun pins s σ H x y v u Q I rv ru ⟨μ,st,wx,wy,S,rx,ry,q⟩=>by
 unfold nu at q
 cases e:jx wx wy with
 |none=>rw[e]at q;exact q.elim
 |some b=>
  rw[e]at q
  simp only at q
  by_cases c:wy.dep=0\/wx.dep<=64
  ·rw[am c]at q
   have:=hr.units
   exact(E3 I c rx ry rv ru this e).1 X.prog X.w X.xe _ ⟨.bl b,H,I,rfl,jg S q⟩
  ·rw[az c]at q;exact q.elim,fun x y st=>by
 unfold nu
 split
 ·split<;>trivial
 ·trivial⟩
def Ai:W->W->List aj->R W:=fun x y st=>match jx x y with
 |some k=>if y.dep=0\/x.dep<=64 then .ok (.bl (!k)) st else .bad
 |none=>.bad
theorem Dl{k:Nat}(hr:fY k X.A):rT X (compareOp .NotEq) Ai:=⟨fun pins s σ H x y v u Q I rv ru ⟨μ,st,wx,wy,S,rx,ry,q⟩=>by
 unfold Ai at q
 cases e:jx wx wy with
 |none=>rw[e]at q;exact q.elim
 |some b=>
  rw[e]at q
  simp only at q
  by_cases c:wy.dep=0\/wx.dep<=64
  ·rw[am c]at q
   have:=hr.units
   exact(E3 I c rx ry rv ru this e).2 X.prog X.w X.xe _ ⟨.bl (!b),H,I,rfl,jg S q⟩
  ·rw[az c]at q;exact q.elim,fun x y st=>by
 unfold Ai
 split
 ·split<;>trivial
 ·trivial⟩
def rV(x:W):List W->Option Bool
 |[]=>some false
 |y::ys=>match jx y x,rV x ys with
  |some a,some b=>some (a||b)
  |_,_=>none
def Dm(A8:Bool)(x y:W)(st:List aj):R W:=match y with
 |.str l=>(match x with
  |.str [c]=>.ok (.bl (if A8 then !decide (c∈l)else decide (c∈l))) st
  |_=>.bad)
 |.tup ys=>(match rV x ys with
  |some k=>if depWs ys<=63 then .ok (.bl (if A8 then !k else k)) st else .bad
  |none=>.bad)
 |.loc n=>(match st[n]? with
  |some (.lst ys)=>(match rV x ys with
   |some k=>if depWs ys<=63 then .ok (.bl (if A8 then !k else k)) st else .bad
   |none=>.bad)
  |_=>.bad)
 |_=>.bad
theorem yv{x:W}:∀{ys:List W} {k:Bool},rV x ys=some k->(∀(j:Nat) w,ys[j]?=some w->∃b,jx w x=some b)/\(k=true↔∃(j:Nat) (w:W),ys[j]?=some w/\jx w x=some true)
 |[],k,h=>by
  unfold rV at h;cases h
  exact⟨fun j w e=>by simp at e,fun z=>(by cases z),fun⟨j,w,e,_⟩=>(by simp at e)⟩
 |y::ys,k,h=>by
  unfold rV at h
  cases e1:jx y x with
  |none=>rw[e1]at h;simp at h
  |some a=>
   cases e2:rV x ys with
   |none=>rw[e1,e2]at h;simp at h
   |some b=>
    rw[e1,e2]at h
    simp at h
    obtain⟨q1,q2⟩:=yv e2
    refine⟨fun j w e=>?_,fun z=>?_,fun⟨j,w,e,f⟩=>?_⟩
    ·cases j with
     |zero=>simp at e;subst e;exact⟨a,e1⟩
     |succ j=>exact q1 j w (by simpa using e)
    ·rw[<- h]at z
     cases a with
     |true=>exact⟨0,y,rfl,e1⟩
     |false=>
      obtain⟨j,w,p,q⟩:=q2.mp (by simpa using z)
      exact⟨j+1,w,by simpa using p,q⟩
    ·rw[<- h]
     cases j with
     |zero=>simp at e;subst e;rw[e1]at f;cases f;rfl
     |succ j=>rw[q2.mpr ⟨j,w,by simpa using e,f⟩];simp
theorem sZ(I:bv X pins σ H s){wx:W}{x:V}(rx:be X.K μ H wx x)(rv:bN x v)(n:Nat){A:Around}(hu:A.units+n<cLine)
  {ys:List W} {vs:List V} {us:List Value} {k:Bool} (hd:depWs ys<=n) (rs:RelWs X.K μ H ys vs) (kG:cA vs us) (ha:rV wx ys=some k):∃e:Value->Bool,(∀u,u∈us.toArray->SeqAt.EqAt A s u v (e u))/\us.toArray.any e=k:=by
 classical
 obtain⟨q1,q2⟩:=yv ha
 have at':∀(j:Nat) (u:Value),us[j]?=some u->∃w b,ys[j]?=some w/\jx w wx=some b/\SeqAt.EqAt A s u v b:=fun j u e=>by
  have hj:j<ys.length:=by
   have h1:=(aa.mp e).1
   rw[rs.len,kG.length];exact h1
  obtain⟨b,hb⟩:=q1 j ys[j] (ae hj)
  obtain⟨y,g1,r1⟩:=rs.get (ae hj)
  obtain⟨u',f1,v1⟩:=kG.get g1
  rw[e]at f1;cases f1
  exact⟨_,b,ae hj,hb,E2 I n ys[j] wx A y x u v b (a_ (qN hj) hd) r1 rx v1 rv hu hb⟩
 refine⟨fun u=>decide (∃(j:Nat) (w:W),us[j]?=some u/\ys[j]?=some w/\jx w wx=some true),fun u hu=>?_,?_⟩
 ·by_cases c:∃(j:Nat) (w:W),us[j]?=some u/\ys[j]?=some w/\jx w wx=some true
  ·show SeqAt.EqAt A s u v (decide _)
   rw[bH c]
   obtain⟨j,w,e1,e2,e3⟩:=c
   obtain⟨w',b,f1,f2,f3⟩:=at' j u e1
   rw[e2]at f1;cases f1
   rw[e3]at f2;cases f2
   exact f3
  ·show SeqAt.EqAt A s u v (decide _)
   rw[bb c]
   obtain⟨j,hj,e⟩:=List.mem_iff_getElem.mp (show u∈us by simpa using hu)
   have e':us[j]?=some u:=by rw[ae hj,e]
   obtain⟨w',b,f1,f2,f3⟩:=at' j u e'
   cases b with
   |false=>exact f3
   |true=>exact absurd ⟨j,w',e',f1,f2⟩ c
 ·rw[List.any_toArray]
  cases k with
  |true=>
   obtain⟨j,w,e1,e2⟩:=q2.mp rfl
   have hj:j<us.length:=by rw[<- kG.length,<- rs.len];exact(aa.mp e1).1
   exact fW.mpr ⟨us[j],g6 hj,bH ⟨j,w,ae hj,e1,e2⟩⟩
  |false=>
   refine fJ.mpr fun u _ c=>?_
   obtain⟨j,w,_,e1,e2⟩:=iB c
   have:=q2.mpr ⟨j,w,e1,e2⟩
   cases this
theorem BD{k:Nat}(hr:fY k X.A):rT X (compareOp .NotIn) (Dm true):=⟨fun pins s σ H x y v u Q I rv ru ⟨μ,st,wx,wy,S,rx,ry,q⟩=>by
 have hu:=hr.units
 cases wy with
 |str l=>
  simp only[Dm]at q
  split at q
  ·exact wj pins s σ H x y v u Q I rv ru ⟨_,_,rx.strE,ry.strE,jg S q⟩
  ·exact q.elim
 |tup ys=>
  simp only[Dm]at q
  cases hk:rV wx ys with
  |none=>rw[hk]at q;exact q.elim
  |some kk=>
   rw[hk]at q
   simp only at q
   by_cases c:depWs ys<=63
   ·rw[am c]at q
    obtain⟨p,vs,rfl,hS,r⟩:=ry.tupE
    cases ru
    obtain⟨bC,w,ht,_⟩:=I.tuple hS
    obtain⟨e,he,ha⟩:=sZ (A:=X.A.in1) I rx rv 63 (by show X.A.units+1+63<cLine;omega) c r w hk
    exact SeqAt.notIn_tupleAt e ht he ⟨.bl _,H,I,rfl,by rw[ha];exact jg S q⟩
   ·rw[az c]at q;exact q.elim
 |loc n=>
  simp only[Dm]at q
  cases e1:st[n]? with
  |none=>rw[e1]at q;exact q.elim
  |some cc=>
   rw[e1]at q
   cases cc with
   |lst ys=>
    simp only at q
    cases hk:rV wx ys with
    |none=>rw[hk]at q;exact q.elim
    |some kk=>
     rw[hk]at q
     simp only at q
     by_cases c:depWs ys<=63
     ·rw[am c]at q
      obtain⟨a1,g1,vs,k1,r⟩:=S.get e1
      obtain⟨b1,f1,rfl⟩:=ry.locE
      rw[g1]at f1;cases f1
      cases ru
      obtain⟨bC,w,ht,_⟩:=I.list (rO.of k1)
      obtain⟨e,he,ha⟩:=sZ (A:=X.A.in1) I rx rv 63 (by show X.A.units+1+63<cLine;omega) c r w hk
      exact SeqAt.notIn_listAt e ht.isList he ⟨.bl _,H,I,rfl,by rw[ha];exact jg S q⟩
     ·rw[az c]at q;exact q.elim
   |_=>exact q.elim
 |_=>exact q.elim,fun x y st=>by
 unfold Dm
 repeat' split
 all_goals trivial⟩
section
variable{w:World}
theorem yw{t sl:Addr}{vl vu:Value}{lo hi:Option Int}(ht:IsTup s.heap t items)(hs:s.heap.IsSliceOf sl vl vu .none)(pl:IsPart vl lo)(pu:IsPart vu hi)
  (hw:HT.sIx items.size 0 lo=0/\HT.sIx items.size items.size hi=items.size) (h:Q (.ref t) s):wpAny (model prog w) A (getItem (.ref t) (.ref sl)) Q E s:=by
 obtain⟨os,hos,hcs,CL⟩:=id hs
 have hTs:s.TypeIs (.ref sl) "slice":=⟨os,hos,hcs⟩
 unfold getItem
 try with_reducible refine cC ?_
 first|refine ah (ax ?_)|skip
 refine ah (wpAny_sequenceKey ht.typeIs (by decide) ?_)
 refine ah (du (name:=Str.ofString "__getitem__") ht.typeIs dL
  (dw dL ht.typeIs entry_tuple_getitem ?_ (args_tuple_getitem _ _)))
 show wpAny _ _ (Builtin.Tuple.tupleItemsOf (.ref t) >>= _) _ _ s
 refine ah (tupleItemsOf_ ht ?_)
 refine ah (qB hTs ?_)
 rw[am (by decide)]
 refine ah (HT.sliceApplied_gen hs pl pu ?_)
 have hyes:(((HT.sIx items.size 0 lo:Nat):Int)==0&&(1:Int)==1&&(HT.sIx items.size items.size hi-HT.sIx items.size 0 lo)==items.size)=true:=by
  rw[hw.1,hw.2];simp
 show wpAny _ _ (if (((HT.sIx items.size 0 lo:Nat):Int)==0&&(1:Int)==1&&(HT.sIx items.size items.size hi-HT.sIx items.size 0 lo)==items.size)=true then _ else _) _ _ s
 rw[am hyes]
 unfold Builtin.Tuple.tupleIsExact
 obtain⟨ot,hot,Tn,nt,hdt⟩:=id ht
 refine ah (ah (qB (T:="tuple") ht.typeIs ?_))
 refine ax ?_
 rw[am (by decide)]
 exact ah (hX (ax ⟨_,rfl,ax h⟩))
end
section
variable{a b o:Expr}{fa fb fc fe:FE}{fs:FA}
def lstOf(st:List aj)(n:Nat):Option (List W):=match st[n]? with
 |some (.lst ws)=>some ws
 |some (.ro ws)=>some ws
 |_=>none
theorem fX.lstOf{st:List aj}(S:fX K mg μ st H)(h:lstOf st n=some ws):∃a vs,μ[n]?=some a/\rO K H a vs/\RelWs K μ H ws vs:=by
 unfold L2.lstOf at h
 cases e:st[n]? with
 |none=>rw[e]at h;cases h
 |some cc=>
  rw[e]at h
  cases cc with
  |lst zs=>cases h;obtain⟨a,g,vs,k,r⟩:=S.get e;exact⟨a,vs,g,rO.of k,r⟩
  |ro zs=>cases h;obtain⟨a,g,vs,k,r⟩:=S.get e;exact⟨a,vs,g,k.sq,r⟩
  |exc zs=>cases h
  |dct zs=>cases h
  |rod zs=>cases h
  |dcx zs=>cases h
  |tab _ _ _=>cases h
  |pin _ _ _ _=>cases h
  |gone=>cases h
def oN(o:Option α)(k:α->R W):R W:=match o with
 |some a=>k a
 |none=>.bad
@[simp] theorem cp{α:Type}(a:α)(k:α->R W):oN (some a) k=k a:=rfl
def bu(x y:W)(st:List aj):R W:=match x,y with
 |.tup ws,.int i=>oN (pS ws i) fun w=>.ok w st
 |.str l,.int i=>if l.length<=jw then oN (pS l i) (fun c=>.ok (.str [c]) st)else .bad
 |.loc n,.int i=>oN (lstOf st n) fun ws=>oN (pS ws i) fun w=>.ok w st
 |_,_=>.bad
theorem BE{i:Int}{w:W}(r:RelWs K μ H ws vs)(h:pS ws i=some w):∃v,pS vs i=some v/\be K μ H w v:=by
 unfold pS at h ⊢
 rw[<- r.len]
 cases e:Bo ws.length i with
 |none=>rw[e]at h;cases h
 |some k=>rw[e]at h;exact r.get h
theorem T1:H_ X (T0 X bu):=fun value slice pins s σ H x y v u Q I rv ru ⟨μ,st,wx,wy,S,rx,ry,q⟩ hs=>by
 refine MO value slice pins s σ H x y v u Q I rv ru ?_ hs
 cases wy with
 |int i=>
  cases wx with
  |tup ws=>
   simp only[bu]at q
   cases e1:pS ws i with
   |none=>rw[e1]at q;exact q.elim
   |some w=>
    rw[e1]at q
    obtain⟨p,vs,rfl,hS,r⟩:=rx.tupE
    obtain⟨z,f,g⟩:=BE r e1
    exact .inr (.inl ⟨p,vs,i,z,rfl,ry.intE,hS,f,q μ z H (ag _) dB.refl S g⟩)
  |str l=>
   simp only[bu]at q
   by_cases c:l.length<=jw
   ·rw[am c]at q
    cases e1:pS l i with
    |none=>rw[e1]at q;exact q.elim
    |some w=>
     rw[e1]at q
     exact .inr (.inr ⟨_,i,w,rx.strE,ry.intE,by rw[jf];exact iN c,by rw[MU];exact e1,p9 S q⟩)
   ·rw[az c]at q;exact q.elim
  |loc n=>
   simp only[bu]at q
   cases e0:lstOf st n with
   |none=>rw[e0]at q;exact q.elim
   |some ws=>
    rw[e0]at q
    cases e1:pS ws i with
    |none=>rw[cp,e1]at q;exact q.elim
    |some w=>
     rw[cp,e1]at q
     obtain⟨a,vs,g,hS,r⟩:=S.lstOf e0
     obtain⟨b1,f1,rfl⟩:=rx.locE
     rw[g]at f1;cases f1
     obtain⟨z,f,g⟩:=BE r e1
     exact .inl ⟨_,vs,i,z,rfl,ry.intE,hS,f,q μ z H (ag _) dB.refl S g⟩
  |_=>exact q.elim
 |_=>cases wx<;>exact q.elim
theorem kT{o:Option α}{k:α->R W}(h:∀a,qM (k a)):qM (oN o k):=by
 unfold oN
 split
 ·exact h _
 ·trivial
theorem QJ(x y:W)(st:List aj):qM (bu x y st):=by
 unfold bu
 split
 ·exact kT fun _=>trivial
 ·split
  ·exact kT fun _=>trivial
  ·trivial
 ·exact kT fun _=>kT fun _=>trivial
 ·trivial
theorem f9(ha:SE X a fa)(hb:SE X b fb)(hs:Bq b:=by intro _ _;rfl):SE X (.Subscript a b pos) (e2 bu fa fb):=⟨(P8 T1 ha.h hb.h hs).imp fun _ _ _ h=>By QJ h⟩
abbrev FO:=bQ->List aj->R (Option Int)
abbrev T2:List Addr->Hp->Option Int->Option Int->Prop:=fun _ _ a b=>a=b
structure SO(X:Cx)(e:Option Expr)(f:FO):Prop where
 h:PO X e (tG X T2 f)
def yx:FO:=fun _ st=>.ok none st
def oO(fa:FE):FO:=fun ρ st=>(fa ρ st).bind fun x st=>match x with
 |.int i=>.ok (some i) st
 |_=>.bad
theorem PO.imp{e:Option Expr}{t t':TO}(h:PO X e t)(i:∀σ H Q,t' σ H Q->t σ H Q):PO X e t':=fun pins s σ H Q I q=>h pins s σ H Q I (i _ _ _ q)
theorem BF:SO X none yx:=⟨IH.imp fun σ H Q h=>by
 obtain⟨μ,ρ,st,l,h⟩:=h
 exact h μ none H (ag _) dB.refl l.sto rfl⟩
theorem BG(ha:SE X a fa):SO X (some a) (oO fa):=⟨(II ha.h).imp fun σ H Q h=>by
 obtain⟨μ,ρ,st,l,h⟩:=h
 refine⟨μ,ρ,st,l,RK.bind h l fun μ1 st1 x v H1 p1 x1 l1 q1 h1=>?_⟩
 cases x with
 |int k=>exact⟨k,q1.intE,h1 μ1 _ H1 (ag _) dB.refl l1.sto rfl⟩
 |_=>exact h1.elim⟩
def kI(xs:List α)(lo hi:Option Int):List α:=(xs.drop (HT.sIx xs.length 0 lo)).take (HT.sIx xs.length xs.length hi-HT.sIx xs.length 0 lo)
def Dn(x:W)(lo hi:Option Int)(st:List aj):R W:=match x with
 |.tup ws=>.ok (.tup (kI ws lo hi)) st
 |.str l=>if l.length<=jw then .ok (.str (kI l lo hi)) st else .bad
 |.loc n=>oN (lstOf st n) fun ws=>.ok (.loc st.length) (st++[.lst (kI ws lo hi)])
 |_=>.bad
theorem QK(x:W)(lo hi:Option Int)(st:List aj):qM (Dn x lo hi st):=by
 unfold Dn oN
 repeat' split
 all_goals trivial
def KN(fa:FE)(fl fh:FO):FE:=fun ρ st=>(fa ρ st).bind fun x st=>(fl ρ st).bind fun l st=>(fh ρ st).bind fun h st=>Dn x l h st
theorem T3:P6 X (fun x lo hi H Q=>∃μ st wx,fX X.K X.mg μ st H/\be X.K μ H wx x/\Ee X μ H Q (Dn wx lo hi st)):=by
 intro pins s σ H x v vl vu lo hi sl Q I rv hs pl pu ⟨μ,st,wx,S,rx,q⟩
 cases wx with
 |tup ws=>
  obtain⟨p,vs,rfl,hS,r⟩:=rx.tupE
  have hl:=r.len
  by_cases hw:HT.sIx vs.length 0 lo=0/\HT.sIx vs.length vs.length hi=vs.length
  ·cases rv
   obtain⟨bC,w,ht,hz⟩:=I.tuple hS
   have dk:bC.toArray.size=vs.length:=by rw[aH];exact w.length.symm
   refine⟨"tuple",_,dL.lookup,ht.typeIs,yw ht hs pl pu (by rw[dk];exact hw) ⟨.ref p,H,I,rfl,?_⟩⟩
   have e:kI ws lo hi=ws:=by
    unfold kI
    rw[hl,hw.1,hw.2,List.drop_zero,Nat.sub_zero,<- hl,eS]
   have q':Ee X μ H Q (.ok (.tup (kI ws lo hi)) st):=q
   rw[e]at q'
   exact q' μ _ H (ag _) dB.refl S rx
  ·refine MK pins s σ H _ v vl vu lo hi sl Q I rv hs pl pu ⟨p,vs,rfl,hS,hw,fun p2 hp2=>?_⟩
   have x:=fq.same (K:=X.K) (ce hp2 (.tup (sN vs lo hi)))
   have rc:RelWs X.K μ H (kI ws lo hi) (sN vs lo hi):=by
    unfold kI sN
    rw[hl]
    exact(r.drop _).take _
   exact q μ _ _ (ag _) x (S.same (ce hp2 _)) (.tupI fq.new (rc.mono (ag _) x))
 |str l=>
  simp only[Dn]at q
  by_cases c:l.length<=jw
  ·rw[am c]at q
   exact MX pins s σ H _ v vl vu lo hi sl Q I rv hs pl pu ⟨l,rx.strE,iN c,p9 S q⟩
  ·rw[az c]at q;exact q.elim
 |loc n=>
  simp only[Dn]at q
  cases e0:lstOf st n with
  |none=>rw[e0]at q;exact q.elim
  |some ws=>
   rw[e0]at q
   obtain⟨a,vs,g,hS,r⟩:=S.lstOf e0
   obtain⟨b1,f1,rfl⟩:=rx.locE
   rw[g]at f1;cases f1
   have hl:=r.len
   refine IL pins s σ H _ v vl vu lo hi sl Q I rv hs pl pu ⟨_,vs,rfl,hS,fun p2 hp2=>?_⟩
   have rc:RelWs X.K μ H (kI ws lo hi) (sN vs lo hi):=by
    unfold kI sN
    rw[hl]
    exact(r.drop _).take _
   exact q (μ++[p2]) _ _ (aq _ _) (fq.same (ce hp2 _)) (S.newLst hp2 rc) (mz S)
 |_=>exact q.elim
theorem QL{lo hi:Option Expr}{fl fh:FO}(ha:SE X a fa)(hl:SO X lo fl)(hh:SO X hi fh):SE X (.Subscript a (.Slice lo hi none p2) pos) (KN fa fl fh):=⟨(EA T3 ha.h hl.h hh.h).imp fun σ H Q h=>by
 obtain⟨μ,ρ,st,l,h⟩:=h
 refine⟨μ,ρ,st,l,RK.bind h l fun μ1 st1 x v H1 p1 x1 l1 q1 h1=>⟨μ1,ρ,st1,l1,RK.bind h1 l1 fun μ2 cM y u H2 p2 x2 l2 q2 h2=>⟨μ2,ρ,cM,l2,RK.bind h2 l2 fun μ3 i5 z t H3 p3 x3 l3 q3 h3=>?_⟩⟩⟩
 cases q2;cases q3
 exact⟨μ3,i5,x,l3.sto,(q1.mono p2 x2).mono p3 x3,sW h3 (QK _ _ _ _)⟩⟩
def Uz(X:Cx)(F:List W->List aj->R W):List V->Hp->VK->Prop:=fun vs H Q=>∃μ st ws,fX X.K X.mg μ st H/\RelWs X.K μ H ws vs/\Ee X μ H Q (F ws st)
structure m3(X:Cx)(f:Value)(F:List W->List aj->R W):Prop where
 h:g9 X f (Uz X F)
 n:∀ws st,qM (F ws st)
def bg(F:List W->List aj->R W)(fs:FA):FE:=fun ρ st=>(fs ρ st).bind fun ws st=>F ws st
theorem BH{Q:VK}(n:∀ws st,qM (F ws st))(h:tE X (bg F fs) σ H Q):TL (Uz X F) (Qs X fs) σ H Q:=by
 obtain⟨μ,ρ,st,l,h⟩:=h
 exact⟨μ,ρ,st,l,RK.bind h l fun μ1 st1 x v H1 p1 x1 l1 q1 h1=>⟨μ1,st1,x,l1.sto,q1,sW h1 (n _ _)⟩⟩
theorem gT(hc:m3 X (.builtin id) F)(hm:X.mg x=none)(hv:bootBuiltins x=some (.builtin id))(ha:SA X (e::es) fs)(hg:Gl X x:=by rfl)(hn:x ≠ "__name__":=by decide)(zL:(x==("__debug__":Str))=false:=by decide)
  (he:starEach (e::es) X.env=(false,eval e X.env)::starEach es X.env:=by rfl) (pK:(backTo pos (starEach es X.env)).any (·.1)=false:=by rfl):SE X (.Call (.Name x p) (e::es) [] pos) (bg F fs):=⟨(yd hc.h hg hm hv ha.h hn zL he pK).imp fun _ _ _ h=>BH hc.n h⟩
theorem gI{T:String}(hc:m3 X (.type T) F)(hm:X.mg x=none)(hv:bootBuiltins x=some (.type T))(ha:SA X (e::es) fs)(hg:Gl X x:=by rfl)(hn:x ≠ "__name__":=by decide)(zL:(x==("__debug__":Str))=false:=by decide)
  (he:starEach (e::es) X.env=(false,eval e X.env)::starEach es X.env:=by rfl) (pK:(backTo pos (starEach es X.env)).any (·.1)=false:=by rfl):SE X (.Call (.Name x p) (e::es) [] pos) (bg F fs):=⟨(qK hc.h hg hm hv ha.h hn zL he pK).imp fun _ _ _ h=>BH hc.n h⟩
theorem RelWs.two{a b:W}(r:RelWs K μ H [a,b] vs):∃x y,vs=[x,y]/\be K μ H a x/\be K μ H b y:=by
 obtain⟨x,xs,rfl,rx,rn⟩:=r.consE
 obtain⟨y,ys,rfl,ry,rm⟩:=rn.consE
 rw[rm.nilE];exact⟨x,y,rfl,rx,ry⟩
theorem RelWs.one{a:W}(r:RelWs K μ H [a] vs):∃x,vs=[x]/\be K μ H a x:=by
 obtain⟨x,xs,rfl,rx,rn⟩:=r.consE
 rw[rn.nilE];exact⟨x,rfl,rx⟩
def cU(ws:List W)(st:List aj):R W:=match ws with
 |[.tup xs]=>.ok (.int xs.length) st
 |[.str l]=>if l.length<=jw then .ok (.int l.length) st else .bad
 |[.loc n]=>oN (lstOf st n) fun xs=>.ok (.int xs.length) st
 |_=>.bad
theorem jW:m3 X (.builtin "len") cU:=⟨fun pins s σ H vs us Q I rv ⟨μ,st,ws,S,r,q⟩=>by
 unfold cU at q
 split at q
 ·obtain⟨x,rfl,rx⟩:=r.one
  obtain⟨p,ys,rfl,hS,r'⟩:=rx.tupE
  exact pU pins s σ H _ us Q I rv ⟨p,ys,rfl,.inr hS,by rw[<- r'.len];exact mC S q⟩
 ·obtain⟨x,rfl,rx⟩:=r.one
  split at q
  ·rename_i c
   exact wa pins s σ H _ us Q I rv ⟨_,by rw[rx.strE],by rw[jf];exact iN c,by rw[jf];exact mC S q⟩
  ·exact q.elim
 ·obtain⟨x,rfl,rx⟩:=r.one
  unfold oN at q
  split at q
  ·rename_i ys e0
   obtain⟨a,vs,g,hS,r'⟩:=S.lstOf e0
   obtain⟨b1,f1,rfl⟩:=rx.locE
   rw[g]at f1;cases f1
   exact pU pins s σ H _ us Q I rv ⟨_,vs,rfl,.inl hS,by rw[<- r'.len];exact mC S q⟩
  ·exact q.elim
 ·exact q.elim,fun ws st=>by
 unfold cU oN
 repeat' split
 all_goals trivial⟩
def E4(ws:List W)(st:List aj):R W:=match ws with
 |[.int i,.int j]=>.ok (.int (if j>i then j else i)) st
 |_=>.bad
def Aj(ws:List W)(st:List aj):R W:=match ws with
 |[.int i,.int j]=>.ok (.int (if j<i then j else i)) st
 |_=>.bad
theorem QM(hc:X.calm=true:=by rfl):m3 X (.builtin "max") E4:=⟨fun pins s σ H vs us Q I rv ⟨μ,st,ws,S,r,q⟩=>by
 unfold E4 at q
 split at q
 ·obtain⟨x,y,rfl,rx,ry⟩:=r.two
  exact C1 hc pins s σ H _ us Q I rv ⟨_,_,by rw[rx.intE,ry.intE],mC S q⟩
 ·exact q.elim,fun ws st=>by unfold E4;split<;>trivial⟩
theorem QN(hc:X.calm=true:=by rfl):m3 X (.builtin "min") Aj:=⟨fun pins s σ H vs us Q I rv ⟨μ,st,ws,S,r,q⟩=>by
 unfold Aj at q
 split at q
 ·obtain⟨x,y,rfl,rx,ry⟩:=r.two
  exact C2 hc pins s σ H _ us Q I rv ⟨_,_,by rw[rx.intE,ry.intE],mC S q⟩
 ·exact q.elim,fun ws st=>by unfold Aj;split<;>trivial⟩
def cO(ws:List W)(st:List aj):R W:=match ws with
 |[.tup xs]=>.ok (.tup xs) st
 |[.loc n]=>oN (lstOf st n) fun xs=>.ok (.tup xs) st
 |_=>.bad
theorem iY:m3 X (.type "tuple") cO:=⟨fun pins s σ H vs us Q I rv ⟨μ,st,ws,S,r,q⟩=>by
 unfold cO at q
 split at q
 ·obtain⟨x,rfl,rx⟩:=r.one
  obtain⟨p,ys,rfl,hS,r'⟩:=id rx.tupE
  exact ye pins s σ H _ us Q I rv ⟨p,ys,rfl,hS,q μ _ H (ag _) dB.refl S rx⟩
 ·obtain⟨x,rfl,rx⟩:=r.one
  unfold oN at q
  split at q
  ·rename_i ys e0
   obtain⟨a,vs,g,hS,r'⟩:=S.lstOf e0
   obtain⟨b1,f1,rfl⟩:=rx.locE
   rw[g]at f1;cases f1
   refine ym pins s σ H _ us Q I rv ⟨_,vs,rfl,hS,fun l H2 hl e=>?_⟩
   subst e
   have x:=fq.same (K:=X.K) (ce hl (.tup vs))
   exact q μ _ _ (ag _) x (S.same (ce hl _)) (.tupI fq.new (r'.mono (ag _) x))
  ·exact q.elim
 ·exact q.elim,fun ws st=>by
 unfold cO oN
 repeat' split
 all_goals trivial⟩
def s_(ws:List W)(st:List aj):R W:=match ws with
 |[.tup xs]=>.ok (.loc st.length) (st++[.lst xs])
 |[.loc n]=>oN (lstOf st n) fun xs=>.ok (.loc st.length) (st++[.lst xs])
 |_=>.bad
theorem Nf:m3 X (.type "list") s_:=⟨fun pins s σ H vs us Q I rv ⟨μ,st,ws,S,r,q⟩=>by
 unfold s_ at q
 split at q
 ·obtain⟨x,rfl,rx⟩:=r.one
  obtain⟨p,ys,rfl,hS,r'⟩:=id rx.tupE
  refine sT pins s σ H _ us Q I rv ⟨p,ys,rfl,.inr hS,fun l H2 hl e=>?_⟩
  subst e
  exact q (μ++[l]) _ _ (aq _ _) (fq.same (ce hl _)) (S.newLst hl r') (mz S)
 ·obtain⟨x,rfl,rx⟩:=r.one
  unfold oN at q
  split at q
  ·rename_i ys e0
   obtain⟨a,vs,g,hS,r'⟩:=S.lstOf e0
   obtain⟨b1,f1,rfl⟩:=rx.locE
   rw[g]at f1;cases f1
   refine sT pins s σ H _ us Q I rv ⟨_,vs,rfl,.inl hS,fun l H2 hl e=>?_⟩
   subst e
   exact q (μ++[l]) _ _ (aq _ _) (fq.same (ce hl _)) (S.newLst hl r') (mz S)
  ·exact q.elim
 ·exact q.elim,fun ws st=>by
 unfold s_ oN
 repeat' split
 all_goals trivial⟩
end
section
variable{a b o:Expr}{fa fb fc fe:FE}{fs:FA}{ft:FT}{st1:Stmt}{sr sa sb:List Stmt}{g g':FS}
def aV(g g':FS):FS:=fun ρ st=>match g ρ st with
 |.nx ρ' bE=>g' ρ' bE
 |r=>r
def cE:FS:=fun ρ st=>.nx ρ st
theorem nK:SB X [] cE:=⟨Iq.imp fun D σ H h=>by
 obtain⟨μ,ρ,st,l,h⟩:=h
 exact h μ σ H (ag _) dB.refl l⟩
theorem fQ(h1:SS X st1 g):SB X [st1] g:=⟨Ir h1.h⟩
theorem bT(h1:SS X st1 g)(h2:SB X sr g'):SB X (st1::sr) (aV g g'):=⟨(x9 h1.h h2.h).imp fun D σ H h=>by
 obtain⟨μ,ρ,st,l,h⟩:=h
 refine⟨μ,ρ,st,l,?_⟩
 unfold aV at h
 cases e:g ρ st with
 |nx ρ' bE=>rw[e]at h;exact fun μ' σ' H' p x l'=>⟨μ',ρ',bE,l',SK.mono h p x⟩
 |rt w bE=>rw[e]at h;exact h
 |bk ρ' bE=>rw[e]at h;exact h
 |ct ρ' bE=>rw[e]at h;exact h
 |ex c ρ' bE=>rw[e]at h;exact h
 |bad=>rw[e]at h;exact h⟩
def R.stmt(r:R α)(ρ:bQ)(k:α->List aj->RS):RS:=match r with
 |.ok a st=>k a st
 |.ex c st=>.ex c ρ st
 |.bad=>.bad
@[simp] theorem R.stmt_ok{α:Type}(a:α)(st:List aj)(ρ:bQ)(k:α->List aj->RS):(R.ok a st).stmt ρ k=k a st:=rfl
theorem RK.stmt{jc:List Addr->Hp->α->β->Prop}{ρ:bQ}{st:List aj}{D:v5}{r:R α}{k:α->List aj->RS}{T:β->Hp->Prop}
  (h:SK X μ H D (r.stmt ρ k)) (l:Rl X μ ρ st σ H)
  (hk:∀μ' bE x v H',μ <+: μ'->dB X.K H H'->Rl X μ' ρ bE σ H'->jc μ' H' x v->SK X μ' H' D (k x bE)->T v H'):RK X jc μ σ H T r:=by
 cases r with
 |ok a bE=>exact fun μ' b H' p x s q=>hk μ' bE a b H' p x (l.to p x s) q (SK.mono h p x)
 |ex c bE=>exact XS.toE h l
 |bad=>exact h
def fw(fe:FE):FS:=fun ρ st=>(fe ρ st).stmt ρ fun _ st=>.nx ρ st
theorem n_(he:SE X e fe)(hs:swapsWith e none pos.line X.env=pure false:=by rfl):SS X (.Expr e pos) (fw fe):=⟨(Iu he.h hs).imp fun D σ H h=>by
 obtain⟨μ,ρ,st,l,h⟩:=h
 exact⟨μ,ρ,st,l,RK.stmt h l fun μ1 st1 x v H1 p1 x1 l1 q1 h1=>h1 μ1 σ H1 (ag _) dB.refl l1⟩⟩
def dH(fe:FE):FS:=fun ρ st=>(fe ρ st).stmt ρ fun w st=>.rt w st
theorem jX(he:SE X e fe):SS X (.Return (some e) pos) (dH fe):=⟨(Ms he.h).imp fun D σ H h=>by
 obtain⟨μ,ρ,st,l,h⟩:=h
 exact⟨μ,ρ,st,l,RK.stmt h l fun μ1 st1 x v H1 p1 x1 l1 q1 h1=>h1 μ1 v H1 (ag _) dB.refl l1.sto q1⟩⟩
def iP(t:FT)(g g':FS):FS:=fun ρ st=>(t ρ st).stmt ρ fun k st=>if k then g ρ st else g' ρ st
theorem rC(hc:ST X c ft)(ha:SB X sa g)(hb:SB X sb g'):SS X (.If c sa sb pos) (iP ft g g'):=⟨(PH hc.h ha.h hb.h).imp fun D σ H h=>by
 obtain⟨μ,ρ,st,l,h⟩:=h
 refine⟨μ,ρ,st,l,RK.stmt h l fun μ1 st1 x v H1 p1 x1 l1 q1 h1=>?_⟩
 cases q1
 cases x with
 |true=>exact⟨μ1,ρ,st1,l1,h1⟩
 |false=>exact⟨μ1,ρ,st1,l1,h1⟩⟩
abbrev FG:=W->bQ->Option bQ
abbrev KO:=List W->bQ->Option bQ
def QO(X:Cx)(f:FG):TG:=fun v σ H Q=>∃μ ρ st w ρ',Rl X μ ρ st σ H/\be X.K μ H w v/\f w ρ=some ρ'/\∀σ',Rl X μ ρ' st σ' H->Q σ' H
def T4(X:Cx)(f:KO):Iv:=fun vs σ H Q=>∃μ ρ st ws ρ',Rl X μ ρ st σ H/\RelWs X.K μ H ws vs/\f ws ρ=some ρ'/\∀σ',Rl X μ ρ' st σ' H->Q σ' H
theorem PG.imp{t t':TG}(h:PG X e t)(i:∀v σ H Q,t' v σ H Q->t v σ H Q):PG X e t':=fun pins s σ H x u Q I r q=>h pins s σ H x u Q I r (i _ _ _ _ q)
theorem KD.imp{e:List Expr}{t t':Iv}(h:KD X e t)(i:∀v σ H Q,t' v σ H Q->t v σ H Q):KD X e t':=fun pins s σ H x u Q I r q=>h pins s σ H x u Q I r (i _ _ _ _ q)
structure SG(X:Cx)(e:Expr)(f:FG):Prop where
 h:PG X e (QO X f)
structure Ta(X:Cx)(e:List Expr)(f:KO):Prop where
 h:KD X e (T4 X f)
def eE(i:Nat):FG:=fun w ρ=>some (ρ.set i (some w))
theorem wp(hN:X.N.Nodup)(hi:X.N[i]?=some x)(hx:Ec X.env.scope x)(hf:X.fn x=true\/X.env.scope.names.lookup x=some .local:=by first|exact .inl rfl|exact .inr rfl|assumption):SG X (.Name x pos) (eE i):=⟨(Iy hN hi hx hf).imp fun v σ H Q h=>by
 obtain⟨μ,ρ,st,w,ρ',l,r,e,q⟩:=h
 cases e
 exact q _ ⟨pY r i l.env,l.sto⟩⟩
def BI:KO:=fun ws ρ=>match ws with
 |[]=>some ρ
 |_=>none
def nL(f:FG)(fs:KO):KO:=fun ws ρ=>match ws with
 |w::ws=>(f w ρ).bind fun ρ'=>fs ws ρ'
 |[]=>none
theorem Jg:Ta X [] BI:=⟨Iz.imp fun vs σ H Q h=>by
 obtain⟨μ,ρ,st,ws,ρ',l,r,e,q⟩:=h
 cases ws with
 |nil=>cases e;exact⟨r.nilE,q σ l⟩
 |cons _ _=>cases e⟩
theorem E5{f:FG}{fs:KO}(h1:SG X e f)(h2:Ta X es fs)(hs:(assignEach (e::es) X.env).map (·.2)=assign e X.env::(assignEach es X.env).map (·.2):=by rfl):Ta X (e::es) (nL f fs):=⟨(Ep h1.h h2.h hs).imp fun vs σ H Q h=>by
 obtain⟨μ,ρ,st,ws,ρ',l,r,e,q⟩:=h
 cases ws with
 |nil=>cases e
 |cons w ws=>
  obtain⟨x,xs,rfl,rx,rs⟩:=r.consE
  simp only[nL]at e
  cases e1:f w ρ with
  |none=>rw[e1]at e;cases e
  |some ρ1=>
   rw[e1]at e
   exact⟨x,xs,rfl,μ,ρ,st,w,ρ1,l,rx,e1,fun σ1 l1=>⟨μ,ρ1,st,ws,ρ',l1,rs,e,q⟩⟩⟩
def QP(n:Nat)(fs:KO):FG:=fun w ρ=>match w with
 |.tup ws=>if ws.length=n then fs ws ρ else none
 |_=>none
theorem Ng{k:Nat}{fs:KO}(hc:X.calm=true)(h:Ta X es fs)(hn:(assignEach es X.env).length=n:=by rfl)(xI:(assignEach es X.env).findIdx? (·.1)=none:=by rfl):SG X (.Tuple es k pos) (QP n fs):=⟨(Mt hc h.h hn xI).imp fun v σ H Q h=>by
 obtain⟨μ,ρ,st,w,ρ',l,r,e,q⟩:=h
 cases w with
 |tup ws=>
  obtain⟨p,vs,rfl,hS,rs⟩:=r.tupE
  simp only[QP]at e
  by_cases c:ws.length=n
  ·rw[am c]at e
   exact⟨p,vs,rfl,hS,by rw[<- rs.len];exact c,μ,ρ,st,ws,ρ',l,rs,e,q⟩
  ·rw[az c]at e;cases e
 |_=>cases e⟩
def uK(fe:FE)(f:FG):FS:=fun ρ st=>(fe ρ st).stmt ρ fun w st=>match f w ρ with
 |some ρ'=>.nx ρ' st
 |none=>.bad
theorem QQ{f:FG}{D:v5}(h:Pg X (uK fe f) D σ H):Er (tE X fe) (QO X f) D σ H:=by
 obtain⟨μ,ρ,st,l,h⟩:=h
 refine⟨μ,ρ,st,l,RK.stmt h l fun μ1 st1 x v H1 p1 x1 l1 q1 h1=>?_⟩
 cases e1:f x ρ with
 |none=>rw[e1]at h1;exact h1.elim
 |some ρ'=>rw[e1]at h1;exact⟨μ1,ρ,st1,x,ρ',l1,q1,e1,fun σ' l'=>h1 μ1 σ' H1 (ag _) dB.refl l'⟩
theorem Nh{f:FG}(he:SE X e fe)(hg:SG X tg f)(hs:swapsWithSole [tg] e pos.line X.env=pure false:=by rfl)(hw:swappedStores [tg] e X.env=pure none:=by rfl)(h1:(assignEach [tg] X.env).map (·.2)=[assign tg X.env]:=by rfl):SS X (.Assign [tg] e pos) (uK fe f):=⟨(Es he.h hg.h hs hw h1).imp fun D σ H h=>QQ h⟩
def bM(i:Nat)(fe:FE):FS:=fun ρ st=>(fe ρ st).stmt ρ fun w st=>.nx (ρ.set i (some w)) st
theorem Ni(hN:X.N.Nodup)(hi:X.N[i]?=some x)(hx:Ec X.env.scope x)(he:SE X e fe)(hs:swapsWith e (some (.Name x iU)) pos.line X.env=pure false:=by rfl)(hf:X.fn x=true\/X.env.scope.names.lookup x=some .local:=by first|exact .inl rfl|exact .inr rfl|assumption) :
  SS X (.Assign [.Name x iU] e pos) (bM i fe):=⟨(Mv hN hi hx he.h hs hf).imp fun D σ H h=>by
 obtain⟨μ,ρ,st,l,h⟩:=h
 exact⟨μ,ρ,st,l,RK.stmt h l fun μ1 st1 x v H1 p1 x1 l1 q1 h1=>h1 μ1 _ H1 (ag _) dB.refl ⟨pY q1 i l1.env,l1.sto⟩⟩⟩
def m5(x i v:W)(st:List aj):Option (List aj):=match x,i with
 |.loc n,.int k=>(match st[n]? with
  |some (.lst ws)=>(Bo ws.length k).map fun j=>st.set n (.lst (ws.set j v))
  |_=>none)
 |_,_=>none
def lx(fo fi fe:FE)(f:W->W->W->List aj->Option (List aj)):FS:=fun ρ st=>(fe ρ st).stmt ρ fun v st=>(fo ρ st).stmt ρ fun x st=>(fi ρ st).stmt ρ fun i st=>match f x i v st with
 |some bE=>.nx ρ bE
 |none=>.bad
def BJ(X:Cx)(f:W->W->W->List aj->Option (List aj)):Iw:=fun o i v H Q=>∃μ st wo wi wv bE,fX X.K X.mg μ st H/\be X.K μ H wo o/\be X.K μ H wi i/\be X.K μ H wv v/\f wo wi wv st=some bE/\∀H',dB X.K H H'->fX X.K X.mg μ bE H'->Q H'
theorem Ak:zS X (BJ X m5):=fun pins s σ H o i v ov iv u Q I r1 r2 r3 ⟨μ,st,wo,wi,wv,bE,S,ro,ri,rv,e,q⟩=>by
 cases wo with
 |loc n=>
  cases wi with
  |int k=>
   simp only[m5]at e
   cases e1:st[n]? with
   |none=>rw[e1]at e;cases e
   |some cc=>
    rw[e1]at e
    cases cc with
    |lst ws=>
     simp only at e
     cases e2:Bo ws.length k with
     |none=>rw[e2]at e;cases e
     |some jj=>
      rw[e2]at e
      cases e
      obtain⟨a1,g1,vs,k1,r⟩:=S.get e1
      obtain⟨b1,f1,rfl⟩:=ro.locE
      rw[g1]at f1;cases f1
      refine Df pins s σ H _ i v ov iv u Q I r1 r2 r3 ⟨a1,vs,k,jj,rfl,ri.intE,k1,by rw[<- r.len];exact e2,fun H2 eH=>?_⟩
      subst eH
      exact q _ (fq.but f7 k1) (S.set e1 g1 k1 (r.setI jj rv))
    |_=>cases e
  |_=>cases e
 |_=>cases wi<;>cases e
theorem qO{f:W->W->W->List aj->Option (List aj)}{i:Expr}{fi:FE}{fo:FE}(Ue:zS X (BJ X f))(he:SE X e fe)(ho:SE X o fo)(hi:SE X i fi)
  (ha:∀v,assign (.Subscript o i iU) X.env v=(do
   let ov <- holding [v] (eval o X.env)
   let iv <- holding [v,ov] (eval i X.env)
   standAt iU
   holding [v,ov,iv] (setItem ov iv v)
   release [v,ov,iv] []):=by intro _;rfl)
  (hs:swapsWithSole [.Subscript o i iU] e pos.line X.env=pure false:=by rfl) (hw:swappedStores [.Subscript o i iU] e X.env=pure none:=by rfl) (h1:(assignEach [.Subscript o i iU] X.env).map (·.2)=[assign (.Subscript o i iU) X.env]:=by rfl) :
  SS X (.Assign [.Subscript o i iU] e pos) (lx fo fi fe f):=⟨(Es he.h (Mu ho.h hi.h Ue ha) hs hw h1).imp fun D σ H h=>by
 obtain⟨μ,ρ,st,l,h⟩:=h
 refine⟨μ,ρ,st,l,RK.stmt h l fun μ1 st1 v vv H1 p1 x1 l1 q1 h1=>⟨μ1,ρ,st1,l1,RK.stmt h1 l1 fun μ2 cM x xv H2 p2 x2 l2 q2 h2=>⟨μ2,ρ,cM,l2,RK.stmt h2 l2 fun μ3 i5 i iv H3 p3 x3 l3 q3 h3=>?_⟩⟩⟩
 cases e1:f x i v i5 with
 |none=>rw[e1]at h3;exact h3.elim
 |some bE=>
  rw[e1]at h3
  exact⟨μ3,i5,x,i,v,bE,l3.sto,q2.mono p3 x3,q3,(q1.mono p2 x2).mono p3 x3,e1,fun H' xx S'=>h3 μ3 σ H' (ag _) xx (l3.to (ag _) xx S')⟩⟩
end
def h9(st:List aj):Option (Nat×List W)->Prop
 |none=>True
 |some (n,ws)=>lstOf st n=some ws
abbrev yy:=List W×Option (Nat×List W)
abbrev FI:=bQ->List aj->R yy
def Al(X:Cx)(J:It)(k:yy)(μ:List Addr)(H:Hp):Prop:=
 ∀(i:Nat) μ' bE H',μ <+: μ'->dB X.K H H'->fX X.K X.mg μ' bE H'->h9 bE k.2 ->
  (∀w,k.1[i]?=some w->J.go i H'/\∀x H'',J.yld i H' x H''->dB X.K H' H''/\fX X.K X.mg μ' bE H''/\be X.K μ' H'' w x)/\(k.1.length<=i->J.stop i H')
abbrev QR(X:Cx):List Addr->Hp->yy->It->Prop:=fun μ H k J=>Al X J k μ H
structure SI(X:Cx)(tg it:Expr)(f:FI):Prop where
 h:PI X tg it (fun σ H R=>tG X (QR X) f σ H R)
theorem PI.imp{it:Expr}{t t':TI}(h:PI X tg it t)(i:∀σ H Q,t' σ H Q->t σ H Q):PI X tg it t':=fun pins s σ H Q I q=>h pins s σ H Q I (i _ _ _ q)
open Classical in
def p_(f:FG)(body:FS)(ck:Option (Nat×List W)):List W->FS
 |[],ρ,st=>if h9 st ck then .nx ρ st else .bad
 |w::ws,ρ,st=>if h9 st ck then(match f w ρ with
  |none=>.bad
  |some ρ'=>(match body ρ' st with
   |.nx ρ2 cM=>p_ f body ck ws ρ2 cM
   |.ct ρ2 cM=>p_ f body ck ws ρ2 cM
   |.bk ρ2 cM=>.nx ρ2 cM
   |.rt w cM=>.rt w cM
   |.ex c ρ2 cM=>.ex c ρ2 cM
   |.bad=>.bad))else .bad
def dX(fi:FI)(f:FG)(body:FS):FS:=fun ρ st=>(fi ρ st).stmt ρ fun k st=>p_ f body k.2 k.1 ρ st
section
variable{a b o:Expr}{fa fb fe:FE}{fs:FA}{ft:FT}{g:FS}{f:FG}{fi:FI}
theorem wt(hi:SI X tg iter fi)(hg:SG X tg f)(hb:SB X body g)(hc:X.calm=true:=by rfl)(hp:PassesOwn (model X.prog X.w) X.A X.env X.xe:=by passes_own)(hs:∀x,foldedSetIterable iter X.env x=pure x:=by intro _;rfl):SS X (.For tg iter body [] pos) (dX fi f g):=⟨(Mx hp hc hi.h hg.h hb.h hs).imp fun D σ H h=>by
 obtain⟨μ,ρ,st,l,h⟩:=h
 refine⟨μ,ρ,st,l,RK.stmt h l fun μ1 st1 k J H1 p1 x1 l1 wk h1=>?_⟩
 refine⟨fun i m σ' H'=>i<=k.1.length/\m=k.1.length-i/\∃μ' ρ' bE,μ1 <+: μ'/\dB X.K H1 H'/\Rl X μ' ρ' bE σ' H'/\SK X μ' H' D (p_ f g k.2 (k.1.drop i) ρ' bE),
  ⟨_,cG _,rfl,μ1,ρ,st1,ag _,dB.refl,l1,h1⟩,?_⟩
 rintro i m σ' H' ⟨hi,rfl,μ',ρ',bE,pm,xm,lm,hm⟩
 by_cases ny:i<k.1.length
 ·rw[fB ny]at hm
  unfold p_ at hm
  by_cases ck:h9 bE k.2
  ·rw[am ck]at hm
   obtain⟨go,yld⟩:=(wk i μ' bE H' pm xm lm.sto ck).1 _ (ae ny)
   cases hf:f k.1[i] ρ' with
   |none=>rw[hf]at hm;exact hm.elim
   |some ρ2=>
    rw[hf]at hm
    simp only at hm
    refine .inr ⟨go,fun σ2 H2=>∃μ2 ρ3 cM,μ' <+: μ2/\dB X.K H' H2/\Rl X μ2 ρ3 cM σ2 H2/\SK X μ2 H2 D (p_ f g k.2 (k.1.drop (i+1)) ρ3 cM),fun σ2 H2 ⟨μ2,ρ3,cM,q1,q2,q3,q4⟩=>
     ⟨_,by omega,ny,rfl,μ2,ρ3,cM,pm.trans q1,xm.trans q2,q3,q4⟩,fun x H2 hy=>?_⟩
    obtain⟨y1,y2,y3⟩:=yld x H2 hy
    refine⟨μ',ρ',bE,k.1[i],ρ2,lm.to (ag _) y1 y2,y3,hf,fun σ2 l2=>⟨μ',ρ2,bE,l2,?_⟩⟩
    cases e:g ρ2 bE with
    |nx ρ3 i5=>rw[e]at hm;exact fun μ4 σ4 H4 p4 x4 l4=>⟨μ4,ρ3,i5,p4,y1.trans x4,l4,SK.mono hm p4 (y1.trans x4)⟩
    |ct ρ3 i5=>rw[e]at hm;exact fun μ4 σ4 H4 p4 x4 l4=>⟨μ4,ρ3,i5,p4,y1.trans x4,l4,SK.mono hm p4 (y1.trans x4)⟩
    |bk ρ3 i5=>rw[e]at hm;exact fun μ4 σ4 H4 p4 x4 l4=>hm μ4 σ4 H4 p4 (y1.trans x4) l4
    |rt w i5=>rw[e]at hm;exact fun μ4 v4 H4 p4 x4=>hm μ4 v4 H4 p4 (y1.trans x4)
    |ex c ρ3 i5=>rw[e]at hm;exact XS.mono hm (ag _) y1
    |bad=>rw[e]at hm;exact hm
  ·rw[az ck]at hm;exact hm.elim
 ·have hi':i=k.1.length:=by omega
  subst hi'
  rw[mT (au _)]at hm
  unfold p_ at hm
  by_cases ck:h9 bE k.2
  ·rw[am ck]at hm
   exact .inl ⟨(wk _ μ' bE H' pm xm lm.sto ck).2 (au _),hm μ' σ' H' (ag _) dB.refl lm⟩
  ·rw[az ck]at hm;exact hm.elim⟩
def eW(t:FT)(body:FS):Nat->FS
 |0,_,_=>.bad
 |n+1,ρ,st=>(t ρ st).stmt ρ fun k st=>if k then(match body ρ st with
   |.nx ρ2 cM=>eW t body n ρ2 cM
   |.ct ρ2 cM=>eW t body n ρ2 cM
   |.bk ρ2 cM=>.nx ρ2 cM
   |.rt w cM=>.rt w cM
   |.ex c ρ2 cM=>.ex c ρ2 cM
   |.bad=>.bad)else .nx ρ st
open Classical in
def jY(t:FT)(body:FS):FS:=fun ρ st=>if h:∃n,eW t body n ρ st≠.bad then eW t body h.choose ρ st else .bad
theorem nM(t:FT)(g:FS):∀(n:Nat) (ρ:bQ) (st:List aj),eW t g n ρ st≠.bad->eW t g (n+1) ρ st=eW t g n ρ st
 |0,_,_,h=>absurd rfl h
 |n+1,ρ,st,h=>by
  unfold eW at h ⊢
  cases e:t ρ st with
  |ex c st1=>rfl
  |bad=>rfl
  |ok k st1=>
   rw[e]at h
   simp only[R.stmt_ok]at h ⊢
   cases k with
   |false=>rfl
   |true=>
    simp only[dF]at h ⊢
    cases e2:g ρ st1 with
    |nx ρ2 cM=>rw[e2]at h;exact nM t g n ρ2 cM h
    |ct ρ2 cM=>rw[e2]at h;exact nM t g n ρ2 cM h
    |_=>rfl
theorem vh{t:FT}{n m:Nat}{ρ:bQ}{st:List aj}(h:eW t g n ρ st≠.bad)(hm:n<=m):eW t g m ρ st=eW t g n ρ st:=by
 induction hm with
 |refl=>rfl
 |@step m _ ih=>rw[nM t g m ρ st (by rw[ih];exact h),ih]
theorem vi{t:FT}{ρ:bQ}{st:List aj}{r:RS}(h:eW t g n ρ st=r)(hr:r≠.bad):jY t g ρ st=r:=by
 have hx:∃n,eW t g n ρ st≠.bad:=⟨n,by rw[h];exact hr⟩
 unfold jY
 rw[mU hx]
 have c:=hx.choose_spec
 have a:=vh c (Nat.le_max_left hx.choose n)
 have b:=vh (n:=n) (m:=max hx.choose n) (by rw[h];exact hr) (Nat.le_max_right _ _)
 rw[<- a,b,h]
theorem yz{t:FT}{D:v5}:∀(n:Nat) (σ:St) (H:Hp) (μ:List Addr) (ρ:bQ) (st:List aj),Rl X μ ρ st σ H->SK X μ H D (eW t g n ρ st)->Et (tT X t) (Pg X g) D σ H:=by
 intro n σ H μ ρ st l h
 refine⟨fun m σ' H'=>∃μ' ρ' bE,Rl X μ' ρ' bE σ' H'/\SK X μ' H' D (eW t g m ρ' bE),⟨n,μ,ρ,st,l,h⟩,?_⟩
 rintro m σ' H' ⟨μ',ρ',bE,l',h'⟩
 cases m with
 |zero=>exact h'.elim
 |succ m=>
  refine⟨μ',ρ',bE,l',RK.stmt h' l' fun μ1 st1 k v H1 p1 x1 l1 q1 h1=>?_⟩
  cases q1
  cases k with
  |false=>exact h1 μ1 σ' H1 (ag _) dB.refl l1
  |true=>
   refine⟨fun σ2 H2=>∃μ2 ρ2 cM,Rl X μ2 ρ2 cM σ2 H2/\SK X μ2 H2 D (eW t g m ρ2 cM),fun σ2 H2 z=>⟨m,gZ m,z⟩,μ1,ρ',st1,l1,?_⟩
   simp only[dF]at h1
   cases e:g ρ' st1 with
   |nx ρ3 i5=>rw[e]at h1;exact fun μ4 σ4 H4 p4 x4 l4=>⟨μ4,ρ3,i5,l4,SK.mono h1 p4 x4⟩
   |ct ρ3 i5=>rw[e]at h1;exact fun μ4 σ4 H4 p4 x4 l4=>⟨μ4,ρ3,i5,l4,SK.mono h1 p4 x4⟩
   |bk ρ3 i5=>rw[e]at h1;exact h1
   |rt w i5=>rw[e]at h1;exact h1
   |ex c ρ3 i5=>rw[e]at h1;exact h1
   |bad=>rw[e]at h1;exact h1
theorem tf{t:FT}(hc:ST X c t)(hb:SB X body g)(hp:PassesOwn (model X.prog X.w) X.A X.env X.xe:=by passes_own):SS X (.While c body [] pos) (jY t g):=⟨(Eu hp hc.h hb.h).imp fun D σ H h=>by
 obtain⟨μ,ρ,st,l,h⟩:=h
 unfold jY at h
 by_cases hx:∃n,eW t g n ρ st≠.bad
 ·rw[mU hx]at h;exact yz _ σ H μ ρ st l h
 ·rw[dif_neg hx]at h;exact h.elim⟩
def E6(fe:FE):FI:=fun ρ st=>(fe ρ st).bind fun x st=>match x with
 |.tup ws=>.ok (ws,none) st
 |_=>.bad
theorem E7(he:SE X e fe):SI X tg e (E6 fe):=⟨(Mw he.h).imp fun σ H R h=>by
 obtain⟨μ,ρ,st,l,h⟩:=h
 refine⟨μ,ρ,st,l,RK.bind h l fun μ1 st1 x v H1 p1 x1 l1 q1 h1=>?_⟩
 cases x with
 |tup ws=>
  obtain⟨p,vs,rfl,hS,r⟩:=q1.tupE
  refine⟨p,rfl,⟨vs,hS⟩,h1 μ1 _ H1 (ag _) dB.refl l1.sto fun i μ' bE H' pp xx S _=>⟨fun w hw=>?_,fun hl=>⟨vs,xx _ _ hS,by rw[<- r.len];exact hl⟩⟩⟩
  have r':=r.mono pp xx
  obtain⟨v,g1,g2⟩:=r'.get hw
  refine⟨⟨vs,v,xx _ _ hS,g1⟩,fun y H'' hy=>?_⟩
  obtain⟨rfl,hy⟩:=hy
  have:=hy vs (xx _ _ hS)
  rw[g1]at this;cases this
  exact⟨dB.refl,S,g2⟩
 |_=>exact h1.elim⟩
def KP(fe:FE):FI:=fun ρ st=>(fe ρ st).bind fun x st=>match x with
 |.loc n=>(match lstOf st n with
  |some ws=>.ok (ws,some (n,ws)) st
  |none=>.bad)
 |_=>.bad
theorem Nj(he:SE X e fe):SI X tg e (KP fe):=⟨(IA he.h).imp fun σ H R h=>by
 obtain⟨μ,ρ,st,l,h⟩:=h
 refine⟨μ,ρ,st,l,RK.bind h l fun μ1 st1 x v H1 p1 x1 l1 q1 h1=>?_⟩
 cases x with
 |loc n=>
  obtain⟨a,ha,rfl⟩:=q1.locE
  simp only at h1
  cases e1:lstOf st1 n with
  |none=>rw[e1]at h1;exact h1.elim
  |some ws=>
   rw[e1]at h1
   obtain⟨a',vs0,g0,hS0,r0⟩:=l1.sto.lstOf e1
   rw[ha]at g0;cases g0
   refine⟨a,rfl,⟨vs0,hS0⟩,h1 μ1 _ H1 (ag _) dB.refl l1.sto fun i μ' bE H' pp xx S ck=>?_⟩
   obtain⟨a2,vs,g2,hS,r⟩:=S.lstOf (show lstOf bE n=some ws from ck)
   have:μ'[n]?=some a:=pre_get pp ha
   rw[g2]at this;cases this
   refine⟨fun w hw=>?_,fun hl=>⟨vs,hS,by rw[<- r.len];exact hl⟩⟩
   obtain⟨v,g1,g3⟩:=r.get hw
   refine⟨⟨vs,v,hS,g1⟩,fun y H'' hy=>?_⟩
   obtain⟨rfl,hy⟩:=hy
   have:=hy vs hS
   rw[g1]at this;cases this
   exact⟨dB.refl,S,g3⟩
 |_=>exact h1.elim⟩
def bq(lo:Int)(n:Nat):List W:=(List.range n).map fun(i:Nat)=>W.int (lo+i)
theorem bK(lo:Int)(n:Nat):(bq lo n).length=n:=by simp[bq]
theorem tj{lo:Int}:Al X (PL lo n) (bq lo n,none) μ H:=fun i μ' bE H' pp xx S _=>by
 refine⟨fun w hw=>?_,fun hl=>by rw[bK]at hl;exact hl⟩
 have hi:i<n:=by
  have:=(aa.mp hw).1
  rw[bK]at this;exact this
 refine⟨hi,fun y H'' hy=>?_⟩
 obtain⟨rfl,rfl⟩:=hy
 have e:w=.int (lo+i):=by
  unfold bq at hw
  rw[ak,cW hi]at hw
  exact(aU hw).symm
 subst e
 exact⟨dB.refl,S,.int⟩
def bd(fs:FA):FI:=fun ρ st=>(fs ρ st).bind fun ws st=>match ws with
 |[.int j]=>if -(2^62)<=j/\j<2^62 then .ok (bq 0 j.toNat,none) st else .bad
 |_=>.bad
def qc(fs:FA):FI:=fun ρ st=>(fs ρ st).bind fun ws st=>match ws with
 |[.int i,.int j]=>if -(2^62)<=i/\i<2^62/\-(2^62)<=j/\j<2^62 then .ok (bq i (j-i).toNat,none) st else .bad
 |_=>.bad
theorem h_(hm:X.mg "range"=none)(ha:SA X [a] fs)(hg:Gl X "range":=by rfl)(hs:starEach [a] X.env=[(false,eval a X.env)]:=by rfl):SI X tg (.Call (.Name "range" p) [a] [] pos) (bd fs):=⟨(CY hg hm ha.h hs).imp fun σ H R h=>by
 obtain⟨μ,ρ,st,l,h⟩:=h
 refine⟨μ,ρ,st,l,RK.bind h l fun μ1 st1 x v H1 p1 x1 l1 q1 h1=>?_⟩
 split at h1
 ·obtain⟨y,rfl,ry⟩:=q1.one
  split at h1
  ·rename_i c
   exact⟨_,by rw[ry.intE],c.1,c.2,h1 μ1 _ H1 (ag _) dB.refl l1.sto tj⟩
  ·exact h1.elim
 ·exact h1.elim⟩
theorem Do(hm:X.mg "range"=none)(ha:SA X [a,b] fs)(hg:Gl X "range":=by rfl)(hs:starEach [a,b] X.env=[(false,eval a X.env),(false,eval b X.env)]:=by rfl)(A5:starEach [b] X.env=[(false,eval b X.env)]:=by rfl):SI X tg (.Call (.Name "range" p) [a,b] [] pos) (qc fs):=⟨(CZ hg hm ha.h hs A5).imp fun σ H R h=>by
 obtain⟨μ,ρ,st,l,h⟩:=h
 refine⟨μ,ρ,st,l,RK.bind h l fun μ1 st1 x v H1 p1 x1 l1 q1 h1=>?_⟩
 split at h1
 ·obtain⟨y,z,rfl,ry,rz⟩:=q1.two
  split at h1
  ·rename_i c
   exact⟨_,_,by rw[ry.intE,rz.intE],c,h1 μ1 _ H1 (ag _) dB.refl l1.sto tj⟩
  ·exact h1.elim
 ·exact h1.elim⟩
end
mutual
def W.und(n:Nat):W->Bool
 |.loc m=>decide (m<n)
 |.tup ws=>undWs n ws
 |_=>true
def undWs(n:Nat):List W->Bool
 |[]=>true
 |w::ws=>w.und n&&undWs n ws
end
def aj.und(n:Nat):aj->Bool
 |.lst ws=>undWs n ws
 |.ro ws=>undWs n ws
 |.exc _=>true
 |.dct kvs=>undWs n (kvs.map fun p=>p.2)
 |.rod kvs=>undWs n (kvs.map fun p=>p.2)
 |.dcx kvs=>undWs n (kvs.map fun p=>p.2)
 |.tab _ _ _=>true
 |.pin _ _ _ w=>w.und n
 |.gone=>true
section
mutual
theorem be.und:∀{w:W} {v:V},be K μ H w v->w.und μ.length=true
 |.non,_,_=>by simp[W.und]
 |.bl _,_,_=>by simp[W.und]
 |.int _,_,_=>by simp[W.und]
 |.str _,_,_=>by simp[W.und]
 |.tup _,_,r=>by obtain⟨p,vs,_,_,c⟩:=r.tupE;unfold W.und;exact RelWs.und c
 |.loc _,_,r=>by obtain⟨a,e,_⟩:=r.locE;unfold W.und;exact bH (aa.mp e).1
theorem RelWs.und:∀{ws:List W} {vs:List V},RelWs K μ H ws vs->undWs μ.length ws=true
 |[],_,_=>by unfold undWs;rfl
 |_::_,_,r=>by obtain⟨x,xs,_,b,c⟩:=r.consE;unfold undWs;rw[be.und b,RelWs.und c];rfl
end
mutual
theorem be.take:∀{w:W} {v:V},be K μ H w v->w.und n=true->be K (μ.take n) H w v
 |.non,_,r,_=>by rw[r.nonE];exact .non
 |.bl _,_,r,_=>by rw[r.blE];exact .bl
 |.int _,_,r,_=>by rw[r.intE];exact .int
 |.str _,_,r,_=>by rw[r.strE];exact .str
 |.tup _,_,r,b=>by obtain⟨p,vs,rfl,h,c⟩:=r.tupE;unfold W.und at b;exact .tupI h (RelWs.takeN c b)
 |.loc _,_,r,b=>by obtain⟨a,e,rfl⟩:=r.locE;unfold W.und at b;exact .locI (by rw[bB (iB b)];exact e)
theorem RelWs.takeN:∀{ws:List W} {vs:List V},RelWs K μ H ws vs->undWs n ws=true->RelWs K (μ.take n) H ws vs
 |[],_,r,_=>by rw[r.nilE];exact .nilI
 |_::_,_,r,b=>by
  obtain⟨x,xs,rfl,b1,c1⟩:=r.consE
  unfold undWs at b
  rw[a8]at b
  exact .consI (be.take b1 b.1) (RelWs.takeN c1 b.2)
end
theorem KX.und_w(k:KX)(n:Nat):k.w.und n=true:=by
 have hi:∀ks:List Int,undWs n (ks.map W.int)=true:=fun ks=>by
  induction ks with
  |nil=>rfl
  |cons a l ih=>show(true&&undWs n (l.map W.int))=true;rw[ih];rfl
 cases k with
 |bo b=>rfl
 |fl ks=>unfold KX.w W.und;exact hi ks
 |pr i ks=>unfold KX.w W.und undWs;rw[show(W.int i).und n=true from rfl];unfold undWs;rw[show(W.tup (ks.map W.int)).und n=true by unfold W.und;exact hi ks];rfl
theorem yA:∀{kvs:List (KX×W)} {es:List DictEntry},Paired (rR K μ H) kvs es->undWs μ.length (kvs.map fun p=>p.2)=true
 |_,_,.nil=>rfl
 |_,_,.cons r t=>by
  obtain⟨_,_,v,h,_⟩:=r
  show(_&&undWs _ _)=true
  rw[h.und,yA t];rfl
theorem vj:∀{kvs:List (KX×W)} {es:List DictEntry},Paired (rR K μ H) kvs es->undWs n (kvs.map fun p=>p.2)=true->Paired (rR K (μ.take n) H) kvs es
 |_,_,.nil,_=>.nil
 |_,_,.cons r t,b=>by
  obtain⟨a,⟨u,c,d⟩,v,h,g⟩:=r
  have b:(_&&undWs n _)=true:=b
  rw[a8]at b
  exact .cons ⟨a,⟨u,be.take c (KX.und_w _ n),d⟩,v,be.take h b.1,g⟩ (vj t b.2)
theorem kS.und{c:aj}(r:kS K mg μ H c a):c.und μ.length=true:=by
 cases c with
 |lst ws=>obtain⟨vs,_,y⟩:=r;exact y.und
 |ro ws=>obtain⟨vs,_,y⟩:=r;exact y.und
 |exc c=>rfl
 |dct kvs=>obtain⟨vs,_,y⟩:=r;exact y.und
 |rod kvs=>obtain⟨vs,_,_,y⟩:=r;exact y.und
 |dcx kvs=>obtain⟨es,_,_,y,_⟩:=r;exact yA y
 |tab _ _ _=>rfl
 |pin _ _ _ _=>obtain⟨_,_,_,v,y,_⟩:=r;exact y.und
 |gone=>rfl
theorem kS.take{c:aj}(r:kS K mg μ H c a)(b:c.und n=true):kS K mg (μ.take n) H c a:=by
 cases c with
 |lst ws=>obtain⟨vs,x,y⟩:=r;exact⟨vs,x,y.takeN b⟩
 |ro ws=>obtain⟨vs,x,y⟩:=r;exact⟨vs,x,y.takeN b⟩
 |exc c=>exact r
 |dct kvs=>obtain⟨vs,x,y⟩:=r;exact⟨vs,x,y.takeN b⟩
 |rod kvs=>obtain⟨vs,o,x,y⟩:=r;exact⟨vs,o,x,y.takeN b⟩
 |dcx kvs=>obtain⟨es,x,d,y,z⟩:=r;exact⟨es,x,d,vj y b,z⟩
 |tab _ _ _=>exact r
 |pin _ _ _ _=>obtain⟨ea,p,g,v,y,z⟩:=r;exact⟨ea,p,g,v,y.take b,z⟩
 |gone=>trivial
end
theorem dR.ex{w:World}{o:HO}(x:dR P w H h a o):∃ob,h.get? a=some ob:=by
 cases o with
 |lst xs=>obtain⟨_,_,_,_,e⟩:=x;exact⟨_,e⟩
 |tup xs=>obtain⟨_,_,_,o,e,_⟩:=x;exact⟨_,e⟩
 |dK kvs=>obtain⟨_,_,_,_,o,_,_,e,_⟩:=x;exact⟨_,e⟩
 |dT kvs=>obtain⟨_,_,_,_,o,_,_,e,_⟩:=x;exact⟨_,e⟩
 |set S n=>obtain⟨o,_,_,_,e,_⟩:=x;exact⟨_,e⟩
 |ins C dx fs=>obtain⟨_,_,_,e,_⟩:=x;exact⟨_,e⟩
 |own y=>obtain⟨_,e⟩:=x;exact⟨_,e⟩
 |xd fs=>obtain⟨_,⟨_,_,_,e,_⟩,_⟩:=x;exact⟨_,e⟩
 |rng lo hi=>obtain⟨_,_,_,e⟩:=x;exact⟨_,e⟩
 |frz ob u=>obtain⟨e,_⟩:=x;exact⟨_,e⟩
 |tbl ps=>exact⟨_,(show h.get? a=some _ from x)⟩
 |met f y=>exact⟨_,(show h.get? a=some _ from x)⟩
 |ext φ=>obtain⟨_,⟨_,e⟩,_⟩:=x;exact⟨_,e⟩
def KQ(st bE:List aj)(ws:List W):Prop:=undWs st.length ws=true/\st.length<=bE.length/\∀(i:Nat),i<st.length->bE[i]?=st[i]?\/∃c,bE[i]?=some c/\c.und st.length=true
open Classical in
def ik(st bE:List aj)(ws:List W):List aj:=if KQ st bE ws then bE.take st.length else bE
theorem i6{st:List aj}{ws:List W}{vs:List V}(S:fX K mg μ st H)(S':fX K mg μ' bE H')(p:μ <+: μ')(r:RelWs K μ' H' ws vs) :
  ∃μ2,μ <+: μ2/\fX K mg μ2 (ik st bE ws) H'/\RelWs K μ2 H' ws vs:=by
 unfold ik
 by_cases k:KQ st bE ws
 ·rw[am k]
  obtain⟨k1,k2,k3⟩:=k
  have e:μ'.take st.length=μ:=by
   obtain⟨t,rfl⟩:=p
   rw[S.len,List.take_left]
  refine⟨μ'.take st.length,by rw[e];exact ag _,⟨fun i j a ci cj h1 h2 r1 r2 m1 m2=>?_,by rw[a7,a7,S'.len],fun i c a h1 h2=>?_⟩,r.takeN k1⟩
  ·have hi:i<st.length:=by have:=(aa.mp h1).1;rw[a7]at this;omega
   have hj:j<st.length:=by have:=(aa.mp h2).1;rw[a7]at this;omega
   rw[bB hi]at h1 m1
   rw[bB hj]at h2 m2
   exact S'.nd i j a ci cj h1 h2 r1 r2 m1 m2
  ·have hi:i<st.length:=by have:=(aa.mp h1).1;rw[a7]at this;omega
   rw[bB hi]at h1 h2
   refine(S'.at' i c a h1 h2).take ?_
   rcases k3 i hi with q|⟨c',q,b⟩
   ·rw[h1]at q
    obtain⟨a0,g0,r0⟩:=S.get q.symm
    have:=r0.und
    rw[S.len];exact this
   ·rw[h1]at q;cases q;exact b
 ·rw[az k]
  exact⟨μ',p,S',r⟩
def eN(N:Nat)(body:FS)(ws:List W)(st:List aj):R W:=match body (ws.map some++List.replicate (N-ws.length) none) st with
 |.rt w bE=>.ok w (ik st bE [w])
 |.nx _ bE=>.ok .non (ik st bE [])
 |.ex c _ bE=>.ex c (ik st bE [])
 |_=>.bad
def jE(P:Program)(w:World):Ed:=fun outer H s E e s'=>∃x C t B H',e=.ref x/\E C none H'/\s'.os=s.os/\AllBare s'.gens/\Un (ml outer) [] H H' s.heap s'.heap/\kF P w H' s'.heap/\H' x=none/\Heap.FlyingW B outer x C (.ref t) s'.heap /\
 ∀b o,s'.heap.get? b=some o->(H' b≠none\/((∃o0,s.heap.get? b=some o0)/\b∉ml outer))->B.get? b=some o
def lJ(K:Frag)(mg:Str->Option Value)(n:Nat)(F:List W->List aj->R W):Sp:=fun vs H Q E=>vs.length=n/\∃μ ws st,fX K mg μ st H/\RelWs K μ H ws vs/\(match F ws st with
 |.ok w bE=>∀μ' v H',μ <+: μ'->dB K H H'->fX K mg μ' bE H'->be K μ' H' w v->Q v H'
 |.ex c bE=>∀C μ' H',mg c=some C->μ <+: μ'->dB K H H'->fX K mg μ' bE H'->E C none H'
 |.bad=>False)
theorem ve.noted{c:Str}{e:Value}{Q:Unit->Shared->Prop}{E:Value->Shared->Prop}{M:Model}{outer:List Env}(f:ve X pins σ c H e s)(xI:X.stack=X.env::outer)(rq:X.env.frame=some X.env.locals)(hA:X.A.frames=some X.stack)
  (h:∀x C t B h',e=.ref x->X.mg c=some C->H x=none->Heap.FlyingW B X.stack x C (.ref t) h'->s.heap.UpToSlots h' ->
   (∀b o,s.heap.get? b=some o->(H b≠none\/((∃o0,X.s₀.heap.get? b=some o0)/\b∉X.fs/\b∉X.ex)\/((∃y,X.env.cells.lookup y=some b)/\b∉ml X.stack)\/∃p∈X.pn++pins,p.1=b)->B.get? b=some o)->Q () { s with heap:=h' }) :
  wpAny M X.A (leaving X.env e) Q E s:=by
 obtain⟨x,C,t,B,rfl,hC,hx,st,nx,ff,tr,cov⟩:=f.ex
 rw[xI]at ff hA
 rcases tr with tr|⟨oe,vs,he,rfl,_,hd,h1,h0⟩|⟨L,hL,tr⟩
 ·refine wpAny_leaving_nextW hA ff rq tr st nx fun h' hL=>?_
  obtain⟨k1,k2,k3,k4⟩:=hL
  exact h x C t B h' rfl hC hx ⟨k1,nx,by rw[xI];exact k2,k3⟩ k4 cov
 ·refine wpAny_leaving_firstW hA ff rq he st nx hd h1 h0 fun h' hL=>?_
  obtain⟨k1,k2,k3,k4⟩:=hL
  exact h x _ t B h' rfl hC hx ⟨k1,nx,by rw[xI];exact k2,k3⟩ k4 cov
 ·unfold leaving
  refine ah (wpAny_noteFrame_againW hL tr (wpAny_landsW ⟨st,nx,ff,tr⟩ fun h' fl up=>?_))
  exact h x C t B h' rfl hC hx (by rw[xI];exact fl) up cov
theorem ve.leaves{c:Str}{e:Value}{E:XK}{E':Value->Shared->Prop}(f:ve X pins σ c H e s)(xI:X.stack=X.env::X.outer)(rq:X.env.frame=some X.env.locals)(hA:X.A.frames=some X.stack)(O5:X.ex=[])
  (hE:∀C,X.mg c=some C->E C none H):wpAny M X.A (leaving X.env e) (fun _ s''=>jE X.prog X.w X.outer X.H₀ X.s₀ E e s'') E' s:=by
 refine f.noted xI rq hA fun x C t B h' he hC hx fl up cov=>?_
 have I:=f.inv
 have un:=I.base
 rw[O5]at un
 have fsE:X.fs=ml X.outer:=rfl
 obtain⟨f1,f2,f3,f4⟩:=fl
 rw[xI]at f3
 obtain⟨_,_,f3'⟩:=f3
 have frames:∀b∈ml X.outer,∀o,s.heap.get? b=some o->∃sl,h'.get? b=some { o with slots:=sl }:=fun b hb o ho=>by
  obtain⟨_,o',ho',hd⟩:=I.funs.mem hb
  rw[ho]at ho';cases ho'
  exact up b o ho hd
 have kept:∀b o,s.heap.get? b=some o->(∃o0,X.s₀.heap.get? b=some o0)->b∉ml X.outer->h'.get? b=some o:=fun b o ho h0 hb=>f1 b o (cov b o ho (.inr (.inl ⟨h0,hb,by rw[O5];simp⟩)))
 have keptH:∀b o,s.heap.get? b=some o->H b≠none->h'.get? b=some o:=fun b o ho h0=>f1 b o (cov b o ho (.inl h0))
 refine⟨x,C,t,B,H,he,hE C hC,I.os,I.bare,⟨fun b o q n hb hx=>?_,fun b o q n hb hx=>?_,fun b o q n hx=>un.free b o q n hx,fun b o q hx=>?_,un.tups,un.frzs,un.tbls⟩,fun b u hb=>?_,hx,⟨f1,f2,f3',f4⟩,fun b o ho hr=>?_⟩
 ·exact kept b o (un.keep b o q n hb hx) ⟨o,q⟩ hb
 ·obtain⟨sl,q1⟩:=un.slot b o q n hb hx
  obtain⟨Kx,q2⟩:=frames b hb _ q1
  exact⟨Kx,q2⟩
 ·obtain⟨o',q1⟩:=un.there b o q hx
  by_cases hb:b∈ml X.outer
  ·obtain⟨Kx,q2⟩:=frames b hb _ q1;exact⟨_,q2⟩
  ·exact⟨o',kept b o' q1 ⟨o,q⟩ hb⟩
 ·refine(I.hok b u hb).stay (fun c v hc q=>?_) (fun _ q=>q) fun _ _ q=>q
  refine keptH c v q ?_
  rcases hc with rfl|hc
  ·rw[hb];simp
  ·rw[hc];simp
 ·rcases hr with hr|⟨⟨o0,h0⟩,hb⟩
  ·cases hu:H b with
   |none=>exact absurd hu hr
   |some u=>
    have lt:=I.hok.lt hu
    obtain⟨ob,HK⟩:∃ob,s.heap.get? b=some ob:=by
     exact(I.hok b u hu).ex
    have:=keptH b ob HK hr
    rw[ho]at this;cases this
    exact cov b o HK (.inl hr)
  ·obtain⟨o',q1⟩:=un.there b o0 h0 (by simp)
   have:=kept b o' q1 ⟨o0,h0⟩ hb
   rw[ho]at this;cases this
   exact cov b o q1 (.inr (.inl ⟨⟨o0,h0⟩,hb,by rw[O5];simp⟩))
structure eO(P:Program)(w:World)(K:Frag)(mg:Str->Option Value)(base:Heap)(k:Nat)(x:Str)(n:Nat)(F:List W->List aj->R W):Prop where
 ex:∃(f:Addr) (fd:FuncData) (ps:List Str),mg x=some (.ref f)/\keepIn K (.ref f)=true/\ps.length=n/\yb K fd ps []/\fy P w K mg base (jE P w) k f fd ps (lJ K mg n F)
theorem eO.mono{w:World}{k:Nat}(h:eO P w K mg base j x n F)(hj:j<=k):eO P w K mg base k x n F:=by
 obtain⟨f,fd,ps,a,b,c,d,e⟩:=h.ex
 exact⟨f,fd,ps,a,b,c,d,e.mono hj⟩
def d7(n:Nat)(F:List W->List aj->R W)(fs:FA):FE:=fun ρ st=>(fs ρ st).bind fun ws st=>if ws.length=n then F ws st else .bad
section
theorem QT{k:Nat}{Q:VK}{st:List aj}
  (Fn:fy X.prog X.w X.K X.mg X.base (jE X.prog X.w) k f fd ps (lJ X.K X.mg n F)) (hn:ps.length=n) (hr:fY k X.A) (hb:yb X.K fd ps []) (I:bv X pins σ H s) (S:fX X.K X.mg μ st H) (r:RelWs X.K μ H ws vs) (rv:cA vs us) (hl:ws.length=n)
  (h:RK X (rS X) μ σ H Q (F ws st)):wpAny (model X.prog X.w) X.A (call (.ref f) us) (EP X pins σ Q) X.xe s:=by
 have hl':(us++([]:List Value)).length=ps.length:=by rw[bP,<- rv.length,<- r.len,hl,hn]
 cases e:F ws st with
 |bad=>rw[e]at h;exact h.elim
 |ok w bE=>
  rw[e]at h
  refine mV (iy (Fn.run X.A X.stack s H ⟨us,[]⟩ us vs Q (fun _ _ _=>False) hr I.env0 (by have:=hb s us I.kIn hl';rwa[bP]at this) rv ⟨by rw[<- r.len];exact hl,μ,ws,st,S,r,by rw[e];exact h⟩) fun r s' hq=>?_)
  cases r with
  |error e=>obtain⟨_,_,_,_,_,_,z,_⟩:=hq;exact z.elim
  |ok fl=>
   cases fl with
   |ret u=>exact I.after hq
   |next=>exact False.elim hq
   |brk=>exact False.elim hq
   |cont=>exact False.elim hq
 |ex c bE=>
  rw[e]at h
  refine mV (iy (Fn.run X.A X.stack s H ⟨us,[]⟩ us vs (fun _ _=>False) (fun C _ H'=>X.mg c=some C/\∃μ',μ <+: μ'/\dB X.K H H'/\fX X.K X.mg μ' bE H') hr I.env0 (by have:=hb s us I.kIn hl';rwa[bP]at this) rv
   ⟨by rw[<- r.len];exact hl,μ,ws,st,S,r,by rw[e];exact fun C μ' H' hC p x S'=>⟨hC,μ',p,x,S'⟩⟩) fun r s' hq=>?_)
  cases r with
  |ok fl=>
   cases fl with
   |ret u=>obtain⟨_,_,_,_,_,_,_,z⟩:=hq;exact z.elim
   |next=>exact False.elim hq
   |brk=>exact False.elim hq
   |cont=>exact False.elim hq
  |error ev=>
   obtain⟨x,C,t,B,H',rfl,⟨hC,μ',p,xx,S'⟩,os,bare,un,hok,hx,fl,cov⟩:=hq
   have I':bv X pins σ H' s':=I.call' os un hok bare fun b hb=>absurd hb (by simp)
   refine h pins μ' H' (.ref x) s' p xx S' ⟨I',x,C,t,B,rfl,hC,hx,fl.1,fl.2.1,fl.2.2.1,.inl fl.2.2.2,fun b o ho hrel=>?_⟩
   refine cov b o ho ?_
   rcases hrel with q|⟨⟨o0,h0⟩,hb,hbx⟩|⟨⟨y,hy⟩,hb⟩|⟨pp,hp,rfl⟩
   ·exact .inl q
   ·refine .inr ⟨?_,fun z=>?_⟩
    ·obtain⟨o',q1⟩:=I.base.there b o0 h0 hbx
     exact⟨o',q1⟩
    ·rcases aK.mp (I.stkSub b z)with z|z
     ·rw[z]at h0
      exact absurd (a6 (aI h0) I.ok.above) (bA _)
     ·exact hb z
   ·obtain⟨v,ov,hov,_⟩:=I.cell y b hy
    exact .inr ⟨⟨_,hov⟩,hb⟩
   ·obtain⟨g1,g2,g3,g4,_⟩:=I.pin pp hp
    refine .inr ⟨⟨_,g1⟩,fun z=>?_⟩
    rcases aK.mp (I.stkSub _ z)with z|z
    ·exact g3 z
    ·exact g4 z
variable{fs:FA}
theorem gz{k k':Nat}(Fn:eO X.prog X.w X.K X.mg X.base k x n F)(hr:fY k' X.A)(hk:k<=k')(ha:SA X (e::es) fs)(hg:Gl X x:=by rfl)(zL:(x==("__debug__":Str))=false:=by decide)
  (he:starEach (e::es) X.env=(false,eval e X.env)::starEach es X.env:=by rfl) (pK:(backTo pos (starEach es X.env)).any (·.1)=false:=by rfl):SE X (.Call (.Name x p) (e::es) [] pos) (d7 n F fs):=⟨by
 intro pins s σ H Q I h
 obtain⟨f,fd,ps,hm,hkp,hn,hb,Fo⟩:=(Fn.mono hk).ex
 refine e_ (Bj I hg hm ?_ zL)
 obtain⟨μ,ρ,st,l,h⟩:=h
 have h':Qs X fs σ H fun vs H1=>∃μ1 st1 ws,Rl X μ1 ρ st1 σ H1/\RelWs X.K μ1 H1 ws vs/\RK X (rS X) μ1 σ H1 Q (if ws.length=n then F ws st1 else .bad):=
  ⟨μ,ρ,st,l,RK.bind h l fun μ1 st1 x v H1 p1 x1 l1 q1 h1=>⟨μ1,st1,x,l1,q1,h1⟩⟩
 refine PySem.W.callWith_K (h₀:=X.base) I.ok.mod.kin hkp (f6 (ha.h pos pins s σ H _ I h') fun us s1 ⟨vs,H1,I1,r,μ1,st1,ws,l1,r1,q⟩=>⟨I1.kIn,?_⟩) he pK
 by_cases c:ws.length=n
 ·rw[am c]at q
  exact QT Fo hn hr hb I1 l1.sto r1 r c q
 ·rw[az c]at q;exact q.elim⟩
end
theorem wz{w:World}{st:Stmt}{N:List Str}{k:Nat}{g:FS}(F:mn K x qual st f fd)(S:bS N ps (aZ st))(hn:ps.length=n)
  (uz:∀(gX:Value) (A:Around) (outer:List Env) (s:Shared) (H:Hp) (E:XK),fd.code=gX->fY k (A.deeper (envOfC qual (aZ st) s.heap.objs.size f gX)) ->
   SB (zX (jE P w) P w K mg base N qual (aZ st) f gX A outer s H E) (dU st) g):fy P w K mg base (jE P w) (k+1) f fd ps (lJ K mg n (eN N.length g)):=by
 obtain⟨oc,od,kV,jb,pm,an,gX,ct,L_,rfl,lk,lK⟩:=F.ex
 refine P4 lk lK S (fun vs H Q E h=>by rw[hn];exact h.1) fun A outer s H vs Q E hr L5=>?_
 obtain⟨hl,μ,ws,CJ,Sr,r,h⟩:=L5
 refine⟨_,(uz gX A outer s H E rfl hr).h,μ,ws.map some++List.replicate (N.length-ws.length) none,CJ,⟨?_,Sr⟩,?_⟩
 ·unfold jv
  rw[<- r.len]
  have base:∀(ws:List W) (vs:List V) (m:Nat),RelWs K μ H ws vs->Paired (fun(o:Option W) (s:Option V)=>∀w,o=some w->∃v,s=some v/\be K μ H w v) (ws.map some++List.replicate m none) (vs.map some++List.replicate m none):=by
   intro ws
   induction ws with
   |nil=>
    intro vs m r
    rw[r.nilE]
    induction m with
    |zero=>exact .nil
    |succ m ih=>exact .cons (fun w z=>nomatch z) ih
   |cons w ws ih=>
    intro vs m r
    obtain⟨y,ys,rfl,ry,rys⟩:=r.consE
    exact .cons (fun w' z=>⟨y,rfl,by cases z;exact ry⟩) (ih ys m rys)
  exact base ws vs _ r
 ·unfold eN at h
  cases e:g (ws.map some++List.replicate (N.length-ws.length) none) CJ with
  |rt w bE=>
   rw[e]at h
   intro μ' v H' p x S' kG
   obtain⟨μ2,p2,S2,r2⟩:=i6 Sr S' p (.consI kG .nilI)
   obtain⟨_,e2,r3⟩:=r2.one
   cases e2
   exact h μ2 v H' p2 x S2 r3
  |nx ρ' bE=>
   rw[e]at h
   intro μ' σ' H' p x l'
   obtain⟨μ2,p2,S2,_⟩:=i6 (ws:=[]) (vs:=[]) Sr l'.sto p .nilI
   exact h μ2 .non H' p2 x S2 .non
  |ex c ρ' bE=>
   rw[e]at h
   intro pins μ' σ' H' ev s' p x l' fl
   obtain⟨μ2,p2,S2,_⟩:=i6 (ws:=[]) (vs:=[]) Sr l'.sto p .nilI
   exact fl.leaves rfl rfl fl.inv.ok.frames rfl fun C hC=>h C μ2 H' hC p2 x S2
  |bk ρ' bE=>rw[e]at h;exact h.elim
  |ct ρ' bE=>rw[e]at h;exact h.elim
  |bad=>rw[e]at h;exact h.elim
theorem dE{w:World}{st:Stmt}{N:List Str}{k:Nat}{g:FS}(F:mn K x qual st f fd)(S:bS N ps (aZ st))(hn:ps.length=n)
  (uz:∀(gX:Value) (A:Around) (outer:List Env) (s:Shared) (H:Hp) (E:XK),fY k (A.deeper (envOfC qual (aZ st) s.heap.objs.size f gX)) ->
   SB (zX (jE P w) P w K mg base N qual (aZ st) f gX A outer s H E) (dU st) g):fy P w K mg base (jE P w) (k+1) f fd ps (lJ K mg n (eN N.length g)):=wz F S hn fun gX A outer s H E _ hr=>uz gX A outer s H E hr
theorem BK{w:World}{k:Nat}{st:Stmt}
  (F:mn K x x st f fd) (hm:mg x=some (.ref f)) (hn:ps.length=n)
  (hb:∀(kV jb pm:Value) (an:Option Addr) (gX ct:Value) (us:List Value),us.length=ps.length->bindArgs (fnOf x x (dS st) (dU st) (aZ st) .none kV jb pm an gX ct) ⟨us,[]⟩=pure (ps.zip us))
  (ok:fy P w K mg base (jE P w) k f fd ps (lJ K mg n G)):eO P w K mg base k x n G:=⟨f,fd,ps,hm,F.kp,hn,F.binds hb,ok⟩
section
variable{a b o:Expr}{fa fb fe fo:FE}{fs:FA}
structure Nl(X:Cx)(id:String)(F:W->List W->List aj->R W):Prop where
 h:Ia X id (fun x vs H Q=>∃μ st wx ws,fX X.K X.mg μ st H/\be X.K μ H wx x/\RelWs X.K μ H ws vs/\Ee X μ H Q (F wx ws st))
 n:∀x ws st,qM (F x ws st)
def tq(st:List aj):W->Bool
 |.loc n=>(match st[n]? with|some (.lst _)=>true|_=>false)
 |_=>false
def E8:W->Bool
 |.str _=>true
 |_=>false
theorem E9{st:List aj}{w:W}{v:V}(S:fX X.K X.mg μ st H)(r:be X.K μ H w v)(h:tq st w=true):∃l ys,v=.ref l/\H l=some (.lst ys):=by
 cases w with
 |loc n=>
  obtain⟨a,ha,rfl⟩:=r.locE
  simp only[tq]at h
  cases e1:st[n]? with
  |none=>rw[e1]at h;cases h
  |some cc=>
   rw[e1]at h
   cases cc with
   |lst ws=>obtain⟨a1,g1,vs,k1,_⟩:=S.get e1;rw[ha]at g1;cases g1;exact⟨_,vs,rfl,k1⟩
   |_=>cases h
 |_=>cases h
def rW(F:W->List W->List aj->R W)(fo:FE)(fs:FA):FE:=fun ρ st=>(fo ρ st).bind fun x st=>if tq st x then(fs ρ st).bind fun ws st=>F x ws st else .bad
def QU(F:W->List W->List aj->R W)(fo:FE)(fs:FA):FE:=fun ρ st=>(fo ρ st).bind fun x st=>if E8 x then(fs ρ st).bind fun ws st=>F x ws st else .bad
theorem Dp{F:W->List W->List aj->R W}(slot:Slot "list" name id)(D7:typeOf (.builtin id)=pure (.type "method_descriptor"))(hm:Nl X id F)(ho:SE X o fo)(ha:SA X (e::es) fs)
  (qv:attributeBase o name X.env (eval o X.env)=eval o X.env:=by rfl)
  (xQ:((backTo c8 (starEach (e::es) X.env)).all (fun x=>!x.1)&&(backToKw c8 (keywordEach [] X.env)).all (fun x=>x.1.isSome)
   && decide ((e::es).length+([]:List Keyword).length+(if ([]:List Keyword).isEmpty then 0 else 1)<30))=true:=by rfl)
  (qw:(fI.endLine==c8.line)=true:=by rfl) (hs:starEach (e::es) X.env=(false,eval e X.env)::starEach es X.env:=by rfl) (mK:(backTo c8 (starEach es X.env)).any (·.1)=false:=by rfl) :
  SE X (.Call (.Attribute o name fI) (e::es) [] c8) (rW F fo fs):=⟨(Qj slot D7 hm.h ho.h ha.h qv xQ qw hs mK).imp fun σ H Q h=>by
 obtain⟨μ,ρ,st,l,h⟩:=h
 refine⟨μ,ρ,st,l,RK.bind h l fun μ1 st1 x v H1 p1 x1 l1 q1 h1=>?_⟩
 by_cases c:tq st1 x=true
 ·rw[am c]at h1
  refine⟨E9 l1.sto q1 c,μ1,ρ,st1,l1,RK.bind h1 l1 fun μ2 cM ws vs H2 p2 x2 l2 q2 h2=>?_⟩
  exact⟨μ2,cM,x,ws,l2.sto,q1.mono p2 x2,q2,sW h2 (hm.n _ _ _)⟩
 ·rw[az c]at h1;exact h1.elim⟩
theorem T5{F:W->List W->List aj->R W}(slot:Slot "str" name id)(D7:typeOf (.builtin id)=pure (.type "method_descriptor"))(hm:Nl X id F)(ho:SE X o fo)(ha:SA X (e::es) fs)
  (qv:attributeBase o name X.env (eval o X.env)=eval o X.env:=by rfl)
  (xQ:((backTo c8 (starEach (e::es) X.env)).all (fun x=>!x.1)&&(backToKw c8 (keywordEach [] X.env)).all (fun x=>x.1.isSome)
   && decide ((e::es).length+([]:List Keyword).length+(if ([]:List Keyword).isEmpty then 0 else 1)<30))=true:=by rfl)
  (qw:(fI.endLine==c8.line)=true:=by rfl) (hs:starEach (e::es) X.env=(false,eval e X.env)::starEach es X.env:=by rfl) (mK:(backTo c8 (starEach es X.env)).any (·.1)=false:=by rfl) :
  SE X (.Call (.Attribute o name fI) (e::es) [] c8) (QU F fo fs):=⟨(Ql slot D7 hm.h ho.h ha.h qv xQ qw hs mK).imp fun σ H Q h=>by
 obtain⟨μ,ρ,st,l,h⟩:=h
 refine⟨μ,ρ,st,l,RK.bind h l fun μ1 st1 x v H1 p1 x1 l1 q1 h1=>?_⟩
 cases x with
 |str z=>
  rw[am (show E8 (W.str z)=true from rfl)]at h1
  refine⟨⟨z,q1.strE⟩,μ1,ρ,st1,l1,RK.bind h1 l1 fun μ2 cM ws vs H2 p2 x2 l2 q2 h2=>?_⟩
  exact⟨μ2,cM,_,ws,l2.sto,q1.mono p2 x2,q2,sW h2 (hm.n _ _ _)⟩
 |_=>exact h1.elim⟩
def c9(x:W)(ws:List W)(st:List aj):R W:=match x,ws with
 |.loc n,[y]=>(match st[n]? with
  |some (.lst zs)=>if zs.length<jw then .ok .non (st.set n (.lst (zs++[y])))else .bad
  |_=>.bad)
 |_,_=>.bad
theorem og:Nl X "list.append" c9:=⟨fun pins s σ H x vs v us Q I rv rus ⟨μ,st,wx,ws,S,rx,rs,q⟩=>by
 unfold c9 at q
 split at q
 ·rename_i n y
  obtain⟨y1,rfl,ry⟩:=rs.one
  split at q
  ·rename_i zs e1
   split at q
   ·rename_i c
    obtain⟨a1,g1,vs,k1,r⟩:=S.get e1
    obtain⟨b1,f1,rfl⟩:=rx.locE
    rw[g1]at f1;cases f1
    refine z_ pins s σ H _ _ v us Q I rv rus ⟨a1,vs,y1,rfl,rfl,k1,by rw[<- r.len];exact M7 (df c),fun H2 e=>?_⟩
    subst e
    exact q μ _ _ (ag _) (fq.but f7 k1) (S.set e1 g1 k1 (r.app (.consI ry .nilI))) .non
   ·exact q.elim
  ·exact q.elim
 ·exact q.elim,fun x ws st=>by
 unfold c9
 repeat' split
 all_goals trivial⟩
def qe(x:W)(ws:List W)(st:List aj):R W:=match x,ws with
 |.loc n,[.loc m]=>(match st[n]?,st[m]? with
  |some (.lst zs),some (.lst ys)=>if zs.length+ys.length<=jw then .ok .non (st.set n (.lst (zs++ys)))else .bad
  |_,_=>.bad)
 |_,_=>.bad
theorem vk:Nl X "list.extend" qe:=⟨fun pins s σ H x vs v us Q I rv rus ⟨μ,st,wx,ws,S,rx,rs,q⟩=>by
 unfold qe at q
 split at q
 ·rename_i n m
  obtain⟨y1,rfl,ry⟩:=rs.one
  split at q
  ·rename_i zs ys e1 e2
   split at q
   ·rename_i c
    obtain⟨a1,g1,vs1,k1,r1⟩:=S.get e1
    obtain⟨a2,g2,vs2,k2,r2⟩:=S.get e2
    obtain⟨b1,f1,rfl⟩:=rx.locE
    obtain⟨b2,f2,rfl⟩:=ry.locE
    rw[g1]at f1;cases f1
    rw[g2]at f2;cases f2
    refine C6 pins s σ H _ _ v us Q I rv rus ⟨a1,a2,vs1,vs2,rfl,rfl,k1,k2,by rw[<- r1.len,<- r2.len];exact iN c,?_⟩
    exact q μ _ _ (ag _) (fq.but f7 k1) (S.set e1 g1 k1 (r1.app r2)) .non
   ·exact q.elim
  ·exact q.elim
 ·exact q.elim,fun x ws st=>by
 unfold qe
 repeat' split
 all_goals trivial⟩
def m6:List W->Option (List (List Nat))
 |[]=>some []
 |.str l::ws=>(m6 ws).map (l :: ·)
 |_=>none
theorem tu:∀{ws:List W} {ls:List (List Nat)} {vs:List V},m6 ws=some ls->RelWs K μ H ws vs->vs=ls.map fun l=>V.str (tx l)
 |[],ls,vs,h,r=>by simp only[m6]at h;cases h;exact r.nilE
 |w::ws,ls,vs,h,r=>by
  obtain⟨x,xs,rfl,rx,rs⟩:=r.consE
  cases w with
  |str l=>
   simp only[m6]at h
   cases e:m6 ws with
   |none=>rw[e]at h;cases h
   |some ls'=>rw[e]at h;cases h;rw[rx.strE,tu e rs];rfl
  |_=>simp only[m6]at h;cases h
theorem vm(ls:List (List Nat)):m6 (ls.map W.str)=some ls:=by
 induction ls with
 |nil=>rfl
 |cons a r ih=>show(m6 (r.map W.str)).map (a :: ·)=_;rw[ih];rfl
def tw(x:W)(ws:List W)(st:List aj):R W:=match x,ws with
 |.str sep,[.loc n]=>oN (lstOf st n) fun zs=>oN (m6 zs) fun ls=>if (ls.map List.length).sum+ls.length*sep.length<=jw then .ok (.str (oK sep ls)) st else .bad
 |_,_=>.bad
theorem Jh:Nl X "str.join" tw:=⟨fun pins s σ H x vs v us Q I rv rus ⟨μ,st,wx,ws,S,rx,rs,q⟩=>by
 unfold tw at q
 split at q
 ·rename_i sep n
  obtain⟨y1,rfl,ry⟩:=rs.one
  cases e1:lstOf st n with
  |none=>rw[e1]at q;exact q.elim
  |some zs=>
   rw[e1,cp]at q
   cases e2:m6 zs with
   |none=>rw[e2]at q;exact q.elim
   |some ls=>
    rw[e2,cp]at q
    split at q
    ·rename_i c
     obtain⟨a,vs,g,hS,r⟩:=S.lstOf e1
     obtain⟨b1,f1,rfl⟩:=ry.locE
     rw[g]at f1;cases f1
     have:=tu e2 r
     subst this
     exact IW pins s σ H _ _ v us Q I rv rus ⟨sep,_,ls,rx.strE,rfl,hS,a_ c (by decide),p9 S q⟩
    ·exact q.elim
 ·exact q.elim,fun x ws st=>by
 unfold tw
 split
 ·exact kT fun _=>kT fun _=>by split<;>trivial
 ·trivial⟩
end
def qf(cap:List (Option Nat))(ρ:bQ):bQ:=cap.map fun o=>o.bind fun j=>(ρ[j]?).join
theorem QV{ρ:bQ}(r:Paired (fun(o:Option W) (s:Option V)=>∀w,o=some w->∃v,s=some v/\be X.K μ H w v) ρ σ):∀cap:List (Option Nat),
  Paired (fun(o:Option W) (s:Option V)=>∀w,o=some w->∃v,s=some v/\be X.K μ H w v) (qf cap ρ) (oJ cap σ)
 |[]=>.nil
 |o::cap=>by
  refine .cons (fun w e=>?_) (QV r cap)
  cases o with
  |none=>cases e
  |some j=>
   have e':(ρ[j]?).join=some w:=e
   have e2:ρ[j]?=some (some w):=by
    cases h:ρ[j]? with
    |none=>rw[h]at e';cases e'
    |some ow=>rw[h]at e';simp at e';rw[e']
   obtain⟨v,g1,g2⟩:=lN r e2
   exact⟨v,by show(σ[j]?).join=some v;rw[g1];rfl,g2⟩
open Classical in
def m7(f:FG)(t:FT)(el:FE)(ck:Option (Nat×List W))(ρ0:bQ):List W->List W->List aj->R (List W)
 |[],acc,st=>if h9 st ck then .ok acc st else .bad
 |w::ws,acc,st=>if h9 st ck then(match f w ρ0 with
  |none=>.bad
  |some ρ'=>(match t ρ' st with
   |.ok true st1=>(match el ρ' st1 with
    |.ok y cM=>m7 f t el ck ρ0 ws (acc++[y]) cM
    |_=>.bad)
   |.ok false st1=>m7 f t el ck ρ0 ws acc st1
   |_=>.bad))else .bad
def dC(cap:List (Option Nat))(fi:FI)(f:FG)(t:FT)(el:FE):FE:=fun ρ st=>(fi ρ st).bind fun k st=>if k.1.length<=jw then(m7 f t el k.2 (qf cap ρ) k.1 [] st).bind fun ys st=>mZ ys st else .bad
def Tb(X:Cx)(jc:List Addr->Hp->α->β->Prop)(f:bQ->List aj->R α)(σ:St)(H:Hp)(Q:β->Hp->Prop):Prop:=
 ∃μ ρ st a bE,Rl X μ ρ st σ H/\f ρ st=.ok a bE/\∀μ' b H',μ <+: μ'->dB X.K H H'->fX X.K X.mg μ' bE H'->jc μ' H' a b->Q b H'
def ii:FT:=fun _ st=>.ok true st
structure KR(X:Cx)(es:List Expr)(f:FT):Prop where
 h:Ib X es (tT X f)
theorem Ib.imp{e:List Expr}{t t':TT}(h:Ib X e t)(i:∀σ H Q,t' σ H Q->t σ H Q):Ib X e t':=fun pins s σ H Q I q=>h pins s σ H Q I (i _ _ _ q)
theorem jF:KR X [] ii:=⟨IT.imp fun σ H Q h=>by
 obtain⟨μ,ρ,st,l,h⟩:=h
 exact h μ true H (ag _) dB.refl l.sto rfl⟩
theorem Ji{t:FT}(hc:ST X c t):KR X [c] t:=⟨IU hc.h⟩
theorem Am{fi:FI}{f:FG}{t:FT}{el:FE}{Q:VK}(h:tE X (dC cap fi f t el) σ H Q) :
  sQ cap (fun σ H R=>tG X (QR X) fi σ H R) (QO X f) (Tb X M9 t) (Tb X (rS X) el) σ H Q:=by
 obtain⟨μ,ρ,st,l,h⟩:=h
 refine⟨μ,ρ,st,l,RK.bind h l fun μ1 st1 k J H1 p1 x1 l1 wk h1=>?_⟩
 by_cases hz:k.1.length<=jw
 ·rw[am hz]at h1
  refine⟨fun i m ys H'=>i<=k.1.length/\m=k.1.length-i/\ys.length<=i/\∃μ' acc bE,μ1 <+: μ'/\dB X.K H1 H'/\Rl X μ' ρ bE σ H'/\RelWs X.K μ' H' acc ys/\RK X (rS X) μ' σ H' Q ((m7 f t el k.2 (qf cap ρ) (k.1.drop i) acc bE).bind fun ys st=>mZ ys st),
   ⟨_,cG _,rfl,au _,μ1,[],st1,ag _,dB.refl,l1,.nilI,h1⟩,?_⟩
  rintro i m ys H' ⟨hi,rfl,hy,μ',acc,bE,pm,xm,lm,ra,hm⟩
  by_cases ny:i<k.1.length
  ·rw[fB ny]at hm
   unfold m7 at hm
   by_cases ck:h9 bE k.2
   ·rw[am ck]at hm
    obtain⟨go,yld⟩:=(wk i μ' bE H' pm xm lm.sto ck).1 _ (ae ny)
    refine .inr ⟨go,fun x H2 hy2=>?_⟩
    obtain⟨y1,y2,y3⟩:=yld x H2 hy2
    cases hf:f k.1[i] (qf cap ρ)with
    |none=>rw[hf]at hm;exact hm.elim
    |some ρ2=>
     rw[hf]at hm
     simp only at hm
     have lb:Rl X μ' (qf cap ρ) bE (oJ cap σ) H2:=⟨QV (lm.to (ag _) y1 y2).env cap,y2⟩
     refine⟨μ',qf cap ρ,bE,k.1[i],ρ2,lb,y3,hf,fun σ2 l2=>?_⟩
     cases ht:t ρ2 bE with
     |bad=>rw[ht]at hm;exact hm.elim
     |ex c s=>rw[ht]at hm;exact hm.elim
     |ok kk cM=>
      rw[ht]at hm
      refine⟨μ',ρ2,bE,kk,cM,l2,ht,fun μ3 b3 H3 p3 x3 S3 q3=>?_⟩
      cases q3
      cases kk with
      |false=>
       exact⟨_,by omega,ny,rfl,by omega,μ3,acc,cM,pm.trans p3,xm.trans (y1.trans x3),lm.to p3 (y1.trans x3) S3,ra.mono p3 (y1.trans x3),RK.mono hm p3 (y1.trans x3)⟩
      |true=>
       rw[am rfl]
       simp only at hm
       cases he:el ρ2 cM with
       |bad=>rw[he]at hm;exact hm.elim
       |ex c s=>rw[he]at hm;exact hm.elim
       |ok w i5=>
        rw[he]at hm
        refine⟨μ3,ρ2,cM,w,i5,l2.to p3 x3 S3,he,fun μ4 b4 H4 p4 x4 S4 q4=>?_⟩
        have pp:=p3.trans p4
        have xx:=y1.trans (x3.trans x4)
        exact⟨ko hy (a6 ny (iN hz)),_,by omega,ny,rfl,by simp;omega,μ4,acc++[w],i5,pm.trans pp,xm.trans xx,lm.to pp xx S4,(ra.mono pp xx).app (.consI q4 .nilI),RK.mono hm pp xx⟩
   ·rw[az ck]at hm;exact hm.elim
  ·have hi':i=k.1.length:=by omega
   subst hi'
   rw[mT (au _)]at hm
   unfold m7 at hm
   by_cases ck:h9 bE k.2
   ·rw[am ck]at hm
    obtain⟨z1,z2⟩:=sX lm.sto ra hm
    exact .inl ⟨(wk _ μ' bE H' pm xm lm.sto ck).2 (au _),z1,fun p hp=>z2 p _ hp rfl⟩
   ·rw[az ck]at hm;exact hm.elim
 ·rw[az hz]at h1;exact h1.elim
section
variable{fi:FI}{f:FG}{t:FT}{el:FE}
theorem T6{X X':Cx}{f:FE}(hK:X'.K=X.K)(hm:X'.mg=X.mg)(h:SE X' e f):QE X' e (Tb X (rS X) f):=⟨h.h.imp fun σ H Q ⟨μ,ρ,st,a,bE,l,e,q⟩=>⟨μ,ρ,st,⟨by rw[hK];exact l.env,by rw[hK,hm];exact l.sto⟩,by rw[e];exact fun μ' b H' p x S r=>q μ' b H' p (by rw[<- hK];exact x) (by rw[<- hK,<- hm];exact S) (by show be X.K μ' H' a b;rw[<- hK];exact r)⟩⟩
theorem T7{X X':Cx}{e:List Expr}{f:FT}(hK:X'.K=X.K)(hm:X'.mg=X.mg)(h:KR X' e f):S8 X' e (Tb X M9 f):=⟨h.h.imp fun σ H Q ⟨μ,ρ,st,a,bE,l,e,q⟩=>⟨μ,ρ,st,⟨by rw[hK];exact l.env,by rw[hK,hm];exact l.sto⟩,by rw[e];exact fun μ' b H' p x S r=>q μ' b H' p (by rw[<- hK];exact x) (by rw[<- hK,<- hm];exact S) r⟩⟩
theorem T8{X X':Cx}(hK:X'.K=X.K)(hm:X'.mg=X.mg)(h:SG X' e f):QG X' e (QO X f):=⟨h.h.imp fun v σ H Q ⟨μ,ρ,st,w,ρ',l,r,e,q⟩=>⟨μ,ρ,st,w,ρ',⟨by rw[hK];exact l.env,by rw[hK,hm];exact l.sto⟩,by rw[hK];exact r,e,fun σ' l'=>q σ' ⟨by rw[<- hK];exact l'.env,by rw[<- hK,<- hm];exact l'.sto⟩⟩⟩
theorem qP(hB:sV X.env.scope.names scope.names nm cap X.N=true)(fL:X.env.cells=cellsFrom m X.env.scope.names [])(hi:SI X tg iter fi)(hg:∀cl C s0 H0 fp,SG (bG X nm scope cl C s0 H0 fp) tg f)(ht:∀cl C s0 H0 fp,KR (bG X nm scope cl C s0 H0 fp) kJ t)
  (he:∀cl C s0 H0 fp,SE (bG X nm scope cl C s0 H0 fp) mM el) (gA:X.calm=true:=by rfl) (gj:scope.kind=.function:=by rfl) (hs:∀x,foldedSetIterable iter X.env x=pure x:=by intro _;rfl) :
  SE X (.ListComp mM [⟨tg,iter,kJ,0⟩] scope pos) (dC cap fi f t el):=
 ⟨(M4 gA fL gj hB ⟨hi.h⟩ (fun cl C s0 H0 fp=>T8 (X:=X) rfl rfl (hg cl C s0 H0 fp)) (fun cl C s0 H0 fp=>T7 (X:=X) rfl rfl (ht cl C s0 H0 fp)) (fun cl C s0 H0 fp=>T6 (X:=X) rfl rfl (he cl C s0 H0 fp)) hs).h.imp fun _ _ _ h=>Am h⟩
theorem pi{x0:Str}{p0 p1:Pos}(O':SG X (.Name x0 p0) (eE i))(hB:sV X.env.scope.names scope.names nm cap X.N=true)(fL:X.env.cells=cellsFrom m X.env.scope.names [])(hi:SI X tg iter fi)(hg:∀cl C s0 H0 fp,SG (bG X nm scope cl C s0 H0 fp) tg f)(ht:∀cl C s0 H0 fp,KR (bG X nm scope cl C s0 H0 fp) kJ t)
  (he:∀cl C s0 H0 fp,SE (bG X nm scope cl C s0 H0 fp) mM el) (gA:X.calm=true:=by rfl) (gj:scope.kind=.function:=by rfl) (hs:∀x,foldedSetIterable iter X.env x=pure x:=by intro _;rfl)
  (O3:swapsWith (.ListComp mM [⟨tg,iter,kJ,0⟩] scope pos) (some (.Name x0 p0)) p1.line X.env=pure true:=by first|rfl|kernel_rfl) :
  SS X (.Assign [.Name x0 p0] (.ListComp mM [⟨tg,iter,kJ,0⟩] scope pos) p1) (uK (dC cap fi f t el) (eE i)):=
 ⟨(Ac ⟨O'.h⟩ gA fL gj hB ⟨hi.h⟩ (fun cl C s0 H0 fp=>T8 (X:=X) rfl rfl (hg cl C s0 H0 fp)) (fun cl C s0 H0 fp=>T7 (X:=X) rfl rfl (ht cl C s0 H0 fp)) (fun cl C s0 H0 fp=>T6 (X:=X) rfl rfl (he cl C s0 H0 fp)) hs O3).h.imp fun D σ H h=>by
  obtain⟨μ,ρ,st,l,h⟩:=h
  have h':tE X (dC cap fi f t el) σ H fun x H1=>QO X (eE i) x σ H1 D.nx:=⟨μ,ρ,st,l,RK.stmt h l fun μ1 st1 x v H1 p1 x1 l1 q1 h1=>⟨μ1,ρ,st1,x,ρ.set i (some x),l1,q1,rfl,fun σ' l'=>h1 μ1 σ' H1 (ag _) dB.refl l'⟩⟩
  exact Am h'⟩
end
section
variable{a b o:Expr}{fa fb fc fe fo:FE}{fs:FA}
theorem vn{mL:List V}(hr:∀μ H,RelWs X.K μ H ws mL):Al X (S7 mL) (ws,none) μ H:=fun i μ' bE H' pp xx S _=>by
 have hl:ws.length=mL.length:=(hr μ H).len
 refine⟨fun w hw=>?_,fun h=>by show mL.length<=i;rw[<- hl];exact h⟩
 obtain⟨v,g1,g2⟩:=(hr μ' H').get hw
 refine⟨(aa.mp g1).1,fun y H'' hy=>?_⟩
 obtain⟨rfl,hy⟩:=hy
 rw[g1]at hy;cases hy
 exact⟨dB.refl,S,g2⟩
def An(l:List Nat):List W:=l.map fun c=>.str [c]
theorem Dq(l:List Nat)(μ:List Addr)(H:Hp):RelWs X.K μ H (An l) (pd l):=by
 induction l with
 |nil=>exact .nilI
 |cons a r ih=>exact .consI .str ih
def KS(fe:FE):FI:=fun ρ st=>(fe ρ st).bind fun x st=>match x with
 |.str l=>.ok (An l,none) st
 |_=>.bad
theorem Nm(he:SE X e fe):SI X tg e (KS fe):=⟨(MV he.h).imp fun σ H R h=>by
 obtain⟨μ,ρ,st,l,h⟩:=h
 refine⟨μ,ρ,st,l,RK.bind h l fun μ1 st1 x v H1 p1 x1 l1 q1 h1=>?_⟩
 cases x with
 |str z=>exact⟨z,q1.strE,h1 μ1 _ H1 (ag _) dB.refl l1.sto (vn (Dq z))⟩
 |_=>exact h1.elim⟩
def cY(fe:FE):FI:=fun ρ st=>(fe ρ st).bind fun x st=>match x with
 |.tup ws=>.ok (ws,none) st
 |.loc n=>(match lstOf st n with
  |some ws=>.ok (ws,some (n,ws)) st
  |none=>.bad)
 |.str l=>.ok (An l,none) st
 |_=>.bad
theorem tz(he:SE X e fe):SI X tg e (cY fe):=⟨fun pins s σ H Rr I h=>by
 obtain⟨μ,ρ,st,l,h⟩:=h
 cases e1:fe ρ st with
 |bad=>simp only[cY,e1,R.bind_bad]at h;exact h.elim
 |ex c st1=>
  refine(E7 (tg:=tg) he).h pins s σ H Rr I ⟨μ,ρ,st,l,?_⟩
  simp only[cY,E6,e1,R.bind_ex]at h ⊢;exact h
 |ok w st1=>
  cases w with
  |tup ws=>
   refine(E7 (tg:=tg) he).h pins s σ H Rr I ⟨μ,ρ,st,l,?_⟩
   simp only[cY,E6,e1,R.bind_ok]at h ⊢;exact h
  |loc n=>
   refine(Nj (tg:=tg) he).h pins s σ H Rr I ⟨μ,ρ,st,l,?_⟩
   simp only[cY,KP,e1,R.bind_ok]at h ⊢;exact h
  |str z=>
   refine(Nm (tg:=tg) he).h pins s σ H Rr I ⟨μ,ρ,st,l,?_⟩
   simp only[cY,KS,e1,R.bind_ok]at h ⊢;exact h
  |_=>simp only[cY,e1,R.bind_ok]at h;exact h.elim⟩
def tD(ws:List W):List W:=(List.range ws.length).map fun(i:Nat)=>W.tup [.int i,ws.getD i .non]
theorem vo{w:W}(h:(tD ws)[i]?=some w):∃y,ws[i]?=some y/\w=.tup [.int i,y]:=by
 unfold tD at h
 rw[ak]at h
 by_cases hi:i<ws.length
 ·rw[cW hi]at h
  refine⟨ws[i],ae hi,?_⟩
  have:=(aU h).symm
  rw[this]
  show W.tup [W.int i,ws.getD i W.non]=_
  rw[aE,ae hi];rfl
 ·rw[gw (by simpa using hi)]at h;cases h
theorem Dr(ws:List W):(tD ws).length=ws.length:=by simp[tD]
def wA(fs:FA):FI:=fun ρ st=>(fs ρ st).bind fun ws st=>match ws with
 |[.tup zs]=>.ok (tD zs,none) st
 |_=>.bad
theorem Jj{HY:List Expr}{kk:Nat}{tp:Pos}(hm:X.mg "enumerate"=none)(ha:SA X [a] fs)(hg:Gl X "enumerate":=by rfl)(hs:starEach [a] X.env=[(false,eval a X.env)]:=by rfl) :
  SI X (.Tuple HY kk tp) (.Call (.Name "enumerate" p) [a] [] pos) (wA fs):=⟨(ER hm ⟨ha.h⟩ hg hs).h.imp fun σ H R h=>by
 obtain⟨μ,ρ,st,l,h⟩:=h
 refine⟨μ,ρ,st,l,RK.bind h l fun μ1 st1 x v H1 p1 x1 l1 q1 h1=>?_⟩
 split at h1
 ·rename_i zs
  obtain⟨y,rfl,ry⟩:=q1.one
  obtain⟨p,vs,rfl,hS,r⟩:=ry.tupE
  refine⟨p,rfl,⟨vs,hS⟩,h1 μ1 _ H1 (ag _) dB.refl l1.sto fun i μ' bE H' pp xx S _=>⟨fun w hw=>?_,fun hl=>⟨vs,xx _ _ hS,by rw[Dr]at hl;rw[<- r.len];exact hl⟩⟩⟩
  obtain⟨y,hy,rfl⟩:=vo hw
  have r':=r.mono pp xx
  obtain⟨v,g1,g2⟩:=r'.get hy
  refine⟨⟨vs,v,xx _ _ hS,g1⟩,fun z H'' hz=>?_⟩
  obtain⟨q,hq,rfl,hH⟩:=hz
  have e:=hH vs v (xx _ _ hS) g1
  subst e
  have ex:=fq.same (K:=X.K) (ce hq (.tup [.int i,v]))
  exact⟨ex,S.same (ce hq _),.tupI fq.new (.consI .int (.consI (g2.mono (ag _) ex) .nilI))⟩
 ·exact h1.elim⟩
def yB(fa:FE):FE:=fun ρ st=>(fa ρ st).bind fun x st=>match x with
 |.int i=>.ok (.int (-i)) st
 |_=>.bad
theorem QW(ha:SE X a fa):SE X (.UnaryOp .USub a pos) (yB fa):=⟨(PU MH ha.h).imp fun σ H Q h=>by
 obtain⟨μ,ρ,st,l,h⟩:=h
 refine⟨μ,ρ,st,l,RK.bind h l fun μ1 st1 x v H1 p1 x1 l1 q1 h1=>?_⟩
 cases x with
 |int k=>exact⟨k,q1.intE,h1 μ1 _ H1 (ag _) dB.refl l1.sto .int⟩
 |_=>exact h1.elim⟩
def T9(x y:W)(st:List aj):R W:=match x,y with
 |.int i,.int j=>.ok (.bl (decide (i<=j))) st
 |.str [c],.str [d]=>.ok (.bl (decide (c<=d))) st
 |_,_=>.bad
end
theorem E_:∀{l m:List Nat},l.Pairwise (· < ·)->m.Pairwise (· < ·)->(∀x,x∈l↔x∈m)->l=m
 |[],[],_,_,_=>rfl
 |[],b::m,_,_,h=>by have:=(h b).mpr (by simp);simp at this
 |a::l,[],_,_,h=>by have:=(h a).mp (by simp);simp at this
 |a::l,b::m,h1,h2,h=>by
  obtain⟨p1,p2⟩:=b_.mp h1
  obtain⟨q1,q2⟩:=b_.mp h2
  have e:a=b:=by
   rcases aK.mp ((h a).mp (by simp))with z|z
   ·exact z
   ·rcases aK.mp ((h b).mpr (by simp))with y|y
    ·exact y.symm
    ·have:=p1 b y;have:=q1 a z;omega
  subst e
  rw[E_ p2 q2 fun x=>?_]
  constructor
  ·intro hx
   rcases aK.mp ((h x).mp (aA _ hx))with z|z
   ·subst z;exact absurd (p1 x hx) (bA _)
   ·exact z
  ·intro hx
   rcases aK.mp ((h x).mpr (aA _ hx))with z|z
   ·subst z;exact absurd (q1 x hx) (bA _)
   ·exact z
def Ao(c:List Nat):List (List Nat)->List (List Nat)
 |[]=>[c]
 |d::r=>if c<d then c::d::r else d::Ao c r
def lQ(l:List (List Nat)):List (List Nat):=l.foldr Ao []
theorem qQ(c:List Nat):∀l:List (List Nat),(Ao c l).Perm (c::l)
 |[]=>ku _
 |d::r=>by
  unfold Ao
  split
  ·exact ku _
  ·exact((qQ c r).cons d).trans (List.Perm.swap c d r)
theorem jZ(l:List (List Nat)):(lQ l).Perm l:=by
 induction l with
 |nil=>exact ku _
 |cons a r ih=>exact(qQ a _).trans (ih.cons a)
def Jk:List (List Nat)->Prop:=List.Pairwise fun a b=>¬ b<a
theorem BL(c:List Nat):∀{l:List (List Nat)},Jk l->Jk (Ao c l)
 |[],_=>by simp[Ao,Jk]
 |d::r,h=>by
  obtain⟨h1,h2⟩:=b_.mp h
  unfold Ao
  split
  ·rename_i hc
   refine b_.mpr ⟨fun x hx=>?_,h⟩
   rcases aK.mp hx with rfl|hx
   ·exact fun z=>List.lt_irrefl _ (List.lt_trans z hc)
   ·exact fun z=>h1 x hx (List.lt_trans z hc)
  ·rename_i hc
   refine b_.mpr ⟨fun x hx=>?_,BL c h2⟩
   rcases aK.mp ((qQ c r).mem_iff.mp hx)with rfl|hx
   ·exact hc
   ·exact h1 x hx
theorem yC(l:List (List Nat)):Jk (lQ l):=by
 induction l with
 |nil=>exact List.Pairwise.nil
 |cons a r ih=>exact BL a ih
theorem wB:∀{l m:List (List Nat)},Jk l->Jk m->l.Perm m->l=m
 |[],m,_,_,h=>(List.Perm.nil_eq h)
 |a::l,[],_,_,h=>(by have:=h.length_eq;simp at this)
 |a::l,b::m,h1,h2,h=>by
  obtain⟨p1,p2⟩:=b_.mp h1
  obtain⟨q1,q2⟩:=b_.mp h2
  have e:a=b:=by
   rcases aK.mp (h.mem_iff.mp (by simp:a∈a::l))with z|z
   ·exact z
   ·rcases aK.mp (h.mem_iff.mpr (by simp:b∈b::m))with y|y
    ·exact y.symm
    ·exact List.le_antisymm (show a<=b from p1 b y) (show b<=a from q1 a z)
  subst e
  rw[wB p2 q2 (List.perm_cons a |>.mp h)]
theorem tF:∀{zs:List (List Nat)},sortedS (zs.map tx)=true->Jk zs:=by
 have key:∀(zs:List (List Nat)) (p:List Nat),risingS (tx p) (zs.map tx)=true->Jk (p::zs):=by
  intro zs
  induction zs with
  |nil=>intro p _;simp[Jk]
  |cons a r ih=>
   intro p h
   have h':(!ltCps a p&&risingS (tx a) (r.map tx))=true:=h
   rw[a8,gG,ltCps_eq,decide_eq_false_iff_not]at h'
   have u:=ih a h'.2
   refine b_.mpr ⟨fun x hx=>?_,u⟩
   rcases aK.mp hx with rfl|hx
   ·exact h'.1
   ·have:=(b_.mp u).1 x hx
    exact List.not_lt.mpr (List.le_trans (List.not_lt.mp h'.1) (List.not_lt.mp this))
 intro zs h
 cases zs with
 |nil=>exact List.Pairwise.nil
 |cons a r=>exact key r a h
section
variable{a b o:Expr}{fa fb fc fe fo:FE}{fs:FA}
def oh(ws:List W)(st:List aj):R W:=match ws with
 |[.loc n]=>oN (lstOf st n) fun zs=>oN (m6 zs) fun ls=>if ls.length<64 then .ok (.loc st.length) (st++[.lst ((lQ ls).map W.str)])else .bad
 |_=>.bad
theorem yD(ls:List (List Nat)):RelWs K μ H (ls.map W.str) (ls.map fun l=>V.str (tx l)):=by
 induction ls with
 |nil=>exact .nilI
 |cons a r ih=>exact .consI .str ih
theorem yE:m3 X (.builtin "sorted") oh:=⟨fun pins s σ H vs us Q I rv ⟨μ,st,ws,S,r,q⟩=>by
 unfold oh at q
 split at q
 ·rename_i n
  obtain⟨y,rfl,ry⟩:=r.one
  cases e1:lstOf st n with
  |none=>rw[e1]at q;exact q.elim
  |some zs=>
   rw[e1,cp]at q
   cases e2:m6 zs with
   |none=>rw[e2]at q;exact q.elim
   |some ls=>
    rw[e2,cp]at q
    split at q
    ·rename_i c
     obtain⟨a,vs,g,hS,rz⟩:=S.lstOf e1
     obtain⟨b1,f1,rfl⟩:=ry.locE
     rw[g]at f1;cases f1
     have:=tu e2 rz
     subst this
     refine uH.h pins s σ H _ us Q I rv ⟨_,ls,rfl,hS,c,fun zs hp hs l H2 hl eH=>?_⟩
     subst eH
     have ez:zs=lQ ls:=wB (tF hs) (yC ls) (hp.trans (jZ ls).symm)
     subst ez
     exact q (μ++[l]) _ _ (aq _ _) (fq.same (ce hl _)) (S.newLst hl (yD _)) (mz S)
    ·exact q.elim
 ·exact q.elim,fun ws st=>by
 unfold oh
 split
 ·exact kT fun _=>kT fun _=>by split<;>trivial
 ·trivial⟩
theorem oP{m l:List Nat}(hm:m.Nodup)(h:∀c∈m,c∈l):m.length<=l.length:=by
 induction m generalizing l with
 |nil=>exact cG _
 |cons a r ih=>
  obtain⟨h1,h2⟩:=bF.mp hm
  have ha:a∈l:=h a (by simp)
  have:=ih h2 (l:=l.erase a) fun c hc=>by
   have:c≠a:=fun z=>h1 (z▸hc)
   exact(List.mem_erase_of_ne this).mpr (h c (aA _ hc))
  rw[List.length_erase_of_mem ha]at this
  have:0<l.length:=iC ha
  simp;omega
end
def W.ty:W->Option String
 |.non=>some "NoneType" | .bl _=>some "bool" | .int _=>some "int" | .str _=>some "str" | .tup _=>some "tuple" | .loc _=>none
def Jl(t T:String):Bool:=(t==T)||(t == "bool" && T == "int")
theorem QX{K:Frag}{T:String}(h:EO T){w:W}{t:String}(hw:w.ty=some t):PySem.W.kitOne K (.type t) (.type T)=some (Jl t T):=by
 cases w<;>simp only[W.ty]at hw<;>cases hw<;>(rcases h with rfl|rfl|rfl|rfl<;>rfl)
def qR(T:String)(fa:FE):FE:=fun ρ st=>(fa ρ st).bind fun x st=>match x.ty with
 |some t=>.ok (.bl (Jl t T)) st
 |none=>.bad
section
variable{a b o:Expr}{fa fb fc fe fo:FE}{fs:FA}
theorem yF{T:String}{xT:Str}(hm:X.mg "isinstance"=none)(hT:X.mg xT=none)(hv:bootBuiltins xT=some (.type T))(ha:SE X a fa)(hk:EO T:=by first|exact .inl rfl|exact .inr (.inl rfl)|exact .inr (.inr (.inl rfl))|exact .inr (.inr (.inr rfl)))
  (hg:Gl X "isinstance":=by rfl) (U6:Gl X xT:=by rfl) (hn:xT ≠ "__name__":=by decide) (hd:(xT==("__debug__":Str))=false:=by decide)
  (he:starEach [a,.Name xT p2] X.env=(false,eval a X.env)::starEach [.Name xT p2] X.env:=by rfl) (Pq:starEach [.Name xT p2] X.env=(false,eval (.Name xT p2) X.env)::starEach [] X.env:=by rfl) (pK:(backTo pos (starEach [.Name xT p2] X.env)).any (·.1)=false:=by rfl) :
  SE X (.Call (.Name "isinstance" p) [a,.Name xT p2] [] pos) (qR T fa):=by
 have C:g9 X (.builtin "isinstance") (fun xs H Q=>∃x μ st w t,xs=[x,.ty T]/\fX X.K X.mg μ st H/\be X.K μ H w x/\w.ty=some t/\Q (.bl (Jl t T)) H):=by
  intro pins s σ H xs us Q I r h
  obtain⟨x,μ,st,w,t,rfl,S,rx,ht,q⟩:=h
  obtain⟨u,u2,rfl,r1,r2⟩:=cA.two r
  obtain rfl:u2=.type T:=r2
  have e:=QX (K:=X.K) hk ht
  cases w with
  |tup ws=>
   cases ht
   obtain⟨p,vs,rfl,hS,_⟩:=rx.tupE
   cases(show u=Value.ref p from r1)
   obtain⟨bC,_,hp,_⟩:=I.tuple hS
   obtain⟨o,h1,h2,_⟩:=hp
   exact kia_one PySem.W.kitx_tuple I.kIn ⟨o,h1,h2⟩ e (fun z=>nomatch z) fun tk=>⟨.bl _,H,I.tok tk,rfl,q⟩
  |non=>cases ht;cases rx.nonE;exact n9 I r1 .non e fun tk=>⟨.bl _,H,I.tok tk,rfl,q⟩
  |bl b=>cases ht;cases rx.blE;exact n9 I r1 (.bl _) e fun tk=>⟨.bl _,H,I.tok tk,rfl,q⟩
  |int b=>cases ht;cases rx.intE;exact n9 I r1 (.int _) e fun tk=>⟨.bl _,H,I.tok tk,rfl,q⟩
  |str b=>cases ht;cases rx.strE;exact n9 I r1 (.str _) e fun tk=>⟨.bl _,H,I.tok tk,rfl,q⟩
  |loc b=>cases ht
 refine⟨(yd C hg hm boot_isinstance (pR ha.h (pR (Im U6 hT hv (v:=.ty T) rfl hn hd) v8 Pq) he) (by decide) (by decide) he pK).imp fun σ H Q h=>?_⟩
 obtain⟨μ,ρ,st,l,h⟩:=h
 refine⟨μ,ρ,st,l,RK.bind h l fun μ1 st1 x v H1 p1 x1 l1 q1 h1=>?_⟩
 cases ht:x.ty with
 |none=>rw[ht]at h1;exact h1.elim
 |some t=>
  rw[ht]at h1
  exact⟨v,μ1,st1,x,t,rfl,l1.sto,q1,ht,h1 μ1 _ H1 (ag _) dB.refl l1.sto .bl⟩
end
section
end
open AutoSeq1 (wpAny_loadPart')
theorem yG(l:Addr)(items:Array Value)(n:Nat)(b:Addr)(g8:Array Value)(n2:Nat)(dd:Option Addr)(sl:Array (Option Value))(Pv:¬(!items.isEmpty&&Builtin.List.listTooLong (items.size+g8.size))=true)(u3:items.size<=sizeLine)(A5:items.size+g8.size<=sizeLine+1) :
  Meets (Builtin.«list.extend» ⟨[.ref l,.ref b],[]⟩) (fun _ R s=>s.heap.get? l=some { cls:=.type "list",dict:=none,data:=.seq items n,slots:=#[] }/\s.heap.get? b=some { cls:=.type "tuple",dict:=dd,data:=.seq g8 n2,slots:=sl }
   /\ R (.ok (.ret Value.none)) { s with heap:=s.heap.update l (Obj.mapSeq fun x=>x++g8),toks:=s.toks }):=
 .of_wp fun prog w A R s h=>by
  have g1:=AutoSeq1.idx_int
  have g2:=lG
  have g3:=AutoSeq1.sub_list_list
  have g4:=AutoSeq1.sub_tuple_list
  have g5:=AutoSeq1.sub_list_tuple
  obtain⟨hp,gl,ds,tk,os⟩:=s
  obtain⟨ha,hb,q⟩:=h
  have fits:(items++g8).size<=sizeLine+1:=by
   rw[Array.size_append]
   exact A5
  wp_walk using (jo ha rfl (hz:=u3) (_hz':=fits)),bL ha,bL hb
  exact⟨_,rfl,q⟩
def Fa(K:Frag):V->List V->Hp->VK->Prop:=fun x vs H Q=>∃l b xs zs,x=.ref l/\vs=[.ref b]/\H l=some (.lst xs)/\fq K H b zs/\xs.length+zs.length<=sizeLine/\Q .non (d_ H l (.lst (xs++zs)))
section
theorem Ap:S5 X "list.extend" (Fa X.K):=by
 intro pins s σ H x vs v us Q I rx rv h
 obtain⟨l,b,xs,zs,rfl,rfl,hH,hB,hz,q⟩:=h
 cases rx
 obtain⟨u,rfl,ru⟩:=rv.one
 cases ru
 obtain⟨z,bC,n,r,hl,e⟩:=I.lstM hH
 obtain⟨its2,r2,⟨o,e2,hc,n2,hd⟩,z2⟩:=I.tuple hB
 have hl2:=r2.length
 have hsz:bC.toArray.size+its2.toArray.size<=sizeLine:=by rw[aH,aH];omega
 have hlong:¬ (!bC.toArray.isEmpty&&Builtin.List.listTooLong (bC.toArray.size+its2.toArray.size))=true:=by
  rw[yf hsz,Bool.and_false]
  exact bO
 obtain⟨cls,dd,data,sl⟩:=o
 dsimp only at hc hd
 subst hc hd
 refine mR F.slot_list_extend ⟨_,e,rfl⟩ F.entry_list_extend (F.args_list_extend_2 _ _)
  (yG l bC.toArray n b its2.toArray n2 dd sl hlong (by rw[aH];omega) (by omega)) ⟨e,e2,?_⟩
 refine⟨.non,_,I.lset (its':=bC++its2) hH e (by simp) (r.append r2) ?_,rfl,q⟩
 rw[aC]
 omega
def j0(x:W)(ws:List W)(st:List aj):R W:=match x,ws with
 |.loc n,[.tup ys]=>(match st[n]? with
  |some (.lst zs)=>if zs.length+ys.length<=jw then .ok .non (st.set n (.lst (zs++ys)))else .bad
  |_=>.bad)
 |_,_=>qe x ws st
theorem Aq:Nl X "list.extend" j0:=⟨fun pins s σ H x vs v us Q I rv rus ⟨μ,st,wx,ws,S,rx,rs,q⟩=>by
 unfold j0 at q
 split at q
 ·rename_i n ys
  obtain⟨y1,rfl,ry⟩:=rs.one
  split at q
  ·rename_i zs e1
   split at q
   ·rename_i c
    obtain⟨a1,g1,vs1,k1,r1⟩:=S.get e1
    obtain⟨b1,f1,rfl⟩:=rx.locE
    rw[g1]at f1;cases f1
    obtain⟨p,vs2,rfl,hS,r2⟩:=ry.tupE
    refine Ap pins s σ H _ _ v us Q I rv rus ⟨a1,p,vs1,vs2,rfl,rfl,k1,hS,by rw[<- r1.len,<- r2.len];exact iN c,?_⟩
    exact q μ _ _ (ag _) (fq.but f7 k1) (S.set e1 g1 k1 (r1.app r2)) .non
   ·exact q.elim
  ·exact q.elim
 ·exact vk.h pins s σ H x vs v us Q I rv rus ⟨μ,st,wx,ws,S,rx,rs,q⟩,fun x ws st=>by
 unfold j0
 split
 ·repeat' split
  all_goals trivial
 ·exact(vk (X:=X)).n x ws st⟩
end
section
variable{a b o:Expr}{fa fb fe fo:FE}{fs:FA}
theorem Fb(xs:List α)(k:Nat)(y:α):((xs.toArray.extract 0 k).push y++xs.toArray.extract k).toList=xs.take k++y::xs.drop k:=by
 simp
 exact cQ (by simp)
def Jm:V->List V->Hp->VK->Prop:=fun x vs H Q=>∃(l:Addr) (xs:List V) (k:Nat) (y:V),x=.ref l/\vs=[.int k,y]/\H l=some (.lst xs)/\k<=xs.length/\xs.length+1<=sizeLine/\k<1000000/\Q .non (d_ H l (.lst (xs.take k++y::xs.drop k)))
theorem Ds:S5 X "list.insert" Jm:=by
 intro pins s σ H x vs v us Q I rx rv h
 obtain⟨l,xs,k,y,rfl,rfl,hH,hk,hz,Ig,q⟩:=h
 cases rx
 obtain⟨u,u2,rfl,r1,r2⟩:=cA.two rv
 obtain⟨t,rfl⟩:=r1
 obtain⟨z,bC,n,r,hl,e⟩:=I.lstM hH
 have OO:¬ (!Builtin.List.listFitsIndex (k:Int))=true:=by
  unfold Builtin.List.listFitsIndex
  simp;omega
 have hsz:bC.toArray.size<=sizeLine:=by rw[aH];omega
 obtain⟨q0,hq0⟩:∃q0:Int,q0=k:=⟨_,rfl⟩
 rw[<- hq0]at OO ⊢
 have M:=AutoSeq1.list_insert_list_int_val_1 l bC.toArray n q0 t u2 OO hsz
 refine mR F.slot_list_insert ⟨_,e,rfl⟩ F.entry_list_insert (F.args_list_insert_3 _ _ _) M ⟨e,?_⟩
 refine⟨.non,_,I.lset (its':=bC.take k++u2::bC.drop k) hH e ?_ ((r.take k).append (.cons r2 (r.drop k))) ?_,rfl,q⟩
 ·have h0:¬ (q0<0):=by omega
  have hm:min q0.toNat bC.toArray.size=k:=by rw[aH];omega
  simp only[az h0,hm]
  apply Array.toList_inj.mp
  rw[Fb]
 ·rw[aC,a7,br,dP]
  omega
def om(x:W)(ws:List W)(st:List aj):R W:=match x,ws with
 |.loc n,[.int k,y]=>(match st[n]? with
  |some (.lst zs)=>if 0<=k/\k.toNat<=zs.length/\zs.length<jw/\k<1000000 then .ok .non (st.set n (.lst (zs.take k.toNat++y::zs.drop k.toNat)))else .bad
  |_=>.bad)
 |_,_=>.bad
theorem Dt:Nl X "list.insert" om:=⟨fun pins s σ H x vs v us Q I rv rus ⟨μ,st,wx,ws,S,rx,rs,q⟩=>by
 unfold om at q
 split at q
 ·rename_i n k y
  obtain⟨y1,y2,rfl,ry1,ry2⟩:=rs.two
  split at q
  ·rename_i zs e1
   split at q
   ·rename_i cc
    obtain⟨c1,c2,c3,c4⟩:=cc
    obtain⟨k,rfl⟩:=ma c1
    rw[aR]at c2 q
    obtain⟨a1,g1,vs1,k1,r1⟩:=S.get e1
    obtain⟨b1,f1,rfl⟩:=rx.locE
    rw[g1]at f1;cases f1
    have hl:=r1.len
    have hL:vs1.length+1<=sizeLine:=by rw[<- hl];exact iN c3
    refine Ds pins s σ H _ _ v us Q I rv rus ⟨a1,vs1,k,y2,rfl,by rw[ry1.intE],k1,by omega,hL,by omega,?_⟩
    exact q μ _ _ (ag _) (fq.but f7 k1) (S.set e1 g1 k1 ((r1.take k).app (.consI ry2 (r1.drop k)))) .non
   ·exact q.elim
  ·exact q.elim
 ·exact q.elim,fun x ws st=>by
 unfold om
 repeat' split
 all_goals trivial⟩
end
section
variable{w:World}{g:Array GenState}{d:Drawn}{t:Nat}{os:OsState}
 {nm q:Str} {C N:Addr} {bs bm:List Value} {U2:Bool} {sn:List Str} {Vd:List Value} {ab:Bool} {col:Option Bool} {dd:Option Addr} {k0 k1 k2 k3 k5:Option Value} {UG:String} {K:Frag}
end
section
variable{a:Expr}{fa:FE}
end
section
variable{a:Expr}{fa:FE}{k:Nat}
end
section
end
section
theorem tH(l:List α):∀(k:Nat) (acc:List α),List.foldl (fun x1 x2=>x1++x2) acc.toArray (List.replicate k l.toArray)=(acc++(List.replicate k l).flatten).toArray
 |0,acc=>by simp
 |k+1,acc=>by
  have e:acc.toArray++l.toArray=(acc++l).toArray:=by simp
  rw[jA,List.foldl_cons,e,tH l k (acc++l),jA,List.flatten_cons,aw]
theorem Nn(l:List Nat)(n:Int):Txt.mul (tx l) n=tx (List.replicate n.toNat l).flatten:=by
 unfold Txt.mul
 by_cases h:n<1
 ·rw[am h,show n.toNat=0 by omega];rfl
 ·rw[az h]
  split
  ·rename_i hc
   rw[fF,cz,cz,jf]at hc
   rcases hc with rfl|hc
   ·simp
   ·have:l=[]:=ig.mp hc
    subst this
    simp
  ·have:=tH l n.toNat []
   rw[jp]at this
   show Str.mk _=Str.mk _
   congr 1
theorem Jn:n6 X (binaryOp .Mult) (fun x y H Q=>∃(l:List Nat) (k:Int),x=.str (tx l)/\y=.int k/\-(2^62)<=k/\k<2^62/\l.length*k.toNat<=1000000/\Q (.str (tx (List.replicate k.toNat l).flatten)) H):=by
 intro pins s σ H x y v u Q I rx ry h
 obtain⟨l,k,rfl,rfl,h1,h2,h3,q⟩:=h
 obtain⟨t,rfl⟩:=rx
 obtain⟨t',rfl⟩:=ry
 refine SB.mul ⟨?_,?_,?_⟩ fun t2 tk=>⟨.str _,H,I.tok _,⟨t2,?_⟩,q⟩
 ·simp;omega
 ·intro hk hx
  rw[jf]
  intro hg
  have hk1:1<=k:=by omega
  have:k*((2^63-1)/k)<=2^63-1:=Int.mul_ediv_self_le (by omega)
  have h4:(2^63-1)<k*(l.length:Int):=by
   have:=Int.lt_mul_of_ediv_lt (a:=2^63-1) (b:=(l.length:Int)) (c:=k) (by omega) hg
   rw[Int.mul_comm];exact this
  have h5:k*(l.length:Int)=((l.length*k.toNat:Nat):Int):=by
   rw[jq,jB (by omega),Int.mul_comm]
  rw[h5]at h4
  omega
 ·intro hk hx
  rw[jf]
  unfold Builtin.Str.tooLong
  rw[bb]
  have:(1000000:Nat)<=sizeLine:=by decide
  omega
 ·rw[Nn]
def g_:W->W->List aj->R W
 |.int i,.int j,st=>if Ag i j then .ok (.int (i*j)) st else .bad
 |.str l,.int k,st=>if -(2^62)<=k/\k<2^62/\l.length*k.toNat<=jw then .ok (.str (List.replicate k.toNat l).flatten) st else .bad
 |_,_,_=>.bad
theorem Ar:rT X (binaryOp .Mult) g_:=⟨fun pins s σ H x y v u Q I rv ru ⟨μ,st,wx,wy,S,rx,ry,q⟩=>by
 cases wx with
 |int i=>
  cases wy with
  |int j=>
   have q':Ee X μ H Q (Qy (.int i) (.int j) st):=q
   exact QB.h pins s σ H x y v u Q I rv ru ⟨μ,st,.int i,.int j,S,rx,ry,q'⟩
  |_=>exact q.elim
 |str l=>
  cases wy with
  |int k=>
   simp only[g_]at q
   split at q
   ·rename_i cc
    exact Jn pins s σ H x y v u Q I rv ru ⟨l,k,rx.strE,ry.intE,cc.1,cc.2.1,cc.2.2,p9 S q⟩
   ·exact q.elim
  |_=>exact q.elim
 |_=>cases wy<;>exact q.elim,fun x y st=>by
 unfold g_
 repeat' split
 all_goals trivial⟩
end
section
variable{fs:FA}
end
section
variable{w:World}
theorem tI:∀(l:List Nat) (vs:List Value),vs.length=l.length->(∀(j:Nat) (v:Value),vs[j]?=some v->∃c u,l[j]?=some c/\v=.str (tx [c]) u)->StrsAre vs (l.map fun c=>tx [c])
 |[],[],_,_=>.nil
 |c::l,v::vs,hl,h=>by
  obtain⟨d,u,e,rfl⟩:=h 0 v rfl
  cases e
  exact .cons _ _ (tI l vs (Nat.succ.inj hl) fun j v hj=>h (j+1) v hj)
 |[],_::_,hl,_=>nomatch hl
 |_::_,[],hl,_=>nomatch hl
theorem yH{t:Tok}(few:l.length<64)(hh:A.handled=none)
  (q:∀(s1:Shared) (g1:Heap) (out:Array Value) (ss:List Str) (e:Nat),(∀b o,s.heap.get? b=some o->s1.heap.get? b=some o)->s1.gens=s.gens->s1.drawn=s.drawn->s1.os=s.os->(∀b o,s1.heap.get? b=some o->g1.get? b=some o)->g1.get? s1.heap.objs.size=some (seqObj "list" out e) ->
   StrsAre out.toList ss->ss.Perm (l.map fun c=>tx [c])->sortedS ss=true->Q (.ref s1.heap.objs.size) { s1 with heap:=g1 }):wpAny (model prog w) A (call (.builtin "sorted") [.str (tx l) t]) Q E s:=by
 have hn:(tx l).cps.size=l.length:=by simp[tx]
 apply kL kind_sorted plain_sorted entry_sorted (args_sorted1 _)
 show wpAny _ _ (checkCount "sorted" 1 1 _ >>= _) _ _ _
 refine ah (ax (ah (wpAny_collect_str (by simpa using hh) _ _ (fun s1 acc kp eg ed eo ha=>?_) (by rw[lg];omega))))
 have xI:StrsAre acc.toList (l.map fun c=>tx [c]):=by
  refine tI l _ (by rw[fP,ha.1,hn]) fun j v hj=>?_
  obtain⟨c,u,hc,e⟩:=ha.2 j v (by simpa using hj)
  exact⟨c,u,by simpa[tx]using hc,e⟩
 have hvl:acc.toList.length<64:=by rw[fP,ha.1,hn];exact few
 refine ah (wpAny_newList ?_ (by rw[lg];omega))
 have oL:(s1.heap.push (seqObj "list" acc.toList.toArray 0)).get? s1.heap.objs.size=some (seqObj "list" acc.toList.toArray 0):=aT _ rfl
 refine ah (cC (dw slot_list_sort ⟨_,oL,rfl⟩ entry_list_sort (list_sort_treeK strKind_oneLt oL xI.keysOf (fun a b r e=>keyKind_strs (by rw[<- e];exact xI)) hvl fun st a1 a2=>⟨_,rfl,?_⟩) (args_list_sort _)))
 obtain⟨ss,h1,h2,h3⟩:=sorted_out_str xI a1 a2
 obtain⟨e,he⟩:=sortedHeap_at (out:=(arrOf st).map (·.2)) oL
 refine ax ⟨_,rfl,q s1 _ _ ss e kp eg ed eo (fun b o hb=>?_) he h1 h2 h3⟩
 rw[sortedHeap_old (bD (aI hb)) (by rw[kr];exact gF (aI hb))]
 exact ao _ hb
end
section
def qS(ws:List W)(st:List aj):R W:=match ws with
 |[.str l]=>if l.length<64 then .ok (.loc st.length) (st++[.lst ((lQ (l.map fun c=>[c])).map W.str)])else .bad
 |[.loc n]=>oh [.loc n] st
 |_=>.bad
theorem Jo(hc:X.calm=true:=by rfl):m3 X (.builtin "sorted") qS:=⟨fun pins s σ H vs us Q I rv ⟨μ,st,ws,S,r,q⟩=>by
 unfold qS at q
 split at q
 ·rename_i l
  split at q
  ·rename_i c
   obtain⟨y,rfl,ry⟩:=r.one
   have:=ry.strE;subst this
   obtain⟨u,rfl,ru⟩:=kQ rv
   obtain⟨t,rfl⟩:=ru
   refine yH c (I.ok.hd hc) fun s1 g1 out ss e kp eg ed eo k1 gL xI hp hsr=>?_
   have es:s1={ s with heap:=s1.heap,toks:=s1.toks }:=by cases s1;cases s;cases eg;cases ed;cases eo;rfl
   generalize s1.heap=g0,s1.toks=tk at es kp k1 gL ⊢
   subst es
   have I2:bv X pins σ H { s with heap:=g0,toks:=tk }:=I.kept2 (d':=s.drawn) fun b o e=>kp b o e
   have rq:H g0.objs.size=none:=I2.hok.fresh (au _)
   have hmap:(ss.map fun z=>z.cps.toList).map tx=ss:=by
    rw[aS]
    have:(tx∘fun z:Str=>z.cps.toList)=id:=funext fun z=>Bx z
    rw[this,lj]
   have hperm:(ss.map fun z=>z.cps.toList).Perm (l.map fun c=>[c]):=by
    have e:=hp.map fun z:Str=>z.cps.toList
    rw[aS]at e
    exact e
   have ez:(ss.map fun z=>z.cps.toList)=lQ (l.map fun c=>[c]):=wB (tF (by rw[hmap];exact hsr)) (yC _) (hperm.trans (jZ _).symm)
   have hvals:cA ((lQ (l.map fun c=>[c])).map fun l=>V.str (tx l)) out.toList:=by
    have e:=pf xI
    rw[<- hmap,ez,aS]at e
    exact e
   refine⟨.ref g0.objs.size,_,I2.laid (o:=.lst ((lQ (l.map fun c=>[c])).map fun l=>V.str (tx l))) (t':=tk) k1 (au _) ⟨?_,out.toList,e,hvals,gL⟩,rfl,?_⟩
   ·rw[ai,(jZ _).length_eq,ai]
    exact a_ (df c) (by decide)
   ·exact q (μ++[g0.objs.size]) _ _ (aq _ _) (fq.same (ce rq _)) (S.newLst rq (yD _)) (mz S)
  ·exact q.elim
 ·exact yE.h pins s σ H _ us Q I rv ⟨μ,st,_,S,r,q⟩
 ·exact q.elim,fun ws st=>by
 unfold qS
 split
 ·split<;>trivial
 ·exact(yE (X:=X)).n _ _
 ·trivial⟩
end
def oQ(a b k:Int):Nat:=if a<b then((b-a-1)/k+1).toNat else 0
theorem vp{a b k:Int}(hk:0<k):Builtin.Range.rangeSize a b k=(oQ a b k:Int):=by
 unfold Builtin.Range.rangeSize oQ
 rw[am hk]
 split
 ·have:=Int.ediv_nonneg (a:=b-a-1) (b:=k) (by omega) (by omega)
  omega
 ·rfl
theorem Jp{a b k:Int}(hk:0<k)(h:a<b):(b-a-1)/k<=b-a-1:=Int.ediv_le_self _ (by omega)
theorem As{a b k:Int}(h1:-(2^60)<=a)(h2:a<2^60)(h3:-(2^60)<=b)(h4:b<2^60)(hk:0<k)(Ig:k<=1000):Builtin.Range.small a b k=true:=by
 unfold Builtin.Range.small
 rw[vp hk]
 simp only[Builtin.Range.rangeFitsLong,a8,fF,decide_eq_true_eq,cz,am hk]
 unfold oQ
 split
 ·have:=Jp hk (by assumption)
  have:=Int.ediv_nonneg (a:=b-a-1) (b:=k) (by omega) (by omega)
  have:=Int.ediv_mul_le (a:=b-a-1) (b:=k) (by omega)
  omega
 ·omega
def vq(i k:Int)(n:Nat):List V:=(List.range n).map fun m:Nat=>V.int (i+m*k)
def QY(ta:TA):TI:=fun σ H R=>ta σ H fun vs H1=>∃i j k:Int,vs=[.int i,.int j,.int k]/\(-(2^60)<=i/\i<2^60/\-(2^60)<=j/\j<2^60/\0<k/\k<=1000)/\R (S7 (vq i k (oQ i j k))) H1
theorem wC{tg a b:Expr}{ta:TA}{p pos:Pos}(hm:X.mg "range"=none)(ha:QA X [a,b,c] ta)(hg:Gl X "range":=by rfl)(hs:starEach [a,b,c] X.env=(false,eval a X.env)::starEach [b,c] X.env:=by rfl)
  (A5:(backTo pos (starEach [b,c] X.env)).any (·.1)=false:=by rfl):QI X tg (.Call (.Name "range" p) [a,b,c] [] pos) (QY ta):=⟨by
 intro pins s σ H R I h
 refine Call_ (nG I hg hm pL (dA (f6 (ha.h pos pins s σ H _ I h) fun us s1 ⟨vs,H1,I1,r1,q1⟩=>?_) hs A5))
 obtain⟨i,j,k,e,⟨b1,b2,b3,b4,b5,b6⟩,q⟩:=q1
 subst e
 cases r1 with
 |cons x1 r1=>cases r1 with
  |cons x2 r1=>cases r1 with
   |cons x3 r1=>
    cases r1
    obtain⟨t1,rfl⟩:=x1
    obtain⟨t2,rfl⟩:=x2
    obtain⟨t3,rfl⟩:=x3
    refine call_range_3 (by omega) ?_ (Or.inl (mP (by omega)))
    refine wpAny_pyIter_range (IsRange.new ..) (As b1 b2 b3 b4 b5 b6) ?_
    generalize hN:oQ i j k=n at q
    have hl:(vq i k n).length=n:=by unfold vq;simp
    have I2:bv X pins σ H1 { s1 with heap:=s1.heap.push { cls:=.type "range",data:=.fields #[.int i t1,.int j t2,.int k t3] },toks:=s1.toks }:=I1.kept fun b o e=>ao _ e
    refine⟨(s1.heap.push { cls:=.type "range",data:=.fields #[.int i t1,.int j t2,.int k t3] }).objs.size,[(s1.heap.push { cls:=.type "range",data:=.fields #[.int i t1,.int j t2,.int k t3] }).objs.size],_,_,H1,rfl,
     I2.kept (t':=s1.toks) fun b o e=>ao _ e,sR (ty:="range_iterator") (fun A hA=>by rw[hl];exact Walks.range hA _ i k n) (fun m v hk hp=>?_) (fun k h st=>⟨_,_,st,rfl,rfl⟩) (by decide) (fun A k s Q E st h=>mO st h),⟨cG _,?_⟩,fun b hb=>?_,q⟩
    ·obtain⟨t,rfl⟩:=hp
     rw[hl]at hk
     refine⟨.int (i+m*k),?_,t,rfl⟩
     unfold vq
     rw[ak,cW hk]
     rfl
    ·have e1:i+((0:Nat):Int)*k=i:=by simp
     have e2:((n:Nat):Int)-((0:Nat):Int)=Builtin.Range.rangeSize i j k:=by rw[vp b5,hN];simp
     rw[e1,e2]
     exact aT _ rfl
    ·have e:b=(s1.heap.push { cls:=.type "range",data:=.fields #[.int i t1,.int j t2,.int k t3] }).objs.size:=by simpa using hb
     subst e
     exact I2.fpOk (au _) (I2.hok.fresh (au _))⟩
section
variable{a b:Expr}{fs:FA}
def rD(i k:Int)(n:Nat):List W:=(List.range n).map fun m:Nat=>W.int (i+m*k)
theorem Fc(i k:Int)(n:Nat)(μ:List Addr)(H:Hp):RelWs X.K μ H (rD i k n) (vq i k n):=by
 unfold rD vq
 induction (List.range n)with
 |nil=>exact .nilI
 |cons a r ih=>exact .consI .int ih
def wD(fs:FA):FI:=fun ρ st=>(fs ρ st).bind fun ws st=>match ws with
 |[.int i,.int j,.int k]=>if -(2^60)<=i/\i<2^60/\-(2^60)<=j/\j<2^60/\0<k/\k<=1000 then .ok (rD i k (oQ i j k),none) st else .bad
 |_=>.bad
theorem Jq(hm:X.mg "range"=none)(ha:SA X [a,b,c] fs)(hg:Gl X "range":=by rfl)(hs:starEach [a,b,c] X.env=(false,eval a X.env)::starEach [b,c] X.env:=by rfl)(pK:(backTo pos (starEach [b,c] X.env)).any (·.1)=false:=by rfl) :
  SI X tg (.Call (.Name "range" p) [a,b,c] [] pos) (wD fs):=⟨(wC hm ⟨ha.h⟩ hg hs pK).h.imp fun σ H R h=>by
 obtain⟨μ,ρ,st,l,h⟩:=h
 refine⟨μ,ρ,st,l,RK.bind h l fun μ1 st1 x v H1 p1 x1 l1 q1 h1=>?_⟩
 split at h1
 ·rename_i i j k
  obtain⟨y,ys,rfl,ry,r1⟩:=q1.consE
  obtain⟨z,zs,rfl,rz,r2⟩:=r1.consE
  obtain⟨w,rfl,kG⟩:=r2.one
  split at h1
  ·rename_i cc
   exact⟨_,_,_,by rw[ry.intE,rz.intE,kG.intE],cc,h1 μ1 _ H1 (ag _) dB.refl l1.sto (vn (Fc _ _ _))⟩
  ·exact h1.elim
 ·exact h1.elim⟩
end
theorem Jr{pos:Pos}{g:TG}(gA:X.calm=true)
  (gj:scope.kind=.function) (hB:sV X.env.scope.names scope.names nm cap X.N=true)
  (hi:QI X tg iter wi) (hg:∀cl C s0 H0 fp,QG (bG X nm scope cl C s0 H0 fp) tg g) (ht:∀cl C s0 H0 fp,S8 (bG X nm scope cl C s0 H0 fp) kJ tc)
  (he:∀cl C s0 H0 fp,QE (bG X nm scope cl C s0 H0 fp) mM te) (hs:∀x,foldedSetIterable iter X.env x=pure x:=by intro _;rfl) :
  QE X (.ListComp mM [⟨tg,iter,kJ,0⟩] scope pos) (sQ cap wi g tc te):=by
 simp only[sV,a8,cD,fF,gG,cz,aQ]at hB
 obtain⟨⟨⟨⟨b1,b2⟩,b3⟩,b4⟩,b5⟩:=hB
 refine⟨fun pins s σ H Q I h=>?_⟩
 have has:∀x∈scope.names,x.2=.free->∃c,X.env.cells.lookup x.1=some c:=fun x hx hk=>by
  rcases b3 x hx with z|z
  ·exact absurd hk z
  ·exact I.ok.has x.1 (.inl z)
 have kK:∀x c,(cI X.env scope.names []).lookup x=some c->X.env.cells.lookup x=some c:=fun x c h=>jP scope.names [] has (by simp) (x,c) (dm h)
 have hin:∀x,(x,NameKind.free)∈scope.names->∃c,(cI X.env scope.names []).lookup x=some c:=fun x h=>let ⟨_,q⟩:=mw (env:=X.env) scope.names [] x h;my q
 have hmap:(relabel scope X.env).names=scope.names.map fun y=>if (y.2==.free&&X.env.scope.kind==.function&&X.env.kindOf y.1==some .cell)then(y.1,NameKind.cell)else y:=by
  show scope.names.map _=_
  refine bf fun y _=>?_
  obtain⟨a,b⟩:=y
  rfl
 have fr:∀x,((relabel scope X.env).names.lookup x=some .cell\/(relabel scope X.env).names.lookup x=some .free)->(x,NameKind.free)∈scope.names:=fun x h=>by
  have h':∃k,(x,k)∈(relabel scope X.env).names/\(k=.cell\/k=.free):=by
   rcases h with h|h
   ·exact⟨_,dm h,.inl rfl⟩
   ·exact⟨_,dm h,.inr rfl⟩
  obtain⟨k,hm,hk⟩:=h'
  rw[hmap]at hm
  obtain⟨y,hy,e⟩:=ar.mp hm
  obtain⟨a,b⟩:=y
  by_cases hb:b=.free
  ·subst hb
   have:a=x:=by split at e<;>(cases e;rfl)
   subst this;exact hy
  ·rw[az (by simp[hb])]at e
   cases e
   rcases hk with rfl|rfl
   ·exact absurd rfl (b2 _ hy)
   ·exact absurd rfl hb
 refine Bv (cl:=cI X.env scope.names []) (cap:=cap) (nm:=nm) gA (yo has) kK gj (fun x hx hk=>(b1 x hx).resolve_left fun z=>z hk) (fun y hy=>b2 y hy) (fun x hx=>hin x (fr x hx)) (fun i j e=>?_) b4 hi.h (fun C s0 H0 fp=>(hg _ C s0 H0 fp).h) (fun C s0 H0 fp=>(ht _ C s0 H0 fp).h) (fun C s0 H0 fp=>(he _ C s0 H0 fp).h) hs pins s σ H Q I h
 have hi':i<cap.length:=(aa.mp e).1
 have q:=b5 i (aM.mpr hi')
 rw[e]at q
 dsimp only at q
 cases hx:nm[i]? with
 |none=>rw[hx]at q;simp at q
 |some x=>
  cases hy:X.N[j]? with
  |none=>rw[hx,hy]at q;simp at q
  |some y=>
   rw[hx,hy]at q
   simp only[a8,cz]at q
   obtain⟨⟨rfl,q1⟩,q2⟩:=q
   refine⟨x,rfl,rfl,.inr (.inl q1),(by rw[q1];decide),?_,?_⟩
   ·obtain⟨c,hc⟩:=hin x (dm q2)
    rw[hc,kK _ _ hc]
   ·rw[hmap];exact kR (env:=X.env) q2
section
variable{fi:FI}{f:FG}{t:FT}{el:FE}
theorem Js(hB:sV X.env.scope.names scope.names nm cap X.N=true)(hi:SI X tg iter fi)(hg:∀cl C s0 H0 fp,SG (bG X nm scope cl C s0 H0 fp) tg f)(ht:∀cl C s0 H0 fp,KR (bG X nm scope cl C s0 H0 fp) kJ t)
  (he:∀cl C s0 H0 fp,SE (bG X nm scope cl C s0 H0 fp) mM el) (gA:X.calm=true:=by rfl) (gj:scope.kind=.function:=by rfl) (hs:∀x,foldedSetIterable iter X.env x=pure x:=by intro _;rfl) :
  SE X (.ListComp mM [⟨tg,iter,kJ,0⟩] scope pos) (dC cap fi f t el):=
 ⟨(Jr gA gj hB ⟨hi.h⟩ (fun cl C s0 H0 fp=>T8 (X:=X) rfl rfl (hg cl C s0 H0 fp)) (fun cl C s0 H0 fp=>T7 (X:=X) rfl rfl (ht cl C s0 H0 fp)) (fun cl C s0 H0 fp=>T6 (X:=X) rfl rfl (he cl C s0 H0 fp)) hs).h.imp fun _ _ _ h=>Am h⟩
end
section
variable{w:World}
variable{z P O i j:Addr}{xs ys:Array Value}{x y:Value}
end
open AutoSeq1 (wpAny_loadPart')
section
variable{w:World}
end
section
variable{a b:Expr}{fs:FA}
end
open Builtin.Str (tooLong)
section
variable{w:World}
end
section
end
section
def eX:List W->Option (List Int)
 |[]=>some []
 |.int z::ws=>(eX ws).map (z :: ·)
 |_=>none
theorem lR:∀{ws:List W} {l:List Int} {vs:List V},eX ws=some l->RelWs K μ H ws vs->vs=l.map V.int
 |[],l,vs,h,r=>by simp only[eX]at h;cases h;exact r.nilE
 |w::ws,l,vs,h,r=>by
  obtain⟨x,xs,rfl,rx,rs⟩:=r.consE
  unfold eX at h
  split at h
  ·rename_i e;cases e
  ·rename_i z SU e
   cases e
   cases e2:eX ws with
   |none=>rw[e2]at h;cases h
   |some l'=>rw[e2]at h;cases h;rw[rx.intE,lR e2 rs];rfl
  ·cases h
end
section
end
abbrev QZ:=List W×List (Nat×List W)
abbrev UU:=bQ->List aj->R QZ
section
variable{fi:UU}{f:FG}{t:FT}{el:FE}
end
section
variable{a b:Expr}{fs:FA}
end
section
end
section
variable{g:TG}{te:Cx->TE}
end
section
variable{fi:FI}{f:FG}{el:FE}
end
theorem DK.key_inj{a b:DK}:a.key=b.key↔a=b:=by
 cases a<;>cases b<;>simp[DK.key,EI]
def DK.w:DK->W
 |.i z=>.int z
 |.s l=>.str l
def j3:W->Option DK
 |.int z=>some (.i z)
 |.str l=>some (.s l)
 |_=>none
theorem qg{w:W}{k:DK}{v:V}(h:j3 w=some k)(r:be K μ H w v):v=kV k.key:=by
 cases w with
 |int z=>cases h;exact r.intE
 |str l=>cases h;exact r.strE
 |_=>cases h
theorem DK.w_rel(k:DK):be K μ H k.w (kV k.key):=by
 cases k with
 |i z=>exact .int
 |s l=>exact .str
def jG(kvs:List (DK×W))(k:DK):Option W:=(kvs.find? fun p=>decide (p.1=k)).map fun p=>p.2
def tJ(kvs:List (DK×W))(k:DK)(v:W):List (DK×W):=if (kvs.any fun p=>decide (p.1=k))=true then kvs.map fun p=>if p.1=k then(p.1,v)else p else kvs++[(k,v)]
def j4(kvs:List (DK×W))(k:DK):List (DK×W):=kvs.filter fun p=>decide (p.1≠k)
abbrev dV(kvs:List (DK×W))(vs:List V):List (fZ×V):=(kvs.map fun p=>p.1.key).zip vs
section
theorem tK:∀{kvs:List (DK×W)} {vs:List V} (k:DK),RelWs K μ H (kvs.map fun p=>p.2) vs->(∃w v,jG kvs k=some w/\jU (dV kvs vs) k.key=some v/\be K μ H w v)\/(jG kvs k=none/\jU (dV kvs vs) k.key=none)
 |[],vs,k,r=>.inr ⟨rfl,rfl⟩
 |p::kvs,vs,k,r=>by
  obtain⟨x,xs,rfl,a,b⟩:=RelWs.consE r
  have ih:=tK (kvs:=kvs) k b
  by_cases h:p.1=k
  ·refine .inl ⟨p.2,x,?_,?_,a⟩
   ·unfold jG;rw[bx];simp[h]
   ·show jU ((p.1.key,x)::dV kvs xs) k.key=some x
    exact nH (by rw[h])
  ·have e1:jG (p::kvs) k=jG kvs k:=by unfold jG;rw[bx];simp[h]
   have e2:jU (dV (p::kvs) (x::xs)) k.key=jU (dV kvs xs) k.key:=pV (p:=(p.1.key,x)) fun z=>h (DK.key_inj.mp z)
   rw[e1,e2];exact ih
theorem Fd:∀{kvs:List (DK×W)} {vs:List V} (k:DK),RelWs K μ H (kvs.map fun p=>p.2) vs->((dV kvs vs).any fun kv=>decide (kv.1=k.key))=(kvs.any fun p=>decide (p.1=k))
 |[],vs,k,r=>rfl
 |p::kvs,vs,k,r=>by
  obtain⟨x,xs,rfl,a,b⟩:=RelWs.consE r
  show(decide (p.1.key=k.key)||(dV kvs xs).any _)=(decide (p.1=k)||kvs.any _)
  rw[Fd k b]
  congr 1
  rw[decide_eq_decide];exact DK.key_inj
theorem Fe{k:DK}{w:W}{v:V}:∀{kvs:List (DK×W)} {vs:List V},RelWs K μ H (kvs.map fun p=>p.2) vs->be K μ H w v->∃us,(dV kvs vs).map (fun kv=>if kv.1=k.key then(kv.1,v)else kv)=dV (kvs.map fun p=>if p.1=k then(p.1,w)else p) us/\RelWs K μ H ((kvs.map fun p=>if p.1=k then(p.1,w)else p).map fun p=>p.2) us
 |[],vs,r,kG=>⟨[],rfl,.nilI⟩
 |p::kvs,vs,r,kG=>by
  obtain⟨x,xs,rfl,a,b⟩:=RelWs.consE r
  obtain⟨us,e,q⟩:=Fe (k:=k) b kG
  by_cases h:p.1=k
  ·refine⟨v::us,?_,?_⟩
   ·show(if p.1.key=k.key then(p.1.key,v)else(p.1.key,x))::(dV kvs xs).map _=_
    rw[am (by rw[h]),e,aF,am h];rfl
   ·rw[aF,am h];exact .consI kG q
  ·refine⟨x::us,?_,?_⟩
   ·show(if p.1.key=k.key then(p.1.key,v)else(p.1.key,x))::(dV kvs xs).map _=_
    rw[az (fun z=>h (DK.key_inj.mp z)),e,aF,az h];rfl
   ·rw[aF,az h];exact .consI a q
theorem Ff{kvs:List (DK×W)}{k:DK}{w:W}{v:V}(r:RelWs K μ H (kvs.map fun p=>p.2) vs)(kG:be K μ H w v):∃us,nq (dV kvs vs) k.key v=dV (tJ kvs k w) us/\RelWs K μ H ((tJ kvs k w).map fun p=>p.2) us:=by
 unfold nq tJ
 rw[Fd k r]
 by_cases h:(kvs.any fun p=>decide (p.1=k))=true
 ·rw[am h,am h]
  exact Fe r kG
 ·rw[az h,az h]
  refine⟨vs++[v],?_,?_⟩
  ·unfold dV
   rw[bV,List.zip_append (by rw[ai,<- r.len,ai])];rfl
  ·rw[bV];exact r.app (.consI kG .nilI)
theorem BM{k:DK}:∀{kvs:List (DK×W)} {vs:List V},RelWs K μ H (kvs.map fun p=>p.2) vs->∃us,mY (dV kvs vs) k.key=dV (j4 kvs k) us/\RelWs K μ H ((j4 kvs k).map fun p=>p.2) us
 |[],vs,r=>⟨[],rfl,.nilI⟩
 |p::kvs,vs,r=>by
  obtain⟨x,xs,rfl,a,b⟩:=RelWs.consE r
  obtain⟨us,e,q⟩:=BM (k:=k) b
  by_cases h:p.1=k
  ·refine⟨us,?_,?_⟩
   ·have e1:j4 (p::kvs) k=j4 kvs k:=by unfold j4;rw[bZ];simp[h]
    rw[e1]
    exact(Da (p:=(p.1.key,x)) (by rw[h])).trans e
   ·have e1:j4 (p::kvs) k=j4 kvs k:=by unfold j4;rw[bZ];simp[h]
    rw[e1];exact q
  ·have e1:j4 (p::kvs) k=p::j4 kvs k:=by unfold j4;rw[bZ];simp[h]
   refine⟨x::us,?_,?_⟩
   ·rw[e1]
    exact(Db (p:=(p.1.key,x)) fun z=>h (DK.key_inj.mp z)).trans (dq (List.cons (p.1.key,x)) e)
   ·rw[e1];exact .consI a q
theorem qU{kvs:List (DK×W)}(r:RelWs K μ H (kvs.map fun p=>p.2) vs):(dV kvs vs).length=kvs.length:=by
 unfold dV;rw[List.length_zip,ai,<- r.len,ai,Nat.min_self]
theorem fq.butD{l:Addr}{xs:List (fZ×V)}(e:Qi l H H')(hl:H l=some (.dK xs)):dB K H H':=by
 have mJ:∀{p:Addr} {o:HO},H p=some o->(∀zs,o≠.dK zs)->p≠l:=fun{p o} q hn z=>by subst z;rw[hl]at q;cases q;exact hn _ rfl
 refine⟨fun p ys h=>?_,fun b o u h=>e _ _ (mJ h (fun _ z=>by cases z)) h⟩
 rcases h with(h|⟨o,h⟩)|h
 ·exact .inl (.inl (e _ _ (mJ h (fun _ z=>by cases z)) h))
 ·exact .inl (.inr ⟨o,e _ _ (mJ h (fun _ z=>by cases z)) h⟩)
 ·exact .inr h
end
theorem fX.setD{st:List aj}(S:fX K mg μ st H){kvs lD:List (DK×W)}{xs:List (fZ×V)}{us:List V}(hn:st[n]?=some (.dct kvs))(hm:μ[n]?=some a)(ha:H a=some (.dK xs))(hr:RelWs K μ H (lD.map fun p=>p.2) us) :
  fX K mg μ (st.set n (.dct lD)) (d_ H a (.dK (dV lD us))):=
 S.setG hn rfl hm ha (fun _ _ z=>by cases z) (fun _ z=>by cases z) (fq.butD f7 ha) rfl ⟨us,dD,hr.mono (ag _) (fq.butD f7 ha)⟩
def iI(st:List aj):W->Option (Nat×List (DK×W))
 |.loc n=>(match st[n]? with
  |some (.dct kvs)=>some (n,kvs)
  |some (.rod kvs)=>some (n,kvs)
  |_=>none)
 |_=>none
def rX(st:List aj):W->Option (Nat×List (DK×W))
 |.loc n=>(match st[n]? with
  |some (.dct kvs)=>some (n,kvs)
  |_=>none)
 |_=>none
theorem nN{st:List aj}(S:fX K mg μ st H){x:W}{v:V}{kvs:List (DK×W)}(h:iI st x=some (n,kvs))(r:be K μ H x v) :
  ∃a vs,(st[n]?=some (.dct kvs)\/st[n]?=some (.rod kvs))/\μ[n]?=some a/\v=.ref a/\Rd H a (.dK (dV kvs vs))/\RelWs K μ H (kvs.map fun p=>p.2) vs:=by
 cases x with
 |loc m=>
  simp only[iI]at h
  cases e:st[m]? with
  |none=>rw[e]at h;cases h
  |some c=>
   rw[e]at h
   cases c with
   |dct z=>
    cases h
    obtain⟨a,g,vs,k,rr⟩:=S.get e
    obtain⟨b,f,rfl⟩:=r.locE
    rw[g]at f;cases f
    exact⟨a,vs,.inl e,g,rfl,.inl k,rr⟩
   |rod z=>
    cases h
    obtain⟨a,g,vs,o,k,rr⟩:=S.get e
    obtain⟨b,f,rfl⟩:=r.locE
    rw[g]at f;cases f
    exact⟨a,vs,.inr e,g,rfl,.inr ⟨o,k⟩,rr⟩
   |_=>cases h
 |_=>cases h
theorem sf{st:List aj}(S:fX K mg μ st H){x:W}{v:V}{kvs:List (DK×W)}(h:rX st x=some (n,kvs))(r:be K μ H x v) :
  ∃a vs,st[n]?=some (.dct kvs)/\μ[n]?=some a/\v=.ref a/\H a=some (.dK (dV kvs vs))/\RelWs K μ H (kvs.map fun p=>p.2) vs:=by
 cases x with
 |loc m=>
  simp only[rX]at h
  cases e:st[m]? with
  |none=>rw[e]at h;cases h
  |some c=>
   rw[e]at h
   cases c with
   |dct z=>
    cases h
    obtain⟨a,g,vs,k,rr⟩:=S.get e
    obtain⟨b,f,rfl⟩:=r.locE
    rw[g]at f;cases f
    exact⟨a,vs,e,g,rfl,k,rr⟩
   |_=>cases h
 |_=>cases h
theorem yi.r{kvs:List (fZ×V)}{k:fZ}(e:Rd H a (.dK kvs)):yi H a (kV k) (jU kvs k):=.inl ⟨kvs,k,e,rfl,rfl⟩
section
variable{a b d o i:Expr}{fa fb fc fe fo fi:FE}{fs:FA}
def wE(A8:Bool)(x y:W)(st:List aj):R W:=match iI st y with
 |some (_,kvs)=>(match j3 x with
  |some k=>.ok (.bl (if A8 then !(jG kvs k).isSome else(jG kvs k).isSome)) st
  |none=>.bad)
 |none=>Dm A8 x y st
theorem Du{kvs:List (DK×W)}{k:DK}(r:RelWs K μ H (kvs.map fun p=>p.2) vs):(jU (dV kvs vs) k.key).isSome=(jG kvs k).isSome:=by
 rcases tK k r with⟨w,v,e1,e2,_⟩|⟨e1,e2⟩<;>rw[e1,e2]<;>rfl
theorem yI(hr:fY kk X.A)(ho:rT X (compareOp .NotIn) (Dm true)):rT X (compareOp .NotIn) (wE true):=⟨fun pins s σ H x y v u Q I rv ru ⟨μ,st,wx,wy,S,rx,ry,q⟩=>by
 unfold wE at q
 cases e:iI st wy with
 |none=>rw[e]at q;exact ho.h pins s σ H x y v u Q I rv ru ⟨μ,st,wx,wy,S,rx,ry,q⟩
 |some nk=>
  obtain⟨n,kvs⟩:=nk
  rw[e]at q
  cases ek:j3 wx with
  |none=>simp only[ek]at q;exact q.elim
  |some k=>
   simp only[ek]at q
   obtain⟨a,vs,_,_,rfl,ha,r⟩:=nN S e ry
   have:=qg ek rx
   subst this
   obtain rfl:u=Value.ref a:=ru
   refine IP (EC hr) I (yi.r ha) rv fun s' I'=>?_
   rw[Du r]
   exact⟨.bl _,H,I',rfl,jg S q⟩,fun x y st=>by
 unfold wE
 split
 ·split<;>trivial
 ·exact ho.n x y st⟩
def lS(x y:W)(st:List aj):R W:=match iI st x,j3 y with
 |some (_,kvs),some k=>oN (jG kvs k) fun w=>.ok w st
 |_,_=>.bad
theorem Fg(hr:fY kk X.A)(ha:SE X a fa)(hb:SE X b fb)(hs:EE b:=by intro _ _;rfl):SE X (.Subscript a b pos) (e2 lS fa fb):=⟨(IQ (EC hr) ha.h hb.h hs).imp fun σ H Q h=>by
 obtain⟨μ,ρ,st,l,h⟩:=h
 refine⟨μ,ρ,st,l,RK.bind h l fun μ1 st1 x v H1 p1 x1 l1 q1 h1=>⟨μ1,ρ,st1,l1,RK.bind h1 l1 fun μ2 cM y u H2 p2 x2 l2 q2 h2=>?_⟩⟩
 unfold lS at h2
 cases e1:iI cM x with
 |none=>rw[e1]at h2;exact h2.elim
 |some nk=>
  obtain⟨n,kvs⟩:=nk
  cases e2:j3 y with
  |none=>rw[e1,e2]at h2;exact h2.elim
  |some k=>
   rw[e1,e2]at h2
   simp only at h2
   obtain⟨a,vs,_,_,rfl,ha,r⟩:=nN l2.sto e1 (q1.mono p2 x2)
   have:=qg e2 q2
   subst this
   rcases tK k r with⟨w,z,g1,g2,g3⟩|⟨g1,g2⟩
   ·rw[g1]at h2
    exact⟨a,z,rfl,by rw[<- g2];exact yi.r ha,h2 μ2 z H2 (ag _) dB.refl l2.sto g3⟩
   ·rw[g1]at h2;exact h2.elim⟩
def kU(x i v:W)(st:List aj):Option (List aj):=match rX st x,j3 i with
 |some (n,kvs),some k=>if kvs.length<jw then some (st.set n (.dct (tJ kvs k v)))else none
 |_,_=>none
theorem Fh(hr:fY kk X.A):zS X (BJ X kU):=fun pins s σ H o i v ov iv u Q I r1 r2 r3 ⟨μ,st,wo,wi,wv,bE,S,ro,ri,rv,e,q⟩=>by
 unfold kU at e
 cases e1:rX st wo with
 |none=>rw[e1]at e;cases e
 |some nk=>
  obtain⟨n,kvs⟩:=nk
  cases e2:j3 wi with
  |none=>rw[e1,e2]at e;cases e
  |some k=>
   rw[e1,e2]at e
   simp only at e
   split at e
   ·rename_i hl
    cases e
    obtain⟨a,vs,hn,hm,rfl,ha,r⟩:=sf S e1 ro
    have:=qg e2 ri
    subst this
    obtain rfl:ov=Value.ref a:=r1
    obtain⟨us,g1,g2⟩:=Ff (k:=k) r rv
    refine C_ (EC hr) I (IN.k ha (by rw[qU r];exact a6 hl (by decide))) r2 r3 fun s' I'=>⟨_,I',?_⟩
    rw[g1]
    exact q _ (fq.butD f7 ha) (S.setD hn hm ha g2)
   ·cases e
def tL(ws:List W)(st:List aj):R W:=match ws with
 |[x]=>(match iI st x with
  |some (_,kvs)=>.ok (.int kvs.length) st
  |none=>cU ws st)
 |_=>cU ws st
theorem No:m3 X (.builtin "len") tL:=⟨fun pins s σ H vs us Q I rv ⟨μ,st,ws,S,r,q⟩=>by
 unfold tL at q
 split at q
 ·rename_i x
  split at q
  ·rename_i n kvs e
   obtain⟨y,rfl,ry⟩:=r.one
   obtain⟨a,vs,_,_,rfl,ha,rr⟩:=nN S e ry
   obtain⟨u,rfl,ru⟩:=kQ rv
   obtain rfl:u=Value.ref a:=ru
   refine Qd I ha fun t s' I'=>⟨.int kvs.length,H,I',⟨t,by rw[qU rr]⟩,?_⟩
   exact q μ _ H (ag _) dB.refl S .int
  ·exact jW.h pins s σ H _ us Q I rv ⟨μ,st,_,S,r,q⟩
 ·exact jW.h pins s σ H _ us Q I rv ⟨μ,st,_,S,r,q⟩,fun ws st=>by
 unfold tL
 split
 ·split
  ·trivial
  ·exact(jW (X:=X)).n _ _
 ·exact(jW (X:=X)).n _ _⟩
def qh:FE:=fun _ st=>.ok (.loc st.length) (st++[.dct []])
theorem Fi:SE X (.Dict [] [] pos) qh:=⟨EF.imp fun σ H Q h=>by
 obtain⟨μ,ρ,st,l,h⟩:=h
 intro p hp
 have hs:oE H (d_ H p (.dK [])):=ce hp _
 exact h (μ++[p]) (.ref p) _ (aq _ _) (fq.same hs) (l.sto.push (c:=.dct []) hp ⟨[],dD,.nilI⟩) (mz l.sto)⟩
abbrev FP:=bQ->List aj->R (List (W×W))
def BN:FP:=fun _ st=>.ok [] st
def wF(fk fv:FE)(fr:FP):FP:=fun ρ st=>(fk ρ st).bind fun k st=>(fv ρ st).bind fun v st=>(fr ρ st).bind fun ps st=>.ok ((k,v)::ps) st
abbrev T_(X:Cx):List Addr->Hp->List (W×W)->List (V×V)->Prop:=fun μ H ws vs=>RelWs X.K μ H (ws.map fun p=>p.1) (vs.map fun p=>p.1)/\RelWs X.K μ H (ws.map fun p=>p.2) (vs.map fun p=>p.2)
structure Td(X:Cx)(pos:Pos)(keys:List (Option Expr))(kg:List Expr)(f:FP):Prop where
 h:∃Bg,Qf X pos keys kg Bg/\∀σ H Q,tG X (T_ X) f σ H Q->wf Bg σ H Q
theorem Np:Td X pos [] [] BN:=⟨[],IR,fun σ H Q h=>by
 obtain⟨μ,ρ,st,l,h⟩:=h
 exact h μ [] H (ag _) dB.refl l.sto ⟨.nilI,.nilI⟩⟩
theorem Jt{k v:Expr}{fk fv:FE}{fr:FP}{vs:List Expr}(hk:SE X k fk)(hv:SE X v fv)(hr:Td X pos ks vs fr):Td X pos (some k::ks) (v::vs) (wF fk fv fr):=by
 obtain⟨Bg,h1,h2⟩:=hr.h
 refine⟨(tE X fk,tE X fv)::Bg,EG hk.h hv.h h1,fun σ H Q h=>?_⟩
 obtain⟨μ,ρ,st,l,h⟩:=h
 refine⟨μ,ρ,st,l,RK.bind h l fun μ1 st1 x1 v1 H1 p1 e1 l1 q1 h1=>⟨μ1,ρ,st1,l1,RK.bind h1 l1 fun μ2 cM x2 v2 H2 p2 e2 l2 q2 h2'=>h2 _ _ _ ⟨μ2,ρ,cM,l2,RK.bind h2' l2 fun μ3 i5 x3 v3 H3 p3 e3 l3 q3 h3=>?_⟩⟩⟩
 exact h3 μ3 _ H3 (ag _) dB.refl l3.sto ⟨.consI (q1.mono (p2.trans p3) (e2.trans e3)) q3.1,.consI (q2.mono p3 e3) q3.2⟩
def keysOf:List (W×W)->Option (List (DK×W))
 |[]=>some []
 |(k,v)::r=>match j3 k,keysOf r with
  |some k,some r=>some ((k,v)::r)
  |_,_=>none
theorem vt:∀{ps:List (W×W)} {kvs:List (DK×W)} {vs:List (V×V)},keysOf ps=some kvs->RelWs K μ H (ps.map fun p=>p.1) (vs.map fun p=>p.1)->RelWs K μ H (ps.map fun p=>p.2) (vs.map fun p=>p.2) ->
  ∃us,vs=(dV kvs us).map (fun kv=>(kV kv.1,kv.2))/\RelWs K μ H (kvs.map fun p=>p.2) us
 |[],kvs,vs,h,r1,r2=>by
  cases h
  have:vs=[]:=by simpa using r1.nilE
  subst this
  exact⟨[],rfl,.nilI⟩
 |(k,v)::r,kvs,vs,h,r1,r2=>by
  unfold keysOf at h
  cases e1:j3 k with
  |none=>rw[e1]at h;cases h
  |some k'=>
   cases e2:keysOf r with
   |none=>rw[e1,e2]at h;cases h
   |some r'=>
    rw[e1,e2]at h
    cases h
    cases vs with
    |nil=>obtain⟨_,_,z,_⟩:=r1.consE;cases z
    |cons q vs=>
     obtain⟨x,xs,z,a1,b1⟩:=r1.consE
     cases z
     obtain⟨x,xs,z,a2,b2⟩:=r2.consE
     cases z
     obtain⟨us,f1,f2⟩:=vt e2 b1 b2
     refine⟨q.2::us,?_,.consI a2 f2⟩
     obtain⟨q1,q2⟩:=q
     show(q1,q2)::vs=(kV k'.key,q2)::_
     rw[f1,show q1=kV k'.key from qg e1 a1]
     rfl
def At(acc kvs:List (DK×W)):List (DK×W):=kvs.foldl (fun acc p=>tJ acc p.1 p.2) acc
theorem yJ:∀{kvs acc:List (DK×W)} {vs us:List V},RelWs K μ H (kvs.map fun p=>p.2) vs->RelWs K μ H (acc.map fun p=>p.2) us->∃zs,nJ (dV acc us) (dV kvs vs)=dV (At acc kvs) zs/\RelWs K μ H ((At acc kvs).map fun p=>p.2) zs
 |[],acc,vs,us,r1,r2=>⟨us,rfl,r2⟩
 |p::kvs,acc,vs,us,r1,r2=>by
  obtain⟨x,xs,rfl,a,b⟩:=RelWs.consE r1
  obtain⟨zs,e,q⟩:=Ff (k:=p.1) r2 a
  obtain⟨ys,e2,q2⟩:=yJ b q
  refine⟨ys,?_,q2⟩
  show nJ (nq (dV acc us) p.1.key x) (dV kvs xs)=_
  rw[e,e2];rfl
def BO(f:FP):FE:=fun ρ st=>(f ρ (st++[.dct []])).bind fun ps cM=>match cM[st.length]?,keysOf ps with
 |some (.dct []),some kvs=>if kvs.length<=15 then .ok (.loc st.length) (cM.set st.length (.dct (At [] kvs)))else .bad
 |_,_=>.bad
theorem Nq{keys:List (Option Expr)}{kg:List Expr}{f:FP}(h:Td X pos keys kg f)(l7:keys.all (·.isSome)=true:=by rfl)(hl:keys.length=kg.length:=by rfl)(h0:keys≠[]:=by intro z;cases z)(Uj:keys.length<=15:=by decide) :
  SE X (.Dict keys kg pos) (BO f):=by
 obtain⟨Bg,h1,h2⟩:=h.h
 refine⟨(IS h1 l7 hl h0 Uj).imp fun σ H Q hh=>?_⟩
 obtain⟨μ,ρ,st,l,hh⟩:=hh
 intro p hp
 have hs:oE H (d_ H p (.dK [])):=ce hp _
 have S0:fX X.K X.mg (μ++[p]) (st++[.dct []]) (d_ H p (.dK [])):=l.sto.push (c:=.dct []) hp ⟨[],dD,.nilI⟩
 have l0:Rl X (μ++[p]) ρ (st++[.dct []]) σ (d_ H p (.dK [])):=l.to (aq _ _) (fq.same hs) S0
 refine h2 σ _ _ ⟨μ++[p],ρ,st++[.dct []],l0,RK.bind (RK.mono hh (aq _ _) (fq.same hs)) l0 fun μ2 cM ps vs H2 p2 e2 l2 q2 h2'=>?_⟩
 have hm:μ2[st.length]?=some p:=L2.pre_get p2 (by rw[l.sto.len];simp)
 split at h2'
 ·rename_i kvs ec ek
  split at h2'
  ·rename_i Kz
   obtain⟨us,f1,f2⟩:=vt ek q2.1 q2.2
   have hd:H2 p=some (.dK []):=by
    obtain⟨a,g,vs0,k,_⟩:=l2.sto.get ec
    rw[hm]at g;cases g
    exact k
   obtain⟨zs,g1,g2⟩:=yJ (acc:=[]) (us:=[]) f2 .nilI
   have dk:(dV kvs us).length=kvs.length:=qU f2
   refine⟨hd,dV kvs us,f1,by rw[dk];exact Kz,?_⟩
   rw[show nJ ([]:List (fZ×V)) (dV kvs us)=_ from g1]
   exact h2' μ2 (.ref p) _ (ag _) (fq.butD f7 hd) (l2.sto.setD ec hm hd g2) (.locI hm)
  ·exact h2'.elim
 ·exact h2'.elim
def BP(fo fk:FE):FE:=fun ρ st=>(fo ρ st).bind fun x st=>match rX st x with
 |some _=>(fk ρ st).bind fun y st=>(match rX st x,j3 y with
  |some (n,kvs),some k=>oN (jG kvs k) fun w=>.ok w (st.set n (.dct (j4 kvs k)))
  |_,_=>.bad)
 |none=>.bad
theorem Nr(ho:SE X o fo)(he:SE X e fe)(m:M1 X o "pop" fI e c8:=by exact⟨by rfl,by rfl,by rfl,by rfl⟩):SE X (.Call (.Attribute o "pop" fI) [e] [] c8) (BP fo fe):=⟨(EH ho.h he.h m).imp fun σ H Q h=>by
 obtain⟨μ,ρ,st,l,h⟩:=h
 refine⟨μ,ρ,st,l,RK.bind h l fun μ1 st1 x v H1 p1 x1 l1 q1 h1=>?_⟩
 cases e0:rX st1 x with
 |none=>rw[e0]at h1;exact h1.elim
 |some nk0=>
  obtain⟨n0,kvs0⟩:=nk0
  rw[e0]at h1
  simp only at h1
  obtain⟨a0,vs0,_,hm0,rfl,ha0,_⟩:=sf l1.sto e0 q1
  refine⟨a0,rfl,.inl ⟨_,.inl ha0⟩,μ1,ρ,st1,l1,RK.bind h1 l1 fun μ2 cM y u H2 p2 x2 l2 q2 h2=>?_⟩
  cases e1:rX cM x with
  |none=>rw[e1]at h2;exact h2.elim
  |some nk=>
   obtain⟨n,kvs⟩:=nk
   cases e2:j3 y with
   |none=>rw[e1,e2]at h2;exact h2.elim
   |some k=>
    rw[e1,e2]at h2
    simp only at h2
    obtain⟨a,vs,hn,hm,ea,ha,r⟩:=sf l2.sto e1 (q1.mono p2 x2)
    cases ea
    have:=qg e2 q2
    subst this
    rcases tK k r with⟨w,z,g1,g2,g3⟩|⟨g1,g2⟩
    ·rw[g1]at h2
     obtain⟨us,f1,f2⟩:=BM (k:=k) r
     refine⟨_,k.key,z,ha,rfl,g2,?_⟩
     rw[f1]
     exact h2 μ2 z _ (ag _) (fq.butD f7 ha) (l2.sto.setD hn hm ha f2) (g3.mono (ag _) (fq.butD f7 ha))
    ·rw[g1]at h2;exact h2.elim⟩
end
def rY(h:Heap)(mg:Str->Option Value):Prop:=∃bm o,mg "__builtins__"=some (.ref bm)/\bm≠builtinsNs/\h.get? bm=some o/\o.cls=.type "module"/\o.dict=some builtinsNs/\o.data=.plain
structure KU(ts:List Addr)(H:Hp):Prop where
 all:∀b,H b=none\/(∃o xs,H b=some (.frz o (.lst xs)))\/(b∈ts/\H b=some (.tbl #[]))
 tab:∀T∈ts,H T=some (.tbl #[])
theorem Dv{P:Program}{w:World}{mb:Str->Option Value}{CX:Ed}{k:Nat}{fa:Addr}{fd:FuncData}{sp:Sp}{s₁:Shared}{vs:List Value}{ts:List Addr}
  (KX:K.In s₁.heap) (HF:s₁.heap.Ns mainGlobals mg) (hb:s₁.heap.Ns builtinsNs mb) (U3:∀x:Str,x ≠ "__name__"->mb x=bootBuiltins x) (Ut:s₁.heap.NoLimit) (hg:s₁.gens=#[])
  (ha:s₁.heap.get? a=some { cls:=.type "list",data:=.seq vs.toArray }) (hi:IntsAre vs ns) (hl:ns.length<=sizeLine) (hr:fY k callerA)
  (ht:∀T∈ts,s₁.heap.get? T=some { cls:=.none,data:=.fields #[] }) (Uf:∀T∈ts,K.lookup T=none) (Tn:∀T∈ts,isCodeTable s₁.heap T)
  (U7:rY s₁.heap mg) (F:∀base:Heap,K.In base->base.Ns mainGlobals mg->rY base mg->fy P w K mg base CX k fa fd [x] sp) (SL:∀(s:Shared) (u:Value),BindsTo s fd ⟨[u],[]⟩ [(x,u)])
  (L5:∀H:Hp,KU ts H->rO K H a (ns.map V.int)->sp [.ref a] H (fun v _=>v=.bl true) fun _ _ _=>False)
  (U9:∀H e s',CX [] H s₁ (fun _ _ _=>False) e s'->False) :
  codeAny (model P w) callerA (.call (.ref fa) ⟨[.ref a],[]⟩) (fun r s'=>r=.ok (.ret (.bool true))/\OldK s₁.heap s'.heap/\s'.os=s₁.os/\AllBare s'.gens) s₁:=by
 have rv:=u9 hi
 have lenV:=hi.length
 have hta:∀T∈ts,T≠a:=fun T hT z=>by
  have:=ht T hT
  rw[z,ha]at this
  have h2:=dq Obj.cls (aU this)
  cases h2
 have core:∀H:Hp,KU ts H->rO K H a (ns.map V.int)->kF P w H s₁.heap->(∀b,H b≠none->b=a\/b∈ts)->(H a≠none->K.lookup a=none) ->
   codeAny (model P w) callerA (.call (.ref fa) ⟨[.ref a],[]⟩) (fun r s'=>r=.ok (.ret (.bool true))/\OldK s₁.heap s'.heap/\s'.os=s₁.os/\AllBare s'.gens) s₁:=by
  intro H hO hS hok hA hK
  have base_of:∀{b:Addr} {o:Obj},s₁.heap.get? b=some o->H b=none->(uD s₁.heap H).get? b=some o:=fun e n=>Em e n
  have noA:∀{b:Addr} {o:Obj} {es:Array DictEntry} {ep:Nat},s₁.heap.get? b=some o->o.data=.dict es ep->H b=none:=fun{b o es ep} e d=>by
   cases q:H b with
   |none=>rfl
   |some u=>
    rcases hA b (by rw[q];simp)with e'|e'
    ·subst e'
     rw[ha]at e;cases e
     have d':Data.seq vs.toArray _=Data.dict es ep:=d
     cases d'
    ·rw[ht b e']at e;cases e
     have d':Data.fields _=Data.dict es ep:=d
     cases d'
  have nsK:∀{b:Addr} {m:Str->Option Value},s₁.heap.Ns b m->(uD s₁.heap H).Ns b m:=fun{b m} ⟨o,es,ep,e,d,r⟩=>⟨o,es,ep,base_of e (noA e d),d,r⟩
  have hKb:K.In (uD s₁.heap H):=fun b o e=>base_of (KX b o e) (by
   cases q:H b with
   |none=>rfl
   |some u=>
    rcases hA b (by rw[q];simp)with e'|e'
    ·subst e'
     rw[hK (by rw[q];simp)]at e;cases e
    ·rw[Uf b e']at e;cases e)
  have hbk':rY (uD s₁.heap H) mg:=by
   obtain⟨bm,o,b1,b2,b3,b4,b5,b6⟩:=U7
   refine⟨bm,o,b1,b2,base_of b3 ?_,b4,b5,b6⟩
   cases q:H bm with
   |none=>rfl
   |some u=>
    rcases hA bm (by rw[q];simp)with e'|e'
    ·subst e'
     rw[ha]at b3;cases b3;exact absurd b4 (by simp)
    ·rw[ht bm e']at b3;cases b3;cases b4
  have hM:Mod K mg (uD s₁.heap H):=⟨hKb,nsK HF,⟨mb,nsK hb,U3⟩,let ⟨mc,h1,h2⟩:=Ut;⟨mc,nsK h1,h2⟩⟩
  have e0:ya P w K mg (uD s₁.heap H) callerA [] s₁ H:=⟨rfl,hM,fun b o e=>Ik e,Nat.le_of_eq (CQ _ _),trivial,fun b hb=>absurd (show b∈([]:List Addr)from hb) (by simp),hok,.of_eq hg⟩
  refine iy ((F _ hKb (nsK HF) hbk').run callerA [] s₁ H ⟨[.ref a],[]⟩ [.ref a] [.ref a] _ _ hr e0 (SL s₁ (.ref a)) (.cons rfl .nil) (L5 H hO hS)) fun r s' h=>?_
  cases r with
  |error e=>exact(U9 H e s' h).elim
  |ok fl=>
   cases fl with
   |next=>exact False.elim h
   |brk=>exact False.elim h
   |cont=>exact False.elim h
   |ret u=>
    obtain⟨v,H',os,bare,un,hok',r',q⟩:=h
    have q':v=.bl true:=q
    subst q'
    obtain rfl:u=Value.bool true:=r'
    have was:∀b o,s₁.heap.get? b=some o->asItWas s₁.heap s'.heap b o/\∃o',s'.heap.get? b=some o':=fun b o e=>by
     cases q:H b with
     |none=>
      have:=un.keep b o e q (by intro z;exact absurd (show b∈([]:List Addr)from z) (by simp)) (by simp)
      exact⟨.inl this,_,this⟩
     |some u=>
      rcases hO.all b with z|⟨ob,xs,z⟩|⟨hbt,z⟩
      ·rw[q]at z;cases z
      ·have z2:=un.frzs b ob _ z
       obtain⟨e1,_⟩:=hok b _ z
       obtain⟨e2,_⟩:=hok' b _ z2
       rw[e]at e1;cases e1
       exact⟨.inl e2,_,e2⟩
      ·obtain⟨kh,z2⟩:=un.tbls b _ z
       have e2:s'.heap.get? b=some { cls:=.none,data:=.fields (#[]++kh) }:=hok' b _ z2
       rw[ht b hbt]at e
       cases e
       exact⟨.inr (.inl ⟨Tn b hbt,rfl,#[],kh,rfl,e2⟩),_,e2⟩
    exact⟨rfl,⟨fun b o e=>(was b o e).1,fun b o e=>(was b o e).2⟩,os,bare⟩
 have tb:∀(f:Hp),(∀T∈ts,f T=some (.tbl #[]))->∀T∈ts,dR P w f s₁.heap T (.tbl #[]):=fun f _ T hT=>ht T hT
 have dec:∀b:Addr,b∈ts\/b∉ts:=fun b=>Classical.em _
 open Classical in
 cases hk:K.lookup a with
 |some o=>
  have e:=KX a o hk
  rw[ha]at e
  cases e
  refine core (fun b=>if b∈ts then some (.tbl #[])else none) ⟨fun b=>?_,fun T hT=>am hT⟩ (.inr ⟨_,vs.toArray,_,hk,rfl,rfl,rfl,by rw[aH,lenV];exact hl,by simpa using rv⟩) (fun b u z=>?_) (fun b z=>?_) (fun z=>?_)
  ·by_cases hb:b∈ts
   ·exact .inr (.inr ⟨hb,am hb⟩)
   ·exact .inl (az hb)
  ·by_cases hb:b∈ts
   ·have z':=(am hb).symm.trans z
    cases z'
    exact ht b hb
   ·have z':=(az hb).symm.trans z
    cases z'
  ·by_cases hb:b∈ts
   ·exact .inr hb
   ·exact absurd (az hb) z
  ·exact absurd (az (fun q=>hta a q rfl)) z
 |none=>
  refine core (fun b=>if b=a then some (.frz { cls:=.type "list",data:=.seq vs.toArray } (.lst (ns.map V.int)))else if b∈ts then some (.tbl #[])else none) ⟨fun b=>?_,fun T hT=>(az (hta T hT)).trans (am hT)⟩ (.inl (.inr ⟨{ cls:=.type "list",data:=.seq vs.toArray },am rfl⟩)) (fun b u z=>?_) (fun b z=>?_) (fun _=>hk)
  ·by_cases hb:b=a
   ·exact .inr (.inl ⟨_,_,am hb⟩)
   ·by_cases hb2:b∈ts
    ·exact .inr (.inr ⟨hb2,(az hb).trans (am hb2)⟩)
    ·exact .inl ((az hb).trans (az hb2))
  ·by_cases hb:b=a
   ·have z':=(am hb).symm.trans z
    cases z'
    subst hb
    exact⟨ha,by rw[ai];exact hl,vs,_,rv,ha⟩
   ·by_cases hb2:b∈ts
    ·have z':=((az hb).trans (am hb2)).symm.trans z
     cases z'
     exact ht b hb2
    ·have z':=((az hb).trans (az hb2)).symm.trans z
     cases z'
  ·by_cases hb:b=a
   ·exact .inl hb
   ·by_cases hb2:b∈ts
    ·exact .inr hb2
    ·exact absurd ((az hb).trans (az hb2)) z
def Fj(tc:List aj)(F:List W->List aj->R W):Prop:=∀ns:List Int,ns.length<=63->∃bE,F [.loc 0] (.ro (ns.map W.int)::tc)=.ok (.bl true) bE
def rZ(L:List (Addr×Pos×Str)):List aj:=L.map fun t=>.tab t.1 t.2.1 t.2.2
theorem walkT{l:PySem.W.OpenLaw}{k:Nat}{q:Program}{CM:List Str}{XP:(Str->Option Value)->Heap->Prop}{d:DefRec}{K:Params->Frag}{x:Str}{G:List W->List aj->R W}(L:List (Addr×Pos×Str))(hL:(L.map fun t=>t.1).Nodup)(hn:l.most=some 63)(Uq:d.params.defaults=[])(hr:fY k callerA)
  (hY:∀(w:World) (h:Heap),YP w h->(K w.params).In h) (hT:∀(w:World) (h:Heap),YP w h->∀T∈L.map (fun t=>t.1),h.get? T=some { cls:=.none,data:=.fields #[] })
  (Uf:∀(w:World),∀T∈L.map (fun t=>t.1),(K w.params).lookup T=none) (Tn:∀(w:World),∀T∈L.map (fun t=>t.1),∃c,codeHdIn (K w.params) c T=true)
  (F:∀(w:World) (mg:Str->Option Value) (fa:Addr) (h:Heap),(K w.params).In h->h.Ns mainGlobals mg->mg d.name=some (.ref fa) ->
   ∃fd:FuncData,(∀(s:Shared) (u:Value),BindsTo s fd ⟨[u],[]⟩ [(x,u)])/\∀base:Heap,(K w.params).In base->base.Ns mainGlobals mg->rY base mg->fy l.prog w (K w.params) mg base (jE l.prog w) k fa fd [x] (lJ (K w.params) mg 1 G))
  (ok:Fj (rZ L) G):PySem.W.WalkO q CM XP YP l.row.toRowW d [] (fun f vs=>PySem.call f vs):=by
 refine Att.attach_call hn Uq fun w s₀ s₁ mg mb fa o pm cd jb a vs ns G' Y ho hd lK hmg hobj hints dk hg=>?_
 have KX:=hY w _ Y
 obtain⟨fd,hb,hF⟩:=F w mg fa _ KX G'.T.g hmg
 refine Dv (ts:=L.map fun t=>t.1) (CX:=jE l.prog w) (sp:=lJ (K w.params) mg 1 G) KX G'.T.g G'.T.b G'.T.builtins G'.T.nolimit hg hobj hints (a_ dk (by decide)) hr (hT w _ Y) (Uf w) (fun T hT'=>?_) G'.T.bmain hF hb (fun H hO hS=>?_) fun H e s' z=>?_
 ·obtain⟨c,hc⟩:=Tn w T hT'
  obtain⟨o,vs,_,_,_,_,_,_,_,e1,e2,e3,e4,_⟩:=PySem.W.codeHd_of_K KX hc
  exact⟨c,o,vs,e1,e2,e3,e4⟩
 ·obtain⟨bE,e⟩:=ok ns dk
  have ux:S9 (K w.params) H a (ns.map V.int):=by
   rcases hS with(z|⟨o,z⟩)|z
   ·rcases hO.all a with y|⟨o,xs,y⟩|⟨_,y⟩
    ·rw[z]at y;cases y
    ·rw[z]at y;cases y
    ·rw[z]at y;cases y
   ·exact .inl ⟨o,z⟩
   ·exact .inr z
  have hta:∀T∈L.map (fun t=>t.1),T≠a:=fun T hT' z=>by
   have:=hT w _ Y T hT'
   rw[z,hobj]at this
   have h2:=dq Obj.cls (aU this)
   cases h2
  have hri:∀μ:List Addr,RelWs (K w.params) μ H (ns.map W.int) (ns.map V.int):=fun μ=>by
   clear hS ux e dk hints
   induction ns with
   |nil=>exact .nilI
   |cons n r ih=>exact .consI .int ih
  refine⟨rfl,a::L.map (fun t=>t.1),[.loc 0],.ro (ns.map W.int)::rZ L,⟨fun i j b ci cj c1 c2 r1 r2 m1 m2=>?_,by simp[rZ],fun i c b c1 c2=>?_⟩,.consI (.locI rfl) .nilI,?_⟩
  ·cases i with
   |zero=>cases c1;cases r1
   |succ i=>
    cases j with
    |zero=>cases c2;cases r2
    |succ j=>
     simp only[md]at m1 m2
     rw[(List.getElem?_inj (aa.mp m1).1 hL).mp (m1.trans m2.symm)]
  ·cases i with
   |zero=>cases c1;cases c2;exact⟨_,ux,hri _⟩
   |succ i=>
    simp only[md]at c1 c2
    unfold rZ at c1
    rw[ak]at c1 c2
    cases e1:L[i]? with
    |none=>rw[e1]at c1;cases c1
    |some t=>
     rw[e1]at c1 c2
     cases c1;cases c2
     exact⟨rfl,#[],hO.tab _ (ar.mpr ⟨t,al e1,rfl⟩),trivial,.inl rfl⟩
  ·rw[e]
   intro μ' v H' _ _ _ rv
   exact rv.blE
 ·obtain⟨_,_,_,_,_,_,z,_⟩:=z
  exact z
structure Fk(en dn:Str)(pr:Arguments)(b:Expr)(sc:Scope):Prop where
 co:sc.isCoroutine=false
 gen:sc.isGenerator=false
 kind:sc.kind=.function
 cell:∀x∈sc.names,x.2≠.cell
 ke:sc.names.lookup en=some .local
 kd:sc.names.lookup dn=some .free
 bind:∀(nm q:Str) (cl:List (Str×Addr)) (pm gX ct v:Value),bindArgs (PySem.W.kla_fn nm q pr b sc cl pm gX ct) ⟨[v],[]⟩=pure [(en,v)]
 nd:(dn==("__classdict__":Str))=false
 d1:(en==("__debug__":Str))=false
 d2:(dn==("__debug__":Str))=false
section
theorem yK{c0:Addr}{en dn nm q:Str}{pr:Arguments}{p3 p4:Pos}{pm ct:Value}{kvs:List (fZ×V)}{k:fZ}{v:V}
  (T:Fk en dn pr (.Subscript (.Name dn p2) (.Name en p3) p4) sc) (I:bv X pins σ H s)
  (hf:s.heap.get? f=some (kla_obj nm q pr (.Subscript (.Name dn p2) (.Name en p3) p4) sc [(dn,c0)] pm cd ct)) (lK:s.heap.CodeRec (.ref cd) q)
  (KA:s.heap.IsCell c0 (some (.ref a))) (ha:H a=some (.dK kvs)) (hv:jU kvs k=some v) (ru:bN (kV k) u) (vZ:A.depth<recursionLimit) (hu:A.units+8<cLine)
  (h:∀z h' t,(∀b o,s.heap.get? b=some o->h'.get? b=some o)->bv X pins σ H { s with heap:=h',toks:=t }->bN v z->Q z { s with heap:=h',toks:=t }) :
  wpAny (model X.prog X.w) A (call (.ref f) [u]) Q E s:=by
 refine mV ?_
 refine PySem.W.kla_callFunE vZ hf rfl T.co T.gen rfl lK ?_
 rw[T.bind]
 refine ax (wpAny_newFunctionEnv T.cell (fun y hy=>?_) (fun h₁ HF hsb=>?_) T.kind)
 ·have:y=(en,u):=by simpa using hy
  rw[this];exact T.ke
 ·have hk1:∀b o,s.heap.get? b=some o->h₁.get? b=some o:=fun b o e=>hsb.extBut b o (bD (aI e)) (ao _ e)
  have I1:bv X pins σ H { s with heap:=h₁,toks:=s.toks+[(en,u)].length }:=I.kept hk1
  refine⟨I1.nolimit,PySem.W.kla_codeExpr ?_⟩
  obtain⟨z0,hd,vs,jc,dd⟩:=oH I1.hok (.inl ha)
  refine we PySem.F.slot_dict_getitem.lookup (fun _ _=>rfl) (mN ?_ T.d2)
  refine wpAny_loadName_free (c:=c0) (v:=.ref a) T.kind ?_ ?_ (KA.keeps hk1) ?_ T.nd
  ·show List.lookup dn sc.names=some .free
   exact T.kd
  ·show List.lookup dn [(dn,c0)]=some c0
   simp[List.lookup]
  refine mN ?_ T.d1
  refine wpAny_loadName_local (v:=u) T.kind ?_ HF ?_ ?_
  ·show List.lookup en sc.names=some .local
   exact T.ke
  ·simp[List.lookup]
  obtain⟨z,hz,rz⟩:=pP.some_of (v:=v) (o:=valueAt vs k) (by rw[<- hv];exact jc.val k)
  refine⟨dd.typeIs,l_ (sO ru) dd.mapOf hz ?_⟩
  exact h z h₁ _ hk1 (I1.tok _) rz
def j5(kf:Nat->List Int):Nat->Nat
 |0=>0
 |j+1=>if HT.lexLt (kf (j+1)) (kf (j5 kf j))=true then j+1 else j5 kf j
theorem wG(kf:Nat->List Int):∀j,j5 kf j<=j
 |0=>au _
 |j+1=>by unfold j5;have:=wG kf j;split<;>omega
theorem BQ{w:World}{k:fZ}(h:(eF P w).is k v=true):bN (kV k) v:=by
 rcases eJ h with⟨i,t,rfl,rfl⟩|⟨x,t,rfl,rfl⟩
 ·exact⟨t,rfl⟩
 ·exact⟨t,rfl⟩
structure nO(X:Cx)(pins:List (Addr×Obj))(σ:St)(H:Hp)(s:Shared)(f c0 cd a it:Addr)(fo:Obj)(q:Str)(vs:List (fZ×Value))(ep j:Nat):Prop where
 inv:bv X pins σ H s
 fn:s.heap.get? f=some fo
 code:s.heap.CodeRec (.ref cd) q
 cell:s.heap.IsCell c0 (some (.ref a))
 dict:s.heap.DictAt (eF X.prog X.w) a vs ep
 iter:s.heap.IsKeyIter it a j vs.length ep
theorem nO.go{c0:Addr}{fo:Obj}{q:Str}{vs:List (fZ×Value)}{ep j':Nat}{b0:Addr}(M:nO X pins σ H s f c0 cd a it fo q vs ep j)(I:bv X pins σ H { s with heap:=h',toks:=t' })
  (k:∀b o,b≠b0->s.heap.get? b=some o->h'.get? b=some o) (n1:f≠b0) (n2:cd≠b0) (n3:c0≠b0) (n4:a≠b0) (hi:h'.IsKeyIter it a j' vs.length ep):nO X pins σ H { s with heap:=h',toks:=t' } f c0 cd a it fo q vs ep j':=by
 obtain⟨c2,oc,ws,tt,e2,hoc,hd,hv⟩:=M.code
 cases e2
 refine⟨I,k f _ n1 M.fn,⟨_,oc,ws,tt,rfl,k _ _ n2 hoc,hd,hv⟩,?_,M.dict.at' fun o e=>k a o n4 e,hi⟩
 obtain⟨o,ho,hd⟩:=M.cell
 exact⟨o,k c0 o n3 ho,hd⟩
theorem Fl{c0 ls:Addr}{en dn nm q:Str}{pr:Arguments}{p3 p4:Pos}{pm ct:Value}{kvs:List (fZ×V)}{vs:List (fZ×Value)}{ep:Nat}{kf:Nat->List Int}{tv:Nat->Addr}{R:Result->Shared->Prop}{g0:Array GenState}{d0:Drawn}{sH:OsState}
  (T:Fk en dn pr (.Subscript (.Name dn p2) (.Name en p3) p4) sc) (hh:A.handled=none) (vZ:A.depth<recursionLimit) (hu:A.units+16<cLine) (ha:H a=some (.dK kvs)) (jc:KV kvs vs) (lL:(kvs.map (·.1)).Nodup)
  (Bi:∀(i:Nat) (k:fZ) (x:V),kvs[i]?=some (k,x)->x=.ref (tv i)/\fq X.K H (tv i) ((kf i).map V.int))
  (xY:pQ X pins H it) (xZ:pQ X pins H ls) (Pa:it≠ls) (nf:f≠it/\f≠ls) (Pl:cd≠it/\cd≠ls) (Po:c0≠it/\c0≠ls)
  (hR:∀v h t k x,kvs[j5 kf (kvs.length-1)]?=some (k,x)->bN (kV k) v->bv X pins σ H ⟨h,g0,d0,t,sH⟩->R (.ok (.ret v)) ⟨h,g0,d0,t,sH⟩) :
  ∀(r j:Nat) (h:Heap) (t:Nat) (vb:Value) (c:Nat),kvs.length-(j+1)=r->j+1<=kvs.length->nO X pins σ H ⟨h,g0,d0,t,sH⟩ f c0 cd a it (kla_obj nm q pr (.Subscript (.Name dn p2) (.Name en p3) p4) sc [(dn,c0)] pm cd ct) q vs ep (j+1) ->
   h.get? ls=some (seqObj "list" #[vb,.ref (tv (j5 kf j))] c)->(∀k x,kvs[j5 kf j]?=some (k,x)->bN (kV k) vb) ->
   codeAny (model X.prog X.w) A (.builtin "min.loop" ⟨[.ref it,.ref f,.ref ls],[]⟩) R ⟨h,g0,d0,t,sH⟩:=by
 have hname:(toString "min"++toString ".loop":String)="min.loop":=by decide
 have hna:a≠it/\a≠ls:=⟨fun z=>(by rw[z,xY.1]at ha;cases ha),fun z=>(by rw[z,xZ.1]at ha;cases ha)⟩
 have dk:kvs.length=vs.length:=jc.length
 intro r
 induction r with
 |zero=>
  intro j h t vb c hr hj M hls hvb
  have hin:j+1=kvs.length:=by omega
  refine ng PySem.F.entry_min_loop ?_
  rw[jd PySem.F.plain_min_loop _]
  show wpAny _ A.in1 (seqItems? (.ref ls) >>= _) _ _ _
  refine ah (fV hls rfl ?_)
  show wpAny _ A.in1 (tryCatch (pyNext (.ref it)) _ >>= _) _ _ _
  refine ah (gQ (wpAny_pyNext_dict_end hh M.iter M.dict (by rw[gw];omega) fun h1 hk1=>?_))
  have I1:bv X pins σ H ⟨h1,g0,d0,t,sH⟩:=M.inv.turned (it:=it) (fun b o hb e=>hk1 b o hb e) xY.1 xY.2.1 xY.2.2.2.1 xY.2.2.2.2.1 xY.2.2.2.2.2
  have hls1:=hk1 ls _ (Ne.symm Pa) hls
  show wpAny _ A.in1 (updateSeq ls (fun _=>#[]) >>= _) _ _ _
  refine ah ?_
  refine jo hls1 rfl (ah (lp (ax ?_)))
  have sb:=cH h1 ls (Obj.mapSeq fun _=>(#[]:Array Value))
  obtain⟨⟨k,x⟩,hx⟩:∃p,kvs[j5 kf j]?=some p:=⟨_,ae (by have:=wG kf j;omega)⟩
  refine hR vb _ _ k x (by rw[show kvs.length-1=j by omega];exact hx) (hvb k x hx) ?_
  exact I1.turned (it:=ls) (fun b o hb e=>sb.extBut b o hb e) xZ.1 xZ.2.1 xZ.2.2.2.1 xZ.2.2.2.2.1 xZ.2.2.2.2.2
 |succ r ih=>
  intro j h t vb c hr hj M hls hvb
  have ny:j+1<kvs.length:=by omega
  obtain⟨⟨k,x⟩,hx⟩:∃p,kvs[j+1]?=some p:=⟨_,ae ny⟩
  obtain⟨⟨k',y⟩,hy⟩:∃p,vs[j+1]?=some p:=⟨_,ae (by omega)⟩
  have ek:k=k':=by
   have:=dq (fun l:List fZ=>l[j+1]?) jc.keys
   simp only[ak,hx,hy]at this
   exact aU this
  subst ek
  obtain⟨rfl,hS⟩:=Bi (j+1) k x hx
  refine ng PySem.F.entry_min_loop ?_
  rw[jd PySem.F.plain_min_loop _]
  show wpAny _ A.in1 (seqItems? (.ref ls) >>= _) _ _ _
  refine ah (fV hls rfl ?_)
  show wpAny _ A.in1 (tryCatch (pyNext (.ref it)) _ >>= _) _ _ _
  refine ah (gQ (mW M.iter M.dict hy fun v h1 hv hit1 u3=>?_))
  have rv:bN (kV k) v:=BQ hv
  have I1:bv X pins σ H ⟨h1,g0,d0,t,sH⟩:=M.inv.turned (it:=it) (fun b o hb e=>u3.extBut b o hb e) xY.1 xY.2.1 xY.2.2.2.1 xY.2.2.2.2.1 xY.2.2.2.2.2
  have M1:nO X pins σ H ⟨h1,g0,d0,t,sH⟩ f c0 cd a it _ q vs ep (j+1+1):=M.go (s:=⟨h,g0,d0,t,sH⟩) (b0:=it) I1 (fun b o hb e=>u3.extBut b o hb e) nf.1 Pl.1 Po.1 hna.1 hit1
  have hls1:=u3.extBut ls _ (Ne.symm Pa) hls
  have hvk:jU kvs k=some (.ref (tv (j+1))):=by
   unfold jU
   have hm:(k,V.ref (tv (j+1)))∈kvs:=al hx
   cases hf:kvs.find? (fun kv=>decide (kv.1=k))with
   |none=>
    have:=hZ.mp hf _ hm
    simp at this
   |some p=>
    have h1:=List.find?_some hf
    have h2:=kM hf
    have e1:p.1=k:=by simpa using h1
    obtain⟨i1,hi1⟩:=a9 h2
    have e2:i1=j+1:=by
     refine(List.getElem?_inj (l:=kvs.map (·.1)) (by rw[ai];exact(aa.mp hi1).1) lL).mp ?_
     rw[ak,ak,hi1,hx]
     show some p.1=some k
     rw[e1]
    subst e2
    rw[hx]at hi1;cases hi1;rfl
  show wpAny _ A.in1 (tryCatch (holding [v] (call (.ref f) [v])) _ >>= _) _ _ _
  refine ah (gQ (cC (yK T M1.inv M1.fn M1.code M1.cell ha hvk rv vZ (by show A.units+1+8<cLine;omega) fun z h2 t2 Ig I2 rz=>?_)))
  obtain rfl:z=Value.ref (tv (j+1)):=rz
  have M2:nO X pins σ H ⟨h2,g0,d0,t2,sH⟩ f c0 cd a it _ q vs ep (j+1+1):=M1.go (s:=⟨h1,g0,d0,t,sH⟩) (b0:=h1.objs.size) I2 (fun b o _ e=>Ig b o e)
   (fun q=>by have:=aI M1.fn;rw[q]at this;exact bA _ this) (fun q=>by obtain⟨_,_,_,_,e2,ho,_⟩:=M1.code;cases e2;have:=aI ho;rw[q]at this;exact bA _ this) (fun q=>by have:=M1.cell.lt;rw[q]at this;exact bA _ this)
   (fun q=>by obtain⟨o,_,ho,_⟩:=M1.dict;have:=aI ho;rw[q]at this;exact bA _ this) (by obtain⟨o,ho,r1,r2⟩:=hit1;exact⟨o,Ig _ _ ho,r1,r2⟩)
  have hls2:=Ig ls _ hls1
  obtain⟨⟨kb,xb⟩,hxb⟩:∃p,kvs[j5 kf j]?=some p:=⟨_,ae (by have:=wG kf j;omega)⟩
  obtain⟨rfl,hSb⟩:=Bi (j5 kf j) kb xb hxb
  obtain⟨bC,r1,p1,_⟩:=I2.tuple hS
  obtain⟨its2,r2,p2,_⟩:=I2.tuple hSb
  have i1:IntsAre bC.toArray.toList (kf (j+1)):=mq r1
  have i2:IntsAre its2.toArray.toList (kf (j5 kf j)):=mq r2
  show wpAny _ A.in1 (tryCatch (holding [v,.ref (tv (j+1))] (richCompare .Lt (.ref (tv (j+1))) (.ref (tv (j5 kf j))) >>= _)) _ >>= _) _ _ _
  refine ah (gQ (cC (ah ?_)))
  refine HT.lt_tupInts p1 p2 i1 i2 (by show A.units+1<cLine;omega) ?_
  refine ah (cC (gC ?_))
  refine ah (lp (ax ?_))
  by_cases hb:HT.lexLt (kf (j+1)) (kf (j5 kf j))=true
  ·have em:j5 kf (j+1)=j+1:=by show(if _ then _ else _)=_;rw[am hb]
   have sb:=cH h2 ls (Obj.mapSeq fun _=>#[v,Value.ref (tv (j+1))])
   obtain⟨c2,hc2⟩:∃c2,(h2.update ls (Obj.mapSeq fun _=>#[v,Value.ref (tv (j+1))])).get? ls=some (seqObj "list" #[v,.ref (tv (j+1))] c2):=⟨_,get?_update_seq hls2 fun _=>#[v,Value.ref (tv (j+1))]⟩
   simp only[hb,dF]
   refine ah ?_
   refine jo hls2 rfl (ah (lp ?_))
   rw[hname]
   have I3:bv X pins σ H ⟨h2.update ls (Obj.mapSeq fun _=>#[v,Value.ref (tv (j+1))]),g0,d0,t2,sH⟩:=I2.turned (it:=ls) (fun b o hb e=>sb.extBut b o hb e) xZ.1 xZ.2.1 xZ.2.2.2.1 xZ.2.2.2.2.1 xZ.2.2.2.2.2
   have M3:nO X pins σ H ⟨h2.update ls (Obj.mapSeq fun _=>#[v,Value.ref (tv (j+1))]),g0,d0,t2,sH⟩ f c0 cd a it _ q vs ep (j+1+1):=
    M2.go (s:=⟨h2,g0,d0,t2,sH⟩) (b0:=ls) I3 (fun b o hb e=>sb.extBut b o hb e) nf.2 Pl.2 Po.2 hna.2 (by obtain⟨o,ho,r1,r2⟩:=M2.iter;exact⟨o,sb.extBut _ _ Pa ho,r1,r2⟩)
   exact ax ⟨lI PySem.F.plain_min_loop _,ih (j+1) _ _ v c2 (by omega) ny M3 (by rw[em];exact hc2) fun k2 x2 e2=>by rw[em,hx]at e2;cases e2;exact rv⟩
  ·have em:j5 kf (j+1)=j5 kf j:=by show(if _ then _ else _)=_;rw[az hb]
   simp only[hb,cB,gp]
   refine ah (lp ?_)
   rw[hname]
   exact ax ⟨lI PySem.F.plain_min_loop _,ih (j+1) _ _ vb c (by omega) ny M2 (by rw[em];exact hls2) fun k2 x2 e2=>by rw[em]at e2;exact hvb k2 x2 e2⟩
theorem Fm{c0:Addr}{en dn nm q:Str}{pr:Arguments}{p3 p4:Pos}{pm ct:Value}{kvs:List (fZ×V)}{kf:Nat->List Int}{tv:Nat->Addr}
  (T:Fk en dn pr (.Subscript (.Name dn p2) (.Name en p3) p4) sc) (hh:A.handled=none) (vZ:A.depth<recursionLimit) (hu:A.units+16<cLine) (I:bv X pins σ H s) (ha:H a=some (.dK kvs))
  (hf:s.heap.get? f=some (kla_obj nm q pr (.Subscript (.Name dn p2) (.Name en p3) p4) sc [(dn,c0)] pm cd ct)) (lK:s.heap.CodeRec (.ref cd) q) (KA:s.heap.IsCell c0 (some (.ref a))) (mJ:0<kvs.length)
  (Bi:∀(i:Nat) (k:fZ) (x:V),kvs[i]?=some (k,x)->x=.ref (tv i)/\fq X.K H (tv i) ((kf i).map V.int))
  (hQ:∀v h t k x,kvs[j5 kf (kvs.length-1)]?=some (k,x)->bN (kV k) v->bv X pins σ H { s with heap:=h,toks:=t }->Q v { s with heap:=h,toks:=t }) :
  wpAny (model X.prog X.w) A (call (.builtin "min") [.ref a] [(Str.ofString "key",.ref f)]) Q E s:=by
 have hname:(toString "min"++toString ".loop":String)="min.loop":=by decide
 obtain⟨hz,hsys,vs,jc,o,es,ep,hdo⟩:=oH I.hok (.inl ha)
 have dd:s.heap.DictAt (eF X.prog X.w) a vs ep:=⟨o,es,hdo⟩
 have lL:(kvs.map (·.1)).Nodup:=by rw[jc.keys];exact hdo.2.2.2.2.2
 have dk:kvs.length=vs.length:=jc.length
 obtain⟨h0,g0,d0,t0,sH⟩:=s
 refine kmk_tree PySem.F.kind_min PySem.F.plain_min PySem.F.entry_min (kmk_min_key _ _) ?_
 show wpAny _ A.in1 (Builtin.Builtins.bindParams "min" ["key","default"] 0 ⟨[],[(Str.ofString "key",.ref f)]⟩ >>= _) _ _ _
 refine ah (wpAny_of_eq (show Builtin.Builtins.bindParams "min" ["key","default"] 0 ⟨[],[(Str.ofString "key",.ref f)]⟩=pure [some (.ref f),none]from rfl) ?_)
 refine ah (ax ?_)
 refine ah (wpAny_pyIter_dict hsys dd ?_)
 refine ah (wpAny_newList ?_ (cG _))
 rw[hname]
 dsimp only
 generalize hG1:h0.push { cls:=.type "dict_keyiterator",data:=.fields #[.ref a,.int 0 0,.int vs.length 0,.int ep 0] }=G1
 have sz1:G1.objs.size=h0.objs.size+1:=by rw[<- hG1,kr]
 have k1:∀b o,h0.get? b=some o->(G1.push { cls:=.type "list",data:=.seq ([]:List Value).toArray }).get? b=some o:=fun b o e=>ao _ (hG1▸ao _ e)
 have git:(G1.push { cls:=.type "list",data:=.seq ([]:List Value).toArray }).get? h0.objs.size=some { cls:=.type "dict_keyiterator",data:=.fields #[.ref a,.int 0 0,.int vs.length 0,.int ep 0] }:=ao _ (hG1▸aT _ rfl)
 have gls:(G1.push { cls:=.type "list",data:=.seq ([]:List Value).toArray }).get? G1.objs.size=some (seqObj "list" #[] 0):=aT _ rfl
 generalize hG2:G1.push { cls:=.type "list",data:=.seq ([]:List Value).toArray }=G2 at k1 git gls
 have I2:bv X pins σ H ⟨G2,g0,d0,t0,sH⟩:=I.kept k1
 have Pa:h0.objs.size≠G1.objs.size:=by omega
 have xY:pQ X pins H h0.objs.size:=I.fpOk (au _) I.fresh
 have xZ:pQ X pins H G1.objs.size:=I.fpOk (by show h0.objs.size<=_;omega) (I.hok.fresh (by show h0.objs.size<=_;omega))
 have old:∀b o,h0.get? b=some o->b≠h0.objs.size/\b≠G1.objs.size:=fun b o e=>⟨bD (aI e),bD (by rw[sz1];exact gF (aI e))⟩
 obtain⟨c2,oc,ws,tt,e2,hoc,hdc,hvc⟩:=id lK
 cases e2
 obtain⟨oc0,hoc0,hdc0⟩:=id KA
 have M0:nO X pins σ H ⟨G2,g0,d0,t0,sH⟩ f c0 cd a h0.objs.size (kla_obj nm q pr (.Subscript (.Name dn p2) (.Name en p3) p4) sc [(dn,c0)] pm cd ct) q vs ep 0:=
  ⟨I2,k1 _ _ hf,⟨_,oc,ws,tt,rfl,k1 _ _ hoc,hdc,hvc⟩,KA.keeps k1,dd.at' fun o e=>k1 a o e,⟨_,git,rfl,rfl⟩⟩
 refine ax ⟨lI PySem.F.plain_min_loop _,?_⟩
 obtain⟨⟨k,x⟩,hx⟩:∃p,kvs[0]?=some p:=⟨_,ae mJ⟩
 obtain⟨⟨k',y⟩,hy⟩:∃p,vs[0]?=some p:=⟨_,ae (by omega)⟩
 have ek:k=k':=by
  have:=dq (fun l:List fZ=>l[0]?) jc.keys
  simp only[ak,hx,hy]at this
  exact aU this
 subst ek
 obtain⟨rfl,hS⟩:=Bi 0 k x hx
 have hvk:jU kvs k=some (.ref (tv 0)):=by
  cases kvs with
  |nil=>cases hx
  |cons p r=>
   have:p=(k,.ref (tv 0)):=aU hx
   subst this
   exact nH rfl
 refine ng PySem.F.entry_min_loop ?_
 rw[jd PySem.F.plain_min_loop _]
 show wpAny _ A.in1 (seqItems? (.ref G1.objs.size) >>= _) _ _ _
 refine ah (fV gls rfl ?_)
 show wpAny _ A.in1 (tryCatch (pyNext (.ref h0.objs.size)) _ >>= _) _ _ _
 refine ah (gQ (mW M0.iter M0.dict hy fun v h1 hv hit1 u3=>?_))
 have rv:bN (kV k) v:=BQ hv
 have I1:bv X pins σ H ⟨h1,g0,d0,t0,sH⟩:=M0.inv.turned (it:=h0.objs.size) (fun b o hb e=>u3.extBut b o hb e) xY.1 xY.2.1 xY.2.2.2.1 xY.2.2.2.2.1 xY.2.2.2.2.2
 have nf:=old f _ hf
 have Pl:=old cd _ hoc
 have Po:=old c0 _ hoc0
 have na:=old a _ hdo.1
 have M1:nO X pins σ H ⟨h1,g0,d0,t0,sH⟩ f c0 cd a h0.objs.size _ q vs ep (0+1):=M0.go (s:=⟨G2,g0,d0,t0,sH⟩) (b0:=h0.objs.size) I1 (fun b o hb e=>u3.extBut b o hb e) nf.1 Pl.1 Po.1 na.1 hit1
 have hls1:=u3.extBut _ _ (Ne.symm Pa) gls
 show wpAny _ A.in1 (tryCatch (holding [v] (call (.ref f) [v])) _ >>= _) _ _ _
 refine ah (gQ (cC (yK T M1.inv M1.fn M1.code M1.cell ha hvk rv vZ (by show A.units+1+8<cLine;omega) fun z h2 t2 Ig I2' rz=>?_)))
 obtain rfl:z=Value.ref (tv 0):=rz
 have M2:nO X pins σ H ⟨h2,g0,d0,t2,sH⟩ f c0 cd a h0.objs.size _ q vs ep (0+1):=M1.go (s:=⟨h1,g0,d0,t0,sH⟩) (b0:=h1.objs.size) I2' (fun b o _ e=>Ig b o e)
  (fun q=>by have:=aI M1.fn;rw[q]at this;exact bA _ this) (fun q=>by obtain⟨_,_,_,_,e2,ho,_⟩:=M1.code;cases e2;have:=aI ho;rw[q]at this;exact bA _ this) (fun q=>by have:=M1.cell.lt;rw[q]at this;exact bA _ this)
  (fun q=>by obtain⟨o,_,ho,_⟩:=M1.dict;have:=aI ho;rw[q]at this;exact bA _ this) (by obtain⟨o,ho,r1,r2⟩:=hit1;exact⟨o,Ig _ _ ho,r1,r2⟩)
 have hls2:=Ig _ _ hls1
 have sb:=cH h2 G1.objs.size (Obj.mapSeq fun _=>#[v,Value.ref (tv 0)])
 obtain⟨c3,hc3⟩:∃c3,(h2.update G1.objs.size (Obj.mapSeq fun _=>#[v,Value.ref (tv 0)])).get? G1.objs.size=some (seqObj "list" #[v,.ref (tv 0)] c3):=⟨_,get?_update_seq hls2 fun _=>#[v,Value.ref (tv 0)]⟩
 show wpAny _ A.in1 (updateSeq G1.objs.size (fun _=>#[v,Value.ref (tv 0)]) >>= _) _ _ _
 refine ah ?_
 refine jo hls2 rfl ?_
 rw[hname]
 have I3:bv X pins σ H ⟨h2.update G1.objs.size (Obj.mapSeq fun _=>#[v,Value.ref (tv 0)]),g0,d0,t2,sH⟩:=I2'.turned (it:=G1.objs.size) (fun b o hb e=>sb.extBut b o hb e) xZ.1 xZ.2.1 xZ.2.2.2.1 xZ.2.2.2.2.1 xZ.2.2.2.2.2
 have M3:nO X pins σ H ⟨h2.update G1.objs.size (Obj.mapSeq fun _=>#[v,Value.ref (tv 0)]),g0,d0,t2,sH⟩ f c0 cd a h0.objs.size _ q vs ep (0+1):=
  M2.go (s:=⟨h2,g0,d0,t2,sH⟩) (b0:=G1.objs.size) I3 (fun b o hb e=>sb.extBut b o hb e) nf.2 Pl.2 Po.2 na.2 (by obtain⟨o,ho,r1,r2⟩:=M2.iter;exact⟨o,sb.extBut _ _ Pa ho,r1,r2⟩)
 exact ax ⟨lI PySem.F.plain_min_loop _,Fl T hh vZ hu ha jc lL Bi xY xZ Pa nf Pl Po (fun v h t k x e1 e2 e3=>hQ v h t k x e1 e2 e3) _ 0 _ _ v c3 rfl (by omega) M3 hc3 fun k2 x2 e2=>by rw[show j5 kf 0=0 from rfl,hx]at e2;cases e2;exact rv⟩
end
abbrev Fp(ns:List (Str×NameKind)):Scope:=⟨.function,ns,false,false,[]⟩
def Q0(K:Frag)(fd:FuncData)(P:Addr):Prop:=∃c,fd.code=.ref c/\codeHdIn K c P=true/\K.lookup P=none
theorem wH{a b:Int}{t u:Tok}{c:Value}(l:List Value)(h:TriplesOk l):TriplesOk (l++[.int a t,.int b u,c]):=by
 fun_induction TriplesOk l with
 |case1=>exact trivial
 |case2 _ _ _ _ _ rest ih=>exact ih h
 |case3=>exact h.elim
section
variable{st:List aj}
abbrev tM(H:Hp)(P cd:Addr)(q:Str)(ps:Array Value)(pos:Pos):Hp:=d_ (d_ H cd (iH cd q)) P (.tbl (ps++#[rawInt pos.line,rawInt pos.col,.ref cd]))
theorem sg{P:Addr}{q:Str}{ps:Array Value}(n1:b≠P)(n2:b≠cd):tM H P cd q ps pos b=H b:=by
 show d_ (d_ H cd _) P _ b=_
 rw[cu n1,cu n2]
theorem Fq{P:Addr}{q:Str}{ps:Array Value}:tM H P cd q ps pos P=some (.tbl (ps++#[rawInt pos.line,rawInt pos.col,.ref cd])):=dD
theorem wI{P:Addr}{q:Str}{ps:Array Value}(h:P≠cd):tM H P cd q ps pos cd=some (iH cd q):=by
 show d_ (d_ H cd _) P _ cd=_
 rw[cu (Ne.symm h),dD]
theorem fq.butT{l:Addr}{xs:Array Value}(e:Qi l H H')(hl:H l=some (.tbl xs)):dB K H H':=by
 have mJ:∀{p:Addr} {o:HO},H p=some o->(∀zs,o≠.tbl zs)->p≠l:=fun{p o} q hn z=>by subst z;rw[hl]at q;cases q;exact hn _ rfl
 refine⟨fun p ys h=>?_,fun b o u h=>e _ _ (mJ h (fun _ z=>by cases z)) h⟩
 rcases h with(h|⟨o,h⟩)|h
 ·exact .inl (.inl (e _ _ (mJ h (fun _ z=>by cases z)) h))
 ·exact .inl (.inr ⟨o,e _ _ (mJ h (fun _ z=>by cases z)) h⟩)
 ·exact .inr h
theorem Fs{l:List α}{x:α}(h:l[i]?=some x):l.set i x=l:=by
 refine lq fun j=>?_
 by_cases e:i=j
 ·subst e;rw[bh (aa.mp h).1,h]
 ·rw[bp e]
theorem fX.tabbed{P:Addr}{q:Str}{ps:Array Value}(S:fX K mg μ st H)(hi:st[i]?=some (.tab P pos q))(hP:H P=some (.tbl ps))(lK:H cd=none)(ht:TriplesOk ps.toList)(hn:codeAmong pos ps.toList=none) :
  fX K mg μ st (tM H P cd q ps pos)/\dB K H (tM H P cd q ps pos):=by
 have hs:oE H (d_ H cd (iH cd q)):=ce lK _
 have mJ:P≠cd:=fun z=>by rw[z,lK]at hP;cases hP
 have hP1:d_ H cd (iH cd q) P=some (.tbl ps):=hs _ _ hP
 have hx:dB K (d_ H cd (iH cd q)) (tM H P cd q ps pos):=fq.butT f7 hP1
 obtain⟨a,hm,ea,_⟩:=S.get hi
 subst ea
 have:=(S.same hs).setG (c':=.tab a pos q) hi rfl hm hP1 (fun _ _ z=>by cases z) (fun _ z=>by cases z) hx rfl ⟨rfl,_,dD,?_,.inr ⟨cd,?_,?_⟩⟩
 ·rw[Fs hi]at this
  exact⟨this,(fq.same hs).trans hx⟩
 ·rw[Array.toList_append];exact wH _ ht
 ·rw[Array.toList_append];exact codeAmong_snoc _ ht hn
 ·exact wI mJ
end
section
theorem bv.tabbed{t':Nat}{P:Addr}{q:Str}{ps:Array Value}(I:bv X pins σ H s)(hP:H P=some (.tbl ps))(Ih:s.heap.objs.size<=cd)(hx:∀b o,b≠P->s.heap.get? b=some o->h'.get? b=some o)
  (A7:h'.CodeRec (.ref cd) q) (Pn:h'.get? P=some { cls:=.none,data:=.fields (ps++#[rawInt pos.line,rawInt pos.col,.ref cd]) }):bv X pins σ (tM H P cd q ps pos) { s with heap:=h',toks:=t' }:=by
 have lK:H cd=none:=I.hok.fresh Ih
 have mJ:P≠cd:=fun z=>by rw[z,lK]at hP;cases hP
 have notP:∀b,H b=none->b≠P:=fun b n z=>by rw[z,hP]at n;cases n
 have old:∀b o,s.heap.get? b=some o->b≠cd:=fun b o e=>bD (a6 (aI e) Ih)
 have keepH:∀b u,H b=some u->b≠P->tM H P cd q ps pos b=some u:=fun b u e n=>by
  rw[sg n (fun z=>by rw[z,lK]at e;cases e)];exact e
 have Hcd:tM H P cd q ps pos cd=some (iH cd q):=wI mJ
 refine I.call' (ch:=[]) rfl ⟨fun b o e n hb qx=>hx b o (notP b n) e,fun b o e n hb qx=>⟨o.slots,hx b o (notP b n) e⟩,fun b o e n qx=>?_,fun b o e qx=>?_,fun b xs e=>?_,fun b o u e=>?_,fun b ps' e=>?_⟩ (fun b u e=>?_) I.bare fun b hb=>absurd hb (by simp)
 ·rw[sg (notP b n) (old b o e)];exact n
 ·by_cases hb:b=P
  ·subst hb;exact⟨_,Pn⟩
  ·exact⟨o,hx b o hb e⟩
 ·exact keepH b _ e fun z=>by rw[z,hP]at e;cases e
 ·exact keepH b _ e fun z=>by rw[z,hP]at e;cases e
 ·by_cases hb:b=P
  ·subst hb
   rw[hP]at e;cases e
   exact⟨_,Fq⟩
  ·exact⟨#[],by rw[keepH b _ e hb];simp⟩
 ·by_cases hb:b=P
  ·subst hb
   rw[Fq]at e;cases e
   exact Pn
  ·by_cases hb2:b=cd
   ·subst hb2
    rw[Hcd]at e;cases e
    obtain⟨c2,oc,vs,t,e2,hoc,hd,hv⟩:=A7
    cases e2
    refine⟨⟨oc,vs,t,hoc,hd,hv⟩,⟨oc,hoc⟩,fun h1 h2 p k=>?_⟩
    obtain⟨o,vs,t,ho,r⟩:=p
    exact⟨o,vs,t,k o ho,r⟩
   ·rw[sg hb hb2]at e
    refine(I.hok b u e).stay (fun c v hc q'=>hx c v (fun z=>?_) q') (fun c q'=>keepH c _ q' fun z=>by rw[z,hP]at q';cases q') fun c xs q'=>keepH c _ q' fun z=>by rw[z,hP]at q';cases q'
    rcases hc with rfl|hc
    ·exact hb z
    ·rw[z,hP]at hc;cases hc
theorem Ft{P c:Addr}{pr:Arguments}{b:Expr}{u0:Pos}{q:Str}{ps:Array Value}(O9:defaultsOf pr X.env=([],[]))(hq:X.env.qual++"<lambda>"=q)(lZ:X.env.code=.ref c)(Kv:codeHdIn X.K c P=true)(UJ:X.K.lookup P=none)(hB:rY X.base X.mg)
  (kK:closureFor sc X.env=pure cl) (I:bv X pins σ H s) (hP:H P=some (.tbl ps)) (ht:TriplesOk ps.toList) (OQ:codeAmong u0 ps.toList=none\/∃cd,codeAmong u0 ps.toList=some (.ref cd)/\H cd=some (iH cd q))
  (h:∀f cd ct pm h' t H',((codeAmong u0 ps.toList=none/\H cd=none/\H'=tM H P cd q ps u0)\/H'=H)->bv X pins σ H' { s with heap:=h',toks:=t }->h'.get? f=some (kla_obj "<lambda>" q pr b sc cl pm cd ct)->h'.CodeRec (.ref cd) q ->
   (∀b o,b≠P->s.heap.get? b=some o->h'.get? b=some o)->Q (.ref f) { s with heap:=h',toks:=t }) :
  wpAny (model X.prog X.w) X.A (eval (.Lambda pr b sc u0) X.env) Q E s:=by
 subst hq
 have hPo:s.heap.get? P=some { cls:=.none,data:=.fields ps }:=I.hok P _ hP
 have hgs:s.heap.Ns mainGlobals X.mg:=I.mod.glob.keeps I.bk
 have hgP:mainGlobals≠P:=fun z=>by
  obtain⟨o,es,ep,e,hd,_⟩:=hgs
  rw[z,hPo]at e;cases e;cases hd
 obtain⟨bm,ob,b1,b2,b4,b5,b6,b7⟩:=hB
 have b4':=I.bk _ _ b4
 have hbP:bm≠P:=fun z=>by rw[z,hPo]at b4';cases b4';cases b5
 have b3:bm≠mainGlobals:=fun z=>by
  obtain⟨o,es,ep,e,hd,_⟩:=hgs
  rw[z,e]at b4';cases b4';rw[b7]at hd;cases hd
 have hb:s.heap.BuiltinsAt X.mg P:=⟨bm,ob,b1,b2,b3,hbP,b4',b5,b6,b7⟩
 have CH:=PySem.W.codeHd_of_K I.kIn Kv
 refine PySem.W.kla_eval O9 ?_
 rcases OQ with hn|⟨cd,hhit,hH⟩
 ·refine PySem.W.kla_makeFunction (mg:=X.mg) kK I.ok.glob hgs lZ CH hPo ht hn hgP hb fun cd ct h' tk hx Ih ny A7 Pn=>?_
  have qx:∀b o,b≠P->s.heap.get? b=some o->h'.get? b=some o:=fun b o hb e=>hx b o hb e
  have hrec2:(h'.push (kla_obj "<lambda>" (X.env.qual++"<lambda>") pr b sc cl ((X.mg "__name__").getD .none) cd ct)).CodeRec (.ref cd) (X.env.qual++"<lambda>"):=by
   obtain⟨c2,oc,vs,t,e2,hoc,hd,hv⟩:=A7
   exact⟨c2,oc,vs,t,e2,ao _ hoc,hd,hv⟩
  exact h _ cd ct _ _ tk _ (.inl ⟨hn,I.hok.fresh Ih,rfl⟩) (I.tabbed hP Ih (fun b o hb e=>ao _ (qx b o hb e)) hrec2 (ao _ Pn)) (aT _ rfl) hrec2 fun b o hb e=>ao _ (qx b o hb e)
 ·refine PySem.W.kla_makeFunctionHit (mg:=X.mg) kK I.ok.glob hgs lZ CH hPo ht hhit hb fun ct h' tk hk hsz=>?_
  obtain⟨⟨oc,vs,t,hoc,hd,hv⟩,_⟩:=I.hok cd _ hH
  exact h _ cd ct _ _ tk _ (.inr rfl) (I.kept fun b o e=>ao _ (hk b o e)) (aT _ rfl) ⟨cd,oc,vs,t,rfl,ao _ (hk _ _ hoc),hd,hv⟩ fun b o _ e=>ao _ (hk b o e)
end
def Au:W->Option (List Int)
 |.tup ws=>eX ws
 |_=>none
def jH:List (DK×W)->Option (List (List Int))
 |[]=>some []
 |p::r=>match Au p.2,jH r with
  |some a,some b=>some (a::b)
  |_,_=>none
def rE(st:List aj)(j:Nat)(P:Addr)(pos:Pos)(q:Str):Prop:=st[j]?=some (.tab P pos q)
open Classical in
def tN(i j:Nat)(P:Addr)(pos:Pos)(q:Str):FE:=fun ρ st=>match ρ[i]? with
 |some (some x)=>(match rX st x with
  |some (_,kvs)=>(match jH kvs with
   |some ks=>if rE st j P pos q then oN (kvs[j5 (fun a=>ks.getD a []) (kvs.length-1)]?) fun p=>.ok p.1.w st else .bad
   |none=>.bad)
  |none=>.bad)
 |_=>.bad
theorem tO:∀{kvs:List (DK×W)} {ks:List (List Int)} {vs:List V},jH kvs=some ks->RelWs K μ H (kvs.map fun p=>p.2) vs->∃ts:List Addr,vs=ts.map V.ref/\∀(i:Nat) (t:Addr),ts[i]?=some t->fq K H t ((ks.getD i []).map V.int)
 |[],ks,vs,h,r=>by
  have:=r.nilE
  subst this
  exact⟨[],rfl,fun i t e=>by simp at e⟩
 |p::r,ks,vs,h,rr=>by
  unfold jH at h
  cases e1:Au p.2 with
  |none=>rw[e1]at h;cases h
  |some a=>
   cases e2:jH r with
   |none=>rw[e1,e2]at h;cases h
   |some b=>
    rw[e1,e2]at h;cases h
    obtain⟨x,xs,rfl,q1,q2⟩:=RelWs.consE rr
    obtain⟨ts,rfl,ht⟩:=tO e2 q2
    obtain⟨k,w⟩:=p
    cases w with
    |tup ws=>
     obtain⟨t,us,rfl,hS,r1⟩:=be.tupE q1
     have:=lR (show eX ws=some a from e1) r1
     subst this
     refine⟨t::ts,rfl,fun i t' e=>?_⟩
     cases i with
     |zero=>cases e;exact hS
     |succ i=>exact ht i t' (by simpa using e)
    |_=>cases e1
theorem Fu{kvs:List (DK×W)}{ts:List Addr}(r:RelWs K μ H (kvs.map fun p=>p.2) (ts.map V.ref)){k:fZ}{x:V}(h:(dV kvs (ts.map V.ref))[i]?=some (k,x)) :
  ∃p t,kvs[i]?=some p/\k=p.1.key/\ts[i]?=some t/\x=.ref t:=by
 unfold dV at h
 rw[kN]at h
 obtain⟨h1,h2⟩:=h
 rw[ak]at h1 h2
 obtain⟨p,e1,e2⟩:=aX.mp h1
 obtain⟨t,e3,e4⟩:=aX.mp h2
 exact⟨p,t,e1,e2.symm,e3,e4.symm⟩
section
variable{en dn q:Str}{pr:Arguments}{p1 p3 p4 u0 Ss:Pos}{c P:Addr}
theorem Ju(hr:fY kk X.A)(T:Fk en dn pr (.Subscript (.Name dn p2) (.Name en p3) p4) sc)(lZ:X.env.code=.ref c)(Kv:codeHdIn X.K c P=true)(UJ:X.K.lookup P=none)(hB:rY X.base X.mg)(hm:X.mg "min"=none)
  (fL:X.env.cells=cellsFrom m X.env.scope.names []) (hN:X.N[i]?=some dn:=by rfl) (hk:X.env.scope.names.lookup dn=some .cell:=by rfl) (Uh:∀env:Env,cI env sc.names []=[(dn,(env.cells.lookup dn).getD 0)]:=by intro _;rfl) (rq:∀x∈sc.names,x.2=.free->x.1=dn:=by decide)
  (hq:X.env.qual++"<lambda>"=q:=by rfl) (O9:defaultsOf pr X.env=([],[]):=by rfl) (gA:X.calm=true:=by rfl) (hg:Gl X "min":=by rfl) (OS:(dn==("__debug__":Str))=false:=by decide) (CN:(dn==("__classdict__":Str))=false:=by decide)
  (he:starEach [.Name dn p1] X.env=(false,eval (.Name dn p1) X.env)::starEach [] X.env:=by rfl) :
  SE X (.Call (.Name "min" p) [.Name dn p1] [⟨some "key",.Lambda pr (.Subscript (.Name dn p2) (.Name en p3) p4) sc u0,Ss⟩] pos) (tN i j P u0 q):=⟨fun pins s σ H Q I h=>by
 obtain⟨μ,ρ,st,l,h⟩:=h
 unfold tN at h
 cases e1:ρ[i]? with
 |none=>rw[e1]at h;exact h.elim
 |some ox=>
  cases ox with
  |none=>rw[e1]at h;exact h.elim
  |some x=>
   rw[e1]at h
   simp only at h
   cases e2:rX st x with
   |none=>rw[e2]at h;exact h.elim
   |some nk=>
    obtain⟨n,kvs⟩:=nk
    rw[e2]at h
    simp only at h
    cases e3:jH kvs with
    |none=>rw[e3]at h;exact h.elim
    |some ks=>
     rw[e3]at h
     simp only at h
     by_cases e4:rE st j P u0 q
     ·rw[am e4]at h
      cases e5:kvs[j5 (fun a=>ks.getD a []) (kvs.length-1)]? with
      |none=>rw[e5]at h;exact h.elim
      |some pk=>
       rw[e5]at h
       simp only[cp]at h
       obtain⟨v,hσ,rx⟩:=lN l.env e1
       obtain⟨a,vs,hn,hmu,rfl,ha,rr⟩:=sf l.sto e2 rx
       obtain⟨ts,rfl,hts⟩:=tO e3 rr
       have hc:∃c0,X.env.cells.lookup dn=some c0:=by rw[fL];exact jT hk
       obtain⟨c0,KA⟩:=hc
       obtain⟨aP,hP0,eP,ps,hP,ht,OQ⟩:=l.sto.get e4
       subst eP
       refine e_ (nG I hg hm (by rfl) ?_ (by decide) (by decide))
       refine callWith_builtin_kwB (by rfl) (by rfl) (evalArgs_kw2 (by rfl) ?_ he)
       refine f6 ((pR (pv i hN (.inr (.inl hk)) OS CN) v8) pos pins s σ H (fun vs H1=>vs=[.ref a]/\H1=H) I ⟨_,hσ,rfl,rfl⟩) fun us s1 u3=>?_
       obtain⟨vs1,H1,I1,r1,rfl,rfl⟩:=u3
       obtain⟨u1,rfl,ru1⟩:=kQ r1
       obtain rfl:u1=Value.ref a:=ru1
       obtain⟨mm,HF,hlk⟩:=id I1.loc
       obtain⟨u,ru,lk⟩:=hlk i dn (.ref a) hN hσ (.inr (.inl hk))
       obtain rfl:u=Value.ref a:=ru
       have gk:s1.heap.IsCell c0 (some (.ref a)):=by
        rcases lk with⟨kl,_⟩|⟨_,c1,hc1,hcc⟩
        ·have:X.env.scope.names.lookup dn=some .local:=kl
         rw[hk]at this;cases this
        ·rw[KA]at hc1;cases hc1;exact hcc
       have kK:closureFor sc X.env=pure [(dn,c0)]:=by
        rw[yo (fun x hx hf=>by rw[rq x hx hf];exact⟨c0,KA⟩),Uh,KA];rfl
       show wpAny _ _ (evalAll ((do let v <- eval (.Lambda pr (.Subscript (.Name dn p2) (.Name en p3) p4) sc u0) X.env;standAt pos;pure v)::[])) _ _ s1
       refine wpAny_evalAll_cons (ah (Ft O9 hq lZ Kv UJ hB kK I1 hP ht OQ fun f cd ct pm h' t H' hH I2 hf A7 hx=>ah (lE (ax (wpAny_evalAll_nil ?_)))))
       have hS':fX X.K X.mg μ st H'/\dB X.K H1 H':=by
        rcases hH with⟨g1,g2,rfl⟩|rfl
        ·exact l.sto.tabbed e4 hP g2 ht g1
        ·exact⟨l.sto,dB.refl⟩
       obtain⟨S',X'⟩:=hS'
       have ha':H' a=some (.dK (dV kvs (ts.map V.ref))):=by
        rcases hH with⟨g1,g2,rfl⟩|rfl
        ·rw[sg (fun z=>by rw[z,hP]at ha;cases ha) (fun z=>by rw[z,g2]at ha;cases ha)];exact ha
        ·exact ha
       have hcell':h'.IsCell c0 (some (.ref a)):=by
        obtain⟨o,ho,hd⟩:=gk
        exact⟨o,hx c0 o (fun z=>by have:=I1.freeC _ _ KA;rw[z,hP]at this;cases this) ho,hd⟩
       have dk:(dV kvs (ts.map V.ref)).length=kvs.length:=qU rr
       have D_:0<kvs.length:=by
        cases kvs with
        |nil=>simp at e5
        |cons _ _=>simp
       have Bi:∀(i:Nat) (k:fZ) (x:V),(dV kvs (ts.map V.ref))[i]?=some (k,x)->x=.ref (ts.getD i 0)/\fq X.K H' (ts.getD i 0) ((ks.getD i []).map V.int):=fun i k x e=>by
        obtain⟨p',t',f1,f2,f3,f4⟩:=Fu rr e
        have:ts.getD i 0=t':=by rw[aE,f3];rfl
        rw[this]
        exact⟨f4,X' _ _ (hts i t' f3)⟩
       refine Fm (pins:=pins) (H:=H') (kvs:=dV kvs (ts.map V.ref)) (kf:=fun a=>ks.getD a []) (tv:=fun a=>ts.getD a 0) T (I.ok.hd gA) (by have:=hr.dp;omega) (by have:=hr.un;omega) I2 ha' hf A7 hcell' (by rw[dk];exact D_) Bi fun v h2 t2 k x ek rk I3=>?_
       rw[dk]at ek
       obtain⟨p',t',f1,f2,_,_⟩:=Fu rr ek
       rw[e5]at f1;cases f1
       subst f2
       exact⟨_,H',I3,rk,h μ _ H' (ag _) X' S' (DK.w_rel _)⟩
     ·rw[az e4]at h;exact h.elim⟩
end
def wJ(x y:W)(st:List aj):R W:=match x,y with
 |.int i,.int j=>.ok (.bl (decide (i<j))) st
 |.tup a,.tup b=>(match eX a,eX b with
  |some ns,some ms=>.ok (.bl (HT.lexLt ns ms)) st
  |_,_=>.bad)
 |_,_=>.bad
theorem KW{k:Nat}(hr:fY k X.A):rT X (compareOp .Lt) wJ:=⟨fun pins s σ H x y v u Q I rv ru ⟨μ,st,wx,wy,S,rx,ry,q⟩=>by
 cases wx with
 |int i=>
  cases wy with
  |int j=>exact w_lt.h pins s σ H x y v u Q I rv ru ⟨μ,st,.int i,.int j,S,rx,ry,q⟩
  |_=>exact q.elim
 |tup a=>
  cases wy with
  |tup b=>
   simp only[wJ]at q
   cases e1:eX a with
   |none=>rw[e1]at q;exact q.elim
   |some ns=>
    cases e2:eX b with
    |none=>rw[e1,e2]at q;exact q.elim
    |some ms=>
     rw[e1,e2]at q
     obtain⟨p,vs,rfl,hS,r⟩:=rx.tupE
     obtain⟨p2,vs2,rfl,hS2,r2⟩:=ry.tupE
     have:=lR e1 r;subst this
     have:=lR e2 r2;subst this
     exact ML (by have:=hr.un;omega) pins s σ H _ _ v u Q I rv ru ⟨p,p2,ns,ms,rfl,rfl,hS,hS2,jg S q⟩
  |_=>exact q.elim
 |_=>cases wy<;>exact q.elim,fun x y st=>by
 unfold wJ
 split
 ·trivial
 ·split<;>trivial
 ·trivial⟩
section
variable{o f:Expr}{fo fk fd fe:FE}
end
section
variable{y:Str}{a b:Expr}{fs:FA}
end
inductive DefIn(K:Frag)(x:Str)(st:Stmt):Prop
 |mk {ad:Addr} {od an:Option Addr} {sl:Array (Option Value)} {oc kV dc pm cd ct:Value} (a:nsIn K mainGlobals x=some (some (.ref ad)))
   (l:K.lookup ad=some ⟨oc,od,.func (fnOf x x (dS st) (dU st) (aZ st) .none kV dc pm an cd ct),sl⟩) (c:codeIn K cd x=true) (k:keepIn K (.ref ad)=true):DefIn K x st
theorem DefIn.fn{st:Stmt}(d:DefIn K x st)(X:K.In h)(G:h.Ns mainGlobals mg):∃f fd,mn K x x st f fd/\mg x=some (.ref f):=by
 obtain⟨a,l,c,k⟩:=d
 exact⟨_,_,wc (st:=st) l c k,mg_of X G a⟩
theorem UA:∀{l:List Value},l.length=1->∃a,l=[a]
 |[a],_=>⟨a,rfl⟩
theorem Te:∀{l:List Value},l.length=2->∃a b,l=[a,b]
 |[a,b],_=>⟨a,b,rfl⟩
theorem Tf:∀{l:List Value},l.length=3->∃a b c,l=[a,b,c]
 |[a,b,c],_=>⟨a,b,c,rfl⟩
theorem UB:∀{l:List Value},l.length=4->∃a b c d,l=[a,b,c,d]
 |[a,b,c,d],_=>⟨a,b,c,d,rfl⟩
theorem UC:∀{l:List Value},l.length=5->∃a b c d e,l=[a,b,c,d,e]
 |[a,b,c,d,e],_=>⟨a,b,c,d,e,rfl⟩
theorem UD:∀{l:List Value},l.length=6->∃a b c d e f,l=[a,b,c,d,e,f]
 |[a,b,c,d,e,f],_=>⟨a,b,c,d,e,f,rfl⟩
section
variable{P:Program}{w:World}{K:Frag}{mg:Str->Option Value}{base:Heap}{k n:Nat}{x:Str}{st:Stmt}{f:Addr}{fd:FuncData}{ps:List Str}{G:List W->List aj->R W}
theorem Fv(F:mn K x x st f fd)(hm:mg x=some (.ref f))(ok:fy P w K mg base (jE P w) k f fd ps (lJ K mg n G))(hn:ps.length=n:=by rfl)
  (hb:∀(kV jb pm:Value) (an:Option Addr) (gX ct:Value) (us:List Value),us.length=ps.length->bindArgs (fnOf x x (dS st) (dU st) (aZ st) .none kV jb pm an gX ct) ⟨us,[]⟩=pure (ps.zip us):=by(intro _ _ _ _ _ _ _ q;first|(obtain⟨_,rfl⟩:=UA q;rfl)|(obtain⟨_,_,rfl⟩:=Te q;rfl)|(obtain⟨_,_,_,rfl⟩:=Tf q;rfl)|(obtain⟨_,_,_,_,rfl⟩:=UB q;rfl)|(obtain⟨_,_,_,_,_,rfl⟩:=UC q;rfl)|(obtain⟨_,_,_,_,_,_,rfl⟩:=UD q;rfl))):eO P w K mg base k x n G:=BK F hm hn hb ok
theorem Nt{h:Heap}(d:DefIn K x st)(X:K.In h)(Gs:h.Ns mainGlobals mg)(ok:∀{f:Addr} {fd:FuncData},mn K x x st f fd->fy P w K mg base (jE P w) k f fd ps (lJ K mg n G))(hn:ps.length=n:=by rfl)
  (hb:∀(kV jb pm:Value) (an:Option Addr) (gX ct:Value) (us:List Value),us.length=ps.length->bindArgs (fnOf x x (dS st) (dU st) (aZ st) .none kV jb pm an gX ct) ⟨us,[]⟩=pure (ps.zip us):=by(intro _ _ _ _ _ _ _ q;first|(obtain⟨_,rfl⟩:=UA q;rfl)|(obtain⟨_,_,rfl⟩:=Te q;rfl)|(obtain⟨_,_,_,rfl⟩:=Tf q;rfl)|(obtain⟨_,_,_,_,rfl⟩:=UB q;rfl)|(obtain⟨_,_,_,_,_,rfl⟩:=UC q;rfl)|(obtain⟨_,_,_,_,_,_,rfl⟩:=UD q;rfl))):eO P w K mg base k x n G:=let ⟨_,_,F,m⟩:=d.fn X Gs;BK F m hn hb (ok F)
end
def Ph:List Str->Bool
 |[]=>true
 |x::r=>!(r.any fun y=>y==x)&&Ph r
theorem wK:∀{l:List Str},Ph l=true->l.Nodup
 |[],_=>.nil
 |x::r,h=>by
  simp only[Ph,a8,gG,fJ,cz]at h
  exact bF.mpr ⟨fun m=>h.1 x m rfl,wK h.2⟩
section
variable{fe:FE}{sp:Scope}
theorem pj{N:List Str}(a:sp.kind=.function:=by rfl)(b:sp.isCoroutine=false:=by rfl)(c:sp.isGenerator=false:=by rfl)(d:N.Nodup:=by decide +kernel)(f:N.take ps.length=ps:=by rfl)(g:∀x∈ps,sp.names.lookup x=some .local\/sp.names.lookup x=some .cell:=by decide +kernel)(h:∀y∈sp.names,y.2≠.free:=by decide +kernel):bS N ps sp:=⟨a,b,c,d,f,g,h⟩
theorem sS(i:Nat){iU:Pos}(sc:bS X.N ps sp)(he:SE X e fe)(hi:X.N[i]?=some x:=by rfl)(hx:Ec X.env.scope x:=by first|exact .inl rfl|exact .inr rfl)(hs:swapsWith e (some (.Name x iU)) pos.line X.env=pure false:=by rfl)(hf:X.fn x=true\/X.env.scope.names.lookup x=some .local:=by first|exact .inl rfl|exact .inr rfl|assumption) :
  SS X (.Assign [.Name x iU] e pos) (bM i fe):=Ni sc.nd hi hx he hs hf
theorem sG(i:Nat)(sc:bS X.N ps sp)(hi:X.N[i]?=some x:=by rfl)(hx:Ec X.env.scope x:=by first|exact .inl rfl|exact .inr rfl)(hf:X.fn x=true\/X.env.scope.names.lookup x=some .local:=by first|exact .inl rfl|exact .inr rfl|assumption):SG X (.Name x pos) (eE i):=wp sc.nd hi hx hf
theorem sC{cl:List (Str×Addr)}{C s0 H0 fp}(i:Nat)(hN:nm.Nodup:=by decide +kernel)(hi:nm[i]?=some x:=by rfl)(hx:Ec (bG X nm scope cl C s0 H0 fp).env.scope x:=by first|exact .inl rfl|exact .inr rfl)(hf:(bG X nm scope cl C s0 H0 fp).fn x=true\/(bG X nm scope cl C s0 H0 fp).env.scope.names.lookup x=some .local:=by first|exact .inl rfl|exact .inr rfl|assumption) :
  SG (bG X nm scope cl C s0 H0 fp) (.Name x pos) (eE i):=wp (X:=bG X nm scope cl C s0 H0 fp) hN hi hx hf
theorem UV{cl:List (Str×Addr)}{C s0 H0 fp}(i:Nat)(hN:Ph nm=true:=by first|rfl|kernel_rfl)(hi:nm[i]?=some x:=by rfl)(hx:Ec (bG X nm scope cl C s0 H0 fp).env.scope x:=by first|exact .inl rfl|exact .inr rfl)(hf:(bG X nm scope cl C s0 H0 fp).fn x=true\/(bG X nm scope cl C s0 H0 fp).env.scope.names.lookup x=some .local:=by first|exact .inl rfl|exact .inr rfl|assumption) :
  SG (bG X nm scope cl C s0 H0 fp) (.Name x pos) (eE i):=wp (X:=bG X nm scope cl C s0 H0 fp) (wK hN) hi hx hf
end
def Jv:Expr->List Str
 |.Name x _=>[x]
 |.Tuple es _ _=>es.filterMap fun e=>match e with
  |.Name x _=>some x
  |_=>none
 |_=>[]
def Nu(N:List Str):List Str->List (Option Nat)->List Str
 |_,[]=>[]
 |ts,some j::r=>N.getD j "" :: Nu N ts r
 |ts,none::r=>ts.headD "" :: Nu N ts.tail r
abbrev KY(X:Cx)(tg:Expr)(cap:List (Option Nat)):List Str:=Nu X.N (Jv tg) cap
section
variable{fi:FI}{f:FG}{t:FT}{el:FE}
theorem BR(fL:X.env.cells=cellsFrom m X.env.scope.names [])(hi:SI X tg iter fi)(hg:∀cl C s0 H0 fp,SG (bG X (KY X tg cap) scope cl C s0 H0 fp) tg f)(ht:∀cl C s0 H0 fp,KR (bG X (KY X tg cap) scope cl C s0 H0 fp) kJ t)
  (he:∀cl C s0 H0 fp,SE (bG X (KY X tg cap) scope cl C s0 H0 fp) mM el) (hB:sV X.env.scope.names scope.names (KY X tg cap) cap X.N=true:=by first|rfl|kernel_rfl) (gA:X.calm=true:=by rfl) (gj:scope.kind=.function:=by rfl) (hs:∀x,foldedSetIterable iter X.env x=pure x:=by intro _;rfl) :
  SE X (.ListComp mM [⟨tg,iter,kJ,0⟩] scope pos) (dC cap fi f t el):=qP hB fL hi hg ht he gA gj hs
theorem rF{x0:Str}{p0 p1:Pos}(O':SG X (.Name x0 p0) (eE i))(fL:X.env.cells=cellsFrom m X.env.scope.names [])(hi:SI X tg iter fi)(hg:∀cl C s0 H0 fp,SG (bG X (KY X tg cap) scope cl C s0 H0 fp) tg f)(ht:∀cl C s0 H0 fp,KR (bG X (KY X tg cap) scope cl C s0 H0 fp) kJ t)
  (he:∀cl C s0 H0 fp,SE (bG X (KY X tg cap) scope cl C s0 H0 fp) mM el) (hB:sV X.env.scope.names scope.names (KY X tg cap) cap X.N=true:=by first|rfl|kernel_rfl) (O3:swapsWith (.ListComp mM [⟨tg,iter,kJ,0⟩] scope pos) (some (.Name x0 p0)) p1.line X.env=pure true:=by first|rfl|kernel_rfl) (gA:X.calm=true:=by rfl) (gj:scope.kind=.function:=by rfl) (hs:∀x,foldedSetIterable iter X.env x=pure x:=by intro _;rfl) :
  SS X (.Assign [.Name x0 p0] (.ListComp mM [⟨tg,iter,kJ,0⟩] scope pos) p1) (uK (dC cap fi f t el) (eE i)):=pi O' hB fL hi hg ht he gA gj hs O3
end
end L2
variable{t:L2.FT}{ρ:L2.bQ}{fa fb fe fo el:L2.FE}{fi:L2.FI}
namespace HT
open PySem PyProof.Rows
section
open PySem.SeqAt
open PySem.AutoSeq1 (wpAny_loadPart')
open PySem.MeetsSeq PySem.MeetsSeq2 PySem.MeetsSeq3
end
end HT
namespace L2
open PySem PySem.Spec PyProof.Rows
section
end
end L2
namespace PK
open PySem
section
variable{w:World}{K1 K2:Type}[DecidableEq K1][DecidableEq K2](knd:KeyKind prog w K1)(hk:HeapKind prog w K2)
def Is(h:Heap)(k:K1×K2)(a:Addr):Prop:=∃o v b n,h.get? a=some o/\o.cls=.type "tuple"/\o.data=.seq #[v,.ref b] n/\knd.is k.1 v=true/\hk.is h k.2 b
def hash(k:K1×K2):Int:=reduceHash (Builtin.Tuple.tupleHashOf [knd.hash k.1,hk.hash k.2])
variable{knd hk}
theorem Is.typeIs{k:K1×K2}(x:Is knd hk s.heap k a):s.TypeIs (.ref a) "tuple":=let ⟨o,_,_,_,ho,hc,_⟩:=x;⟨o,ho,hc⟩
theorem Is.inj{x y:K1×K2}(hx:Is knd hk h x a)(hy:Is knd hk h y a):x=y:=by
 obtain⟨o,v,b,n,ho,_,hd,h1,h2⟩:=hx
 obtain⟨o',v',b',n',ho',_,hd',h1',h2'⟩:=hy
 obtain rfl:o=o':=aU (ho.symm.trans ho')
 rw[hd]at hd'
 injection hd' with e _
 have e:=dq Array.toList e
 simp only[nh,Value.ref.injEq,and_true]at e
 obtain⟨rfl,rfl⟩:=e
 exact Prod.ext (knd.inj _ _ _ h1 h1') (hk.inj h2 h2')
theorem Is.keeps{k:K1×K2}{d:Addr}{es ep}(x:Is knd hk h k a)(ho:h.get? d=some o)(hd:o.data=.dict es ep)(hs:Heap.SameBut d h h'):Is knd hk h' k a:=by
 obtain⟨o',v,b,n,ho',hc,hd',h1,h2⟩:=x
 have mJ:a≠d:=by
  rintro rfl
  obtain rfl:o'=o:=aU (ho'.symm.trans ho)
  rw[hd]at hd';exact nomatch hd'
 exact⟨o',v,b,n,(hs.2 a mJ).trans ho',hc,hd',h1,hk.keeps h2 ho hd hs⟩
theorem pyHash{k:K1×K2}{Q:Int->Shared->Prop}(hu:A.units<cLine)(hr:hk.room A.in1)(hx:Is knd hk s.heap k a)(h:Q (hash knd hk k) { s with toks:=s.toks+(1+hk.draws k.2+1) }) :
  wpAny (model prog w) A (PySem.pyHash (.ref a)) Q E s:=by
 have hT:=hx.typeIs
 obtain⟨o,v,b,n,ho,_,hd,h1,h2⟩:=hx
 unfold PySem.pyHash
 first|unfold pyHashByItsType|skip
 first|refine ah (wpAny_cRoomFor_or (.inr hu) ?_)|skip
 refine ah (fE hT F.slot_tuple_hash.lookup ?_)
 show wpAny _ _ (if (some (Value.builtin "tuple.__hash__")==some Value.none)=true then _ else _) Q E s
 rw[az (by rw[beq_builtin_none];exact bO)]
 refine ah (fE hT F.slot_tuple_hash.lookup ?_)
 show wpAny _ _ (callSpecialIfBoundUnlessNone? (.ref a) "__hash__" _ >>= _) Q E s
 refine ah (gy hT F.slot_tuple_hash (dw F.slot_tuple_hash hT F.entry_tuple_hash ?_ (F.args_tuple_hash_1 _)))
 show wpAny _ _ (Builtin.Tuple.tupleItemsOf (.ref a) >>= _) _ _ s
 refine ah (kw ho hd ?_)
 refine ah ?_
 rw[<- ky]
 refine gY _
  (fun rest (c:Array Int) s'=>(rest=[v,.ref b]/\c.toList=[]/\s'=s)\/(rest=[.ref b]/\c.toList=[knd.hash k.1]/\s'={ s with toks:=s.toks+1 })\/(rest=[]/\c.toList=[knd.hash k.1,hk.hash k.2]/\s'={ s with toks:=s.toks+1+hk.draws k.2 }))
  _ ?_ ?_ _ _ (.inl ⟨rfl,rfl,rfl⟩)
 ·rintro x rest c s' (⟨e,hc,rfl⟩|⟨e,hc,rfl⟩|⟨e,_⟩)
  ·injection e with e1 e2
   subst e1;subst e2
   refine ah (knd.pyHash h1 ?_)
   first
    |exact ax (.inr (.inl ⟨rfl,by simp[hc],rfl⟩))
    |exact ah (ax (ax (.inr (.inl ⟨rfl,by simp[hc],rfl⟩))))
  ·injection e with e1 e2
   subst e1;subst e2
   refine ah (hk.pyHash (k:=k.2) hr h2 ?_)
   first
    |exact ax (.inr (.inr ⟨rfl,by simp[hc],rfl⟩))
    |exact ah (ax (ax (.inr (.inr ⟨rfl,by simp[hc],rfl⟩))))
  ·cases e
 ·rintro c s' (⟨e,_⟩|⟨e,_⟩|⟨_,hc,rfl⟩)
  ·cases e
  ·cases e
  show wpAny _ _ (retInt (Builtin.Tuple.tupleHashOf c.toList)) _ _ _
  rw[hc]
  refine ni ?_
  show wpAny _ _ (if (decide (-(2:Int)^63<=Builtin.Tuple.tupleHashOf [knd.hash k.1,hk.hash k.2])&&decide (Builtin.Tuple.tupleHashOf [knd.hash k.1,hk.hash k.2]<2^63))=true then _ else _) Q E _
  unfold hash reduceHash at h
  by_cases hr:(decide (-(2:Int)^63<=Builtin.Tuple.tupleHashOf [knd.hash k.1,hk.hash k.2])&&decide (Builtin.Tuple.tupleHashOf [knd.hash k.1,hk.hash k.2]<2^63))=true
  ·rw[am hr]
   rw[am hr]at h
   exact ax (by simpa[oZ]using h)
  ·rw[az hr]
   rw[az hr]at h
   exact ah (hX (ax (by simpa[oZ]using h)))
theorem Jw{x y:K1×K2}{P:Fin->Shared->Prop}(hr:hk.room A)(hx:Is knd hk s.heap x a)(hy:Is knd hk s.heap y b)(h:P (.done (.ret (.bool (decide (x=y))))) s) :
  wpAny (model prog w) A (Builtin.«tuple.__eq__» ⟨[.ref a,.ref b],[]⟩) P E s:=by
 have hTb:=hy.typeIs
 obtain⟨oa,v,c,na,hoa,_,hda,h1,h2⟩:=hx
 obtain⟨ob,u,d,nb,HK,_,zL,g1,g2⟩:=hy
 show wpAny _ _ (isInstance (.ref b) (.type "tuple") >>= _) _ _ s
 refine ah (iV hTb iL ?_)
 simp only[dZ,cB,gp]
 refine ah (kw hoa hda ?_)
 refine ah (kw HK zL ?_)
 refine ah ?_
 refine gY _
  (fun rest r s'=>r.1=none/\s'=s/\((rest=[(v,u),(.ref c,.ref d)])\/(rest=[(.ref c,.ref d)]/\x.1=y.1)\/(rest=[]/\x=y)))
  _ ?_ ?_ _ _ ⟨rfl,rfl,.inl rfl⟩
 ·rintro⟨p,q⟩ rest r s' ⟨hr0,rfl,e|⟨e,e0⟩|⟨e,_⟩⟩
  ·injection e with e1 e2
   injection e1 with e3 e4
   subst e3;subst e4;subst e2
   refine ah (knd.eqBool (a:=x.1) (b:=y.1) h1 g1 ?_)
   by_cases z:x.1=y.1
   ·rw[bH z]
    simp only[dZ,cB,gp]
    exact ax ⟨rfl,rfl,.inr (.inl ⟨by first|rfl|trivial,z⟩)⟩
   ·rw[bb z]
    simp only[kt,dF]
    have hf:decide (x=y)=false:=bb fun e=>z (by rw[e])
    rw[hf]at h
    exact ah (ax (ax (ax h)))
  ·injection e with e1 e2
   injection e1 with e3 e4
   subst e3;subst e4;subst e2
   refine ah (hk.eqBool (x:=x.2) (y:=y.2) hr h2 g2 ?_)
   by_cases z:x.2=y.2
   ·rw[bH z]
    simp only[dZ,cB,gp]
    exact ax ⟨rfl,rfl,.inr (.inr ⟨by first|rfl|trivial,Prod.ext e0 z⟩)⟩
   ·rw[bb z]
    simp only[kt,dF]
    have hf:decide (x=y)=false:=bb fun e=>z (by rw[e])
    rw[hf]at h
    exact ah (ax (ax (ax h)))
  ·cases e
 ·rintro⟨r1,r2⟩ s' ⟨hr0,rfl,e|⟨e,_⟩|⟨_,e⟩⟩
  ·cases e
  ·cases e
  simp only at hr0
  subst hr0
  refine ax ?_
  rw[bH e]at h
  exact h
theorem eqBool{x y:K1×K2}{a b:Addr}{Q:Bool->Shared->Prop}(hu:A.units<cLine)(hr:hk.room A.in1)(hx:Is knd hk s.heap x a)(hy:Is knd hk s.heap y b)(h:Q (decide (x=y)) s) :
  wpAny (model prog w) A (PySem.eqBool (.ref a) (.ref b)) Q E s:=by
 unfold PySem.eqBool
 try with_reducible refine cC ?_
 show wpAny _ _ (if (Value.ref a==Value.ref b)=true then _ else _) Q E s
 by_cases hab:(Value.ref a==Value.ref b)=true
 ·rw[am hab]
  have e:a=b:=by have:=jS hab;injection this
  subst e
  obtain rfl:=hx.inj hy
  exact ah (hX (ax (by simpa using h)))
 ·rw[az hab]
  exact ah (wpAny_richCompare_same_room (op:=.Eq) hx.typeIs hy.typeIs F.slot_tuple_eq
   (dw F.slot_tuple_eq hx.typeIs F.entry_tuple_eq (Jw hr hx hy ⟨_,rfl,(fun e=>nomatch e),gC h⟩) (F.args_tuple_eq_2 _ _)) hu)
theorem quiet{k:K1×K2}{Q:Bool->Shared->Prop}(hq:∀{b:Addr} {Q:Bool->Shared->Prop},hk.is s.heap k.2 b->Q true s->wpAny (model prog w) A (eqIsQuiet 7 (.ref b)) Q E s)(hx:Is knd hk s.heap k a)(h:Q true s):wpAny (model prog w) A (eqIsQuiet 8 (.ref a)) Q E s:=by
 have hT:=hx.typeIs
 obtain⟨o,v,b,n,ho,_,hd,h1,h2⟩:=hx
 unfold eqIsQuiet
 refine ah (fE hT F.slot_tuple_eq.lookup ?_)
 show wpAny _ _ (isInstance (.ref a) (.type "tuple") >>= _) _ _ s
 refine ah (iV hT iL ?_)
 simp only[dZ,cB,gp]
 refine ah (fV ho hd ?_)
 refine ah ?_
 show wpAny _ _ (forIn #[v,Value.ref b] _ _) _ _ s
 rw[<- ky]
 refine gY _ (fun rest r s'=>r.1=none/\s'=s/\(rest=[v,.ref b]\/rest=[.ref b]\/rest=[])) _ ?_ ?_ _ _ ⟨rfl,rfl,.inl rfl⟩
 ·rintro x rest r s' ⟨hr,rfl,e|e|e⟩
  ·injection e with e1 e2
   subst e1;subst e2
   rw[eqIsQuiet_byValue _ (knd.byValue _ _ h1)]
   refine ah (ax ?_)
   simp only[dZ,cB,gp]
   exact ax ⟨rfl,rfl,.inr (.inl (by first|rfl|trivial))⟩
  ·injection e with e1 e2
   subst e1;subst e2
   refine ah (hq h2 ?_)
   simp only[dZ,cB,gp]
   exact ax ⟨rfl,rfl,.inr (.inr (by first|rfl|trivial))⟩
  ·cases e
 ·rintro⟨r1,r2⟩ s' ⟨hr,rfl,_⟩
  simp only at hr
  subst hr
  exact ax h
end
theorem Dw{w:World}{K:Type}[DecidableEq K]{knd:KeyKind prog w K}(f:Nat){ks:List K}{Q:Bool->Shared->Prop}(hk:IsTupleKey knd s.heap ks a)(h:Q true s):wpAny (model prog w) A (eqIsQuiet (f+1) (.ref a)) Q E s:=by
 have hT:=hk.typeIs
 obtain⟨o,items,n,ho,_,hd,hi⟩:=hk
 unfold eqIsQuiet
 refine ah (fE hT F.slot_tuple_eq.lookup ?_)
 show wpAny _ _ (isInstance (.ref a) (.type "tuple") >>= _) _ _ s
 refine ah (iV hT iL ?_)
 simp only[dZ,cB,gp]
 refine ah (fV ho hd ?_)
 refine ah ?_
 show wpAny _ _ (forIn items _ _) _ _ s
 rw[<- ky]
 refine gY _ (fun rest r s'=>r.1=none/\s'=s/\∀v∈rest,carriedByValue v=true) _ ?_ ?_ _ _ ⟨rfl,rfl,hi.byValue⟩
 ·rintro v rest r s' ⟨hr,rfl,l7⟩
  rw[eqIsQuiet_byValue _ (l7 v aN)]
  refine ah (ax ?_)
  simp only[dZ,cB,gp]
  exact ax ⟨rfl,rfl,fun u hu'=>l7 u (aA _ hu')⟩
 ·rintro⟨r1,r2⟩ s' ⟨hr,rfl,_⟩
  simp only at hr
  subst hr
  exact ax h
def kind{w:World}{K1 K:Type}[DecidableEq K1][DecidableEq K](knd:KeyKind prog w K1)(kd:KeyKind prog w K):HeapKind prog w (K1×List K) where
 is:=Is knd (tupleKind kd)
 hash:=hash knd (tupleKind kd)
 draws:=fun k=>1+(k.2.length+1)+1
 room:=fun A=>A.units+1<cLine
 inj:=fun hx hy=>hx.inj hy
 keeps:=fun x ho hd hs=>x.keeps ho hd hs
 pyHash:=fun hu hk h=>pyHash (Nat.lt_of_succ_lt hu) hu hk h
 eqBool:=fun hu hx hy h=>eqBool (Nat.lt_of_succ_lt hu) hu hx hy h
 quiet:=fun hk h=>quiet (fun hb hq=>Dw 6 hb hq) hk h
section
variable{w:World}{K:Type}[DecidableEq K]{knd:HeapKind prog w K}
theorem Av{d:Addr}{xs:List (K×Addr×Value)}{k:K}{dflt:Value}(hu:knd.room A)(se:knd.is s.heap k a)(hm:s.heap.DictOfH knd d xs)
  (A_:∀p,atKey xs k=some p->Q p.2 { s with toks:=s.toks+knd.draws k })
  (rp:atKey xs k=none->∀h',h'.DictOfH knd d (xs++[(k,a,dflt)])->Heap.SameBut d s.heap h'->Q dflt { s with heap:=h',toks:=s.toks+knd.draws k })
  (hsz:xs.length<=sizeLine):wpAny (model prog w) A (dictSetDefault d (.ref a) dflt) Q E s:=by
 obtain⟨o,es,ep,ho,hc,hd,he,uC,hn⟩:=hm
 unfold dictSetDefault
 try with_reducible refine cC ?_
 refine ah (knd.pyHash hu se ?_)
 refine ah (wpAny_dictFind_heap (s:={ s with toks:=s.toks+knd.draws k }) hu se ho hd he uC hn ?_ ?_)
 ·intro hno
  have hnot:k∉xs.map (·.1):=not_mem_keys_of_get hno
  refine ah (hX (ah (wpAny_updateDictKeys (hz:=by have e:=size_of_entries he;omega) (s:={ s with toks:=s.toks+knd.draws k }) ho hd (ax (rp (atKey_none_of_get hno) _ ⟨_,_,ep+1,gv _ ho (Obj.isFreed_of_dict (gR hd _)),
   hc.mapDictKeys _,gR hd _,?_,?_,?_⟩ (cH ..))))))
  ·simp[he,entryOfKey]
  ·intro x hx
   rcases aL.mp hx with hx|hx
   ·exact knd.keeps (uC x hx) ho hd (cH ..)
   ·simp only[bz]at hx
    subst hx
    exact knd.keeps se ho hd (cH ..)
  ·rw[bV,dG]
   refine⟨hn,by simp,?_⟩
   intro x hx y hy
   simp only[aF,dg,bz]at hy
   subst hy
   exact fun e=>hnot (e▸hx)
 ·intro j p hj
  refine ah (lu (s:={ s with toks:=s.toks+knd.draws k }) ho hd ?_)
  rw[entry_at he j,hj]
  exact ah (hX (ax (A_ p (atKey_of_get hn hj))))
theorem meets_setdefault(d a:Addr)(hd:(d==sysModules)=false)(dflt:Value) :
  MeetsIn prog w (Builtin.«dict.setdefault» ⟨[.ref d,.ref a,dflt],[]⟩) (fun A R s=>knd.room A.in1/\∃k xs,knd.is s.heap k a/\s.heap.DictOfH knd d xs/\xs.length<=sizeLine /\
   (∀p,atKey xs k=some p->R (.ok (.ret p.2)) { s with toks:=s.toks+knd.draws k }) /\
   (atKey xs k=none->∀h',h'.DictOfH knd d (xs++[(k,a,dflt)])->Heap.SameBut d s.heap h'->R (.ok (.ret dflt)) { s with heap:=h',toks:=s.toks+knd.draws k })):=
 .of_wp fun A R s ⟨hu,k,xs,se,hm,hz,h1,h2⟩=>by
  unfold Builtin.«dict.setdefault»
  refine ah ?_
  unfold Builtin.Dict.keyAndDefault
  refine ah (nC hm.typeIs ?_)
  show wpAny _ _ (pure (d,Value.ref a,some dflt)) _ _ s
  refine ax ?_
  show wpAny _ _ (if (d==sysModules)=true then _ else(dictSetDefault d (.ref a) dflt >>= _)) _ _ s
  rw[az (by rw[hd];exact bO)]
  exact ah (Av hu se hm (fun p hp=>ax ⟨p.2,rfl,h1 p hp⟩) (fun hn h' hm' hs'=>ax ⟨dflt,rfl,h2 hn h' hm' hs'⟩) hz)
end
end PK
namespace L2
open PySem PySem.Spec PyProof.Rows
section
variable{w:World}{es:List DictEntry}
theorem Q1(ok:kF P w H h)(e:H a=some (M8 a es)):DX a es h:=(show dR P w H h a (.ext (DX a es))from ok a _ e).1
theorem Aw(d:DX a es h):dR P w H h a (M8 a es):=by
 refine⟨d,?_,fun h1 h2 ⟨o,ep,e,x,y⟩ k=>⟨o,ep,k o e,x,y⟩⟩
 obtain⟨o,ep,e,_⟩:=d
 exact⟨o,e⟩
theorem Nv(ok:kF P w H h)(e:H a=some (.dK [])):DX a [] h/\(a==sysModules)=false:=by
 obtain⟨_,hd,vs,jc,dd⟩:=Bs ok e
 cases jc
 obtain⟨o,es,ep,h1,h2,h3,_,h4,_⟩:=dd
 refine⟨⟨o,ep,h1,h2,?_⟩,hd⟩
 rw[h3]
 have:es.toList=[]:=by
  cases hh:es.toList with
  |nil=>rfl
  |cons x l=>rw[hh]at h4;cases h4
 rw[show es=[].toArray from by apply Array.ext';rw[this]]
theorem Jx(d:DX a es h)(q:Str):M8 a es≠iH a q:=fun z=>by
 injection z with z
 have:=congrFun z h
 have c:∃o vs t,h.get? a=some o/\o.data=.fields vs/\vs[1]?=some (.str q t):=this▸d
 obtain⟨o,ep,e,_,y⟩:=d
 obtain⟨o',vs,t,e',y',_⟩:=c
 rw[e]at e';cases e'
 rw[y]at y';cases y'
end
section
variable{K:Type}[DecidableEq K]{knd:HeapKind X.prog X.w K}{xs:List (K×Addr×Value)}{k:K}
abbrev yL(knd:HeapKind X.prog X.w K)(xs:List (K×Addr×Value)):List DictEntry:=xs.map (entryOfKey knd)
theorem yM(d:DX a (yL knd xs) s.heap)(uC:∀x∈xs,knd.is s.heap x.1 x.2.1)(hn:(xs.map (·.1)).Nodup):s.heap.DictOfH knd a xs:=by
 obtain⟨o,ep,h1,h2,h3⟩:=d
 exact⟨o,_,ep,h1,h2,h3,by simp,uC,hn⟩
theorem BS{ys:List (K×Addr×Value)}(d:h'.DictOfH knd a ys):DX a (yL knd ys) h':=by
 obtain⟨o,es,ep,h1,h2,h3,h4,_⟩:=d
 refine⟨o,ep,h1,h2,?_⟩
 rw[h3,show es=(yL knd ys).toArray from by apply Array.ext';rw[h4]]
structure XD(knd:HeapKind X.prog X.w K)(H:Hp)(s:Shared)(a:Addr)(xs:List (K×Addr×Value)):Prop where
 d:DX a (yL knd xs) s.heap
 is:∀x∈xs,knd.is s.heap x.1 x.2.1
 nd:(xs.map (·.1)).Nodup
 sm:(a==sysModules)=false
 z:xs.length<=sizeLine
 mu:Mi (H a)
theorem Q2(hu:knd.room A.in1)(I:bv X pins σ H s)(x:XD knd H s a xs)(hk:knd.is s.heap k b){p:Addr×Value}(hp:atKey xs k=some p)(h:∀s',bv X pins σ H s'->Q p.2 s'):wpAny (model X.prog X.w) A (getItem (.ref a) (.ref b)) Q E s:=
 wpAny_getItem_heap hu hk (yM x.d x.is x.nd) hp (h _ (I.tok _))
theorem Jy(hu:knd.room A.in1)(I:bv X pins σ H s)(x:XD knd H s a xs)(hk:knd.is s.heap k b)(h:∀s',bv X pins σ H s'->Q (.bool (!(atKey xs k).isSome)) s'):wpAny (model X.prog X.w) A (compareOp .NotIn (.ref b) (.ref a)) Q E s:=
 wpAny_notIn_heap hu hk x.sm (yM x.d x.is x.nd) (h _ (I.tok _))
theorem Q3{Q:Unit->Shared->Prop}(hu:knd.room A.in1)(I:bv X pins σ H s)(x:XD knd H s a xs)(hk:knd.is s.heap k b)(h:∀s',bv X pins σ (d_ H a (M8 a (yL knd (storedH xs k b v)))) s'->Q () s'):wpAny (model X.prog X.w) A (setItem (.ref a) (.ref b) v) Q E s:=by
 refine wpAny_setItem_heap (hsz:=x.z) hu hk (yM x.d x.is x.nd) fun h' dd hs=>h _ ?_
 have d:=BS dd
 exact mv I x.mu hs (let ⟨q,_,hq,_⟩:=d;⟨q,hq⟩) (Aw d)
end
theorem tP:∀{ws:List W} {l:List Int},eX ws=some l->ws=l.map W.int
 |[],l,h=>by simp only[eX]at h;cases h;rfl
 |w::ws,l,h=>by
  cases w with
  |int z=>
   unfold eX at h
   cases e:eX ws with
   |none=>rw[e]at h;cases h
   |some r=>
    rw[e]at h
    cases h
    rw[tP e];rfl
  |_=>unfold eX at h;cases h
def j6:W->Option KX
 |.bl b=>some (.bo b)
 |.tup ws=>(match eX ws,ws with
  |some ks,_=>some (.fl ks)
  |none,[.int i,.tup vs]=>(eX vs).map (KX.pr i)
  |_,_=>none)
 |_=>none
theorem tQ{w:W}{k:KX}(h:j6 w=some k):w=k.w:=by
 cases w with
 |bl b=>cases h;rfl
 |tup ws=>
  simp only[j6]at h
  cases e:eX ws with
  |some ks=>rw[e]at h;cases h;show _=W.tup _;rw[tP e]
  |none=>
   rw[e]at h
   split at h
   ·rename_i z
    cases z
   ·rename_i i vs e2
    cases e3:eX vs with
    |none=>rw[e3]at h;cases h
    |some ks=>rw[e3]at h;cases h;show _=W.tup [_,.tup _];rw[tP e3]
   ·cases h
 |_=>cases h
structure HV(X:Cx)(K:Type)[DecidableEq K] where
 knd:HeapKind X.prog X.w K
 em:K->KX
 inj:∀{a b:K},em a=em b->a=b
 hash:∀k,(em k).hash=knd.hash k
 is:∀{pins:List (Addr×Obj)} {σ:St} {H:Hp} {s:Shared} {μ:List Addr} {k:K} {v:V} {u:Value},bv X pins σ H s->be X.K μ H (em k).w v->bN v u->∃b,u=.ref b/\knd.is s.heap k b
 room:∀{A:Around},A.units+2<cLine->knd.room A.in1
theorem items_int{w:World}:∀{ks:List Int} {bC:List Value},cA (ks.map V.int) bC->ItemsAre (intKind P w) ks bC
 |[],_,r=>by cases r;exact .nil
 |k::ks,_,r=>by
  cases r with
  |cons h t=>
   obtain⟨q,rfl⟩:=h
   exact .cons (by simp[intKind,Value.isInt]) (items_int t)
theorem Fw:∀{ks:List Int} {vs:List V},RelWs K μ H (ks.map W.int) vs->vs=ks.map V.int
 |[],vs,r=>r.nilE
 |k::ks,vs,r=>by
  obtain⟨x,xs,rfl,a,b⟩:=r.consE
  rw[a.intE,Fw b];rfl
theorem Fx{ks:List Int}{v:V}(I:bv X pins σ H s)(r:be X.K μ H (.tup (ks.map W.int)) v)(ru:bN v u):∃b,u=.ref b/\IsTupleKey (intKind X.prog X.w) s.heap ks b:=by
 obtain⟨p,vs,rfl,hS,q⟩:=r.tupE
 cases ru
 rw[Fw q]at hS
 obtain⟨bC,r,⟨o,ho,hc,n,hd⟩,_⟩:=I.tuple hS
 exact⟨p,rfl,o,bC.toArray,n,ho,hc,hd,items_int r⟩
def Tg(X:Cx):HV X (List Int) where
 knd:=tupleKind (intKind X.prog X.w)
 em:=KX.fl
 inj:=fun h=>by injection h
 hash:=fun k=>rfl
 is:=fun I r ru=>Fx I r ru
 room:=fun{A} h=>by show A.units+1<cLine;omega
def Th(X:Cx):HV X (Int×List Int) where
 knd:=PK.kind (intKind X.prog X.w) (intKind X.prog X.w)
 em:=fun k=>.pr k.1 k.2
 inj:=fun{a b} h=>by injection h with h1 h2;exact Prod.ext h1 h2
 hash:=fun k=>rfl
 is:=fun{pins σ H s μ k v u} I r ru=>by
  obtain⟨p,vs,rfl,hS,q⟩:=be.tupE r
  cases ru
  obtain⟨x,xs,rfl,a,b⟩:=q.consE
  obtain⟨y,ys,rfl,c,d⟩:=b.consE
  have:=d.nilE;subst this
  cases a.intE
  obtain⟨bC,r',⟨o,ho,hc,n,hd⟩,_⟩:=I.tuple hS
  obtain⟨u1,us,rfl,r1,r2⟩:∃u1 us,bC=u1::us/\bN (.int k.1) u1/\cA [y] us:=by cases r' with|cons h t=>exact⟨_,_,rfl,h,t⟩
  obtain⟨u2,rfl,r3⟩:∃u2,us=[u2]/\bN y u2:=by
   cases r2 with
   |cons h t=>cases t;exact⟨_,rfl,h⟩
  obtain⟨b,rfl,hb⟩:=Fx I c r3
  obtain⟨t,rfl⟩:=r1
  exact⟨p,rfl,o,_,b,n,ho,hc,hd,by simp[intKind,Value.isInt],hb⟩
 room:=fun{A} h=>by show A.units+1+1<cLine;omega
def eQ(kvs:List (KX×W))(k:KX):Option W:=(kvs.find? fun p=>decide (p.1=k)).map fun p=>p.2
def iG(kvs:List (KX×W))(k:KX)(v:W):List (KX×W):=if (eQ kvs k).isSome=true then kvs.map fun p=>if p.1=k then(p.1,v)else p else kvs++[(k,v)]
section
variable{K:Type}[DecidableEq K](G:HV X K)
def Vw(μ:List Addr)(H:Hp):List (KX×W)->List (K×Addr×Value)->Prop:=Paired fun p x=>p.1=G.em x.1/\be X.K μ H p.1.w (.ref x.2.1)/\∃v,be X.K μ H p.2 v/\bN v x.2.2
theorem tR{v:V}(h:bN v (.ref b)):v=.ref b:=by
 cases v with
 |ref a=>cases h;rfl
 |non=>cases h
 |bl _=>cases h
 |ty _=>cases h
 |int _=>obtain⟨_,h⟩:=h;cases h
 |str _=>obtain⟨_,h⟩:=h;cases h
 |byt _=>obtain⟨_,h⟩:=h;cases h
 |flt _=>obtain⟨_,h⟩:=h;cases h
theorem BU(I:bv X pins σ H s):∀{kvs:List (KX×W)} {es:List DictEntry},Paired (rR X.K μ H) kvs es->(∀p∈kvs,∃k,p.1=G.em k)->∃xs,es=yL G.knd xs/\Vw G μ H kvs xs/\∀x∈xs,G.knd.is s.heap x.1 x.2.1
 |_,_,.nil,_=>⟨[],rfl,.nil,fun x hx=>by cases hx⟩
 |_,_,.cons (a:=p) (b:=e) r t,hk=>by
  obtain⟨xs,e1,vw,uC⟩:=BU I t fun p hp=>hk p (aA _ hp)
  obtain⟨k,hpk⟩:=hk p (aN ..)
  obtain⟨hh,⟨v,rk,rv⟩,u,ru,kG⟩:=r
  obtain⟨b,hb,hi⟩:=G.is (k:=k) I (by rw[<- hpk];exact rk) rv
  have ev:v=.ref b:=tR (by rw[<- hb];exact rv)
  subst ev
  refine⟨(k,b,e.val)::xs,?_,.cons ⟨hpk,rk,u,ru,kG⟩ vw,fun x hx=>?_⟩
  ·rw[e1]
   show e::_=entryOfKey G.knd (k,b,e.val)::_
   congr 1
   obtain⟨eh,ek,ev⟩:=e
   simp only at hh hb
   subst hb
   rw[hh,hpk,G.hash];rfl
  ·rcases aK.mp hx with rfl|hx
   ·exact hi
   ·exact uC x hx
variable{G}
theorem mD:∀{kvs:List (KX×W)} {xs:List (K×Addr×Value)} (k:K),Vw G μ H kvs xs->(∃w p v,eQ kvs (G.em k)=some w/\atKey xs k=some p/\be X.K μ H w v/\bN v p.2)\/(eQ kvs (G.em k)=none/\atKey xs k=none)
 |_,_,k,.nil=>.inr ⟨rfl,rfl⟩
 |_,_,k,.cons (a:=p) (b:=x) (l₁:=kvs) (l₂:=xs) ⟨h1,_,v,h3,h4⟩ t=>by
  by_cases e:x.1=k
  ·refine .inl ⟨p.2,x.2,v,?_,?_,h3,h4⟩
   ·unfold eQ;rw[bx];simp[h1,e]
   ·unfold atKey;rw[bx];simp[e]
  ·have e2:p.1≠G.em k:=fun z=>e (G.inj (h1.symm.trans z))
   have a1:eQ (p::kvs) (G.em k)=eQ kvs (G.em k):=by unfold eQ;rw[bx];simp[e2]
   have a2:atKey (x::xs) k=atKey xs k:=by unfold atKey;rw[bx];simp[e]
   rw[a1,a2]
   exact mD k t
theorem vx:∀{kvs:List (KX×W)} {xs:List (K×Addr×Value)},Vw G μ H kvs xs->kvs.map (fun p=>p.1)=(xs.map (·.1)).map G.em
 |_,_,.nil=>rfl
 |_,_,.cons ⟨h1,_⟩ t=>by
  simp only[aF]
  rw[h1,vx t]
theorem vy:∀{kvs:List (KX×W)} {xs:List (K×Addr×Value)},Vw G μ H kvs xs->Paired (rR X.K μ H) kvs (yL G.knd xs)
 |_,_,.nil=>.nil
 |_,_,.cons ⟨h1,h2,h3⟩ t=>.cons ⟨by rw[h1,G.hash];rfl,⟨_,h2,rfl⟩,h3⟩ (vy t)
theorem yN{k:K}{w:W}{v:V}(kG:be X.K μ H w v)(ru:bN v u):∀{kvs:List (KX×W)} {xs:List (K×Addr×Value)},Vw G μ H kvs xs->Vw G μ H (kvs.map fun p=>if p.1=G.em k then(p.1,w)else p) (xs.map (putAt k u))
 |_,_,.nil=>.nil
 |_,_,.cons (a:=p) (b:=x) ⟨h1,h2,h3⟩ t=>by
  refine .cons ?_ (yN kG ru t)
  by_cases e:x.1=k
  ·simp only[]
   rw[am (by rw[h1,e])]
   unfold putAt
   rw[am e]
   exact⟨h1,h2,v,kG,ru⟩
  ·simp only[]
   rw[az fun z=>e (G.inj (h1.symm.trans z))]
   unfold putAt
   rw[az e]
   exact⟨h1,h2,h3⟩
theorem Fy{k:K}{w:W}{v:V}{xs:List (K×Addr×Value)}(vw:Vw G μ H kvs xs)(rk:be X.K μ H (G.em k).w (.ref b))(kG:be X.K μ H w v)(ru:bN v u):Vw G μ H (iG kvs (G.em k) w) (storedH xs k b u):=by
 unfold iG storedH
 rcases mD (G:=G) k vw with⟨w',p,v',e1,e2,_⟩|⟨e1,e2⟩
 ·rw[e1,e2]
  exact yN kG ru vw
 ·rw[e1,e2]
  simp only[Option.isSome_none,cB,gp]
  exact Paired.snoc vw ⟨rfl,rk,v,kG,ru⟩
end
def KX.tag:KX->Nat
 |.bo _=>0
 |.fl _=>1
 |.pr _ _=>2
def tS(kvs:List (KX×W))(k:KX):Bool:=decide (k.tag≠0)&&kvs.all fun p=>p.1.tag==k.tag
def cV(st:List aj):W->Option (Nat×List (KX×W))
 |.loc n=>(match st[n]? with
  |some (.dcx kvs)=>some (n,kvs)
  |some (.dct [])=>some (n,[])
  |_=>none)
 |_=>none
section
variable{st:List aj}
structure Dc(X:Cx)(μ:List Addr)(H:Hp)(s:Shared)(st:List aj)(n:Nat)(kvs:List (KX×W))(a:Addr)(es:List DictEntry):Prop where
 m:μ[n]?=some a
 c:∃c,st[n]?=some c/\c.isRo=false
 o:∃o,H a=some o/\(∀q u,o≠.frz q u)/\∀q,o≠iH a q
 d:DX a es s.heap
 sm:(a==sysModules)=false
 p:Paired (rR X.K μ H) kvs es
 nd:(kvs.map fun p=>p.1).Nodup
 mu:Mi (H a)
 sq:∀es',dB X.K H (d_ H a (M8 a es'))
theorem fq.butE{l:Addr}(e:Qi l H H')(hl:H l=some (.ext φ)):dB K H H':=by
 have mJ:∀{p:Addr} {o:HO},H p=some o->(∀zs,o≠.ext zs)->p≠l:=fun{p o} q hn z=>by subst z;rw[hl]at q;cases q;exact hn _ rfl
 refine⟨fun p ys h=>?_,fun b o u h=>e _ _ (mJ h (fun _ z=>by cases z)) h⟩
 rcases h with(h|⟨o,h⟩)|h
 ·exact .inl (.inl (e _ _ (mJ h (fun _ z=>by cases z)) h))
 ·exact .inl (.inr ⟨o,e _ _ (mJ h (fun _ z=>by cases z)) h⟩)
 ·exact .inr h
theorem j7(I:bv X pins σ H s)(S:fX X.K X.mg μ st H){x:W}{v:V}(h:cV st x=some (n,kvs))(r:be X.K μ H x v):∃a es,v=.ref a/\Dc X μ H s st n kvs a es:=by
 cases x with
 |loc m=>
  simp only[cV]at h
  cases e:st[m]? with
  |none=>rw[e]at h;cases h
  |some c=>
   rw[e]at h
   cases c with
   |dcx z=>
    cases h
    obtain⟨a,g,es,k,hd,p,nd⟩:=S.get e
    obtain⟨b,f,rfl⟩:=r.locE
    rw[g]at f;cases f
    have d:=Q1 I.hok k
    exact⟨a,es,rfl,g,⟨_,e,rfl⟩,⟨_,k,(fun _ _ z=>by cases z),Jx d⟩,d,hd,p,nd,by rw[k];trivial,fun es'=>fq.butE f7 k⟩
   |dct z=>
    cases z with
    |cons _ _=>cases h
    |nil=>
     cases h
     obtain⟨a,g,vs,k,rr⟩:=S.get e
     obtain⟨b,f,rfl⟩:=r.locE
     rw[g]at f;cases f
     have k:H a=some (.dK []):=k
     obtain⟨d,hd⟩:=Nv I.hok k
     exact⟨a,[],rfl,g,⟨_,e,rfl⟩,⟨_,k,(fun _ _ z=>by cases z),fun _ z=>by cases z⟩,d,hd,.nil,kA,by rw[k];trivial,fun es'=>fq.butD f7 k⟩
   |_=>cases h
 |_=>cases h
theorem BV{K:Type}[DecidableEq K](G:HV X K){es:List DictEntry}(I:bv X pins σ H s)(D:Dc X μ H s st n kvs a es)(hk:∀p∈kvs,∃k,p.1=G.em k)(hl:kvs.length<=sizeLine):∃xs,XD G.knd H s a xs/\Vw G μ H kvs xs:=by
 obtain⟨xs,e,vw,uC⟩:=BU G I D.p hk
 have hn:(xs.map (·.1)).Nodup:=by
  have:=D.nd
  rw[vx vw]at this
  exact(iD.mp this).imp fun h e=>h (dq _ e)
 exact⟨xs,⟨by rw[<- e];exact D.d,uC,hn,D.sm,by rw[<- Paired.length vw];exact hl,D.mu⟩,vw⟩
theorem Fz{k:KX}(h:tS kvs k=true):(∃ks,k=.fl ks/\∀p∈kvs,∃q,p.1=(Tg X).em q)\/∃i ks,k=.pr i ks/\∀p∈kvs,∃q,p.1=(Th X).em q:=by
 unfold tS at h
 rw[a8,cD]at h
 obtain⟨h0,h1⟩:=h
 cases k with
 |bo b=>simp[KX.tag]at h0
 |fl ks=>
  refine .inl ⟨ks,rfl,fun p hp=>?_⟩
  have:=h1 p hp
  cases e:p.1 with
  |fl q=>exact⟨q,rfl⟩
  |bo _=>rw[e]at this;simp[KX.tag]at this
  |pr _ _=>rw[e]at this;simp[KX.tag]at this
 |pr i ks=>
  refine .inr ⟨i,ks,rfl,fun p hp=>?_⟩
  have:=h1 p hp
  cases e:p.1 with
  |pr j q=>exact⟨(j,q),rfl⟩
  |bo _=>rw[e]at this;simp[KX.tag]at this
  |fl _=>rw[e]at this;simp[KX.tag]at this
def r6(kvs:List (KX×W))(k:KX):Bool:=tS kvs k&&decide (kvs.length<jw)
theorem yO{Pr:Prop}{es:List DictEntry}{k:KX}{v:V}(I:bv X pins σ H s)(D:Dc X μ H s st n kvs a es)(h:r6 kvs k=true)(rk:be X.K μ H k.w v)(ru:bN v u)
  (hh:∀(K:Type) [DecidableEq K] (G:HV X K) (q:K) (b:Addr) (xs:List (K×Addr×Value)),k=G.em q->v=.ref b->u=.ref b->G.knd.is s.heap q b->XD G.knd H s a xs->Vw G μ H kvs xs->Pr):Pr:=by
 unfold r6 at h
 rw[a8,bn]at h
 have hl:kvs.length<=sizeLine:=iN (df h.2)
 rcases Fz (X:=X) h.1 with⟨ks,rfl,hk⟩|⟨i,ks,rfl,hk⟩
 ·obtain⟨xs,xd,vw⟩:=BV (Tg X) I D hk hl
  obtain⟨b,rfl,hb⟩:=(Tg X).is (k:=ks) I rk ru
  exact hh _ (Tg X) ks b xs rfl (tR ru) rfl hb xd vw
 ·obtain⟨xs,xd,vw⟩:=BV (Th X) I D hk hl
  obtain⟨b,rfl,hb⟩:=(Th X).is (k:=(i,ks)) I rk ru
  exact hh _ (Th X) (i,ks) b xs rfl (tR ru) rfl hb xd vw
def wL(A8:Bool)(x y:W)(st:List aj):R W:=match cV st y,j6 x with
 |some (_,kvs),some k=>if r6 kvs k=true then .ok (.bl (if A8 then !(eQ kvs k).isSome else(eQ kvs k).isSome)) st else .bad
 |_,_=>.bad
theorem Nw(A8:Bool)(x y:W)(st:List aj):qM (wL A8 x y st):=by
 unfold wL
 split
 ·split<;>trivial
 ·trivial
theorem Dx{K:Type}[DecidableEq K]{G:HV X K}{xs:List (K×Addr×Value)}(k:K)(vw:Vw G μ H kvs xs):(atKey xs k).isSome=(eQ kvs (G.em k)).isSome:=by
 rcases mD k vw with⟨w,p,v,e1,e2,_⟩|⟨e1,e2⟩<;>rw[e1,e2]<;>rfl
theorem yP(hr:fY kk X.A):rT X (compareOp .NotIn) (wL true):=⟨fun pins s σ H x y v u Q I rv ru ⟨μ,st,wx,wy,S,rx,ry,q⟩=>by
 unfold wL at q
 cases e:cV st wy with
 |none=>rw[e]at q;exact q.elim
 |some nk=>
  obtain⟨n,kvs⟩:=nk
  cases ek:j6 wx with
  |none=>rw[e,ek]at q;exact q.elim
  |some k=>
   rw[e,ek]at q
   simp only at q
   by_cases hx:r6 kvs k=true
   ·rw[am hx]at q
    obtain⟨a,es,rfl,D⟩:=j7 I S e ry
    obtain rfl:u=Value.ref a:=ru
    have:=tQ ek
    subst this
    refine yO I D hx rx rv fun K inst G z b xs hk _ hb uC xd vw=>?_
    subst hb
    refine Jy (G.room (by have:=hr.units;omega)) I xd uC fun s' I'=>?_
    rw[Dx z vw,<- hk]
    exact⟨.bl _,H,I',rfl,jg S q⟩
   ·rw[az hx]at q;exact q.elim,Nw true⟩
end
theorem Dy{k:KX}(h:eQ kvs k=none):k∉kvs.map fun p=>p.1:=fun z=>by
 obtain⟨p,hp,e⟩:=ar.mp z
 unfold eQ at h
 rw[Option.map_eq_none_iff,hZ]at h
 exact h p hp (bH e)
theorem BW(k:KX)(v:W)(h:(kvs.map fun p=>p.1).Nodup):((iG kvs k v).map fun p=>p.1).Nodup:=by
 unfold iG
 by_cases z:(eQ kvs k).isSome=true
 ·rw[am z,aS]
  have:((fun p:KX×W=>p.1)∘fun p:KX×W=>if p.1=k then(p.1,v)else p)=fun p=>p.1:=by
   funext p
   show(if p.1=k then(p.1,v)else p).1=p.1
   split<;>rfl
  rw[this];exact h
 ·rw[az z,bV,dG]
  have hn:eQ kvs k=none:=by
   cases e:eQ kvs k with
   |none=>rfl
   |some _=>rw[e]at z;exact(z rfl).elim
  refine⟨h,by simp,fun a ha b hb=>?_⟩
  have:b=k:=by simpa using hb
  subst this
  exact fun e=>Dy hn (e▸ha)
def rG(x i v:W)(st:List aj):Option (List aj):=match cV st x,j6 i with
 |some (n,kvs),some k=>if r6 kvs k=true then some (st.set n (.dcx (iG kvs k v)))else none
 |_,_=>none
section
theorem Dc.put{K:Type}[DecidableEq K]{G:HV X K}{st:List aj}{es:List DictEntry}(D:Dc X μ H s st n kvs a es)(S:fX X.K X.mg μ st H)
  {xs:List (K×Addr×Value)} {z:K} {b:Addr} {wv:W} {v:V} {u:Value} (vw:Vw G μ H kvs xs) (rk:be X.K μ H (G.em z).w (.ref b)) (rv:be X.K μ H wv v) (ru:bN v u) :
  fX X.K X.mg μ (st.set n (.dcx (iG kvs (G.em z) wv))) (d_ H a (M8 a (yL G.knd (storedH xs z b u)))):=by
 obtain⟨c,hc,ux⟩:=D.c
 obtain⟨o,ho,hf,hg⟩:=D.o
 exact S.setG hc ux D.m ho hf hg (D.sq _) rfl ⟨_,dD,D.sm,Paired.imp' (fun _ _ q=>q.mono (ag _) (D.sq _)) (vy (Fy vw rk rv ru)),BW _ _ D.nd⟩
theorem Nx(hr:fY kk X.A):zS X (BJ X rG):=fun pins s σ H o i v ov iv u Q I r1 r2 r3 ⟨μ,st,wo,wi,wv,bE,S,ro,ri,rv,e,q⟩=>by
 unfold rG at e
 cases e1:cV st wo with
 |none=>rw[e1]at e;cases e
 |some nk=>
  obtain⟨n,kvs⟩:=nk
  cases e2:j6 wi with
  |none=>rw[e1,e2]at e;cases e
  |some k=>
   rw[e1,e2]at e
   simp only at e
   split at e
   ·rename_i hx
    cases e
    obtain⟨a,es,rfl,D⟩:=j7 I S e1 ro
    obtain rfl:ov=Value.ref a:=r1
    have:=tQ e2
    subst this
    refine yO I D hx ri r2 fun K inst G z b xs hk hv hb uC xd vw=>?_
    subst hk;subst hv;subst hb
    refine Q3 (G.room (by have:=hr.units;omega)) I xd uC fun s' I'=>⟨_,I',?_⟩
    exact q _ (D.sq _) (D.put S vw ri rv r3)
   ·cases e
def PX(X:Cx)(x y:V)(H:Hp)(Q:VK):Prop:=∃a,x=.ref a/\∀(pins:List (Addr×Obj)) (σ:St) (s:Shared) (u:Value) (E:Value->Shared->Prop) (Qv:Value->Shared->Prop),bv X pins σ H s->bN y u ->
 (∀v w' s',bv X pins σ H s'->bN v w'->Q v H->Qv w' s')->s.TypeIs (.ref a) "dict"/\wpAny (model X.prog X.w) X.A (getItem (.ref a) u) Qv E s
def Q4(X:Cx)(td ty:TE):TE:=fun σ H Q=>td σ H fun x H1=>ty σ H1 fun y H2=>PX X x y H2 Q
theorem Jz{o i:Expr}{td ty:TE}(ho:PE X o td)(hi:PE X i ty)(hs:EE i):PE X (.Subscript o i pos) (Q4 X td ty):=by
 intro pins s σ H Q I h
 refine we PySem.F.slot_dict_getitem.lookup hs (f6 (ho pins s σ H _ I h) fun u s1 ⟨x,H1,I1,rx,q1⟩=>f6 (hi pins s1 σ H1 _ I1 q1) fun iv s2 ⟨y,H2,I2,ry,a,ex,g⟩=>?_)
 subst ex
 obtain rfl:u=Value.ref a:=rx
 exact g pins σ s2 iv _ _ I2 ry fun v w' s3 I3 kG q2=>⟨v,H2,I3,kG,q2⟩
theorem lT{st:List aj}{es:List DictEntry}(D:Dc X μ H s st n kvs a es):s.TypeIs (.ref a) "dict":=by
 obtain⟨o,ep,h1,h2,_⟩:=D.d
 exact⟨o,h1,h2.1⟩
def UW(X:Cx)(id:String)(x y z:V)(H:Hp)(Q:VK):Prop:=∃a,x=.ref a/\∀(pins:List (Addr×Obj)) (σ:St) (s:Shared) (u r:Value) (E:Value->Shared->Prop) (Qv:Value->Shared->Prop),bv X pins σ H s->bN y u->bN z r ->
 (∀v w' H' s',bv X pins σ H' s'->bN v w'->Q v H'->Qv w' s')->wpAny (model X.prog X.w) X.A (call (.builtin id) [.ref a,u,r]) Qv E s
def UE(X:Cx)(x:V)(H:Hp):Prop:=∃a,x=.ref a/\∀(pins:List (Addr×Obj)) (σ:St) (s:Shared),bv X pins σ H s->s.TypeIs (.ref a) "dict"/\∀b,Value.ref a=.ref b->∃ob,s.heap.get? b=some ob/\ob.dict=none
def FB(X:Cx)(id:String)(td ty tx:TE):TE:=fun σ H Q=>td σ H fun x H1=>UE X x H1/\ty σ H1 fun y H2=>tx σ H2 fun z H3=>UW X id x y z H3 Q
theorem FC{o f:Expr}{td ty tx:TE}(ho:PE X o td)(he:PE X e ty)(hf:PE X f tx)(m:M2 X o "get" fI e f c8):PE X (.Call (.Attribute o "get" fI) [e,f] [] c8) (FB X "dict.get" td ty tx):=by
 intro pins s σ H Q I h
 refine lh m.base m.few m.line PySem.F.plainAttrs_dict PySem.F.slot_dict_get PySem.F.type_dict_get (f6 (ho pins s σ H _ I h) fun u s1 ⟨x,H1,I1,rx,⟨a,ex,d⟩,q1⟩=>?_)
 subst ex
 obtain rfl:u=Value.ref a:=rx
 obtain⟨t1,t2⟩:=d pins σ s1 I1
 refine⟨t1,t2,?_⟩
 rw[m.trees]
 refine ga rfl (gP (eZ (f6 (he pins s1 σ H1 _ I1 q1) fun iv s2 ⟨y,H2,I2,ry,q2⟩=>
  eZ (f6 (hf pins s2 σ H2 _ I2 q2) fun fv s3 ⟨z,H3,I3,rz,a',ea,g⟩=>iu ?_))))
 cases ea
 exact g pins σ s3 iv fv _ _ I3 ry rz fun v w' H' s4 I4 kG q3=>⟨v,H',I4,kG,q3⟩
theorem FD{o f:Expr}{td ty tx:TE}(ho:PE X o td)(he:PE X e ty)(hf:PE X f tx)(m:M2 X o "setdefault" fI e f c8):PE X (.Call (.Attribute o "setdefault" fI) [e,f] [] c8) (FB X "dict.setdefault" td ty tx):=by
 intro pins s σ H Q I h
 refine lh m.base m.few m.line PySem.F.plainAttrs_dict PySem.F.slot_dict_setdefault PySem.F.type_dict_setdefault (f6 (ho pins s σ H _ I h) fun u s1 ⟨x,H1,I1,rx,⟨a,ex,d⟩,q1⟩=>?_)
 subst ex
 obtain rfl:u=Value.ref a:=rx
 obtain⟨t1,t2⟩:=d pins σ s1 I1
 refine⟨t1,t2,?_⟩
 rw[m.trees]
 refine ga rfl (gP (eZ (f6 (he pins s1 σ H1 _ I1 q1) fun iv s2 ⟨y,H2,I2,ry,q2⟩=>
  eZ (f6 (hf pins s2 σ H2 _ I2 q2) fun fv s3 ⟨z,H3,I3,rz,a',ea,g⟩=>iu ?_))))
 cases ea
 exact g pins σ s3 iv fv _ _ I3 ry rz fun v w' H' s4 I4 kG q3=>⟨v,H',I4,kG,q3⟩
def tU(fo fk fd:FE):FE:=fun ρ st=>(fo ρ st).bind fun x st=>match cV st x with
 |some _=>(fk ρ st).bind fun y st=>(fd ρ st).bind fun z st=>(match cV st x,j6 y with
  |some (_,kvs),some k=>if r6 kvs k=true then .ok ((eQ kvs k).getD z) st else .bad
  |_,_=>.bad)
 |none=>.bad
theorem tV{st:List aj}{x:W}{v:V}{nk:Nat×List (KX×W)}(S:fX X.K X.mg μ st H)(e:cV st x=some nk)(r:be X.K μ H x v):UE X v H:=by
 have⟨a,ea,_⟩:∃a,v=.ref a/\True:=by
  cases x with
  |loc m=>obtain⟨a,_,e⟩:=r.locE;exact⟨a,e,trivial⟩
  |_=>simp only[cV]at e;cases e
 subst ea
 refine⟨a,rfl,fun pins σ s I=>?_⟩
 obtain⟨a',es,ea,D⟩:=j7 I S (n:=nk.1) (kvs:=nk.2) e r
 cases ea
 refine⟨lT D,fun b hb=>?_⟩
 cases hb
 obtain⟨o,ep,h1,h2,_⟩:=D.d
 exact⟨o,h1,h2.2.1⟩
theorem JA{o f:Expr}{fd:FE}(hr:fY kk X.A)(ho:SE X o fo)(he:SE X e fe)(hf:SE X f fd)(m:M2 X o "get" fI e f c8:=by exact⟨by rfl,by rfl,by rfl,by rfl⟩):SE X (.Call (.Attribute o "get" fI) [e,f] [] c8) (tU fo fe fd):=⟨(FC ho.h he.h hf.h m).imp fun σ H Q h=>by
 obtain⟨μ,ρ,st,l,h⟩:=h
 refine⟨μ,ρ,st,l,RK.bind h l fun μ1 st1 x v H1 p1 x1 l1 q1 h1=>?_⟩
 cases e0:cV st1 x with
 |none=>rw[e0]at h1;exact h1.elim
 |some nk0=>
  rw[e0]at h1
  simp only at h1
  obtain⟨a0,ea0,_⟩:=tV l1.sto e0 q1
  refine⟨tV l1.sto e0 q1,μ1,ρ,st1,l1,RK.bind h1 l1 fun μ2 cM y u H2 p2 x2 l2 q2 h2=>⟨μ2,ρ,cM,l2,RK.bind h2 l2 fun μ3 i5 d t H3 p3 x3 l3 q3 h3=>?_⟩⟩
  cases e1:cV i5 x with
  |none=>rw[e1]at h3;exact h3.elim
  |some nk=>
   obtain⟨n,kvs⟩:=nk
   cases e2:j6 y with
   |none=>rw[e1,e2]at h3;exact h3.elim
   |some k=>
    rw[e1,e2]at h3
    simp only at h3
    by_cases hx:r6 kvs k=true
    ·rw[am hx]at h3
     have:=tQ e2
     subst this
     refine⟨a0,ea0,fun pins σ s iv r E Qv I ry rz hq=>?_⟩
     obtain⟨a',es,ea,D⟩:=j7 I l3.sto e1 ((q1.mono p2 x2).mono p3 x3)
     rw[ea0]at ea
     cases ea
     refine yO I D hx (q2.mono p3 x3) ry fun K inst G z b xs hk hv hb uC xd vw=>?_
     subst hk;subst hb
     refine jL PySem.F.slot_dict_get (lT D) PySem.F.entry_dict_get (PySem.F.args_dict_get_3 _ _ _) (meetsH_dict_get_default G.knd a0 b xd.sm r) ⟨G.room (by have:=hr.units;omega),z,xs,uC,yM xd.d xd.is xd.nd,?_⟩
     rcases mD z vw with⟨w,p,v',g1,g2,g3,g4⟩|⟨g1,g2⟩
     ·rw[g1]at h3
      rw[g2]
      exact hq v' _ _ _ (I.tok _) g4 (h3 μ3 v' H3 (ag _) dB.refl l3.sto g3)
     ·rw[g1]at h3
      rw[g2]
      exact hq t _ _ _ (I.tok _) rz (h3 μ3 t H3 (ag _) dB.refl l3.sto q3)
    ·rw[az hx]at h3;exact h3.elim⟩
end
end L2
namespace PK
open PySem
section
variable{w:World}
theorem Dz{b:Bool}{Q:Int->Shared->Prop}(h:Q (hashInt (if b then 1 else 0)) { s with toks:=s.toks+1 }):wpAny (model prog w) A (PySem.pyHash (.bool b)) Q E s:=by
 have hr:=rawHash_range (if b then 1 else 0)
 unfold PySem.pyHash
 have hv:[Value.bool b].any Value.onHeap=false:=rfl
 refine ah ?_
 rw[cRoomFor,az (by rw[hv];exact bO)];refine ax ?_
 refine ah (fE (typeIs_bool s b) F.slot_bool_hash.lookup ?_)
 show wpAny _ _ (if (some (Value.builtin "int.__hash__")==some Value.none)=true then _ else _) Q E s
 rw[az (by rw[beq_builtin_none];exact bO)]
 refine ah (fE (typeIs_bool s b) F.slot_bool_hash.lookup ?_)
 show wpAny _ _ (callSpecialIfBoundUnlessNone? (.bool b) "__hash__" _ >>= _) Q E s
 refine ah (gy (typeIs_bool s b) F.slot_bool_hash
  (dw F.slot_bool_hash (typeIs_bool s b) entry_int_hash
   (show wpAny _ _ (do ret (<- mkInt (rawHash (if b then 1 else 0)))) _ _ s from ni ?_) (args_int_hash _)))
 show wpAny _ _ (if (decide (-(2:Int)^63<=rawHash (if b then 1 else 0))&&decide (rawHash (if b then 1 else 0)<2^63))=true then _ else _) Q E _
 rw[am (by rw[bH hr.1,bH hr.2];rfl)]
 exact ax h
end
def isBool:Bool->Value->Bool
 |b,.bool c=>b==c
 |_,_=>false
theorem gU           {b:Bool}  (h : isBool b v = true) : v = .bool b := by
  cases v with
  | bool c => have : b = c := by simpa [isBool] using h
              rw [this]
  | _ => cases h
def boolKind(prog:Program)(w:World):KeyKind prog w Bool where
 is:=isBool
 hash:=fun b=>hashInt (if b then 1 else 0)
 inj:=fun v a b ha hb=>by
  have h1:=gU ha
  have h2:=gU hb
  rw[h1]at h2
  injection h2
 byValue:=fun k v h=>by rw[gU h];rfl
 pyHash:=fun hv h=>by rw[gU hv];exact Dz h
 eqBool:=fun{A E s a b u v Q} hu hv h=>by
  rw[gU hu,gU hv]
  have:decide (a=b)=(a==b):=by cases a<;>cases b<;>rfl
  rw[this]at h
  exact SeqAt.EqAt.bool_bool a b _ _ _ _ h
 «strs»:=fun k x t v h=>by cases h
end PK
namespace L2
open PySem PySem.Spec PyProof.Rows
section
variable{w:World}{K:Type}[DecidableEq K]{knd:KeyKind prog w K}{es:List DictEntry}{k:K}{key dflt:Value}
theorem JB(se:knd.is k key=true)(d:DX a es s.heap)(hk:KeysOf knd es.toArray)
  (A_:∀e,(es.find? fun e=>knd.is k e.key)=some e->Q e.val { s with toks:=s.toks+1 })
  (rp:(es.find? fun e=>knd.is k e.key)=none->∀h',DX a (es++[⟨knd.hash k,key,dflt⟩]) h'->Heap.SameBut a s.heap h'->Q dflt { s with heap:=h',toks:=s.toks+1 })
  (hz:es.length<=sizeLine):wpAny (model prog w) A (dictSetDefault a key dflt) Q E s:=by
 obtain⟨o,ep,ho,hc,hd⟩:=d
 unfold dictSetDefault
 try with_reducible refine cC ?_
 refine ah (knd.pyHash se ?_)
 refine ah (wpAny_dictFind_of (s:={ s with toks:=s.toks+1 }) se ho hd hk ?_)
 have ef:(es.toArray.find? fun e=>knd.is k e.key)=es.find? fun e=>knd.is k e.key:=by simp
 cases hi:es.toArray.findIdx? fun e=>knd.is k e.key with
 |some i=>
  refine ah (lu (s:={ s with toks:=s.toks+1 }) ho hd ?_)
  have ny:i<es.toArray.size:=(Array.findIdx?_eq_some_iff_findIdx_eq.mp hi).1
  rw[Array.getElem?_eq_getElem ny]
  have hfi:(es.find? fun e=>knd.is k e.key)=some es.toArray[i]:=by
   have h1:es.findIdx? (fun e=>knd.is k e.key)=some i:=by rw[<- nD];exact hi
   obtain⟨h2,h3,h4⟩:=List.findIdx?_eq_some_iff_getElem.mp h1
   rw[List.find?_eq_some_iff_getElem]
   exact⟨h3,i,h2,by simp,fun j hj=>by simpa using h4 j hj⟩
  exact ah (hX (ax (A_ _ hfi)))
 |none=>
  have zP:(es.find? fun e=>knd.is k e.key)=none:=by
   have h1:es.findIdx? (fun e=>knd.is k e.key)=none:=by rw[<- nD];exact hi
   rw[hZ]
   intro x hx
   have:=kO.mp h1 x hx
   simpa using this
  refine ah (hX (ah (wpAny_updateDictKeys (hz:=by simpa using hz) (s:={ s with toks:=s.toks+1 }) ho hd (ax (rp zP _ ⟨_,ep+1,gv _ ho (Obj.isFreed_of_dict (gR hd _)),hc.mapDictKeys _,?_⟩ (cH ..))))))
  rw[gR hd]
  congr 1
  simp
theorem Ax(se:knd.is k key=true)(hd:(a==sysModules)=false) :
  MeetsIn prog w (Builtin.«dict.setdefault» ⟨[.ref a,key,dflt],[]⟩) (fun _ R s=>∃es,DX a es s.heap/\KeysOf knd es.toArray/\es.length<=sizeLine /\
   (∀e,(es.find? fun e=>knd.is k e.key)=some e->R (.ok (.ret e.val)) { s with toks:=s.toks+1 }) /\
   ((es.find? fun e=>knd.is k e.key)=none->∀h',DX a (es++[⟨knd.hash k,key,dflt⟩]) h'->Heap.SameBut a s.heap h'->R (.ok (.ret dflt)) { s with heap:=h',toks:=s.toks+1 })):=
 .of_wp fun A R s ⟨es,d,hk,hz,h1,h2⟩=>by
  have ht:s.TypeIs (.ref a) "dict":=let ⟨o,ep,e,c,_⟩:=d;⟨o,e,c.1⟩
  unfold Builtin.«dict.setdefault»
  refine ah ?_
  unfold Builtin.Dict.keyAndDefault
  refine ah (nC ht ?_)
  show wpAny _ _ (pure (a,key,some dflt)) _ _ s
  refine ax ?_
  show wpAny _ _ (if (a==sysModules)=true then _ else(dictSetDefault a key dflt >>= _)) _ _ s
  rw[az (by rw[hd];exact bO)]
  exact ah (JB se d hk (fun e he=>ax ⟨e.val,rfl,h1 e he⟩) (fun hn h' d' hs=>ax ⟨dflt,rfl,h2 hn h' d' hs⟩) hz)
end
section
def FF(kvs:List (KX×W))(k:KX):Bool:=decide (k.tag=0)&&(kvs.all fun p=>p.1.tag==0)&&decide (kvs.length<jw)
theorem Ay:∀{kvs:List (KX×W)} {es:List DictEntry},Paired (rR X.K μ H) kvs es->(kvs.all fun p=>p.1.tag==0)=true->∀e∈es,∃b,(PK.boolKind X.prog X.w).is b e.key=true/\e.hash=(PK.boolKind X.prog X.w).hash b
 |_,_,.nil,_=>fun e he=>by cases he
 |_,_,.cons (a:=p) (b:=e) r t,h=>fun e' he=>by
  rw[lH,a8]at h
  rcases aK.mp he with rfl|he
  ·obtain⟨hh,⟨v,rk,rv⟩,_⟩:=r
   obtain⟨pk,pw⟩:=p
   cases pk with
   |bo b=>
    cases be.blE rk
    have hk:_=Value.bool b:=rv
    exact⟨b,by rw[hk];simp[PK.boolKind,PK.isBool],hh⟩
   |fl _=>simp[KX.tag]at h
   |pr _ _=>simp[KX.tag]at h
  ·exact Ay t h.2 e' he
theorem wM(b:Bool):∀{kvs:List (KX×W)} {es:List DictEntry},Paired (rR X.K μ H) kvs es->(kvs.all fun p=>p.1.tag==0)=true ->
  (∃w e v,eQ kvs (.bo b)=some w/\(es.find? fun e=>(PK.boolKind X.prog X.w).is b e.key)=some e/\be X.K μ H w v/\bN v e.val)\/(eQ kvs (.bo b)=none/\(es.find? fun e=>(PK.boolKind X.prog X.w).is b e.key)=none)
 |_,_,.nil,_=>.inr ⟨rfl,rfl⟩
 |_,_,.cons (a:=p) (b:=e) (l₁:=kvs) (l₂:=es) r t,h=>by
  rw[lH,a8]at h
  obtain⟨hh,⟨v,rk,rv⟩,u,ru,kG⟩:=r
  obtain⟨pk,pw⟩:=p
  cases pk with
  |bo c=>
   cases be.blE rk
   have hek:e.key=.bool c:=rv
   by_cases z:c=b
   ·subst z
    refine .inl ⟨pw,e,u,?_,?_,ru,kG⟩
    ·unfold eQ;rw[bx];simp
    ·rw[bx,hek];simp[PK.boolKind,PK.isBool]
   ·have a1:eQ ((KX.bo c,pw)::kvs) (.bo b)=eQ kvs (.bo b):=by unfold eQ;rw[bx];simp[z]
    have a2:((e::es).find? fun e=>(PK.boolKind X.prog X.w).is b e.key)=es.find? fun e=>(PK.boolKind X.prog X.w).is b e.key:=by
     rw[bx,hek,show(PK.boolKind X.prog X.w).is b (.bool c)=false by simp[PK.boolKind,PK.isBool,Ne.symm z]]
    rw[a1,a2]
    exact wM b t h.2
  |fl _=>simp[KX.tag]at h
  |pr _ _=>simp[KX.tag]at h
end
section
variable{w:World}{es:List DictEntry}
theorem wN(hd:(a==sysModules)=false):MeetsIn prog w (Builtin.«dict.__len__» ⟨[.ref a],[]⟩) (fun _ R s=>∃es,DX a es s.heap/\R (.ok (.ret (.int es.length s.toks))) { s with toks:=s.toks+1 }):=
 .of_wp fun A R s ⟨es,⟨o,ep,ho,hc,hdat⟩,h⟩=>by
  show wpAny _ _ (dictSize a >>= _) _ _ s
  unfold dictSize
  refine ah (ah (lu ho hdat (ax ?_)))
  show wpAny _ _ (Builtin.Dict.pendingCount a >>= _) _ _ s
  refine ah (wpAny_pendingCount_other hd ?_)
  refine ni ?_
  rw[iz,aH];exact h
theorem yQ(hd:(a==sysModules)=false)(d:DX a es s.heap)(OO:(es.length:Int)<2^63)(h:Q (.int es.length (s.toks+1)) { s with toks:=s.toks+1+1 }):wpAny (model prog w) A (call (.builtin "len") [.ref a]) Q E s:=by
 have ht:s.TypeIs (.ref a) "dict":=let ⟨o,ep,e,c,_⟩:=d;⟨o,e,c.1⟩
 refine kL kind_len plain_len entry_len (args_len1 _) ?_
 unfold Builtin.«len»
 refine ah (m:=oneArg "len" _) (ax ?_)
 refine ah (m:=callSpecial? (.ref a) (Str.ofString "__len__")) (du (name:=Str.ofString "__len__") ht F.slot_dict_len
  (jL F.slot_dict_len ht F.entry_dict_len (F.args_dict_len_1 _) (wN hd) ⟨es,d,?_⟩))
 show wpAny _ _ _ _ _ { s with toks:=s.toks+1 }
 refine ah (cC (ax ?_))
 refine ah (lp ?_)
 show wpAny _ _ (if ((es.length:Nat):Int)<0 then _ else _) _ _ _
 rw[az (by omega)]
 show wpAny _ _ (if ((es.length:Nat):Int)≥2^63 then _ else _) _ _ _
 rw[az (by omega)]
 exact ah (wpAny_mkInt (ax ⟨_,rfl,h⟩))
end
section
theorem Q5{st:List aj}{es:List DictEntry}(D:Dc X μ H s st n kvs a es)(h:(kvs.all fun p=>p.1.tag==0)=true):s.heap.MapOf (PK.boolKind X.prog X.w) a (findBy (PK.boolKind X.prog X.w).is es.toArray):=by
 obtain⟨o,ep,h1,h2,h3⟩:=D.d
 exact⟨o,_,ep,h1,h2,h3,fun e he=>Ay D.p h e (by simpa using he),fun _=>rfl⟩
theorem KZ{k:KX}(h:FF kvs k=true):(∃b,k=.bo b)/\(kvs.all fun p=>p.1.tag==0)=true/\kvs.length<=sizeLine:=by
 unfold FF at h
 rw[a8,a8,bn,bn]at h
 refine⟨?_,h.1.2,iN (df h.2)⟩
 cases k with
 |bo b=>exact⟨b,rfl⟩
 |fl _=>simp[KX.tag]at h
 |pr _ _=>simp[KX.tag]at h
def FH(x y:W)(st:List aj):R W:=match cV st x,j6 y with
 |some (_,kvs),some k=>if (r6 kvs k||FF kvs k)=true then oN (eQ kvs k) fun w=>.ok w st else .bad
 |_,_=>.bad
theorem Q6{a b:Expr}{pos:Pos}(hr:fY kk X.A)(ha:SE X a fa)(hb:SE X b fb)(hs:EE b:=by intro _ _;rfl):SE X (.Subscript a b pos) (e2 FH fa fb):=⟨(Jz ha.h hb.h hs).imp fun σ H Q h=>by
 obtain⟨μ,ρ,st,l,h⟩:=h
 refine⟨μ,ρ,st,l,RK.bind h l fun μ1 st1 x v H1 p1 x1 l1 q1 h1=>⟨μ1,ρ,st1,l1,RK.bind h1 l1 fun μ2 cM y u H2 p2 x2 l2 q2 h2=>?_⟩⟩
 unfold FH at h2
 cases e1:cV cM x with
 |none=>rw[e1]at h2;exact h2.elim
 |some nk=>
  obtain⟨n,kvs⟩:=nk
  cases e2:j6 y with
  |none=>rw[e1,e2]at h2;exact h2.elim
  |some k=>
   rw[e1,e2]at h2
   simp only at h2
   by_cases hx:(r6 kvs k||FF kvs k)=true
   ·rw[am hx]at h2
    have:=tQ e2
    subst this
    obtain⟨a,ea,_⟩:=tV l2.sto e1 (q1.mono p2 x2)
    refine⟨a,ea,fun pins σ s iv E Qv I ry hq=>?_⟩
    obtain⟨a',es,ea',D⟩:=j7 I l2.sto e1 (q1.mono p2 x2)
    rw[ea]at ea'
    cases ea'
    refine⟨lT D,?_⟩
    rw[fF]at hx
    rcases hx with hx|hx
    ·refine yO I D hx q2 ry fun K inst G z b xs hk hv hb uC xd vw=>?_
     subst hk;subst hb
     rcases mD z vw with⟨w,p,v',g1,g2,g3,g4⟩|⟨g1,g2⟩
     ·rw[g1]at h2
      exact Q2 (G.room (by have:=hr.units;omega)) I xd uC g2 fun s' I'=>hq v' _ s' I' g4 (h2 μ2 v' H2 (ag _) dB.refl l2.sto g3)
     ·rw[g1]at h2;exact h2.elim
    ·obtain⟨⟨b,rfl⟩,l7,_⟩:=KZ hx
     cases be.blE q2
     obtain rfl:iv=Value.bool b:=ry
     rcases wM b D.p l7 with⟨w,e,v',g1,g2,g3,g4⟩|⟨g1,g2⟩
     ·rw[g1]at h2
      refine l_ (knd:=PK.boolKind X.prog X.w) (k:=b) (by simp[PK.boolKind,PK.isBool]) (Q5 D l7) (v:=e.val) ?_ (hq v' _ _ (I.tok _) g4 (h2 μ2 v' H2 (ag _) dB.refl l2.sto g3))
      unfold findBy
      rw[show(es.toArray.find? fun e=>(PK.boolKind X.prog X.w).is b e.key)=es.find? fun e=>(PK.boolKind X.prog X.w).is b e.key by simp,g2];rfl
     ·rw[g1]at h2;exact h2.elim
   ·rw[az hx]at h2;exact h2.elim⟩
def wO(fo fk fd:FE):FE:=fun ρ st=>(fo ρ st).bind fun x st=>match cV st x with
 |some _=>(fk ρ st).bind fun y st=>(fd ρ st).bind fun z st=>(match cV st x,j6 y with
  |some (n,kvs),some k=>if (r6 kvs k||FF kvs k)=true then(match eQ kvs k with
   |some w=>.ok w st
   |none=>.ok z (st.set n (.dcx (iG kvs k z))))else .bad
  |_,_=>.bad)
 |none=>.bad
theorem JC{o f:Expr}{fd:FE}(hr:fY kk X.A)(ho:SE X o fo)(he:SE X e fe)(hf:SE X f fd)(m:M2 X o "setdefault" fI e f c8:=by exact⟨by rfl,by rfl,by rfl,by rfl⟩):SE X (.Call (.Attribute o "setdefault" fI) [e,f] [] c8) (wO fo fe fd):=⟨(FD ho.h he.h hf.h m).imp fun σ H Q h=>by
 obtain⟨μ,ρ,st,l,h⟩:=h
 refine⟨μ,ρ,st,l,RK.bind h l fun μ1 st1 x v H1 p1 x1 l1 q1 h1=>?_⟩
 cases e0:cV st1 x with
 |none=>rw[e0]at h1;exact h1.elim
 |some nk0=>
  rw[e0]at h1
  simp only at h1
  obtain⟨a0,ea0,_⟩:=tV l1.sto e0 q1
  refine⟨tV l1.sto e0 q1,μ1,ρ,st1,l1,RK.bind h1 l1 fun μ2 cM y u H2 p2 x2 l2 q2 h2=>⟨μ2,ρ,cM,l2,RK.bind h2 l2 fun μ3 i5 dW t H3 p3 x3 l3 q3 h3=>?_⟩⟩
  cases e1:cV i5 x with
  |none=>rw[e1]at h3;exact h3.elim
  |some nk=>
   obtain⟨n,kvs⟩:=nk
   cases e2:j6 y with
   |none=>rw[e1,e2]at h3;exact h3.elim
   |some k=>
    rw[e1,e2]at h3
    simp only at h3
    by_cases hx:(r6 kvs k||FF kvs k)=true
    ·rw[am hx]at h3
     have:=tQ e2
     subst this
     refine⟨a0,ea0,fun pins σ s iv r E Qv I ry rz hq=>?_⟩
     obtain⟨a',es,ea,D⟩:=j7 I l3.sto e1 ((q1.mono p2 x2).mono p3 x3)
     rw[ea0]at ea
     cases ea
     rw[fF]at hx
     rcases hx with hx|hx
     ·refine yO I D hx (q2.mono p3 x3) ry fun K inst G z b xs hk hv hb uC xd vw=>?_
      subst hk;subst hb
      refine jL PySem.F.slot_dict_setdefault (lT D) PySem.F.entry_dict_setdefault (PySem.F.args_dict_setdefault_3 _ _ _) (PK.meets_setdefault (knd:=G.knd) a0 b xd.sm r) ⟨G.room (by have:=hr.units;omega),z,xs,uC,yM xd.d xd.is xd.nd,xd.z,?_,?_⟩
      ·intro p hp
       rcases mD z vw with⟨w,p',v',g1,g2,g3,g4⟩|⟨g1,g2⟩
       ·rw[g1]at h3
        rw[g2]at hp;cases hp
        exact hq v' _ _ _ (I.tok _) g4 (h3 μ3 v' H3 (ag _) dB.refl l3.sto g3)
       ·rw[g2]at hp;cases hp
      ·intro hn h' dd hs
       rcases mD z vw with⟨w,p',v',g1,g2,g3,g4⟩|⟨g1,g2⟩
       ·rw[g2]at hn;cases hn
       ·rw[g1]at h3
        have d:=BS dd
        have I':=mv (t':=s.toks+G.knd.draws z) I xd.mu hs (let ⟨q,_,hq,_⟩:=d;⟨q,hq⟩) (Aw d)
        rw[<- storedH_new g2 b r]at I'
        exact hq t _ _ _ I' rz (h3 μ3 t _ (ag _) (D.sq _) (D.put l3.sto vw (by have:=q2.mono p3 x3;rw[hv]at this;exact this) q3 rz) (q3.mono (ag _) (D.sq _)))
     ·obtain⟨⟨b,rfl⟩,l7,dk⟩:=KZ hx
      cases be.blE q2
      obtain rfl:iv=Value.bool b:=ry
      refine jL PySem.F.slot_dict_setdefault (lT D) PySem.F.entry_dict_setdefault (PySem.F.args_dict_setdefault_3 _ _ _) (Ax (knd:=PK.boolKind X.prog X.w) (k:=b) (by simp[PK.boolKind,PK.isBool]) D.sm) ⟨es,D.d,fun e he=>Ay D.p l7 e (by simpa using he),by rw[<- Paired.length D.p];exact dk,?_,?_⟩
      ·intro e he
       rcases wM b D.p l7 with⟨w,e',v',g1,g2,g3,g4⟩|⟨g1,g2⟩
       ·rw[g1]at h3
        rw[g2]at he;cases he
        exact hq v' _ _ _ (I.tok _) g4 (h3 μ3 v' H3 (ag _) dB.refl l3.sto g3)
       ·rw[g2]at he;cases he
      ·intro hn h' d hs
       rcases wM b D.p l7 with⟨w,e',v',g1,g2,g3,g4⟩|⟨g1,g2⟩
       ·rw[g2]at hn;cases hn
       ·rw[g1]at h3
        have I':=mv (t':=s.toks+1) I D.mu hs (let ⟨q,_,hq,_⟩:=d;⟨q,hq⟩) (Aw d)
        obtain⟨c,hc,ux⟩:=D.c
        obtain⟨o,ho,hf,hg⟩:=D.o
        have ep:iG kvs (.bo b) dW=kvs++[(.bo b,dW)]:=by unfold iG;rw[g1];rfl
        have S':=l3.sto.setG (c':=.dcx (iG kvs (.bo b) dW)) hc ux D.m ho hf hg (D.sq (es++[⟨(PK.boolKind X.prog X.w).hash b,.bool b,r⟩])) rfl ⟨_,dD,D.sm,by
         rw[ep]
         exact Paired.snoc (Paired.imp' (fun _ _ q=>q.mono (ag _) (D.sq _)) D.p) ⟨rfl,⟨_,.bl,rfl⟩,_,q3.mono (ag _) (D.sq _),rz⟩,BW _ _ D.nd⟩
        exact hq t _ _ _ I' rz (h3 μ3 t _ (ag _) (D.sq _) S' (q3.mono (ag _) (D.sq _)))
    ·rw[az hx]at h3;exact h3.elim⟩
def vz(ws:List W)(st:List aj):R W:=match ws with
 |[x]=>(match cV st x with
  |some (_,kvs)=>if kvs.length<=jw then .ok (.int kvs.length) st else .bad
  |none=>cU ws st)
 |_=>cU ws st
theorem Ny:m3 X (.builtin "len") vz:=⟨fun pins s σ H vs us Q I rv ⟨μ,st,ws,S,r,q⟩=>by
 unfold vz at q
 split at q
 ·rename_i x
  split at q
  ·rename_i n kvs e
   split at q
   ·rename_i hl
    obtain⟨y,rfl,ry⟩:=r.one
    obtain⟨a,es,rfl,D⟩:=j7 I S e ry
    obtain⟨u,rfl,ru⟩:=kQ rv
    obtain rfl:u=Value.ref a:=ru
    have Kz:es.length=kvs.length:=(Paired.length D.p).symm
    refine yQ D.sm D.d (by rw[Kz];have:kvs.length<=1000000:=hl;omega) ?_
    refine⟨.int kvs.length,H,I.tok _,⟨_,by rw[Kz]⟩,?_⟩
    exact q μ _ H (ag _) dB.refl S .int
   ·exact q.elim
  ·exact jW.h pins s σ H _ us Q I rv ⟨μ,st,_,S,r,q⟩
 ·exact jW.h pins s σ H _ us Q I rv ⟨μ,st,_,S,r,q⟩,fun ws st=>by
 unfold vz
 split
 ·split
  ·split<;>trivial
  ·exact(jW (X:=X)).n _ st
 ·exact(jW (X:=X)).n _ st⟩
end
open AutoSeq1 (wpAny_loadPart')
section
variable{w:World}
end
section
end
section
variable{a:Expr}{fs:FA}
end
section
theorem nP:∀{ys:List Int} {bC:List Value},cA (ys.map V.int) bC->IntsAre bC ys
 |[],_,r=>by cases r;exact .nil
 |y::ys,_,r=>by
  cases r with
  |cons r rr=>
   obtain⟨t,rfl⟩:=r
   exact .cons _ _ (nP rr)
theorem tX:∀{bC:List Value} {ns:List Int},IntsAre bC ns->cA (ns.map V.int) bC
 |_,_,.nil=>.nil
 |_,_,.cons y t r=>.cons ⟨t,rfl⟩ (tX r)
theorem DA(l:List Int):RelWs K μ H (l.map W.int) (l.map V.int):=by
 induction l with
 |nil=>exact .nilI
 |cons a r ih=>exact .consI .int ih
def pq(ws:List W)(st:List aj):R W:=match ws with
 |[.loc n]=>oN (lstOf st n) fun zs=>oN (eX zs) fun l=>if l.length<64 then .ok (.loc st.length) (st++[.lst ((sortI l).map W.int)])else .bad
 |_=>.bad
theorem JD:m3 X (.builtin "sorted") pq:=⟨fun pins s σ H vs us Q I rv ⟨μ,st,ws,S,r,q⟩=>by
 unfold pq at q
 split at q
 ·rename_i n
  obtain⟨y,rfl,ry⟩:=r.one
  cases e1:lstOf st n with
  |none=>rw[e1]at q;exact q.elim
  |some zs=>
   rw[e1,cp]at q
   cases e2:eX zs with
   |none=>rw[e2]at q;exact q.elim
   |some l=>
    rw[e2,cp]at q
    split at q
    ·rename_i c
     obtain⟨a,vs,g,hS,rz⟩:=S.lstOf e1
     obtain⟨b1,f1,rfl⟩:=ry.locE
     rw[g]at f1;cases f1
     have ev:=lR e2 rz
     subst ev
     obtain⟨u,rfl,ru⟩:=kQ rv
     cases ru
     obtain⟨bC,rv',pl,hz⟩:=I.list hS
     have hl:=rv'.length
     rw[ai]at hl
     refine sorted_ints (ns:=l) pl.isList (nP (by simpa using rv')) (by omega) fun out Pe h1 h2 h3=>?_
     have en:=PySem.W.eq_sortI h2 h3
     subst en
     obtain⟨ep,hat⟩:=sortedAll_at s.heap bC out
     have rq:H (s.heap.objs.size+1)=none:=I.hok.fresh (ie _)
     refine⟨.ref (s.heap.objs.size+1),_,I.laid (o:=.lst ((sortI l).map V.int)) (t':=s.toks) (fun b o e=>sortedAll_old e) (ie _) ?_,rfl,q (μ++[s.heap.objs.size+1]) _ _ (aq _ _) (fq.same (ce rq _)) (S.newLst rq (DA _)) (mz S)⟩
     refine⟨?_,out.toList,ep,tX h1,hat⟩
     rw[ai,h2.length_eq]
     exact a_ (df c) (by decide)
    ·exact q.elim
 ·exact q.elim,fun ws st=>by
 unfold pq
 split
 ·exact kT fun _=>kT fun _=>by split<;>trivial
 ·trivial⟩
end
section
end
section
end
section
end
theorem wP{w:World}(e:h.get? a=some o):dR P w H h a (lM a o):=⟨e,⟨o,e⟩,fun h1 h2 p k=>k o p⟩
theorem DB{u:Option Value}(e:h.get? a=some o)(hd:o.data=.cell u)(q:Str):lM a o≠iH a q:=fun z=>by
 have:=congrFun (HO.ext.inj z) h
 have t:∃o' vs t,h.get? a=some o'/\o'.data=.fields vs/\vs[1]?=some (.str q t):=cast this e
 obtain⟨o',vs,_,e1,e2,_⟩:=t
 rw[e]at e1;cases e1;rw[hd]at e2;cases e2
def drp(H:Hp)(c:Addr):Hp:=fun b=>if b=c then none else H b
theorem ly{c:Addr}(h:b≠c):drp H c b=H b:=by unfold drp;rw[az h]
theorem qi{c:Addr}:drp H c c=none:=by unfold drp;rw[am rfl]
section
variable{st:List aj}{w:World}
theorem dB.drp{c:Addr}(hl:H c=some (.ext φ)):dB K H (drp H c):=by
 have mJ:∀{p:Addr} {o:HO},H p=some o->(∀z,o≠.ext z)->p≠c:=fun{p o} q hn z=>by subst z;rw[hl]at q;cases q;exact hn _ rfl
 refine⟨fun p ys h=>?_,fun b o u h=>by rw[ly (mJ h (fun _ z=>by cases z))];exact h⟩
 rcases h with(h|⟨o,h⟩)|h
 ·exact .inl (.inl (by rw[ly (mJ h (fun _ z=>by cases z))];exact h))
 ·exact .inl (.inr ⟨o,by rw[ly (mJ h (fun _ z=>by cases z))];exact h⟩)
 ·exact .inr h
theorem kF.drp{c:Addr}(hok:kF P w H h)(hl:H c=some (.ext φ)):kF P w (drp H c) h:=fun b u e=>by
 by_cases hb:b=c
 ·subst hb;rw[qi]at e;cases e
 ·rw[ly hb]at e
  refine(hok b u e).stay (fun _ _ _ q=>q) (fun x q=>?_) fun x xs q=>?_
  ·rw[ly (by rintro rfl;rw[hl]at q;cases q)];exact q
  ·rw[ly (by rintro rfl;rw[hl]at q;cases q)];exact q
theorem kF.put{c:Addr}(hok:kF P w H h)(hc:H c=none)(e:h.get? c=some o):kF P w (d_ H c (lM c o)) h:=fun b u q=>by
 by_cases hb:b=c
 ·subst hb;rw[dD]at q;cases q;exact wP e
 ·rw[cu hb]at q
  refine(hok b u q).stay (fun _ _ _ z=>z) (fun x z=>?_) fun x xs z=>?_
  ·rw[cu (by rintro rfl;rw[hc]at z;cases z)];exact z
  ·rw[cu (by rintro rfl;rw[hc]at z;cases z)];exact z
theorem mE{l:List α}{x d:α}(e:(l.set j x)[i]?=some d):(i=j/\d=x/\j<l.length)\/(i≠j/\l[i]?=some d):=by
 by_cases q:j=i
 ·subst q
  have hl:j<l.length:=by have:=(aa.mp e).1;simpa using this
  rw[bh hl]at e
  exact .inl ⟨rfl,(aU e).symm,hl⟩
 ·rw[bp q]at e;exact .inr ⟨Ne.symm q,e⟩
theorem fX.hide{k:Bool}{c:Addr}{x:W}{u:Option Value}(S:fX K mg μ st H)(hj:st[j]?=some (.pin k c o x))(e:h.get? c=some o)(hd:o.data=.cell u):fX K mg μ (st.set j .gone) (L2.drp H c):=by
 obtain⟨a,hm,rfl,hc,_⟩:=S.get hj
 have xt:dB K H (L2.drp H a):=dB.drp hc
 refine⟨fun i i' b ci cj h1 h2 r1 r2 m1 m2=>?_,by simp[S.len],fun i d b h1 h2=>?_⟩
 ·rcases mE h1 with⟨rfl,rfl,_⟩|⟨_,h1⟩
  ·cases r1
  ·rcases mE h2 with⟨rfl,rfl,_⟩|⟨_,h2⟩
   ·cases r2
   ·exact S.nd i i' b ci cj h1 h2 r1 r2 m1 m2
 ·rcases mE h1 with⟨rfl,rfl,_⟩|⟨Sv,h1⟩
  ·trivial
  ·have r:=S.at' i d b h1 h2
   by_cases hrd:d.isRo=true
   ·cases d with
    |ro zs=>
     obtain⟨us,p,q⟩:=r
     refine⟨us,?_,q.mono (ag _) xt⟩
     rcases p with⟨o2,p⟩|p
     ·exact .inl ⟨o2,xt.z _ _ _ p⟩
     ·exact .inr p
    |gone=>trivial
    |lst _=>cases hrd
    |exc _=>cases hrd
    |dct _=>cases hrd
    |rod _=>cases hrd
    |dcx _=>cases hrd
    |tab _ _ _=>cases hrd
    |pin _ _ _ _=>cases hrd
   ·have hb:b≠a:=by
     rintro rfl
     exact Sv (S.nd i j b d _ h1 hj (by simpa using hrd) rfl h2 hm)
    refine r.keep (ag _) xt (fun o' ho=>by rw[ly hb];exact ho) fun b' q z=>?_
    rw[ly (by rintro rfl;rw[hc]at z;exact DB e hd _ (aU z))];exact z
theorem fX.take'{c:Addr}{x:W}{v:V}(S:fX K mg μ st H)(hj:st[j]?=some .gone)(hm:μ[j]?=some c)(hc:H c=none)(rx:be K μ H x v)(hd:∃u,o.data=.cell (some u)/\bN v u):fX K mg μ (st.set j (.pin true c o x)) (d_ H c (lM c o)):=by
 have hs:oE H (d_ H c (lM c o)):=ce hc _
 have S':=S.same hs
 refine⟨fun i i' b ci cj h1 h2 r1 r2 m1 m2=>?_,by simp[S.len],fun i d b h1 h2=>?_⟩
 ·rcases mE h1 with⟨y1,y2,_⟩|⟨hi,g1⟩
  ·rcases mE h2 with⟨z1,_,_⟩|⟨hi2,g2⟩
   ·rw[y1,z1]
   ·rw[y1,hm]at m1;cases m1
    obtain⟨o',z⟩:=(S.at' i' cj c g2 m2).ro_ne r2
    rw[hc]at z;cases z
  ·rcases mE h2 with⟨z1,_,_⟩|⟨_,g2⟩
   ·rw[z1,hm]at m2;cases m2
    obtain⟨o',z⟩:=(S.at' i ci c g1 m1).ro_ne r1
    rw[hc]at z;cases z
   ·exact S.nd i i' b ci cj g1 g2 r1 r2 m1 m2
 ·rcases mE h1 with⟨rfl,rfl,_⟩|⟨_,h1⟩
  ·rw[hm]at h2;cases h2
   exact⟨rfl,dD,(fun z=>by cases z),v,rx.mono (ag _) (fq.same hs),fun _=>hd⟩
  ·exact S'.at' i d b h1 h2
abbrev i7:=Nat×Addr×Obj×W
def qj:List Nat->List aj->Option (List i7×List aj)
 |[],st=>some ([],st)
 |j::js,st=>match st[j]? with
  |some (.pin true c o x)=>(match qj js (st.set j .gone)with
   |some (l,bE)=>some ((j,c,o,x)::l,bE)
   |none=>none)
  |_=>none
def mF:List i7->Hp->Hp
 |[],H=>H
 |x::l,H=>mF l (drp H x.2.1)
theorem il:∀{l:List i7} {H:Hp} {b:Addr},(∀x∈l,x.2.1≠b)->mF l H b=H b
 |[],_,_,_=>rfl
 |x::l,H,b,n=>by
  show mF l (drp H x.2.1) b=_
  rw[il fun y hy=>n y (aA _ hy),ly (Ne.symm (n x aN))]
theorem si{l:List i7}(h:∃x∈l,x.2.1=b):mF l H b=none:=by
 induction l generalizing H with
 |nil=>obtain⟨y,hy,_⟩:=h;exact absurd hy (by simp)
 |cons x l ih=>
  unfold mF
  by_cases q:∃z∈l,z.2.1=b
  ·exact ih q
  ·rw[il fun z hz e'=>q ⟨z,hz,e'⟩]
   obtain⟨y,hy,e⟩:=h
   rcases aK.mp hy with r|r
   ·rw[<- e,r];exact qi
   ·exact absurd ⟨y,r,e⟩ q
def yR(K:Frag)(μ:List Addr)(H:Hp)(h:Heap)(x:i7):Prop:=μ[x.1]?=some x.2.1/\h.get? x.2.1=some x.2.2.1/\∃u v,x.2.2.1.data=.cell (some u)/\bN v u/\be K μ H x.2.2.2 v
theorem tY:∀{js:List Nat} {st bE:List aj} {H:Hp} {l:List i7},fX K mg μ st H->kF P w H h->qj js st=some (l,bE) ->
  fX K mg μ bE (mF l H)/\kF P w (mF l H) h/\dB K H (mF l H)/\(∀x∈l,yR K μ (mF l H) h x/\H x.2.1=some (lM x.2.1 x.2.2.1))/\(l.map fun x=>x.2.1).Nodup
 |[],st,bE,H,l,S,hok,e=>by cases e;exact⟨S,hok,dB.refl,fun _ z=>absurd z (by simp),kA⟩
 |j::js,st,bE,H,l,S,hok,e=>by
  unfold qj at e
  split at e
  ·rename_i c o x hj
   split at e
   ·rename_i l1 st1 h1
    cases e
    obtain⟨a,hm,rfl,hc,_,v,rx,g⟩:=S.get hj
    obtain⟨u,hu,ru⟩:=g rfl
    obtain⟨ge,_⟩:=hok _ _ hc
    have x1:dB K H (L2.drp H a):=dB.drp hc
    obtain⟨r1,r2,r3,r4,r5⟩:=tY (S.hide hj ge hu) (hok.drp hc) h1
    refine⟨r1,r2,x1.trans r3,fun y hy=>?_,bF.mpr ⟨fun z=>?_,r5⟩⟩
    ·rcases aK.mp hy with rfl|hy
     ·exact⟨⟨hm,ge,u,v,hu,ru,rx.mono (ag _) (x1.trans r3)⟩,hc⟩
     ·obtain⟨q1,q2⟩:=r4 y hy
      refine⟨q1,?_⟩
      by_cases hb:y.2.1=a
      ·rw[hb,qi]at q2;cases q2
      ·rw[ly hb]at q2;exact q2
    ·obtain⟨y,hy,e2⟩:=ar.mp z
     have:=(r4 y hy).2
     rw[show y.2.1=a from e2,qi]at this;cases this
   ·cases e
  ·cases e
def Az:List i7->List aj->Option (List aj)
 |[],st=>some st
 |(j,c,o,x)::l,st=>match st[j]? with
  |some .gone=>Az l (st.set j (.pin true c o x))
  |_=>none
def py:List i7->Hp->Hp
 |[],H=>H
 |x::l,H=>py l (d_ H x.2.1 (lM x.2.1 x.2.2.1))
theorem fR:∀{l:List i7} {H:Hp} {b:Addr},(∀x∈l,x.2.1≠b)->py l H b=H b
 |[],_,_,_=>rfl
 |x::l,H,b,n=>by
  show py l (d_ H x.2.1 _) b=_
  rw[fR fun y hy=>n y (aA _ hy),cu (Ne.symm (n x aN))]
theorem BX:∀{l:List i7} {st bE:List aj} {H:Hp},fX K mg μ st H->kF P w H h->(∀x∈l,yR K μ H h x/\H x.2.1=none)->(l.map fun x=>x.2.1).Nodup->Az l st=some bE ->
  fX K mg μ bE (py l H)/\kF P w (py l H) h/\dB K H (py l H)
 |[],st,bE,H,S,hok,_,_,e=>by cases e;exact⟨S,hok,dB.refl⟩
 |(j,c,o,x)::l,st,bE,H,S,hok,ha,nd,e=>by
  unfold Az at e
  split at e
  ·rename_i hj
   obtain⟨⟨m,g,u,v,d,ru,rx⟩,hn⟩:=ha _ aN
   have hs:oE H (d_ H c (lM c o)):=ce hn _
   have x1:dB K H (d_ H c (lM c o)):=fq.same hs
   have ha':∀y∈l,yR K μ (d_ H c (lM c o)) h y/\d_ H c (lM c o) y.2.1=none:=fun y hy=>by
    obtain⟨⟨m',g',u',v',d',ru',rx'⟩,hn'⟩:=ha y (aA _ hy)
    refine⟨⟨m',g',u',v',d',ru',rx'.mono (ag _) x1⟩,?_⟩
    rw[cu fun z=>(bF.mp nd).1 (ar.mpr ⟨y,hy,z⟩)];exact hn'
   obtain⟨r1,r2,r3⟩:=BX (l:=l) (S.take' hj m hn rx ⟨u,d,ru⟩) (hok.put hn g) ha' (bF.mp nd).2 e
   exact⟨r1,r2,x1.trans r3⟩
  ·cases e
def ia:List i7->List aj:=fun l=>l.map fun x=>.pin true x.2.1 x.2.2.1 x.2.2.2
theorem yS:∀{l:List i7} {st:List aj} {μ:List Addr} {H:Hp},fX K mg μ st H->kF P w H h->(∀x∈l,H x.2.1=none/\h.get? x.2.1=some x.2.2.1/\∃u v,x.2.2.1.data=.cell (some u)/\bN v u/\be K μ H x.2.2.2 v)->(l.map fun x=>x.2.1).Nodup ->
  fX K mg (μ++l.map fun x=>x.2.1) (st++ia l) (py l H)/\kF P w (py l H) h/\dB K H (py l H)
 |[],st,μ,H,S,hok,_,_=>by simp only[ia,dg,bP];exact⟨S,hok,dB.refl⟩
 |(j,c,o,x)::l,st,μ,H,S,hok,ha,nd=>by
  obtain⟨hn,g,u,v,d,ru,rx⟩:=ha _ aN
  have hs:oE H (d_ H c (lM c o)):=ce hn _
  have x1:dB K H (d_ H c (lM c o)):=fq.same hs
  have S1:fX K mg (μ++[c]) (st++[.pin true c o x]) (d_ H c (lM c o)):=S.push hn ⟨rfl,dD,(fun z=>by cases z),v,rx.mono (aq _ _) x1,fun _=>⟨u,d,ru⟩⟩
  obtain⟨r1,r2,r3⟩:=yS (l:=l) S1 (hok.put hn g) (fun y hy=>by
   obtain⟨hn',g',u',v',d',ru',rx'⟩:=ha y (aA _ hy)
   refine⟨?_,g',u',v',d',ru',rx'.mono (aq _ _) x1⟩
   rw[cu fun z=>(bF.mp nd).1 (ar.mpr ⟨y,hy,z⟩)];exact hn') (bF.mp nd).2
  rw[aw,aw]at r1
  exact⟨r1,r2,x1.trans r3⟩
end
section
theorem DC{P c:Addr}{q:Str}{pr:Arguments}{fl:Nat}{ps:Array Value}(lZ:X.env.code=.ref c)(Kv:codeHdIn X.K c P=true)(hB:rY X.base X.mg)
  (kK:closureFor sc X.env=pure cl) (I:bv X pins σ H s) (hP:H P=some (.tbl ps)) (ht:TriplesOk ps.toList) (OQ:codeAmong pos ps.toList=none\/∃cd,codeAmong pos ps.toList=some (.ref cd)/\H cd=some (iH cd q))
  (h:∀f cd jb ct h' t H',((codeAmong pos ps.toList=none/\H cd=none/\H'=tM H P cd q ps pos)\/H'=H)->H' f=none->H' cd=some (iH cd q) ->
   bv X pins σ (d_ H' f (lM f (fnMade name q pr body sc cl jb ((X.mg "__name__").getD .none) cd ct))) { s with heap:=h',toks:=t }->Q (.ref f) { s with heap:=h',toks:=t }) :
  wpAny (model X.prog X.w) X.A (makeFunction name q pr (.stmts body) sc X.env [] [] [] pos fl) Q E s:=by
 have hPo:s.heap.get? P=some { cls:=.none,data:=.fields ps }:=I.hok P _ hP
 have hgs:s.heap.Ns mainGlobals X.mg:=I.mod.glob.keeps I.bk
 have hgP:mainGlobals≠P:=fun z=>by
  obtain⟨o,es,ep,e,hd,_⟩:=hgs
  rw[z,hPo]at e;cases e;cases hd
 obtain⟨bm,ob,b1,b2,b4,b5,b6,b7⟩:=hB
 have b4':=I.bk _ _ b4
 have hbP:bm≠P:=fun z=>by rw[z,hPo]at b4';cases b4';cases b5
 have b3:bm≠mainGlobals:=fun z=>by
  obtain⟨o,es,ep,e,hd,_⟩:=hgs
  rw[z,e]at b4';cases b4';rw[b7]at hd;cases hd
 have hb:s.heap.BuiltinsAt X.mg P:=⟨bm,ob,b1,b2,b3,hbP,b4',b5,b6,b7⟩
 have CH:=PySem.W.codeHd_of_K I.kIn Kv
 rcases OQ with hn|⟨cd,hhit,hH⟩
 ·refine PySem.W.makeFunction_K (mg:=X.mg) kK I.ok.glob hgs lZ CH hPo ht hn hgP hb fun cd ct jb h' tk hx Ih ny A7 Pn=>?_
  have hcdn:H cd=none:=I.hok.fresh Ih
  have hPc:P≠cd:=fun z=>by rw[z,hcdn]at hP;cases hP
  have I1:=I.tabbed (t':=tk) hP Ih (fun b o hb e=>hx b o hb e) A7 Pn
  have I2:=bv.laid (t':=tk) (o:=lM h'.objs.size (fnMade name q pr body sc cl jb ((X.mg "__name__").getD .none) cd ct)) I1 (fun b u e=>ao _ e) (au _) (wP (aT _ rfl))
  exact h _ cd jb ct _ tk _ (.inl ⟨hn,hcdn,rfl⟩) (I1.hok.fresh (au _)) (wI hPc) I2
 ·refine PySem.W.makeFunction_hit (mg:=X.mg) kK I.ok.glob hgs lZ CH hPo ht hhit hb fun ct jb h' tk hk hsz=>?_
  have I1:=I.kept (t':=tk) hk
  have I2:=bv.laid (t':=tk) (o:=lM h'.objs.size (fnMade name q pr body sc cl jb ((X.mg "__name__").getD .none) cd ct)) I1 (fun b u e=>ao _ e) (au _) (wP (aT _ rfl))
  exact h _ cd jb ct _ tk _ (.inr rfl) (I1.hok.fresh (au _)) hH I2
end
def Nz(name q:Str)(pr:Arguments)(body:List Stmt)(sc:Scope)(xs:List Str)(o:Obj):Prop:=∃cl jb pm cd ct,cl.map (·.1)=xs/\(cl.map (·.2)).Nodup/\o=fnMade name q pr body sc cl jb pm cd ct
def NA(X:Cx)(name q:Str)(pr:Arguments)(body:List Stmt)(sc:Scope)(o:Obj):Prop:=∃jb cd ct,o=fnMade name q pr body sc (cI X.env sc.names []) jb ((X.mg "__name__").getD .none) cd ct
open Classical in
def JE(ok:α->Prop)(f:α->RS):RS:=if h:∃r,∀a,ok a->f a=r then h.choose else .bad
def BY(st:List aj):RS->RS
 |.rt w bE=>.rt w (ik st bE [w])
 |_=>.bad
open Classical in
def vA(ok:Obj->Prop)(j:Nat)(P:Addr)(pos:Pos)(q:Str)(i:Nat)(g:Addr->Obj->FS):FS:=fun ρ st=>if rE st j P pos q then
  JE (fun p:Addr×Obj=>ok p.2) (fun p=>BY st (g p.1 p.2 (ρ.set i (some (.loc st.length))) (st++[.pin false p.1 p.2 .non])))else .bad
theorem JF{ok:α->Prop}{f:α->RS}{r:RS}(a0:α)(h0:ok a0)(h:∀a,ok a->f a=r):JE ok f=r:=by
 have e:∃r,∀a,ok a->f a=r:=⟨r,h⟩
 unfold JE
 rw[mU e,<- e.choose_spec a0 h0,h a0 h0]
section
variable{q:Str}{pr:Arguments}{rest:List Stmt}{P c:Addr}{xs:List Str}{g:Addr->Obj->FS}
def Q7(X:Cx)(name q:Str)(pr:Arguments)(body:List Stmt)(sc:Scope)(xs:List Str)(j:Nat)(P:Addr)(pos:Pos)(i:Nat):TS:=fun D σ H=>∃μ ρ st,Rl X μ ρ st σ H/\rE st j P pos q /\
 ∀f o H',NA X name q pr body sc o->Nz name q pr body sc xs o->dB X.K H H'->fX X.K X.mg (μ++[f]) (st++[.pin false f o .non]) H'->D.nx (σ.set i (some (.ref f))) H'
theorem JG(lZ:X.env.code=.ref c)(Kv:codeHdIn X.K c P=true)(hB:rY X.base X.mg)(fL:X.env.cells=cellsFrom m X.env.scope.names [])(rq:∀x∈sc.names,x.2=.free->X.env.scope.names.lookup x.1=some .cell)
  (Pm:(cI X.env sc.names []).map (·.1)=xs) (lL:xs.Nodup) (hq:qualnameIn X.env name name=q) (hN:X.N.Nodup) (hi:X.N[i]?=some name) (hx:Ec X.env.scope name) (hf:X.fn name=true\/X.env.scope.names.lookup name=some .local)
  (Pk:pr.defaults=[]:=by rfl) (Ug:pr.kw_defaults=[]:=by rfl) (ha:annTrees pr none X.env=[]:=by rfl) :
  PS X (.FunctionDef name pr body [] none [] sc none name pos) (Q7 X name q pr body sc xs j P pos i):=fun pins s σ H D I h=>by
 obtain⟨μ,ρ,st,l,e4,h⟩:=h
 obtain⟨aP,hP0,eP,ps,hP,ht,OQ⟩:=l.sto.get e4
 subst eP
 have has:∀x∈sc.names,x.2=.free->∃c,X.env.cells.lookup x.1=some c:=fun x hx hf=>by rw[fL];exact jT (rq x hx hf)
 have kK:closureFor sc X.env=pure (cI X.env sc.names []):=yo has
 refine PySem.W.nestDef_K Pk Ug ha ?_
 rw[hq]
 refine DC (P:=aP) lZ Kv hB kK I hP ht OQ fun f cd jb ct h' t H' hH zP lK I2=>?_
 refine sJ I2 hN hi hx (v:=.ref f) rfl (fun s' I3=>?_) hf
 have ok:NA X name q pr body sc (fnMade name q pr body sc (cI X.env sc.names []) jb ((X.mg "__name__").getD .none) cd ct):=⟨jb,cd,ct,rfl⟩
 have hcl':∀y∈cI X.env sc.names [],X.env.cells.lookup y.1=some y.2:=jP sc.names [] has (by simp)
 have nd2:((cI X.env sc.names []).map (·.2)).Nodup:=by
  have nd1:((cI X.env sc.names []).map (·.1)).Nodup:=by rw[Pm];exact lL
  have gen:∀l:List (Str×Addr),(∀y∈l,X.env.cells.lookup y.1=some y.2)->(l.map (·.1)).Nodup->(l.map (·.2)).Nodup:=by
   intro l
   induction l with
   |nil=>intro _ _;exact kA
   |cons y l ih=>
    intro a b
    rw[aF,bF]at b ⊢
    refine⟨fun z=>b.1 ?_,ih (fun y hy=>a y (aA _ hy)) b.2⟩
    obtain⟨y',xX,e⟩:=ar.mp z
    have:=I.ok.inj _ _ _ (a y aN) (by rw[<- e];exact a y' (aA _ xX))
    rw[this]
    exact ar.mpr ⟨y',xX,rfl⟩
  exact gen _ hcl' nd1
 have hS':fX X.K X.mg μ st H'/\dB X.K H H':=by
  rcases hH with⟨g1,g2,rfl⟩|rfl
  ·exact l.sto.tabbed e4 hP g2 ht g1
  ·exact⟨l.sto,dB.refl⟩
 obtain⟨S',X'⟩:=hS'
 have hs:oE H' (d_ H' f (lM f (fnMade name q pr body sc (cI X.env sc.names []) jb ((X.mg "__name__").getD .none) cd ct))):=ce zP _
 refine⟨_,_,I3,h f _ _ ok ⟨_,jb,_,cd,ct,Pm,nd2,rfl⟩ (X'.trans (fq.same hs)) (S'.push zP ⟨rfl,dD,fun _=>⟨_,cd,rfl,rfl,?_⟩,.non,.non,fun z=>by cases z⟩)⟩
 rw[cu (by rintro rfl;rw[zP]at lK;cases lK)];exact lK
theorem JH(hd:PS X (.FunctionDef name pr body [] none [] sc none name pos) (Q7 X name q pr body sc xs j P pos i))(l8:∀f o,NA X name q pr body sc o->SB X rest (g f o)) :
  SB X (.FunctionDef name pr body [] none [] sc none name pos::rest) (vA (Nz name q pr body sc xs) j P pos q i g):=⟨(x9 hd (u:=fun D σ H=>∃f o,NA X name q pr body sc o/\Pg X (g f o) D σ H) (fun pins s σ H D I h=>by
  obtain⟨f,o,ok,h⟩:=h
  exact(l8 f o ok).h pins s σ H D I h)).imp fun D σ H h=>by
 obtain⟨μ,ρ,st,l,h⟩:=h
 unfold vA at h
 by_cases e4:rE st j P pos q
 ·rw[am e4]at h
  refine⟨μ,ρ,st,l,e4,fun f o H' on ok x S=>⟨f,o,on,μ++[f],ρ.set i (some (.loc st.length)),st++[.pin false f o .non],⟨pY (.locI (by rw[l.sto.len];simp)) i (qL (aq _ _) x l.env),S⟩,?_⟩⟩
  unfold JE at h
  by_cases he:∃r,∀p:Addr×Obj,Nz name q pr body sc xs p.2->BY st (g p.1 p.2 (ρ.set i (some (.loc st.length))) (st++[.pin false p.1 p.2 .non]))=r
  ·rw[mU he]at h
   have hr:=he.choose_spec (f,o) ok
   rw[<- hr]at h
   simp only at h
   cases e:g f o (ρ.set i (some (.loc st.length))) (st++[.pin false f o .non])with
   |rt w cM=>
    rw[e]at h
    intro μ' v H2 p x2 S2 r2
    obtain⟨μ2,p2,S3,r3⟩:=i6 l.sto S2 ((aq _ _).trans p) (.consI r2 .nilI)
    obtain⟨_,e2,r4⟩:=r3.one
    cases e2
    exact h μ2 v H2 p2 (x.trans x2) S3 r4
   |nx _ _=>rw[e]at h;exact h.elim
   |bk _ _=>rw[e]at h;exact h.elim
   |ct _ _=>rw[e]at h;exact h.elim
   |ex _ _ _=>rw[e]at h;exact h.elim
   |bad=>rw[e]at h;exact h.elim
  ·rw[dif_neg he]at h;exact h.elim
 ·rw[az e4]at h;exact h.elim⟩
end
structure AA(N ps xs:List Str)(sc:Scope):Prop where
 kind:sc.kind=.function
 co:sc.isCoroutine=false
 gen:sc.isGenerator=false
 nd:N.Nodup
 pre:N.take ps.length=ps
 mid:(N.drop ps.length).take xs.length=xs
 par:∀x∈ps,sc.names.lookup x=some .local
 nocell:∀y∈sc.names,y.2≠.cell
 fre:∀y∈sc.names,y.2=.free->y.1∈xs
 xfr:∀x∈xs,sc.names.lookup x=some .free
abbrev DD(q:Str)(sc:Scope)(L f:Addr)(cd:Value)(cl:List (Str×Addr)):Env:=PySem.W.envX q sc L f cd cl
def qV(CX:Ed)(P:Program)(w:World)(K:Frag)(mg:Str->Option Value)(base:Heap)(N:List Str)(qual:Str)(scope:Scope)(f:Addr)(cd:Value)(cl:List (Str×Addr))(A:Around)(outer:List Env)(s:Shared)(H:Hp)(E:XK):Cx where
 prog:=P
 w:=w
 K:=K
 mg:=mg
 base:=base
 A:=A.deeper (DD qual scope s.heap.objs.size f cd cl)
 N:=N
 s₀:=s
 H₀:=H
 env:=DD qual scope s.heap.objs.size f cd cl
 outer:=outer
 stack:=DD qual scope s.heap.objs.size f cd cl::outer
 ex:=[]
 calm:=true
 fn:=fun _=>false
 pn:=[]
 xe:=fun e s'=>wpAny (model P w) (A.deeper (DD qual scope s.heap.objs.size f cd cl)) (leaving (DD qual scope s.heap.objs.size f cd cl) e) (fun _ s''=>CX outer H s E e s'') (fun e' s''=>CX outer H s E e' s'') s'
theorem oo:∀{l:List (Str×α)} {x:Str} {a:α},(l.map (·.1)).Nodup->(x,a)∈l->l.lookup x=some a
 |[],_,_,_,h=>absurd h (by simp)
 |(y,b)::l,x,a,nd,h=>by
  rw[aF,bF]at nd
  rcases aK.mp h with e|h2
  ·cases e;simp[fU]
  ·have:(x==y)=false:=by
    rw[aQ];intro z;exact nd.1 (ar.mpr ⟨_,h2,z⟩)
   rw[fU,this];exact oo nd.2 h2
theorem pz{R:α->β->Prop}:∀{l:List α} {m:List β} {i:Nat} {a:α},Paired R l m->l[i]?=some a->∃b,m[i]?=some b/\R a b
 |_,_,_,_,.nil,e=>by simp at e
 |_,_,0,_,.cons r _,e=>by simp at e;subst e;exact⟨_,rfl,r⟩
 |_,_,i+1,_,.cons _ t,e=>by simpa using pz (i:=i) t (by simpa using e)
theorem BZ:∀{l:List (Str×Addr)} {x y:Str} {c:Addr},(l.map (·.2)).Nodup->(x,c)∈l->(y,c)∈l->x=y
 |[],_,_,_,_,h,_=>absurd h (by simp)
 |(z,b)::l,x,y,c,nd,h1,h2=>by
  rw[aF,bF]at nd
  rcases aK.mp h1 with e|h1
  ·rcases aK.mp h2 with e2|h2
   ·cases e;cases e2;rfl
   ·cases e;exact absurd (ar.mpr ⟨_,h2,rfl⟩) nd.1
  ·rcases aK.mp h2 with e2|h2
   ·cases e2;exact absurd (ar.mpr ⟨_,h1,rfl⟩) nd.1
   ·exact BZ nd.2 h1 h2
section
variable{w:World}
theorem FJ{CX:Ed}{N xs:List Str}{cd:Value}{outer:List Env}{h₁:Heap}{tk:Nat}{E:XK}{zD:List Value}{sI:List V}
  (S:AA N ps xs scope) (hd:A.handled=none) (e0:ya P w K mg base A outer s H) (hl:vs.length=ps.length) (r:cA vs us) (rc:cA sI zD) (hx:cl.map (·.1)=xs) (hn:(cl.map (·.2)).Nodup)
  (hc:Paired (fun(y:Str×Addr) (u:Value)=>s.heap.IsCell y.2 (some u)/\H y.2=none) cl zD)
  (HF:h₁.Ns s.heap.objs.size (fun x=>(ps.zip us).reverse.lookup x)) (hk:∀b o,s.heap.get? b=some o->h₁.get? b=some o) :
  bv (qV CX P w K mg base N qual scope f cd cl A outer s H E) [] (jv N (vs++sI)) H { s with heap:=h₁,toks:=tk }:=by
 have pK:ps.length<=N.length:=by have:=dq List.length S.pre;rw[a7]at this;omega
 have hxl:xs.length<=N.length-ps.length:=by have:=dq List.length S.mid;rw[a7,dP]at this;omega
 have kK:sI.length=xs.length:=by rw[rc.length,<- hc.length,<- hx,ai]
 have ndx:xs.Nodup:=by rw[<- S.mid];exact(S.nd.sublist (List.drop_sublist _ _)).sublist (gD _ _)
 have ndP:ps.Nodup:=by rw[<- S.pre];exact S.nd.sublist (gD _ _)
 have look:∀x∈xs,∃c,cl.lookup x=some c:=fun x qx=>by
  rw[<- hx]at qx
  obtain⟨y,hy,rfl⟩:=ar.mp qx
  exact⟨y.2,oo (by rw[hx];exact ndx) hy⟩
 have cellOf:∀x c,cl.lookup x=some c->∃u,s.heap.IsCell c (some u)/\H c=none:=fun x c e=>by
  have hm:=PySem.mem_of_lookup e
  obtain⟨i,hi⟩:=a9 hm
  obtain⟨u,_,q⟩:=pz hc hi
  exact⟨u,q⟩
 have noA:∀b:Addr,b∉(qV CX P w K mg base N qual scope f cd cl A outer s H E).ex:=fun b z=>absurd (show b∈([]:List Addr)from z) (by simp)
 refine⟨⟨e0.mod,S.kind,rfl,rfl,au _,fun y z c h1 h2=>?_,fun y hy=>?_,fun y c z _=>?_,fun _=>hd,Around.frames_deeper e0.frames,.inr ⟨rfl,rfl⟩,fun b z=>absurd z (noA b),e0.bs,e0.bsz,fun b _ _=>noA b,fun b z=>absurd z (noA b),e0.funs,e0.frf⟩,
  rfl,e0.bare,Un.kept hk,⟨_,HF,fun i y v h1 h2 h3=>?_⟩,fun y c h=>?_,e0.hok.fresh (au _),fun y c h=>?_,fun p hp=>absurd (show p∈([]:List (Addr×Obj))from hp) (by simp),e0.hok.kept hk,?_⟩
 ·exact BZ hn (PySem.mem_of_lookup (show cl.lookup y=some c from h1)) (PySem.mem_of_lookup (show cl.lookup z=some c from h2))
 ·have hy:scope.names.lookup y=some .cell\/scope.names.lookup y=some .free:=hy
  rcases hy with hy|hy
  ·exact absurd rfl (S.nocell _ (PySem.mem_of_lookup hy))
  ·exact look y (S.fre _ (PySem.mem_of_lookup hy) rfl)
 ·cases z
 ·have h1:N[i]?=some y:=h1
  have hi:i<(vs++sI).length:=by
   unfold jv at h2
   by_cases hi:i<(vs++sI).length
   ·exact hi
   ·rw[cy (by simpa using hi)]at h2
    rw[ib]at h2
    split at h2<;>cases h2
  have ha:(vs++sI)[i]?=some v:=by
   unfold jv at h2
   rw[av (by simpa using hi),ak]at h2
   cases e:(vs++sI)[i]? with
   |none=>rw[e]at h2;cases h2
   |some a=>rw[e]at h2;cases h2;rfl
  obtain⟨u,hu,rv⟩:=(r.append rc).get ha
  refine⟨u,rv,?_⟩
  by_cases hip:i<ps.length
  ·have hp:ps[i]?=some y:=by rw[<- S.pre,bB hip];exact h1
   have hu':us[i]?=some u:=by rw[av (by rw[<- r.length,hl];exact hip)]at hu;exact hu
   refine .inl ⟨S.par y (al hp),?_⟩
   have hz:(ps.zip us)[i]?=some (y,u):=by rw[kN];exact⟨hp,hu'⟩
   refine oo ?_ (List.mem_reverse.mpr (al hz))
   rw[List.map_reverse]
   have:(ps.zip us).map (·.1)=ps:=List.map_fst_zip (by rw[<- r.length,hl];exact au _)
   rw[this]
   exact List.pairwise_reverse.mpr (ndP.imp fun h=>Ne.symm h)
  ·have qx:xs[i-ps.length]?=some y:=by
    rw[<- S.mid,bB (by rw[aC,hl,kK]at hi;omega),List.getElem?_drop]
    rw[show ps.length+(i-ps.length)=i by omega];exact h1
   have hu':zD[i-ps.length]?=some u:=by rw[cy (by rw[<- r.length,hl];omega),<- r.length,hl]at hu;exact hu
   rw[<- hx,ak]at qx
   obtain⟨yc,ey,e2⟩:=aX.mp qx
   obtain⟨u',eu,q1,q2⟩:=pz hc ey
   rw[hu']at eu;cases eu
   have hin:y∈xs:=by rw[<- hx,<- e2];exact ar.mpr ⟨yc,al ey,rfl⟩
   refine .inr ⟨.inr (S.xfr y hin),yc.2,?_,q1.keeps hk⟩
   exact oo (l:=cl) (by rw[hx];exact ndx) (by rw[<- e2];exact al ey)
 ·obtain⟨u,q,_⟩:=cellOf y c h;exact⟨_,q.keeps hk⟩
 ·obtain⟨u,_,q⟩:=cellOf y c h;exact q
 ·unfold jv
  show _=N.length
  rw[aC,ai,nA,aC,hl,kK]
  omega
def lU(o:Obj):List (Str×Addr):=match o.data with
 |.func fd=>fd.closure
 |_=>[]
structure pA(P:Program)(w:World)(K:Frag)(mg:Str->Option Value)(base:Heap)(k n m:Nat)(ok:Obj->Prop)(F:List W->List aj->R W):Prop where
 run:∀(A:Around) (outer:List Env) (s:Shared) (H:Hp) (f:Addr) (o:Obj) (fd:FuncData) (us zD:List Value) (vs sI:List V) (Q:VK) (E:XK),fY k A->ya P w K mg base A outer s H->s.heap.get? f=some o->ok o->o.data=.func fd->s.heap.CodeRec fd.code fd.qualname ->
  cA vs us->cA sI zD->us.length=n->Paired (fun(y:Str×Addr) (u:Value)=>s.heap.IsCell y.2 (some u)/\H y.2=none) (lU o) zD->lJ K mg (n+m) F (vs++sI) H Q E ->
  codeAny (model P w) A (.call (.ref f) ⟨us,[]⟩) (CR (jE P w) outer P w H s Q E) s
theorem pA.mono{k:Nat}{ok:Obj->Prop}(h:pA P w K mg base j n m ok F)(hj:j<=k):pA P w K mg base k n m ok F:=
 ⟨fun A outer s H f o fd us zD vs sI Q E hr=>h.run A outer s H f o fd us zD vs sI Q E (hr.mono hj)⟩
theorem JI{pr:Arguments}{N xs:List Str}{k:Nat}{g:FS}(S:AA N ps xs scope)(hn:ps.length=n)(hm:xs.length=m)
  (hb:∀(cl:List (Str×Addr)) (jb pm:Value) (cd:Addr) (ct:Value) (us:List Value),us.length=ps.length->bindArgs (PySem.W.fnX name qual pr body scope cl .none .none jb pm none (.ref cd) ct) ⟨us,[]⟩=pure (ps.zip us))
  (uz:∀(f:Addr) (cd:Value) (cl:List (Str×Addr)) (A:Around) (outer:List Env) (s:Shared) (H:Hp) (E:XK),fY k (A.deeper (DD qual scope s.heap.objs.size f cd cl)) ->
   SB (qV (jE P w) P w K mg base N qual scope f cd cl A outer s H E) body g):pA P w K mg base (k+1) n m (Nz name qual pr body scope xs) (eN N.length g):=⟨fun A outer s H f o fd us zD vs sI Q E hr e0 ho ok hd lK r rc hul hc L5=>by
 obtain⟨cl,jb,pm,cd,ct,hx,lL,rfl⟩:=ok
 cases hd
 have KX:K.In s.heap:=e0.mod.kin.keeps fun b o e=>(e0.bs b o e).1
 have lim:s.heap.NoLimit:=e0.mod.nolimit.keeps fun b o e=>(e0.bs b o e).1
 have hl:vs.length=ps.length:=by rw[r.length,hul,hn]
 refine codeAny_call_def (fd:=PySem.W.fnX name qual pr body scope cl .none .none jb pm none (.ref cd) ct) (body:=body) (binds:=ps.zip us) hr.depth ho rfl lim lK rfl (.of_eq (hb cl jb pm cd ct us (by rw[hul,hn]))) S.nocell (fun y hy=>S.par _ (jm hy).1) (fun h₁ HF hk=>?_) S.co S.gen S.kind
 have I:bv (qV (jE P w) P w K mg base N qual scope f (.ref cd) cl A outer s H E) [] (jv N (vs++sI)) H { s with heap:=h₁,toks:=s.toks+(ps.zip us).length }:=FJ S hr.hd e0 hl r rc hx lL hc HF hk
 obtain⟨hl2,μ,ws,CJ,Sr,rw0,h⟩:=L5
 have hq:Pg (qV (jE P w) P w K mg base N qual scope f (.ref cd) cl A outer s H E) g { nx:=fun _ H'=>Q .non H',rt:=Q } (jv N (vs++sI)) H:=by
  refine⟨μ,ws.map some++List.replicate (N.length-ws.length) none,CJ,⟨?_,Sr⟩,?_⟩
  ·unfold jv
   rw[<- rw0.len]
   have base:∀(ws:List W) (vs:List V) (m:Nat),RelWs K μ H ws vs->Paired (fun(o:Option W) (s:Option V)=>∀w,o=some w->∃v,s=some v/\be K μ H w v) (ws.map some++List.replicate m none) (vs.map some++List.replicate m none):=by
    intro ws
    induction ws with
    |nil=>
     intro vs m r
     rw[r.nilE]
     induction m with
     |zero=>exact .nil
     |succ m ih=>exact .cons (fun w z=>nomatch z) ih
    |cons w ws ih=>
     intro vs m r
     obtain⟨y,ys,rfl,ry,rys⟩:=r.consE
     exact .cons (fun w' z=>⟨y,rfl,by cases z;exact ry⟩) (ih ys m rys)
   exact base ws _ _ rw0
  ·unfold eN at h
   cases e:g (ws.map some++List.replicate (N.length-ws.length) none) CJ with
   |rt w bE=>
    rw[e]at h
    intro μ' v H' p x S' kG
    obtain⟨μ2,p2,S2,r2⟩:=i6 Sr S' p (.consI kG .nilI)
    obtain⟨_,e2,r3⟩:=r2.one
    cases e2
    exact h μ2 v H' p2 x S2 r3
   |nx ρ' bE=>
    rw[e]at h
    intro μ' σ' H' p x l'
    obtain⟨μ2,p2,S2,_⟩:=i6 (ws:=[]) (vs:=[]) Sr l'.sto p .nilI
    exact h μ2 .non H' p2 x S2 .non
   |ex c ρ' bE=>
    rw[e]at h
    intro pins μ' σ' H' ev s' p x l' fl
    obtain⟨μ2,p2,S2,_⟩:=i6 (ws:=[]) (vs:=[]) Sr l'.sto p .nilI
    exact fl.leaves rfl rfl fl.inv.ok.frames rfl fun C hC=>h C μ2 H' hC p2 x S2
   |bk ρ' bE=>rw[e]at h;exact h.elim
   |ct ρ' bE=>rw[e]at h;exact h.elim
   |bad=>rw[e]at h;exact h.elim
 refine dO ((uz f (.ref cd) cl A outer s H E (hr.deeper _)).h [] _ (jv N (vs++sI)) H _ I hq) (fun fl s' hs=>?_) fun e s' hs=>hs
 have fin:∀{σ':St} {H':Hp} {v:V} {u:Value},bv (qV (jE P w) P w K mg base N qual scope f (.ref cd) cl A outer s H E) [] σ' H' s'->bN v u->Q v H'->CE outer P w H s Q u s':=
  fun{σ' H' v u} J rv q=>⟨v,H',J.os,J.bare,J.base,J.hok,rv,q⟩
 cases fl with
 |ret u=>
  obtain⟨v,σ',H',J,rv,q⟩:=hs
  exact fin J rv q
 |next=>
  obtain⟨σ',H',J,q⟩:=hs
  exact fin (v:=V.non) (u:=Value.none) J rfl q
 |brk=>
  obtain⟨_,_,_,q⟩:=hs
  exact False.elim q
 |cont=>
  obtain⟨_,_,_,q⟩:=hs
  exact False.elim q⟩
end
def m8(c:Addr):aj->Bool
 |.pin true a _ _=>a==c
 |_=>false
open Classical in
def tZ(ok:Obj->Prop)(F:List W->List aj->R W)(m:Nat)(ws:List W)(st:List aj):R W:=match st[m]? with
 |some (.pin false _ o _)=>if ok o then(match qj ((lU o).map fun y=>(st.findIdx? (m8 y.2)).getD 0) st with
   |some (l,st1)=>if (l.map fun x=>x.2.1)=(lU o).map (·.2)then(match F (ws++l.map fun x=>x.2.2.2) st1 with
     |.ok w cM=>(match Az l cM with
      |some i5=>.ok w i5
      |none=>.bad)
     |_=>.bad)else .bad
   |none=>.bad)else .bad
 |_=>.bad
def pB(i n:Nat)(ok:Obj->Prop)(F:List W->List aj->R W)(fs:FA):FE:=fun ρ st=>match ρ[i]? with
 |some (some (.loc m))=>(match st[m]? with
  |some (.pin false _ _ _)=>(fs ρ st).bind fun ws st1=>if ws.length=n then tZ ok F m ws st1 else .bad
  |_=>.bad)
 |_=>.bad
theorem jQ{l:List i7}(h:H b=none):mF l H b=none:=by
 by_cases q:∃x∈l,x.2.1=b
 ·exact si q
 ·rw[il fun x hx e=>q ⟨x,hx,e⟩];exact h
theorem yT:∀{l:List i7},(∀x∈l,yR K μ H h x)->∃sI zD,cA sI zD/\RelWs K μ H (l.map fun x=>x.2.2.2) sI/\Paired (fun(x:i7) (u:Value)=>h.IsCell x.2.1 (some u)) l zD
 |[],_=>⟨[],[],.nil,.nilI,.nil⟩
 |x::l,ha=>by
  obtain⟨sI,zD,a,b,c⟩:=yT (l:=l) fun y hy=>ha y (aA _ hy)
  obtain⟨_,g,u,v,d,ru,rx⟩:=ha x aN
  exact⟨v::sI,u::zD,.cons ru a,.consI rx b,.cons ⟨_,g,d⟩ c⟩
theorem vB{R:Addr->α->Prop}:∀{l:List i7} {cl:List (Str×Addr)} {m:List α},(l.map fun x=>x.2.1)=cl.map (·.2)->Paired (fun(x:i7) u=>R x.2.1 u) l m->Paired (fun(y:Str×Addr) u=>R y.2 u) cl m
 |[],[],_,_,.nil=>.nil
 |[],_::_,_,e,_=>by simp at e
 |_::_,[],_,e,_=>by simp at e
 |x::l,y::cl,_,e,.cons r t=>by
  simp only[aF,nh]at e
  exact .cons (by rw[<- e.1];exact r) (vB e.2 t)
theorem yU{R T:α->β->Prop}:∀{l:List α} {m:List β},Paired R l m->(∀a∈l,∀b,T a b)->Paired (fun a b=>R a b/\T a b) l m
 |_,_,.nil,_=>.nil
 |_,_,.cons r t,h=>.cons ⟨r,h _ aN _⟩ (yU t fun a ha=>h a (aA _ ha))
section
variable{fs:FA}
theorem JJ(i:Nat){k k':Nat}{ok:Obj->Prop}(Nk:pA X.prog X.w X.K X.mg X.base k n m ok F)(hm:∀o,ok o->(lU o).length=m)(hr:fY k' X.A)(hk:k<=k')(ha:SA X (e::es) fs)
  (hN:X.N[i]?=some x:=by rfl) (hv:Pf X.env.scope x:=by first|exact Or.inl rfl|exact Or.inr (Or.inl rfl)|exact Or.inr (Or.inr rfl)) (zL:(x==("__debug__":Str))=false:=by decide)
  (lK:(x==("__classdict__":Str))=false:=by decide) (he:starEach (e::es) X.env=(false,eval e X.env)::starEach es X.env:=by rfl) (pK:(backTo pos (starEach es X.env)).any (·.1)=false:=by rfl) :
  SE X (.Call (.Name x p) (e::es) [] pos) (pB i n ok F fs):=⟨by
 intro pins s σ H Q I h
 obtain⟨μ,ρ,st,l,h⟩:=h
 unfold pB at h
 split at h
 ·rename_i mm e1
  split at h
  ·rename_i f0 o0 w0 e2
   obtain⟨v,hσ,rx⟩:=lN l.env e1
   obtain⟨f,hmu,rfl⟩:=rx.locE
   obtain⟨a0,hmu0,ea,hH0,hf0,_⟩:=l.sto.get e2
   rw[hmu]at hmu0;cases hmu0
   subst ea
   refine e_ (f6 ((pv i hN hv zL lK) pins s σ H (fun v H1=>v=.ref f/\H1=H) I ⟨_,hσ,rfl,rfl⟩) fun u s1 u3=>?_)
   obtain⟨v1,H1,I1,ru,rfl,rfl⟩:=u3
   obtain rfl:u=Value.ref f:=ru
   have fnAt:∀{H2:Hp} {h2:Heap} {o:Obj},kF X.prog X.w H2 h2->H2 f=some (lM f o)->(∃fd cd,o.data=.func fd/\fd.code=.ref cd/\H2 cd=some (iH cd fd.qualname))->PySem.W.FnAt f h2:=fun{H2 h2 o} hok q r=>by
    obtain⟨g,_⟩:=hok _ _ q
    obtain⟨fd,_,d,_⟩:=r
    obtain⟨c1,c2,c3,c4⟩:=o
    cases d
    exact⟨c1,c2,fd,c4,g⟩
   have h':Qs X fs σ H1 fun vs H2=>∃μ1 st1 ws,Rl X μ1 ρ st1 σ H2/\μ <+: μ1/\RelWs X.K μ1 H2 ws vs/\RK X (rS X) μ1 σ H2 Q (if ws.length=n then tZ ok F mm ws st1 else .bad):=
    ⟨μ,ρ,st,l,RK.bind h l fun μ1 st1 x v H1 p1 x1 l1 q1 h1=>⟨μ1,st1,x,l1,p1,q1,h1⟩⟩
   refine PySem.W.callWith_F (q:=f) (fnAt I1.hok hH0 (hf0 rfl)) (f6 (ha.h pos pins s1 σ H1 _ I1 h') fun us s2 ⟨vs,H2,I2,r,μ1,st1,ws,l1,p1,r1,q⟩=>?_) he pK
   by_cases c:ws.length=n
   ·rw[am c]at q
    unfold tZ at q
    split at q
    ·rename_i f1 o1 w1 e3
     obtain⟨a1,hmu1,ea1,hH1,hf1,_⟩:=l1.sto.get e3
     rw[pre_get p1 hmu]at hmu1;cases hmu1
     subst ea1
     have zP:=hf1 rfl
     refine⟨fnAt I2.hok hH1 zP,?_⟩
     obtain⟨go,_⟩:=I2.hok _ _ hH1
     obtain⟨fd,cd,hd,lZ,hHc⟩:=zP
     obtain⟨⟨oc,vsc,tc,hoc,hdc,hvc⟩,_⟩:=I2.hok _ _ hHc
     by_cases hok:ok o1
     ·rw[am hok]at q
      split at q
      ·rename_i lv cM e4
       by_cases had:(lv.map fun x=>x.2.1)=(lU o1).map (·.2)
       ·rw[am had]at q
        split at q
        ·rename_i wv i5 e5
         split at q
         ·rename_i Si e6
          obtain⟨S1,hok1,x1,la,nd⟩:=tY l1.sto I2.hok e4
          have inH:∀y∈lv,H2 y.2.1≠none:=fun y hy=>by rw[(la y hy).2];simp
          have out:∀{b:Addr},H2 b=none->∀y∈lv,y.2.1≠b:=fun{b} n y hy z=>inH y hy (by rw[z];exact n)
          have outT:∀{b:Addr} {u:HO},H2 b=some u->(∀φ,u≠.ext φ)->∀y∈lv,y.2.1≠b:=fun{b u} n ne y hy z=>by have:=(la y hy).2;rw[z,n]at this;cases this;exact ne _ rfl
          obtain⟨sI,zD,rc,rwc,pc⟩:=yT fun y hy=>(la y hy).1
          have e0:=I2.env0
          have e0':ya X.prog X.w X.K X.mg X.base X.A X.stack s2 (mF lv H2):=⟨e0.frames,e0.mod,fun b o q=>⟨(e0.bs b o q).1,jQ (e0.bs b o q).2⟩,e0.bsz,e0.funs,fun b hb=>jQ (e0.frf b hb),hok1,e0.bare⟩
          have kK:Paired (fun(y:Str×Addr) (u:Value)=>s2.heap.IsCell y.2 (some u)/\mF lv H2 y.2=none) (lU o1) zD:=
           vB (R:=fun a u=>s2.heap.IsCell a (some u)/\mF lv H2 a=none) had (yU pc fun y hy _=>si ⟨y,hy,rfl⟩)
          have dk:(ws++lv.map fun x=>x.2.2.2).length=n+m:=by
           rw[aC,c,ai]
           have:=dq List.length had
           rw[ai,ai,hm o1 hok]at this
           rw[this]
          have rall:RelWs X.K μ1 (mF lv H2) (ws++lv.map fun x=>x.2.2.2) (vs++sI):=(RelWs.pr.mpr (Paired.imp' (fun _ _ z=>z.mono (ag _) x1) (RelWs.pr.mp r1))).app rwc
          refine mV (iy ((Nk.mono hk).run X.A X.stack s2 (mF lv H2) f o1 fd us zD vs sI (fun v H'=>∃μ',μ1 <+: μ'/\dB X.K (mF lv H2) H'/\fX X.K X.mg μ' i5 H'/\be X.K μ' H' wv v) (fun _ _ _=>False) hr e0' go hok hd ⟨cd,oc,vsc,tc,lZ,hoc,hdc,hvc⟩ r rc (by rw[<- r.length,<- r1.len,c]) kK
           ⟨by rw[<- rall.len];exact dk,μ1,_,cM,S1,rall,by rw[e5];exact fun μ' v H' a b c d=>⟨μ',a,b,c,d⟩⟩) fun rr s' hq=>?_)
          cases rr with
          |error ev=>obtain⟨_,_,_,_,_,_,z,_⟩:=hq;exact z.elim
          |ok fl=>
           cases fl with
           |next=>exact False.elim hq
           |brk=>exact False.elim hq
           |cont=>exact False.elim hq
           |ret u=>
            obtain⟨v,H',os,bare,un,hok',rv,μ',pm,xm,Sm,rm⟩:=hq
            have hla:∀y∈lv,yR X.K μ' H' s'.heap y/\H' y.2.1=none:=fun y hy=>by
             obtain⟨⟨g1,g2,u1,v1,g3,g4,g5⟩,_⟩:=la y hy
             have hn:mF lv H2 y.2.1=none:=si ⟨y,hy,rfl⟩
             exact⟨⟨pre_get pm g1,un.keep _ _ g2 hn (fun z=>inH y hy (I2.stkFree _ z)) (by simp),u1,v1,g3,g4,g5.mono pm xm⟩,un.free _ _ g2 hn (by simp)⟩
            obtain⟨Sp,hokp,xp⟩:=BX Sm hok' hla nd e6
            have un':Un (ml X.stack) [] H2 (py lv H') s2.heap s'.heap:=by
             refine⟨fun b o q n hb hx=>un.keep b o q (jQ n) hb hx,fun b o q n hb hx=>un.slot b o q (jQ n) hb hx,fun b o q n hx=>?_,un.there,fun b xs q=>?_,fun b o u q=>?_,fun b ps q=>?_⟩
             ·rw[fR (out n)];exact un.free b o q (jQ n) hx
             ·have ot:=outT q (fun _ z=>by cases z)
              rw[fR ot];exact un.tups b xs (by rw[il ot];exact q)
             ·have ot:=outT q (fun _ z=>by cases z)
              rw[fR ot];exact un.frzs b o u (by rw[il ot];exact q)
             ·have ot:=outT q (fun _ z=>by cases z)
              rw[fR ot];exact un.tbls b ps (by rw[il ot];exact q)
            have I3:bv X pins σ (py lv H') s':=I2.call' os un' hokp bare fun b hb=>absurd hb (by simp)
            exact⟨v,_,I3,rv,q μ' v _ pm (x1.trans (xm.trans xp)) Sp (rm.mono (ag _) xp)⟩
         ·exact q.elim
        ·exact q.elim
       ·rw[az had]at q;exact q.elim
      ·exact q.elim
     ·rw[az hok]at q;exact q.elim
    ·exact q.elim
   ·rw[az c]at q;exact q.elim
  ·exact h.elim
 ·exact h.elim⟩
end
open Classical in
def vC(ok:α->Prop)(f:α->R W):R W:=if h:∃r,∀a,ok a->f a=r then h.choose else .bad
theorem FK{ok:α->Prop}{f:α->R W}{r:R W}(a0:α)(h0:ok a0)(h:∀a,ok a->f a=r):vC ok f=r:=by
 have e:∃r,∀a,ok a->f a=r:=⟨r,h⟩
 unfold vC
 rw[mU e,<- e.choose_spec a0 h0,h a0 h0]
def lV:List (Str×Addr)->List Obj->List W->List i7
 |y::cl,o::os,w::ws=>(0,y.2,o,w)::lV cl os ws
 |_,_,_=>[]
def vE:List Nat->bQ->Option (List W)
 |[],_=>some []
 |i::is,ρ=>match ρ[i]? with
  |some (some w)=>(match vE is ρ with
   |some ws=>some (w::ws)
   |none=>none)
  |_=>none
theorem FL{ok:α->Prop}{f:α->R W}(a:α)(h:ok a):vC ok f=f a\/vC ok f=.bad:=by
 unfold vC
 by_cases e:∃r,∀a,ok a->f a=r
 ·rw[mU e];exact .inl (e.choose_spec a h).symm
 ·rw[dif_neg e];exact .inr rfl
open Classical in
def B4(F:List W->List aj->R W)(C:List (Str×Addr))(cws ws:List W)(st1:List aj)(os:List Obj):R W:=match F ws (st1++ia (lV C os cws))with
  |.ok w cM=>(match qj (List.range' st1.length C.length) cM with
   |some (l',i5)=>if (l'.map fun x=>(x.2.1,x.2.2.1))=(lV C os cws).map fun x=>(x.2.1,x.2.2.1)then .ok w (ik st1 i5 [w])else .bad
   |none=>.bad)
  |_=>.bad
def DE(F:List W->List aj->R W)(o:Obj)(cws ws:List W)(st1:List aj):R W:=vC (fun os:List Obj=>os.length=(lU o).length) (B4 F (lU o) cws ws st1)
def vF(n:Nat)(F:List W->List aj->R W)(o:Obj)(is:List Nat)(fs:FA):FE:=fun ρ st=>(fs ρ st).bind fun ws st1=>if ws.length=n then(match vE is ρ with
  |some cws=>DE F o cws ws st1
  |none=>.bad)else .bad
section
variable{st:List aj}
theorem FM(I:bv X pins σ H s)(l:Rl X μ ρ st σ H):∀{cl:List (Str×Addr)} {is:List Nat} {cws:List W},(∀y∈cl,X.env.cells.lookup y.1=some y.2/\X.env.scope.names.lookup y.1=some .cell)->Paired (fun(i:Nat) (y:Str×Addr)=>X.N[i]?=some y.1) is cl->vE is ρ=some cws ->
  ∃os:List Obj,os.length=cl.length/\((lV cl os cws).map fun x=>x.2.1)=cl.map (·.2)/\∀x∈lV cl os cws,H x.2.1=none/\s.heap.get? x.2.1=some x.2.2.1/\∃u v,x.2.2.1.data=.cell (some u)/\bN v u/\be X.K μ H x.2.2.2 v
 |[],[],cws,_,.nil,e=>by cases e;exact⟨[],rfl,rfl,fun _ h=>absurd h (by simp[lV])⟩
 |y::cl,i::is,cws,ha,.cons hi t,e=>by
  unfold vE at e
  split at e
  ·rename_i w e1
   split at e
   ·rename_i ws e2
    cases e
    obtain⟨os,q1,q2,q3⟩:=FM I l (fun y hy=>ha y (aA _ hy)) t e2
    obtain⟨v,hσ,rx⟩:=lN l.env e1
    obtain⟨hc,hk⟩:=ha y aN
    obtain⟨mm,HF,hlk⟩:=id I.loc
    obtain⟨u,ru,lk⟩:=hlk i y.1 v hi hσ (.inr (.inl hk))
    obtain⟨o,ho,hd⟩:s.heap.IsCell y.2 (some u):=by
     rcases lk with⟨kl,_⟩|⟨_,c1,hc1,hcc⟩
     ·have:X.env.scope.names.lookup y.1=some .local:=kl
      rw[hk]at this;cases this
     ·rw[hc]at hc1;cases hc1;exact hcc
    refine⟨o::os,by simp[q1],by simp only[lV,aF,q2],fun x hx=>?_⟩
    rcases aK.mp (show x∈(0,y.2,o,w)::lV cl os ws from hx)with rfl|hx
    ·exact⟨I.freeC _ _ hc,ho,u,v,hd,ru,rx⟩
    ·exact q3 x hx
   ·cases e
  ·cases e
variable{fs:FA}
theorem NB{k k':Nat}{qn:Str}{pr:Arguments}{is:List Nat}(Fn:eO X.prog X.w X.K X.mg X.base k x n F)(hr:fY k' X.A)(hk:k<=k')(ok:NA X name qn pr body sc o)(ha:SA X (e::es) fs)
  (fL:X.env.cells=cellsFrom m X.env.scope.names []) (rq:∀x∈sc.names,x.2=.free->X.env.scope.names.lookup x.1=some .cell) (lL:((cI X.env sc.names []).map (·.1)).Nodup) (uC:Paired (fun(i:Nat) (y:Str×Addr)=>X.N[i]?=some y.1) is (cI X.env sc.names []))
  (Ud:∀y∈cI X.env sc.names [],X.env.scope.names.lookup y.1=some .cell) (zP:∀x,X.fn x=true)
  (hg:Gl X x:=by rfl) (zL:(x==("__debug__":Str))=false:=by decide)
  (he:starEach (e::es) X.env=(false,eval e X.env)::starEach es X.env:=by rfl) (pK:(backTo pos (starEach es X.env)).any (·.1)=false:=by rfl):SE X (.Call (.Name x p) (e::es) [] pos) (vF n F o is fs):=⟨by
 intro pins s σ H Q I h
 obtain⟨f,fd,ps,hm,hkp,hn,hb,Fo⟩:=(Fn.mono hk).ex
 obtain⟨jb,cd,ct,rfl⟩:=ok
 refine e_ (Bj I hg hm ?_ zL)
 obtain⟨μ,ρ,st,l,h⟩:=h
 have h':Qs X fs σ H fun vs H1=>∃μ1 st1 ws,Rl X μ1 ρ st1 σ H1/\RelWs X.K μ1 H1 ws vs/\RK X (rS X) μ1 σ H1 Q (if ws.length=n then(match vE is ρ with
  |some cws=>DE F (fnMade name qn pr body sc (cI X.env sc.names []) jb ((X.mg "__name__").getD .none) cd ct) cws ws st1
  |none=>.bad)else .bad):=
  ⟨μ,ρ,st,l,RK.bind h l fun μ1 st1 x v H1 p1 x1 l1 q1 h1=>⟨μ1,st1,x,l1,q1,h1⟩⟩
 refine PySem.W.callWith_K (h₀:=X.base) I.ok.mod.kin hkp (f6 (ha.h pos pins s σ H _ I h') fun us s1 ⟨vs,H1,I1,r,μ1,st1,ws,l1,r1,q⟩=>⟨I1.kIn,?_⟩) he pK
 by_cases c:ws.length=n
 ·rw[am c]at q
  split at q
  ·rename_i cws ec
   have has:∀x∈sc.names,x.2=.free->∃c,X.env.cells.lookup x.1=some c:=fun x hx hf=>by rw[fL];exact jT (rq x hx hf)
   have hcl':∀y∈cI X.env sc.names [],X.env.cells.lookup y.1=some y.2:=jP sc.names [] has (by simp)
   obtain⟨os,ol,oa,ol2⟩:=FM I1 l1 (fun y hy=>⟨hcl' y hy,Ud y hy⟩) uC ec
   unfold DE at q
   generalize hC:cI X.env sc.names []=C at *
   have hclo:lU (fnMade name qn pr body sc C jb ((X.mg "__name__").getD .none) cd ct)=C:=rfl
   rw[hclo]at q
   rcases FL (ok:=fun os:List Obj=>os.length=C.length) (f:=B4 F C cws ws st1) os ol with O5|O5
   ·rw[O5]at q
    unfold B4 at q
    have ndc:((lV C os cws).map fun x=>x.2.1).Nodup:=by
     rw[oa]
     have gen:∀l:List (Str×Addr),(∀y∈l,X.env.cells.lookup y.1=some y.2)->(l.map (·.1)).Nodup->(l.map (·.2)).Nodup:=by
      intro l
      induction l with
      |nil=>intro _ _;exact kA
      |cons y l ih=>
       intro a b
       rw[aF,bF]at b ⊢
       refine⟨fun z=>b.1 ?_,ih (fun y hy=>a y (aA _ hy)) b.2⟩
       obtain⟨y',xX,e⟩:=ar.mp z
       have:=I.ok.inj _ _ _ (a y aN) (by rw[<- e];exact a y' (aA _ xX))
       rw[this]
       exact ar.mpr ⟨y',xX,rfl⟩
     exact gen _ hcl' lL
    split at q
    ·rename_i wv cM e5
     split at q
     ·rename_i l' i5 e6
      split at q
      ·rename_i hll
       obtain⟨S1,hok1,x1⟩:=yS l1.sto I1.hok ol2 ndc
       generalize hL:lV C os cws=L at *
       have isCell:∀y∈L,∃z,X.env.cells.lookup z=some y.2.1:=fun y hy=>by
        have:y.2.1∈C.map (·.2):=by rw[<- oa];exact ar.mpr ⟨y,hy,rfl⟩
        obtain⟨z,hz,e⟩:=ar.mp this
        exact⟨z.1,by rw[<- e];exact hcl' z hz⟩
       have big:∀y∈L,X.s₀.heap.objs.size<=y.2.1:=fun y hy=>by
        obtain⟨z,hz⟩:=isCell y hy
        exact I1.ok.cab z _ (zP z) hz
       have noStk:∀y∈L,y.2.1∉ml X.stack:=fun y hy z=>by
        rcases aK.mp (I1.stkSub _ z)with e|hb
        ·obtain⟨z',hz⟩:=isCell y hy
         exact I1.cne z' _ hz e
        ·obtain⟨_,ob,HK,_⟩:=I1.ok.funs.mem hb
         exact absurd (a6 (aI HK) (big y hy)) (bA _)
       have e0:=I1.env0
       have e0':ya X.prog X.w X.K X.mg X.base X.A X.stack s1 (py L H1):=⟨e0.frames,e0.mod,fun b o q=>⟨(e0.bs b o q).1,by
        rw[fR fun y hy z=>?_]
        ·exact(e0.bs b o q).2
        ·have:=aI (I1.ok.bs b o q).1
         rw[<- z]at this
         exact absurd (a6 this (big y hy)) (bA _)⟩,e0.bsz,e0.funs,fun b hb=>by rw[fR fun y hy z=>noStk y hy (by rw[z];exact hb)];exact e0.frf b hb,hok1,e0.bare⟩
       have hl':(us++([]:List Value)).length=ps.length:=by rw[bP,<- r.length,<- r1.len,c,hn]
       have rall:RelWs X.K (μ1++L.map fun x=>x.2.1) (py L H1) ws vs:=RelWs.pr.mpr (Paired.imp' (fun _ _ z=>z.mono (aq _ _) x1) (RelWs.pr.mp r1))
       refine mV (iy (Fo.run X.A X.stack s1 (py L H1) ⟨us,[]⟩ us vs (fun v H'=>∃μ',(μ1++L.map fun x=>x.2.1) <+: μ'/\dB X.K (py L H1) H'/\fX X.K X.mg μ' cM H'/\be X.K μ' H' wv v) (fun _ _ _=>False) hr e0' (by have:=hb s1 us I1.kIn hl';rwa[bP]at this) r
        ⟨by rw[<- r1.len];exact c,_,ws,_,S1,rall,by rw[e5];exact fun μ' v H' a b c d=>⟨μ',a,b,c,d⟩⟩) fun rr s' hq=>?_)
       cases rr with
       |error ev=>obtain⟨_,_,_,_,_,_,z,_⟩:=hq;exact z.elim
       |ok fl=>
        cases fl with
        |next=>exact False.elim hq
        |brk=>exact False.elim hq
        |cont=>exact False.elim hq
        |ret u=>
         obtain⟨v,H',os',bare,un,hok',rv,μ',pm,xm,Sm,rm⟩:=hq
         obtain⟨Sh,hokh,xh,la,ndl⟩:=tY Sm hok' e6
         have pm1:μ1 <+: μ':=(aq _ _).trans pm
         obtain⟨μ2,p2,S2,r2⟩:=i6 l1.sto Sh pm1 (.consI (rm.mono (ag _) xh) .nilI)
         obtain⟨_,ee,r3⟩:=r2.one
         cases ee
         have both1:∀y∈L,∃z∈l',z.2.1=y.2.1/\z.2.2.1=y.2.2.1:=fun y hy=>by
          have:(y.2.1,y.2.2.1)∈l'.map fun x=>(x.2.1,x.2.2.1):=by rw[hll];exact ar.mpr ⟨y,hy,rfl⟩
          obtain⟨z,hz,e⟩:=ar.mp this
          exact⟨z,hz,(nZ e).1,(nZ e).2⟩
         have both2:∀z∈l',∃y∈L,y.2.1=z.2.1:=fun z hz=>by
          have:(z.2.1,z.2.2.1)∈L.map fun x=>(x.2.1,x.2.2.1):=by rw[<- hll];exact ar.mpr ⟨z,hz,rfl⟩
          obtain⟨y,hy,e⟩:=ar.mp this
          exact⟨y,hy,(nZ e).1⟩
         have inL:∀{b:Addr} {u:HO},H1 b=some u->∀y∈L,y.2.1≠b:=fun{b u} e y hy z=>by have:=(ol2 y hy).1;rw[z,e]at this;cases this
         have outT:∀{b:Addr} {u:HO},H' b=some u->(∀φ,u≠.ext φ)->∀y∈l',y.2.1≠b:=fun{b u} n ne y hy z=>by have:=(la y hy).2;rw[z,n]at this;cases this;exact ne _ rfl
         have un':Un (ml X.stack) [] H1 (mF l' H') s1.heap s'.heap:=by
          refine⟨fun b o q n hb hx=>?_,fun b o q n hb hx=>?_,fun b o q n hx=>?_,un.there,fun b xs q=>?_,fun b o u q=>?_,fun b ps q=>?_⟩
          ·by_cases hbL:∃y∈L,y.2.1=b
           ·obtain⟨y,hy,rfl⟩:=hbL
            obtain⟨z,hz,z1,z2⟩:=both1 y hy
            have g1:=(ol2 y hy).2.1
            rw[q]at g1;cases g1
            have g2:=(la z hz).1.2.1
            rw[z1,z2]at g2
            exact g2
           ·exact un.keep b o q (by rw[fR fun y hy z=>hbL ⟨y,hy,z⟩];exact n) hb hx
          ·exact un.slot b o q (by rw[fR fun y hy z=>noStk y hy (by rw[z];exact hb)];exact n) hb hx
          ·by_cases hbL:∃y∈L,y.2.1=b
           ·obtain⟨y,hy,rfl⟩:=hbL
            obtain⟨z,hz,z1,_⟩:=both1 y hy
            exact si ⟨z,hz,z1⟩
           ·exact jQ (un.free b o q (by rw[fR fun y hy z=>hbL ⟨y,hy,z⟩];exact n) hx)
          ·have t:=un.tups b xs (by rw[fR (inL q)];exact q)
           rw[il (outT t (fun _ z=>by cases z))];exact t
          ·have t:=un.frzs b o u (by rw[fR (inL q)];exact q)
           rw[il (outT t (fun _ z=>by cases z))];exact t
          ·obtain⟨kh,t⟩:=un.tbls b ps (by rw[fR (inL q)];exact q)
           exact⟨kh,by rw[il (outT t (fun _ z=>by cases z))];exact t⟩
         have I3:bv X pins σ (mF l' H') s':=I1.call' os' un' hokh bare fun b hb=>absurd hb (by simp)
         exact⟨v,_,I3,rv,q μ2 v _ p2 (x1.trans (xm.trans xh)) S2 r3⟩
      ·exact q.elim
     ·exact q.elim
    ·exact q.elim
   ·rw[O5]at q;exact q.elim
  ·exact q.elim
 ·rw[az c]at q;exact q.elim⟩
end
theorem rH:∀{ns:List (Str×NameKind)} {cs:List (Str×Addr)} {y:Str×Addr},y∈cI env ns cs->y∈cs\/∃x∈ns,x.1=y.1/\x.2=.free
 |[],cs,y,h=>.inl h
 |(n,k)::r,cs,y,h=>by
  unfold cI at h
  rcases rH h with h|⟨x,hx,e⟩
  ·by_cases hk:(k==NameKind.free)=true
   ·rw[am hk]at h
    rcases aK.mp h with rfl|h
    ·exact .inr ⟨(n,k),aN,rfl,jS hk⟩
    ·exact .inl h
   ·rw[az hk]at h;exact .inl h
  ·exact .inr ⟨x,aA _ hx,e⟩
theorem JK{q:Str}{pr:Arguments}{xs:List Str}(h:xs.length=m)(o:Obj)(ok:Nz name q pr body sc xs o):(lU o).length=m:=by
 obtain⟨cl,jb,pm,cd,ct,hx,_,rfl⟩:=ok
 rw[<- h,<- hx,ai];rfl
def Pi(a b:List (Str×NameKind)):Bool:=b.all fun x=>!(x.2==.free)||a.lookup x.1==some .cell
theorem AB{a b:List (Str×NameKind)}(h:Pi a b=true):∀x∈b,x.2=.free->a.lookup x.1=some .cell:=fun x hx e=>by
 have:=cD.mp h x hx
 rw[e]at this
 have t:(!(NameKind.free==NameKind.free)||a.lookup x.1==some .cell)=true:=this
 simpa using t
abbrev Ti(name q:Str)(st:Stmt)(xs:List Str):Obj->Prop:=Nz name q (dS st) (dU st) (aZ st) xs
section
variable{q:Str}{st:Stmt}{rest:List Stmt}{P c:Addr}{xs:List Str}{g:Addr->Obj->FS}
theorem FN(lZ:X.env.code=.ref c)(Kv:codeHdIn X.K c P=true)(hB:rY X.base X.mg)(fL:X.env.cells=cellsFrom m X.env.scope.names [])(hN:X.N.Nodup)
  (l8:∀f o,NA X name q (dS st) (dU st) (aZ st) o->SB X rest (g f o))
  (Sx:st=.FunctionDef name (dS st) (dU st) [] none [] (aZ st) none name pos:=by rfl)
  (rq:Pi X.env.scope.names (aZ st).names=true:=by first|rfl|kernel_rfl) (Pm:(cI X.env (aZ st).names []).map (·.1)=xs:=by rfl) (lL:Ph xs=true:=by first|rfl|kernel_rfl) (hq:qualnameIn X.env name name=q:=by rfl)
  (hi:X.N[i]?=some name:=by rfl) (hx:Ec X.env.scope name:=by first|exact Or.inl rfl|exact Or.inr rfl) (hf:X.fn name=true\/X.env.scope.names.lookup name=some .local:=by exact .inl rfl)
  (Pk:(dS st).defaults=[]:=by rfl) (Ug:(dS st).kw_defaults=[]:=by rfl) (ha:annTrees (dS st) none X.env=[]:=by rfl) :
  SB X (st::rest) (vA (Ti name q st xs) j P pos q i g):=by
 have h1:=JH (j:=j) (P:=P) (pos:=pos) (i:=i) (JG (j:=j) (pos:=pos) lZ Kv hB fL (AB rq) Pm (wK lL) hq hN hi hx hf Pk Ug ha) l8
 rw[Sx]
 exact h1
variable{fs:FA}
theorem JL{k k':Nat}{is:List Nat}(Fn:eO X.prog X.w X.K X.mg X.base k x n F)(hr:fY k' X.A)(hk:k<=k')(ok:NA X name q (dS st) (dU st) (aZ st) o)(ha:SA X (e::es) fs)
  (fL:X.env.cells=cellsFrom m X.env.scope.names []) (uC:Paired (fun(i:Nat) (y:Str×Addr)=>X.N[i]?=some y.1) is (cI X.env (aZ st).names []))
  (rq:Pi X.env.scope.names (aZ st).names=true:=by first|rfl|kernel_rfl) (Pm:(cI X.env (aZ st).names []).map (·.1)=xs:=by rfl) (lL:Ph xs=true:=by first|rfl|kernel_rfl) (zP:∀x,X.fn x=true:=by exact fun _=>rfl)
  (hg:Gl X x:=by rfl) (zL:(x==("__debug__":Str))=false:=by decide)
  (he:starEach (e::es) X.env=(false,eval e X.env)::starEach es X.env:=by rfl) (pK:(backTo pos (starEach es X.env)).any (·.1)=false:=by rfl):SE X (.Call (.Name x p) (e::es) [] pos) (vF n F o is fs):=
 NB Fn hr hk ok ha fL (AB rq) (by rw[Pm];exact wK lL) uC (fun y hy=>by
  rcases rH hy with h|⟨z,hz,e1,e2⟩
  ·exact absurd h (by simp)
  ·rw[<- e1];exact AB rq z hz e2) zP hg zL he pK
end
section
variable{a:Expr}
end
end L2
namespace L2
open PySem PySem.Spec PyProof.Rows PySem.W
def yV(kb:List (DK×W)):List (DK×W)->Option Bool
 |[]=>some true
 |(k,w)::r=>match w,jG kb k with
  |.int _,none=>some false
  |.int i,some (.int j)=>(yV kb r).map fun b=>(i==j)&&b
  |_,_=>none
def AC(x y:W)(st:List aj):R W:=match iI st x,iI st y with
 |some (_,ka),some (_,kb)=>if ka.length=kb.length then(match yV kb ka with
  |some b=>.ok (.bl (!b)) st
  |none=>.bad)else .ok (.bl true) st
 |_,_=>Ai x y st
section
theorem FQ{kb:List (DK×W)}{vb:List V}{ub:List (fZ×Value)}(rb:RelWs K μ H (kb.map fun p=>p.2) vb)(qb:KV (dV kb vb) ub) :
  ∀(ka:List (DK×W)) {va:List V} {ua:List (fZ×Value)} {b:Bool},RelWs K μ H (ka.map fun p=>p.2) va->KV (dV ka va) ua->yV kb ka=some b->PySem.W.KeqHits A s ub ua b:=by
 intro ka
 induction ka with
 |nil=>
  intro va ua b r q h
  cases q
  cases h
  exact .nil
 |cons p ka ih=>
  intro va ua b r q h
  obtain⟨k,w⟩:=p
  obtain⟨x,xs,rfl,r1,r2⟩:=RelWs.consE r
  unfold KV at q
  cases q with
  |@cons _ q0 _ qs h0 t0=>
   obtain⟨q1,q2⟩:=q0
   obtain⟨e1,e2⟩:=h0
   cases e1
   unfold yV at h
   have hv:=qb.val k.key
   cases w with
   |int i=>
    have:=r1.intE
    subst this
    obtain⟨t,rfl⟩:=e2
    rcases tK k rb with⟨w',v',g1,g2,g3⟩|⟨g1,g2⟩
    ·rw[g1]at h
     rw[g2]at hv
     cases w' with
     |int j=>
      simp only[aX]at h
      obtain⟨b',h1,rfl⟩:=h
      have:=g3.intE
      subst this
      obtain⟨y,hy,ry⟩:=pP.some_of hv
      obtain⟨u,rfl⟩:=ry
      exact .hit hy (SeqAt.EqAt.int_int i t j u) (ih r2 t0 h1)
     |_=>cases h
    ·rw[g1]at h
     rw[g2]at hv
     cases h
     refine .miss (show valueAt ub k.key=none from ?_)
     cases e:valueAt ub k.key with
     |none=>rfl
     |some y=>rw[e]at hv;exact hv.elim
   |_=>cases h
theorem Q8(hr:fY kk X.A):rT X (compareOp .NotEq) AC:=⟨fun pins s σ H x y v u Q I rv ru ⟨μ,st,wx,wy,S,rx,ry,q⟩=>by
 unfold AC at q
 cases e1:iI st wx with
 |none=>rw[e1]at q;exact(Dl hr).h pins s σ H x y v u Q I rv ru ⟨μ,st,wx,wy,S,rx,ry,q⟩
 |some na=>
  cases e2:iI st wy with
  |none=>rw[e1,e2]at q;exact(Dl hr).h pins s σ H x y v u Q I rv ru ⟨μ,st,wx,wy,S,rx,ry,q⟩
  |some nb=>
   obtain⟨n,ka⟩:=na
   obtain⟨m,kb⟩:=nb
   rw[e1,e2]at q
   simp only at q
   obtain⟨a,va,_,_,rfl,ha,ra⟩:=nN S e1 rx
   obtain⟨b,vb,_,_,rfl,hb,rb⟩:=nN S e2 ry
   obtain rfl:v=Value.ref a:=rv
   obtain rfl:u=Value.ref b:=ru
   obtain⟨_,sa,ua,qa,da⟩:=oH I.hok ha
   obtain⟨_,sb,ub,qb,db⟩:=oH I.hok hb
   have la:ua.length=ka.length:=by rw[<- qa.length,qU ra]
   have lb:ub.length=kb.length:=by rw[<- qb.length,qU rb]
   have hu:X.A.units<cLine:=by have:=hr.units;omega
   by_cases hl:ka.length=kb.length
   ·rw[am hl]at q
    cases ec:yV kb ka with
    |none=>rw[ec]at q;exact q.elim
    |some r=>
     rw[ec]at q
     refine PySem.W.keq_ne sa sb da db hu (fun _=>FQ rb qb ka ra qa ec) ?_
     rw[la,lb,hl,dQ,oX]
     exact⟨.bl (!r),H,I,rfl,jg S q⟩
   ·rw[az hl]at q
    refine PySem.W.keq_ne (r:=true) sa sb da db hu (fun z=>absurd (by rw[<- la,<- lb];exact z) hl) ?_
    rw[la,lb,aQ.mpr hl]
    exact⟨.bl true,H,I,rfl,jg S q⟩,fun x y st=>by
 unfold AC
 split
 ·split
  ·split<;>trivial
  ·trivial
 ·exact(Dl hr).n x y st⟩
end
end L2
namespace L2
open PySem PySem.Spec PyProof.Rows
section
theorem FR:g9 X (.type "range") (fun xs H Q=>∃j:Int,xs=[.int j]/\∀l,H l=none->Q (.ref l) (d_ H l (.rng 0 j))):=by
 intro pins s σ H xs us Q I r h
 obtain⟨j,rfl,q⟩:=h
 obtain⟨u,rfl,rx⟩:=kQ r
 obtain⟨t,rfl⟩:=rx
 exact call_range_1 ⟨.ref s.heap.objs.size,_,I.laid (fun b o e=>ao _ e) (au _) (show dR X.prog X.w _ _ _ (.rng 0 j)from⟨_,_,_,aT _ rfl⟩),rfl,q _ (I.hok.fresh (au _))⟩
theorem AD(hh:X.A.handled=none):g9 X (.type "list") (fun xs H Q=>∃(p:Addr) (n:Nat),xs=[.ref p]/\H p=some (.rng 0 n)/\n<=1000000/\∀l,H l=none->Q (.ref l) (d_ H l (.lst ((List.range n).map fun i:Nat=>V.int (i:Int))))):=by
 intro pins s σ H xs us Q I r h
 obtain⟨p,n,rfl,hp,hn,q⟩:=h
 obtain⟨u,rfl,rx⟩:=kQ r
 cases rx
 obtain⟨t,u,v,ho⟩:=(show dR X.prog X.w H s.heap p (.rng 0 n)from I.hok p _ hp)
 have hsz:Builtin.Range.rangeSize 0 (n:Int) 1=(n:Int):=by
  rw[rangeSize_one]
  split<;>omega
 refine call_list_range hh ho (small_one (by omega) (by omega) (by omega) (by omega)) hsz (a_ hn (by decide)) fun h' tk acc c hk hS hacc=>?_
 obtain⟨ha1,ha2⟩:=hacc
 refine⟨.ref s.heap.objs.size,_,I.laid (t':=tk) hk (au _) (show dR X.prog X.w _ h' _ (.lst ((List.range n).map fun i:Nat=>V.int (i:Int)))from⟨by rw[ai,b9];exact a_ hn (by decide),acc.toList,c,?_,by rw[hS]⟩),rfl,q _ (I.hok.fresh (au _))⟩
 obtain⟨l⟩:=acc
 have hl:l.length=n:=ha1
 have key:∀(k:Nat) (l:List Value),(∀j v,l[j]?=some v->∃t,v=Value.int (((k+j:Nat):Int)) t)->cA ((List.range' k l.length).map fun i:Nat=>V.int (i:Int)) l:=by
  intro k l
  induction l generalizing k with
  |nil=>intro;exact .nil
  |cons a r ih=>
   intro h
   refine .cons (h 0 a rfl) (ih (k+1) fun j v e=>?_)
   have:=h (j+1) v e
   rw[show k+1+j=k+(j+1) by omega]
   exact this
 have:=key 0 l fun j v e=>by
  obtain⟨t,e⟩:=ha2 j v (by simpa using e)
  exact⟨t,by rw[e];congr 1;omega⟩
 rw[hl,<- List.range_eq_range']at this
 exact this
def qW(ws:List W)(st:List aj):R W:=match ws with
 |[.int q]=>if 0<=q/\q<=1000000 then .ok (.loc st.length) (st++[.lst (bq 0 q.toNat)])else .bad
 |_=>.bad
theorem DF(n:Nat):RelWs K μ H (bq 0 n) ((List.range n).map fun i:Nat=>V.int (i:Int)):=by
 unfold bq
 generalize List.range n=l
 induction l with
 |nil=>exact .nilI
 |cons a r ih=>
  refine .consI ?_ ih
  show be K μ H (.int (0+(a:Int))) (.int (a:Int))
  rw[cR]
  exact .int
theorem B5{a:Expr}{fs:FA}{p p2 pos OR:Pos}(hr:fY kk X.A)(hl:X.mg "list"=none)(hm:X.mg "range"=none)(ha:SA X [a] fs)(hg:Gl X "list":=by rfl)(U_:Gl X "range":=by rfl)
  (he:starEach [a] X.env=[(false,eval a X.env)]:=by rfl) (Pq:starEach [Expr.Call (.Name "range" p2) [a] [] OR] X.env=[(false,eval (.Call (.Name "range" p2) [a] [] OR) X.env)]:=by rfl) :
  SE X (.Call (.Name "list" p) [.Call (.Name "range" p2) [a] [] OR] [] pos) (bg qW fs):=⟨(qK (AD hr.hd) hg hl boot_list (pR (qK FR U_ hm pL ha.h (by decide) (by decide) he rfl) v8 Pq) (by decide) (by decide) Pq rfl).imp fun σ H Q h=>by
 obtain⟨μ,ρ,st,l,h⟩:=h
 refine⟨μ,ρ,st,l,RK.bind h l fun μ1 st1 x v H1 p1 x1 l1 q1 h1=>?_⟩
 unfold qW at h1
 split at h1
 ·rename_i q
  obtain⟨y,rfl,ry⟩:=q1.one
  split at h1
  ·rename_i c
   refine⟨q,by rw[ry.intE],fun l0 hl0=>⟨l0,q.toNat,rfl,?_,by omega,fun l2 hl2=>?_⟩⟩
   ·unfold d_;rw[am rfl,jB c.1]
   ·have S':=l1.sto.same (ce hl0 (.rng 0 q))
    exact h1 (μ1++[l2]) _ _ (aq _ _) (fq.same fun b u z=>ce hl2 _ b u (ce hl0 _ b u z)) (S'.newLst hl2 (DF _)) (mz S')
  ·exact h1.elim
 ·exact h1.elim⟩
end
abbrev lO(n:Nat):Option W:=some (.loc n)
abbrev iO(z:Int):Option W:=some (.int z)
def DG(x y:W)(st:List aj):R W:=match x,y with
 |.loc n,.loc m=>oN (lstOf st n) fun a=>oN (lstOf st m) fun b=>oN (eX a) fun i=>oN (eX b) fun j=>.ok (.bl (!decide (i=j))) st
 |_,_=>.bad
section
theorem B6{st:List aj}{zs:List W}{l:List Int}{x:V}(I:bv X pins σ H s)(S:fX X.K X.mg μ st H)(h:lstOf st n=some zs)(h2:eX zs=some l)(r:be X.K μ H (.loc n) x)(rv:bN x v) :
  ∃(a:Addr) (bC:List Value),v=.ref a/\s.heap.IsList a bC.toArray/\IntsAre bC l:=by
 obtain⟨a,vs,g,hS,rz⟩:=S.lstOf h
 obtain⟨b1,f1,rfl⟩:=r.locE
 rw[g]at f1;cases f1
 have ev:=lR h2 rz
 subst ev
 cases rv
 obtain⟨bC,rv',pl,hz⟩:=I.list hS
 exact⟨a,bC,rfl,pl.isList,nP (by simpa using rv')⟩
theorem Q9(hr:fY kk X.A):rT X (compareOp .NotEq) DG:=⟨fun pins s σ H x y v u Q I rv ru ⟨μ,st,wx,wy,S,rx,ry,q⟩=>by
 unfold DG at q
 split at q
 ·rename_i n m
  cases e1:lstOf st n with
  |none=>rw[e1]at q;exact q.elim
  |some a=>
   rw[e1,cp]at q
   cases e2:lstOf st m with
   |none=>rw[e2]at q;exact q.elim
   |some b=>
    rw[e2,cp]at q
    cases e3:eX a with
    |none=>rw[e3]at q;exact q.elim
    |some i=>
     rw[e3,cp]at q
     cases e4:eX b with
     |none=>rw[e4]at q;exact q.elim
     |some j=>
      rw[e4,cp]at q
      obtain⟨p,bC,rfl,l1,i1⟩:=B6 I S e1 e3 rx rv
      obtain⟨p',its',rfl,l2,i2⟩:=B6 I S e2 e4 ry ru
      exact PySem.W.ke_ne_ints l1 l2 i1 i2 hr.units ⟨.bl (!decide (i=j)),H,I,rfl,jg S q⟩
 ·exact q.elim,fun x y st=>by
 unfold DG
 split
 ·exact kT fun _=>kT fun _=>kT fun _=>kT fun _=>trivial
 ·trivial⟩
end
theorem dz(st x:List aj)(k:Nat):(st++x)[st.length+k]?=x[k]?:=by rw[cy (by omega)];congr 1;omega
theorem cZ(st x:List aj):(st++x)[st.length]?=x[0]?:=dz st x 0
theorem im(st x:List aj)(k:Nat)(c:aj):(st++x).set (st.length+k) c=st++x.set k c:=by rw[fm _ _ (by omega)];congr 2;omega
theorem fC(st x:List aj)(c:aj):(st++x).set st.length c=st++x.set 0 c:=im st x 0 c
theorem aJ{st x:List aj}{c:aj}(h:st[n]?=some c):(st++x)[n]?=some c:=by
 rw[av (aa.mp h).1];exact h
theorem AE(st:List aj)(ws:List W):ik st st ws=st:=by unfold ik;split<;>simp
theorem DH{st x:List aj}(h:undWs st.length ws=true):ik st (st++x) ws=st:=by
 unfold ik
 rw[am ⟨h,by simp,fun i hi=>.inl (av hi)⟩]
 simp
theorem DI{st:List aj}(h:undWs st.length ws=false):ik st bE ws=bE:=by
 unfold ik
 rw[az fun k=>by have:=k.1;rw[h]at this;cases this]
theorem sj{body:FS}{st:List aj}{w:W}(h:body (ws.map some++List.replicate (N-ws.length) none) st=.rt w bE):eN N body ws st=.ok w (ik st bE [w]):=by
 unfold eN;rw[h]
theorem oq{body:FS}{st:List aj}{w:W}(h:body (ws.map some++List.replicate (N-ws.length) none) st=.rt w st):eN N body ws st=.ok w st:=by
 rw[sj h,AE]
theorem yW{body:FS}{st x:List aj}{w:W}(h:body (ws.map some++List.replicate (N-ws.length) none) st=.rt w (st++x))(hu:undWs st.length [w]=true):eN N body ws st=.ok w st:=by
 rw[sj h,DH hu]
theorem yX{N:Nat}{body:FS}{ws:List W}{st x:List aj}{k:Nat}(h:body (ws.map some++List.replicate (N-ws.length) none) st=.rt (.loc (st.length+k)) (st++x)):eN N body ws st=.ok (.loc (st.length+k)) (st++x):=by
 rw[sj h,DI (by simp[undWs,W.und])]
theorem wQ{g g':FS}{ρ':bQ}{st:List aj}(h:g ρ st=.nx ρ' bE):aV g g' ρ st=g' ρ' bE:=by unfold aV;rw[h]
theorem wR{f:FG}{body:FS}{st:List aj}{k:yy}(h:fi ρ st=.ok k bE):dX fi f body ρ st=p_ f body k.2 k.1 ρ bE:=by unfold dX;rw[h];rfl
theorem t5{f:FG}{body:FS}{ck:Option (Nat×List W)}(I:Nat->bQ->List aj->Prop):∀{ws:List W} {ρ:bQ} {st:List aj} (i0:Nat),I i0 ρ st->(∀i ρ st,I i ρ st->h9 st ck) ->
  (∀i w ρ st,ws[i]?=some w->I (i0+i) ρ st->∃ρ' ρ2 cM,f w ρ=some ρ'/\body ρ' st=.nx ρ2 cM/\I (i0+i+1) ρ2 cM) ->
  ∃ρ2 cM,p_ f body ck ws ρ st=.nx ρ2 cM/\I (i0+ws.length) ρ2 cM
 |[],ρ,st,i0,h0,hc,hs=>⟨ρ,st,by unfold p_;rw[am (hc _ _ _ h0)],h0⟩
 |w::ws,ρ,st,i0,h0,hc,hs=>by
  obtain⟨ρ',ρ2,cM,e1,e2,h1⟩:=hs 0 w ρ st rfl h0
  obtain⟨ρ3,i5,e3,h3⟩:=t5 I (ws:=ws) (ρ:=ρ2) (st:=cM) (i0+1) h1 hc fun i w ρ st hw hI=>by
   obtain⟨a,b,c,d,e,g⟩:=hs (i+1) w ρ st (by simpa using hw) (by rw[show i0+(i+1)=i0+1+i by omega];exact hI)
   exact⟨a,b,c,d,e,by rw[show i0+1+i+1=i0+(i+1)+1 by omega];exact g⟩
  refine⟨ρ3,i5,?_,by rw[br,show i0+(ws.length+1)=i0+1+ws.length by omega];exact h3⟩
  unfold p_
  rw[am (hc _ _ _ h0),e1]
  simp only[e2]
  exact e3
theorem DJ{t:FT}{g:FS}(I:Nat->bQ->List aj->Prop):∀(n:Nat) {ρ:bQ} {st:List aj},I n ρ st ->
  (∀n ρ st,I n ρ st->t ρ st=.ok false st\/(t ρ st=.ok true st/\∃ρ2 cM m,g ρ st=.nx ρ2 cM/\m<n/\I m ρ2 cM)) ->
  ∃m ρ2 cM,jY t g ρ st=.nx ρ2 cM/\I m ρ2 cM/\t ρ2 cM=.ok false cM:=by
 intro n ρ st h hs
 have key:∀(k n:Nat) (ρ:bQ) (st:List aj),n<k->I n ρ st->∃m ρ2 cM,eW t g k ρ st=.nx ρ2 cM/\I m ρ2 cM/\t ρ2 cM=.ok false cM:=by
  intro k
  induction k with
  |zero=>intro n _ _ h;exact absurd h (b8 _)
  |succ k ih=>
   intro n ρ st hk hI
   rcases hs n ρ st hI with e|⟨e,ρ2,cM,m,e2,hm,h2⟩
   ·exact⟨n,ρ,st,by unfold eW;rw[e];rfl,hI,e⟩
   ·obtain⟨m',ρ3,i5,e3,h3⟩:=ih m ρ2 cM (by omega) h2
    exact⟨m',ρ3,i5,by unfold eW;rw[e];simp only[R.stmt_ok,dF,e2];exact e3,h3⟩
 obtain⟨m,ρ2,cM,e,h2⟩:=key (n+1) n ρ st (gZ n) h
 exact⟨m,ρ2,cM,vi e (by simp),h2⟩
section
variable{ρ':bQ}{st cM i5 Si:List aj}{fi:FE}{fs:FA}{u:FT}{x y z w v:W}{xs zs:List W}{a b k:Bool}{g g':FS}
theorem gJ(h:ρ[i]?=some (some w)):ac i ρ st=.ok w st:=by unfold ac;rw[h]
theorem cP:eC w ρ st=.ok w st:=rfl
theorem bJ{f:W->W->List aj->R W}(h1:fa ρ st=.ok x st1)(h2:fb ρ st1=.ok y cM)(h3:f x y cM=.ok z i5):e2 f fa fb ρ st=.ok z i5:=by unfold e2;rw[h1];simp only[R.bind_ok];rw[h2];exact h3
theorem bt:aB ρ st=.ok [] st:=rfl
theorem ay(h1:fa ρ st=.ok x st1)(h2:fs ρ st1=.ok xs cM):af fa fs ρ st=.ok (x::xs) cM:=by unfold af;rw[h1];simp only[R.bind_ok];rw[h2];rfl
theorem NC:Qx ls ρ st=.ok (ls.map W.str) st:=rfl
theorem gi(h1:fs ρ st=.ok ws st1)(h2:ws.length<=jw):d5 fs ρ st=.ok (.tup ws) st1:=by unfold d5;rw[h1];simp only[R.bind_ok,p5];rw[am h2]
theorem t6(h1:fs ρ st=.ok ws st1)(h2:ws.length<=jw):kH fs ρ st=.ok (.loc st1.length) (st1++[.lst ws]):=by unfold kH;rw[h1];simp only[R.bind_ok,mZ];rw[am h2]
theorem bi(h1:fs ρ st=.ok ws st1)(h2:F ws st1=.ok w cM):bg F fs ρ st=.ok w cM:=by unfold bg;rw[h1];exact h2
theorem d8(h1:fs ρ st=.ok ws st1)(h2:F ws st1=.ok w cM)(hn:ws.length=n):d7 n F fs ρ st=.ok w cM:=by unfold d7;rw[h1];simp only[R.bind_ok];rw[am hn];exact h2
theorem bX(h:fa ρ st=.ok (.bl k) st1):eV fa ρ st=.ok k st1:=by unfold eV;rw[h];rfl
theorem kW(h1:t ρ st=.ok true st1)(h2:u ρ st1=.ok k cM):Ef t u ρ st=.ok k cM:=by unfold Ef;rw[h1];exact h2
theorem sk(h1:t ρ st=.ok false st1):Ef t u ρ st=.ok false st1:=by unfold Ef;rw[h1];rfl
theorem fG(h1:t ρ st=.ok false st1)(h2:u ρ st1=.ok k cM):uB t u ρ st=.ok k cM:=by unfold uB;rw[h1];exact h2
theorem su(h1:t ρ st=.ok true st1):uB t u ρ st=.ok true st1:=by unfold uB;rw[h1];rfl
theorem m9(h1:t ρ st=.ok a st1)(h2:(!a)=k):Bz t ρ st=.ok k st1:=by unfold Bz;rw[h1,<- h2];rfl
theorem Q_(h1:fa ρ st=.ok (.bl a) st1)(h2:(!a)=k):Qu fa ρ st=.ok (.bl k) st1:=by unfold Qu;rw[h1,<- h2];rfl
theorem nv{F:W->List W->List aj->R W}(h1:fo ρ st=.ok x st1)(hl:tq st1 x=true)(h2:fs ρ st1=.ok ws cM)(h3:F x ws cM=.ok w i5):rW F fo fs ρ st=.ok w i5:=by unfold rW;rw[h1];simp only[R.bind_ok];rw[am hl,h2];exact h3
theorem Ra{F:W->List W->List aj->R W}(h1:fo ρ st=.ok x st1)(hl:E8 x=true)(h2:fs ρ st1=.ok ws cM)(h3:F x ws cM=.ok w i5):QU F fo fs ρ st=.ok w i5:=by unfold QU;rw[h1];simp only[R.bind_ok];rw[am hl,h2];exact h3
theorem eG(h:st[n]?=some (.lst ws)):tq st (.loc n)=true:=by simp only[tq,h]
theorem FU{q:Int}(h:fa ρ st=.ok (.int q) st1):yB fa ρ st=.ok (.int (-q)) st1:=by unfold yB;rw[h];rfl
theorem nQ{T c:String}(h:fa ρ st=.ok x st1)(hx:x.ty=some c)(hk:Jl c T=k):qR T fa ρ st=.ok (.bl k) st1:=by unfold qR;rw[h];simp only[R.bind_ok,hx,hk]
theorem vG(h:fa ρ st=.ok x st1)(hk:x.isNon=k):Af fa ρ st=.ok (.bl k) st1:=by unfold Af;rw[h,<- hk];rfl
theorem AF(h:fa ρ st=.ok x st1)(hk:(!x.isNon)=k):vf fa ρ st=.ok (.bl k) st1:=by unfold vf;rw[h,<- hk];rfl
theorem Rb:yx ρ st=.ok none st:=rfl
theorem DL{q:Int}(h:fa ρ st=.ok (.int q) st1):oO fa ρ st=.ok (some q) st1:=by unfold oO;rw[h];rfl
theorem JM{fl fh:FO}{l h:Option Int}(h1:fa ρ st=.ok x st1)(h2:fl ρ st1=.ok l cM)(h3:fh ρ cM=.ok h i5)(h4:Dn x l h i5=.ok w Si):KN fa fl fh ρ st=.ok w Si:=by unfold KN;rw[h1];simp only[R.bind_ok];rw[h2];simp only[R.bind_ok];rw[h3];exact h4
theorem bU(h:fe ρ st=.ok w st1):bM i fe ρ st=.nx (ρ.set i (some w)) st1:=by unfold bM;rw[h];rfl
theorem fz(h:fe ρ st=.ok w st1):fw fe ρ st=.nx ρ st1:=by unfold fw;rw[h];rfl
theorem m_(h:fe ρ st=.ok w st1):dH fe ρ st=.rt w st1:=by unfold dH;rw[h];rfl
theorem kX{f:W->W->W->List aj->Option (List aj)}(h1:fe ρ st=.ok v st1)(h2:fo ρ st1=.ok x cM)(h3:fi ρ cM=.ok y i5)(h4:f x y v i5=some Si):lx fo fi fe f ρ st=.nx ρ Si:=by
 unfold lx;rw[h1];simp only[R.stmt_ok];rw[h2];simp only[R.stmt_ok];rw[h3];simp only[R.stmt_ok];rw[h4]
theorem pD{r:RS}(h1:t ρ st=.ok true st1)(h2:g ρ st1=r):iP t g g' ρ st=r:=by unfold iP;rw[h1];exact h2
theorem pE{r:RS}(h1:t ρ st=.ok false st1)(h2:g' ρ st1=r):iP t g g' ρ st=r:=by unfold iP;rw[h1];exact h2
theorem wS:cE ρ st=.nx ρ st:=rfl
theorem K0{r:RS}(h:g ρ st=.nx ρ' st1)(h2:g' ρ' st1=r):aV g g' ρ st=r:=by rw[wQ h];exact h2
theorem AG(h:g ρ st=.rt w st1):aV g g' ρ st=.rt w st1:=by unfold aV;rw[h]
theorem fS{p q:Int}:d6 (.int p) (.int q) st=.ok (.int (p+q)) st:=rfl
theorem FV{p q:List Nat}(h:p.length+q.length<=jw):d6 (.str p) (.str q) st=.ok (.str (p++q)) st:=by simp only[d6];rw[am h]
theorem AH(h1:st[n]?=some (.lst ws))(h2:st[m]?=some (.lst xs))(h:(ws++xs).length<=jw):d6 (.loc n) (.loc m) st=.ok (.loc st.length) (st++[.lst (ws++xs)]):=by
 unfold d6;simp only[h1,h2,mZ];rw[am h]
theorem lz{C:Int->Int->Prop}[∀i j,Decidable (C i j)]{f:Int->Int->Int}{p q:Int}(h:C p q):EY C f (.int p) (.int q) st=.ok (.int (f p q)) st:=by simp only[EY];rw[am h]
theorem qX{p q:Int}(h:Ag p q):g_ (.int p) (.int q) st=.ok (.int (p*q)) st:=by simp only[g_];rw[am h]
theorem nR{f:Int->Int->Bool}{p q:Int}(h:f p q=k):Dj f (.int p) (.int q) st=.ok (.bl k) st:=by rw[<- h];rfl
theorem K3{p q:Int}(h:decide (p<=q)=k):T9 (.int p) (.int q) st=.ok (.bl k) st:=by rw[<- h];rfl
theorem io{p q:Int}(h:(p==q)=k):nu (.int p) (.int q) st=.ok (.bl k) st:=by rw[<- h];rfl
theorem vH{p q:Int}(h:(!(p==q))=k):Ai (.int p) (.int q) st=.ok (.bl k) st:=by rw[<- h];rfl
theorem Rc{p q:List Nat}(h:(p==q)=k):nu (.str p) (.str q) st=.ok (.bl k) st:=by rw[<- h];rfl
theorem i8{q:Int}(h:pS ws q=some w):bu (.tup ws) (.int q) st=.ok w st:=by unfold bu;simp only[h,cp]
theorem kv(h:ρ[i]?=some (some w):=by rfl):ac i ρ st=.ok w st:=gJ h
theorem ox{q:Int}(h:pS ws q=some w:=by rfl):bu (.tup ws) (.int q) st=.ok w st:=i8 h
theorem kn(h:ρ[i]?=some (some w):=by rfl):af (ac i) aB ρ st=.ok [w] st:=ay (gJ h) bt
theorem kx{q:Int}(h:ρ[i]?=some (some (.tup ws)):=by rfl)(h2:pS ws q=some w:=by rfl):e2 bu (ac i) (eC (.int q)) ρ st=.ok w st:=bJ (gJ h) cP (i8 h2)
theorem K4{q:Int}{c:Nat}(hl:l.length<=jw)(h:pS l q=some c):bu (.str l) (.int q) st=.ok (.str [c]) st:=by unfold bu;simp only[h,cp];rw[am hl]
theorem kY{q:Int}(hl:lstOf st n=some ws)(h:pS ws q=some w):bu (.loc n) (.int q) st=.ok w st:=by unfold bu;simp only[hl,h,cp]
theorem jh:cU [.tup ws] st=.ok (.int ws.length) st:=rfl
theorem wT(h:l.length<=jw):cU [.str l] st=.ok (.int l.length) st:=by unfold cU;simp only;rw[am h]
theorem ip(hl:lstOf st n=some ws):cU [.loc n] st=.ok (.int ws.length) st:=by unfold cU;simp only[hl,cp]
theorem aO(h:st[n]?=some (.lst ws)):lstOf st n=some ws:=by unfold lstOf;rw[h]
theorem sv(h:st[n]?=some (.ro ws)):lstOf st n=some ws:=by unfold lstOf;rw[h]
theorem rJ(h:st[n]?=some (.lst ws))(hl:ws.length<jw):c9 (.loc n) [y] st=.ok .non (st.set n (.lst (ws++[y]))):=by unfold c9;simp only[h];rw[am hl]
theorem ND{q:Int}(h:st[n]?=some (.lst ws))(hi:Bo ws.length q=some j):m5 (.loc n) (.int q) v st=some (st.set n (.lst (ws.set j v))):=by unfold m5;simp only[h,hi];rfl
theorem NE{sep:List Nat}(h:lstOf st n=some (ls.map W.str))(hl:(ls.map List.length).sum+ls.length*sep.length<=jw):tw (.str sep) [.loc n] st=.ok (.str (oK sep ls)) st:=by
 unfold tw;simp only[h,cp,vm];rw[am hl]
theorem FW{l h:Option Int}(hl:lstOf st n=some ws):Dn (.loc n) l h st=.ok (.loc st.length) (st++[.lst (kI ws l h)]):=by unfold Dn;simp only[hl,cp]
theorem Re{l h:Option Int}{z:List Nat}(hl:z.length<=jw):Dn (.str z) l h st=.ok (.str (kI z l h)) st:=by unfold Dn;simp only;rw[am hl]
theorem Rf{l h:Option Int}:Dn (.tup ws) l h st=.ok (.tup (kI ws l h)) st:=rfl
theorem kZ(h:fe ρ st=.ok (.tup ws) st1):cY fe ρ st=.ok (ws,none) st1:=by unfold cY;rw[h];rfl
theorem fM(h:fe ρ st=.ok (.loc n) st1)(hl:lstOf st1 n=some ws):cY fe ρ st=.ok (ws,some (n,ws)) st1:=by unfold cY;rw[h];simp only[R.bind_ok,hl]
theorem c7{q:Int}(h:fs ρ st=.ok [.int q] st1)(hq:-(2^62)<=q/\q<2^62):bd fs ρ st=.ok (bq 0 q.toNat,none) st1:=by unfold bd;rw[h];simp only[R.bind_ok];rw[am hq]
theorem NF{l:List W}{q:Nat}(h:l.reverse[q]?=some x):pS l (-((q:Int)+1))=some x:=by
 have hq:q<l.length:=by have:=(aa.mp h).1;simpa using this
 unfold pS Bo
 rw[az (by omega),am (by omega)]
 rw[nE hq]at h
 simp only[Option.bind_some]
 rw[show((-((q:Int)+1))+(l.length:Int)).toNat=l.length-1-q by omega]
 exact h
theorem d9{l:List α}{x:α}(h:l[q]?=some x):pS l (q:Int)=some x:=by
 have hq:q<l.length:=(aa.mp h).1
 unfold pS Bo
 rw[am (by omega),am (by omega)]
 simpa using h
def gs(P:RS->Prop)(r:RS):Prop:=P r
def JN(I:bQ->List aj->Prop):RS->Prop:=fun r=>∃ρ st,r=.nx ρ st/\I ρ st
def rK(I:W->List aj->Prop):RS->Prop:=fun r=>∃w st,r=.rt w st/\I w st
variable{P:RS->Prop}{rest:FS}
theorem dM{r r':RS}(h:r=r')(h2:P r'):gs P r:=by rw[h];exact h2
theorem aG(h:g ρ st=.nx ρ' st1)(h2:gs P (g' ρ' st1)):gs P (aV g g' ρ st):=by rw[wQ h];exact h2
theorem jy(h1:t ρ st=.ok true st1)(h2:gs P (g ρ st1)):gs P (iP t g g' ρ st):=by rw[pD h1 rfl];exact h2
theorem iJ(h1:t ρ st=.ok false st1)(h2:gs P (g' ρ st1)):gs P (iP t g g' ρ st):=by rw[pE h1 rfl];exact h2
theorem gu(h1:t ρ st=.ok true st1)(h2:gs P (aV g rest ρ st1)):gs P (aV (iP t g g') rest ρ st):=by
 unfold aV at h2 ⊢;rw[pD h1 rfl];exact h2
theorem cx(h1:t ρ st=.ok false st1)(h2:gs P (aV g' rest ρ st1)):gs P (aV (iP t g g') rest ρ st):=by
 unfold aV at h2 ⊢;rw[pE h1 rfl];exact h2
theorem qY{h:FS}(h2:gs P (aV g (aV g' h) ρ st)):gs P (aV (aV g g') h ρ st):=by
 unfold aV at h2 ⊢
 cases e:g ρ st<;>simp only[e]at h2 ⊢ <;> exact h2
theorem cK(h2:gs P (rest ρ st)):gs P (aV cE rest ρ st):=h2
theorem ei(h:fe ρ st=.ok w st1)(h2:P (.rt w st1)):gs P (dH fe ρ st):=by rw[m_ h];exact h2
theorem fH(h:fe ρ st=.ok w st1)(h2:P (.rt w st1)):gs P (aV (dH fe) rest ρ st):=by rw[AG (m_ h)];exact h2
theorem c_{fi:FI}{f:FG}{body:FS}{k:yy}(I:Nat->bQ->List aj->Prop)(h:fi ρ st=.ok k st1)(h0:I 0 ρ st1)(hc:∀i ρ st,I i ρ st->h9 st k.2)
  (hs:∀i w ρ st,k.1[i]?=some w->I i ρ st->∃ρ',f w ρ=some ρ'/\gs (JN (I (i+1))) (body ρ' st)) (he:∀ρ st,I k.1.length ρ st->gs P (rest ρ st)):gs P (aV (dX fi f body) rest ρ st):=by
 obtain⟨ρ2,cM,e,h2⟩:=t5 (f:=f) (body:=body) (ck:=k.2) I (ws:=k.1) (ρ:=ρ) (st:=st1) 0 h0 hc fun i w ρ st hw hI=>by
  rw[gc]at hI ⊢
  obtain⟨ρ',e1,ρ2,cM,e2,h2⟩:=hs i w ρ st hw hI
  exact⟨ρ',ρ2,cM,e1,e2,h2⟩
 rw[gc]at h2
 exact aG (by rw[wR h];exact e) (he _ _ h2)
theorem vI{body:FS}(I:Nat->bQ->List aj->Prop)(n:Nat)(h0:I n ρ st)
  (hs:∀n ρ st,I n ρ st->t ρ st=.ok false st\/(t ρ st=.ok true st/\gs (JN fun ρ2 cM=>∃m,m<n/\I m ρ2 cM) (body ρ st))) (he:∀m ρ st,I m ρ st->t ρ st=.ok false st->gs P (rest ρ st)):gs P (aV (jY t body) rest ρ st):=by
 obtain⟨m,ρ2,cM,e,h2,h3⟩:=DJ (t:=t) (g:=body) I n h0 fun n ρ st hI=>by
  rcases hs n ρ st hI with e|⟨e,ρ2,cM,e2,m,hm,h2⟩
  ·exact .inl e
  ·exact .inr ⟨e,ρ2,cM,m,e2,hm,h2⟩
 exact aG e (he _ _ _ h2 h3)
theorem jI{body:FS}{Q:W->Prop}(h:gs (rK fun w bE=>(∃x,bE=st++x)/\undWs st.length [w]=true/\Q w) (body (ws.map some++List.replicate (N-ws.length) none) st)):∃w,Q w/\eN N body ws st=.ok w st:=by
 obtain⟨w,bE,e,⟨x,rfl⟩,hu,q⟩:=h
 exact⟨w,q,yW e hu⟩
theorem t7{N:Nat}{body:FS}(h:gs (rK fun w' bE=>w'=w/\∃x,bE=st++x) (body (ws.map some++List.replicate (N-ws.length) none) st))(hu:undWs st.length [w]=true):eN N body ws st=.ok w st:=by
 obtain⟨w,bE,e,rfl,x,rfl⟩:=h
 exact yW e hu
theorem iZ{body:FS}{Q:Nat->List aj->Prop}(h:gs (rK fun w bE=>∃j x,w=.loc (st.length+j)/\bE=st++x/\Q j x) (body (ws.map some++List.replicate (N-ws.length) none) st)):∃j x,Q j x/\eN N body ws st=.ok (.loc (st.length+j)) (st++x):=by
 obtain⟨w,bE,e,j,x,rfl,rfl,q⟩:=h
 exact⟨j,x,q,yX e⟩
theorem eR{lo:Int}(h:(bq lo q)[i]?=some w):i<q/\w=.int (lo+i):=by
 unfold bq at h
 obtain⟨h1,h2⟩:=aa.mp h
 simp only[ai,b9]at h1
 exact⟨h1,by rw[<- h2];simp⟩
theorem wU{l:List α}(h:q<=l.length):kI l none (some (q:Int))=l.take q:=by
 unfold kI;rw[HT.sIx_none,HT.sIx_nat,jr h];simp
theorem sw{l:List α}(h:q<=l.length):kI l (some (q:Int)) none=l.drop q:=by
 unfold kI;rw[HT.sIx_none,HT.sIx_nat,jr h];rw[cQ (by simp)]
theorem f_{q:Int}{n:Nat}(h:0<n):∃m:Nat,m<n/\q%(n:Int)=m:=by
 have h0:0<=q%(n:Int):=hW _ (by omega)
 have h1:q%(n:Int)<n:=kB _ (by omega)
 exact⟨(q%(n:Int)).toNat,by omega,by omega⟩
end
section
variable{st:List aj}{u:FT}{a b k:Bool}{P:RS->Prop}{g g' rest:FS}{w:W}
theorem FX(h1:t ρ st=.ok a st)(h2:u ρ st=.ok b st):Ef t u ρ st=.ok (a&&b) st:=by cases a;exact sk h1;exact kW h1 h2
theorem FY(h1:t ρ st=.ok a st)(h2:u ρ st=.ok b st):uB t u ρ st=.ok (a||b) st:=by cases a;exact fG h1 h2;exact su h1
theorem NG(h1:t ρ st=.ok a st):Bz t ρ st=.ok (!a) st:=m9 h1 rfl
theorem iQ{N:Nat}{body:FS}(h:gs (rK fun w' bE=>w'=w/\bE=st) (body (ws.map some++List.replicate (N-ws.length) none) st)):eN N body ws st=.ok w st:=by
 obtain⟨w,bE,e,rfl,rfl⟩:=h
 exact oq e
end
end L2
open L2
local macro_rules | `(tactic| walk_at "ev1") => `(tactic| first
 | (with_reducible apply gJ) <;> rfl
 | (with_reducible apply i8) <;> rfl
 | with_reducible first
  | exact cP | exact bt | exact NC | exact Rb | exact fS | exact jh | exact wS | exact Rf
  | apply bJ | apply ay | apply gi | apply t6 | apply bi | apply d8 | apply bX | apply m9 | apply Q_
  | apply nv | apply Ra | apply FU | apply nQ | apply vG | apply AF | apply DL | apply JM | apply bU | apply fz | apply m_ | apply kX
  | apply lz | apply qX | apply nR | apply K3 | apply io | apply vH | apply Rc | apply FV
 | decide
 | (show List.length _ <= jw; exact cv rfl)
 | (show @Eq Nat _ _; exact rfl)
 | (show @Eq Bool _ _; exact rfl)
 | (show @Eq (Option String) _ _; exact rfl)
 | (show @Eq _ _ _; with_reducible assumption))
local macro_rules | `(tactic| walk_at "evs") => `(tactic| repeat' walk_at "ev1")
local macro_rules | `(tactic| walk_at "tst") => `(tactic| first
 | (walk_at "evs"; done)
 | (apply sk; (focus walk_at "tst"); done)
 | (apply kW; (focus walk_at "tst"); (focus walk_at "tst"); done)
 | (apply su; (focus walk_at "tst"); done)
 | (apply fG; (focus walk_at "tst"); (focus walk_at "tst"); done))
local macro_rules | `(tactic| walk_at "go1") => `(tactic| first
 | apply cK
 | (apply fH; (focus (walk_at "evs"; done)))
 | (apply ei; (focus (walk_at "evs"; done)))
 | (apply gu; (focus walk_at "tst"))
 | (apply cx; (focus walk_at "tst"))
 | (apply jy; (focus walk_at "tst"))
 | (apply iJ; (focus walk_at "tst"))
 | (apply aG; (focus (walk_at "evs"; done))))
local macro_rules | `(tactic| walk_at "go") => `(tactic| repeat walk_at "go1")
local macro_rules | `(tactic| walk_at "tb") => `(tactic| repeat' (first | with_reducible apply FX | with_reducible apply FY | with_reducible apply NG | walk_at "ev1"))
local macro_rules | `(tactic| walk_at "len") => `(tactic| (simp only [aC, br, dJ]; show _ <= 1000000; omega))
namespace L2
open PySem PySem.Spec PyProof.Rows
section
variable{ρ' ρ2:bQ}{st cM:List aj}{fs:FA}{g gh rest:FS}{w:W}{c:Str}{cs:List Str}{P:RS->Prop}{b:Bool}
theorem FZ{zs:List W}{k:Nat}{y:W}(h:st[n]?=some (.lst zs))(hk:k<=zs.length)(hl:zs.length<jw)(Ig:k<1000000):om (.loc n) [.int k,y] st=.ok .non (st.set n (.lst (zs.take k++y::zs.drop k))):=by
 unfold om;simp only[h,aR];rw[am ⟨by omega,hk,hl,by omega⟩]
theorem ou(I:bQ->List aj->Prop)(h:gs (JN I) (g ρ st))(h2:∀ρ st,I ρ st->gs P (rest ρ st)):gs P (aV g rest ρ st):=by
 obtain⟨ρ',bE,e,hi⟩:=h
 exact aG e (h2 _ _ hi)
end
section
variable{st:List aj}{f:FG}
theorem yY{ρ0:bQ}(hc:h9 st ck)(T:W->Bool)(Y:W->W):∀(ws acc:List W),(∀w∈ws,∃ρ',f w ρ0=some ρ'/\t ρ' st=.ok (T w) st/\(T w=true->el ρ' st=.ok (Y w) st)) ->
  m7 f t el ck ρ0 ws acc st=.ok (acc++(ws.filter T).map Y) st
 |[],acc,_=>by unfold m7;rw[am hc];simp
 |w::ws,acc,h=>by
  obtain⟨ρ',e1,e2,e3⟩:=h w (by simp)
  have ih:=fun acc=>yY hc T Y ws acc fun w' hw'=>h w' (by simp[hw'])
  unfold m7
  rw[am hc,e1]
  simp only[e2]
  cases hT:T w with
  |true=>
   simp only[e3 hT]
   rw[ih]
   simp[bZ,hT]
  |false=>
   simp only
   rw[ih]
   simp[bZ,hT]
theorem F0(T:W->Bool)(Y:W->W)(h:fi ρ st=.ok (ws,ck) st1)(hl:ws.length<=jw)(hc:h9 st1 ck)
  (hs:∀w∈ws,∃ρ',f w (qf cap ρ)=some ρ'/\t ρ' st1=.ok (T w) st1/\(T w=true->el ρ' st1=.ok (Y w) st1)):dC cap fi f t el ρ st=.ok (.loc st1.length) (st1++[.lst ((ws.filter T).map Y)]):=by
 unfold dC
 rw[h]
 simp only[R.bind_ok]
 rw[am hl,yY hc T Y ws [] hs]
 simp only[R.bind_ok,jp,mZ]
 rw[am]
 rw[ai]
 exact a_ (fj _ _) hl
theorem gW(Y:W->W)(h:fi ρ st=.ok (ws,ck) st1)(hl:ws.length<=jw)(hc:h9 st1 ck)
  (hs:∀w∈ws,∃ρ',f w (qf cap ρ)=some ρ'/\el ρ' st1=.ok (Y w) st1):dC cap fi f ii el ρ st=.ok (.loc st1.length) (st1++[.lst (ws.map Y)]):=by
 have:=F0 (fi:=fi) (f:=f) (t:=ii) (el:=el) (cap:=cap) (fun _=>true) Y h hl hc fun w hw=>by
  obtain⟨ρ',e1,e2⟩:=hs w hw
  exact⟨ρ',e1,rfl,fun _=>e2⟩
 rw[List.filter_eq_self.mpr (fun _ _=>rfl)]at this
 exact this
theorem oz{lo:Int}{w:W}(h:w∈bq lo q):∃i:Nat,i<q/\w=.int (lo+i):=by
 unfold bq at h
 obtain⟨i,hi,rfl⟩:=ar.mp h
 exact⟨i,aM.mp hi,rfl⟩
theorem fA(h:lstOf st n=some ws):cO [.loc n] st=.ok (.tup ws) st:=by unfold cO;simp only[h,cp]
theorem NH{l:List α}(hj:j<=l.length)(hi:i<=j):kI l (some (i:Int)) (some (j:Int))=(l.drop i).take (j-i):=by
 unfold kI;rw[HT.sIx_nat,HT.sIx_nat,jr hj,jr (by omega)]
end
def rL:Nat->List i7->List i7
 |_,[]=>[]
 |n,(_,c,o,w)::l=>(n,c,o,w)::rL (n+1) l
def B8(l:List i7):List aj:=l.map fun _=>.gone
theorem B9(a b:List α)(x y:α):(a++x::b).set a.length y=a++y::b:=by
 rw[fm _ _ (au _),qE];rfl
theorem B_(a b:List α)(x:α):(a++x::b)[a.length]?=some x:=by rw[cy (au _),qE];rfl
theorem pF:∀(l:List i7) (a b:List aj),qj (List.range' a.length l.length) (a++(ia l++b))=some (rL a.length l,a++(B8 l++b))
 |[],a,b=>rfl
 |(j,c,o,w)::l,a,b=>by
  show qj (List.range' a.length (l.length+1)) (a++(.pin true c o w::(ia l++b)))=_
  rw[List.range'_succ]
  unfold qj
  rw[B_,B9]
  have ih:=pF l (a++[.gone]) b
  rw[aC,aw,aw]at ih
  have ih:qj (List.range' (a.length+1) l.length) (a++(.gone::(ia l++b)))=some (rL (a.length+1) l,a++(.gone::(B8 l++b))):=ih
  simp only[ih]
  rfl
theorem vJ:∀(l:List i7) (a b:List aj),Az (rL a.length l) (a++(B8 l++b))=some (a++(ia l++b))
 |[],a,b=>rfl
 |(j,c,o,w)::l,a,b=>by
  show Az ((a.length,c,o,w)::rL (a.length+1) l) (a++(.gone::(B8 l++b)))=_
  unfold Az
  rw[B_,B9]
  have ih:=vJ l (a++[.pin true c o w]) b
  rw[aC,aw,aw]at ih
  exact ih
theorem oA(f:Addr×Obj×W->α):∀(n:Nat) (l:List i7),((rL n l).map fun x=>f x.2)=l.map fun x=>f x.2
 |_,[]=>rfl
 |n,(j,c,o,w)::l=>by show f (c,o,w)::_=f (c,o,w)::_;rw[oA f (n+1) l]
def fx(st:List aj):Prop:=∀d∈st,∀c,m8 c d=false
theorem vK:∀(l:List i7) (a b:List aj),(∀d∈a,∀x∈l,m8 x.2.1 d=false)->(l.map fun x=>x.2.1).Nodup->(l.map fun x=>(((a++(ia l++b))).findIdx? (m8 x.2.1)).getD 0)=List.range' a.length l.length
 |[],a,b,_,_=>rfl
 |(j,c,o,w)::l,a,b,hn,nd=>by
  rw[aF,bF]at nd
  show((a++(.pin true c o w::(ia l++b))).findIdx? (m8 c)).getD 0::(l.map fun x=>((a++(.pin true c o w::(ia l++b))).findIdx? (m8 x.2.1)).getD 0)=List.range' a.length (l.length+1)
  rw[List.range'_succ]
  have h1:(a++(.pin true c o w::(ia l++b))).findIdx? (m8 c)=some a.length:=by
   rw[List.findIdx?_append,kO.mpr fun x hx=>by simp[hn x hx (j,c,o,w) aN]]
   rw[List.findIdx?_cons,show m8 c (.pin true c o w)=true from dQ _];simp
  rw[h1]
  have ih:=vK l (a++[.pin true c o w]) b (fun d hd x hx=>by
   rcases aL.mp hd with hd|hd
   ·exact hn d hd x (aA _ hx)
   ·rw[bz.mp hd]
    show(c==x.2.1)=false
    rw[aQ];intro z;exact nd.1 (ar.mpr ⟨x,hx,z.symm⟩)) nd.2
  rw[aC,aw]at ih
  have ih:(l.map fun x=>((a++(.pin true c o w::(ia l++b))).findIdx? (m8 x.2.1)).getD 0)=List.range' (a.length+1) l.length:=ih
  rw[ih];rfl
theorem vL{st x:List aj}(h:undWs st.length ws=true):ik st (st++x) ws=st:=by
 unfold ik
 rw[am ⟨h,by simp,fun i hi=>.inl (by rw[av hi])⟩]
 simp
theorem F1{os:List Obj}(h1:os.length=C.length)(h2:cws.length=C.length):(lV C os cws).length=C.length:=by
 induction C generalizing os cws with
 |nil=>cases os with
  |nil=>cases cws with
   |nil=>rfl
   |cons w ws=>simp at h2
  |cons o os=>simp at h1
 |cons y C ih=>cases os with
  |nil=>simp at h1
  |cons o os=>cases cws with
   |nil=>simp at h2
   |cons w ws=>
    have e:=ih (os:=os) (cws:=ws) (by simpa using h1) (by simpa using h2)
    show(lV C os ws).length+1=C.length+1
    rw[e]
theorem NI{C:List (Str×Addr)}{os:List Obj}{cws:List W}(h1:os.length=C.length)(h2:cws.length=C.length):((lV C os cws).map fun x=>x.2.1)=C.map (·.2):=by
 induction C generalizing os cws with
 |nil=>cases os with
  |nil=>cases cws with
   |nil=>rfl
   |cons w ws=>simp at h2
  |cons o os=>simp at h1
 |cons y C ih=>cases os with
  |nil=>simp at h1
  |cons o os=>cases cws with
   |nil=>simp at h2
   |cons w ws=>
    have e:=ih (os:=os) (cws:=ws) (by simpa using h1) (by simpa using h2)
    show y.2::((lV C os ws).map fun x=>x.2.1)=y.2::C.map (·.2)
    rw[e]
theorem NJ{C:List (Str×Addr)}{os:List Obj}{cws:List W}(h1:os.length=C.length)(h2:cws.length=C.length):((lV C os cws).map fun x=>x.2.2.2)=cws:=by
 induction C generalizing os cws with
 |nil=>cases os with
  |nil=>cases cws with
   |nil=>rfl
   |cons w ws=>simp at h2
  |cons o os=>simp at h1
 |cons y C ih=>cases os with
  |nil=>simp at h1
  |cons o os=>cases cws with
   |nil=>simp at h2
   |cons w ws=>
    have e:=ih (os:=os) (cws:=ws) (by simpa using h1) (by simpa using h2)
    show w::((lV C os ws).map fun x=>x.2.2.2)=w::ws
    rw[e]
theorem JO{st:List aj}{w:W}(hl:cws.length=(lU o).length)(hu:undWs st.length [w]=true)
  (hF:∀os:List Obj,os.length=(lU o).length->F ws (st++(ia (lV (lU o) os cws)++[]))=.ok w (st++(ia (lV (lU o) os cws)++[]))):DE F o cws ws st=.ok w st:=by
 unfold DE
 refine FK (List.replicate (lU o).length { cls:=.none,data:=.cell none }) (by simp) fun os ho=>?_
 have e:=hF os ho
 unfold B4
 rw[bP]at e
 rw[e]
 simp only
 have h:=pF (lV (lU o) os cws) st []
 rw[F1 ho hl,bP,bP]at h
 rw[h]
 simp only
 rw[am (oA (fun y=>(y.1,y.2.1)) _ _),vL hu]
theorem NK(name q:Str)(pr:Arguments)(body:List Stmt)(sc:Scope)(xs:List Str):∃o,Nz name q pr body sc xs o:=by
 refine⟨_,xs.zip (List.range xs.length),.none,.none,0,.none,?_,?_,rfl⟩
 ·exact List.map_fst_zip (by simp)
 ·rw[List.map_snd_zip (by simp)];exact me
theorem F2{q:Str}{st:Stmt}{xs:List Str}{P:Addr}{g:Addr->Obj->FS}{s:List aj}{w:W}(ht:rE s j P pos q)(hu:undWs s.length [w]=true)
  (h:∀f o,Ti name q st xs o->∃x,g f o (ρ.set i (some (.loc s.length))) (s++[.pin false f o .non])=.rt w (s++x)):vA (Ti name q st xs) j P pos q i g ρ s=.rt w s:=by
 obtain⟨o0,h0⟩:=NK name q (dS st) (dU st) (aZ st) xs
 unfold vA
 rw[am ht]
 refine JF (0,o0) h0 fun p hp=>?_
 obtain⟨x,e⟩:=h p.1 p.2 hp
 rw[e]
 show RS.rt w (ik s (s++x) [w])=_
 rw[vL hu]
theorem JP{m:Nat}{ok:Obj->Prop}{fs:FA}{st:List aj}{w0 v:W}(hi:ρ[i]?=some (some (.loc m)))(hm:st[m]?=some (.pin false f o w0))(ha:fs ρ st=.ok ws st1)(hl:ws.length=n)(h:tZ ok F m ws st1=.ok v st1) :
  pB i n ok F fs ρ st=.ok v st1:=by
 unfold pB
 rw[hi];simp only
 rw[hm];simp only
 rw[ha];simp only[R.bind_ok]
 rw[am hl,h]
theorem NL{is:List Nat}{fs:FA}{st:List aj}{w:W}(ha:fs ρ st=.ok ws st1)(hl:ws.length=n)(hc:vE is ρ=some cws)(h:DE F o cws ws st1=.ok w st1):vF n F o is fs ρ st=.ok w st1:=by
 unfold vF
 rw[ha];simp only[R.bind_ok]
 rw[am hl,hc];simp only
 rw[h]
end L2
namespace P
open PySem L2
open PyProof.Rows (boot_sorted boot_set boot_ord boot_all boot_enumerate boot_int boot_str boot_bool boot_list boot_tuple boot_isinstance boot_max boot_min)
def top(i:Nat):Stmt:=PySem.Challenge.pw_trunksay_k25_least_machine_rooms.main.body.getD i (.Pass ⟨0,0,0,0⟩)
abbrev NM:Stmt:=top 1
abbrev AI:List Str:=["letters","rooms","lead","table","letter","leads","left"]
abbrev Rg:List Str:=["letters","rooms","lead"]
theorem yZ:bS AI Rg (aZ NM):=pj
abbrev NN:Stmt:=top 3
abbrev wV:List Str:=["newest"]
abbrev Rh:List Str:=["newest"]
theorem K5:bS wV Rh (aZ NN):=pj
abbrev NO:Stmt:=top 4
abbrev AJ:List Str:=["rooms","keys","numbers","blocks","room"]
abbrev Ri:List Str:=["rooms","keys"]
theorem K6:bS AJ Ri (aZ NO):=pj
abbrev NP:Stmt:=top 5
abbrev uL:List Str:=["machine","rooms","keys","room"]
abbrev Rj:List Str:=["machine","rooms"]
theorem K7:bS uL Rj (aZ NP):=pj
abbrev NQ:Stmt:=top 6
abbrev AK:List Str:=["machine","rooms","blocks","views","room","view","leads"]
abbrev Rk:List Str:=["machine","rooms","blocks"]
theorem K8:bS AK Rk (aZ NQ):=pj
abbrev NR:Stmt:=top 7
abbrev t8:List Str:=["rooms","blocks","views","keys","room"]
abbrev Rn:List Str:=["rooms","blocks","views"]
theorem K9:bS t8 Rn (aZ NR):=pj
abbrev NS:Stmt:=top 9
abbrev AL:List Str:=["machine","rows","told","best","left","right","size","letter","leads","room","way"]
abbrev Rp:List Str:=["machine","rows","told","best"]
theorem K_:bS AL Rp (aZ NS):=pj
abbrev DM:Stmt:=top 10
abbrev y0:List Str:=["machine","rows","told","best","room","way"]
abbrev Rq:List Str:=["machine"]
theorem vM:bS y0 Rq (aZ DM):=pj
abbrev NT:Stmt:=top 12
abbrev uM:List Str:=["machine","rooms","blocks","finer"]
abbrev Rs:List Str:=["machine","rooms"]
theorem y6:bS uM Rs (aZ NT):=pj
abbrev NU:Stmt:=top 13
abbrev AM:List Str:=["rooms","blocks","heads","room"]
abbrev Rt:List Str:=["rooms","blocks"]
theorem K':bS AM Rt (aZ NU):=pj
abbrev t9:Stmt:=top 14
abbrev AN:List Str:=["machine","rooms","blocks","heads","good","lead","paper"]
abbrev La:List Str:=["machine"]
theorem pG:bS AN La (aZ t9):=pj
abbrev F3:Stmt:=top 16
abbrev wW:List Str:=["_law_cell_here","_law_k","_law_salt","_law_first"]
abbrev Lb:List Str:=["_law_cell_here","_law_k","_law_salt"]
theorem F4:bS wW Lb (aZ F3):=pj
abbrev F5:Stmt:=top 17
abbrev wX:List Str:=["_law_cell_here","_law_many","_law_salt","_law_found","_law_rest","_law_k"]
abbrev Lc:List Str:=["_law_cell_here","_law_many","_law_salt"]
theorem F6:bS wX Lc (aZ F5):=pj
abbrev F7:Stmt:=top 18
abbrev y7:List Str:=["_law_script","_law_k"]
abbrev Ld:List Str:=["_law_script","_law_k"]
theorem F8:bS y7 Ld (aZ F7):=pj
abbrev F9:Stmt:=top 19
abbrev wY:List Str:=["_law_d","_law_shapes"]
abbrev Le:List Str:=["_law_d"]
theorem F_:bS wY Le (aZ F9):=pj
abbrev F':Stmt:=top 20
abbrev wZ:List Str:=["_law_pool_here","_law_many"]
abbrev Lf:List Str:=["_law_pool_here","_law_many"]
theorem Ga:bS wZ Lf (aZ F'):=pj
abbrev Gb:Stmt:=top 21
abbrev uN:List Str:=["_law_script","_law_at","_law_many","_law_salt","_law_found","_law_k"]
abbrev Lg:List Str:=["_law_script","_law_at","_law_many","_law_salt"]
theorem Gc:bS uN Lg (aZ Gb):=pj
abbrev Gd:Stmt:=top 22
abbrev w6:List Str:=["_law_way","_law_l","_law_r"]
abbrev Lh:List Str:=["_law_way","_law_l","_law_r"]
theorem Ge:bS w6 Lh (aZ Gd):=pj
abbrev Gf:Stmt:=top 23
abbrev uO:List Str:=["_law_names_here","_law_many","_law_draws_here","_law_table","_law_letter","_law_more","_law_rows","_law_l","_law_only"]
abbrev Li:List Str:=["_law_names_here","_law_many","_law_draws_here"]
theorem Gg:bS uO Li (aZ Gf):=pj
abbrev Gh:Stmt:=top 24
abbrev t_:List Str:=["_law_machine_here","_law_spot","_law_many","_law_table","_law_at","_law_rows","_law_row"]
abbrev Lj:List Str:=["_law_machine_here","_law_spot"]
theorem Gi:bS t_ Lj (aZ Gh):=pj
abbrev Gj:Stmt:=top 25
abbrev w9:List Str:=["_law_machine_here","_law_owner_here","_law_draws_here","_law_many","_law_at","_law_table","_law_rows","_law_made","_law_x","_law_row","_law_y","_law_due","_law_some"]
abbrev Lk:List Str:=["_law_machine_here","_law_owner_here","_law_draws_here"]
theorem Gk:bS w9 Lk (aZ Gj):=pj
abbrev Gm:Stmt:=top 26
abbrev w_:List Str:=["_law_many","_law_extra","_law_draws_here","_law_row","_law_k","_law_room"]
abbrev Ll:List Str:=["_law_many","_law_extra","_law_draws_here"]
theorem Gn:bS w_ Ll (aZ Gm):=pj
abbrev Gp:Stmt:=top 27
abbrev uc:List Str:=["_law_names_here","_law_many","_law_top","_law_draws_here","_law_good","_law_table","_law_at","_law_letter","_law_rows","_law_l"]
abbrev Lm:List Str:=["_law_names_here","_law_many","_law_top","_law_draws_here"]
theorem Gq:bS uc Lm (aZ Gp):=pj
abbrev Gr:Stmt:=top 28
abbrev AO:List Str:=["_law_script","_law_at","_law_pool_here","_law_head","_law_count","_law_many","_law_names_here","_law_draws_here","_law_machine_here","_law_top"]
abbrev Ln:List Str:=["_law_script","_law_at","_law_pool_here"]
theorem Gu:bS AO Ln (aZ Gr):=pj
abbrev Gv:Stmt:=top 29
abbrev y8:List Str:=["_law_cell_here","_law_many","_law_salt","_law_rest","_law_found","_law_d","_law_at"]
abbrev Lo:List Str:=["_law_cell_here","_law_many","_law_salt"]
theorem Gw:bS y8 Lo (aZ Gv):=pj
abbrev Gx:Stmt:=top 30
abbrev y9:List Str:=["_law_machine_here","_law_names_here","_law_good","_law_truth","_law_rows","_law_row","_law_room"]
abbrev Lp:List Str:=["_law_machine_here","_law_names_here"]
theorem Gy:bS y9 Lp (aZ Gx):=pj
abbrev Gz:Stmt:=top 31
abbrev ud:List Str:=["_law_machine_here","_law_known","_law_sizes","_law_best","_law_letter","_law_l","_law_r","_law_led","_law_key"]
abbrev Lq:List Str:=["_law_machine_here"]
theorem GA:bS ud Lq (aZ Gz):=pj
abbrev GB:Stmt:=top 32
abbrev AQ:List Str:=["_law_machine_here","_law_met","_law_done","_law_pair","_law_steps","_law_letter","_law_rows","_law_side","_law_third","_law_led"]
abbrev Lr:List Str:=["_law_machine_here","_law_met","_law_done","_law_pair","_law_steps"]
theorem GC:bS AQ Lr (aZ GB):=pj
abbrev GD:Stmt:=top 33
abbrev uP:List Str:=["_law_machine_here","_law_met","_law_found","_law_done","_law_steps","_law_fresh","_law_a","_law_b","_law_why_here","_law_row"]
abbrev Ls:List Str:=["_law_machine_here","_law_met"]
theorem GE:bS uP Ls (aZ GD):=pj
abbrev GF:Stmt:=top 34
abbrev uQ:List Str:=["_law_draws_here","_law_many","_law_place","_law_rows","_law_k","_law_only"]
abbrev Lu:List Str:=["_law_draws_here"]
theorem pH:bS uQ Lu (aZ GF):=pj
abbrev qk:Stmt:=top 35
abbrev Ru:List Str:=["_law_script","_law_machine_here","_law_told","_law_made","_law_many"]
abbrev GG:List Str:=["_law_script"]
theorem qZ:bS Ru GG (aZ qk):=pj
structure Bl(mg:Str->Option Value):Prop where
 bool:mg "bool"=Option.none
 enumerate:mg "enumerate"=Option.none
 int:mg "int"=Option.none
 isinstance:mg "isinstance"=Option.none
 len:mg "len"=Option.none
 list:mg "list"=Option.none
 max:mg "max"=Option.none
 min:mg "min"=Option.none
 range:mg "range"=Option.none
 sorted:mg "sorted"=Option.none
 str:mg "str"=Option.none
 tuple:mg "tuple"=Option.none
def tabL:List (Addr×Pos×Str):=[(59,⟨54,29,54,52⟩,"firsts_of.<locals>.<lambda>"),(80,⟨80,4,81,68⟩,"least_of.<locals>.lead")]
section
variable{w:World}
local macro_rules | `(tactic| walk_at "w1") => `(tactic| first | exact aY _ | refine aD ?_ ?_ | exact bY | exact bj | refine bT ?_ ?_ | refine f9 ?_ ?_ | refine fQ ?_ | refine sS _ ‹_› ?_ | refine nr (by first | exact yr | exact vg | exact Ar | exact sY | exact Nd | exact QC | exact QD) ?_ ?_ | refine gz ‹_› ‹_› (by omega) ?_ | refine jX ?_ | refine oM ?_ | exact sG _ ‹_› | refine gT Ny ‹Bl _›.len je ?_ | refine gT jW ‹Bl _›.len je ?_ | refine gT QM ‹Bl _›.max boot_max ?_ | refine gT QN ‹Bl _›.min boot_min ?_ | refine gT Jo ‹Bl _›.sorted boot_sorted ?_ | refine jV (by first | exact Ah ‹_› | exact Dl ‹_› | exact BD ‹_› | exact KW ‹_› | exact yP ‹_› | exact w_lt | exact E0 | exact QH | exact yI ‹_› (BD ‹_›)) ?_ ?_ | refine EU (by first | exact Ah ‹_› | exact Dl ‹_› | exact BD ‹_› | exact KW ‹_› | exact yP ‹_› | exact w_lt | exact E0 | exact QH | exact yI ‹_› (BD ‹_›)) ?_ ?_ | refine rC ?_ ?_ ?_ | exact nK | refine wt ?_ ?_ ?_ | refine E5 ?_ ?_ | exact Jg | refine Ng rfl ?_ | refine n_ ?_ | refine Fg ‹_› ?_ ?_ | refine Q6 ‹_› ?_ ?_ | refine BA ?_ | exact Dh | exact KL | exact Qt | refine gI iY ‹Bl _›.tuple eB ?_ | refine gI Nf ‹Bl _›.list boot_list ?_ | refine Dp PySem.F.slot_list_append PySem.F.type_list_append og ?_ ?_ | refine Dp PySem.F.slot_list_extend PySem.F.type_list_extend Aq ?_ ?_ | refine T5 PySem.F.slot_str_join PySem.F.type_str_join Jh ?_ ?_ | refine Dp PySem.F.slot_list_insert PySem.F.type_list_insert Dt ?_ ?_ | refine h_ ‹Bl _›.range ?_ | refine Do ‹Bl _›.range ?_ | refine Jq ‹Bl _›.range ?_ | refine Jj ‹Bl _›.enumerate ?_ | refine BR rfl ?_ (fun _ _ _ _ _ => ?_) (fun _ _ _ _ _ => ?_) (fun _ _ _ _ _ => ?_) | refine rF (sG _ ‹_›) rfl ?_ (fun _ _ _ _ _ => ?_) (fun _ _ _ _ _ => ?_) (fun _ _ _ _ _ => ?_) | refine BR (m := 0) rfl ?_ (fun _ _ _ _ _ => ?_) (fun _ _ _ _ _ => ?_) (fun _ _ _ _ _ => ?_) | refine rF (sG _ ‹_›) (m := 0) rfl ?_ (fun _ _ _ _ _ => ?_) (fun _ _ _ _ _ => ?_) (fun _ _ _ _ _ => ?_) | exact UV _ | exact jF | refine Ji ?_ | refine tz ?_ | refine Na ?_ | refine Jc ?_ | refine Ae ?_ | refine EW (EV ?_ ?_) | refine EW (yp ?_ ?_) | refine EV ?_ ?_ | refine yp ?_ ?_ | refine Jb ?_ | refine wm ?_ | refine Ad ?_ | refine QW ?_ | refine BG ?_ | exact BF | refine QL ?_ ?_ ?_ | refine qO (Fh ‹_›) ?_ ?_ ?_ | refine qO (Nx ‹_›) ?_ ?_ ?_ | refine qO Ak ?_ ?_ ?_ | refine tf ?_ ?_ | refine Nh ?_ ?_ | exact Fi | refine JA ‹_› ?_ ?_ ?_ | refine JC ‹_› ?_ ?_ ?_ | refine yF ‹Bl _›.isinstance ‹Bl _›.bool boot_bool ?_ | refine yF ‹Bl _›.isinstance ‹Bl _›.int boot_int ?_ | refine yF ‹Bl _›.isinstance ‹Bl _›.str boot_str ?_ | refine yF ‹Bl _›.isinstance ‹Bl _›.tuple eB ?_)
local macro_rules | `(tactic| walk_at "w") => `(tactic| repeat' walk_at "w1")
abbrev dN:Stmt:=(dU t9).getD 4 (.Pass ⟨0,0,0,0⟩)
abbrev cF:Obj->Prop:=Ti "lead" "least_of.<locals>.lead" dN ["machine","heads","blocks"]
theorem ql:AA ["letter","left","right","machine","heads","blocks"] ["letter","left","right"] ["machine","heads","blocks"] (aZ dN):=⟨rfl,rfl,rfl,by decide +kernel,rfl,rfl,by decide +kernel,by decide +kernel,by decide +kernel,by decide +kernel⟩
def j8:FS:=(dH (e2 lS (ac 5) (e2 bu (e2 bu (e2 bu (e2 bu (ac 3) (eI 2)) (ac 0)) (e2 bu (ac 4) (ac 1))) (e2 bu (ac 4) (ac 2)))))
def dh:List W->List aj->R W:=eN 6 j8
theorem oF  :pA P w K mg base 1 3 3 cF dh:=
 JI (k:=0) ql rfl rfl (fun _ _ _ _ _ us hl=>match us,hl with|[_,_,_],_=>rfl) fun f cd cl A outer s H E hr=>(fQ (jX (Fg hr (aY 5) (f9 (f9 (f9 (f9 (aY 3) bY) (aY 0)) (f9 (aY 4) (aY 1))) (f9 (aY 4) (aY 2))))))
def Rv:FS:=(aV (bM 3 (kH aB)) (aV (dX (bd (af (ac 0) aB)) (eE 4) (aV (bM 5 (kH aB)) (aV (dX (bd (af (ac 1) aB)) (eE 6) (fw (rW c9 (ac 5) (af (bg cO (af (dC [none,some 2,some 4,some 6] (bd (af (ac 1) aB)) (eE 0) ii (pB 1 3 cF dh (af (ac 2) (af (ac 3) (af (ac 0) aB))))) aB)) aB)))) (fw (rW c9 (ac 3) (af (bg cO (af (ac 5) aB)) aB)))))) (dH (bg cO (af (ac 3) aB)))))
def GH:List W->List aj->R W:=eN 7 Rv
theorem Rw(F:mn K "table_by" "table_by" NM f fd)(B:Bl mg)(iT:pA P w K mg base 1 3 3 cF dh) :fy P w K mg base (jE P w) 2 f fd Rg (lJ K mg 3 GH):=
 dE (k:=1) F yZ rfl fun gX A outer s H E hr=>(bT (sS 3 yZ (BA bj)) (bT (wt (h_ B.range (aD (aY 0) bj)) (sG 4 yZ) (bT (sS 5 yZ (BA bj)) (bT (wt (h_ B.range (aD (aY 1) bj)) (sG 6 yZ) (fQ (n_ (Dp PySem.F.slot_list_append PySem.F.type_list_append og (aY 5) (aD (gI iY B.tuple eB (aD (qP (nm:=["right","lead","letter","left"]) (cap:=[none,some 2,some 4,some 6]) (by first|rfl|kernel_rfl) rfl (h_ B.range (aD (aY 1) bj)) (fun _ _ _ _ _=>(sC 0)) (fun _ _ _ _ _=>jF) (fun _ _ _ _ _=>(JJ 1 iT (JK rfl) hr (by omega) (aD (aY 2) (aD (aY 3) (aD (aY 0) bj)))))) bj)) bj))))) (fQ (n_ (Dp PySem.F.slot_list_append PySem.F.type_list_append og (aY 3) (aD (gI iY B.tuple eB (aD (aY 5) bj)) bj))))))) (fQ (jX (gI iY B.tuple eB (aD (aY 3) bj))))))
def Rx:FS:=(dH (e2 d6 (dC [none,some 0] (bd (af (e2 d6 (ac 0) (eI 1)) aB)) (eE 0) ii (d5 (af (ac 1) (af (ac 0) aB)))) (dC [none,some 0] (bd (af (ac 0) aB)) (eE 0) ii (d5 (af (ac 0) (af (ac 1) aB))))))
def GI:List W->List aj->R W:=eN 1 Rx
theorem Ry(F:mn K "pairs_with" "pairs_with" NN f fd)(B:Bl mg) :fy P w K mg base (jE P w) 1 f fd Rh (lJ K mg 1 GI):=
 dE (k:=0) F K5 rfl fun gX A outer s H E hr=>by have sc:=K5;walk_at "w"
def Rz:FS:=(aV (bM 2 qh) (aV (bM 3 qh) (aV (dX (cY (ac 0)) (eE 4) (aV (fw (wO (ac 2) (e2 lS (ac 1) (ac 4)) (bg vz (af (ac 2) aB)))) (lx (ac 3) (ac 4) (e2 FH (ac 2) (e2 lS (ac 1) (ac 4))) kU))) (dH (ac 3)))))
def DN:List W->List aj->R W:=eN 5 Rz
theorem RA(F:mn K "numbered" "numbered" NO f fd)(B:Bl mg) :fy P w K mg base (jE P w) 1 f fd Ri (lJ K mg 2 DN):=
 dE (k:=0) F K6 rfl fun gX A outer s H E hr=>by have sc:=K6;walk_at "w"
def RB:FS:=(aV (bM 2 qh) (aV (dX (cY (ac 1)) (eE 3) (lx (ac 2) (ac 3) (e2 bu (e2 bu (ac 0) (eI 1)) (ac 3)) kU)) (dH (d7 2 DN (af (ac 1) (af (ac 2) aB))))))
def JQ:List W->List aj->R W:=eN 4 RB
theorem RC(F:mn K "good_blocks" "good_blocks" NP f fd) (Kr:eO P w K mg base 1 "numbered" 2 DN):fy P w K mg base (jE P w) 2 f fd Rj (lJ K mg 2 JQ):=
 dE (k:=1) F K7 rfl fun gX A outer s H E hr=>by have sc:=K7;walk_at "w"
def RD:FS:=(aV (bM 3 qh) (aV (dX (cY (ac 1)) (eE 4) (aV (bM 5 (kH aB)) (aV (dX (cY (e2 bu (ac 0) (eI 2))) (eE 6) (aV (fw (rW j0 (ac 5) (af (dC [none,some 2,some 6,some 4] (cY (ac 1)) (eE 0) ii (e2 lS (ac 1) (e2 bu (e2 bu (ac 2) (ac 3)) (ac 0)))) aB))) (fw (rW j0 (ac 5) (af (dC [none,some 2,some 4,some 6] (cY (ac 1)) (eE 0) ii (e2 lS (ac 1) (e2 bu (e2 bu (ac 3) (ac 0)) (ac 2)))) aB))))) (lx (ac 3) (ac 4) (bg cO (af (ac 5) aB)) kU)))) (dH (ac 3))))
def DO:List W->List aj->R W:=eN 7 RD
theorem RE(F:mn K "views_of" "views_of" NQ f fd)(B:Bl mg) :fy P w K mg base (jE P w) 1 f fd Rk (lJ K mg 3 DO):=
 dE (k:=0) F K8 rfl fun gX A outer s H E hr=>by have sc:=K8;walk_at "w"
def RF:FS:=(aV (bM 3 qh) (aV (dX (cY (ac 0)) (eE 4) (lx (ac 3) (ac 4) (d5 (af (e2 lS (ac 1) (ac 4)) (af (e2 lS (ac 2) (ac 4)) aB))) kU)) (dH (d7 2 DN (af (ac 0) (af (ac 3) aB))))))
def DP:List W->List aj->R W:=eN 5 RF
theorem RG(F:mn K "split_blocks" "split_blocks" NR f fd) (Kr:eO P w K mg base 1 "numbered" 2 DN):fy P w K mg base (jE P w) 2 f fd Rn (lJ K mg 3 DP):=
 dE (k:=1) F K9 rfl fun gX A outer s H E hr=>by have sc:=K9;walk_at "w"
def RH:FS:=(dX (cY (d7 1 GI (af (e2 lP (bg cU (af (ac 1) aB)) (eI 1)) aB))) (QP 2 (nL (eE 4) (nL (eE 5) BI))) (aV (bM 6 (e2 d6 (e2 d6 (e2 bu (e2 bu (ac 1) (ac 4)) (eI 1)) (e2 bu (e2 bu (ac 1) (ac 5)) (eI 1))) (eI 1))) (dX (wA (af (e2 bu (ac 0) (eI 2)) aB)) (QP 2 (nL (eE 7) (nL (eE 8) BI))) (aV (bM 9 (e2 bu (e2 bu (ac 8) (e2 bu (e2 bu (ac 1) (ac 4)) (eI 0))) (e2 bu (e2 bu (ac 1) (ac 5)) (eI 0)))) (aV (bM 10 (d5 (af (ac 6) (af (ac 4) (af (ac 5) (af (ac 7) aB)))))) (iP (Ef (eV (e2 (wE true) (ac 9) (ac 2))) (uB (eV (e2 (wE true) (ac 9) (ac 3))) (eV (e2 wJ (ac 10) (e2 lS (ac 3) (ac 9)))))) (lx (ac 3) (ac 9) (ac 10) kU) cE))))))
def GJ:List W->List aj->R W:=eN 11 RH
theorem RI(F:mn K "put_ways" "put_ways" NS f fd)(B:Bl mg)(Sk:eO P w K mg base 1 "pairs_with" 1 GI):fy P w K mg base (jE P w) 2 f fd Rp (lJ K mg 4 GJ):=
 dE (k:=1) F K_ rfl fun gX A outer s H E hr=>by have sc:=K_;walk_at "w"
theorem uR(p2 p3 p4:Pos):Fk "each" "best" ⟨[],[⟨"each",none,⟨54,36,54,40⟩⟩],none,[],[],none,[]⟩ (.Subscript (.Name "best" p2) (.Name "each" p3) p4) (Fp [("each",.local),("best",.free)]):=⟨rfl,rfl,rfl,by decide,rfl,rfl,fun _ _ _ _ _ _ _=>rfl,by decide,by decide,by decide⟩
def RJ:FS:=(aV (bM 1 (kH (af (d5 (af (eI 0) (af (eI 0) (af (d5 aB) aB)))) aB))) (aV (bM 2 (BO (wF (eI 0) (eC (.bl true)) BN))) (aV (bM 3 qh) (aV (fw (d7 4 GJ (af (ac 0) (af (ac 1) (af (ac 2) (af (ac 3) aB)))))) (aV (jY (eV (e2 Eg (bg tL (af (ac 3) aB)) (eI 0))) (aV (bM 4 (tN 3 1 59 ⟨54,29,54,52⟩ "firsts_of.<locals>.<lambda>")) (aV (bM 5 (BP (ac 3) (ac 4))) (aV (fw (rW c9 (ac 1) (af (d5 (af (ac 4) (af (e2 bu (ac 5) (eI 0)) (af (d5 (af (e2 bu (e2 bu (ac 1) (e2 bu (ac 5) (eI 1))) (eI 0)) (af (e2 bu (e2 bu (ac 1) (e2 bu (ac 5) (eI 2))) (eI 0)) (af (e2 bu (ac 5) (eI 3)) aB)))) aB)))) aB))) (aV (lx (ac 2) (ac 4) (eC (.bl true)) kU) (fw (d7 4 GJ (af (ac 0) (af (ac 1) (af (ac 2) (af (ac 3) aB))))))))))) (dH (bg cO (af (ac 1) aB))))))))
def DQ:List W->List aj->R W:=eN 6 RJ
theorem RL(F:mn K "firsts_of" "firsts_of" DM f fd)(Tc:Q0 K fd 59)(Bk:rY base mg)(B:Bl mg)(Kq:eO P w K mg base 2 "put_ways" 4 GJ):fy P w K mg base (jE P w) 3 f fd Rq (lJ K mg 1 DQ):=
 Tc.elim fun cT hT=>wz (k:=2) F vM rfl fun gX A outer s H E lK hr=>(bT (sS 1 vM (BA (aD (oM (aD bY (aD bY (aD (oM bj) bj)))) bj))) (bT (sS 2 vM (Nq (Jt bY Dh Np))) (bT (sS 3 vM Fi) (bT (n_ (gz Kq hr (by omega) (aD (aY 0) (aD (aY 1) (aD (aY 2) (aD (aY 3) bj)))))) (bT (tf (jV E0 (gT No B.len je (aD (aY 3) bj)) bY) (bT (sS 4 vM (Ju (i:=3) (j:=1) hr (uR _ _ _) (lK.symm.trans hT.1) hT.2.1 hT.2.2 Bk B.min rfl)) (bT (sS 5 vM (Nr (aY 3) (aY 4))) (bT (n_ (Dp PySem.F.slot_list_append PySem.F.type_list_append og (aY 1) (aD (oM (aD (aY 4) (aD (f9 (aY 5) bY) (aD (oM (aD (f9 (f9 (aY 1) (f9 (aY 5) bY)) bY) (aD (f9 (f9 (aY 1) (f9 (aY 5) bY)) bY) (aD (f9 (aY 5) bY) bj)))) bj)))) bj))) (bT (qO (Fh hr) Dh (aY 2) (aY 4)) (fQ (n_ (gz Kq hr (by omega) (aD (aY 0) (aD (aY 1) (aD (aY 2) (aD (aY 3) bj)))))))))))) (fQ (jX (gI iY B.tuple eB (aD (aY 1) bj)))))))))
def RM:FS:=(aV (bM 2 (d7 2 JQ (af (ac 0) (af (ac 1) aB)))) (aV (bM 3 (d7 3 DP (af (ac 1) (af (ac 2) (af (d7 3 DO (af (ac 0) (af (ac 1) (af (ac 2) aB)))) aB))))) (aV (jY (eV (e2 AC (ac 3) (ac 2))) (aV (bM 2 (ac 3)) (bM 3 (d7 3 DP (af (ac 1) (af (ac 2) (af (d7 3 DO (af (ac 0) (af (ac 1) (af (ac 2) aB)))) aB))))))) (dH (ac 2)))))
def JR:List W->List aj->R W:=eN 4 RM
theorem RN(F:mn K "last_blocks" "last_blocks" NT f fd) (ON:eO P w K mg base 2 "good_blocks" 2 JQ)(Kt:eO P w K mg base 2 "split_blocks" 3 DP)(Ks:eO P w K mg base 1 "views_of" 3 DO):fy P w K mg base (jE P w) 3 f fd Rs (lJ K mg 2 JR):=
 dE (k:=2) F y6 rfl fun gX A outer s H E hr=>(bT (sS 2 y6 (gz ON hr (by omega) (aD (aY 0) (aD (aY 1) bj)))) (bT (sS 3 y6 (gz Kt hr (by omega) (aD (aY 1) (aD (aY 2) (aD (gz Ks hr (by omega) (aD (aY 0) (aD (aY 1) (aD (aY 2) bj)))) bj))))) (bT (tf (jV (Q8 hr) (aY 3) (aY 2)) (bT (sS 2 y6 (aY 3)) (fQ (sS 3 y6 (gz Kt hr (by omega) (aD (aY 1) (aD (aY 2) (aD (gz Ks hr (by omega) (aD (aY 0) (aD (aY 1) (aD (aY 2) bj)))) bj)))))))) (fQ (jX (aY 2))))))
def RO:FS:=(aV (bM 2 (kH aB)) (aV (dX (cY (ac 0)) (eE 3) (iP (eV (e2 nu (e2 lS (ac 1) (ac 3)) (bg cU (af (ac 2) aB)))) (fw (rW c9 (ac 2) (af (ac 3) aB))) cE)) (dH (ac 2))))
def JS:List W->List aj->R W:=eN 4 RO
theorem RP(F:mn K "heads_of" "heads_of" NU f fd)(B:Bl mg) :fy P w K mg base (jE P w) 1 f fd Rt (lJ K mg 2 JS):=
 dE (k:=0) F K' rfl fun gX A outer s H E hr=>by have sc:=K';walk_at "w"
def Lv:FS:=(aV (uK (dC [none] (cY (d7 1 DQ (af (ac 0) aB))) (eE 0) ii (e2 bu (ac 0) (eI 0))) (eE 1)) (aV (bM 2 (d7 2 JR (af (ac 0) (af (ac 1) aB)))) (aV (bM 3 (d7 2 JS (af (ac 1) (af (ac 2) aB)))) (aV (bM 4 (bg cO (af (dC [none,some 0] (cY (ac 3)) (eE 0) ii (e2 bu (e2 bu (ac 1) (eI 1)) (ac 0))) aB))) (vA cF 2 80 ⟨80,4,81,68⟩ "least_of.<locals>.lead" 5 fun f o=>(aV (bM 6 (bg cO (af (dC [none,some 2] (cY (bg pq (af (ac 1) aB))) (eE 0) ii (d5 (af (ac 0) (af (e2 lS (ac 1) (ac 0)) aB)))) aB))) (dH (d5 (af (d5 (af (e2 bu (ac 0) (eI 0)) (af (ac 4) (af (vF 3 GH o [0,3,2] (af (bg cU (af (e2 bu (ac 0) (eI 2)) aB)) (af (bg cU (af (ac 3) aB)) (af (ac 5) aB)))) aB)))) (af (ac 6) aB))))))))))
def y_:List W->List aj->R W:=eN 7 Lv
theorem NV(F:mn K "least_of" "least_of" t9 f fd)(Tc:Q0 K fd 80)(Bk:rY base mg)(B:Bl mg)(OM:eO P w K mg base 3 "firsts_of" 1 DQ)(O0:eO P w K mg base 1 "heads_of" 2 JS)(O_:eO P w K mg base 3 "last_blocks" 2 JR)(O8:eO P w K mg base 2 "table_by" 3 GH):fy P w K mg base (jE P w) 4 f fd La (lJ K mg 1 y_):=
 Tc.elim fun cT hT=>wz (k:=3) F pG rfl fun gX A outer s H E lK hr=>(bT (pi (sG 1 pG) (nm:=["row"]) (cap:=[none]) (by first|rfl|kernel_rfl) rfl (tz (gz OM hr (by omega) (aD (aY 0) bj))) (fun _ _ _ _ _=>(sC 0)) (fun _ _ _ _ _=>jF) (fun _ _ _ _ _=>(f9 (aY 0) bY))) (bT (sS 2 pG (gz O_ hr (by omega) (aD (aY 0) (aD (aY 1) bj)))) (bT (sS 3 pG (gz O0 hr (by omega) (aD (aY 1) (aD (aY 2) bj)))) (bT (sS 4 pG (gI iY B.tuple eB (aD (qP (nm:=["room","machine"]) (cap:=[none,some 0]) (by first|rfl|kernel_rfl) rfl (tz (aY 3)) (fun _ _ _ _ _=>(sC 0)) (fun _ _ _ _ _=>jF) (fun _ _ _ _ _=>(f9 (f9 (aY 1) bY) (aY 0)))) bj))) (FN (st:=dN) (lK.symm.trans hT.1) hT.2.1 Bk rfl pG.nd (fun f o okN=>(bT (sS 6 pG (gI iY B.tuple eB (aD (qP (nm:=["room","blocks"]) (cap:=[none,some 2]) (by first|rfl|kernel_rfl) rfl (tz (gT JD B.sorted boot_sorted (aD (aY 1) bj))) (fun _ _ _ _ _=>(sC 0)) (fun _ _ _ _ _=>jF) (fun _ _ _ _ _=>(oM (aD (aY 0) (aD (Fg hr (aY 1) (aY 0)) bj))))) bj))) (fQ (jX (oM (aD (oM (aD (f9 (aY 0) bY) (aD (aY 4) (aD (JL (st:=dN) (xs:=["machine","heads","blocks"]) O8 hr (by omega) okN (aD (gT jW B.len je (aD (f9 (aY 0) bY) bj)) (aD (gT jW B.len je (aD (aY 3) bj)) (aD (aY 5) bj))) rfl (.cons rfl (.cons rfl (.cons rfl (.nil))))) bj)))) (aD (aY 6) bj))))))))))))
def RQ:FS:=(aV (bM 3 (e2 eK (e2 g_ (e2 d6 (e2 d6 (e2 d6 (ac 0) (e2 g_ (e2 g_ (eI 7) (ac 1)) (ac 1))) (e2 g_ (eI 13) (ac 1))) (ac 2)) (eI 69621)) (eI 2147483647))) (dH (e2 eK (e2 g_ (e2 eK (e2 d6 (e2 d6 (e2 g_ (ac 3) (e2 d6 (e2 yq (ac 3) (eI 1009)) (eI 3))) (e2 g_ (eI 31) (ac 1))) (ac 2)) (eI 2147483629)) (eI 48271)) (eI 1000000007))))
def za:List W->List aj->R W:=eN 4 RQ
theorem NW(F:mn K "_law_mixed" "_law_mixed" F3 f fd)  :fy P w K mg base (jE P w) 1 f fd Lb (lJ K mg 3 za):=
 dE (k:=0) F F4 rfl fun gX A outer s H E hr=>by have sc:=F4;walk_at "w"
def Lw:FS:=(aV (bM 3 (kH aB)) (aV (bM 4 (eI 0)) (aV (iP (eV (e2 QF (ac 0) (e2 Qz (eI 10) (eI 18)))) (bM 4 (ac 0)) cE) (aV (dX (bd (af (ac 1) aB)) (eE 5) (iP (eV (e2 Eg (ac 4) (eI 0))) (aV (fw (rW c9 (ac 3) (af (e2 eK (ac 4) (eI 64)) aB))) (bM 4 (e2 yq (ac 4) (eI 64)))) (fw (rW c9 (ac 3) (af (d7 3 za (af (ac 0) (af (ac 5) (af (ac 2) aB)))) aB))))) (dH (ac 3))))))
def lW:List W->List aj->R W:=eN 6 Lw
theorem NX(F:mn K "_law_draws" "_law_draws" F5 f fd)(B:Bl mg)(L8:eO P w K mg base 1 "_law_mixed" 3 za):fy P w K mg base (jE P w) 2 f fd Lc (lJ K mg 3 lW):=
 dE (k:=1) F F6 rfl fun gX A outer s H E hr=>by have sc:=F6;walk_at "w"
def RR:FS:=(aV (iP (eV (e2 nu (bg cU (af (ac 0) aB)) (eI 0))) (dH (eI 0)) cE) (dH (e2 bu (ac 0) (e2 eK (ac 1) (bg cU (af (ac 0) aB))))))
def nS:List W->List aj->R W:=eN 2 RR
theorem NY(F:mn K "_law_cell" "_law_cell" F7 f fd)(B:Bl mg) :fy P w K mg base (jE P w) 1 f fd Ld (lJ K mg 2 nS):=
 dE (k:=0) F F8 rfl fun gX A outer s H E hr=>by have sc:=F8;walk_at "w"
def Lx:FS:=(aV (bM 1 (d5 (af (d5 (af (eI 0) (af (eI 1) aB))) (af (d5 (af (eI 0) (af (eI 5) aB))) (af (d5 (af (eI 0) (af (eI 9) aB))) (af (d5 (af (eI 1) (af (eI 2) aB))) (af (d5 (af (eI 1) (af (eI 4) aB))) (af (d5 (af (eI 1) (af (eI 6) aB))) (af (d5 (af (eI 2) (af (eI 1) aB))) (af (d5 (af (eI 2) (af (eI 3) aB))) (af (d5 (af (eI 2) (af (eI 5) aB))) (af (d5 (af (eI 3) (af (eI 2) aB))) (af (d5 (af (eI 3) (af (eI 4) aB))) (af (d5 (af (eI 5) (af (eI 2) aB))) aB)))))))))))))) (dH (e2 bu (ac 1) (e2 eK (ac 0) (eI 12)))))
def Ca:List W->List aj->R W:=eN 2 Lx
theorem NZ(F:mn K "_law_shape" "_law_shape" F9 f fd)  :fy P w K mg base (jE P w) 1 f fd Le (lJ K mg 1 Ca):=
 dE (k:=0) F F_ rfl fun gX A outer s H E hr=>by have sc:=F_;walk_at "w"
def Ly:FS:=(dH (QU tw (eC (.str [])) (af (bg qS (af (dC [none,some 0] (bd (af (ac 1) aB)) (eE 0) ii (e2 bu (ac 1) (ac 0))) aB)) aB)))
def Cb:List W->List aj->R W:=eN 2 Ly
theorem N0(F:mn K "_law_names" "_law_names" F' f fd)(B:Bl mg) :fy P w K mg base (jE P w) 1 f fd Lf (lJ K mg 2 Cb):=
 dE (k:=0) F Ga rfl fun gX A outer s H E hr=>by have sc:=Ga;walk_at "w"
def LA:FS:=(aV (bM 4 (kH aB)) (aV (dX (wD (af (eI 0) (af (ac 2) (af (eI 50) aB)))) (eE 5) (bM 4 (e2 d6 (ac 4) (d7 3 lW (af (d7 2 nS (af (ac 0) (af (e2 d6 (ac 1) (e2 yq (ac 5) (eI 50))) aB))) (af (bg Aj (af (eI 50) (af (e2 lP (ac 2) (ac 5)) aB))) (af (e2 d6 (ac 3) (e2 g_ (eI 1009) (ac 5))) aB))))))) (dH (ac 4))))
def Cc:List W->List aj->R W:=eN 6 LA
theorem N1(F:mn K "_law_blocks" "_law_blocks" Gb f fd)(B:Bl mg)(qy:eO P w K mg base 1 "_law_cell" 2 nS)(oR:eO P w K mg base 2 "_law_draws" 3 lW):fy P w K mg base (jE P w) 3 f fd Lg (lJ K mg 4 Cc):=
 dE (k:=2) F Gc rfl fun gX A outer s H E hr=>by have sc:=Gc;walk_at "w"
def RT:FS:=(aV (iP (eV (e2 nu (ac 0) (eI 0))) (dH (e2 d6 (ac 1) (ac 2))) cE) (aV (iP (eV (e2 nu (ac 0) (eI 1))) (dH (bg E4 (af (ac 1) (af (ac 2) aB)))) cE) (aV (iP (eV (e2 nu (ac 0) (eI 2))) (dH (ac 1)) cE) (dH (ac 2)))))
def zb:List W->List aj->R W:=eN 3 RT
theorem N2(F:mn K "_law_grown" "_law_grown" Gd f fd)(B:Bl mg) :fy P w K mg base (jE P w) 1 f fd Lh (lJ K mg 3 zb):=
 dE (k:=0) F Ge rfl fun gX A outer s H E hr=>by have sc:=Ge;walk_at "w"
def LB:FS:=(aV (bM 3 (kH aB)) (aV (dX (bd (af (e2 wn (eI 1) (bg cU (af (ac 0) aB))) aB)) (eE 4) (aV (bM 5 (e2 d6 (e2 eK (ac 4) (eI 2)) (e2 eK (e2 bu (ac 2) (eI 1)) (eI 2)))) (aV (iP (eV (e2 nu (bg cU (af (ac 0) aB)) (eI 0))) (bM 5 (eI 1)) cE) (aV (bM 6 (kH aB)) (aV (dX (bd (af (ac 1) aB)) (eE 7) (fw (rW c9 (ac 6) (af (bg cO (af (dC [none,some 1,some 5,some 7,some 2] (bd (af (ac 1) aB)) (eE 0) ii (bg Aj (af (e2 lP (ac 1) (eI 1)) (af (e2 d6 (d7 3 zb (af (e2 eK (e2 bu (ac 4) (eI 0)) (eI 4)) (af (ac 3) (af (ac 0) aB)))) (ac 2)) aB)))) aB)) aB)))) (fw (rW c9 (ac 3) (af (bg cO (af (ac 6) aB)) aB)))))))) (aV (bM 8 (e2 lP (ac 1) (eI 1))) (aV (iP (eV (e2 nu (e2 eK (e2 bu (ac 2) (eI 2)) (eI 2)) (eI 1))) (bM 8 (e2 eK (e2 bu (ac 2) (eI 3)) (ac 1))) cE) (dH (d5 (af (ac 0) (af (bg cO (af (dC [none,some 8] (bd (af (ac 1) aB)) (eE 0) ii (e2 nu (ac 0) (ac 1))) aB)) (af (bg cO (af (ac 3) aB)) aB)))))))))
def Cd:List W->List aj->R W:=eN 9 LB
theorem N3(F:mn K "_law_graded" "_law_graded" Gf f fd)(B:Bl mg)(L6:eO P w K mg base 1 "_law_grown" 3 zb):fy P w K mg base (jE P w) 2 f fd Li (lJ K mg 3 Cd):=
 dE (k:=1) F Gg rfl fun gX A outer s H E hr=>by have sc:=Gg;walk_at "w"
def LC:FS:=(aV (bM 2 (bg cU (af (e2 bu (ac 0) (eI 1)) aB))) (aV (bM 3 (bg s_ (af (e2 bu (ac 0) (eI 2)) aB))) (aV (bM 4 (e2 eK (e2 bu (ac 1) (eI 0)) (bg cU (af (ac 3) aB)))) (aV (bM 5 (bg s_ (af (e2 bu (ac 3) (ac 4)) aB))) (aV (bM 6 (bg s_ (af (e2 bu (ac 5) (e2 eK (e2 bu (ac 1) (eI 1)) (ac 2))) aB))) (aV (lx (ac 6) (e2 eK (e2 bu (ac 1) (eI 2)) (ac 2)) (e2 eK (e2 bu (ac 1) (eI 3)) (ac 2)) m5) (aV (lx (ac 5) (e2 eK (e2 bu (ac 1) (eI 1)) (ac 2)) (bg cO (af (ac 6) aB)) m5) (aV (lx (ac 3) (ac 4) (bg cO (af (ac 5) aB)) m5) (dH (d5 (af (e2 bu (ac 0) (eI 0)) (af (e2 bu (ac 0) (eI 1)) (af (bg cO (af (ac 3) aB)) aB)))))))))))))
def Ce:List W->List aj->R W:=eN 7 LC
theorem N4(F:mn K "_law_spotted" "_law_spotted" Gh f fd)(B:Bl mg) :fy P w K mg base (jE P w) 1 f fd Lj (lJ K mg 2 Ce):=
 dE (k:=0) F Gi rfl fun gX A outer s H E hr=>by have sc:=Gi;walk_at "w"
def LD:FS:=(aV (bM 3 (bg cU (af (ac 1) aB))) (aV (bM 4 (eI 0)) (aV (bM 5 (kH aB)) (aV (dX (cY (e2 bu (ac 0) (eI 2))) (eE 6) (aV (bM 7 (kH aB)) (aV (dX (bd (af (ac 3) aB)) (eE 8) (aV (bM 9 (kH aB)) (aV (dX (bd (af (ac 3) aB)) (eE 10) (aV (bM 11 (e2 bu (e2 bu (ac 6) (e2 bu (ac 1) (ac 8))) (e2 bu (ac 1) (ac 10)))) (aV (uK (dC [none,some 11,some 1] (bd (af (ac 3) aB)) (eE 0) (eV (e2 nu (e2 bu (ac 2) (ac 0)) (ac 1))) (ac 0)) (eE 12)) (aV (fw (rW c9 (ac 9) (af (e2 bu (ac 12) (e2 eK (e2 bu (ac 2) (e2 eK (ac 4) (bg cU (af (ac 2) aB)))) (bg cU (af (ac 12) aB)))) aB))) (bM 4 (e2 d6 (ac 4) (eI 1))))))) (fw (rW c9 (ac 7) (af (bg cO (af (ac 9) aB)) aB)))))) (fw (rW c9 (ac 5) (af (bg cO (af (ac 7) aB)) aB)))))) (dH (d5 (af (e2 bu (ac 0) (eI 0)) (af (bg cO (af (dC [none,some 0] (cY (ac 1)) (eE 0) ii (e2 bu (e2 bu (ac 1) (eI 1)) (ac 0))) aB)) (af (bg cO (af (ac 5) aB)) aB)))))))))
def Cf:List W->List aj->R W:=eN 13 LD
theorem N5(F:mn K "_law_blown" "_law_blown" Gj f fd)(B:Bl mg) :fy P w K mg base (jE P w) 1 f fd Lk (lJ K mg 3 Cf):=
 dE (k:=0) F Gk rfl fun gX A outer s H E hr=>by have sc:=Gk;walk_at "w"
def LF:FS:=(aV (bM 3 (kH (af (eI 0) aB))) (aV (dX (qc (af (eI 1) (af (e2 d6 (ac 0) (ac 1)) aB))) (eE 4) (aV (bM 5 (ac 4)) (aV (iP (eV (e2 QF (ac 4) (ac 0))) (bM 5 (e2 eK (e2 bu (ac 2) (e2 d6 (e2 g_ (eI 2) (ac 4)) (eI 1))) (ac 0))) cE) (fw (rW om (ac 3) (af (e2 d6 (eI 1) (e2 eK (e2 bu (ac 2) (e2 g_ (eI 2) (ac 4))) (bg cU (af (ac 3) aB)))) (af (ac 5) aB))))))) (dH (ac 3))))
def vN:List W->List aj->R W:=eN 6 LF
theorem N6(F:mn K "_law_owner" "_law_owner" Gm f fd)(B:Bl mg) :fy P w K mg base (jE P w) 1 f fd Ll (lJ K mg 3 vN):=
 dE (k:=0) F Gn rfl fun gX A outer s H E hr=>by have sc:=Gn;walk_at "w"
def LG:FS:=(aV (bM 4 (bg cO (af (dC [none,some 3] (bd (af (ac 1) aB)) (eE 0) ii (e2 nu (e2 eK (e2 bu (ac 1) (ac 0)) (eI 2)) (eI 1))) aB))) (aV (bM 5 (kH aB)) (aV (bM 6 (ac 1)) (aV (dX (bd (af (e2 wn (eI 1) (bg cU (af (ac 0) aB))) aB)) (eE 7) (aV (bM 8 (kH aB)) (aV (dX (bd (af (ac 1) aB)) (eE 9) (aV (fw (rW c9 (ac 8) (af (bg cO (af (dC [none,some 2,some 3,some 6] (bd (af (ac 1) aB)) (eE 0) ii (e2 eK (e2 bu (ac 2) (e2 d6 (ac 3) (ac 0))) (ac 1))) aB)) aB))) (bM 6 (e2 d6 (ac 6) (ac 1))))) (fw (rW c9 (ac 5) (af (bg cO (af (ac 8) aB)) aB)))))) (dH (d5 (af (ac 0) (af (ac 4) (af (bg cO (af (ac 5) aB)) aB)))))))))
def Cg:List W->List aj->R W:=eN 10 LG
theorem N7(F:mn K "_law_machine" "_law_machine" Gp f fd)(B:Bl mg) :fy P w K mg base (jE P w) 1 f fd Lm (lJ K mg 4 Cg):=
 dE (k:=0) F Gq rfl fun gX A outer s H E hr=>by have sc:=Gq;walk_at "w"
def LH:FS:=(aV (bM 3 (d7 3 lW (af (d7 2 nS (af (ac 0) (af (ac 1) aB))) (af (eI 10) (af (eI 1000003) aB))))) (aV (uK (d7 1 Ca (af (e2 bu (ac 3) (eI 0)) aB)) (QP 2 (nL (eE 4) (nL (eE 5) BI)))) (aV (bM 6 (d7 2 Cb (af (ac 2) (af (ac 4) aB)))) (aV (bM 7 (d7 4 Cc (af (ac 0) (af (e2 d6 (ac 1) (eI 1)) (af (e2 d6 (e2 d6 (ac 5) (e2 g_ (e2 g_ (ac 5) (ac 5)) (e2 wn (eI 1) (ac 4)))) (eI 40)) (af (eI 3000017) aB)))))) (aV (iP (eV (e2 nu (e2 eK (e2 bu (ac 3) (eI 3)) (eI 3)) (eI 0))) (aV (bM 8 (d7 3 Cd (af (ac 6) (af (ac 5) (af (ac 7) aB))))) (aV (iP (eV (e2 nu (e2 eK (e2 bu (ac 3) (eI 4)) (eI 3)) (eI 0))) (bM 8 (d7 2 Ce (af (ac 8) (af (KN (ac 7) (oO (eI 4)) (oO (eI 8))) aB)))) cE) (dH (d7 3 Cf (af (ac 8) (af (d7 3 vN (af (ac 5) (af (eI 0) (af (KN (ac 7) (oO (eI 8)) (oO (eI 30))) aB)))) (af (ac 7) aB))))))) cE) (aV (bM 9 (ac 5)) (aV (iP (eV (e2 nu (e2 eK (e2 bu (ac 3) (eI 1)) (eI 3)) (eI 0))) (bM 9 (e2 d6 (eI 1) (e2 eK (e2 bu (ac 3) (eI 2)) (ac 5)))) cE) (dH (d7 4 Cg (af (ac 6) (af (ac 5) (af (ac 9) (af (ac 7) aB)))))))))))))
def Ch:List W->List aj->R W:=eN 10 LH
theorem N8(F:mn K "_law_any" "_law_any" Gr f fd) (Ma:eO P w K mg base 3 "_law_blocks" 4 Cc)(L4:eO P w K mg base 1 "_law_blown" 3 Cf)(qy:eO P w K mg base 1 "_law_cell" 2 nS)(oR:eO P w K mg base 2 "_law_draws" 3 lW)(L9:eO P w K mg base 2 "_law_graded" 3 Cd)(Mb:eO P w K mg base 1 "_law_machine" 4 Cg)(L':eO P w K mg base 1 "_law_names" 2 Cb)(zJ:eO P w K mg base 1 "_law_owner" 3 vN)(L3:eO P w K mg base 1 "_law_shape" 1 Ca)(LZ:eO P w K mg base 1 "_law_spotted" 2 Ce):fy P w K mg base (jE P w) 4 f fd Ln (lJ K mg 3 Ch):=
 dE (k:=3) F Gu rfl fun gX A outer s H E hr=>by have sc:=Gu;walk_at "w"
def LI:FS:=(aV (bM 3 (eC (.str [65,66,67,68,69,70,71,72,73,74,75,76,77,78,79,80,81,82,83,84,85,86,87,88,89,90,97,98,99,100,101,102,103,104,105,106,107,108,109,110,111,112,113,114,115,116,117,118,119,120,121,122]))) (aV (bM 4 (eC (.str []))) (aV (dX (cY (d7 3 lW (af (ac 0) (af (ac 1) (af (ac 2) aB))))) (eE 5) (aV (bM 6 (e2 eK (ac 5) (bg cU (af (ac 3) aB)))) (aV (bM 4 (e2 d6 (ac 4) (e2 bu (ac 3) (ac 6)))) (bM 3 (e2 d6 (KN (ac 3) yx (oO (ac 6))) (KN (ac 3) (oO (e2 d6 (ac 6) (eI 1))) yx)))))) (dH (ac 4)))))
def Ci:List W->List aj->R W:=eN 7 LI
theorem N9(F:mn K "_law_pool" "_law_pool" Gv f fd)(B:Bl mg)(oR:eO P w K mg base 2 "_law_draws" 3 lW):fy P w K mg base (jE P w) 3 f fd Lo (lJ K mg 3 Ci):=
 dE (k:=2) F Gw rfl fun gX A outer s H E hr=>by have sc:=Gw;walk_at "w"
def LJ:FS:=(aV (iP (uB (Bz (eV (qR "tuple" (ac 0)))) (eV (e2 Ai (bg cU (af (ac 0) aB)) (eI 3)))) (dH (eC (.bl false))) cE) (aV (iP (uB (Bz (eV (qR "str" (e2 bu (ac 0) (eI 0))))) (eV (e2 Ai (e2 bu (ac 0) (eI 0)) (ac 1)))) (dH (eC (.bl false))) cE) (aV (bM 2 (e2 bu (ac 0) (eI 1))) (aV (iP (uB (Bz (eV (qR "tuple" (ac 2)))) (uB (eV (e2 nu (bg cU (af (ac 2) aB)) (eI 0))) (Bz (eV (qR "tuple" (e2 bu (ac 0) (eI 2))))))) (dH (eC (.bl false))) cE) (aV (dX (cY (ac 2)) (eE 3) (iP (Bz (eV (qR "bool" (ac 3)))) (dH (eC (.bl false))) cE)) (aV (iP (eV (e2 Ai (bg cU (af (e2 bu (ac 0) (eI 2)) aB)) (e2 wn (eI 1) (bg cU (af (ac 1) aB))))) (dH (eC (.bl false))) cE) (aV (dX (cY (e2 bu (ac 0) (eI 2))) (eE 4) (aV (iP (uB (Bz (eV (qR "tuple" (ac 4)))) (eV (e2 Ai (bg cU (af (ac 4) aB)) (bg cU (af (ac 2) aB))))) (dH (eC (.bl false))) cE) (dX (cY (ac 4)) (eE 5) (aV (iP (uB (Bz (eV (qR "tuple" (ac 5)))) (eV (e2 Ai (bg cU (af (ac 5) aB)) (bg cU (af (ac 2) aB))))) (dH (eC (.bl false))) cE) (dX (cY (ac 5)) (eE 6) (iP (uB (Bz (eV (qR "int" (ac 6)))) (uB (eV (qR "bool" (ac 6))) (uB (eV (e2 yt (ac 6) (eI 0))) (eV (e2 QF (ac 6) (bg cU (af (ac 2) aB))))))) (dH (eC (.bl false))) cE)))))) (dH (eC (.bl true))))))))))
def Cj:List W->List aj->R W:=eN 7 LJ
theorem N_(F:mn K "_law_fits" "_law_fits" Gx f fd)(B:Bl mg) :fy P w K mg base (jE P w) 1 f fd Lp (lJ K mg 2 Cj):=
 dE (k:=0) F Gy rfl fun gX A outer s H E hr=>by have sc:=Gy;walk_at "w"
def LK:FS:=(aV (bM 1 (kH (af (eI 0) aB))) (aV (bM 2 (kH (af (eI 0) aB))) (jY (eV (eC (.bl true))) (aV (bM 3 (eC .non)) (aV (dX (bd (af (bg cU (af (e2 bu (ac 0) (eI 2)) aB)) aB)) (eE 4) (dX (bd (af (bg cU (af (ac 1) aB)) aB)) (eE 5) (dX (bd (af (bg cU (af (ac 1) aB)) aB)) (eE 6) (aV (bM 7 (e2 bu (e2 bu (e2 bu (e2 bu (ac 0) (eI 2)) (ac 4)) (e2 bu (ac 1) (ac 5))) (e2 bu (ac 1) (ac 6)))) (aV (bM 8 (d5 (af (e2 d6 (e2 d6 (eI 1) (e2 bu (ac 2) (ac 5))) (e2 bu (ac 2) (ac 6))) (af (ac 5) (af (ac 6) (af (ac 4) (af (ac 7) aB))))))) (iP (Ef (eV (e2 (Dm true) (ac 7) (ac 1))) (uB (eV (Af (ac 3))) (eV (e2 wJ (ac 8) (ac 3))))) (bM 3 (ac 8)) cE)))))) (aV (iP (eV (Af (ac 3))) (dH (ac 1)) cE) (aV (fw (rW c9 (ac 1) (af (e2 bu (ac 3) (eI 4)) aB))) (fw (rW c9 (ac 2) (af (e2 bu (ac 3) (eI 0)) aB))))))))))
def Ck:List W->List aj->R W:=eN 9 LK
theorem N'(F:mn K "_law_settled" "_law_settled" Gz f fd)(B:Bl mg) :fy P w K mg base (jE P w) 1 f fd Lq (lJ K mg 1 Ck):=
 dE (k:=0) F GA rfl fun gX A outer s H E hr=>by have sc:=GA;walk_at "w"
def RU:FS:=(aV (iP (eV (e2 nu (ac 4) (eI 0))) (aV (iP (eV (e2 Ai (e2 bu (e2 bu (ac 0) (eI 1)) (e2 bu (ac 3) (eI 0))) (e2 bu (e2 bu (ac 0) (eI 1)) (e2 bu (ac 3) (eI 1))))) (dH (d5 aB)) cE) (dH (eC .non))) cE) (aV (dX (bd (af (bg cU (af (e2 bu (ac 0) (eI 2)) aB)) aB)) (eE 5) (aV (bM 6 (e2 bu (e2 bu (ac 0) (eI 2)) (ac 5))) (dX (cY (d5 (af (eI 0) (af (eI 1) aB)))) (eE 7) (dX (cY (ac 1)) (eE 8) (aV (bM 9 (d5 (af (e2 bu (e2 bu (ac 6) (ac 8)) (e2 bu (ac 3) (eI 0))) (af (e2 bu (e2 bu (ac 6) (ac 8)) (e2 bu (ac 3) (eI 1))) aB)))) (aV (iP (eV (e2 nu (ac 7) (eI 0))) (bM 9 (d5 (af (e2 bu (e2 bu (ac 6) (e2 bu (ac 3) (eI 0))) (ac 8)) (af (e2 bu (e2 bu (ac 6) (e2 bu (ac 3) (eI 1))) (ac 8)) aB)))) cE) (iP (eV (e2 nu (tU (ac 2) (ac 9) (yB (eI 1))) (e2 lP (ac 4) (eI 1)))) (dH (d5 (af (ac 5) (af (ac 7) (af (ac 8) aB))))) cE))))))) (dH (eC .non))))
def zc:List W->List aj->R W:=eN 10 RU
theorem Oa(F:mn K "_law_why" "_law_why" GB f fd)(B:Bl mg) :fy P w K mg base (jE P w) 1 f fd Lr (lJ K mg 5 zc):=
 dE (k:=0) F GC rfl fun gX A outer s H E hr=>by have sc:=GC;walk_at "w"
def LM:FS:=(aV (bM 2 (kH aB)) (aV (bM 3 qh) (jY (eV (eC (.bl true))) (aV (bM 4 (eI 0)) (aV (iP (eV (e2 Eg (bg cU (af (ac 2) aB)) (eI 0))) (bM 4 (e2 d6 (e2 bu (e2 bu (ac 2) (yB (eI 1))) (eI 2)) (eI 1))) cE) (aV (bM 5 (kH aB)) (aV (dX (cY (ac 1)) (eE 6) (dX (cY (ac 1)) (eE 7) (iP (Ef (eV (e2 yt (ac 6) (ac 7))) (eV (e2 (wL true) (d5 (af (ac 6) (af (ac 7) aB))) (ac 3)))) (aV (bM 8 (d7 5 zc (af (ac 0) (af (ac 1) (af (ac 3) (af (d5 (af (ac 6) (af (ac 7) aB))) (af (ac 4) aB))))))) (iP (eV (vf (ac 8))) (fw (rW c9 (ac 5) (af (d5 (af (ac 6) (af (ac 7) (af (ac 4) (af (ac 8) aB))))) aB))) cE)) cE))) (aV (iP (eV (e2 nu (bg cU (af (ac 5) aB)) (eI 0))) (dH (bg cO (af (ac 2) aB))) cE) (aV (dX (cY (ac 5)) (eE 9) (aV (lx (ac 3) (d5 (af (e2 bu (ac 9) (eI 0)) (af (e2 bu (ac 9) (eI 1)) aB))) (ac 4) rG) (lx (ac 3) (d5 (af (e2 bu (ac 9) (eI 1)) (af (e2 bu (ac 9) (eI 0)) aB))) (ac 4) rG))) (bM 2 (e2 d6 (ac 2) (ac 5))))))))))))
def Cm:List W->List aj->R W:=eN 10 LM
theorem Ob(F:mn K "_law_unlike" "_law_unlike" GD f fd)(B:Bl mg)(L7:eO P w K mg base 1 "_law_why" 5 zc):fy P w K mg base (jE P w) 2 f fd Ls (lJ K mg 2 Cm):=
 dE (k:=1) F GE rfl fun gX A outer s H E hr=>by have sc:=GE;walk_at "w"
def LN:FS:=(aV (bM 1 (e2 d6 (eI 12) (e2 eK (e2 bu (ac 0) (eI 0)) (eI 9)))) (aV (bM 2 (d7 3 vN (af (ac 1) (af (eI 0) (af (KN (ac 0) (oO (eI 8)) yx) aB))))) (aV (uK (dC [none,some 2,some 1] (bd (af (ac 1) aB)) (eE 0) ii (dC [none,some 1,some 2] (bd (af (ac 2) aB)) (eE 0) ii (e2 bu (ac 1) (e2 lP (ac 2) (eI 1))))) (eE 3)) (aV (dX (bd (af (e2 lP (ac 1) (eI 2)) aB)) (eE 4) (aV (iP (uB (eV (e2 Eg (e2 eK (e2 bu (ac 0) (eI 1)) (eI 3)) (eI 0))) (eV (e2 nu (ac 4) (eI 0)))) (lx (e2 bu (ac 3) (e2 bu (ac 2) (ac 4))) (eI 0) (e2 bu (ac 2) (e2 d6 (ac 4) (eI 1))) m5) cE) (iP (eV (e2 yt (e2 eK (e2 bu (ac 0) (eI 1)) (eI 3)) (eI 2))) (lx (e2 bu (ac 3) (eI 0)) (e2 bu (ac 2) (ac 4)) (e2 bu (ac 2) (e2 d6 (ac 4) (eI 1))) m5) cE))) (aV (bM 5 (e2 lP (ac 1) (eI 2))) (aV (iP (eV (e2 nu (e2 eK (e2 bu (ac 0) (eI 2)) (eI 2)) (eI 1))) (bM 5 (e2 d6 (eI 1) (e2 eK (e2 bu (ac 0) (eI 3)) (e2 lP (ac 1) (eI 2))))) cE) (dH (d5 (af (eC (.str [])) (af (bg cO (af (dC [none,some 2,some 5] (bd (af (ac 1) aB)) (eE 0) ii (e2 nu (ac 0) (e2 bu (ac 1) (ac 2)))) aB)) (af (d5 (af (bg cO (af (dC [none] (cY (ac 3)) (eE 0) ii (bg cO (af (ac 0) aB))) aB)) aB)) aB)))))))))))
def Cn:List W->List aj->R W:=eN 6 LN
theorem Oc(F:mn K "_law_ladder" "_law_ladder" GF f fd)(B:Bl mg)(zJ:eO P w K mg base 1 "_law_owner" 3 vN):fy P w K mg base (jE P w) 2 f fd Lu (lJ K mg 1 Cn):=
 dE (k:=1) F pH rfl fun gX A outer s H E hr=>(bT (sS 1 pH (nr yr bY (nr sY (f9 (aY 0) bY) bY))) (bT (sS 2 pH (gz zJ hr (by omega) (aD (aY 1) (aD bY (aD (QL (aY 0) (BG bY) BF) bj))))) (bT (pi (sG 3 pH) (nm:=["_law_l","_law_place","_law_many"]) (cap:=[none,some 2,some 1]) (by first|rfl|kernel_rfl) rfl (h_ B.range (aD (aY 1) bj)) (fun _ _ _ _ _=>(sC 0)) (fun _ _ _ _ _=>jF) (fun _ _ _ _ _=>(Js (nm:=["_law_r","_law_place","_law_many"]) (cap:=[none,some 1,some 2]) (by first|rfl|kernel_rfl) (h_ B.range (aD (aY 2) bj)) (fun _ _ _ _ _=>(sC 0)) (fun _ _ _ _ _=>jF) (fun _ _ _ _ _=>(f9 (aY 1) (nr vg (aY 2) bY)))))) (bT (wt (h_ B.range (aD (nr vg (aY 1) bY) bj)) (sG 4 pH) (bT (rC (EW (yp (jV E0 (nr sY (f9 (aY 0) bY) bY) bY) (wm (jV (Ah hr) (aY 4) bY)))) (fQ (qO Ak (f9 (aY 2) (nr yr (aY 4) bY)) (f9 (aY 3) (f9 (aY 2) (aY 4))) bY)) nK) (fQ (rC (jV w_lt (nr sY (f9 (aY 0) bY) bY) bY) (fQ (qO Ak (f9 (aY 2) (nr yr (aY 4) bY)) (f9 (aY 3) bY) (f9 (aY 2) (aY 4)))) nK)))) (bT (sS 5 pH (nr vg (aY 1) bY)) (bT (rC (jV (Ah hr) (nr sY (f9 (aY 0) bY) bY) bY) (fQ (sS 5 pH (nr yr bY (nr sY (f9 (aY 0) bY) (nr vg (aY 1) bY))))) nK) (fQ (jX (oM (aD KL (aD (gI iY B.tuple eB (aD (qP (nm:=["_law_room","_law_place","_law_only"]) (cap:=[none,some 2,some 5]) (by first|rfl|kernel_rfl) rfl (h_ B.range (aD (aY 1) bj)) (fun _ _ _ _ _=>(sC 0)) (fun _ _ _ _ _=>jF) (fun _ _ _ _ _=>(EU (Ah hr) (aY 0) (f9 (aY 1) (aY 2))))) bj)) (aD (oM (aD (gI iY B.tuple eB (aD (qP (nm:=["_law_row"]) (cap:=[none]) (by first|rfl|kernel_rfl) rfl (tz (aY 3)) (fun _ _ _ _ _=>(sC 0)) (fun _ _ _ _ _=>jF) (fun _ _ _ _ _=>(gI iY B.tuple eB (aD (aY 0) bj)))) bj)) bj)) bj))))))))))))
def LO:FS:=(aV (bM 1 (d7 3 Ch (af (ac 0) (af (eI 1) (af (d7 3 Ci (af (d7 2 nS (af (ac 0) (af (eI 0) aB))) (af (eI 6) (af (eI 2000003) aB)))) aB))))) (aV (iP (eV (e2 nu (e2 eK (e2 bu (d7 3 lW (af (d7 2 nS (af (ac 0) (af (eI 40) aB))) (af (eI 1) (af (eI 8000009) aB)))) (eI 0)) (eI 8)) (eI 3))) (bM 1 (d7 1 Cn (af (d7 3 lW (af (d7 2 nS (af (ac 0) (af (eI 41) aB))) (af (eI 50) (af (eI 9000011) aB)))) aB))) cE) (aV (bM 2 (d7 1 y_ (af (ac 1) aB))) (aV (iP (uB (Bz (eV (qR "tuple" (ac 2)))) (eV (e2 Ai (bg cU (af (ac 2) aB)) (eI 2)))) (dH (eC (.bl false))) cE) (aV (iP (Bz (eV (d7 2 Cj (af (e2 bu (ac 2) (eI 0)) (af (e2 bu (ac 1) (eI 0)) aB))))) (dH (eC (.bl false))) cE) (aV (bM 3 (e2 bu (ac 2) (eI 0))) (aV (bM 4 (bg cU (af (e2 bu (ac 3) (eI 1)) aB))) (aV (iP (uB (eV (e2 Eg (ac 4) (bg cU (af (e2 bu (ac 1) (eI 1)) aB)))) (eV (e2 DG (d7 1 Ck (af (ac 3) aB)) (bg qW (af (ac 4) aB))))) (dH (eC (.bl false))) cE) (dH (e2 nu (e2 g_ (bg cU (af (d7 2 Cm (af (ac 3) (af (bg qW (af (ac 4) aB)) aB))) aB)) (eI 2)) (e2 g_ (ac 4) (e2 lP (ac 4) (eI 1)))))))))))))
def f_q30:List W->List aj->R W:=eN 5 LO
theorem Od(F:mn K "law" "law" qk f fd)(B:Bl mg)(HE:eO P w K mg base 4 "_law_any" 3 Ch)(qy:eO P w K mg base 1 "_law_cell" 2 nS)(oR:eO P w K mg base 2 "_law_draws" 3 lW)(HU:eO P w K mg base 1 "_law_fits" 2 Cj)(HJ:eO P w K mg base 2 "_law_ladder" 1 Cn)(HD:eO P w K mg base 3 "_law_pool" 3 Ci)(HQ:eO P w K mg base 1 "_law_settled" 1 Ck)(HG:eO P w K mg base 2 "_law_unlike" 2 Cm)(HC:eO P w K mg base 4 "least_of" 1 y_):fy P w K mg base (jE P w) 5 f fd GG (lJ K mg 1 f_q30):=
 dE (k:=4) F qZ rfl fun gX A outer s H E hr=>(bT (sS 1 qZ (gz HE hr (by omega) (aD (aY 0) (aD bY (aD (gz HD hr (by omega) (aD (gz qy hr (by omega) (aD (aY 0) (aD bY bj))) (aD bY (aD bY bj)))) bj))))) (bT (rC (jV (Ah hr) (nr sY (f9 (gz oR hr (by omega) (aD (gz qy hr (by omega) (aD (aY 0) (aD bY bj))) (aD bY (aD bY bj)))) bY) bY) bY) (fQ (sS 1 qZ (gz HJ hr (by omega) (aD (gz oR hr (by omega) (aD (gz qy hr (by omega) (aD (aY 0) (aD bY bj))) (aD bY (aD bY bj)))) bj)))) nK) (bT (sS 2 qZ (gz HC hr (by omega) (aD (aY 1) bj))) (bT (rC (EW (yp (Ae (Ad (yF B.isinstance B.tuple eB (aY 2)))) (wm (jV (Dl hr) (gT jW B.len je (aD (aY 2) bj)) bY)))) (fQ (jX Dh)) nK) (bT (rC (Ae (Ad (gz HU hr (by omega) (aD (f9 (aY 2) bY) (aD (f9 (aY 1) bY) bj))))) (fQ (jX Dh)) nK) (bT (sS 3 qZ (f9 (aY 2) bY)) (bT (sS 4 qZ (gT jW B.len je (aD (f9 (aY 3) bY) bj))) (bT (rC (EW (yp (jV E0 (aY 4) (gT jW B.len je (aD (f9 (aY 1) bY) bj))) (wm (jV (Q9 hr) (gz HQ hr (by omega) (aD (aY 3) bj)) (B5 hr B.list B.range (aD (aY 4) bj)))))) (fQ (jX Dh)) nK) (fQ (jX (EU (Ah hr) (nr Ar (gT jW B.len je (aD (gz HG hr (by omega) (aD (aY 3) (aD (B5 hr B.list B.range (aD (aY 4) bj)) bj))) bj)) bY) (nr Ar (aY 4) (nr vg (aY 4) bY)))))))))))))
end
theorem Oe(ns:List α)(hl:0<ns.length)(k:Int):∃c∈ns,pS ns (k%((ns.length:Nat):Int))=some c:=by
 have h0:0<=k%((ns.length:Nat):Int):=hW _ (by omega)
 have h1:k%((ns.length:Nat):Int)<ns.length:=kB _ (by omega)
 obtain⟨m,hm⟩:=ma h0
 rw[hm]at h1 ⊢
 have h2:m<ns.length:=by omega
 exact⟨ns[m],g6 _,d9 (by simp[h2])⟩
theorem qm{st:List aj}(h:st[n]?=some (.ro (ns.map W.int)))(k:Int):∃c,nS [.loc n,.int k] st=.ok (.int c) st:=by
 by_cases hn:ns=[]
 ·subst hn
  refine⟨0,?_⟩
  apply oq;apply AG;apply pD
  ·(repeat' (first|with_reducible exact ip (sv h)|walk_at "ev1"))
  ·(walk_at "evs")
 ·have hl:0<ns.length:=eD.mpr hn
  obtain⟨c,hc,e⟩:=Oe (ns.map W.int) (by simpa using hl) k
  obtain⟨c,_,rfl⟩:=ar.mp hc
  refine⟨c,?_⟩
  apply oq;apply K0
  ·apply pE
   ·(repeat' (first|with_reducible exact ip (sv h)|walk_at "ev1"))
    rw[aQ,ai];omega
   ·(walk_at "evs")
  ·(repeat' (first|with_reducible exact ip (sv h)|with_reducible exact kY (sv h) e|walk_at "ev1"))
   rw[ai];omega
theorem GK(c k s:Int)(hk:-(2^64)<k/\k<2^64)(st:List aj):∃r,0<=r/\za [.int c,.int k,.int s] st=.ok (.int r) st:=by
 have big:∀q:Int,0<=q%2147483647/\q%2147483647<2147483647:=fun q=>⟨hW _ (by decide),kB _ (by decide)⟩
 refine⟨(((c+7*k*k+13*k+s)*69621%2147483647*((c+7*k*k+13*k+s)*69621%2147483647/1009+3)+31*k+s)%2147483629*48271)%1000000007,hW _ (by decide),?_⟩
 apply oq;apply K0
 ·(walk_at "evs")<;>first|exact .inl (by decide)|exact .inr (by decide)|exact .inr hk
 ·(walk_at "evs")<;>first|exact .inl (by decide)|exact .inr (by decide)|exact .inl (by have:=big ((c+7*k*k+13*k+s)*69621);omega)
theorem nT(c s:Int)(m:Nat)(hm:m<=1000)(st:List aj):∃ds:List Int,ds.length=m/\(∀d∈ds,0<=d)/\lW [.int c,.int m,.int s] st=.ok (.loc st.length) (st++[.lst (ds.map W.int)]):=by
 suffices hh:gs (rK fun w bE=>∃j x,w=.loc (st.length+j)/\bE=st++x/\j=0/\∃ds:List Int,x=[.lst (ds.map W.int)]/\ds.length=m/\∀d∈ds,0<=d) (Lw ([W.int c,.int m,.int s].map some++List.replicate (6-3) none) st) by
  obtain⟨j,x,⟨rfl,ds,rfl,h1,h2⟩,e⟩:=iZ hh
  exact⟨ds,h1,h2,e⟩
 apply aG
 ·(walk_at "evs")
 apply aG
 ·(walk_at "evs")
 have main:∀r0:Int,gs (rK fun w bE=>∃j x,w=.loc (st.length+j)/\bE=st++x/\j=0/\∃ds:List Int,x=[.lst (ds.map W.int)]/\ds.length=m/\∀d∈ds,0<=d)
   (aV (dX (bd (af (ac 1) aB)) (eE 5) (iP (eV (e2 Eg (ac 4) (eI 0))) (aV (fw (rW c9 (ac 3) (af (e2 eK (ac 4) (eI 64)) aB))) (bM 4 (e2 yq (ac 4) (eI 64)))) (fw (rW c9 (ac 3) (af (d7 3 za (af (ac 0) (af (ac 5) (af (ac 2) aB)))) aB))))) (dH (ac 3))
   [iO c,iO m,iO s,lO st.length,iO r0,none] (st++[.lst []])):=by
  intro r0
  refine c_ (fun i ρ bE=>∃(r:Int) (o:Option W) (ds:List Int),ρ=[iO c,iO m,iO s,lO st.length,iO r,o]/\bE=st++[.lst (ds.map W.int)]/\ds.length=i/\∀d∈ds,0<=d) (c7 (by(walk_at "evs");rfl) (by omega))
   ⟨r0,none,[],rfl,rfl,rfl,by simp⟩ (fun _ _ _ _=>trivial) ?_ ?_
  ·rintro i w ρ bE hw ⟨r,o,ds,rfl,rfl,hd,h⟩
   obtain⟨hi,rfl⟩:=eR hw
   refine⟨_,rfl,?_⟩
   have gk:(st++[aj.lst (ds.map W.int)])[st.length]?=some (.lst (ds.map W.int)):=by rw[cZ];rfl
   have hsh:(ds.map W.int).length<jw:=by rw[ai,hd];show i<1000000;omega
   by_cases hr:0<r
   ·apply jy
    ·(walk_at "evs");simpa using hr
    apply aG
    ·(repeat' (first|with_reducible exact eG gk|with_reducible exact rJ gk hsh|walk_at "ev1"))
    rw[fC]
    apply dM
    ·(walk_at "evs")
    ·refine⟨_,_,rfl,r/64,_,ds++[r%64],rfl,by simp,by simp[hd],fun d hd'=>?_⟩
     rcases aL.mp hd' with hd'|hd'
     ·exact h d hd'
     ·rw[bz.mp hd'];exact hW _ (by decide)
   ·obtain⟨q,hq,e⟩:=GK c (0+i) s (by omega) (st++[aj.lst (ds.map W.int)])
    apply iJ
    ·(walk_at "evs");simpa using hr
    apply dM
    ·(repeat' (first|with_reducible exact eG gk|with_reducible exact rJ gk hsh|with_reducible exact e|walk_at "ev1"))
    ·refine⟨_,_,rfl,r,_,ds++[q],rfl,by rw[fC];simp,by simp[hd],fun d hd'=>?_⟩
     rcases aL.mp hd' with hd'|hd'
     ·exact h d hd'
     ·rw[bz.mp hd'];exact hq
  ·rintro ρ bE ⟨r,o,ds,rfl,rfl,hd,h⟩
   apply ei
   ·(walk_at "evs")
   ·exact⟨_,_,rfl,0,_,rfl,rfl,rfl,ds,rfl,by rw[hd];simpa using bK 0 m,h⟩
 by_cases hc:(10:Int)^18<=c
 ·apply aG
  ·apply pD
   ·(walk_at "evs")<;>simpa using hc
   ·(walk_at "evs")
  ·exact main c
 ·apply aG
  ·apply pE
   ·(walk_at "evs")<;>simpa using hc
   ·(walk_at "evs")
  ·exact main 0
abbrev LL:List Nat:=[65,66,67,68,69,70,71,72,73,74,75,76,77,78,79,80,81,82,83,84,85,86,87,88,89,90,97,98,99,100,101,102,103,104,105,106,107,108,109,110,111,112,113,114,115,116,117,118,119,120,121,122]
theorem JT(c s:Int)(m:Nat)(hm:m<=52)(st:List aj):∃l:List Nat,l.length=m/\l.Nodup/\(∀d∈l,d∈LL)/\Ci [.int c,.int m,.int s] st=.ok (.str l) st:=by
 suffices hh:gs (rK fun w bE=>(∃x,bE=st++x)/\undWs st.length [w]=true/\∃l:List Nat,w=.str l/\l.length=m/\l.Nodup/\∀d∈l,d∈LL) (LI ([W.int c,.int m,.int s].map some++List.replicate (7-3) none) st) by
  obtain⟨w,⟨l,rfl,h1,h2,h3⟩,e⟩:=jI hh
  exact⟨l,h1,h2,h3,e⟩
 obtain⟨ds,h1,h2,e⟩:=nT c s m (by omega) st
 apply aG
 ·(walk_at "evs")
 apply aG
 ·(walk_at "evs")
 have gk:lstOf (st++[aj.lst (ds.map W.int)]) st.length=some (ds.map W.int):=aO (by rw[cZ];rfl)
 refine c_ (fun i ρ bE=>∃(r f:List Nat) (o o2:Option W),ρ=[iO c,iO m,iO s,some (.str r),some (.str f),o,o2]/\bE=st++[.lst (ds.map W.int)]/\f.length=i/\r.length+i=52/\(f++r).Perm LL) (fM (by(repeat' (first|with_reducible exact e|walk_at "ev1"))) gk)
  ⟨LL,[],none,none,rfl,rfl,rfl,rfl,.refl _⟩ (fun i ρ bE h=>?_) ?_ ?_
 ·obtain⟨r,f,o,o2,rfl,rfl,_⟩:=h
  exact gk
 ·rintro i w ρ bE hw ⟨r,f,o,o2,rfl,rfl,hf,hr,hfl⟩
  obtain⟨d,hd,rfl⟩:∃d,ds[i]?=some d/\w=.int d:=by
   simp only[ak,aX]at hw
   obtain⟨d,h1,rfl⟩:=hw
   exact⟨d,h1,rfl⟩
  have hi:i<m:=by rw[<- h1];exact(aa.mp hd).1
  obtain⟨q,hq,eq⟩:=f_ (q:=d) (n:=r.length) (by omega)
  have hL:r.length<=jw:=by show _<=1000000;omega
  have hLf:f.length<=jw:=by show _<=1000000;omega
  have hat:pS r (d%(r.length:Int))=some r[q]:=by rw[eq];exact d9 (by simp[hq])
  refine⟨_,rfl,?_⟩
  apply aG
  ·(repeat' (first|with_reducible exact wT hL|walk_at "ev1"))
   show 0<(r.length:Int);omega
  apply aG
  ·have ha:f.length+[r[q]].length<=jw:=by show _+1<=1000000;omega
   (repeat' (first|with_reducible exact K4 hL hat|with_reducible exact FV ha|walk_at "ev1"))
  apply dM
  ·(repeat' (first|with_reducible exact Re hL|walk_at "ev1"))
   rw[eq,wU (by omega),show((q:Int)+1)=((q+1:Nat):Int)from rfl,sw (by omega),a7,dP]
   show _<=1000000;omega
  ·refine⟨_,_,rfl,_,_,_,_,rfl,rfl,by simp[hf],?_,?_⟩
   ·rw[eq,wU (by omega),show((q:Int)+1)=((q+1:Nat):Int)from rfl,sw (by omega),aC,a7,dP]
    omega
   ·rw[eq,wU (by omega),show((q:Int)+1)=((q+1:Nat):Int)from rfl,sw (by omega)]
    refine List.Perm.trans ?_ hfl
    rw[aw]
    refine List.Perm.append_left f ?_
    have e:r=r.take q++r[q]::r.drop (q+1):=by rw[<- fB hq,nF]
    have e2:(r[q]::(r.take q++r.drop (q+1))).Perm r:=(List.perm_middle.symm).trans (by rw[<- e])
    exact e2
 ·rintro ρ bE ⟨r,f,o,o2,rfl,rfl,hf,hr,hfl⟩
  apply ei
  ·(walk_at "evs")
  ·exact⟨_,_,rfl,⟨_,rfl⟩,rfl,f,rfl,by rw[hf];simpa using h1,(dG.mp (hfl.nodup_iff.mpr (by decide))).1,fun d hd=>hfl.mem_iff.mp (cN _ hd)⟩
theorem hU{st s:List aj}{p:Nat}{c:aj}(h:st <+: s)(hp:st.length<=p):st <+: s.set p c:=by
 obtain⟨x,rfl⟩:=h
 rw[show p=st.length+(p-st.length) by omega,im]
 exact aq _ _
theorem mG{st s y:List aj}(h:st <+: s):st <+: s++y:=h.trans (aq _ _)
theorem pre_get{st s:List aj}{c:aj}(h:st <+: s)(e:st[i]?=some c):s[i]?=some c:=by
 obtain⟨x,rfl⟩:=h
 exact aJ e
theorem ji{s:List aj}{p:Nat}{c d:aj}(h:s[p]?=some d):(s.set p c)[p]?=some c:=by
 rw[bh (aa.mp h).1]
theorem AR{s:List aj}{p:Nat}{c:aj}(h:p≠q):(s.set p c)[q]?=s[q]?:=bp h
theorem Of{s:List aj}{p:Nat}{c:aj}(h:s[p]?=some c):p<s.length:=(aa.mp h).1
theorem bw{s:List aj}{c:aj}:(s++[c])[s.length]?=some c:=by rw[cZ];rfl
def nw(l:List Int):List W:=l.map W.int
theorem fN{s:List aj}{p i:Nat}{ds:List Int}{d:Int}(h:s[p]?=some (.lst (nw ds)))(e:ds[i]?=some d):bu (.loc p) (.int i) s=.ok (.int d) s:=kY (aO h) (d9 (by rw[nw,ak,e];rfl))
theorem GL(d:Int)(st:List aj):∃c n:Nat,c<=5/\1<=n/\n<=9/\n*n*2^c<=200/\Ca [.int d] st=.ok (.tup [.int c,.int n]) st:=by
 suffices hh:gs (rK fun w bE=>(∃x,bE=st++x)/\undWs st.length [w]=true/\∃c n:Nat,w=.tup [.int c,.int n]/\c<=5/\1<=n/\n<=9/\n*n*2^c<=200) (Lx ([W.int d].map some++List.replicate (2-1) none) st) by
  obtain⟨w,⟨c,n,rfl,h1,h2,h3,h4⟩,e⟩:=jI hh
  exact⟨c,n,h1,h2,h3,h4,e⟩
 apply aG
 ·(walk_at "evs")
 have hd:d%12=0\/d%12=1\/d%12=2\/d%12=3\/d%12=4\/d%12=5\/d%12=6\/d%12=7\/d%12=8\/d%12=9\/d%12=10\/d%12=11:=by
  obtain⟨m,hm,em⟩:=f_ (q:=d) (n:=12) (by decide)
  rw[show d%12=_ from em]
  clear em
  revert m
  decide
 have hm:e2 eK (ac 0) (eI 12) (([W.int d].map some++List.replicate (2-1) none).set 1 (some (.tup [.tup [.int 0,.int 1],.tup [.int 0,.int 5],.tup [.int 0,.int 9],.tup [.int 1,.int 2],.tup [.int 1,.int 4],.tup [.int 1,.int 6],.tup [.int 2,.int 1],.tup [.int 2,.int 3],.tup [.int 2,.int 5],.tup [.int 3,.int 2],.tup [.int 3,.int 4],.tup [.int 5,.int 2]]))) st=.ok (.int (d%12)) st:=bJ kv cP (lz (by decide))
 have fin:∀(c n:Nat),c<=5->1<=n->n<=9->n*n*2^c<=200->pS [W.tup [.int 0,.int 1],.tup [.int 0,.int 5],.tup [.int 0,.int 9],.tup [.int 1,.int 2],.tup [.int 1,.int 4],.tup [.int 1,.int 6],.tup [.int 2,.int 1],.tup [.int 2,.int 3],.tup [.int 2,.int 5],.tup [.int 3,.int 2],.tup [.int 3,.int 4],.tup [.int 5,.int 2]] (d%12)=some (.tup [.int c,.int n]) ->
   gs (rK fun w bE=>(∃x,bE=st++x)/\undWs st.length [w]=true/\∃c n:Nat,w=.tup [.int c,.int n]/\c<=5/\1<=n/\n<=9/\n*n*2^c<=200) (dH (e2 bu (ac 1) (e2 eK (ac 0) (eI 12))) (([W.int d].map some++List.replicate (2-1) none).set 1 (some (.tup [.tup [.int 0,.int 1],.tup [.int 0,.int 5],.tup [.int 0,.int 9],.tup [.int 1,.int 2],.tup [.int 1,.int 4],.tup [.int 1,.int 6],.tup [.int 2,.int 1],.tup [.int 2,.int 3],.tup [.int 2,.int 5],.tup [.int 3,.int 2],.tup [.int 3,.int 4],.tup [.int 5,.int 2]]))) st):=fun c n h1 h2 h3 h4 e=>by
  apply ei
  ·exact bJ kv hm (i8 e)
  ·exact⟨_,_,rfl,⟨[],by simp⟩,rfl,c,n,rfl,h1,h2,h3,h4⟩
 rcases hd with h|h|h|h|h|h|h|h|h|h|h|h
 ·exact fin 0 1 (by decide) (by decide) (by decide) (by decide) (by rw[h];rfl)
 ·exact fin 0 5 (by decide) (by decide) (by decide) (by decide) (by rw[h];rfl)
 ·exact fin 0 9 (by decide) (by decide) (by decide) (by decide) (by rw[h];rfl)
 ·exact fin 1 2 (by decide) (by decide) (by decide) (by decide) (by rw[h];rfl)
 ·exact fin 1 4 (by decide) (by decide) (by decide) (by decide) (by rw[h];rfl)
 ·exact fin 1 6 (by decide) (by decide) (by decide) (by decide) (by rw[h];rfl)
 ·exact fin 2 1 (by decide) (by decide) (by decide) (by decide) (by rw[h];rfl)
 ·exact fin 2 3 (by decide) (by decide) (by decide) (by decide) (by rw[h];rfl)
 ·exact fin 2 5 (by decide) (by decide) (by decide) (by decide) (by rw[h];rfl)
 ·exact fin 3 2 (by decide) (by decide) (by decide) (by decide) (by rw[h];rfl)
 ·exact fin 3 4 (by decide) (by decide) (by decide) (by decide) (by rw[h];rfl)
 ·exact fin 5 2 (by decide) (by decide) (by decide) (by decide) (by rw[h];rfl)
theorem GM{st:List aj}(h:lstOf st n=some (ls.map W.str))(hl:ls.length<64):qS [.loc n] st=.ok (.loc st.length) (st++[.lst ((lQ ls).map W.str)]):=by
 show oh [.loc n] st=_
 unfold oh
 simp only[h,cp,vm]
 rw[am hl]
theorem zd{a b:List (List Nat)}(h:a.Perm b):(a.map List.length).sum=(b.map List.length).sum:=by
 induction h with
 |nil=>rfl
 |cons x _ ih=>simp only[aF,o_,ih]
 |swap x y l=>simp only[aF,o_];omega
 |trans _ _ ih1 ih2=>rw[ih1,ih2]
theorem ze(l:List Nat):(((l.map fun c=>[c])).map List.length).sum=l.length:=by
 induction l with
 |nil=>rfl
 |cons a r ih=>simp only[aF,o_,br,ih,dJ];omega
def DR(l:List Nat):List Nat:=oK [] (lQ (l.map fun c=>[c]))
theorem JU(l:List Nat):(DR l).length=l.length:=by
 unfold DR;rw[vd,List.length_flatten,zd (jZ _),ze]
theorem JV{st s1:List aj}(h:fe ρ st=.ok (.loc n) s1)(hc:lstOf s1 n=some ((l.map fun c=>[c]).map W.str))(hl:l.length<64) :
  QU tw (eC (.str [])) (af (bg qS (af fe aB)) aB) ρ st=.ok (.str (DR l)) (s1++[.lst ((lQ (l.map fun c=>[c])).map W.str)]):=by
 have hs:=GM hc (by simpa using hl)
 have hcell2:lstOf (s1++[aj.lst ((lQ (l.map fun c=>[c])).map W.str)]) s1.length=some ((lQ (l.map fun c=>[c])).map W.str):=aO bw
 have hj:=NE (sep:=[]) hcell2 (by rw[zd (jZ _),ze];show _<=1000000;simp;omega)
 exact Ra cP rfl (ay (bi (ay h bt) hs) bt) hj
theorem GN(gN:List Nat)(c:Nat)(hp:gN.length<=50)(hc:c<=gN.length)(st:List aj):Cb [.str gN,.int c] st=.ok (.str (DR (gN.take c))) st:=by
 have hL:gN.length<=jw:=by show _<=1000000;omega
 have hcm:dC [none,some 0] (bd (af (ac 1) aB)) (eE 0) ii (e2 bu (ac 1) (ac 0)) [some (.str gN),iO c] st=.ok (.loc st.length) (st++[.lst (((gN.take c).map fun c=>[c]).map W.str)]):=by
  have:=gW (fi:=bd (af (ac 1) aB)) (f:=eE 0) (el:=e2 bu (ac 1) (ac 0)) (cap:=[none,some 0]) (ρ:=[some (.str gN),iO c]) (st:=st) (st1:=st) (ws:=bq 0 c) (ck:=none) (fun w=>match w with|.int i=>.str [gN.getD i.toNat 0]|_=>.non)
   (by
    have:=c7 (fs:=af (ac 1) aB) (ρ:=[some (.str gN),iO c]) (st:=st) (st1:=st) (q:=(c:Int)) kn (by omega)
    rw[aR]at this
    exact this) (by rw[bK];show _<=1000000;omega) trivial ?_
  ·have e:(bq 0 c).map (fun w=>match w with|.int i=>W.str [gN.getD i.toNat 0]|_=>.non)=((gN.take c).map fun c=>[c]).map W.str:=by
    refine mf (by simp[bK];omega) fun i h1 h2=>?_
    have hi:i<c:=by simpa[bK]using h1
    rw[cS,cS,cS,List.getElem_take]
    unfold bq
    rw[cS,kC]
    show W.str [gN.getD ((0:Int)+(i:Int)).toNat 0]=_
    rw[show((0:Int)+(i:Int)).toNat=i by omega,aE,ae (by omega)];rfl
   rw[this,e]
  ·intro w hw
   obtain⟨i,hi,rfl⟩:=oz hw
   refine⟨[iO (0+(i:Int)),some (.str gN)],rfl,bJ kv kv ?_⟩
   rw[show((0:Int)+(i:Int))=(i:Int) by omega]
   have e2:pS gN (i:Int)=some (gN.getD i 0):=d9 (by rw[aE,ae (by omega)];rfl)
   rw[K4 hL e2]
   simp
 have dk:(gN.take c).length=c:=by rw[a7];omega
 have hj:=JV hcm (aO bw) (by omega)
 refine t7 (N:=2) (ws:=[.str gN,.int c]) (body:=Ly) ?_ rfl
 apply ei
 ·exact hj
 ·exact⟨_,_,rfl,rfl,_,by rw[aw]⟩
theorem Og{fs:FA}{st st1:List aj}{i j k:Int}(h:fs ρ st=.ok [.int i,.int j,.int k] st1)(hq:-(2^60)<=i/\i<2^60/\-(2^60)<=j/\j<2^60/\0<k/\k<=1000):wD fs ρ st=.ok (rD i k (oQ i j k),none) st1:=by
 unfold wD;rw[h];simp only[R.bind_ok];rw[am hq]
theorem GO{i k:Int}{w:W}(h:(rD i k n)[m]?=some w):m<n/\w=.int (i+m*k):=by
 unfold rD at h
 obtain⟨h1,h2⟩:=aa.mp h
 simp only[ai,b9]at h1
 exact⟨h1,by rw[<- h2];simp⟩
theorem DS(i k:Int)(n:Nat):(rD i k n).length=n:=by simp[rD]
theorem DT{n0:Nat}{st:List aj}(h0:st[n0]?=some (.ro (ns.map W.int)))(a:Int)(oG:Nat)(Ku:Int)(hm:oG<=1000) :
  ∃(j:Nat) (x:List aj) (ds:List Int),ds.length=oG/\(∀d∈ds,0<=d)/\x[j]?=some (.lst (nw ds))/\Cc [.loc n0,.int a,.int oG,.int Ku] st=.ok (.loc (st.length+j)) (st++x):=by
 suffices hh:gs (rK fun w bE=>∃j x,w=.loc (st.length+j)/\bE=st++x/\∃ds:List Int,ds.length=oG/\(∀d∈ds,0<=d)/\x[j]?=some (.lst (nw ds))) (LA ([W.loc n0,.int a,.int oG,.int Ku].map some++List.replicate (6-4) none) st) by
  obtain⟨j,x,⟨ds,h1,h2,h3⟩,e⟩:=iZ hh
  exact⟨j,x,ds,h1,h2,h3,e⟩
 apply aG
 ·(walk_at "evs")
 refine c_ (fun i ρ s=>∃(p:Nat) (ds:List Int) (o5:Option W),ρ=[lO n0,iO a,iO oG,iO Ku,lO p,o5]/\st <+: s/\st.length<=p/\s[p]?=some (.lst (nw ds))/\ds.length=min oG (50*i)/\∀d∈ds,0<=d) (Og (i:=0) (j:=oG) (k:=50) (st1:=st++[aj.lst []]) (by(walk_at "evs")) (by omega))
  ⟨st.length,[],none,rfl,aq _ _,au _,bw,by simp,by simp⟩ (fun _ _ _ _=>trivial) ?_ ?_
 ·rintro i w ρ s hw ⟨p,ds,o5,rfl,hp,pK,hc,hl,D_⟩
  obtain⟨hi,rfl⟩:=GO hw
  refine⟨_,rfl,?_⟩
  have ny:(50:Int)*i<oG:=by
   unfold oQ at hi
   split at hi
   ·omega
   ·omega
  obtain⟨c,ec⟩:=qm (pre_get hp h0) (a+(0+(i:Int)*50)/50)
  obtain⟨mm,hmm,emm⟩:∃mm:Nat,mm=min 50 (oG-50*i)/\Aj [.int 50,.int ((oG:Int)-(0+(i:Int)*50))] s=.ok (.int mm) s:=by
   refine⟨min 50 (oG-50*i),rfl,?_⟩
   show R.ok (W.int (if (oG:Int)-(0+(i:Int)*50)<50 then(oG:Int)-(0+(i:Int)*50)else 50)) s=_
   congr 2
   split<;>omega
  obtain⟨es,hes,hep,ee⟩:=nT c (Ku+1009*(0+(i:Int)*50)) mm (by omega) s
  have ad:=AH (st:=s++[aj.lst (es.map W.int)]) (pre_get (aq _ _) hc) bw (by simp[nw];show _<=1000000;omega)
  have cm:Ag 1009 (0+(i:Int)*50):=.inl (by decide)
  apply dM
  ·(walk_at "evs")
   all_goals first|exact cm|exact(by decide)
  ·refine⟨_,_,rfl,_,ds++es,_,rfl,mG (mG hp),?_,?_,?_,?_⟩
   ·have:=Of hc;simp;omega
   ·rw[bw];simp[nw]
   ·rw[aC];omega
   ·intro d hd
    rcases aL.mp hd with z|z
    ·exact D_ d z
    ·exact hep d z
 ·rintro ρ s ⟨p,ds,o5,rfl,⟨x,rfl⟩,pK,hc,hl,D_⟩
  rw[DS]at hl
  have hmn:oG<=50*oQ 0 oG 50:=by
   unfold oQ
   split
   ·omega
   ·omega
  apply ei
  ·(walk_at "evs")
  ·refine⟨_,_,rfl,p-st.length,x,by rw[show st.length+(p-st.length)=p by omega],rfl,ds,by omega,D_,?_⟩
   rw[cy pK]at hc
   exact hc
theorem GP(g l r:Nat)(st:List aj):∃k:Nat,zb [.int g,.int l,.int r] st=.ok (.int k) st:=by
 by_cases h0:g=0
 ·subst h0
  refine⟨l+r,?_⟩
  apply iQ
  apply gu
  ·(walk_at "evs")
  apply fH
  ·(walk_at "evs")
  ·exact⟨_,_,rfl,rfl,rfl⟩
 ·have t0:((g:Int)==0)=false:=by rw[aQ];omega
  by_cases h1:g=1
  ·subst h1
   refine⟨if r>l then r else l,?_⟩
   have mx:E4 [.int l,.int r] st=.ok (.int ((if r>l then r else l:Nat):Int)) st:=by
    show R.ok (W.int (if (r:Int)>(l:Int)then(r:Int)else(l:Int))) st=_
    congr 2
    split<;>split<;>omega
   apply iQ
   apply cx
   ·(walk_at "evs")
   apply cK
   apply gu
   ·(walk_at "evs")
   apply fH
   ·(walk_at "evs")
   ·exact⟨_,_,rfl,rfl,rfl⟩
  ·have t1:((g:Int)==1)=false:=by rw[aQ];omega
   by_cases h2:g=2
   ·subst h2
    refine⟨l,?_⟩
    apply iQ
    apply cx
    ·(walk_at "evs")
    apply cK
    apply cx
    ·(walk_at "evs")
    apply cK
    apply gu
    ·(walk_at "evs")
    apply fH
    ·(walk_at "evs")
    ·exact⟨_,_,rfl,rfl,rfl⟩
   ·have t2:((g:Int)==2)=false:=by rw[aQ];omega
    refine⟨r,?_⟩
    apply iQ
    apply cx
    ·(walk_at "evs")
    apply cK
    apply cx
    ·(walk_at "evs")
    apply cK
    apply cx
    ·(walk_at "evs")
    apply cK
    apply ei
    ·(walk_at "evs")
    ·exact⟨_,_,rfl,rfl,rfl⟩
section
variable{st:List aj}{fs:FA}
theorem JW(V:β->W)(Pb:Nat->β->Prop)(hr:fs ρ st=.ok [.int n] st)(hn:n<=100000)(h:∀i:Nat,i<n->∃b,Pb i b/\el ((qf cap ρ).set 0 (iO i)) st=.ok (V b) st) :
  ∃r:List β,r.length=n/\(∀i b,r[i]?=some b->Pb i b)/\dC cap (bd fs) (eE 0) ii el ρ st=.ok (.loc st.length) (st++[.lst (r.map V)]):=by
 let f:Fin n->β:=fun i=>Classical.choose (h i i.2)
 have hf:∀i:Fin n,Pb i (f i)/\el ((qf cap ρ).set 0 (iO (i:Nat))) st=.ok (V (f i)) st:=fun i=>Classical.choose_spec (h i i.2)
 let Y:W->W:=fun w=>match w with
  |.int z=>if hz:z.toNat<n then V (f ⟨z.toNat,hz⟩)else .non
  |_=>.non
 have ir:bd fs ρ st=.ok (bq 0 n,none) st:=by
  have:=c7 hr (by omega)
  rw[aR]at this
  exact this
 have hc:=gW (fi:=bd fs) (f:=eE 0) (el:=el) (cap:=cap) (ρ:=ρ) Y ir (by rw[bK];show _<=1000000;omega) trivial fun w hw=>by
  obtain⟨i,hi,rfl⟩:=oz hw
  refine⟨_,rfl,?_⟩
  rw[show((0:Int)+(i:Int))=(i:Int) by omega]
  show _=R.ok (if hz:(i:Int).toNat<n then V (f ⟨(i:Int).toNat,hz⟩)else .non) st
  rw[mU (show(i:Int).toNat<n by omega)]
  exact(hf ⟨i,hi⟩).2
 refine⟨List.ofFn f,by simp,fun i b hb=>?_,?_⟩
 ·obtain⟨h1,h2⟩:=aa.mp hb
  rw[List.getElem_ofFn]at h2
  rw[<- h2]
  exact(hf ⟨i,by simpa using h1⟩).1
 ·rw[hc]
  have e:(bq 0 n).map Y=(List.ofFn f).map V:=by
   refine mf (by simp[bK]) fun i h1 h2=>?_
   have hi:i<n:=by simpa[bK]using h1
   rw[cS,cS,List.getElem_ofFn]
   unfold bq
   rw[cS,kC,show((0:Int)+(i:Int))=(i:Int) by omega]
   show(if hz:(i:Int).toNat<n then V (f ⟨(i:Int).toNat,hz⟩)else .non)=_
   rw[mU (show(i:Int).toNat<n by omega)]
  rw[e]
theorem ue(V:β->W)(Pb:Nat->β->Prop)(hr:fs ρ st=.ok [.int n] st)(hn:n<=100000)(h:∀i:Nat,i<n->∃b,Pb i b/\el ((qf cap ρ).set 0 (iO i)) st=.ok (V b) st) :
  ∃r:List β,r.length=n/\(∀i b,r[i]?=some b->Pb i b)/\bg cO (af (dC cap (bd fs) (eE 0) ii el) aB) ρ st=.ok (.tup (r.map V)) (st++[.lst (r.map V)]):=by
 obtain⟨r,h1,h2,e⟩:=JW (cap:=cap) (el:=el) V Pb hr hn h
 exact⟨r,h1,h2,bi (ay e bt) (fA (aO bw))⟩
end
structure Mc where
 nm:List Nat
 gd:List Bool
 tb:List (List (List Nat))
def g7(r:List Nat):W:=.tup (r.map fun k=>W.int (k:Nat))
def dY(t:List (List Nat)):W:=.tup (t.map g7)
def Mc.w(M:Mc):W:=.tup [.str M.nm,.tup (M.gd.map W.bl),.tup (M.tb.map dY)]
def Eh(n:Nat)(t:List (List Nat)):Prop:=t.length=n/\∀r∈t,r.length=n/\∀k∈r,k<n
structure rM(M:Mc)(n:Nat):Prop where
 gd:M.gd.length=n
 tb:M.tb.length=2^M.nm.length
 t:∀t∈M.tb,Eh n t
theorem JX(r:List Nat)(n:Nat):(g7 r).und n=true:=by
 unfold g7 W.und
 induction r with
 |nil=>rfl
 |cons x r ih=>simp only[aF,undWs,ih,ca];rfl
theorem Co(t:List (List Nat))(n:Nat):(dY t).und n=true:=by
 unfold dY W.und
 induction t with
 |nil=>rfl
 |cons x r ih=>simp only[aF,undWs,ih,ca];exact JX x n
theorem GQ(t:List (List (List Nat)))(n:Nat):undWs n (t.map dY)=true:=by
 induction t with
 |nil=>rfl
 |cons x r ih=>simp only[aF,undWs,ih,ca];exact Co x n
theorem Cp(t:List Bool)(n:Nat):undWs n (t.map W.bl)=true:=by
 induction t with
 |nil=>rfl
 |cons x r ih=>simp only[aF,undWs,ih,ca];rfl
theorem pI(M:Mc)(n:Nat):M.w.und n=true:=by
 unfold Mc.w
 simp[W.und,undWs,GQ,Cp]
theorem yn{c:Nat}{st:List aj}(h:c<=100):wn (.int 1) (.int c) st=.ok (.int ((2^c:Nat):Int)) st:=by
 have:=lz (C:=fun i j=>0<=j/\j<=1000000/\i.natAbs<2^64) (f:=fun i j=>i*2^j.toNat) (p:=1) (q:=(c:Int)) (st:=st) ⟨by omega,by omega,by decide⟩
 rw[show wn (.int 1) (.int c) st=_ from this]
 simp
theorem mH{s:List aj}{p:Nat}{y:W}(h:s[p]?=some (.lst ws))(hl:ws.length<1000000):c9 (.loc p) [y] s=.ok .non (s.set p (.lst (ws++[y]))):=rJ h hl
theorem DU(nm:List Nat)(n dl:Nat)(ds:List Int)(st:List aj)(zR:nm.length<=6)(hn:1<=n)(Ek:n<=9)(hd:st[dl]?=some (.lst (nw ds)))(CL:4<=ds.length)(D_:∀d∈ds,0<=d) :
  ∃M:Mc,M.nm=nm/\rM M n/\Cd [.str nm,.int n,.loc dl] st=.ok M.w st:=by
 suffices hh:gs (rK fun w bE=>(∃x,bE=st++x)/\undWs st.length [w]=true/\∃M:Mc,w=M.w/\M.nm=nm/\rM M n) (LB ([W.str nm,.int n,.loc dl].map some++List.replicate (9-3) none) st) by
  obtain⟨w,⟨M,rfl,h1,h2⟩,e⟩:=jI hh
  exact⟨M,h1,h2,e⟩
 obtain⟨d0,d1,d2,d3,dr,rfl⟩:∃a b c d r,ds=a::b::c::d::r:=by
  match ds,CL with
  |a::b::c::d::r,_=>exact⟨_,_,_,_,_,rfl⟩
 have dk:∀s:List aj,cU [.str nm] s=.ok (.int nm.length) s:=fun s=>wT (by show _<=1000000;omega)
 have p2:2^nm.length<=64:=gS (by omega) zR
 obtain⟨N,hN⟩:∃N,N=2^nm.length:=⟨_,rfl⟩
 have sh:∀s:List aj,wn (.int 1) (.int nm.length) s=.ok (.int N) s:=fun s=>by rw[hN];exact yn (by omega)
 rw[<- hN]at p2
 have ix0:∀s:List aj,st <+: s->bu (.loc dl) (.int 0) s=.ok (.int d0) s:=fun s h=>fN (i:=0) (pre_get h hd) rfl
 have ix1:∀s:List aj,st <+: s->bu (.loc dl) (.int 1) s=.ok (.int d1) s:=fun s h=>fN (i:=1) (pre_get h hd) rfl
 have ix2:∀s:List aj,st <+: s->bu (.loc dl) (.int 2) s=.ok (.int d2) s:=fun s h=>fN (i:=2) (pre_get h hd) rfl
 have ix3:∀s:List aj,st <+: s->bu (.loc dl) (.int 3) s=.ok (.int d3) s:=fun s h=>fN (i:=3) (pre_get h hd) rfl
 apply aG
 ·(walk_at "evs")
 refine c_ (fun i ρ s=>∃(tb:List (List (List Nat))) (o4 o5 o6 o7:Option W),ρ=[some (.str nm),iO n,lO dl,lO st.length,o4,o5,o6,o7,none]/\st <+: s/\s[st.length]?=some (.lst (tb.map dY))/\tb.length=i/\∀t∈tb,Eh n t)
  (c7 (q:=(N:Int)) (st1:=st++[aj.lst []]) (ay (bJ cP (bi kn (dk _)) (sh _)) bt) (by omega))
  ⟨[],none,none,none,none,rfl,aq _ _,bw,rfl,by simp⟩ (fun _ _ _ _=>trivial) ?_ ?_
 ·rintro i w ρ s hw ⟨tb,o4,o5,o6,o7,rfl,hp,hc,hl,ht⟩
  obtain⟨hi,rfl⟩:=eR hw
  refine⟨_,rfl,?_⟩
  have hl1:=dk s
  have i1:=ix1 s hp
  apply aG
  ·(walk_at "evs")
  refine ou (fun ρ s'=>∃(m:Nat) (o4:Option W),ρ=[some (.str nm),iO n,lO dl,lO st.length,o4,iO m,o6,o7,none]/\s'=s) ?_ ?_
  ·by_cases h0:nm.length=0
   ·have t0:((nm.length:Int)==0)=true:=by rw[cz];omega
    apply jy
    ·(walk_at "evs")
    apply dM
    ·(walk_at "evs")
    ·exact⟨_,_,rfl,1,_,rfl,rfl⟩
   ·have t0:((nm.length:Int)==0)=false:=by rw[aQ];omega
    apply iJ
    ·(walk_at "evs")
    apply dM
    ·(walk_at "evs")
    ·exact⟨_,_,rfl,((0+(i:Int))%2+d1%2).toNat,_,by rw[jB (by omega)];rfl,rfl⟩
  rintro ρ s' ⟨m,o4,rfl,rfl⟩
  apply aG
  ·(walk_at "evs")
  refine c_ (fun j ρ z=>∃(fT:List (List Nat)) (o7:Option W),ρ=[some (.str nm),iO n,lO dl,lO st.length,o4,iO m,lO s'.length,o7,none]/\s' <+: z/\z[s'.length]?=some (.lst (fT.map g7))/\fT.length=j/\∀r∈fT,r.length=n/\∀k∈r,k<n)
   (c7 (q:=(n:Int)) (st1:=s'++[aj.lst []]) (by(walk_at "evs")) (by omega)) ⟨[],_,rfl,aq _ _,bw,rfl,by simp⟩ (fun _ _ _ _=>trivial) ?_ ?_
  ·rintro j w ρ z hw ⟨fT,o7,rfl,hz,hcz,hrl,hr⟩
   obtain⟨hj,rfl⟩:=eR hw
   refine⟨_,rfl,?_⟩
   obtain⟨g,hg,eg⟩:=f_ (q:=d0) (n:=4) (by omega)
   have eg:d0%4=(g:Int):=eg
   obtain⟨r,hrn,hrb,er⟩:=ue (cap:=[none,some 1,some 5,some 7,some 2]) (ρ:=[some (.str nm),iO n,lO dl,lO st.length,o4,iO m,lO s'.length,iO (0+(j:Int)),none]) (st:=z) (fs:=af (ac 1) aB) (n:=n)
    (el:=bg Aj (af (e2 lP (ac 1) (eI 1)) (af (e2 d6 (d7 3 zb (af (e2 eK (e2 bu (ac 4) (eI 0)) (eI 4)) (af (ac 3) (af (ac 0) aB)))) (ac 2)) aB))) (fun k:Nat=>W.int (k:Nat)) (fun _ k=>k<n) kn (by omega) fun q hq=>by
     obtain⟨k,ek⟩:=GP g j q z
     rw[<- eg,show(j:Int)=0+(j:Int) by omega]at ek
     refine⟨min (n-1) (k+m),by omega,?_⟩
     refine bi (ay (bJ kv cP (lz trivial)) (ay (bJ (d8 (ay (bJ (bJ kv cP (ix0 z (hp.trans hz))) cP (lz (by decide))) (ay kv kn)) ek rfl) kv fS) bt)) ?_
     show R.ok (W.int (if (k:Int)+(m:Int)<(n:Int)-1 then(k:Int)+(m:Int)else(n:Int)-1)) z=_
     congr 2
     split<;>omega
   have ap:=mH (y:=g7 r) (pre_get (s:=z++[.lst (r.map fun k:Nat=>W.int k)]) (aq _ _) hcz) (by rw[ai];omega)
   apply dM
   ·exact fz (nv kv (eG hcz) (ay er bt) ap)
   ·refine⟨_,_,rfl,fT++[r],_,rfl,hU (mG hz) (au _),?_,by simp[hrl],?_⟩
    ·rw[ji (pre_get (aq _ _) hcz)];simp
    ·intro x hx
     rcases aL.mp hx with y|y
     ·exact hr x y
     ·simp at y;subst y
      refine⟨hrn,fun k hk=>?_⟩
      obtain⟨q,hq⟩:=a9 hk
      exact hrb q k hq
  ·rintro ρ z ⟨fT,o7,rfl,hz,hcz,hrl,hr⟩
   have hrl:fT.length=n:=by rw[hrl];simp[bK]
   have hcp:=pre_get hz hc
   have ap:=mH (y:=dY fT) hcp (by rw[ai,hl];omega)
   apply dM
   ·exact fz (nv kv (eG hcp) (ay (bi kn (fA (aO hcz))) bt) ap)
   ·refine⟨_,_,rfl,tb++[fT],_,_,_,_,rfl,hU (hp.trans hz) (au _),?_,by simp[hl],?_⟩
    ·rw[ji hcp];simp
    ·intro x hx
     rcases aL.mp hx with y|y
     ·exact ht x y
     ·simp at y;subst y
      exact⟨hrl,hr⟩
 ·rintro ρ s ⟨tb,o4,o5,o6,o7,rfl,hp,hc,hl,ht⟩
  have hl:tb.length=N:=by rw[hl];simp[bK]
  have i2:=ix2 s hp
  have i3:=ix3 s hp
  apply aG
  ·(walk_at "evs")
  refine ou (fun ρ s'=>∃k:Int,ρ=[some (.str nm),iO n,lO dl,lO st.length,o4,o5,o6,o7,iO k]/\s'=s) ?_ ?_
  ·by_cases h1:d2%2=1
   ·have t1:(d2%2==1)=true:=cz.mpr h1
    have pn:(0:Int)<(n:Int):=by omega
    apply jy
    ·(walk_at "evs")
    apply dM
    ·(walk_at "evs")
     all_goals exact pn
    ·exact⟨_,_,rfl,_,rfl,rfl⟩
   ·have t1:(d2%2==1)=false:=aQ.mpr h1
    apply iJ
    ·(walk_at "evs")
    apply dM
    ·(walk_at "evs")
    ·exact⟨_,_,rfl,_,rfl,rfl⟩
  rintro ρ s' ⟨k,rfl,rfl⟩
  obtain⟨gd,hgl,_,eg⟩:=ue (cap:=[none,some 8]) (ρ:=[some (.str nm),iO n,lO dl,lO st.length,o4,o5,o6,o7,iO k]) (st:=s') (fs:=af (ac 1) aB) (n:=n)
   (el:=e2 nu (ac 0) (ac 1)) W.bl (fun _ _=>True) kn (by omega) fun q hq=>⟨_,trivial,bJ kv kv (io rfl)⟩
  obtain⟨x,rfl⟩:=hp
  apply ei
  ·exact gi (ay kv (ay eg (ay (bi kn (fA (aO (pre_get (aq _ _) hc)))) bt))) (cv rfl)
  ·exact⟨_,_,rfl,⟨_,by rw[aw]⟩,by simp only[undWs,ca];exact pI ⟨nm,gd,tb⟩ _,⟨nm,gd,tb⟩,rfl,rfl,hgl,by rw[hl,hN],ht⟩
theorem Oh(h:q<n):Bo n (q:Int)=some q:=by
 unfold Bo
 rw[am (by omega),am (by omega)];simp
theorem xa{s:List aj}{p:Nat}{v:W}(h:s[p]?=some (.lst ws))(hq:q<ws.length):m5 (.loc p) (.int q) v s=some (s.set p (.lst (ws.set q v))):=ND h (Oh hq)
theorem GR{fs:FA}{st:List aj}{i j:Int}(h:fs ρ st=.ok [.int i,.int j] st1)(hq:-(2^62)<=i/\i<2^62/\-(2^62)<=j/\j<2^62):qc fs ρ st=.ok (bq i (j-i).toNat,none) st1:=by
 unfold qc;rw[h];simp only[R.bind_ok];rw[am hq]
theorem AS{s:List aj}:s_ [.tup ws] s=.ok (.loc s.length) (s++[.lst ws]):=rfl
theorem qo{l:List α}{x y:α}(h:y∈l.set i x):y∈l\/y=x:=List.mem_or_eq_of_mem_set h
theorem AT(M:Mc)(n sl:Nat)(ds:List Int)(st:List aj)(hM:rM M n)(hn:1<=n)(Ek:n<=9)(hd:st[sl]?=some (.lst (nw ds)))(CL:ds.length=4) :
  ∃M':Mc,M'.nm=M.nm/\rM M' n/\Ce [M.w,.loc sl] st=.ok M'.w st:=by
 obtain⟨d0,d1,d2,d3,rfl⟩:∃a b c d,ds=[a,b,c,d]:=by
  match ds,CL with
  |[a,b,c,d],_=>exact⟨_,_,_,_,rfl⟩
 have hT:0<M.tb.length:=by rw[hM.tb];exact Nat.pow_pos (by omega)
 obtain⟨a,ha,ea⟩:=f_ (q:=d0) (n:=M.tb.length) hT
 obtain⟨b,hb,eb⟩:=f_ (q:=d1) (n:=n) (by omega)
 obtain⟨c,hc,ec⟩:=f_ (q:=d2) (n:=n) (by omega)
 obtain⟨v,hv,ev⟩:=f_ (q:=d3) (n:=n) (by omega)
 have pT:(0:Int)<(M.tb.length:Int):=by omega
 have pn:(0:Int)<(n:Int):=by omega
 obtain⟨fT,hrows⟩:∃r,M.tb[a]?=some r:=⟨_,ae ha⟩
 obtain⟨r1,r2⟩:=hM.t fT (al hrows)
 obtain⟨row,r_⟩:∃r,fT[b]?=some r:=⟨_,ae (by omega)⟩
 obtain⟨q1,q2⟩:=r2 row (al r_)
 have g0:bu M.w (.int 0) st=.ok (.str M.nm) st:=rfl
 have g1:∀s,bu M.w (.int 1) s=.ok (.tup (M.gd.map W.bl)) s:=fun _=>rfl
 have g2:∀s,bu M.w (.int 2) s=.ok (.tup (M.tb.map dY)) s:=fun _=>rfl
 generalize hs3:st++[aj.lst (M.tb.map dY)]=s3
 have c3:s3[st.length]?=some (.lst (M.tb.map dY)):=by rw[<- hs3];exact bw
 have h3:st <+: s3:=by rw[<- hs3];exact aq _ _
 generalize hs5:s3++[aj.lst (fT.map g7)]=s5
 have c5:s5[s3.length]?=some (.lst (fT.map g7)):=by rw[<- hs5];exact bw
 have h5:s3 <+: s5:=by rw[<- hs5];exact aq _ _
 generalize hs6:s5++[aj.lst (row.map fun k:Nat=>W.int k)]=s6
 have c6:s6[s5.length]?=some (.lst (row.map fun k:Nat=>W.int k)):=by rw[<- hs6];exact bw
 have h6:s5 <+: s6:=by rw[<- hs6];exact aq _ _
 have l3:st.length<s3.length:=by rw[<- hs3];simp
 have l5:s3.length<s5.length:=by rw[<- hs5];simp
 have l6:s5.length<s6.length:=by rw[<- hs6];simp
 have dx:∀(s:List aj) (i:Nat) (d:Int),st <+: s->[d0,d1,d2,d3][i]?=some d->bu (.loc sl) (.int i) s=.ok (.int d) s:=fun s i d h e=>fN (pre_get h hd) e
 have ix4:∀s:List aj,st <+: s->bu (.loc sl) (.int 0) s=.ok (.int d0) s:=fun s h=>dx s 0 d0 h rfl
 have ix1:∀s:List aj,st <+: s->bu (.loc sl) (.int 1) s=.ok (.int d1) s:=fun s h=>dx s 1 d1 h rfl
 have ix2:∀s:List aj,st <+: s->bu (.loc sl) (.int 2) s=.ok (.int d2) s:=fun s h=>dx s 2 d2 h rfl
 have ix3:∀s:List aj,st <+: s->bu (.loc sl) (.int 3) s=.ok (.int d3) s:=fun s h=>dx s 3 d3 h rfl
 have p6:=xa (v:=.int v) c6 (q:=c) (by rw[ai];omega)
 generalize hs7:s6.set s5.length (.lst ((row.map fun k:Nat=>W.int k).set c (.int v)))=s7 at p6
 have k7:st <+: s7:=by rw[<- hs7];exact hU (h3.trans (h5.trans h6)) (by omega)
 have e6:s7[s5.length]?=some (.lst ((row.set c v).map fun k:Nat=>W.int k)):=by rw[<- hs7,ji c6];simp[jN]
 have e5:s7[s3.length]?=some (.lst (fT.map g7)):=by rw[<- hs7,AR (by omega)];exact pre_get h6 c5
 have e3:s7[st.length]?=some (.lst (M.tb.map dY)):=by rw[<- hs7,AR (by omega)];exact pre_get (h5.trans h6) c3
 have p7:=xa (v:=g7 (row.set c v)) e5 (q:=b) (by rw[ai];omega)
 generalize hs8:s7.set s3.length (.lst ((fT.map g7).set b (g7 (row.set c v))))=s8 at p7
 have k8:st <+: s8:=by rw[<- hs8];exact hU k7 (by omega)
 have f5:s8[s3.length]?=some (.lst ((fT.set b (row.set c v)).map g7)):=by rw[<- hs8,ji e5];simp[jN]
 have f3:s8[st.length]?=some (.lst (M.tb.map dY)):=by rw[<- hs8,AR (by omega)];exact e3
 have p8:=xa (v:=dY (fT.set b (row.set c v))) f3 (q:=a) (by rw[ai];omega)
 generalize hs9:s8.set st.length (.lst ((M.tb.map dY).set a (dY (fT.set b (row.set c v)))))=s9 at p8
 have k9:st <+: s9:=by rw[<- hs9];exact hU k8 (by omega)
 have z3:s9[st.length]?=some (.lst ((M.tb.set a (fT.set b (row.set c v))).map dY)):=by rw[<- hs9,ji f3];simp[jN]
 refine⟨⟨M.nm,M.gd,M.tb.set a (fT.set b (row.set c v))⟩,rfl,⟨hM.gd,by rw[<- hM.tb];simp,?_⟩,?_⟩
 ·intro t ht
  rcases qo ht with h|rfl
  ·exact hM.t t h
  ·refine⟨by simpa using r1,fun r hr=>?_⟩
   rcases qo hr with h|rfl
   ·exact r2 r h
   ·refine⟨by simpa using q1,fun k hk=>?_⟩
    rcases qo hk with h|rfl
    ·exact q2 k h
    ·exact hv
 ·refine t7 (N:=7) (ws:=[M.w,.loc sl]) (body:=LC) ?_ (by simp only[undWs,ca];exact pI _ _)
  apply aG
  ·exact bU (bi (ay (bJ kv cP (g1 st)) bt) jh)
  rw[ai,hM.gd]
  apply aG
  ·exact bU (bi (ay (bJ kv cP (g2 st)) bt) AS)
  rw[hs3]
  apply aG
  ·refine bU (bJ (bJ kv cP (ix4 s3 h3)) (bi kn (ip (aO c3))) (lz ?_))
   rw[ai];exact pT
  rw[ai,ea]
  apply aG
  ·exact bU (bi (ay (bJ kv kv (kY (aO c3) (d9 (by rw[ak,hrows];rfl)))) bt) AS)
  rw[hs5]
  apply aG
  ·have iv:bu (.loc s3.length) (.int (d1%(n:Int))) s5=.ok (.tup (row.map fun k:Nat=>W.int k)) s5:=by
    rw[eb]
    exact kY (aO c5) (d9 (by rw[ak,r_];rfl))
   exact bU (bi (ay (bJ kv (bJ (bJ kv cP (ix1 s5 (h3.trans h5))) kv (lz pn)) iv) bt) AS)
  rw[hs6]
  apply aG
  ·rw[<- ec,<- ev]at p6
   exact kX (bJ (bJ kv cP (ix3 s6 (h3.trans (h5.trans h6)))) kv (lz pn)) kv (bJ (bJ kv cP (ix2 s6 (h3.trans (h5.trans h6)))) kv (lz pn)) p6
  apply aG
  ·rw[<- eb]at p7
   exact kX (bi kn (fA (aO e6))) kv (bJ (bJ kv cP (ix1 s7 k7)) kv (lz pn)) p7
  apply aG
  ·exact kX (bi kn (fA (aO f5))) kv kv p8
  obtain⟨x,rfl⟩:=k9
  apply ei
  ·exact gi (ay (bJ kv cP rfl) (ay (bJ kv cP (g1 _)) (ay (bi kn (fA (aO z3))) bt))) (cv rfl)
  ·exact⟨_,_,rfl,rfl,x,rfl⟩
def nW(l:List Nat):List W:=l.map fun k=>W.int (k:Nat)
theorem uf{s:List aj}{p:Nat}{k:Nat}(h:s[p]?=some (.lst (nW l)))(e:l[i]?=some k):bu (.loc p) (.int i) s=.ok (.int k) s:=kY (aO h) (d9 (by rw[nW,ak,e];rfl))
theorem Oi{s:List aj}{k:Nat}(e:l[i]?=some k):bu (g7 l) (.int i) s=.ok (.int k) s:=i8 (d9 (by rw[ak,e];rfl))
theorem Oj{s:List aj}{t:List (List Nat)}{r:List Nat}(e:t[i]?=some r):bu (dY t) (.int i) s=.ok (g7 r) s:=i8 (d9 (by rw[ak,e];rfl))
def Ua(n:Nat)(zs:List Nat):Prop:=zs.length=n/\∀r,r∈zs↔r<n
theorem zf(n dl:Nat)(ds:List Int)(st:List aj)(hn:1<=n)(Ek:n<=100)(hd:st[dl]?=some (.lst (nw ds)))(CL:2*n<=ds.length) :
  ∃zs,Ua n zs/\vN [.int n,.int 0,.loc dl] st=.ok (.loc st.length) (st++[.lst (nW zs)]):=by
 suffices hh:gs (rK fun w bE=>∃j x,w=.loc (st.length+j)/\bE=st++x/\j=0/\∃zs,Ua n zs/\x=[.lst (nW zs)]) (LF ([W.int n,.int 0,.loc dl].map some++List.replicate (6-3) none) st) by
  obtain⟨j,x,⟨rfl,zs,h1,rfl⟩,e⟩:=iZ hh
  exact⟨zs,h1,e⟩
 apply aG
 ·(walk_at "evs")
 refine c_ (fun i ρ s=>∃(zs:List Nat) (o4 o5:Option W),ρ=[iO n,iO 0,lO dl,lO st.length,o4,o5]/\s=st++[.lst (nW zs)]/\zs.length=i+1/\∀r,r∈zs↔r<i+1)
  (GR (i:=1) (j:=(n:Int)+0) (st1:=st++[aj.lst [.int 0]]) (by(walk_at "evs")) (by omega))
  ⟨[0],none,none,rfl,rfl,rfl,by simp⟩ (fun _ _ _ _=>trivial) ?_ ?_
 ·rintro i w ρ s hw ⟨zs,o4,o5,rfl,rfl,hl,hm⟩
  obtain⟨hi,rfl⟩:=eR hw
  refine⟨_,rfl,?_⟩
  have hc:(st++[aj.lst (nW zs)])[st.length]?=some (.lst (nW zs)):=bw
  have t0:decide ((n:Int)<=1+(i:Int))=false:=bb (by omega)
  apply aG
  ·(walk_at "evs")
  apply cx
  ·(walk_at "evs")
  apply cK
  obtain⟨d,hdd⟩:∃d,ds[2*(1+i)]?=some d:=⟨_,ae (by omega)⟩
  have id:=fN (s:=st++[aj.lst (nW zs)]) (aJ hd) hdd
  rw[show((2*(1+i):Nat):Int)=2*(1+(i:Int)) by omega]at id
  obtain⟨q,hq,eq⟩:=f_ (q:=d) (n:=zs.length) (by omega)
  have ll:=ip (aO hc)
  rw[show(nW zs).length=zs.length by simp[nW]]at ll
  have pl:(0:Int)<(zs.length:Int):=by omega
  have ins:=FZ (y:=.int (1+(i:Int))) hc (k:=1+q) (by simp[nW];omega) (by simp[nW];show _<1000000;omega) (by omega)
  rw[fC,show((1+q:Nat):Int)=1+d%(zs.length:Int) by omega]at ins
  have cm:Ag 2 (1+(i:Int)):=.inl (by decide)
  apply dM
  ·exact fz (nv kv (eG hc) (ay (bJ cP (bJ (bJ kv (bJ cP kv (qX cm)) id) (bi kn ll) (lz pl)) fS) kn) ins)
  ·refine⟨_,_,rfl,zs.take (1+q)++(1+i)::zs.drop (1+q),_,_,rfl,?_,?_,?_⟩
   ·simp[nW,List.map_take,pb]
   ·simp;omega
   ·intro r
    rw[aL,aK]
    have:=hm r
    have h2:r∈zs↔r∈zs.take (1+q)\/r∈zs.drop (1+q):=by
     rw[<- aL,nF]
    constructor
    ·rintro(h|h|h)
     ·have:=this.mp (h2.mpr (.inl h));omega
     ·omega
     ·have:=this.mp (h2.mpr (.inr h));omega
    ·intro h
     by_cases e:r=1+i
     ·exact .inr (.inl e)
     ·rcases h2.mp (this.mpr (by omega))with h|h
      ·exact .inl h
      ·exact .inr (.inr h)
 ·rintro ρ s ⟨zs,o4,o5,rfl,rfl,hl,hm⟩
  rw[show(bq 1 ((n:Int)+0-1).toNat,(none:Option (Nat×List W))).fst.length=n-1 by simp[bK]]at hl hm
  apply ei
  ·(walk_at "evs")
  ·exact⟨_,_,rfl,0,_,rfl,rfl,rfl,zs,⟨by omega,fun r=>by rw[hm r];omega⟩,rfl⟩
theorem JY{cap:List (Option Nat)}{st:List aj}{fs:FA}(Pb:Nat->Bool)(hr:fs ρ st=.ok [.int n] st)(hn:n<=100000)(h0:0<cap.length)(h:∀i:Nat,i<n->t ((qf cap ρ).set 0 (iO i)) st=.ok (Pb i) st) :
  dC cap (bd fs) (eE 0) t (ac 0) ρ st=.ok (.loc st.length) (st++[.lst (nW ((List.range n).filter Pb))]):=by
 have ir:bd fs ρ st=.ok (bq 0 n,none) st:=by
  have:=c7 hr (by omega)
  rw[aR]at this
  exact this
 rw[F0 (fi:=bd fs) (f:=eE 0) (t:=t) (el:=ac 0) (cap:=cap) (ρ:=ρ) (fun w=>match w with|.int z=>Pb z.toNat|_=>false) id ir (by rw[bK];show _<=1000000;omega) trivial fun w hw=>by
  obtain⟨i,hi,rfl⟩:=oz hw
  rw[show((0:Int)+(i:Int))=(i:Int) by omega]
  exact⟨_,rfl,h i hi,fun _=>gJ (by rw[bh (by simp[qf];exact h0)];rfl)⟩]
 congr 4
 unfold bq nW
 rw[nj,aS]
 have e:((fun w=>match w with|W.int z=>Pb z.toNat|_=>false)∘fun k:Nat=>W.int (0+(k:Int)))=Pb:=by
  funext k
  show Pb (0+(k:Int)).toNat=Pb k
  congr 1;omega
 rw[e]
 refine bf fun k _=>?_
 show W.int (0+(k:Int))=_
 rw[cR]
theorem Cq{f:FG}{ρ':bQ}{st:List aj}{w:W}(h:fe ρ st=.ok w st1)(h2:f w ρ=some ρ'):uK fe f ρ st=.nx ρ' st1:=by
 unfold uK;rw[h];simp only[R.stmt_ok];rw[h2]
theorem GS(M:Mc)(n ow dl:Nat)(zs:List Nat)(ds:List Int)(st:List aj)(hM:rM M n)(Ek:n<=200)(ho:Ua n zs)(hc:st[ow]?=some (.lst (nW zs)))(hd:st[dl]?=some (.lst (nw ds)))(CL:0<ds.length)(U5:ds.length<=1000)(zR:M.nm.length<=10) :
  ∃M':Mc,M'.nm=M.nm/\rM M' n/\Cf [M.w,.loc ow,.loc dl] st=.ok M'.w st:=by
 suffices hh:gs (rK fun w bE=>(∃x,bE=st++x)/\undWs st.length [w]=true/\∃M':Mc,w=M'.w/\M'.nm=M.nm/\rM M' n) (LD ([M.w,.loc ow,.loc dl].map some++List.replicate (13-3) none) st) by
  obtain⟨w,⟨M',rfl,h1,h2⟩,e⟩:=jI hh
  exact⟨M',h1,h2,e⟩
 obtain⟨hz,hm⟩:=ho
 have p2:M.tb.length<=1024:=by rw[hM.tb];exact a_ (gS (by omega) zR) (by decide)
 have ll:=ip (aO hc)
 rw[show(nW zs).length=n by simp[nW,hz]]at ll
 have g2:bu M.w (.int 2) (st++[aj.lst []])=.ok (.tup (M.tb.map dY)) (st++[aj.lst []]):=rfl
 apply aG
 ·(walk_at "evs")
 apply aG
 ·(walk_at "evs")
 apply aG
 ·(walk_at "evs")
 refine c_ (fun i ρ s=>∃(tb:List (List (List Nat))) (a:Nat) (o6 o7 o8 o9 uZ El Ea:Option W),ρ=[some M.w,lO ow,lO dl,iO n,iO a,lO st.length,o6,o7,o8,o9,uZ,El,Ea]/\st <+: s/\s[st.length]?=some (.lst (tb.map dY))/\tb.length=i/\∀t∈tb,Eh n t)
  (kZ (st1:=st++[aj.lst []]) (bJ kv cP g2))
  ⟨[],0,none,none,none,none,none,none,none,rfl,aq _ _,bw,rfl,by simp⟩ (fun _ _ _ _=>trivial) ?_ ?_
 ·rintro i w ρ s hw ⟨tb,a,o6,o7,o8,o9,uZ,El,Ea,rfl,hp,hcT,hl,ht⟩
  obtain⟨t,hti,rfl⟩:∃t,M.tb[i]?=some t/\w=dY t:=by
   simp only[ak,aX]at hw
   obtain⟨t,h1,rfl⟩:=hw
   exact⟨t,h1,rfl⟩
  obtain⟨t1,t2⟩:=hM.t t (al hti)
  have hi:i<M.tb.length:=(aa.mp hti).1
  refine⟨_,rfl,?_⟩
  apply aG
  ·(walk_at "evs")
  refine c_ (fun j ρ z=>∃(fT:List (List Nat)) (a:Nat) (o8 o9 uZ El Ea:Option W),ρ=[some M.w,lO ow,lO dl,iO n,iO a,lO st.length,some (dY t),lO s.length,o8,o9,uZ,El,Ea]/\s <+: z/\z[s.length]?=some (.lst (fT.map g7))/\fT.length=j/\∀r∈fT,r.length=n/\∀k∈r,k<n)
   (c7 (q:=(n:Int)) (st1:=s++[aj.lst []]) (by(walk_at "evs")) (by omega)) ⟨[],a,_,_,_,_,_,rfl,aq _ _,bw,rfl,by simp⟩ (fun _ _ _ _=>trivial) ?_ ?_
  ·rintro x w ρ s1 hw ⟨fT,a,o8,o9,uZ,El,Ea,rfl,h1,hc1,hrl,hr⟩
   obtain⟨hx,rfl⟩:=eR hw
   rw[aR]at hx
   refine⟨_,rfl,?_⟩
   apply aG
   ·(walk_at "evs")
   obtain⟨ox,hox⟩:∃k,zs[x]?=some k:=⟨_,ae (by omega)⟩
   have hox':ox<n:=(hm ox).mp (al hox)
   obtain⟨rx,hrx⟩:∃r,t[ox]?=some r:=⟨_,ae (by omega)⟩
   obtain⟨rx1,rx2⟩:=t2 rx (al hrx)
   refine c_ (fun j ρ z=>∃(row:List Nat) (a:Nat) (uZ El Ea:Option W),ρ=[some M.w,lO ow,lO dl,iO n,iO a,lO st.length,some (dY t),lO s.length,iO (0+(x:Int)),lO s1.length,uZ,El,Ea]/\s1 <+: z/\z[s1.length]?=some (.lst (nW row))/\row.length=j/\∀k∈row,k<n)
    (c7 (q:=(n:Int)) (st1:=s1++[aj.lst []]) (by(walk_at "evs")) (by omega)) ⟨[],a,_,_,_,rfl,aq _ _,bw,rfl,by simp⟩ (fun _ _ _ _=>trivial) ?_ ?_
   ·rintro y w ρ z hw ⟨row,a,uZ,El,Ea,rfl,h2,hc2,HW,hr2⟩
    obtain⟨hy,rfl⟩:=eR hw
    rw[aR]at hy
    refine⟨_,rfl,?_⟩
    have hz0:st <+: z:=hp.trans (h1.trans h2)
    obtain⟨oy,hoy⟩:∃k,zs[y]?=some k:=⟨_,ae (by omega)⟩
    have hoy':oy<n:=(hm oy).mp (al hoy)
    obtain⟨Su,hdue⟩:∃k,rx[oy]?=some k:=⟨_,ae (by omega)⟩
    have hdue':=rx2 Su (al hdue)
    have wx:bu (.loc ow) (.int (0+(x:Int))) z=.ok (.int ox) z:=by rw[cR];exact uf (pre_get hz0 hc) hox
    have wy:bu (.loc ow) (.int (0+(y:Int))) z=.ok (.int oy) z:=by rw[cR];exact uf (pre_get hz0 hc) hoy
    apply aG
    ·exact bU (bJ (bJ kv (bJ kv kv wx) (Oj hrx)) (bJ kv kv wy) (Oi hdue))
    have hcomp:=JY (cap:=[none,some 11,some 1]) (ρ:=[some M.w,lO ow,lO dl,iO n,iO a,lO st.length,some (dY t),lO s.length,iO (0+(x:Int)),lO s1.length,iO (0+(y:Int)),iO Su,Ea]) (st:=z) (t:=eV (e2 nu (e2 bu (ac 2) (ac 0)) (ac 1))) (fs:=af (ac 3) aB) (n:=n) (fun i=>((zs.getD i 0:Nat):Int)==(Su:Int)) kn (by omega) (by simp) fun q hq=>by
     have:zs[q]?=some (zs.getD q 0):=by rw[aE,ae (by omega)];rfl
     exact bX (bJ (bJ kv kv (uf (pre_get hz0 hc) this)) kv (io rfl))
    generalize hso:(List.range n).filter (fun i=>((zs.getD i 0:Nat):Int)==(Su:Int))=some' at hcomp
    have hsn:0<some'.length:=by
     obtain⟨q,hq⟩:=a9 ((hm Su).mpr hdue')
     have hqn:q<n:=by have:=(aa.mp hq).1;omega
     refine iC (a:=q) ?_
     rw[<- hso]
     exact de.mpr ⟨aM.mpr hqn,by rw[aE,hq];simp⟩
    have hsm:∀k∈some',k<n:=fun k hk=>by
     rw[<- hso]at hk
     exact aM.mp (de.mp hk).1
    have hsl:some'.length<=n:=by rw[<- hso];exact a_ (fj _ _) (by simp)
    apply aG
    ·exact Cq hcomp rfl
    obtain⟨q,hq,eq⟩:=f_ (q:=(a:Int)) (n:=ds.length) (by omega)
    obtain⟨d,hdd⟩:∃d,ds[q]?=some d:=⟨_,ae hq⟩
    obtain⟨k,hk,ek⟩:=f_ (q:=d) (n:=some'.length) hsn
    obtain⟨c,hcc⟩:∃c,some'[k]?=some c:=⟨_,ae hk⟩
    have hz3:st <+: z++[aj.lst (nW some')]:=mG hz0
    have ld:=ip (aO (pre_get hz3 hd))
    rw[show(nw ds).length=ds.length by simp[nw]]at ld
    have ls:=ip (st:=z++[aj.lst (nW some')]) (n:=z.length) (aO bw)
    rw[show(nW some').length=some'.length by simp[nW]]at ls
    have id:=fN (pre_get hz3 hd) hdd
    rw[<- eq]at id
    have ic:=uf (s:=z++[aj.lst (nW some')]) (p:=z.length) bw hcc
    rw[<- ek]at ic
    have pl:(0:Int)<(ds.length:Int):=by omega
    have ps:(0:Int)<(some'.length:Int):=by omega
    have hc3:(z++[aj.lst (nW some')])[s1.length]?=some (.lst (nW row)):=aJ hc2
    have ap:=mH (y:=.int c) hc3 (by simp[nW];omega)
    apply aG
    ·exact fz (nv kv (eG hc3) (ay (bJ kv (bJ (bJ kv (bJ kv (bi kn ld) (lz pl)) id) (bi kn ls) (lz ps)) ic) bt) ap)
    apply dM
    ·exact bU (bJ kv cP fS)
    ·refine⟨_,_,rfl,row++[c],a+1,_,_,_,rfl,hU (mG h2) (au _),?_,by simp[HW],?_⟩
     ·rw[ji hc3];simp[nW]
     ·intro k' hk'
      rcases aL.mp hk' with u|u
      ·exact hr2 k' u
      ·simp at u;subst u;exact hsm _ (al hcc)
   ·rintro ρ z ⟨row,a,uZ,El,Ea,rfl,h2,hc2,HW,hr2⟩
    have HW:row.length=n:=by rw[HW];simp[bK]
    have hc3:=pre_get h2 hc1
    have ap:=mH (y:=g7 row) hc3 (by rw[ai,hrl];omega)
    apply dM
    ·exact fz (nv kv (eG hc3) (ay (bi kn (fA (aO hc2))) bt) ap)
    ·refine⟨_,_,rfl,fT++[row],a,_,_,_,_,_,rfl,hU (h1.trans h2) (au _),?_,by simp[hrl],?_⟩
     ·rw[ji hc3];simp
     ·intro r hr'
      rcases aL.mp hr' with u|u
      ·exact hr r u
      ·simp at u;subst u;exact⟨HW,hr2⟩
  ·rintro ρ z ⟨fT,a,o8,o9,uZ,El,Ea,rfl,h1,hc1,hrl,hr⟩
   have hrl:fT.length=n:=by rw[hrl];simp[bK]
   have hc3:=pre_get h1 hcT
   have ap:=mH (y:=dY fT) hc3 (by rw[ai,hl];omega)
   apply dM
   ·exact fz (nv kv (eG hc3) (ay (bi kn (fA (aO hc1))) bt) ap)
   ·refine⟨_,_,rfl,tb++[fT],a,_,_,_,_,_,_,_,rfl,hU (hp.trans h1) (au _),?_,by simp[hl],?_⟩
    ·rw[ji hc3];simp
    ·intro r hr'
     rcases aL.mp hr' with u|u
     ·exact ht r u
     ·simp at u;subst u;exact⟨hrl,hr⟩
 ·rintro ρ s ⟨tb,a,o6,o7,o8,o9,uZ,El,Ea,rfl,hp,hcT,hl,ht⟩
  have hl:tb.length=M.tb.length:=by rw[hl];simp
  have hc':=pre_get hp hc
  have cg:=gW (cap:=[none,some 0]) (ρ:=[some M.w,lO ow,lO dl,iO n,iO a,lO st.length,o6,o7,o8,o9,uZ,El,Ea]) (st:=s) (st1:=s) (f:=eE 0) (el:=e2 bu (e2 bu (ac 1) (eI 1)) (ac 0)) (fun w=>match w with|.int z=>W.bl (M.gd.getD z.toNat false)|_=>.non)
   (fM (fe:=ac 1) kv (aO hc')) (by simp[nW];show _<=1000000;omega) (aO hc') fun w hw=>by
    obtain⟨r,hr,rfl⟩:=ar.mp hw
    have hrn:=(hm r).mp hr
    have hg:M.gd[r]?=some (M.gd.getD r false):=by rw[aE,ae (by rw[hM.gd];exact hrn)];rfl
    have g1:bu M.w (.int 1) s=.ok (.tup (M.gd.map W.bl)) s:=rfl
    exact⟨_,rfl,bJ (bJ kv cP g1) kv (i8 (d9 (by rw[ak,hg];rfl)))⟩
  rw[show(nW zs).map (fun w=>match w with|.int z=>W.bl (M.gd.getD z.toNat false)|_=>.non)=(zs.map fun r=>M.gd.getD r false).map W.bl by
   unfold nW;rw[aS,aS];refine bf fun k _=>?_;show W.bl (M.gd.getD (k:Int).toNat false)=_;rw[aR];rfl]at cg
  obtain⟨x,rfl⟩:=hp
  apply ei
  ·exact gi (ay (bJ kv cP rfl) (ay (bi (ay cg bt) (fA (aO bw))) (ay (bi kn (fA (aO (aJ hcT)))) bt))) (cv rfl)
  ·exact⟨_,_,rfl,⟨_,by rw[aw]⟩,by simp only[undWs,ca];exact pI ⟨M.nm,zs.map fun r=>M.gd.getD r false,tb⟩ _,⟨M.nm,zs.map fun r=>M.gd.getD r false,tb⟩,rfl,rfl,by simp[hz],by rw[hl,hM.tb],ht⟩
theorem AU(nm:List Nat)(n top dl:Nat)(ds:List Int)(st:List aj)(zR:nm.length<=6)(hn:1<=n)(Ek:n<=9)(UM:1<=top)(Ve:top<=n)(hd:st[dl]?=some (.lst (nw ds)))(CL:n+2^nm.length*(n*n)<=ds.length) :
  ∃M:Mc,M.nm=nm/\rM M n/\Cg [.str nm,.int n,.int top,.loc dl] st=.ok M.w st:=by
 suffices hh:gs (rK fun w bE=>(∃x,bE=st++x)/\undWs st.length [w]=true/\∃M:Mc,w=M.w/\M.nm=nm/\rM M n) (LG ([W.str nm,.int n,.int top,.loc dl].map some++List.replicate (10-4) none) st) by
  obtain⟨w,⟨M,rfl,h1,h2⟩,e⟩:=jI hh
  exact⟨M,h1,h2,e⟩
 have dk:∀s:List aj,cU [.str nm] s=.ok (.int nm.length) s:=fun s=>wT (by show _<=1000000;omega)
 have p2:2^nm.length<=64:=gS (by omega) zR
 obtain⟨N,hN⟩:∃N,N=2^nm.length:=⟨_,rfl⟩
 have sh:∀s:List aj,wn (.int 1) (.int nm.length) s=.ok (.int N) s:=fun s=>by rw[hN];exact yn (by omega)
 rw[<- hN]at p2 CL
 have hdn:n<=ds.length:=by omega
 obtain⟨gd,hgl,_,eg⟩:=ue (cap:=[none,some 3]) (ρ:=[some (.str nm),iO n,iO top,lO dl,none,none,none,none,none,none]) (st:=st) (fs:=af (ac 1) aB) (n:=n)
  (el:=e2 nu (e2 eK (e2 bu (ac 1) (ac 0)) (eI 2)) (eI 1)) W.bl (fun _ _=>True) kn (by omega) fun q hq=>by
   obtain⟨d,hdd⟩:∃d,ds[q]?=some d:=⟨_,ae (by omega)⟩
   exact⟨_,trivial,bJ (bJ (bJ kv kv (fN hd hdd)) cP (lz (by decide))) cP (io rfl)⟩
 apply aG
 ·exact bU eg
 generalize Pv:st++[aj.lst (gd.map W.bl)]=s0
 have hst0:st <+: s0:=by rw[<- Pv];exact aq _ _
 apply aG
 ·(walk_at "evs")
 apply aG
 ·(walk_at "evs")
 refine c_ (fun i ρ s=>∃(tb:List (List (List Nat))) (a:Nat) (o7 o8 o9:Option W),ρ=[some (.str nm),iO n,iO top,lO dl,some (.tup (gd.map W.bl)),lO s0.length,iO a,o7,o8,o9]/\s0 <+: s/\s[s0.length]?=some (.lst (tb.map dY))/\tb.length=i/\(∀t∈tb,Eh n t)/\a+(N-i)*(n*n)<=ds.length)
  (c7 (q:=(N:Int)) (st1:=s0++[aj.lst []]) (ay (bJ cP (bi kn (dk _)) (sh _)) bt) (by omega))
  ⟨[],n,none,none,none,rfl,aq _ _,bw,rfl,by simp,by simpa using CL⟩ (fun _ _ _ _=>trivial) ?_ ?_
 ·rintro i w ρ s hw ⟨tb,a,o7,o8,o9,rfl,hp,hc,hl,ht,hal⟩
  obtain⟨hi,rfl⟩:=eR hw
  rw[aR]at hi
  refine⟨_,rfl,?_⟩
  rw[show N-i=(N-(i+1))+1 by omega,Nat.succ_mul]at hal
  apply aG
  ·(walk_at "evs")
  refine c_ (fun j ρ z=>∃(fT:List (List Nat)) (a:Nat) (o9:Option W),ρ=[some (.str nm),iO n,iO top,lO dl,some (.tup (gd.map W.bl)),lO s0.length,iO a,iO (0+(i:Int)),lO s.length,o9]/\s <+: z/\z[s.length]?=some (.lst (fT.map g7))/\fT.length=j/\(∀r∈fT,r.length=n/\∀k∈r,k<n)/\a+((N-(i+1))*(n*n)+(n-j)*n)<=ds.length)
   (c7 (q:=(n:Int)) (st1:=s++[aj.lst []]) (by(walk_at "evs")) (by omega)) ⟨[],a,_,rfl,aq _ _,bw,rfl,by simp,by simpa using hal⟩ (fun _ _ _ _=>trivial) ?_ ?_
  ·rintro j w ρ z hw ⟨fT,a,o9,rfl,hz,hcz,hrl,hr,hal⟩
   obtain⟨hj,rfl⟩:=eR hw
   rw[aR]at hj
   refine⟨_,rfl,?_⟩
   rw[show n-j=(n-(j+1))+1 by omega,Nat.succ_mul]at hal
   have pt:(0:Int)<(top:Int):=by omega
   obtain⟨r,hrn,hrb,er⟩:=ue (cap:=[none,some 2,some 3,some 6]) (ρ:=[some (.str nm),iO n,iO top,lO dl,some (.tup (gd.map W.bl)),lO s0.length,iO a,iO (0+(i:Int)),lO s.length,iO (0+(j:Int))]) (st:=z) (fs:=af (ac 1) aB) (n:=n)
    (el:=e2 eK (e2 bu (ac 2) (e2 d6 (ac 3) (ac 0))) (ac 1)) (fun k:Nat=>W.int (k:Nat)) (fun _ k=>k<n) kn (by omega) fun q hq=>by
     obtain⟨d,hdd⟩:∃d,ds[a+q]?=some d:=⟨_,ae (by omega)⟩
     obtain⟨k,hk,ek⟩:=f_ (q:=d) (n:=top) (by omega)
     refine⟨k,by omega,?_⟩
     rw[<- ek]
     exact bJ (bJ kv (bJ kv kv fS) (fN (pre_get (hst0.trans (hp.trans hz)) hd) hdd)) kv (lz pt)
   have ap:=mH (y:=g7 r) (pre_get (s:=z++[.lst (r.map fun k:Nat=>W.int k)]) (aq _ _) hcz) (by rw[ai];omega)
   apply aG
   ·exact fz (nv kv (eG hcz) (ay er bt) ap)
   apply dM
   ·exact bU (bJ kv kv fS)
   ·refine⟨_,_,rfl,fT++[r],a+n,_,rfl,hU (mG hz) (au _),?_,by simp[hrl],?_,by omega⟩
    ·rw[ji (pre_get (aq _ _) hcz)];simp
    ·intro x hx
     rcases aL.mp hx with y|y
     ·exact hr x y
     ·simp at y;subst y
      refine⟨hrn,fun k hk=>?_⟩
      obtain⟨q,hq⟩:=a9 hk
      exact hrb q k hq
  ·rintro ρ z ⟨fT,a,o9,rfl,hz,hcz,hrl,hr,hal⟩
   have hrl:fT.length=n:=by rw[hrl];simp[bK]
   have hcp:=pre_get hz hc
   have ap:=mH (y:=dY fT) hcp (by rw[ai,hl];omega)
   apply dM
   ·exact fz (nv kv (eG hcp) (ay (bi kn (fA (aO hcz))) bt) ap)
   ·refine⟨_,_,rfl,tb++[fT],a,_,_,_,rfl,hU (hp.trans hz) (au _),?_,by simp[hl],?_,by omega⟩
    ·rw[ji hcp];simp
    ·intro x hx
     rcases aL.mp hx with y|y
     ·exact ht x y
     ·simp at y;subst y
      exact⟨hrl,hr⟩
 ·rintro ρ s ⟨tb,a,o7,o8,o9,rfl,hp,hc,hl,ht,hal⟩
  have hl:tb.length=N:=by rw[hl];simp[bK]
  obtain⟨x,rfl⟩:=hst0.trans hp
  apply ei
  ·exact gi (ay kv (ay kv (ay (bi kn (fA (aO hc))) bt))) (cv rfl)
  ·exact⟨_,_,rfl,⟨_,rfl⟩,by simp only[undWs,ca];exact pI ⟨nm,gd,tb⟩ _,⟨nm,gd,tb⟩,rfl,rfl,hgl,by rw[hl,hN],ht⟩
theorem Cr{ds:List Int}(hj:j<=ds.length)(hi:i<=j):kI (nw ds) (some (i:Int)) (some (j:Int))=nw ((ds.drop i).take (j-i)):=by
 rw[NH (by simpa[nw]using hj) hi]
 simp[nw,List.map_take,pb]
theorem Ol{n0:Nat}{st:List aj}(h0:st[n0]?=some (.ro (ns.map W.int)))(a:Int)(gN:List Nat)(Vc:5<=gN.length)(hp:gN.length<=50) :
  ∃(M:Mc) (n:Nat),rM M n/\1<=n/\n<=9/\M.nm.length<=5/\n*n*2^M.nm.length<=200/\M.nm=DR (gN.take M.nm.length)/\Ch [.loc n0,.int a,.str gN] st=.ok M.w st:=by
 suffices hh:gs (rK fun w bE=>(∃x,bE=st++x)/\undWs st.length [w]=true/\∃(M:Mc) (n:Nat),w=M.w/\rM M n/\1<=n/\n<=9/\M.nm.length<=5/\n*n*2^M.nm.length<=200/\M.nm=DR (gN.take M.nm.length)) (LH ([W.loc n0,.int a,.str gN].map some++List.replicate (10-3) none) st) by
  obtain⟨w,⟨M,n,rfl,h1,h2,h3,h4,h5,h6⟩,e⟩:=jI hh
  exact⟨M,n,h1,h2,h3,h4,h5,h6,e⟩
 obtain⟨c0,e0⟩:=qm h0 a
 obtain⟨hs,hhl,hhp,e1⟩:=nT c0 1000003 10 (by omega) st
 have e1:lW [.int c0,.int 10,.int 1000003] st=_:=e1
 obtain⟨d0,d1,d2,d3,d4,dr,rfl⟩:∃a b c d e r,hs=a::b::c::d::e::r:=by
  match hs,hhl with
  |a::b::c::d::e::r,_=>exact⟨_,_,_,_,_,_,rfl⟩
 apply aG
 ·(walk_at "evs")
 generalize u3:st++[aj.lst ((d0::d1::d2::d3::d4::dr).map W.int)]=s1
 have k1:st <+: s1:=by rw[<- u3];exact aq _ _
 have hc1:s1[st.length]?=some (.lst (nw (d0::d1::d2::d3::d4::dr))):=by rw[<- u3];exact bw
 clear e0 e1 u3
 have i0:∀s:List aj,s1 <+: s->bu (.loc st.length) (.int 0) s=.ok (.int d0) s:=fun s h=>fN (i:=0) (pre_get h hc1) rfl
 have i1:∀s:List aj,s1 <+: s->bu (.loc st.length) (.int 1) s=.ok (.int d1) s:=fun s h=>fN (i:=1) (pre_get h hc1) rfl
 have i2:∀s:List aj,s1 <+: s->bu (.loc st.length) (.int 2) s=.ok (.int d2) s:=fun s h=>fN (i:=2) (pre_get h hc1) rfl
 have i3:∀s:List aj,s1 <+: s->bu (.loc st.length) (.int 3) s=.ok (.int d3) s:=fun s h=>fN (i:=3) (pre_get h hc1) rfl
 have i4:∀s:List aj,s1 <+: s->bu (.loc st.length) (.int 4) s=.ok (.int d4) s:=fun s h=>fN (i:=4) (pre_get h hc1) rfl
 obtain⟨c,n,hc5,hn1,Ek,hcn,es⟩:=GL d0 s1
 apply aG
 ·exact Cq (d8 (ay (bJ kv cP (i0 s1 (ag _))) bt) es rfl) rfl
 have en:=GN gN c hp (by omega) s1
 have zR:(DR (gN.take c)).length=c:=by rw[JU,a7];omega
 have hnm2:DR (gN.take c)=DR (gN.take (DR (gN.take c)).length):=by rw[zR]
 generalize DR (gN.take c)=nm at en zR hnm2
 apply aG
 ·exact bU (d8 (ay kv kn) en rfl)
 obtain⟨T,hT⟩:∃T,T=n+n*n*2^c+40:=⟨_,rfl⟩
 have hnn:n*n<=81:=iE Ek Ek
 obtain⟨j,x,ds,hdl,hdp,hxj,eb⟩:=DT (pre_get k1 h0) (a+1) T 3000017 (by omega)
 have eT:(n:Int)+(n:Int)*(n:Int)*((2^c:Nat):Int)+40=(T:Int):=by rw[hT];simp only[no,jq];rfl
 have cm1:Ag (n:Int) (n:Int):=.inl ⟨by omega,by omega⟩
 have cm2:Ag ((n:Int)*(n:Int)) ((2^c:Nat):Int):=.inl (by rw[<- jq];omega)
 rw[<- eT]at eb
 apply aG
 ·exact bU (d8 (ay kv (ay (bJ kv cP fS) (ay (bJ (bJ kv (bJ (bJ kv kv (qX cm1)) (bJ cP kv (yn (by omega))) (qX cm2)) fS) cP fS) (ay cP bt)))) eb rfl)
 clear eb en es
 generalize A5:s1++x=s2
 have k2:s1 <+: s2:=by rw[<- A5];exact aq _ _
 have lK:s2[s1.length+j]?=some (.lst (nw ds)):=by rw[<- A5,dz];exact hxj
 generalize hdlo:s1.length+j=dl at lK
 have kk2:st <+: s2:=k1.trans k2
 have hT2:n+2^nm.length*(n*n)+40<=ds.length:=by rw[zR,qF,hdl,hT];omega
 have h3:=i3 s2 k2
 have hnc:n*n*2^nm.length<=200:=by rw[zR];exact hcn
 generalize n*n*2^c=q1 at hcn hT
 by_cases w3:d3%3=0
 ·have t3:(d3%3==0)=true:=cz.mpr w3
  obtain⟨M,eM,hM,egr⟩:=DU nm n dl ds s2 (by omega) hn1 Ek lK (by omega) hdp
  apply gu
  ·(walk_at "evs")
  apply qY
  apply aG
  ·exact bU (d8 (ay kv (ay kv kn)) egr rfl)
  apply qY
  refine ou (fun ρ s=>∃M':Mc,M'.nm=nm/\rM M' n/\ρ=[lO n0,iO a,some (.str gN),lO st.length,iO c,iO n,some (.str nm),lO dl,some M'.w,none]/\s2 <+: s) ?_ ?_
  ·have h4:=i4 s2 k2
   by_cases w4:d4%3=0
   ·have t4:(d4%3==0)=true:=cz.mpr w4
    have sl:=FW (st:=s2) (n:=dl) (l:=some 4) (h:=some 8) (aO lK)
    rw[show(some (4:Int))=some ((4:Nat):Int)from rfl,show(some (8:Int))=some ((8:Nat):Int)from rfl,Cr (by omega) (by omega)]at sl
    obtain⟨M',eM',hM',esp⟩:=AT M n s2.length ((ds.drop 4).take (8-4)) (s2++[.lst (nw ((ds.drop 4).take (8-4)))]) hM hn1 (by omega) bw (by simp;omega)
    apply jy
    ·(walk_at "evs")
    apply dM
    ·exact bU (d8 (ay kv (ay (JM kv (DL cP) (DL cP) sl) bt)) esp rfl)
    ·exact⟨_,_,rfl,M',by rw[eM',eM],hM',rfl,aq _ _⟩
   ·have t4:(d4%3==0)=false:=aQ.mpr w4
    apply iJ
    ·(walk_at "evs")
    apply dM
    ·(walk_at "evs")
    ·exact⟨_,_,rfl,M,eM,hM,rfl,ag _⟩
  rintro ρ s3 ⟨M',eM',hM',rfl,k3⟩
  have sl:=FW (st:=s3) (n:=dl) (l:=some 8) (h:=some 30) (aO (pre_get k3 lK))
  rw[show(some (8:Int))=some ((8:Nat):Int)from rfl,show(some (30:Int))=some ((30:Nat):Int)from rfl,Cr (by omega) (by omega)]at sl
  obtain⟨zs,hzs,eo⟩:=zf n s3.length ((ds.drop 8).take (30-8)) (s3++[.lst (nw ((ds.drop 8).take (30-8)))]) hn1 (by omega) bw (by simp;omega)
  obtain⟨M2,eM2,hM2,ebl⟩:=GS M' n _ dl zs ds (s3++[.lst (nw ((ds.drop 8).take (30-8)))]++[.lst (nW zs)]) hM' (by omega) hzs bw (aJ (aJ (pre_get k3 lK))) (by omega) (by omega) (by rw[eM',zR];omega)
  obtain⟨y,rfl⟩:=kk2.trans k3
  apply fH
  ·exact d8 (ay kv (ay (d8 (ay kv (ay cP (ay (JM kv (DL cP) (DL cP) sl) bt))) eo rfl) kn)) ebl rfl
  ·exact⟨_,_,rfl,⟨_,by rw[aw,aw]⟩,by simp only[undWs,ca];exact pI _ _,M2,n,rfl,hM2,hn1,Ek,by rw[eM2,eM',zR];exact hc5,by rw[eM2,eM'];exact hnc,by rw[eM2,eM'];exact hnm2⟩
 ·have t3:(d3%3==0)=false:=aQ.mpr w3
  apply cx
  ·(walk_at "evs")
  apply cK
  apply aG
  ·(walk_at "evs")
  have h1:=i1 s2 k2
  have h2:=i2 s2 k2
  have pn:(0:Int)<(n:Int):=by omega
  refine ou (fun ρ s=>∃top:Nat,1<=top/\top<=n/\ρ=[lO n0,iO a,some (.str gN),lO st.length,iO c,iO n,some (.str nm),lO dl,none,iO top]/\s=s2) ?_ ?_
  ·by_cases w1:d1%3=0
   ·have t1:(d1%3==0)=true:=cz.mpr w1
    obtain⟨q,hq,eq⟩:=f_ (q:=d2) (n:=n) (by omega)
    apply jy
    ·(walk_at "evs")
    apply dM
    ·exact bU (bJ cP (bJ (bJ kv cP h2) kv (lz pn)) fS)
    ·rw[eq];exact⟨_,_,rfl,1+q,by omega,by omega,rfl,rfl⟩
   ·have t1:(d1%3==0)=false:=aQ.mpr w1
    apply iJ
    ·(walk_at "evs")
    apply dM
    ·(walk_at "evs")
    ·exact⟨_,_,rfl,n,hn1,au _,rfl,rfl⟩
  rintro ρ s3 ⟨top,UM,KB,rfl,rfl⟩
  obtain⟨M,eM,hM,em⟩:=AU nm n top dl ds s3 (by omega) hn1 Ek UM KB lK (by omega)
  obtain⟨y,rfl⟩:=kk2
  apply ei
  ·exact d8 (ay kv (ay kv (ay kv kn))) em rfl
  ·exact⟨_,_,rfl,⟨_,rfl⟩,by simp only[undWs,ca];exact pI _ _,M,n,rfl,hM,hn1,Ek,by rw[eM,zR];exact hc5,by rw[eM];exact hnc,by rw[eM];exact hnm2⟩
structure Wy where
 s:Nat
 l:Nat
 r:Nat
 a:Nat
def Wy.z(p:Wy):List Int:=[(p.s:Int),(p.l:Int),(p.r:Int),(p.a:Int)]
def Wy.lt(p q:Wy):Prop:=p.s<q.s\/p.s=q.s/\(p.l<q.l\/p.l=q.l/\(p.r<q.r\/p.r=q.r/\p.a<q.a))
theorem Wy.lex(p q:Wy):HT.lexLt p.z q.z=true↔p.lt q:=by
 obtain⟨a,b,c,d⟩:=p
 obtain⟨e,f,g,h⟩:=q
 simp only[Wy.z,Wy.lt,HT.lexLt_cons,HT.lexLt_nil_nil]
 by_cases h1:(a:Int)=e
 ·rw[am h1]
  by_cases h2:(b:Int)=f
  ·rw[am h2]
   by_cases h3:(c:Int)=g
   ·rw[am h3]
    by_cases h4:(d:Int)=h
    ·rw[am h4];constructor
     ·intro z;cases z
     ·intro z;omega
    ·rw[az h4,bn];omega
   ·rw[az h3,bn];omega
  ·rw[az h2,bn];omega
 ·rw[az h1,bn];omega
theorem Om{a b c:Nat}{A B C:Prop}(t:A->B->C)(h1:a<b\/a=b/\A)(h2:b<c\/b=c/\B):a<c\/a=c/\C:=by
 rcases h1 with z|⟨rfl,p⟩
 ·rcases h2 with y|⟨rfl,_⟩
  ·exact .inl (qD z y)
  ·exact .inl z
 ·rcases h2 with y|⟨rfl,q⟩
  ·exact .inl y
  ·exact .inr ⟨rfl,t p q⟩
theorem Wy.trans{p q r:Wy}(h1:p.lt q)(h2:q.lt r):p.lt r:=Om (Om (Om qD)) h1 h2
theorem Wy.irr(p:Wy):¬ p.lt p:=fun h=>by
 rcases h with z|⟨_,z|⟨_,z|⟨_,z⟩⟩⟩<;>exact bA _ z
theorem Wy.tri{p q:Wy}(h1:¬ p.lt q)(h2:¬ q.lt p):p=q:=by
 obtain⟨a,b,c,d⟩:=p
 obtain⟨e,f,g,h⟩:=q
 obtain rfl:a=e:=gq (dy fun z=>h2 (.inl z)) (dy fun z=>h1 (.inl z))
 obtain rfl:b=f:=gq (dy fun z=>h2 (.inr ⟨rfl,.inl z⟩)) (dy fun z=>h1 (.inr ⟨rfl,.inl z⟩))
 obtain rfl:c=g:=gq (dy fun z=>h2 (.inr ⟨rfl,.inr ⟨rfl,.inl z⟩⟩)) (dy fun z=>h1 (.inr ⟨rfl,.inr ⟨rfl,.inl z⟩⟩))
 obtain rfl:d=h:=gq (dy fun z=>h2 (.inr ⟨rfl,.inr ⟨rfl,.inr ⟨rfl,z⟩⟩⟩)) (dy fun z=>h1 (.inr ⟨rfl,.inr ⟨rfl,.inr ⟨rfl,z⟩⟩⟩))
 rfl
theorem Wy.ge{p q r:Wy}(h:p.lt q)(n:¬ r.lt q):p.lt r:=by
 by_cases z:q.lt r
 ·exact Wy.trans h z
 ·exact Wy.tri z n▸h
theorem Wy.gt{p q r:Wy}(n:¬ q.lt p)(h:q.lt r):p.lt r:=by
 by_cases z:p.lt q
 ·exact Wy.trans z h
 ·exact Wy.tri z n▸h
abbrev Ro:=Nat×Wy
abbrev On(T:Nat->Nat->Nat->Nat)(L:Nat)(E:List Ro)(p:Ro):Prop:=∃el er:Ro,E[p.2.l]?=some el/\E[p.2.r]?=some er/\p.2.a<L/\T p.2.a el.1 er.1=p.1/\p.2.s=el.2.s+er.2.s+1
structure ij(T:Nat->Nat->Nat->Nat)(L N:Nat)(E:List Ro):Prop where
 zero:∃r,E=(0,⟨0,0,0,0⟩)::r
 lt:∀e∈E,e.1<N
 nd:(E.map Prod.fst).Nodup
 row:∀(i:Nat) (e:Ro),E[i]?=some e->0<i->e.2.l<i/\e.2.r<i/\On T L E e
 rise:∀(i:Nat) (e f:Ro),E[i]?=some e->E[i+1]?=some f->e.2.lt f.2
structure zg(T:Nat->Nat->Nat->Nat)(L N:Nat)(E B:List Ro):Prop where
 nd:(B.map Prod.fst).Nodup
 ok:∀p∈B,On T L E p/\p.1∉E.map Prod.fst/\p.1<N
 up:∀p∈B,∀e,E[E.length-1]?=some e->e.2.lt p.2
abbrev jk(l r a:Nat)(el er:Ro):Wy:=⟨el.2.s+er.2.s+1,l,r,a⟩
def Ic(T:Nat->Nat->Nat->Nat)(E B:List Ro)(l r a:Nat):Prop:=∀el er,E[l]?=some el->E[r]?=some er->(∃(i:Nat) (e:Ro),E[i]?=some e/\e.1=T a el.1 er.1/\¬ (jk l r a el er).lt e.2)\/∃p∈B,p.1=T a el.1 er.1/\¬ (jk l r a el er).lt p.2
section
variable{E B:List Ro}
theorem ij.mono(h:ij T L N E):∀(k i:Nat) (e f:Ro),E[i]?=some e->E[i+k]?=some f->e.2.s<=f.2.s
 |0,i,e,f,h1,h2=>by rw[iz,h1]at h2;cases h2;exact au _
 |k+1,i,e,f,h1,h2=>by
  have hk:i+k<E.length:=by have:=(aa.mp h2).1;omega
  have e1:E[i+k]?=some E[i+k]:=ae hk
  have a:=h.mono k i e _ h1 e1
  have b:=h.rise (i+k) _ f e1 (by rw[<- h2];congr 1)
  unfold Wy.lt at b
  omega
theorem ij.top(h:ij T L N E){e f:Ro}(h1:E[i]?=some e)(h2:E[E.length-1]?=some f):e.2.s<=f.2.s:=by
 have hi:=(aa.mp h1).1
 exact h.mono (E.length-1-i) i e f h1 (by rw[show i+(E.length-1-i)=E.length-1 by omega];exact h2)
theorem ij.len(h:ij T L N E):E.length<=N:=by
 have:=oP (l:=List.range N) h.nd fun c hc=>by
  obtain⟨e,he,rfl⟩:=ar.mp hc
  exact aM.mpr (h.lt e he)
 simpa using this
theorem ij.len0(h:ij T L N E):0<E.length:=by obtain⟨r,e⟩:=h.zero;rw[e];simp
theorem zg.len(h:zg T L N E B):B.length<=N:=by
 have:=oP (l:=List.range N) h.nd fun c hc=>by
  obtain⟨e,he,rfl⟩:=ar.mp hc
  exact aM.mpr (h.ok e he).2.2
 simpa using this
theorem Cs(h:(B.map Prod.fst).Nodup):∀{p q:Ro},p∈B->q∈B->p.1=q.1->p=q:=by
 induction B with
 |nil=>intro p q hp;cases hp
 |cons b B ih=>
  intro p q hp hq e
  simp only[aF,bF]at h
  rcases aK.mp hp with rfl|hp'<;>rcases aK.mp hq with rfl|hq'
  ·rfl
  ·exact(h.1 (ar.mpr ⟨q,hq',e.symm⟩)).elim
  ·exact(h.1 (ar.mpr ⟨p,hp',e⟩)).elim
  ·exact ih h.2 hp' hq' e
theorem On.app{x:List Ro}{p:Ro}(h:On T L E p):On T L (E++x) p:=by
 obtain⟨el,er,h1,h2,h3⟩:=h
 exact⟨el,er,by rw[av (aa.mp h1).1];exact h1,by rw[av (aa.mp h2).1];exact h2,h3⟩
def q9(B:List Ro)(p:Ro):List Ro:=if p.1∈B.map Prod.fst then B.map fun q=>if q.1=p.1 then p else q else B++[p]
theorem zh{p q:Ro}(h:q∈q9 B p):q=p\/q∈B/\q.1≠p.1:=by
 unfold q9 at h
 split at h
 ·obtain⟨x,hx,e⟩:=ar.mp h
  split at e
  ·exact .inl e.symm
  ·rename_i hn;subst e;exact .inr ⟨hx,hn⟩
 ·rename_i hn
  rcases aL.mp h with h|h
  ·exact .inr ⟨h,fun e=>hn (ar.mpr ⟨q,h,e⟩)⟩
  ·exact .inl (bz.mp h)
theorem zi{p:Ro}:p∈q9 B p:=by
 unfold q9
 split
 ·rename_i h
  obtain⟨x,hx,e⟩:=ar.mp h
  exact ar.mpr ⟨x,hx,by rw[am e]⟩
 ·exact aL.mpr (.inr (bz.mpr rfl))
theorem GT{p q:Ro}(h:q∈B)(hn:q.1≠p.1):q∈q9 B p:=by
 unfold q9
 split
 ·exact ar.mpr ⟨q,h,by rw[az hn]⟩
 ·exact aL.mpr (.inl h)
theorem JZ{p:Ro}(h:(B.map Prod.fst).Nodup):((q9 B p).map Prod.fst).Nodup:=by
 unfold q9
 split
 ·rw[aS]
  have e:B.map (Prod.fst∘fun q:Ro=>if q.1=p.1 then p else q)=B.map Prod.fst:=by
   refine bf fun q _=>?_
   show(if q.1=p.1 then p else q).1=q.1
   split
   ·rename_i e;exact e.symm
   ·rfl
  rw[e];exact h
 ·rename_i hn
  rw[bV,dG]
  refine⟨h,by simp,fun a ha b hb=>?_⟩
  simp only[aF,dg,bz]at hb
  subst hb
  exact fun z=>hn (z▸ha)
def GU(E B:List Ro)(p:Ro)(B':List Ro):Prop:=(p.1∈E.map Prod.fst/\B'=B)\/(p.1∉E.map Prod.fst/\(∃q∈B,q.1=p.1/\¬ p.2.lt q.2)/\B'=B)\/(p.1∉E.map Prod.fst/\(∀q∈B,q.1=p.1->p.2.lt q.2)/\B'=q9 B p)
theorem GV(h:ij T L N E)(b:zg T L N E B){B':List Ro}{p:Ro}(hw:On T L E p)(hN:p.1<N)(rp:p.2.l=E.length-1\/p.2.r=E.length-1)(o:GU E B p B'):zg T L N E B':=by
 rcases o with⟨_,rfl⟩|⟨_,_,rfl⟩|⟨h1,h2,rfl⟩
 ·exact b
 ·exact b
 ·refine⟨JZ b.nd,fun q hq=>?_,fun q hq e he=>?_⟩
  ·rcases zh hq with rfl|⟨hq,_⟩
   ·exact⟨hw,h1,hN⟩
   ·exact b.ok q hq
  ·rcases zh hq with rfl|⟨hq,_⟩
   ·obtain⟨el,er,e1,e2,_,_,e5⟩:=hw
    rcases rp with z|z
    ·rw[z,he]at e1;cases e1
     unfold Wy.lt;omega
    ·rw[z,he]at e2;cases e2
     unfold Wy.lt;omega
   ·exact b.up q hq e he
theorem J0{l r a:Nat}{B':List Ro}{p:Ro}(o:GU E B p B')(b:(B.map Prod.fst).Nodup)(c:Ic T E B l r a):Ic T E B' l r a:=by
 rcases o with⟨_,rfl⟩|⟨_,_,rfl⟩|⟨h1,h2,rfl⟩
 ·exact c
 ·exact c
 ·intro el er e1 e2
  rcases c el er e1 e2 with x|⟨q,hq,e,n⟩
  ·exact .inl x
  ·by_cases z:q.1=p.1
   ·have:=h2 q hq z
    exact .inr ⟨p,zi,z▸e,fun y=>n (Wy.trans y this)⟩
   ·exact .inr ⟨q,GT hq z,e,n⟩
theorem GW(h:ij T L N E){l r a:Nat}{B':List Ro}{el er:Ro}(e1:E[l]?=some el)(e2:E[r]?=some er)(rp:l=E.length-1\/r=E.length-1)(o:GU E B (T a el.1 er.1,jk l r a el er) B'):Ic T E B' l r a:=by
 intro el' er' f1 f2
 rw[e1]at f1;rw[e2]at f2
 cases f1;cases f2
 rcases o with⟨h1,rfl⟩|⟨_,⟨q,hq,e,n⟩,rfl⟩|⟨h1,h2,rfl⟩
 ·obtain⟨x,hx,e⟩:=ar.mp h1
  obtain⟨i,hi⟩:=a9 hx
  refine .inl ⟨i,x,hi,e,fun z=>?_⟩
  rcases rp with y|y
  ·have:=h.top hi (by rw[<- y];exact e1)
   unfold Wy.lt at z;simp only at z;omega
  ·have:=h.top hi (by rw[<- y];exact e2)
   unfold Wy.lt at z;simp only at z;omega
 ·exact .inr ⟨q,hq,e,n⟩
 ·exact .inr ⟨_,zi,rfl,fun z=>by unfold Wy.lt at z;simp only at z;omega⟩
theorem DV(h:ij T L N E)(b:zg T L N E B){p:Ro}(hp:p∈B):ij T L N (E++[p]):=by
 obtain⟨w,hn,hN⟩:=b.ok p hp
 obtain⟨r,hr⟩:=h.zero
 refine⟨⟨r++[p],by rw[hr];rfl⟩,fun e he=>?_,?_,fun i e he hi=>?_,fun i e f h1 h2=>?_⟩
 ·rcases aL.mp he with he|he
  ·exact h.lt e he
  ·rw[bz.mp he];exact hN
 ·rw[bV,dG]
  refine⟨h.nd,by simp,fun a ha c hc=>?_⟩
  simp only[aF,dg,bz]at hc
  subst hc
  exact fun z=>hn (z▸ha)
 ·by_cases hl:i<E.length
  ·rw[av hl]at he
   obtain⟨a,c,d⟩:=h.row i e he hi
   exact⟨a,c,d.app⟩
  ·have:i=E.length:=by have:=(aa.mp he).1;simp at this;omega
   subst this
   rw[bR]at he;cases he
   obtain⟨el,er,e1,e2,e3⟩:=w
   exact⟨(aa.mp e1).1,(aa.mp e2).1,On.app ⟨el,er,e1,e2,e3⟩⟩
 ·by_cases hl:i+1<E.length
  ·rw[av hl]at h2
   rw[av (by omega)]at h1
   exact h.rise i e f h1 h2
  ·have:i+1=E.length:=by have:=(aa.mp h2).1;simp at this;omega
   rw[this,bR]at h2;cases h2
   rw[av (by omega)]at h1
   exact b.up p hp e (by rw[<- h1];congr 1;omega)
theorem DW(h:ij T L N E)(b:zg T L N E B){p:Ro}(hp:p∈B)(O7:∀q∈B,¬ q.2.lt p.2):zg T L N (E++[p]) (B.filter fun q=>decide (q.1≠p.1)):=by
 refine⟨(List.Nodup.sublist (List.filter_sublist.map _) b.nd),fun q hq=>?_,fun q hq e he=>?_⟩
 ·obtain⟨hq,mJ⟩:=de.mp hq
  obtain⟨w,hn,hN⟩:=b.ok q hq
  refine⟨w.app,?_,hN⟩
  rw[bV,aL]
  rintro(z|z)
  ·exact hn z
  ·simp only[aF,dg,bz]at z
   exact iB mJ z
 ·obtain⟨hq,mJ⟩:=de.mp hq
  have he:(E++[p])[E.length]?=some e:=by rw[<- he];congr 1;simp
  rw[bR]at he;cases he
  have h1:=O7 q hq
  obtain⟨el,er,a1,a2,a3,a4,a5⟩:=(b.ok q hq).1
  obtain⟨fl,fr,c1,c2,c3,c4,c5⟩:=(b.ok p hp).1
  obtain⟨q1,⟨s,l,r,a⟩⟩:=q
  obtain⟨p1,⟨s',l',r',a'⟩⟩:=p
  simp only at a1 a2 a3 a4 a5 c1 c2 c3 c4 c5
  by_cases z:l=l'/\r=r'/\a=a'
  ·obtain⟨rfl,rfl,rfl⟩:=z
   rw[a1]at c1;rw[a2]at c2
   cases c1;cases c2
   exact(iB mJ (a4.symm.trans c4)).elim
  ·by_cases y:Wy.lt ⟨s',l',r',a'⟩ ⟨s,l,r,a⟩
   ·exact y
   ·have:=Wy.tri h1 y
    cases this
    exact(z ⟨rfl,rfl,rfl⟩).elim
theorem GX{l r a:Nat}{p:Ro}(hp:p∈B)(nd:(B.map Prod.fst).Nodup)(hl:l<E.length)(hr:r<E.length)(c:Ic T E B l r a):Ic T (E++[p]) (B.filter fun q=>decide (q.1≠p.1)) l r a:=by
 intro el er e1 e2
 rw[av hl]at e1
 rw[av hr]at e2
 rcases c el er e1 e2 with⟨i,e,f1,f2,f3⟩|⟨q,hq,f2,f3⟩
 ·exact .inl ⟨i,e,by rw[av (aa.mp f1).1];exact f1,f2,f3⟩
 ·by_cases z:q.1=p.1
  ·obtain rfl:=Cs nd hq hp z
   exact .inl ⟨E.length,q,bR,f2,f3⟩
  ·exact .inr ⟨q,de.mpr ⟨hq,bH z⟩,f2,f3⟩
end
def dI(f:α->Nat)(g:α->W)(l:List α):List (DK×W):=l.map fun a=>(DK.i (f a:Nat),g a)
section
variable{f:α->Nat}{g:α->W}{l:List α}
theorem AV(q:Nat)(a:α):decide ((DK.i (f a:Nat))=DK.i (q:Nat))=decide (f a=q):=by
 rw[gr,bn,bn]
 constructor
 ·intro h;injection h with h;omega
 ·intro h;rw[h]
theorem GY(q:Nat):jG (dI f g l) (.i q)=(l.find? fun a=>decide (f a=q)).map g:=by
 unfold jG dI
 rw[List.find?_map]
 simp only[cJ,AV,Option.map_map]
theorem Ct(q:Nat):(jG (dI f g l) (.i q)).isSome=decide (q∈l.map f):=by
 rw[GY,gE,gr,List.find?_isSome,bn,ar]
 simp
theorem GZ{a:α}(h:(l.map f).Nodup)(ha:a∈l):jG (dI f g l) (.i (f a:Nat))=some (g a):=by
 rw[GY]
 induction l with
 |nil=>cases ha
 |cons b l ih=>
  simp only[aF,bF]at h
  rw[bx]
  rcases aK.mp ha with rfl|ha'
  ·simp
  ·have:f b≠f a:=fun z=>h.1 (z▸ar.mpr ⟨a,ha',rfl⟩)
   rw[show decide (f b=f a)=false from bb this]
   exact ih h.2 ha'
theorem xc{a:α}(h:f a∉l.map f):tJ (dI f g l) (.i (f a:Nat)) (g a)=dI f g (l++[a]):=by
 unfold tJ
 rw[az]
 ·unfold dI;rw[bV];rfl
 ·intro z
  unfold dI at z
  rw[List.any_map,fW]at z
  obtain⟨x,hx,e⟩:=z
  simp only[cJ,AV,bn]at e
  exact h (ar.mpr ⟨x,hx,e⟩)
theorem J1(q:Nat):j4 (dI f g l) (.i q)=dI f g (l.filter fun a=>decide (f a≠q)):=by
 unfold j4 dI
 rw[nj]
 congr 1
 refine List.filter_congr fun a _=>?_
 show decide ((DK.i (f a:Nat))≠DK.i (q:Nat))=decide (f a≠q)
 rw[decide_not,AV,decide_not]
theorem nU:(dI f g l).length=l.length:=by simp[dI]
end
def xf(w:Wy):W:=.tup (w.z.map W.int)
abbrev bW(B:List Ro):List (DK×W):=dI (fun p:Ro=>p.1) (fun p=>xf p.2) B
abbrev tW(E:List Ro):List (DK×W):=dI (fun p:Ro=>p.1) (fun _=>W.bl true) E
theorem Oo(B:List Ro)(p:Ro):tJ (bW B) (.i (p.1:Nat)) (xf p.2)=bW (q9 B p):=by
 by_cases h:p.1∈B.map Prod.fst
 ·unfold q9
  rw[am h]
  unfold tJ
  rw[am]
  ·unfold bW dI
   rw[aS,aS]
   refine bf fun q _=>?_
   show(if DK.i (q.1:Nat)=DK.i (p.1:Nat)then _ else _)=_
   by_cases e:q.1=p.1
   ·rw[am (by rw[e])]
    show _=(DK.i ((if q.1=p.1 then p else q).1:Nat),xf (if q.1=p.1 then p else q).2)
    rw[am e];show(DK.i (q.1:Nat),_)=_;rw[e]
   ·rw[az (by intro z;injection z with z;omega)]
    show _=(DK.i ((if q.1=p.1 then p else q).1:Nat),xf (if q.1=p.1 then p else q).2)
    rw[az e]
  ·unfold bW dI
   rw[List.any_map,fW]
   obtain⟨x,hx,e⟩:=ar.mp h
   exact⟨x,hx,by simp only[cJ,bn];rw[e]⟩
 ·unfold q9
  rw[az h]
  exact xc (f:=fun p:Ro=>p.1) (g:=fun p=>xf p.2) (a:=p) h
theorem ug:∀B:List Ro,jH (bW B)=some (B.map fun p=>p.2.z)
 |[]=>rfl
 |p::B=>by
  show(match Au (xf p.2),jH (bW B)with|some a,some b=>some (a::b)|_,_=>none)=_
  rw[ug B];rfl
theorem zj(B:List Ro):∀j,j<B.length->∃p,B[j5 (fun a=>(B.map fun p=>p.2.z).getD a []) j]?=some p/\∀i q,i<=j->B[i]?=some q->¬ q.2.lt p.2
 |0,h=>⟨B[0],ae h,fun i q hi hq=>by
   obtain rfl:i=0:=by omega
   rw[ae h]at hq;cases hq
   exact Wy.irr _⟩
 |j+1,h=>by
  obtain⟨p,hp,hm⟩:=zj B j (by omega)
  have hj:B[j+1]?=some B[j+1]:=ae h
  have kz:∀(i:Nat) (q:Ro),B[i]?=some q->(B.map fun p=>p.2.z).getD i []=q.2.z:=fun i q e=>by
   rw[aE,ak,e];rfl
  unfold j5
  simp only[kz _ _ hj,kz _ _ hp]
  split
  ·rename_i z
   rw[Wy.lex]at z
   refine⟨B[j+1],hj,fun i q hi hq=>?_⟩
   rcases cw i (j+1)with y|y
   ·have:=hm i q (by omega) hq
    exact fun y=>this (Wy.trans y z)
   ·obtain rfl:i=j+1:=by omega
    rw[hj]at hq;cases hq
    exact Wy.irr _
  ·rename_i z
   refine⟨p,hp,fun i q hi hq=>?_⟩
   rcases cw i (j+1)with y|y
   ·exact hm i q (by omega) hq
   ·obtain rfl:i=j+1:=by omega
    rw[hj]at hq;cases hq
    intro y;exact z ((Wy.lex _ _).mpr y)
section
variable{st:List aj}{kvs:List (DK×W)}
theorem f'(h:st[n]?=some (.dct kvs)):iI st (.loc n)=some (n,kvs):=by simp only[iI,h]
theorem xg(h:st[n]?=some (.dct kvs)):rX st (.loc n)=some (n,kvs):=by simp only[rX,h]
theorem Cu{A8 b:Bool}(h:iI st (.loc n)=some (n,kvs))(hb:(if A8 then !(jG kvs (.i q)).isSome else(jG kvs (.i q)).isSome)=b):wE A8 (.int q) (.loc n) st=.ok (.bl b) st:=by
 rw[<- hb];simp only[wE,h,j3]
theorem qp{w:W}(h:iI st (.loc n)=some (n,kvs))(hb:jG kvs (.i q)=some w):lS (.loc n) (.int q) st=.ok w st:=by
 simp only[lS,h,j3,hb,cp]
theorem xk{q:Nat}{v:W}(h:st[n]?=some (.dct kvs))(hl:kvs.length<jw):kU (.loc n) (.int q) v st=some (st.set n (.dct (tJ kvs (.i q) v))):=by
 simp only[kU,xg h,j3];rw[am hl]
theorem AW(h:iI st (.loc n)=some (n,kvs)):tL [.loc n] st=.ok (.int kvs.length) st:=by
 simp only[tL,h]
theorem Op{fk:FE}{q:Nat}{w:W}(h1:fo ρ st=.ok (.loc n) st)(h2:fk ρ st=.ok (.int q) st)(h:st[n]?=some (.dct kvs))(hg:jG kvs (.i q)=some w):BP fo fk ρ st=.ok w (st.set n (.dct (j4 kvs (.i q)))):=by
 unfold BP
 rw[h1];simp only[R.bind_ok,xg h]
 rw[h2];simp only[R.bind_ok,xg h,j3,hg,cp]
theorem J2{T:Addr}{q:Str}{ks:List (List Int)}{p:DK×W}(h0:ρ[i]?=some (lO n))(h:st[n]?=some (.dct kvs))(hk:jH kvs=some ks)(ht:st[j]?=some (.tab T pos q))(hp:kvs[j5 (fun a=>ks.getD a []) (kvs.length-1)]?=some p) :
  tN i j T pos q ρ st=.ok p.1.w st:=by
 unfold tN
 rw[h0];simp only[xg h,hk]
 rw[am (show rE st j T pos q from ht),hp];rfl
theorem RV{w v:Wy}{b:Bool}(h:HT.lexLt w.z v.z=b):wJ (xf w) (xf v) st=.ok (.bl b) st:=by
 rw[<- h];rfl
theorem J3{body:FS}{c:Nat}{d:aj}(hc:c<st.length)(hd:d.und st.length=true)(h:gs (JN fun _ bE=>∃x,bE=st.set c d++x) (body (ws.map some++List.replicate (N-ws.length) none) st)):eN N body ws st=.ok .non (st.set c d):=by
 obtain⟨ρ',bE,e,x,rfl⟩:=h
 unfold eN
 rw[e]
 show R.ok W.non (ik st (st.set c d++x) [.non])=_
 unfold ik
 rw[am]
 ·congr 1
  rw[List.take_append_of_le_length (by simp),cQ (by simp)]
 ·refine⟨rfl,by simp,fun i hi=>?_⟩
  rw[av (by simpa using hi)]
  by_cases z:c=i
  ·subst z
   exact .inr ⟨d,by rw[bh hi],hd⟩
  ·exact .inl (by rw[bp z])
end
theorem nV{st:List aj}{P:RS->Prop}{f:FG}{body:FS}{k:yy}(I:Nat->bQ->List aj->Prop)(h:fi ρ st=.ok k st1)(h0:I 0 ρ st1)(hc:∀i ρ st,I i ρ st->h9 st k.2)
  (hs:∀i w ρ st,k.1[i]?=some w->I i ρ st->∃ρ',f w ρ=some ρ'/\gs (JN (I (i+1))) (body ρ' st)) (he:∀ρ st,I k.1.length ρ st->P (.nx ρ st)):gs P (dX fi f body ρ st):=by
 obtain⟨ρ2,cM,e,h2⟩:=t5 (f:=f) (body:=body) (ck:=k.2) I (ws:=k.1) (ρ:=ρ) (st:=st1) 0 h0 hc fun i w ρ st hw hI=>by
  rw[gc]at hI ⊢
  obtain⟨ρ',e1,ρ2,cM,e2,h2⟩:=hs i w ρ st hw hI
  exact⟨ρ',ρ2,cM,e1,e2,h2⟩
 rw[gc]at h2
 rw[wR h,e];exact he _ _ h2
def xS(n:Nat):List (Nat×Nat):=(List.range (n+1)).map (fun o=>(n,o))++(List.range n).map (fun o=>(o,n))
def Oq(p:Nat×Nat):W:=.tup [.int (p.1:Nat),.int (p.2:Nat)]
theorem uh(q:Nat)(F:W->β):(bq 0 q).map F=(List.range q).map fun i=>F (.int (i:Nat)):=by
 unfold bq
 rw[aS]
 refine bf fun i _=>?_
 show F (.int (0+(i:Int)))=_
 rw[cR]
theorem G0(n:Nat)(hn:n<=1000)(st:List aj):∃x y,GI [.int n] st=.ok (.loc (st.length+2)) (st++[.lst x,.lst y,.lst ((xS n).map Oq)]):=by
 refine⟨List.map (fun w=>W.tup [.int n,w]) (bq 0 ((n:Int)+1).toNat),List.map (fun w=>W.tup [w,.int n]) (bq 0 (n:Int).toNat),yX (N:=1) (body:=Rx) (ws:=[.int n]) (k:=2) ?_⟩
 refine m_ ?_
 refine bJ (gW (fun w=>.tup [.int n,w]) (c7 (ay (bJ kv cP fS) bt) (by omega)) ?_ trivial ?_) (gW (fun w=>.tup [w,.int n]) (c7 kn (by omega)) ?_ trivial ?_) ?_
 ·rw[bq,ai,b9];show _<=1000000;omega
 ·intro w hw
  exact⟨_,rfl,(by(walk_at "evs"))⟩
 ·rw[bq,ai,b9];show _<=1000000;omega
 ·intro w hw
  exact⟨_,rfl,(by(walk_at "evs"))⟩
 ·have ea:(xS n).map Oq=List.map (fun w=>W.tup [.int n,w]) (bq 0 ((n:Int)+1).toNat)++List.map (fun w=>W.tup [w,.int n]) (bq 0 (n:Int).toNat):=by
   rw[uh,uh,xS,bV,aS,aS]
   rfl
  rw[AH (ws:=List.map (fun w=>W.tup [.int n,w]) (bq 0 ((n:Int)+1).toNat)) (xs:=List.map (fun w=>W.tup [w,.int n]) (bq 0 (n:Int).toNat)) (aJ (by rw[cZ];rfl)) (by rw[cZ];rfl),ea]
  ·simp
  ·simp[bq];show _<=1000000;omega
theorem Os{p:Nat×Nat}(h:(xS n)[i]?=some p):p.1<=n/\p.2<=n/\(p.1=n\/p.2=n):=by
 have:=al h
 unfold xS at this
 rcases aL.mp this with h|h
 ·obtain⟨o,ho,rfl⟩:=ar.mp h
  have:=aM.mp ho
  exact⟨au _,by simp only;omega,.inl rfl⟩
 ·obtain⟨o,ho,rfl⟩:=ar.mp h
  have:=aM.mp ho
  exact⟨by simp only;omega,au _,.inr rfl⟩
theorem J4{n l r:Nat}(hl:l<=n)(hr:r<=n)(h:l=n\/r=n):∃i:Nat,i<(xS n).length/\(xS n)[i]?=some (l,r):=by
 have:(l,r)∈xS n:=by
  unfold xS
  rw[aL]
  by_cases z:l=n
  ·subst z
   exact .inl (ar.mpr ⟨r,aM.mpr (by omega),rfl⟩)
  ·have:r=n:=by omega
   subst this
   exact .inr (ar.mpr ⟨l,aM.mpr (by omega),rfl⟩)
 obtain⟨i,hi⟩:=a9 this
 exact⟨i,(aa.mp hi).1,hi⟩
def vO(E:List Ro)(i:Nat)(e:Ro)(w:W):Prop:=(i=0/\w=.tup [.int (e.1:Nat),.int (e.2.s:Nat),.tup []])\/(0<i/\∃el er:Ro,E[e.2.l]?=some el/\E[e.2.r]?=some er/\w=.tup [.int (e.1:Nat),.int (e.2.s:Nat),.tup [.int (el.1:Nat),.int (er.1:Nat),.int (e.2.a:Nat)]])
structure Rows(E:List Ro)(R:List W):Prop where
 len:R.length=E.length
 at':∀(i:Nat) (e:Ro),E[i]?=some e->∃w,R[i]?=some w/\vO E i e w
theorem vO.sh{E:List Ro}{e:Ro}{w:W}(h:vO E i e w):∃t,w=.tup [.int (e.1:Nat),.int (e.2.s:Nat),t]:=by
 rcases h with⟨_,rfl⟩|⟨_,_,_,_,_,rfl⟩<;>exact⟨_,rfl⟩
theorem vO.app{E x:List Ro}{e:Ro}{w:W}(h:vO E i e w):vO (E++x) i e w:=by
 rcases h with h|⟨h0,el,er,h1,h2,h3⟩
 ·exact .inl h
 ·exact .inr ⟨h0,el,er,by rw[av (aa.mp h1).1];exact h1,by rw[av (aa.mp h2).1];exact h2,h3⟩
def bc(M:Mc)(a l r:Nat):Nat:=((M.tb.getD a []).getD l []).getD r 0
section
variable{M:Mc}
theorem vP(hM:rM M N){a:Nat}{t:List (List Nat)}(ht:M.tb[a]?=some t){l r:Nat}(hl:l<N)(hr:r<N):∃row,t[l]?=some row/\row[r]?=some (bc M a l r)/\bc M a l r<N:=by
 obtain⟨t1,t2⟩:=hM.t t (al ht)
 have hl':l<t.length:=by omega
 have e1:t[l]?=some t[l]:=ae hl'
 obtain⟨r1,r2⟩:=t2 t[l] (g6 hl')
 have hr':r<t[l].length:=by omega
 have e2:t[l][r]?=some t[l][r]:=ae hr'
 have e3:bc M a l r=t[l][r]:=by
  unfold bc
  rw[aE,aE,aE,ht]
  simp only[Option.getD_some,e1,e2]
 exact⟨t[l],e1,by rw[e2,e3],by rw[e3];exact r2 _ (g6 hr')⟩
theorem vQ{t:List (List Nat)}{l:Nat}{st:List aj}(h:t[l]?=some row):bu (dY t) (.int (l:Nat)) st=.ok (g7 row) st:=by
 unfold dY;exact i8 (d9 (by rw[ak,h];rfl))
theorem vR{r k:Nat}{st:List aj}(h:row[r]?=some k):bu (g7 row) (.int (r:Nat)) st=.ok (.int (k:Nat)) st:=by
 unfold g7;exact i8 (d9 (by rw[ak,h];rfl))
end
structure Go(T:Nat->Nat->Nat->Nat)(L N:Nat)(E B:List Ro)(D:Nat->Nat->Nat->Prop):Prop where
 best:zg T L N E B
 cov:∀l r a,D l r a->Ic T E B l r a
theorem Go.imp{E B:List Ro}{D D':Nat->Nat->Nat->Prop}(g:Go T L N E B D)(h:∀l r a,D' l r a->D l r a):Go T L N E B D':=⟨g.best,fun l r a d=>g.cov l r a (h l r a d)⟩
theorem Go.one{E B B':List Ro}{D:Nat->Nat->Nat->Prop}(h:ij T L N E)(g:Go T L N E B D){l r a:Nat}{el er:Ro}(e1:E[l]?=some el)(e2:E[r]?=some er)(ha:a<L)(hN:T a el.1 er.1<N)
  (rp:l=E.length-1\/r=E.length-1) (o:GU E B (T a el.1 er.1,jk l r a el er) B'):Go T L N E B' (fun l' r' a'=>D l' r' a'\/l'=l/\r'=r/\a'=a):=
 ⟨GV h g.best ⟨el,er,e1,e2,ha,rfl,rfl⟩ hN rp o,fun l' r' a' d=>by
  rcases d with d|⟨rfl,rfl,rfl⟩
  ·exact J0 o g.best.nd (g.cov _ _ _ d)
  ·exact GW h e1 e2 rp o⟩
theorem zl(n:Nat):∀l:List Int,undWs n (l.map W.int)=true
 |[]=>rfl
 |_::l=>by simp only[aF,undWs,zl n l,ca];rfl
theorem Ot(n:Nat)(B:List Ro):(aj.dct (bW B)).und n=true:=by
 show undWs n ((bW B).map fun p=>p.2)=true
 unfold bW dI
 rw[aS]
 induction B with
 |nil=>rfl
 |cons b B ih=>
  simp only[aF,undWs,ih,ca]
  show(xf b.2).und n=true
  unfold xf W.und
  exact zl n _
section
variable{M:Mc}{E B:List Ro}{R:List W}{st:List aj}{ra rb rc:Nat}
theorem Cv(hM:rM M N)(hN:N<=100)(r_:st[ra]?=some (.lst R))(Sg:st[rb]?=some (.dct (tW E)))(HH:st[rc]?=some (.dct (bW B)))(n1:rc≠ra)(n2:rc≠rb)(hR:Rows E R)(h:ij (bc M) M.tb.length N E)
  (g:Go (bc M) M.tb.length N E B fun l r a=>l<E.length-1/\r<E.length-1/\a<M.tb.length) :
  ∃B',Go (bc M) M.tb.length N E B' (fun l r a=>l<E.length/\r<E.length/\a<M.tb.length)/\GJ [M.w,.loc ra,.loc rb,.loc rc] st=.ok .non (st.set rc (.dct (bW B'))):=by
 have hE:=h.len
 have hE0:=h.len0
 suffices hh:gs (JN fun _ bE=>∃B',Go (bc M) M.tb.length N E B' (fun l r a=>l<E.length/\r<E.length/\a<M.tb.length)/\∃x,bE=st.set rc (.dct (bW B'))++x) (RH ([M.w,W.loc ra,.loc rb,.loc rc].map some++List.replicate (11-4) none) st) by
  obtain⟨ρ',bE,e,B',hg,hx⟩:=hh
  exact⟨B',hg,J3 (aa.mp HH).1 (Ot _ _) ⟨ρ',bE,e,hx⟩⟩
 obtain⟨x,y,ep⟩:=G0 (E.length-1) (by omega) st
 have hc:=(aa.mp HH).1
 have elen:((R.length:Int)-1)=((E.length-1:Nat):Int):=by rw[hR.len];omega
 generalize u3:st++[aj.lst x,.lst y,.lst ((xS (E.length-1)).map Oq)]=s1 at ep
 have pK:s1[st.length+2]?=some (.lst ((xS (E.length-1)).map Oq)):=by rw[<- u3,dz];rfl
 have p1:st <+: s1:=by rw[<- u3];exact aq _ _
 have hq:∀(B':List Ro) (i:Nat) (c:aj),i≠rc->s1[i]?=some c->(s1.set rc (.dct (bW B')))[i]?=some c:=fun B' i c hi e=>by rw[bp (Ne.symm hi)];exact e
 have hq':∀(B':List Ro),(s1.set rc (.dct (bW B')))[rc]?=some (.dct (bW B')):=fun B'=>bh (a6 hc p1.length_le)
 have zN:s1.set rc (.dct (bW B))=s1:=by
  refine lq fun i=>?_
  by_cases z:rc=i
  ·subst z;rw[hq',pre_get p1 HH]
  ·rw[bp z]
 refine nV (fun i ρ s=>∃(B':List Ro) (o4 o5 o6 o7 o8 o9 uZ:Option W),ρ=[some M.w,lO ra,lO rb,lO rc,o4,o5,o6,o7,o8,o9,uZ]/\s=s1.set rc (.dct (bW B')) /\
   Go (bc M) M.tb.length N E B' fun l r a=>(l<E.length-1/\r<E.length-1\/∃j,j<i/\(xS (E.length-1))[j]?=some (l,r))/\a<M.tb.length) (k:=((xS (E.length-1)).map Oq,some (st.length+2,(xS (E.length-1)).map Oq))) (st1:=s1)
  (fM (d8 (ay (bJ (bi kn (ip (aO r_))) cP rfl) bt) (by show GI [W.int ((R.length:Int)-1)] st=_;rw[elen];exact ep) rfl) (aO pK))
  ⟨B,_,_,_,_,_,_,_,rfl,zN.symm,g.imp fun l r a d=>?_⟩ ?_ ?_ ?_
 ·obtain⟨d|⟨j,z,_⟩,da⟩:=d
  ·exact⟨d.1,d.2,da⟩
  ·exact absurd z (b8 _)
 ·rintro i ρ s ⟨B',o4,o5,o6,o7,o8,o9,uZ,rfl,rfl,gg⟩
  exact aO (hq B' _ _ (by omega) pK)
 ·rintro i w ρ s hw ⟨B0,o4,o5,o6,o7,o8,o9,uZ,rfl,rfl,gg⟩
  rw[ak]at hw
  cases hp:(xS (E.length-1))[i]? with
  |none=>rw[hp]at hw;cases hw
  |some p=>
   obtain⟨l,r⟩:=p
   rw[hp]at hw
   cases hw
   obtain⟨hl,hr,rp⟩:=Os hp
   simp only at hl hr rp
   have hl':l<E.length:=by omega
   have hr':r<E.length:=by omega
   obtain⟨el,hel⟩:∃el,E[l]?=some el:=⟨_,ae hl'⟩
   obtain⟨er,her⟩:∃er,E[r]?=some er:=⟨_,ae hr'⟩
   obtain⟨wl,HW,rl⟩:=hR.at' l el hel
   obtain⟨wr,hwr,rr⟩:=hR.at' r er her
   obtain⟨tl,rfl⟩:=rl.sh
   obtain⟨tr,rfl⟩:=rr.sh
   clear rl rr
   have hlN:el.1<N:=h.lt el (al hel)
   have Pp:er.1<N:=h.lt er (al her)
   have xl:∀B',bu (.loc ra) (.int (l:Nat)) (s1.set rc (.dct (bW B')))=.ok _ _:=fun B'=>kY (aO (hq B' _ _ (Ne.symm n1) (pre_get p1 r_))) (d9 HW)
   have xr:∀B',bu (.loc ra) (.int (r:Nat)) (s1.set rc (.dct (bW B')))=.ok _ _:=fun B'=>kY (aO (hq B' _ _ (Ne.symm n1) (pre_get p1 r_))) (d9 hwr)
   refine⟨_,rfl,?_⟩
   apply aG
   ·exact bU (bJ (bJ (bJ (bJ kv kv (xl B0)) cP ox) (bJ (bJ kv kv (xr B0)) cP ox) fS) cP fS)
   refine nV (fun k ρ s=>∃(B':List Ro) (o7 o8 o9 uZ:Option W),ρ=[some M.w,lO ra,lO rb,lO rc,iO (l:Nat),iO (r:Nat),iO ((el.2.s:Int)+(er.2.s:Int)+1),o7,o8,o9,uZ]/\s=s1.set rc (.dct (bW B')) /\
     Go (bc M) M.tb.length N E B' fun l' r' a'=>((l'<E.length-1/\r'<E.length-1\/∃j,j<i/\(xS (E.length-1))[j]?=some (l',r'))/\a'<M.tb.length)\/l'=l/\r'=r/\a'<k) (k:=(tD (M.tb.map dY),none)) (st1:=s1.set rc (.dct (bW B0)))
    (by show wA (af (e2 bu (ac 0) (eI 2)) aB) _ _=_;unfold wA;rfl) ⟨B0,_,_,_,_,rfl,rfl,gg.imp fun l' r' a' d=>?_⟩ (fun _ _ _ _=>trivial) ?_ ?_
   ·rcases d with d|⟨_,_,d⟩
    ·exact d
    ·exact absurd d (b8 _)
   ·rintro k w ρ s hw ⟨B1,o7,o8,o9,uZ,rfl,rfl,gg⟩
    obtain⟨y,hy,rfl⟩:=vo hw
    rw[ak]at hy
    cases ht:M.tb[k]? with
    |none=>rw[ht]at hy;cases hy
    |some t=>
     rw[ht]at hy
     cases hy
     have hk:k<M.tb.length:=(aa.mp ht).1
     obtain⟨row,t1e,t2e,t3e⟩:=vP hM ht hlN Pp
     refine⟨_,rfl,?_⟩
     apply aG
     ·exact bU (bJ (bJ kv (bJ (bJ kv kv (xl B1)) cP ox) (vQ t1e)) (bJ (bJ kv kv (xr B1)) cP ox) (vR t2e))
     apply aG
     ·exact bU (gi (ay kv (ay kv (ay kv kn))) (cv rfl))
     have ew:W.tup [.int ((el.2.s:Int)+(er.2.s:Int)+1),.int (l:Nat),.int (r:Nat),.int (k:Nat)]=xf (jk l r k el er):=by
      unfold xf Wy.z
      simp only[aF,dg,no];rfl
     have hto:iI (s1.set rc (.dct (bW B1))) (.loc rb)=some (rb,tW E):=f' (hq B1 _ _ (Ne.symm n2) (pre_get p1 Sg))
     have hbo:iI (s1.set rc (.dct (bW B1))) (.loc rc)=some (rc,bW B1):=f' (hq' B1)
     have fin:∀B',GU E B1 (bc M k el.1 er.1,jk l r k el er) B'->Go (bc M) M.tb.length N E B' fun l' r' a'=>((l'<E.length-1/\r'<E.length-1\/∃j,j<i/\(xS (E.length-1))[j]?=some (l',r'))/\a'<M.tb.length)\/l'=l/\r'=r/\a'<k+1:=fun B' o=>
      (Go.one h gg hel her hk t3e rp o).imp fun l' r' a' d=>by
       rcases d with d|⟨rfl,rfl,d⟩
       ·exact .inl (.inl d)
       ·rcases cw a' k with z|z
        ·exact .inl (.inr ⟨rfl,rfl,z⟩)
        ·exact .inr ⟨rfl,rfl,by omega⟩
     have put:∀ρ:bQ,ρ[3]?=some (lO rc)->ρ[9]?=some (iO (bc M k el.1 er.1:Nat))->ρ[10]?=some (some (xf (jk l r k el er)))->lx (ac 3) (ac 9) (ac 10) kU ρ (s1.set rc (.dct (bW B1)))=.nx ρ (s1.set rc (.dct (bW (q9 B1 (bc M k el.1 er.1,jk l r k el er))))):=fun ρ r3 r9 r10=>by
      refine kX (gJ r10) (gJ r3) (gJ r9) ?_
      rw[xk (hq' B1) (by rw[nU];have:=gg.best.len;show _<1000000;omega),qG,Oo B1 (bc M k el.1 er.1,jk l r k el er)]
     rw[ew]
     by_cases c1:bc M k el.1 er.1∈E.map Prod.fst
     ·refine iJ (sk (bX (bJ kv kv (Cu (b:=false) hto (by rw[Ct];simp only[dF];rw[bH c1];rfl))))) ?_
      exact⟨_,_,rfl,B1,_,_,_,_,rfl,rfl,fin B1 (.inl ⟨c1,rfl⟩)⟩
     ·have t1:∀ρ:bQ,ρ[9]?=some (iO (bc M k el.1 er.1:Nat))->ρ[2]?=some (lO rb)->eV (e2 (wE true) (ac 9) (ac 2)) ρ (s1.set rc (.dct (bW B1)))=.ok true _:=fun ρ r9 r2=>
       bX (bJ (gJ r9) (gJ r2) (Cu (b:=true) hto (by rw[Ct];simp only[dF];rw[bb c1];rfl)))
      by_cases c2:bc M k el.1 er.1∈B1.map Prod.fst
      ·obtain⟨q,hqB,hq1⟩:=ar.mp c2
       have t2:∀ρ:bQ,ρ[9]?=some (iO (bc M k el.1 er.1:Nat))->ρ[3]?=some (lO rc)->eV (e2 (wE true) (ac 9) (ac 3)) ρ (s1.set rc (.dct (bW B1)))=.ok false _:=fun ρ r9 r2=>
        bX (bJ (gJ r9) (gJ r2) (Cu (b:=false) hbo (by rw[Ct];simp only[dF];rw[bH c2];rfl)))
       have gt:jG (bW B1) (.i (bc M k el.1 er.1:Nat))=some (xf q.2):=by
        rw[<- hq1];exact GZ (f:=fun p:Ro=>p.1) (g:=fun p=>xf p.2) gg.best.nd hqB
       have t3:∀(b:Bool) (ρ:bQ),HT.lexLt (jk l r k el er).z q.2.z=b->ρ[9]?=some (iO (bc M k el.1 er.1:Nat))->ρ[3]?=some (lO rc)->ρ[10]?=some (some (xf (jk l r k el er)))->eV (e2 wJ (ac 10) (e2 lS (ac 3) (ac 9))) ρ (s1.set rc (.dct (bW B1)))=.ok b _:=fun b ρ hb r9 r3 r10=>
        bX (bJ (gJ r10) (bJ (gJ r3) (gJ r9) (qp hbo gt)) (RV hb))
       cases hb:HT.lexLt (jk l r k el er).z q.2.z with
       |true=>
        refine jy (kW (t1 _ rfl rfl) (fG (t2 _ rfl rfl) (t3 true _ hb rfl rfl rfl))) ?_
        exact⟨_,_,put _ rfl rfl rfl,_,_,_,_,_,rfl,rfl,fin _ (.inr (.inr ⟨c1,fun q' hq' e'=>by
         obtain rfl:=Cs gg.best.nd hqB hq' (hq1.trans e'.symm)
         exact(Wy.lex _ _).mp hb,rfl⟩))⟩
       |false=>
        refine iJ (kW (t1 _ rfl rfl) (fG (t2 _ rfl rfl) (t3 false _ hb rfl rfl rfl))) ?_
        exact⟨_,_,rfl,B1,_,_,_,_,rfl,rfl,fin B1 (.inr (.inl ⟨c1,⟨q,hqB,hq1,fun z=>by rw[(Wy.lex _ _).mpr z]at hb;cases hb⟩,rfl⟩))⟩
      ·refine jy (kW (t1 _ rfl rfl) (su (bX (bJ kv kv (Cu (b:=true) hbo (by rw[Ct];simp only[dF];rw[bb c2];rfl)))))) ?_
       exact⟨_,_,put _ rfl rfl rfl,_,_,_,_,_,rfl,rfl,fin _ (.inr (.inr ⟨c1,fun q' hq' e'=>(c2 (ar.mpr ⟨q',hq',e'⟩)).elim,rfl⟩))⟩
   ·rintro ρ s ⟨B1,o7,o8,o9,uZ,rfl,rfl,gg⟩
    refine⟨_,_,rfl,B1,_,_,_,_,_,_,_,rfl,rfl,gg.imp fun l' r' a' d=>?_⟩
    obtain⟨d|⟨j,hj,d⟩,da⟩:=d
    ·exact .inl ⟨.inl d,da⟩
    ·rcases cw j i with z|z
     ·exact .inl ⟨.inr ⟨j,z,d⟩,da⟩
     ·obtain rfl:j=i:=by omega
      rw[hp]at d;cases d
      exact .inr ⟨rfl,rfl,by simpa[tD]using da⟩
 ·rintro ρ s ⟨B',o4,o5,o6,o7,o8,o9,uZ,rfl,rfl,gg⟩
  refine⟨_,_,rfl,B',gg.imp fun l r a d=>?_,[aj.lst x,.lst y,.lst ((xS (E.length-1)).map Oq)],by rw[<- u3,List.set_append_left _ _ hc]⟩
  obtain⟨dl,dr,da⟩:=d
  refine⟨?_,da⟩
  by_cases z:l<E.length-1/\r<E.length-1
  ·exact .inl z
  ·obtain⟨j,hj,e⟩:=J4 (n:=E.length-1) (l:=l) (r:=r) (by omega) (by omega) (by omega)
   exact .inr ⟨j,by simpa using hj,e⟩
end
theorem J5{st:List aj}{z:Int}{v:W}:BO (wF (eC (.int z)) (eC v) BN) ρ st=.ok (.loc st.length) (st++[.dct [(.i z,v)]]):=by
 unfold BO
 have e1:wF (eC (.int z)) (eC v) BN ρ (st++[.dct []])=.ok [(.int z,v)] (st++[.dct []]):=rfl
 rw[e1]
 simp only[R.bind_ok,cZ,fC]
 rfl
theorem Ou{st:List aj}:qh ρ st=.ok (.loc st.length) (st++[.dct []]):=rfl
theorem G3{E:List Ro}{R:List W}(h:Rows E R)(n:Nat):undWs n R=true:=by
 have l7:∀w∈R,w.und n=true:=fun w hw=>by
  obtain⟨i,hi⟩:=a9 hw
  have hl:=(aa.mp hi).1
  obtain⟨w',hw',ro⟩:=h.at' i (E[i]'(by rw[<- h.len];exact hl)) (ae (by rw[<- h.len];exact hl))
  rw[hi]at hw';cases hw'
  rcases ro with⟨_,rfl⟩|⟨_,_,_,_,_,rfl⟩<;>simp[W.und,undWs]
 clear h
 induction R with
 |nil=>rfl
 |cons w R ih=>
  simp only[undWs,a8]
  exact⟨l7 w (aN ..),ih fun w hw=>l7 w (aA _ hw)⟩
theorem Rows.next{E:List Ro}{R:List W}(h:Rows E R)(h0:0<E.length){p el er:Ro}(e1:E[p.2.l]?=some el)(e2:E[p.2.r]?=some er):Rows (E++[p]) (R++[.tup [.int (p.1:Nat),.int (p.2.s:Nat),.tup [.int (el.1:Nat),.int (er.1:Nat),.int (p.2.a:Nat)]]]):=
 ⟨by simp[h.len],fun i e he=>by
  by_cases hl:i<E.length
  ·rw[av hl]at he
   obtain⟨w,hw,ro⟩:=h.at' i e he
   exact⟨w,by rw[av (by rw[h.len];exact hl)];exact hw,ro.app⟩
  ·have:i=E.length:=by have:=(aa.mp he).1;simp at this;omega
   subst this
   rw[bR]at he;cases he
   exact⟨_,by rw[<- h.len,bR],.inr ⟨h0,el,er,by rw[av (aa.mp e1).1];exact e1,by rw[av (aa.mp e2).1];exact e2,rfl⟩⟩⟩
section
variable{M:Mc}{st:List aj}
theorem DY(hM:rM M N)(Up:1<=N)(hN:N<=100)(ht:st[1]?=some (.tab 59 ⟨54,29,54,52⟩ "firsts_of.<locals>.<lambda>")) :
  ∃(E:List Ro) (R:List W),ij (bc M) M.tb.length N E/\Rows E R/\(∀l r a,l<E.length->r<E.length->a<M.tb.length->Ic (bc M) E [] l r a)/\DQ [M.w] st=.ok (.tup R) st:=by
 suffices hh:gs (rK fun w bE=>(∃x,bE=st++x)/\undWs st.length [w]=true/\∃(E:List Ro) (R:List W),w=.tup R/\ij (bc M) M.tb.length N E/\Rows E R/\∀l r a,l<E.length->r<E.length->a<M.tb.length->Ic (bc M) E [] l r a) (RJ ([M.w].map some++List.replicate (6-1) none) st) by
  obtain⟨w,⟨E,R,rfl,h1,h2,h3⟩,e⟩:=jI hh
  exact⟨E,R,h1,h2,h3,e⟩
 apply aG
 ·(walk_at "evs")
 apply aG
 ·exact bU J5
 apply aG
 ·exact bU Ou
 have ny:1<st.length:=(aa.mp ht).1
 rw[show(st++[aj.lst [W.tup [.int 0,.int 0,.tup []]]]++[aj.dct [(DK.i 0,W.bl true)]]).length=st.length+2 by simp,show(st++[aj.lst [W.tup [.int 0,.int 0,.tup []]]]).length=st.length+1 by simp,
  show st++[aj.lst [W.tup [.int 0,.int 0,.tup []]]]++[aj.dct [(DK.i 0,W.bl true)]]++[aj.dct []]=st++[aj.lst [W.tup [.int 0,.int 0,.tup []]],.dct (tW [(0,⟨0,0,0,0⟩)]),.dct (bW [])] by simp only[aw];rfl]
 have hT0:ij (bc M) M.tb.length N [(0,⟨0,0,0,0⟩)]:=by
  refine⟨⟨[],rfl⟩,fun e he=>?_,by simp,fun i e he hi=>?_,fun i e f h1 h2=>?_⟩
  ·rw[bz.mp he];exact Up
  ·have:=(aa.mp he).1;simp at this;omega
  ·have:=(aa.mp h2).1;simp at this
 have hR0:Rows [(0,⟨0,0,0,0⟩)] [W.tup [.int 0,.int 0,.tup []]]:=⟨rfl,fun i e he=>by
  have:i=0:=by have:=(aa.mp he).1;simp at this;omega
  subst this
  cases he
  exact⟨_,rfl,.inl ⟨rfl,rfl⟩⟩⟩
 have g0:Go (bc M) M.tb.length N [(0,⟨0,0,0,0⟩)] [] fun l r a=>l<[((0:Nat),(⟨0,0,0,0⟩:Wy))].length-1/\r<[((0:Nat),(⟨0,0,0,0⟩:Wy))].length-1/\a<M.tb.length:=
  ⟨⟨by simp,fun p hp=>by simp at hp,fun p hp=>by simp at hp⟩,fun l r a d=>absurd d.1 (by simp)⟩
 obtain⟨B1,g1,ew⟩:=Cv (st:=st++[aj.lst [W.tup [.int 0,.int 0,.tup []]],.dct (tW [(0,⟨0,0,0,0⟩)]),.dct (bW [])]) (ra:=st.length) (rb:=st.length+1) (rc:=st.length+2) hM hN (by rw[cZ];rfl) (by rw[dz];rfl) (by rw[dz];rfl) (by omega) (by omega) hR0 hT0 g0
 rw[im]at ew
 apply aG
 ·exact fz (d8 (ay kv (ay kv (ay kv kn))) ew rfl)
 clear ew g0
 refine vI (fun m ρ s=>∃(E B:List Ro) (R:List W) (o4 o5:Option W),m=N-E.length/\ρ=[some M.w,lO st.length,lO (st.length+1),lO (st.length+2),o4,o5]/\s=st++[.lst R,.dct (tW E),.dct (bW B)] /\
   Rows E R/\ij (bc M) M.tb.length N E/\Go (bc M) M.tb.length N E B fun l r a=>l<E.length/\r<E.length/\a<M.tb.length) _ ⟨_,B1,_,_,_,rfl,rfl,rfl,hR0,hT0,g1⟩ ?_ ?_
 ·rintro m ρ s ⟨E,B,R,o4,o5,rfl,rfl,rfl,hR,hT,g⟩
  have hb:(st++[aj.lst R,.dct (tW E),.dct (bW B)])[st.length+2]?=some (.dct (bW B)):=by rw[dz];rfl
  cases B with
  |nil=>exact .inl (bX (bJ (bi kn (AW (f' hb))) cP (nR rfl)))
  |cons b B=>
   refine .inr ⟨bX (bJ (bi kn (AW (f' hb))) cP (nR (by rw[nU];exact bH (by simp only[br];omega)))),?_⟩
   obtain⟨p,hp,O7⟩:=zj (b::B) B.length (by simp)
   have hpB:p∈b::B:=al hp
   have hmin':∀q∈b::B,¬ q.2.lt p.2:=fun q hq=>by
    obtain⟨i,hi⟩:=a9 hq
    exact O7 i q (by have:=(aa.mp hi).1;simp at this;omega) hi
   apply aG
   ·refine bU (J2 (p:=(DK.i (p.1:Nat),xf p.2)) rfl hb (ug _) (aJ ht) ?_)
    rw[nU,show(b::B).length-1=B.length from rfl]
    show((b::B).map _)[_]?=_
    rw[ak,hp];rfl
   apply aG
   ·exact bU (Op (n:=st.length+2) (q:=p.1) kv kv hb (GZ (f:=fun p:Ro=>p.1) (g:=fun p=>xf p.2) g.best.nd hpB))
   rw[im,J1]
   obtain⟨⟨el,er,w1,w2,w3,w4,w5⟩,pn,pN⟩:=g.best.ok p hpB
   obtain⟨vl,hvl,rl⟩:=hR.at' _ _ w1
   obtain⟨vr,hvr,rr⟩:=hR.at' _ _ w2
   obtain⟨tl,rfl⟩:=rl.sh
   obtain⟨tr,rfl⟩:=rr.sh
   clear rl rr
   have hT2:=DV hT g.best hpB
   have b2:=DW hT g.best hpB hmin'
   have hR2:=hR.next hT.len0 w1 w2
   have hel:E.length<N:=by have:=hT2.len;simp at this;omega
   generalize hB2:List.filter (fun q:Ro=>decide (q.1≠p.1)) (b::B)=B2 at b2
   have g2:Go (bc M) M.tb.length N (E++[p]) B2 fun l r a=>l<(E++[p]).length-1/\r<(E++[p]).length-1/\a<M.tb.length:=⟨b2,fun l r a d=>by
    rw[<- hB2]
    simp only[aC,br,dJ]at d
    exact GX hpB g.best.nd (by omega) (by omega) (g.cov l r a ⟨by omega,by omega,d.2.2⟩)⟩
   show gs _ (aV _ _ _ (st++[aj.lst R,.dct (tW E),.dct (bW B2)]))
   have hr0:(st++[aj.lst R,.dct (tW E),.dct (bW B2)])[st.length]?=some (.lst R):=by rw[cZ];rfl
   have xl:bu (.loc st.length) (.int (p.2.l:Nat)) (st++[aj.lst R,.dct (tW E),.dct (bW B2)])=.ok _ _:=kY (aO hr0) (d9 hvl)
   have xr:bu (.loc st.length) (.int (p.2.r:Nat)) (st++[aj.lst R,.dct (tW E),.dct (bW B2)])=.ok _ _:=kY (aO hr0) (d9 hvr)
   have xw:∀(i:Int) (w:W) (s:List aj),pS (p.2.z.map W.int) i=some w->bu (xf p.2) (.int i) s=.ok w s:=fun i w s e=>i8 e
   apply aG
   ·exact fz (nv kv (eG hr0) (ay (gi (ay kv (ay (bJ kv cP (xw 0 _ _ rfl)) (ay (gi (ay (bJ (bJ kv (bJ kv cP (xw 1 _ _ rfl)) xl) cP ox) (ay (bJ (bJ kv (bJ kv cP (xw 2 _ _ rfl)) xr) cP ox) (ay (bJ kv cP (xw 3 _ _ rfl)) bt))) (cv rfl)) bt))) (cv rfl)) bt) (rJ hr0 (by rw[hR.len];show _<1000000;omega)))
   rw[fC]
   show gs _ (aV _ _ _ (st++[aj.lst (R++[_]),.dct (tW E),.dct (bW B2)]))
   apply aG
   ·refine kX cP kv kv (xk (kvs:=tW E) (q:=p.1) (by rw[dz];rfl) (by rw[nU];show _<1000000;omega))
   rw[im,show tJ (tW E) (.i (p.1:Nat)) (W.bl true)=tW (E++[p])from xc (f:=fun p:Ro=>p.1) (g:=fun _=>W.bl true) (a:=p) pn]
   show gs _ (fw _ _ (st++[aj.lst (R++[_]),.dct (tW (E++[p])),.dct (bW B2)]))
   obtain⟨B3,g3,e3⟩:=Cv (st:=st++[aj.lst (R++[W.tup [.int (p.1:Nat),.int (p.2.s:Nat),.tup [.int (el.1:Nat),.int (er.1:Nat),.int (p.2.a:Nat)]]]),.dct (tW (E++[p])),.dct (bW B2)]) (ra:=st.length) (rb:=st.length+1) (rc:=st.length+2) hM hN (by rw[cZ];rfl) (by rw[dz];rfl) (by rw[dz];rfl) (by omega) (by omega) hR2 hT2 g2
   rw[im]at e3
   exact⟨_,_,fz (d8 (ay kv (ay kv (ay kv kn))) e3 rfl),N-(E++[p]).length,by simp only[aC,br,dJ];omega,E++[p],B3,_,_,_,rfl,rfl,rfl,hR2,hT2,g3⟩
 ·rintro m ρ s ⟨E,B,R,o4,o5,rfl,rfl,rfl,hR,hT,g⟩ hf
  have hb:(st++[aj.lst R,.dct (tW E),.dct (bW B)])[st.length+2]?=some (.dct (bW B)):=by rw[dz];rfl
  have hB:B=[]:=by
   cases B with
   |nil=>rfl
   |cons b B=>
    have t:eV (e2 Eg (bg tL (af (ac 3) aB)) (eI 0)) [some M.w,lO st.length,lO (st.length+1),lO (st.length+2),o4,o5] (st++[aj.lst R,.dct (tW E),.dct (bW (b::B))])=.ok true _:=
     bX (bJ (bi kn (AW (f' hb))) cP (nR (by rw[nU];exact bH (by simp only[br];omega))))
    rw[t]at hf
    cases hf
  subst hB
  refine ei (bi kn (fA (aO (by rw[cZ];rfl)))) ⟨_,_,rfl,⟨_,rfl⟩,?_,E,R,rfl,hT,hR,fun l r a h1 h2 h3=>g.cov l r a ⟨h1,h2,h3⟩⟩
  simp only[undWs,ca]
  unfold W.und
  exact G3 hR _
end
theorem RW{l:List Ro}(h:(l.map Prod.fst).Nodup){e f:Ro}(hi:l[i]?=some e)(hj:l[j]?=some f)(ny:i<j):e.1≠f.1:=by
 obtain⟨a1,a2⟩:=aa.mp hi
 obtain⟨b1,b2⟩:=aa.mp hj
 have:=List.pairwise_iff_getElem.mp h i j (by simpa using a1) (by simpa using b1) ny
 rw[cS,cS,a2,b2]at this
 exact this
structure q_(T:Nat->Nat->Nat->Nat)(L N:Nat)(E:List Ro):Prop where
 told:ij T L N E
 cov:∀l r a,l<E.length->r<E.length->a<L->Ic T E [] l r a
section
variable{E E':List Ro}
theorem ij.up(h:ij T L N E):∀(k i:Nat) (e f:Ro),E[i]?=some e->E[i+k]?=some f->¬ f.2.lt e.2
 |0,i,e,f,h1,h2=>by rw[iz,h1]at h2;cases h2;exact Wy.irr _
 |k+1,i,e,f,h1,h2=>by
  have hk:i+k<E.length:=by have:=(aa.mp h2).1;omega
  have e1:E[i+k]?=some E[i+k]:=ae hk
  have a:=h.up k i e _ h1 e1
  have b:=h.rise (i+k) _ f e1 (by rw[<- h2];congr 1)
  exact fun z=>a (Wy.trans b z)
theorem q_.least(h:q_ T L N E)(hi:0<i){l r a:Nat}{el er:Ro}(h1:E[l]?=some el)(h2:E[r]?=some er)(hl:l<i)(hr:r<i)(ha:a<L)(hn:T a el.1 er.1∉(E.take i).map Prod.fst) :
  ∃e,E[i]?=some e/\¬ (jk l r a el er).lt e.2:=by
 rcases h.cov l r a (aa.mp h1).1 (aa.mp h2).1 ha el er h1 h2 with⟨m,f,hm,e1,e2⟩|⟨p,hp,_⟩
 ·have hmi:i<=m:=by
   rcases cw m i with z|z
   ·exact(hn (e1▸ar.mpr ⟨f,al (i:=m) (by rw[bB z];exact hm),rfl⟩)).elim
   ·exact z
  have hil:i<E.length:=by have:=(aa.mp hm).1;omega
  have he:E[i]?=some E[i]:=ae hil
  have:=h.told.up (m-i) i _ f he (by rw[show i+(m-i)=m by omega];exact hm)
  exact⟨_,he,fun z=>e2 (Wy.ge z this)⟩
 ·cases hp
theorem zm(h:ij T L N E){e:Ro}(he:E[i]?=some e):e.1∉(E.take i).map Prod.fst:=fun z=>by
 obtain⟨f,hf,e1⟩:=ar.mp z
 obtain⟨j,hj⟩:=a9 hf
 have hji:j<i:=by have:=(aa.mp hj).1;rw[a7]at this;omega
 rw[bB hji]at hj
 exact RW h.nd hj he hji e1
end
abbrev zW:Wy:=⟨0,0,0,0⟩
structure zn(T:Nat->Nat->Nat->Nat)(L N:Nat)(E:List Ro)(B h:Nat->Nat)(hd:Nat->Ro)(m:Nat):Prop where
 full:q_ T L N E
 at':∀j,j<m->E[h j]?=some (hd j)/\B (hd j).1=j
 fst:∀i e,E[i]?=some e->B e.1<m/\h (B e.1)<=i
 up:∀j k,j<k->k<m->h j<h k
 cg:∀a x x' y y',a<L->x∈E.map Prod.fst->x'∈E.map Prod.fst->y∈E.map Prod.fst->y'∈E.map Prod.fst->B x=B x'->B y=B y'->B (T a x y)=B (T a x' y')
section
variable{E:List Ro}{h:Nat->Nat}{hd:Nat->Ro}
def bI(E:List Ro)(B:Nat->Nat)(i:Nat):Nat:=B (E.getD i (0,zW)).1
def RX(E:List Ro)(B:Nat->Nat)(hd:Nat->Ro)(j:Nat):Wy:=⟨(hd j).2.s,bI E B (hd j).2.l,bI E B (hd j).2.r,(hd j).2.a⟩
def uS(E:List Ro)(B:Nat->Nat)(hd:Nat->Ro)(m:Nat):List Ro:=(List.range m).map fun j=>(j,RX E B hd j)
def Ov(T:Nat->Nat->Nat->Nat)(B:Nat->Nat)(hd:Nat->Ro)(a l r:Nat):Nat:=B (T a (hd l).1 (hd r).1)
theorem vS{e:Ro}(he:E[i]?=some e):bI E B i=B e.1:=by unfold bI;rw[aE,he];rfl
theorem zn.mem(q:zn T L N E B h hd m){e:Ro}(he:E[i]?=some e):e.1∈E.map Prod.fst:=ar.mpr ⟨e,al he,rfl⟩
theorem ij.lt'(t:ij T L N E){k:Nat}{e f:Ro}(he:E[i]?=some e)(hf:E[k]?=some f)(UK:i<k):e.2.lt f.2:=by
 have hk:i+1<E.length:=by have:=(aa.mp hf).1;omega
 have e1:E[i+1]?=some E[i+1]:=ae hk
 have a:=t.rise i e _ he e1
 have b:=t.up (k-(i+1)) (i+1) _ f e1 (by rw[show i+1+(k-(i+1))=k by omega];exact hf)
 exact Wy.ge a b
theorem ij.le'(t:ij T L N E){k:Nat}{e f:Ro}(he:E[i]?=some e)(hf:E[k]?=some f)(UK:i<=k):¬ f.2.lt e.2:=t.up (k-i) i e f he (by rw[show i+(k-i)=k by omega];exact hf)
theorem ij.sz(t:ij T L N E){k:Nat}{e f:Ro}(he:E[i]?=some e)(hf:E[k]?=some f)(UK:i<=k):e.2.s<=f.2.s:=t.mono (k-i) i e f he (by rw[show i+(k-i)=k by omega];exact hf)
theorem zn.lt_iff(q:zn T L N E B h hd m){k:Nat}(hj:j<m)(hk:k<m):h j<h k↔j<k:=by
 constructor
 ·intro z
  rcases gH j k with y|y|y
  ·exact y
  ·subst y;omega
  ·have:=q.up k j y hj;omega
 ·exact fun z=>q.up j k z hk
theorem zn.eq_iff(q:zn T L N E B h hd m){k:Nat}(hj:j<m)(hk:k<m):h j=h k↔j=k:=by
 have a:=q.lt_iff hj hk
 have b:=q.lt_iff hk hj
 omega
theorem zn.heads(q:zn T L N E B h hd m)(hj:j<m)(h0:0<h j):h (bI E B (hd j).2.l)=(hd j).2.l/\h (bI E B (hd j).2.r)=(hd j).2.r/\(hd j).2.l<h j/\(hd j).2.r<h j:=by
 obtain⟨a1,a2⟩:=q.at' j hj
 obtain⟨hl,hr,el,er,e1,e2,ea,eT,es⟩:=q.full.told.row (h j) (hd j) a1 h0
 obtain⟨l1,l2⟩:=q.fst _ el e1
 obtain⟨r1,r2⟩:=q.fst _ er e2
 rw[vS e1,vS e2]
 have use:∀(x y:Nat) (ex ey:Ro),E[x]?=some ex->E[y]?=some ey->B ex.1=B el.1->B ey.1=B er.1->(jk x y (hd j).2.a ex ey).lt (hd j).2->False:=fun x y ex ey g1 g2 b1 b2 hw=>by
  rcases q.full.cov x y (hd j).2.a (aa.mp g1).1 (aa.mp g2).1 ea ex ey g1 g2 with⟨i,f,f1,f2,f3⟩|⟨p,hp,_⟩
  ·have hB:B f.1=j:=by
    rw[f2,q.cg _ _ _ _ _ ea (q.mem g1) (q.mem e1) (q.mem g2) (q.mem e2) b1 b2,eT,a2]
   have:=(q.fst i f f1).2
   rw[hB]at this
   exact q.full.told.le' a1 f1 this (Wy.gt f3 hw)
  ·cases hp
 refine⟨?_,?_,hl,hr⟩
 ·rcases cw (h (B el.1)) (hd j).2.l with z|z
  ·obtain⟨p1,p2⟩:=q.at' _ l1
   have ps:=q.full.told.sz p1 e1 (df z)
   refine(use _ _ _ _ p1 e2 p2 rfl ?_).elim
   show(_:Nat)<_\/_
   rcases cw ((hd (B el.1)).2.s+er.2.s+1) (hd j).2.s with y|y
   ·exact .inl y
   ·exact .inr ⟨by show(hd (B el.1)).2.s+er.2.s+1=_;omega,.inl z⟩
  ·omega
 ·rcases cw (h (B er.1)) (hd j).2.r with z|z
  ·obtain⟨p1,p2⟩:=q.at' _ r1
   have ps:=q.full.told.sz p1 e2 (df z)
   refine(use _ _ _ _ e1 p1 rfl p2 ?_).elim
   show(_:Nat)<_\/_
   rcases cw (el.2.s+(hd (B er.1)).2.s+1) (hd j).2.s with y|y
   ·exact .inl y
   ·exact .inr ⟨by show el.2.s+(hd (B er.1)).2.s+1=_;omega,.inr ⟨rfl,.inl z⟩⟩
  ·omega
theorem zn.zero(q:zn T L N E B h hd m):0<m/\h 0=0/\hd 0=(0,zW):=by
 obtain⟨r,hr⟩:=q.full.told.zero
 have e0:E[0]?=some (0,zW):=by rw[hr];rfl
 obtain⟨b1,b2⟩:=q.fst 0 _ e0
 have hb:B 0=0:=by
  rcases gf (B 0)with z|z
  ·exact z
  ·have:=q.up 0 (B 0) z b1
   have:h (B 0)<=0:=b2
   omega
 have b1:B 0<m:=b1
 have b2:h (B 0)<=0:=b2
 rw[hb]at b1 b2
 have h00:h 0=0:=by omega
 refine⟨b1,h00,?_⟩
 have:=(q.at' 0 b1).1
 rw[h00,e0]at this
 exact(aU this).symm
theorem zn.lr(q:zn T L N E B h hd m)(hj:j<m):h (bI E B (hd j).2.l)=(hd j).2.l/\h (bI E B (hd j).2.r)=(hd j).2.r/\bI E B (hd j).2.l<m/\bI E B (hd j).2.r<m:=by
 obtain⟨z1,z2,z3⟩:=q.zero
 rcases gf (h j)with z|z
 ·have:j=0:=(q.eq_iff hj z1).mp (by omega)
  subst this
  rw[z3]
  have e0:E[0]?=some (0,zW):=by have:=(q.at' 0 z1).1;rw[z2,z3]at this;exact this
  have hb:bI E B 0=0:=by rw[vS e0];have:=(q.at' 0 z1).2;rw[z3]at this;exact this
  show h (bI E B 0)=0/\h (bI E B 0)=0/\bI E B 0<m/\bI E B 0<m
  rw[hb]
  exact⟨z2,z2,z1,z1⟩
 ·obtain⟨a,b,c,d⟩:=q.heads hj z
  obtain⟨_,_,el,er,e1,e2,_⟩:=q.full.told.row (h j) (hd j) (q.at' j hj).1 z
  refine⟨a,b,?_,?_⟩
  ·rw[vS e1];exact(q.fst _ el e1).1
  ·rw[vS e2];exact(q.fst _ er e2).1
theorem zn.wy_lt(q:zn T L N E B h hd m)(hj:j<m){s l r a:Nat}(hl:l<m)(hr:r<m):(Wy.mk s l r a).lt (RX E B hd j)↔(Wy.mk s (h l) (h r) a).lt (hd j).2:=by
 obtain⟨a1,a2,a3,a4⟩:=q.lr hj
 have x1:=q.lt_iff hl a3
 have x2:=q.eq_iff hl a3
 have x3:=q.lt_iff hr a4
 have x4:=q.eq_iff hr a4
 rw[a1]at x1 x2
 rw[a2]at x3 x4
 show(s<(hd j).2.s\/s=(hd j).2.s/\(l<bI E B (hd j).2.l\/l=bI E B (hd j).2.l/\(r<bI E B (hd j).2.r\/r=bI E B (hd j).2.r/\a<(hd j).2.a)))↔(s<(hd j).2.s\/s=(hd j).2.s/\(h l<(hd j).2.l\/h l=(hd j).2.l/\(h r<(hd j).2.r\/h r=(hd j).2.r/\a<(hd j).2.a)))
 rw[x1,x2,x3,x4]
theorem xn(hj:j<m):(uS E B hd m)[j]?=some (j,RX E B hd j):=by unfold uS;rw[ak,cW hj];rfl
theorem ui{e:Ro}(he:(uS E B hd m)[i]?=some e):i<m/\e=(i,RX E B hd i):=by
 have hi:i<m:=by have:=(aa.mp he).1;simpa[uS]using this
 rw[xn hi]at he
 exact⟨hi,(aU he).symm⟩
theorem zn.ok(q:zn T L N E B h hd m):q_ (Ov T B hd) L m (uS E B hd m):=by
 obtain⟨z1,z2,z3⟩:=q.zero
 refine⟨⟨?_,?_,?_,?_,?_⟩,?_⟩
 ·obtain⟨k,rfl⟩:∃k,m=k+1:=⟨m-1,by omega⟩
  have e0:E[0]?=some (0,zW):=by have:=(q.at' 0 z1).1;rw[z2,z3]at this;exact this
  have hb:bI E B 0=0:=by rw[vS e0];have:=(q.at' 0 z1).2;rw[z3]at this;exact this
  refine⟨((List.range k).map Nat.succ).map fun j=>(j,RX E B hd j),?_⟩
  unfold uS
  rw[gb,aF]
  congr 1
  show(0,Wy.mk (hd 0).2.s (bI E B (hd 0).2.l) (bI E B (hd 0).2.r) (hd 0).2.a)=_
  rw[z3]
  show(0,Wy.mk 0 (bI E B 0) (bI E B 0) 0)=_
  rw[hb]
 ·intro e he
  obtain⟨j,hj,rfl⟩:=ar.mp he
  exact aM.mp hj
 ·unfold uS
  rw[aS]
  show((List.range m).map fun j=>j).Nodup
  rw[List.map_id']
  exact me
 ·intro i e he hi
  obtain⟨him,rfl⟩:=ui he
  have hh:0<h i:=by have:=q.up 0 i hi him;omega
  obtain⟨a1,a2,a3,a4⟩:=q.heads him hh
  obtain⟨_,_,b3,b4⟩:=q.lr him
  obtain⟨_,_,el,er,e1,e2,ea,eT,es⟩:=q.full.told.row (h i) (hd i) (q.at' i him).1 hh
  have l1:bI E B (hd i).2.l<i:=(q.lt_iff b3 him).mp (by omega)
  have r1:bI E B (hd i).2.r<i:=(q.lt_iff b4 him).mp (by omega)
  have hel:hd (bI E B (hd i).2.l)=el:=by
   have:=(q.at' _ b3).1
   rw[a1,e1]at this;exact(aU this).symm
  have her:hd (bI E B (hd i).2.r)=er:=by
   have:=(q.at' _ b4).1
   rw[a2,e2]at this;exact(aU this).symm
  refine⟨l1,r1,_,_,xn b3,xn b4,ea,?_,?_⟩
  ·show B (T (hd i).2.a (hd (bI E B (hd i).2.l)).1 (hd (bI E B (hd i).2.r)).1)=i
   rw[hel,her,eT];exact(q.at' i him).2
  ·show(hd i).2.s=(hd (bI E B (hd i).2.l)).2.s+(hd (bI E B (hd i).2.r)).2.s+1
   rw[hel,her];exact es
 ·intro i e f he hf
  obtain⟨him,rfl⟩:=ui he
  obtain⟨hfm,rfl⟩:=ui hf
  have:=q.full.told.lt' (q.at' i him).1 (q.at' _ hfm).1 (q.up i (i+1) (by omega) hfm)
  obtain⟨a1,a2,a3,a4⟩:=q.lr him
  refine(q.wy_lt hfm a3 a4).mpr ?_
  rw[a1,a2]
  exact this
 ·intro l r a hl hr ha el er h1 h2
  obtain⟨hlm,rfl⟩:=ui h1
  obtain⟨hrm,rfl⟩:=ui h2
  left
  obtain⟨p1,p2⟩:=q.at' l hlm
  obtain⟨r1,r2⟩:=q.at' r hrm
  rcases q.full.cov (h l) (h r) a (aa.mp p1).1 (aa.mp r1).1 ha _ _ p1 r1 with⟨i,f,f1,f2,f3⟩|⟨p,hp,_⟩
  ·obtain⟨k1,k2⟩:=q.fst i f f1
   have hk:Ov T B hd a l r=B f.1:=by unfold Ov;rw[f2]
   refine⟨B f.1,_,xn k1,hk.symm,fun z=>?_⟩
   have z:=(q.wy_lt k1 hlm hrm).mp z
   have:=q.full.told.le' (q.at' _ k1).1 f1 k2
   exact f3 (Wy.ge z this)
  ·cases hp
end
section
variable(T:Nat->Nat->Nat->Nat)(L:Nat)(g:Nat->Bool)(rs:List Nat)
def lA:List (Nat×Nat×Nat):=(List.range L).flatMap fun a=>rs.map (fun t=>(a,0,t))++rs.map (fun t=>(a,1,t))
def led(p:Nat×Nat×Nat)(x:Nat):Nat:=if p.2.1=0 then T p.1 x p.2.2 else T p.1 p.2.2 x
def ap:Nat->Nat->Nat->Bool
 |0,a,b=>g a != g b
 |s+1,a,b=>ap s a b||(lA L rs).any fun p=>ap s (led T p a) (led T p b)
def gK:List Nat->List (Nat×Nat)
 |[]=>[]
 |x::r=>r.map (fun y=>(x,y))++gK r
def hG:Nat->Nat->Nat->Bool
 |0,_,_=>true
 |s+1,a,b=>!ap T L g rs s a b
def pJ(s:Nat):List (Nat×Nat):=(gK rs).filter fun p=>hG T L g rs s p.1 p.2&&ap T L g rs s p.1 p.2
def DZ(p:Nat×Nat×Nat):W:=.tup [.int (p.1:Nat),.int (p.2.1:Nat),.int (p.2.2:Nat)]
def zo:Nat->Nat->Nat->Option W
 |0,a,b=>if ap T L g rs 0 a b=true then some (.tup [])else none
 |s+1,a,b=>((lA L rs).find? fun p=>ap T L g rs s (led T p a) (led T p b)).map DZ
def G4(s:Nat)(p:Nat×Nat):W:=.tup [.int (p.1:Nat),.int (p.2:Nat),.int (s:Nat),(zo T L g rs s p.1 p.2).getD .non]
def G5(n:Nat):List W:=(List.range n).flatMap fun s=>(pJ T L g rs s).map (G4 T L g rs s)
structure RY(n:Nat):Prop where
 go:∀k,k<n->pJ T L g rs k≠[]
 stop:pJ T L g rs n=[]
end
section
variable{g:Nat->Bool}
theorem oB(n:Nat):G5 T L g rs (n+1)=G5 T L g rs n++(pJ T L g rs n).map (G4 T L g rs n):=by
 unfold G5;rw[jt,jC];simp
theorem uj:∀(s a:Nat),ap T L g rs s a a=false
 |0,a=>by simp[ap]
 |s+1,a=>by
  unfold ap
  rw[uj s a,oV,fJ]
  intro p _;rw[uj s];simp
theorem iq:∀(s a b:Nat),ap T L g rs s a b=ap T L g rs s b a
 |0,a,b=>by simp only[ap];cases g a<;>cases g b<;>rfl
 |s+1,a,b=>by
  unfold ap
  rw[iq s a b]
  congr 1
  refine dq _ (funext fun p=>?_)
  exact iq s _ _
theorem lX{s a b:Nat}(h:ap T L g rs (s+1) a b=false):ap T L g rs s a b=false/\∀p∈lA L rs,ap T L g rs s (led T p a) (led T p b)=false:=by
 unfold ap at h
 rw[Bool.or_eq_false_iff,fJ]at h
 exact⟨h.1,fun p hp=>by have:=h.2 p hp;simpa using this⟩
theorem vT{s a b:Nat}(h:ap T L g rs s a b=false)(h2:∀p∈lA L rs,ap T L g rs s (led T p a) (led T p b)=false):ap T L g rs (s+1) a b=false:=by
 unfold ap
 rw[Bool.or_eq_false_iff,fJ]
 exact⟨h,fun p hp=>by rw[h2 p hp];simp⟩
theorem Cw{a b:Nat}:∀(d k:Nat),ap T L g rs (k+d) a b=false->ap T L g rs k a b=false
 |0,_,h=>h
 |d+1,k,h=>Cw d k (lX h).1
theorem Ow{s a b k:Nat}(h:hG T L g rs s a b=true)(hk:k<s):ap T L g rs k a b=false:=by
 cases s with
 |zero=>omega
 |succ s=>
  have h':ap T L g rs s a b=false:=by simpa[hG]using h
  exact Cw (s-k) k (by rw[show k+(s-k)=s by omega];exact h')
theorem Ox{s a b:Nat}(h:∀k,k<s->ap T L g rs k a b=false):hG T L g rs s a b=true:=by
 cases s with
 |zero=>rfl
 |succ s=>simp only[hG];rw[h s (by omega)];rfl
theorem J6{s a b:Nat}(h:hG T L g rs (s+1) a b=true){p:Nat×Nat×Nat}(hp:p∈lA L rs):hG T L g rs s (led T p a) (led T p b)=true:=by
 have h':ap T L g rs s a b=false:=by simpa[hG]using h
 cases s with
 |zero=>rfl
 |succ s=>simp only[hG];rw[(lX h').2 p hp];rfl
theorem Oy{s a b:Nat}(h:hG T L g rs (s+1) a b=true):ap T L g rs (s+1) a b=((lA L rs).find? fun p=>ap T L g rs s (led T p a) (led T p b)).isSome:=by
 have h':ap T L g rs s a b=false:=by simpa[hG]using h
 conv=>lhs;unfold ap
 rw[h',oV,gr,fW,List.find?_isSome]
theorem G6{s a b:Nat}(h:hG T L g rs s a b=true):(zo T L g rs s a b).isSome=ap T L g rs s a b:=by
 cases s with
 |zero=>
  show(if ap T L g rs 0 a b=true then some (W.tup [])else none).isSome=_
  split<;>simp_all
 |succ s=>
  show(((lA L rs).find? fun p=>ap T L g rs s (led T p a) (led T p b)).map DZ).isSome=_
  rw[gE,Oy h]
def rd(T:Nat->Nat->Nat->Nat)(L:Nat)(g:Nat->Bool)(rs:List Nat)(s a b:Nat):Option Nat:=(List.range s).find? fun k=>ap T L g rs k a b
theorem qr{s a b:Nat}:rd T L g rs s a b=none↔hG T L g rs s a b=true:=by
 unfold rd
 rw[hZ]
 constructor
 ·intro h
  exact Ox fun k hk=>by have:=h k (aM.mpr hk);simpa using this
 ·intro h k hk
  rw[Ow h (aM.mp hk)];simp
theorem zp(s a b:Nat):rd T L g rs (s+1) a b=match rd T L g rs s a b with
  |some k=>some k
  |none=>if ap T L g rs s a b=true then some s else none:=by
 unfold rd
 rw[jt,List.find?_append]
 cases(List.range s).find? fun k=>ap T L g rs k a b with
 |some k=>rfl
 |none=>
  simp only[Option.none_or,bx,List.find?_nil]
  cases ap T L g rs s a b<;>rfl
theorem Oz{s a b k:Nat}(h:rd T L g rs s a b=some k):k<s:=aM.mp (kM h)
theorem OA{s a b:Nat}:rd T L g rs (s+1) a b=some s↔hG T L g rs s a b=true/\ap T L g rs s a b=true:=by
 rw[zp]
 constructor
 ·intro h
  cases e:rd T L g rs s a b with
  |some k=>rw[e]at h;cases h;exact absurd (Oz e) (bA _)
  |none=>
   rw[e]at h
   refine⟨qr.mp e,?_⟩
   by_cases z:ap T L g rs s a b=true
   ·exact z
   ·simp only at h;rw[az z]at h;cases h
 ·rintro⟨h1,h2⟩
  rw[qr.mpr h1];simp only;rw[am h2]
def Ei(T:Nat->Nat->Nat->Nat)(L:Nat)(g:Nat->Bool)(rs:List Nat)(s:Nat):Nat:=((gK rs).filter fun p=>hG T L g rs s p.1 p.2).length
theorem zq(s a b:Nat):hG T L g rs (s+1) a b=(hG T L g rs s a b&&!ap T L g rs s a b):=by
 cases s with
 |zero=>simp[hG]
 |succ s=>
  show(!ap T L g rs (s+1) a b)=((!ap T L g rs s a b)&&!ap T L g rs (s+1) a b)
  cases e:ap T L g rs (s+1) a b with
  |true=>simp
  |false=>rw[(lX e).1];rfl
theorem mI(p q:α->Bool):∀l:List α,(l.filter p).length=(l.filter fun x=>p x&&q x).length+(l.filter fun x=>p x&&!q x).length
 |[]=>rfl
 |x::l=>by
  have:=mI p q l
  simp only[bZ]
  cases p x<;>cases q x<;>simp<;>omega
theorem LP{s:Nat}(h:pJ T L g rs s≠[]):Ei T L g rs (s+1)<Ei T L g rs s:=by
 have e:=mI (fun p:Nat×Nat=>hG T L g rs s p.1 p.2) (fun p=>ap T L g rs s p.1 p.2) (gK rs)
 have h1:0<(pJ T L g rs s).length:=eD.mpr h
 unfold pJ at h1
 unfold Ei
 simp only[zq]
 omega
theorem xo:∀l:List Nat,(gK l).length<=l.length*l.length
 |[]=>au _
 |x::r=>by
  have:=xo r
  simp only[gK,aC,ai,br,n5,Nat.mul_add];omega
theorem xq:∀{l:List Nat},l.Pairwise (· < ·)->∀{a b:Nat},(a,b)∈gK l↔a∈l/\b∈l/\a<b
 |[],_,a,b=>by simp[gK]
 |x::r,h,a,b=>by
  obtain⟨h1,h2⟩:=b_.mp h
  simp only[gK,aL,ar,xq h2,aK]
  constructor
  ·rintro(⟨y,hy,e⟩|⟨q1,q2,q3⟩)
   ·cases e;exact⟨.inl rfl,.inr hy,h1 _ hy⟩
   ·exact⟨.inr q1,.inr q2,q3⟩
  ·rintro⟨q1,q2,q3⟩
   rcases q1 with rfl|q1
   ·rcases q2 with rfl|q2
    ·omega
    ·exact .inl ⟨b,q2,rfl⟩
   ·rcases q2 with rfl|q2
    ·have:=h1 _ q1;omega
    ·exact .inr ⟨q1,q2,q3⟩
theorem J7(L:Nat)(rs:List Nat):(lA L rs).length=L*(2*rs.length):=by
 unfold lA
 rw[List.length_flatMap]
 simp only[aC,ai]
 rw[List.map_const',b9,List.sum_replicate_nat]
 congr 1;omega
theorem G7(L:Nat)(rs:List Nat):lA (L+1) rs=lA L rs++(rs.map (fun t=>(L,0,t))++rs.map (fun t=>(L,1,t))):=by
 unfold lA;rw[jt,jC];simp
end
section
variable{g:Nat->Bool}
theorem uk:∀(s a b c:Nat),ap T L g rs s a b=false->ap T L g rs s b c=false->ap T L g rs s a c=false
 |0,a,b,c,h1,h2=>by
  simp only[ap,bne_eq_false_iff_eq]at h1 h2 ⊢
  rw[h1,h2]
 |s+1,a,b,c,h1,h2=>by
  obtain⟨x1,x2⟩:=lX h1
  obtain⟨y1,y2⟩:=lX h2
  exact vT (uk s a b c x1 y1) fun p hp=>uk s _ _ _ (x2 p hp) (y2 p hp)
theorem k6{p:Nat×Nat×Nat}:p∈lA L rs↔p.1<L/\(p.2.1=0\/p.2.1=1)/\p.2.2∈rs:=by
 obtain⟨a,d,t⟩:=p
 unfold lA
 simp only[iW,aM,aL,ar,Prod.mk.injEq]
 constructor
 ·rintro⟨x,hx,⟨y,hy,rfl,rfl,rfl⟩|⟨y,hy,rfl,rfl,rfl⟩⟩
  ·exact⟨hx,.inl rfl,hy⟩
  ·exact⟨hx,.inr rfl,hy⟩
 ·rintro⟨h1,rfl|rfl,h3⟩
  ·exact⟨a,h1,.inl ⟨t,h3,rfl,rfl,rfl⟩⟩
  ·exact⟨a,h1,.inr ⟨t,h3,rfl,rfl,rfl⟩⟩
theorem J8{a b:Nat}(h:hG T L g rs n a b=true):hG T L g rs n b a=true:=by
 cases n with
 |zero=>rfl
 |succ n=>
  show(!ap T L g rs n b a)=true
  rw[iq];exact h
theorem OB(zQ:rs.Pairwise (· < ·))(kK:∀p∈lA L rs,∀a∈rs,led T p a∈rs)(h:pJ T L g rs n=[]):∀d,∀a∈rs,∀b∈rs,hG T L g rs n a b=true->ap T L g rs (n+d) a b=false:=by
 have ny:∀a∈rs,∀b∈rs,a<b->hG T L g rs n a b=true->ap T L g rs n a b=false:=fun a ha b hb z ho=>by
  cases e:ap T L g rs n a b with
  |false=>rfl
  |true=>
   have:(a,b)∈pJ T L g rs n:=de.mpr ⟨(xq zQ).mpr ⟨ha,hb,z⟩,by show(hG T L g rs n a b&&ap T L g rs n a b)=true;rw[ho,e];rfl⟩
   rw[h]at this;cases this
 have hR:∀a∈rs,∀b∈rs,hG T L g rs n a b=true->ap T L g rs n a b=false:=fun a ha b hb ho=>by
  rcases gH a b with z|z|z
  ·exact ny a ha b hb z ho
  ·subst z;exact uj n a
  ·rw[iq];exact ny b hb a ha z (J8 ho)
 have hC:∀a∈rs,∀b∈rs,hG T L g rs n a b=true->∀p∈lA L rs,hG T L g rs n (led T p a) (led T p b)=true:=fun a ha b hb ho p hp=>by
  have:=hR a ha b hb ho
  cases n with
  |zero=>rfl
  |succ k=>
   show(!ap T L g rs k (led T p a) (led T p b))=true
   rw[(lX this).2 p hp];rfl
 intro d
 induction d with
 |zero=>exact hR
 |succ d ih=>
  intro a ha b hb ho
  exact vT (ih a ha b hb ho) fun p hp=>ih _ (kK p hp a ha) _ (kK p hp b hb) (hC a ha b hb ho p hp)
theorem D0(zQ:rs.Pairwise (· < ·))(kK:∀p∈lA L rs,∀a∈rs,led T p a∈rs)(h:pJ T L g rs n=[])(l7:∀a∈rs,∀b∈rs,a≠b->∃s,ap T L g rs s a b=true):Ei T L g rs n=0:=by
 unfold Ei
 rw[ig,List.filter_eq_nil_iff]
 rintro⟨a,b⟩ hp ho
 obtain⟨ha,hb,hab⟩:=(xq zQ).mp hp
 obtain⟨s,hs⟩:=l7 a ha b hb (by omega)
 have e:=OB zQ kK h
 rcases cw s n with z|z
 ·have:=e 0 a ha b hb ho
  have:=Cw (n-s) s (by rw[show s+(n-s)=n+0 by omega];exact this)
  rw[hs]at this;cases this
 ·have:=e (s-n) a ha b hb ho
  rw[show n+(s-n)=s by omega,hs]at this;cases this
end
structure AX(T:Nat->Nat->Nat->Nat)(L:Nat)(g:Nat->Bool)(rs:List Nat)(B hd:Nat->Nat)(m:Nat):Prop where
 hd:∀j,j<m->hd j∈rs/\B (hd j)=j
 lt:∀a∈rs,B a<m
 st:∀a∈rs,∀b∈rs,B a=B b->∀s,ap T L g rs s a b=false
 cl:∀p∈lA L rs,∀a∈rs,led T p a∈rs
 cg:∀a x x' y y',a<L->x∈rs->x'∈rs->y∈rs->y'∈rs->B x=B x'->B y=B y'->B (T a x y)=B (T a x' y')
section
variable{g:Nat->Bool}{hd:Nat->Nat}
abbrev qT(T:Nat->Nat->Nat->Nat)(B hd:Nat->Nat)(a l r:Nat):Nat:=B (T a (hd l) (hd r))
theorem AX.in'(q:AX T L g rs B hd m){a x y:Nat}(ha:a<L)(hx:x∈rs)(hy:y∈rs):T a x y∈rs:=q.cl (a,0,y) (k6.mpr ⟨ha,.inl rfl,hy⟩) x hx
theorem AX.led(q:AX T L g rs B hd m){p p':Nat×Nat×Nat}(h1:p.1=p'.1)(h2:p.2.1=p'.2.1)(ha:p.1<L)(ht:p.2.2∈rs)(LW:p'.2.2=B p.2.2)(hi:i<m)(s:Nat) :
  led (qT T B hd) p' i<m/\ap T L g rs s (hd (led (qT T B hd) p' i)) (led T p (hd i))=false:=by
 obtain⟨i1,i2⟩:=q.hd i hi
 have tm:=q.lt _ ht
 obtain⟨t1,t2⟩:=q.hd _ tm
 obtain⟨a,d,t⟩:=p
 obtain⟨a',d',t'⟩:=p'
 cases h1;cases h2
 have LW:t'=B t:=LW
 subst LW
 have key:∀x y x' y',x∈rs->y∈rs->x'∈rs->y'∈rs->B x=B x'->B y=B y'->B (T a x y)<m/\ap T L g rs s (hd (B (T a x y))) (T a x' y')=false:=fun x y x' y' hx hy qx xX e1 e2=>by
  have l1:=q.lt _ (q.in' (a:=a) ha hx hy)
  obtain⟨k1,k2⟩:=q.hd _ l1
  exact⟨l1,q.st _ k1 _ (q.in' ha qx xX) (by rw[k2];exact q.cg a _ _ _ _ ha hx qx hy xX e1 e2) s⟩
 unfold P.led
 by_cases Pk:d=0
 ·simp only[Pk,dF]
  exact key _ _ _ _ i1 t1 i1 ht rfl t2
 ·simp only[az Pk]
  exact key _ _ _ _ t1 i1 ht i1 t2 rfl
theorem AX.ap(q:AX T L g rs B hd m):∀(s i j:Nat),i<m->j<m->ap (qT T B hd) L (fun j=>g (hd j)) (List.range m) s i j=ap T L g rs s (hd i) (hd j)
 |0,i,j,_,_=>rfl
 |s+1,i,j,hi,hj=>by
  have ih:=fun i j hi hj=>q.ap s i j hi hj
  have main:P.ap (qT T B hd) L (fun j=>g (hd j)) (List.range m) (s+1) i j=false↔P.ap T L g rs (s+1) (hd i) (hd j)=false:=by
   constructor
   ·intro h
    obtain⟨h1,h2⟩:=lX h
    refine vT (by rw[<- ih i j hi hj];exact h1) fun p hp=>?_
    obtain⟨p1,p2,p3⟩:=k6.mp hp
    have hp':(p.1,p.2.1,B p.2.2)∈lA L (List.range m):=k6.mpr ⟨p1,p2,aM.mpr (q.lt _ p3)⟩
    obtain⟨a1,a2⟩:=q.led (p:=p) (p':=(p.1,p.2.1,B p.2.2)) rfl rfl p1 p3 rfl hi s
    obtain⟨b1,b2⟩:=q.led (p:=p) (p':=(p.1,p.2.1,B p.2.2)) rfl rfl p1 p3 rfl hj s
    have:=h2 _ hp'
    rw[ih _ _ a1 b1]at this
    exact uk s _ _ _ (by rw[iq];exact a2) (uk s _ _ _ this b2)
   ·intro h
    obtain⟨h1,h2⟩:=lX h
    refine vT (by rw[ih i j hi hj];exact h1) fun p hp=>?_
    obtain⟨p1,p2,p3⟩:=k6.mp hp
    obtain⟨t1,t2⟩:=q.hd _ (aM.mp p3)
    have hp':(p.1,p.2.1,hd p.2.2)∈lA L rs:=k6.mpr ⟨p1,p2,t1⟩
    obtain⟨a1,a2⟩:=q.led (p:=(p.1,p.2.1,hd p.2.2)) (p':=p) rfl rfl p1 t1 t2.symm hi s
    obtain⟨b1,b2⟩:=q.led (p:=(p.1,p.2.1,hd p.2.2)) (p':=p) rfl rfl p1 t1 t2.symm hj s
    rw[ih _ _ a1 b1]
    exact uk s _ _ _ a2 (uk s _ _ _ (h2 _ hp') (by rw[iq];exact b2))
  cases e1:P.ap (qT T B hd) L (fun j=>g (hd j)) (List.range m) (s+1) i j<;>cases e2:P.ap T L g rs (s+1) (hd i) (hd j)
  ·rfl
  ·rw[main.mp e1]at e2;cases e2
  ·rw[main.mpr e2]at e1;cases e1
  ·rfl
end
def jz:Nat->List KX->List (KX×W)
 |_,[]=>[]
 |n,k::ks=>(k,.int (n:Nat))::jz (n+1) ks
theorem lY:∀(ks:List KX) (n:Nat),(jz n ks).length=ks.length
 |[],_=>rfl
 |k::ks,n=>by simp only[jz,br,lY ks]
theorem vU(k:KX):∀(ks:List KX) (n:Nat),jz n (ks++[k])=jz n ks++[(k,.int ((n+ks.length:Nat):Int))]
 |[],n=>rfl
 |x::ks,n=>by
  simp only[mh,jz,vU k ks,br]
  rw[show n+1+ks.length=n+(ks.length+1) by omega]
theorem iR(p:KX×W)(l:List (KX×W))(k:KX):eQ (p::l) k=if p.1=k then some p.2 else eQ l k:=by
 unfold eQ
 rw[bx]
 by_cases h:p.1=k
 ·rw[am h];simp[h]
 ·rw[az h];simp[h]
theorem jR(k:KX):∀(ks:List KX) (n:Nat),eQ (jz n ks) k=if k∈ks then some (.int ((n+ks.idxOf k:Nat):Int))else none
 |[],n=>rfl
 |x::ks,n=>by
  simp only[jz]
  rw[iR]
  by_cases h:x=k
  ·subst h;simp
  ·rw[az h,jR k ks]
   have e:(x::ks).idxOf k=ks.idxOf k+1:=by rw[List.idxOf_cons,show(x==k)=false from aQ.mpr h];rfl
   rw[e]
   by_cases h2:k∈ks
   ·rw[am h2,am (aA _ h2)];rw[show n+1+ks.idxOf k=n+(ks.idxOf k+1) by omega]
   ·rw[az h2,az (by simp[h2];exact fun z=>h z.symm)]
theorem nX:∀l:List Int,eX (l.map W.int)=some l
 |[]=>rfl
 |z::l=>by simp only[aF,eX,nX l,ju]
theorem xu(l:List Int):j6 (.tup (l.map W.int))=some (.fl l):=by simp only[j6,nX]
theorem J9(i:Int)(l:List Int):j6 (.tup [.int i,.tup (l.map W.int)])=some (.pr i l):=by
 simp only[j6,eX,Option.map_none,nX,ju]
theorem sA(k:KX):j6 k.w=some k:=by
 cases k with
 |bo b=>rfl
 |fl l=>exact xu l
 |pr i l=>exact J9 i l
theorem OC{k:KX}(h:∀p∈kvs,p.1.tag=k.tag)(hl:kvs.length<jw):(r6 kvs k||FF kvs k)=true:=by
 unfold r6 FF tS
 have a:(kvs.all fun p=>p.1.tag==k.tag)=true:=by rw[cD];intro p hp;rw[h p hp];simp
 by_cases z:k.tag=0
 ·have b:(kvs.all fun p=>p.1.tag==0)=true:=by rw[cD];intro p hp;rw[h p hp,z];simp
  rw[b];simp[z];exact hl
 ·rw[a];simp[z];exact hl
theorem ul:∀{ks:List KX} {n:Nat} {p:KX×W},p∈jz n ks->p.1∈ks
 |k::ks,n,p,h=>by
  rcases aK.mp h with rfl|h
  ·exact aN
  ·exact aA _ (ul h)
section
variable{st:List aj}{fk fd:FE}{y z:W}{k:KX}
theorem Cy(h1:fo ρ st=.ok (.loc n) st)(hd:cV st (.loc n)=some (n,kvs))(h2:fk ρ st=.ok y st)(hk:j6 y=some k)(h3:fd ρ st=.ok z st)(ok:(r6 kvs k||FF kvs k)=true) :
  wO fo fk fd ρ st=match eQ kvs k with|some w=>.ok w st|none=>.ok z (st.set n (.dcx (iG kvs k z))):=by
 unfold wO
 rw[h1];simp only[R.bind_ok,hd]
 rw[h2];simp only[R.bind_ok]
 rw[h3];simp only[R.bind_ok,hd,hk,ok,dF]
 all_goals rfl
theorem LQ{w:W}(hd:cV st (.loc n)=some (n,kvs))(hk:j6 y=some k)(ok:(r6 kvs k||FF kvs k)=true)(hg:eQ kvs k=some w):FH (.loc n) y st=.ok w st:=by
 unfold FH
 simp only[hd,hk,ok,dF,hg,cp]
theorem G8(hd:cV st (.loc n)=some (n,kvs))(hl:kvs.length<=jw):vz [.loc n] st=.ok (.int kvs.length) st:=by
 unfold vz;simp only[hd];rw[am hl]
end
def um:List KX->aj
 |[]=>.dct []
 |k::ks=>.dcx (jz 0 (k::ks))
theorem Cz{st:List aj}{ks:List KX}(h:st[n]?=some (um ks)):cV st (.loc n)=some (n,jz 0 ks):=by
 unfold cV
 simp only[h]
 cases ks<;>rfl
theorem G9{ks:List KX}{a b:KX}(ha:a∈ks)(h:ks.idxOf a=ks.idxOf b):a=b:=by
 have hl:=jO ha
 have e1:ks[ks.idxOf a]?=some a:=by rw[ae hl];simp
 have hl2:ks.idxOf b<ks.length:=by omega
 have e2:ks[ks.idxOf b]?=some b:=by rw[ae hl2];simp
 rw[h,e2]at e1;cases e1;rfl
abbrev jJ(B:Nat->Nat)(l:List Nat):List (DK×W):=dI (fun a:Nat=>a) (fun a=>W.int (B a:Nat)) l
theorem i9{a b:List aj}(h:fx a)(h2:fx b):fx (a++b):=fun d hd=>by
 rcases aL.mp hd with z|z
 ·exact h d z
 ·exact h2 d z
theorem xU{a:aj}{b:List aj}(h:∀c,m8 c a=false)(h2:fx b):fx (a::b):=fun d hd=>by
 rcases aK.mp hd with z|z
 ·rw[z];exact h
 ·exact h2 d z
theorem zO:fx []:=fun d hd=>by cases hd
theorem RZ(ks:List KX):fx [um ks]:=xU (fun c=>by cases ks<;>rfl) zO
def kD(kf:Nat->KX)(l:List Nat):List KX:=l.foldl (fun ks a=>if kf a∈ks then ks else ks++[kf a]) []
theorem xy(kf:Nat->KX)(l:List Nat)(a:Nat):kD kf (l++[a])=if kf a∈kD kf l then kD kf l else kD kf l++[kf a]:=by unfold kD;rw[List.foldl_append];rfl
theorem rN{st:List aj}{r:Nat}{kvs:List (DK×W)}{kf:Nat->KX}{tg:Nat}(hr:st[r]?=some (.lst (rs.map fun a=>W.int (a:Nat))))(hq:st[q]?=some (.dct kvs))(hk:∀a∈rs,jG kvs (.i (a:Nat))=some (kf a).w)(ht:∀a∈rs,(kf a).tag=tg)(lL:rs.Nodup)(hl:rs.length<=1000) :
  ∃(B:Nat->Nat) (c:aj),(∀a∈rs,∀b∈rs,(B a=B b↔kf a=kf b))/\(B=fun a=>(kD kf rs).idxOf (kf a))/\fx [c]/\DN [.loc r,.loc q] st=.ok (.loc (st.length+1)) (st++[c,.dct (jJ B rs)]):=by
 suffices hh:gs (rK fun w bE=>∃j x,w=.loc (st.length+j)/\bE=st++x/\∃(B:Nat->Nat) (c:aj),(∀a∈rs,∀b∈rs,(B a=B b↔kf a=kf b))/\(B=fun a=>(kD kf rs).idxOf (kf a))/\fx [c]/\j=1/\x=[c,.dct (jJ B rs)]) (Rz ([W.loc r,.loc q].map some++List.replicate (5-2) none) st) by
  obtain⟨j,x,⟨B,c,h1,hB,hp,rfl,rfl⟩,e⟩:=iZ hh
  exact⟨B,c,h1,hB,hp,e⟩
 have hrl:=(aa.mp hr).1
 have hql:=(aa.mp hq).1
 apply aG
 ·exact bU rfl
 apply aG
 ·exact bU rfl
 refine c_ (k:=(rs.map fun a=>W.int (a:Nat),some (r,rs.map fun a=>W.int (a:Nat)))) (fun i ρ s=>∃(ks:List KX) (o4:Option W),ks=kD kf (rs.take i)/\ks.Nodup/\ks.length<=i/\(∀k∈ks,k.tag=tg)/\(∀a∈rs.take i,kf a∈ks) /\
   ρ=[lO r,lO q,lO st.length,lO (st.length+1),o4]/\s=st++[um ks,.dct (jJ (fun a=>ks.idxOf (kf a)) (rs.take i))]) (fM kv (aO (aJ (aJ hr)))) ?_ ?_ ?_ ?_
 ·refine⟨[],none,by simp[kD],.nil,cG _,fun _ h=>(by cases h),fun a h=>(by simp at h),?_,?_⟩
  ·simp
  ·simp[um,dI]
 ·rintro i ρ s ⟨ks,o4,_,_,_,_,_,rfl,rfl⟩
  exact aO (aJ hr)
 ·rintro i w ρ s hw ⟨ks,o4,h0,h1,h2,h3,h4,rfl,rfl⟩
  rw[ak]at hw
  obtain⟨a,ha,rfl⟩:=aX.mp hw
  have hi:i<rs.length:=(aa.mp ha).1
  have ham:a∈rs:=al ha
  have CK:rs.take (i+1)=rs.take i++[a]:=by rw[eA,ha];rfl
  have hant:a∉rs.take i:=fun z=>by
   have:(rs.take (i+1)).Nodup:=lL.sublist (gD _ _)
   rw[CK,dG]at this
   exact this.2.2 a z a (by simp) rfl
  refine⟨_,rfl,?_⟩
  generalize hs:st++[um ks,.dct (jJ (fun a=>ks.idxOf (kf a)) (rs.take i))]=s
  have c2:s[st.length]?=some (um ks):=by rw[<- hs,cZ];rfl
  have c3:s[st.length+1]?=some (.dct (jJ (fun a=>ks.idxOf (kf a)) (rs.take i))):=by rw[<- hs,dz];rfl
  have cq:s[q]?=some (.dct kvs):=by rw[<- hs];exact aJ hq
  have hd:=Cz c2
  have ix:∀{s':List aj},s'[q]?=some (.dct kvs)->lS (.loc q) (.int (a:Nat)) s'=.ok (kf a).w s':=fun z=>qp (f' z) (hk a ham)
  have okk:∀HR:List KX,(∀k∈HR,k.tag=tg)->HR.length<=i+1->(r6 (jz 0 HR) (kf a)||FF (jz 0 HR) (kf a))=true:=fun HR z1 z2=>OC (fun p hp=>by rw[z1 _ (ul hp),ht a ham]) (by rw[lY];show _<1000000;omega)
  have hb:∀f:Nat->W,(f a)=(fun x=>f x) a:=fun f=>rfl
  have put:∀(HR:List KX) (s':List aj),s'[st.length+1]?=some (.dct (jJ (fun a=>HR.idxOf (kf a)) (rs.take i)))->kU (.loc (st.length+1)) (.int (a:Nat)) (.int (HR.idxOf (kf a):Nat)) s'=some (s'.set (st.length+1) (.dct (jJ (fun a=>HR.idxOf (kf a)) (rs.take (i+1))))):=fun HR s' z=>by
   rw[xk z (by rw[nU,a7];show _<1000000;omega),CK]
   congr 3
   exact xc (f:=fun a:Nat=>a) (g:=fun a=>W.int (HR.idxOf (kf a):Nat)) (a:=a) (by simpa using hant)
  by_cases hm:kf a∈ks
  ·apply aG
   ·refine fz (w:=.int ((0+ks.idxOf (kf a):Nat):Int)) (st1:=s) ?_
    rw[Cy kv hd (bJ kv kv (ix cq)) (sA _) (bi kn (G8 hd (by rw[lY];show _<=1000000;omega))) (okk ks h3 (by omega)),jR,am hm]
   refine⟨_,_,kX (bJ kv (bJ kv kv (ix cq)) (LQ hd (sA _) (okk ks h3 (by omega)) (by rw[jR,am hm]))) kv kv (by rw[gc];exact put ks s c3),ks,_,by rw[CK,xy,<- h0,am hm],h1,by omega,h3,fun b hb=>?_,rfl,?_⟩
   ·rw[CK]at hb
    rcases aL.mp hb with z|z
    ·exact h4 b z
    ·simp at z;subst z;exact hm
   ·rw[<- hs,fm _ _ (by omega),show st.length+1-st.length=1 by omega];rfl
  ·have xI:s.set st.length (.dcx (jz 0 (ks++[kf a])))=st++[um (ks++[kf a]),.dct (jJ (fun a=>ks.idxOf (kf a)) (rs.take i))]:=by
    rw[<- hs,fm _ _ (by omega),qE]
    have:um (ks++[kf a])=.dcx (jz 0 (ks++[kf a])):=by cases ks<;>rfl
    rw[this];rfl
   apply aG
   ·refine fz (w:=.int (ks.length:Nat)) (st1:=s.set st.length (.dcx (jz 0 (ks++[kf a])))) ?_
    rw[Cy kv hd (bJ kv kv (ix cq)) (sA _) (bi kn (G8 hd (by rw[lY];show _<=1000000;omega))) (okk ks h3 (by omega)),jR,az hm]
    simp only[lY]
    congr 3
    unfold iG
    rw[jR,az hm,vU,gc];rfl
   rw[xI]
   have bks:jJ (fun b=>ks.idxOf (kf b)) (rs.take i)=jJ (fun b=>(ks++[kf a]).idxOf (kf b)) (rs.take i):=by
    unfold jJ dI
    refine bf fun b hb=>?_
    show(DK.i (b:Nat),W.int ((ks.idxOf (kf b):Nat):Int))=(DK.i (b:Nat),W.int (((ks++[kf a]).idxOf (kf b):Nat):Int))
    rw[lw,am (h4 b hb)]
   rw[bks]
   have h3':∀k∈ks++[kf a],k.tag=tg:=fun k hk=>by
    rcases aL.mp hk with z|z
    ·exact h3 k z
    ·simp at z;subst z;exact ht a ham
   have hm':kf a∈ks++[kf a]:=by simp
   generalize hs':st++[um (ks++[kf a]),.dct (jJ (fun b=>(ks++[kf a]).idxOf (kf b)) (rs.take i))]=s'
   have c2':s'[st.length]?=some (um (ks++[kf a])):=by rw[<- hs',cZ];rfl
   have c3':s'[st.length+1]?=some (.dct (jJ (fun b=>(ks++[kf a]).idxOf (kf b)) (rs.take i))):=by rw[<- hs',dz];rfl
   have cq':s'[q]?=some (.dct kvs):=by rw[<- hs'];exact aJ hq
   have hd':=Cz c2'
   refine⟨_,_,kX (bJ kv (bJ kv kv (ix cq')) (LQ hd' (sA _) (okk (ks++[kf a]) h3' (by simp;omega)) (by rw[jR,am hm']))) kv kv (by rw[gc];exact put (ks++[kf a]) s' c3'),ks++[kf a],_,by rw[CK,xy,<- h0,az hm],?_,by simp;omega,h3',fun b hb=>?_,rfl,?_⟩
   ·rw[dG]
    exact⟨h1,by simp,fun x hx y hy z=>by simp at hy;subst hy;subst z;exact hm hx⟩
   ·rw[CK]at hb
    rcases aL.mp hb with z|z
    ·exact cN _ (h4 b z)
    ·simp at z;subst z;exact hm'
   ·rw[<- hs',im];rfl
 ·rintro ρ s ⟨ks,o4,h0,h1,h2,h3,h4,rfl,rfl⟩
  rw[ai,eS]at h4 h0 ⊢
  refine⟨_,_,m_ kv,1,_,rfl,rfl,fun a=>ks.idxOf (kf a),um ks,fun a ha b hb=>⟨fun z=>G9 (h4 a ha) z,fun z=>by simp only[z]⟩,by rw[h0],RZ ks,rfl,rfl⟩
structure qI(rs:List Nat)(B:Nat->Nat)(m:Nat)(h:Nat->Nat):Prop where
 hd:∀j,j<m->∃x,rs[h j]?=some x/\B x=j
 fst:∀i a,rs[i]?=some a->B a<m/\h (B a)<=i
 up:∀j k,j<k->k<m->h j<h k
theorem xz{ks:List KX}{k:KX}(h:k∈ks):ks.idxOf k<ks.length:=jO h
theorem G_(kf:Nat->KX):∀(n:Nat) (l:List Nat),l.length=n->(∀a∈l,kf a∈kD kf l)/\∃h,qI l (fun a=>(kD kf l).idxOf (kf a)) (kD kf l).length h:=by
 intro n
 induction n with
 |zero=>
  intro l hl
  obtain rfl:=ig.mp hl
  exact⟨fun a h=>(by cases h),fun _=>0,fun j h=>absurd h (b8 _),fun i a h=>(by cases h),fun j k _ h=>absurd h (b8 _)⟩
 |succ n ih=>
  intro l0 hl0
  obtain e0|⟨l,x,e0⟩:=List.eq_nil_or_concat l0
  ·rw[e0]at hl0;cases hl0
  rw[List.concat_eq_append]at e0
  subst e0
  have hln:l.length=n:=by rw[aC,iK]at hl0;omega
  obtain⟨hm,h,c⟩:=ih l hln
  have ny:∀j,j<(kD kf l).length->h j<l.length:=fun j hj=>by
   obtain⟨y,hy,_⟩:=c.hd j hj
   exact(aa.mp hy).1
  have atx:∀{i a},(l++[x])[i]?=some a->(i<l.length/\l[i]?=some a)\/(i=l.length/\a=x):=fun{i a} e=>by
   rcases cw i l.length with z|z
   ·rw[av z]at e;exact .inl ⟨z,e⟩
   ·have:i=l.length:=by have:=(aa.mp e).1;rw[aC,iK]at this;omega
    subst this
    rw[bR]at e
    exact .inr ⟨rfl,(aU e).symm⟩
  rw[xy]
  by_cases hx:kf x∈kD kf l
  ·rw[am hx]
   refine⟨fun a ha=>?_,h,fun j hj=>?_,fun i a e=>?_,c.up⟩
   ·rcases aL.mp ha with z|z
    ·exact hm a z
    ·rw[bz.mp z];exact hx
   ·obtain⟨y,h1,h2⟩:=c.hd j hj
    exact⟨y,by rw[av (ny j hj)];exact h1,h2⟩
   ·rcases atx e with⟨_,e⟩|⟨rfl,rfl⟩
    ·exact c.fst i a e
    ·exact⟨xz hx,df (ny _ (xz hx))⟩
  ·rw[az hx]
   have old:∀{k:KX},k∈kD kf l->(kD kf l++[kf x]).idxOf k=(kD kf l).idxOf k:=fun{k} hk=>by rw[lw,am hk]
   have new:(kD kf l++[kf x]).idxOf (kf x)=(kD kf l).length:=by rw[lw,az hx];simp
   have len:(kD kf l++[kf x]).length=(kD kf l).length+1:=by simp
   refine⟨fun a ha=>?_,fun j=>if j<(kD kf l).length then h j else l.length,fun j hj=>?_,fun i a e=>?_,fun j k hjk hk=>?_⟩
   ·rcases aL.mp ha with z|z
    ·exact cN _ (hm a z)
    ·rw[bz.mp z];simp
   ·by_cases z:j<(kD kf l).length
    ·obtain⟨y,h1,h2⟩:=c.hd j z
     have hy:kf y∈kD kf l:=hm y (al h1)
     refine⟨y,?_,?_⟩
     ·show(l++[x])[if j<(kD kf l).length then h j else l.length]?=some y
      rw[am z,av (ny j z)];exact h1
     ·show(kD kf l++[kf x]).idxOf (kf y)=j
      rw[old hy];exact h2
    ·have:j=(kD kf l).length:=by rw[len]at hj;omega
     refine⟨x,?_,?_⟩
     ·show(l++[x])[if j<(kD kf l).length then h j else l.length]?=some x
      rw[az z,bR]
     ·show(kD kf l++[kf x]).idxOf (kf x)=j
      rw[new,this]
   ·show(kD kf l++[kf x]).idxOf (kf a)<_/\(if (kD kf l++[kf x]).idxOf (kf a)<(kD kf l).length then h ((kD kf l++[kf x]).idxOf (kf a))else l.length)<=i
    rcases atx e with⟨_,e⟩|⟨rfl,rfl⟩
    ·have hy:kf a∈kD kf l:=hm a (al e)
     rw[old hy,am (xz hy),len]
     have:=c.fst i a e
     exact⟨gF this.1,this.2⟩
    ·rw[new,az (bA _),len]
     exact⟨gZ _,au _⟩
   ·show(if j<(kD kf l).length then h j else l.length)<(if k<(kD kf l).length then h k else l.length)
    rw[len]at hk
    have hj:j<(kD kf l).length:=by omega
    rw[am hj]
    by_cases z:k<(kD kf l).length
    ·rw[am z];exact c.up j k hjk z
    ·rw[az z];exact ny j hj
theorem Ha{m':Nat}{h h':Nat->Nat}(c:qI rs B m h)(c':qI rs B' m' h')(e:∀a∈rs,∀b∈rs,(B a=B b↔B' a=B' b)):∀a∈rs,B a=B' a:=by
 have same:∀a∈rs,h (B a)=h' (B' a):=by
  have half:∀{B B':Nat->Nat} {m m':Nat} {h h':Nat->Nat},qI rs B m h->qI rs B' m' h'->(∀a∈rs,∀b∈rs,(B a=B b↔B' a=B' b))->∀a∈rs,h' (B' a)<=h (B a):=fun{B B' m m' h h'} c c' e a ha=>by
   obtain⟨i,hi⟩:=a9 ha
   obtain⟨x,h1,h2⟩:=c.hd (B a) (c.fst i a hi).1
   have:=(c'.fst _ x h1).2
   rw[(e x (al h1) a ha).mp h2]at this
   exact this
  exact fun a ha=>gq (half c' c (fun a ha b hb=>(e a ha b hb).symm) a ha) (half c c' e a ha)
 have inj:∀{B:Nat->Nat} {m:Nat} {h:Nat->Nat},qI rs B m h->∀{j k},j<m->k<m->h j=h k->j=k:=fun{B m h} c {j k} hj hk z=>by
  rcases gH j k with y|y|y
  ·have:=c.up j k y hk;omega
  ·exact y
  ·have:=c.up k j y hj;omega
 have key:∀j,j<m->j<m'/\h j=h' j:=by
  intro j
  induction j using Nat.strongRecOn with
  |_ j ih=>
   intro hj
   obtain⟨x,x1,x2⟩:=c.hd j hj
   have hx:=al x1
   have sx:=same x hx
   rw[x2]at sx
   have km:=(c'.fst _ x x1).1
   rcases gH (B' x) j with z|z|z
   ·obtain⟨_,i2⟩:=ih (B' x) z (by omega)
    have:=inj c (by omega) hj (i2.trans sx.symm)
    omega
   ·rw[z]at sx km
    exact⟨km,sx⟩
   ·obtain⟨y,y1,y2⟩:=c'.hd j (by omega)
    have hy:=al y1
    have sy:=same y hy
    rw[y2]at sy
    have u:=c'.up j (B' x) z km
    have bm:=(c.fst _ y y1).1
    have lt:B y<j:=by
     rcases cw (B y) j with w|w
     ·exact w
     ·rcases kE w with w|w
      ·rw[<- w]at sy;omega
      ·have:=c.up j (B y) w bm;omega
    obtain⟨q1,q2⟩:=ih (B y) lt bm
    have:=inj c' q1 (by omega:j<m') (q2.symm.trans sy)
    omega
 intro a ha
 obtain⟨i,hi⟩:=a9 ha
 obtain⟨k1,k2⟩:=key (B a) (c.fst i a hi).1
 exact inj c' k1 (c'.fst i a hi).1 (k2.symm.trans (same a ha))
abbrev eY(rs:List Nat):List W:=rs.map fun a=>W.int (a:Nat)
abbrev vD(V:Nat->W)(l:List Nat):List (DK×W):=dI (fun a:Nat=>a) V l
theorem lB{V:Nat->W}{a:Nat}(hn:l.Nodup)(h:a∈l):jG (vD V l) (.i (a:Nat))=some (V a):=GZ (f:=fun a:Nat=>a) (g:=V) (by simpa using hn) h
theorem re{a:Nat}(lL:rs.Nodup)(ha:rs[i]?=some a):i<rs.length/\a∈rs/\rs.take (i+1)=rs.take i++[a]/\a∉rs.take i:=by
 have CK:rs.take (i+1)=rs.take i++[a]:=by rw[eA,ha];rfl
 refine⟨(aa.mp ha).1,al ha,CK,fun z=>?_⟩
 have:(rs.take (i+1)).Nodup:=lL.sublist (gD _ _)
 rw[CK,dG]at this
 exact this.2.2 a z a (by simp) rfl
theorem Hb{V:Nat->W}{a:Nat}{s:List aj}(lL:rs.Nodup)(ha:rs[i]?=some a)(hl:rs.length<=1000)(hs:s[n]?=some (.dct (vD V (rs.take i)))):kU (.loc n) (.int (a:Nat)) (V a) s=some (s.set n (.dct (vD V (rs.take (i+1))))):=by
 obtain⟨_,_,CK,hant⟩:=re lL ha
 rw[xk hs (by rw[nU,a7];show _<1000000;omega),CK]
 congr 3
 exact xc (f:=fun a:Nat=>a) (g:=V) (a:=a) (by simpa using hant)
theorem zr{st:List aj}{r rv dv iv:Nat}{V:Nat->W}{e:FE}{P:RS->Prop}{rest:FS}(hr:st[r]?=some (.lst (eY rs)))(lL:rs.Nodup)(hl:rs.length<=1000)
  (U8:∀o,(ρ.set iv o)[rv]?=some (lO r)) (U':∀o,(ρ.set iv o)[dv]?=some (lO st.length)) (UL:iv<ρ.length)
  (he:∀a∈rs,∀c,e (ρ.set iv (iO (a:Nat))) (st++[c])=.ok (V a) (st++[c]))
  (l8:∀o,gs P (rest (ρ.set iv o) (st++[.dct (vD V rs)]))) :
  gs P (aV (dX (cY (ac rv)) (eE iv) (lx (ac dv) (ac iv) e kU)) rest ρ (st++[.dct []])):=by
 have h0:ρ=ρ.set iv ρ[iv]:=by simp
 refine c_ (k:=(eY rs,some (r,eY rs))) (fun i ρ' s=>∃o,ρ'=ρ.set iv o/\s=st++[.dct (vD V (rs.take i))]) (fM (gJ (by have:=U8 ρ[iv];rwa[<- h0]at this)) (aO (aJ hr))) ⟨_,h0,rfl⟩ ?_ ?_ ?_
 ·rintro i ρ' s ⟨o,rfl,rfl⟩
  exact aO (aJ hr)
 ·rintro i w ρ' s hw ⟨o,rfl,rfl⟩
  rw[ak]at hw
  obtain⟨a,ha,rfl⟩:=aX.mp hw
  obtain⟨hi,ham,_,_⟩:=re lL ha
  refine⟨ρ.set iv (iO (a:Nat)),?_,?_⟩
  ·show eE iv _ _=_
   unfold eE
   simp[UL]
  ·refine⟨_,_,kX (he a ham _) (gJ (U' _)) (gJ (by rw[bh UL])) (Hb lL ha hl bw),_,rfl,?_⟩
   rw[fC];rfl
 ·rintro ρ' s ⟨o,rfl,rfl⟩
  rw[ai,eS]
  exact l8 o
def gM(M:Mc)(a:Nat):Bool:=M.gd.getD a false
theorem J_{M:Mc}{st:List aj}{r:Nat}(hM:rM M N)(hr:st[r]?=some (.lst (eY rs)))(Pp:∀a∈rs,a<N)(lL:rs.Nodup)(hl:rs.length<=1000) :
  ∃(B:Nat->Nat) (x:List aj),(∀a∈rs,∀b∈rs,(B a=B b↔gM M a=gM M b))/\(∃m h,qI rs B m h)/\fx x/\x[2]?=some (.dct (jJ B rs))/\JQ [M.w,.loc r] st=.ok (.loc (st.length+2)) (st++x):=by
 suffices hh:gs (rK fun w bE=>∃j x,w=.loc (st.length+j)/\bE=st++x/\j=2/\∃(B:Nat->Nat),(∀a∈rs,∀b∈rs,(B a=B b↔gM M a=gM M b))/\(∃m h,qI rs B m h)/\fx x/\x[2]?=some (.dct (jJ B rs))) (RB ([M.w,.loc r].map some++List.replicate (4-2) none) st) by
  obtain⟨j,x,⟨rfl,B,h1,hc,hp,h2⟩,e⟩:=iZ hh
  exact⟨B,x,h1,hc,hp,h2,e⟩
 apply aG
 ·exact bU rfl
 refine zr (V:=fun a=>W.bl (gM M a)) hr lL hl (fun o=>rfl) (fun o=>rfl) (by simp) (fun a ha c=>?_) fun o=>?_
 ·refine bJ kx kv (i8 (d9 ?_))
  rw[ak,ae (by rw[hM.gd];exact Pp a ha)]
  simp[gM,aE,ae (show a<M.gd.length by rw[hM.gd];exact Pp a ha)]
 ·obtain⟨B,c,hB,hk,hp,e⟩:=rN (st:=st++[.dct (vD (fun a=>W.bl (gM M a)) rs)]) (r:=r) (q:=st.length) (rs:=rs) (kf:=fun a=>.bo (gM M a)) (tg:=0) (aJ hr) bw (fun a ha=>lB lL ha) (fun _ _=>rfl) lL hl
  refine⟨_,_,m_ (d8 (ay kv kn) e rfl),2,[.dct (vD (fun a=>W.bl (gM M a)) rs),c,.dct (jJ B rs)],by simp,by simp,rfl,B,fun a ha b hb=>?_,by rw[hk];exact⟨_,(G_ _ _ rs rfl).2⟩,xU (fun _=>rfl) (i9 hp (xU (fun _=>rfl) zO)),rfl⟩
  rw[hB a ha b hb]
  simp
theorem Hc{st:List aj}{r b v:Nat}{vw:Nat->List Int}(hr:st[r]?=some (.lst (eY rs)))(hb:st[b]?=some (.dct (jJ B rs)))(hv:st[v]?=some (.dct (vD (fun a=>.tup ((vw a).map W.int)) rs)))(lL:rs.Nodup)(hl:rs.length<=1000) :
  ∃(B':Nat->Nat) (x:List aj),(∀a∈rs,∀b∈rs,(B' a=B' b↔B a=B b/\vw a=vw b))/\(∃m h,qI rs B' m h)/\fx x/\x[2]?=some (.dct (jJ B' rs))/\DP [.loc r,.loc b,.loc v] st=.ok (.loc (st.length+2)) (st++x):=by
 suffices hh:gs (rK fun w bE=>∃j x,w=.loc (st.length+j)/\bE=st++x/\j=2/\∃(B':Nat->Nat),(∀a∈rs,∀b∈rs,(B' a=B' b↔B a=B b/\vw a=vw b))/\(∃m h,qI rs B' m h)/\fx x/\x[2]?=some (.dct (jJ B' rs))) (RF ([W.loc r,.loc b,.loc v].map some++List.replicate (5-3) none) st) by
  obtain⟨j,x,⟨rfl,B,h1,hc,hp,h2⟩,e⟩:=iZ hh
  exact⟨B,x,h1,hc,hp,h2,e⟩
 apply aG
 ·exact bU rfl
 refine zr (V:=fun a=>(KX.pr (B a:Nat) (vw a)).w) hr lL hl (fun o=>rfl) (fun o=>rfl) (by simp) (fun a ha c=>?_) fun o=>?_
 ·exact gi (ay (bJ kv kv (qp (f' (aJ hb)) (lB lL ha))) (ay (bJ kv kv (qp (f' (aJ hv)) (lB lL ha))) bt)) (by show 2<=1000000;decide)
 ·obtain⟨B',c,hB,hk,hp,e⟩:=rN (st:=st++[.dct (vD (fun a=>(KX.pr (B a:Nat) (vw a)).w) rs)]) (r:=r) (q:=st.length) (rs:=rs) (kf:=fun a=>.pr (B a:Nat) (vw a)) (tg:=2) (aJ hr) bw (fun a ha=>lB lL ha) (fun _ _=>rfl) lL hl
  refine⟨_,_,m_ (d8 (ay kv kn) e rfl),2,[.dct (vD (fun a=>(KX.pr (B a:Nat) (vw a)).w) rs),c,.dct (jJ B' rs)],by simp,by simp,rfl,B',fun a ha b hb=>?_,by rw[hk];exact⟨_,(G_ _ _ rs rfl).2⟩,xU (fun _=>rfl) (i9 hp (xU (fun _=>rfl) zO)),rfl⟩
  rw[hB a ha b hb,KX.pr.injEq]
  exact⟨fun z=>⟨by omega,z.2⟩,fun z=>⟨by rw[z.1],z.2⟩⟩
theorem Hd{st:List aj}{zs ys:List W}(h:st[n]?=some (.lst zs))(h2:st[m]?=some (.lst ys))(hl:zs.length+ys.length<=1000000):j0 (.loc n) [.loc m] st=.ok .non (st.set n (.lst (zs++ys))):=by
 unfold j0 qe
 simp only[h,h2,aO h2,cp]
 rw[am hl]
def i_:W->Nat
 |.int z=>z.toNat
 |_=>0
theorem ja(a:Nat):i_ (.int (a:Nat))=a:=by show((a:Int)).toNat=a;omega
theorem He(rs:List Nat)(f:Nat->W):(eY rs).map (fun w=>f (i_ w))=rs.map f:=by
 unfold eY;rw[aS];exact bf fun a _=>by show f (i_ (.int (a:Nat)))=f a;rw[ja]
theorem AY{w:W}(h:w∈eY rs):∃a∈rs,w=.int (a:Nat):=by
 obtain⟨a,ha,rfl⟩:=ar.mp h;exact⟨a,ha,rfl⟩
def zt(M:Mc)(rs:List Nat)(B:Nat->Nat)(a:Nat):List Int:=(lA M.tb.length rs).map fun p=>((B (led (bc M) p a):Nat):Int)
structure Rm(M:Mc)(N:Nat)(rs:List Nat):Prop where
 ok:rM M N
 lt:∀a∈rs,a<N
 nd:rs.Nodup
 len:rs.length<=100
 sz:M.tb.length*(2*rs.length)<=10000
 cl:∀k,k<M.tb.length->∀a∈rs,∀b∈rs,bc M k a b∈rs
theorem Hf{M:Mc}{st:List aj}{r b:Nat}(hM:Rm M N rs)(hr:st[r]?=some (.lst (eY rs)))(hb:st[b]?=some (.dct (jJ B rs))) :
  ∃x:List aj,fx x/\x[0]?=some (.dct (vD (fun a=>.tup ((zt M rs B a).map W.int)) rs))/\DO [M.w,.loc r,.loc b] st=.ok (.loc st.length) (st++x):=by
 suffices hh:gs (rK fun w bE=>∃j x,w=.loc (st.length+j)/\bE=st++x/\j=0/\fx x/\x[0]?=some (.dct (vD (fun a=>.tup ((zt M rs B a).map W.int)) rs))) (RD ([M.w,.loc r,.loc b].map some++List.replicate (7-3) none) st) by
  obtain⟨j,x,⟨rfl,hp,h1⟩,e⟩:=iZ hh
  exact⟨x,hp,h1,e⟩
 have dk:=hM.len
 apply aG
 ·exact bU rfl
 refine c_ (k:=(eY rs,some (r,eY rs))) (fun i ρ s=>∃x o4 o5 o6,fx x/\ρ=[some M.w,lO r,lO b,lO st.length,o4,o5,o6]/\s=st++.dct (vD (fun a=>.tup ((zt M rs B a).map W.int)) (rs.take i))::x) (fM kv (aO (aJ hr))) ⟨[],none,none,none,zO,rfl,rfl⟩ ?_ ?_ ?_
 ·rintro i ρ' s ⟨x,o4,o5,o6,_,rfl,rfl⟩
  exact aO (aJ hr)
 ·rintro i w ρ' s hw ⟨x,o4,o5,o6,npx,rfl,rfl⟩
  rw[ak]at hw
  obtain⟨a,ha,rfl⟩:=aX.mp hw
  obtain⟨hi,ham,_,_⟩:=re hM.nd ha
  refine⟨_,rfl,?_⟩
  have c3:(st++.dct (vD (fun a=>.tup ((zt M rs B a).map W.int)) (rs.take i))::x)[st.length]?=some (.dct (vD (fun a=>.tup ((zt M rs B a).map W.int)) (rs.take i))):=by rw[cZ];rfl
  have cr:(st++.dct (vD (fun a=>.tup ((zt M rs B a).map W.int)) (rs.take i))::x)[r]?=some (.lst (eY rs)):=aJ hr
  have cb:(st++.dct (vD (fun a=>.tup ((zt M rs B a).map W.int)) (rs.take i))::x)[b]?=some (.dct (jJ B rs)):=aJ hb
  have hss:∀(y:List aj) (c:aj),fx y->∃x',fx x'/\(st++.dct (vD (fun a=>.tup ((zt M rs B a).map W.int)) (rs.take i))::x++y).set st.length c=st++c::x':=fun y c npy=>⟨x++y,i9 npx npy,by rw[aw,fC];rfl⟩
  generalize st++.dct (vD (fun a=>.tup ((zt M rs B a).map W.int)) (rs.take i))::x=s0 at c3 cr cb hss
  apply aG
  ·exact bU (t6 bt (cG _))
  refine c_ (k:=(M.tb.map dY,none)) (fun k ρ s=>∃y o6,fx y/\ρ=[some M.w,lO r,lO b,lO st.length,iO (a:Nat),lO s0.length,o6]/\s=s0++.lst ((lA k rs).map fun p=>W.int (B (led (bc M) p a):Nat))::y) (kZ kx) ⟨[],_,zO,rfl,rfl⟩ (fun _ _ _ _=>trivial) ?_ ?_
  ·rintro k w ρ' s hw ⟨y,o6,npy,rfl,rfl⟩
   rw[ak]at hw
   obtain⟨t,ht,rfl⟩:=aX.mp hw
   have hk:k<M.tb.length:=(aa.mp ht).1
   refine⟨_,rfl,?_⟩
   have pK:(lA k rs).length<=10000:=by
    rw[J7]
    refine a_ (Nat.mul_le_mul_right _ (df hk)) hM.sz
   have c5:(s0++.lst ((lA k rs).map fun p=>W.int (B (led (bc M) p a):Nat))::y)[s0.length]?=some (.lst ((lA k rs).map fun p=>W.int (B (led (bc M) p a):Nat))):=by rw[cZ];rfl
   have cr':(s0++.lst ((lA k rs).map fun p=>W.int (B (led (bc M) p a):Nat))::y)[r]?=some (.lst (eY rs)):=aJ cr
   have cb':(s0++.lst ((lA k rs).map fun p=>W.int (B (led (bc M) p a):Nat))::y)[b]?=some (.dct (jJ B rs)):=aJ cb
   apply aG
   ·refine fz (nv kv (eG c5) (ay (gW (fun w=>W.int (B (bc M k a (i_ w)):Nat)) (fM kv (aO cr')) (by rw[ai];show _<=1000000;omega) (aO cr') fun w hw=>?_) bt) (Hd (aJ c5) bw (by rw[ai,ai,ai];omega)))
    obtain⟨z,hz,rfl⟩:=AY hw
    obtain⟨row,e1,e2,_⟩:=vP hM.ok ht (hM.lt a ham) (hM.lt z hz)
    rw[ja]
    exact⟨_,rfl,bJ kv (bJ (bJ kv kv (vQ e1)) kv (vR e2)) (qp (f' cb') (lB hM.nd (hM.cl k hk a ham z hz)))⟩
   rw[aw,fC,He rs fun t=>W.int (B (bc M k a t):Nat)]
   generalize hy:(y++[.lst (rs.map fun t=>W.int (B (bc M k a t):Nat))]:List aj)=y1
   generalize hL1:((lA k rs).map fun p=>W.int (B (led (bc M) p a):Nat))++(rs.map fun t=>W.int (B (bc M k a t):Nat))=L1
   have hl1:L1.length<=20000:=by rw[<- hL1];simp;omega
   show gs _ (fw _ _ (s0++.lst L1::(y++[_])))
   rw[hy]
   have c5':(s0++.lst L1::y1)[s0.length]?=some (.lst L1):=by rw[cZ];rfl
   have cr2:(s0++.lst L1::y1)[r]?=some (.lst (eY rs)):=aJ cr
   have cb2:(s0++.lst L1::y1)[b]?=some (.dct (jJ B rs)):=aJ cb
   refine⟨_,_,fz (nv kv (eG c5') (ay (gW (fun w=>W.int (B (bc M k (i_ w) a):Nat)) (fM kv (aO cr2)) (by rw[ai];show _<=1000000;omega) (aO cr2) fun w hw=>?_) bt) (Hd (aJ c5') bw (by rw[ai,ai];omega))),y1++[.lst (rs.map fun t=>W.int (B (bc M k t a):Nat))],_,i9 (by rw[<- hy];exact i9 npy (xU (fun _=>rfl) zO)) (xU (fun _=>rfl) zO),rfl,?_⟩
   ·obtain⟨z,hz,rfl⟩:=AY hw
    obtain⟨row,e1,e2,_⟩:=vP hM.ok ht (hM.lt z hz) (hM.lt a ham)
    rw[ja]
    exact⟨_,rfl,bJ kv (bJ (bJ kv kv (vQ e1)) kv (vR e2)) (qp (f' cb2) (lB hM.nd (hM.cl k hk z hz a ham)))⟩
   ·rw[aw,fC,He rs fun t=>W.int (B (bc M k t a):Nat)]
    show s0++.lst (L1++_)::(y1++_)=s0++.lst _::_
    congr 3
    rw[G7,<- hL1]
    simp[led,aS,cJ]
  ·rintro ρ' s ⟨y,o6,npy,rfl,rfl⟩
   rw[ai]
   have c5:(s0++.lst ((lA M.tb.length rs).map fun p=>W.int (B (led (bc M) p a):Nat))::y)[s0.length]?=some (.lst ((lA M.tb.length rs).map fun p=>W.int (B (led (bc M) p a):Nat))):=by rw[cZ];rfl
   have ev:W.tup ((lA M.tb.length rs).map fun p=>W.int (B (led (bc M) p a):Nat))=.tup ((zt M rs B a).map W.int):=by
    unfold zt;rw[aS];rfl
   obtain⟨x',npx',hx⟩:=hss (.lst ((lA M.tb.length rs).map fun p=>W.int (B (led (bc M) p a):Nat))::y) (.dct (vD (fun a=>.tup ((zt M rs B a).map W.int)) (rs.take (i+1)))) (xU (fun _=>rfl) npy)
   refine⟨_,_,kX (bi kn (fA (aO c5))) kv kv (by rw[ev];exact Hb (V:=fun a=>.tup ((zt M rs B a).map W.int)) hM.nd ha (by omega) (aJ c3)),x',_,_,_,npx',rfl,hx⟩
 ·rintro ρ' s ⟨x,o4,o5,o6,npx,rfl,rfl⟩
  rw[ai,eS]
  exact⟨_,_,m_ kv,0,_,rfl,rfl,rfl,xU (fun _=>rfl) npx,rfl⟩
theorem J'{p:Nat×Nat×Nat}(h:p∈lA L rs):p.1<L/\p.2.2∈rs:=by
 unfold lA at h
 rw[iW]at h
 obtain⟨a,ha,h⟩:=h
 have:=aM.mp ha
 rcases aL.mp h with h|h<;>(obtain⟨t,ht,rfl⟩:=ar.mp h;exact⟨this,ht⟩)
section
variable{M:Mc}{s:Nat}
theorem Rm.led(hM:Rm M N rs){p:Nat×Nat×Nat}(hp:p∈lA M.tb.length rs){a:Nat}(ha:a∈rs):led (bc M) p a∈rs:=by
 obtain⟨h1,h2⟩:=J' hp
 unfold P.led
 split
 ·exact hM.cl _ h1 _ ha _ h2
 ·exact hM.cl _ h1 _ h2 _ ha
abbrev pM(M:Mc)(rs:List Nat)(s a b:Nat):Bool:=ap (bc M) M.tb.length (gM M) rs s a b
abbrev qt(M:Mc)(rs:List Nat)(s a b:Nat):Bool:=hG (bc M) M.tb.length (gM M) rs s a b
abbrev fK(M:Mc)(rs:List Nat)(s:Nat):List (Nat×Nat):=pJ (bc M) M.tb.length (gM M) rs s
abbrev iS(M:Mc)(rs:List Nat)(s:Nat):List W:=G5 (bc M) M.tb.length (gM M) rs s
abbrev j9(M:Mc)(rs:List Nat)(s:Nat)(p:Nat×Nat):W:=G4 (bc M) M.tb.length (gM M) rs s p
abbrev Hg(M:Mc)(rs:List Nat)(n:Nat):Prop:=RY (bc M) M.tb.length (gM M) rs n
def Ej(M:Mc)(rs:List Nat)(s:Nat)(B:Nat->Nat):Prop:=∀a∈rs,∀b∈rs,(B a=B b↔pM M rs s a b=false)
theorem R0(h:∀a∈rs,∀b∈rs,(B a=B b↔gM M a=gM M b)):Ej M rs 0 B:=fun a ha b hb=>by
 rw[h a ha b hb];unfold pM ap;simp
theorem R4(hM:Rm M N rs)(h:Ej M rs s B)(h':∀a∈rs,∀b∈rs,(B' a=B' b↔B a=B b/\zt M rs B a=zt M rs B b)):Ej M rs (s+1) B':=fun a ha b hb=>by
 rw[h' a ha b hb,h a ha b hb]
 unfold zt
 rw[List.map_inj_left]
 constructor
 ·rintro⟨z1,z2⟩
  exact vT z1 fun p hp=>(h _ (hM.led hp ha) _ (hM.led hp hb)).mp (by have:=z2 p hp;omega)
 ·intro z
  obtain⟨z1,z2⟩:=lX z
  exact⟨z1,fun p hp=>by rw[(h _ (hM.led hp ha) _ (hM.led hp hb)).mpr (z2 p hp)]⟩
end
theorem OD{f:bQ->List aj->R Bool}{st a b:List aj}(h1:f ρ st=.ok false a)(h2:f ρ st=.ok true b):False:=by
 rw[h1]at h2;cases h2
theorem CA:∀{l:List Nat} {a b:Nat},a∈l->b∈l->a≠b->(a,b)∈gK l\/(b,a)∈gK l
 |[],_,_,h,_,_=>by cases h
 |x::r,a,b,ha,hb,hab=>by
  unfold gK
  rcases aK.mp ha with z1|z1
  ·rcases aK.mp hb with z2|z2
   ·exact absurd (z1.trans z2.symm) hab
   ·exact .inl (cN _ (ar.mpr ⟨b,z2,by rw[z1]⟩))
  ·rcases aK.mp hb with z2|z2
   ·exact .inr (cN _ (ar.mpr ⟨a,z1,by rw[z2]⟩))
   ·rcases CA z1 z2 hab with z|z
    ·exact .inl (aW _ z)
    ·exact .inr (aW _ z)
theorem Hh{B B':Nat->Nat}(lL:rs.Nodup):∀l:List Nat,(∀a∈l,a∈rs)->yV (jJ B rs) (jJ B' l)=some (l.all fun a=>B' a==B a)
 |[],_=>rfl
 |a::l,h=>by
  have hg:jG (jJ B rs) (.i (a:Nat))=some (.int (B a:Nat)):=lB (V:=fun a=>W.int (B a:Nat)) lL (h a (by simp))
  have ih:=Hh (B:=B) (B':=B') lL l fun b hb=>h b (by simp[hb])
  show yV (jJ B rs) ((DK.i (a:Nat),W.int (B' a:Nat))::jJ B' l)=_
  unfold yV
  simp only[hg,ih,ju,lH]
  congr 2
  rw[gr,cz,cz]
  omega
theorem R5{st:List aj}{p:Nat}(lL:rs.Nodup)(hp:st[p]?=some (.dct (jJ B' rs)))(hq:st[q]?=some (.dct (jJ B rs))):AC (.loc p) (.loc q) st=.ok (.bl (!(rs.all fun a=>B' a==B a))) st:=by
 unfold AC
 rw[f' hp,f' hq]
 simp only[nU,dF]
 rw[Hh lL rs fun _ h=>h]
section
variable{M:Mc}
structure nY(M:Mc)(rs:List Nat)(B:Nat->Nat):Prop where
 can:∃m h,qI rs B m h
 ok:∃s,Ej M rs s B/\Ej M rs (s+1) B
theorem OE{s:Nat}(c:∃m h,qI rs B m h)(c':∃m h,qI rs B' m h)(h:Ej M rs s B)(h':Ej M rs (s+1) B')(hn:fK M rs (s+1)=[]):∀a∈rs,B a=B' a:=by
 obtain⟨m,hh,c⟩:=c
 obtain⟨m',hh',c'⟩:=c'
 refine Ha c c' fun a ha b hb=>?_
 rw[h a ha b hb,h' a ha b hb]
 have pr:∀a b,(a,b)∈gK rs->pM M rs s a b=false->pM M rs (s+1) a b=false:=fun a b hp z=>by
  cases e:pM M rs (s+1) a b with
  |false=>rfl
  |true=>
   have:(a,b)∈fK M rs (s+1):=de.mpr ⟨hp,by show((!pM M rs s a b)&&pM M rs (s+1) a b)=true;rw[z,e];rfl⟩
   rw[hn]at this;cases this
 constructor
 ·intro z
  by_cases hab:a=b
  ·subst hab;exact uj _ _
  ·rcases CA ha hb hab with y|y
   ·exact pr a b y z
   ·have:=pr b a y (by show ap _ _ _ _ _ _ _=_;rw[iq];exact z)
    show ap _ _ _ _ _ _ _=_
    rw[iq];exact this
 ·exact fun z=>(lX z).1
theorem uo(hM:Rm M N rs){st:List aj}{r b:Nat}{s:Nat}(hr:st[r]?=some (.lst (eY rs)))(hb:st[b]?=some (.dct (jJ B rs)))(h:Ej M rs s B){fv fr:FE}(e1:fv ρ st=.ok M.w st)(e2:fr ρ st=.ok (.loc r) st)(e3:fb ρ st=.ok (.loc b) st) :
  ∃(B':Nat->Nat) (p:Nat) (y:List aj),Ej M rs (s+1) B'/\(∃m h,qI rs B' m h)/\fx y/\y[p]?=some (.dct (jJ B' rs)) /\
   d7 3 DP (af fr (af fb (af (d7 3 DO (af fv (af fr (af fb aB)))) aB))) ρ st=.ok (.loc (st.length+p)) (st++y):=by
 have hl:=hM.len
 obtain⟨x,npx,x0,ev⟩:=Hf hM hr hb
 have hv:(st++x)[st.length]?=some (.dct (vD (fun a=>.tup ((zt M rs B a).map W.int)) rs)):=by rw[cZ];exact x0
 obtain⟨B',y,hB,can,npy,y2,es⟩:=Hc (st:=st++x) (aJ hr) (aJ hb) hv hM.nd (by omega)
 refine⟨B',x.length+2,x++y,R4 hM h fun a ha b hb=>hB a ha b hb,can,i9 npx npy,?_,?_⟩
 ·rw[dz];exact y2
 ·rw[<- aw,show st.length+(x.length+2)=(st++x).length+2 by rw[aC];omega]
  exact d8 (ay e2 (ay e3 (ay (d8 (ay e1 (ay e2 (ay e3 bt))) ev rfl) bt))) es rfl
theorem Ka(hM:Rm M N rs){st:List aj}{r:Nat}(hr:st[r]?=some (.lst (eY rs))):∃(B:Nat->Nat) (j:Nat) (x:List aj),nY M rs B/\fx x/\x[j]?=some (.dct (jJ B rs))/\JR [M.w,.loc r] st=.ok (.loc (st.length+j)) (st++x):=by
 have hl:=hM.len
 suffices hh:gs (rK fun w bE=>∃j x,w=.loc (st.length+j)/\bE=st++x/\fx x/\∃B,nY M rs B/\x[j]?=some (.dct (jJ B rs))) (RM ([M.w,.loc r].map some++List.replicate (4-2) none) st) by
  obtain⟨j,x,⟨np,B,h1,h2⟩,e⟩:=iZ hh
  exact⟨B,j,x,h1,np,h2,e⟩
 obtain⟨B,x,hB,can,npx,x2,eg⟩:=J_ hM.ok hr hM.lt hM.nd (by omega)
 refine aG (bU (d8 (ay kv kn) eg rfl)) ?_
 have b0:Ej M rs 0 B:=R0 hB
 have hb:(st++x)[st.length+2]?=some (.dct (jJ B rs)):=by rw[dz];exact x2
 obtain⟨B',p,y,b1,can',npy,hp,es⟩:=uo hM (st:=st++x) (r:=r) (b:=st.length+2) (aJ hr) hb b0 (fv:=ac 0) (fr:=ac 1) (fb:=ac 2) (ρ:=[some M.w,lO r,lO (st.length+2),none]) kv kv kv
 refine aG (bU es) ?_
 have tq':∀{S:List aj} {B B':Nat->Nat} {u v:Nat},S[v]?=some (.dct (jJ B' rs))->S[u]?=some (.dct (jJ B rs))->eV (e2 AC (ac 3) (ac 2)) [some M.w,lO r,lO u,lO v] S=.ok (!(rs.all fun a=>B' a==B a)) S:=fun h h'=>bX (bJ kv kv (R5 hM.nd h h'))
 refine vI (fun n ρ s=>∃(B B':Nat->Nat) (k j p:Nat) (x:List aj),n=Ei (bc M) M.tb.length (gM M) rs (k+1)/\Ej M rs k B/\Ej M rs (k+1) B'/\(∃m h,qI rs B m h)/\(∃m h,qI rs B' m h)/\fx x/\x[j]?=some (.dct (jJ B rs))/\x[p]?=some (.dct (jJ B' rs)) /\
   ρ=[some M.w,lO r,lO (st.length+j),lO (st.length+p)]/\s=st++x) _ ⟨B,B',0,2,x.length+p,x++y,rfl,b0,b1,can,can',i9 npx npy,?_,?_,?_,?_⟩ ?_ ?_
 ·rw[av (aa.mp x2).1];exact x2
 ·rw[dz];exact hp
 ·rw[show st.length+(x.length+p)=(st++x).length+p by rw[aC];omega];rfl
 ·rw[aw]
 ·rintro n ρ s ⟨B,B',k,j,p,x,rfl,b0,b1,can,can',npx,xj,xp,rfl,rfl⟩
  have hj:(st++x)[st.length+j]?=some (.dct (jJ B rs)):=by rw[dz];exact xj
  have hp:(st++x)[st.length+p]?=some (.dct (jJ B' rs)):=by rw[dz];exact xp
  have tt:=tq' hp hj
  cases e:rs.all fun a=>B' a==B a with
  |true=>rw[e]at tt;exact .inl tt
  |false=>
   rw[e]at tt
   refine .inr ⟨tt,?_⟩
   have mJ:fK M rs (k+1)≠[]:=fun z=>by
    have:=OE can can' b0 b1 z
    rw[List.all_eq_false]at e
    obtain⟨a,ha,h2⟩:=e
    exact h2 (by rw[this a ha];exact dQ _)
   refine aG (bU kv) ?_
   obtain⟨B2,p2,y,b2,can2,npy,hp2,es⟩:=uo hM (st:=st++x) (r:=r) (b:=st.length+p) (aJ hr) hp b1 (fv:=ac 0) (fr:=ac 1) (fb:=ac 2) (ρ:=[some M.w,lO r,lO (st.length+p),lO (st.length+p)]) kv kv kv
   refine dM (bU es) ⟨_,_,rfl,_,LP mJ,B',B2,k+1,p,x.length+p2,x++y,rfl,b1,b2,can',can2,i9 npx npy,?_,?_,?_,?_⟩
   ·rw[av (aa.mp xp).1];exact xp
   ·rw[dz];exact hp2
   ·rw[show st.length+(x.length+p2)=(st++x).length+p2 by rw[aC];omega];rfl
   ·rw[aw]
 ·rintro n ρ s ⟨B,B',k,j,p,x,rfl,b0,b1,can,can',npx,xj,xp,rfl,rfl⟩ hno
  have hj:(st++x)[st.length+j]?=some (.dct (jJ B rs)):=by rw[dz];exact xj
  have hp:(st++x)[st.length+p]?=some (.dct (jJ B' rs)):=by rw[dz];exact xp
  have tt:=tq' hp hj
  cases e:rs.all fun a=>B' a==B a with
  |false=>rw[e]at tt;exact(OD hno tt).elim
  |true=>
   rw[cD]at e
   refine ei kv ⟨_,_,rfl,j,x,rfl,rfl,npx,B,⟨can,k,b0,fun a ha b hb=>?_⟩,xj⟩
   rw[<- b1 a ha b hb,cz.mp (e a ha),cz.mp (e b hb)]
end
section
variable{h:Nat->Nat}
def oD(rs:List Nat)(h:Nat->Nat)(j:Nat):Nat:=rs.getD (h j) 0
def rf(rs:List Nat)(h:Nat->Nat)(m:Nat):List Nat:=(List.range m).map (oD rs h)
theorem Hi{x:Nat}(e:rs[h j]?=some x):oD rs h j=x:=by unfold oD;rw[aE,e];rfl
theorem qI.at'(c:qI rs B m h){j:Nat}(hj:j<m):rs[h j]?=some (oD rs h j)/\oD rs h j∈rs/\B (oD rs h j)=j:=by
 obtain⟨x,h1,h2⟩:=c.hd j hj
 rw[Hi h1]
 exact⟨h1,al h1,h2⟩
theorem qI.m_le(c:qI rs B m h)(hl:rs.length<=1000):∀j,j<m->j<=h j:=by
 intro j
 induction j with
 |zero=>intro _;exact cG _
 |succ j ih=>
  intro hj
  have:=ih (by omega)
  have:=c.up j (j+1) (by omega) hj
  omega
theorem qI.len(c:qI rs B m h)(hl:rs.length<=1000):m<=rs.length:=by
 rcases gf m with z|z
 ·omega
 ·have:=c.m_le hl (m-1) (by omega)
  have:=(aa.mp (c.at' (j:=m-1) (by omega)).1).1
  omega
theorem Hj(c:qI rs B m h)(lL:rs.Nodup)(hl:rs.length<=1000){st:List aj}{r b:Nat}(hr:st[r]?=some (.lst (eY rs)))(hb:st[b]?=some (.dct (jJ B rs))):JS [.loc r,.loc b] st=.ok (.loc st.length) (st++[.lst (eY (rf rs h m))]):=by
 suffices hh:gs (rK fun w bE=>∃j x,w=.loc (st.length+j)/\bE=st++x/\j=0/\x=[.lst (eY (rf rs h m))]) (RO ([W.loc r,.loc b].map some++List.replicate (4-2) none) st) by
  obtain⟨j,x,⟨rfl,rfl⟩,e⟩:=iZ hh
  exact e
 have hml:=c.len hl
 refine aG (bU (t6 bt (cG _))) ?_
 refine c_ (k:=(eY rs,some (r,eY rs))) (fun i ρ s=>∃(n:Nat) (o3:Option W),n<=m/\(∀j,j<n->h j<i)/\(∀j,n<=j->j<m->i<=h j)/\ρ=[lO r,lO b,lO st.length,o3]/\s=st++[.lst (eY (rf rs h n))]) (fM kv (aO (aJ hr))) ⟨0,none,cG _,fun j z=>absurd z (b8 _),fun j _ _=>cG _,rfl,rfl⟩ ?_ ?_ ?_
 ·rintro i ρ s ⟨n,o3,_,_,_,rfl,rfl⟩
  exact aO (aJ hr)
 ·rintro i w ρ s hw ⟨n,o3,hn,h1,h2,rfl,rfl⟩
  rw[ak]at hw
  obtain⟨a,ha,rfl⟩:=aX.mp hw
  obtain⟨f1,f2⟩:=c.fst i a ha
  have ham:a∈rs:=al ha
  refine⟨_,rfl,?_⟩
  have hc:(st++[aj.lst (eY (rf rs h n))])[st.length]?=some (.lst (eY (rf rs h n))):=by rw[cZ];rfl
  have ln:cU [.loc st.length] (st++[aj.lst (eY (rf rs h n))])=.ok (.int (n:Nat)) (st++[aj.lst (eY (rf rs h n))]):=by
   rw[ip (aO hc)];simp[rf]
  have ix:lS (.loc b) (.int (a:Nat)) (st++[aj.lst (eY (rf rs h n))])=.ok (.int (B a:Nat)) (st++[aj.lst (eY (rf rs h n))]):=qp (f' (aJ hb)) (lB (V:=fun a=>W.int (B a:Nat)) lL ham)
  by_cases e:B a=n
  ·refine jy (bX (bJ (bJ kv kv ix) (bi kn ln) (io (by rw[cz];omega)))) ?_
   have hi:h n=i:=by
    have:=h2 n (au _) (by omega)
    rw[e]at f2;omega
   have hd:oD rs h n=a:=Hi (by rw[hi];exact ha)
   refine dM (fz (nv kv (eG hc) kn (rJ hc (by simp[rf];show _<1000000;omega)))) ⟨_,_,rfl,n+1,_,by omega,fun j hj=>?_,fun j hj hjm=>?_,rfl,?_⟩
   ·rcases cw j n with z|z
    ·have:=h1 j z;omega
    ·have:j=n:=by omega
     rw[this,hi];omega
   ·have:=c.up n j (by omega) hjm;omega
   ·rw[fC]
    simp[rf,jt,hd]
  ·refine iJ (bX (bJ (bJ kv kv ix) (bi kn ln) (io (by rw[aQ];omega)))) ⟨_,_,rfl,n,_,hn,fun j hj=>by have:=h1 j hj;omega,fun j hj hjm=>?_,rfl,rfl⟩
   have h3:=h2 j hj hjm
   rcases cw i (h j)with z|z
   ·exact z
   ·exfalso
    have Sv:h j=i:=by omega
    have ba:B a=j:=by
     obtain⟨g1,_,g3⟩:=c.at' hjm
     rw[Sv,ha]at g1
     cases g1;exact g3
    rcases kE hj with y|y
    ·omega
    ·have:=c.up n j y hjm
     have:=h2 n (au _) (by omega)
     omega
 ·rintro ρ s ⟨n,o3,hn,h1,h2,rfl,rfl⟩
  rw[ai]at h2
  have:n=m:=by
   rcases kE hn with z|z
   ·exact z
   ·have a1:=h2 n (au _) z
    have a2:=(aa.mp (c.at' z).1).1
    omega
  subst this
  exact ei kv ⟨_,_,rfl,0,_,rfl,rfl,rfl,rfl⟩
end
section
variable{M:Mc}{h:Nat->Nat}
theorem nY.cg(l:nY M rs B)(hM:Rm M N rs){a x x' y y':Nat}(ha:a<M.tb.length)(hx:x∈rs)(qx:x'∈rs)(hy:y∈rs)(xX:y'∈rs)(e1:B x=B x')(e2:B y=B y'):B (bc M a x y)=B (bc M a x' y'):=by
 obtain⟨s,b0,b1⟩:=l.ok
 have h1:=(lX ((b1 x hx x' qx).mp e1)).2 (a,0,y) (k6.mpr ⟨ha,.inl rfl,hy⟩)
 have h2:=(lX ((b1 y hy y' xX).mp e2)).2 (a,1,x') (k6.mpr ⟨ha,.inr rfl,qx⟩)
 have h1:pM M rs s (bc M a x y) (bc M a x' y)=false:=h1
 have h2:pM M rs s (bc M a x' y) (bc M a x' y')=false:=h2
 exact(b0 _ (hM.cl a ha x hx y hy) _ (hM.cl a ha x' qx y' xX)).mpr (uk s _ _ _ h1 h2)
theorem nY.st(l:nY M rs B)(hM:Rm M N rs):∀(k:Nat) (a b:Nat),a∈rs->b∈rs->B a=B b->pM M rs k a b=false:=by
 obtain⟨s,b0,b1⟩:=l.ok
 intro k
 induction k with
 |zero=>intro a b ha hb e;exact Cw s 0 (by rw[gc];exact(b0 a ha b hb).mp e)
 |succ k ih=>
  intro a b ha hb e
  refine vT (ih a b ha hb e) fun p hp=>?_
  refine ih _ _ (hM.led hp ha) (hM.led hp hb) ?_
  exact(b0 _ (hM.led hp ha) _ (hM.led hp hb)).mpr ((lX ((b1 a ha b hb).mp e)).2 p hp)
theorem nY.blks(l:nY M rs B)(hM:Rm M N rs)(c:qI rs B m h):AX (bc M) M.tb.length (gM M) rs B (oD rs h) m:=
 ⟨fun j hj=>(c.at' hj).2,fun a ha=>by obtain⟨i,hi⟩:=a9 ha;exact(c.fst i a hi).1,fun a ha b hb e s=>l.st hM s a b ha hb e,fun p hp a ha=>hM.led hp ha,fun a x x' y y' ha hx qx hy xX e1 e2=>l.cg hM ha hx qx hy xX e1 e2⟩
theorem nY.quo{E:List Ro}(f:q_ (bc M) M.tb.length N E)(l:nY M (E.map Prod.fst) B)(hM:Rm M N (E.map Prod.fst))(c:qI (E.map Prod.fst) B m h):zn (bc M) M.tb.length N E B h (fun j=>E.getD (h j) (0,zW)) m:=by
 have at':∀j,j<m->E[h j]?=some (E.getD (h j) (0,zW))/\(E.getD (h j) (0,zW)).1=oD (E.map Prod.fst) h j:=fun j hj=>by
  obtain⟨h1,_,_⟩:=c.at' hj
  rw[ak]at h1
  obtain⟨e,he,h2⟩:=aX.mp h1
  rw[aE,he]
  exact⟨rfl,h2⟩
 refine⟨f,fun j hj=>⟨(at' j hj).1,?_⟩,fun i e he=>?_,c.up,fun a x x' y y' ha hx qx hy xX e1 e2=>l.cg hM ha hx qx hy xX e1 e2⟩
 ·show B (E.getD (h j) (0,zW)).1=j
  rw[(at' j hj).2];exact(c.at' hj).2.2
 ·exact c.fst i e.1 (by rw[ak,he];rfl)
def xV(M:Mc)(rs:List Nat)(B h:Nat->Nat)(m:Nat):Mc:=⟨M.nm,(List.range m).map fun j=>gM M (oD rs h j),(List.range M.tb.length).map fun a=>(List.range m).map fun l=>(List.range m).map fun r=>B (bc M a (oD rs h l) (oD rs h r))⟩
theorem OF(hM:Rm M N rs)(c:qI rs B m h):rM (xV M rs B h m) m:=by
 refine⟨by simp[xV],by simp[xV,hM.ok.tb],fun t ht=>?_⟩
 simp only[xV,ar]at ht
 obtain⟨a,ha,rfl⟩:=ht
 have ha:=aM.mp ha
 refine⟨by simp,fun r hr=>?_⟩
 obtain⟨l,hl,rfl⟩:=ar.mp hr
 refine⟨by simp,fun v hv=>?_⟩
 obtain⟨q,hq,rfl⟩:=ar.mp hv
 obtain⟨i,hi⟩:=a9 (hM.cl a ha _ (c.at' (aM.mp hl)).2.1 _ (c.at' (aM.mp hq)).2.1)
 exact(c.fst i _ hi).1
theorem xA{a l r:Nat}(ha:a<M.tb.length)(hl:l<m)(hr:r<m):bc (xV M rs B h m) a l r=B (bc M a (oD rs h l) (oD rs h r)):=by
 have gm:∀{α:Type} (f:Nat->α) (n i:Nat) (d:α),i<n->((List.range n).map f).getD i d=f i:=fun f n i d hi=>by
  rw[aE,ak,cW hi];rfl
 show((((List.range M.tb.length).map fun a=>(List.range m).map fun l=>(List.range m).map fun r=>B (bc M a (oD rs h l) (oD rs h r))).getD a []).getD l []).getD r 0=_
 rw[gm _ _ _ _ ha,gm _ _ _ _ hl,gm _ _ _ _ hr]
end
section
variable{M:Mc}{h:Nat->Nat}
theorem Kb(hM:Rm M N rs)(c:qI rs B m h){st:List aj}{p:Nat}(hp:st[p]?=some (.lst (eY (rf rs h m))))(hq:st[q]?=some (.dct (jJ B rs))){a l r:Nat}(ha:a<M.tb.length)(hl:l<m)(hr:r<m) :
  dh [.int (a:Int),.int (l:Int),.int (r:Int),M.w,.loc p,.loc q] st=.ok (.int (B (bc M a (oD rs h l) (oD rs h r)):Nat)) st:=by
 have ht:=ae ha
 obtain⟨_,l1,_⟩:=c.at' hl
 obtain⟨_,r1,_⟩:=c.at' hr
 obtain⟨row,e1,e2',_⟩:=vP hM.ok ht (hM.lt _ l1) (hM.lt _ r1)
 have ixh:∀{j:Nat},j<m->bu (.loc p) (.int (j:Int)) st=.ok (.int (oD rs h j:Nat)) st:=fun{j} hj=>kY (aO hp) (d9 (by unfold rf eY;rw[ak,ak,cW hj];rfl))
 have g2:bu M.w (.int 2) st=.ok (.tup (M.tb.map dY)) st:=rfl
 have it:bu (.tup (M.tb.map dY)) (.int (a:Int)) st=.ok (dY M.tb[a]) st:=i8 (d9 (by rw[ak,ht];rfl))
 have ixd:lS (.loc q) (.int (bc M a (oD rs h l) (oD rs h r):Nat)) st=.ok (.int (B (bc M a (oD rs h l) (oD rs h r)):Nat)) st:=qp (f' hq) (lB (V:=fun a=>W.int (B a:Nat)) hM.nd (hM.cl a ha _ l1 _ r1))
 refine iQ (N:=6) (ws:=[.int (a:Int),.int (l:Int),.int (r:Int),M.w,.loc p,.loc q]) (body:=j8) ?_
 exact ei (bJ kv (bJ (bJ (bJ (bJ kv cP g2) kv it) (bJ kv kv (ixh hl)) (vQ e1)) (bJ kv kv (ixh hr)) (vR e2')) ixd) ⟨_,_,rfl,rfl,rfl⟩
end
section
variable{M:Mc}{st:List aj}
theorem Kc(hl:rs.length<=100)(s:Nat):(fK M rs s).length<=10000:=a_ (fj _ _) (a_ (xo rs) (a_ (iE hl hl) (by decide)))
theorem xB:∀n:Nat,(iS M rs n).length+Ei (bc M) M.tb.length (gM M) rs n=(gK rs).length
 |0=>by
  unfold Ei iS G5
  rw[List.range_zero,List.flatMap_nil]
  simp[hG]
 |n+1=>by
  have ih:=xB n
  unfold iS at ih ⊢
  rw[oB,aC,ai]
  have e:=mI (fun p:Nat×Nat=>qt M rs n p.1 p.2) (fun p=>pM M rs n p.1 p.2) (gK rs)
  unfold Ei at ih ⊢
  simp only[zq]
  unfold pJ
  have e':((gK rs).filter fun p=>hG (bc M) M.tb.length (gM M) rs n p.1 p.2).length=((gK rs).filter fun x=>hG (bc M) M.tb.length (gM M) rs n x.1 x.2&&ap (bc M) M.tb.length (gM M) rs n x.1 x.2).length+((gK rs).filter fun x=>hG (bc M) M.tb.length (gM M) rs n x.1 x.2&&!ap (bc M) M.tb.length (gM M) rs n x.1 x.2).length:=e
  omega
theorem LR(hl:rs.length<=100)(n:Nat):(iS M rs n).length<=10000:=by
 have:=xB (M:=M) (rs:=rs) n
 have h2:(gK rs).length<=10000:=a_ (xo rs) (a_ (iE hl hl) (by decide))
 omega
end
structure Ub(M:Mc)(N:Nat)(rs:List Nat):Prop where
 up:rs.Pairwise (· < ·)
 zero:0∈rs
 lt:∀a∈rs,a<N
 cl:∀k,k<M.tb.length->∀a∈rs,∀b∈rs,bc M k a b∈rs
 least:∀C:Nat->Prop,C 0->(∀k,k<M.tb.length->∀a b,C a->C b->C (bc M k a b))->∀a∈rs,C a
theorem LS(h:rs.Pairwise (· < ·)):rs.Nodup:=h.imp fun z=>bD z
abbrev zI(l:List Nat):List Int:=l.map fun a=>((a:Nat):Int)
theorem OG{l':List Nat}(h:zI l=zI l'):l=l':=by
 have:=dq (List.map Int.toNat) h
 simpa[zI,aS,cJ]using this
theorem E_{l':List Nat}(h:l.Pairwise (· < ·))(h':l'.Pairwise (· < ·))(hm:∀a,a∈l↔a∈l'):l=l':=by
 have hp:l.Perm l':=(List.perm_ext_iff_of_nodup (LS h) (LS h')).mpr hm
 have p1:(zI l).Pairwise (· <= ·):=iD.mpr (h.imp fun z=>by omega)
 have p2:(zI l').Pairwise (· <= ·):=iD.mpr (h'.imp fun z=>by omega)
 exact OG ((PySem.W.eq_sortI (hp.map _) p1).trans (PySem.W.eq_sortI (ku _) p2).symm)
theorem R6(hn:l.Nodup):∃rs,sortI (zI l)=zI rs/\rs.Perm l/\rs.Pairwise (· < ·):=by
 have hp:=PySem.W.sortI_perm (zI l)
 have e:zI ((sortI (zI l)).map Int.toNat)=sortI (zI l):=by
  unfold zI
  rw[aS]
  conv=>rhs;rw[<- lj (sortI _)]
  refine bf fun z hz=>?_
  obtain⟨a,_,rfl⟩:=ar.mp (hp.mem_iff.mp hz)
  show((((a:Int)).toNat:Nat):Int)=(a:Int)
  omega
 have hq:((sortI (zI l)).map Int.toNat).Perm l:=by
  have:=hp.map Int.toNat
  rw[show(zI l).map Int.toNat=l by simp[zI,aS,cJ]]at this
  exact this
 refine⟨(sortI (zI l)).map Int.toNat,e.symm,hq,?_⟩
 have h1:=PySem.W.sortI_rises (zI l)
 rw[<- e]at h1
 have h2:=iD.mp h1
 have h3:((sortI (zI l)).map Int.toNat).Nodup:=hq.nodup_iff.mpr hn
 exact(List.pairwise_and_iff.mpr ⟨h2,h3⟩).imp fun{a b} z=>by have:=z.1;have:=z.2;omega
theorem Kd{st:List aj}{n:Nat}{l rs:List Nat}(h:st[n]?=some (.lst (eY l)))(hl:l.length<64)(hs:sortI (zI l)=zI rs):pq [.loc n] st=.ok (.loc st.length) (st++[.lst (eY rs)]):=by
 unfold pq
 simp only[aO h,cp]
 rw[show eY l=(zI l).map W.int by unfold eY zI;rw[aS];rfl,nX,cp,am (by simpa[zI]using hl),hs]
 unfold zI eY
 rw[aS];rfl
theorem R7{M:Mc}{E:List Ro}(t:ij (bc M) M.tb.length N E)(cov:∀l r a,l<E.length->r<E.length->a<M.tb.length->Ic (bc M) E [] l r a)(hp:rs.Perm (E.map Prod.fst))(hu:rs.Pairwise (· < ·)):Ub M N rs:=by
 have hm:∀a,a∈rs↔∃e∈E,e.1=a:=fun a=>by rw[hp.mem_iff,ar]
 refine⟨hu,?_,fun a ha=>?_,fun k hk a ha b hb=>?_,fun C c0 cc a ha=>?_⟩
 ·obtain⟨r,e⟩:=t.zero
  exact(hm 0).mpr ⟨_,by rw[e];exact aN,rfl⟩
 ·obtain⟨e,he,rfl⟩:=(hm a).mp ha
  exact t.lt e he
 ·obtain⟨e,he,rfl⟩:=(hm a).mp ha
  obtain⟨f,hf,rfl⟩:=(hm b).mp hb
  obtain⟨i,hi⟩:=a9 he
  obtain⟨j,hj⟩:=a9 hf
  rcases cov i j k (aa.mp hi).1 (aa.mp hj).1 hk e f hi hj with⟨m,g,hg,e1,_⟩|⟨p,hp,_⟩
  ·exact(hm _).mpr ⟨g,al hg,e1⟩
  ·cases hp
 ·have key:∀(n i:Nat) (e:Ro),i<n->E[i]?=some e->C e.1:=by
   intro n
   induction n with
   |zero=>intro i e h;omega
   |succ n ih=>
    intro i e hi he
    rcases gf i with z|z
    ·subst z
     obtain⟨r,e0⟩:=t.zero
     rw[e0]at he;cases he;exact c0
    ·obtain⟨h1,h2,el,er,h3,h4,h5,h6,_⟩:=t.row i e he z
     rw[<- h6]
     exact cc _ h5 _ _ (ih _ el (by omega) h3) (ih _ er (by omega) h4)
  obtain⟨e,he,rfl⟩:=(hm a).mp ha
  obtain⟨i,hi⟩:=a9 he
  exact key (i+1) i e (by omega) hi
theorem xC:∀{ws:List W},(∀w∈ws,w.und n=true)->undWs n ws=true
 |[],_=>rfl
 |w::ws,h=>by simp only[undWs,h w aN,oX];exact xC fun v hv=>h v (aA _ hv)
theorem Hk(M:Mc)(rs:List Nat)(s n:Nat)(p:Nat×Nat):(j9 M rs s p).und n=true:=by
 unfold j9 G4
 cases hw:zo (bc M) M.tb.length (gM M) rs s p.1 p.2 with
 |none=>rfl
 |some w=>
  cases s with
  |zero=>
   have:(if ap (bc M) M.tb.length (gM M) rs 0 p.1 p.2=true then some (W.tup [])else none)=some w:=hw
   split at this
   ·cases this;rfl
   ·cases this
  |succ s=>
   obtain⟨q,_,rfl⟩:=aX.mp (show(((lA M.tb.length rs).find? fun q=>ap (bc M) M.tb.length (gM M) rs s (led (bc M) q p.1) (led (bc M) q p.2)).map DZ)=some w from hw)
   rfl
theorem Ke(M:Mc)(rs:List Nat)(k n:Nat):undWs n [.tup (iS M rs k)]=true:=by
 have:undWs n (iS M rs k)=true:=xC fun w hw=>by
  obtain⟨s,_,hw⟩:=iW.mp hw
  obtain⟨p,_,rfl⟩:=ar.mp hw
  exact Hk M rs s n p
 show((W.tup (iS M rs k)).und n&&true)=true
 rw[ca];unfold W.und;exact this
def OH(E:W->W->W->W)(R:Nat)(x l:W):W:=.tup ((bq 0 R).map (E x l))
def Pj(E:W->W->W->W)(R:Nat)(x:W):W:=.tup ((bq 0 R).map (OH E R x))
def Hl(E:W->W->W->W)(L R:Nat):W:=.tup ((bq 0 L).map (Pj E R))
theorem vV{l:List α}{x:α}(h:l[i]?=some x):l.take (i+1)=l.take i++[x]:=by rw[List.take_succ,h];rfl
theorem sB{f:W->W}:∀{l:List W},(∀x∈l,(f x).und n=true)->undWs n (l.map f)=true
 |[],_=>rfl
 |x::l,h=>by
  show((f x).und n&&undWs n (l.map f))=true
  rw[h x aN,sB fun y hy=>h y (aA _ hy)];rfl
theorem CB{E:W->W->W->W}{R:Nat}(hu:∀x l r,(E x l r).und n=true):(Hl E L R).und n=true:=by
 unfold Hl W.und
 refine sB fun x _=>?_
 unfold Pj W.und
 refine sB fun l _=>?_
 unfold OH W.und
 exact sB fun r _=>hu x l r
theorem Hm{E:W->W->W->W}{R:Nat}{st:List aj}{w0:W}(hL:L<=64)(hR:R<=64)(hm:st[m]?=some (.pin false f o w0))(hu:∀x l r,(E x l r).und st.length=true)
  (hc:∀s,st <+: s->∀x∈bq 0 L,∀l∈bq 0 R,∀r∈bq 0 R,tZ cF dh m [x,l,r] s=.ok (E x l r) s):GH [.int L,.int R,.loc m] st=.ok (Hl E L R) st:=by
 refine t7 (N:=7) (ws:=[.int L,.int R,.loc m]) (body:=Rv) ?_ (by show(_&&true)=true;rw[CB hu];rfl)
 apply aG
 ·(walk_at "evs")
 refine c_ (fun i ρ s=>∃o4 o5 o6:Option W,ρ=[iO L,iO R,lO m,lO st.length,o4,o5,o6]/\st <+: s/\s[st.length]?=some (.lst (((bq 0 L).take i).map (Pj E R))))
  (c7 (q:=(L:Int)) (st1:=st++[aj.lst []]) kn (by omega)) ⟨none,none,none,rfl,aq _ _,by rw[bw];rfl⟩ (fun _ _ _ _=>trivial) ?_ ?_
 ·rintro i w ρ s hw ⟨o4,o5,o6,rfl,hp,gk⟩
  rw[aR]at hw
  have hwm:w∈bq 0 L:=al hw
  have hi:i<L:=by have:=(aa.mp hw).1;rw[bK]at this;exact this
  refine⟨_,rfl,?_⟩
  apply aG
  ·(walk_at "evs")
  refine c_ (fun j ρ z=>∃o6:Option W,ρ=[iO L,iO R,lO m,lO st.length,some w,lO s.length,o6]/\s <+: z/\z[s.length]?=some (.lst (((bq 0 R).take j).map (OH E R w))))
   (c7 (q:=(R:Int)) (st1:=s++[aj.lst []]) kn (by omega)) ⟨_,rfl,aq _ _,by rw[bw];rfl⟩ (fun _ _ _ _=>trivial) ?_ ?_
  ·rintro j v ρ z hv ⟨o6,rfl,hz,hcz⟩
   rw[aR]at hv
   have hvm:v∈bq 0 R:=al hv
   have hj:j<R:=by have:=(aa.mp hv).1;rw[bK]at this;exact this
   refine⟨_,rfl,?_⟩
   have hmz:z[m]?=some (.pin false f o w0):=pre_get (hp.trans hz) hm
   have ec:=gW (cap:=[none,some 2,some 4,some 6]) (fi:=bd (af (ac 1) aB)) (f:=eE 0) (el:=pB 1 3 cF dh (af (ac 2) (af (ac 3) (af (ac 0) aB)))) (ρ:=[iO L,iO R,lO m,lO st.length,some w,lO s.length,some v]) (st:=z) (st1:=z)
    (ws:=bq 0 (R:Int).toNat) (ck:=none) (E w v) (c7 (q:=(R:Int)) kn (by omega)) (by rw[bK,aR];show R<=1000000;omega) trivial fun r hr=>by
     rw[aR]at hr
     exact⟨_,rfl,JP (m:=m) rfl hmz (ay kv (ay kv kn)) rfl (hc z (hp.trans hz) w hwm v hvm r hr)⟩
   rw[aR]at ec
   have et:bg cO (af (dC [none,some 2,some 4,some 6] (bd (af (ac 1) aB)) (eE 0) ii (pB 1 3 cF dh (af (ac 2) (af (ac 3) (af (ac 0) aB))))) aB) [iO L,iO R,lO m,lO st.length,some w,lO s.length,some v] z=.ok (OH E R w v) (z++[.lst ((bq 0 R).map (E w v))]):=
    bi (ay ec bt) (fA (aO bw))
   have ap:=mH (y:=OH E R w v) (pre_get (s:=z++[.lst ((bq 0 R).map (E w v))]) (aq _ _) hcz) (by rw[ai,a7];omega)
   apply dM
   ·exact fz (nv kv (eG hcz) (ay et bt) ap)
   ·refine⟨_,_,rfl,_,rfl,hU (mG hz) (au _),?_⟩
    rw[ji (pre_get (aq _ _) hcz),vV hv,bV];rfl
  ·rintro ρ z ⟨o6,rfl,hz,hcz⟩
   rw[aR,bK,cQ (by rw[bK];exact au _)]at hcz
   have hcp:=pre_get hz gk
   have ap:=mH (y:=Pj E R w) hcp (by rw[ai,a7];omega)
   apply dM
   ·exact fz (nv kv (eG hcp) (ay (bi kn (fA (aO hcz))) bt) ap)
   ·refine⟨_,_,rfl,_,_,_,rfl,hU (hp.trans hz) (au _),?_⟩
    rw[ji hcp,vV hw,bV];rfl
 ·rintro ρ s ⟨o4,o5,o6,rfl,hp,gk⟩
  rw[aR,bK,cQ (by rw[bK];exact au _)]at gk
  obtain⟨x,rfl⟩:=hp
  apply ei
  ·exact bi kn (fA (aO gk))
  ·exact⟨_,_,rfl,rfl,_,rfl⟩
def UF:W->W
 |.tup (x::_)=>x
 |w=>w
abbrev R8:aj:=.tab 59 ⟨54,29,54,52⟩ "firsts_of.<locals>.<lambda>"
abbrev OI:aj:=.tab 80 ⟨80,4,81,68⟩ "least_of.<locals>.lead"
def D1(B:Nat->Nat)(rs:List Nat):W:=.tup (rs.map fun a=>W.tup [.int (a:Nat),.int (B a:Nat)])
structure AZ(M:Mc)(N:Nat)(E:List Ro)(B h:Nat->Nat)(m:Nat)(rs:List Nat):Prop where
 full:q_ (bc M) M.tb.length N E
 rm:Rm M N (E.map Prod.fst)
 last:nY M (E.map Prod.fst) B
 can:qI (E.map Prod.fst) B m h
 perm:rs.Perm (E.map Prod.fst)
 up:rs.Pairwise (· < ·)
def D2(M:Mc)(E:List Ro)(B h:Nat->Nat)(m:Nat)(rs:List Nat):W:=.tup [(xV M (E.map Prod.fst) B h m).w,D1 B rs]
theorem D3{ok:Obj->Prop}{a b:List aj}{l:List i7}{w0 v:W}(hm:(a++(ia l++b))[m]?=some (.pin false f o w0))(ho:ok o)(hc:(lU o).map (·.2)=l.map fun x=>x.2.1)(nd:(l.map fun x=>x.2.1).Nodup)(hn:fx a)
  (hF:∀s,F (ws++l.map fun x=>x.2.2.2) (a++s)=.ok v (a++s)):tZ ok F m ws (a++(ia l++b))=.ok v (a++(ia l++b)):=by
 have e1:((lU o).map fun y=>((a++(ia l++b)).findIdx? (m8 y.2)).getD 0)=List.range' a.length l.length:=by
  rw[<- vK l a b (fun d hd x _=>hn d hd _) nd]
  have:∀(g:Addr->Nat),(lU o).map (fun y=>g y.2)=l.map fun x=>g x.2.1:=fun g=>by
   have:=dq (List.map g) hc
   rw[aS,aS]at this;exact this
  exact this fun c=>((a++(ia l++b)).findIdx? (m8 c)).getD 0
 unfold tZ
 rw[hm]
 simp only
 rw[am ho,e1,pF]
 simp only
 have e2:((rL a.length l).map fun x=>x.2.1)=l.map fun x=>x.2.1:=oA (fun y=>y.1) _ _
 have e3:((rL a.length l).map fun x=>x.2.2.2)=l.map fun x=>x.2.2.2:=oA (fun y=>y.2.2) _ _
 rw[am (by rw[e2,hc]),e3,hF]
 simp only[vJ]
def Eb(M:Mc)(F:List Nat)(B h:Nat->Nat):W->W->W->W
 |.int x,.int l,.int r=>.int (B (bc M x.toNat (oD F h l.toNat) (oD F h r.toNat)):Nat)
 |_,_,_=>.non
theorem Ho(M:Mc)(F:List Nat)(B h:Nat->Nat)(x l r:W)(n:Nat):(Eb M F B h x l r).und n=true:=by
 unfold Eb
 split<;>rfl
theorem xD{f:W->W}{g:Nat->W}(h:∀i:Nat,f (.int (i:Int))=g i):(bq 0 n).map f=(List.range n).map g:=by
 unfold bq
 rw[aS]
 refine bf fun i _=>?_
 show f (.int (0+(i:Int)))=_
 rw[cR];exact h i
theorem OJ(M:Mc)(F:List Nat)(B h:Nat->Nat)(m:Nat):Hl (Eb M F B h) M.tb.length m=.tup ((xV M F B h m).tb.map dY):=by
 unfold Hl xV
 simp only[aS]
 congr 1
 refine xD fun a=>?_
 show Pj _ _ _=dY _
 unfold Pj dY
 congr 1
 rw[aS]
 refine xD fun l=>?_
 show OH _ _ _ _=g7 _
 unfold OH g7
 congr 1
 rw[aS]
 exact xD fun r=>rfl
theorem Kf(B:Nat->Nat)(rs:List Nat)(n:Nat):(D1 B rs).und n=true:=by
 unfold D1 W.und
 exact xC fun w hw=>by obtain⟨a,_,rfl⟩:=ar.mp hw;rfl
theorem Kg(M:Mc)(E:List Ro)(B h:Nat->Nat)(m:Nat)(rs:List Nat)(n:Nat):undWs n [D2 M E B h m rs]=true:=by
 unfold D2
 simp only[undWs,W.und,pI,Kf,ca]
theorem A0{w:W}(h:w∈bq 0 n):∃i:Nat,i<n/\w=.int (i:Int):=by
 obtain⟨i,hi⟩:=a9 h
 obtain⟨h1,rfl⟩:=eR hi
 exact⟨i,h1,by rw[cR]⟩
def Tj:W->Nat
 |.int z=>z.toNat
 |_=>0
theorem Hq{M:Mc}{st:List aj}(hM:rM M N)(Up:1<=N)(hN:N<=50)(hsz:M.tb.length*(2*N)<=10000)(hL:M.tb.length<=64)(LY:fx st)(ht:st[1]?=some R8)(KB:st[2]?=some OI) :
  ∃E B h m rs,AZ M N E B h m rs/\y_ [M.w] st=.ok (D2 M E B h m rs) st:=by
 obtain⟨E,R,t,hR,cov,ef⟩:=DY hM Up (by omega) ht
 obtain⟨rs,hsrt,hperm,zQ⟩:=R6 t.nd
 have hrs:=R7 t cov hperm zQ
 have hlE:=t.len
 obtain⟨F,hF⟩:∃F,F=E.map Prod.fst:=⟨_,rfl⟩
 have hFl:F.length=E.length:=by rw[hF,ai]
 have hmem:∀{a},a∈F↔a∈rs:=fun{a}=>by rw[hF];exact hperm.mem_iff.symm
 have hRm:Rm M N F:=⟨hM,fun a ha=>hrs.lt a (hmem.mp ha),by rw[hF];exact t.nd,by omega,a_ (jD _ (by omega)) hsz,fun k hk a ha b hb=>hmem.mpr (hrs.cl k hk a (hmem.mp ha) b (hmem.mp hb))⟩
 have hRE:R.map UF=eY F:=by
  rw[hF]
  refine lq fun i=>?_
  rw[ak,ak,ak]
  cases he:E[i]? with
  |none=>
   rw[gw (by rw[hR.len];exact kP.mp he)];rfl
  |some e=>
   obtain⟨w,hw,ux⟩:=hR.at' i e he
   obtain⟨tt,rfl⟩:=ux.sh
   rw[hw];rfl
 have ec:=gW (cap:=[none]) (fi:=cY (d7 1 DQ (af (ac 0) aB))) (f:=eE 0) (el:=e2 bu (ac 0) (eI 0)) (ρ:=[M.w].map some++List.replicate (7-1) none) (st:=st) (st1:=st) UF (kZ (d8 kn ef rfl)) (by rw[hR.len];show _<=1000000;omega) trivial fun w hw=>by
  obtain⟨i,hi⟩:=a9 hw
  have hiE:i<E.length:=by rw[<- hR.len];exact(aa.mp hi).1
  obtain⟨w',hw',ux⟩:=hR.at' i _ (ae hiE)
  rw[hi]at hw';cases hw'
  obtain⟨tt,rfl⟩:=ux.sh
  exact⟨_,rfl,bJ kv cP ox⟩
 rw[hRE]at ec
 have c1:(st++[aj.lst (eY F)])[st.length]?=some (.lst (eY F)):=bw
 obtain⟨B,j,x,hLB,npx,hxj,el⟩:=Ka hRm c1
 obtain⟨m,h,c⟩:=hLB.can
 have hml:=c.len (by omega)
 refine⟨E,B,h,m,rs,⟨⟨t,cov⟩,hF▸hRm,hF▸hLB,hF▸c,hperm,zQ⟩,?_⟩
 unfold D2
 rw[<- hF]
 have hund:∀n,undWs n [W.tup [(xV M F B h m).w,D1 B rs]]=true:=fun n=>by have:=Kg M E B h m rs n;unfold D2 at this;rw[<- hF]at this;exact this
 refine t7 (N:=7) (ws:=[M.w]) (body:=Lv) ?_ (hund _)
 refine aG (Cq ec rfl) ?_
 generalize hS1:st++[aj.lst (eY F)]=S1 at c1 el
 have np1:fx S1:=by rw[<- hS1];exact i9 LY (xU (fun _=>rfl) zO)
 refine aG (bU (d8 (ay kv kn) el rfl)) ?_
 have c2:(S1++x)[S1.length+j]?=some (.dct (jJ B F)):=by rw[dz];exact hxj
 have e3:=Hj c hRm.nd (by omega) (aJ c1) c2
 refine aG (bU (d8 (ay kv kn) e3 rfl)) ?_
 have hd3:(S1++x++[aj.lst (eY (rf F h m))])[(S1++x).length]?=some (.lst (eY (rf F h m))):=bw
 have hhl:(rf F h m).length=m:=by simp[rf]
 have hhm:∀a∈rf F h m,a∈F:=fun a ha=>by
  obtain⟨k,hk,rfl⟩:=ar.mp ha
  exact(c.at' (aM.mp hk)).2.1
 have ec4:=gW (cap:=[none,some 0]) (fi:=cY (ac 3)) (f:=eE 0) (el:=e2 bu (e2 bu (ac 1) (eI 1)) (ac 0)) (ρ:=[some M.w,lO st.length,lO (S1.length+j),some (.loc (S1++x).length),none,none,none]) (st:=S1++x++[aj.lst (eY (rf F h m))]) (st1:=S1++x++[aj.lst (eY (rf F h m))]) (fun w=>.bl (gM M (Tj w))) (fM kv (aO hd3)) (by rw[ai,hhl];show _<=1000000;omega) (aO hd3) fun w hw=>by
  obtain⟨a,ha,rfl⟩:=ar.mp hw
  have ny:a<M.gd.length:=by rw[hM.gd];exact hRm.lt a (hhm a ha)
  exact⟨_,rfl,bJ kx kv (i8 (d9 (by
   rw[ak,ae ny]
   show some (W.bl M.gd[a])=some (W.bl (gM M ((a:Nat):Int).toNat))
   rw[aR];unfold gM;rw[aE,ae ny];rfl)))⟩
 have eg:(eY (rf F h m)).map (fun w=>W.bl (gM M (Tj w)))=(xV M F B h m).gd.map W.bl:=by
  unfold eY rf xV
  simp only[aS]
  refine bf fun k _=>?_
  show W.bl (gM M (((oD F h k:Nat):Int).toNat))=W.bl (gM M (oD F h k))
  rw[aR]
 rw[eg]at ec4
 refine aG (bU (bi (ay ec4 bt) (fA (aO bw)))) ?_
 obtain⟨S4,hS4⟩:∃S4:List aj,S1++x++[aj.lst (eY (rf F h m))]++[aj.lst ((xV M F B h m).gd.map W.bl)]=S4:=⟨_,rfl⟩
 rw[hS4]
 have c4:∀{i:Nat} {d:aj},S1[i]?=some d->S4[i]?=some d:=fun e=>by rw[<- hS4];exact aJ (aJ (aJ e))
 have hd4:S4[(S1++x).length]?=some (.lst (eY (rf F h m))):=by rw[<- hS4];exact aJ hd3
 have bk4:S4[S1.length+j]?=some (.dct (jJ B F)):=by rw[<- hS4];exact aJ (aJ c2)
 have np4:fx S4:=by rw[<- hS4];exact i9 (i9 (i9 np1 npx) (xU (fun _=>rfl) zO)) (xU (fun _=>rfl) zO)
 obtain⟨y4,hy4⟩:∃y,S4=st++y:=⟨_,by rw[<- hS4,<- hS1,aw,aw,aw]⟩
 have hr4:=c4 c1
 have ht4:=c4 (i:=2) (d:=OI) (by rw[<- hS1];exact aJ KB)
 generalize hp:(S1++x).length=p at hd4
 generalize hq:S1.length+j=q at bk4
 refine dM (F2 (w:=W.tup [(xV M F B h m).w,D1 B rs]) (show rE S4 2 80 ⟨80,4,81,68⟩ "least_of.<locals>.lead" from ht4) (hund _) fun f o ok=>⟨[.pin false f o .non]++[.lst (eY rs)]++[.lst (rs.map fun a=>W.tup [.int (a:Nat),.int (B a:Nat)])],?_⟩) ⟨_,_,rfl,rfl,y4,hy4⟩
 obtain⟨cl,jb,pm,cd,ct,hx,lL,rfl⟩:=ok
 generalize ho:fnMade "lead" "least_of.<locals>.lead" (dS dN) (dU dN) (aZ dN) cl jb pm cd ct=o
 have hok:cF o:=⟨cl,jb,pm,cd,ct,hx,lL,ho.symm⟩
 have hclo:lU o=cl:=by rw[<- ho];rfl
 have kK:cl.length=3:=by have:=dq List.length hx;rw[ai]at this;exact this
 have DR:=Kd (st:=S4++[.pin false f o .non]) (n:=st.length) (l:=F) (rs:=rs) (aJ hr4) (by omega) (by rw[hF];exact hsrt)
 have cs:(S4++[.pin false f o .non]++[aj.lst (eY rs)])[(S4++[aj.pin false f o .non]).length]?=some (.lst (eY rs)):=bw
 have hrl:rs.length=E.length:=by rw[hperm.length_eq,ai]
 have ec6:=gW (cap:=[none,some 2]) (fi:=cY (bg pq (af (ac 1) aB))) (f:=eE 0) (el:=d5 (af (ac 0) (af (e2 lS (ac 1) (ac 0)) aB))) (ρ:=[some M.w,lO st.length,lO q,lO p,some (.tup ((xV M F B h m).gd.map W.bl)),lO S4.length,none]) (st:=S4++[.pin false f o .non]) (st1:=S4++[.pin false f o .non]++[aj.lst (eY rs)]) (fun w=>W.tup [w,.int (B (Tj w):Nat)]) (fM (bi kn DR) (aO cs)) (by rw[ai];show _<=1000000;omega) (aO cs) fun w hw=>by
  obtain⟨a,ha,rfl⟩:=ar.mp hw
  have ix:lS (.loc q) (.int (a:Nat)) (S4++[.pin false f o .non]++[aj.lst (eY rs)])=.ok (.int (B a:Nat)) (S4++[.pin false f o .non]++[aj.lst (eY rs)]):=qp (f' (aJ (aJ bk4))) (lB (V:=fun a=>W.int (B a:Nat)) hRm.nd (hmem.mpr ha))
  refine⟨_,rfl,?_⟩
  show _=L2.R.ok (W.tup [.int (a:Nat),.int (B ((a:Nat):Int).toNat:Nat)]) _
  rw[aR]
  exact gi (ay kv (ay (bJ kv kv ix) bt)) (by show 2<=1000000;decide)
 have eq6:(eY rs).map (fun w=>W.tup [w,.int (B (Tj w):Nat)])=rs.map fun a=>W.tup [.int (a:Nat),.int (B a:Nat)]:=by
  unfold eY
  rw[aS]
  refine bf fun a _=>?_
  show W.tup [.int (a:Nat),.int (B ((a:Nat):Int).toNat:Nat)]=_
  rw[aR]
 rw[eq6]at ec6
 refine(wQ (bU (bi (ay ec6 bt) (fA (aO bw))))).trans ?_
 obtain⟨S6,hS6⟩:∃S6:List aj,S4++[aj.pin false f o .non]++[aj.lst (eY rs)]++[aj.lst (rs.map fun a=>W.tup [.int (a:Nat),.int (B a:Nat)])]=S6:=⟨_,rfl⟩
 have hm6:S6[S4.length]?=some (.pin false f o .non):=by rw[<- hS6];exact aJ (aJ bw)
 have hd6:S6[p]?=some (.lst (eY (rf F h m))):=by rw[<- hS6];exact aJ (aJ (aJ hd4))
 have bk6:S6[q]?=some (.dct (jJ B F)):=by rw[<- hS6];exact aJ (aJ (aJ bk4))
 have np6:fx S6:=by rw[<- hS6];exact i9 (i9 (i9 np4 (xU (fun _=>rfl) zO)) (xU (fun _=>rfl) zO)) (xU (fun _=>rfl) zO)
 rw[<- aw,<- aw,hS6]
 have Te:cU [.tup (M.tb.map dY)] S6=.ok (.int (M.tb.length:Nat)) S6:=by rw[jh,ai]
 have Tf:cU [.loc p] S6=.ok (.int (m:Nat)) S6:=by rw[ip (aO hd6)];simp[rf]
 refine m_ ?_
 have e7:vF 3 GH o [0,3,2] (af (bg cU (af (e2 bu (ac 0) (eI 2)) aB)) (af (bg cU (af (ac 3) aB)) (af (ac 5) aB))) [some M.w,lO st.length,lO q,lO p,some (.tup ((xV M F B h m).gd.map W.bl)),lO S4.length,some (D1 B rs)] S6=.ok (.tup ((xV M F B h m).tb.map dY)) S6:=by
  rw[<- OJ]
  refine NL (ws:=[.int (M.tb.length:Nat),.int (m:Nat),.loc S4.length]) (cws:=[M.w,.loc p,.loc q]) (ay (bi (ay kx bt) Te) (ay (bi kn Tf) kn)) rfl rfl ?_
  refine JO (by rw[hclo,kK];rfl) (by show(_&&true)=true;rw[CB fun x l r=>Ho _ _ _ _ x l r _];rfl) fun os hos=>?_
  rw[hclo]at hos ⊢
  have hz1:=NI (C:=cl) (os:=os) (cws:=[M.w,.loc p,.loc q]) hos (by rw[kK];rfl)
  have hz2:=NJ (C:=cl) (os:=os) (cws:=[M.w,.loc p,.loc q]) hos (by rw[kK];rfl)
  generalize lV cl os [M.w,.loc p,.loc q]=Lz at hz1 hz2
  have hmz:∀y,(S6++(ia Lz++y))[S4.length]?=some (.pin false f o .non):=fun y=>aJ hm6
  refine Hm (E:=Eb M F B h) hL (by omega) (hmz _) (fun x l r=>Ho _ _ _ _ x l r _) fun s hs x qx l hl' r hr'=>?_
  obtain⟨y,rfl⟩:=hs
  rw[bP,aw]
  obtain⟨xi,hxi,rfl⟩:=A0 qx
  obtain⟨li,hli,rfl⟩:=A0 hl'
  obtain⟨ri,hri,rfl⟩:=A0 hr'
  refine D3 (hmz y) hok (by rw[hclo,hz1]) (by rw[hz1];exact lL) np6 fun s=>?_
  rw[hz2]
  exact Kb hRm c (aJ hd6) (aJ bk6) hxi hli hri
 exact gi (ay (gi (ay kx (ay kv (ay e7 bt))) (by show 3<=1000000;decide)) kn) (by show 2<=1000000;decide)
theorem OK(g:FS)(ρ:bQ)(st:List aj):aV g cE ρ st=g ρ st:=by
 unfold aV
 cases g ρ st<;>rfl
theorem zv{f:FG}{body:FS}{k:yy}{st:List aj}{Q:RS->Prop}(I:Nat->bQ->List aj->Prop)(h:fi ρ st=.ok k st1)(h0:I 0 ρ st1)(hc:∀i ρ st,I i ρ st->h9 st k.2)
  (hs:∀i w ρ st,k.1[i]?=some w->I i ρ st->∃ρ',f w ρ=some ρ'/\gs (JN (I (i+1))) (body ρ' st)) (he:∀ρ st,I k.1.length ρ st->Q (.nx ρ st)):gs Q (dX fi f body ρ st):=by
 rw[<- OK (dX fi f body)]
 exact c_ (rest:=cE) I h h0 hc hs fun ρ st hI=>dM (r':=.nx ρ st) wS (he ρ st hI)
theorem Kh{M:Mc}(hM:rM M n)(hn:1<=n)(Vb:n<=1000)(hl:M.nm.length<=20)(st:List aj):Cj [M.w,.str M.nm] st=.ok (.bl true) st:=by
 have g0:bu M.w (.int 0) st=.ok (.str M.nm) st:=rfl
 have g1:bu M.w (.int 1) st=.ok (.tup (M.gd.map W.bl)) st:=rfl
 have g2:bu M.w (.int 2) st=.ok (.tup (M.tb.map dY)) st:=rfl
 have ln:cU [.tup (M.gd.map W.bl)] st=.ok (.int (n:Nat)) st:=by rw[jh,ai,hM.gd]
 have tl:cU [.tup (M.tb.map dY)] st=.ok (.int ((2^M.nm.length:Nat):Int)) st:=by rw[jh,ai,hM.tb]
 have mJ:Ai (.str M.nm) (.str M.nm) st=.ok (.bl false) st:=by
  show R.ok (W.bl (!(M.nm==M.nm))) st=_
  rw[dQ];rfl
 have n0:((n:Int)==0)=false:=by rw[aQ];omega
 have nn:(!((n:Int)==(n:Int)))=false:=by rw[dQ];rfl
 refine t7 (N:=7) (ws:=[M.w,.str M.nm]) (body:=LJ) ?_ rfl
 refine cx (fG (m9 (bX (nQ kv rfl rfl)) rfl) (bX (bJ (bi kn (w:=.int 3) rfl) cP (vH rfl)))) (cK ?_)
 refine cx (fG (m9 (bX (nQ (bJ kv cP g0) rfl rfl)) rfl) (bX (bJ (bJ kv cP g0) kv mJ))) (cK ?_)
 refine aG (bU (bJ kv cP g1)) ?_
 refine cx (fG (m9 (bX (nQ kv rfl rfl)) rfl) (fG (bX (bJ (bi kn ln) cP (io n0))) (m9 (bX (nQ (bJ kv cP g2) rfl rfl)) rfl))) (cK ?_)
 refine c_ (fun i ρ s=>∃o3,ρ=[some M.w,some (.str M.nm),some (.tup (M.gd.map W.bl)),o3,none,none,none]/\s=st) (kZ kv) ⟨none,rfl,rfl⟩ (fun _ _ _ _=>trivial) ?_ ?_
 ·rintro i w ρ s hw ⟨o3,rfl,rfl⟩
  obtain⟨b,_,rfl⟩:=ar.mp (al hw)
  exact⟨_,rfl,iJ (m9 (bX (nQ kv rfl rfl)) rfl) ⟨_,_,rfl,_,rfl,rfl⟩⟩
 rintro ρ s ⟨o3,rfl,rfl⟩
 refine cx (bX (bJ (bi (ay (bJ kv cP g2) bt) tl) (bJ cP (bi kn (wT (by show _<=1000000;omega))) (yn (by omega))) (vH (k:=false) (by rw[dQ];rfl)))) (cK ?_)
 refine c_ (fun i ρ s'=>∃o4 o5 o6,ρ=[some M.w,some (.str M.nm),some (.tup (M.gd.map W.bl)),o3,o4,o5,o6]/\s'=s) (kZ (bJ kv cP g2)) ⟨none,none,none,rfl,rfl⟩ (fun _ _ _ _=>trivial) ?_ ?_
 ·rintro i w ρ s' hw ⟨o4,o5,o6,rfl,rfl⟩
  obtain⟨t,ht,rfl⟩:=ar.mp (al hw)
  obtain⟨t1,t2⟩:=hM.t t ht
  have tn:cU [dY t] s'=.ok (.int (n:Nat)) s':=by unfold dY;rw[jh,ai,t1]
  refine⟨_,rfl,cx (fG (m9 (bX (nQ kv rfl rfl)) rfl) (bX (bJ (bi kn tn) (bi kn ln) (vH nn)))) (cK ?_)⟩
  refine zv (fun i ρ s=>∃o5 o6,ρ=[some M.w,some (.str M.nm),some (.tup (M.gd.map W.bl)),o3,some (dY t),o5,o6]/\s=s') (kZ (ws:=t.map g7) kv) ⟨_,_,rfl,rfl⟩ (fun _ _ _ _=>trivial) ?_ ?_
  ·rintro i w ρ s hw ⟨o5,o6,rfl,rfl⟩
   obtain⟨r,hr,rfl⟩:=ar.mp (al hw)
   obtain⟨r1,r2⟩:=t2 r hr
   have rn:cU [g7 r] s=.ok (.int (n:Nat)) s:=by unfold g7;rw[jh,ai,r1]
   refine⟨_,rfl,cx (fG (m9 (bX (nQ kv rfl rfl)) rfl) (bX (bJ (bi kn rn) (bi kn ln) (vH nn)))) (cK ?_)⟩
   refine zv (fun i ρ s'=>∃o6,ρ=[some M.w,some (.str M.nm),some (.tup (M.gd.map W.bl)),o3,some (dY t),some (g7 r),o6]/\s'=s) (kZ (ws:=r.map fun k=>W.int (k:Nat)) kv) ⟨_,rfl,rfl⟩ (fun _ _ _ _=>trivial) ?_ ?_
   ·rintro i w ρ s' hw ⟨o6,rfl,rfl⟩
    obtain⟨v,hv,rfl⟩:=ar.mp (al hw)
    have hv':=r2 v hv
    have c1:decide ((v:Int)<0)=false:=bb (by omega)
    have c2:decide ((n:Int)<=(v:Int))=false:=bb (by omega)
    have Ih:QF (.int ((v:Nat):Int)) (.int ((n:Nat):Int)) s'=.ok (.bl false) s':=K3 c2
    exact⟨_,rfl,iJ (fG (m9 (bX (nQ kv rfl rfl)) rfl) (fG (bX (nQ kv rfl rfl)) (fG (bX (bJ kv cP (nR c1))) (bX (bJ kv (bi kn ln) Ih))))) ⟨_,_,rfl,_,rfl,rfl⟩⟩
   ·rintro ρ s' ⟨o6,rfl,rfl⟩
    exact⟨_,_,rfl,_,_,rfl,rfl⟩
  ·rintro ρ s ⟨o5,o6,rfl,rfl⟩
   exact⟨_,_,rfl,_,_,_,rfl,rfl⟩
 ·rintro ρ s' ⟨o4,o5,o6,rfl,rfl⟩
  exact ei cP ⟨_,_,rfl,rfl,[],by simp⟩
def z5(w:Wy)(q:Nat):List Int:=[(w.s:Int),(w.l:Int),(w.r:Int),(w.a:Int),(q:Int)]
def k5(w:Wy)(q:Nat):W:=.tup ((z5 w q).map W.int)
theorem R9(p w:Wy)(q u:Nat):HT.lexLt (z5 p q) (z5 w u)=true↔p.lt w\/(p.s=w.s/\p.l=w.l/\p.r=w.r/\p.a=w.a/\q<u):=by
 obtain⟨a,b,c,d⟩:=p
 obtain⟨e,f,g,h⟩:=w
 simp only[z5,Wy.lt,HT.lexLt_cons,HT.lexLt_nil_nil]
 by_cases h1:(a:Int)=e
 ·rw[am h1]
  by_cases h2:(b:Int)=f
  ·rw[am h2]
   by_cases h3:(c:Int)=g
   ·rw[am h3]
    by_cases h4:(d:Int)=h
    ·rw[am h4]
     by_cases h5:(q:Int)=u
     ·rw[am h5];constructor
      ·intro z;cases z
      ·intro z;omega
     ·rw[az h5,bn];omega
    ·rw[az h4,bn];omega
   ·rw[az h3,bn];omega
  ·rw[az h2,bn];omega
 ·rw[az h1,bn];omega
theorem LU(q:Nat):∀l:List Nat,rV (.int (q:Nat)) (l.map fun k=>W.int (k:Nat))=some (decide (q∈l))
 |[]=>rfl
 |x::l=>by
  simp only[List.map,rV,LU q l]
  simp only[jx]
  by_cases h:x=q
  ·subst h;simp
  ·have h1:((x:Int)==(q:Int))=false:=by rw[aQ];omega
   have h2:(q∈x::l)↔q∈l:=by simp[Ne.symm h]
   simp[h1,h2,Ne.symm h]
theorem LV:∀l:List Nat,depWs (l.map fun k=>W.int (k:Nat))=0
 |[]=>rfl
 |l::ls=>by simp only[List.map,depWs,W.dep,LV ls];rfl
theorem Hr{st:List aj}(h:st[n]?=some (.lst (l.map fun k=>W.int (k:Nat)))):Dm true (.int (q:Nat)) (.loc n) st=.ok (.bl (!decide (q∈l))) st:=by
 simp[Dm,h,LU,LV]
structure vW(T:Nat->Nat->Nat->Nat)(L n:Nat)(E:List Ro)(D:Nat->Nat->Nat->Prop)(b:Option (Wy×Nat)):Prop where
 none:b=none->∀l r a el er,D l r a->E[l]?=some el->E[r]?=some er->T a el.1 er.1∈(E.take n).map Prod.fst
 some:∀w q,b=some (w,q)->(∃l r a el er,l<n/\r<n/\a<L/\E[l]?=some el/\E[r]?=some er/\w=jk l r a el er/\q=T a el.1 er.1/\q∉(E.take n).map Prod.fst) /\
  ∀l r a el er,D l r a->E[l]?=some el->E[r]?=some er->T a el.1 er.1∉(E.take n).map Prod.fst->¬ (jk l r a el er).lt w
def oW:Option (Wy×Nat)->W
 |none=>.non
 |some (w,q)=>k5 w q
section
variable{E:List Ro}{D D':Nat->Nat->Nat->Prop}{b:Option (Wy×Nat)}
theorem vW.imp(g:vW T L n E D b)(h:∀l r a,D' l r a->D l r a):vW T L n E D' b:=⟨fun e l r a el er d=>g.none e l r a el er (h _ _ _ d),fun w q e=>⟨(g.some w q e).1,fun l r a el er d=>(g.some w q e).2 l r a el er (h _ _ _ d)⟩⟩
theorem vW.known(g:vW T L n E D b){l r a:Nat}{el er:Ro}(h1:E[l]?=.some el)(h2:E[r]?=.some er)(hk:T a el.1 er.1∈(E.take n).map Prod.fst):vW T L n E (fun l' r' a'=>D l' r' a'\/l'=l/\r'=r/\a'=a) b:=by
 refine⟨fun e l' r' a' el' er' d i1 i2=>?_,fun w q e=>⟨(g.some w q e).1,fun l' r' a' el' er' d i1 i2 hn=>?_⟩⟩
 ·rcases d with d|⟨rfl,rfl,rfl⟩
  ·exact g.none e _ _ _ _ _ d i1 i2
  ·rw[h1]at i1;rw[h2]at i2;cases i1;cases i2;exact hk
 ·rcases d with d|⟨rfl,rfl,rfl⟩
  ·exact(g.some w q e).2 _ _ _ _ _ d i1 i2 hn
  ·rw[h1]at i1;rw[h2]at i2;cases i1;cases i2;exact(hn hk).elim
theorem vW.keep(g:vW T L n E D b){l r a:Nat}{el er:Ro}{w:Wy}(hb:b=.some (w,q))(h1:E[l]?=.some el)(h2:E[r]?=.some er)(hw:¬ (jk l r a el er).lt w):vW T L n E (fun l' r' a'=>D l' r' a'\/l'=l/\r'=r/\a'=a) b:=by
 subst hb
 refine⟨fun e=>by(cases e),fun w' q' e=>⟨(g.some w' q' e).1,fun l' r' a' el' er' d i1 i2 hn=>?_⟩⟩
 cases e
 rcases d with d|⟨rfl,rfl,rfl⟩
 ·exact(g.some _ _ rfl).2 _ _ _ _ _ d i1 i2 hn
 ·rw[h1]at i1;rw[h2]at i2;cases i1;cases i2;exact hw
theorem vW.put(g:vW T L n E D b){l r a:Nat}{el er:Ro}(hl:l<n)(hr:r<n)(ha:a<L)(h1:E[l]?=.some el)(h2:E[r]?=.some er)(hk:T a el.1 er.1∉(E.take n).map Prod.fst)(hw:∀w q,b=.some (w,q)->¬ w.lt (jk l r a el er)) :
  vW T L n E (fun l' r' a'=>D l' r' a'\/l'=l/\r'=r/\a'=a) (.some (jk l r a el er,T a el.1 er.1)):=by
 refine⟨fun e=>by(cases e),fun w' q' e=>?_⟩
 cases e
 refine⟨⟨l,r,a,el,er,hl,hr,ha,h1,h2,rfl,rfl,hk⟩,fun l' r' a' el' er' d i1 i2 hn=>?_⟩
 rcases d with d|⟨rfl,rfl,rfl⟩
 ·cases b with
  |none=>exact(hn (g.none rfl _ _ _ _ _ d i1 i2)).elim
  |some wq=>
   obtain⟨w,q⟩:=wq
   have x:=(g.some w q rfl).2 _ _ _ _ _ d i1 i2 hn
   have y:=hw w q rfl
   unfold Wy.lt at *
   omega
 ·rw[h1]at i1;rw[h2]at i2;cases i1;cases i2
  unfold Wy.lt;omega
theorem vW.all(h:q_ T L N E)(hn:0<n)(Kz:n<=E.length)(g:vW T L n E (fun l r a=>l<n/\r<n/\a<L) b):b=(E[n]?).map fun e=>(e.2,e.1):=by
 cases b with
 |none=>
  cases he:E[n]? with
  |none=>rfl
  |some e=>
   obtain⟨hl,hr,el,er,h1,h2,ha,hT,hs⟩:=h.told.row n e he hn
   have:=g.none rfl _ _ _ _ _ ⟨hl,hr,ha⟩ h1 h2
   rw[hT]at this
   exact(zm h.told he this).elim
 |some wq=>
  obtain⟨w,q⟩:=wq
  obtain⟨⟨l,r,a,el,er,hl,hr,ha,h1,h2,rfl,rfl,hk⟩,hm⟩:=g.some w q rfl
  obtain⟨e,he,hle2⟩:=h.least hn h1 h2 hl hr ha hk
  obtain⟨hl',hr',el',er',h1',h2',ha',hT',hs'⟩:=h.told.row n e he hn
  have:=hm _ _ _ _ _ ⟨hl',hr',ha'⟩ h1' h2' (by rw[hT'];exact zm h.told he)
  rw[he]
  obtain⟨q,⟨s,l2,r2,a2⟩⟩:=e
  unfold Wy.lt at this hle2
  simp only at this hle2 h1' h2' hT' hs' hl' hr' ha'
  obtain⟨rfl,rfl,rfl⟩:l=l2/\r=r2/\a=a2:=by omega
  rw[h1]at h1';rw[h2]at h2';cases h1';cases h2'
  simp only[ju,hT',hs']
end
def D4(I:bQ->Prop)(st:List aj)(res:Option W)(r:RS):Prop:=match res with
 |some w=>r=.rt w st
 |none=>∃ρ,r=.nx ρ st/\I ρ
theorem zw{f:FG}{body:FS}{st:List aj}(I:bQ->Prop)(F:W->Option W)(hc:h9 st ck):∀{ws:List W},(∀w∈ws,∀ρ,I ρ->∃ρ',f w ρ=some ρ'/\D4 I st (F w) (body ρ' st))->∀ρ,I ρ->D4 I st (ws.findSome? F) (p_ f body ck ws ρ st)
 |[],_,ρ,h=>⟨ρ,by unfold p_;rw[am hc],h⟩
 |w::ws,hs,ρ,h=>by
  obtain⟨ρ',e1,e2⟩:=hs w aN ρ h
  unfold p_
  rw[am hc,e1,cX]
  cases hF:F w with
  |some v=>
   rw[hF]at e2
   have e2':body ρ' st=.rt v st:=e2
   simp only[e2'];rfl
  |none=>
   rw[hF]at e2
   obtain⟨ρ2,e3,h2⟩:=e2
   simp only[e3]
   exact zw I F hc (fun w hw=>hs w (aA _ hw)) ρ2 h2
theorem rg{f:FG}{body:FS}{st:List aj}{k:yy}(I:bQ->Prop)(F:W->Option W)(h:fi ρ st=.ok k st1)(hc:h9 st1 k.2)(h0:I ρ)(hs:∀w∈k.1,∀ρ,I ρ->∃ρ',f w ρ=some ρ'/\D4 I st1 (F w) (body ρ' st1)):D4 I st1 (k.1.findSome? F) (dX fi f body ρ st):=by
 rw[wR h];exact zw I F hc hs ρ h0
theorem D4.imp{I J:bQ->Prop}{st:List aj}{res:Option W}{r:RS}(h:D4 I st res r)(Sv:∀ρ,I ρ->J ρ):D4 J st res r:=by
 cases res with
 |some w=>exact h
 |none=>obtain⟨ρ,e,q⟩:=h;exact⟨ρ,e,Sv ρ q⟩
theorem xE(G:α->Option β):∀(l l':List α),(l++l').findSome? G=match l.findSome? G with|some b=>some b|none=>l'.findSome? G
 |[],l'=>rfl
 |a::l,l'=>by
  simp only[mh,cX]
  cases G a with
  |some b=>rfl
  |none=>exact xE G l l'
theorem zx{γ:Type}(G:β->Option γ)(h:α->List β):∀l:List α,(l.flatMap h).findSome? G=l.findSome? fun a=>(h a).findSome? G
 |[]=>rfl
 |a::l=>by
  rw[iF,xE,cX,zx G h l]
  cases(h a).findSome? G<;>rfl
theorem Hs(p:α->Bool)(f:α->β):∀l:List α,(l.findSome? fun a=>if p a=true then some (f a)else none)=(l.find? p).map f
 |[]=>rfl
 |a::l=>by
  rw[cX,bx]
  cases p a with
  |true=>rfl
  |false=>exact Hs p f l
theorem sD{γ:Type}(G:β->Option γ)(f:α->β):∀l:List α,(l.map f).findSome? G=l.findSome? fun a=>G (f a)
 |[]=>rfl
 |a::l=>by rw[aF,cX,cX,sD G f l]
theorem Ht(L:Nat)(rs:List Nat)(p:Nat×Nat×Nat->Bool):((lA L rs).find? p).map DZ=(List.range L).findSome? fun a=>[0,1].findSome? fun sd=>rs.findSome? fun t=>if p (a,sd,t)=true then some (DZ (a,sd,t))else none:=by
 rw[<- Hs p DZ]
 unfold lA
 rw[zx]
 congr 1
 funext a
 rw[xE,sD,sD]
 simp only[cX,List.findSome?_nil]
 cases rs.findSome? fun t=>if p (a,0,t)=true then some (DZ (a,0,t))else none with
 |some b=>rfl
 |none=>
  cases rs.findSome? fun t=>if p (a,1,t)=true then some (DZ (a,1,t))else none<;>rfl
theorem Hu{I:bQ->Prop}{st CJ:List aj}{res:Option W}{f:FG}{body rest:FS}{P:RS->Prop}(h:D4 I st res (dX fi f body ρ CJ))(h1:∀w,res=some w->P (.rt w st))(h2:res=none->∀ρ,I ρ->gs P (rest ρ st)):gs P (aV (dX fi f body) rest ρ CJ):=by
 cases res with
 |some w=>rw[AG (show dX fi f body ρ CJ=.rt w st from h)];exact h1 w rfl
 |none=>obtain⟨ρ2,e,q⟩:=h;exact aG e (h2 rfl ρ2 q)
theorem sE{I:bQ->Prop}{st CJ:List aj}{res:Option W}{g g':FS}{ρ':bQ}(h:g ρ CJ=.nx ρ' st1)(h2:D4 I st res (g' ρ' st1)):D4 I st res (aV g g' ρ CJ):=by rw[wQ h];exact h2
structure j_(M:Mc)(rs:List Nat)(s:Nat)(kvs:List (KX×W)):Prop where
 at':∀x∈rs,∀y∈rs,eQ kvs (.fl [(x:Nat),(y:Nat)])=(rd (bc M) M.tb.length (gM M) rs s x y).map fun k=>W.int (k:Nat)
 tag:∀p∈kvs,p.1.tag=1
 len:kvs.length<=30000
theorem j_.ok{M:Mc}{s:Nat}(h:j_ M rs s kvs)(l:List Int):r6 kvs (.fl l)=true:=by
 unfold r6 tS
 have a:(kvs.all fun p=>p.1.tag==(KX.fl l).tag)=true:=by rw[cD];intro p hp;rw[h.tag p hp];rfl
 rw[a]
 have:=h.len
 have hl:kvs.length<jw:=by show _<1000000;omega
 simp[KX.tag,hl]
theorem Ki{fo fk fd:FE}{st:List aj}{y z:W}{k:KX}(h1:fo ρ st=.ok (.loc n) st)(hd:cV st (.loc n)=some (n,kvs))(h2:fk ρ st=.ok y st)(hk:j6 y=some k)(h3:fd ρ st=.ok z st)(ok:r6 kvs k=true):tU fo fk fd ρ st=.ok ((eQ kvs k).getD z) st:=by
 unfold tU
 rw[h1];simp only[R.bind_ok,hd]
 rw[h2];simp only[R.bind_ok]
 rw[h3];simp only[R.bind_ok,hd,hk,ok,dF]
theorem OL{M:Mc}{s:Nat}(h:j_ M rs (s+1) kvs){x y:Nat}(hx:x∈rs)(hy:y∈rs)(ho:qt M rs s x y=true):∃z:Int,(eQ kvs (.fl [(x:Nat),(y:Nat)])).getD (.int (-1))=.int z/\(z==(s:Int))=pM M rs s x y:=by
 rw[h.at' x hx y hy]
 have hi:=OA (T:=bc M) (L:=M.tb.length) (g:=gM M) (rs:=rs) (s:=s) (a:=x) (b:=y)
 cases e:rd (bc M) M.tb.length (gM M) rs (s+1) x y with
 |none=>
  refine⟨-1,rfl,?_⟩
  rw[e]at hi
  have:pM M rs s x y=false:=by
   cases hh:pM M rs s x y with
   |false=>rfl
   |true=>exact absurd (hi.mpr ⟨ho,hh⟩) (by simp)
  rw[this,aQ];omega
 |some k=>
  refine⟨(k:Nat),rfl,?_⟩
  rw[e]at hi
  by_cases hk:k=s
  ·subst hk
   have h2:pM M rs k x y=true:=(hi.mp rfl).2
   rw[h2];simp
  ·have:pM M rs s x y=false:=by
    cases hh:pM M rs s x y with
    |false=>rfl
    |true=>exact absurd (hi.mpr ⟨ho,hh⟩) (by simp;exact hk)
   rw[this,aQ];omega
theorem Kj{M:Mc}(hM:Rm M N rs){st:List aj}{r d s:Nat}(hr:st[r]?=some (.lst (eY rs)))(hd:cV st (.loc d)=some (d,kvs))(hD:j_ M rs s kvs){a b:Nat}(ha:a∈rs)(hb:b∈rs)(ho:qt M rs s a b=true)(hs:s<=100000) :
  zc [M.w,.loc r,.loc d,.tup [.int (a:Nat),.int (b:Nat)],.int (s:Nat)] st=.ok ((zo (bc M) M.tb.length (gM M) rs s a b).getD .non) st:=by
 have gd:∀x∈rs,bu (.tup (M.gd.map W.bl)) (.int (x:Nat)) st=.ok (.bl (gM M x)) st:=fun x hx=>i8 (d9 (by
  rw[ak,ae (by rw[hM.ok.gd];exact hM.lt x hx)]
  simp[gM,aE,ae (show x<M.gd.length by rw[hM.ok.gd];exact hM.lt x hx)]))
 cases s with
 |zero=>
  refine iQ ?_
  refine gu (bX (bJ kv cP (io rfl))) ?_
  have mJ:Ai (.bl (gM M a)) (.bl (gM M b)) st=.ok (.bl (gM M a != gM M b)) st:=by cases gM M a<;>cases gM M b<;>rfl
  have tsx:eV (e2 Ai (e2 bu (e2 bu (ac 0) (eI 1)) (e2 bu (ac 3) (eI 0))) (e2 bu (e2 bu (ac 0) (eI 1)) (e2 bu (ac 3) (eI 1)))) ([M.w,.loc r,.loc d,.tup [.int (a:Nat),.int (b:Nat)],.int 0].map some++List.replicate (10-5) none) st=.ok (gM M a != gM M b) st:=
   bX (bJ (bJ kx kx (gd a ha)) (bJ kx kx (gd b hb)) mJ)
  have wu:zo (bc M) M.tb.length (gM M) rs 0 a b=if (gM M a != gM M b)=true then some (.tup [])else none:=rfl
  rw[wu]
  refine qY ?_
  cases hg:gM M a != gM M b with
  |true=>
   rw[hg]at tsx
   refine gu tsx ?_
   exact fH (gi bt (by show 0<=1000000;omega)) ⟨_,_,rfl,rfl,rfl⟩
  |false=>
   rw[hg]at tsx
   refine cx tsx (cK ?_)
   exact fH cP ⟨_,_,rfl,rfl,rfl⟩
 |succ s=>
  refine iQ ?_
  refine cx (bX (bJ kv cP (io (by rw[aQ];omega)))) (cK ?_)
  have hsub:lP (.int ((s+1:Nat):Int)) (.int 1) st=.ok (.int (s:Nat)) st:=by
   rw[show((s:Nat):Int)=((s+1:Nat):Int)-1 by omega];exact lz (by trivial)
  have eL:cU [.tup (M.tb.map dY)] st=.ok (.int (M.tb.length:Nat)) st:=by
   have:=jh (ws:=M.tb.map dY) (st:=st)
   rw[ai]at this;exact this
  have hLl:M.tb.length<=10000:=by
   have:=hM.sz
   have h0:0<rs.length:=iC ha
   exact a_ (mi _ (by omega)) this
  have pK:zo (bc M) M.tb.length (gM M) rs (s+1) a b=(bq 0 M.tb.length).findSome? fun w=>[W.int 0,W.int 1].findSome? fun u=>(eY rs).findSome? fun v=>if pM M rs s (led (bc M) (i_ w,i_ u,i_ v) a) (led (bc M) (i_ w,i_ u,i_ v) b)=true then some (DZ (i_ w,i_ u,i_ v))else none:=by
   show(((lA M.tb.length rs).find? fun p=>ap (bc M) M.tb.length (gM M) rs s (led (bc M) p a) (led (bc M) p b)).map DZ)=_
   rw[Ht]
   unfold bq eY
   simp only[sD,cX,List.findSome?_nil]
   congr 1
   funext k
   rw[show i_ (W.int (0+(k:Int)))=k by rw[cR];exact ja k,show i_ (.int 0)=0 from rfl,show i_ (.int 1)=1 from rfl]
   simp only[ja]
  rw[pK]
  refine Hu (I:=fun ρ=>∃o5 o6 o7 o8 o9,ρ=[some M.w,lO r,lO d,some (.tup [.int (a:Nat),.int (b:Nat)]),iO ((s+1:Nat):Int),o5,o6,o7,o8,o9]) (st:=st) (rg (k:=(bq 0 M.tb.length,none)) (st1:=st) _ (fun w=>[W.int 0,W.int 1].findSome? fun u=>(eY rs).findSome? fun v=>if pM M rs s (led (bc M) (i_ w,i_ u,i_ v) a) (led (bc M) (i_ w,i_ u,i_ v) b)=true then some (DZ (i_ w,i_ u,i_ v))else none) (by have:=c7 (ρ:=([M.w,.loc r,.loc d,.tup [.int (a:Nat),.int (b:Nat)],.int ((s+1:Nat):Int)].map some++List.replicate (10-5) none:bQ)) (fs:=af (bg cU (af (e2 bu (ac 0) (eI 2)) aB)) aB) (ay (bi (ay kx bt) eL) bt) (by omega);rwa[show((M.tb.length:Nat):Int).toNat=M.tb.length by omega]at this) trivial ⟨_,_,_,_,_,rfl⟩ ?_) ?_ ?_
  ·rintro w hw ρ ⟨o5,o6,o7,o8,o9,rfl⟩
   obtain⟨k,hk,rfl⟩:=oz hw
   rw[cR,ja]
   obtain⟨t,ht⟩:∃t,M.tb[k]?=some t:=⟨_,ae hk⟩
   refine⟨_,rfl,?_⟩
   refine sE (bU (bJ kx kv (i8 (d9 (by rw[ak,ht];rfl))))) ?_
   refine D4.imp (I:=fun ρ=>∃o7 o8 o9,ρ=[some M.w,lO r,lO d,some (.tup [.int (a:Nat),.int (b:Nat)]),iO ((s+1:Nat):Int),iO (k:Nat),some (dY t),o7,o8,o9]) (rg (k:=([W.int 0,W.int 1],none)) (st1:=st) _ _ (kZ (gi (ay cP (ay cP bt)) (by show 2<=1000000;decide))) trivial ⟨_,_,_,rfl⟩ ?_) fun ρ ⟨_,_,_,e⟩=>⟨_,_,_,_,_,e⟩
   rintro u hu ρ ⟨o7,o8,o9,rfl⟩
   obtain⟨sd,hsd,rfl⟩:∃sd:Nat,sd<=1/\u=.int (sd:Nat):=by
    simp only[aK,iX,qH]at hu
    rcases hu with rfl|rfl
    ·exact⟨0,by omega,rfl⟩
    ·exact⟨1,by omega,rfl⟩
   rw[ja]
   refine⟨_,rfl,?_⟩
   refine D4.imp (I:=fun ρ=>∃o8 o9,ρ=[some M.w,lO r,lO d,some (.tup [.int (a:Nat),.int (b:Nat)]),iO ((s+1:Nat):Int),iO (k:Nat),some (dY t),iO (sd:Nat),o8,o9]) (rg (k:=(eY rs,some (r,eY rs))) (st1:=st) _ _ (fM kv (aO hr)) (aO hr) ⟨_,_,rfl⟩ ?_) fun ρ ⟨_,_,e⟩=>⟨_,_,_,e⟩
   rintro v hv ρ ⟨o8,o9,rfl⟩
   obtain⟨c,hc,rfl⟩:=AY hv
   rw[ja]
   refine⟨_,rfl,?_⟩
   have ix:∀{x y:Nat},x∈rs->y∈rs->∃row,bu (dY t) (.int (x:Nat)) st=.ok (g7 row) st/\bu (g7 row) (.int (y:Nat)) st=.ok (.int (bc M k x y:Nat)) st:=fun hx hy=>by
    obtain⟨row,e1,e2,_⟩:=vP hM.ok ht (hM.lt _ hx) (hM.lt _ hy)
    exact⟨row,vQ e1,vR e2⟩
   obtain⟨r1,i1,i1'⟩:=ix hc ha
   obtain⟨r2,i2,i2'⟩:=ix hc hb
   obtain⟨r3,i3,i3'⟩:=ix ha hc
   obtain⟨r4,i4,i4'⟩:=ix hb hc
   refine sE (bU (gi (ay (bJ (bJ kv kv i1) kx i1') (ay (bJ (bJ kv kv i2) kx i2') bt)) (by show 2<=1000000;decide))) ?_
   have hp:(k,sd,c)∈lA M.tb.length rs:=by
    unfold lA
    rw[iW]
    refine⟨k,aM.mpr hk,?_⟩
    rw[aL]
    rcases(show sd=0\/sd=1 by omega)with rfl|rfl
    ·exact .inl (ar.mpr ⟨c,hc,rfl⟩)
    ·exact .inr (ar.mpr ⟨c,hc,rfl⟩)
   obtain⟨z,hz,hze⟩:=OL hD (hM.led hp ha) (hM.led hp hb) (J6 ho hp)
   have hlw:W.tup [.int (led (bc M) (k,sd,c) a:Nat),.int (led (bc M) (k,sd,c) b:Nat)]=.tup (([(led (bc M) (k,sd,c) a:Nat),(led (bc M) (k,sd,c) b:Nat)]:List Int).map W.int):=rfl
   have fin:∀o8:Option W,D4 (fun ρ=>∃o8 o9,ρ=[some M.w,lO r,lO d,some (.tup [.int (a:Nat),.int (b:Nat)]),iO ((s+1:Nat):Int),iO (k:Nat),some (dY t),iO (sd:Nat),o8,o9]) st (if pM M rs s (led (bc M) (k,sd,c) a) (led (bc M) (k,sd,c) b)=true then some (DZ (k,sd,c))else none)
     ((iP (eV (e2 nu (tU (ac 2) (ac 9) (yB (eI 1))) (e2 lP (ac 4) (eI 1)))) (dH (d5 (af (ac 5) (af (ac 7) (af (ac 8) aB))))) cE) [some M.w,lO r,lO d,some (.tup [.int (a:Nat),.int (b:Nat)]),iO ((s+1:Nat):Int),iO (k:Nat),some (dY t),iO (sd:Nat),iO (c:Nat),some (W.tup [.int (led (bc M) (k,sd,c) a:Nat),.int (led (bc M) (k,sd,c) b:Nat)])] st):=fun _=>by
    have tsx:=bX (bJ (f:=nu) (ρ:=[some M.w,lO r,lO d,some (.tup [.int (a:Nat),.int (b:Nat)]),iO ((s+1:Nat):Int),iO (k:Nat),some (dY t),iO (sd:Nat),iO (c:Nat),some (W.tup [.int (led (bc M) (k,sd,c) a:Nat),.int (led (bc M) (k,sd,c) b:Nat)])]) (Ki (fo:=ac 2) (fk:=ac 9) (fd:=yB (eI 1)) kv hd kv (by rw[hlw];exact xu _) (FU cP) (hD.ok _)) (bJ (fa:=ac 4) (fb:=eC (.int 1)) kv cP hsub) (by rw[hz];exact io hze))
    cases hap:pM M rs s (led (bc M) (k,sd,c) a) (led (bc M) (k,sd,c) b)with
    |true=>
     rw[hap]at tsx
     rw[pD tsx (m_ (gi (ay kv (ay kv kn)) (by show 3<=1000000;decide)))]
     rfl
    |false=>
     rw[hap]at tsx
     rw[pE tsx rfl]
     exact⟨_,rfl,_,_,rfl⟩
   rcases(show sd=0\/sd=1 by omega)with rfl|rfl
   ·refine sE (pD (bX (bJ kv cP (io rfl))) (bU (gi (ay (bJ (bJ kv kx i3) kv i3') (ay (bJ (bJ kv kx i4) kv i4') bt)) (by show 2<=1000000;decide)))) ?_
    exact fin none
   ·refine sE (pE (bX (bJ kv cP (io rfl))) wS) ?_
    exact fin none
  ·intro w hw
   exact⟨_,_,rfl,by rw[hw];rfl,rfl⟩
  ·rintro hw ρ ⟨o5,o6,o7,o8,o9,rfl⟩
   exact⟨_,_,m_ cP,by rw[hw];rfl,rfl⟩
theorem vX{g:FS}{Pr:RS->Prop}(I:Nat->bQ->List aj->Prop)(n:Nat){st:List aj}(h:I n ρ st)
  (hs:∀n ρ st,I n ρ st->t ρ st=.ok true st/\gs (fun r=>(∃w s,r=.rt w s/\Pr (.rt w s))\/∃ρ2 cM m,r=.nx ρ2 cM/\m<n/\I m ρ2 cM) (g ρ st)):gs Pr (jY t g ρ st):=by
 have key:∀(k n:Nat) (ρ:bQ) (st:List aj),n<k->I n ρ st->∃w s,eW t g k ρ st=.rt w s/\Pr (.rt w s):=by
  intro k
  induction k with
  |zero=>intro n _ _ h;exact absurd h (b8 _)
  |succ k ih=>
   intro n ρ st hk hI
   obtain⟨e,hh⟩:=hs n ρ st hI
   rcases show _\/_ from hh with⟨w,s,e2,p⟩|⟨ρ2,cM,m,e2,hm,h2⟩
   ·exact⟨w,s,by unfold eW;rw[e];simp only[R.stmt_ok,dF,e2],p⟩
   ·obtain⟨w,s,e3,p⟩:=ih m ρ2 cM (by omega) h2
    exact⟨w,s,by unfold eW;rw[e];simp only[R.stmt_ok,dF,e2];exact e3,p⟩
 obtain⟨w,s,e,p⟩:=key (n+1) n ρ st (gZ n) h
 show Pr _
 rw[vi e (by simp)];exact p
theorem uq{f g:α->List β}:∀{l:List α},(∀a∈l,f a=g a)->l.flatMap f=l.flatMap g
 |[],_=>rfl
 |a::l,h=>by rw[iF,iF,h a aN,uq fun b hb=>h b (aA _ hb)]
theorem zy:∀{l:List Nat},l.Pairwise (· < ·)->gK l=l.flatMap fun a=>(l.filter fun b=>decide (a<b)).map fun b=>(a,b)
 |[],_=>rfl
 |x::r,h=>by
  obtain⟨h1,h2⟩:=b_.mp h
  rw[iF]
  show r.map (fun y=>(x,y))++gK r=_
  congr 1
  ·rw[bZ,az (by simp),List.filter_eq_self.mpr fun a ha=>bH (h1 a ha)]
  ·rw[zy h2]
   refine uq fun a ha=>?_
   rw[bZ,az (by have:=h1 a ha;simp;omega)]
section
variable{M:Mc}
def ml(M:Mc)(rs:List Nat)(s a:Nat)(l:List Nat):List W:=(l.filter fun b=>decide (a<b)&&(qt M rs s a b&&pM M rs s a b)).map fun b=>j9 M rs s (a,b)
theorem Kk(zQ:rs.Pairwise (· < ·))(s:Nat):(rs.flatMap fun a=>ml M rs s a rs)=(fK M rs s).map (j9 M rs s):=by
 unfold fK pJ
 rw[zy zQ,List.filter_flatMap,List.map_flatMap]
 refine uq fun a _=>?_
 unfold ml
 rw[nj,aS,List.filter_filter]
 show _=List.map (fun b=>j9 M rs s (a,b)) _
 congr 1
 refine List.filter_congr fun b _=>?_
 rw[Bool.and_comm];rfl
theorem zz(s a b:Nat):qt M rs s a b=qt M rs s b a:=by
 cases s with
 |zero=>rfl
 |succ s=>show(!ap _ _ _ _ s a b)=(!ap _ _ _ _ s b a);rw[iq]
theorem zA(k k':KX)(v:W):∀kvs:List (KX×W),eQ (kvs.map fun p=>if p.1=k then(p.1,v)else p) k'=if k'=k then(eQ kvs k).map (fun _=>v)else eQ kvs k'
 |[]=>by simp[eQ]
 |p::l=>by
  rw[aF,iR,iR,iR,zA k k' v l]
  by_cases hp:p.1=k
  ·rw[am hp]
   by_cases hk:k'=k
   ·rw[am (show(p.1,v).1=k' from hp.trans hk.symm),am hk,am hp];rfl
   ·rw[az (show ¬ (p.1,v).1=k' from fun z=>hk (z.symm.trans hp)),az hk,az hk,az (fun z:p.1=k'=>hk (z.symm.trans hp))]
  ·rw[az hp]
   by_cases hk:k'=k
   ·rw[az (fun z=>hp (z.trans hk)),am hk,am hk,az hp]
   ·rw[az hk,az hk]
theorem zB(k k':KX)(v:W):∀kvs:List (KX×W),eQ (kvs++[(k,v)]) k'=match eQ kvs k' with|some w=>some w|none=>if k=k' then some v else none
 |[]=>by rw[jp,iR];rfl
 |p::l=>by
  rw[mh,iR,iR,zB k k' v l]
  by_cases hp:p.1=k'
  ·rw[am hp,am hp]
  ·rw[az hp,az hp]
theorem zC(kvs:List (KX×W))(k k':KX)(v:W):eQ (iG kvs k v) k'=if k'=k then some v else eQ kvs k':=by
 unfold iG
 by_cases h:(eQ kvs k).isSome=true
 ·rw[am h,zA]
  by_cases hk:k'=k
  ·rw[am hk,am hk]
   obtain⟨w,hw⟩:=lF.mp h
   rw[hw];rfl
  ·rw[az hk,az hk]
 ·rw[az h,zB]
  have hn:eQ kvs k=none:=by cases e:eQ kvs k with|none=>rfl|some w=>rw[e]at h;exact absurd rfl h
  by_cases hk:k'=k
  ·subst hk;rw[hn,am rfl]
  ·rw[az hk]
   cases eQ kvs k' with
   |some w=>rfl
   |none=>simp only;rw[az (fun z=>hk z.symm)]
theorem rh{k:KX}{v:W}{t:Nat}(h:∀p∈kvs,p.1.tag=t)(hk:k.tag=t):∀p∈iG kvs k v,p.1.tag=t:=by
 unfold iG
 intro p hp
 split at hp
 ·obtain⟨q,hq,rfl⟩:=ar.mp hp
  split
  ·exact h q hq
  ·exact h q hq
 ·rcases aL.mp hp with z|z
  ·exact h p z
  ·simp at z;subst z;exact hk
theorem ur(kvs:List (KX×W))(k:KX)(v:W):(iG kvs k v).length<=kvs.length+1:=by
 unfold iG
 split
 ·rw[ai];omega
 ·simp
end
theorem sF{y:List aj}{z:Nat×List (KX×W)}(h:cV S (.loc n)=some z):cV (S++y) (.loc n)=some z:=by
 unfold cV at h ⊢
 cases e:S[n]? with
 |none=>simp only[e]at h;cases h
 |some c=>simp only[e]at h;simp only[aJ e];exact h
theorem R_{k:KX}{y:W}{b:Bool}(hd:cV S (.loc n)=some (n,kvs))(hk:j6 y=some k)(ok:r6 kvs k=true)(hb:(!(eQ kvs k).isSome)=b):wL true y (.loc n) S=.ok (.bl b) S:=by
 unfold wL
 simp only[hd,hk,ok,dF,hb]
theorem Hv{k:KX}{y v:W}(hd:cV S (.loc n)=some (n,kvs))(hk:j6 y=some k)(ok:r6 kvs k=true):rG (.loc n) y v S=some (S.set n (.dcx (iG kvs k v))):=by
 unfold rG
 simp only[hd,hk,ok,dF]
theorem Sa(a b:Nat):W.tup [.int (a:Nat),.int (b:Nat)]=.tup (([(a:Nat),(b:Nat)]:List Int).map W.int):=rfl
theorem A1(a b:Nat):j6 (.tup [.int (a:Nat),.int (b:Nat)])=some (.fl [(a:Nat),(b:Nat)]):=by rw[Sa];exact xu _
section
variable{M:Mc}
theorem j_.not{s:Nat}(h:j_ M rs s kvs){a b:Nat}(ha:a∈rs)(hb:b∈rs):(!(eQ kvs (.fl [(a:Nat),(b:Nat)])).isSome)=qt M rs s a b:=by
 rw[h.at' a ha b hb,gE]
 have hn:=qr (T:=bc M) (L:=M.tb.length) (g:=gM M) (rs:=rs) (s:=s) (a:=a) (b:=b)
 cases e:rd (bc M) M.tb.length (gM M) rs s a b with
 |none=>exact(hn.mp e).symm
 |some k=>
  cases ho:qt M rs s a b with
  |false=>rfl
  |true=>rw[hn.mpr ho]at e;cases e
theorem Sb{s a b:Nat}{w:W}(h:zo (bc M) M.tb.length (gM M) rs s a b=some w):w.isNon=false:=by
 cases s with
 |zero=>
  have h':(if ap (bc M) M.tb.length (gM M) rs 0 a b=true then some (W.tup [])else none)=some w:=h
  split at h'
  ·cases h';rfl
  ·cases h'
 |succ s=>
  obtain⟨q,_,rfl⟩:=aX.mp (show(((lA M.tb.length rs).find? fun q=>ap (bc M) M.tb.length (gM M) rs s (led (bc M) q a) (led (bc M) q b)).map DZ)=some w from h)
  rfl
theorem Hw{s a b:Nat}(hb:rs[i]?=some b):ml M rs s a (rs.take (i+1))=ml M rs s a (rs.take i)++if (decide (a<b)&&(qt M rs s a b&&pM M rs s a b))=true then[j9 M rs s (a,b)]else[]:=by
 unfold ml
 rw[eA,hb,List.filter_append,bV]
 congr 1
 show List.map _ (List.filter _ [b])=_
 rw[bZ]
 split<;>rfl
theorem CC(s a:Nat)(l:List Nat):(ml M rs s a l).length<=l.length:=by unfold ml;rw[ai];exact fj _ _
abbrev Pi:FS:=(dX (cY (ac 1)) (eE 7) (iP (Ef (eV (e2 yt (ac 6) (ac 7))) (eV (e2 (wL true) (d5 (af (ac 6) (af (ac 7) aB))) (ac 3)))) (aV (bM 8 (d7 5 zc (af (ac 0) (af (ac 1) (af (ac 3) (af (d5 (af (ac 6) (af (ac 7) aB))) (af (ac 4) aB))))))) (iP (eV (vf (ac 8))) (fw (rW c9 (ac 5) (af (d5 (af (ac 6) (af (ac 7) (af (ac 4) (af (ac 8) aB))))) aB))) cE)) cE))
theorem Hy(hM:Rm M N rs){r f dn s a:Nat}{L0:List W}(cr:S[r]?=some (.lst (eY rs)))(hd:cV S (.loc dn)=some (dn,kvs))(hD:j_ M rs s kvs)(hs:s<=100000)(ha:a∈rs)(hL:L0.length<=100000)(o7 o8 o9:Option W) :
  gs (JN fun ρ s'=>∃o7 o8,ρ=[some M.w,lO r,lO f,lO dn,iO (s:Nat),lO S.length,iO (a:Nat),o7,o8,o9]/\s'=S++[.lst (L0++ml M rs s a rs)])
   (Pi [some M.w,lO r,lO f,lO dn,iO (s:Nat),lO S.length,iO (a:Nat),o7,o8,o9] (S++[.lst L0])):=by
 have dk:=hM.len
 refine nV (k:=(eY rs,some (r,eY rs))) (fun i ρ s'=>∃o7 o8,ρ=[some M.w,lO r,lO f,lO dn,iO (s:Nat),lO S.length,iO (a:Nat),o7,o8,o9]/\s'=S++[.lst (L0++ml M rs s a (rs.take i))]) (fM kv (aO (aJ cr))) ⟨o7,o8,rfl,by simp[ml]⟩ ?_ ?_ ?_
 ·rintro i ρ s' ⟨o7,o8,rfl,rfl⟩
  exact aO (aJ cr)
 ·rintro i w ρ s' hw ⟨o7,o8,rfl,rfl⟩
  rw[ak]at hw
  obtain⟨b,hb,rfl⟩:=aX.mp hw
  have hbm:b∈rs:=al hb
  refine⟨_,rfl,?_⟩
  rw[Hw hb]
  have hfl:=CC (M:=M) (rs:=rs) s a (rs.take i)
  rw[a7]at hfl
  generalize hL1:ml M rs s a (rs.take i)=L1 at hfl ⊢
  have tsx:Ef (eV (e2 yt (ac 6) (ac 7))) (eV (e2 (wL true) (d5 (af (ac 6) (af (ac 7) aB))) (ac 3))) ([some M.w,lO r,lO f,lO dn,iO (s:Nat),lO S.length,iO (a:Nat),o7,o8,o9].set 7 (iO (b:Nat))) (S++[.lst (L0++L1)])=.ok (decide (a<b)&&qt M rs s a b) (S++[.lst (L0++L1)]):=
   FX (bX (bJ kv kv (nR (by rw[gr];simp)))) (bX (bJ (gi (ay kv kn) (by show 2<=1000000;decide)) kv (R_ (sF hd) (A1 a b) (hD.ok _) (hD.not ha hbm))))
  cases hc:decide (a<b)&&qt M rs s a b with
  |false=>
   rw[hc]at tsx
   refine iJ tsx ⟨_,_,rfl,_,_,rfl,?_⟩
   rw[az (by
    intro z
    rw[a8,a8]at z
    rw[z.1,z.2.1]at hc;cases hc)]
   rw[bP]
  |true=>
   rw[hc]at tsx
   have hc2:=hc
   rw[a8]at hc2
   have ho:=hc2.2
   have ew:=Kj hM (st:=S++[.lst (L0++L1)]) (aJ cr) (sF hd) hD ha hbm ho hs
   have wso:=G6 (T:=bc M) (L:=M.tb.length) (g:=gM M) (rs:=rs) ho
   refine jy tsx ?_
   apply aG
   ·exact bU (d8 (ay kv (ay kv (ay kv (ay (gi (ay kv kn) (by show 2<=1000000;decide)) kn)))) ew rfl)
   cases hwy:zo (bc M) M.tb.length (gM M) rs s a b with
   |none=>
    rw[hwy]at wso
    refine iJ (bX (AF kv rfl)) ⟨_,_,rfl,_,_,rfl,?_⟩
    rw[az (by
     intro z
     rw[a8,a8]at z
     have z2:ap (bc M) M.tb.length (gM M) rs s a b=true:=z.2.2
     rw[z2]at wso;cases wso)]
    rw[bP]
   |some ww=>
    rw[hwy]at wso
    have hap:pM M rs s a b=true:=wso.symm
    refine jy (bX (AF kv (by show(!ww.isNon)=true;rw[Sb hwy];rfl))) ?_
    refine⟨_,_,fz (nv kv (eG bw) (ay (gi (ay kv (ay kv (ay kv kn))) (by show 4<=1000000;decide)) bt) (rJ bw (by rw[aC];show _<1000000;omega))),_,_,rfl,?_⟩
    rw[fC,am (by rw[hc2.1,ho,hap];rfl)]
    show S++[aj.lst (L0++L1++[_])]=S++[aj.lst (L0++(L1++[j9 M rs s (a,b)]))]
    rw[aw]
    unfold j9 G4
    rw[hwy]
 ·rintro ρ s' ⟨o7,o8,rfl,rfl⟩
  rw[ai,eS]
  exact⟨_,_,rfl,_,_,rfl,rfl⟩
theorem Hz(hM:Rm M N rs)(zQ:rs.Pairwise (· < ·)){r f dn s:Nat}(cr:S[r]?=some (.lst (eY rs)))(hd:cV S (.loc dn)=some (dn,kvs))(hD:j_ M rs s kvs)(hs:s<=100000){P:RS->Prop}{rest:FS}{o6 o7 o8 o9:Option W}
  (l8:∀o6 o7 o8,gs P (rest [some M.w,lO r,lO f,lO dn,iO (s:Nat),lO S.length,o6,o7,o8,o9] (S++[.lst ((fK M rs s).map (j9 M rs s))]))) :
  gs P (aV (dX (cY (ac 1)) (eE 6) Pi) rest [some M.w,lO r,lO f,lO dn,iO (s:Nat),lO S.length,o6,o7,o8,o9] (S++[.lst []])):=by
 have dk:=hM.len
 refine c_ (k:=(eY rs,some (r,eY rs))) (fun i ρ s'=>∃o6 o7 o8,ρ=[some M.w,lO r,lO f,lO dn,iO (s:Nat),lO S.length,o6,o7,o8,o9]/\s'=S++[.lst ((rs.take i).flatMap fun a=>ml M rs s a rs)]/\((rs.take i).flatMap fun a=>ml M rs s a rs).length<=i*100) (fM kv (aO (aJ cr))) ⟨o6,o7,o8,rfl,by simp,by simp⟩ ?_ ?_ ?_
 ·rintro i ρ s' ⟨o6,o7,o8,rfl,rfl,_⟩
  exact aO (aJ cr)
 ·rintro i w ρ s' hw ⟨o6,o7,o8,rfl,rfl,hll⟩
  rw[ak]at hw
  obtain⟨a,ha,rfl⟩:=aX.mp hw
  have hi:i<rs.length:=(aa.mp ha).1
  refine⟨_,rfl,?_⟩
  obtain⟨ρ2,s2,e,o7',o8',rfl,rfl⟩:=Hy hM (f:=f) cr hd hD hs (al ha) (L0:=(rs.take i).flatMap fun a=>ml M rs s a rs) (by omega) o7 o8 o9
  have hfl:=CC (M:=M) (rs:=rs) s a rs
  have et:(rs.take (i+1)).flatMap (fun a=>ml M rs s a rs)=((rs.take i).flatMap fun a=>ml M rs s a rs)++ml M rs s a rs:=by
   rw[eA,ha,jC];simp
  exact⟨_,_,e,_,_,_,rfl,by rw[et],by rw[et,aC];omega⟩
 ·rintro ρ s' ⟨o6,o7,o8,rfl,rfl,_⟩
  rw[ai,eS,Kk zQ]
  exact l8 o6 o7 o8
end
theorem A2{z:Nat×List (KX×W)}{l:List W}(h:cV S (.loc n)=some z)(hm:S[m]?=some (.lst l)):m≠n:=fun e=>by
 subst e
 unfold cV at h
 simp only[hm]at h
 cases h
theorem HA{z:Nat×List (KX×W)}(h:cV S (.loc n)=some z):n<S.length:=by
 unfold cV at h
 cases e:S[n]? with
 |none=>simp only[e]at h;cases h
 |some c=>exact(aa.mp e).1
theorem CD{S:List aj}(h:n<S.length):cV (S.set n (.dcx kvs)) (.loc n)=some (n,kvs):=by
 unfold cV
 simp only[bh h]
section
variable{M:Mc}
abbrev UX:FS:=(aV (lx (ac 3) (d5 (af (e2 bu (ac 9) (eI 0)) (af (e2 bu (ac 9) (eI 1)) aB))) (ac 4) rG) (lx (ac 3) (d5 (af (e2 bu (ac 9) (eI 1)) (af (e2 bu (ac 9) (eI 0)) aB))) (ac 4) rG))
theorem Sc{a b c d:Nat}:(KX.fl [(a:Nat),(b:Nat)]=KX.fl [(c:Nat),(d:Nat)])↔a=c/\b=d:=by
 rw[KX.fl.injEq]
 simp only[nh,and_true]
 omega
structure Ie(M:Mc)(rs:List Nat)(s:Nat)(Q:List (Nat×Nat))(m:Nat)(kvs:List (KX×W)):Prop where
 at':∀x∈rs,∀y∈rs,eQ kvs (.fl [(x:Nat),(y:Nat)])=if (x,y)∈Q\/(y,x)∈Q then some (.int (s:Nat))else(rd (bc M) M.tb.length (gM M) rs s x y).map fun k=>W.int (k:Nat)
 tag:∀p∈kvs,p.1.tag=1
 len:kvs.length<=m+2*Q.length
theorem Ie.okk{s:Nat}{Q:List (Nat×Nat)}(h:Ie M rs s Q m kvs)(hm:m+2*Q.length<=30000)(l:List Int):r6 kvs (.fl l)=true:=by
 unfold r6 tS
 have a:(kvs.all fun p=>p.1.tag==(KX.fl l).tag)=true:=by rw[cD];intro p hp;rw[h.tag p hp];rfl
 rw[a]
 have:=h.len
 have hl:kvs.length<jw:=by show _<1000000;omega
 simp[KX.tag,hl]
theorem Ie.step{s:Nat}{Q:List (Nat×Nat)}(h:Ie M rs s Q m kvs)(p:Nat×Nat):Ie M rs s (Q++[p]) m (iG (iG kvs (.fl [(p.1:Nat),(p.2:Nat)]) (.int (s:Nat))) (.fl [(p.2:Nat),(p.1:Nat)]) (.int (s:Nat))):=by
 refine⟨fun x hx y hy=>?_,rh (rh h.tag rfl) rfl,?_⟩
 ·rw[zC,zC,h.at' x hx y hy]
  simp only[Sc,aL,bz]
  by_cases h1:x=p.2/\y=p.1
  ·rw[am h1,am (.inr (.inr (by rw[h1.1,h1.2])))]
  ·rw[az h1]
   by_cases h2:x=p.1/\y=p.2
   ·rw[am h2,am (.inl (.inr (by rw[h2.1,h2.2])))]
   ·rw[az h2]
    have n1:¬ (x,y)=p:=fun z=>h2 (by rw[<- z];exact⟨rfl,rfl⟩)
    have n2:¬ (y,x)=p:=fun z=>h1 (by rw[<- z];exact⟨rfl,rfl⟩)
    simp only[n1,n2,qH]
 ·have a:=ur (iG kvs (.fl [(p.1:Nat),(p.2:Nat)]) (.int (s:Nat))) (.fl [(p.2:Nat),(p.1:Nat)]) (.int (s:Nat))
  have b:=ur kvs (.fl [(p.1:Nat),(p.2:Nat)]) (.int (s:Nat))
  have:=h.len
  rw[aC];simp;omega
theorem Ie.done{s:Nat}(zQ:rs.Pairwise (· < ·))(h:Ie M rs s (fK M rs s) m kvs)(hm:m+2*(fK M rs s).length<=30000):j_ M rs (s+1) kvs:=by
 refine⟨fun x hx y hy=>?_,h.tag,by have:=h.len;omega⟩
 rw[h.at' x hx y hy,zp]
 have hn:=qr (T:=bc M) (L:=M.tb.length) (g:=gM M) (rs:=rs) (s:=s) (a:=x) (b:=y)
 have mem:∀{u v:Nat},(u,v)∈fK M rs s↔(u∈rs/\v∈rs/\u<v)/\qt M rs s u v=true/\pM M rs s u v=true:=fun{u v}=>by
  unfold fK pJ
  rw[de,xq zQ,a8]
 have key:((x,y)∈fK M rs s\/(y,x)∈fK M rs s)↔qt M rs s x y=true/\pM M rs s x y=true:=by
  rw[mem,mem]
  constructor
  ·rintro(⟨_,z⟩|⟨_,z1,z2⟩)
   ·exact z
   ·exact⟨by rw[zz];exact z1,by unfold pM;rw[iq];exact z2⟩
  ·rintro⟨z1,z2⟩
   rcases gH x y with c|c|c
   ·exact .inl ⟨⟨hx,hy,c⟩,z1,z2⟩
   ·subst c
    have:pM M rs s x x=false:=uj s x
    rw[this]at z2;cases z2
   ·exact .inr ⟨⟨hy,hx,c⟩,by rw[zz];exact z1,by unfold pM;rw[iq];exact z2⟩
 cases e:rd (bc M) M.tb.length (gM M) rs s x y with
 |some k=>
  rw[az]
  intro z
  rw[key]at z
  rw[hn.mpr z.1]at e;cases e
 |none=>
  have ho:qt M rs s x y=true:=hn.mp e
  by_cases z:pM M rs s x y=true
  ·rw[am (key.mpr ⟨ho,z⟩)]
   simp only
   rw[am z];rfl
  ·rw[az (fun q=>z (key.mp q).2)]
   simp only
   rw[az z]
theorem D5{r f dn s fr:Nat}(hd:cV S (.loc dn)=some (dn,kvs))(h0:Ie M rs s [] m kvs)(cf:S[fr]?=some (.lst ((fK M rs s).map (j9 M rs s))))(hm:m+2*(fK M rs s).length<=29000){P:RS->Prop}{rest:FS}{o6 o7 o8 o9:Option W}
  (l8:∀c lD o9,cV (S.set dn c) (.loc dn)=some (dn,lD)->Ie M rs s (fK M rs s) m lD->gs P (rest [some M.w,lO r,lO f,lO dn,iO (s:Nat),lO fr,o6,o7,o8,o9] (S.set dn c))) :
  gs P (aV (dX (cY (ac 5)) (eE 9) UX) rest [some M.w,lO r,lO f,lO dn,iO (s:Nat),lO fr,o6,o7,o8,o9] S):=by
 have hfd:=A2 hd cf
 have ny:=HA hd
 refine c_ (k:=((fK M rs s).map (j9 M rs s),some (fr,(fK M rs s).map (j9 M rs s)))) (fun j ρ S'=>∃c lD o9,ρ=[some M.w,lO r,lO f,lO dn,iO (s:Nat),lO fr,o6,o7,o8,o9]/\S'=S.set dn c/\cV S' (.loc dn)=some (dn,lD)/\Ie M rs s ((fK M rs s).take j) m lD) (fM kv (aO cf)) ⟨S[dn],kvs,o9,rfl,by simp,hd,h0⟩ ?_ ?_ ?_
 ·rintro j ρ S' ⟨c,lD,o9,rfl,rfl,_,_⟩
  exact aO (by rw[bp (fun z=>hfd z.symm)];exact cf)
 ·rintro j w ρ S' hw ⟨c,lD,o9,rfl,rfl,hd',hJ⟩
  rw[ak]at hw
  obtain⟨p,hp,rfl⟩:=aX.mp hw
  have hj:j<(fK M rs s).length:=(aa.mp hp).1
  have htl:((fK M rs s).take j).length<=(fK M rs s).length:=by rw[a7];omega
  refine⟨_,rfl,?_⟩
  have ok1:=hJ.okk (by omega) [(p.1:Nat),(p.2:Nat)]
  have hlt':dn<(S.set dn c).length:=by rw[hV];exact ny
  have CN:=CD (S:=S.set dn c) (kvs:=iG lD (.fl [(p.1:Nat),(p.2:Nat)]) (.int (s:Nat))) hlt'
  have ok2:r6 (iG lD (.fl [(p.1:Nat),(p.2:Nat)]) (.int (s:Nat))) (.fl [(p.2:Nat),(p.1:Nat)])=true:=by
   unfold r6 tS
   have a:((iG lD (.fl [(p.1:Nat),(p.2:Nat)]) (.int (s:Nat))).all fun q=>q.1.tag==(KX.fl [(p.2:Nat),(p.1:Nat)]).tag)=true:=by rw[cD];intro q hq;rw[rh (t:=1) hJ.tag rfl q hq];rfl
   rw[a]
   have b:=ur lD (.fl [(p.1:Nat),(p.2:Nat)]) (.int (s:Nat))
   have:=hJ.len
   have hl:(iG lD (.fl [(p.1:Nat),(p.2:Nat)]) (.int (s:Nat))).length<jw:=by show _<1000000;omega
   simp[KX.tag,hl]
  apply aG
  ·exact kX kv kv (gi (ay kx (ay kx bt)) (by show 2<=1000000;decide)) (Hv hd' (A1 p.1 p.2) ok1)
  refine⟨_,_,kX kv kv (gi (ay kx (ay kx bt)) (by show 2<=1000000;decide)) (Hv CN (A1 p.2 p.1) ok2),.dcx (iG (iG lD (.fl [(p.1:Nat),(p.2:Nat)]) (.int (s:Nat))) (.fl [(p.2:Nat),(p.1:Nat)]) (.int (s:Nat))),_,_,rfl,?_,CD (by rw[hV];exact hlt'),?_⟩
  ·rw[qG,qG]
  ·rw[eA,hp];exact hJ.step p
 ·rintro ρ S' ⟨c,lD,o9,rfl,rfl,hd',hJ⟩
  rw[ai,eS]at hJ
  exact l8 c lD o9 hd' hJ
end
section
variable{M:Mc}
theorem Uc{s:Nat}(h:∀k,k<s->fK M rs k≠[]):s<=(iS M rs s).length:=by
 induction s with
 |zero=>omega
 |succ s ih=>
  have:=ih fun k hk=>h k (by omega)
  have h1:0<(fK M rs s).length:=eD.mpr (h s (by omega))
  unfold iS at this ⊢
  rw[oB,aC,ai]
  have h2:(pJ (bc M) M.tb.length (gM M) rs s).length=(fK M rs s).length:=rfl
  omega
theorem HB{s:Nat}(h:fK M rs s≠[]):∃p,pS (iS M rs (s+1)) (-1)=some (j9 M rs s p):=by
 have e:iS M rs (s+1)=iS M rs s++(fK M rs s).map (j9 M rs s):=oB s
 refine⟨(fK M rs s).getLast h,?_⟩
 refine NF (q:=0) ?_
 rw[e,List.reverse_append,av (by rw[List.length_reverse,ai];exact eD.mpr h),nE (by rw[ai];exact eD.mpr h),ak,ai]
 rw[show(fK M rs s).length-1-0=(fK M rs s).length-1 by omega,<- List.getLast?_eq_getElem?,List.getLast?_eq_getLast h]
 rfl
theorem Sd:j_ M rs 0 []:=⟨fun _ _ _ _=>rfl,fun p h=>(by cases h),cG _⟩
theorem A3(hM:Rm M N rs)(zQ:rs.Pairwise (· < ·)){st:List aj}{r:Nat}(hr:st[r]?=some (.lst (eY rs))):∃n,Hg M rs n/\Cm [M.w,.loc r] st=.ok (.tup (iS M rs n)) st:=by
 have dk:=hM.len
 suffices hh:gs (rK fun w bE=>(∃x,bE=st++x)/\undWs st.length [w]=true/\∃n,Hg M rs n/\w=.tup (iS M rs n)) (LM ([M.w,.loc r].map some++List.replicate (10-2) none) st) by
  obtain⟨w,⟨n,h1,rfl⟩,e⟩:=jI hh
  exact⟨n,h1,e⟩
 apply aG
 ·exact bU (t6 bt (cG _))
 apply aG
 ·exact bU rfl
 refine vX (fun n ρ S=>∃(s f dn:Nat) (kvs:List (KX×W)) (o4 o5 o6 o7 o8 o9:Option W),n=Ei (bc M) M.tb.length (gM M) rs s/\ρ=[some M.w,lO r,lO f,lO dn,o4,o5,o6,o7,o8,o9]/\(∃x,S=st++x)/\st.length<=dn/\S[f]?=some (.lst (iS M rs s))/\cV S (.loc dn)=some (dn,kvs)/\j_ M rs s kvs/\kvs.length<=2*(iS M rs s).length/\∀k,k<s->fK M rs k≠[]) _ ⟨0,st.length,(st++[aj.lst []]).length,[],none,none,none,none,none,none,rfl,rfl,⟨_,by rw[aw]⟩,by simp,?_,?_,Sd,by simp,fun k hk=>absurd hk (b8 _)⟩ ?_
 ·rw[aw,cZ];rfl
 ·unfold cV;simp only[bw]
 rintro n ρ S ⟨s,f,dn,kvs,o4,o5,o6,o7,o8,o9,rfl,rfl,⟨x,rfl⟩,hdn,cf,hd,hD,hkl,hgo⟩
 refine⟨bX cP,?_⟩
 have cr:(st++x)[r]?=some (.lst (eY rs)):=aJ hr
 have hol:=LR (M:=M) dk s
 have hol1:=LR (M:=M) dk (s+1)
 have hsl:=Uc hgo
 have hnl:=Kc (M:=M) dk s
 have ln:=ip (aO cf)
 have eo1:iS M rs (s+1)=iS M rs s++(fK M rs s).map (j9 M rs s):=oB s
 have hl1:(iS M rs (s+1)).length=(iS M rs s).length+(fK M rs s).length:=by rw[eo1,aC,ai]
 have hff:=A2 hd cf
 have hdl:=HA hd
 apply aG
 ·exact bU cP
 have stp:(iP (eV (e2 Eg (bg cU (af (ac 2) aB)) (eI 0))) (bM 4 (e2 d6 (e2 bu (e2 bu (ac 2) (yB (eI 1))) (eI 2)) (eI 1))) cE) ([some M.w,lO r,lO f,lO dn,o4,o5,o6,o7,o8,o9].set 4 (iO 0)) (st++x)=.nx [some M.w,lO r,lO f,lO dn,iO (s:Nat),o5,o6,o7,o8,o9] (st++x):=by
  cases s with
  |zero=>exact pE (bX (bJ (bi kn ln) cP (nR rfl))) wS
  |succ s=>
   obtain⟨p,hp⟩:=HB (hgo s (by omega))
   have:=pD (g':=cE) (ρ:=[some M.w,lO r,lO f,lO dn,o4,o5,o6,o7,o8,o9].set 4 (iO 0)) (bX (bJ (f:=Eg) (fb:=eC (.int 0)) (bi (ay (fa:=ac 2) kv bt) ln) cP (nR (k:=true) (by simp;omega)))) (bU (i:=4) (bJ (f:=d6) (bJ (f:=bu) (bJ (f:=bu) (fa:=ac 2) kv (FU (fa:=eC (.int 1)) cP) (kY (aO cf) hp)) (fb:=eC (.int 2)) cP (i8 (w:=.int (s:Nat)) rfl)) (fb:=eC (.int 1)) cP fS))
   exact this
 refine aG stp ?_
 apply aG
 ·exact bU (t6 bt (cG _))
 refine Hz hM zQ (f:=f) cr hd hD (by omega) fun o6 o7 o8=>?_
 have cfr:(st++x++[.lst ((fK M rs s).map (j9 M rs s))])[(st++x).length]?=some (.lst ((fK M rs s).map (j9 M rs s))):=bw
 have lf:=ip (aO cfr)
 rw[ai]at lf
 by_cases hn:fK M rs s=[]
 ·refine gu (bX (bJ (bi kn lf) cP (io (by rw[hn];rfl)))) ?_
  exact fH (bi kn (fA (aO (aJ cf)))) (.inl ⟨_,_,rfl,_,_,rfl,⟨_,by rw[aw]⟩,Ke M rs s _,s,⟨hgo,hn⟩,rfl⟩)
 ·have LY:0<(fK M rs s).length:=eD.mpr hn
  refine cx (bX (bJ (bi kn lf) cP (io (by rw[aQ];omega)))) (cK ?_)
  have OS:cV (st++x++[.lst ((fK M rs s).map (j9 M rs s))]) (.loc dn)=some (dn,kvs):=sF hd
  refine D5 (m:=2*(iS M rs s).length) OS ⟨fun a ha b hb=>by rw[az (by simp)];exact hD.at' a ha b hb,hD.tag,by simp;omega⟩ cfr (by omega) fun c lD o9 CN hJ=>?_
  have rq:=A2 OS cfr
  have cf2:((st++x++[aj.lst ((fK M rs s).map (j9 M rs s))]).set dn c)[f]?=some (.lst (iS M rs s)):=by rw[bp (fun z=>hff z.symm)];exact aJ cf
  have cfr2:((st++x++[aj.lst ((fK M rs s).map (j9 M rs s))]).set dn c)[(st++x).length]?=some (.lst ((fK M rs s).map (j9 M rs s))):=by rw[bp (fun z=>rq z.symm)];exact cfr
  refine .inr ⟨_,_,Ei (bc M) M.tb.length (gM M) rs (s+1),bU (bJ kv kv (AH cf2 cfr2 (by rw[<- eo1];show _<=1000000;omega))),LP hn,s+1,_,dn,lD,_,_,_,_,_,_,rfl,rfl,?_,hdn,?_,sF CN,hJ.done zQ (by omega),?_,fun k hk=>?_⟩
  ·refine⟨(x++[aj.lst ((fK M rs s).map (j9 M rs s))]).set (dn-st.length) c++[aj.lst (iS M rs s++(fK M rs s).map (j9 M rs s))],?_⟩
   rw[aw st x,fm _ _ hdn,aw]
  ·rw[<- eo1];exact bw
  ·have:=hJ.len
   omega
  ·by_cases zk:k=s
   ·subst zk;exact hn
   ·exact hgo k (by omega)
end
theorem vY{f:FG}{t:FT}{ρ0:bQ}{c:aj}:∀(ws acc:List W) (st:List aj),(∀w∈ws,∀x,∃ρ',f w ρ0=some ρ'/\t ρ' (st++x)=.ok true (st++x)/\el ρ' (st++x)=.ok (.loc (st++x).length) (st++x++[c])) ->
  m7 f t el none ρ0 ws acc st=.ok (acc++(List.range ws.length).map fun i=>W.loc (st.length+i)) (st++List.replicate ws.length c)
 |[],acc,st,_=>by unfold m7;rw[am (show h9 st none from trivial)];simp
 |w::ws,acc,st,h=>by
  obtain⟨ρ',e1,e2,e3⟩:=h w aN []
  rw[bP]at e2 e3
  unfold m7
  rw[am (show h9 st none from trivial),e1]
  simp only[e2,e3]
  rw[vY ws _ (st++[c]) fun v hv x=>by
   have:=h v (aA _ hv) ([c]++x)
   rw[<- aw]at this
   exact this]
  rw[br,gb,jA,aC]
  simp[cJ,oZ,Nat.add_comm 1]
abbrev cL(R:List (List Nat)):List aj:=R.map fun r=>aj.lst (nW r)
theorem Kl{s0 y:List aj}{R:List (List Nat)}{l:Nat}(hl:l<R.length):(s0++cL R++y).set (s0.length+l) (.lst (nW row))=s0++cL (R.set l row)++y:=by
 rw[aw,im,List.set_append_left _ _ (by simpa using hl),aw]
 congr 2
 unfold cL
 rw[jN]
theorem CF{s0 y:List aj}{R:List (List Nat)}{l:Nat}(h:R[l]?=some row):(s0++cL R++y)[s0.length+l]?=some (.lst (nW row)):=by
 rw[aw,dz,av (by rw[ai];exact(aa.mp h).1),ak,h];rfl
theorem Km{R:List (List Nat)}{l v:Nat}(h:Eh n R)(hr:R[l]?=some row)(hv:v<n):Eh n (R.set l (row.set j v)):=by
 refine⟨by rw[hV];exact h.1,fun r hr'=>?_⟩
 rcases qo hr' with z|z
 ·exact h.2 r z
 ·subst z
  obtain⟨a,b⟩:=h.2 row (al hr)
  refine⟨by rw[hV];exact a,fun k hk=>?_⟩
  rcases qo hk with y|y
  ·exact b k y
  ·omega
abbrev pO(s0:List aj)(n:Nat):aj:=.lst ((List.range n).map fun i=>W.loc (s0.length+i))
theorem D6{dl:Nat}{ds:List Int}{st:List aj}(hd:st[dl]?=some (.lst (nw ds)))(hl:ds.length=50) :
  ∃(M:Mc) (n:Nat),rM M n/\12<=n/\n<=20/\M.nm=[]/\Cn [.loc dl] st=.ok M.w st:=by
 suffices hh:gs (rK fun w bE=>(∃x,bE=st++x)/\undWs st.length [w]=true/\∃(M:Mc) (n:Nat),w=M.w/\rM M n/\12<=n/\n<=20/\M.nm=[]) (LN ([W.loc dl].map some++List.replicate (6-1) none) st) by
  obtain⟨w,⟨M,n,rfl,h1,h2,h3,h4⟩,e⟩:=jI hh
  exact⟨M,n,h1,h2,h3,h4,e⟩
 have ix:∀(i:Nat) (x:List aj),i<50->∃d,bu (.loc dl) (.int (i:Nat)) (st++x)=.ok (.int d) (st++x):=fun i x hi=>by
  obtain⟨d,hdd⟩:∃d,ds[i]?=some d:=⟨_,ae (by omega)⟩
  exact⟨d,fN (aJ hd) hdd⟩
 obtain⟨d0,i0⟩:=ix 0 [] (by omega)
 rw[bP]at i0
 obtain⟨m0,hm0,em0⟩:=f_ (q:=d0) (n:=9) (by omega)
 have mo:eK (.int d0) (.int 9) st=.ok (.int (m0:Nat)) st:=by
  have:d0%9=(m0:Int):=em0
  rw[<- this];exact lz (by decide)
 obtain⟨n,hn⟩:∃n:Nat,n=12+m0:=⟨_,rfl⟩
 apply aG
 ·exact bU (bJ cP (bJ (bJ kv cP i0) cP mo) fS)
 rw[show(12:Int)+(m0:Int)=((n:Nat):Int) by omega]
 have hcut:kI (nw ds) (some ((8:Nat):Int)) none=nw (ds.drop 8):=by
  rw[sw (by unfold nw;rw[ai];omega)];unfold nw;rw[pb]
 have sl:Dn (.loc dl) (some 8) none st=.ok (.loc st.length) (st++[.lst (nw (ds.drop 8))]):=by
  rw[FW (aO hd)]
  have:kI (nw ds) (some 8) none=nw (ds.drop 8):=hcut
  rw[this]
 obtain⟨zs,hzs,eo⟩:=zf n st.length (ds.drop 8) (st++[.lst (nw (ds.drop 8))]) (by omega) (by omega) bw (by rw[dP];omega)
 apply aG
 ·exact bU (d8 (ay kv (ay cP (ay (JM kv (DL cP) Rb sl) bt))) eo rfl)
 have hzl:=hzs.1
 have zat:∀i,i<n->∃k,zs[i]?=some k/\k<n:=fun i hi=>by
  have e:=ae (l:=zs) (show i<zs.length by omega)
  exact⟨_,e,(hzs.2 _).mp (al e)⟩
 have c2:(st++[.lst (nw (ds.drop 8))]++[.lst (nW zs)])[(st++[aj.lst (nw (ds.drop 8))]).length]?=some (.lst (nW zs)):=bw
 have pre:∃x0,(st++[.lst (nw (ds.drop 8))]++[.lst (nW zs)]:List aj)=st++x0:=⟨_,by rw[aw]⟩
 generalize (st++[aj.lst (nw (ds.drop 8))]).length=pl at c2 ⊢
 generalize st++[.lst (nw (ds.drop 8))]++[.lst (nW zs)]=s0 at c2 pre ⊢
 obtain⟨x0,rfl⟩:=pre
 generalize Pv:st++x0=s0 at c2 ⊢
 have zix:∀(i:Nat) (x:List aj),i<n->∃k,k<n/\bu (.loc pl) (.int (i:Nat)) (s0++x)=.ok (.int (k:Nat)) (s0++x):=fun i x hi=>by
  obtain⟨k,hk,hk'⟩:=zat i hi
  exact⟨k,hk',uf (aJ c2) hk⟩
 obtain⟨v0,hv0,hv0'⟩:=zat (n-1) (by omega)
 have hsub:∀(j:Nat) (x:List aj),j<=n->lP (.int (n:Nat)) (.int (j:Nat)) x=.ok (.int ((n-j:Nat):Int)) x:=fun j x hj=>by
  rw[show((n-j:Nat):Int)=(n:Int)-(j:Int) by omega];exact lz trivial
 have inner:∀(l:Option W) (x:List aj),dC [none,some 1,some 2] (bd (af (ac 2) aB)) (eE 0) ii (e2 bu (ac 1) (e2 lP (ac 2) (eI 1))) [l,lO pl,iO (n:Nat)] (s0++x)=.ok (.loc (s0++x).length) (s0++x++[.lst (nW (List.replicate n v0))]):=fun l x=>by
  have ir:=c7 (fs:=af (ac 2) aB) (ρ:=[l,lO pl,iO (n:Nat)]) (st:=s0++x) (q:=(n:Nat)) kn (by omega)
  rw[aR]at ir
  have kc:=gW (cap:=[none,some 1,some 2]) (fi:=bd (af (ac 2) aB)) (f:=eE 0) (el:=e2 bu (ac 1) (e2 lP (ac 2) (eI 1))) (ρ:=[l,lO pl,iO (n:Nat)]) (st:=s0++x) (st1:=s0++x) (fun _=>W.int (v0:Nat)) ir (by rw[bK];show _<=1000000;omega) trivial fun w hw=>⟨_,rfl,bJ kv (bJ kv cP (hsub 1 _ (by omega))) (uf (aJ c2) hv0)⟩
  rw[kc,show(bq 0 n).map (fun _=>W.int (v0:Nat))=nW (List.replicate n v0)from by
   unfold nW bq
   rw[aS,List.map_replicate]
   simp[cJ,List.map_const']]
 have outer:dC [none,some 2,some 1] (bd (af (ac 1) aB)) (eE 0) ii (dC [none,some 1,some 2] (bd (af (ac 2) aB)) (eE 0) ii (e2 bu (ac 1) (e2 lP (ac 2) (eI 1)))) [lO dl,iO (n:Nat),lO pl,none,none,none] s0
   = .ok (.loc (s0.length+n)) (s0++cL (List.replicate n (List.replicate n v0))++[pO s0 n]):=by
  have ir:=c7 (fs:=af (ac 1) aB) (ρ:=[lO dl,iO (n:Nat),lO pl,none,none,none]) (st:=s0) (q:=(n:Nat)) kn (by omega)
  rw[aR]at ir
  unfold dC
  rw[ir]
  simp only[R.bind_ok]
  rw[am (by rw[bK];show _<=1000000;omega)]
  have cn:=vY (f:=eE 0) (t:=ii) (el:=dC [none,some 1,some 2] (bd (af (ac 2) aB)) (eE 0) ii (e2 bu (ac 1) (e2 lP (ac 2) (eI 1)))) (ρ0:=qf [none,some 2,some 1] [lO dl,iO (n:Nat),lO pl,none,none,none]) (c:=.lst (nW (List.replicate n v0))) (bq 0 n) [] s0 fun w hw x=>⟨_,rfl,rfl,inner _ x⟩
  unfold dC at cn
  rw[cn,bK]
  simp only[R.bind_ok,jp,mZ]
  rw[am (by rw[ai,b9];show _<=1000000;omega)]
  unfold cL
  rw[List.map_replicate]
  simp
 apply aG
 ·exact Cq outer rfl
 have tok0:Eh n (List.replicate n (List.replicate n v0)):=⟨by simp,fun r hr=>by
  obtain⟨_,rfl⟩:=List.mem_replicate.mp hr
  exact⟨by simp,fun k hk=>by obtain⟨_,rfl⟩:=List.mem_replicate.mp hk;exact hv0'⟩⟩
 have lc:∀R:List (List Nat),R.length=n->(s0++cL R++[pO s0 n])[s0.length+n]?=some (.lst ((List.range n).map fun i=>W.loc (s0.length+i))):=fun R hR=>by
  have:=bw (s:=s0++cL R) (c:=.lst ((List.range n).map fun i=>W.loc (s0.length+i)))
  rwa[show(s0++cL R).length=s0.length+n by simp[hR]]at this
 have lix:∀(R:List (List Nat)) (l:Nat),R.length=n->l<n->bu (.loc (s0.length+n)) (.int (l:Nat)) (s0++cL R++[pO s0 n])=.ok (.loc (s0.length+l)) (s0++cL R++[pO s0 n]):=fun R l hR hl'=>kY (aO (lc R hR)) (d9 (by rw[ak,cW hl'];rfl))
 have put:∀(R:List (List Nat)) (l j v:Nat),Eh n R->l<n->j<n->v<n->∃R',Eh n R'/\m5 (.loc (s0.length+l)) (.int (j:Nat)) (.int (v:Nat)) (s0++cL R++[pO s0 n])=some (s0++cL R'++[pO s0 n]):=fun R l j v hR hl' hj hv=>by
  have hlR:l<R.length:=by rw[hR.1];exact hl'
  have r_:=ae hlR
  refine⟨R.set l (R[l].set j v),Km hR r_ hv,?_⟩
  rw[xa (CF r_) (by unfold nW;rw[ai,(hR.2 _ (g6 hlR)).1];exact hj)]
  rw[show(nW R[l]).set j (.int (v:Nat))=nW (R[l].set j v) by unfold nW;rw[jN],Kl hlR]
 have A5:s0.length+n=s0.length+n:=rfl
 have dix:∀(i:Nat) (y:List aj),i<50->∃d,bu (.loc dl) (.int (i:Nat)) (s0++y)=.ok (.int d) (s0++y):=fun i y hi=>by
  obtain⟨d,e⟩:=ix i (x0++y) hi
  rw[<- aw,Pv]at e
  exact⟨d,e⟩
 have modp:∀(d:Int) (m:Nat) (y:List aj),0<m->m<=100->∃q:Nat,q<m/\eK (.int d) (.int (m:Nat)) y=.ok (.int (q:Nat)) y:=fun d m y h1 h2=>by
  obtain⟨q,hq,eq⟩:=f_ (q:=d) (n:=m) h1
  exact⟨q,hq,by rw[<- eq];exact lz (by omega)⟩
 refine c_ (k:=(bq 0 (n-2),none)) (fun i ρ S=>∃R o4,Eh n R/\ρ=[lO dl,iO (n:Nat),lO pl,lO (s0.length+n),o4,none]/\S=s0++cL R++[pO s0 n]) (by
   have:=c7 (fs:=af (e2 lP (ac 1) (eI 2)) aB) (ρ:=[lO dl,iO (n:Nat),lO pl,lO (s0.length+n),none,none]) (st:=s0++cL (List.replicate n (List.replicate n v0))++[pO s0 n]) (q:=((n-2:Nat):Int)) (ay (bJ kv cP (hsub 2 _ (by omega))) bt) (by omega)
   rw[aR]at this
   exact this) ⟨_,none,tok0,rfl,rfl⟩ (fun _ _ _ _=>trivial) ?_ ?_
 ·rintro i w ρ S hw ⟨R,o4,hR,rfl,rfl⟩
  obtain⟨hi,rfl⟩:=eR hw
  rw[cR]
  refine⟨_,rfl,?_⟩
  obtain⟨d1,i1⟩:=dix 1 (cL R++[pO s0 n]) (by omega)
  rw[<- aw]at i1
  obtain⟨q1,hq1,eq1⟩:=modp d1 3 (s0++cL R++[pO s0 n]) (by omega) (by omega)
  obtain⟨a,ha,ea⟩:=zix i (cL R++[pO s0 n]) (by omega)
  rw[<- aw]at ea
  obtain⟨b,hb,eb⟩:=zix (i+1) (cL R++[pO s0 n]) (by omega)
  rw[<- aw,show((i+1:Nat):Int)=(i:Int)+1 by omega]at eb
  obtain⟨R1,hR1,p1⟩:=put R a 0 b hR ha (by omega) hb
  have second:∀R2:List (List Nat),Eh n R2->gs (JN fun ρ S=>∃R o4,Eh n R/\ρ=[lO dl,iO (n:Nat),lO pl,lO (s0.length+n),o4,none]/\S=s0++cL R++[pO s0 n])
    ((iP (eV (e2 yt (e2 eK (e2 bu (ac 0) (eI 1)) (eI 3)) (eI 2))) (lx (e2 bu (ac 3) (eI 0)) (e2 bu (ac 2) (ac 4)) (e2 bu (ac 2) (e2 d6 (ac 4) (eI 1))) m5) cE) [lO dl,iO (n:Nat),lO pl,lO (s0.length+n),iO (i:Nat),none] (s0++cL R2++[pO s0 n])):=fun R2 hR2=>by
   obtain⟨d1,i1⟩:=dix 1 (cL R2++[pO s0 n]) (by omega)
   rw[<- aw]at i1
   obtain⟨q1,hq1,eq1⟩:=modp d1 3 (s0++cL R2++[pO s0 n]) (by omega) (by omega)
   obtain⟨a,ha,ea⟩:=zix i (cL R2++[pO s0 n]) (by omega)
   rw[<- aw]at ea
   obtain⟨b,hb,eb⟩:=zix (i+1) (cL R2++[pO s0 n]) (by omega)
   rw[<- aw,show((i+1:Nat):Int)=(i:Int)+1 by omega]at eb
   obtain⟨R3,hR3,p3⟩:=put R2 0 a b hR2 (by omega) ha hb
   have tsx:eV (e2 yt (e2 eK (e2 bu (ac 0) (eI 1)) (eI 3)) (eI 2)) [lO dl,iO (n:Nat),lO pl,lO (s0.length+n),iO (i:Nat),none] (s0++cL R2++[pO s0 n])=.ok (decide ((q1:Int)<2)) (s0++cL R2++[pO s0 n]):=bX (bJ (bJ (bJ kv cP i1) cP eq1) cP (nR rfl))
   cases hdec:decide ((q1:Int)<2)with
   |true=>
    rw[hdec]at tsx
    refine jy tsx ?_
    exact⟨_,_,kX (bJ kv (bJ kv cP fS) eb) (bJ kv cP (lix R2 0 hR2.1 (by omega))) (bJ kv kv ea) p3,R3,_,hR3,rfl,rfl⟩
   |false=>
    rw[hdec]at tsx
    exact iJ tsx ⟨_,_,rfl,R2,_,hR2,rfl,rfl⟩
  have tsx:uB (eV (e2 Eg (e2 eK (e2 bu (ac 0) (eI 1)) (eI 3)) (eI 0))) (eV (e2 nu (ac 4) (eI 0))) [lO dl,iO (n:Nat),lO pl,lO (s0.length+n),iO (i:Nat),none] (s0++cL R++[pO s0 n])=.ok (decide ((q1:Int)>0)||((i:Int)==0)) (s0++cL R++[pO s0 n]):=
   FY (bX (bJ (bJ (bJ kv cP i1) cP eq1) cP (nR rfl))) (bX (bJ kv cP (io rfl)))
  cases hdec:decide ((q1:Int)>0)||((i:Int)==0)with
  |true=>
   rw[hdec]at tsx
   refine gu tsx ?_
   apply aG
   ·exact kX (bJ kv (bJ kv cP fS) eb) (bJ kv (bJ kv kv ea) (lix R a hR.1 ha)) cP p1
   exact second R1 hR1
  |false=>
   rw[hdec]at tsx
   exact cx tsx (cK (second R hR))
 ·rintro ρ S ⟨R,o4,hR,rfl,rfl⟩
  apply aG
  ·exact bU (bJ kv cP (hsub 2 _ (by omega)))
  have dix':∀i:Nat,i<50->∃d,bu (.loc dl) (.int (i:Nat)) (s0++cL R++[pO s0 n])=.ok (.int d) (s0++cL R++[pO s0 n]):=fun i hi=>by
   have:=dix i (cL R++[pO s0 n]) hi
   rwa[<- aw]at this
  have r_:∀(l:Nat) (row:List Nat) (y:List aj),R[l]?=some row->(s0++cL R++[pO s0 n]++y)[s0.length+l]?=some (.lst (nW row)):=fun l row y h=>aJ (CF h)
  have hc2:(s0++cL R++[pO s0 n])[pl]?=some (.lst (nW zs)):=aJ (aJ c2)
  have hlc:=lc R hR.1
  have xL:s0++cL R++[pO s0 n]=st++(x0++cL R++[pO s0 n]):=by rw[<- Pv];simp
  generalize hS:s0++cL R++[pO s0 n]=S at dix' r_ hc2 hlc xL ⊢
  refine ou (fun ρ S'=>∃u o4,u<n/\S'=S/\ρ=[lO dl,iO (n:Nat),lO pl,lO (s0.length+n),o4,iO (u:Nat)]) ?_ ?_
  ·obtain⟨d2,i2⟩:=dix' 2 (by omega)
   obtain⟨q2,hq2,eq2⟩:=modp d2 2 S (by omega) (by omega)
   have tsx:eV (e2 nu (e2 eK (e2 bu (ac 0) (eI 2)) (eI 2)) (eI 1)) [lO dl,iO (n:Nat),lO pl,lO (s0.length+n),o4,iO ((n-2:Nat):Int)] S=.ok ((q2:Int)==1) S:=bX (bJ (bJ (bJ kv cP i2) cP eq2) cP (io rfl))
   cases hdec:((q2:Int)==1)with
   |true=>
    rw[hdec]at tsx
    obtain⟨d3,i3⟩:=dix' 3 (by omega)
    obtain⟨q3,hq3,eq3⟩:=modp d3 (n-2) S (by omega) (by omega)
    refine jy tsx ⟨_,_,bU (bJ cP (bJ (bJ kv cP i3) (bJ kv cP (hsub 2 _ (by omega))) eq3) fS),1+q3,o4,by omega,rfl,?_⟩
    rw[show((1+q3:Nat):Int)=1+(q3:Int) by omega];rfl
   |false=>
    rw[hdec]at tsx
    exact iJ tsx ⟨_,_,rfl,n-2,o4,by omega,rfl,rfl⟩
  ·rintro ρ S' ⟨u,o4,hu,rfl,rfl⟩
   obtain⟨zu,hzu,_⟩:=zat u hu
   obtain⟨gd,hgl,_,eg⟩:=ue (cap:=[none,some 2,some 5]) (el:=e2 nu (ac 0) (e2 bu (ac 1) (ac 2))) (fs:=af (ac 1) aB) (ρ:=[lO dl,iO (n:Nat),lO pl,lO (s0.length+n),o4,iO (u:Nat)]) (st:=S') (n:=n) W.bl (fun _ _=>True) kn (by omega) fun i hi=>⟨((i:Int)==(zu:Int)),trivial,bJ kv (bJ kv kv (uf hc2 hzu)) (io rfl)⟩
   have hS1:∀(l:Nat) (row:List Nat),R[l]?=some row->(S'++[.lst (gd.map W.bl)])[s0.length+l]?=some (.lst (nW row)):=fun l row h=>r_ l row _ h
   have er:=gW (cap:=[none]) (fi:=cY (ac 3)) (f:=eE 0) (el:=bg cO (af (ac 0) aB)) (ρ:=[lO dl,iO (n:Nat),lO pl,lO (s0.length+n),o4,iO (u:Nat)]) (st:=S'++[.lst (gd.map W.bl)]) (st1:=S'++[.lst (gd.map W.bl)]) (fun w=>match w with|.loc p=>g7 (R.getD (p-s0.length) [])|_=>.non) (fM kv (aO (aJ hlc))) (by rw[ai,b9];show _<=1000000;omega) (aO (aJ hlc)) fun w hw=>by
    obtain⟨l,hl',rfl⟩:=ar.mp hw
    have hln:=aM.mp hl'
    have e:=ae (l:=R) (show l<R.length by rw[hR.1];exact hln)
    refine⟨_,rfl,?_⟩
    have hg:R.getD (s0.length+l-s0.length) []=R[l]'(by rw[hR.1];exact hln):=by
     rw[mj,aE,e];rfl
    show _=L2.R.ok (g7 (R.getD (s0.length+l-s0.length) [])) _
    rw[hg]
    exact bi kn (fA (aO (hS1 l _ e)))
   have hmap:((List.range n).map fun i=>W.loc (s0.length+i)).map (fun w=>match w with|.loc p=>g7 (R.getD (p-s0.length) [])|_=>.non)=R.map g7:=by
    rw[aS]
    refine mf (by simp[hR.1]) fun i h1 h2=>?_
    have hi:i<R.length:=by simpa using h2
    simp only[cS,kC,cJ,mj]
    rw[aE,ae hi];rfl
   rw[hmap]at er
   refine⟨_,_,m_ (gi (ay cP (ay eg (ay (gi (ay (bi (ay er bt) (fA (aO bw))) bt) (by show 1<=1000000;decide)) bt))) (by show 3<=1000000;decide)),⟨_,by rw[xL,aw,aw]⟩,?_,⟨[],gd,[R]⟩,n,rfl,⟨hgl,rfl,fun t ht=>?_⟩,by omega,by omega,rfl⟩
   ·have a:=Cp gd st.length
    have b:=Co R st.length
    unfold dY W.und at b
    simp only[undWs,W.und,a,b,ca]
   ·simp at ht;subst ht;exact hR
section
variable{M:Mc}{E:List Ro}{p:Nat}
abbrev xF(E:List Ro)(n:Nat):List W:=eY ((E.take n).map Prod.fst)
abbrev xW(E:List Ro)(n:Nat):List W:=(E.take n).map fun e=>W.int (e.2.s:Nat)
abbrev UY:FS:=(dX (bd (af (bg cU (af (e2 bu (ac 0) (eI 2)) aB)) aB)) (eE 4) (dX (bd (af (bg cU (af (ac 1) aB)) aB)) (eE 5) (dX (bd (af (bg cU (af (ac 1) aB)) aB)) (eE 6) (aV (bM 7 (e2 bu (e2 bu (e2 bu (e2 bu (ac 0) (eI 2)) (ac 4)) (e2 bu (ac 1) (ac 5))) (e2 bu (ac 1) (ac 6)))) (aV (bM 8 (d5 (af (e2 d6 (e2 d6 (eI 1) (e2 bu (ac 2) (ac 5))) (e2 bu (ac 2) (ac 6))) (af (ac 5) (af (ac 6) (af (ac 4) (af (ac 7) aB))))))) (iP (Ef (eV (e2 (Dm true) (ac 7) (ac 1))) (uB (eV (Af (ac 3))) (eV (e2 wJ (ac 8) (ac 3))))) (bM 3 (ac 8)) cE))))))
theorem Kn(hM:rM M N)(hf:q_ (bc M) M.tb.length N E)(hN:N<=100)(hL:M.tb.length<=64)(hn:0<n)(Kz:n<=E.length)(h1:S[p]?=some (.lst (xF E n)))(h2:S[q]?=some (.lst (xW E n))){P:RS->Prop}{rest:FS}{o4 o5 o6 o7 o8:Option W}
  (l8:∀o4 o5 o6 o7 o8,gs P (rest [some M.w,lO p,lO q,some (oW ((E[n]?).map fun e=>(e.2,e.1))),o4,o5,o6,o7,o8] S)) :
  gs P (aV UY rest [some M.w,lO p,lO q,some .non,o4,o5,o6,o7,o8] S):=by
 have dk:=hf.told.len
 have hkl:(xF E n).length=n:=by simp[a7];omega
 have ixk:∀(l:Nat) (el:Ro),l<n->E[l]?=some el->bu (.loc p) (.int (l:Nat)) S=.ok (.int (el.1:Nat)) S:=fun l el hl hel=>kY (aO h1) (d9 (by rw[ak,ak,bB hl,hel];rfl))
 have ixs:∀(l:Nat) (el:Ro),l<n->E[l]?=some el->bu (.loc q) (.int (l:Nat)) S=.ok (.int (el.2.s:Nat)) S:=fun l el hl hel=>kY (aO h2) (d9 (by rw[ak,bB hl,hel];rfl))
 have rng:∀ρ:bQ,ρ[1]?=some (lO p)->bd (af (bg cU (af (ac 1) aB)) aB) ρ S=.ok (bq 0 (n:Int).toNat,none) S:=fun ρ r1=>by
  have:=c7 (fs:=af (bg cU (af (ac 1) aB)) aB) (ρ:=ρ) (st:=S) (q:=((xF E n).length:Nat)) (ay (bi (ay (gJ r1) bt) (ip (aO h1))) bt) (by omega)
  rw[hkl]at this;exact this
 refine c_ (fun k ρ s=>∃(b:Option (Wy×Nat)) (o4 o5 o6 o7 o8:Option W),ρ=[some M.w,lO p,lO q,some (oW b),o4,o5,o6,o7,o8]/\s=S/\vW (bc M) M.tb.length n E (fun l r a=>a<k/\l<n/\r<n) b) (k:=(bq 0 (M.tb.length:Int).toNat,none)) (st1:=S)
  (c7 (ay (bi (ay kx bt) (by rw[jh,ai])) bt) (by omega)) ⟨none,_,_,_,_,_,rfl,rfl,fun _ l r a el er d=>absurd d.1 (b8 _),fun w q e=>by cases e⟩ (fun _ _ _ _=>trivial) ?_ ?_
 ·rintro k w ρ s hw ⟨b,o4,o5,o6,o7,o8,rfl,rfl,g⟩
  obtain⟨hk,rfl⟩:=eR hw
  have hk:k<M.tb.length:=by simpa using hk
  rw[cR]
  refine⟨_,rfl,?_⟩
  obtain⟨t,ht⟩:∃t,M.tb[k]?=some t:=⟨_,ae hk⟩
  have xt:bu (.tup (M.tb.map dY)) (.int (k:Nat)) s=.ok (dY t) s:=i8 (d9 (by rw[ak,ht];rfl))
  refine nV (fun i ρ s'=>∃(b:Option (Wy×Nat)) (o5 o6 o7 o8:Option W),ρ=[some M.w,lO p,lO q,some (oW b),iO (k:Nat),o5,o6,o7,o8]/\s'=s/\vW (bc M) M.tb.length n E (fun l r a=>(a<k/\l<n/\r<n)\/a=k/\l<i/\r<n) b) (k:=(bq 0 (n:Int).toNat,none)) (st1:=s)
   (rng _ rfl) ⟨b,_,_,_,_,rfl,rfl,g.imp fun l r a d=>by
    rcases d with d|⟨_,d,_⟩
    ·exact d
    ·exact absurd d (b8 _)⟩ (fun _ _ _ _=>trivial) ?_ ?_
  ·rintro i w ρ s' hw ⟨b,o5,o6,o7,o8,rfl,rfl,g⟩
   obtain⟨hi,rfl⟩:=eR hw
   have hi:i<n:=by simpa using hi
   rw[cR]
   refine⟨_,rfl,?_⟩
   obtain⟨el,hel⟩:∃el,E[i]?=some el:=⟨_,ae (by omega)⟩
   have hlN:=hf.told.lt el (al hel)
   refine nV (fun j ρ s=>∃(b:Option (Wy×Nat)) (o6 o7 o8:Option W),ρ=[some M.w,lO p,lO q,some (oW b),iO (k:Nat),iO (i:Nat),o6,o7,o8]/\s=s'/\vW (bc M) M.tb.length n E (fun l r a=>((a<k/\l<n/\r<n)\/a=k/\l<i/\r<n)\/a=k/\l=i/\r<j) b) (k:=(bq 0 (n:Int).toNat,none)) (st1:=s')
    (rng _ rfl) ⟨b,_,_,_,rfl,rfl,g.imp fun l r a d=>by
     rcases d with d|⟨_,_,d⟩
     ·exact d
     ·exact absurd d (b8 _)⟩ (fun _ _ _ _=>trivial) ?_ ?_
   ·rintro j w ρ s hw ⟨b,o6,o7,o8,rfl,rfl,g⟩
    obtain⟨hj,rfl⟩:=eR hw
    have hj:j<n:=by simpa using hj
    rw[cR]
    obtain⟨er,her⟩:∃er,E[j]?=some er:=⟨_,ae (by omega)⟩
    have Pp:=hf.told.lt er (al her)
    obtain⟨row,t1,t2,t3⟩:=vP hM ht hlN Pp
    refine⟨_,rfl,?_⟩
    apply aG
    ·exact bU (bJ (bJ (bJ kx kv xt) (bJ kv kv (ixk i el hi hel)) (vQ t1)) (bJ kv kv (ixk j er hj her)) (vR t2))
    apply aG
    ·exact bU (gi (ay (bJ (bJ cP (bJ kv kv (ixs i el hi hel)) fS) (bJ kv kv (ixs j er hj her)) fS) (ay kv (ay kv (ay kv kn)))) (cv rfl))
    have e5:W.tup [.int (1+(el.2.s:Int)+(er.2.s:Int)),.int (i:Nat),.int (j:Nat),.int (k:Nat),.int (bc M k el.1 er.1:Nat)]=k5 (jk i j k el er) (bc M k el.1 er.1):=by
     unfold k5 z5
     simp only[aF,dg,no]
     rw[show(1:Int)+(el.2.s:Int)+(er.2.s:Int)=(el.2.s:Int)+(er.2.s:Int)+((1:Nat):Int) by omega]
    rw[e5]
    have fin:∀b',vW (bc M) M.tb.length n E (fun l' r' a'=>(((a'<k/\l'<n/\r'<n)\/a'=k/\l'<i/\r'<n)\/a'=k/\l'=i/\r'<j)\/l'=i/\r'=j/\a'=k) b'->vW (bc M) M.tb.length n E (fun l' r' a'=>((a'<k/\l'<n/\r'<n)\/a'=k/\l'<i/\r'<n)\/a'=k/\l'=i/\r'<j+1) b':=fun b' g'=>g'.imp fun l' r' a' d=>by
     rcases d with d|⟨d1,d2,d3⟩
     ·exact .inl (.inl d)
     ·rcases cw r' j with z|z
      ·exact .inl (.inr ⟨d1,d2,z⟩)
      ·exact .inr ⟨d2,by omega,d1⟩
    have tin:∀ρ:bQ,ρ[7]?=some (iO (bc M k el.1 er.1:Nat))->ρ[1]?=some (lO p)->eV (e2 (Dm true) (ac 7) (ac 1)) ρ s=.ok (!decide (bc M k el.1 er.1∈(E.take n).map Prod.fst)) s:=fun ρ r8 r2=>bX (bJ (gJ r8) (gJ r2) (Hr h1))
    by_cases c1:bc M k el.1 er.1∈(E.take n).map Prod.fst
    ·refine iJ (sk (by rw[tin _ rfl rfl,bH c1];rfl)) ?_
     exact⟨_,_,rfl,b,_,_,_,rfl,rfl,fin _ (g.known hel her c1)⟩
    ·have tin':∀ρ:bQ,ρ[7]?=some (iO (bc M k el.1 er.1:Nat))->ρ[1]?=some (lO p)->eV (e2 (Dm true) (ac 7) (ac 1)) ρ s=.ok true s:=fun ρ r8 r2=>by rw[tin ρ r8 r2,bb c1];rfl
     cases b with
     |none=>
      refine jy (kW (tin' _ rfl rfl) (su (bX (vG kv rfl)))) ?_
      exact⟨_,_,bU kv,some (jk i j k el er,bc M k el.1 er.1),_,_,_,rfl,rfl,fin _ (g.put hi hj hk hel her c1 fun w q e=>by cases e)⟩
     |some wq=>
      obtain⟨w,u⟩:=wq
      have tlt:∀(ρ:bQ) (c:Bool),HT.lexLt (z5 (jk i j k el er) (bc M k el.1 er.1)) (z5 w u)=c->ρ[8]?=some (some (k5 (jk i j k el er) (bc M k el.1 er.1)))->ρ[3]?=some (some (k5 w u))->eV (e2 wJ (ac 8) (ac 3)) ρ s=.ok c s:=fun ρ c hc r9 r3=>bX (bJ (gJ r9) (gJ r3) (by rw[<- hc];rfl))
      cases hc:HT.lexLt (z5 (jk i j k el er) (bc M k el.1 er.1)) (z5 w u)with
      |true=>
       refine jy (kW (tin' _ rfl rfl) (fG (bX (vG kv rfl)) (tlt _ true hc rfl rfl))) ?_
       exact⟨_,_,bU kv,some (jk i j k el er,bc M k el.1 er.1),_,_,_,rfl,rfl,fin _ (g.put hi hj hk hel her c1 fun w' q' e=>by
        cases e
        have:=(R9 _ _ _ _).mp hc
        rcases this with z|⟨z1,z2,z3,z4,_⟩
        ·exact fun y=>Wy.irr _ (Wy.trans y z)
        ·obtain⟨a1,a2,a3,a4⟩:=w
         simp only at z1 z2 z3 z4
         subst z1;subst z2;subst z3;subst z4
         exact Wy.irr _)⟩
      |false=>
       refine iJ (kW (tin' _ rfl rfl) (fG (bX (vG kv rfl)) (tlt _ false hc rfl rfl))) ?_
       exact⟨_,_,rfl,some (w,u),_,_,_,rfl,rfl,fin _ (g.keep rfl hel her fun z=>by
        rw[(R9 _ _ _ _).mpr (.inl z)]at hc;cases hc)⟩
   ·rintro ρ s ⟨b,o6,o7,o8,rfl,rfl,g⟩
    refine⟨_,_,rfl,b,_,_,_,_,rfl,rfl,g.imp fun l r a d=>?_⟩
    rcases d with d|⟨d1,d2,d3⟩
    ·exact .inl (.inl d)
    ·rcases cw l i with z|z
     ·exact .inl (.inr ⟨d1,z,d3⟩)
     ·exact .inr ⟨d1,by omega,by simpa[bq]using d3⟩
  ·rintro ρ s' ⟨b,o5,o6,o7,o8,rfl,rfl,g⟩
   refine⟨_,_,rfl,b,_,_,_,_,_,rfl,rfl,g.imp fun l r a d=>?_⟩
   rcases cw a k with z|z
   ·exact .inl ⟨z,d.2⟩
   ·exact .inr ⟨by omega,by simpa[bq]using d.2.1,d.2.2⟩
 ·rintro ρ s ⟨b,o4,o5,o6,o7,o8,rfl,rfl,g⟩
  have hb:=vW.all (b:=b) hf hn Kz (g.imp fun l r a d=>⟨by simpa[bq]using d.2.2,d.1,d.2.1⟩)
  rw[hb]
  exact l8 o4 o5 o6 o7 o8
theorem A4(hM:rM M N)(hf:q_ (bc M) M.tb.length N E)(hN:N<=100)(hL:M.tb.length<=64)(st:List aj):∃x,Ck [M.w] st=.ok (.loc st.length) (st++.lst (eY (E.map Prod.fst))::x):=by
 have dk:=hf.told.len
 have hE0:=hf.told.len0
 obtain⟨r0,hr0⟩:=hf.told.zero
 suffices hh:gs (rK fun w bE=>∃j x,w=.loc (st.length+j)/\bE=st++x/\j=0/\∃y,x=.lst (eY (E.map Prod.fst))::y) (LK ([M.w].map some++List.replicate (9-1) none) st) by
  obtain⟨j,x,⟨rfl,y,rfl⟩,e⟩:=iZ hh
  exact⟨y,e⟩
 have hK1:[W.int 0]=xF E 1:=by rw[hr0];rfl
 have hS1:[W.int 0]=xW E 1:=by rw[hr0];rfl
 refine aG (bU (t6 (ay cP bt) (by show 1<=1000000;decide))) ?_
 refine aG (bU (t6 (ay cP bt) (by show 1<=1000000;decide))) ?_
 rw[show(st++[aj.lst [W.int 0]]).length=st.length+1 by simp,show st++[aj.lst [W.int 0]]++[aj.lst [W.int 0]]=st++[aj.lst (xF E 1),.lst (xW E 1)] by rw[<- hK1,<- hS1];simp]
 refine vX (fun m ρ s=>∃(n:Nat) (o3 o4 o5 o6 o7 o8:Option W),0<n/\n<=E.length/\m=E.length-n/\ρ=[some M.w,lO st.length,lO (st.length+1),o3,o4,o5,o6,o7,o8]/\s=st++[aj.lst (xF E n),.lst (xW E n)]) _ ⟨1,_,_,_,_,_,_,by omega,hE0,rfl,rfl,rfl⟩ ?_
 rintro m ρ s ⟨n,o3,o4,o5,o6,o7,o8,hn,Kz,rfl,rfl,rfl⟩
 refine⟨bX cP,?_⟩
 have c1:(st++[aj.lst (xF E n),.lst (xW E n)])[st.length]?=some (.lst (xF E n)):=by rw[cZ];rfl
 have c2:(st++[aj.lst (xF E n),.lst (xW E n)])[st.length+1]?=some (.lst (xW E n)):=by rw[dz];rfl
 refine aG (bU cP) ?_
 refine Kn hM hf hN hL hn Kz c1 c2 fun o4 o5 o6 o7 o8=>?_
 cases he:E[n]? with
 |none=>
  have hnE:E.take n=E:=cQ (kP.mp he)
  refine gu (bX (vG kv rfl)) (fH kv (.inl ⟨_,_,rfl,_,_,rfl,0,_,rfl,rfl,rfl,[.lst (xW E n)],?_⟩))
  unfold xF;rw[hnE]
 |some e=>
  have ny:=(aa.mp he).1
  refine cx (bX (vG kv rfl)) (cK ?_)
  refine aG (fz (nv kv (eG c1) (ay kx bt) (rJ c1 (by simp[a7];show _<1000000;omega)))) ?_
  have hkn:xF E n++[W.int (e.1:Nat)]=xF E (n+1):=by
   unfold xF eY;rw[eA,he,bV,bV];rfl
  have hsn:xW E n++[W.int (e.2.s:Nat)]=xW E (n+1):=by
   unfold xW;rw[eA,he,bV];rfl
  have t1:(st++[aj.lst (xF E n),.lst (xW E n)]).set st.length (.lst (xF E n++[W.int (e.1:Nat)]))=st++[aj.lst (xF E (n+1)),.lst (xW E n)]:=by rw[fC,hkn];rfl
  rw[t1]
  have c3:(st++[aj.lst (xF E (n+1)),.lst (xW E n)])[st.length+1]?=some (.lst (xW E n)):=by rw[dz];rfl
  have t2:(st++[aj.lst (xF E (n+1)),.lst (xW E n)]).set (st.length+1) (.lst (xW E n++[W.int (e.2.s:Nat)]))=st++[aj.lst (xF E (n+1)),.lst (xW E (n+1))]:=by rw[im,hsn];rfl
  refine dM (fz (nv kv (eG c3) (ay kx bt) (rJ c3 (by simp[a7];show _<1000000;omega)))) (.inr ⟨_,_,E.length-(n+1),rfl,by omega,n+1,_,_,_,_,_,_,by omega,by omega,rfl,rfl,t2⟩)
end
section
variable{T':Nat->Nat->Nat->Nat}{g g':Nat->Bool}{E:List Ro}
theorem qu(hT:∀a x y,a<L->x∈rs->y∈rs->T a x y=T' a x y/\T a x y∈rs)(hg:∀x∈rs,g x=g' x):∀(s a b:Nat),a∈rs->b∈rs->ap T L g rs s a b=ap T' L g' rs s a b
 |0,a,b,ha,hb=>by unfold ap;rw[hg a ha,hg b hb]
 |s+1,a,b,ha,hb=>by
  unfold ap
  rw[qu hT hg s a b ha hb]
  congr 1
  have key:∀p∈lA L rs,∀x∈rs,led T p x=led T' p x/\led T p x∈rs:=fun p hp x hx=>by
   obtain⟨p1,p2,p3⟩:=k6.mp hp
   unfold led
   split
   ·exact hT _ _ _ p1 hx p3
   ·exact hT _ _ _ p1 p3 hx
  rw[gr,fW,fW]
  constructor
  ·rintro⟨p,hp,z⟩
   obtain⟨a1,a2⟩:=key p hp a ha
   obtain⟨b1,b2⟩:=key p hp b hb
   exact⟨p,hp,by rw[<- a1,<- b1,<- qu hT hg s _ _ a2 b2];exact z⟩
  ·rintro⟨p,hp,z⟩
   obtain⟨a1,a2⟩:=key p hp a ha
   obtain⟨b1,b2⟩:=key p hp b hb
   exact⟨p,hp,by rw[qu hT hg s _ _ a2 b2,a1,b1];exact z⟩
theorem q_.congr(h:q_ T L N E)(hT:∀a x y,a<L->x<N->y<N->T a x y=T' a x y):q_ T' L N E:=by
 refine⟨⟨h.told.zero,h.told.lt,h.told.nd,fun i e he hi=>?_,h.told.rise⟩,fun l r a hl hr ha el er h1 h2=>?_⟩
 ·obtain⟨q1,q2,el,er,q3,q4,q5,q6,q7⟩:=h.told.row i e he hi
  exact⟨q1,q2,el,er,q3,q4,q5,by rw[<- hT _ _ _ q5 (h.told.lt _ (al q3)) (h.told.lt _ (al q4))];exact q6,q7⟩
 ·rcases h.cov l r a hl hr ha el er h1 h2 with⟨i,e,q1,q2,q3⟩|⟨p,hp,_⟩
  ·exact .inl ⟨i,e,q1,by rw[<- hT _ _ _ ha (h.told.lt _ (al h1)) (h.told.lt _ (al h2))];exact q2,q3⟩
  ·cases hp
end
theorem CG:∀l:List Nat,(gK l).length*2=l.length*(l.length-1)
 |[]=>rfl
 |x::r=>by
  have ih:=CG r
  unfold gK
  rw[aC,ai,br]
  rcases gf r.length with z|z
  ·rw[z]at ih ⊢;omega
  ·obtain⟨k,hk⟩:∃k,r.length=k+1:=⟨r.length-1,by omega⟩
   rw[hk]at ih ⊢
   rw[n5,ih,Nat.add_sub_cancel,Nat.add_sub_cancel,n5 (k+1) 1,qF (k+1) k,Nat.mul_add k]
   have:(k+1)*(k+1)=k*k+k+k+1:=by rw[n5,Nat.mul_add];omega
   omega
section
variable{M:Mc}{E:List Ro}{h:Nat->Nat}
abbrev Tk(E:List Ro)(h:Nat->Nat)(j:Nat):Ro:=E.getD (h j) (0,zW)
abbrev mB(M:Mc)(E:List Ro)(B h:Nat->Nat)(m:Nat):Mc:=xV M (E.map Prod.fst) B h m
theorem rj:(mB M E B h m).tb.length=M.tb.length:=by simp[xV]
theorem AZ.m_le(l:AZ M N E B h m rs):m<=N/\1<=m:=by
 have h1:=l.rm.len
 have h2:=l.can.len (by omega)
 have h3:=l.full.told.len
 rw[ai]at h2
 have h4:=l.full.told.len0
 obtain⟨r,e⟩:=l.full.told.zero
 have:=(l.can.fst 0 0 (by rw[e];rfl)).1
 omega
theorem AZ.at'(l:AZ M N E B h m rs){j:Nat}(hj:j<m):(Tk E h j).1=oD (E.map Prod.fst) h j:=by
 obtain⟨h1,_,_⟩:=l.can.at' hj
 rw[ak]at h1
 obtain⟨e,he,h2⟩:=aX.mp h1
 unfold Tk
 rw[aE,he]
 exact h2
theorem AZ.fullB(l:AZ M N E B h m rs):q_ (bc (mB M E B h m)) (mB M E B h m).tb.length m (uS E B (Tk E h) m):=by
 rw[rj]
 refine(l.last.quo l.full l.rm l.can).ok.congr fun a x y ha hx hy=>?_
 rw[xA ha hx hy,<- l.at' hx,<- l.at' hy];rfl
theorem Ko:(uS E B (Tk E h) m).map Prod.fst=List.range m:=by
 unfold uS
 rw[aS]
 exact(bf fun _ _=>rfl).trans (lj _)
theorem AZ.okB(l:AZ M N E B h m rs):rM (mB M E B h m) m:=OF l.rm l.can
theorem AZ.rmB(l:AZ M N E B h m rs):Rm (mB M E B h m) m (List.range m):=by
 have hm:=l.m_le
 have hl:=l.can.len (by have:=l.rm.len;omega)
 refine⟨l.okB,fun a ha=>aM.mp ha,me,by rw[b9];have:=l.rm.len;omega,?_,fun k hk a ha b hb=>?_⟩
 ·rw[rj,b9]
  exact a_ (jD _ (by omega)) l.rm.sz
 ·rw[rj]at hk
  rw[xA hk (aM.mp ha) (aM.mp hb)]
  obtain⟨i,hi⟩:=a9 (l.rm.cl k hk _ (l.can.at' (aM.mp ha)).2.1 _ (l.can.at' (aM.mp hb)).2.1)
  exact aM.mpr (l.can.fst i _ hi).1
theorem AZ.gB(l:AZ M N E B h m rs)(hj:j<m):gM (mB M E B h m) j=gM M (oD (E.map Prod.fst) h j):=by
 show((List.range m).map fun j=>gM M (oD (E.map Prod.fst) h j)).getD j false=_
 rw[aE,ak,cW hj];rfl
theorem AZ.mu(l:AZ M N E B h m rs)(hn:Hg (mB M E B h m) (List.range m) n):Ei (bc (mB M E B h m)) (mB M E B h m).tb.length (gM (mB M E B h m)) (List.range m) n=0:=by
 obtain⟨s0,b0,_⟩:=l.last.ok
 have q:=l.last.blks l.rm l.can
 refine D0 mX (fun p hp a ha=>l.rmB.led hp ha) hn.stop fun a ha b hb hab=>?_
 have ha':=aM.mp ha
 have hb':=aM.mp hb
 obtain⟨a1,a2⟩:=q.hd a ha'
 obtain⟨b1,b2⟩:=q.hd b hb'
 refine⟨s0,?_⟩
 rw[qu (T':=qT (bc M) B (oD (E.map Prod.fst) h)) (g':=fun j=>gM M (oD (E.map Prod.fst) h j)) (fun k x y hk hx hy=>⟨by rw[rj]at hk;rw[xA hk (aM.mp hx) (aM.mp hy)],l.rmB.cl k hk x hx y hy⟩) (fun x hx=>l.gB (aM.mp hx)) s0 a b ha hb]
 rw[rj,q.ap s0 a b ha' hb']
 cases e:ap (bc M) M.tb.length (gM M) (E.map Prod.fst) s0 (oD (E.map Prod.fst) h a) (oD (E.map Prod.fst) h b)with
 |true=>rfl
 |false=>
  have:=(b0 _ a1 _ b1).mpr e
  rw[a2,b2]at this
  exact absurd this hab
end
theorem CI{st:List aj}(hn:n<=1000):qW [.int (n:Nat)] st=.ok (.loc st.length) (st++[.lst (eY (List.range n))]):=by
 unfold qW
 simp only
 rw[am ⟨by omega,by omega⟩]
 congr 3
 unfold bq eY
 rw[aR]
 congr 1
 refine bf fun i _=>?_
 rw[cR]
theorem Kp(l:List Nat):eX (eY l)=some (zI l):=by
 rw[show eY l=(zI l).map W.int by unfold eY zI;rw[aS];rfl]
 exact nX _
theorem Se{st:List aj}(h1:st[n]?=some (.lst (eY l)))(h2:st[m]?=some (.lst (eY l))):DG (.loc n) (.loc m) st=.ok (.bl false) st:=by
 unfold DG
 simp only[aO h1,aO h2,cp,Kp,decide_true]
 rfl
theorem UZ(ns:List Int):fx (.ro (ns.map W.int)::rZ tabL):=fun d hd c=>by
 simp only[rZ,tabL,List.map,aK,iX,qH]at hd
 rcases hd with rfl|rfl|rfl<;>rfl
theorem law_ok:Fj (rZ tabL) f_q30:=by
 intro ns HF
 suffices hh:gs (rK fun w bE=>w=.bl true) (LO ([W.loc 0].map some++List.replicate (5-1) none) (.ro (ns.map W.int)::rZ tabL)) by
  obtain⟨w,bE,e,rfl⟩:=hh
  exact⟨_,sj e⟩
 have h0:(aj.ro (ns.map W.int)::rZ tabL)[0]?=some (.ro (ns.map W.int)):=rfl
 have ht:(aj.ro (ns.map W.int)::rZ tabL)[1]?=some R8:=rfl
 have KB:(aj.ro (ns.map W.int)::rZ tabL)[2]?=some OI:=rfl
 have LY:=UZ ns
 generalize Pv:(aj.ro (ns.map W.int)::rZ tabL:List aj)=s0 at h0 ht KB LY
 obtain⟨c0,e0⟩:=qm h0 0
 obtain⟨gN,pK,hpd,_,e1⟩:=JT c0 2000003 6 (by omega) s0
 obtain⟨M,n,hM,hn1,Ek,zR,hsz,_,ea⟩:=Ol h0 1 gN (by omega) (by omega)
 refine aG (bU (d8 (ay kv (ay cP (ay (d8 (ay (d8 (ay kv (ay cP bt)) e0 rfl) (ay cP (ay cP bt))) e1 rfl) bt))) ea rfl)) ?_
 refine ou (fun ρ S=>∃(M3:Mc) (n3:Nat) (x:List aj),rM M3 n3/\1<=n3/\n3<=20/\M3.tb.length*(2*n3)<=10000/\M3.tb.length<=64/\M3.nm.length<=20/\fx x/\S=s0++x/\ρ=[lO 0,some M3.w,none,none,none]) ?_ ?_
 ·obtain⟨c2,e2'⟩:=qm h0 40
  obtain⟨hs,hhl,_,e3⟩:=nT c2 8000009 1 (by omega) s0
  obtain⟨d,rfl⟩:∃a,hs=[a]:=by
   match hs,hhl with
   |[a],_=>exact⟨_,rfl⟩
  have i0:bu (.loc s0.length) (.int 0) (s0++[.lst ([d].map W.int)])=.ok (.int d) (s0++[.lst ([d].map W.int)]):=fN (i:=0) (ds:=[d]) bw rfl
  obtain⟨q,hq,eq⟩:=f_ (q:=d) (n:=8) (by omega)
  have mo:eK (.int d) (.int 8) (s0++[.lst ([d].map W.int)])=.ok (.int (q:Nat)) (s0++[.lst ([d].map W.int)]):=by
   have:d%8=(q:Int):=eq
   rw[<- this];exact lz (by decide)
  have tsx:eV (e2 nu (e2 eK (e2 bu (d7 3 lW (af (d7 2 nS (af (ac 0) (af (eI 40) aB))) (af (eI 1) (af (eI 8000009) aB)))) (eI 0)) (eI 8)) (eI 3)) [lO 0,some M.w,none,none,none] s0=.ok ((q:Int)==3) (s0++[.lst ([d].map W.int)]):=bX (bJ (bJ (bJ (d8 (ay (d8 (ay kv (ay cP bt)) e2' rfl) (ay cP (ay cP bt))) e3 rfl) cP i0) cP mo) cP (io rfl))
  cases hdec:((q:Int)==3)with
  |true=>
   rw[hdec]at tsx
   obtain⟨c3,e4⟩:=qm (aJ (x:=[.lst ([d].map W.int)]) h0) 41
   obtain⟨hs3,hhl3,_,e5⟩:=nT c3 9000011 50 (by omega) (s0++[.lst ([d].map W.int)])
   obtain⟨M3,n3,hM3,h12,h20,hnm3,e6⟩:=D6 (dl:=(s0++[aj.lst ([d].map W.int)]).length) (ds:=hs3) (st:=s0++[.lst ([d].map W.int)]++[.lst (hs3.map W.int)]) bw hhl3
   have hl1:M3.tb.length=1:=by rw[hM3.tb,hnm3];rfl
   refine jy tsx ⟨_,_,bU (d8 (ay (d8 (ay (d8 (ay kv (ay cP bt)) e4 rfl) (ay cP (ay cP bt))) e5 rfl) bt) e6 rfl),M3,n3,_,hM3,by omega,h20,by rw[hl1];omega,by omega,by rw[hnm3];simp,?_,by rw[aw],rfl⟩
   exact i9 (xU (fun _=>rfl) zO) (xU (fun _=>rfl) zO)
  |false=>
   rw[hdec]at tsx
   have a:2^M.nm.length*n<=n*n*2^M.nm.length:=by
    rw[qF (n*n)]
    exact jD _ (mi _ hn1)
   have b:2^M.nm.length<=2^6:=gS (by omega) (by omega)
   refine iJ tsx ⟨_,_,rfl,M,n,_,hM,hn1,by omega,?_,by rw[hM.tb];omega,by omega,xU (fun _=>rfl) zO,rfl,rfl⟩
   rw[hM.tb,show 2^M.nm.length*(2*n)=2*(2^M.nm.length*n) by rw[Nat.mul_left_comm]]
   omega
 ·rintro ρ S ⟨M,N,x,hM,h1,h20,hsz,hL,zR,npx,rfl,rfl⟩
  have LY:=i9 LY npx
  have ht:=aJ (x:=x) ht
  have KB:=aJ (x:=x) KB
  generalize s0++x=S at LY ht KB
  obtain⟨E,B,h,m,rs,l,el⟩:=Hq hM h1 (by omega) hsz hL LY ht KB
  obtain⟨hmN,hm1⟩:=l.m_le
  refine aG (bU (d8 kn el rfl)) ?_
  refine cx (fG (m9 (bX (nQ kv rfl rfl)) rfl) (bX (bJ (bi kn (w:=.int 2) rfl) cP (vH rfl)))) (cK ?_)
  have ef:=Kh l.okB hm1 (by omega) zR S
  have g0:bu (D2 M E B h m rs) (.int 0) S=.ok (mB M E B h m).w S:=rfl
  have gn:bu M.w (.int 0) S=.ok (.str (mB M E B h m).nm) S:=rfl
  refine cx (m9 (a:=true) (bX (d8 (ay (bJ kv cP g0) (ay (bJ kv cP gn) bt)) ef rfl)) rfl) (cK ?_)
  refine aG (bU (bJ kv cP g0)) ?_
  have g1:bu (mB M E B h m).w (.int 1) S=.ok (.tup ((mB M E B h m).gd.map W.bl)) S:=rfl
  have ln:cU [.tup ((mB M E B h m).gd.map W.bl)] S=.ok (.int (m:Nat)) S:=by rw[jh,ai,l.okB.gd]
  refine aG (bU (bi (ay (bJ kv cP g1) bt) ln)) ?_
  have g1':bu M.w (.int 1) S=.ok (.tup (M.gd.map W.bl)) S:=rfl
  have ln':cU [.tup (M.gd.map W.bl)] S=.ok (.int (N:Nat)) S:=by rw[jh,ai,hM.gd]
  obtain⟨x,es⟩:=A4 l.okB l.fullB (by omega) (by rw[rj];exact hL) S
  rw[Ko]at es
  have hgt:Eg (.int (m:Nat)) (.int (N:Nat)) S=.ok (.bl false) S:=nR (bb (by omega))
  have c1:(S++.lst (eY (List.range m))::x)[S.length]?=some (.lst (eY (List.range m))):=by rw[cZ];rfl
  have c2:(S++.lst (eY (List.range m))::x++[.lst (eY (List.range m))])[(S++.lst (eY (List.range m))::x).length]?=some (.lst (eY (List.range m))):=bw
  refine cx (fG (bX (bJ kv (bi (ay (bJ kv cP g1') bt) ln') hgt)) (bX (bJ (d8 kn es rfl) (bi kn (CI (by omega))) (Se (aJ c1) c2)))) (cK ?_)
  generalize (S++.lst (eY (List.range m))::x++[.lst (eY (List.range m))]:List aj)=S1
  obtain⟨n,hE,eu⟩:=A3 l.rmB mX (st:=S1++[.lst (eY (List.range m))]) (r:=S1.length) bw
  have ho:=xB (M:=mB M E B h m) (rs:=List.range m) n
  rw[l.mu hE,iz]at ho
  have h2:=CG (List.range m)
  rw[<- ho,b9]at h2
  have hlu:(iS (mB M E B h m) (List.range m) n).length<=1000:=by
   have:=iE hmN (a_ (Nat.sub_le m 1) hmN)
   have:N*N<=20*20:=iE h20 h20
   omega
  have hz:((iS (mB M E B h m) (List.range m) n).length:Int)*2=(m:Int)*((m:Int)-1):=by
   have:=dq (fun k:Nat=>(k:Int)) h2
   simp only[jq]at this
   rw[Int.natCast_sub hm1]at this
   exact this
  have m1:g_ (.int ((iS (mB M E B h m) (List.range m) n).length:Nat)) (.int 2) (S1++[.lst (eY (List.range m))])=.ok (.int (((iS (mB M E B h m) (List.range m) n).length:Int)*2)) (S1++[.lst (eY (List.range m))]):=qX (.inr (by decide))
  have m2:g_ (.int (m:Nat)) (.int ((m:Int)-1)) (S1++[.lst (eY (List.range m))])=.ok (.int ((m:Int)*((m:Int)-1))) (S1++[.lst (eY (List.range m))]):=qX (.inl ⟨by omega,by omega⟩)
  refine ei (bJ (bJ (bi (ay (d8 (ay kv (ay (bi kn (CI (by omega))) bt)) eu rfl) bt) jh) cP m1) (bJ kv (bJ kv cP rfl) m2) (io (by rw[hz,dQ]))) ⟨_,_,rfl,rfl⟩
theorem all_mk{l:PySem.W.OpenLaw}{w:World}{fa:Addr}(X:K.In h)(G:h.Ns mainGlobals mg)(U0:mg "law"=some (.ref fa))
  {HL Bh A9:Addr} {Sl Sw Pd O2 O6 HZ:Option Addr} {SV OT O4:Array (Option Value)} {SC SF SD SQ SR OX OU OZ OW O1 OP HM HP HN Bf HX:Value} {jK k_:Addr}
  (A6:DefIn K "table_by" NM)
  (xJ:DefIn K "pairs_with" NN)
  (Be:DefIn K "numbered" NO)
  (uV:DefIn K "good_blocks" NP)
  (A':DefIn K "views_of" NQ)
  (uu:DefIn K "split_blocks" NR)
  (Ba:DefIn K "put_ways" NS)
  (uY:DefIn K "last_blocks" NT)
  (Bd:DefIn K "heads_of" NU)
  (xH:DefIn K "_law_mixed" F3)
  (xO:DefIn K "_law_draws" F5)
  (zE:DefIn K "_law_cell" F7)
  (xN:DefIn K "_law_shape" F9)
  (xM:DefIn K "_law_names" F')
  (uX:DefIn K "_law_blocks" Gb)
  (xG:DefIn K "_law_grown" Gd)
  (uT:DefIn K "_law_graded" Gf)
  (uy:DefIn K "_law_spotted" Gh)
  (xR:DefIn K "_law_blown" Gj)
  (xP:DefIn K "_law_owner" Gm)
  (uv:DefIn K "_law_machine" Gp)
  (Bc:DefIn K "_law_any" Gr)
  (zH:DefIn K "_law_pool" Gv)
  (zG:DefIn K "_law_fits" Gx)
  (uA:DefIn K "_law_settled" Gz)
  (Bb:DefIn K "_law_why" GB)
  (uU:DefIn K "_law_unlike" GD)
  (uW:DefIn K "_law_ladder" GF)
  (Um:nsIn K mainGlobals "firsts_of"=some (some (.ref HL)))
  (Ul:K.lookup HL=some ⟨SC,Sl,.func (fnOf "firsts_of" "firsts_of" (dS DM) (dU DM) (aZ DM) .none SF SD SQ Sw (.ref jK) SR),SV⟩)
  (H9:codeIn K (.ref jK) "firsts_of"=true)
  (Ur:keepIn K (.ref HL)=true)
  (tc_firsts_of:codeHdIn K jK 59=true)
  (tk_firsts_of:K.lookup 59=none)
  (SN:nsIn K mainGlobals "least_of"=some (some (.ref Bh)))
  (Sj:K.lookup Bh=some ⟨OX,Pd,.func (fnOf "least_of" "least_of" (dS t9) (dU t9) (aZ t9) .none OU OZ OW O2 (.ref k_) O1),OT⟩)
  (D8:codeIn K (.ref k_) "least_of"=true)
  (SX:keepIn K (.ref Bh)=true)
  (tc_least_of:codeHdIn K k_ 80=true)
  (tk_least_of:K.lookup 80=none)
  (Md:nsIn K mainGlobals "law"=some (some (.ref A9)))
  (SH:K.lookup A9=some ⟨OP,O6,.func (fnOf "law" "law" (dS qk) (dU qk) (aZ qk) .none HM HP HN HZ Bf HX),O4⟩)
  (D9:codeIn K Bf "law"=true)
  (Sq:keepIn K (.ref A9)=true)
  (Pc:nsIn K mainGlobals "bool"=some none)
  (zM:nsIn K mainGlobals "enumerate"=some none)
  (Sn:nsIn K mainGlobals "int"=some none)
  (xK:nsIn K mainGlobals "isinstance"=some none)
  (Sy:nsIn K mainGlobals "len"=some none)
  (OY:nsIn K mainGlobals "list"=some none)
  (SJ:nsIn K mainGlobals "max"=some none)
  (SM:nsIn K mainGlobals "min"=some none)
  (Ky:nsIn K mainGlobals "range"=some none)
  (HS:nsIn K mainGlobals "sorted"=some none)
  (Sz:nsIn K mainGlobals "str"=some none)
  (Kw:nsIn K mainGlobals "tuple"=some none) :
  ∃fd:FuncData,(∀(s:Shared) (v:Value),BindsTo s fd ⟨[v],[]⟩ [("_law_script",v)])/\∀base:Heap,K.In base->base.Ns mainGlobals mg->rY base mg->fy l.prog w K mg base (jE l.prog w) 5 fa fd GG (lJ K mg 1 f_q30):=by
 have e:=U0.symm.trans (mg_of X G Md)
 cases e
 have F_q7:=wc (st:=DM) Ul H9 Ur
 have m_q7:=mg_of X G Um
 have F_q10:=wc (st:=t9) Sj D8 SX
 have m_q10:=mg_of X G SN
 have F_q30:=wc (st:=qk) SH D9 Sq
 have m_q30:=mg_of X G Md
 have B:Bl mg:=⟨mg_none_of X G Pc,mg_none_of X G zM,mg_none_of X G Sn,mg_none_of X G xK,mg_none_of X G Sy,mg_none_of X G OY,mg_none_of X G SJ,mg_none_of X G SM,mg_none_of X G Ky,mg_none_of X G HS,mg_none_of X G Sz,mg_none_of X G Kw⟩
 refine⟨fnOf "law" "law" (dS qk) (dU qk) (aZ qk) .none HM HP HN HZ Bf HX,fun s v=>.of_eq rfl,fun base _ _ Bk=>?_⟩
 have qd:=@Nt l.prog w K mg base
 have iT:=oF (P:=l.prog) (w:=w) (K:=K) (mg:=mg) (base:=base)  
 have O8:=qd A6 X G fun F=>Rw F B iT 
 have Sk:=qd xJ X G fun F=>Ry F B  
 have Kr:=qd Be X G fun F=>RA F B  
 have ON:=qd uV X G fun F=>RC F   Kr
 have Ks:=qd A' X G fun F=>RE F B  
 have Kt:=qd uu X G fun F=>RG F   Kr
 have Kq:=qd Ba X G fun F=>RI F B  Sk
 have OM:eO l.prog w K mg base 3 "firsts_of" 1 DQ:=Fv F_q7 m_q7 (RL F_q7 ⟨jK,rfl,tc_firsts_of,tk_firsts_of⟩ Bk B  Kq)
 have O_:=qd uY X G fun F=>RN F   ON Kt Ks
 have O0:=qd Bd X G fun F=>RP F B  
 have HC:eO l.prog w K mg base 4 "least_of" 1 y_:=Fv F_q10 m_q10 (NV F_q10 ⟨k_,rfl,tc_least_of,tk_least_of⟩ Bk B  OM O0 O_ O8)
 have L8:=qd xH X G fun F=>NW F   
 have oR:=qd xO X G fun F=>NX F B  L8
 have qy:=qd zE X G fun F=>NY F B  
 have L3:=qd xN X G fun F=>NZ F   
 have L':=qd xM X G fun F=>N0 F B  
 have Ma:=qd uX X G fun F=>N1 F B  qy oR
 have L6:=qd xG X G fun F=>N2 F B  
 have L9:=qd uT X G fun F=>N3 F B  L6
 have LZ:=qd uy X G fun F=>N4 F B  
 have L4:=qd xR X G fun F=>N5 F B  
 have zJ:=qd xP X G fun F=>N6 F B  
 have Mb:=qd uv X G fun F=>N7 F B  
 have HE:=qd Bc X G fun F=>N8 F   Ma L4 qy oR L9 Mb L' zJ L3 LZ
 have HD:=qd zH X G fun F=>N9 F B  oR
 have HU:=qd zG X G fun F=>N_ F B  
 have HQ:=qd uA X G fun F=>N' F B  
 have L7:=qd Bb X G fun F=>Oa F B  
 have HG:=qd uU X G fun F=>Ob F B  L7
 have HJ:=qd uW X G fun F=>Oc F B  zJ
 exact Od F_q30 B  HE qy oR HU HJ HD HQ HG HC
end P
end
namespace PySem.W.Fast
def tw4273800752196017662:=0
def tw13174649586449320219:=0
def tw10154870544303226522:=0
def tw14801708201645613466:=0
def tw8959645361844978553:=0
def tw17702069619026134577:=0
def tw2180343082241558959:=0
def tw9356377243471582251:=0
def tw11077860192777331782:=0
def tw16584382812852912869:=0
def tw677360529721799299:=0
def tw16856542604692923498:=0
def tw627289702486615752:=0
def tw3769739417753763559:=0
def tw12830173358674818218:=0
def tw1130129329116468936:=0
def tw15663059462722787568:=0
def tw9400888393921247685:=0
def tw78932739988160877:=0
def tw1986846527757664758:=0
def tw859823628611366903:=0
def tw13895107528767240812:=0
def tw2721835423743198823:=0
def tw5732549610801735004:=0
def tw16216570896921051341:=0
def tw1621712448654530139:=0
def tw9939547192985245455:=0
def tw9226793440826310551:=0
def tw5227648818763933374:=0
def tw723148716199307860:=0
def tw8918623317984545383:=0
def tw13169907791218193294:=0
def tw18248920548410071373:=0
def tw8404270379753456692:=0
def tw4210926323114083679:=0
def tw7907767433784112697:=0
def tw14909196588835819727:=0
def tw11370924686370421690:=0
def tw4814256988527183255:=0
def tw6438784475767795663:=0
def tw6055472300311549803:=0
def tw84311300860620128:=0
def tw13219200405139995311:=0
def tw15577204011612891345:=0
def tw16700787231193260501:=0
def tw10432547778313610152:=0
def tw12695908578812766412:=0
def tw11152531573949181791:=0
def tw5877109324534354583:=0
def tw12374248927301411219:=0
def tw14280985145145311685:=0
def tw15964555993858022371:=0
def tw13052375585527772006:=0
def tw17850425294292180653:=0
def tw3117814057751408068:=0
def tw13879839671659125863:=0
def tw12121092584588599873:=0
def tw5822541367611868320:=0
def tw7727909785075183439:=0
def tw6061774590893425051:=0
def tw6954813543881921953:=0
def tw859093543525770479:=0
def tw15385426112760327743:=0
def tw11899964350252479666:=0
def tw6479633647612065200:=0
def tw395221752961939954:=0
def tw1822354835289836779:=0
def tw9541105282592497504:=0
def tw4159222083790134171:=0
def tw17730200427464909286:=0
def tw18276676946983785432:=0
def tw10681310904895639299:=0
def tw5746600684536860606:=0
def tw16310145628916469900:=0
def tw2503491547572016171:=0
def tw158644633874309819:=0
def tw16606585432922075322:=0
def tw17153886982997716810:=0
def tw12614187174841108384:=0
def tw13918553925833380883:=0
def tw17340324409901558793:=0
def tw9209409847252406198:=0
def tw17710454237740054553:=0
def tw5661746090239134602:=0
def tw1039849453293797983:=0
def tw7120964974112375308:=0
def tw3674097534656349239:=0
def tw17165671141302628930:=0
def tw15754316460302671401:=0
def tw8330903408013433026:=0
def tw16996928385439361488:=0
def tw16730740800883107529:=0
def tw11191278960332739910:=0
def tw17721381119213306945:=0
def tw16304465911192469242:=0
def tw14041477894844385839:=0
def tw16315891648403116250:=0
def tw12858927498007651089:=0
def tw12187043629055461387:=0
def tw10564455507886802355:=0
def tw13312511806150295251:=0
def tw4571748305537068357:=0
def tw17020787454436171678:=0
def tw15998453623225243224:=0
def tw10865496049990879623:=0
def tw17991855913350104906:=0
def tw16413527307147092464:=0
def tw3987244926882982608:=0
def tw239498143598545366:=0
def tw10092807531625293334:=0
def tw9200072594537422024:=0
def tw16344056150541521351:=0
def tw17918027195436808534:=0
def tw16456186160863548965:=0
def tw992407958466464086:=0
def tw790107194408471924:=0
def tw16698839165810058413:=0
def tw2758993517512795700:=0
def tw13918981806910423555:=0
def tw16818075111972718955:=0
def tw9531582061222977394:=0
def tw5594221809750907418:=0
def tw305763336166555655:=0
def tw9911349735496054215:=0
def tw15612662975819283621:=0
def tw12083161009128924253:=0
def tw16818484878830899680:=0
def tw8184422235604008956:=0
def tw14458272235283458050:=0
def tw16505656907966259857:=0
def tw2829914026556151827:=0
def tw8066802853678123102:=0
def tw8942732278896119939:=0
def tw6514994766705335174:=0
def tw12228733099174807565:=0
def tw9682987660988424174:=0
def tw9533966573619214168:=0
def tw9011077693545718382:=0
def tw8699184407378015824:=0
def tw8623775295609776693:=0
def tw8622640441566267926:=0
def tw8604455232468849820:=0
def tw8107124898862390945:=0
def tw7368886460094660120:=0
def tw6879756414398220439:=0
end PySem.W.Fast
open PySem PySem.W PyProof.Rows
set_option maxRecDepth 100000 in
set_option maxHeartbeats 0 in
theorem PySem.Challenge.cw_trunksay_k25_least_machine_rooms_holds : PySem.Challenge.rw_trunksay_k25_least_machine_rooms.Holds := by
 w_on; o_law; k_head; (case hw => w_witness2)
 k_fill
 refine L2.walkT (l := PySem.Challenge.rw_trunksay_k25_least_machine_rooms) (k := 5) (x := "_law_script") (G := P.f_q30) P.tabL (by decide) rfl rfl ⟨rfl, by decide, by decide⟩ (fun w h Y => PySem.W.km_in_of Y) (fun w h Y T hT => PySem.W.km_tabs_of Y T hT) (fun w T hT => ?KT) (fun w T hT => ?CT) ?F P.law_ok
 case KT =>
  simp only [P.tabL, aF, dg, aK, iX, qH] at hT
  rcases hT with rfl | rfl
  ·kernel_rfl
  ·kernel_rfl
 case CT =>
  simp only [P.tabL, aF, dg, aK, iX, qH] at hT
  rcases hT with rfl | rfl
  ·exact ⟨63, by kernel_rfl⟩
  ·exact ⟨82, by kernel_rfl⟩
 case F =>
  intro w mg fa h KX G hmg
  refine' P.all_mk KX G hmg ?_ ?_ ?_ ?_ ?_ ?_ ?_ ?_ ?_ ?_ ?_ ?_ ?_ ?_ ?_ ?_ ?_ ?_ ?_ ?_ ?_ ?_ ?_ ?_ ?_ ?_ ?_ ?_ ?_ ?_ ?_ ?_ ?tc_firsts_of ?tk_firsts_of ?_ ?_ ?_ ?_ ?tc_least_of ?tk_least_of ?_ ?_ ?_ ?_ ?_ ?_ ?_ ?_ ?_ ?_ ?_ ?_ ?_ ?_ ?_ ?_
  any_goals (refine' L2.DefIn.mk ?a ?l ?c ?k; (case a => k_is); (case l => k_is); (case c => k_is); (case k => k_is))
  any_goals k_is
  (case tc_firsts_of => kernel_rfl)
  (case tk_firsts_of => kernel_rfl)
  (case tc_least_of => kernel_rfl)
  (case tk_least_of => kernel_rfl)
