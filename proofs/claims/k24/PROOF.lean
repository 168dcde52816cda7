import PyProof.Rows.All
import Wide.All
import OpenK.AllK
import Wide.FinOn
import Lean
import PyProof.EqAt
import PyProof.EqKinds
import PyProof.TupleCall
import PyProof.StrLawsIn
import PyProof.StationsW
import PyProof.NeData
import OpenK.KOwn
import PyProof.NsDelKeeps
import PyProof.ExcArgsOwn
import PyProof.ExcAttrAll.ValueError
import PyProof.IsiH_tuple
import KE.KIsAll
import PyProof.CollectStr
import PyProof.ZipIter
import PyProof.Rows.ZipGen
import PyProof.JoinWalk
import PyProof.CollectIter
import PyProof.EnumMake
import PyProof.SumAny
import PyProof.DictTruth
import KE.KDictList
import KE.KNest
import KE.KEqDict
import PyProof.ListRange
import KE.KEqSeq
import PyProof.Rows.SetFrom
import PySem.Challenge.RW_trunksay_k24_least_machine_paper
set_option Elab.async false
set_option linter.all false
set_option genSizeOf false
set_option maxRecDepth 100000
def aa:=@List.getElem?_eq_some_iff
def ac:=@List.getElem?_eq_getElem
def af:=@List.prefix_refl
def ah:=@PySem.wpAny_bind
def ai:=@List.length_map
def ak:=@List.getElem?_map
def al:=@List.mem_map
def am:=@List.mem_of_getElem?
def ao:=@List.prefix_append
def ar:=@PySem.Heap.get?_push_of_some
def au:=@List.getElem?_append_left
def av:=@List.append_assoc
def aw:=@Nat.le_refl
def ax:=@PySem.wpAny_pure
def ay:=@if_pos
def aA:=@List.mem_cons_of_mem
def aC:=@if_neg
def aD:=@List.size_toArray
def aE:=@List.getD_eq_getElem?_getD
def aF:=@List.length_append
def aG:=@List.map_cons
def aH:=@PySem.Heap.lt_size
def aI:=@List.mem_cons
def aN:=@List.mem_append
def aO:=@Int.toNat_natCast
def aQ:=@List.mem_cons_self
def aT:=@List.map_map
def aU:=@PySem.Heap.get?_push_size
def aV:=@decide_eq_false
def aW:=@List.mem_append_right
def aX:=@beq_eq_false_iff_ne
def aY:=@Nat.lt_of_lt_of_le
def aZ:=@List.getElem?_of_mem
def a6:=@Option.map_eq_some_iff
def a7:=@Option.some.inj
def a8:=@List.length_take
def a9:=@List.length_cons
def bh:=@Bool.and_eq_true
def bj:=@List.mem_range
def bn:=@decide_eq_true
def bq:=@List.map_congr_left
def br:=@List.mem_singleton
def bu:=@Nat.le_trans
def bv:=@List.getElem?_set_self
def bD:=@Nat.lt_irrefl
def bE:=@Nat.ne_of_lt
def bF:=@List.nodup_cons
def bG:=@List.find?_cons
def bI:=@Nat.le_of_ble_eq_true
def bL:=@List.getElem?_concat_length
def bN:=@PySem.wpAny_loadPart'
def bP:=@List.getElem?_set_ne
def bT:=@Bool.false_ne_true
def bU:=@List.append_nil
def bX:=@List.getElem?_append_right
def bY:=@decide_eq_true_iff
def b8:=@Bool.and_true
def b9:=@beq_iff_eq
def cv:=@List.map_append
def cA:=@List.pairwise_cons
def cB:=@Bool.false_eq_true
def cE:=@Nat.not_lt_zero
def cF:=@PySem.wpAny_holding
def cG:=@List.getElem?_take_of_lt
def cH:=@beq_self_eq_true
def cK:=@PySem.Heap.SameBut.update
def cO:=@PyProof.Rows.callWith_type1
def cP:=@List.length_range
def cQ:=@Function.comp_def
def cR:=@List.nodup_append
def cW:=@List.mem_append_left
def cZ:=@List.filter_cons
def du:=@PySem.wpAny_Call_Name_kw
def dy:=@PySem.wpAny_callSpecial?_slot
def dz:=@PySem.wpAny_call_entry
def dA:=@Nat.le_of_not_lt
def dB:=@Nat.zero_le
def dC:=@List.getElem_map
def dJ:=@congrArg
def dL:=@List.map_nil
def dM:=@List.take_of_length_le
def dO:=@List.getElem?_range
def dP:=@List.length_nil
def dR:=@PyProof.Rows.slot_tuple_getitem
def dZ:=@PySem.wpAny_mono
def d5:=@List.length_drop
def d6:=@List.all_eq_true
def d7:=@PyProof.Rows.boot_tuple
def d_:=@Nat.le_of_lt
def ej:=@Bool.not_true
def eA:=@Nat.lt_or_ge
def eJ:=@PySem.wpAny_truthy_bool
def eK:=@PySem.wpAny_newObj_type
def eN:=@List.mem_filter
def eX:=@Int.zero_add
def fg:=@PySem.Calls.spliced_cons
def fj:=@PySem.F.slot_tuple_iterator_next
def fx:=@if_true
def fC:=@List.drop_eq_getElem_cons
def fD:=@PySem.wpAny_passesOwn
def fE:=@PySem.wpAny_specialOf
def fF:=@Bool.or_eq_true
def fH:=@List.any_eq_false
def fI:=@Nat.zero_add
def fN:=@List.filterMap_cons
def fO:=@Array.length_toList
def fT:=@List.lookup_cons
def fU:=@PySem.wpAny_seqItems
def fV:=@List.any_eq_true
def fW:=@List.getElem_mem
def fX:=@List.take_length
def f9:=@PySem.Calls.callWith_builtin
def gb:=@if_false
def gc:=@Nat.le_antisymm
def gf:=@PySem.boot_len
def gj:=@PySem.Heap.get?_update_self
def gk:=@List.length_singleton
def gp:=@List.length_filter_le
def gq:=@List.getElem?_eq_none
def gr:=@PySem.wpAny_callSpecialIfBoundUnlessNone?_slot
def gs:=@List.set_append_right
def gw:=@PySem.Calls.spliced_nil
def gy:=@List.take_sublist
def gz:=@Nat.lt_succ_of_lt
def gA:=@Bool.not_eq_true'
def gC:=@List.pairwise_map
def gH:=@PySem.wpAny_field
def gI:=@PySem.wpAny_tryCatch
def gJ:=@PySem.Obj.data_mapDictKeys
def gK:=@Nat.pow_le_pow_right
def gO:=@PySem.wpAny_forIn_list
def gU:=@List.foldl_cons
def gW:=@Int.emod_nonneg
def gX:=@Bool.eq_iff_iff
def g8:=@PySem.wpAny_rule
def g9:=@List.getElem_range
def hW:=@List.getElem?_replicate
def hX:=@Nat.le_succ
def hZ:=@List.getElem?_cons_succ
def ik:=@PySem.Heap.get?_update_other
def il:=@PySem.codeAny_mono
def io:=@List.range_succ_eq_map
def ip:=@Nat.lt_of_succ_lt_succ
def iq:=@of_decide_eq_true
def iu:=@List.foldl_append
def iG:=@PySem.isSubtype_tuple_tuple
def iP:=@PyProof.Rows.callWith_builtin1
def iQ:=@Nat.lt_succ_self
def iR:=@PySem.wpAny_isInstance
def iS:=@List.ext_getElem
def i_:=@PySem.Calls.evalArgs_plain
def ja:=@PySem.Around.under_plainId
def jb:=@List.take_append_of_le_length
def jk:=@PySem.wpAny_execs_nil
def jl:=@List.of_mem_zip
def jm:=@PySem.F.args_tuple_iterator_next_1
def jn:=@PySem.wpAny_updateSeq
def jo:=@Int.natCast_mul
def jp:=@Nat.min_eq_left
def jq:=@List.range_succ
def jv:=@List.replicate_succ
def jB:=@PySem.F.entry_tuple_iterator_next
def jC:=@List.map_set
def jD:=@List.idxOf_lt_length_of_mem
def jI:=@LawfulBEq.eq_of_beq
def j3:=@PySem.Calls.Name_function_global
def j4:=@PySem.wpAny_pyIter_tuple
def j5:=@Int.fdiv_eq_ediv_of_nonneg
def j6:=@PySem.call_meets
def j7:=@Nat.lt_of_le_of_lt
def j8:=@PySem.tupleKind_room_in1
def j9:=@PySem.Heap.size_push
def j_:=@Bool.not_false
def kg:=@List.Perm.refl
def kh:=@List.find?_eq_none
def ki:=@PySem.wpAny_tupleItemsOf
def kj:=@Array.forIn_toList
def ko:=@List.nodup_nil
def kq:=@Int.emod_lt_of_pos
def kr:=@Nat.eq_or_lt_of_le
def kt:=@Nat.eq_zero_or_pos
def ku:=@List.perm_ext_iff_of_nodup
def kF:=@PySem.Calls.call_function_entry
def kG:=@List.getElem?_zip_eq_some
def kH:=@List.findIdx?_eq_none_iff
def kR:=@PySem.sizeLine_eq
def kS:=@Option.isSome_map
def kT:=@PySem.wpAny_letGo
def kU:=@List.ext_getElem?
def kW:=@PySem.wpAny_dictEntries
def kX:=@PyProof.Rows.boot_sorted
def kY:=@List.idxOf_append
def lw:=@PySem.wpAny_standAt
def lx:=@PySem.AutoSeq1.sub_tuple_tuple
def ly:=@List.all_cons
def lz:=@PySem.plainId_quiet
def lA:=@List.sum_cons
def lB:=@Nat.lt_succ_iff_lt_or_eq
def lS:=@PySem.noFill_tuple_add
def lT:=@PySem.wpAny_getItem_of
def lU:=@Int.eq_ofNat_of_zero_le
def lV:=@List.length_eq_zero_iff
def lW:=@Nat.add_sub_cancel_left
def lX:=@List.not_mem_nil
def mw:=@PySem.wpAny_Name
def my:=@PySem.wpAny_pyIter_rangeiter
def mz:=@PyProof.noPylong_small
def mC:=@PyProof.Rows.subscriptTail_builtinR
def mD:=@PySem.call_meetsIn
def mE:=@Nat.add_zero
def mF:=@List.drop_eq_nil_of_le
def mG:=@List.drop_of_length_le
def mH:=@dif_pos
def mI:=@PySem.wpAny_call
def mJ:=@List.length_pos_of_mem
def mK:=@PySem.wpAny_pyNext_dict_item
def mT:=@List.length_set
def mU:=@List.nil_append
def mV:=@PySem.codeAny_builtin
def mW:=@PySem.wpAny_ret_mkInt
def mX:=@Int.natCast_add
def mY:=@Option.map_some
def m9:=@PySem.wpAny_isTrue_Compare1
def m_:=@List.length_replicate
def ng:=@PySem.F.slot_enumerate_next
def nh:=@PySem.wpAny_notOrdered_dict
def ni:=@List.findIdx?_toArray
def nj:=@List.take_append_drop
def nI:=@Prod.mk.inj
def nJ:=@List.map_id
def oH:=@PySem.seq_tuple_add
def oI:=@List.any_cons
def oJ:=@Bool.true_and
def oK:=@PySem.SeqAt.str_beq
def oM:=@Nat.add_assoc
def oN:=@List.map_take
def oO:=@List.map_drop
def qi:=@Nat.ne_of_gt
def qj:=@PySem.concat_meets
def qk:=@PySem.wpAny_typeOf
def ql:=@PySem.seqIndex_neg
def qm:=@Nat.lt_trans
def qo:=@Nat.sub_self
set_option compiler.extract_closed false
noncomputable section
variable{us bz:List PySem.Value}{x name qual:PySem.Str}{u:PySem.Value}{a b it f cd:PySem.Addr}{o:PySem.Obj}{P prog:PySem.Program}{h h' base:PySem.Heap}{α β:Type}{pins:List (PySem.Addr×PySem.Obj)}{s:PySem.Shared}{g':Array PySem.GenState}{t' N i j n m kk q L:Nat}{ch fp μ μ':List PySem.Addr}{M:PySem.Model}{A:PySem.Around}{E Q:PySem.Value->PySem.Shared->Prop}{e c tg iter mv:PySem.Expr}{pos ji p fK p2 dk:PySem.Pos}{op:PySem.CmpOp}{K:PySem.W.Frag}{es kC Hh:List PySem.Expr}{g:PySem.Value->PySem.Value->PySem.Sem PySem.Value}{body:List PySem.Stmt}{C cl:List (PySem.Str×PySem.Addr)}{mA mg:PySem.Str->Option PySem.Value}{t ls:List (List Nat)}{fd:PySem.FuncData}{ps nm:List PySem.Str}{kindOf:PySem.Str->Option PySem.NameKind}{sc scope:PySem.Scope}{id:String}{T:Nat->Nat->Nat->Nat}{l row rs mt S:List Nat}{items:Array PySem.Value}{ns ds:List Int}{XP:(PySem.Str->Option PySem.Value)->PySem.Heap->Prop}{YP:PySem.World->PySem.Heap->Prop}{env:PySem.Env}{ks:List (Option PySem.Expr)}{cap:List (Option Nat)}{φ:PySem.Heap->Prop}{B B':Nat->Nat}
open PySem.W (Frag)
open PySem.W (kia_one fnOf codeIn keepIn codeHdIn kla_obj nsIn mg_of sortI fnMade mg_none_of)
namespace L2
open PySem PySem.Spec PyProof.Rows
abbrev fZ:=Sum Int Str
def uC:fZ->Value->Bool
 |.inl k,v=>Value.isInt k v
 |.inr x,v=>Value.isStrOf x v
def Tu(w:World):fZ->Int
 |.inl k=>hashInt k
 |.inr x=>hashStr w x
theorem eY:∀{k:fZ} {v:Value},uC k v=true->(∃i t,k=Sum.inl i/\v=Value.int i t)\/(∃x t,k=Sum.inr x/\v=Value.str x t)
 |.inl i,v,h=>by
  obtain⟨t,e⟩:=Value.isInt_shape (k:=i) (v:=v) h
  exact .inl ⟨i,t,rfl,e⟩
 |.inr x,v,h=>by
  obtain⟨t,e⟩:=Value.isStrOf_shape (x:=x) (v:=v) h
  exact .inr ⟨x,t,rfl,e⟩
theorem B4(i:Int)(t:Tok):uC (.inl i) (.int i t)=true:=by simp[uC,Value.isInt]
theorem B5(x:Str)(t:Tok):uC (.inr x) (.str x t)=true:=by simp[uC,Value.isStrOf]
theorem L6(a b:Int):decide ((Sum.inl a:fZ)=Sum.inl b)=(a==b):=by
 by_cases e:a=b
 ·subst e;simp
 ·have h:¬ (Sum.inl a:fZ)=Sum.inl b:=fun q=>e (Sum.inl.inj q)
  rw[aV h]
  exact(aX.mpr e).symm
theorem L7(a b:Str):decide ((Sum.inr a:fZ)=Sum.inr b)=decide (a=b):=by
 by_cases e:a=b
 ·subst e;simp
 ·have h:¬ (Sum.inr a:fZ)=Sum.inr b:=fun q=>e (Sum.inr.inj q)
  rw[aV h,aV e]
theorem L8(a:Int)(b:Str):decide ((Sum.inl a:fZ)=Sum.inr b)=false:=aV (fun q=>nomatch q)
theorem L9(a:Str)(b:Int):decide ((Sum.inr a:fZ)=Sum.inl b)=false:=aV (fun q=>nomatch q)
def eU(prog:Program)(w:World):PySem.KeyKind prog w fZ where
 is:=uC
 hash:=Tu w
 inj:=fun v a b ha hb=>by
  rcases eY ha with⟨i,t,rfl,rfl⟩|⟨x,t,rfl,rfl⟩
  ·rcases eY hb with⟨j,u,rfl,e⟩|⟨y,u,rfl,e⟩
   ·injection e with e1 _;rw[e1]
   ·exact nomatch e
  ·rcases eY hb with⟨j,u,rfl,e⟩|⟨y,u,rfl,e⟩
   ·exact nomatch e
   ·injection e with e1 _;rw[e1]
 byValue:=fun k v h=>by
  rcases eY h with⟨i,t,rfl,rfl⟩|⟨x,t,rfl,rfl⟩<;>rfl
 pyHash:=fun hv h=>by
  rcases eY hv with⟨i,t,rfl,rfl⟩|⟨x,t,rfl,rfl⟩
  ·exact wpAny_pyHash_int h
  ·exact wpAny_pyHash_str h
 eqBool:=fun hu hv h=>by
  rcases eY hu with⟨i,t,rfl,rfl⟩|⟨x,t,rfl,rfl⟩
  ·rcases eY hv with⟨j,u,rfl,rfl⟩|⟨y,u,rfl,rfl⟩
   ·rw[L6]at h;exact wpAny_eqBool_int h
   ·rw[L8]at h;exact SeqAt.EqAt.int_str i t y u _ _ _ _ h
  ·rcases eY hv with⟨j,u,rfl,rfl⟩|⟨y,u,rfl,rfl⟩
   ·rw[L9]at h;exact SeqAt.EqAt.str_int x t j u _ _ _ _ h
   ·rw[L7]at h;exact wpAny_eqBool_str h
 «strs»:=fun k x t v h=>by
  rcases eY h with⟨i,u,rfl,e⟩|⟨y,u,rfl,e⟩
  ·exact nomatch e
  ·injection e with e1 _
   subst e1
   cases v<;>rfl
theorem wX(prog:Program)(w:World)(i:Int)(t:Tok):(eU prog w).is (.inl i) (.int i t)=true:=B4 i t
theorem wY(prog:Program)(w:World)(x:Str)(t:Tok):(eU prog w).is (.inr x) (.str x t)=true:=B5 x t
inductive V where
 |non|bl (b:Bool)|int (i:Int)|str (x:Str)|byt (b:Array UInt8)|flt (b:UInt64)|ref (a:Addr)|ty (n:String)
 deriving DecidableEq
def bS:V->Value->Prop
 |.non,u=>u=Value.none
 |.bl b,u=>u=Value.bool b
 |.int i,u=>∃t,u=Value.int i t
 |.str x,u=>∃t,u=Value.str x t
 |.byt b,u=>∃t,u=Value.bytes b t
 |.flt b,u=>∃t,u=Value.float b t
 |.ref a,u=>u=Value.ref a
 |.ty n,u=>u=Value.type n
abbrev cp:List V->List Value->Prop:=Paired bS
theorem cp.length{xs:List V}(r:cp xs us):xs.length=us.length:=Paired.length r
theorem cp.get:∀{xs:List V} {us:List Value} {i:Nat} {x:V},cp xs us->xs[i]?=some x->∃u,us[i]?=some u/\bS x u
 |_,_,_,_,.nil,e=>by simp at e
 |_,_,0,_,.cons r _,e=>by simp at e;subst e;exact⟨_,rfl,r⟩
 |_,_,i+1,x,.cons _ t,e=>by
  obtain⟨u,h1,h2⟩:=cp.get (i:=i) (x:=x) t (by simpa using e)
  exact⟨u,by simpa using h1,h2⟩
theorem cp.set{x:V}(r:bS x u):∀{xs:List V} {us:List Value} (i:Nat),cp xs us->cp (xs.set i x) (us.set i u)
 |_,_,_,.nil=>.nil
 |_,_,0,.cons _ t=>.cons r t
 |_,_,i+1,.cons q t=>.cons q (cp.set r i t)
theorem cp.append:∀{xs ys:List V} {us ws:List Value},cp xs us->cp ys ws->cp (xs++ys) (us++ws)
 |_,_,_,_,.nil,s=>s
 |_,_,_,_,.cons r t,s=>.cons r (cp.append t s)
theorem cp.take:∀{xs:List V} {us:List Value} (n:Nat),cp xs us->cp (xs.take n) (us.take n)
 |_,_,0,_=>.nil
 |_,_,_+1,.nil=>.nil
 |_,_,n+1,.cons r t=>.cons r (cp.take n t)
theorem cp.drop:∀{xs:List V} {us:List Value} (n:Nat),cp xs us->cp (xs.drop n) (us.drop n)
 |_,_,0,r=>r
 |_,_,_+1,.nil=>.nil
 |_,_,n+1,.cons _ t=>cp.drop n t
def pz:Option V->Option Value->Prop
 |some v,some u=>bS v u
 |none,none=>True
 |_,_=>False
def KV{κ:Type}:List (κ×V)->List (κ×Value)->Prop:=Paired fun(p:κ×V) (q:κ×Value)=>p.1=q.1/\bS p.2 q.2
def kV:fZ->V
 |.inl i=>.int i
 |.inr x=>.str x
inductive HO where
 /-- a list -/
 |lst (xs:List V)
 /-- a tuple (never changes) -/
 |tup (xs:List V)
 /-- a dict whose keys are ints and texts;one whose keys are tuples of ints and texts (the empty one is both) -/
 |dK (kvs:List (fZ×V))|dT (kvs:List (List fZ×V))
 /-- a set of ints: bz members,bz size -/
 |set (S:Int->Bool) (n:Nat)
 /-- an instance of the class at C,bz dict at dx,bz attributes -/
 |ins (C dx:Addr) (fs:List (Str×V))
 /-- the dict of the instance at x -/
 |own (x:Addr)
 /-- the dict of an exception -/
 |xd (fs:List (Str×V))
 /-- a bound method,f of x -/
 |met (f x:Addr)
 /-- a range object lo,lo+1,.. below hi -/
 |rng (lo hi:Int)
 /-- a thing that is known to the object (the script;a dict while a loop walks it): read,never written while it is so -/
 |frz (o:Obj) (u:HO)
 /-- a code object's table -/
 |tbl (ps:Array Value)
 /-- any other thing,by what is true of bz one object (a def of UV own: SetO a S n:=HO.ext fun h=>..) -/
 |ext (φ:Heap->Prop)
abbrev Hp:=Addr->Option HO
def eL(H:Hp)(a:Addr)(o:HO):Hp:=fun b=>if b=a then some o else H b
theorem dG{H:Hp}{o:HO}:eL H a o a=some o:=by unfold eL;rw[ay rfl]
theorem ce{H:Hp}{o:HO}(h:b≠a):eL H a o b=H b:=by unfold eL;rw[aC h]
theorem PM{H:Hp}{o u:HO}(h:H a=some o)(h':H b=some u)(d:o≠u):a≠b:=by
 intro e;subst e;rw[h]at h';exact d (a7 h')
theorem e_{H:Hp}{o:HO}(h:H a=some o)(h':H b=none):a≠b:=by
 intro e;subst e;rw[h]at h';cases h'
section
variable(P:Program)(w:World)
def eO(H:Hp)(h:Heap)(a:Addr):HO->Prop
 |.lst xs=>xs.length<=sizeLine/\∃(bz:List Value) (n:Nat),cp xs bz/\h.get? a=some { cls:=.type "list",data:=.seq bz.toArray n }
 |.tup xs=>xs.length<=sizeLine/\∃bz:List Value,cp xs bz/\IsTup h a bz.toArray
 |.dK kvs=>kvs.length<=sizeLine/\(a==sysModules)=false/\∃vs,KV kvs vs/\h.DictOf (eU P w) a vs
 |.dT kvs=>kvs.length<=sizeLine/\(a==sysModules)=false/\∃xs:List (List fZ×Addr×Value),
   Paired (fun(p:List fZ×V) (q:List fZ×Addr×Value)=>p.1=q.1/\H q.2.1=some (.tup (p.1.map kV))/\bS p.2 q.2.2) kvs xs /\
   ∃o es ep,h.get? a=some o/\o.ExactDict/\o.data=.dict es ep/\es.toList=xs.map (entryOfKey (tupleKind (eU P w)))/\(xs.map (·.1)).Nodup
 |.set S n=>h.SetOf (intKind P w) a S n
 |.ins C dx fs=>H dx=some (.own a)/\fs.length<=1000/\dx≠a/\h.get? a=some (PySem.W.instObj C dx) /\
   ∃mA,h.Ns1 dx mA/\(∀f,pz (fs.lookup f) (mA f))/\PySem.Within mA (fs.map (·.1))
 |.own _=>∃o,h.get? a=some o
 |.xd fs=>∃mA,h.Ns1 a mA/\∀f,pz (fs.lookup f) (mA f)
 |.rng lo hi=>∃t u v,h.get? a=some { cls:=.type "range",data:=.fields #[.int lo t,.int hi u,.int 1 v] }
 |.frz o u=>h.get? a=some o/\eO H h a u
 |.tbl ps=>h.get? a=some { cls:=.none,data:=.fields ps }
 |.met f x=>h.get? a=some (PySem.W.methodObj (.ref f) (.ref x))
 |.ext φ=>φ h/\(∃o,h.get? a=some o)/\∀h1 h2:Heap,φ h1->(∀o,h1.get? a=some o->h2.get? a=some o)->φ h2
def kw(H:Hp)(h:Heap):Prop:=∀a o,H a=some o->eO P w H h a o
end
section
variable{w:World}{H H':Hp}{o:HO}
theorem eO.lt(x:eO P w H h a o):a<h.objs.size:=by
 cases o with
 |lst xs=>obtain⟨_,_,_,_,e⟩:=x;exact aH e
 |tup xs=>obtain⟨_,_,_,p⟩:=x;exact p.lt
 |dK kvs=>obtain⟨_,_,_,_,o,_,_,e,_⟩:=x;exact aH e
 |dT kvs=>obtain⟨_,_,_,_,o,_,_,e,_⟩:=x;exact aH e
 |set S n=>obtain⟨o,_,_,_,e,_⟩:=x;exact aH e
 |ins C dx fs=>obtain⟨_,_,_,e,_⟩:=x;exact aH e
 |own y=>obtain⟨_,e⟩:=x;exact aH e
 |xd fs=>obtain⟨_,⟨_,_,_,e,_⟩,_⟩:=x;exact aH e
 |rng lo hi=>obtain⟨_,_,_,e⟩:=x;exact aH e
 |frz ob u=>obtain⟨e,_⟩:=x;exact aH e
 |tbl ps=>exact aH (show h.get? a=some _ from x)
 |met f y=>exact aH (show h.get? a=some _ from x)
 |ext φ=>obtain⟨_,⟨_,e⟩,_⟩:=x;exact aH e
theorem Paired.mapP{F G:α->β->Prop}:∀{l₁:List α} {l₂:List β},Paired F l₁ l₂->(∀a b,F a b->G a b)->Paired G l₁ l₂
 |_,_,.nil,_=>.nil
 |_,_,.cons r t,f=>.cons (f _ _ r) (Paired.mapP t f)
theorem Paired.imp'{F G:α->β->Prop}(f:∀a b,F a b->G a b){l₁:List α}{l₂:List β}(r:Paired F l₁ l₂):Paired G l₁ l₂:=Paired.mapP r f
theorem eO.stay(x:eO P w H h a o)(k:∀b u,(b=a\/H b=some (.own a))->h.get? b=some u->h'.get? b=some u)
  (ho:∀b,H b=some (.own a)->H' b=some (.own a)) (ht:∀b xs,H b=some (.tup xs)->H' b=some (.tup xs)):eO P w H' h' a o:=by
 induction o with
 |lst xs=>obtain⟨z,bz,n,r,e⟩:=x;exact⟨z,bz,n,r,k _ _ (.inl rfl) e⟩
 |tup xs=>obtain⟨z,bz,r,ob,e,c⟩:=x;exact⟨z,bz,r,ob,k _ _ (.inl rfl) e,c⟩
 |dK kvs=>obtain⟨z,y,vs,r,ob,es,ep,e,c⟩:=x;exact⟨z,y,vs,r,ob,es,ep,k _ _ (.inl rfl) e,c⟩
 |dT kvs=>
  obtain⟨z,y,xs,r,ob,es,ep,e,c⟩:=x
  exact⟨z,y,xs,Paired.mapP r fun p q z=>⟨z.1,ht _ _ z.2.1,z.2.2⟩,ob,es,ep,k _ _ (.inl rfl) e,c⟩
 |set S n=>obtain⟨ob,es,ep,t,e,c⟩:=x;exact⟨ob,es,ep,t,k _ _ (.inl rfl) e,c⟩
 |ins C dx fs=>
  obtain⟨d,z,ne,e,mA,⟨od,es,ep,e2,c⟩,r⟩:=x
  exact⟨ho _ d,z,ne,k _ _ (.inl rfl) e,mA,⟨od,es,ep,k _ _ (.inr d) e2,c⟩,r⟩
 |own y=>obtain⟨ob,e⟩:=x;exact⟨ob,k _ _ (.inl rfl) e⟩
 |xd fs=>obtain⟨mA,⟨od,es,ep,e,c⟩,r⟩:=x;exact⟨mA,⟨od,es,ep,k _ _ (.inl rfl) e,c⟩,r⟩
 |rng lo hi=>obtain⟨t,u,v,e⟩:=x;exact⟨t,u,v,k _ _ (.inl rfl) e⟩
 |frz ob u ih=>obtain⟨e,q⟩:=x;exact⟨k _ _ (.inl rfl) e,ih q⟩
 |tbl ps=>
  have e:h.get? a=some { cls:=.none,data:=.fields ps }:=x
  show h'.get? a=some { cls:=.none,data:=.fields ps }
  exact k a _ (.inl rfl) e
 |met f y=>
  have e:h.get? a=some (PySem.W.methodObj (.ref f) (.ref y)):=x
  show h'.get? a=some (PySem.W.methodObj (.ref f) (.ref y))
  exact k a _ (.inl rfl) e
 |ext φ=>obtain⟨p,⟨o,e⟩,st⟩:=x;exact⟨st _ _ p fun o q=>k _ _ (.inl rfl) q,⟨o,k _ _ (.inl rfl) e⟩,st⟩
theorem kw.lt(x:kw P w H h)(e:H a=some o):a<h.objs.size:=(x a o e).lt
theorem kw.fresh(x:kw P w H h)(e:h.objs.size<=a):H a=none:=by
 cases q:H a with
 |none=>rfl
 |some u=>exact absurd (aY (x.lt q) e) (bD _)
theorem kw.kept(x:kw P w H h)(k:∀b u,h.get? b=some u->h'.get? b=some u):kw P w H h':=fun a o e=>
 (x a o e).stay (fun b u _ q=>k b u q) (fun _ q=>q) fun _ _ q=>q
theorem kw.laid(x:kw P w H h)(k:∀b u,h.get? b=some u->h'.get? b=some u)(hp:h.objs.size<=a)(new:eO P w (eL H a o) h' a o):kw P w (eL H a o) h':=fun b u e=>by
 have hn:=x.fresh hp
 by_cases hb:b=a
 ·subst hb;rw[dG]at e;cases e;exact new
 ·rw[ce hb]at e
  exact(x b u e).stay (fun c v _ q=>k c v q) (fun c q=>by rw[ce (e_ q hn)];exact q) fun c xs q=>by rw[ce (e_ q hn)];exact q
end
def Rd(H:Hp)(a:Addr)(u:HO):Prop:=H a=some u\/∃o,H a=some (.frz o u)
theorem Rd.ok{w:World}{H:Hp}{u:HO}(r:Rd H a u)(x:kw P w H h):eO P w H h a u:=by
 rcases r with r|⟨o,r⟩
 ·exact x a u r
 ·obtain⟨_,q⟩:=x a _ r
  exact q
def L_:Option HO->Prop
 |some (.lst _)=>True
 |some (.dK _)=>True
 |some (.dT _)=>True
 |some (.set _ _)=>True
 |some (.ins _ _ _)=>True
 |some (.ext _)=>True
 |_=>False
section
variable{w:World}{H:Hp}{x e:Addr}{o':HO}
theorem kw.write(ok:kw P w H h)(mu:L_ (H x))(he:e=x\/H e=some (.own x))(k:∀b u,b≠e->h.get? b=some u->h'.get? b=some u)(Py:∃u,h'.get? e=some u)
  (new:eO P w (eL H x o') h' x o'):kw P w (eL H x o') h':=fun b u q=>by
 have nown:∀c y,H c=some (.own y)->c≠x:=fun c y r z=>by subst z;rw[r]at mu;exact mu
 have ntup:∀c xs,H c=some (.tup xs)->c≠x:=fun c xs r z=>by subst z;rw[r]at mu;exact mu
 by_cases hb:b=x
 ·subst hb;rw[dG]at q;cases q;exact new
 ·rw[ce hb]at q
  by_cases hbe:b=e
  ·have q':H b=some (.own x):=by
    rcases he with z|z
    ·exact absurd (hbe.trans z) hb
    ·rw[hbe];exact z
   rw[q]at q';cases q'
   obtain⟨v,hv⟩:=Py
   exact⟨v,by rw[hbe];exact hv⟩
  ·refine(ok b u q).stay (fun c v hc r=>k c v ?_ r) (fun c r=>by rw[ce (nown c b r)];exact r) fun c xs r=>by rw[ce (ntup c xs r)];exact r
   rcases hc with rfl|hc
   ·exact hbe
   ·rintro rfl
    rcases he with z|z
    ·exact nown c b hc z
    ·rw[hc]at z;cases z;exact hb rfl
end
structure Un(fs ex:List Addr)(H H':Hp)(h h':Heap):Prop where
 keep:∀b o,h.get? b=some o->H b=none->b∉fs->b∉ex->h'.get? b=some o
 slot:∀b o,h.get? b=some o->H b=none->b∈fs->b∉ex->∃sl,h'.get? b=some { o with slots:=sl }
 free:∀b o,h.get? b=some o->H b=none->b∉ex->H' b=none
 there:∀b o,h.get? b=some o->b∉ex->∃o',h'.get? b=some o'
 tups:∀b xs,H b=some (.tup xs)->H' b=some (.tup xs)
 frzs:∀b o u,H b=some (.frz o u)->H' b=some (.frz o u)
 tbls:∀b ps,H b=some (.tbl ps)->∃j0,H' b=some (.tbl (ps++j0))
section
variable{fs Vj ex Vs:List Addr}{H H1 H2:Hp}{h1 h2:Heap}{x e:Addr}{o:HO}
theorem Un.any(u:Un fs ex H H1 h h1){ob:Obj}(q:h.get? b=some ob)(n:H b=none)(hx:b∉ex):∃sl,h1.get? b=some { ob with slots:=sl }:=by
 by_cases hb:b∈fs
 ·exact u.slot b ob q n hb hx
 ·exact⟨ob.slots,u.keep b ob q n hb hx⟩
theorem Un.kept(k:∀b u,h.get? b=some u->h'.get? b=some u):Un fs ex H H h h':=
 ⟨fun b ob q _ _ _=>k b ob q,fun b ob q _ _ _=>⟨ob.slots,k b ob q⟩,fun _ _ _ n _=>n,fun b ob q _=>⟨ob,k b ob q⟩,fun _ _ q=>q,fun _ _ _ q=>q,fun _ ps q=>⟨#[],by rw[q];simp⟩⟩
theorem Un.refl:Un fs ex H H h h:=Un.kept fun _ _ q=>q
theorem Un.laid(k:∀b u,h.get? b=some u->h'.get? b=some u)(hp:h.objs.size<=a)(hn:H a=none):Un fs ex H (eL H a o) h h' where
 keep:=fun b u q _ _ _=>k b u q
 slot:=fun b u q _ _ _=>⟨u.slots,k b u q⟩
 free:=fun b u q n _=>by rw[ce (bE (aY (aH q) hp))];exact n
 there:=fun b u q _=>⟨u,k b u q⟩
 tups:=fun b xs q=>by rw[ce (e_ q hn)];exact q
 frzs:=fun b u xs q=>by rw[ce (e_ q hn)];exact q
 tbls:=fun b ps q=>⟨#[],by rw[ce (e_ q hn),q];simp⟩
theorem Un.write(mu:L_ (H x))(he:e=x\/H e=some (.own x))(k:∀b u,b≠e->h.get? b=some u->h'.get? b=some u)(Py:∃u,h'.get? e=some u):Un fs ex H (eL H x o) h h':=by
 have hx:∀b,H b=none->b≠x:=fun b n z=>by subst z;rw[n]at mu;exact mu
 have hb:∀b,H b=none->b≠e:=fun b n z=>by
  subst z
  rcases he with r|r
  ·exact hx b n r
  ·rw[n]at r;cases r
 have hm:∀b u,H b=some u->¬ L_ (some u)->b≠x:=fun b u q nm z=>by subst z;rw[q]at mu;exact nm mu
 refine⟨fun b u q n _ _=>k b u (hb b n) q,fun b u q n _ _=>⟨u.slots,k b u (hb b n) q⟩,fun b u q n _=>by rw[ce (hx b n)];exact n,fun b u q _=>?_,
  fun b xs q=>by rw[ce (hm b _ q fun z=>z)];exact q,fun b u xs q=>by rw[ce (hm b _ q fun z=>z)];exact q,fun b ps q=>⟨#[],by rw[ce (hm b _ q fun z=>z),q];simp⟩⟩
 by_cases hbe:b=e
 ·subst hbe;exact Py
 ·exact⟨u,k b u hbe q⟩
end
def Ta(h:Heap)(H:Hp):List Addr:=(List.range h.objs.size).filter fun a=>(H a).isSome
def t6(h:Heap)(H:Hp):Heap:=PySem.W.hideAll h (Ta h H)
theorem B6(h:Heap)(H:Hp):(t6 h H).objs.size=h.objs.size:=PySem.W.hideAll_size _ _
theorem DE{H:Hp}(e:h.get? b=some o)(n:H b=none):(t6 h H).get? b=some o:=
 PySem.W.hideAll_get _ e fun hm=>by
  have q:(H b).isSome=true:=(eN.mp hm).2
  rw[n]at q;simp at q
theorem HI{H:Hp}(e:(t6 h H).get? b=some o):h.get? b=some o/\H b=none:=by
 have e':h.get? b=some o:=PySem.W.of_hideAll (Ta h H) e
 refine⟨e',?_⟩
 cases q:H b with
 |none=>rfl
 |some x=>
  have hm:b∈Ta h H:=eN.mpr ⟨bj.mpr (aH e'),by simp[q]⟩
  have z:(t6 h H).get? b=none:=PySem.W.hideAll_none (Ta h H) hm
  rw[z]at e;cases e
def HJ(g h:Heap)(L:Addr):List (Addr×Obj):=(List.range h.objs.size).filterMap fun a=>if a=L\/(g.get? a).isSome=true then none else(h.get? a).map fun o=>(a,o)
def rest(g h:Heap)(L d:Addr):List (Addr×Obj):=(HJ g h L).filter fun p=>decide (p.1≠d)
structure Mod(K:Frag)(mg:Str->Option Value)(base:Heap):Prop where
 kin:K.In base
 glob:base.Ns mainGlobals mg
 blt:∃mb,base.Ns builtinsNs mb/\∀x:Str,x ≠ "__name__"->mb x=bootBuiltins x
 nolimit:base.NoLimit
structure Cx where
 prog:Program
 w:World
 K:Frag
 mg:Str->Option Value
 base:Heap
 A:Around
 N:List Str
 s₀:Shared
 H₀:Hp
 env:Env
 outer:List Env
 stack:List Env
 ex:List Addr
 fn:Str->Bool
 calm:Bool
 pn:List (Addr×Obj)
 xe:Value->Shared->Prop
def tZ(l:List Env):List Addr:=l.filterMap (·.frame)
abbrev Cx.fs(X:Cx):List Addr:=tZ X.outer
def Pk(sc:Scope)(x:Str):Prop:=sc.names.lookup x=some .local\/sc.names.lookup x=some .cell\/sc.names.lookup x=some .free
def Du(sc:Scope)(x:Str):Prop:=sc.names.lookup x=some .local\/sc.names.lookup x=some .cell
def Tv(env:Env)(h:Heap)(m:Str->Option Value)(x:Str)(u:Value):Prop:=
 (env.kindOf x=some .local/\m x=some u)\/((env.kindOf x=some .cell\/env.kindOf x=some .free)/\∃c,env.cells.lookup x=some c/\h.IsCell c (some u))
structure Cx.Ok(X:Cx):Prop where
 mod:Mod X.K X.mg X.base
 kind:X.env.scope.kind=.function
 glob:X.env.globals=mainGlobals
 blt:X.env.builtins=builtinsNs
 above:X.s₀.heap.objs.size<=X.env.locals
 inj:∀x y c,X.env.cells.lookup x=some c->X.env.cells.lookup y=some c->x=y
 has:∀x,(X.env.kindOf x=some .cell\/X.env.kindOf x=some .free)->∃c,X.env.cells.lookup x=some c
 cab:∀x c,X.fn x=true->X.env.cells.lookup x=some c->X.s₀.heap.objs.size<=c
 hd:X.calm=true->X.A.handled=none
 frames:X.A.frames=some X.stack
 stk:X.stack=X.outer\/(X.stack=X.env::X.outer/\X.env.frame=some X.env.locals)
 exf:∀b∈X.ex,b≠X.env.locals/\∀x c,X.env.cells.lookup x=some c->c≠b
 bs:∀b o,X.base.get? b=some o->X.s₀.heap.get? b=some o/\X.H₀ b=none
 bsz:X.base.objs.size<=X.s₀.heap.objs.size
 noex:∀b o,X.base.get? b=some o->b∉X.ex
 exfs:∀b∈X.ex,b∉X.fs
 funs:X.s₀.heap.FunFrames X.base X.outer
 frf:∀b∈X.fs,X.H₀ b=none
structure bw(X:Cx)(pins:List (Addr×Obj))(σ:List (Option V))(H:Hp)(s:Shared):Prop where
 ok:X.Ok
 os:s.os=X.s₀.os
 bare:AllBare s.gens
 base:Un X.fs X.ex X.H₀ H X.s₀.heap s.heap
 loc:∃m,s.heap.Ns X.env.locals m/\∀(i:Nat) (x:Str) (v:V),X.N[i]?=some x->σ[i]?=some (some v)->Pk X.env.scope x->∃u,bS v u/\Tv X.env s.heap m x u
 cell:∀x c,X.env.cells.lookup x=some c->∃v,s.heap.IsCell c v
 free:H X.env.locals=none
 freeC:∀x c,X.env.cells.lookup x=some c->H c=none
 pin:∀p∈X.pn++pins,s.heap.get? p.1=some p.2/\H p.1=none/\p.1≠X.env.locals/\p.1∉X.fs/\∀v,p.2.data≠.cell v
 hok:kw X.prog X.w H s.heap
 len:σ.length=X.N.length
section
variable{X:Cx}{σ:List (Option V)}{H H':Hp}
theorem Cx.Ok.nofr(ok:X.Ok)(e:X.base.get? b=some o):b∉X.fs:=fun hb=>by
 have:=(ok.funs.mem hb).1
 rw[e]at this;cases this
theorem bw.bs(I:bw X pins σ H s):∀b o,X.base.get? b=some o->s.heap.get? b=some o/\H b=none:=fun b o e=>
 ⟨I.base.keep b o (I.ok.bs b o e).1 (I.ok.bs b o e).2 (I.ok.nofr e) (I.ok.noex b o e),I.base.free b o (I.ok.bs b o e).1 (I.ok.bs b o e).2 (I.ok.noex b o e)⟩
theorem bw.bk(I:bw X pins σ H s):∀b o,X.base.get? b=some o->s.heap.get? b=some o:=fun b o e=>(I.bs b o e).1
theorem bw.mod(I:bw X pins σ H s):Mod X.K X.mg X.base:=I.ok.mod
theorem bw.kIn(I:bw X pins σ H s):X.K.In s.heap:=I.ok.mod.kin.keeps I.bk
theorem bw.nolimit(I:bw X pins σ H s):s.heap.NoLimit:=I.ok.mod.nolimit.keeps I.bk
theorem bw.lt(I:bw X pins σ H s):X.env.locals<s.heap.objs.size:=let ⟨_,hn,_⟩:=I.loc;hn.lt
theorem bw.sz(I:bw X pins σ H s):X.s₀.heap.objs.size<=s.heap.objs.size:=bu I.ok.above (d_ I.lt)
theorem bw.nofs(I:bw X pins σ H s)(h:s.heap.objs.size<=a):a∉X.fs:=fun hb=>by
 obtain⟨_,o,ho,_⟩:=I.ok.funs.mem hb
 exact absurd (aY (aH ho) (bu I.sz h)) (bD _)
theorem bw.cne(I:bw X pins σ H s):∀x c,X.env.cells.lookup x=some c->c≠X.env.locals:=fun x c e z=>by
 obtain⟨v,o,ho,hd⟩:=I.cell x c e
 obtain⟨m,⟨o',es,ep,ho',hd',_⟩,_⟩:=I.loc
 rw[z,ho']at ho;cases ho;rw[hd']at hd;cases hd
theorem bw.funs(I:bw X pins σ H s):s.heap.FunFrames X.base X.outer:=by
 have all:∀(l:List Env),(∀b∈tZ l,b∈X.fs)->X.s₀.heap.FunFrames X.base l->s.heap.FunFrames X.base l:=by
  intro l
  induction l with
  |nil=>intro _ _;trivial
  |cons env r ih=>
   intro hs hl
   obtain⟨hk,⟨L,o,hf,hn,ho,hd⟩,hr⟩:=hl
   have hL:L∈X.fs:=hs L (by unfold tZ;rw[fN,hf];exact aQ)
   obtain⟨sl,e⟩:=I.base.slot L o ho (I.ok.frf L hL) hL fun z=>I.ok.exfs L z hL
   exact⟨hk,⟨L,_,hf,hn,e,hd⟩,ih (fun b hb=>hs b (by unfold tZ;rw[fN,hf];exact aA _ hb)) hr⟩
 exact all X.outer (fun _ hb=>hb) I.ok.funs
theorem bw.stack(I:bw X pins σ H s):s.heap.FunFrames X.base X.stack:=by
 rcases I.ok.stk with e|⟨e,hf⟩
 ·rw[e];exact I.funs
 ·rw[e]
  obtain⟨m,hn,_⟩:=I.loc
  refine .cons (by rw[I.ok.kind];decide) hf hn ?_ I.funs
  exact Heap.get?_none_of_le (bu I.ok.bsz I.ok.above)
theorem bw.stkSub(I:bw X pins σ H s):∀b∈tZ X.stack,b∈X.env.locals::X.fs:=fun b hb=>by
 rcases I.ok.stk with e|⟨e,hf⟩
 ·rw[e]at hb;exact aA _ hb
 ·rw[e]at hb
  unfold tZ at hb
  rw[fN,hf]at hb
  exact hb
theorem bw.stkFree(I:bw X pins σ H s):∀b∈tZ X.stack,H b=none:=fun b hb=>by
 rcases aI.mp (I.stkSub b hb)with e|hb
 ·rw[e];exact I.free
 ·obtain⟨_,o,ho,_⟩:=I.ok.funs.mem hb
  exact I.base.free b o ho (I.ok.frf b hb) fun z=>I.ok.exfs b z hb
theorem bw.step{g':Array GenState}{t':Nat}{d':Drawn}{ch:List Addr}(I:bw X pins σ H s)
  (Dq:∀b∈ch,(b∈X.ex\/X.s₀.heap.objs.size<=b)/\b≠X.env.locals/\(∀x c,X.env.cells.lookup x=some c->c≠b)/\∀p∈X.pn++pins,p.1≠b)
  (keep:∀b o,b≠X.env.locals->b∉X.fs->b∉ch->s.heap.get? b=some o->H b=none->h'.get? b=some o)
  (slot:∀b o,b≠X.env.locals->b∈X.fs->b∉ch->s.heap.get? b=some o->H b=none->∃sl,h'.get? b=some { o with slots:=sl }) (free:∀b o,b∉ch->s.heap.get? b=some o->H b=none->H' b=none)
  (there:∀b o,b∉ch->s.heap.get? b=some o->∃o',h'.get? b=some o')
  (tups:∀b xs,H b=some (.tup xs)->H' b=some (.tup xs)) (frzs:∀b o u,H b=some (.frz o u)->H' b=some (.frz o u)) (tbls:∀b ps,H b=some (.tbl ps)->∃j0,H' b=some (.tbl (ps++j0)))
  (ns:∀m,s.heap.Ns X.env.locals m->h'.Ns X.env.locals m) (hok:kw X.prog X.w H' h') (hg:AllBare g') :
  bw X pins σ H' { s with heap:=h',gens:=g',drawn:=d',toks:=t' }:=by
 have neL:∀b o,X.s₀.heap.get? b=some o->b≠X.env.locals:=fun b o e=>bE (aY (aH e) I.ok.above)
 have neC:∀b o,X.s₀.heap.get? b=some o->b∉X.ex->b∉ch:=fun b o e hx hb=>by
  rcases(Dq b hb).1 with z|z
  ·exact hx z
  ·exact absurd (aY (aH e) z) (bD _)
 have cellK:∀x c,X.env.cells.lookup x=some c->∀v,s.heap.IsCell c v->h'.IsCell c v:=fun x c e v ⟨o,ho,hd⟩=>by
  have nch:c∉ch:=fun z=>(Dq c z).2.2.1 x c e rfl
  by_cases hc:c∈X.fs
  ·obtain⟨sl,q⟩:=slot c o (I.cne x c e) hc nch ho (I.freeC x c e)
   exact⟨_,q,hd⟩
  ·exact⟨o,keep c o (I.cne x c e) hc nch ho (I.freeC x c e),hd⟩
 refine⟨I.ok,I.os,hg,⟨fun b o e n hb hx=>?_,fun b o e n hb hx=>?_,fun b o e n hx=>?_,fun b o e hx=>?_,fun b xs e=>tups b xs (I.base.tups b xs e),fun b o xs e=>frzs b o xs (I.base.frzs b o xs e),fun b ps e=>?_⟩,?_,fun x c e=>?_,?_,fun x c e=>?_,fun p hp=>?_,hok,I.len⟩
 ·exact keep b o (neL b o e) hb (neC b o e hx) (I.base.keep b o e n hb hx) (I.base.free b o e n hx)
 ·obtain⟨sl,e1⟩:=I.base.slot b o e n hb hx
  obtain⟨sl',e2⟩:=slot b _ (neL b o e) hb (neC b o e hx) e1 (I.base.free b o e n hx)
  exact⟨sl',e2⟩
 ·obtain⟨o',e1⟩:=I.base.there b o e hx
  exact free b o' (neC b o e hx) e1 (I.base.free b o e n hx)
 ·obtain⟨o',e1⟩:=I.base.there b o e hx
  exact there b o' (neC b o e hx) e1
 ·obtain⟨m1,e1⟩:=I.base.tbls b ps e
  obtain⟨m2,e2⟩:=tbls b _ e1
  exact⟨m1++m2,by rw[e2,Array.append_assoc]⟩
 ·obtain⟨m,hn,hl⟩:=I.loc
  refine⟨m,ns m hn,fun i x v e1 e2 e3=>?_⟩
  obtain⟨u,r,l⟩:=hl i x v e1 e2 e3
  refine⟨u,r,?_⟩
  rcases l with l|⟨k,c,e,z⟩
  ·exact .inl l
  ·exact .inr ⟨k,c,e,cellK x c e _ z⟩
 ·obtain⟨v,z⟩:=I.cell x c e
  exact⟨v,cellK x c e v z⟩
 ·obtain⟨m,⟨o,_,_,ho,_⟩,_⟩:=I.loc
  exact free _ o (fun z=>(Dq _ z).2.1 rfl) ho I.free
 ·obtain⟨v,o,ho,hd⟩:=I.cell x c e
  exact free c o (fun z=>(Dq c z).2.2.1 x c e rfl) ho (I.freeC x c e)
 ·obtain⟨e,n,ne,nf,d⟩:=I.pin p hp
  have nch:p.1∉ch:=fun z=>(Dq p.1 z).2.2.2 p hp rfl
  exact⟨keep p.1 p.2 ne nf nch e n,free p.1 p.2 nch e n,ne,nf,d⟩
theorem bw.un{t':Nat}(I:bw X pins σ H s)(u:Un X.fs [] H H' s.heap h')(hok:kw X.prog X.w H' h'):bw X pins σ H' { s with heap:=h',toks:=t' }:=by
 obtain⟨m,⟨o,es,ep,ho,r⟩,_⟩:=id I.loc
 obtain⟨sl,hL⟩:=u.any ho I.free (by simp)
 exact I.step (g':=s.gens) (d':=s.drawn) (ch:=[]) (fun _ z=>nomatch z) (fun b o _ hb _ e n=>u.keep b o e n hb (by simp)) (fun b o _ hb _ e n=>u.slot b o e n hb (by simp)) (fun b o _ e n=>u.free b o e n (by simp)) (fun b o _ e=>u.there b o e (by simp)) u.tups u.frzs u.tbls (fun m' hm=>by
  obtain⟨o',es',ep',ho',r'⟩:=hm
  rw[ho]at ho';cases ho'
  exact⟨_,es',ep',hL,r'⟩) hok I.bare
theorem bw.call{g':Array GenState}{t':Nat}{d':Drawn}{ch:List Addr}(I:bw X pins σ H s)(u:Un (tZ X.stack) ch H H' s.heap h')(hok:kw X.prog X.w H' h')(hg:AllBare g')
  (Dq:∀b∈ch,(b∈X.ex\/X.s₀.heap.objs.size<=b)/\b≠X.env.locals/\(∀x c,X.env.cells.lookup x=some c->c≠b)/\∀p∈X.pn++pins,p.1≠b) :
  bw X pins σ H' { s with heap:=h',gens:=g',drawn:=d',toks:=t' }:=by
 obtain⟨m,⟨o,es,ep,ho,r⟩,_⟩:=id I.loc
 obtain⟨sl,hL⟩:=u.any ho I.free fun z=>(Dq _ z).2.1 rfl
 exact I.step (ch:=ch) Dq (fun b o hL hb hc e n=>u.keep b o e n (fun z=>(aI.mp (I.stkSub b z)).elim hL hb) hc) (fun b o _ _ hc e n=>u.any e n hc) (fun b o hc e n=>u.free b o e n hc) (fun b o hc e=>u.there b o e hc) u.tups u.frzs u.tbls (fun m' hm=>by
  obtain⟨o',es',ep',ho',r'⟩:=hm
  rw[ho]at ho';cases ho'
  exact⟨_,es',ep',hL,r'⟩) hok hg
theorem bw.turned{t':Nat}{it:Addr}(I:bw X pins σ H s)(k:∀b o,b≠it->s.heap.get? b=some o->h'.get? b=some o)(hn:H it=none)(hL:it≠X.env.locals)
  (h1:it∈X.ex\/X.s₀.heap.objs.size<=it) (h2:∀x c,X.env.cells.lookup x=some c->c≠it) (h3:∀p∈X.pn++pins,p.1≠it):bw X pins σ H { s with heap:=h',toks:=t' }:=by
 have nit:∀b u,H b=some u->b≠it:=fun b u e z=>by rw[z,hn]at e;cases e
 refine I.step (g':=s.gens) (d':=s.drawn) (ch:=[it]) (fun b hb=>?_) (fun b o _ _ hc e _=>k b o (fun z=>hc (by simp[z])) e) (fun b o _ _ hc e _=>⟨o.slots,k b o (fun z=>hc (by simp[z])) e⟩) (fun _ _ _ _ n=>n)
  (fun b o hc e=>⟨o,k b o (fun z=>hc (by simp[z])) e⟩) (fun _ _ e=>e) (fun _ _ _ e=>e) (fun b ps e=>⟨#[],by rw[e];simp⟩) (fun m hm=>?_) (fun b u e=>?_) I.bare
 ·have e:b=it:=by simpa using hb
  subst e
  exact⟨h1,hL,h2,h3⟩
 ·obtain⟨o,es,ep,ho,r⟩:=hm
  exact⟨o,es,ep,k _ o (Ne.symm hL) ho,r⟩
 ·refine(I.hok b u e).stay (fun c v hc q=>k c v ?_ q) (fun _ q=>q) fun _ _ q=>q
  rcases hc with z|z
  ·rw[z];exact nit b u e
  ·exact nit c _ z
theorem bw.tok(I:bw X pins σ H s)(t:Nat):bw X pins σ H { s with toks:=t }:=I.un (h':=s.heap) (t':=t) Un.refl I.hok
theorem bw.kept{t':Nat}(I:bw X pins σ H s)(k:∀b u,s.heap.get? b=some u->h'.get? b=some u):bw X pins σ H { s with heap:=h',toks:=t' }:=I.un (Un.kept k) (I.hok.kept k)
theorem bw.laid{a:Addr}{o:HO}{t':Nat}(I:bw X pins σ H s)(k:∀b u,s.heap.get? b=some u->h'.get? b=some u)(hp:s.heap.objs.size<=a)(new:eO X.prog X.w (eL H a o) h' a o) :
  bw X pins σ (eL H a o) { s with heap:=h',toks:=t' }:=I.un (Un.laid k hp (I.hok.fresh hp)) (I.hok.laid k hp new)
theorem bw.write{x e:Addr}{o:HO}(I:bw X pins σ H s)(mu:L_ (H x))(he:e=x\/H e=some (.own x))(k:∀b u,b≠e->s.heap.get? b=some u->h'.get? b=some u)(Py:∃u,h'.get? e=some u)
  (new:eO X.prog X.w (eL H x o) h' x o):bw X pins σ (eL H x o) { s with heap:=h',toks:=t' }:=I.un (Un.write mu he k Py) (I.hok.write mu he k Py new)
theorem bw.pins_of{pins':List (Addr×Obj)}(I:bw X pins σ H s)(h:∀p∈pins',s.heap.get? p.1=some p.2/\H p.1=none/\p.1≠X.env.locals/\p.1∉X.fs/\∀v,p.2.data≠.cell v):bw X pins' σ H s:=
 ⟨I.ok,I.os,I.bare,I.base,I.loc,I.cell,I.free,I.freeC,fun p hp=>(aN.mp hp).elim (fun z=>I.pin p (cW _ z)) (h p),I.hok,I.len⟩
theorem wZ{N:List Str}(hN:N.Nodup)(a:N[i]?=some x)(b:N[j]?=some x):i=j:=by
 obtain⟨h1,e1⟩:=aa.mp a
 obtain⟨h2,e2⟩:=aa.mp b
 exact(List.getElem_inj hN).mp (e1.trans e2.symm)
theorem B8{M:Model}{A:Around}{E:Value->Shared->Prop}{v:V}{Q:Unit->Shared->Prop}(I:bw X pins σ H s)(hN:X.N.Nodup)(hi:X.N[i]?=some x)(hx:Du X.env.scope x)(r:bS v u)
  (h:∀s',bw X pins (σ.set i (some v)) H s'->(∃a,Heap.SameBut a s.heap s'.heap/\(a=X.env.locals\/X.env.cells.lookup x=some a))->Q () s') (hf:X.fn x=true\/X.env.scope.names.lookup x=some .local:=by first|exact .inl rfl|exact .inr rfl|assumption):wpAny M A (storeName X.env x u) Q E s:=by
 obtain⟨m,hn,hl⟩:=id I.loc
 have hcls:(X.env.scope.kind==.class||(X.env.scope.kind==.module&&X.env.locals != X.env.globals))=false:=by rw[I.ok.kind];rfl
 have hiσ:i<σ.length:=by rw[I.len];exact(aa.mp hi).1
 have cne:=I.cne
 have tracked:∀{a:Addr} {h':Heap},(∃o,s.heap.get? a=some o/\H a=none)->Heap.SameBut a s.heap h'->kw X.prog X.w H h':=fun{a h'} ha hs b ob e=>by
  obtain⟨_,_,hfree⟩:=ha
  refine(I.hok b ob e).stay (fun c w' hc q=>(hs.2 c ?_).trans q) (fun _ q=>q) fun _ _ q=>q
  rintro rfl
  rcases hc with rfl|hc
  ·rw[hfree]at e;cases e
  ·rw[hfree]at hc;cases hc
 rcases hx with hk|hk
 ·refine wpAny_storeName_local hk hn (fun h' hn' hs=>?_) hcls
  obtain⟨oL,_,_,hoL,_⟩:=id hn
  refine h _ ⟨I.ok,I.os,I.bare,⟨fun b o e n hb hx=>?_,fun b o e n hb hx=>?_,I.base.free,fun b o e hx=>?_,I.base.tups,I.base.frzs,I.base.tbls⟩,⟨_,hn',fun j y v' e1 e2 e3=>?_⟩,fun y c e=>?_,I.free,I.freeC,fun p hp=>?_,tracked ⟨oL,hoL,I.free⟩ hs,by simpa using I.len⟩ ⟨_,hs,.inl rfl⟩
  ·exact(hs.2 b (bE (aY (aH e) I.ok.above))).trans (I.base.keep b o e n hb hx)
  ·obtain⟨sl,e1⟩:=I.base.slot b o e n hb hx
   exact⟨sl,(hs.2 b (bE (aY (aH e) I.ok.above))).trans e1⟩
  ·obtain⟨o',e1⟩:=I.base.there b o e hx
   exact⟨o',(hs.2 b (bE (aY (aH e) I.ok.above))).trans e1⟩
  ·by_cases hj:j=i
   ·subst hj
    rw[hi]at e1;cases e1
    rw[bv hiσ]at e2
    cases e2
    exact⟨u,r,.inl ⟨hk,by simp⟩⟩
   ·rw[bP (Ne.symm hj)]at e2
    obtain⟨u',r',q⟩:=hl j y v' e1 e2 e3
    refine⟨u',r',?_⟩
    rcases q with⟨k,e⟩|⟨k,c,e,z⟩
    ·refine .inl ⟨k,?_⟩
     have:y≠x:=fun e=>hj (wZ hN e1 (e▸hi))
     simp[this,e]
    ·exact .inr ⟨k,c,e,z.sameBut hs (cne y c e)⟩
  ·obtain⟨w',z⟩:=I.cell y c e
   exact⟨w',z.sameBut hs (cne y c e)⟩
  ·obtain⟨e,n,ne,nf,d⟩:=I.pin p hp
   exact⟨(hs.2 p.1 ne).trans e,n,ne,nf,d⟩
 ·have y8:X.fn x=true:=by
   rcases hf with z|z
   ·exact z
   ·rw[z]at hk;cases hk
  obtain⟨c,hc⟩:=I.ok.has x (.inl hk)
  obtain⟨w',z⟩:=I.cell x c hc
  refine wpAny_storeName_cell I.ok.kind hk hc z (fun h' hc' hs=>?_)
  obtain⟨oc,hoc,hocd⟩:=id z
  refine h { s with heap:=h' } ⟨I.ok,I.os,I.bare,⟨fun b o e n hb hx=>?_,fun b o e n hb hx=>?_,I.base.free,fun b o e hx=>?_,I.base.tups,I.base.frzs,I.base.tbls⟩,⟨m,hn.sameBut hs (Ne.symm (cne x c hc)),fun j y v' e1 e2 e3=>?_⟩,fun y c' e=>?_,I.free,I.freeC,fun p hp=>?_,tracked ⟨oc,hoc,I.freeC x c hc⟩ hs,by simpa using I.len⟩ ⟨c,hs,.inr hc⟩
  ·exact(hs.2 b (bE (aY (aH e) (I.ok.cab x c y8 hc)))).trans (I.base.keep b o e n hb hx)
  ·obtain⟨sl,e1⟩:=I.base.slot b o e n hb hx
   exact⟨sl,(hs.2 b (bE (aY (aH e) (I.ok.cab x c y8 hc)))).trans e1⟩
  ·obtain⟨o',e1⟩:=I.base.there b o e hx
   exact⟨o',(hs.2 b (bE (aY (aH e) (I.ok.cab x c y8 hc)))).trans e1⟩
  ·by_cases hj:j=i
   ·subst hj
    rw[hi]at e1;cases e1
    rw[bv hiσ]at e2
    cases e2
    exact⟨u,r,.inr ⟨.inl hk,c,hc,hc'⟩⟩
   ·rw[bP (Ne.symm hj)]at e2
    obtain⟨u',r',q⟩:=hl j y v' e1 e2 e3
    refine⟨u',r',?_⟩
    rcases q with q|⟨k,c',e,z'⟩
    ·exact .inl q
    ·refine .inr ⟨k,c',e,z'.sameBut hs ?_⟩
     rintro rfl
     exact hj (wZ hN e1 (I.ok.inj _ _ _ e hc▸hi))
  ·by_cases hcc:c'=c
   ·subst hcc;exact⟨_,hc'⟩
   ·obtain⟨w2,z2⟩:=I.cell y c' e
    exact⟨w2,z2.sameBut hs hcc⟩
  ·obtain⟨e,n,ne,nf,d⟩:=I.pin p hp
   refine⟨(hs.2 p.1 ?_).trans e,n,ne,nf,d⟩
   intro q
   rw[q,hoc]at e
   have q':oc=p.2:=a7 e
   exact d w' (by rw[<- q'];exact hocd)
theorem rT{M:Model}{A:Around}{E:Value->Shared->Prop}{v:V}{Q:Unit->Shared->Prop}(I:bw X pins σ H s)(hN:X.N.Nodup)(hi:X.N[i]?=some x)(hx:Du X.env.scope x)(r:bS v u)
  (h:∀s',bw X pins (σ.set i (some v)) H s'->Q () s') (hf:X.fn x=true\/X.env.scope.names.lookup x=some .local:=by first|exact .inl rfl|exact .inr rfl|assumption):wpAny M A (storeName X.env x u) Q E s:=
 B8 I hN hi hx r (fun s' I' _=>h s' I') hf
theorem bw.call'{s':Shared}{ch:List Addr}(I:bw X pins σ H s)(ho:s'.os=s.os)(u:Un (tZ X.stack) ch H H' s.heap s'.heap)(hok:kw X.prog X.w H' s'.heap)(hg:AllBare s'.gens)
  (Dq:∀b∈ch,(b∈X.ex\/X.s₀.heap.objs.size<=b)/\b≠X.env.locals/\(∀x c,X.env.cells.lookup x=some c->c≠b)/\∀p∈X.pn++pins,p.1≠b):bw X pins σ H' s':=by
 obtain⟨h',g',d',t',o'⟩:=s'
 have e:o'=s.os:=ho
 subst e
 exact I.call (g':=g') (t':=t') (d':=d') u hok hg Dq
end
abbrev XK:=Value->Option Addr->Hp->Prop
abbrev St:=List (Option V)
abbrev VK:=V->Hp->Prop
abbrev TE:=St->Hp->VK->Prop
abbrev TT:=St->Hp->(Bool->Hp->Prop)->Prop
abbrev TA:=St->Hp->(List V->Hp->Prop)->Prop
structure vq where
 nx:St->Hp->Prop
 rt:VK
 bk:St->Hp->Prop:=fun _ _=>False
 ct:St->Hp->Prop:=fun _ _=>False
abbrev TS:=vq->St->Hp->Prop
def EP(X:Cx)(pins:List (Addr×Obj))(σ:St)(Q:VK)(u:Value)(s':Shared):Prop:=∃v H',bw X pins σ H' s'/\bS v u/\Q v H'
def TP(X:Cx)(pins:List (Addr×Obj))(σ:St)(Q:Bool->Hp->Prop)(b:Bool)(s':Shared):Prop:=∃H',bw X pins σ H' s'/\Q b H'
def AP(X:Cx)(pins:List (Addr×Obj))(σ:St)(Q:List V->Hp->Prop)(us:List Value)(s':Shared):Prop:=∃vs H',bw X pins σ H' s'/\cp vs us/\Q vs H'
def SP(X:Cx)(pins:List (Addr×Obj))(D:vq)(f:Flow)(s':Shared):Prop:=
 match f with
 |.next=>∃σ' H',bw X pins σ' H' s'/\D.nx σ' H'
 |.brk=>∃σ' H',bw X pins σ' H' s'/\D.bk σ' H'
 |.cont=>∃σ' H',bw X pins σ' H' s'/\D.ct σ' H'
 |.ret u=>∃v σ' H',bw X pins σ' H' s'/\bS v u/\D.rt v H'
def PE(X:Cx)(e:Expr)(t:TE):Prop:=
 ∀(pins:List (Addr×Obj)) (s:Shared) (σ:St) (H:Hp) (Q:VK),bw X pins σ H s->t σ H Q->wpAny (model X.prog X.w) X.A (eval e X.env) (EP X pins σ Q) X.xe s
def PT(X:Cx)(e:Expr)(t:TT):Prop:=
 ∀(pins:List (Addr×Obj)) (s:Shared) (σ:St) (H:Hp) (Q:Bool->Hp->Prop),bw X pins σ H s->t σ H Q->wpAny (model X.prog X.w) X.A (isTrue e X.env (eval e X.env)) (TP X pins σ Q) X.xe s
def PW(X:Cx)(e:Expr)(t:TT):Prop:=
 ∀(tR:Sem Value) (pins:List (Addr×Obj)) (s:Shared) (σ:St) (H:Hp) (Q:Bool->Hp->Prop),bw X pins σ H s->t σ H Q->wpAny (model X.prog X.w) X.A (isTrue e X.env tR) (TP X pins σ Q) X.xe s
theorem PW.pt{X:Cx}{t:TT}(h:PW X e t):PT X e t:=h _
def PA(X:Cx)(es:List Expr)(t:TA):Prop:=
 ∀(pos:Pos) (pins:List (Addr×Obj)) (s:Shared) (σ:St) (H:Hp) (Q:List V->Hp->Prop),bw X pins σ H s->t σ H Q->wpAny (model X.prog X.w) X.A (spliced (backTo pos (starEach es X.env))) (AP X pins σ Q) X.xe s
def PS(X:Cx)(st:Stmt)(t:TS):Prop:=
 ∀(pins:List (Addr×Obj)) (s:Shared) (σ:St) (H:Hp) (D:vq),bw X pins σ H s->t D σ H->wpAny (model X.prog X.w) X.A (exec st X.env) (SP X pins D) X.xe s
def B9(X:Cx)(st:List Stmt)(t:TS):Prop:=
 ∀(pins:List (Addr×Obj)) (s:Shared) (σ:St) (H:Hp) (D:vq),bw X pins σ H s->t D σ H->wpAny (model X.prog X.w) X.A (execs st X.env) (SP X pins D) X.xe s
theorem f6{t:Sem α}{Q Q':α->Shared->Prop}(h:wpAny M A t Q E s)(hQ:∀a s,Q a s->Q' a s):wpAny M A t Q' E s:=dZ h hQ fun _ _ x=>x
section
variable{X:Cx}
def PN(i:Nat):TE:=fun σ H Q=>∃v,σ[i]?=some (some v)/\Q v H
def tC(v:V):TE:=fun _ H Q=>Q v H
theorem L'{pos:Pos}(hN:X.N[i]?=some x)(hv:Pk X.env.scope x)(hd:(x==("__debug__":Str))=false:=by decide)(lD:(x==("__classdict__":Str))=false:=by decide):PE X (.Name x pos) (PN i):=by
 intro pins s σ H Q I h
 obtain⟨v,e,h⟩:=h
 obtain⟨m,hn,hl⟩:=I.loc
 obtain⟨u,r,l⟩:=hl i x v hN e hv
 have fin:EP X pins σ Q u s:=⟨v,H,I,r,h⟩
 rcases l with⟨hk,hm⟩|⟨hk,c,hc,fA⟩
 ·exact mw (wpAny_loadName_local I.ok.kind hk hn hm fin) hd
 ·rcases hk with hk|hk
  ·exact mw (wpAny_loadName_cell I.ok.kind hk hc fA fin) hd
  ·exact mw (wpAny_loadName_free I.ok.kind hk hc fA fin lD) hd
theorem Ma{i j pos}:PE X (.Constant (.int i) j pos) (tC (.int i)):=fun _ _ _ H _ I h=>wpAny_Constant_int ⟨.int i,H,I.tok _,⟨_,rfl⟩,h⟩
theorem PP{b j pos}:PE X (.Constant (.bool b) j pos) (tC (.bl b)):=fun _ _ _ H _ I h=>Constant_bool ⟨.bl b,H,I,rfl,h⟩
theorem Mb{x j pos}:PE X (.Constant (.str x) j pos) (tC (.str x)):=fun _ _ _ H _ I h=>Calls.Constant_str ⟨.str x,H,I.tok _,⟨_,rfl⟩,h⟩
def Gl(X:Cx)(x:Str):Prop:=X.env.kindOf x=some .globalImplicit
theorem AE{E:Value->Shared->Prop}{σ:St}{H:Hp}{pos:Pos}(I:bw X pins σ H s)(hg:Gl X x)(hm:X.mg x=some u)(h:Q u s)
  (hd:(x==("__debug__":Str))=false:=by decide):wpAny (model X.prog X.w) X.A (eval (.Name x pos) X.env) Q E s:=
 j3 I.ok.kind hg (Calls.loadGlobal_global (by rw[I.ok.glob];exact I.mod.glob.keeps I.bk) hm h) hd
theorem kZ{E:Value->Shared->Prop}{σ:St}{H:Hp}{pos:Pos}(I:bw X pins σ H s)(hg:Gl X x)(hm:X.mg x=none)(hv:bootBuiltins x=some u)(h:Q u s)
  (hn:x ≠ "__name__":=by decide) (hd:(x==("__debug__":Str))=false:=by decide):wpAny (model X.prog X.w) X.A (eval (.Name x pos) X.env) Q E s:=by
 obtain⟨mb,h1,h2⟩:=I.mod.blt
 exact j3 I.ok.kind hg (Calls.loadGlobal_builtin (by rw[I.ok.glob];exact I.mod.glob.keeps I.bk) hm (by rw[I.ok.blt];exact h1.keeps I.bk) ((h2 x hn).trans hv) h) hd
theorem HK{v:V}{pos:Pos}(hg:Gl X x)(hm:X.mg x=none)(hv:bootBuiltins x=some u)(r:bS v u)(hn:x ≠ "__name__":=by decide)(hd:(x==("__debug__":Str))=false:=by decide):PE X (.Name x pos) (tC v):=
 fun _ _ _ H _ I h=>kZ I hg hm hv ⟨v,H,I,r,h⟩ hn hd
variable{a b:Expr}{ta tb:TE}
def PC(X:Cx)(op:CmpOp)(a b:Expr)(t:TE):Prop:=
 ∀(pins:List (Addr×Obj)) (s:Shared) (σ:St) (H:Hp) (Q:VK),bw X pins σ H s->t σ H Q ->
  wpAny (model X.prog X.w) X.A (eval a X.env) (fun v s₁=>wpAny (model X.prog X.w) X.A (eval b X.env) (fun u s₂=>wpAny (model X.prog X.w) X.A (compareOp op v u) (EP X pins σ Q) X.xe s₂) X.xe s₁) X.xe s
theorem w6(b:Expr)(h:op≠.In)(h2:op≠.NotIn):behindInMarks op b=false:=by
 have e1:(op==CmpOp.In)=false:=by cases op<;>first|rfl|exact absurd rfl h
 have e2:(op==CmpOp.NotIn)=false:=by cases op<;>first|rfl|exact absurd rfl h2
 cases b<;>simp[behindInMarks,e1,e2]
def PQ(ta:TE):TE:=fun σ H Q=>ta σ H fun x H1=>Q (.bl (decide (x=.non))) H1
theorem bS.none_iff{x:V}{v:Value}(r:bS x v):(v==Value.none)=decide (x=.non):=by
 cases x with
 |non=>cases r;rfl
 |bl _=>cases r;rfl
 |int _=>obtain⟨t,rfl⟩:=r;rfl
 |str _=>obtain⟨t,rfl⟩:=r;rfl
 |byt _=>obtain⟨t,rfl⟩:=r;rfl
 |flt _=>obtain⟨t,rfl⟩:=r;rfl
 |ref _=>cases r;rfl
 |ty _=>cases r;rfl
theorem DF{j ji}(ha:PE X a ta):PC X .Is a (.Constant .none j ji) (PQ ta):=by
 intro pins s σ H Q I h
 refine f6 (ha pins s σ H _ I h) fun v s1 ⟨x,H1,I1,r1,q1⟩=>?_
 exact Constant_none (is_none_gen ⟨.bl _,H1,I1,by rw[r1.none_iff];rfl,q1⟩)
def tB(t:TE):TT:=fun σ H Q=>t σ H fun x H1=>∃c,x=.bl c/\Q c H1
theorem Md{t:TE}(h:PC X op a b t)(h1:behindInMarks op b=false:=by first|exact w6 _ (by decide) (by decide)|rfl):PE X (.Compare a [op] [b] pos) t:=fun pins s σ H Q I hw=>wpAny_Compare1 (h pins s σ H Q I hw) h1
theorem Me{t:TE}(h:PC X op a b t)(h1:behindInMarks op b=false:=by first|exact w6 _ (by decide) (by decide)|rfl):PT X (.Compare a [op] [b] pos) (tB t):=by
 intro pins s σ H Q I hw
 refine m9 (f6 (h pins s σ H _ I hw) fun v s1 h1=>f6 h1 fun u s2 h2=>f6 h2 fun c s3 ⟨x,H1,I1,r1,q1⟩=>?_) h1
 obtain⟨d,rfl,q⟩:=q1
 cases r1
 exact eJ ⟨H1,I1,q⟩
theorem Mf{t:TE}(h:PE X e t)(he:∀tR,isTrue e X.env tR=(do let v <- tR;standAt e.pos;holding [v] (truthy v)):=by intro _;rfl):PT X e (tB t):=by
 intro pins s σ H Q I hw
 refine isTrue_plain (f6 (h pins s σ H _ I hw) fun v s1 ⟨x,H1,I1,r1,q1⟩=>?_) (he _)
 obtain⟨d,rfl,q⟩:=q1
 cases r1
 exact eJ ⟨H1,I1,q⟩
variable{tA S8:TT}{rest:List Expr}
def Tw(t u:TT):TT:=fun σ H Q=>t σ H fun c H1=>if c=true then u σ H1 Q else Q false H1
def U0(t u:TT):TT:=fun σ H Q=>t σ H fun c H1=>if c=true then Q true H1 else u σ H1 Q
def Tx(t:TT):TT:=fun σ H Q=>t σ H fun c H1=>Q (!c) H1
theorem HL(ha:PT X a tA):PW X (.BoolOp .And [a] pos) tA:=by
 intro wh pins s σ H Q I h
 refine isTrue_and (f6 (ha pins s σ H Q I h) fun c s1 e=>?_)
 cases c with
 |true=>exact isTrue_and_nil e
 |false=>exact e
theorem Mg(ha:PT X a tA):PW X (.BoolOp .Or [a] pos) tA:=by
 intro wh pins s σ H Q I h
 refine isTrue_or (f6 (ha pins s σ H Q I h) fun c s1 e=>?_)
 cases c with
 |false=>exact isTrue_or_nil e
 |true=>exact e
theorem Mh(ha:PT X a tA)(hb:PW X (.BoolOp .And (b::rest) pos) S8):PW X (.BoolOp .And (a::b::rest) pos) (Tw tA S8):=by
 intro wh pins s σ H Q I h
 refine isTrue_and (f6 (ha pins s σ H _ I h) fun c s1 ⟨H1,I1,q1⟩=>?_)
 cases c with
 |true=>exact hb wh pins s1 σ H1 Q I1 q1
 |false=>exact⟨H1,I1,q1⟩
theorem PR(ha:PT X a tA)(hb:PW X (.BoolOp .Or (b::rest) pos) S8):PW X (.BoolOp .Or (a::b::rest) pos) (U0 tA S8):=by
 intro wh pins s σ H Q I h
 refine isTrue_or (f6 (ha pins s σ H _ I h) fun c s1 ⟨H1,I1,q1⟩=>?_)
 cases c with
 |true=>exact⟨H1,I1,q1⟩
 |false=>exact hb wh pins s1 σ H1 Q I1 q1
theorem Mi(ha:PT X a tA):PT X (.UnaryOp .Not a pos) (Tx tA):=by
 intro pins s σ H Q I h
 exact isTrue_not (ha pins s σ H (fun c H1=>Q (!c) H1) I h)
def PU(ta tb:TE):TE:=fun σ H Q=>ta σ H fun x H1=>∃c,x=.bl c/\if c=true then tb σ H1 Q else Q (.bl false) H1
def PV(ta:TE):TE:=fun σ H Q=>ta σ H fun x H1=>∃c,x=.bl c/\Q (.bl (!c)) H1
theorem Mj{op}{t:TE}(h:PE X a t):PE X (.BoolOp op [a] pos) t:=fun pins s σ H Q I hw=>BoolOp_one (h pins s σ H Q I hw)
theorem Mk(ha:PE X a ta)(hb:PE X (.BoolOp .And (b::rest) pos) tb):PE X (.BoolOp .And (a::b::rest) pos) (PU ta tb):=by
 intro pins s σ H Q I h
 refine BoolOp_and (f6 (ha pins s σ H _ I h) fun v s1 ⟨x,H1,I1,r1,q1⟩=>?_)
 obtain⟨c,rfl,q1⟩:=q1
 cases r1
 refine eJ ?_
 cases c with
 |true=>exact hb pins s1 σ H1 Q I1 q1
 |false=>exact⟨.bl false,H1,I1,rfl,q1⟩
theorem Ml(ha:PE X a ta):PE X (.UnaryOp .Not a pos) (PV ta):=by
 intro pins s σ H Q I h
 refine UnaryOp_ (f6 (ha pins s σ H _ I h) fun v s1 ⟨x,H1,I1,r1,q1⟩=>?_)
 obtain⟨c,rfl,q1⟩:=q1
 cases r1
 exact not_of (eJ ⟨.bl (!c),H1,I1,rfl,q1⟩)
end
def qr(K:Frag)(H:Hp)(a:Addr)(xs:List V):Prop:=
 Rd H a (.lst xs) \/
  ∃(o:Obj) (bz:Array Value) (n:Nat),K.lookup a=some o/\o.cls=.type "list"/\o.dict=none/\o.data=.seq bz n/\bz.size<=sizeLine/\cp xs bz.toList
def fy(K:Frag)(H:Hp)(a:Addr)(xs:List V):Prop:=
 Rd H a (.tup xs) \/
  ∃(o:Obj) (bz:Array Value) (n:Nat),K.lookup a=some o/\o.cls=.type "tuple"/\o.data=.seq bz n/\bz.size<=sizeLine/\cp xs bz.toList
def Tz:Value->Option V
 |.none=>some .non
 |.bool b=>some (.bl b)
 |.int i _=>some (.int i)
 |.str x _=>some (.str x)
 |.bytes b _=>some (.byt b)
 |.float b _=>some (.flt b)
 |.ref a=>some (.ref a)
 |.type n=>some (.ty n)
 |_=>none
theorem bS.abs{x:V}(r:bS x u):Tz u=some x:=by
 cases x with
 |non=>cases r;rfl
 |bl _=>cases r;rfl
 |int _=>obtain⟨t,rfl⟩:=r;rfl
 |str _=>obtain⟨t,rfl⟩:=r;rfl
 |byt _=>obtain⟨t,rfl⟩:=r;rfl
 |flt _=>obtain⟨t,rfl⟩:=r;rfl
 |ref _=>cases r;rfl
 |ty _=>cases r;rfl
theorem bS.inj{x y:V}(r:bS x u)(q:bS y u):x=y:=a7 (r.abs.symm.trans q.abs)
theorem cp.inj:∀{xs ys:List V} {us:List Value},cp xs us->cp ys us->xs=ys
 |_,_,_,.nil,.nil=>rfl
 |_,_,_,.cons r t,.cons r' t'=>by rw[r.inj r',cp.inj t t']
section
variable{X:Cx}{σ:St}{H:Hp}{xs ys:List V}
theorem qr.of(h:H a=some (.lst xs)):qr K H a xs:=.inl (.inl h)
theorem fy.of(h:H a=some (.tup xs)):fy K H a xs:=.inl (.inl h)
theorem bw.list(I:bw X pins σ H s)(h:qr X.K H a xs):∃bz:List Value,cp xs bz/\PlainL s.heap a bz.toArray/\xs.length<=sizeLine:=by
 rcases h with h|⟨o,bz,n,hk,hc,hd,hs,hz,r⟩
 ·obtain⟨z,bz,n,r,e⟩:=h.ok I.hok
  exact⟨bz,r,⟨_,n,e,rfl,rfl,rfl⟩,z⟩
 ·refine⟨bz.toList,r,⟨o,n,I.kIn a o hk,hc,hd,by simpa using hs⟩,?_⟩
  have e:=r.length
  simp only[fO]at e
  omega
theorem bw.tuple(I:bw X pins σ H s)(h:fy X.K H a xs):∃bz:List Value,cp xs bz/\IsTup s.heap a bz.toArray/\xs.length<=sizeLine:=by
 rcases h with h|⟨o,bz,n,hk,hc,hs,hz,r⟩
 ·obtain⟨z,bz,r,p⟩:=h.ok I.hok
  exact⟨bz,r,p,z⟩
 ·refine⟨bz.toList,r,⟨o,I.kIn a o hk,hc,n,by simpa using hs⟩,?_⟩
  have e:=r.length
  simp only[fO]at e
  omega
theorem bw.list_inj(I:bw X pins σ H s)(h:qr X.K H a xs)(h':qr X.K H a ys):xs=ys:=by
 obtain⟨bz,r,⟨o,n,e,_,_,d⟩,_⟩:=I.list h
 obtain⟨its',r',⟨o',n',e',_,_,d'⟩,_⟩:=I.list h'
 rw[e]at e';cases e'
 rw[d]at d'
 injection d' with d1 _
 have:bz=its':=by simpa using dJ Array.toList d1
 subst this
 exact r.inj r'
theorem bw.tuple_inj(I:bw X pins σ H s)(h:fy X.K H a xs)(h':fy X.K H a ys):xs=ys:=by
 obtain⟨bz,r,⟨o,e,_,n,d⟩,_⟩:=I.tuple h
 obtain⟨its',r',⟨o',e',_,n',d'⟩,_⟩:=I.tuple h'
 rw[e]at e';cases e'
 rw[d]at d'
 injection d' with d1 _
 have:bz=its':=by simpa using dJ Array.toList d1
 subst this
 exact r.inj r'
end
section
variable{X:Cx}{σ:St}{H:Hp}
end
section
variable{X:Cx}{st:Stmt}{rest:List Stmt}{t u:TS}{te:TE}
def PY:TS:=fun D σ H=>D.nx σ H
def TB(t u:TS):TS:=fun D σ H=>t { D with nx:=u D } σ H
theorem HM:B9 X [] PY:=fun _ _ σ H _ I h=>jk ⟨σ,H,I,h⟩
theorem w9(h1:PS X st t)(h2:B9 X rest u):B9 X (st::rest) (TB t u):=by
 intro pins s σ H D I h
 refine wpAny_execs_cons (f6 (h1 pins s σ H { D with nx:=u D } I h) fun f s1 q=>?_)
 cases f with
 |next=>
  obtain⟨σ',H',I',q⟩:=q
  exact h2 pins s1 σ' H' D I' q
 |ret v=>exact q
 |brk=>exact q
 |cont=>exact q
theorem HN(h1:PS X st t):B9 X [st] t:=by
 intro pins s σ H D I h
 refine wpAny_execs_cons (f6 (h1 pins s σ H D I h) fun f s1 q=>?_)
 cases f with
 |next=>exact jk q
 |ret v=>exact q
 |brk=>exact q
 |cont=>exact q
theorem bw.quiet{σ:St}{H:Hp}(I:bw X pins σ H s):interactive X.env=false:=by simp[interactive,I.ok.kind]
def PZ(te:TE):TS:=fun D σ H=>te σ H fun _ H1=>D.nx σ H1
theorem HP(he:PE X e te)(hs:swapsWith e none pos.line X.env=pure false:=by rfl):PS X (.Expr e pos) (PZ te):=by
 intro pins s σ H D I h
 exact wpAny_Expr_any (f6 (he pins s σ H _ I h) fun v s1 ⟨x,H1,I1,r1,q1⟩=>⟨σ,H1,I1,q1⟩) I.quiet hs
def TC(te:TE):TS:=fun D σ H=>te σ H D.rt
theorem Mm(he:PE X e te):PS X (.Return (some e) pos) (TC te):=by
 intro pins s σ H D I h
 exact wpAny_Return_some (f6 (he pins s σ H _ I h) fun v s1 ⟨x,H1,I1,r1,q1⟩=>⟨x,σ,H1,I1,r1,q1⟩)
def TD(c:TT)(t u:TS):TS:=fun D σ H=>c σ H fun b H1=>if b=true then t D σ H1 else u D σ H1
theorem P0{a b:List Stmt}{tc:TT}(hc:PT X c tc)(ha:B9 X a t)(hb:B9 X b u):PS X (.If c a b pos) (TD tc t u):=by
 intro pins s σ H D I h
 refine wpAny_If (f6 (hc pins s σ H _ I h) fun d s1 ⟨H1,I1,q1⟩=>?_)
 cases d with
 |true=>exact ha pins s1 σ H1 D I1 q1
 |false=>exact hb pins s1 σ H1 D I1 q1
end
abbrev TG:=V->St->Hp->(St->Hp->Prop)->Prop
abbrev HQ:=List V->St->Hp->(St->Hp->Prop)->Prop
def PG(X:Cx)(Pg:Expr)(t:TG):Prop:=
 ∀(pins:List (Addr×Obj)) (s:Shared) (σ:St) (H:Hp) (v:V) (u:Value) (Q:St->Hp->Prop),bw X pins σ H s->bS v u->t v σ H Q ->
  wpAny (model X.prog X.w) X.A (assign Pg X.env u) (fun _ s'=>∃σ' H',bw X pins σ' H' s'/\Q σ' H') X.xe s
def Kc(X:Cx)(ts:List Expr)(t:HQ):Prop:=
 ∀(pins:List (Addr×Obj)) (s:Shared) (σ:St) (H:Hp) (vs:List V) (us:List Value) (Q:St->Hp->Prop),bw X pins σ H s->cp vs us->t vs σ H Q ->
  wpAny (model X.prog X.w) X.A (assignInOrder ((assignEach ts X.env).map (·.2)) us) (fun _ s'=>∃σ' H',bw X pins σ' H' s'/\Q σ' H') X.xe s
abbrev HR:=V->V->V->Hp->(Hp->Prop)->Prop
def B_(X:Cx)(t:HR):Prop:=
 ∀(pins:List (Addr×Obj)) (s:Shared) (σ:St) (H:Hp) (o i v:V) (ov iv u:Value) (Q:Hp->Prop),bw X pins σ H s->bS o ov->bS i iv->bS v u->t o i v H Q ->
  wpAny (model X.prog X.w) X.A (setItem ov iv u) (fun _ s'=>∃H',bw X pins σ H' s'/\Q H') X.xe s
section
variable{X:Cx}
def Kd(i:Nat):TG:=fun v σ H Q=>Q (σ.set i (some v)) H
theorem HS(hN:X.N.Nodup)(hi:X.N[i]?=some x)(hx:Du X.env.scope x)(hf:X.fn x=true\/X.env.scope.names.lookup x=some .local:=by first|exact .inl rfl|exact .inr rfl|assumption):PG X (.Name x pos) (Kd i):=by
 intro pins s σ H v u Q I r h
 exact wpAny_assign_Name (rT I hN hi hx r (fun s' I'=>⟨_,H,I',h⟩) hf)
def TF:HQ:=fun vs σ H Q=>vs=[]/\Q σ H
def P1(t:TG)(u:HQ):HQ:=fun vs σ H Q=>∃v r,vs=v::r/\t v σ H fun σ' H'=>u r σ' H' Q
theorem HU:Kc X [] TF:=by
 intro pins s σ H vs us Q I r h
 obtain⟨e,h⟩:=h
 subst e
 cases r
 exact assignInOrder_nil ⟨σ,H,I,h⟩
theorem DG{t:TG}{u:HQ}(h1:PG X e t)(h2:Kc X es u)
  (hs:(assignEach (e::es) X.env).map (·.2)=assign e X.env::(assignEach es X.env).map (·.2):=by rfl):Kc X (e::es) (P1 t u):=by
 intro pins s σ H vs us Q I r h
 obtain⟨v,vr,e1,h⟩:=h
 subst e1
 cases r with
 |cons r rr=>
  rw[hs]
  refine assignInOrder_cons (f6 (h1 pins s σ H _ _ _ I r h) fun _ s1 ⟨σ1,H1,I1,q1⟩=>?_)
  exact h2 pins s1 σ1 H1 _ _ Q I1 rr q1
def TH(K:Frag)(n:Nat)(t:HQ):TG:=fun v σ H Q=>∃a xs,v=.ref a/\fy K H a xs/\xs.length=n/\t xs σ H Q
theorem Mn{k:Nat}{t:HQ}(hc:X.calm=true)(h:Kc X es t)
  (hn:(assignEach es X.env).length=n:=by rfl) (wM:(assignEach es X.env).findIdx? (·.1)=none:=by rfl):PG X (.Tuple es k pos) (TH X.K n t):=by
 intro pins s σ H v u Q I r hw
 obtain⟨a,xs,e1,hq,hl,hw⟩:=hw
 subst e1
 cases r
 obtain⟨bz,rv,ht,hz⟩:=I.tuple hq
 refine assign_Tuple_tuple (I.ok.hd hc) ht (by simp[hn,<- hl,rv.length]) wM fun h' hx=>?_
 have I1:bw X pins σ H { s with heap:=h' }:=I.kept (t':=s.toks) fun b o e=>hx b o (bE (aH e)) e
 exact h pins _ σ H xs _ Q I1 (by simpa using rv) hw
def TJ(to ti:TE)(t:HR):TG:=fun v σ H Q=>to σ H fun o H1=>ti σ H1 fun i H2=>t o i v H2 fun H3=>Q σ H3
theorem Mo{o i:Expr}{to ti:TE}{t:HR}(ho:PE X o to)(hi:PE X i ti)(hs:B_ X t)
  (ha:∀v,assign (.Subscript o i pos) X.env v=(do
   let ov <- holding [v] (eval o X.env)
   let iv <- holding [v,ov] (eval i X.env)
   standAt pos
   holding [v,ov,iv] (setItem ov iv v)
   release [v,ov,iv] []):=by intro _;rfl):PG X (.Subscript o i pos) (TJ to ti t):=by
 intro pins s σ H v u Q I r h
 rw[ha]
 refine ah (cF (f6 (ho pins s σ H _ I h) fun ov s1 ⟨x,H1,I1,r1,q1⟩=>?_))
 refine ah (cF (f6 (hi pins s1 σ H1 _ I1 q1) fun iv s2 ⟨y,H2,I2,r2,q2⟩=>?_))
 refine ah (lw (ah (cF (f6 (hs pins s2 σ H2 x y v ov iv u _ I2 r1 r2 r q2) fun _ s3 ⟨H3,I3,q3⟩=>?_))))
 exact wpAny_release ⟨σ,H3,I3,q3⟩
def DH(te:TE)(g:TG):TS:=fun D σ H=>te σ H fun x H1=>g x σ H1 D.nx
theorem DI{te:TE}{g:TG}(he:PE X e te)(hg:PG X tg g)(hs:swapsWithSole [tg] e pos.line X.env=pure false:=by rfl)(hw:swappedStores [tg] e X.env=pure none:=by rfl)
  (h1:(assignEach [tg] X.env).map (·.2)=[assign tg X.env]:=by rfl):PS X (.Assign [tg] e pos) (DH te g):=by
 intro pins s σ H D I h
 refine wpAny_Assign_stores (f6 (he pins s σ H _ I h) fun v s1 ⟨x,H1,I1,r1,q1⟩=>?_) hs hw
 rw[h1]
 exact f6 (hg pins s1 σ H1 x v _ I1 r1 q1) fun _ s2 q=>q
theorem Mp{te:TE}(hN:X.N.Nodup)(hi:X.N[i]?=some x)(hx:Du X.env.scope x)(he:PE X e te)(hs:swapsWith e (some (.Name x ji)) pos.line X.env=pure false:=by rfl)(hf:X.fn x=true\/X.env.scope.names.lookup x=some .local:=by first|exact .inl rfl|exact .inr rfl|assumption) :
  PS X (.Assign [.Name x ji] e pos) (DH te (Kd i)):=by
 intro pins s σ H D I h
 refine wpAny_Assign_Name (f6 (he pins s σ H _ I h) fun v s1 ⟨y,H1,I1,r1,q1⟩=>?_) hs
 exact rT I1 hN hi hx r1 (fun s2 I2=>⟨_,H1,I2,q1⟩) hf
end
section
variable{X:Cx}
def DJ(c:TT)(tb:TS):TS:=fun D σ H=>∃W:Nat->St->Hp->Prop,(∃m,W m σ H)/\∀m σ H,W m σ H ->
 c σ H fun b H1=>if b=true then ∃N:St->Hp->Prop,(∀σ' H',N σ' H'->∃m',m'<m/\W m' σ' H')/\tb { D with nx:=N,ct:=N,bk:=D.nx } σ H1 else D.nx σ H1
theorem DL{tc:TT}{tb:TS}(hp:PassesOwn (model X.prog X.w) X.A X.env X.xe)(hc:PT X c tc)(hb:B9 X body tb):PS X (.While c body [] pos) (DJ tc tb):=by
 intro pins s σ H D I h
 obtain⟨W,⟨m0,w0⟩,turn⟩:=h
 refine wpAny_While (codeAny_whileLoop (fun n s'=>∃σ' H',bw X pins σ' H' s'/\W n σ' H') ?_ m0 ⟨σ,H,I,w0⟩)
 rintro n s1 ⟨σ1,H1,I1,w1⟩
 refine fD hp (f6 (hc pins s1 σ1 H1 _ I1 (turn n σ1 H1 w1)) fun b s2 ⟨H2,I2,q2⟩=>?_)
 cases b with
 |true=>
  obtain⟨N,hN,q2⟩:=q2
  rw[ay rfl]
  refine fD hp (f6 (hb pins s2 σ1 H2 _ I2 q2) fun f s3 q3=>?_)
  cases f with
  |next=>
   obtain⟨σ3,H3,I3,n3⟩:=q3
   obtain⟨m',hm,w3⟩:=hN σ3 H3 n3
   exact⟨m',hm,σ3,H3,I3,w3⟩
  |cont=>
   obtain⟨σ3,H3,I3,n3⟩:=q3
   obtain⟨m',hm,w3⟩:=hN σ3 H3 n3
   exact⟨m',hm,σ3,H3,I3,w3⟩
  |brk=>exact q3
  |ret v=>exact q3
 |false=>
  rw[aC bT]
  exact jk ⟨σ1,H2,I2,q2⟩
end
structure It where
 go:Nat->Hp->Prop
 yld:Nat->Hp->V->Hp->Prop
 stop:Nat->Hp->Prop
def pA(X:Cx)(pins:List (Addr×Obj))(H:Hp)(b:Addr):Prop:=
 H b=none/\b≠X.env.locals/\b∉X.fs/\(b∈X.ex\/X.s₀.heap.objs.size<=b)/\(∀x c,X.env.cells.lookup x=some c->c≠b)/\∀p∈X.pn++pins,p.1≠b
theorem bw.fpOk{X:Cx}{σ:St}{H H':Hp}(I:bw X pins σ H s)(hb:s.heap.objs.size<=b)(hn:H' b=none):pA X pins H' b:=by
 refine⟨hn,qi (aY I.lt hb),I.nofs hb,.inr (bu I.sz hb),fun x c e z=>?_,fun p hp z=>?_⟩
 ·obtain⟨v,q⟩:=I.cell x c e
  exact absurd (aY q.lt (by rw[z];exact hb)) (bD _)
 ·exact absurd (aY (aH (I.pin p hp).1) (by rw[z];exact hb)) (bD _)
structure Ca(P:Program)(w:World)(K:Frag)(tg:Expr)(J:It)(fp:List Addr)(it:Addr)(tn:Nat->Heap->Prop):Prop where
 mem:it∈fp
 obj:∀i h,tn i h->∀b∈fp,∃o,h.get? b=some o/\∀v,o.data≠.cell v
 keep:∀i h h',tn i h->(∀b∈fp,∀o,h.get? b=some o->h'.get? b=some o)->tn i h'
 item:∀(X:Cx),X.prog=P->X.w=w->X.K=K->X.calm=true->∀(i:Nat) (pins:List (Addr×Obj)) (s:Shared) (σ:St) (H:Hp) (E:Value->Shared->Prop),bw X pins σ H s->(∀b∈fp,pA X pins H b)->tn i s.heap->J.go i H ->
  wpAny (model P w) X.A (pyNext (.ref it)) (fun r s1=>∃u,r=some u /\
   wpAny (model P w) X.A (letOwnedTupleGo tg (.ref it) u) (fun _ s2=>∃x H',bw X pins σ H' s2/\bS x u/\J.yld i H x H'/\tn (i+1) s2.heap/\∀b∈fp,H' b=none) E s1) E s
 done:∀(X:Cx),X.prog=P->X.w=w->X.K=K->X.calm=true->∀(i:Nat) (pins:List (Addr×Obj)) (s:Shared) (σ:St) (H:Hp) (E:Value->Shared->Prop),bw X pins σ H s->(∀b∈fp,pA X pins H b)->tn i s.heap->J.stop i H ->
  wpAny (model P w) X.A (pyNext (.ref it)) (fun r s1=>r=none/\bw X pins σ H s1) E s
 self:∀(A:Around) (i:Nat) (s:Shared) (Q:Value->Shared->Prop) (E:Value->Shared->Prop),tn i s.heap->Q (.ref it) s->wpAny (model P w) A (pyIter (.ref it)) Q E s
abbrev TI:=St->Hp->(It->Hp->Prop)->Prop
def TK(X:Cx)(pins:List (Addr×Obj))(σ:St)(tg:Expr)(R:It->Hp->Prop)(UE:Value)(s2:Shared):Prop:=
 ∃(it:Addr) (fp:List Addr) (tn:Nat->Heap->Prop) (J:It) (H':Hp),UE=.ref it/\bw X pins σ H' s2/\Ca X.prog X.w X.K tg J fp it tn/\tn 0 s2.heap/\(∀b∈fp,pA X pins H' b)/\R J H'
def PI(X:Cx)(tg iter:Expr)(wi:TI):Prop:=
 ∀(pins:List (Addr×Obj)) (s:Shared) (σ:St) (H:Hp) (R:It->Hp->Prop),bw X pins σ H s->wi σ H R ->
  wpAny (model X.prog X.w) X.A (eval iter X.env) (fun v s1=>wpAny (model X.prog X.w) X.A (pyIter v) (TK X pins σ tg R) X.xe s1) X.xe s
theorem AF      {E:Value -> Shared -> Prop} {s:Shared}     {n:String} {vs:Array Value} {Q:Unit -> Shared -> Prop} (ho : s.heap.get? it = some o) (hc : o.cls = .type n) (hd : o.data = .fields vs)
    (hn : ["enumerate", "zip", "dict_itemiterator", "dict_reverseitemiterator", "odict_iterator", "itertools.zip_longest", "itertools.pairwise"].contains n = false) (hQ : Q () s) : wpAny M A (letOwnedTupleGo tg (.ref it) u) Q E s := by
  unfold letOwnedTupleGo
  cases tg <;> first
    | exact ax         hQ
    | (cases u <;> first
        | exact ax         hQ
        | (refine ah         (wpAny_load ho ?_)
           rw [hc, hd]
           show wpAny M A (if (["enumerate", "zip", "dict_itemiterator", "dict_reverseitemiterator", "odict_iterator", "itertools.zip_longest", "itertools.pairwise"].contains n && vs[0]? == some (rawInt _)) = true then _ else _) Q E s
           rw [aC     (by intro h; rw [hn, Bool.false_and] at h; cases h)]
           exact ax         hQ))
def UH(K:Frag)(a:Addr):It:=
 ⟨fun i H=>∃xs x,qr K H a xs/\xs[i]?=some x,fun i H x H'=>H'=H/\∀xs,qr K H a xs->xs[i]?=some x,fun i H=>∃xs,qr K H a xs/\xs.length<=i⟩
def UI(K:Frag)(a:Addr):It:=
 ⟨fun i H=>∃xs x,fy K H a xs/\xs[i]?=some x,fun i H x H'=>H'=H/\∀xs,fy K H a xs->xs[i]?=some x,fun i H=>∃xs,fy K H a xs/\xs.length<=i⟩
def P2(lo:Int)(n:Nat):It:=⟨fun i _=>i<n,fun i H x H'=>H'=H/\x=.int (lo+i),fun i _=>n<=i⟩
theorem Cb{w:World}(a it:Addr):Ca P w K tg (UH K a) [it] it (fun i h=>h.IsListIter it a i) where
 mem:=by simp
 obj:=fun i h st b hb=>by
  have e:b=it:=by simpa using hb
  subst e
  obtain⟨o,e,c,d⟩:=st
  exact⟨o,e,fun v z=>by rw[d]at z;cases z⟩
 keep:=fun i h h' st k=>st.at fun o e=>k it (by simp) o e
 item:=by
  intro X hP hw hK hc i pins s σ H E I hf st hg
  subst hP hw hK
  obtain⟨xs,x,hq,hx⟩:=hg
  obtain⟨bz,rv,p,hz⟩:=I.list hq
  obtain⟨u,hu,ru⟩:=rv.get hx
  obtain⟨f0,f1,f2,f3,f4,f5⟩:=hf it (by simp)
  refine wpAny_pyNext_list_item st p.isList (x:=u) (by simpa using hu) fun h' bx sb=>?_
  have I1:bw X pins σ H { s with heap:=h' }:=I.turned (t':=s.toks) (fun b o hb e=>(sb.2 b hb).trans e) f0 f1 f3 f4 f5
  obtain⟨o,e,c,d⟩:=id bx
  exact⟨u,rfl,AF (s:={ s with heap:=h' }) e c d (by decide) ⟨x,H,I1,ru,⟨rfl,fun ys hy=>by rw[I.list_inj hy hq];exact hx⟩,bx,fun b hb=>(hf b hb).1⟩⟩
 done:=by
  intro X hP hw hK hc i pins s σ H E I hf st hg
  subst hP hw hK
  obtain⟨xs,hq,hx⟩:=hg
  obtain⟨bz,rv,p,hz⟩:=I.list hq
  obtain⟨f0,f1,f2,f3,f4,f5⟩:=hf it (by simp)
  have hl:=rv.length
  exact wpAny_pyNext_list_end (I.ok.hd hc) st p.isList (by simp;omega) fun h' eb=>⟨rfl,I.turned (t':=s.toks) (fun b o hb e=>eb b o hb e) f0 f1 f3 f4 f5⟩
 self:=fun _ _ _ _ _ st h=>wpAny_pyIter_listiter st h
theorem y9{w:World}(a it:Addr):Ca P w K tg (UI K a) [it] it (fun i h=>h.IsTupleIter it a i) where
 mem:=by simp
 obj:=fun i h st b hb=>by
  have e:b=it:=by simpa using hb
  subst e
  obtain⟨o,e,c,d⟩:=st
  exact⟨o,e,fun v z=>by rw[d]at z;cases z⟩
 keep:=fun i h h' st k=>st.at fun o e=>k it (by simp) o e
 item:=by
  intro X hP hw hK hc i pins s σ H E I hf st hg
  subst hP hw hK
  obtain⟨xs,x,hq,hx⟩:=hg
  obtain⟨bz,rv,p,hz⟩:=I.tuple hq
  obtain⟨u,hu,ru⟩:=rv.get hx
  obtain⟨f0,f1,f2,f3,f4,f5⟩:=hf it (by simp)
  refine wpAny_pyNext_tuple_item st (show s.heap.IsTuple a bz.toArray from p) (x:=u) (by simpa using hu) fun h' bx sb=>?_
  have I1:bw X pins σ H { s with heap:=h' }:=I.turned (t':=s.toks) (fun b o hb e=>(sb.2 b hb).trans e) f0 f1 f3 f4 f5
  obtain⟨o,e,c,d⟩:=id bx
  exact⟨u,rfl,AF (s:={ s with heap:=h' }) e c d (by decide) ⟨x,H,I1,ru,⟨rfl,fun ys hy=>by rw[I.tuple_inj hy hq];exact hx⟩,bx,fun b hb=>(hf b hb).1⟩⟩
 done:=by
  intro X hP hw hK hc i pins s σ H E I hf st hg
  subst hP hw hK
  obtain⟨xs,hq,hx⟩:=hg
  obtain⟨bz,rv,p,hz⟩:=I.tuple hq
  obtain⟨f0,f1,f2,f3,f4,f5⟩:=hf it (by simp)
  have hl:=rv.length
  exact wpAny_pyNext_tuple_end (I.ok.hd hc) st (show s.heap.IsTuple a bz.toArray from p) (by simp;omega) fun h' eb=>⟨rfl,I.turned (t':=s.toks) (fun b o hb e=>eb b o hb e) f0 f1 f3 f4 f5⟩
 self:=fun _ _ _ _ _ st h=>wpAny_pyIter_tupleiter st h
theorem y_{w:World}(it:Addr)(lo:Int)(n:Nat):Ca P w K tg (P2 lo n) [it] it (fun i h=>IsRangeIter h it (lo+(i:Nat)*1) ((n:Int)-(i:Nat)) 1) where
 mem:=by simp
 obj:=fun i h st b hb=>by
  have e:b=it:=by simpa using hb
  subst e
  exact⟨_,st,fun v z=>by
   have z':Data.fields _=Data.cell v:=z
   cases z'⟩
 keep:=fun i h h' st k=>k it (by simp) _ st
 item:=by
  intro X hP hw hK hc i pins s σ H E I hf st hg
  subst hP hw hK
  obtain⟨f0,f1,f2,f3,f4,f5⟩:=hf it (by simp)
  have W:=Walks.range (prog:=X.prog) (w:=X.w) (I.ok.hd hc) it lo 1 n
  refine W.item i s _ _ hg st fun v h' tk hv bx kk=>?_
  obtain⟨t,rfl⟩:=hv
  have I1:bw X pins σ H { s with heap:=h',toks:=tk }:=I.turned (fun b o hb e=>kk b o (by simpa using hb) e) f0 f1 f3 f4 f5
  refine⟨_,rfl,AF (s:={ s with heap:=h',toks:=tk }) (n:="range_iterator") bx rfl rfl (by decide) ⟨.int (lo+i),H,I1,⟨t,?_⟩,⟨rfl,rfl⟩,bx,fun b hb=>(hf b hb).1⟩⟩
  rw[Int.mul_one]
 done:=by
  intro X hP hw hK hc i pins s σ H E I hf st hg
  subst hP hw hK
  obtain⟨f0,f1,f2,f3,f4,f5⟩:=hf it (by simp)
  exact wpAny_pyNext_range_end (I.ok.hd hc) st (by have:n<=i:=hg;omega) fun h' eb=>⟨rfl,I.turned (t':=s.toks) (fun b o hb e=>eb b o hb e) f0 f1 f3 f4 f5⟩
 self:=fun _ _ _ _ _ st h=>my st h
section
variable{X:Cx}
def P3(K:Frag)(tl:TE):TI:=fun σ H R=>tl σ H fun x H1=>∃a,x=.ref a/\(∃xs,qr K H1 a xs)/\R (UH K a) H1
def TL(K:Frag)(tl:TE):TI:=fun σ H R=>tl σ H fun x H1=>∃a,x=.ref a/\(∃xs,fy K H1 a xs)/\R (UI K a) H1
theorem HW{l:Expr}{tl:TE}(hl:PE X l tl):PI X tg l (P3 X.K tl):=by
 intro pins s σ H R I h
 refine f6 (hl pins s σ H _ I h) fun v s1 ⟨x,H1,I1,r1,q1⟩=>?_
 obtain⟨a,e,⟨xs,hq⟩,q⟩:=q1
 subst e
 cases r1
 obtain⟨bz,rv,p,hz⟩:=I1.list hq
 refine wpAny_pyIter_list p.isList ?_
 refine⟨s1.heap.objs.size,[s1.heap.objs.size],_,_,H1,rfl,I1.kept (t':=s1.toks) fun b o e=>ar _ e,Cb a _,⟨_,aU _ rfl,rfl,rfl⟩,fun b hb=>?_,q⟩
 have e:b=s1.heap.objs.size:=by simpa using hb
 subst e
 exact I1.fpOk (aw _) (I1.hok.fresh (aw _))
theorem Mq{l:Expr}{tl:TE}(hl:PE X l tl):PI X tg l (TL X.K tl):=by
 intro pins s σ H R I h
 refine f6 (hl pins s σ H _ I h) fun v s1 ⟨x,H1,I1,r1,q1⟩=>?_
 obtain⟨a,e,⟨xs,hq⟩,q⟩:=q1
 subst e
 cases r1
 obtain⟨bz,rv,p,hz⟩:=I1.tuple hq
 refine j4 (show s1.heap.IsTuple a bz.toArray from p) ?_
 refine⟨s1.heap.objs.size,[s1.heap.objs.size],_,_,H1,rfl,I1.kept (t':=s1.toks) fun b o e=>ar _ e,y9 a _,⟨_,aU _ rfl,rfl,rfl⟩,fun b hb=>?_,q⟩
 have e:b=s1.heap.objs.size:=by simpa using hb
 subst e
 exact I1.fpOk (aw _) (I1.hok.fresh (aw _))
theorem w_{σ:St}{H:Hp}{R:It->Hp->Prop}{lo hi:Int}{t u v:Tok}{tk:Nat}(I:bw X pins σ H s)(h1:-(2^62)<=lo)(h2:lo<2^62)(h3:-(2^62)<=hi)(h4:hi<2^62)
  (q:R (P2 lo (hi-lo).toNat) H):wpAny (model X.prog X.w) X.A (pyIter (.ref s.heap.objs.size)) (TK X pins σ tg R) E { s with heap:=s.heap.push { cls:=.type "range",data:=.fields #[.int lo t,.int hi u,.int 1 v] },toks:=tk }:=by
 refine wpAny_pyIter_range (IsRange.new ..) (small_one h1 h2 h3 h4) ?_
 have I1:bw X pins σ H { s with heap:=s.heap.push { cls:=.type "range",data:=.fields #[.int lo t,.int hi u,.int 1 v] },toks:=tk }:=I.kept fun b o e=>ar _ e
 refine⟨(s.heap.push { cls:=.type "range",data:=.fields #[.int lo t,.int hi u,.int 1 v] }).objs.size,[(s.heap.push { cls:=.type "range",data:=.fields #[.int lo t,.int hi u,.int 1 v] }).objs.size],_,_,H,rfl,
  I1.kept (t':=tk) fun b o e=>ar _ e,y_ _ lo (hi-lo).toNat,?_,fun b hb=>?_,q⟩
 ·have e1:lo+((0:Nat):Int)*1=lo:=by simp
  have e2:(((hi-lo).toNat:Nat):Int)-((0:Nat):Int)=Builtin.Range.rangeSize lo hi 1:=by rw[rangeSize_one];split<;>omega
  show IsRangeIter _ _ (lo+((0:Nat):Int)*1) ((((hi-lo).toNat:Nat):Int)-((0:Nat):Int)) 1
  rw[e1,e2]
  exact aU _ rfl
 ·have e:b=(s.heap.push { cls:=.type "range",data:=.fields #[.int lo t,.int hi u,.int 1 v] }).objs.size:=by simpa using hb
  subst e
  exact I1.fpOk (aw _) (I1.hok.fresh (aw _))
def P4(ta:TA):TI:=fun σ H R=>ta σ H fun vs H1=>∃j:Int,vs=[.int j]/\-(2^62)<=j/\j<2^62/\R (P2 0 j.toNat) H1
def P5(ta:TA):TI:=fun σ H R=>ta σ H fun vs H1=>∃i j:Int,vs=[.int i,.int j]/\(-(2^62)<=i/\i<2^62/\-(2^62)<=j/\j<2^62)/\R (P2 i (j-i).toNat) H1
theorem Cc{a:Expr}{ta:TA}{p pos:Pos}(hg:Gl X "range")(hm:X.mg "range"=none)(ha:PA X [a] ta)(hs:starEach [a] X.env=[(false,eval a X.env)]:=by rfl):PI X tg (.Call (.Name "range" p) [a] [] pos) (P4 ta):=by
 intro pins s σ H R I h
 refine Call_ (kZ I hg hm boot_range (cO (f6 (ha pos pins s σ H _ I h) fun us s1 ⟨vs,H1,I1,r1,q1⟩=>?_) hs rfl))
 obtain⟨j,e,q1,q2,q⟩:=q1
 subst e
 cases r1 with
 |cons r rr=>
  cases rr
  obtain⟨t,rfl⟩:=r
  exact call_range_1 (w_ I1 (by omega) (by omega) q1 q2 (by simpa using q))
theorem Cd{a b:Expr}{ta:TA}{p pos:Pos}(hg:Gl X "range")(hm:X.mg "range"=none)(ha:PA X [a,b] ta)(hs:starEach [a,b] X.env=[(false,eval a X.env),(false,eval b X.env)]:=by rfl)(vm:starEach [b] X.env=[(false,eval b X.env)]:=by rfl) :
  PI X tg (.Call (.Name "range" p) [a,b] [] pos) (P5 ta):=by
 intro pins s σ H R I h
 refine Call_ (kZ I hg hm boot_range (cO (f6 (ha pos pins s σ H _ I h) fun us s1 ⟨vs,H1,I1,r1,q1⟩=>?_) (by rw[hs,vm]) (by rw[vm];rfl)))
 obtain⟨i,j,e,⟨q1,q2,q3,q4⟩,q⟩:=q1
 subst e
 cases r1 with
 |cons r rr=>
  cases rr with
  |cons r' rr=>
   cases rr
   obtain⟨t,rfl⟩:=r
   obtain⟨t',rfl⟩:=r'
   exact call_range_2 (w_ I1 q1 q2 q3 q4 q)
def TM(wi:TI)(g:TG)(tb:TS):TS:=fun D σ H=>wi σ H fun J H1=>∃W:Nat->Nat->St->Hp->Prop,(∃m,W 0 m σ H1)/\∀i m σ H,W i m σ H ->
 (J.stop i H/\D.nx σ H)\/(J.go i H/\∃N:St->Hp->Prop,(∀σ' H',N σ' H'->∃m',m'<m/\W (i+1) m' σ' H')/\∀x H',J.yld i H x H'->g x σ H' fun σ2 H2=>tb { D with nx:=N,ct:=N,bk:=D.nx } σ2 H2)
def vt(fp:List Addr)(h:Heap):List (Addr×Obj):=fp.filterMap fun b=>(h.get? b).map fun o=>(b,o)
theorem iH(hb:b∈fp)(e:h.get? b=some o):(b,o)∈vt fp h:=List.mem_filterMap.mpr ⟨b,hb,by rw[e];rfl⟩
theorem Ce{p:Addr×Obj}(hp:p∈vt fp h):p.1∈fp/\h.get? p.1=some p.2:=by
 obtain⟨b,hb,e⟩:=List.mem_filterMap.mp hp
 cases q:h.get? b with
 |none=>rw[q]at e;cases e
 |some o=>
  rw[q]at e
  have e':(b,o)=p:=a7 e
  subst e'
  exact⟨hb,q⟩
theorem bw.pinned{σ:St}{H:Hp}(I:bw X pins σ H s)(hf:∀b∈fp,pA X pins H b)(ho:∀b∈fp,∃o,s.heap.get? b=some o/\∀v,o.data≠.cell v):bw X (pins++vt fp s.heap) σ H s:=
 I.pins_of fun p hp=>(aN.mp hp).elim (fun z=>I.pin p (aW _ z)) fun z=>by
  obtain⟨hb,e⟩:=Ce z
  obtain⟨f0,f1,f2,_⟩:=hf p.1 hb
  obtain⟨o,e',d⟩:=ho p.1 hb
  rw[e]at e';cases e'
  exact⟨e,f0,f1,f2,d⟩
theorem bw.unpinned{pl:List (Addr×Obj)}{σ:St}{H:Hp}(I:bw X (pins++pl) σ H s):bw X pins σ H s:=I.pins_of fun p hp=>I.pin p (aW _ (cW _ hp))
theorem Mr{wi:TI}{g:TG}{tb:TS}{pos:Pos}(hp:PassesOwn (model X.prog X.w) X.A X.env X.xe)(hc:X.calm=true)(hi:PI X tg iter wi)(hg:PG X tg g)(hb:B9 X body tb)
  (hs:∀x,foldedSetIterable iter X.env x=pure x:=by intro _;rfl):PS X (.For tg iter body [] pos) (TM wi g tb):=by
 intro pins s σ H D I h
 refine wpAny_For (f6 (hi pins s σ H _ I h) fun v s1 h1=>f6 h1 fun UE s2 h2=>?_) hs
 obtain⟨it,fp,tn,J,H2,e,I2,T,c7,f2,W,⟨m0,w0⟩,turn⟩:=h2
 subst e
 have stat:∀{H':Hp},(∀b∈fp,H' b=none)->∀b∈fp,pA X pins H' b:=fun hn b hb=>⟨hn b hb,(f2 b hb).2⟩
 refine codeAny_forLoop_any (fun n s'=>∃i σ' H',bw X pins σ' H' s'/\tn i s'.heap/\(∀b∈fp,H' b=none)/\W i n σ' H') ?_ m0 ⟨0,σ,H2,I2,c7,fun b hb=>(f2 b hb).1,w0⟩
 rintro n s3 ⟨i,σ3,H3,I3,jd,fr3,w3⟩
 rcases turn i n σ3 H3 w3 with⟨stop,qn⟩|⟨go,N,hN,step⟩
 ·refine fD hp (f6 (T.done X rfl rfl rfl hc i pins s3 σ3 H3 X.xe I3 (stat fr3) jd stop) fun r s4 ⟨hr,I4⟩=>?_)
  subst hr
  exact jk ⟨σ3,H3,I4,qn⟩
 ·refine fD hp (f6 (T.item X rfl rfl rfl hc i pins s3 σ3 H3 X.xe I3 (stat fr3) jd go) fun r s4 ⟨u,hr,h4⟩=>?_)
  subst hr
  refine fD hp (f6 h4 fun _ s5 ⟨x,H5,I5,r5,y5,st5,fr5⟩=>?_)
  have I5':=I5.pinned (stat fr5) (T.obj _ _ st5)
  refine fD hp (f6 (hg _ s5 σ3 H5 x u _ I5' r5 (step x H5 y5)) fun _ s6 ⟨σ6,H6,I6,q6⟩=>?_)
  refine fD hp (f6 (hb _ s6 σ6 H6 _ I6 q6) fun f s7 q7=>?_)
  have again:∀{σ7:St} {H7:Hp},bw X (pins++vt fp s5.heap) σ7 H7 s7->N σ7 H7->∃m,m<n/\∃i σ' H',bw X pins σ' H' s7/\tn i s7.heap/\(∀b∈fp,H' b=none)/\W i m σ' H':=fun{σ7 H7} I7 n7=>by
   obtain⟨m',hm,w7⟩:=hN σ7 H7 n7
   refine⟨m',hm,i+1,σ7,H7,I7.unpinned,T.keep _ _ _ st5 fun b hb o e=>(I7.pin (b,o) (aW _ (aW _ (iH hb e)))).1,fun b hb=>?_,w7⟩
   obtain⟨o,e,d⟩:=T.obj _ _ st5 b hb
   exact(I7.pin (b,o) (aW _ (aW _ (iH hb e)))).2.1
  cases f with
  |next=>obtain⟨σ7,H7,I7,n7⟩:=q7;exact again I7 n7
  |cont=>obtain⟨σ7,H7,I7,n7⟩:=q7;exact again I7 n7
  |brk=>obtain⟨σ7,H7,I7,q7⟩:=q7;exact⟨σ7,H7,I7.unpinned,q7⟩
  |ret v=>obtain⟨x7,σ7,H7,I7,r7,q7⟩:=q7;exact⟨x7,σ7,H7,I7.unpinned,r7,q7⟩
end
abbrev R2:=V->V->Hp->VK->Prop
def mL(X:Cx)(f:Value->Value->Sem Value)(r:R2):Prop:=
 ∀(pins:List (Addr×Obj)) (s:Shared) (σ:St) (H:Hp) (x y:V) (v u:Value) (Q:VK),bw X pins σ H s->bS x v->bS y u->r x y H Q ->
  wpAny (model X.prog X.w) X.A (f v u) (EP X pins σ Q) X.xe s
def TN(X:Cx)(f:Value->Sem Value)(r:V->Hp->VK->Prop):Prop:=
 ∀(pins:List (Addr×Obj)) (s:Shared) (σ:St) (H:Hp) (x:V) (v:Value) (Q:VK),bw X pins σ H s->bS x v->r x H Q ->
  wpAny (model X.prog X.w) X.A (f v) (EP X pins σ Q) X.xe s
def g_(X:Cx)(f:Value)(r:List V->Hp->VK->Prop):Prop:=
 ∀(pins:List (Addr×Obj)) (s:Shared) (σ:St) (H:Hp) (xs:List V) (us:List Value) (Q:VK),bw X pins σ H s->cp xs us->r xs H Q ->
  wpAny (model X.prog X.w) X.A (call f us) (EP X pins σ Q) X.xe s
def P6(r:R2)(ta tb:TE):TE:=fun σ H Q=>ta σ H fun x H1=>tb σ H1 fun y H2=>r x y H2 Q
def U1(r:V->Hp->VK->Prop)(ta:TE):TE:=fun σ H Q=>ta σ H fun x H1=>r x H1 Q
def rI(C:Int->Int->Prop)(g:Int->Int->V):R2:=fun x y H Q=>∃i j,x=.int i/\y=.int j/\C i j/\Q (g i j) H
def Hz(g:Int->Int->V):R2:=fun x y H Q=>∃i j,x=.int i/\y=.int j/\Q (g i j) H
def rU(g:Int->V):V->Hp->VK->Prop:=fun x H Q=>∃i,x=.int i/\Q (g i) H
section
variable{X:Cx}{a b:Expr}{ta tb tc:TE}
theorem Ms(ha:PE X a ta)(hb:PE X b tb){σ:St}{H:Hp}{R:V->V->Hp->Prop}(I:bw X pins σ H s)
  (h:ta σ H fun x H1=>tb σ H1 fun y H2=>R x y H2) {Q:Value->Shared->Prop} {f:Value->Value->Sem Value}
  (hf:∀v u s2 x y H2,bw X pins σ H2 s2->bS x v->bS y u->R x y H2->wpAny (model X.prog X.w) X.A (f v u) Q X.xe s2) :
  wpAny (model X.prog X.w) X.A (eval a X.env) (fun v s₁=>wpAny (model X.prog X.w) X.A (eval b X.env) (fun u s₂=>wpAny (model X.prog X.w) X.A (f v u) Q X.xe s₂) X.xe s₁) X.xe s:=by
 refine f6 (ha pins s σ H _ I h) fun v s1 ⟨x,H1,I1,r1,q1⟩=>?_
 refine f6 (hb pins s1 σ H1 _ I1 q1) fun u s2 ⟨y,H2,I2,r2,q2⟩=>?_
 exact hf v u s2 x y H2 I2 r1 r2 q2
theorem P7{op:Operator}{r:R2}(ho:mL X (binaryOp op) r)(ha:PE X a ta)(hb:PE X b tb):PE X (.BinOp a op b pos) (P6 r ta tb):=by
 intro pins s σ H Q I h
 exact wpAny_BinOp (Ms ha hb I h fun v u s2 x y H2 I2 rx ry q=>ho pins s2 σ H2 x y v u Q I2 rx ry q)
theorem P8{op:UnaryOp}{r:V->Hp->VK->Prop}(ho:TN X (unaryOp op) r)(ha:PE X a ta):PE X (.UnaryOp op a pos) (U1 r ta):=by
 intro pins s σ H Q I h
 exact UnaryOp_ (f6 (ha pins s σ H _ I h) fun v s1 ⟨x,H1,I1,r1,q1⟩=>ho pins s1 σ H1 x v Q I1 r1 q1)
theorem Pm{f:Value->Value->Sem Value}{C:Int->Int->Prop}{g:Int->Int->Int}
  (rule:∀(i j:Int) (t u:Tok) (s:Shared) (Q:Value->Shared->Prop) (E:Value->Shared->Prop),C i j->Q (.int (g i j) s.toks) { s with toks:=s.toks+1 }->wpAny (model X.prog X.w) X.A (f (.int i t) (.int j u)) Q E s) :
  mL X f (rI C fun i j=>.int (g i j)):=by
 intro pins s σ H x y v u Q I rx ry h
 obtain⟨i,j,rfl,rfl,hc,q⟩:=h
 obtain⟨t,rfl⟩:=rx
 obtain⟨t',rfl⟩:=ry
 exact rule i j t t' s _ _ hc ⟨.int (g i j),H,I.tok _,⟨_,rfl⟩,q⟩
theorem Mu{f:Value->Value->Sem Value}{g:Int->Int->Int}
  (rule:∀(i j:Int) (t u:Tok) (s:Shared) (Q:Value->Shared->Prop) (E:Value->Shared->Prop),Q (.int (g i j) s.toks) { s with toks:=s.toks+1 }->wpAny (model X.prog X.w) X.A (f (.int i t) (.int j u)) Q E s) :
  mL X f (Hz fun i j=>.int (g i j)):=by
 intro pins s σ H x y v u Q I rx ry h
 obtain⟨i,j,rfl,rfl,q⟩:=h
 obtain⟨t,rfl⟩:=rx
 obtain⟨t',rfl⟩:=ry
 exact rule i j t t' s _ _ ⟨.int (g i j),H,I.tok _,⟨_,rfl⟩,q⟩
theorem Mv{f:Value->Value->Sem Value}{g:Int->Int->Bool}
  (rule:∀(i j:Int) (t u:Tok) (s:Shared) (Q:Value->Shared->Prop) (E:Value->Shared->Prop),Q (.bool (g i j)) s->wpAny (model X.prog X.w) X.A (f (.int i t) (.int j u)) Q E s) :
  mL X f (Hz fun i j=>.bl (g i j)):=by
 intro pins s σ H x y v u Q I rx ry h
 obtain⟨i,j,rfl,rfl,q⟩:=h
 obtain⟨t,rfl⟩:=rx
 obtain⟨t',rfl⟩:=ry
 exact rule i j t t' s _ _ ⟨.bl (g i j),H,I,rfl,q⟩
def TQ(i j:Int):Prop:=0<j/\j<1073741824
def Mw(i j:Int):Prop:=0<=j/\j<=1000000/\i.natAbs<2^64
def Mx(i j:Int):Prop:=(-(2^64)<i/\i<2^64)\/(-(2^64)<j/\j<2^64)
theorem Mx.ok{i j:Int}(h:Mx i j):IntMulOk i j:=by
 rcases h with⟨h1,h2⟩|⟨h1,h2⟩
 ·exact .of_left (intBits_le_64 h1 h2)
 ·exact .of_right (intBits_le_64 h1 h2)
theorem za(k:Nat):(0:Int)<=2^k:=by
 rw[two_pow_cast]
 exact Int.natCast_nonneg _
theorem My:mL X (binaryOp .Add) (Hz fun i j=>.int (i+j)):=Mu fun _ _ _ _ _ _ _ q=>add_int q
theorem Mz:mL X (binaryOp .Sub) (Hz fun i j=>.int (i-j)):=Mu fun _ _ _ _ _ _ _ q=>sub_int q
theorem MA:mL X (binaryOp .Mult) (rI Mx fun i j=>.int (i*j)):=Pm fun _ _ _ _ _ _ _ hc q=>mul_int q hc.ok
theorem HX:mL X (binaryOp .FloorDiv) (rI TQ fun i j=>.int (i/j)):=Pm fun i j _ _ _ _ _ hc q=>by
 have h1:(0:Int)<j:=hc.1
 have h2:j<1073741824:=hc.2
 exact floordiv_int (by omega) (by rw[j5 i (by omega)];exact q) (.inl (mz (by omega)))
theorem MB:mL X (binaryOp .Mod) (rI (fun _ j=>0<j) fun i j=>.int (i%j)):=Pm fun i j _ _ _ _ _ hc q=>by
 have h1:(0:Int)<j:=hc
 exact mod_int' (by omega) (by rw[Int.fmod_eq_emod_of_nonneg i (by omega)];exact q)
theorem MC:mL X (binaryOp .Pow) (rI Mw fun i j=>.int (i^j.toNat)):=Pm fun _ _ _ _ _ _ _ hc q=>pow_int_small hc.1 hc.2.1 hc.2.2 q
theorem DM:mL X (binaryOp .LShift) (rI Mw fun i j=>.int (i*2^j.toNat)):=Pm fun _ _ _ _ _ _ _ hc q=>lshift_int_small hc.1 hc.2.1 hc.2.2 q
theorem MD:mL X (binaryOp .RShift) (rI (fun _ j=>0<=j) fun i j=>.int (i/2^j.toNat)):=Pm fun i j _ _ _ _ _ hc q=>
 rshift_int hc (by rw[j5 i (za _)];exact q)
theorem ME:mL X (binaryOp .BitAnd) (Hz fun i j=>.int (Builtin.bitAnd i j)):=Mu fun _ _ _ _ _ _ _ q=>and_int q
theorem U2{f:Value->Sem Value}{g:Int->Int}
  (rule:∀(i:Int) (t:Tok) (s:Shared) (Q:Value->Shared->Prop) (E:Value->Shared->Prop),Q (.int (g i) s.toks) { s with toks:=s.toks+1 }->wpAny (model X.prog X.w) X.A (f (.int i t)) Q E s) :
  TN X f (rU fun i=>.int (g i)):=by
 intro pins s σ H x v Q I rx h
 obtain⟨i,rfl,q⟩:=h
 obtain⟨t,rfl⟩:=rx
 exact rule i t s _ _ ⟨.int (g i),H,I.tok _,⟨_,rfl⟩,q⟩
theorem MF:TN X (unaryOp .USub) (rU fun i=>.int (-i)):=U2 fun _ _ _ _ _ q=>neg_int q
end
section
variable{X:Cx}{a b:Expr}{ta tb tc:TE}
theorem DN{σ:St}{H:Hp}{Q:VK}{k k':Bool}(I:bw X pins σ H s)(q:Q (.bl k) H)(e:k=k'):EP X pins σ Q (.bool k') s:=by
 subst e
 exact⟨.bl k,H,I,rfl,q⟩
theorem P9:mL X (compareOp .Lt) (Hz fun i j=>.bl (decide (i<j))):=Mv fun _ _ _ _ _ _ _ q=>lt_int q
theorem P_:mL X (compareOp .Gt) (Hz fun i j=>.bl (decide (j<i))):=Mv fun _ _ _ _ _ _ _ q=>gt_int q
theorem P':mL X (compareOp .GtE) (Hz fun i j=>.bl (decide (j<=i))):=Mv fun _ _ _ _ _ _ _ q=>ge_int q
theorem Cf:mL X (compareOp .In) (fun x y H Q=>∃i j,x=.str i/\y=.str j/\Q (.bl (!(Builtin.Str.occurrences j i 0 j.length 1).isEmpty)) H):=by
 intro pins s σ H x y v u Q I rx ry h
 obtain⟨i,j,rfl,rfl,q⟩:=h
 obtain⟨t,rfl⟩:=rx
 obtain⟨t',rfl⟩:=ry
 exact in_str (DN I q rfl)
theorem vx:mL X (compareOp .NotIn) (fun x y H Q=>∃i j,x=.str i/\y=.str j/\Q (.bl (!(!(Builtin.Str.occurrences j i 0 j.length 1).isEmpty))) H):=by
 intro pins s σ H x y v u Q I rx ry h
 obtain⟨i,j,rfl,rfl,q⟩:=h
 obtain⟨t,rfl⟩:=rx
 obtain⟨t',rfl⟩:=ry
 exact notIn_str (DN I q rfl)
theorem DO(b:Expr)(h:op≠.In:=by decide)(h2:op≠.NotIn:=by decide):behindInMarks op b=false:=by
 have e1:(op==CmpOp.In)=false:=by cases op<;>first|rfl|exact absurd rfl h
 have e2:(op==CmpOp.NotIn)=false:=by cases op<;>first|rfl|exact absurd rfl h2
 cases b<;>simp[behindInMarks,e1,e2]
theorem HY{r:R2}(ho:mL X (compareOp op) r)(ha:PE X a ta)(hb:PE X b tb)(hm:behindInMarks op b=false):PE X (.Compare a [op] [b] pos) (P6 r ta tb):=by
 intro pins s σ H Q I h
 exact wpAny_Compare1 (Ms ha hb I h fun v u s2 x y H2 I2 rx ry q=>ho pins s2 σ H2 x y v u Q I2 rx ry q) hm
def Qa(t:TE):TT:=fun σ H Q=>t σ H fun x H'=>∃k,x=.bl k/\Q k H'
theorem HZ{r:R2}(ho:mL X (compareOp op) r)(ha:PE X a ta)(hb:PE X b tb)(hm:behindInMarks op b=false):PT X (.Compare a [op] [b] pos) (Qa (P6 r ta tb)):=by
 intro pins s σ H Q I h
 refine m9 (f6 (ha pins s σ H _ I h) fun v s1 ⟨x,H1,I1,r1,q1⟩=>f6 (hb pins s1 σ H1 _ I1 q1) fun u s2 ⟨y,H2,I2,r2,q2⟩=>
  f6 (ho pins s2 σ H2 x y v u _ I2 r1 r2 q2) fun c s3 ⟨z,H3,I3,r3,k,e,q3⟩=>?_) hm
 subst e
 cases r3
 exact eJ ⟨H3,I3,q3⟩
theorem qt:(sizeLine:Nat)<2^63:=by rw[kR];decide
theorem zb:mL X (binaryOp .Add) (fun x y H Q=>∃i j,x=.str i/\y=.str j/\i.length+j.length<=sizeLine/\Q (.str (i++j)) H):=by
 intro pins s σ H x y v u Q I rx ry h
 obtain⟨i,j,rfl,rfl,hz,q⟩:=h
 obtain⟨t,rfl⟩:=rx
 obtain⟨t',rfl⟩:=ry
 exact add_str (fun t' tk=>⟨.str (i++j),H,I.tok _,⟨_,rfl⟩,q⟩) hz
theorem kI{x:V}(r:cp [x] us):∃u,us=[u]/\bS x u:=by
 cases r with
 |cons r1 r2=>cases r2;exact⟨_,rfl,r1⟩
theorem Ke{x y:V}(r:cp [x,y] us):∃u w',us=[u,w']/\bS x u/\bS y w':=by
 cases r with
 |cons r1 r2=>
  cases r2 with
  |cons r3 r4=>cases r4;exact⟨_,_,rfl,r1,r3⟩
theorem Cg(hc:X.calm=true):g_ X (.builtin "max") (fun xs H Q=>∃i j,xs=[.int i,.int j]/\Q (.int (if j>i then j else i)) H):=by
 intro pins s σ H xs us Q I r h
 obtain⟨i,j,rfl,q⟩:=h
 obtain⟨u,w',rfl,⟨t,rfl⟩,⟨t',rfl⟩⟩:=Ke r
 refine max_two_ints (I.ok.hd hc) fun h' tk k=>⟨_,H,I.kept k,?_,q⟩
 by_cases hj:j>i
 ·rw[ay hj,ay hj];exact⟨_,rfl⟩
 ·rw[aC hj,aC hj];exact⟨_,rfl⟩
theorem Ch(hc:X.calm=true):g_ X (.builtin "min") (fun xs H Q=>∃i j,xs=[.int i,.int j]/\Q (.int (if j<i then j else i)) H):=by
 intro pins s σ H xs us Q I r h
 obtain⟨i,j,rfl,q⟩:=h
 obtain⟨u,w',rfl,⟨t,rfl⟩,⟨t',rfl⟩⟩:=Ke r
 refine min_two_ints (I.ok.hd hc) fun h' tk k=>⟨_,H,I.kept k,?_,q⟩
 by_cases hj:j<i
 ·rw[ay hj,ay hj];exact⟨_,rfl⟩
 ·rw[aC hj,aC hj];exact⟨_,rfl⟩
theorem uD:g_ X (.type "int") (fun xs H Q=>(∃i,xs=[.int i]/\Q (.int i) H)\/∃k,xs=[.bl k]/\Q (.int (if k then 1 else 0)) H):=by
 intro pins s σ H xs us Q I r h
 rcases h with⟨i,rfl,q⟩|⟨k,rfl,q⟩
 ·obtain⟨u,rfl,t,rfl⟩:=kI r
  exact call_int_int ⟨.int i,H,I,⟨_,rfl⟩,q⟩
 ·obtain⟨u,rfl,r1⟩:=kI r
  cases r1
  exact call_int_bool ⟨.int (if k then 1 else 0),H,I.tok _,⟨_,rfl⟩,q⟩
end
structure MG(h:Heap)(x dx C:Addr)(mA:Str->Option Value):Prop where
 obj:h.get? x=some (PySem.W.instObj C dx)
 ns:h.Ns1 dx mA
 ne:dx≠x
theorem Ci{dx:Addr}(n:h.Ns1 dx mA):∃od,h.get? dx=some od/\∀name,PySem.W.lookIn name od=some (mA name):=by
 obtain⟨o,es,ep,ho,hd,hk,_,hm⟩:=n
 refine⟨o,ho,fun name=>?_⟩
 have e:=hm name
 unfold nsFind findBy at e
 rw[<- Array.find?_toList]at e
 unfold PySem.W.lookIn
 rw[hd]
 dsimp only
 split
 ·rename_i y q
  rw[q]at e
  exact dJ some e
 ·rename_i q
  rw[q]at e
  have a:es.toList.any (·.refKey)=false:=by
   rw[fH]
   intro y hy
   obtain⟨z,t,rB⟩:=hk y (Array.mem_toList_iff.mp hy)
   simp[DictEntry.refKey,rB]
  have a':¬ es.toList.any (·.refKey)=true:=by rw[a];exact bT
  rw[aC a']
  exact dJ some e
theorem MG.look{x dx C:Addr}(I:MG h x dx C mA):∃od,PySem.W.InstAt h x (PySem.W.instObj C dx) C (some od)/\∀name,PySem.W.lookIn name od=some (mA name):=
 let ⟨od,ho,hl⟩:=Ci I.ns
 ⟨od,⟨I.obj,rfl,rfl,ho⟩,hl⟩
section
variable{w:World}{x dx C:Addr}{v:Value}
end
theorem pz.some_of{v:V}{o:Option Value}(r:pz (some v) o):∃u,o=some u/\bS v u:=by
 cases o with
 |none=>exact(show False from r).elim
 |some u=>exact⟨u,rfl,r⟩
section
variable{w:World}{H H':Hp}{C dx:Addr}{fs Vj:List (Str×V)}
theorem H9(hok:kw P w H h)(e:H a=some (.ins C dx fs)):∃mA,MG h a dx C mA/\(∀f,pz (fs.lookup f) (mA f))/\PySem.Within mA (fs.map (·.1))/\fs.length<=1000/\H dx=some (.own a):=by
 obtain⟨d,z,ne,ob,mA,n,r,q⟩:=(show eO P w H h a (.ins C dx fs)from hok a _ e)
 exact⟨mA,⟨ob,n,ne⟩,r,q,z,d⟩
end
structure TR(K:Frag)(C:Addr):Prop where
 pg:PySem.W.plainGet K C Str.empty=true
 hd:PySem.W.hasDictIn K C=true
 po:PySem.W.plainOver K C=true
 sa:PySem.W.findIn K (.ref C) "__setattr__"=some (some (.builtin "object.__setattr__"))
theorem TR.get{C:Addr}(c:TR K C)(f:Str):PySem.W.plainGet K C f=true:=c.pg
section
variable{X:Cx}{σ:St}{H:Hp}{C dx:Addr}{fs:List (Str×V)}{f:Str}{v:V}
end
section
variable{X:Cx}{o value:Expr}{f:Str}{Uv:Pos}{ta tv:TE}
end
section
variable{X:Cx}{σ:St}{H:Hp}{c:Value}{b:Bool}
inductive qZ(K:Frag)(H:Hp):V->Value->Prop where
 |non:qZ K H .non (.type "NoneType")
 |bl (x:Bool):qZ K H (.bl x) (.type "bool")
 |int (i:Int):qZ K H (.int i) (.type "int")
 |str (x:Str):qZ K H (.str x) (.type "str")
 |flt (x:UInt64):qZ K H (.flt x) (.type "float")
 |lst {a:Addr} {xs:List V} (e:H a=some (.lst xs)):qZ K H (.ref a) (.type "list")
 |frz {a:Addr} {o:Obj} {xs:List V} (e:H a=some (.frz o (.lst xs))):qZ K H (.ref a) (.type "list")
 |tup {a:Addr} {xs:List V} (e:H a=some (.tup xs)):qZ K H (.ref a) (.type "tuple")
 |dK {a:Addr} {kvs:List (fZ×V)} (e:H a=some (.dK kvs)):qZ K H (.ref a) (.type "dict")
 |dT {a:Addr} {kvs:List (List fZ×V)} (e:H a=some (.dT kvs)):qZ K H (.ref a) (.type "dict")
 |ins {a C dx:Addr} {fs:List (Str×V)} (e:H a=some (.ins C dx fs)) (cl:TR K C) (ha:PySem.W.findIn K (.ref C) "__class__"=some (some (.builtin "object.__class__")))
   (hn:PySem.W.specialIn K (.builtin "object.__class__") "__get__"=some (some (.builtin "getset_descriptor.__get__"))) (BZ:PySem.W.takesIn K (.builtin "object.__class__")=some true)
   (hm:PySem.W.mroIn K C (.type "object")=some true):qZ K H (.ref a) (.ref C)
theorem nK{x:V}{t:Value}(I:bw X pins σ H s)(rx:bS x u)(ty:qZ X.K H x t)(e:PySem.W.kitOne X.K t c=some b)(h:∀tk,Q (.bool b) { s with toks:=tk }) :
  wpAny (model X.prog X.w) A (call (.builtin "isinstance") [u,c]) Q E s:=by
 cases ty with
 |non=>cases(show u=Value.none from rx);exact kia_one PySem.W.kitx_none I.kIn True.intro e (fun z=>nomatch z) h
 |bl y=>cases(show u=Value.bool y from rx);exact kia_one PySem.W.kitx_bool I.kIn True.intro e (fun z=>nomatch z) h
 |int i=>obtain⟨t,q⟩:=(show ∃t,u=Value.int i t from rx);cases q;exact kia_one PySem.W.kitx_int I.kIn True.intro e (fun z=>nomatch z) h
 |str y=>obtain⟨t,q⟩:=(show ∃t,u=Value.str y t from rx);cases q;exact kia_one PySem.W.kitx_str I.kIn True.intro e (fun z=>nomatch z) h
 |flt y=>obtain⟨t,q⟩:=(show ∃t,u=Value.float y t from rx);cases q;exact kia_one PySem.W.kitx_float I.kIn True.intro e (fun z=>nomatch z) h
 |@lst a xs ea=>
  cases(show u=Value.ref a from rx)
  obtain⟨_,_,n,_,h1⟩:=(show eO X.prog X.w H s.heap a (.lst xs)from I.hok a _ ea)
  exact kia_one PySem.W.kitx_list I.kIn ⟨_,h1,rfl⟩ e (fun z=>nomatch z) h
 |@frz a ob xs ea=>
  cases(show u=Value.ref a from rx)
  obtain⟨_,_,_,n,_,h1⟩:=(show eO X.prog X.w H s.heap a (.frz ob (.lst xs))from I.hok a _ ea)
  exact kia_one PySem.W.kitx_list I.kIn ⟨_,h1,rfl⟩ e (fun z=>nomatch z) h
 |@tup a xs ea=>
  cases(show u=Value.ref a from rx)
  obtain⟨_,_,_,p⟩:=(show eO X.prog X.w H s.heap a (.tup xs)from I.hok a _ ea)
  obtain⟨o,h1,h2,_⟩:=p
  exact kia_one PySem.W.kitx_tuple I.kIn ⟨o,h1,h2⟩ e (fun z=>nomatch z) h
 |@dK a kvs ea=>
  cases(show u=Value.ref a from rx)
  obtain⟨_,_,vs,_,p⟩:=(show eO X.prog X.w H s.heap a (.dK kvs)from I.hok a _ ea)
  obtain⟨o,es,ep,h1,h2,_⟩:=p
  exact kia_one PySem.W.kitx_dict I.kIn ⟨o,h1,h2.1⟩ e (fun z=>nomatch z) h
 |@dT a kvs ea=>
  cases(show u=Value.ref a from rx)
  obtain⟨_,_,xs,_,o,es,ep,h1,h2,_⟩:=(show eO X.prog X.w H s.heap a (.dT kvs)from I.hok a _ ea)
  exact kia_one PySem.W.kitx_dict I.kIn ⟨o,h1,h2.1⟩ e (fun z=>nomatch z) h
 |@ins a C dx fs ea cl ha hn BZ hm=>
  cases(show u=Value.ref a from rx)
  obtain⟨mA,O,_⟩:=H9 I.hok ea
  obtain⟨od,J,_⟩:=O.look
  exact kia_one (PySem.W.kitx_own (cl.get _) cl.hd ha hn BZ hm) I.kIn J e (fun z=>nomatch z) h
end
structure gD(k:Nat)(A:Around):Prop where
 hd:A.handled=none
 dp:A.depth+2*k+5<recursionLimit
 un:A.units+16*k+200<cLine
theorem gD.mono{k:Nat}(r:gD k A)(h:j<=k):gD j A:=⟨r.hd,by have:=r.dp;omega,by have:=r.un;omega⟩
theorem gD.deeper{k:Nat}(r:gD (k+1) A)(env:Env):gD k (A.deeper env):=
 ⟨r.hd,by have:=r.dp;show A.depth+1+2*k+5<_;omega,by have:=r.un;show A.units+3+16*k+200<_;omega⟩
theorem gD.depth{k:Nat}(r:gD k A):A.depth<recursionLimit:=by have:=r.dp;omega
theorem gD.units{k:Nat}(r:gD k A):A.units+64<cLine:=by have:=r.un;omega
def TU:TA:=fun _ H Q=>Q [] H
def Qb(ta:TE)(tr:TA):TA:=fun σ H Q=>ta σ H fun x H1=>tr σ H1 fun xs H2=>Q (x::xs) H2
section
variable{X:Cx}{te:TE}{t:TA}
theorem zc:PA X [] TU:=fun _ _ _ _ H Q I h=>gw ⟨[],H,I,.nil,h⟩
theorem rD(ha:PE X e te)(hr:PA X es t)(hs:starEach (e::es) X.env=(false,eval e X.env)::starEach es X.env:=by rfl):PA X (e::es) (Qb te t):=by
 intro pos pins s σ H Q I h
 rw[hs]
 show wpAny _ _ (spliced ((false,eval e X.env)::backTo pos (starEach es X.env))) _ _ s
 refine fg (f6 (ha pins s σ H _ I h) fun u s1 ⟨x,H1,I1,r1,q1⟩=>?_)
 exact f6 (hr pos pins s1 σ H1 _ I1 q1) fun us s2 ⟨xs,H2,I2,r2,q2⟩=>⟨x::xs,H2,I2,.cons r1 r2,q2⟩
end
abbrev Sp:=List V->Hp->VK->XK->Prop
abbrev Dv:=List Env->Hp->Shared->XK->Value->Shared->Prop
structure xa(P:Program)(w:World)(K:Frag)(mg:Str->Option Value)(base:Heap)(A:Around)(outer:List Env)(s:Shared)(H:Hp):Prop where
 frames:A.frames=some outer
 mod:Mod K mg base
 bs:∀b o,base.get? b=some o->s.heap.get? b=some o/\H b=none
 bsz:base.objs.size<=s.heap.objs.size
 funs:s.heap.FunFrames base outer
 frf:∀b∈tZ outer,H b=none
 hok:kw P w H s.heap
 bare:AllBare s.gens
def CE(outer:List Env)(P:Program)(w:World)(H:Hp)(s:Shared)(Q:VK)(u:Value)(s':Shared):Prop:=
 ∃v H',s'.os=s.os/\AllBare s'.gens/\Un (tZ outer) [] H H' s.heap s'.heap/\kw P w H' s'.heap/\bS v u/\Q v H'
def CR(CX:Dv)(outer:List Env)(P:Program)(w:World)(H:Hp)(s:Shared)(Q:VK)(E:XK)(r:Result)(s':Shared):Prop:=
 match r with
 |.ok (.ret u)=>CE outer P w H s Q u s'
 |.ok _=>False
 |.error e=>CX outer H s E e s'
structure eQ(P:Program)(w:World)(K:Frag)(mg:Str->Option Value)(base:Heap)(CX:Dv)(k:Nat)(f:Addr)(fd:FuncData)(ps:List Str)(sp:Sp):Prop where
 len:∀vs H Q E,sp vs H Q E->vs.length=ps.length
 run:∀(A:Around) (outer:List Env) (s:Shared) (H:Hp) (args:Args) (us:List Value) (vs:List V) (Q:VK) (E:XK),gD k A->xa P w K mg base A outer s H->BindsTo s fd args (ps.zip us)->cp vs us->sp vs H Q E ->
  codeAny (model P w) A (.call (.ref f) args) (CR CX outer P w H s Q E) s
theorem eQ.mono{w:World}{CX:Dv}{k:Nat}{sp:Sp}(F:eQ P w K mg base CX j f fd ps sp)(h:j<=k) :
  eQ P w K mg base CX k f fd ps sp:=⟨F.len,fun A outer s H args us vs Q E hr=>F.run A outer s H args us vs Q E (hr.mono h)⟩
section
variable{X:Cx}{σ:St}{H:Hp}{s':Shared}
theorem bw.env0(I:bw X pins σ H s):xa X.prog X.w X.K X.mg X.base X.A X.stack s H:=
 ⟨I.ok.frames,I.ok.mod,I.bs,bu I.ok.bsz I.sz,I.stack,I.stkFree,I.hok,I.bare⟩
theorem bw.after{Q:VK}(I:bw X pins σ H s)(h:CE X.stack X.prog X.w H s Q u s'):EP X pins σ Q u s':=by
 obtain⟨v,H',os,bare,un,hok,r,q⟩:=h
 obtain⟨hh,g,d,t,os'⟩:=s'
 obtain rfl:os'=s.os:=os
 exact⟨v,H',I.call (h':=hh) (g':=g) (d':=d) (t':=t) (ch:=[]) un hok bare (fun b z=>absurd z (by simp)),r,q⟩
end
def xc(K:Frag)(fd:FuncData)(ps:List Str)(ds:List Value):Prop:=
 ∀(s:Shared) (us:List Value),K.In s.heap->(us++ds).length=ps.length->BindsTo s fd ⟨us,[]⟩ (ps.zip (us++ds))
theorem xc.all(h:∀us:List Value,us.length=ps.length->bindArgs fd ⟨us,[]⟩=pure (ps.zip us)):xc K fd ps []:=fun s us _ hl=>by
 rw[bU]at hl ⊢
 exact .of_eq (h us hl)
section
variable{X:Cx}{CX:Dv}{k:Nat}{C:Addr}{sp:Sp}{Vt:List V}{ds:List Value}{E:XK}{m:Str}{o:Expr}{ta:TE}{t:TA}
end
def PK(X:Cx)(UZ:List Keyword)(t:TA):Prop:=
 ∀(pos:Pos) (pins:List (Addr×Obj)) (s:Shared) (σ:St) (H:Hp) (Q:List V->Hp->Prop),bw X pins σ H s->t σ H Q->wpAny (model X.prog X.w) X.A (evalAll ((backToKw pos (keywordEach UZ X.env)).map (·.2))) (AP X pins σ Q) X.xe s
section
variable{X:Cx}{CX:Dv}{k:Nat}{C:Addr}{ks:List Str}{sp:Sp}{E:XK}{m:Str}{SD:Pos}{o:Expr}{UZ:List Keyword}{te ta:TE}{t tk:TA}{nm:Option Str}
variable{g:List Value->List Value->List Value}{gV:List V->List V->List V}
end
structure bK(N P:List Str)(sc:Scope):Prop where
 kind:sc.kind=.function
 co:sc.isCoroutine=false
 gen:sc.isGenerator=false
 nd:N.Nodup
 pre:N.take P.length=P
 par:∀x∈P,sc.names.lookup x=some .local\/sc.names.lookup x=some .cell
 nofree:∀y∈sc.names,y.2≠.free
theorem uE:∀{binds:List (Str×Value)} {m:Str->Option Value},(∀v,(x,v)∉binds)->bindL kindOf binds m x=m x
 |[],_,_=>rfl
 |(n,v)::r,m,h=>by
  unfold bindL
  rw[uE fun w hw=>h w (aA _ hw)]
  split
  ·have:x≠n:=by rintro rfl;exact h v aQ
   simp[this]
  ·rfl
theorem uF:∀{binds:List (Str×Value)} {m:Str->Option Value},(∀v,(x,v)∉binds)->bindC kindOf binds m x=m x
 |[],_,_=>rfl
 |(n,v)::r,m,h=>by
  unfold bindC
  rw[uF fun w hw=>h w (aA _ hw)]
  split
  ·rfl
  ·have:x≠n:=by rintro rfl;exact h v aQ
   simp[this]
theorem uG{v:Value}:∀{P:List Str} {vs:List Value} {i:Nat} {m:Str->Option Value},P.Nodup->P[i]?=some x->vs[i]?=some v->kindOf x=some .local ->
  bindL kindOf (P.zip vs) m x=some v
 |[],_,_,_,_,h,_,_=>by simp at h
 |_::_,[],_,_,_,_,h,_=>by simp at h
 |p::P,w::vs,0,m,nd,h1,h2,hk=>by
  simp at h1 h2;subst h1;subst h2
  show bindL kindOf ((p,w)::P.zip vs) m p=_
  unfold bindL
  rw[uE fun v hv=>(bF.mp nd).1 (jl hv).1,ay hk]
  simp
 |p::P,w::vs,i+1,m,nd,h1,h2,hk=>by
  show bindL kindOf ((p,w)::P.zip vs) m x=_
  unfold bindL
  exact uG (i:=i) (bF.mp nd).2 (by simpa using h1) (by simpa using h2) hk
theorem uH{v:Value}:∀{P:List Str} {vs:List Value} {i:Nat} {m:Str->Option Value},P.Nodup->P[i]?=some x->vs[i]?=some v->kindOf x≠some .local ->
  bindC kindOf (P.zip vs) m x=some v
 |[],_,_,_,_,h,_,_=>by simp at h
 |_::_,[],_,_,_,_,h,_=>by simp at h
 |p::P,w::vs,0,m,nd,h1,h2,hk=>by
  simp at h1 h2;subst h1;subst h2
  show bindC kindOf ((p,w)::P.zip vs) m p=_
  unfold bindC
  rw[uF fun v hv=>(bF.mp nd).1 (jl hv).1,aC hk]
  simp
 |p::P,w::vs,i+1,m,nd,h1,h2,hk=>by
  show bindC kindOf ((p,w)::P.zip vs) m x=_
  unfold bindC
  exact uH (i:=i) (bF.mp nd).2 (by simpa using h1) (by simpa using h2) hk
def jr(N:List Str)(vs:List V):St:=vs.map some++List.replicate (N.length-vs.length) none
def zd(CX:Dv)(P:Program)(w:World)(K:Frag)(mg:Str->Option Value)(base:Heap)(N:List Str)(qual:Str)(scope:Scope)(f:Addr)(cd:Value)(A:Around)(outer:List Env)(s:Shared)(H:Hp)(E:XK):Cx where
 prog:=P
 w:=w
 K:=K
 mg:=mg
 base:=base
 A:=A.deeper (envOfC qual scope s.heap.objs.size f cd)
 N:=N
 s₀:=s
 H₀:=H
 env:=envOfC qual scope s.heap.objs.size f cd
 outer:=outer
 stack:=envOfC qual scope s.heap.objs.size f cd::outer
 ex:=[]
 calm:=true
 fn:=fun _=>true
 pn:=[]
 xe:=fun e s'=>wpAny (model P w) (A.deeper (envOfC qual scope s.heap.objs.size f cd)) (leaving (envOfC qual scope s.heap.objs.size f cd) e) (fun _ s''=>CX outer H s E e s'') (fun e' s''=>CX outer H s E e' s'') s'
theorem jJ{n:Nat}(h:sc.names.lookup x=some .cell):∃c,(cellsFrom n sc.names []).lookup x=some c:=by
 have q:=PySem.W.cellsFrom_some sc.names n [] (.inl h)
 exact Option.isSome_iff_exists.mp q
theorem Cj{CX:Dv}{w:World}{N:List Str}{cd:Value}{outer:List Env}{s1:Shared}{H:Hp}{E:XK}{vs:List V}
  (S:bK N ps scope) (hd:A.handled=none) (e0:xa P w K mg base A outer s H) (hl:vs.length=ps.length) (r:cp vs us)
  (x:InCallC s s.heap.objs.size (bindL (envOfC qual scope s.heap.objs.size f cd).kindOf (ps.zip us) fun _=>none) (cellsFrom (s.heap.objs.size+1) scope.names []) (bindC (envOfC qual scope s.heap.objs.size f cd).kindOf (ps.zip us) fun _=>none) s1) :
  bw (zd CX P w K mg base N qual scope f cd A outer s H E) [] (jr N vs) H s1:=by
 have qh:ps.length<=N.length:=by have:=dJ List.length S.pre;rw[a8]at this;omega
 obtain⟨h1,tk,rfl,hk⟩:=x.done
 have noA:∀b:Addr,b∉(zd CX P w K mg base N qual scope f cd A outer s H E).ex:=fun b z=>absurd (show b∈([]:List Addr)from z) (by simp)
 refine⟨⟨e0.mod,S.kind,rfl,rfl,aw _,fun y z c h1 h2=>?_,fun y hy=>?_,fun y c _ h=>?_,fun _=>hd,Around.frames_deeper e0.frames,.inr ⟨rfl,rfl⟩,fun b z=>absurd z (noA b),e0.bs,e0.bsz,fun b _ _=>noA b,fun b z=>absurd z (noA b),e0.funs,e0.frf⟩,
  rfl,e0.bare,Un.kept hk,⟨_,x.toInCall.ns,fun i y v h1 h2 h3=>?_⟩,fun y c h=>⟨_,x.cell y c h⟩,e0.hok.fresh (aw _),fun y c h=>?_,fun p hp=>absurd (show p∈([]:List (Addr×Obj))from hp) (by simp),e0.hok.kept hk,?_⟩
 ·exact name_of_addr x.apart (PySem.mem_of_lookup h1) (PySem.mem_of_lookup h2)
 ·have hy:scope.names.lookup y=some .cell\/scope.names.lookup y=some .free:=hy
  rcases hy with hy|hy
  ·exact jJ hy
  ·exact absurd rfl (S.nofree _ (PySem.mem_of_lookup hy))
 ·exact d_ (x.above y c (PySem.mem_of_lookup h))
 ·have hi:i<vs.length:=by
   unfold jr at h2
   by_cases hi:i<vs.length
   ·exact hi
   ·rw[bX (by simpa using hi)]at h2
    rw[hW]at h2
    split at h2<;>cases h2
  have ha:vs[i]?=some v:=by
   unfold jr at h2
   rw[au (by simpa using hi),ak]at h2
   cases e:vs[i]? with
   |none=>rw[e]at h2;cases h2
   |some a=>rw[e]at h2;cases h2;rfl
  obtain⟨u,hu,rv⟩:=r.get ha
  have hp:ps[i]?=some y:=by
   rw[<- S.pre,cG (by omega)];exact h1
  have ndP:ps.Nodup:=by rw[<- S.pre];exact S.nd.sublist (gy _ _)
  refine⟨u,rv,?_⟩
  rcases S.par y (am hp)with k|k
  ·exact .inl ⟨k,uG ndP hp hu k⟩
  ·obtain⟨c,e⟩:=jJ (n:=s.heap.objs.size+1) k
   refine .inr ⟨.inl k,c,e,?_⟩
   have q:=x.cell y c e
   rw[uH ndP hp hu (by show scope.names.lookup y≠_;rw[k];decide)]at q
   exact q
 ·exact e0.hok.fresh (d_ (x.above y c (PySem.mem_of_lookup h)))
 ·unfold jr
  show _=N.length
  rw[aF,ai,m_]
  omega
theorem Qc{CX:Dv}{w:World}{k:Nat}{params:Arguments}{dV kV iM pm ga ct oc:Value}{an od:Option Addr}
  {LW:Array (Option Value)} {N ps:List Str} {sp:Sp} (lk:K.lookup f=some ⟨oc,od,.func (fnOf name qual params body scope dV kV iM pm an ga ct),LW⟩) (lD:codeIn K ga qual=true) (S:bK N ps scope)
  (len:∀vs H Q E,sp vs H Q E->vs.length=ps.length)
  (tS:∀(A:Around) (outer:List Env) (s:Shared) (H:Hp) (vs:List V) (Q:VK) (E:XK),gD k (A.deeper (envOfC qual scope s.heap.objs.size f ga))->sp vs H Q E ->
   ∃t,B9 (zd CX P w K mg base N qual scope f ga A outer s H E) body t/\t { nx:=fun _ H'=>Q .non H',rt:=Q } (jr N vs) H) :
  eQ P w K mg base CX (k+1) f (fnOf name qual params body scope dV kV iM pm an ga ct) ps sp:=by
 refine⟨len,fun A outer s H args us vs Q E hr e0 hb r LM=>?_⟩
 have hl:=len _ _ _ _ LM
 have KX:K.In s.heap:=e0.mod.kin.keeps fun b o e=>(e0.bs b o e).1
 have lim:s.heap.NoLimit:=e0.mod.nolimit.keeps fun b o e=>(e0.bs b o e).1
 have f':∀y∈ps.zip us,scope.names.lookup y.1=some .local\/(scope.names.lookup y.1=some .cell/\((cellsFrom (s.heap.objs.size+1) scope.names []).lookup y.1).isSome=true):=fun⟨n,v⟩ hy=>by
  rcases S.par n (jl hy).1 with q|q
  ·exact .inl q
  ·exact .inr ⟨q,PySem.W.cellsFrom_some _ _ _ (.inl q)⟩
 refine codeAny_call_function hr.depth (KX _ _ lk) rfl S.co S.gen rfl (PySem.W.codeRec_of KX lD) (hb _ _ _ _ ?_)
 refine wpAny_newFunctionEnv_cells S.kind f' fun env he s1 x=>?_
 subst he
 refine⟨lim.keeps x.toInCall.keep,codeAny_func ?_⟩
 obtain⟨t,ht,hq⟩:=tS A outer s H vs Q E (hr.deeper _) LM
 have I:bw (zd CX P w K mg base N qual scope f ga A outer s H E) [] (jr N vs) H s1:=Cj S hr.hd e0 hl r x
 refine dZ (ht [] s1 (jr N vs) H _ I hq) (fun fl s' hs=>?_) fun e s' hs=>hs
 have fin:∀{σ':St} {H':Hp} {v:V} {u:Value},bw (zd CX P w K mg base N qual scope f ga A outer s H E) [] σ' H' s'->bS v u->Q v H'->CE outer P w H s Q u s':=
  fun{σ' H' v u} J rv q=>⟨v,H',J.os,J.bare,J.base,J.hok,rv,q⟩
 cases fl with
 |ret u=>
  obtain⟨v,σ',H',J,rv,q⟩:=hs
  exact fin J rv q
 |next=>
  obtain⟨σ',H',J,q⟩:=hs
  exact fin (v:=V.non) (u:=Value.none) J rfl q
 |brk=>
  obtain⟨_,_,_,q⟩:=hs
  exact False.elim q
 |cont=>
  obtain⟨_,_,_,q⟩:=hs
  exact False.elim q
section
variable{X:Cx}{t:TA}{T:String}{r:List V->Hp->VK->Prop}
def TV(r:List V->Hp->VK->Prop)(t:TA):TE:=fun σ H Q=>t σ H fun vs H1=>r vs H1 Q
theorem xf(hc:g_ X (.builtin id) r)(hg:Gl X x)(hm:X.mg x=none)(hv:bootBuiltins x=some (.builtin id))(ha:PA X (e::es) t)(hn:x ≠ "__name__":=by decide)(yR:(x==("__debug__":Str))=false:=by decide)
  (he:starEach (e::es) X.env=(false,eval e X.env)::starEach es X.env:=by rfl) (qh:(backTo pos (starEach es X.env)).any (·.1)=false:=by rfl):PE X (.Call (.Name x p) (e::es) [] pos) (TV r t):=by
 intro pins s σ H Q I h
 refine du (kZ I hg hm hv ?_ hn yR)
 exact iP (f6 (ha pos pins s σ H _ I h) fun us s1 ⟨vs,H1,I1,r1,q1⟩=>hc pins s1 σ H1 vs us Q I1 r1 q1) he qh
theorem Ck(hc:g_ X (.type T) r)(hg:Gl X x)(hm:X.mg x=none)(hv:bootBuiltins x=some (.type T))(ha:PA X (e::es) t)(hn:x ≠ "__name__":=by decide)(yR:(x==("__debug__":Str))=false:=by decide)
  (he:starEach (e::es) X.env=(false,eval e X.env)::starEach es X.env:=by rfl) (qh:(backTo pos (starEach es X.env)).any (·.1)=false:=by rfl):PE X (.Call (.Name x p) (e::es) [] pos) (TV r t):=by
 intro pins s σ H Q I h
 refine du (kZ I hg hm hv ?_ hn yR)
 exact cO (f6 (ha pos pins s σ H _ I h) fun us s1 ⟨vs,H1,I1,r1,q1⟩=>hc pins s1 σ H1 vs us Q I1 r1 q1) he qh
end
end L2
variable{xs:List (List L2.fZ×PySem.Addr×PySem.Value)}{H H':L2.Hp}{X:L2.Cx}{v y:L2.V}{σ:L2.St}{te:L2.TE}{tc:L2.TT}{wi:L2.TI}{vs:List L2.V}
namespace HT
open PySem PyProof.Rows
def lexLt:List Int->List Int->Bool
 |[],[]=>false
 |[],_::_=>true
 |_::_,[]=>false
 |x::xs,y::ys=>if x=y then lexLt xs ys else decide (x<y)
theorem lexLt_cons(x y:Int)(xs ys:List Int):lexLt (x::xs) (y::ys)=if x=y then lexLt xs ys else decide (x<y):=rfl
theorem lexLt_nil_nil:lexLt [] []=false:=rfl
theorem rV(y:Int)(ys:List Int):lexLt [] (y::ys)=true:=rfl
theorem rW(x:Int)(xs:List Int):lexLt (x::xs) []=false:=rfl
theorem DP(A:Around)(s:Shared)(a:Int)(t:Tok)(c:Int)(u:Tok):∃e,SeqAt.EqAt A s (.int a t) (.int c u) e/\(e=true↔a=c):=
 ⟨(a==c),SeqAt.EqAt.int_int a t c u,by simp⟩
theorem DQ(A:Around)(s:Shared)(a:Int)(t:Tok)(c:Int)(u:Tok)(prog:Program)(w:World)(E:Value->Shared->Prop)(Q:Value->Shared->Prop)(h:Q (.bool (decide (a<c))) s) :
  wpAny (model prog w) A (richCompare .Lt (.int a t) (.int c u)) Q E s:=
 (PyProof.Rows.lt_int h:wpAny (model prog w) A (compareOp .Lt (.int a t) (.int c u)) Q E s)
section
open PySem.SeqAt
open PySem.AutoSeq1 (wpAny_loadPart')
open PySem.MeetsSeq PySem.MeetsSeq2 PySem.MeetsSeq3
theorem t7(l b:Addr)(items gQ:Array Value)(n n2:Nat)(dd PF:Option Addr)(sl J':Array (Option Value))(ns ms:List Int)(hi:IntsAre items.toList ns)(hj:IntsAre gQ.toList ms) :
  Meets (Builtin.«tuple.__lt__» ⟨[.ref l,.ref b],[]⟩)
   (fun _ R s=>s.heap.get? l=some { cls:=.type "tuple",dict:=dd,data:=.seq items n,slots:=sl }/\s.heap.get? b=some { cls:=.type "tuple",dict:=PF,data:=.seq gQ n2,slots:=J' } /\
    R (.ok (.ret (.bool (lexLt ns ms)))) s):=
 .of_wp fun prog w A R s h=>by
  obtain⟨hp,g,d,tk,os⟩:=s;obtain⟨hl,hb,h⟩:=h
  have f2:=lx
  have z1:items.size=ns.length:=by rw[<- hi.length];simp
  have z2:gQ.size=ms.length:=by rw[<- hj.length];simp
  wp_walk using bN hl,bN hb,gO _ (fun rest b s'=>b.1=none/\s'=⟨hp,g,d,tk,os⟩/\∃(vs ws:List Value) (Pi PH:List Int),rest=vs.zip ws /\
   IntsAre vs Pi/\IntsAre ws PH/\Pi.length+gQ.size=PH.length+items.size/\R (.ok (.ret (.bool (lexLt Pi PH)))) ⟨hp,g,d,tk,os⟩) _
  case turn=>
   rintro⟨y,x⟩ rest b s' ⟨hb',rfl,vs,ws,Pi,PH,hz,hvi,hwi,dq,hR⟩
   cases hvi with
   |nil=>rw[List.zip_nil_left]at hz;cases hz
   |cons a t hvi'=>
    cases hwi with
    |nil=>rw[List.zip_nil_right]at hz;cases hz
    |cons c u hwi'=>
     rw[List.zip_cons_cons]at hz
     injection hz with hyx tX
     injection hyx with hy hx
     subst hy hx
     rw[lexLt_cons]at hR
     simp only[a9]at dq
     obtain⟨e,he,hiff⟩:=DP A.in1 ⟨hp,g,d,tk,os⟩ a t c u
     refine ah (he prog w _ _ ?_)
     cases e with
     |true=>
      rw[ay (hiff.mp rfl)]at hR
      wp_walk
      exact⟨rfl,rfl,_,_,_,_,tX,hvi',hwi',by omega,hR⟩
     |false=>
      rw[aC (fun q=>absurd (hiff.mpr q) bT)]at hR
      have hri:=DQ A.in1 ⟨hp,g,d,tk,os⟩ a t c u prog w
      wp_walk using hri
      exact⟨_,rfl,by simpa using hR⟩
  case fin=>
   rintro⟨b1,b2⟩ s' ⟨hb',rfl,vs,ws,Pi,PH,hz,hvi,hwi,dq,hR⟩
   simp only at hb'
   subst hb'
   have hv:lexLt Pi PH=decide (items.size<gQ.size):=by
    cases hvi with
    |nil=>
     cases hwi with
     |nil=>
      simp only[dP]at dq
      rw[lexLt_nil_nil]
      exact(aV (by omega)).symm
     |cons c u hw=>
      simp only[dP,a9]at dq
      rw[rV]
      exact(bn (by omega)).symm
    |cons a t hv=>
     cases hwi with
     |nil=>
      simp only[dP,a9]at dq
      rw[rW]
      exact(aV (by omega)).symm
     |cons c u hw=>
      rw[List.zip_cons_cons]at hz
      cases hz
   rw[hv]at hR
   wp_walk
   exact⟨_,rfl,by simpa[Builtin.Tuple.tupleCompareSizes]using hR⟩
  case h=>
   exact⟨rfl,rfl,items.toList,gQ.toList,ns,ms,rfl,hi,hj,by omega,h⟩
end
section
variable{w:World}
theorem lt_tupInts{l:Addr}{gQ:Array Value}{ms:List Int}(hl:IsTup s.heap l items)(hb:IsTup s.heap b gQ)(hi:IntsAre items.toList ns)(hj:IntsAre gQ.toList ms)
  (hu:A.units<cLine) (h:Q (.bool (lexLt ns ms)) s):wpAny (model prog w) A (compareOp .Lt (.ref l) (.ref b)) Q E s:=by
 obtain⟨⟨cls,dd,data,sl⟩,ho,hc,n,hd⟩:=id hl
 obtain⟨⟨cls2,PF,data2,J'⟩,ho2,hc2,n2,HG⟩:=id hb
 simp only at hc hd hc2 HG
 subst hc hd hc2 HG
 exact richCompare_meets_room (op:=.Lt) ⟨_,ho,rfl⟩ ⟨_,ho2,rfl⟩ PySem.F.slot_tuple_lt PySem.F.entry_tuple_lt (PySem.F.args_tuple_lt_2 _ _) (t7 l b items gQ n n2 dd PF sl J' ns ms hi hj)
  ⟨ho,ho2,show Value.bool (lexLt ns ms)≠Value.notImplemented/\Q (.bool (lexLt ns ms)) s from⟨(fun x=>nomatch x),h⟩⟩ hu
theorem cat_tup{t:Addr}{vs ws:List Value}(ht:IsTup s.heap t vs.toArray)(hb:IsTup s.heap b ws.toArray)(hv:vs≠[])
  (h1:ws=[]->Q (.ref t) s) (h2:ws≠[]->Q (.ref s.heap.objs.size) { s with heap:=s.heap.push { cls:=.type "tuple",data:=.seq (vs++ws).toArray } })
  (hsz:vs.length+ws.length<=sizeLine):wpAny (model prog w) A (binaryOp .Add (.ref t) (.ref b)) Q E s:=by
 obtain⟨⟨cls,dd,data,sl⟩,ho,hc,n,hd⟩:=id ht
 obtain⟨⟨cls2,PF,data2,J'⟩,ho2,hc2,n2,HG⟩:=id hb
 simp only at hc hd hc2 HG
 subst hc hd hc2 HG
 have e:vs.toArray++ws.toArray=(vs++ws).toArray:=by simp
 by_cases hw:ws=[]
 ·exact qj ⟨_,ho,rfl⟩ ⟨_,ho2,rfl⟩ lS oH PySem.F.slot_tuple_add PySem.F.entry_tuple_add (PySem.F.args_tuple_add_2 _ _)
   (tuple_addW1 t b vs.toArray ws.toArray n n2 dd PF sl J' (by simpa using hv) (by simp[hw])) ⟨ho,ho2,h1 hw⟩
 ·refine qj ⟨_,ho,rfl⟩ ⟨_,ho2,rfl⟩ lS oH PySem.F.slot_tuple_add PySem.F.entry_tuple_add (PySem.F.args_tuple_add_2 _ _)
   (tuple_addW2 t b vs.toArray ws.toArray n n2 dd PF sl J' (by simpa using hv) (by simpa using hw) (by rw[aD,aD];exact hsz)) ⟨ho,ho2,?_⟩
  rw[e]
  exact h2 hw
def sIx(n d:Nat):Option Int->Nat
 |none=>d
 |some v=>if v<0 then(v+(n:Int)).toNat else min v.toNat n
theorem sIx_none(n d:Nat):sIx n d none=d:=rfl
theorem sIx_nat(n d k:Nat):sIx n d (some (k:Int))=min k n:=by
 show(if (k:Int)<0 then((k:Int)+(n:Int)).toNat else min (k:Int).toNat n)=min k n
 rw[aC (by omega),aO]
theorem sIx_le(n d:Nat)(hd:d<=n)(o:Option Int):sIx n d o<=n:=by
 cases o with
 |none=>exact hd
 |some v=>
  show(if v<0 then(v+(n:Int)).toNat else min v.toNat n)<=n
  by_cases hv:v<0
  ·rw[ay hv];omega
  ·rw[aC hv];exact Nat.min_le_right _ _
theorem AG(v:Int)(n d:Nat):(if v<0 then max (v+(n:Int)) 0 else min v (n:Int))=((sIx n d (some v):Nat):Int):=by
 show(if v<0 then max (v+(n:Int)) 0 else min v (n:Int))=(((if v<0 then(v+(n:Int)).toNat else min v.toNat n):Nat):Int)
 by_cases hv:v<0
 ·simp only[ay hv];omega
 ·simp only[aC hv];omega
theorem ze(lo hi:Option Int)(n:Nat):Builtin.Slice.sliceAdjust lo hi 1 (n:Int)=(((sIx n 0 lo:Nat):Int),((sIx n n hi:Nat):Int)):=by
 have h1:¬ ((1:Int)<0):=by omega
 unfold Builtin.Slice.sliceAdjust
 simp only[h1,gb]
 refine Prod.ext ?_ ?_
 ·cases lo with
  |none=>rfl
  |some v=>exact AG v n 0
 ·cases hi with
  |none=>rfl
  |some v=>exact AG v n n
theorem zf(i j:Nat):Builtin.Slice.slicePlaces (i:Int) (j:Int) 1=j-i:=by
 unfold Builtin.Slice.slicePlaces
 have h1:(1:Int)>0:=by omega
 simp only[h1,fx,Int.ediv_one]
 split<;>omega
theorem rX{v:Value}{o:Option Int}{Q:Option Int->Shared->Prop}(p:IsPart v o)(h:Q o s):wpAny (model prog w) A (Builtin.Slice.slicePartIndex v) Q E s:=by
 cases p with
 |none=>exact slicePart_none h
 |int i t=>exact slicePart_int h
theorem sliceApplied_gen{sl:Addr}{vl vu:Value}{lo hi:Option Int}{Q:Int×Int×Nat->Shared->Prop}(hs:s.heap.IsSliceOf sl vl vu .none)(pl:IsPart vl lo)(pu:IsPart vu hi)
  (h:Q (((sIx n 0 lo:Nat):Int),1,sIx n n hi-sIx n 0 lo) s):wpAny (model prog w) A (Builtin.Slice.sliceApplied (.ref sl) (pure (n:Int))) Q E s:=by
 obtain⟨os,hos,hcs,AC⟩:=id hs
 unfold Builtin.Slice.sliceApplied Builtin.Slice.sliceFields
 refine ah (ah (gH hos AC (x:=vl) rfl (ah (gH hos AC (x:=vu) rfl (ah (gH hos AC (x:=.none) rfl (ax ?_)))))))
 refine ah (slicePart_none ?_)
 show wpAny _ _ (if ((1:Int)==0)=true then _ else _) _ _ s
 rw[aC (by decide)]
 refine ah (rX pl (ah (rX pu (ah (ax ?_)))))
 show wpAny _ _ (match Builtin.Slice.sliceAdjust lo hi 1 (n:Int)with|(lo,hi)=>pure (lo,(1:Int),Builtin.Slice.slicePlaces lo hi 1)) _ _ s
 rw[ze lo hi n]
 show wpAny _ _ (pure (((sIx n 0 lo:Nat):Int),(1:Int),Builtin.Slice.slicePlaces ((sIx n 0 lo:Nat):Int) ((sIx n n hi:Nat):Int) 1)) _ _ s
 rw[zf]
 exact ax h
theorem DR(xs:Array Value)(i k:Nat):((List.range k).filterMap fun(m:Nat)=>xs[((i:Int)+(m:Int)*1).toNat]?).toArray=((xs.toList.drop i).take k).toArray:=by
 have e:(fun(m:Nat)=>xs[((i:Int)+(m:Int)*1).toNat]?)=fun m=>xs[i+m]?:=by
  funext m
  have:((i:Int)+(m:Int)*1).toNat=i+m:=by omega
  rw[this]
 rw[e]
 have:=pick_run xs i k
 rw[List.filterMap_map]at this
 have e2:((fun x=>xs[x]?)∘fun x=>i+x)=fun m=>xs[i+m]?:=rfl
 rw[e2]at this
 rw[this]
theorem getItem_tuple_cut{t sl:Addr}{vl vu:Value}{lo hi:Option Int}(ht:IsTup s.heap t items)(hs:s.heap.IsSliceOf sl vl vu .none)(pl:IsPart vl lo)(pu:IsPart vu hi)
  (hw:¬ (sIx items.size 0 lo=0/\sIx items.size items.size hi=items.size))
  (h:Q (.ref s.heap.objs.size) { s with heap:=s.heap.push { cls:=.type "tuple",data:=.seq ((items.toList.drop (sIx items.size 0 lo)).take (sIx items.size items.size hi-sIx items.size 0 lo)).toArray } })
  (hsz:items.size<=sizeLine):wpAny (model prog w) A (getItem (.ref t) (.ref sl)) Q E s:=by
 have htake:sizeOk (.seq ((items.toList.drop (sIx items.size 0 lo)).take (sIx items.size items.size hi-sIx items.size 0 lo)).toArray):=by
  show((items.toList.drop (sIx items.size 0 lo)).take (sIx items.size items.size hi-sIx items.size 0 lo)).toArray.size<=sizeLine
  rw[aD,a8,d5,fO]
  omega
 have hj:sIx items.size items.size hi<=items.size:=sIx_le _ _ (aw _) hi
 obtain⟨os,hos,hcs,AC⟩:=id hs
 have hTs:s.TypeIs (.ref sl) "slice":=⟨os,hos,hcs⟩
 unfold getItem
 try with_reducible refine cF ?_
 first|refine ah (ax ?_)|skip
 refine ah (wpAny_sequenceKey ht.typeIs (by decide) ?_)
 refine ah (dy (name:=Str.ofString "__getitem__") ht.typeIs dR
  (dz dR ht.typeIs entry_tuple_getitem ?_ (args_tuple_getitem _ _)))
 show wpAny _ _ (Builtin.Tuple.tupleItemsOf (.ref t) >>= _) _ _ s
 refine ah (tupleItemsOf_ ht ?_)
 refine ah (qk hTs ?_)
 rw[ay (by decide)]
 refine ah (sliceApplied_gen hs pl pu ?_)
 have hno:¬ ((((sIx items.size 0 lo:Nat):Int)==0&&(1:Int)==1&&(sIx items.size items.size hi-sIx items.size 0 lo)==items.size)=true):=by
  intro q
  rw[bh,bh]at q
  have q1:((sIx items.size 0 lo:Nat):Int)=0:=jI q.1.1
  have q2:sIx items.size items.size hi-sIx items.size 0 lo=items.size:=jI q.2
  exact hw ⟨by omega,by omega⟩
 show wpAny _ _ (if (((sIx items.size 0 lo:Nat):Int)==0&&(1:Int)==1&&(sIx items.size items.size hi-sIx items.size 0 lo)==items.size)=true then _ else _) _ _ s
 rw[aC hno,DR]
 first
  |exact ah (m:=Builtin.Tuple.tupleExact _) (eK (ax ⟨_,rfl,ax h⟩) htake)
  |exact ah (m:=Builtin.Tuple.tupleExact _) (eK (ah (ax (ax ⟨_,rfl,ax h⟩))) htake)
  |exact ah (ah (m:=Builtin.Tuple.tupleExact _) (eK (ax (ax ⟨_,rfl,ax h⟩)) htake))
  |exact ah (ah (m:=Builtin.Tuple.tupleExact _) (eK (ax ⟨_,rfl,ax h⟩) htake))
end
end HT
namespace L2
open PySem PySem.Spec PyProof.Rows
abbrev TO:=St->Hp->(Option Int->Hp->Prop)->Prop
def PO(X:Cx)(e:Option Expr)(t:TO):Prop:=
 ∀(pins:List (Addr×Obj)) (s:Shared) (σ:St) (H:Hp) (Q:Option Int->Hp->Prop),bw X pins σ H s->t σ H Q ->
  wpAny (model X.prog X.w) X.A (evalPart e X.env) (fun u s'=>∃o H',bw X pins σ H' s'/\IsPart u o/\Q o H') X.xe s
def H_:TO:=fun _ H Q=>Q none H
def Qd(t:TE):TO:=fun σ H Q=>t σ H fun x H1=>∃i,x=.int i/\Q (some i) H1
theorem lY:∀{us:List Value},cp (ns.map V.int) us->IntsAre us ns:=by
 induction ns with
 |nil=>intro us r;rw[dL]at r;cases r;exact .nil
 |cons n ns ih=>
  intro us r
  rw[aG]at r
  cases r with
  |cons r1 r2=>
   obtain⟨t,e⟩:=r1
   subst e
   exact .cons n t (ih r2)
section
variable{lo hi:Option Expr}{tl th:TO}
theorem Ia:PO X none H_:=by
 intro pins s σ H Q I h
 rw[evalPart_none]
 exact ax ⟨none,H,I,.none,h⟩
theorem Ib(h:PE X e te):PO X (some e) (Qd te):=by
 intro pins s σ H Q I hw
 rw[evalPart_some]
 refine f6 (h pins s σ H _ I hw) fun u s1 ⟨x,H1,I1,r1,q1⟩=>?_
 obtain⟨i,rfl,q⟩:=q1
 obtain⟨t,rfl⟩:=r1
 exact⟨some i,H1,I1,.int i t,q⟩
def Qe(X:Cx)(r:V->Option Int->Option Int->Hp->VK->Prop):Prop:=
 ∀(pins:List (Addr×Obj)) (s:Shared) (σ:St) (H:Hp) (x:V) (v vl vu:Value) (lo hi:Option Int) (sl:Addr) (Q:VK),bw X pins σ H s->bS x v->s.heap.IsSliceOf sl vl vu .none->IsPart vl lo->IsPart vu hi->r x lo hi H Q ->
  ∃T id,typeLookup (.type T) "__getitem__"=pure (some (.builtin id))/\s.TypeIs v T/\wpAny (model X.prog X.w) X.A (getItem v (.ref sl)) (EP X pins σ Q) X.xe s
def U3(r:V->Option Int->Option Int->Hp->VK->Prop)(te:TE)(tl th:TO):TE:=fun σ H Q=>te σ H fun x H1=>tl σ H1 fun l H2=>th σ H2 fun u H3=>r x l u H3 Q
theorem DS{r:V->Option Int->Option Int->Hp->VK->Prop}(hr:Qe X r)(he:PE X e te)(hl:PO X lo tl)(hu:PO X hi th):PE X (.Subscript e (.Slice lo hi none p2) pos) (U3 r te tl th):=by
 intro pins s σ H Q I h
 refine Subscript_ (f6 (he pins s σ H _ I h) fun v s1 ⟨x,H1,I1,r1,q1⟩=>?_)
 refine wpAny_Slice (f6 (hl pins s1 σ H1 _ I1 q1) fun vl s2 ⟨l,H2,I2,pl,q2⟩=>f6 (hu pins s2 σ H2 _ I2 q2) fun vu s3 ⟨u,H3,I3,pu,q3⟩=>?_)
 rw[evalPart_none]
 refine ax ?_
 have I4:bw X pins σ H3 { s3 with heap:=s3.heap.push { cls:=.type "slice",data:=.fields #[vl,vu,.none] } }:=I3.kept (t':=s3.toks) fun b ob q=>ar _ q
 obtain⟨T,id,hT,ht,hg⟩:=hr pins { s3 with heap:=s3.heap.push { cls:=.type "slice",data:=.fields #[vl,vu,.none] } } σ H3 x v vl vu l u s3.heap.objs.size Q I4 r1 (Heap.IsSliceOf.new ..) pl pu q3
 show wpAny (model X.prog X.w) X.A (subscriptTail e (.Slice lo hi none p2) v (.ref s3.heap.objs.size)) (EP X pins σ Q) X.xe { s3 with heap:=s3.heap.push { cls:=.type "slice",data:=.fields #[vl,vu,.none] } }
 exact tail_any (ops:=[.ref s3.heap.objs.size,v]) ht hT hg (by with_unfolding_all rfl)
def rY(xs:List V)(lo hi:Option Int):List V:=(xs.drop (HT.sIx xs.length 0 lo)).take (HT.sIx xs.length xs.length hi-HT.sIx xs.length 0 lo)
theorem qK(xs:List V)(lo hi:Option Int):(rY xs lo hi).length<=xs.length:=by
 unfold rY
 rw[a8,d5]
 omega
def TW(K:Frag):V->Option Int->Option Int->Hp->VK->Prop:=fun x lo hi H Q=>∃a xs,x=.ref a/\fy K H a xs /\
 ¬ (HT.sIx xs.length 0 lo=0/\HT.sIx xs.length xs.length hi=xs.length)/\∀p,H p=none->Q (.ref p) (eL H p (.tup (rY xs lo hi)))
theorem MH:Qe X (TW X.K):=by
 intro pins s σ H x v vl vu lo hi sl Q I rx hs pl pu h
 obtain⟨a,xs,rfl,hx,hw,q⟩:=h
 cases rx
 obtain⟨bz,r,ht,hz⟩:=I.tuple hx
 have dq:bz.toArray.size=xs.length:=by rw[aD];exact r.length.symm
 refine⟨"tuple",_,dR.lookup,ht.typeIs,?_⟩
 refine HT.getItem_tuple_cut ht hs pl pu (by rw[dq];exact hw) ?_ (by rw[dq];exact hz)
 rw[dq]
 refine⟨.ref s.heap.objs.size,_,I.laid (t':=s.toks) (o:=.tup (rY xs lo hi)) (fun b ob q=>ar _ q) (aw _) ?_,rfl,q _ (I.hok.fresh (aw _))⟩
 exact⟨bu (qK xs lo hi) hz,_,(r.drop (HT.sIx xs.length 0 lo)).take (HT.sIx xs.length xs.length hi-HT.sIx xs.length 0 lo),IsTup.new _ _⟩
def TX(K:Frag):R2:=fun x y H Q=>∃a b ns ms,x=.ref a/\y=.ref b/\fy K H a (ns.map V.int)/\fy K H b (ms.map V.int)/\Q (.bl (HT.lexLt ns ms)) H
theorem MI(hu:X.A.units<cLine):mL X (compareOp .Lt) (TX X.K):=by
 intro pins s σ H x y v u Q I rx ry h
 obtain⟨a,b,ns,ms,rfl,rfl,ha,hb,q⟩:=h
 cases rx
 cases ry
 obtain⟨bz,r1,p1,_⟩:=I.tuple ha
 obtain⟨its2,r2,p2,_⟩:=I.tuple hb
 have i1:IntsAre bz.toArray.toList ns:=lY r1
 have i2:IntsAre its2.toArray.toList ms:=lY r2
 exact HT.lt_tupInts p1 p2 i1 i2 hu ⟨.bl (HT.lexLt ns ms),H,I,rfl,q⟩
def Qf(K:Frag):R2:=fun x y H Q=>∃a b xs ys,x=.ref a/\y=.ref b/\fy K H a xs/\fy K H b ys/\xs≠[]/\xs.length+ys.length<=sizeLine /\
 (ys=[]->Q (.ref a) H)/\(ys≠[]->∀p,H p=none->Q (.ref p) (eL H p (.tup (xs++ys))))
theorem cp.nil_iff{xs:List V}(r:cp xs us):us=[]↔xs=[]:=by
 cases r with
 |nil=>simp
 |cons _ _=>simp
theorem Ic:mL X (binaryOp .Add) (Qf X.K):=by
 intro pins s σ H x y v u Q I rx ry h
 obtain⟨a,b,xs,ys,rfl,rfl,ha,hb,hx,hz,q1,q2⟩:=h
 cases rx
 cases ry
 obtain⟨bz,r1,p1,_⟩:=I.tuple ha
 obtain⟨its2,r2,p2,_⟩:=I.tuple hb
 refine HT.cat_tup p1 p2 (fun z=>hx (r1.nil_iff.mp z)) (fun z=>⟨.ref a,H,I,rfl,q1 (r2.nil_iff.mp z)⟩) (fun z=>?_) (by rw[<- r1.length,<- r2.length];exact hz)
 refine⟨.ref s.heap.objs.size,_,I.laid (t':=s.toks) (o:=.tup (xs++ys)) (fun b ob q=>ar _ q) (aw _) ?_,rfl,q2 (fun w=>z (r2.nil_iff.mpr w)) _ (I.hok.fresh (aw _))⟩
 exact⟨by rw[aF];exact hz,_,r1.append r2,IsTup.new _ _⟩
theorem xg:g_ X (.type "tuple") (fun xs H Q=>∃a ys,xs=[.ref a]/\fy X.K H a ys/\Q (.ref a) H):=by
 intro pins s σ H xs us Q I r h
 obtain⟨a,ys,rfl,ha,q⟩:=h
 obtain⟨u,rfl,ru⟩:=kI r
 cases ru
 obtain⟨bz,_,p1,_⟩:=I.tuple ha
 exact call_tuple_same (items:=bz.toArray) p1 ⟨.ref a,H,I,rfl,q⟩
end
def AH(n:Nat)(i:Int):Option Nat:=if 0<=i then(if i<n then some i.toNat else none)else if -(n:Int)<=i then some (i+n).toNat else none
def oP(xs:List α)(i:Int):Option α:=(AH xs.length i).bind fun j=>xs[j]?
theorem AI{i:Int}(h:AH n i=some j):seqIndex? i n=some j/\j<n/\-(n:Int)<=i/\i<n:=by
 unfold AH at h
 by_cases h0:0<=i
 ·rw[ay h0]at h
  by_cases h1:i<n
  ·rw[ay h1]at h
   have e:i.toNat=j:=a7 h
   exact⟨by rw[seqIndex_of h0 h1,e],by omega,by omega,h1⟩
  ·rw[aC h1]at h;cases h
 ·rw[aC h0]at h
  by_cases h1:-(n:Int)<=i
  ·rw[ay h1]at h
   have e:(i+n).toNat=j:=a7 h
   exact⟨by rw[ql (by omega) h1,e],by omega,h1,by omega⟩
  ·rw[aC h1]at h;cases h
theorem vy{xs:List α}{i:Int}{v:α}(h:oP xs i=some v):∃j,seqIndex? i xs.length=some j/\xs[j]?=some v/\j<xs.length/\-(xs.length:Int)<=i/\i<xs.length:=by
 unfold oP at h
 cases e:AH xs.length i with
 |none=>rw[e]at h;cases h
 |some j=>
  rw[e]at h
  obtain⟨h1,h2,h3,h4⟩:=AI e
  exact⟨j,h1,h,h2,h3,h4⟩
def AJ(b:Expr):Prop:=∀o i,subscripted b false o i=operate [o,i] (getItem o i)
def HA(X:Cx)(r:R2):Prop:=
 ∀(value slice:Expr) (pins:List (Addr×Obj)) (s:Shared) (σ:St) (H:Hp) (x y:V) (v u:Value) (Q:VK),bw X pins σ H s->bS x v->bS y u->r x y H Q ->
  subscripted slice false v u=operate [v,u] (getItem v u)->wpAny (model X.prog X.w) X.A (subscriptTail value slice v u) (EP X pins σ Q) X.xe s
def Cm(X:Cx)(id:String)(r:V->List V->Hp->VK->Prop):Prop:=
 ∀(pins:List (Addr×Obj)) (s:Shared) (σ:St) (H:Hp) (x:V) (xs:List V) (v:Value) (us:List Value) (Q:VK),bw X pins σ H s->bS x v->cp xs us->r x xs H Q ->
  wpAny (model X.prog X.w) X.A (call (.builtin id) (v::us)) (EP X pins σ Q) X.xe s
section
variable{a b:Expr}{ta tb:TE}
theorem HA.or{r r':R2}(h:HA X r)(h':HA X r'):HA X (fun x y H Q=>r x y H Q\/r' x y H Q):=by
 intro value slice pins s σ H x y v u Q I rx ry q hs
 rcases q with q|q
 ·exact h value slice pins s σ H x y v u Q I rx ry q hs
 ·exact h' value slice pins s σ H x y v u Q I rx ry q hs
theorem Qg{r:R2}(hr:HA X r)(ha:PE X a ta)(hb:PE X b tb)(hs:AJ b):PE X (.Subscript a b pos) (P6 r ta tb):=by
 intro pins s σ H Q I h
 exact Subscript_ (Ms ha hb I h fun v u s2 x y H2 I2 rx ry q=>hr a b pins s2 σ H2 x y v u Q I2 rx ry q (hs _ _))
def Qh(K:Frag):R2:=fun x y H Q=>∃p xs i v,x=.ref p/\y=.int i/\qr K H p xs/\oP xs i=some v/\Q v H
def Qi(K:Frag):R2:=fun x y H Q=>∃p xs i v,x=.ref p/\y=.int i/\fy K H p xs/\oP xs i=some v/\Q v H
def Qj:R2:=fun x y H Q=>∃z i c,x=.str z/\y=.int i/\z.length<=sizeLine/\oP z.cps.toList i=some c/\Q (.str ⟨#[c]⟩) H
theorem Ie:HA X (Qh X.K):=by
 intro value slice pins s σ H x y v u Q I rx ry h hs
 obtain⟨p,xs,i,z,rfl,rfl,hq,he,q⟩:=h
 cases rx
 obtain⟨t,rfl⟩:=ry
 obtain⟨bz,r,pl,hz⟩:=I.list hq
 obtain⟨j,h1,h2,h3,h4,h5⟩:=vy he
 obtain⟨w,ew,kP⟩:=r.get h2
 have hl:=r.length
 have hn:=qt
 have fin:EP X pins σ Q w s:=⟨z,H,I,kP,q⟩
 by_cases h0:0<=i
 ·have hj:i.toNat=j:=by
   rw[seqIndex_of h0 h5]at h1
   exact a7 h1
  exact item_listR pl.isList h0 (by omega) (by rw[hj];simpa using ew) fin hs
 ·have hj:(i+(bz.toArray.size:Int)).toNat=j:=by
   rw[ql (by omega) h4]at h1
   rw[aD,<- hl]
   exact a7 h1
  exact mC (x:=w) pl.isList.typeIs slot_list_getitem.lookup
   (wpAny_getItem_list_neg (Q:=fun r s'=>r=w/\EP X pins σ Q r s') pl.isList (by omega) (by rw[aD]<;>omega) (by omega) (by rw[hj];simpa using ew) ⟨rfl,fin⟩) hs
theorem MJ:HA X (Qi X.K):=by
 intro value slice pins s σ H x y v u Q I rx ry h hs
 obtain⟨p,xs,i,z,rfl,rfl,hq,he,q⟩:=h
 cases rx
 obtain⟨t,rfl⟩:=ry
 obtain⟨bz,r,pl,hz⟩:=I.tuple hq
 obtain⟨j,h1,h2,h3,h4,h5⟩:=vy he
 obtain⟨w,ew,kP⟩:=r.get h2
 have hl:=r.length
 have hn:=qt
 have fin:EP X pins σ Q w s:=⟨z,H,I,kP,q⟩
 exact mC (x:=w) pl.typeIs slot_tuple_getitem.lookup
  (getItem_tuple (j:=j) (Q:=fun r s'=>r=w/\EP X pins σ Q r s') pl (by omega) (by omega) (by rw[aD,<- hl];exact h1) (by simpa using ew) ⟨rfl,fin⟩) hs
theorem MK:HA X Qj:=by
 intro value slice pins s σ H x y v u Q I rx ry h hs
 obtain⟨z,i,c,rfl,rfl,hz,he,q⟩:=h
 obtain⟨t,rfl⟩:=rx
 obtain⟨t',rfl⟩:=ry
 obtain⟨j,h1,h2,h3,h4,h5⟩:=vy he
 have hl:z.cps.toList.length=z.length:=by simp[Str.length]
 rw[hl]at h1 h4 h5
 have hn:=qt
 exact tail_any (typeIs_str s z t) slot_str_getitem.lookup (getItem_str (c:=c) (by
  have e1:decide (i < -(2^63:Int))=false:=aV (by omega)
  have e2:decide (i≥2^63)=false:=aV (by omega)
  rw[e1,e2,Bool.or_false]) (by rw[h1];simpa using h2) ⟨.str ⟨#[c]⟩,H,I.tok _,⟨_,rfl⟩,q⟩) hs
def U4(K:Frag):R2:=fun x y H Q=>Qh K x y H Q\/Qi K x y H Q\/Qj x y H Q
theorem ML:HA X (U4 X.K):=Ie.or (MJ.or MK)
theorem zg(bz:List Value)(n j:Nat)(u:Value):Obj.mapSeq (·.setIfInBounds j u) { cls:=.type "list",data:=.seq bz.toArray n }={ cls:=.type "list",data:=.seq (bz.set j u).toArray n }:=by
 simp[Obj.mapSeq]
theorem bw.lst{p:Addr}{xs:List V}(I:bw X pins σ H s)(h:H p=some (.lst xs)) :
  ∃(bz:List Value) (n:Nat),cp xs bz/\s.heap.get? p=some { cls:=.type "list",data:=.seq bz.toArray n }/\xs.length<=sizeLine:=by
 obtain⟨z,bz,n,r,e⟩:=I.hok p _ h
 exact⟨bz,n,r,e,z⟩
theorem bw.lstUpd{p:Addr}{xs ys:List V}{its':List Value}{n':Nat}{f:Obj->Obj}(I:bw X pins σ H s)(h:H p=some (.lst xs))
  (ho:s.heap.get? p=some { cls:=.type "list",data:=.seq bz.toArray n }) (hf:f { cls:=.type "list",data:=.seq bz.toArray n }={ cls:=.type "list",data:=.seq its'.toArray n' }) (r:cp ys its') (hz:ys.length<=sizeLine) (t:Nat) :
  bw X pins σ (eL H p (.lst ys)) { s with heap:=s.heap.update p f,toks:=t }:=by
 have e:(s.heap.update p f).get? p=some { cls:=.type "list",data:=.seq its'.toArray n' }:=by
  rw[gj f ho (by rw[hf]<;>rfl),hf]
 refine I.write (x:=p) (e:=p) (by rw[h];trivial) (.inl rfl) (fun b u hb q=>(ik _ _ (Ne.symm hb)).trans q) ⟨_,e⟩ ?_
 exact⟨hz,its',n',r,e⟩
def Ql:V->V->V->Hp->(Hp->Prop)->Prop:=fun o i v H Q=>∃p xs k j,o=.ref p/\i=.int k/\H p=some (.lst xs)/\AH xs.length k=some j/\Q (eL H p (.lst (xs.set j v)))
theorem DT:B_ X Ql:=by
 intro pins s σ H o i v ov iv u Q I ro ri rv h
 obtain⟨p,xs,k,j,rfl,rfl,hp,hj,q⟩:=h
 cases ro
 obtain⟨t,rfl⟩:=ri
 obtain⟨bz,n,r,ho,hz⟩:=I.lst hp
 obtain⟨h1,h2,h3,h4⟩:=AI hj
 have hl:=r.length
 have hn:=qt
 have I':bw X pins σ (eL H p (.lst (xs.set j v))) { s with heap:=s.heap.update p (Obj.mapSeq (·.setIfInBounds j u)) }:=
  I.lstUpd hp ho (zg bz n j u) (r.set rv j) (by rw[mT];exact hz) s.toks
 by_cases h0:0<=k
 ·have hk:k.toNat=j:=by
   rw[seqIndex_of h0 h4]at h1
   exact a7 h1
  exact PySem.W.ki_setAt ho h0 (by omega) (by rw[aD,<- hl];exact h4) (by rw[hk];exact⟨_,I',q⟩)
 ·have hk:(k+(bz.toArray.size:Int)).toNat=j:=by
   rw[ql (by omega) h3]at h1
   rw[aD,<- hl]
   exact a7 h1
  exact PySem.W.ki_setBack ho (by omega) (by rw[aD,<- hl];exact h3) (by omega) (by rw[hk];exact⟨_,I',q⟩)
theorem vz(lo hi:Option Int)(n:Nat):(sliceBounds lo hi none n).1=((HT.sIx n 0 lo:Nat):Int)/\(sliceBounds lo hi none n).2.1=((HT.sIx n n hi:Nat):Int)/\(sliceBounds lo hi none n).2.2=1:=by
 refine⟨?_,?_,rfl⟩
 ·cases lo with
  |none=>simp[sliceBounds,HT.sIx]
  |some i=>
   simp only[sliceBounds,HT.sIx,Option.getD_none,show(1:Int)>0 by decide,fx]
   by_cases h:i<0
   ·simp only[h,fx]<;>omega
   ·simp only[h,gb]<;>omega
 ·cases hi with
  |none=>simp[sliceBounds,HT.sIx]
  |some i=>
   simp only[sliceBounds,HT.sIx,Option.getD_none,show(1:Int)>0 by decide,fx]
   by_cases h:i<0
   ·simp only[h,fx]<;>omega
   ·simp only[h,gb]<;>omega
theorem t8(bz:List Value)(lo hi:Option Int):slicePick bz.toArray lo hi none=((bz.drop (HT.sIx bz.length 0 lo)).take (HT.sIx bz.length bz.length hi-HT.sIx bz.length 0 lo)).toArray:=by
 obtain⟨h1,h2,h3⟩:=vz lo hi bz.toArray.size
 unfold slicePick
 rw[h1,h2,h3]
 simp only[sliceRange_one,pick_run,aD]<;>rfl
def TY(K:Frag):V->Option Int->Option Int->Hp->VK->Prop:=fun x lo hi H Q=>∃a xs,x=.ref a/\qr K H a xs/\∀p,H p=none->Q (.ref p) (eL H p (.lst (rY xs lo hi)))
theorem Ig:Qe X (TY X.K):=by
 intro pins s σ H x v vl vu lo hi sl Q I rx hs pl pu h
 obtain⟨a,xs,rfl,hx,q⟩:=h
 cases rx
 obtain⟨bz,r,ht,hz⟩:=I.list hx
 have dq:=r.length
 refine⟨"list",_,slot_list_getitem.lookup,ht.isList.typeIs,?_⟩
 refine wpAny_getItem_list_slice ht.isList hs pl pu .none (by simp) ?_ (by rw[aD]<;>omega)
 rw[t8,<- dq]
 refine⟨.ref s.heap.objs.size,_,I.laid (t':=s.toks) (o:=.lst (rY xs lo hi)) (fun b ob q=>ar _ q) (aw _) ?_,rfl,q _ (I.hok.fresh (aw _))⟩
 exact⟨bu (qK xs lo hi) hz,_,0,(r.drop (HT.sIx xs.length 0 lo)).take (HT.sIx xs.length xs.length hi-HT.sIx xs.length 0 lo),aU _ rfl⟩
theorem pB:g_ X (.builtin "len") (fun xs H Q=>∃p ys,xs=[.ref p]/\(qr X.K H p ys\/fy X.K H p ys)/\Q (.int ys.length) H):=by
 intro pins s σ H xs us Q I r h
 obtain⟨p,ys,rfl,hq,q⟩:=h
 obtain⟨u,rfl,rx⟩:=kI r
 cases rx
 have hn:=qt
 rcases hq with hq|hq
 ·obtain⟨bz,r',pl,hz⟩:=I.list hq
  have dq:=r'.length
  exact Calls.call_len_list pl.isList (by simp only[aD]<;>omega) ⟨.int ys.length,H,I.tok _,⟨s.toks+1,by rw[aD,dq]⟩,q⟩
 ·obtain⟨bz,r',pl,hz⟩:=I.tuple hq
  have dq:=r'.length
  exact len_tuple pl (by simp only[aD]<;>omega) ⟨.int ys.length,H,I.tok _,⟨s.toks+1,by rw[aD,dq]⟩,q⟩
theorem vA:g_ X (.builtin "len") (fun xs H Q=>∃z,xs=[.str z]/\z.length<=sizeLine/\Q (.int z.length) H):=by
 intro pins s σ H xs us Q I r h
 obtain⟨z,rfl,hz,q⟩:=h
 obtain⟨u,rfl,t,rfl⟩:=kI r
 have hn:=qt
 exact len_str (by omega) ⟨.int z.length,H,I.tok _,⟨_,rfl⟩,q⟩
theorem vB:g_ X (.type "list") (fun xs H Q=>∃p ys,xs=[.ref p]/\(qr X.K H p ys\/fy X.K H p ys)/\∀l,H l=none->Q (.ref l) (eL H l (.lst ys))):=by
 intro pins s σ H xs us Q I r h
 obtain⟨p,ys,rfl,hq,q⟩:=h
 obtain⟨u,rfl,rx⟩:=kI r
 cases rx
 have fin:∀(bz:List Value),cp ys bz->ys.length<=sizeLine->∀(h':Heap) (c':Nat),(∀b o',s.heap.get? b=some o'->h'.get? b=some o') ->
   h'.get? s.heap.objs.size=some { cls:=.type "list",dict:=none,data:=.seq bz.toArray c',slots:=#[] }->EP X pins σ Q (.ref s.heap.objs.size) { s with heap:=h' }:=fun bz r' hz h' c' kp e=>
  ⟨.ref s.heap.objs.size,_,I.laid (t':=s.toks) kp (aw _) (show eO X.prog X.w _ h' _ (.lst ys)from⟨hz,bz,c',r',e⟩),rfl,q _ (I.hok.fresh (aw _))⟩
 rcases hq with hq|hq
 ·obtain⟨bz,r',pl,hz⟩:=I.list hq
  have dq:=r'.length
  obtain⟨o,ho,hc,n,hd⟩:=pl.isList
  exact call_list_seq p (.inl rfl) ho hc hd (fun h' c' kp e=>fin bz r' hz h' c' kp e) (by simp only[aD]<;>omega)
 ·obtain⟨bz,r',pl,hz⟩:=I.tuple hq
  have dq:=r'.length
  obtain⟨o,ho,hc,n,hd⟩:=pl
  exact call_list_seq p (.inr rfl) ho hc hd (fun h' c' kp e=>fin bz r' hz h' c' kp e) (by simp only[aD]<;>omega)
theorem t9:g_ X (.type "tuple") (fun xs H Q=>∃p ys,xs=[.ref p]/\((qr X.K H p ys/\∀l,H l=none->Q (.ref l) (eL H l (.tup ys)))\/(fy X.K H p ys/\Q (.ref p) H))):=by
 intro pins s σ H xs us Q I r h
 obtain⟨p,ys,rfl,h⟩:=h
 obtain⟨u,rfl,rx⟩:=kI r
 cases rx
 rcases h with⟨hq,q⟩|⟨hq,q⟩
 ·obtain⟨bz,r',pl,hz⟩:=I.list hq
  have dq:=r'.length
  refine call_tuple_list pl.isList (fun h' kp=>?_) (by simp only[aD]<;>omega)
  have I1:bw X pins σ H { s with heap:=h' }:=I.kept (t':=s.toks) kp
  have I2:bw X pins σ (eL H h'.objs.size (.tup ys)) { s with heap:=h'.push { cls:=.type "tuple",data:=.seq bz.toArray } }:=
   I1.laid (t':=s.toks) (fun b o e=>ar _ e) (aw _) (show eO X.prog X.w _ _ _ (.tup ys)from⟨hz,bz,r',IsTup.new _ _⟩)
  exact⟨.ref h'.objs.size,_,I2,rfl,q _ (I1.hok.fresh (aw _))⟩
 ·obtain⟨bz,r',pl,hz⟩:=I.tuple hq
  exact call_tuple_same pl ⟨.ref p,H,I,rfl,q⟩
def Tb(K:Frag)(T:String)(x:V)(H:Hp):Prop:=match x with
 |.str _=>T="str"
 |.int _=>T="int"
 |.ref p=>(T="list"/\∃xs,qr K H p xs)\/(T="tuple"/\∃o,K.lookup p=some o/\o.cls=.type "tuple"/\o.dict=none) \/
   (T="dict"/\((∃kvs,H p=some (.dK kvs))\/∃kvs,H p=some (.dT kvs)))\/(T="set"/\∃S n,H p=some (.set S n))
 |_=>False
theorem DU{T:String}{x:V}{v:Value}(I:bw X pins σ H s)(r:bS x v)(ty:Tb X.K T x H) :
  s.TypeIs v T/\∀a,v=.ref a->∃ob,s.heap.get? a=some ob/\ob.dict=none:=by
 cases x with
 |str z=>
  obtain⟨t,rfl⟩:=r
  cases(show T="str" from ty)
  exact⟨typeIs_str s z t,fun _ e=>nomatch e⟩
 |int i=>
  obtain⟨t,rfl⟩:=r
  cases(show T="int" from ty)
  exact⟨typeIs_int s i t,fun _ e=>nomatch e⟩
 |ref p=>
  cases r
  rcases ty with⟨rfl,xs,hq⟩|⟨rfl,o,hk,hc,hd⟩|⟨rfl,hk⟩|⟨rfl,S,n,hk⟩
  ·obtain⟨bz,_,pl,_⟩:=I.list hq
   refine⟨pl.isList.typeIs,fun a e=>?_⟩
   cases e
   obtain⟨o,n,e,c,hd,_⟩:=pl
   exact⟨o,e,hd⟩
  ·refine⟨⟨o,I.kIn p o hk,hc⟩,fun a e=>?_⟩
   cases e
   exact⟨o,I.kIn _ o hk,hd⟩
  ·have z:∃o,s.heap.get? p=some o/\o.ExactDict:=by
    rcases hk with⟨kvs,hk⟩|⟨kvs,hk⟩
    ·obtain⟨_,_,_,_,o,_,_,e,ex,_⟩:=I.hok p _ hk
     exact⟨o,e,ex⟩
    ·obtain⟨_,_,_,_,o,_,_,e,ex,_⟩:=I.hok p _ hk
     exact⟨o,e,ex⟩
   obtain⟨o,e,ex⟩:=z
   refine⟨⟨o,e,ex.1⟩,fun a e2=>?_⟩
   cases e2
   exact⟨o,e,ex.2.1⟩
  ·obtain⟨o,_,_,_,e,ex,_⟩:=I.hok p _ hk
   refine⟨⟨o,e,ex.1⟩,fun a e2=>?_⟩
   cases e2
   exact⟨o,e,ex.2.1⟩
 |_=>exact False.elim ty
variable{o:Expr}{to:TE}{t:TA}{T:String}{r:V->List V->Hp->VK->Prop}
end
def Qm(X:Cx)(id:String)(r:V->List V->Hp->VK->Prop):Prop:=
 ∀(pins:List (Addr×Obj)) (s:Shared) (σ:St) (H:Hp) (x:V) (xs:List V) (v:Value) (us:List Value) (Q:VK),bw X pins σ H s->bS x v->cp xs us->r x xs H Q ->
  wpAny (model X.prog X.w) X.A (call (.builtin id) (v::us)) (EP X pins σ Q) X.xe s
theorem cp.one:∀{x:V} {us:List Value},cp [x] us->∃u,us=[u]/\bS x u
 |_,_,.cons r .nil=>⟨_,rfl,r⟩
theorem cp.two:∀{x y:V} {us:List Value},cp [x,y] us->∃u v,us=[u,v]/\bS x u/\bS y v
 |_,_,_,.cons r (.cons q .nil)=>⟨_,_,rfl,r,q⟩
theorem cp.zero:∀{us:List Value},cp [] us->us=[]
 |_,.nil=>rfl
theorem cp.dropLast{xs:List V}(h:cp xs us):cp xs.dropLast us.dropLast:=by
 induction h with
 |nil=>exact .nil
 |cons r t ih=>
  cases t with
  |nil=>exact .nil
  |cons q t'=>exact .cons r ih
theorem zh(l:List α):l.eraseIdx (l.length-1)=l.dropLast:=by
 induction l with
 |nil=>rfl
 |cons a r ih=>
  cases r with
  |nil=>rfl
  |cons b r=>
   have e:(a::b::r).length-1=((b::r).length-1)+1:=by
    have h1:(a::b::r).length=r.length+2:=rfl
    have h2:(b::r).length=r.length+1:=rfl
    omega
   rw[e,List.eraseIdx_cons_succ,ih]
   all_goals rfl
section
variable{l:Addr}{xs ys zs:List V}
theorem bw.lset{its':List Value}{f:Array Value->Array Value}{t':Nat}(I:bw X pins σ H s)(hH:H l=some (.lst xs))
  (e:s.heap.get? l=some { cls:=.type "list",data:=.seq bz.toArray n }) (hf:f bz.toArray=its'.toArray) (hv:cp ys its') (hz:ys.length<=sizeLine) :
  bw X pins σ (eL H l (.lst ys)) { s with heap:=s.heap.update l (Obj.mapSeq f),toks:=t' }:=by
 have q:=PySem.IsL.update e f
 rw[hf]at q
 refine I.write (x:=l) (e:=l) (by rw[hH];exact trivial) (.inl rfl) (fun b' u hb hu=>(ik s.heap (Obj.mapSeq f) (Ne.symm hb)).trans hu) ⟨_,q⟩ ?_
 exact⟨hz,its',_,hv,q⟩
theorem bw.lnew{t':Nat}(I:bw X pins σ H s)(hv:cp ys bz)(hz:ys.length<=sizeLine) :
  bw X pins σ (eL H s.heap.objs.size (.lst ys)) { s with heap:=s.heap.push { cls:=.type "list",data:=.seq bz.toArray },toks:=t' }:=
 I.laid (fun _ _ q=>ar _ q) (aw _) ⟨hz,bz,0,hv,aU _ rfl⟩
theorem bw.fresh(I:bw X pins σ H s):H s.heap.objs.size=none:=I.hok.fresh (aw _)
theorem bw.lstM(I:bw X pins σ H s)(hH:H l=some (.lst xs)):xs.length<=sizeLine/\∃(bz:List Value) (n:Nat),cp xs bz/\xs.length=bz.length/\s.heap.get? l=some { cls:=.type "list",data:=.seq bz.toArray n }:=by
 obtain⟨z,bz,n,r,e⟩:=I.hok l _ hH
 exact⟨z,bz,n,r,r.length,e⟩
theorem xk(h:n<=sizeLine):Builtin.List.listTooLong n=false:=by
 unfold Builtin.List.listTooLong
 exact aV (by omega)
end
section
def AK:V->List V->Hp->VK->Prop:=fun x vs H Q=>∃l xs y,x=.ref l/\vs=[y]/\H l=some (.lst xs)/\xs.length<sizeLine/\Q .non (eL H l (.lst (xs++[y])))
theorem Cn:Qm X "list.append" AK:=by
 intro pins s σ H x vs v us Q I rx rv h
 obtain⟨l,xs,y,rfl,rfl,hH,hz,q⟩:=h
 cases rx
 obtain⟨u,rfl,ru⟩:=rv.one
 obtain⟨z,bz,n,r,hl,e⟩:=I.lstM hH
 refine j6 F.slot_list_append ⟨_,e,rfl⟩ F.entry_list_append (F.args_list_append_2 _ _) (PySem.list_append l bz.toArray n u (by rw[aD];omega)) ⟨e,?_⟩
 refine⟨.non,_,I.lset (its':=bz++[u]) hH e (by simp) (r.append (.cons ru .nil)) ?_,rfl,q⟩
 rw[aF,gk]
 omega
def Ih:V->List V->Hp->VK->Prop:=fun x vs H Q=>∃l b xs zs,x=.ref l/\vs=[.ref b]/\H l=some (.lst xs)/\H b=some (.lst zs)/\xs.length+zs.length<=sizeLine/\Q .non (eL H l (.lst (xs++zs)))
theorem Co:Qm X "list.extend" Ih:=by
 intro pins s σ H x vs v us Q I rx rv h
 obtain⟨l,b,xs,zs,rfl,rfl,hH,hB,hz,q⟩:=h
 cases rx
 obtain⟨u,rfl,ru⟩:=rv.one
 cases ru
 obtain⟨z,bz,n,r,hl,e⟩:=I.lstM hH
 obtain⟨z2,its2,n2,r2,hl2,e2⟩:=I.lstM hB
 have hsz:bz.toArray.size+its2.toArray.size<=sizeLine:=by rw[aD,aD];omega
 have hlong:¬ (!bz.toArray.isEmpty&&Builtin.List.listTooLong (bz.toArray.size+its2.toArray.size))=true:=by
  rw[xk hsz,Bool.and_false]
  exact bT
 refine j6 F.slot_list_extend ⟨_,e,rfl⟩ F.entry_list_extend (F.args_list_extend_2 _ _)
  (AutoSeq1.list_extend_list_list_0 l bz.toArray n b its2.toArray n2 hlong (by rw[aD];omega) (by omega)) ⟨e,e2,?_⟩
 refine⟨.non,_,I.lset (its':=bz++its2) hH e (by simp) (r.append r2) ?_,rfl,q⟩
 rw[aF]
 omega
def Qn:V->List V->Hp->VK->Prop:=fun x vs H Q=>∃l xs y,x=.ref l/\vs=[]/\H l=some (.lst xs)/\xs[xs.length-1]?=some y/\Q y (eL H l (.lst xs.dropLast))
theorem MM:Qm X "list.pop" Qn:=by
 intro pins s σ H x vs v us Q I rx rv h
 obtain⟨l,xs,y,rfl,rfl,hH,hy,q⟩:=h
 cases rx
 have hus:=rv.zero
 subst hus
 obtain⟨z,bz,n,r,hl,e⟩:=I.lstM hH
 obtain⟨u,hu,ru⟩:=r.get hy
 have Dn:bz.toArray[bz.toArray.size-1]?=some u:=by
  show bz.toArray[bz.length-1]?=some u
  rw[<- Array.getElem?_toList,<- hl]
  exact hu
 refine j6 F.slot_list_pop ⟨_,e,rfl⟩ F.entry_list_pop (F.args_list_pop_1 _) (MeetsSeq.list_pop_last l bz.toArray n u Dn (by rw[aD];omega)) ⟨e,?_⟩
 refine⟨y,_,I.lset (its':=bz.dropLast) hH e ?_ r.dropLast ?_,ru,q⟩
 ·show bz.toArray.eraseIdxIfInBounds (bz.toArray.size-1)=bz.dropLast.toArray
  rw[aD,List.eraseIdxIfInBounds_toArray,zh]
 ·rw[List.length_dropLast]
  omega
def TZ:R2:=fun x y H Q=>∃l b xs zs,x=.ref l/\y=.ref b/\H l=some (.lst xs)/\H b=some (.lst zs)/\xs.length+zs.length<=sizeLine/\∀p,H p=none->Q (.ref p) (eL H p (.lst (xs++zs)))
theorem MN:mL X (binaryOp .Add) TZ:=by
 intro pins s σ H x y v u Q I rx ry h
 obtain⟨l,b,xs,zs,rfl,rfl,hH,hB,hz,q⟩:=h
 cases rx
 cases ry
 obtain⟨z,bz,n,r,hl,e⟩:=I.lstM hH
 obtain⟨z2,its2,n2,r2,hl2,e2⟩:=I.lstM hB
 refine PySem.P.add_list e e2 ?_ (by rw[aD,aD];omega)
 have ea:bz.toArray++its2.toArray=(bz++its2).toArray:=by simp
 rw[ea]
 exact⟨.ref _,_,I.lnew (t':=s.toks) (r.append r2) (by rw[aF];omega),rfl,q _ I.fresh⟩
end
section
variable{w:World}
end
section
end
end L2
namespace Att
open PySem PySem.W PySem.Calls PyProof.Rows
theorem q5{P:Params}:∀(ns:List Int) (vs:List Value),WellAll P h vs (ns.map WData.int)->IntsAre vs ns:=by
 intro ns
 induction ns with
 |nil=>
  intro vs w
  rw[dL]at w
  cases w
  exact .nil
 |cons n ns ih=>
  intro vs w
  rw[aG]at w
  cases w with
  |cons a b=>
   cases a
   exact .cons _ _ (ih _ b)
theorem Cp{l:OpenLaw}(hn:l.most=some n){P:Params}{args:List WData}{mq:List Value}
  (wP:l.row.toRowW.claim.pre args=true) (Hv:WellAll P h mq args) :
  ∃a vs ns,mq=[Value.ref a]/\args=[WData.list (ns.map WData.int)]/\h.get? a=some { cls:=.type "list",data:=.seq vs.toArray }/\IntsAre vs ns/\ns.length<=n:=by
 have hsh:WShape.hasAll [] args [.list .int]=true:=(pre_splitW wP).1
 have hc:l.pre.holds [] { args:=args }=true:=(pre_splitW wP).2
 obtain⟨d,r,rfl,h1,h2⟩:=hasAllW_cons hsh
 obtain rfl:=hasAllW_nil h2
 obtain⟨xs,rfl,h3⟩:=hasW_list h1
 obtain⟨ns,rfl⟩:=items_int h3
 have dq:ns.length<=n:=by
  unfold OpenLaw.pre at hc
  have h4:(WTm.not (.lt (.lit (.int (n:Int))) (.len (.arg 0)))).holds [] { args:=[.list (ns.map .int)] }=true:=by
   have h4:=(holds_andW hc).1
   rw[hn]at h4
   exact h4
  have h5:=condW_of h4 (w_not (w_lt w_lit (w_len_list (w_arg rfl))))
  rw[ai]at h5
  refine dA fun q=>?_
  have q':(n:Int)<((ns.length:Nat):Int):=by omega
  first
   |(rw[bn q']at h5;exact absurd h5 (by decide))
   |(simp at h5;omega)
 cases Hv with
 |cons w1 w2=>
  cases w2
  cases w1 with
  |list ho m8=>exact⟨_,_,ns,rfl,rfl,ho,q5 ns _ m8,dq⟩
theorem Cq(l:OpenLaw)(args:List WData):l.row.toRowW.claim.post args (.bool true) args=true:=
 postW_of (r:=l.row.toRowW) (X:=(true==true))
  (show WShape.has [] (.bool true) .bool=true by first|rfl|decide|simp[WShape.has,WShape.arms,WShape.armsAll])
  (show(WTm.eq .res (.lit (.bool true))).value [] { args:=args,res:=some (.bool true),after:=args }=some (.bool (true==true))from w_eq_bool (w_res rfl) w_lit) rfl
theorem attach_call{l:OpenLaw}{q:Program}{BX:List Str}{d:DefRec}
  (hn:l.most=some n) (Us:d.params.defaults=[])
  (call:∀(w:World) (s₀ s₁:Shared) (mg mb:Str->Option Value) (fa:Addr) (o:Obj) (pm cd iM:Value) (a:Addr) (vs:List Value) (ns:List Int),
   Ground q BX [] XP w s₀ mg mb s₁.heap->YP w s₁.heap ->
   s₁.heap.get? fa=some o->o.data=.func (docDef d.name d.params d.body d.scope pm cd iM)->s₁.heap.CodeRec cd d.name->mg d.name=some (.ref fa) ->
   s₁.heap.get? a=some { cls:=.type "list",data:=.seq vs.toArray }->IntsAre vs ns->ns.length<=n->s₁.gens=#[] ->
   codeAny (model l.prog w) callerA (.call (.ref fa) ⟨[.ref a],[]⟩) (fun r s'=>r=.ok (.ret (.bool true))/\OldK s₁.heap s'.heap/\s'.os=s₁.os/\AllBare s'.gens) s₁) :
  WalkO q BX XP YP l.row.toRowW d [] (fun f vs=>PySem.call f vs):=by
 intro w s₀ s₁ mg mb G Y fa o pm cd iM dV kV ho hd lD hD hmg hg args mq as wP hlay hrd Hv hlo
 obtain rfl:dV=.none:=Dflts.none hD Us
 obtain rfl:kV=.none:=Dflts.noKw hD
 obtain⟨a,vs,ns,rfl,rfl,hobj,hints,dq⟩:=Cp hn wP Hv
 refine enter_call (il (call w s₀ s₁ mg mb fa o pm cd iM a vs ns G Y ho (fd_plain hd) lD hmg hobj hints dq hg) fun r s' hq=>?_)
 obtain⟨rfl,h2,h3,h4⟩:=hq
 exact⟨.inl ⟨.bool true,.bool true,[],rfl,fun _=>rfl,.bool true,Cq l _,fun _=>⟨List.Pairwise.nil,fun _ hm=>(nomatch hm)⟩⟩,h2,h3,h4⟩
section
variable{w:World}
end
end Att
namespace L2
open PySem PySem.Spec PyProof.Rows
theorem uI:∀{vs:List Value} {ns:List Int},IntsAre vs ns->cp (ns.map V.int) vs
 |_,_,.nil=>.nil
 |_,_,.cons n t h=>.cons ⟨t,rfl⟩ (uI h)
def dS(s:Stmt):Arguments:=match s with
 |.FunctionDef _ a _ _ _ _ _ _ _ _=>a
 |_=>{ posonlyargs:=[],args:=[],vararg:=none,kwonlyargs:=[],kw_defaults:=[],kwarg:=none,defaults:=[] }
def dU(s:Stmt):List Stmt:=match s with
 |.FunctionDef _ _ b _ _ _ _ _ _ _=>b
 |_=>[]
def aR(s:Stmt):Scope:=match s with
 |.FunctionDef _ _ _ _ _ _ sc _ _ _=>sc
 |_=>{ kind:=.function,names:=[],isGenerator:=false,isCoroutine:=false }
structure jK(K:Frag)(x qual:Str)(st:Stmt)(f:Addr)(fd:FuncData):Prop where
 ex:∃(oc:Value) (od:Option Addr) (kV iM pm:Value) (an:Option Addr) (ga ct:Value) (LW:Array (Option Value)),
  fd=fnOf x qual (dS st) (dU st) (aR st) .none kV iM pm an ga ct/\K.lookup f=some ⟨oc,od,.func fd,LW⟩/\codeIn K ga qual=true
 kp:keepIn K (.ref f)=true
section
variable{w:World}
theorem jK.binds{st:Stmt}(F:jK K x qual st f fd)
  (h:∀(kV iM pm:Value) (an:Option Addr) (ga ct:Value) (us:List Value),us.length=ps.length->bindArgs (fnOf x qual (dS st) (dU st) (aR st) .none kV iM pm an ga ct) ⟨us,[]⟩=pure (ps.zip us)):xc K fd ps []:=by
 obtain⟨oc,od,kV,iM,pm,an,ga,ct,LW,rfl,lk,lD⟩:=F.ex
 exact .all (h kV iM pm an ga ct)
theorem vC{st:Stmt}{oc:Value}{od an:Option Addr}{LW:Array (Option Value)}{kV iM pm ga ct:Value}(l:K.lookup f=some ⟨oc,od,.func (fnOf x qual (dS st) (dU st) (aR st) .none kV iM pm an ga ct),LW⟩)
  (c:codeIn K ga qual=true) (k:keepIn K (.ref f)=true):jK K x qual st f (fnOf x qual (dS st) (dU st) (aR st) .none kV iM pm an ga ct):=⟨⟨oc,od,kV,iM,pm,an,ga,ct,LW,rfl,l,c⟩,k⟩
end
theorem DV{k:Nat}(hr:gD k A):A.units+1<cLine:=j7 (Nat.add_le_add_left (by decide:1<=64) _) hr.units
section
theorem pv(i:Nat){pos:Pos}(hN:X.N[i]?=some x:=by rfl)(hv:Pk X.env.scope x:=by first|exact Or.inl rfl|exact Or.inr (Or.inl rfl)|exact Or.inr (Or.inr rfl))(hd:(x==("__debug__":Str))=false:=by decide)
  (lD:(x==("__classdict__":Str))=false:=by decide):PE X (.Name x pos) (PN i):=L' hN hv hd lD
end
def nZ(H H':Hp):Prop:=∀b o,H b=some o->H' b=some o
theorem nZ.refl(H:Hp):nZ H H:=fun _ _ h=>h
section
variable{κ:Type}[DecidableEq κ]
def jL(kvs:List (κ×V))(k:κ):Option V:=(kvs.find? fun kv=>decide (kv.1=k)).map (·.2)
def mZ(kvs:List (κ×V))(k:κ)(v:V):List (κ×V):=
 if (kvs.any fun kv=>decide (kv.1=k))=true then kvs.map (fun kv=>if kv.1=k then(kv.1,v)else kv)else kvs++[(k,v)]
def mM(kvs:List (κ×V))(k:κ):List (κ×V):=kvs.filter fun kv=>decide (kv.1≠k)
theorem no{p:κ×V}{r:List (κ×V)}{k:κ}(e:p.1=k):jL (p::r) k=some p.2:=by simp[jL,bG,e]
theorem pD{p:κ×V}{r:List (κ×V)}{k:κ}(e:¬ p.1=k):jL (p::r) k=jL r k:=by simp[jL,bG,e]
theorem xn(k:κ):∀kvs:List (κ×V),(kvs.any fun kv=>decide (kv.1=k))=(jL kvs k).isSome
 |[]=>rfl
 |p::r=>by
  rw[oI]
  by_cases e:p.1=k
  ·simp only[no e,bn e,Bool.true_or,Option.isSome_some]
  ·rw[pD e,aV e,Bool.false_or];exact xn k r
theorem nq(kvs:List (κ×V))(k:κ)(v:V):(mZ kvs k v).length<=kvs.length+1:=by
 unfold mZ
 split
 ·rw[ai];omega
 ·rw[aF,a9,dP];omega
theorem pz.isSome_eq{o:Option V}{u:Option Value}(r:pz o u):o.isSome=u.isSome:=by
 cases o with
 |none=>cases u with
  |none=>rfl
  |some _=>exact(show False from r).elim
 |some _=>cases u with
  |none=>exact(show False from r).elim
  |some _=>rfl
theorem KV.val{kvs:List (κ×V)}{vs:List (κ×Value)}(r:KV kvs vs)(k:κ):pz (jL kvs k) (valueAt vs k):=by
 unfold KV at r
 induction r with
 |nil=>exact True.intro
 |@cons p q ps qs h t ih=>
  obtain⟨h1,h2⟩:=h
  by_cases e:p.1=k
  ·have e':q.1=k:=h1.symm.trans e
   have b:valueAt (q::qs) k=some q.2:=by simp[valueAt,bG,e']
   rw[no e,b];exact h2
  ·have e':¬ q.1=k:=fun z=>e (h1.trans z)
   have b:valueAt (q::qs) k=valueAt qs k:=by simp[valueAt,bG,e']
   rw[pD e,b];exact ih
theorem KV.any{kvs:List (κ×V)}{vs:List (κ×Value)}(r:KV kvs vs)(k:κ):(kvs.any fun kv=>decide (kv.1=k))=vs.any fun kv=>decide (kv.1=k):=by
 unfold KV at r
 induction r with
 |nil=>rfl
 |cons h t ih=>rw[oI,oI,ih,h.1]
theorem KV.repl{kvs:List (κ×V)}{vs:List (κ×Value)}(r:KV kvs vs)(k:κ)(ry:bS y u) :
  KV (kvs.map fun kv=>if kv.1=k then(kv.1,y)else kv) (vs.map fun kv=>if kv.1=k then(kv.1,u)else kv):=by
 unfold KV at r ⊢
 induction r with
 |nil=>exact .nil
 |@cons p q ps qs h t ih=>
  rw[aG,aG]
  refine .cons ?_ ih
  obtain⟨h1,h2⟩:=h
  by_cases e:p.1=k
  ·rw[ay e,ay (h1.symm.trans e)];exact⟨h1,ry⟩
  ·rw[aC e,aC (fun z=>e (h1.trans z))];exact⟨h1,h2⟩
theorem KV.put{kvs:List (κ×V)}{vs:List (κ×Value)}(r:KV kvs vs)(k:κ)(ry:bS y u):KV (mZ kvs k y) (stored vs k u):=by
 unfold mZ stored
 rw[r.any k]
 by_cases e:(vs.any fun kv=>decide (kv.1=k))=true
 ·rw[ay e,ay e];exact r.repl k ry
 ·rw[aC e,aC e];exact Paired.snoc r ⟨rfl,ry⟩
theorem KV.drop{kvs:List (κ×V)}{vs:List (κ×Value)}(r:KV kvs vs)(k:κ):KV (mM kvs k) (without vs k):=by
 unfold KV at r ⊢
 unfold mM without
 induction r with
 |nil=>exact .nil
 |@cons p q ps qs h t ih=>
  obtain⟨h1,h2⟩:=h
  rw[cZ,cZ]
  by_cases e:p.1=k
  ·have a:¬ decide (p.1≠k)=true:=by simp[e]
   have b:¬ decide (q.1≠k)=true:=by simp[h1.symm.trans e]
   rw[aC a,aC b];exact ih
  ·have e':¬ q.1=k:=fun z=>e (h1.trans z)
   have a:decide (p.1≠k)=true:=by simp[e]
   have b:decide (q.1≠k)=true:=by simp[e']
   rw[ay a,ay b];exact .cons ⟨h1,h2⟩ ih
theorem KV.keys{kvs:List (κ×V)}{vs:List (κ×Value)}(r:KV kvs vs):kvs.map (·.1)=vs.map (·.1):=by
 unfold KV at r
 induction r with
 |nil=>rfl
 |cons h t ih=>rw[aG,aG,ih,h.1]
theorem KV.length{kvs:List (κ×V)}{vs:List (κ×Value)}(r:KV kvs vs):kvs.length=vs.length:=Paired.length r
theorem DW(kvs:List (κ×V))(k:κ):(mM kvs k).length<=kvs.length:=gp _ _
end
theorem rZ{w:World}{k:fZ}(r:bS (kV k) u):(eU P w).is k u=true:=by
 cases k with
 |inl i=>obtain⟨t,e⟩:=(show ∃t,u=Value.int i t from r);subst e;exact wX P w i t
 |inr x=>obtain⟨t,e⟩:=(show ∃t,u=Value.str x t from r);subst e;exact wY P w x t
theorem uJ{w:World}:∀{ks:List fZ} {us:List Value},cp (ks.map kV) us->ItemsAre (eU P w) ks us
 |[],_,r=>by rw[dL]at r;cases r;exact .nil
 |k::ks,_,r=>by
  rw[aG]at r
  cases r with
  |cons h t=>exact .cons (rZ h) (uJ t)
abbrev KT(H:Hp):List (List fZ×V)->List (List fZ×Addr×Value)->Prop:=Paired fun p q=>p.1=q.1/\H q.2.1=some (.tup (p.1.map kV))/\bS p.2 q.2.2
theorem KT.val{kvs:List (List fZ×V)}(r:KT H kvs xs)(k:List fZ):pz (jL kvs k) ((atKey xs k).map (·.2)):=by
 induction r with
 |nil=>exact True.intro
 |@cons p q ps qs h t ih=>
  obtain⟨h1,_,h2⟩:=h
  by_cases e:p.1=k
  ·have e':q.1=k:=h1.symm.trans e
   have b:atKey (q::qs) k=some q.2:=by simp[atKey,bG,e']
   rw[no e,b];exact h2
  ·have e':¬ q.1=k:=fun z=>e (h1.trans z)
   have b:atKey (q::qs) k=atKey qs k:=by simp[atKey,bG,e']
   rw[pD e,b];exact ih
theorem KT.repl{kvs:List (List fZ×V)}(r:KT H kvs xs)(k:List fZ)(ry:bS y u) :
  KT H (kvs.map fun kv=>if kv.1=k then(kv.1,y)else kv) (xs.map (putAt k u)):=by
 induction r with
 |nil=>exact .nil
 |@cons p q ps qs h t ih=>
  rw[aG,aG]
  refine .cons ?_ ih
  obtain⟨h1,h2,h3⟩:=h
  unfold putAt
  by_cases e:p.1=k
  ·rw[ay e,ay (h1.symm.trans e)];exact⟨h1,h2,ry⟩
  ·rw[aC e,aC (fun z=>e (h1.trans z))];exact⟨h1,h2,h3⟩
theorem KT.put{kvs:List (List fZ×V)}(r:KT H kvs xs)(k:List fZ)(hb:H b=some (.tup (k.map kV)))(ry:bS y u) :
  KT H (mZ kvs k y) (storedH xs k b u):=by
 have e:(kvs.any fun kv=>decide (kv.1=k))=(atKey xs k).isSome:=by
  rw[xn,(r.val k).isSome_eq,kS]
 unfold mZ storedH
 rw[e]
 by_cases q:(atKey xs k).isSome=true
 ·rw[ay q,ay q];exact r.repl k ry
 ·rw[aC q,aC q];exact Paired.snoc r ⟨rfl,hb,ry⟩
theorem KT.keeps{kvs:List (List fZ×V)}(r:KT H kvs xs)(ht:∀b ys,H b=some (.tup ys)->H' b=some (.tup ys)):KT H' kvs xs:=
 Paired.mapP r fun _ _ z=>⟨z.1,ht _ _ z.2.1,z.2.2⟩
section
variable{w:World}
theorem Kf{u:HO}(ok:kw P w H h)(e:Rd H a u):eO P w H h a u:=e.ok ok
theorem oh{kvs:List (fZ×V)}(ok:kw P w H h)(e:Rd H a (.dK kvs)):kvs.length<=sizeLine/\(a==sysModules)=false/\∃vs,KV kvs vs/\h.DictOf (eU P w) a vs:=
 show eO P w H h a (.dK kvs)from Kf ok e
theorem AL{kvs:List (fZ×V)}(ok:kw P w H h)(e:H a=some (.dK kvs)):kvs.length<=sizeLine/\(a==sysModules)=false/\∃vs,KV kvs vs/\h.DictOf (eU P w) a vs:=oh ok (.inl e)
theorem vE{ks:List fZ}(ok:kw P w H h)(e:H a=some (.tup (ks.map kV))):(tupleKind (eU P w)).is h ks a:=by
 obtain⟨_,bz,r,o,h1,h2,n,h3⟩:=(show eO P w H h a (.tup (ks.map kV))from ok a _ e)
 exact⟨o,bz.toArray,n,h1,h2,h3,by simpa using uJ r⟩
theorem xo{kvs:List (List fZ×V)}(ok:kw P w H h)(e:Rd H a (.dT kvs)):kvs.length<=sizeLine/\(a==sysModules)=false /\
  ∃xs,KT H kvs xs/\h.DictOfH (tupleKind (eU P w)) a xs:=by
 obtain⟨z,y,xs,r,o,es,ep,h1,h2,h3,h4,h5⟩:=(show eO P w H h a (.dT kvs)from Kf ok e)
 refine⟨z,y,xs,r,o,es,ep,h1,h2,h3,h4,fun x hx=>?_,h5⟩
 have all:∀{l:List (List fZ×V)} {m:List (List fZ×Addr×Value)},KT H l m->∀x∈m,(tupleKind (eU P w)).is h x.1 x.2.1:=by
  intro l m q
  induction q with
  |nil=>intro x hx;exact nomatch hx
  |@cons p q ps qs hq t ih=>
   intro x hx
   rcases aI.mp hx with e|hx
   ·subst e
    exact vE ok (by rw[<- hq.1];exact hq.2.1)
   ·exact ih x hx
 exact all r x hx
theorem Qo{kvs:List (List fZ×V)}(ok:kw P w H h)(e:H a=some (.dT kvs)):kvs.length<=sizeLine/\(a==sysModules)=false /\
  ∃xs,KT H kvs xs/\h.DictOfH (tupleKind (eU P w)) a xs:=xo ok (.inl e)
end
def xq(H:Hp)(a:Addr)(y:V)(r:Option V):Prop:=
 (∃kvs k,Rd H a (.dK kvs)/\y=kV k/\r=jL kvs k)\/∃kvs k b,Rd H a (.dT kvs)/\y=.ref b/\H b=some (.tup (k.map kV))/\r=jL kvs k
def Ii(H:Hp)(a:Addr)(y v:V)(H':Hp):Prop:=
 (∃kvs k,H a=some (.dK kvs)/\y=kV k/\kvs.length<sizeLine/\H'=eL H a (.dK (mZ kvs k v))) \/
 ∃kvs k b,H a=some (.dT kvs)/\y=.ref b/\H b=some (.tup (k.map kV))/\kvs.length<sizeLine/\H'=eL H a (.dT (mZ kvs k v))
theorem Ii.k{kvs:List (fZ×V)}{k:fZ}(e:H a=some (.dK kvs))(hl:kvs.length<sizeLine):Ii H a (kV k) v (eL H a (.dK (mZ kvs k v))):=.inl ⟨kvs,k,e,rfl,hl,rfl⟩
section
variable{r:Value}{o:Option V}
theorem bw.big(I:bw X pins σ H s):sysModules<s.heap.objs.size:=by
 have h:mainGlobals<s.heap.objs.size:=(I.mod.glob.keeps I.bk).lt
 exact qm (by decide) h
theorem Cr(hu:A.units+1<cLine)(I:bw X pins σ H s)(g:xq H a y (some v))(ry:bS y u)(h:∀w' s',bw X pins σ H s'->bS v w'->Q w' s') :
  wpAny (model X.prog X.w) A (getItem (.ref a) u) Q E s:=by
 rcases g with⟨kvs,k,e,ey,l⟩|⟨kvs,k,b,e,ey,eb,l⟩
 ·subst ey
  obtain⟨z,hd,vs,i9,dd⟩:=oh I.hok e
  obtain⟨w',hw,kP⟩:=pz.some_of (v:=v) (o:=valueAt vs k) (by rw[l];exact i9.val k)
  exact lT (rZ ry) dd.mapOf hw (h w' _ (I.tok _) kP)
 ·subst ey
  cases(show u=Value.ref b from ry)
  obtain⟨z,hd,xs,i9,dd⟩:=xo I.hok e
  obtain⟨w',hw,kP⟩:=pz.some_of (v:=v) (o:=(atKey xs k).map (·.2)) (by rw[l];exact i9.val k)
  obtain⟨p,hp,hp2⟩:=a6.mp hw
  refine wpAny_getItem_heap (j8 hu) (vE I.hok eb) dd hp ?_
  rw[hp2]
  exact h w' _ (I.tok _) kP
theorem Ij(hu:A.units+1<cLine)(I:bw X pins σ H s)(g:xq H a y o)(ry:bS y u)(h:∀s',bw X pins σ H s'->Q (.bool (!o.isSome)) s') :
  wpAny (model X.prog X.w) A (compareOp .NotIn u (.ref a)) Q E s:=by
 rcases g with⟨kvs,k,e,ey,l⟩|⟨kvs,k,b,e,ey,eb,l⟩
 ·subst ey
  obtain⟨z,hd,vs,i9,dd⟩:=oh I.hok e
  refine wpAny_notIn_of (rZ ry) hd dd.mapOf ?_
  rw[<- (i9.val k).isSome_eq,<- l]
  exact h _ (I.tok _)
 ·subst ey
  cases(show u=Value.ref b from ry)
  obtain⟨z,hd,xs,i9,dd⟩:=xo I.hok e
  refine wpAny_notIn_heap (j8 hu) (vE I.hok eb) hd dd ?_
  have q:=(i9.val k).isSome_eq
  rw[kS]at q
  rw[<- q,<- l]
  exact h _ (I.tok _)
theorem nL{t':Nat}{ob:HO}(I:bw X pins σ H s)(mu:L_ (H a))(hs:Heap.SameBut a s.heap h')(he:∃q,h'.get? a=some q)(new:eO X.prog X.w (eL H a ob) h' a ob) :
  bw X pins σ (eL H a ob) { s with heap:=h',toks:=t' }:=
 I.write (x:=a) (e:=a) mu (.inl rfl) (fun b q hb z=>(hs.2 b hb).trans z) he new
theorem zk{w:World}{kvs:List (fZ×V)}{vs:List (fZ×Value)}(z:kvs.length<=sizeLine)(hd:(a==sysModules)=false)(i9:KV kvs vs)(dd:h'.DictOf (eU P w) a vs) :
  eO P w H' h' a (.dK kvs):=⟨z,hd,vs,i9,dd⟩
theorem Cs{Q:Unit->Shared->Prop}(hu:A.units+1<cLine)(I:bw X pins σ H s)(g:Ii H a y v H')(ry:bS y u)(rv:bS v r)(h:∀s',bw X pins σ H' s'->Q () s') :
  wpAny (model X.prog X.w) A (setItem (.ref a) u r) Q E s:=by
 rcases g with⟨kvs,k,e,ey,l,eH⟩|⟨kvs,k,b,e,ey,eb,l,eH⟩
 ·subst ey eH
  obtain⟨z,hd,vs,i9,dd⟩:=AL I.hok e
  have hz:vs.length<=sizeLine:=by rw[<- i9.length];exact z
  have hl:(mZ kvs k v).length<=sizeLine:=by have:=nq kvs k v;omega
  refine wpAny_setItem_pairs (hsz:=hz) (rZ ry) dd fun h' dd' hs=>h _ ?_
  have he:∃q,h'.get? a=some q:=let ⟨q,_,_,hq,_⟩:=dd';⟨q,hq⟩
  exact nL I (by rw[e];exact True.intro) hs he (zk hl hd (i9.put k rv) dd')
 ·subst ey eH
  cases(show u=Value.ref b from ry)
  obtain⟨z,hd,xs,i9,dd⟩:=Qo I.hok e
  have hz:xs.length<=sizeLine:=by rw[<- Paired.length i9];exact z
  have hl:(mZ kvs k v).length<=sizeLine:=by have:=nq kvs k v;omega
  refine wpAny_setItem_heap (hsz:=hz) (j8 hu) (vE I.hok eb) dd fun h' dd' hs=>h _ ?_
  obtain⟨q,es,ep,hq,h2,h3,h4,_,h5⟩:=dd'
  refine nL I (by rw[e];exact True.intro) hs ⟨q,hq⟩ ⟨hl,hd,_,(i9.put k eb rv).keeps fun c ys ec=>?_,q,es,ep,hq,h2,h3,h4,h5⟩
  rw[ce (PM ec e (fun z=>nomatch z))]
  exact ec
end
section
variable{kvs:List (fZ×V)}{k:fZ}
theorem Qp{j0:List Value}(I:bw X pins σ H s)(e:H a=some (.dK kvs))(ry:bS (kV k) u)(l:jL kvs k=some v)(hm:j0=[]\/∃x,j0=[x])
  (h:∀w' s',bw X pins σ (eL H a (.dK (mM kvs k))) s'->bS v w'->Q w' s'):wpAny (model X.prog X.w) A (call (.builtin "dict.pop") (.ref a::u::j0)) Q E s:=by
 obtain⟨z,hd,vs,i9,dd⟩:=AL I.hok e
 obtain⟨w',hw,kP⟩:=pz.some_of (v:=v) (o:=valueAt vs k) (by rw[<- l];exact i9.val k)
 have hp:(keyPart u).isSome=true:=by
  cases k with
  |inl i=>obtain⟨t,q⟩:=(show ∃t,u=Value.int i t from ry);subst q;rfl
  |inr x=>obtain⟨t,q⟩:=(show ∃t,u=Value.str x t from ry);subst q;rfl
 have ha:argsOk "dict.pop" ⟨.ref a::u::j0,[]⟩:=by
  rcases hm with q|⟨x,q⟩
  ·subst q;exact PySem.F.args_dict_pop_2 _ _
  ·subst q;exact PySem.F.args_dict_pop_3 _ _ _
 refine mD PySem.F.slot_dict_pop dd.typeIs PySem.F.entry_dict_pop ha (meets_dict_pop_there (eU X.prog X.w) a (rZ ry) j0 hm hp)
  ⟨vs,w',dd,by rw[<- i9.length];exact z,hw,fun h' dd' hs=>h w' _ ?_ kP⟩
 have he:∃q,h'.get? a=some q:=let ⟨q,_,_,hq,_⟩:=dd';⟨q,hq⟩
 exact nL I (by rw[e];exact True.intro) hs he (zk (bu (DW kvs k) z) hd (i9.drop k) dd')
theorem Qq(I:bw X pins σ H s)(e:Rd H a (.dK kvs))(h:∀t s',bw X pins σ H s'->Q (.int kvs.length t) s'):wpAny (model X.prog X.w) A (call (.builtin "len") [.ref a]) Q E s:=by
 obtain⟨z,hd,vs,i9,dd⟩:=oh I.hok e
 refine call_len_dict hd dd (by rw[<- i9.length];rw[kR]at z;omega) ?_
 rw[<- i9.length]
 exact h _ _ (I.tok _)
end
def DY(i:Expr):Prop:=∀ov iv,subscripted i false ov iv=operate [ov,iv] (getItem ov iv)
theorem vF{w:World}{value slice:Expr}{T:String}
  (hl:typeLookup (.type T) "__getitem__"=pure (some (.builtin id))) (hs:DY slice)
  (h:wpAny (model prog w) A (eval value env) (fun o s₁=>wpAny (model prog w) A (eval slice env) (fun i s₂=>s₂.TypeIs o T/\wpAny (model prog w) A (getItem o i) Q E s₂) E s₁) E s) :
  wpAny (model prog w) A (eval (.Subscript value slice pos) env) Q E s:=by
 refine Subscript_ (dZ h (fun o s₁ h₁=>dZ h₁ (fun i s₂ h₂=>?_) fun _ _ x=>x) fun _ _ x=>x)
 obtain⟨hT,h₂⟩:=h₂
 unfold subscriptTail
 refine ah ?_
 rw[getitemInPython_of_ne hT.not_modules]
 refine ah (fE hT hl ?_)
 have fin:wpAny (model prog w) A (subscripted slice false o i) (fun r s₃=>wpAny (model prog w) A (letTemporaryGo value o r >>= fun _=>pure r) Q E s₃) E s₂:=by
  rw[hs o i]
  exact wpAny_operating (dZ h₂ (fun r s₃ h₃=>ah (wpAny_letTemporaryGo (ax h₃))) fun _ _ x=>x)
 first
  |exact ax (ah fin)
  |exact ah (ax (ah fin))
  |exact ah fin
theorem xu{o:Option V}(I:bw X pins σ H s)(g:xq H a y o):s.TypeIs (.ref a) "dict":=by
 rcases g with⟨kvs,k,e,_,_⟩|⟨kvs,k,b,e,_,_,_⟩
 ·obtain⟨_,_,vs,_,dd⟩:=oh I.hok e
  exact dd.typeIs
 ·obtain⟨_,_,xs,_,dd⟩:=xo I.hok e
  exact dd.typeIs
def Qr(td ty:TE):TE:=fun σ H Q=>td σ H fun x H1=>ty σ H1 fun y H2=>∃a v,x=.ref a/\xq H2 a y (some v)/\Q v H2
section
variable{o i value:Expr}{Uv:Pos}{td ty tv:TE}
theorem Ik(hu:X.A.units+1<cLine)(ho:PE X o td)(hi:PE X i ty)(hs:DY i):PE X (.Subscript o i pos) (Qr td ty):=by
 intro pins s σ H Q I h
 refine vF PySem.F.slot_dict_getitem.lookup hs (f6 (ho pins s σ H _ I h) fun u s1 ⟨x,H1,I1,rx,q1⟩=>f6 (hi pins s1 σ H1 _ I1 q1) fun iv s2 ⟨y,H2,I2,ry,a,v,ex,g,q2⟩=>?_)
 subst ex
 obtain rfl:u=Value.ref a:=rx
 exact⟨xu I2 g,Cr hu I2 g ry fun w' s3 I3 kP=>⟨v,H2,I3,kP,q2⟩⟩
end
theorem xy{w:World}(h:Heap)(hb:sysModules<h.objs.size):eO P w H (h.push { cls:=.type "dict",data:=.dict #[] }) h.objs.size (.dK []):=
 ⟨dB _,aX.mpr (Ne.symm (bE hb)),[],.nil,Heap.DictOf.new h⟩
def MO:TE:=fun _ H Q=>∀p,H p=none->Q (.ref p) (eL H p (.dK []))
section
theorem DZ:PE X (.Dict [] [] pos) MO:=fun pins s σ H Q I h=>
 wpAny_Dict_empty ⟨.ref s.heap.objs.size,_,I.laid (a:=s.heap.objs.size) (o:=.dK []) (t':=s.toks) (fun _ _ q=>ar _ q) (aw _) (xy s.heap I.big),rfl,h _ (I.hok.fresh (aw _))⟩
end
def vG:List (TE×TE)->St->Hp->(List (V×V)->Hp->Prop)->Prop
 |[],_,H,Q=>Q [] H
 |(tk,tv)::r,σ,H,Q=>tk σ H fun x H1=>tv σ H1 fun y H2=>vG r σ H2 fun ps H3=>Q ((x,y)::ps) H3
abbrev VV:List (V×V)->List (Value×Value)->Prop:=Paired fun p q=>bS p.1 q.1/\bS p.2 q.2
def Qs(X:Cx)(pos:Pos)(keys:List (Option Expr))(jZ:List Expr)(Av:List (TE×TE)):Prop:=
 ∀(pins:List (Addr×Obj)) (s:Shared) (σ:St) (H:Hp) (Q:List (V×V)->Hp->Prop),bw X pins σ H s->vG Av σ H Q ->
  wpAny (model X.prog X.w) X.A (evalPairs (pairTrees keys jZ X.env pos)) (fun vs s'=>∃ps H',bw X pins σ H' s'/\VV ps vs/\Q ps H') X.xe s
theorem Il:Qs X pos [] [] []:=fun pins s σ H Q I h=>pairTrees_nil_walk ⟨[],H,I,.nil,h⟩
theorem D0{k v:Expr}{vs:List Expr}{tk tv:TE}{Av:List (TE×TE)}(hk:PE X k tk)(hv:PE X v tv)(hr:Qs X pos ks vs Av) :
  Qs X pos (some k::ks) (v::vs) ((tk,tv)::Av):=fun pins s σ H Q I h=>
 pairTrees_cons_walk (f6 (hk pins s σ H _ I h) fun u s1 ⟨x,H1,I1,rx,q1⟩=>f6 (hv pins s1 σ H1 _ I1 q1) fun w2 s2 ⟨y,H2,I2,ry,q2⟩=>
  f6 (hr pins s2 σ H2 _ I2 q2) fun ws s3 ⟨ps,H3,I3,i9,q3⟩=>⟨(x,y)::ps,H3,I3,.cons ⟨rx,ry⟩ i9,q3⟩)
def nr(kvs j0:List (fZ×V)):List (fZ×V):=j0.foldl (fun acc kv=>mZ acc kv.1 kv.2) kvs
theorem KV.merge:∀{j0:List (fZ×V)} {rs:List (fZ×Value)} {kvs:List (fZ×V)} {vs:List (fZ×Value)},KV j0 rs->KV kvs vs->KV (nr kvs j0) (merged vs rs):=by
 intro j0 rs kvs vs r
 unfold KV at r
 induction r generalizing kvs vs with
 |nil=>intro q;exact q
 |@cons p q ps qs h t ih=>
  intro r0
  have e:KV (mZ kvs p.1 p.2) (stored vs q.1 q.2):=by
   have:=r0.put p.1 h.2
   rw[<- h.1];exact this
  exact ih e
theorem om:∀(j0 kvs:List (fZ×V)),(nr kvs j0).length<=kvs.length+j0.length
 |[],kvs=>by show kvs.length<=kvs.length+0;omega
 |p::r,kvs=>by
  have h1:=om r (mZ kvs p.1 p.2)
  have h2:=nq kvs p.1 p.2
  show(nr (mZ kvs p.1 p.2) r).length<=_
  rw[a9];omega
theorem r6{P:Program}{w:World}:∀{kvs:List (fZ×V)} {ws:List (Value×Value)},VV (kvs.map fun kv=>(kV kv.1,kv.2)) ws->∃rs,Carries (eU P w) ws rs/\KV kvs rs
 |[],_,r=>by rw[dL]at r;cases r;exact⟨[],True.intro,.nil⟩
 |p::kvs,_,r=>by
  rw[aG]at r
  cases r with
  |@cons a b as bs h t=>
   obtain⟨rs,c,q⟩:=r6 (P:=P) (w:=w) t
   obtain⟨b1,b2⟩:=b
   exact⟨(p.1,b2)::rs,⟨rZ h.1,rfl,c⟩,.cons ⟨rfl,h.2⟩ q⟩
def Qt(Av:List (TE×TE)):TE:=fun σ H Q=>∀p,H p=none->vG Av σ (eL H p (.dK [])) fun ps H2=>H2 p=some (.dK [])/\∃kvs:List (fZ×V),ps=kvs.map (fun kv=>(kV kv.1,kv.2))/\kvs.length<=15/\Q (.ref p) (eL H2 p (.dK (nr [] kvs)))
theorem Im{keys:List (Option Expr)}{jZ:List Expr}{Av:List (TE×TE)}(h:Qs X pos keys jZ Av)(m8:keys.all (·.isSome)=true)(hl:keys.length=jZ.length)(h0:keys≠[])
  (Uo:keys.length<=15):PE X (.Dict keys jZ pos) (Qt Av):=by
 intro pins s σ H Q I q
 have hn:=I.hok.fresh (aw s.heap.objs.size)
 have I1:=I.laid (a:=s.heap.objs.size) (o:=.dK []) (h':=s.heap.push { cls:=.type "dict",data:=.dict #[] }) (t':=s.toks) (fun _ _ q=>ar _ q) (aw _) (xy s.heap I.big)
 refine wpAny_Dict_walk (knd:=eU X.prog X.w) m8 hl h0 Uo (f6 (h pins _ σ _ _ I1 (q _ hn)) fun ws s2 ⟨ps,H2,I2,i9,e,kvs,ep,lk,q2⟩=>?_)
 subst ep
 obtain⟨rs,c,rk⟩:=r6 (P:=X.prog) (w:=X.w) i9
 obtain⟨z,hd,vs0,r0,dd⟩:=AL I2.hok e
 cases r0
 refine⟨rs,c,dd,fun h' dd' hs=>⟨.ref s.heap.objs.size,_,?_,rfl,q2⟩⟩
 have hz:(nr [] kvs).length<=sizeLine:=by
  have h1:=om kvs []
  rw[dP]at h1
  rw[kR];omega
 have he:∃q,h'.get? s.heap.objs.size=some q:=let ⟨q,_,_,hq,_⟩:=dd';⟨q,hq⟩
 exact nL I2 (by rw[e];exact True.intro) hs he (zk hz hd (rk.merge .nil) dd')
structure M1(X:Cx)(o:Expr)(m:Str)(fK:Pos)(e:Expr)(dk:Pos):Prop where
 base:attributeBase o m X.env (eval o X.env)=eval o X.env
 few:((backTo dk (starEach [e] X.env)).all (fun x=>!x.1)&&(backToKw dk (keywordEach [] X.env)).all (fun x=>x.1.isSome)
  && decide (([e]:List Expr).length+([]:List Keyword).length+(if ([]:List Keyword).isEmpty then 0 else 1)<30))=true
 line:(fK.endLine==dk.line)=true
 trees:backTo dk (starEach [e] X.env)=[(false,eval e X.env)]
structure M2(X:Cx)(o:Expr)(m:Str)(fK:Pos)(e f:Expr)(dk:Pos):Prop where
 base:attributeBase o m X.env (eval o X.env)=eval o X.env
 few:((backTo dk (starEach [e,f] X.env)).all (fun x=>!x.1)&&(backToKw dk (keywordEach [] X.env)).all (fun x=>x.1.isSome)
  && decide (([e,f]:List Expr).length+([]:List Keyword).length+(if ([]:List Keyword).isEmpty then 0 else 1)<30))=true
 line:(fK.endLine==dk.line)=true
 trees:backTo dk (starEach [e,f] X.env)=[(false,eval e X.env),(false,eval f X.env)]
def UJ(H:Hp)(a:Addr):Prop:=(∃kvs,Rd H a (.dK kvs))\/∃kvs,Rd H a (.dT kvs)
theorem MP(I:bw X pins σ H s)(d:UJ H a) :
  s.TypeIs (.ref a) "dict"/\(∀b,Value.ref a=.ref b->∃ob,s.heap.get? b=some ob/\ob.dict=none)/\(a==sysModules)=false:=by
 rcases d with⟨kvs,e⟩|⟨kvs,e⟩
 ·obtain⟨_,hd,vs,_,dd⟩:=oh I.hok e
  refine⟨dd.typeIs,fun b q=>?_,hd⟩
  cases q
  obtain⟨ob,_,_,h1,h2,_⟩:=dd
  exact⟨ob,h1,h2.2.1⟩
 ·obtain⟨_,hd,xs,_,dd⟩:=xo I.hok e
  refine⟨dd.typeIs,fun b q=>?_,hd⟩
  cases q
  obtain⟨ob,_,_,h1,h2,_⟩:=dd
  exact⟨ob,h1,h2.2.1⟩
section
variable{d:V}{r:Value}{o:Option V}
end
def MQ(td ty:TE):TE:=fun σ H Q=>td σ H fun x H1=>∃a,x=.ref a/\UJ H1 a/\ty σ H1 fun y H2=>∃kvs k v,H2 a=some (.dK kvs)/\y=kV k/\jL kvs k=some v/\Q v (eL H2 a (.dK (mM kvs k)))
section
variable{o f:Expr}{td ty tx:TE}
theorem D1(ho:PE X o td)(he:PE X e ty)(m:M1 X o "pop" fK e dk):PE X (.Call (.Attribute o "pop" fK) [e] [] dk) (MQ td ty):=by
 intro pins s σ H Q I h
 refine wpAny_Call_method m.base m.few m.line PySem.F.plainAttrs_dict PySem.F.slot_dict_pop PySem.F.type_dict_pop (f6 (ho pins s σ H _ I h) fun u s1 ⟨x,H1,I1,rx,a,ex,d,q1⟩=>?_)
 subst ex
 obtain rfl:u=Value.ref a:=rx
 obtain⟨t1,t2,_⟩:=MP I1 d
 refine⟨t1,t2,?_⟩
 rw[m.trees]
 refine f9 rfl (i_ (fg (f6 (he pins s1 σ H1 _ I1 q1) fun iv s2 ⟨y,H2,I2,ry,kvs,k,v,ea,ey,l,q2⟩=>gw ?_)))
 subst ey
 exact Qp I2 ea ry l (.inl rfl) fun w' s3 I3 kP=>⟨v,_,I3,kP,q2⟩
end
section
variable{kvs:List (fZ×V)}
end
section
end
section
end
section
variable{κ:Type}[DecidableEq κ]
theorem Ct{p:κ×V}{r:List (κ×V)}{k:κ}(e:p.1=k):mM (p::r) k=mM r k:=by
 unfold mM
 rw[cZ,aC (by simp[e])]
theorem Cu{p:κ×V}{r:List (κ×V)}{k:κ}(e:¬ p.1=k):mM (p::r) k=p::mM r k:=by
 unfold mM
 rw[cZ,ay (by simp[e])]
end
end L2
set_option maxHeartbeats 4000000
namespace L2
open PySem PySem.Spec PyProof.Rows
abbrev bH(X:Cx)(nm:List Str)(scope:Scope)(cl:List (Str×Addr))(C:Addr)(s0:Shared)(H0:Hp)(fp:List Addr):Cx:=
 { X with N:=nm,s₀:=s0,H₀:=H0,env:=compEnvC scope cl C X.env,outer:=X.stack,stack:=X.stack,ex:=fp,fn:=fun _=>false,pn:=[],xe:=fun _ _=>False }
def HB(X:Cx)(kC:List Expr)(t:TT):Prop:=
 ∀(pins:List (Addr×Obj)) (s:Shared) (σ:St) (H:Hp) (Q:Bool->Hp->Prop),bw X pins σ H s->t σ H Q ->
  wpAny (model X.prog X.w) X.A (forIn kC true fun c r=>if r=true then do let ok <- isTrue c X.env (eval c X.env);pure (ForInStep.yield ok)else pure (ForInStep.yield r)) (TP X pins σ Q) X.xe s
def T0:TT:=fun _ H Q=>Q true H
theorem Io:HB X [] T0:=fun _ _ _ H _ I h=>wpAny_tests_nil ⟨H,I,h⟩
theorem Ip{t:TT}(hc:PT X c t):HB X [c] t:=fun pins s σ H Q I h=>wpAny_tests_one (hc pins s σ H Q I h)
def oo(cap:List (Option Nat))(σ:St):St:=cap.map fun o=>o.bind fun j=>(σ[j]?).join
def r_(cap:List (Option Nat))(wi:TI)(g:TG)(tc:TT)(te:TE):TE:=fun σ H Q=>wi σ H fun J H1=>∃W:Nat->Nat->List V->Hp->Prop,(∃m,W 0 m [] H1)/\∀i m ys H2,W i m ys H2 ->
 (J.stop i H2/\ys.length<=sizeLine/\∀p,H2 p=none->Q (.ref p) (eL H2 p (.lst ys))) \/
 (J.go i H2/\∀x H3,J.yld i H2 x H3->g x (oo cap σ) H3 fun σ2 H4=>tc σ2 H4 fun b H5=>if b=true then te σ2 H5 fun y H6=>ys.length<sizeLine/\∃m',m'<m/\W (i+1) m' (ys++[y]) H6 else ∃m',m'<m/\W (i+1) m' ys H5)
theorem Un.cellK{fs ex:List Addr}(u:Un fs ex H H' h h'){c:Addr}{v:Option Value}(x:h.IsCell c v)(n:H c=none)(he:c∉ex):h'.IsCell c v:=by
 obtain⟨o,ho,hd⟩:=x
 obtain⟨sl,q⟩:=u.any ho n he
 exact⟨_,q,hd⟩
structure AM(X:Cx)(scope:Scope)(cl:List (Str×Addr))(x:Str):Prop where
 vis:Pk X.env.scope x
 nl:X.env.scope.names.lookup x≠some .local
 cl:cl.lookup x=X.env.cells.lookup x
 kd:(relabel scope X.env).names.lookup x=some .cell\/(relabel scope X.env).names.lookup x=some .free
section
variable{g:TG}
theorem Kg{LI:List (Addr×Obj)}{σ2:St}{H1:Hp}{s2:Shared}{C:Addr}
  (yY:∀(i j:Nat),cap[i]?=some (some j)->∃x,nm[i]?=some x/\X.N[j]?=some x/\AM X scope cl x) (dq:cap.length=nm.length)
  (I2:bw X pins σ H1 s2) (Vb:∀b∈fp,∀x c,X.env.cells.lookup x=some c->c≠b)
  (I:bw (bH X nm scope cl C s2 H1 fp) LI σ2 H s):bw (bH X nm scope cl C s2 H1 fp) LI (oo cap σ) H s:=by
 refine⟨I.ok,I.os,I.bare,I.base,?_,I.cell,I.free,I.freeC,I.pin,I.hok,by show(oo cap σ).length=nm.length;unfold oo;rw[ai];exact dq⟩
 obtain⟨m,hn,_⟩:=I.loc
 refine⟨m,hn,fun i x v e1 e2 e3=>?_⟩
 unfold oo at e2
 rw[ak]at e2
 cases hc:cap[i]? with
 |none=>rw[hc]at e2;cases e2
 |some oj=>
  cases oj with
  |none=>rw[hc]at e2;cases e2
  |some j=>
   rw[hc]at e2
   have e2':(σ[j]?).join=some v:=by simpa using e2
   have e2:σ[j]?=some (some v):=by
    cases hs:σ[j]? with
    |none=>rw[hs]at e2';cases e2'
    |some ov=>rw[hs]at e2';simp at e2';rw[e2']
   obtain⟨x',f1,f2,k⟩:=yY i j hc
   have hx:x'=x:=by
    have z:nm[i]?=some x:=e1
    rw[f1]at z;exact a7 z
   subst hx
   obtain⟨m2,_,hl2⟩:=I2.loc
   obtain⟨u,r,l⟩:=hl2 j x' v f2 e2 k.vis
   refine⟨u,r,?_⟩
   rcases l with⟨kl,_⟩|⟨_,c,hcc,fA⟩
   ·exact absurd kl k.nl
   ·refine .inr ⟨k.kd,c,by rw[<- hcc];exact k.cl,?_⟩
    exact I.base.cellK fA (I2.freeC _ _ hcc) fun z=>Vb c z _ _ hcc rfl
theorem vH{prog:Program}{w:World}{A:Around}{E:Value->Shared->Prop}{l:Addr}{u:Value}{Q:Value->Shared->Prop}
  (e:s.heap.get? l=some { cls:=.type "list",data:=.seq bz.toArray n }) (hz:bz.length<sizeLine)
  (h:∀(h':Heap) (n' tk:Nat),h'.get? l=some { cls:=.type "list",data:=.seq (bz++[u]).toArray n' }->(∀b o,b≠l->s.heap.get? b=some o->h'.get? b=some o)->Q .none { s with heap:=h',toks:=tk }) :
  wpAny (model prog w) A (call (.builtin "list.append") [.ref l,u]) Q E s:=by
 refine j6 F.slot_list_append ⟨_,e,rfl⟩ F.entry_list_append (F.args_list_append_2 _ _) (PySem.list_append l bz.toArray n u (by rw[aD];omega)) ⟨e,?_⟩
 have q:=PySem.IsL.update e (fun a=>a.push u)
 have q2:(s.heap.update l (Obj.mapSeq fun x=>x.push u)).get? l=some { cls:=.type "list",data:=.seq (bz++[u]).toArray (if ((bz.toArray.push u).size==bz.toArray.size)=true then n else n+1) }:=by
  rw[show(s.heap.update l (Obj.mapSeq fun x=>x.push u)).get? l=_ from q];simp
 exact h _ _ s.toks q2 fun b o hb ho=>(ik s.heap (Obj.mapSeq _) (Ne.symm hb)).trans ho
structure AN(X:Cx)(pins:List (Addr×Obj))(H:Hp)(s:Shared)(C:Addr)(m:Str->Option Value):Prop where
 ns:s.heap.Ns C m
 fr:H C=none
 nl:C≠X.env.locals
 nf:C∉X.fs
 hi:X.s₀.heap.objs.size<=C
 nc:∀x c,X.env.cells.lookup x=some c->c≠C
 np:∀p∈X.pn++pins,p.1≠C
theorem AN.off{C:Addr}{m:Str->Option Value}(B:AN X pins H s C m)(I:bw X pins σ H s)(hs:Heap.SameBut C s.heap h'):bw X pins σ H { s with heap:=h' }:=I.turned (t':=s.toks) (it:=C) (fun b o hb e=>hs.extBut b o hb e) B.fr B.nl (.inr B.hi) B.nc B.np
theorem uK{use:Option (Value->Sem Unit)}{Qk:VK}{Qv:Value->Shared->Prop}(gv:X.calm=true)(yV:closureFor scope X.env=pure cl)(jc:∀x c,cl.lookup x=some c->X.env.cells.lookup x=some c)
  (f':scope.kind=.function) (tY:∀x∈scope.names,x.2=.local->scope.names.lookup x.1=some .local) (fA:∀y∈scope.names,y.2≠.cell)
  (Hj:∀x,((relabel scope X.env).names.lookup x=some .cell\/(relabel scope X.env).names.lookup x=some .free)->∃c,cl.lookup x=some c)
  (yY:∀(i j:Nat),cap[i]?=some (some j)->∃x,nm[i]?=some x/\X.N[j]?=some x/\AM X scope cl x) (dq:cap.length=nm.length)
  (hi:PI X tg iter wi) (hg:∀C s0 H0 fp,PG (bH X nm scope cl C s0 H0 fp) tg g) (ht:∀C s0 H0 fp,HB (bH X nm scope cl C s0 H0 fp) kC tc)
  (he:∀C s0 H0 fp,PE (bH X nm scope cl C s0 H0 fp) mv te) (hs:∀x,foldedSetIterable iter X.env x=pure x)
  (I:bw X pins σ H s) (h:r_ cap wi g tc te σ H Qk) (fin:∀(s4:Shared) (C D:Addr) (m4:Str->Option Value) (Hn:Hp),bw X pins σ Hn s4->AN X pins Hn s4 C m4->Qk (.ref D) Hn->compPost (model X.prog X.w) X.A X.xe use Qv (.ref D) C (.ok .next) s4) :
  wpAny (model X.prog X.w) X.A (comprehension (.ListComp mv [⟨tg,iter,kC,0⟩] scope pos) scope X.env (firstIterPos [⟨tg,iter,kC,0⟩] pos) (newList []) (firstAsync [⟨tg,iter,kC,0⟩]) (firstIter [⟨tg,iter,kC,0⟩] X.env) use) Qv X.xe s:=by
 refine wpAny_comprehension_free (use:=use) rfl hs yV f' tY (f6 (hi pins s σ H _ I h) fun v s1 h1=>f6 h1 fun UE s2 h2=>?_)
 obtain⟨it,fp,tn,J,H1,e,I2,T,c7,f2,W,⟨m0,w0⟩,turn⟩:=h2
 subst e
 have hfpn:∀b∈fp,b<s2.heap.objs.size:=fun b hb=>let ⟨o,ho,_⟩:=T.obj _ _ c7 b hb;aH ho
 have hfpc:∀b∈fp,∀x c,X.env.cells.lookup x=some c->c≠b:=fun b hb=>(f2 b hb).2.2.2.2.1
 refine eK (wpAny_newFunctionEnv fA (by intro y hy;simp at hy) (fun h₁ hns₁ hsb₁=>?_) f')
 dsimp only at hns₁ hsb₁ ⊢
 generalize hH2:s2.heap.push { cls:=.type "list",dict:=none,data:=.seq ([]:List Value).toArray }=G2 at hns₁ hsb₁ ⊢
 have hC:G2.objs.size=s2.heap.objs.size+1:=by rw[<- hH2,j9]
 have hDC:s2.heap.objs.size≠G2.objs.size:=by rw[hC];exact bE (iQ _)
 have old:∀b o,s2.heap.get? b=some o->h₁.get? b=some o:=fun b o e=>hsb₁.extBut b o (by rw[hC];exact bE (gz (aH e))) (ar _ (hH2▸ar _ e))
 have hacc:h₁.get? s2.heap.objs.size=some { cls:=.type "list",data:=.seq ([]:List Value).toArray }:=hsb₁.extBut _ _ hDC (ar _ (hH2▸aU _ rfl))
 have okB:(bH X nm scope cl G2.objs.size s2 H1 fp).Ok:=by
  refine⟨I2.ok.mod,f',I2.ok.glob,I2.ok.blt,by show s2.heap.objs.size<=G2.objs.size;omega,fun x y c h1 h2=>I2.ok.inj x y c (jc _ _ h1) (jc _ _ h2),fun x hx=>Hj x hx,fun x c h0=>(by cases h0),fun hc=>I2.ok.hd gv,I2.ok.frames,.inl rfl,?_,?_,?_,?_,?_,?_,?_⟩
  ·intro b hb
   exact⟨bE (aY (hfpn b hb) (by show _<=G2.objs.size;omega)),fun x c hx=>hfpc b hb x c (jc _ _ hx)⟩
  ·exact fun b o hb=>I2.bs b o hb
  ·exact bu I2.ok.bsz I2.sz
  ·intro b o hb z
   rcases(f2 b z).2.2.2.1 with q|q
   ·exact I2.ok.noex b o hb q
   ·exact absurd (aH (I2.ok.bs b o hb).1) (Nat.not_lt.mpr q)
  ·intro b hb z
   rcases aI.mp (I2.stkSub b z)with q|q
   ·exact(f2 b hb).2.1 q
   ·exact(f2 b hb).2.2.1 q
  ·exact I2.stack
  ·exact I2.stkFree
 have I4:bw (bH X nm scope cl G2.objs.size s2 H1 fp) [] (oo cap σ) H1 { s2 with heap:=h₁,toks:=s2.toks+([]:List (Str×Value)).length }:=by
  refine Kg yY dq I2 hfpc (σ2:=List.replicate nm.length none) ⟨okB,rfl,I2.bare,Un.kept old,⟨_,hns₁,fun i x v _ e2=>?_⟩,fun x c hx=>?_,?_,fun x c hx=>I2.freeC x c (jc _ _ hx),fun p hp=>absurd hp (by simp),I2.hok.kept old,by simp⟩
  ·rw[hW]at e2;split at e2<;>cases e2
  ·obtain⟨v,hv⟩:=I2.cell x c (jc _ _ hx)
   exact⟨v,hv.keeps old⟩
  ·exact I2.hok.fresh (by show _<=G2.objs.size;omega)
 have hsz0:∀{Hx:Hp} {sx:Shared} {px:List (Addr×Obj)} {σx:St},bw (bH X nm scope cl G2.objs.size s2 H1 fp) px σx Hx sx->Hx s2.heap.objs.size=none->∀{oa:Obj},sx.heap.get? s2.heap.objs.size=some oa->(∀v,oa.data≠.cell v) ->
   bw (bH X nm scope cl G2.objs.size s2 H1 fp) [(s2.heap.objs.size,oa)] σx Hx sx:=fun{Hx sx px σx} Ix hn {oa} ho hd=>Ix.pins_of fun p hp=>by
  have e:p=(s2.heap.objs.size,oa):=by simpa using hp
  subst e
  exact⟨ho,hn,hDC,fun z=>by
   obtain⟨_,o,q,_⟩:=I2.stack.mem z
   exact absurd (aH q) (bD _),hd⟩
 have hfpB:∀{Hx:Hp} {oa:Obj},(∀b∈fp,Hx b=none)->∀b∈fp,pA (bH X nm scope cl G2.objs.size s2 H1 fp) [(s2.heap.objs.size,oa)] Hx b:=fun{Hx oa} hn b hb=>
  ⟨hn b hb,(okB.exf b hb).1,okB.exfs b hb,.inl hb,(okB.exf b hb).2,fun p hp=>by
   have e:p=(s2.heap.objs.size,oa):=by simpa using hp
   subst e
   exact qi (hfpn b hb)⟩
 have hcalmB:(bH X nm scope cl G2.objs.size s2 H1 fp).calm=true:=gv
 have loop:∀sx:Shared,sx={ s2 with heap:=h₁,toks:=s2.toks+([]:List (Str×Value)).length } ->
   codeAny (model X.prog X.w) X.A (.compLoop (.ListComp mv [⟨tg,iter,kC,0⟩] scope pos) 0 (.ref it) (.ref s2.heap.objs.size) (compEnvC scope cl G2.objs.size X.env))
    (compPost (model X.prog X.w) X.A X.xe use Qv (.ref s2.heap.objs.size) G2.objs.size) sx:=by
  rintro sx rfl
  refine codeAny_loop rfl (fun n s'=>∃i ys H',bw (bH X nm scope cl G2.objs.size s2 H1 fp) [] (oo cap σ) H' s'/\tn i s'.heap/\(∀b∈fp,H' b=none)/\H' s2.heap.objs.size=none /\
   (∃bz k,cp ys bz/\s'.heap.get? s2.heap.objs.size=some { cls:=.type "list",data:=.seq bz.toArray k })/\W i n ys H') ?_ m0
   ⟨0,[],H1,I4,T.keep _ _ _ c7 (fun b _ o e=>old b o e),fun b hb=>(f2 b hb).1,I2.fresh,⟨[],0,.nil,hacc⟩,w0⟩
  rintro n s3 ⟨i,ys,H3,I3,jd,fr3,na3,⟨bz,ka,rv,ea⟩,w3⟩
  show wpAny _ X.A ((compTurn (.ListComp mv [⟨tg,iter,kC,0⟩] scope pos) 0 (.ref it) (.ref s2.heap.objs.size) (compEnvC scope cl G2.objs.size X.env)).onRaise (fun x=>do noteFrame x (compEnvC scope cl G2.objs.size X.env);theTreesLotGoes x)) _ _ s3
  refine wpAny_noted ?_
  rw[compTurn_list]
  refine ah (lw ?_)
  have I3p:=hsz0 I3 na3 ea (fun v z=>by cases z)
  rcases turn i n ys H3 w3 with⟨stop,hz,qn⟩|⟨go,step⟩
  ·refine ah (dZ (T.done (bH X nm scope cl G2.objs.size s2 H1 fp) rfl rfl rfl hcalmB i _ s3 _ H3 (fun _ _=>False) I3p (hfpB fr3) jd stop) (fun r s4 hr=>?_) fun _ _ z=>z.elim)
   obtain⟨hr,I4'⟩:=hr
   subst hr
   refine ax ?_
   obtain⟨m4,hn4,_⟩:=id I4'.loc
   have pa:=I4'.pin (s2.heap.objs.size,{ cls:=.type "list",data:=.seq bz.toArray ka }) (by simp)
   have ne:∀b o,s2.heap.get? b=some o->b≠s2.heap.objs.size/\b≠G2.objs.size:=fun b o e=>⟨bE (aH e),bE (by rw[hC];exact gz (aH e))⟩
   have I5:bw X pins σ (eL H3 s2.heap.objs.size (.lst ys)) s4:=by
    refine I2.call' (ch:=fp) I4'.os ⟨fun b o e n hb hx=>?_,fun b o e n hb hx=>?_,fun b o e n hx=>?_,fun b o e hx=>?_,fun b xs e=>?_,fun b o u e=>?_,fun b ps e=>?_⟩ ?_ I4'.bare fun b hb=>?_
    ·exact I4'.base.keep b o e n hb hx
    ·exact I4'.base.slot b o e n hb hx
    ·rw[ce (ne b o e).1];exact I4'.base.free b o e n hx
    ·exact I4'.base.there b o e hx
    ·have q:=I4'.base.tups b xs e
     rw[ce (e_ q na3)];exact q
    ·have q:=I4'.base.frzs b o u e
     rw[ce (e_ q na3)];exact q
    ·obtain⟨mr,q⟩:=I4'.base.tbls b ps e
     exact⟨mr,by rw[ce (e_ q na3)];exact q⟩
    ·intro b o e
     by_cases hb:b=s2.heap.objs.size
     ·subst hb
      rw[dG]at e;cases e
      exact⟨hz,bz,ka,rv,pa.1⟩
     ·rw[ce hb]at e
      exact(I4'.hok b o e).stay (fun c u hc q=>q) (fun c q=>by rw[ce (e_ q na3)];exact q) fun c xs q=>by rw[ce (e_ q na3)];exact q
    ·obtain⟨_,g1,_,g3,g4,g5⟩:=f2 b hb
     exact⟨g3,g1,g4,g5⟩
   have lC:s2.heap.objs.size<=G2.objs.size:=by rw[hC];exact hX _
   exact fin s4 G2.objs.size _ m4 _ I5 ⟨hn4,by rw[ce (Ne.symm hDC)];exact I4'.free,qi (aY I2.lt lC),I2.nofs lC,bu I2.sz lC,fun x c hx z=>(by
    obtain⟨v,o,ho,_⟩:=I2.cell x c hx
    exact absurd (aH ho) (by rw[z];exact Nat.not_lt.mpr lC)),fun p hp z=>(by
    have:=(I2.pin p hp).1
    exact absurd (aH this) (by rw[z];exact Nat.not_lt.mpr lC))⟩ (qn _ na3)
  ·refine ah (dZ (T.item (bH X nm scope cl G2.objs.size s2 H1 fp) rfl rfl rfl hcalmB i _ s3 _ H3 (fun _ _=>False) I3p (hfpB fr3) jd go) (fun r s4 hr=>?_) fun _ _ z=>z.elim)
   obtain⟨u,hr,h4⟩:=hr
   subst hr
   dsimp only
   refine ah (dZ h4 (fun _ s5 h5=>?_) fun _ _ z=>z.elim)
   obtain⟨x,H5,I5,r5,y5,st5,fr5⟩:=h5
   have I5':=I5.pinned (hfpB fr5) (T.obj _ _ st5)
   refine ah (dZ (hg _ _ _ _ _ s5 _ H5 x u _ I5' r5 (step x H5 y5)) (fun _ s6 h6=>?_) fun _ _ z=>z.elim)
   obtain⟨σ6,H6,I6,q6⟩:=h6
   refine ah (dZ (ht _ _ _ _ _ s6 σ6 H6 _ I6 q6) (fun ok s7 h7=>?_) fun _ _ z=>z.elim)
   obtain⟨H7,I7,q7⟩:=h7
   have back:∀{H8:Hp} {s8:Shared} {Su:List V} {its':List Value} {k':Nat},bw (bH X nm scope cl G2.objs.size s2 H1 fp) [] σ6 H8 s8->(∀b∈fp,∀o,s5.heap.get? b=some o->s8.heap.get? b=some o)->(∀b∈fp,H8 b=none)->H8 s2.heap.objs.size=none ->
     cp Su its'->s8.heap.get? s2.heap.objs.size=some { cls:=.type "list",data:=.seq its'.toArray k' }->(∃m',m'<n/\W (i+1) m' Su H8) ->
     ∃m,m<n/\∃i ys H',bw (bH X nm scope cl G2.objs.size s2 H1 fp) [] (oo cap σ) H' s8/\tn i s8.heap/\(∀b∈fp,H' b=none)/\H' s2.heap.objs.size=none /\
      (∃bz k,cp ys bz/\s8.heap.get? s2.heap.objs.size=some { cls:=.type "list",data:=.seq bz.toArray k })/\W i m ys H':=
    fun{H8 s8 Su its' k'} I8 kf f8 n8 rv8 e8 ⟨m',hm,w8⟩=>⟨m',hm,i+1,Su,H8,Kg yY dq I2 hfpc I8,T.keep _ _ _ st5 kf,f8,n8,⟨its',k',rv8,e8⟩,w8⟩
   cases ok with
   |false=>
    refine ax ⟨rfl,?_⟩
    have q7':∃m',m'<n/\W (i+1) m' ys H7:=by simpa using q7
    have pa:=I7.pin (s2.heap.objs.size,{ cls:=.type "list",data:=.seq bz.toArray ka }) (by simp)
    refine back (I7.pins_of fun p hp=>absurd hp (by simp)) (fun b hb o e=>?_) (fun b hb=>?_) pa.2.1 rv pa.1 q7'
    ·exact(I7.pin (b,o) (aW _ (aW _ (iH hb e)))).1
    ·obtain⟨o,e,d⟩:=T.obj _ _ st5 b hb
     exact(I7.pin (b,o) (aW _ (aW _ (iH hb e)))).2.1
   |true=>
    rw[ay rfl]at q7
    refine ah (ah (dZ (he _ _ _ _ _ s7 σ6 H7 _ I7 q7) (fun xv s8 h8=>?_) fun _ _ z=>z.elim))
    obtain⟨y,H8,I8,r8,hzy,q8⟩:=h8
    have pa:=I8.pin (s2.heap.objs.size,{ cls:=.type "list",data:=.seq bz.toArray ka }) (by simp)
    refine ah (vH pa.1 (by rw[<- rv.length];exact hzy) fun h' k' tk e9 sb=>?_)
    refine ax (ax ⟨rfl,?_⟩)
    have I9:bw (bH X nm scope cl G2.objs.size s2 H1 fp) [] σ6 H8 { s8 with heap:=h',toks:=tk }:=
     (bw.pins_of (pins':=[]) I8 fun p hp=>absurd hp (by simp)).turned (it:=s2.heap.objs.size) (fun b o hb e=>sb b o hb e) pa.2.1 hDC (.inr (aw _)) (fun x c hx z=>by
      obtain⟨v,hv⟩:=I2.cell x c (jc _ _ hx)
      exact absurd hv.lt (by rw[z];exact bD _)) (fun p hp=>absurd hp (by simp))
    refine back I9 (fun b hb o e=>?_) (fun b hb=>?_) pa.2.1 (rv.append (.cons r8 .nil)) e9 q8
    ·exact sb b o (bE (hfpn b hb)) (I8.pin (b,o) (aW _ (aW _ (iH hb e)))).1
    ·obtain⟨o,e,d⟩:=T.obj _ _ st5 b hb
     exact(I8.pin (b,o) (aW _ (aW _ (iH hb e)))).2.1
 exact codeAny_compStart_list (loop _ rfl) (T.self _ _ _ _ _ (T.keep _ _ _ c7 fun b _ o e=>old b o e) (loop _ rfl))
theorem AO(gv:X.calm=true)(yV:closureFor scope X.env=pure cl)(jc:∀x c,cl.lookup x=some c->X.env.cells.lookup x=some c)
  (f':scope.kind=.function) (tY:∀x∈scope.names,x.2=.local->scope.names.lookup x.1=some .local) (fA:∀y∈scope.names,y.2≠.cell)
  (Hj:∀x,((relabel scope X.env).names.lookup x=some .cell\/(relabel scope X.env).names.lookup x=some .free)->∃c,cl.lookup x=some c)
  (yY:∀(i j:Nat),cap[i]?=some (some j)->∃x,nm[i]?=some x/\X.N[j]?=some x/\AM X scope cl x) (dq:cap.length=nm.length)
  (hi:PI X tg iter wi) (hg:∀C s0 H0 fp,PG (bH X nm scope cl C s0 H0 fp) tg g) (ht:∀C s0 H0 fp,HB (bH X nm scope cl C s0 H0 fp) kC tc)
  (he:∀C s0 H0 fp,PE (bH X nm scope cl C s0 H0 fp) mv te) (hs:∀x,foldedSetIterable iter X.env x=pure x:=by intro _;rfl) :
  PE X (.ListComp mv [⟨tg,iter,kC,0⟩] scope pos) (r_ cap wi g tc te):=by
 intro pins s σ H Q I h
 rw[eval_ListComp]
 exact uK gv yV jc f' tY fA Hj yY dq hi hg ht he hs I h fun s4 C D m4 Hn I4 B q=>⟨m4,B.ns,fun h' hs'=>⟨.ref D,Hn,B.off I4 hs',rfl,q⟩⟩
end
def tx(l:List Nat):Str:=⟨l.toArray⟩
theorem MR(l:List Nat):(tx l).cps.toList=l:=rfl
theorem je(l:List Nat):(tx l).length=l.length:=by show l.toArray.size=_;simp
theorem zl(a b:List Nat):tx a++tx b=tx (a++b):=by
 show(⟨a.toArray++b.toArray⟩:Str)=⟨(a++b).toArray⟩
 simp
theorem D2{a b:List Nat}:tx a=tx b↔a=b:=⟨fun h=>by have:=dJ (fun z:Str=>z.cps.toList) h;exact this,fun h=>by rw[h]⟩
def Td(mq:List V):It:=⟨fun i _=>i<mq.length,fun i H x H'=>H'=H/\mq[i]?=some x,fun i _=>mq.length<=i⟩
theorem sd{w:World}{mq:List V}{Pr:Nat->Value->Prop}{S:Nat->Heap->Prop}{ty:String}
  (W:∀A:Around,A.handled=none->Walks P w A it [it] [it] mq.length Pr S) (hv:∀i v,i<mq.length->Pr i v->∃x,mq[i]?=some x/\bS x v)
  (Hm:∀i h,S i h->∃o vs,h.get? it=some o/\o.cls=.type ty/\o.data=.fields vs)
  (yW:["enumerate","zip","dict_itemiterator","dict_reverseitemiterator","odict_iterator","itertools.zip_longest","itertools.pairwise"].contains ty=false)
  (yL:∀(A:Around) (i:Nat) (s:Shared) (Q:Value->Shared->Prop) (E:Value->Shared->Prop),S i s.heap->Q (.ref it) s->wpAny (model P w) A (pyIter (.ref it)) Q E s) :
  Ca P w K tg (Td mq) [it] it (fun i h=>i<=mq.length/\S i h) where
 mem:=by simp
 obj:=fun i h st b hb=>by
  have e:b=it:=by simpa using hb
  subst e
  obtain⟨o,vs,e,c,d⟩:=Hm i h st.2
  exact⟨o,e,fun v z=>by rw[d]at z;cases z⟩
 keep:=fun i h h' st k=>⟨st.1,(W { depth:=0,handled:=none,frames:=none } rfl).frame i h h' st.2 k⟩
 item:=by
  intro X hP hw hK hc i pins s σ H E I hf st hg
  subst hP hw hK
  obtain⟨f0,f1,f2,f3,f4,f5⟩:=hf it (by simp)
  refine(W X.A (I.ok.hd hc)).item i s _ _ hg st.2 fun v h' tk hp bx kk=>?_
  have I1:bw X pins σ H { s with heap:=h',toks:=tk }:=I.turned (fun b o hb e=>kk b o (by simpa using hb) e) f0 f1 f3 f4 f5
  obtain⟨x,hx,rx⟩:=hv i v hg hp
  obtain⟨o,vs,e,c,d⟩:=Hm _ _ bx
  exact⟨v,rfl,AF (s:={ s with heap:=h',toks:=tk }) e c d yW ⟨x,H,I1,rx,⟨rfl,hx⟩,⟨hg,bx⟩,fun b hb=>(hf b hb).1⟩⟩
 done:=by
  intro X hP hw hK hc i pins s σ H E I hf st hg
  subst hP hw hK
  obtain⟨f0,f1,f2,f3,f4,f5⟩:=hf it (by simp)
  have e:i=mq.length:=gc st.1 hg
  refine(W X.A (I.ok.hd hc)).done s _ _ (e▸st.2) fun h' tk kk=>⟨rfl,I.turned (fun b o hb e=>kk b o (by simpa using hb) e) f0 f1 f3 f4 f5⟩
 self:=fun A i s Q E st h=>yL A i s Q E st.2 h
section
def oQ(l:List Nat):List V:=l.map fun c=>.str (tx [c])
def T1(tl:TE):TI:=fun σ H R=>tl σ H fun x H1=>∃l,x=.str (tx l)/\R (Td (oQ l)) H1
theorem Cv(i:Nat)(v:Value)(hi:i<(oQ l).length)(h:SignAt (tx l) i v):∃x,(oQ l)[i]?=some x/\bS x v:=by
 obtain⟨c,u,hc,e⟩:=h
 refine⟨.str (tx [c]),?_,u,e⟩
 unfold oQ
 rw[ak]
 have:l[i]?=some c:=by simpa[tx]using hc
 rw[this];rfl
theorem MS{l:Expr}{tl:TE}(hl:PE X l tl):PI X tg l (T1 tl):=by
 intro pins s σ H R I h
 refine f6 (hl pins s σ H _ I h) fun v s1 ⟨x,H1,I1,r1,q1⟩=>?_
 obtain⟨l,e,q⟩:=q1
 subst e
 obtain⟨t,rfl⟩:=r1
 have hn:(tx l).cps.size=(oQ l).length:=by unfold oQ;simp[tx]
 have fin:∀(ob:Obj) (S:Nat->Heap->Prop) (ty:String),(∀A:Around,A.handled=none->Walks X.prog X.w A s1.heap.objs.size [s1.heap.objs.size] [s1.heap.objs.size] (tx l).cps.size (SignAt (tx l)) S)->S 0 (s1.heap.push ob) ->
   (∀i h,S i h->∃o vs,h.get? s1.heap.objs.size=some o/\o.cls=.type ty/\o.data=.fields vs) ->
   ["enumerate","zip","dict_itemiterator","dict_reverseitemiterator","odict_iterator","itertools.zip_longest","itertools.pairwise"].contains ty=false ->
   (∀(A:Around) (i:Nat) (s:Shared) (Q:Value->Shared->Prop) (E:Value->Shared->Prop),S i s.heap->Q (.ref s1.heap.objs.size) s->wpAny (model X.prog X.w) A (pyIter (.ref s1.heap.objs.size)) Q E s) ->
   TK X pins σ tg R (.ref s1.heap.objs.size) { s1 with heap:=s1.heap.push ob }:=fun ob S ty W h0 Hm yW yL=>by
  rw[hn]at W
  refine⟨s1.heap.objs.size,[s1.heap.objs.size],_,_,H1,rfl,I1.kept (t':=s1.toks) fun b o e=>ar _ e,sd W (fun i v hi hp=>Cv i v hi hp) Hm yW yL,⟨dB _,h0⟩,fun b hb=>?_,q⟩
  have e:b=s1.heap.objs.size:=by simpa using hb
  subst e
  exact I1.fpOk (aw _) I1.fresh
 cases ha:(tx l).cps.all (· < 128)
 ·exact wpAny_pyIter_wide ha (fin _ _ _ (fun A hA=>Walks.strWide hA _ (tx l) t) ⟨_,aU _ rfl,rfl,rfl⟩ (fun i h st=>by obtain⟨o,a,b,c⟩:=st;exact⟨o,_,a,b,c⟩) (by decide) fun A i s Q E st h=>wpAny_pyIter_striter_wide st h)
 ·exact wpAny_pyIter_ascii ha (fin _ _ _ (fun A hA=>Walks.strAscii hA _ (tx l) t) ⟨_,aU _ rfl,rfl,rfl⟩ (fun i h st=>by obtain⟨o,a,b,c⟩:=st;exact⟨o,_,a,b,c⟩) (by decide) fun A i s Q E st h=>wpAny_pyIter_striter_ascii st h)
def Cw(l:List Nat)(lo hi:Option Int):List Nat:=(l.drop (HT.sIx l.length 0 lo)).take (HT.sIx l.length l.length hi-HT.sIx l.length 0 lo)
theorem xz(l:List Nat)(lo hi:Option Int):(Cw l lo hi).length<=l.length:=by unfold Cw;rw[a8,d5];omega
theorem zm(l:List Nat)(i k:Nat):((List.range k).map fun(m:Nat)=>i+m).filterMap (fun j=>l[j]?)=(l.drop i).take k:=by
 induction k generalizing i with
 |zero=>simp
 |succ k ih=>
  rw[io,aG,aT]
  have e:((fun m=>i+m)∘Nat.succ)=fun m=>(i+1)+m:=by funext m;simp[Function.comp];omega
  rw[e]
  by_cases h:i<l.length
  ·rw[fN]
   simp only[mE,ac h]
   rw[ih (i+1),fC h,List.take_succ_cons]
  ·rw[fN]
   have h':l.length<=i:=by omega
   simp only[mE,gq h']
   rw[ih (i+1),mF h',mF (by omega)]
   simp
theorem Kh(v:Int)(n d:Nat):(if (1:Int)>0 then max 0 (min (if v<0 then v+(n:Int)else v) (n:Int))else max (-1) (min (if v<0 then v+(n:Int)else v) ((n:Int)-1)))=((HT.sIx n d (some v):Nat):Int):=by
 rw[ay (by omega)]
 show _=(((if v<0 then(v+(n:Int)).toNat else min v.toNat n):Nat):Int)
 by_cases hv:v<0
 ·simp only[ay hv];omega
 ·simp only[aC hv];omega
theorem MT(lo hi:Option Int)(n:Nat):Builtin.Str.strSliceIndices lo hi 1 n=(List.range (HT.sIx n n hi-HT.sIx n 0 lo)).map fun(m:Nat)=>HT.sIx n 0 lo+m:=by
 have key:∀a b:Nat,sliceRange (a:Int) (b:Int) 1=(List.range (b-a)).map fun(m:Nat)=>a+m:=fun a b=>by
  unfold sliceRange
  have e:(if (1:Int)>0 then(if (a:Int)<(b:Int)then((b:Int)-a+1-1)/1 else 0)else(if (a:Int)>b then((a:Int)-b-1-1)/(-1)else 0)).toNat=b-a:=by
   rw[ay (by omega)]
   by_cases h:(a:Int)<b
   ·rw[ay h];omega
   ·rw[aC h];omega
  dsimp only
  rw[e]
  refine bq fun k _=>?_
  omega
 unfold Builtin.Str.strSliceIndices
 rw[<- key]
 dsimp only
 congr 1
 ·cases lo with
  |none=>rfl
  |some v=>exact Kh v n 0
 ·cases hi with
  |none=>rfl
  |some v=>exact Kh v n n
theorem D3(l:List Nat)(lo hi:Option Int):Txt.slice (tx l) lo hi=tx (Cw l lo hi):=by
 unfold Txt.slice
 rw[MT,je]
 split
 ·rename_i h
  simp only[cH,oJ,b9,ai,cP]at h
  unfold Cw
  have h1:=HT.sIx_le l.length l.length (aw _) hi
  have h2:=HT.sIx_le l.length 0 (dB _) lo
  by_cases hz:l.length=0
  ·have:l=[]:=List.eq_nil_of_length_eq_zero hz
   subst this;simp
  ·have e0:HT.sIx l.length 0 lo=0:=by omega
   rw[e0,List.drop_zero,dM (by omega)]
 ·unfold Cw tx
  have:∀j:Nat,(l.toArray)[j]?=l[j]?:=fun j=>by simp
  simp only[this]
  rw[zm]
def T2:V->Option Int->Option Int->Hp->VK->Prop:=fun x lo hi H Q=>∃l,x=.str (tx l)/\l.length<=sizeLine/\Q (.str (tx (Cw l lo hi))) H
theorem AQ{v:Value}{o:Option Int}(p:IsPart v o):∃q:Option (Int×Tok),v=partValue q/\q.map (·.1)=o:=by
 cases p with
 |none=>exact⟨none,rfl,rfl⟩
 |int i t=>exact⟨some (i,t),rfl,rfl⟩
theorem MU:Qe X T2:=by
 intro pins s σ H x v vl vu lo hi sl Q I rx hs pl pu h
 obtain⟨l,e,hz,q⟩:=h
 subst e
 obtain⟨t,rfl⟩:=rx
 obtain⟨pl',rfl,rfl⟩:=AQ pl
 obtain⟨pu',rfl,rfl⟩:=AQ pu
 refine⟨"str",_,F.slot_str_getitem.lookup,typeIs_str _ _ _,?_⟩
 refine wpAny_getItem_str_slice (l:=pl') (u:=pu') (st:=none) hs rfl (post_val_or_str ?_)
 have e:=D3 l (pl'.map (·.1)) (pu'.map (·.1))
 unfold Txt.slice at e
 show(if ((1:Int)==1&&(Builtin.Str.strSliceIndices (pl'.map (·.1)) (pu'.map (·.1)) 1 (tx l).length).length==(tx l).length)=true then tx l else⟨((Builtin.Str.strSliceIndices (pl'.map (·.1)) (pu'.map (·.1)) 1 (tx l).length).filterMap ((tx l).cps[·]?)).toArray⟩:Str).length<=sizeLine /\
  ∀t' k,EP X pins σ Q (.str (if ((1:Int)==1&&(Builtin.Str.strSliceIndices (pl'.map (·.1)) (pu'.map (·.1)) 1 (tx l).length).length==(tx l).length)=true then tx l else⟨((Builtin.Str.strSliceIndices (pl'.map (·.1)) (pu'.map (·.1)) 1 (tx l).length).filterMap ((tx l).cps[·]?)).toArray⟩:Str) t') { s with toks:=k }
 rw[e,je]
 exact⟨bu (xz l _ _) hz,fun t' k=>⟨.str _,H,I.tok k,⟨t',rfl⟩,q⟩⟩
theorem D4(c:Nat)(l:List Nat):(!(Builtin.Str.occurrences (tx l) (tx [c]) 0 (tx l).length 1).isEmpty)=decide (c∈l):=StrLaws.found_one (tx l) c
def Qu(Ho:Bool):R2:=fun x y H Q=>∃c l,x=.str (tx [c])/\y=.str (tx l)/\Q (.bl (if Ho then !decide (c∈l)else decide (c∈l))) H
theorem Cy:mL X (compareOp .In) (Qu false):=by
 intro pins s σ H x y v u Q I rx ry h
 obtain⟨c,l,rfl,rfl,q⟩:=h
 exact Cf pins s σ H _ _ v u Q I rx ry ⟨_,_,rfl,rfl,by rw[D4];exact q⟩
theorem vI:mL X (compareOp .NotIn) (Qu true):=by
 intro pins s σ H x y v u Q I rx ry h
 obtain⟨c,l,rfl,rfl,q⟩:=h
 exact vx pins s σ H _ _ v u Q I rx ry ⟨_,_,rfl,rfl,by rw[D4];exact q⟩
theorem oR:∀{ys:List (List Nat)} {bz:List Value},cp (ys.map fun l=>V.str (tx l)) bz->StrsAre bz (ys.map tx)
 |[],_,r=>by cases r;exact .nil
 |y::ys,_,r=>by
  cases r with
  |cons r rr=>
   obtain⟨t,rfl⟩:=r
   exact .cons _ _ (oR rr)
theorem oS:∀{bz:List Value} {ss:List Str},StrsAre bz ss->cp (ss.map fun z=>V.str z) bz
 |_,_,.nil=>.nil
 |_,_,.cons y t r=>.cons ⟨t,rfl⟩ (oS r)
def nu(sep:List Nat):List (List Nat)->List Nat
 |[]=>[]
 |[x]=>x
 |x::y::r=>x++sep++nu sep (y::r)
theorem qu:∀ys:List (List Nat),nu [] ys=ys.flatten
 |[]=>rfl
 |[x]=>by simp[nu]
 |x::y::r=>by rw[nu,qu (y::r)];simp
theorem Iq(sep:List Nat):∀ys:List (List Nat),Txt.join (tx sep) (ys.map tx)=tx (nu sep ys):=fun ys=>by
 show Builtin.Str.glued (tx sep) (ys.map tx)=_
 rw[StrLaws.glued_eq_join]
 induction ys with
 |nil=>rfl
 |cons x r ih=>
  cases r with
  |nil=>rfl
  |cons y r=>
   show tx x++tx sep++Str.join (tx sep) ((y::r).map tx)=tx (x++sep++nu sep (y::r))
   rw[ih,zl,zl]
def Qw(K:Frag):V->List V->Hp->VK->Prop:=fun x vs H Q=>∃(sep:List Nat) (a:Addr) (ys:List (List Nat)),x=.str (tx sep)/\vs=[.ref a]/\qr K H a (ys.map fun l=>V.str (tx l))/\(ys.map List.length).sum+ys.length*sep.length<=16777216/\Q (.str (tx (nu sep ys))) H
theorem Ir:Cm X "str.join" (Qw X.K):=by
 intro pins s σ H x vs v us Q I rx rv h
 obtain⟨sep,a,ys,rfl,rfl,hS,hz,q⟩:=h
 obtain⟨t,rfl⟩:=rx
 obtain⟨u,rfl,ru⟩:=rv.one
 cases ru
 obtain⟨bz,r,p,_⟩:=I.list hS
 refine join_list p.isList (oR (by simpa using r)) ?_ fun t' k=>?_
 ·rw[aT,je,ai]
  have e:((fun z:Str=>z.length)∘tx)=List.length:=by funext l;exact je l
  rw[e];exact hz
 ·rw[Iq]
  exact⟨.str _,H,I.tok k,⟨t',rfl⟩,q⟩
end
inductive D where
 |non|bl (b:Bool)|int (i:Int)|str (l:List Nat)|tnil|tcons (d r:D)
 deriving DecidableEq
structure dD(K:Frag)(H H':Hp):Prop where
 t:∀p xs,fy K H p xs->fy K H' p xs
 z:∀b o u,H b=some (.frz o u)->H' b=some (.frz o u)
instance {K:Frag} {H H':Hp}:CoeFun (dD K H H') (fun _=>∀p xs,fy K H p xs->fy K H' p xs):=⟨dD.t⟩
theorem fy.same{K:Frag}(e:nZ H H'):dD K H H':=⟨fun p xs h=>by
 rcases h with(h|⟨o,h⟩)|h
 ·exact .inl (.inl (e _ _ h))
 ·exact .inl (.inr ⟨o,e _ _ h⟩)
 ·exact .inr h,fun b o u h=>e _ _ h⟩
theorem cD{p:Addr}(h:H p=none)(o:HO):nZ H (eL H p o):=fun b u q=>by rw[ce (e_ q h)];exact q
def Qx(l:Addr)(H H':Hp):Prop:=∀b o,b≠l->H b=some o->H' b=some o
theorem fL{l:Addr}{o:HO}:Qx l H (eL H l o):=fun b u h q=>by rw[ce h];exact q
theorem fy.but{l:Addr}{xs:List V}(e:Qx l H H')(hl:H l=some (.lst xs)):dD K H H':=by
 have lu:∀{p:Addr} {o:HO},H p=some o->(∀zs,o≠.lst zs)->p≠l:=fun{p o} q hn z=>by subst z;rw[hl]at q;cases q;exact hn _ rfl
 refine⟨fun p ys h=>?_,fun b o u h=>e _ _ (lu h (fun _ z=>by cases z)) h⟩
 rcases h with(h|⟨o,h⟩)|h
 ·exact .inl (.inl (e _ _ (lu h (fun _ z=>by cases z)) h))
 ·exact .inl (.inr ⟨o,e _ _ (lu h (fun _ z=>by cases z)) h⟩)
 ·exact .inr h
theorem dD.refl:dD K H H:=⟨fun _ _ h=>h,fun _ _ _ h=>h⟩
theorem dD.trans{H1 H2:Hp}(a:dD K H H1)(b:dD K H1 H2):dD K H H2:=⟨fun p xs h=>b p xs (a p xs h),fun c o u h=>b.z c o u (a.z c o u h)⟩
theorem fy.new{p:Addr}{xs:List V}:fy K (eL H p (.tup xs)) p xs:=fy.of dG
section
variable{o:Expr}{to:TE}{t:TA}{r:V->List V->Hp->VK->Prop}
def U5(r:V->List V->Hp->VK->Prop)(to:TE)(t:TA):TE:=fun σ H Q=>to σ H fun x H1=>(∃l ys,x=.ref l/\H1 l=some (.lst ys))/\t σ H1 fun xs H2=>r x xs H2 Q
def U6(r:V->List V->Hp->VK->Prop)(to:TE)(t:TA):TE:=fun σ H Q=>to σ H fun x H1=>(∃l,x=.str (tx l))/\t σ H1 fun xs H2=>r x xs H2 Q
def T3(r:V->List V->Hp->VK->Prop)(to:TE):TE:=fun σ H Q=>to σ H fun x H1=>(∃l ys,x=.ref l/\H1 l=some (.lst ys))/\r x [] H1 Q
theorem xA{x:V}(h:∃l ys,x=.ref l/\H l=some (.lst ys)):Tb K "list" x H:=by
 obtain⟨l,ys,rfl,h⟩:=h
 exact .inl ⟨rfl,_,.of h⟩
theorem Iu{x:V}(h:∃l,x=.str (tx l)):Tb K "str" x H:=by
 obtain⟨l,rfl⟩:=h
 exact rfl
theorem D5{T:String}{ty:V->Hp->Prop}(Ux:∀x H,ty x H->Tb X.K T x H)(pa:PlainAttrs T)(slot:Slot T name id)(yW:typeOf (.builtin id)=pure (.type "method_descriptor"))(hm:Cm X id r)(ho:PE X o to)(ha:PA X (e::es) t)
  (lR:attributeBase o name X.env (eval o X.env)=eval o X.env)
  (wK:((backTo dk (starEach (e::es) X.env)).all (fun x=>!x.1)&&(backToKw dk (keywordEach [] X.env)).all (fun x=>x.1.isSome)
   && decide ((e::es).length+([]:List Keyword).length+(if ([]:List Keyword).isEmpty then 0 else 1)<30))=true)
  (lQ:(fK.endLine==dk.line)=true) (hs:starEach (e::es) X.env=(false,eval e X.env)::starEach es X.env) (mn:(backTo dk (starEach es X.env)).any (·.1)=false) :
  PE X (.Call (.Attribute o name fK) (e::es) [] dk) (fun σ H Q=>to σ H fun x H1=>ty x H1/\t σ H1 fun xs H2=>r x xs H2 Q):=by
 intro pins s σ H Q I h
 refine wpAny_Call_method_late lR wK lQ rfl (f6 (ho pins s σ H _ I h) fun v s1 ⟨x,H1,I1,r1,ty,q1⟩=>?_)
 obtain⟨h1,h2⟩:=DU I1 r1 (Ux _ _ ty)
 refine⟨T,id,pa,slot,yW,h1,h2,?_⟩
 have hA:=ha dk pins s1 σ H1 _ I1 q1
 rw[hs]at hA ⊢
 refine f9 (by show(false||(backTo dk (starEach es X.env)).any (·.1))=false;rw[mn]<;>rfl) (i_ ?_)
 exact f6 hA fun us s2 ⟨vs,H2,I2,r2,q2⟩=>hm pins s2 σ H2 x vs v us Q I2 r1 r2 q2
theorem Qy(slot:Slot "list" name id)(yW:typeOf (.builtin id)=pure (.type "method_descriptor"))(hm:Cm X id r)(ho:PE X o to)(ha:PA X (e::es) t)
  (lR:attributeBase o name X.env (eval o X.env)=eval o X.env:=by rfl)
  (wK:((backTo dk (starEach (e::es) X.env)).all (fun x=>!x.1)&&(backToKw dk (keywordEach [] X.env)).all (fun x=>x.1.isSome)
   && decide ((e::es).length+([]:List Keyword).length+(if ([]:List Keyword).isEmpty then 0 else 1)<30))=true:=by rfl)
  (lQ:(fK.endLine==dk.line)=true:=by rfl) (hs:starEach (e::es) X.env=(false,eval e X.env)::starEach es X.env:=by rfl) (mn:(backTo dk (starEach es X.env)).any (·.1)=false:=by rfl) :
  PE X (.Call (.Attribute o name fK) (e::es) [] dk) (U5 r to t):=D5 (ty:=fun x H1=>∃l ys,x=.ref l/\H1 l=some (.lst ys)) (fun _ _ h=>xA h) F.plainAttrs_list slot yW hm ho ha lR wK lQ hs mn
theorem Qz(slot:Slot "str" name id)(yW:typeOf (.builtin id)=pure (.type "method_descriptor"))(hm:Cm X id r)(ho:PE X o to)(ha:PA X (e::es) t)
  (lR:attributeBase o name X.env (eval o X.env)=eval o X.env:=by rfl)
  (wK:((backTo dk (starEach (e::es) X.env)).all (fun x=>!x.1)&&(backToKw dk (keywordEach [] X.env)).all (fun x=>x.1.isSome)
   && decide ((e::es).length+([]:List Keyword).length+(if ([]:List Keyword).isEmpty then 0 else 1)<30))=true:=by rfl)
  (lQ:(fK.endLine==dk.line)=true:=by rfl) (hs:starEach (e::es) X.env=(false,eval e X.env)::starEach es X.env:=by rfl) (mn:(backTo dk (starEach es X.env)).any (·.1)=false:=by rfl) :
  PE X (.Call (.Attribute o name fK) (e::es) [] dk) (U6 r to t):=D5 (ty:=fun x H1=>∃l,x=.str (tx l)) (fun _ _ h=>Iu h) F.plainAttrs_str slot yW hm ho ha lR wK lQ hs mn
theorem MV(slot:Slot "list" name id)(yW:typeOf (.builtin id)=pure (.type "method_descriptor"))(hm:Cm X id r)(ho:PE X o to)
  (lR:attributeBase o name X.env (eval o X.env)=eval o X.env:=by rfl) (lQ:(fK.endLine==dk.line)=true:=by rfl):PE X (.Call (.Attribute o name fK) [] [] dk) (T3 r to):=by
 intro pins s σ H Q I h
 refine wpAny_Call_method0_late lR lQ (f6 (ho pins s σ H _ I h) fun v s1 ⟨x,H1,I1,r1,ty,q1⟩=>?_)
 obtain⟨h1,h2⟩:=DU I1 r1 (xA ty)
 exact⟨"list",id,F.plainAttrs_list,slot,yW,h1,h2,f9 rfl (PySem.evalArgs_none (hm pins s1 σ H1 x [] v [] Q I1 r1 .nil q1))⟩
end
section
variable{t:TA}
def QB(t:TA):TE:=fun σ H Q=>t σ H fun xs H1=>xs.length<=sizeLine/\∀p H2,H1 p=none->H2=eL H1 p (.tup xs)->Q (.ref p) H2
def QC(t:TA):TE:=fun σ H Q=>t σ H fun xs H1=>xs.length<=sizeLine/\∀p H2,H1 p=none->H2=eL H1 p (.lst xs)->Q (.ref p) H2
theorem Iv{x1}(h:PA X es t):PE X (.Tuple es x1 pos) (QB t):=by
 intro pins s σ H Q I hq
 refine wpAny_Tuple_spliced (f6 (h pos pins s σ H _ I hq) fun us s1 ⟨xs,H1,I1,r,z,q⟩=>⟨by rw[<- r.length];exact z,?_⟩)
 have hf:H1 s1.heap.objs.size=none:=I1.hok.fresh (aw _)
 refine⟨.ref s1.heap.objs.size,eL H1 s1.heap.objs.size (.tup xs),I1.laid (t':=s1.toks) (fun b u e=>ar _ e) (aw _) ?_,rfl,q _ _ hf rfl⟩
 exact⟨z,us,r,⟨_,aU _ rfl,rfl,_,rfl⟩⟩
theorem Iw(h:PA X es t):PE X (.List es pos) (QC t):=by
 intro pins s σ H Q I hq
 refine wpAny_List_spliced (f6 (h pos pins s σ H _ I hq) fun us s1 ⟨xs,H1,I1,r,z,q⟩=>⟨by rw[<- r.length];exact z,?_⟩)
 have hf:H1 s1.heap.objs.size=none:=I1.hok.fresh (aw _)
 refine⟨.ref s1.heap.objs.size,eL H1 s1.heap.objs.size (.lst xs),I1.laid (t':=s1.toks) (fun b u e=>ar _ e) (aw _) ?_,rfl,q _ _ hf rfl⟩
 exact⟨z,us,0,r,aU _ rfl⟩
theorem Cm.imp{r r':V->List V->Hp->VK->Prop}(h:Cm X id r)(i:∀x xs H Q,r' x xs H Q->r x xs H Q):Cm X id r':=fun pins s σ H x xs v us Q I rx rv q=>h pins s σ H x xs v us Q I rx rv (i _ _ _ _ q)
theorem g_.imp{f:Value}{r r':List V->Hp->VK->Prop}(h:g_ X f r)(i:∀xs H Q,r' xs H Q->r xs H Q):g_ X f r':=fun pins s σ H xs us Q I rv q=>h pins s σ H xs us Q I rv (i _ _ _ q)
theorem mL.imp{f:Value->Value->Sem Value}{r r':R2}(h:mL X f r)(i:∀x y H Q,r' x y H Q->r x y H Q):mL X f r':=fun pins s σ H x y v u Q I rx ry q=>h pins s σ H x y v u Q I rx ry (i _ _ _ _ q)
def D6:V->List V->Hp->VK->Prop:=fun x vs H Q=>∃l xs y,x=.ref l/\vs=[y]/\H l=some (.lst xs)/\xs.length<sizeLine/\∀H2,H2=eL H l (.lst (xs++[y]))->Q .non H2
theorem zn:Cm X "list.append" D6:=Cm.imp (r:=AK) Cn fun _ _ _ _ ⟨l,xs,y,a,b,c,d,q⟩=>⟨l,xs,y,a,b,c,d,q _ rfl⟩
def QD:V->List V->Hp->VK->Prop:=fun x vs H Q=>∃l xs y,x=.ref l/\vs=[]/\H l=some (.lst (xs++[y]))/\∀H2,H2=eL H l (.lst xs)->Q y H2
theorem Iy:Cm X "list.pop" QD:=Cm.imp (r:=Qn) MM fun _ _ _ _ ⟨l,xs,y,a,b,c,q⟩=>⟨l,xs++[y],y,a,b,c,by simp,by rw[List.dropLast_concat];exact q _ rfl⟩
def MW:V->V->V->Hp->(Hp->Prop)->Prop:=fun o i v H Q=>∃p xs k j,o=.ref p/\i=.int k/\H p=some (.lst xs)/\AH xs.length k=some j/\∀H2,H2=eL H p (.lst (xs.set j v))->Q H2
theorem Cz:B_ X MW:=fun pins s σ H o i v ov iv u Q I r1 r2 r3 q=>by
 obtain⟨p,xs,k,j,a,b,c,d,q⟩:=q
 exact DT pins s σ H o i v ov iv u Q I r1 r2 r3 ⟨p,xs,k,j,a,b,c,d,q _ rfl⟩
def D7(K:Frag):List V->Hp->VK->Prop:=fun xs H Q=>∃p ys,xs=[.ref p]/\qr K H p ys/\∀l H2,H l=none->H2=eL H l (.tup ys)->Q (.ref l) H2
theorem xB:g_ X (.type "tuple") (D7 X.K):=g_.imp t9 fun _ _ _ ⟨p,ys,a,b,q⟩=>⟨p,ys,a,.inl ⟨b,fun l hl=>q l _ hl rfl⟩⟩
def Iz(K:Frag):List V->Hp->VK->Prop:=fun xs H Q=>∃p ys,xs=[.ref p]/\(qr K H p ys\/fy K H p ys)/\∀l H2,H l=none->H2=eL H l (.lst ys)->Q (.ref l) H2
theorem se:g_ X (.type "list") (Iz X.K):=g_.imp vB fun _ _ _ ⟨p,ys,a,b,q⟩=>⟨p,ys,a,b,fun l hl=>q l _ hl rfl⟩
def QF:R2:=fun x y H Q=>∃l b xs zs,x=.ref l/\y=.ref b/\H l=some (.lst xs)/\H b=some (.lst zs)/\xs.length+zs.length<=sizeLine/\∀p H2,H p=none->H2=eL H p (.lst (xs++zs))->Q (.ref p) H2
theorem IA:mL X (binaryOp .Add) QF:=mL.imp MN fun _ _ _ _ ⟨l,b,xs,zs,h1,h2,h3,h4,h5,q⟩=>⟨l,b,xs,zs,h1,h2,h3,h4,h5,fun p hp=>q p _ hp rfl⟩
end
def D8(T:String):Prop:=T="tuple"\/T="bool"\/T="int"\/T="str"
end L2
namespace L2
end L2
namespace L2
open PySem PySem.Spec PyProof.Rows
structure QE(X:Cx)(e:Expr)(t:TE):Prop where
 h:PE X e t
structure QA(X:Cx)(es:List Expr)(t:TA):Prop where
 h:PA X es t
structure QS(X:Cx)(s:Stmt)(t:TS):Prop where
 h:PS X s t
structure QG(X:Cx)(e:Expr)(t:TG):Prop where
 h:PG X e t
structure QI(X:Cx)(tg it:Expr)(t:TI):Prop where
 h:PI X tg it t
structure Te(X:Cx)(es:List Expr)(t:TT):Prop where
 h:HB X es t
structure UK(X:Cx)(f:Value->Value->Sem Value)(r:R2):Prop where
 h:mL X f r
structure QH(X:Cx)(f:Value)(r:List V->Hp->VK->Prop):Prop where
 h:g_ X f r
section
variable{a b o:Expr}{ta tb tc to:TE}{t u:TA}{tA S8:TT}{rest:List Expr}
theorem xC:UK X (binaryOp .LShift) (rI Mw fun i j=>.int (i*2^j.toNat)):=⟨DM⟩
variable{st:Stmt}{sr:List Stmt}{ts us:TS}{g:TG}
end
section
variable{g:TG}{tb:TS}{tA:TT}
end
def cM(env:Env):List (Str×NameKind)->List (Str×Addr)->List (Str×Addr)
 |[],cs=>cs
 |(n,k)::r,cs=>cM env r (if k==.free then(n,(env.cells.lookup n).getD 0)::cs else cs)
theorem xD(h:∀x∈scope.names,x.2=.free->∃c,env.cells.lookup x.1=some c):closureFor scope env=pure (cM env scope.names []):=by
 unfold closureFor
 have key:∀(ns:List (Str×NameKind)) (cs:List (Str×Addr)),(∀x∈ns,x.2=.free->∃c,env.cells.lookup x.1=some c) ->
   (forIn ns cs fun(x:Str×NameKind) (r:List (Str×Addr))=>if (x.2==NameKind.free)=true then(do let a <- cellOf env x.1;pure (ForInStep.yield ((x.1,a)::r)))else(pure (ForInStep.yield r):Sem _))=pure (cM env ns cs):=by
  intro ns
  induction ns with
  |nil=>intro cs _;rfl
  |cons y r ih=>
   intro cs hc
   obtain⟨n,k⟩:=y
   rw[List.forIn_cons]
   have ihr:=fun cs=>ih cs fun x hx=>hc x (aA _ hx)
   by_cases hk:(k==NameKind.free)=true
   ·obtain⟨c,e⟩:=hc (n,k) aQ (jI hk)
    have e2:cellOf env n=pure c:=by unfold cellOf;rw[e]
    show((if (k==NameKind.free)=true then _ else _) >>= _)=pure (cM env r (if (k==NameKind.free)=true then _ else _))
    rw[ay hk,ay hk,e2]
    simp only[pure_bind]
    have e3:(env.cells.lookup n).getD 0=c:=by rw[show env.cells.lookup n=some c from e];rfl
    rw[e3]
    exact ihr _
   ·show((if (k==NameKind.free)=true then _ else _) >>= _)=pure (cM env r (if (k==NameKind.free)=true then _ else _))
    rw[aC hk,aC hk]
    simp only[pure_bind]
    exact ihr _
 have:=key scope.names [] h
 dsimp only
 rw[this];simp only[pure_bind]
theorem jE:∀(ns:List (Str×NameKind)) (cs:List (Str×Addr)),(∀x∈ns,x.2=.free->∃c,env.cells.lookup x.1=some c)->(∀y∈cs,env.cells.lookup y.1=some y.2)->∀y∈cM env ns cs,env.cells.lookup y.1=some y.2
 |[],cs,_,h=>h
 |(n,k)::r,cs,hf,h=>by
  refine jE r _ (fun x hx=>hf x (aA _ hx)) ?_
  by_cases hk:(k==NameKind.free)=true
  ·rw[ay hk]
   intro y hy
   rcases aI.mp hy with rfl|hy
   ·obtain⟨c,e⟩:=hf (n,k) aQ (jI hk)
    show env.cells.lookup n=some ((env.cells.lookup n).getD 0)
    rw[show env.cells.lookup n=some c from e];rfl
   ·exact h y hy
  ·rw[aC hk];exact h
theorem sf:∀(ns:List (Str×NameKind)) (cs:List (Str×Addr)) (y:Str×Addr),y∈cs->y∈cM env ns cs
 |[],_,_,h=>h
 |(n,k)::r,cs,y,h=>by
  refine sf r _ y ?_
  split
  ·exact aA _ h
  ·exact h
theorem lZ{env:Env}:∀(ns:List (Str×NameKind)) (cs:List (Str×Addr)) (x:Str),(x,NameKind.free)∈ns->∃c,(x,c)∈cM env ns cs
 |[],_,_,h=>by simp at h
 |(n,k)::r,cs,x,h=>by
  rcases aI.mp h with e|h
  ·obtain⟨e1,e2⟩:=nI e
   subst e1;subst e2
   exact⟨_,sf r _ (x,_) (by rw[ay (by rfl:(NameKind.free==NameKind.free)=true)];exact aQ)⟩
  ·exact lZ r _ x h
theorem dw:∀{l:List (Str×β)} {x:Str} {b:β},l.lookup x=some b->(x,b)∈l
 |[],_,_,h=>by simp at h
 |(y,c)::r,x,b,h=>by
  rw[fT]at h
  cases hx:x==y with
  |true=>rw[hx]at h;have:=jI hx;subst this;cases h;exact aQ
  |false=>rw[hx]at h;exact aA _ (dw h)
theorem l7:∀{l:List (Str×β)} {x:Str} {b:β},(x,b)∈l->∃c,l.lookup x=some c
 |(y,c)::r,x,b,h=>by
  rw[fT]
  cases hx:x==y with
  |true=>exact⟨c,rfl⟩
  |false=>
   rcases aI.mp h with e|h
   ·cases e;simp at hx
   ·exact l7 h
theorem kJ{env:Env}{g:Str×NameKind->Bool}:∀{names:List (Str×NameKind)} {x:Str},names.lookup x=some .free ->
  (names.map fun y=>if g y then(y.1,NameKind.cell)else y).lookup x=some .cell\/(names.map fun y=>if g y then(y.1,NameKind.cell)else y).lookup x=some .free
 |[],_,h=>by simp at h
 |(n,k)::r,x,h=>by
  rw[fT]at h
  rw[aG]
  have e1:∀y:Str×NameKind,(if g y then(y.1,NameKind.cell)else y).1=y.1:=fun y=>by split<;>rfl
  have e2:∀(y:Str×NameKind) (l:List (Str×NameKind)),(y::l).lookup x=if (x==y.1)=true then some y.2 else l.lookup x:=fun y l=>by
   obtain⟨a,b⟩:=y
   rw[fT]
   cases x==a<;>rfl
  rw[e2,e1]
  cases hx:x==n with
  |true=>
   rw[hx]at h
   cases h
   rw[ay rfl]
   by_cases hg:g (n,.free)=true
   ·rw[ay hg];exact .inl rfl
   ·rw[aC hg];exact .inr rfl
  |false=>
   rw[hx]at h
   rw[aC (by exact bT)]
   exact kJ (env:=env) h
def sg(dn:List (Str×NameKind))(sn:List (Str×NameKind))(nm:List Str)(cap:List (Option Nat))(N:List Str):Bool:=
 (sn.all fun x=>!(x.2==.local)||sn.lookup x.1==some .local)&&(sn.all fun y=>!(y.2==.cell))&&(sn.all fun x=>!(x.2==.free)||dn.lookup x.1==some .cell)&&(cap.length==nm.length) &&
 ((List.range cap.length).all fun i=>match cap[i]? with
  |some (some j)=>(match nm[i]?,N[j]? with
   |some x,some y=>x==y&&dn.lookup x==some .cell&&sn.lookup x==some .free
   |_,_=>false)
  |_=>true)
theorem MX{pos:Pos}{g:TG}(gv:X.calm=true)
  (fJ:X.env.cells=cellsFrom m X.env.scope.names []) (f':scope.kind=.function) (hB:sg X.env.scope.names scope.names nm cap X.N=true)
  (hi:QI X tg iter wi) (hg:∀cl C s0 H0 fp,QG (bH X nm scope cl C s0 H0 fp) tg g) (ht:∀cl C s0 H0 fp,Te (bH X nm scope cl C s0 H0 fp) kC tc)
  (he:∀cl C s0 H0 fp,QE (bH X nm scope cl C s0 H0 fp) mv te) (hs:∀x,foldedSetIterable iter X.env x=pure x:=by intro _;rfl) :
  QE X (.ListComp mv [⟨tg,iter,kC,0⟩] scope pos) (r_ cap wi g tc te):=by
 simp only[sg,bh,d6,fF,gA,b9,aX]at hB
 obtain⟨⟨⟨⟨b1,b2⟩,b3⟩,b4⟩,b5⟩:=hB
 have has:∀x∈scope.names,x.2=.free->∃c,X.env.cells.lookup x.1=some c:=fun x hx hk=>by
  rw[fJ]
  rcases b3 x hx with z|z
  ·exact absurd hk z
  ·exact jJ z
 have jc:∀x c,(cM X.env scope.names []).lookup x=some c->X.env.cells.lookup x=some c:=fun x c h=>jE scope.names [] has (by simp) (x,c) (dw h)
 have hin:∀x,(x,NameKind.free)∈scope.names->∃c,(cM X.env scope.names []).lookup x=some c:=fun x h=>let ⟨_,q⟩:=lZ (env:=X.env) scope.names [] x h;l7 q
 have hmap:(relabel scope X.env).names=scope.names.map fun y=>if (y.2==.free&&X.env.scope.kind==.function&&X.env.kindOf y.1==some .cell)then(y.1,NameKind.cell)else y:=by
  show scope.names.map _=_
  refine bq fun y _=>?_
  obtain⟨a,b⟩:=y
  rfl
 have fr:∀x,((relabel scope X.env).names.lookup x=some .cell\/(relabel scope X.env).names.lookup x=some .free)->(x,NameKind.free)∈scope.names:=fun x h=>by
  have h':∃k,(x,k)∈(relabel scope X.env).names/\(k=.cell\/k=.free):=by
   rcases h with h|h
   ·exact⟨_,dw h,.inl rfl⟩
   ·exact⟨_,dw h,.inr rfl⟩
  obtain⟨k,hm,hk⟩:=h'
  rw[hmap]at hm
  obtain⟨y,hy,e⟩:=al.mp hm
  obtain⟨a,b⟩:=y
  by_cases hb:b=.free
  ·subst hb
   have:a=x:=by split at e<;>(cases e;rfl)
   subst this;exact hy
  ·rw[aC (by simp[hb])]at e
   cases e
   rcases hk with rfl|rfl
   ·exact absurd rfl (b2 _ hy)
   ·exact absurd rfl hb
 refine⟨AO (cl:=cM X.env scope.names []) (cap:=cap) (nm:=nm) gv (xD has) jc f' (fun x hx hk=>(b1 x hx).resolve_left fun z=>z hk) (fun y hy=>b2 y hy) (fun x hx=>hin x (fr x hx)) (fun i j e=>?_) b4 hi.h (fun C s0 H0 fp=>(hg _ C s0 H0 fp).h) (fun C s0 H0 fp=>(ht _ C s0 H0 fp).h) (fun C s0 H0 fp=>(he _ C s0 H0 fp).h) hs⟩
 have hi':i<cap.length:=(aa.mp e).1
 have q:=b5 i (bj.mpr hi')
 rw[e]at q
 dsimp only at q
 cases hx:nm[i]? with
 |none=>rw[hx]at q;simp at q
 |some x=>
  cases hy:X.N[j]? with
  |none=>rw[hx,hy]at q;simp at q
  |some y=>
   rw[hx,hy]at q
   simp only[bh,b9]at q
   obtain⟨⟨rfl,q1⟩,q2⟩:=q
   refine⟨x,rfl,rfl,.inr (.inl q1),(by rw[q1];decide),?_,?_⟩
   ·obtain⟨c,hc⟩:=hin x (dw q2)
    rw[hc,jc _ _ hc]
   ·rw[hmap];exact kJ (env:=X.env) q2
def IB(K:Frag):List V->Hp->VK->Prop:=fun xs H Q=>∃(p:Addr) (ys:List (List Nat)),xs=[.ref p]/\qr K H p (ys.map fun l=>V.str (tx l))/\ys.length<64 /\
 ∀zs:List (List Nat),zs.Perm ys->sortedS (zs.map tx)=true->∀l H2,H l=none->H2=eL H l (.lst (zs.map fun l=>V.str (tx l)))->Q (.ref l) H2
theorem AR(z:Str):tx z.cps.toList=z:=by cases z;rfl
theorem t_:QH X (.builtin "sorted") (IB X.K):=⟨by
 intro pins s σ H xs us Q I r h
 obtain⟨p,ys,rfl,hS,h64,q⟩:=h
 obtain⟨u,rfl,ru⟩:=kI r
 cases ru
 obtain⟨bz,rv,pl,hz⟩:=I.list hS
 have hl:=rv.length
 rw[ai]at hl
 refine sorted_strs (ss:=ys.map tx) pl.isList (oR (by simpa using rv)) (by omega) fun out ss' h1 h2 h3=>?_
 obtain⟨ep,hat⟩:=sortedAll_at s.heap bz out
 have rA:H (s.heap.objs.size+1)=none:=I.hok.fresh (hX _)
 have hmap:(ss'.map fun z=>z.cps.toList).map tx=ss':=by
  rw[aT]
  have:(tx∘fun z:Str=>z.cps.toList)=id:=funext fun z=>AR z
  rw[this,nJ]
 have hperm:(ss'.map fun z=>z.cps.toList).Perm ys:=by
  have e:=h2.map fun z:Str=>z.cps.toList
  rw[aT]at e
  have:((fun z:Str=>z.cps.toList)∘tx)=id:=funext fun l=>by simp[tx]
  rw[this,nJ]at e
  exact e
 have hvals:cp ((ss'.map fun z=>z.cps.toList).map fun l=>V.str (tx l)) out.toList:=by
  have e:=oS h1
  rw[<- hmap,aT]at e
  exact e
 refine⟨.ref (s.heap.objs.size+1),_,I.laid (t':=s.toks) (fun b o e=>sortedAll_old e) (hX _) ?_,rfl,q _ hperm (by rw[hmap];exact h3) _ _ rA rfl⟩
 refine⟨?_,out.toList,ep,hvals,hat⟩
 rw[ai,hperm.length_eq]
 exact bu (d_ h64) (by decide)⟩
theorem bw.turned2{t':Nat}{e:Addr}(I:bw X pins σ H s)(k:∀b o,b≠e->b≠it->s.heap.get? b=some o->h'.get? b=some o)
  (he:∃o,h'.get? e=some o) (f1:pA X pins H e) (f2:pA X pins H it):bw X pins σ H { s with heap:=h',toks:=t' }:=by
 have nit:∀b u,H b=some u->b≠e/\b≠it:=fun b u q=>⟨fun z=>(by rw[z,f1.1]at q;cases q),fun z=>(by rw[z,f2.1]at q;cases q)⟩
 have nin:∀b,b∉[e,it]->b≠e/\b≠it:=fun b h=>⟨fun z=>h (by simp[z]),fun z=>h (by simp[z])⟩
 refine I.step (g':=s.gens) (d':=s.drawn) (ch:=[e,it]) (fun b hb=>?_) (fun b o _ _ hc q _=>k b o (nin b hc).1 (nin b hc).2 q) (fun b o _ _ hc q _=>⟨o.slots,k b o (nin b hc).1 (nin b hc).2 q⟩) (fun _ _ _ _ n=>n)
  (fun b o hc q=>⟨o,k b o (nin b hc).1 (nin b hc).2 q⟩) (fun _ _ q=>q) (fun _ _ _ q=>q) (fun b ps q=>⟨#[],by rw[q];simp⟩) (fun m hm=>?_) (fun b u q=>?_) I.bare
 ·have z:b=e\/b=it:=by simpa using hb
  rcases z with rfl|rfl
  ·exact⟨f1.2.2.2.1,f1.2.1,f1.2.2.2.2.1,f1.2.2.2.2.2⟩
  ·exact⟨f2.2.2.2.1,f2.2.1,f2.2.2.2.2.1,f2.2.2.2.2.2⟩
 ·obtain⟨o,es,ep,ho,r⟩:=hm
  exact⟨o,es,ep,k _ o (Ne.symm f1.2.1) (Ne.symm f2.2.1) ho,r⟩
 ·refine(I.hok b u q).stay (fun c v hc z=>?_) (fun _ z=>z) fun _ _ z=>z
  rcases hc with y|y
  ·rw[y]at z ⊢;exact k b v (nit b u q).1 (nit b u q).2 z
  ·exact k c v (nit c _ y).1 (nit c _ y).2 z
section
variable{w:World}
theorem uc{t:Addr}{bz:Array Value}{x:Value}(st:s.heap.IsTupleIter it t i)(ht:s.heap.IsTuple t bz)(hx:bz[i]?=some x)
  (q:∀g,g.IsTupleIter it t (i+1)->Heap.SameBut it s.heap g->Q x { s with heap:=g }):wpAny (model prog w) A (Builtin.SmallTypes.nextOf (.ref it)) Q E s:=by
 obtain⟨ob,e1,e2,e3⟩:=id st
 obtain⟨ot,g1,_,nt,g3⟩:=ht
 have T:=st.typeIs
 unfold Builtin.SmallTypes.nextOf
 refine ah (dy (name:=Str.ofString "__next__") T fj (dz fj T jB ?_ (jm _)))
 show wpAny _ _ (field (.ref it) 0 >>= _) _ _ s
 refine ah (gH e1 e3 (x:=.ref t) rfl ?_)
 dsimp only
 rw[aC (show ¬ ((Value.ref t==Value.none)=true)from bT)]
 refine ah (gH e1 e3 (x:=.int i 0) rfl ?_)
 dsimp only
 refine ah (fU g1 g3 ?_)
 simp only[aO,hx]
 refine ah (wpAny_setField e1 e3 (by simp) (ax ⟨x,rfl,ax (q _ ?_ (cK ..))⟩))
 exact⟨_,gj _ e1 (Obj.isFreed_of_fields (Obj.data_mapFields e3 _)),(Obj.cls_mapFields ..).trans e2,by rw[Obj.data_mapFields e3];simp[rawInt]⟩
theorem pE{t:Addr}{bz:Array Value}(hh:A.handled=none)(st:s.heap.IsTupleIter it t i)(ht:s.heap.IsTuple t bz)(hx:bz[i]?=none)
  (q:∀g e,Heap.ExtBut it s.heap g->(∃o,g.get? e=some o/\o.cls=.type "StopIteration")->E (.ref e) { s with heap:=g }):wpAny (model prog w) A (Builtin.SmallTypes.nextOf (.ref it)) Q E s:=by
 obtain⟨ob,e1,e2,e3⟩:=id st
 obtain⟨ot,g1,_,nt,g3⟩:=ht
 have T:=st.typeIs
 unfold Builtin.SmallTypes.nextOf
 refine ah (dy (name:=Str.ofString "__next__") T fj (dz fj T jB ?_ (jm _)))
 show wpAny _ _ (field (.ref it) 0 >>= _) _ _ s
 refine ah (gH e1 e3 (x:=.ref t) rfl ?_)
 dsimp only
 rw[aC (show ¬ ((Value.ref t==Value.none)=true)from bT)]
 refine ah (gH e1 e3 (x:=.int i 0) rfl ?_)
 dsimp only
 refine ah (fU g1 g3 ?_)
 simp only[aO,hx]
 refine ah (g8 (ah (wpAny_setField e1 e3 (by simp) (ah ?_))))
 simp only[newExc,newTuple]
 refine ah (eK (ah (m:=firstArgMember _ _) (wpAny_of_eq (a:=Value.none) (by first|rfl|(simp only[firstArgMember];rfl)) (eK ?_ (by size_fits)))) (by size_fits))
 simp only[raiseNew]
 refine ah (wpAny_handled ?_)
 rw[show A.in1.handled=none from hh]
 exact ah (ax (wpAny_throw (q _ _ (((cK ..).extBut.push _).push _) ⟨_,aU _ rfl,rfl⟩)))
end
theorem D9{w:World}{A:Around}(hh:A.handled=none)(it t:Addr)(lu:t≠it)(bz:Array Value) :
  Draws prog w A it [it,t] bz.size (fun i v=>bz[i]?=some v) (fun i h=>h.IsTupleIter it t i/\h.IsTuple t bz) where
 live:=fun _ _ st=>let ⟨o,e,_⟩:=st.1;⟨o,e⟩
 frame:=fun _ h h' st k=>⟨st.1.at fun o e=>k it (by simp) o e,let ⟨o,e,r⟩:=st.2;⟨o,k t (by simp) o e,r⟩⟩
 item:=fun i s Q E hi st q=>uc st.1 st.2 (x:=bz[i]) (by simp[hi]) fun g a b=>q _ g s.toks (by simp[hi]) ⟨a,st.2.extBut b.extBut lu⟩ b
 done:=fun s Q E st q=>pE hh st.1 st.2 (by simp) q
open AutoSeq1 (wpAny_loadPart')
def UL(K:Frag)(a:Addr):It:=
 ⟨fun i H=>∃xs x,fy K H a xs/\xs[i]?=some x,fun i H v H'=>∃p,H p=none/\v=.ref p/\∀xs x,fy K H a xs->xs[i]?=some x->H'=eL H p (.tup [.int i,x]),fun i H=>∃xs,fy K H a xs/\xs.length<=i⟩
theorem CA{w:World}(a it e:Addr)(UA:e≠it) :
  Ca P w K (.Tuple Hh kk pos) (UL K a) [e,it] e (fun i h=>(∃old,IsEnum h e it i old)/\h.IsTupleIter it a i) where
 mem:=by simp
 obj:=fun i h st b hb=>by
  have z:b=e\/b=it:=by simpa using hb
  rcases z with rfl|rfl
  ·obtain⟨old,q⟩:=st.1
   exact⟨_,q,fun v z=>by cases z⟩
  ·obtain⟨o,q,c,d⟩:=st.2
   exact⟨o,q,fun v z=>by rw[d]at z;cases z⟩
 keep:=fun i h h' st k=>⟨let ⟨old,q⟩:=st.1;⟨old,k e (by simp) _ q⟩,st.2.at fun o q=>k it (by simp) o q⟩
 item:=by
  intro X hP hw hK hc i pins s σ H E I hf st hg
  subst hP hw hK
  obtain⟨xs,x,hq,hx⟩:=hg
  obtain⟨bz,rv,p,hz⟩:=I.tuple hq
  obtain⟨u,hu,ru⟩:=rv.get hx
  obtain⟨⟨old,he⟩,hit⟩:=st
  have hT:s.heap.IsTuple a bz.toArray:=p
  obtain⟨oa,ha,hca,_⟩:=id hT
  obtain⟨oi,hi,hci,_⟩:=id hit
  have nai:a≠it:=fun z=>by
   rw[z,hi]at ha;cases ha
   rw[hci]at hca;injection hca with z;exact absurd z (by decide)
  have nae:a≠e:=fun z=>by
   rw[z,he]at ha;cases ha
   injection hca with z;exact absurd z (by decide)
  have hlt:i<bz.toArray.size:=by
   have:=(aa.mp hu).1
   simpa using this
  refine wpAny_pyNext_enum_itemD (D9 (A:=X.A.in1) (I.ok.hd hc) it a nai bz.toArray) he ⟨hit,hT⟩ hlt UA (by simp[UA,Ne.symm nae]) fun x' g tk t5 ho' bx htup hsz hk=>⟨_,rfl,?_⟩
  have ex:x'=u:=by
   have e1:bz[i]?=some x':=by simpa using t5
   rw[hu]at e1;exact(a7 e1).symm
  subst ex
  refine wpAny_letOwnedTupleGo_enum ho' fun g2 Ut vm=>?_
  have rA:H s.heap.objs.size=none:=I.hok.fresh (aw _)
  have I1:bw X pins σ (eL H s.heap.objs.size (.tup [.int i,x])) { s with heap:=s.heap.push { cls:=.type "tuple",data:=.seq #[.int i tk,x'] },toks:=tk+1 }:=I.laid (fun b o q=>ar _ q) (aw _)
   ⟨by show 2<=sizeLine;decide,[.int i tk,x'],.cons ⟨tk,rfl⟩ (.cons ru .nil),⟨_,aU _ rfl,rfl,_,rfl⟩⟩
  have nf:∀b∈[e,it],b≠s.heap.objs.size:=fun b hb=>by
   have z:b=e\/b=it:=by simpa using hb
   rcases z with rfl|rfl
   ·exact bE (aH he)
   ·exact bE (aH hi)
  have fp:∀b∈[e,it],pA X pins (eL H s.heap.objs.size (.tup [.int i,x])) b:=fun b hb=>by
   obtain⟨f0,f⟩:=hf b hb
   exact⟨by rw[ce (nf b hb)];exact f0,f⟩
  have he2':IsEnum g2 e it ((i:Int)+1) x':=Ut
  have I2:bw X pins σ (eL H s.heap.objs.size (.tup [.int i,x])) { s with heap:=g2,toks:=tk+1 }:=I1.turned2 (t':=tk+1) (fun b o hbe hbi q=>?_) ⟨_,he2'⟩ (fp e (by simp)) (fp it (by simp))
  ·refine⟨.ref s.heap.objs.size,_,I2,rfl,⟨_,rA,rfl,fun ys y hy Dn=>?_⟩,⟨⟨x',by simpa using he2'⟩,bx.1.extBut vm.extBut (Ne.symm UA)⟩,fun b hb=>(fp b hb).1⟩
   have e1:=I.tuple_inj hy hq
   subst e1
   rw[hx]at Dn;cases Dn;rfl
  ·have q':(s.heap.push { cls:=.type "tuple",data:=.seq #[.int i tk,x'] }).get? b=some o:=q
   refine vm.extBut b o hbe ?_
   by_cases hb:b=s.heap.objs.size
   ·subst hb
    have e1:=aU s.heap (o:={ cls:=.type "tuple",data:=.seq #[.int i tk,x'] }) rfl
    rw[e1]at q';cases q'
    exact htup
   ·rw[Heap.get?_push_ne _ _ _ hb]at q'
    exact hk b o hbe hbi q'
 done:=by
  intro X hP hw hK hc i pins s σ H E I hf st hg
  subst hP hw hK
  obtain⟨xs,hq,hx⟩:=hg
  obtain⟨bz,rv,p,hz⟩:=I.tuple hq
  obtain⟨⟨old,he⟩,hit⟩:=st
  have hT:s.heap.IsTuple a bz.toArray:=p
  have hl:=rv.length
  have hT':Shared.TypeIs s (.ref e) "enumerate":=⟨_,he,rfl⟩
  unfold pyNext
  refine ah (wpAny_attempt (dy (name:=Str.ofString "__next__") hT' ng (dz ng hT' F.entry_enumerate_next ?_ (F.args_enumerate_next_1 _))))
  show wpAny _ _ (field (.ref e) 2 >>= _) _ _ _
  refine ah (gH he rfl (x:=.ref it) rfl (ah (pE (show X.A.in1.handled=none from I.ok.hd hc) hit hT (by simp;omega) fun g y t5 hy=>?_)))
  obtain⟨o,ho,jc⟩:=hy
  refine ah (iR (T:="StopIteration") (b:=true) ⟨o,ho,jc⟩ isSubtype_stop (ax ⟨rfl,?_⟩))
  obtain⟨f0,f1,f2,f3,f4,f5⟩:=hf it (by simp)
  exact I.turned (t':=s.toks) (fun b o hb q=>t5 b o hb q) f0 f1 f3 f4 f5
 self:=fun A i s Q E st h=>let ⟨_,q⟩:=st.1;wpAny_pyIter_enum q h
open AutoSeq1 (wpAny_loadPart')
abbrev pF(t:Addr):Obj:={ cls:=.type "tuple_iterator",data:=.fields #[.ref t,.int 0 0] }
abbrev zo(it:Addr):Obj:={ cls:=.type "enumerate",data:=.fields #[.none,.bool false,.ref it,rawInt 0,.none,.none] }
theorem MY(t:Addr)(bz:Array Value)(n:Nat)(dc:Option Addr)(sl:Array (Option Value)) :
  Meets (Builtin.«enumerate.__new__» ⟨[.type "enumerate",.ref t],[]⟩) (fun _ R s=>s.heap.get? t=some { cls:=.type "tuple",dict:=dc,data:=.seq bz n,slots:=sl } /\
   R (.ok (.ret (.ref (s.heap.push (pF t)).objs.size))) { s with heap:=(s.heap.push (pF t)).push (zo s.heap.objs.size) }):=
 .of_wp fun prog w A R s h=>by
  obtain⟨hp,g,d,tk,os⟩:=s
  obtain⟨ht,h⟩:=h
  have sb:=sub_enumerate
  have hT:Heap.IsTuple (Shared.heap ⟨hp,g,d,tk,os⟩) t bz:=⟨_,ht,rfl,n,rfl⟩
  wp_walk using bN ht
  refine wpAny_stack_any fun st=>ax ?_
  split
  ·rename_i c _ _ _ _ _
   cases(c==Value.type "enumerate")<;>(wp_walk using bN ht,j4 hT;exact⟨_,rfl,h⟩)
  ·wp_walk using bN ht,j4 hT
   exact⟨_,rfl,h⟩
section
variable{w:World}
theorem ud{t:Addr}{bz:Array Value}(hT:s.heap.IsTuple t bz)
  (q:∀g,IsEnum g (s.heap.objs.size+1) s.heap.objs.size 0 .none->g.IsTupleIter s.heap.objs.size t 0->(∀b o,s.heap.get? b=some o->g.get? b=some o)->Q (.ref (s.heap.objs.size+1)) { s with heap:=g }) :
  wpAny (model prog w) A (call (.type "enumerate") [.ref t]) Q E s:=by
 obtain⟨⟨c,dc,dt,sl⟩,ht,hc,n,hd⟩:=hT
 obtain rfl:c=.type "tuple":=hc
 obtain rfl:dt=.seq bz n:=hd
 refine callType_new F.called_enumerate (by decide) (F.typeCall_enumerate_1 _) (F.newCall_enumerate_1 _) (fun ob=>F.args_object_init_2 ob _) F.entry_enumerate_new (MY t bz n dc sl) ⟨ht,?_⟩
 have z:(s.heap.push (pF t)).objs.size=s.heap.objs.size+1:=j9 ..
 show _/\_
 rw[z]
 have e1:IsEnum ((s.heap.push (pF t)).push (zo s.heap.objs.size)) (s.heap.objs.size+1) s.heap.objs.size 0 .none:=by
  have y:=aU (s.heap.push (pF t)) (o:=zo s.heap.objs.size) rfl
  rw[z]at y;exact y
 exact⟨⟨_,e1,rfl⟩,q _ e1 ⟨_,ar _ (aU _ rfl),rfl,rfl⟩ fun b o y=>ar _ (ar _ y)⟩
end
section
def T4(K:Frag)(ta:TA):TI:=fun σ H R=>ta σ H fun vs H1=>∃a,vs=[.ref a]/\(∃xs,fy K H1 a xs)/\R (UL K a) H1
theorem D_{a:Expr}{ta:TA}{p pos tp:Pos}{Hh:List Expr}{kk:Nat}(hm:X.mg "enumerate"=none)(ha:QA X [a] ta)(hg:Gl X "enumerate":=by rfl)(hs:starEach [a] X.env=[(false,eval a X.env)]:=by rfl) :
  QI X (.Tuple Hh kk tp) (.Call (.Name "enumerate" p) [a] [] pos) (T4 X.K ta):=⟨by
 intro pins s σ H R I h
 refine Call_ (kZ I hg hm boot_enumerate (cO (f6 (ha.h pos pins s σ H _ I h) fun us s1 ⟨vs,H1,I1,r1,q1⟩=>?_) hs rfl))
 obtain⟨t,e,⟨xs,hq⟩,q⟩:=q1
 subst e
 obtain⟨u,rfl,ru⟩:=kI r1
 cases ru
 obtain⟨bz,rv,pt,hz⟩:=I1.tuple hq
 refine ud (show s1.heap.IsTuple t bz.toArray from pt) fun g e1 e2 kp=>?_
 refine wpAny_pyIter_enum e1 ?_
 refine⟨s1.heap.objs.size+1,[s1.heap.objs.size+1,s1.heap.objs.size],_,_,H1,rfl,I1.kept (t':=s1.toks) kp,CA t _ _ (Nat.succ_ne_self _),⟨⟨_,e1⟩,e2⟩,fun b hb=>?_,q⟩
 have z:b=s1.heap.objs.size+1\/b=s1.heap.objs.size:=by simpa using hb
 rcases z with rfl|rfl
 ·exact I1.fpOk (hX _) (I1.hok.fresh (hX _))
 ·exact I1.fpOk (aw _) (I1.hok.fresh (aw _))⟩
end
section
variable{g:TG}{H1:Hp}{Q:VK}
end
section
variable{w:World}
end
section
variable{w:World}{R:Result->Shared->Prop}{I:Addr}{wr:List Addr}{P:Nat->Value->Prop}{St:Nat->Heap->Prop}
end
section
variable{w:World}
end
section
end
section
variable{w:World}
end
section
variable{w:World}
end
section
variable{w:World}
end
section
variable{w:World}
end
section
variable{w:World}
end
section
variable{w:World}
end
theorem bw.kept2{d':Drawn}(I:bw X pins σ H s)(k:∀b o,s.heap.get? b=some o->h'.get? b=some o):bw X pins σ H { s with heap:=h',drawn:=d',toks:=t' }:=
 I.step (g':=s.gens) (ch:=[]) (fun _ z=>nomatch z) (fun b o _ _ _ e _=>k b o e) (fun b o _ _ _ e _=>⟨o.slots,k b o e⟩) (fun _ _ _ _ n=>n) (fun b o _ e=>⟨o,k b o e⟩) (fun _ _ e=>e) (fun _ _ _ e=>e) (fun b ps e=>⟨#[],by rw[e];simp⟩)
  (fun m hm=>let ⟨o,es,ep,ho,r⟩:=hm;⟨o,es,ep,k _ o ho,r⟩) (I.hok.kept k) I.bare
section
variable{w:World}
end
section
variable{g:TG}
theorem zp{x0:Str}{p0 p1:Pos}{gx:TG}(OW:PG X (.Name x0 p0) gx)(O':swapsWith (.ListComp mv [⟨tg,iter,kC,0⟩] scope pos) (some (.Name x0 p0)) p1.line X.env=pure true)(gv:X.calm=true)(yV:closureFor scope X.env=pure cl)(jc:∀x c,cl.lookup x=some c->X.env.cells.lookup x=some c)
  (f':scope.kind=.function) (tY:∀x∈scope.names,x.2=.local->scope.names.lookup x.1=some .local) (fA:∀y∈scope.names,y.2≠.cell)
  (Hj:∀x,((relabel scope X.env).names.lookup x=some .cell\/(relabel scope X.env).names.lookup x=some .free)->∃c,cl.lookup x=some c)
  (yY:∀(i j:Nat),cap[i]?=some (some j)->∃x,nm[i]?=some x/\X.N[j]?=some x/\AM X scope cl x) (dq:cap.length=nm.length)
  (hi:PI X tg iter wi) (hg:∀C s0 H0 fp,PG (bH X nm scope cl C s0 H0 fp) tg g) (ht:∀C s0 H0 fp,HB (bH X nm scope cl C s0 H0 fp) kC tc)
  (he:∀C s0 H0 fp,PE (bH X nm scope cl C s0 H0 fp) mv te) (hs:∀x,foldedSetIterable iter X.env x=pure x:=by intro _;rfl) :
  PS X (.Assign [.Name x0 p0] (.ListComp mv [⟨tg,iter,kC,0⟩] scope pos) p1) (DH (r_ cap wi g tc te) gx):=by
 intro pins s σ H D I h
 rw[exec_Assign_Name_used _ _ _ _ O']
 suffices main:wpAny (model X.prog X.w) X.A (comprehension (.ListComp mv [⟨tg,iter,kC,0⟩] scope pos) scope X.env (firstIterPos [⟨tg,iter,kC,0⟩] pos) (newList []) (firstAsync [⟨tg,iter,kC,0⟩]) (firstIter [⟨tg,iter,kC,0⟩] X.env) (some (assign (.Name x0 p0) X.env))) (fun _ s'=>SP X pins D .next s') X.xe s from
  ah (lw (ah (ah (dZ main (fun _ s' h=>ax (ax h)) fun _ _ z=>z))))
 refine uK gv yV jc f' tY fA Hj yY dq hi hg ht he hs I h fun s4 C D m4 Hn I4 B q=>?_
 obtain⟨oC,es,ep,hoC,hdC,hrC⟩:=B.ns
 refine dZ (OW _ s4 σ _ (.ref D) (.ref D) _ (I4.pins_of (pins':=pins++[(C,oC)]) fun p hp=>?_) rfl q) (fun _ s5 h5=>?_) fun _ _ z=>z
 ·rcases aN.mp hp with z|z
  ·exact I4.pin p (aW _ z)
  ·have e:p=(C,oC):=by simpa using z
   subst e
   exact⟨hoC,B.fr,B.nl,B.nf,fun v z=>by rw[hdC]at z;cases z⟩
 obtain⟨σ',H',I6,nx⟩:=h5
 have pC:=I6.pin (C,oC) (aW _ (aW _ (br.mpr rfl)))
 have I7:bw X pins σ' H' s5:=I6.pins_of fun p hp=>I6.pin p (aW _ (cW _ hp))
 have B7:AN X pins H' s5 C m4:=⟨⟨oC,es,ep,pC.1,hdC,hrC⟩,pC.2.1,B.nl,B.nf,B.hi,B.nc,B.np⟩
 exact⟨m4,B7.ns,fun h' hs'=>⟨σ',H',B7.off I7 hs',nx⟩⟩
end
theorem zq{x0:Str}{p0 p1:Pos}{gx:TG}{pos:Pos}{g:TG}(OW:QG X (.Name x0 p0) gx)(gv:X.calm=true)
  (fJ:X.env.cells=cellsFrom m X.env.scope.names []) (f':scope.kind=.function) (hB:sg X.env.scope.names scope.names nm cap X.N=true)
  (hi:QI X tg iter wi) (hg:∀cl C s0 H0 fp,QG (bH X nm scope cl C s0 H0 fp) tg g) (ht:∀cl C s0 H0 fp,Te (bH X nm scope cl C s0 H0 fp) kC tc)
  (he:∀cl C s0 H0 fp,QE (bH X nm scope cl C s0 H0 fp) mv te) (hs:∀x,foldedSetIterable iter X.env x=pure x:=by intro _;rfl) (O':swapsWith (.ListComp mv [⟨tg,iter,kC,0⟩] scope pos) (some (.Name x0 p0)) p1.line X.env=pure true:=by first|rfl|kernel_rfl) :
  QS X (.Assign [.Name x0 p0] (.ListComp mv [⟨tg,iter,kC,0⟩] scope pos) p1) (DH (r_ cap wi g tc te) gx):=by
 simp only[sg,bh,d6,fF,gA,b9,aX]at hB
 obtain⟨⟨⟨⟨b1,b2⟩,b3⟩,b4⟩,b5⟩:=hB
 have has:∀x∈scope.names,x.2=.free->∃c,X.env.cells.lookup x.1=some c:=fun x hx hk=>by
  rw[fJ]
  rcases b3 x hx with z|z
  ·exact absurd hk z
  ·exact jJ z
 have jc:∀x c,(cM X.env scope.names []).lookup x=some c->X.env.cells.lookup x=some c:=fun x c h=>jE scope.names [] has (by simp) (x,c) (dw h)
 have hin:∀x,(x,NameKind.free)∈scope.names->∃c,(cM X.env scope.names []).lookup x=some c:=fun x h=>let ⟨_,q⟩:=lZ (env:=X.env) scope.names [] x h;l7 q
 have hmap:(relabel scope X.env).names=scope.names.map fun y=>if (y.2==.free&&X.env.scope.kind==.function&&X.env.kindOf y.1==some .cell)then(y.1,NameKind.cell)else y:=by
  show scope.names.map _=_
  refine bq fun y _=>?_
  obtain⟨a,b⟩:=y
  rfl
 have fr:∀x,((relabel scope X.env).names.lookup x=some .cell\/(relabel scope X.env).names.lookup x=some .free)->(x,NameKind.free)∈scope.names:=fun x h=>by
  have h':∃k,(x,k)∈(relabel scope X.env).names/\(k=.cell\/k=.free):=by
   rcases h with h|h
   ·exact⟨_,dw h,.inl rfl⟩
   ·exact⟨_,dw h,.inr rfl⟩
  obtain⟨k,hm,hk⟩:=h'
  rw[hmap]at hm
  obtain⟨y,hy,e⟩:=al.mp hm
  obtain⟨a,b⟩:=y
  by_cases hb:b=.free
  ·subst hb
   have:a=x:=by split at e<;>(cases e;rfl)
   subst this;exact hy
  ·rw[aC (by simp[hb])]at e
   cases e
   rcases hk with rfl|rfl
   ·exact absurd rfl (b2 _ hy)
   ·exact absurd rfl hb
 refine⟨zp OW.h O' (cl:=cM X.env scope.names []) (cap:=cap) (nm:=nm) gv (xD has) jc f' (fun x hx hk=>(b1 x hx).resolve_left fun z=>z hk) (fun y hy=>b2 y hy) (fun x hx=>hin x (fr x hx)) (fun i j e=>?_) b4 hi.h (fun C s0 H0 fp=>(hg _ C s0 H0 fp).h) (fun C s0 H0 fp=>(ht _ C s0 H0 fp).h) (fun C s0 H0 fp=>(he _ C s0 H0 fp).h) hs⟩
 have hi':i<cap.length:=(aa.mp e).1
 have q:=b5 i (bj.mpr hi')
 rw[e]at q
 dsimp only at q
 cases hx:nm[i]? with
 |none=>rw[hx]at q;simp at q
 |some x=>
  cases hy:X.N[j]? with
  |none=>rw[hx,hy]at q;simp at q
  |some y=>
   rw[hx,hy]at q
   simp only[bh,b9]at q
   obtain⟨⟨rfl,q1⟩,q2⟩:=q
   refine⟨x,rfl,rfl,.inr (.inl q1),(by rw[q1];decide),?_,?_⟩
   ·obtain⟨c,hc⟩:=hin x (dw q2)
    rw[hc,jc _ _ hc]
   ·rw[hmap];exact kJ (env:=X.env) q2
open AutoSeq1 (wpAny_loadPart')
theorem Ea(l b:Addr)(i1 i2:Array Value)(n1 n2:Nat)(d1 d2:Option Addr)(s1 s2:Array (Option Value))(h0:i1.isEmpty=true) :
  Meets (Builtin.«tuple.__add__» ⟨[.ref l,.ref b],[]⟩) (fun _ R s=>s.heap.get? l=some { cls:=.type "tuple",dict:=d1,data:=.seq i1 n1,slots:=s1 }/\s.heap.get? b=some { cls:=.type "tuple",dict:=d2,data:=.seq i2 n2,slots:=s2 }/\R (.ok (.ret (.ref b))) s):=
 .of_wp fun prog w A R s h=>by
  obtain⟨hp,g,d,tk,os⟩:=s
  obtain⟨e1,e2,h⟩:=h
  have a2:=PyProof.Rows.sub_tuple_tuple
  wp_walk using bN e1,bN e2
  exact⟨_,rfl,h⟩
def QJ(K:Frag):R2:=fun x y H Q=>∃a b xs ys,x=.ref a/\y=.ref b/\fy K H a xs/\fy K H b ys/\xs.length+ys.length<=sizeLine/\∀p H2,nZ H H2->fy K H2 p (xs++ys)->Q (.ref p) H2
theorem MZ:UK X (binaryOp .Add) (QJ X.K):=⟨by
 intro pins s σ H x y v u Q I rx ry h
 obtain⟨a,b,xs,ys,rfl,rfl,ha,hb,hz,q⟩:=h
 by_cases hx:xs=[]
 ·subst hx
  cases rx
  cases ry
  obtain⟨bz,r1,p1,_⟩:=I.tuple ha
  obtain⟨its2,r2,p2,_⟩:=I.tuple hb
  have e1:bz=[]:=r1.nil_iff.mpr rfl
  obtain⟨⟨c1,d1,g1,l1⟩,f1,hc1,n1,Tr⟩:=id p1
  obtain⟨⟨c2,d2,g2,l2⟩,f2,hc2,n2,HG⟩:=id p2
  simp only at hc1 Tr hc2 HG
  subst hc1 Tr hc2 HG
  refine qj ⟨_,f1,rfl⟩ ⟨_,f2,rfl⟩ lS oH PySem.F.slot_tuple_add PySem.F.entry_tuple_add (PySem.F.args_tuple_add_2 _ _) (Ea a b bz.toArray its2.toArray n1 n2 d1 d2 l1 l2 (by rw[e1];rfl)) ⟨f1,f2,?_⟩
  exact⟨.ref b,H,I,rfl,q b H (nZ.refl H) hb⟩
 ·exact Ic pins s σ H _ _ v u Q I rx ry ⟨a,b,xs,ys,rfl,rfl,ha,hb,hx,hz,fun e=>q a H (nZ.refl H) (by rw[e,bU];exact ha),fun _ p hp=>q p _ (cD hp _) (fy.of dG)⟩⟩
inductive W where
 |non|bl (b:Bool)|int (i:Int)|str (l:List Nat)|tup (ws:List W)|loc (n:Nat)
inductive DK where
 |i (z:Int)|s (l:List Nat)
deriving DecidableEq
def DK.key:DK->fZ
 |.i z=>.inl z
 |.s l=>.inr (tx l)
inductive KX where
 |bo (b:Bool)|fl (ks:List Int)|pr (i:Int) (ks:List Int)
deriving DecidableEq
def KX.w:KX->W
 |.bo b=>.bl b
 |.fl ks=>.tup (ks.map W.int)
 |.pr i ks=>.tup [.int i,.tup (ks.map W.int)]
def Ec(ks:List Int):Int:=reduceHash (Builtin.Tuple.tupleHashOf (ks.map hashInt))
def KX.hash:KX->Int
 |.bo b=>hashInt (if b then 1 else 0)
 |.fl ks=>Ec ks
 |.pr i ks=>reduceHash (Builtin.Tuple.tupleHashOf [hashInt i,Ec ks])
inductive aj where
 |lst (ws:List W)
 |ro (ws:List W)
 |exc (c:Str)
 |dct (kvs:List (DK×W))
 |tab (P:Addr) (pos:Pos) (q:Str)
 |rod (kvs:List (DK×W))
 |dcx (kvs:List (KX×W))
 |pin (k:Bool) (c:Addr) (o:Obj) (w:W)
 |gone
abbrev jF:Nat:=1000000
theorem iI(h:n<=jF):n<=sizeLine:=bu h (by decide)
theorem M4(h:n<=jF):n<sizeLine:=j7 h (by decide)
inductive R(α:Type) where
 |ok (a:α) (st:List aj)
 |ex (c:Str) (st:List aj)
 |bad
end L2
variable{kvs:List (L2.KX×L2.W)}{ws cws:List L2.W}{bx st1:List L2.aj}{F G:List L2.W->List L2.aj->L2.R L2.W}{ck:Option (Nat×List L2.W)}
namespace L2
open PySem PySem.Spec PyProof.Rows
def R.bind:R α->(α->List aj->R β)->R β
 |.ok a st,k=>k a st
 |.ex c st,_=>.ex c st
 |.bad,_=>.bad
@[simp] theorem R.bind_ok{α β:Type}(a:α)(st:List aj)(k:α->List aj->R β):(R.ok a st).bind k=k a st:=rfl
@[simp] theorem R.bind_ex{α β:Type}(c:Str)(st:List aj)(k:α->List aj->R β):(R.ex c st:R α).bind k=.ex c st:=rfl
@[simp] theorem R.bind_bad{α β:Type}(k:α->List aj->R β):(R.bad:R α).bind k=.bad:=rfl
abbrev cu:=List (Option W)
inductive RS where
 |nx (ρ:cu) (st:List aj)|rt (w:W) (st:List aj)|bk (ρ:cu) (st:List aj)|ct (ρ:cu) (st:List aj)
 |ex (c:Str) (ρ:cu) (st:List aj)|bad
abbrev FE:=cu->List aj->R W
abbrev FT:=cu->List aj->R Bool
abbrev FA:=cu->List aj->R (List W)
abbrev FS:=cu->List aj->RS
section
variable(K:Frag)
mutual
def bf(μ:List Addr)(H:Hp):W->V->Prop
 |.non,v=>v=.non
 |.bl b,v=>v=.bl b
 |.int i,v=>v=.int i
 |.str l,v=>v=.str (tx l)
 |.tup ws,v=>∃p vs,v=.ref p/\fy K H p vs/\RelWs μ H ws vs
 |.loc n,v=>∃a,μ[n]?=some a/\v=.ref a
def RelWs(μ:List Addr)(H:Hp):List W->List V->Prop
 |[],vs=>vs=[]
 |w::ws,vs=>∃x xs,vs=x::xs/\bf μ H w x/\RelWs μ H ws xs
end
end
theorem pre_get(h:μ <+: μ')(e:μ[n]?=some a):μ'[n]?=some a:=by
 obtain⟨t,rfl⟩:=h
 rw[au (aa.mp e).1];exact e
section
mutual
theorem bf.mono(h:μ <+: μ')(e:dD K H H'):∀{w:W} {v:V},bf K μ H w v->bf K μ' H' w v
 |.non,_,r=>by unfold bf at r ⊢;exact r
 |.bl _,_,r=>by unfold bf at r ⊢;exact r
 |.int _,_,r=>by unfold bf at r ⊢;exact r
 |.str _,_,r=>by unfold bf at r ⊢;exact r
 |.tup _,_,r=>by unfold bf at r ⊢;obtain⟨p,vs,a,b,c⟩:=r;exact⟨p,vs,a,e _ _ b,RelWs.mono h e c⟩
 |.loc _,_,r=>by unfold bf at r ⊢;obtain⟨a,b,c⟩:=r;exact⟨a,pre_get h b,c⟩
theorem RelWs.mono(h:μ <+: μ')(e:dD K H H'):∀{ws:List W} {vs:List V},RelWs K μ H ws vs->RelWs K μ' H' ws vs
 |[],_,r=>by unfold RelWs at r ⊢;exact r
 |_::_,_,r=>by unfold RelWs at r ⊢;obtain⟨x,xs,a,b,c⟩:=r;exact⟨x,xs,a,bf.mono h e b,RelWs.mono h e c⟩
end
theorem RelWs.nilI:RelWs K μ H [] []:=by unfold RelWs;rfl
theorem RelWs.consI{w:W}{x:V}{xs:List V}(a:bf K μ H w x)(b:RelWs K μ H ws xs):RelWs K μ H (w::ws) (x::xs):=by unfold RelWs;exact⟨x,xs,rfl,a,b⟩
theorem RelWs.nilE(h:RelWs K μ H [] vs):vs=[]:=by unfold RelWs at h;exact h
theorem RelWs.consE{w:W}(h:RelWs K μ H (w::ws) vs):∃x xs,vs=x::xs/\bf K μ H w x/\RelWs K μ H ws xs:=by unfold RelWs at h;exact h
theorem RelWs.pr:∀{ws:List W} {vs:List V},RelWs K μ H ws vs↔Paired (fun w v=>bf K μ H w v) ws vs
 |[],vs=>⟨fun h=>by rw[h.nilE];exact .nil,fun h=>by cases h;exact .nilI⟩
 |w::ws,vs=>⟨fun h=>by obtain⟨x,xs,rfl,a,b⟩:=h.consE;exact .cons a (RelWs.pr.mp b),fun h=>by cases h with|cons a b=>exact .consI a (RelWs.pr.mpr b)⟩
theorem RelWs.len(h:RelWs K μ H ws vs):ws.length=vs.length:=Paired.length (RelWs.pr.mp h)
theorem RelWs.app:∀{as:List W} {xs:List V} {bs:List W} {ys:List V},RelWs K μ H as xs->RelWs K μ H bs ys->RelWs K μ H (as++bs) (xs++ys)
 |[],xs,bs,ys,a,b=>by rw[a.nilE];exact b
 |w::as,xs,bs,ys,a,b=>by obtain⟨x,xs,rfl,c,d⟩:=a.consE;exact .consI c (RelWs.app d b)
theorem RelWs.get:∀{ws:List W} {vs:List V} {i:Nat} {w:W},RelWs K μ H ws vs->ws[i]?=some w->∃v,vs[i]?=some v/\bf K μ H w v
 |[],_,_,_,_,e=>by simp at e
 |x::ws,vs,0,w,h,e=>by obtain⟨y,ys,rfl,a,b⟩:=h.consE;simp at e;subst e;exact⟨y,rfl,a⟩
 |x::ws,vs,i+1,w,h,e=>by obtain⟨y,ys,rfl,a,b⟩:=h.consE;simpa using RelWs.get (i:=i) b (by simpa using e)
theorem RelWs.take:∀{ws:List W} {vs:List V} (n:Nat),RelWs K μ H ws vs->RelWs K μ H (ws.take n) (vs.take n)
 |_,_,0,_=>by simp only[List.take_zero];exact .nilI
 |[],vs,n+1,h=>by rw[h.nilE];exact .nilI
 |x::ws,vs,n+1,h=>by obtain⟨y,ys,rfl,a,b⟩:=h.consE;exact .consI a (RelWs.take n b)
theorem RelWs.drop:∀{ws:List W} {vs:List V} (n:Nat),RelWs K μ H ws vs->RelWs K μ H (ws.drop n) (vs.drop n)
 |_,_,0,h=>h
 |[],vs,n+1,h=>by rw[h.nilE];exact .nilI
 |x::ws,vs,n+1,h=>by obtain⟨y,ys,rfl,a,b⟩:=h.consE;exact RelWs.drop n b
theorem RelWs.setI:∀{ws:List W} {vs:List V} (i:Nat) {w:W} {v:V},bf K μ H w v->RelWs K μ H ws vs->RelWs K μ H (ws.set i w) (vs.set i v)
 |[],vs,_,_,_,_,h=>by rw[h.nilE];exact .nilI
 |x::ws,vs,0,w,v,r,h=>by obtain⟨y,ys,rfl,a,b⟩:=h.consE;exact .consI r b
 |x::ws,vs,i+1,w,v,r,h=>by obtain⟨y,ys,rfl,a,b⟩:=h.consE;exact .consI a (RelWs.setI i r b)
theorem bf.intE{i:Int}(h:bf K μ H (.int i) v):v=.int i:=by unfold bf at h;exact h
theorem bf.blE{b:Bool}(h:bf K μ H (.bl b) v):v=.bl b:=by unfold bf at h;exact h
theorem bf.nonE(h:bf K μ H .non v):v=.non:=by unfold bf at h;exact h
theorem bf.strE(h:bf K μ H (.str l) v):v=.str (tx l):=by unfold bf at h;exact h
theorem bf.tupE(h:bf K μ H (.tup ws) v):∃p vs,v=.ref p/\fy K H p vs/\RelWs K μ H ws vs:=by unfold bf at h;exact h
theorem bf.locE(h:bf K μ H (.loc n) v):∃a,μ[n]?=some a/\v=.ref a:=by unfold bf at h;exact h
theorem bf.int{i:Int}:bf K μ H (.int i) (.int i):=by unfold bf;rfl
theorem bf.bl{i:Bool}:bf K μ H (.bl i) (.bl i):=by unfold bf;rfl
theorem bf.non:bf K μ H .non .non:=by unfold bf;rfl
theorem bf.str:bf K μ H (.str l) (.str (tx l)):=by unfold bf;rfl
theorem bf.tupI{p:Addr}(a:fy K H p vs)(b:RelWs K μ H ws vs):bf K μ H (.tup ws) (.ref p):=by unfold bf;exact⟨p,vs,rfl,a,b⟩
theorem bf.locI(e:μ[n]?=some a):bf K μ H (.loc n) (.ref a):=by unfold bf;exact⟨a,e,rfl⟩
end
def QK(a:Addr)(C:Value):HO:=.ext fun h=>∃o vs,h.get? a=some o/\o.cls=C/\o.data=.fields vs
def iz(b:Addr)(q:Str):HO:=.ext fun h=>∃o vs t,h.get? b=some o/\o.data=.fields vs/\vs[1]?=some (.str q t)
def Tf(K:Frag)(H:Hp)(a:Addr)(xs:List V):Prop:=
 (∃o,H a=some (.frz o (.lst xs)))\/∃(o:Obj) (bz:Array Value) (n:Nat),K.lookup a=some o/\o.cls=.type "list"/\o.dict=none/\o.data=.seq bz n/\bz.size<=sizeLine/\cp xs bz.toList
theorem Tf.sq{xs:List V}(h:Tf K H a xs):qr K H a xs:=by
 rcases h with⟨o,h⟩|h
 ·exact .inl (.inr ⟨o,h⟩)
 ·exact .inr h
def aj.isRo:aj->Bool
 |.ro _=>true
 |.gone=>true
 |_=>false
def DX(a:Addr)(es:List DictEntry):Heap->Prop:=fun h=>∃o ep,h.get? a=some o/\o.ExactDict/\o.data=.dict es.toArray ep
abbrev Pn(a:Addr)(es:List DictEntry):HO:=.ext (DX a es)
def q9(K:Frag)(μ:List Addr)(H:Hp)(p:KX×W)(e:DictEntry):Prop:=e.hash=p.1.hash/\(∃v,bf K μ H p.1.w v/\bS v e.key)/\∃v,bf K μ H p.2 v/\bS v e.val
def lE(a:Addr)(o:Obj):HO:=.ext fun h=>h.get? a=some o
def kK(K:Frag)(mg:Str->Option Value)(μ:List Addr)(H:Hp):aj->Addr->Prop
 |.lst ws,a=>∃vs,H a=some (.lst vs)/\RelWs K μ H ws vs
 |.ro ws,a=>∃vs,Tf K H a vs/\RelWs K μ H ws vs
 |.exc c,a=>∃C,mg c=some C/\H a=some (QK a C)
 |.dct kvs,a=>∃vs,H a=some (.dK ((kvs.map fun p=>p.1.key).zip vs))/\RelWs K μ H (kvs.map fun p=>p.2) vs
 |.rod kvs,a=>∃vs o,H a=some (.frz o (.dK ((kvs.map fun p=>p.1.key).zip vs)))/\RelWs K μ H (kvs.map fun p=>p.2) vs
 |.dcx kvs,a=>∃es,H a=some (Pn a es)/\(a==sysModules)=false/\Paired (q9 K μ H) kvs es/\(kvs.map fun p=>p.1).Nodup
 |.tab P pos q,a=>a=P/\∃ps,H a=some (.tbl ps)/\TriplesOk ps.toList/\(codeAmong pos ps.toList=none\/∃c,codeAmong pos ps.toList=some (.ref c)/\H c=some (iz c q))
 |.pin k c o w,a=>a=c/\H a=some (lE a o)/\(k=false->∃fd cd,o.data=.func fd/\fd.code=.ref cd/\H cd=some (iz cd fd.qualname))/\∃v,bf K μ H w v/\(k=true->∃u,o.data=.cell (some u)/\bS v u)
 |.gone,_=>True
structure fY(K:Frag)(mg:Str->Option Value)(μ:List Addr)(st:List aj)(H:Hp):Prop where
 nd:∀(i j:Nat) (a:Addr) (ci cj:aj),st[i]?=some ci->st[j]?=some cj->ci.isRo=false->cj.isRo=false->μ[i]?=some a->μ[j]?=some a->i=j
 len:st.length=μ.length
 at':∀(i:Nat) (c:aj) (a:Addr),st[i]?=some c->μ[i]?=some a->kK K mg μ H c a
section
variable{st:List aj}
theorem q9.mono(h:μ <+: μ')(x:dD K H H'){p:KX×W}{e:DictEntry}(r:q9 K μ H p e):q9 K μ' H' p e:=by
 obtain⟨a,⟨v,b,c⟩,u,d,g⟩:=r
 exact⟨a,⟨v,b.mono h x,c⟩,u,d.mono h x,g⟩
theorem kK.keep(h:μ <+: μ')(x:dD K H H'){c:aj}(e:∀o,H a=some o->H' a=some o)(e2:∀b q,H b=some (iz b q)->H' b=some (iz b q))(r:kK K mg μ H c a):kK K mg μ' H' c a:=by
 cases c with
 |lst ws=>obtain⟨vs,p,y⟩:=r;exact⟨vs,e _ p,y.mono h x⟩
 |ro ws=>
  obtain⟨vs,p,y⟩:=r
  refine⟨vs,?_,y.mono h x⟩
  rcases p with⟨o,p⟩|p
  ·exact .inl ⟨o,e _ p⟩
  ·exact .inr p
 |exc c=>obtain⟨C,p,y⟩:=r;exact⟨C,p,e _ y⟩
 |dct kvs=>obtain⟨vs,p,y⟩:=r;exact⟨vs,e _ p,y.mono h x⟩
 |rod kvs=>obtain⟨vs,o,p,y⟩:=r;exact⟨vs,o,e _ p,y.mono h x⟩
 |dcx kvs=>obtain⟨es,p,d,y,z⟩:=r;exact⟨es,e _ p,d,Paired.imp' (fun _ _ q=>q.mono h x) y,z⟩
 |tab P pos q=>
  obtain⟨ea,ps,p,t,y⟩:=r
  refine⟨ea,ps,e _ p,t,?_⟩
  rcases y with y|⟨c,y,z⟩
  ·exact .inl y
  ·exact .inr ⟨c,y,e2 _ _ z⟩
 |pin k c o w=>obtain⟨ea,p,g,v,y,z⟩:=r;exact⟨ea,e _ p,fun q=>let ⟨fd,cd,q1,q2,q3⟩:=g q;⟨fd,cd,q1,q2,e2 _ _ q3⟩,v,y.mono h x,z⟩
 |gone=>trivial
theorem kK.ro_ne{c:aj}(r:kK K mg μ H c a)(h:c.isRo=false):∃o,H a=some o:=by
 cases c with
 |lst ws=>obtain⟨vs,p,y⟩:=r;exact⟨_,p⟩
 |ro ws=>cases h
 |exc c=>obtain⟨C,p,y⟩:=r;exact⟨_,y⟩
 |dct kvs=>obtain⟨vs,p,y⟩:=r;exact⟨_,p⟩
 |rod kvs=>obtain⟨vs,o,p,y⟩:=r;exact⟨_,p⟩
 |dcx kvs=>obtain⟨es,p,_⟩:=r;exact⟨_,p⟩
 |tab P pos q=>obtain⟨_,ps,p,_⟩:=r;exact⟨_,p⟩
 |pin k c o w=>obtain⟨_,p,_⟩:=r;exact⟨_,p⟩
 |gone=>cases h
theorem fY.same(S:fY K mg μ st H)(e:nZ H H'):fY K mg μ st H':=⟨S.nd,S.len,fun i c a h1 h2=>(S.at' i c a h1 h2).keep (af _) (fy.same e) (e a) fun b q h=>e b _ h⟩
theorem fY.get(S:fY K mg μ st H){c:aj}(h:st[n]?=some c):∃a,μ[n]?=some a/\kK K mg μ H c a:=by
 have hn:n<μ.length:=by rw[<- S.len];exact(aa.mp h).1
 exact⟨μ[n],ac hn,S.at' n c _ h (ac hn)⟩
theorem fY.push(S:fY K mg μ st H){p:Addr}{o:HO}{c:aj}(hp:H p=none)(hc:kK K mg (μ++[p]) (eL H p o) c p):fY K mg (μ++[p]) (st++[c]) (eL H p o):=by
 have hs:nZ H (eL H p o):=cD hp o
 have wP:μ <+: μ++[p]:=ao _ _
 have old:∀{i:Nat} {d:aj} {a:Addr},i<st.length->(st++[c])[i]?=some d->(μ++[p])[i]?=some a->st[i]?=some d/\μ[i]?=some a:=fun{i d a} hi h1 h2=>by
  rw[au hi]at h1
  rw[au (by rw[<- S.len];exact hi)]at h2
  exact⟨h1,h2⟩
 have new:∀{i:Nat} {d:aj} {a:Addr},¬ i<st.length->(st++[c])[i]?=some d->(μ++[p])[i]?=some a->i=st.length/\d=c/\a=p:=fun{i d a} hi h1 h2=>by
  have hi':i=st.length:=by
   have:=(aa.mp h1).1
   simp at this;omega
  subst hi'
  simp at h1
  rw[S.len,bX (aw _)]at h2
  simp at h2
  exact⟨rfl,h1.symm,h2.symm⟩
 refine⟨fun i j a ci cj h1 h2 r1 r2 m1 m2=>?_,by simp[S.len],fun i d a h1 h2=>?_⟩
 ·by_cases hi:i<st.length
  ·obtain⟨x1,x2⟩:=old hi h1 m1
   by_cases hj:j<st.length
   ·obtain⟨y1,y2⟩:=old hj h2 m2
    exact S.nd i j a ci cj x1 y1 r1 r2 x2 y2
   ·obtain⟨_,_,rfl⟩:=new hj h2 m2
    obtain⟨o',z⟩:=(S.at' i ci a x1 x2).ro_ne r1
    rw[hp]at z;cases z
  ·obtain⟨e1,_,rfl⟩:=new hi h1 m1
   by_cases hj:j<st.length
   ·obtain⟨y1,y2⟩:=old hj h2 m2
    obtain⟨o',z⟩:=(S.at' j cj a y1 y2).ro_ne r2
    rw[hp]at z;cases z
   ·obtain⟨e2,_,_⟩:=new hj h2 m2
    omega
 ·by_cases hi:i<st.length
  ·obtain⟨x1,x2⟩:=old hi h1 h2
   exact(S.at' i d a x1 x2).keep wP (fy.same hs) (hs a) fun b q h=>hs b _ h
  ·obtain⟨_,rfl,rfl⟩:=new hi h1 h2
   exact hc
theorem fY.setG(S:fY K mg μ st H){c c':aj}{o o':HO}(hn:st[n]?=some c)(tQ:c.isRo=false)(hm:μ[n]?=some a)(ha:H a=some o)(hf:∀q u,o≠.frz q u)(hg:∀q,o≠iz a q)(hx:dD K H (eL H a o'))(Va:c'.isRo=false)(hr:kK K mg μ (eL H a o') c' a):fY K mg μ (st.set n c') (eL H a o'):=by
 have hl:n<st.length:=(aa.mp hn).1
 have back:∀{i:Nat} {d:aj},(st.set n c')[i]?=some d->∃d',st[i]?=some d'/\(d'=d\/(i=n/\d=c')):=fun{i d} h=>by
  by_cases e:i=n
  ·subst e
   rw[bv hl]at h
   exact⟨_,hn,.inr ⟨rfl,(a7 h).symm⟩⟩
  ·rw[bP (Ne.symm e)]at h
   exact⟨d,h,.inl rfl⟩
 refine⟨fun i j b ci cj h1 h2 r1 r2 m1 m2=>?_,by simp[S.len],fun i d b h1 h2=>?_⟩
 ·obtain⟨di,x1,y1⟩:=back h1
  obtain⟨dj,x2,y2⟩:=back h2
  refine S.nd i j b di dj x1 x2 ?_ ?_ m1 m2
  ·rcases y1 with rfl|⟨rfl,rfl⟩
   ·exact r1
   ·rw[hn]at x1;cases x1;exact tQ
  ·rcases y2 with rfl|⟨rfl,rfl⟩
   ·exact r2
   ·rw[hn]at x2;cases x2;exact tQ
 ·by_cases e:i=n
  ·subst e
   rw[bv hl]at h1
   cases h1
   rw[hm]at h2;cases h2
   exact hr
  ·rw[bP (Ne.symm e)]at h1
   have r:=S.at' i d b h1 h2
   by_cases hrd:d.isRo=true
   ·cases d with
    |ro zs=>
     obtain⟨us,p,q⟩:=r
     refine⟨us,?_,q.mono (af _) hx⟩
     rcases p with⟨o2,p⟩|p
     ·exact .inl ⟨o2,by rw[ce (by rintro rfl;rw[ha]at p;cases p;exact hf _ _ rfl)];exact p⟩
     ·exact .inr p
    |lst _=>cases hrd
    |exc _=>cases hrd
    |dct _=>cases hrd
    |rod _=>cases hrd
    |dcx _=>cases hrd
    |tab _ _ _=>cases hrd
    |pin _ _ _ _=>cases hrd
    |gone=>trivial
   ·refine r.keep (af _) hx (fun o ho=>?_) fun b' q h=>by rw[ce (by rintro rfl;rw[ha]at h;cases h;exact hg _ rfl)];exact h
    have hb:b≠a:=by
     rintro rfl
     exact e (S.nd i n b d _ h1 hn (by simpa using hrd) tQ h2 hm)
    rw[ce hb];exact ho
theorem fY.set(S:fY K mg μ st H){Sy:List W}{HH:List V}(hn:st[n]?=some (.lst ws))(hm:μ[n]?=some a)(ha:H a=some (.lst vs))(hr:RelWs K μ H Sy HH):fY K mg μ (st.set n (.lst Sy)) (eL H a (.lst HH)):=by
 have hx:dD K H (eL H a (.lst HH)):=fy.but fL ha
 have hl:n<st.length:=(aa.mp hn).1
 have back:∀{i:Nat} {d:aj},(st.set n (.lst Sy))[i]?=some d->∃d',st[i]?=some d'/\(d'=d\/(i=n/\d=.lst Sy)):=fun{i d} h=>by
  by_cases e:i=n
  ·subst e
   rw[bv hl]at h
   exact⟨_,hn,.inr ⟨rfl,(a7 h).symm⟩⟩
  ·rw[bP (Ne.symm e)]at h
   exact⟨d,h,.inl rfl⟩
 refine⟨fun i j b ci cj h1 h2 r1 r2 m1 m2=>?_,by simp[S.len],fun i d b h1 h2=>?_⟩
 ·obtain⟨di,x1,y1⟩:=back h1
  obtain⟨dj,x2,y2⟩:=back h2
  refine S.nd i j b di dj x1 x2 ?_ ?_ m1 m2
  ·rcases y1 with rfl|⟨rfl,rfl⟩
   ·exact r1
   ·rw[hn]at x1;cases x1;rfl
  ·rcases y2 with rfl|⟨rfl,rfl⟩
   ·exact r2
   ·rw[hn]at x2;cases x2;rfl
 ·by_cases e:i=n
  ·subst e
   rw[bv hl]at h1
   cases h1
   rw[hm]at h2;cases h2
   exact⟨HH,dG,hr.mono (af _) hx⟩
  ·rw[bP (Ne.symm e)]at h1
   have r:=S.at' i d b h1 h2
   by_cases tQ:d.isRo=true
   ·cases d with
    |ro zs=>
     obtain⟨us,p,q⟩:=r
     refine⟨us,?_,q.mono (af _) hx⟩
     rcases p with⟨o',p⟩|p
     ·exact .inl ⟨o',by rw[ce (by rintro rfl;rw[ha]at p;cases p)];exact p⟩
     ·exact .inr p
    |lst _=>cases tQ
    |exc _=>cases tQ
    |dct _=>cases tQ
    |rod _=>cases tQ
    |dcx _=>cases tQ
    |tab _ _ _=>cases tQ
    |pin _ _ _ _=>cases tQ
    |gone=>trivial
   ·refine r.keep (af _) hx (fun o ho=>?_) fun b' q h=>by rw[ce (by rintro rfl;rw[ha]at h;cases h)];exact h
    have hb:b≠a:=by
     rintro rfl
     exact e (S.nd i n b d _ h1 hn (by simpa using tQ) rfl h2 hm)
    rw[ce hb];exact ho
end
structure Rl(X:Cx)(μ:List Addr)(ρ:cu)(st:List aj)(σ:St)(H:Hp):Prop where
 env:Paired (fun(o:Option W) (s:Option V)=>∀w,o=some w->∃v,s=some v/\bf X.K μ H w v) ρ σ
 sto:fY X.K X.mg μ st H
theorem qv(h:μ <+: μ')(x:dD K H H'):∀{ρ:cu} {σ:St},Paired (fun(o:Option W) (s:Option V)=>∀w,o=some w->∃v,s=some v/\bf K μ H w v) ρ σ ->
  Paired (fun(o:Option W) (s:Option V)=>∀w,o=some w->∃v,s=some v/\bf K μ' H' w v) ρ σ
 |_,_,.nil=>.nil
 |_,_,.cons a t=>.cons (fun w e=>let ⟨v,p,q⟩:=a w e;⟨v,p,q.mono h x⟩) (qv h x t)
theorem Rl.to{ρ:cu}{st:List aj}(r:Rl X μ ρ st σ H)(h:μ <+: μ')(x:dD X.K H H')(s:fY X.K X.mg μ' bx H'):Rl X μ' ρ bx σ H':=⟨qv h x r.env,s⟩
theorem lF:∀{ρ:cu} {σ:St} {i:Nat} {w:W},Paired (fun(o:Option W) (s:Option V)=>∀w,o=some w->∃v,s=some v/\bf K μ H w v) ρ σ->ρ[i]?=some (some w)->∃v,σ[i]?=some (some v)/\bf K μ H w v
 |_,_,_,_,.nil,e=>by simp at e
 |_,_,0,w,.cons a t,e=>by simp at e;obtain⟨v,p,q⟩:=a w e;exact⟨v,by simp[p],q⟩
 |_,_,i+1,w,.cons a t,e=>by simpa using lF (i:=i) t (by simpa using e)
theorem pG{w:W}(r:bf K μ H w v):∀{ρ:cu} {σ:St} (i:Nat),Paired (fun(o:Option W) (s:Option V)=>∀w,o=some w->∃v,s=some v/\bf K μ H w v) ρ σ ->
  Paired (fun(o:Option W) (s:Option V)=>∀w,o=some w->∃v,s=some v/\bf K μ H w v) (ρ.set i (some w)) (σ.set i (some v))
 |_,_,_,.nil=>.nil
 |_,_,0,.cons a t=>.cons (fun w' e=>⟨v,rfl,by cases e;exact r⟩) t
 |_,_,i+1,.cons a t=>.cons a (pG r i t)
structure uL(X:Cx)(pins:List (Addr×Obj))(σ:St)(c:Str)(H:Hp)(e:Value)(s:Shared):Prop where
 inv:bw X pins σ H s
 ex:∃x C t B,e=.ref x/\X.mg c=some C/\H x=none/\B.StaysIn s.heap/\B.get? x=none/\s.heap.FunFrames B X.stack /\
  (s.heap.TracedW B x C (.ref t)\/(∃oe vs,s.heap.get? x=some oe/\oe.cls=C/\oe.dict=none/\oe.data=.fields vs/\vs[1]?=some .none/\vs[0]?=some (.ref t))\/∃L,X.env.frame=some L/\s.heap.TracedAtW B x C (.ref t) (rawInt L)) /\
  ∀b o,s.heap.get? b=some o->(H b≠none\/((∃o0,X.s₀.heap.get? b=some o0)/\b∉X.fs/\b∉X.ex)\/((∃y,X.env.cells.lookup y=some b)/\b∉tZ X.stack)\/∃p∈X.pn++pins,p.1=b)->B.get? b=some o
def XS(X:Cx)(c:Str)(μ:List Addr)(ρ:cu)(st:List aj)(H:Hp):Prop:=
 ∀pins μ' σ' H' e s',μ <+: μ'->dD X.K H H'->Rl X μ' ρ st σ' H'->uL X pins σ' c H' e s'->X.xe e s'
def XE(X:Cx)(c:Str)(μ:List Addr)(st:List aj)(σ:St)(H:Hp):Prop:=
 ∀pins μ' H' e s',μ <+: μ'->dD X.K H H'->fY X.K X.mg μ' st H'->uL X pins σ c H' e s'->X.xe e s'
theorem XE.mono{c:Str}{μ1:List Addr}{st:List aj}{H1:Hp}(h:XE X c μ st σ H)(p:μ <+: μ1)(x:dD X.K H H1):XE X c μ1 st σ H1:=fun pins μ' H' e s' a b=>h pins μ' H' e s' (p.trans a) (x.trans b)
theorem XS.mono{c:Str}{μ1:List Addr}{ρ:cu}{st:List aj}{H1:Hp}(h:XS X c μ ρ st H)(p:μ <+: μ1)(x:dD X.K H H1):XS X c μ1 ρ st H1:=fun pins μ' σ' H' e s' a b=>h pins μ' σ' H' e s' (p.trans a) (x.trans b)
theorem XS.toE{c:Str}{ρ:cu}{Pj st:List aj}(h:XS X c μ ρ st H)(r:Rl X μ ρ Pj σ H):XE X c μ st σ H:=fun pins μ' H' e s' a b s f=>h pins μ' σ H' e s' a b (r.to a b s) f
def RK(X:Cx)(i9:List Addr->Hp->α->β->Prop)(μ:List Addr)(σ:St)(H:Hp)(Q:β->Hp->Prop):R α->Prop
 |.ok a bx=>∀μ' b H',μ <+: μ'->dD X.K H H'->fY X.K X.mg μ' bx H'->i9 μ' H' a b->Q b H'
 |.ex c bx=>XE X c μ bx σ H
 |.bad=>False
theorem RK.mono{i9:List Addr->Hp->α->β->Prop}{μ1:List Addr}{H1:Hp}{Q:β->Hp->Prop}{r:R α}(h:RK X i9 μ σ H Q r)(p:μ <+: μ1)(x:dD X.K H H1):RK X i9 μ1 σ H1 Q r:=by
 cases r with
 |ok a st=>exact fun μ' b H' a1 b1=>h μ' b H' (p.trans a1) (x.trans b1)
 |ex c st=>exact XE.mono h p x
 |bad=>exact h
def tG(X:Cx)(i9:List Addr->Hp->α->β->Prop)(f:cu->List aj->R α)(σ:St)(H:Hp)(Q:β->Hp->Prop):Prop:=
 ∃μ ρ st,Rl X μ ρ st σ H/\RK X i9 μ σ H Q (f ρ st)
abbrev q_(X:Cx):List Addr->Hp->W->V->Prop:=fun μ H w v=>bf X.K μ H w v
abbrev T5(X:Cx):List Addr->Hp->List W->List V->Prop:=fun μ H w v=>RelWs X.K μ H w v
abbrev M5:List Addr->Hp->Bool->Bool->Prop:=fun _ _ a b=>a=b
abbrev tE(X:Cx)(f:FE):TE:=tG X (q_ X) f
abbrev tT(X:Cx)(f:FT):TT:=tG X M5 f
abbrev QL(X:Cx)(f:FA):TA:=tG X (T5 X) f
theorem RK.bind{α' β':Type}{i9:List Addr->Hp->α->β->Prop}{S7:List Addr->Hp->α'->β'->Prop}{ρ:cu}{st:List aj}{r:R α}{k:α->List aj->R α'}{Q:β'->Hp->Prop}{T:β->Hp->Prop}
  (h:RK X S7 μ σ H Q (r.bind k)) (l:Rl X μ ρ st σ H)
  (hk:∀μ' bx x v H',μ <+: μ'->dD X.K H H'->Rl X μ' ρ bx σ H'->i9 μ' H' x v->RK X S7 μ' σ H' Q (k x bx)->T v H'):RK X i9 μ σ H T r:=by
 cases r with
 |ok a bx=>exact fun μ' b H' p x s q=>hk μ' bx a b H' p x (l.to p x s) q (RK.mono h p x)
 |ex c bx=>exact h
 |bad=>exact h
def SK(X:Cx)(μ:List Addr)(H:Hp)(D:vq):RS->Prop
 |.nx ρ st=>∀μ' σ' H',μ <+: μ'->dD X.K H H'->Rl X μ' ρ st σ' H'->D.nx σ' H'
 |.bk ρ st=>∀μ' σ' H',μ <+: μ'->dD X.K H H'->Rl X μ' ρ st σ' H'->D.bk σ' H'
 |.ct ρ st=>∀μ' σ' H',μ <+: μ'->dD X.K H H'->Rl X μ' ρ st σ' H'->D.ct σ' H'
 |.rt w st=>∀μ' v H',μ <+: μ'->dD X.K H H'->fY X.K X.mg μ' st H'->bf X.K μ' H' w v->D.rt v H'
 |.ex c ρ st=>XS X c μ ρ st H
 |.bad=>False
theorem SK.mono{μ1:List Addr}{H1:Hp}{D:vq}{r:RS}(h:SK X μ H D r)(p:μ <+: μ1)(x:dD X.K H H1):SK X μ1 H1 D r:=by
 cases r with
 |nx ρ st=>exact fun μ' b H' a1 b1=>h μ' b H' (p.trans a1) (x.trans b1)
 |bk ρ st=>exact fun μ' b H' a1 b1=>h μ' b H' (p.trans a1) (x.trans b1)
 |ct ρ st=>exact fun μ' b H' a1 b1=>h μ' b H' (p.trans a1) (x.trans b1)
 |rt w st=>exact fun μ' b H' a1 b1=>h μ' b H' (p.trans a1) (x.trans b1)
 |ex c ρ st=>exact XS.mono h p x
 |bad=>exact h
def Po(X:Cx)(g:FS):TS:=fun D σ H=>∃μ ρ st,Rl X μ ρ st σ H/\SK X μ H D (g ρ st)
structure SE(X:Cx)(e:Expr)(f:FE):Prop where
 h:PE X e (tE X f)
structure ST(X:Cx)(e:Expr)(f:FT):Prop where
 h:PT X e (tT X f)
structure SW(X:Cx)(e:Expr)(f:FT):Prop where
 h:PW X e (tT X f)
structure SA(X:Cx)(es:List Expr)(f:FA):Prop where
 h:PA X es (QL X f)
structure SS(X:Cx)(s:Stmt)(g:FS):Prop where
 h:PS X s (Po X g)
structure SB(X:Cx)(s:List Stmt)(g:FS):Prop where
 h:B9 X s (Po X g)
theorem PE.imp{t t':TE}(h:PE X e t)(i:∀σ H Q,t' σ H Q->t σ H Q):PE X e t':=fun pins s σ H Q I q=>h pins s σ H Q I (i _ _ _ q)
theorem PT.imp{t t':TT}(h:PT X e t)(i:∀σ H Q,t' σ H Q->t σ H Q):PT X e t':=fun pins s σ H Q I q=>h pins s σ H Q I (i _ _ _ q)
theorem PW.imp{t t':TT}(h:PW X e t)(i:∀σ H Q,t' σ H Q->t σ H Q):PW X e t':=fun wh pins s σ H Q I q=>h wh pins s σ H Q I (i _ _ _ q)
theorem PA.imp{e:List Expr}{t t':TA}(h:PA X e t)(i:∀σ H Q,t' σ H Q->t σ H Q):PA X e t':=fun pos pins s σ H Q I q=>h pos pins s σ H Q I (i _ _ _ q)
theorem PS.imp{e:Stmt}{t t':TS}(h:PS X e t)(i:∀D σ H,t' D σ H->t D σ H):PS X e t':=fun pins s σ H D I q=>h pins s σ H D I (i _ _ _ q)
theorem B9.imp{e:List Stmt}{t t':TS}(h:B9 X e t)(i:∀D σ H,t' D σ H->t D σ H):B9 X e t':=fun pins s σ H D I q=>h pins s σ H D I (i _ _ _ q)
section
variable{a b o:Expr}{rest:List Expr}{fa fb fc fe:FE}{ft fu:FT}{fs:FA}
def ae(i:Nat):FE:=fun ρ st=>match ρ[i]? with
 |some (some w)=>.ok w st
 |_=>.bad
theorem aJ(i:Nat){pos:Pos}(hN:X.N[i]?=some x:=by rfl)(hv:Pk X.env.scope x:=by first|exact Or.inl rfl|exact Or.inr (Or.inl rfl)|exact Or.inr (Or.inr rfl))(hd:(x==("__debug__":Str))=false:=by decide)
  (lD:(x==("__classdict__":Str))=false:=by decide):SE X (.Name x pos) (ae i):=⟨(pv i hN hv hd lD).imp fun σ H Q h=>by
 obtain⟨μ,ρ,st,r,h⟩:=h
 unfold ae at h
 cases e:ρ[i]? with
 |none=>rw[e]at h;exact h.elim
 |some ow=>
  cases ow with
  |none=>rw[e]at h;exact h.elim
  |some w=>
   rw[e]at h
   obtain⟨v,e1,e2⟩:=lF r.env e
   exact⟨v,e1,h μ v H (af _) dD.refl r.sto e2⟩⟩
def eC(w:W):FE:=fun _ st=>.ok w st
abbrev eI(n:Int):FE:=eC (.int n)
theorem T6{w:W}(hc:PE X e (tC v))(hr:∀μ H,bf X.K μ H w v):SE X e (eC w):=⟨hc.imp fun σ H Q h=>by
 obtain⟨μ,ρ,st,r,h⟩:=h
 exact h μ v H (af _) dD.refl r.sto (hr _ _)⟩
theorem cf{i:Int}:SE X (.Constant (.int i) j pos) (eC (.int i)):=T6 Ma fun _ _=>.int
theorem vJ{k:Bool}:SE X (.Constant (.bool k) j pos) (eC (.bl k)):=T6 PP fun _ _=>.bl
theorem Ki(h:x=tx l:=by decide +kernel):SE X (.Constant (.str x) j pos) (eC (.str l)):=T6 Mb fun _ _=>by rw[h];exact .str
def e2(f:W->W->List aj->R W)(fa fb:FE):FE:=fun ρ st=>(fa ρ st).bind fun x st=>(fb ρ st).bind fun y st=>f x y st
def Dw(X:Cx)(μ:List Addr)(H:Hp)(Q:VK):R W->Prop
 |.ok w bx=>∀μ' v H',μ <+: μ'->dD X.K H H'->fY X.K X.mg μ' bx H'->bf X.K μ' H' w v->Q v H'
 |_=>False
def rd:R α->Prop
 |.ex _ _=>False
 |_=>True
def T7(X:Cx)(f:W->W->List aj->R W):R2:=fun x y H Q=>∃μ st wx wy,fY X.K X.mg μ st H/\bf X.K μ H wx x/\bf X.K μ H wy y/\Dw X μ H Q (f wx wy st)
structure qL(X:Cx)(g:Value->Value->Sem Value)(f:W->W->List aj->R W):Prop where
 h:mL X g (T7 X f)
 n:∀x y st,rd (f x y st)
theorem qw{Q:VK}{r:R W}(h:RK X (q_ X) μ σ H Q r)(n:rd r):Dw X μ H Q r:=by
 cases r with
 |ok a st=>exact h
 |ex c st=>exact n.elim
 |bad=>exact h
theorem AS{f:W->W->List aj->R W}{Q:VK}(n:∀x y st,rd (f x y st))(h:tE X (e2 f fa fb) σ H Q):P6 (T7 X f) (tE X fa) (tE X fb) σ H Q:=by
 obtain⟨μ,ρ,st,l,h⟩:=h
 refine⟨μ,ρ,st,l,RK.bind h l fun μ1 st1 x v H1 p1 x1 l1 q1 h1=>⟨μ1,ρ,st1,l1,RK.bind h1 l1 fun μ2 c7 y u H2 p2 x2 l2 q2 h2=>?_⟩⟩
 exact⟨μ2,c7,x,y,l2.sto,q1.mono p2 x2,q2,qw h2 (n _ _ _)⟩
theorem pH{op:Operator}{f:W->W->List aj->R W}(ho:qL X (binaryOp op) f)(ha:SE X a fa)(hb:SE X b fb):SE X (.BinOp a op b pos) (e2 f fa fb):=⟨(P7 ho.h ha.h hb.h).imp fun _ _ _ h=>AS ho.n h⟩
theorem AT{f:W->W->List aj->R W}(ho:qL X (compareOp op) f)(ha:SE X a fa)(hb:SE X b fb)(hm:behindInMarks op b=false:=by first|exact DO _|rfl):SE X (.Compare a [op] [b] pos) (e2 f fa fb):=⟨(HY ho.h ha.h hb.h hm).imp fun _ _ _ h=>AS ho.n h⟩
def eV(fa:FE):FT:=fun ρ st=>(fa ρ st).bind fun x st=>match x with
 |.bl k=>.ok k st
 |_=>.bad
theorem si{Q:Bool->Hp->Prop}(h:tT X (eV fa) σ H Q):tE X fa σ H fun x H1=>∃k,x=.bl k/\Q k H1:=by
 obtain⟨μ,ρ,st,l,h⟩:=h
 refine⟨μ,ρ,st,l,RK.bind h l fun μ1 st1 x v H1 p1 x1 l1 q1 h1=>?_⟩
 cases x with
 |bl k=>exact⟨k,q1.blE,h1 μ1 k H1 (af _) dD.refl l1.sto rfl⟩
 |_=>exact h1.elim
theorem iJ{f:W->W->List aj->R W}(ho:qL X (compareOp op) f)(ha:SE X a fa)(hb:SE X b fb)(hm:behindInMarks op b=false:=by first|exact DO _|rfl):ST X (.Compare a [op] [b] pos) (eV (e2 f fa fb)):=⟨(HZ ho.h ha.h hb.h hm).imp fun σ H Q h=>by
 have h':tE X (e2 f fa fb) σ H fun x H1=>∃k,x=.bl k/\Q k H1:=si h
 exact AS ho.n h'⟩
theorem qx(h:SE X e fe)(he:∀tR,isTrue e X.env tR=(do let v <- tR;standAt e.pos;holding [v] (truthy v)):=by intro _;rfl):ST X e (eV fe):=⟨(Mf h.h he).imp fun σ H Q h=>si h⟩
def M6(t u:FT):FT:=fun ρ st=>(t ρ st).bind fun k st=>if k then u ρ st else .ok false st
def re(t u:FT):FT:=fun ρ st=>(t ρ st).bind fun k st=>if k then .ok true st else u ρ st
def ue(t:FT):FT:=fun ρ st=>(t ρ st).bind fun k st=>.ok (!k) st
theorem IC(ha:ST X a ft):SW X (.BoolOp .And [a] pos) ft:=⟨HL ha.h⟩
theorem qy(ha:ST X a ft):SW X (.BoolOp .Or [a] pos) ft:=⟨Mg ha.h⟩
theorem Ed(ha:ST X a ft)(hb:SW X (.BoolOp .And (b::rest) pos) fu):SW X (.BoolOp .And (a::b::rest) pos) (M6 ft fu):=⟨(Mh ha.h hb.h).imp fun σ H Q h=>by
 obtain⟨μ,ρ,st,l,h⟩:=h
 refine⟨μ,ρ,st,l,RK.bind h l fun μ1 st1 x v H1 p1 x1 l1 q1 h1=>?_⟩
 cases q1
 cases x with
 |true=>exact⟨μ1,ρ,st1,l1,h1⟩
 |false=>exact h1 μ1 false H1 (af _) dD.refl l1.sto rfl⟩
theorem qM(ha:ST X a ft)(hb:SW X (.BoolOp .Or (b::rest) pos) fu):SW X (.BoolOp .Or (a::b::rest) pos) (re ft fu):=⟨(PR ha.h hb.h).imp fun σ H Q h=>by
 obtain⟨μ,ρ,st,l,h⟩:=h
 refine⟨μ,ρ,st,l,RK.bind h l fun μ1 st1 x v H1 p1 x1 l1 q1 h1=>?_⟩
 cases q1
 cases x with
 |false=>exact⟨μ1,ρ,st1,l1,h1⟩
 |true=>exact h1 μ1 true H1 (af _) dD.refl l1.sto rfl⟩
theorem zr(h:SW X e ft):ST X e ft:=⟨h.h.pt⟩
theorem sj(ha:ST X a ft):ST X (.UnaryOp .Not a pos) (ue ft):=⟨(Mi ha.h).imp fun σ H Q h=>by
 obtain⟨μ,ρ,st,l,h⟩:=h
 refine⟨μ,ρ,st,l,RK.bind h l fun μ1 st1 x v H1 p1 x1 l1 q1 h1=>?_⟩
 cases q1
 exact h1 μ1 _ H1 (af _) dD.refl l1.sto rfl⟩
def xE(fa fb:FE):FE:=fun ρ st=>(fa ρ st).bind fun x st=>match x with
 |.bl true=>fb ρ st
 |.bl false=>.ok (.bl false) st
 |_=>.bad
def ID(fa:FE):FE:=fun ρ st=>(fa ρ st).bind fun x st=>match x with
 |.bl k=>.ok (.bl (!k)) st
 |_=>.bad
theorem Kj{op:BoolOp}(h:SE X a fa):SE X (.BoolOp op [a] pos) fa:=⟨Mj h.h⟩
theorem Kk(ha:SE X a fa)(hb:SE X (.BoolOp .And (b::rest) pos) fb):SE X (.BoolOp .And (a::b::rest) pos) (xE fa fb):=⟨(Mk ha.h hb.h).imp fun σ H Q h=>by
 obtain⟨μ,ρ,st,l,h⟩:=h
 refine⟨μ,ρ,st,l,RK.bind h l fun μ1 st1 x v H1 p1 x1 l1 q1 h1=>?_⟩
 cases x with
 |bl k=>
  refine⟨k,q1.blE,?_⟩
  cases k with
  |true=>exact⟨μ1,ρ,st1,l1,h1⟩
  |false=>exact h1 μ1 _ H1 (af _) dD.refl l1.sto .bl
 |_=>exact h1.elim⟩
theorem QM(ha:SE X a fa):SE X (.UnaryOp .Not a pos) (ID fa):=⟨(Ml ha.h).imp fun σ H Q h=>by
 obtain⟨μ,ρ,st,l,h⟩:=h
 refine⟨μ,ρ,st,l,RK.bind h l fun μ1 st1 x v H1 p1 x1 l1 q1 h1=>?_⟩
 cases x with
 |bl k=>exact⟨k,q1.blE,h1 μ1 _ H1 (af _) dD.refl l1.sto .bl⟩
 |_=>exact h1.elim⟩
def W.isNon:W->Bool
 |.non=>true
 |_=>false
def zt(fa:FE):FE:=fun ρ st=>(fa ρ st).bind fun x st=>.ok (.bl x.isNon) st
def Kl(fa:FE):FE:=fun ρ st=>(fa ρ st).bind fun x st=>.ok (.bl (!x.isNon)) st
theorem QN{w:W}(r:bf X.K μ H w v):decide (v=.non)=w.isNon:=by
 cases w with
 |non=>rw[r.nonE];rfl
 |bl b=>rw[r.blE];rfl
 |int b=>rw[r.intE];rfl
 |str b=>rw[r.strE];rfl
 |tup b=>obtain⟨p,vs,rfl,_⟩:=r.tupE;rfl
 |loc b=>obtain⟨p,_,rfl⟩:=r.locE;rfl
theorem Km{Q:VK}(h:tE X (zt fa) σ H Q):PQ (tE X fa) σ H Q:=by
 obtain⟨μ,ρ,st,l,h⟩:=h
 refine⟨μ,ρ,st,l,RK.bind h l fun μ1 st1 x v H1 p1 x1 l1 q1 h1=>?_⟩
 show Q (.bl (decide (v=.non))) H1
 rw[QN q1]
 exact h1 μ1 _ H1 (af _) dD.refl l1.sto .bl
theorem QO(ha:SE X a fa):SE X (.Compare a [.Is] [.Constant .none j ji] pos) (zt fa):=⟨(Md (DF ha.h)).imp fun _ _ _ h=>Km h⟩
theorem M7(ha:SE X a fa):ST X (.Compare a [.Is] [.Constant .none j ji] pos) (eV (zt fa)):=⟨(Me (DF ha.h)).imp fun _ _ _ h=>Km (si h)⟩
def az:FA:=fun _ st=>.ok [] st
def ag(fa:FE)(fs:FA):FA:=fun ρ st=>(fa ρ st).bind fun x st=>(fs ρ st).bind fun xs st=>.ok (x::xs) st
theorem bA:SA X [] az:=⟨zc.imp fun σ H Q h=>by
 obtain⟨μ,ρ,st,l,h⟩:=h
 exact h μ [] H (af _) dD.refl l.sto .nilI⟩
theorem aL(ha:SE X e fe)(hr:SA X es fs)(hs:starEach (e::es) X.env=(false,eval e X.env)::starEach es X.env:=by rfl):SA X (e::es) (ag fe fs):=⟨(rD ha.h hr.h hs).imp fun σ H Q h=>by
 obtain⟨μ,ρ,st,l,h⟩:=h
 refine⟨μ,ρ,st,l,RK.bind h l fun μ1 st1 x v H1 p1 x1 l1 q1 h1=>⟨μ1,ρ,st1,l1,RK.bind h1 l1 fun μ2 c7 xs vs H2 p2 x2 l2 q2 h2=>?_⟩⟩
 exact h2 μ2 _ H2 (af _) dD.refl l2.sto (.consI (q1.mono p2 x2) q2)⟩
def QP(zs:List (List Nat)):FA:=fun _ st=>.ok (zs.map W.str) st
def pI(ws:List W)(st:List aj):R W:=if ws.length<=jF then .ok (.tup ws) st else .bad
def mN(ws:List W)(st:List aj):R W:=if ws.length<=jF then .ok (.loc st.length) (st++[.lst ws])else .bad
def f7(fs:FA):FE:=fun ρ st=>(fs ρ st).bind fun ws st=>pI ws st
def kB(fs:FA):FE:=fun ρ st=>(fs ρ st).bind fun ws st=>mN ws st
theorem fY.newLst{st:List aj}(S:fY K mg μ st H){p:Addr}(hp:H p=none)(r:RelWs K μ H ws vs):fY K mg (μ++[p]) (st++[.lst ws]) (eL H p (.lst vs)):=
 S.push hp ⟨vs,dG,r.mono (ao _ _) (fy.same (cD hp _))⟩
theorem nv{st:List aj}(S:fY K mg μ st H){p:Addr}:bf K (μ++[p]) H' (.loc st.length) (.ref p):=.locI (by rw[S.len];simp)
theorem Ee{st:List aj}{Q:VK}(S:fY X.K X.mg μ st H)(q:RelWs X.K μ H ws vs)(h:RK X (q_ X) μ σ H Q (pI ws st)):vs.length<=sizeLine/\∀p H2,H p=none->H2=eL H p (.tup vs)->Q (.ref p) H2:=by
 unfold pI at h
 by_cases hz:ws.length<=jF
 ·rw[ay hz]at h
  refine⟨by rw[<- q.len];exact iI hz,fun p H2 hp e=>?_⟩
  subst e
  have x:=fy.same (K:=X.K) (cD hp (.tup vs))
  exact h μ _ _ (af _) x (S.same (cD hp _)) (.tupI fy.new (q.mono (af _) x))
 ·rw[aC hz]at h;exact h.elim
theorem sk{st:List aj}{σ:St}{Q:VK}(S:fY X.K X.mg μ st H)(q:RelWs X.K μ H ws vs)(h:RK X (q_ X) μ σ H Q (mN ws st)):vs.length<=sizeLine/\∀p H2,H p=none->H2=eL H p (.lst vs)->Q (.ref p) H2:=by
 unfold mN at h
 by_cases hz:ws.length<=jF
 ·rw[ay hz]at h
  refine⟨by rw[<- q.len];exact iI hz,fun p H2 hp e=>?_⟩
  subst e
  exact h (μ++[p]) _ _ (ao _ _) (fy.same (cD hp _)) (S.newLst hp q) (nv S)
 ·rw[aC hz]at h;exact h.elim
theorem oq{k:Nat}(h:SA X es fs):SE X (.Tuple es k pos) (f7 fs):=⟨(Iv h.h).imp fun σ H Q h=>by
 obtain⟨μ,ρ,st,l,h⟩:=h
 exact⟨μ,ρ,st,l,RK.bind h l fun μ1 st1 x v H1 p1 x1 l1 q1 h1=>Ee l1.sto q1 h1⟩⟩
theorem AU(h:SA X es fs):SE X (.List es pos) (kB fs):=⟨(Iw h.h).imp fun σ H Q h=>by
 obtain⟨μ,ρ,st,l,h⟩:=h
 exact⟨μ,ρ,st,l,RK.bind h l fun μ1 st1 x v H1 p1 x1 l1 q1 h1=>sk l1.sto q1 h1⟩⟩
end
section
theorem jw{st:List aj}{Q:VK}{i:Int}(S:fY X.K X.mg μ st H)(h:Dw X μ H Q (.ok (.int i) st)):Q (.int i) H:=h μ _ H (af _) dD.refl S .int
theorem iK{st:List aj}{Q:VK}{i:Bool}(S:fY X.K X.mg μ st H)(h:Dw X μ H Q (.ok (.bl i) st)):Q (.bl i) H:=h μ _ H (af _) dD.refl S .bl
theorem pJ{st:List aj}{Q:VK}{i:List Nat}(S:fY X.K X.mg μ st H)(h:Dw X μ H Q (.ok (.str i) st)):Q (.str (tx i)) H:=h μ _ H (af _) dD.refl S .str
theorem M8{Q:VK}{r:R W}(h:Dw X μ H Q r):RK X (q_ X) μ σ H Q r:=by
 cases r with
 |ok a st=>exact h
 |ex c st=>exact h.elim
 |bad=>exact h
def CB(C:Int->Int->Prop)[∀i j,Decidable (C i j)](f:Int->Int->Int):W->W->List aj->R W
 |.int i,.int j,st=>if C i j then .ok (.int (f i j)) st else .bad
 |_,_,_=>.bad
theorem xF{C C':Int->Int->Prop}[∀i j,Decidable (C' i j)]{f:Int->Int->Int}(h:mL X g (rI C fun i j=>.int (f i j)))(hC:∀i j,C' i j->C i j):qL X g (CB C' f):=⟨h.imp fun x y H Q ⟨μ,st,wx,wy,S,rx,ry,q⟩=>by
 cases wx with
 |int i=>
  cases wy with
  |int j=>
   simp only[CB]at q
   by_cases c:C' i j
   ·rw[ay c]at q;exact⟨i,j,rx.intE,ry.intE,hC i j c,jw S q⟩
   ·rw[aC c]at q;exact q.elim
  |_=>exact q.elim
 |_=>cases wy<;>exact q.elim,fun x y st=>by
 unfold CB
 split
 ·split<;>trivial
 ·trivial⟩
def CC(f:Int->Int->Bool):W->W->List aj->R W
 |.int i,.int j,st=>.ok (.bl (f i j)) st
 |_,_,_=>.bad
theorem Ef{f:Int->Int->Bool}(h:mL X g (Hz fun i j=>.bl (f i j))):qL X g (CC f):=⟨h.imp fun x y H Q ⟨μ,st,wx,wy,S,rx,ry,q⟩=>by
 cases wx with
 |int i=>
  cases wy with
  |int j=>exact⟨i,j,rx.intE,ry.intE,iK S q⟩
  |_=>exact q.elim
 |_=>cases wy<;>exact q.elim,fun x y st=>by
 unfold CC
 split<;>trivial⟩
abbrev zv(i j:Int):Prop:=(-(2^64)<i/\i<2^64)\/(-(2^64)<j/\j<2^64)
abbrev m3:=CB (fun _ _=>True) fun i j=>i-j
abbrev QQ:=CB zv fun i j=>i*j
abbrev dQ:=CB (fun _ j=>0<j) fun i j=>i%j
abbrev su:=CB (fun _ j=>0<j/\j<1073741824) fun i j=>i/j
abbrev QR:=CB (fun i j=>0<=j/\j<=1000000/\i.natAbs<2^64) fun i j=>i^j.toNat
abbrev vK:=CB (fun i j=>0<=j/\j<=1000000/\i.natAbs<2^64) fun i j=>i*2^j.toNat
abbrev IE:=CB (fun _ j=>0<=j) fun i j=>i/2^j.toNat
abbrev AV:=CB (fun _ _=>True) fun i j=>Builtin.bitAnd i j
theorem Eg{f:Int->Int->V}(h:mL X g (Hz f)):mL X g (rI (fun _ _=>True) f):=h.imp fun _ _ _ _ ⟨i,j,a,b,_,q⟩=>⟨i,j,a,b,q⟩
theorem xG:qL X (binaryOp .Sub) m3:=xF (Eg Mz) fun _ _ _=>trivial
theorem QT:qL X (binaryOp .Mult) QQ:=xF MA fun _ _ h=>h
theorem uM:qL X (binaryOp .Mod) dQ:=xF MB fun _ _ h=>h
theorem M9:qL X (binaryOp .FloorDiv) su:=xF HX fun _ _ h=>h
theorem QU:qL X (binaryOp .Pow) QR:=xF MC fun _ _ h=>h
theorem QV:qL X (binaryOp .LShift) vK:=xF DM fun _ _ h=>h
theorem QW:qL X (binaryOp .RShift) IE:=xF MD fun _ _ h=>h
theorem M_:qL X (binaryOp .BitAnd) AV:=xF (Eg ME) fun _ _ _=>trivial
def d8:W->W->List aj->R W
 |.int i,.int j,st=>.ok (.int (i+j)) st
 |.str a,.str b,st=>if a.length+b.length<=jF then .ok (.str (a++b)) st else .bad
 |.tup a,.tup b,st=>pI (a++b) st
 |.loc n,.loc m,st=>match st[n]?,st[m]? with
  |some (.lst a),some (.lst b)=>mN (a++b) st
  |_,_=>.bad
 |_,_,_=>.bad
theorem IF(ws:List W)(st:List aj):rd (pI ws st):=by unfold pI;split<;>trivial
theorem IG(ws:List W)(st:List aj):rd (mN ws st):=by unfold mN;split<;>trivial
theorem xH:qL X (binaryOp .Add) d8:=⟨fun pins s σ H x y v u Q I rv ru ⟨μ,st,wx,wy,S,rx,ry,q⟩=>by
 cases wx with
 |int i=>
  cases wy with
  |int j=>exact My pins s σ H x y v u Q I rv ru ⟨i,j,rx.intE,ry.intE,jw S q⟩
  |_=>exact q.elim
 |str a=>
  cases wy with
  |str b=>
   simp only[d8]at q
   by_cases c:a.length+b.length<=jF
   ·rw[ay c]at q
    exact zb pins s σ H x y v u Q I rv ru ⟨_,_,rx.strE,ry.strE,by rw[je,je];exact iI c,by rw[zl];exact pJ S q⟩
   ·rw[aC c]at q;exact q.elim
  |_=>exact q.elim
 |tup a=>
  cases wy with
  |tup b=>
   obtain⟨p1,vs1,rfl,h1,r1⟩:=rx.tupE
   obtain⟨p2,vs2,rfl,h2,r2⟩:=ry.tupE
   have q':Dw X μ H Q (pI (a++b) st):=q
   unfold pI at q'
   by_cases c:(a++b).length<=jF
   ·rw[ay c]at q'
    refine MZ.h pins s σ H _ _ v u Q I rv ru ⟨p1,p2,vs1,vs2,rfl,rfl,h1,h2,by rw[<- r1.len,<- r2.len,<- aF];exact iI c,fun p H2 e t=>?_⟩
    exact q' μ _ _ (af _) (fy.same e) (S.same e) (.tupI t ((r1.app r2).mono (af _) (fy.same e)))
   ·rw[aC c]at q';exact q'.elim
  |_=>exact q.elim
 |loc n=>
  cases wy with
  |loc m=>
   simp only[d8]at q
   cases e1:st[n]? with
   |none=>rw[e1]at q;exact q.elim
   |some c1=>
    cases e2:st[m]? with
    |none=>rw[e1,e2]at q;cases c1<;>exact q.elim
    |some c2=>
     cases c1 with
     |lst a=>
      cases c2 with
      |lst b=>
       rw[e1,e2]at q
       obtain⟨a1,g1,vs1,k1,r1⟩:=S.get e1
       obtain⟨a2,g2,vs2,k2,r2⟩:=S.get e2
       obtain⟨b1,f1,rfl⟩:=rx.locE
       obtain⟨b2,f2,rfl⟩:=ry.locE
       rw[g1]at f1;cases f1
       rw[g2]at f2;cases f2
       obtain⟨hz,qq⟩:=sk (σ:=σ) S (r1.app r2) (M8 q)
       exact IA pins s σ H _ _ v u Q I rv ru ⟨a1,a2,vs1,vs2,rfl,rfl,k1,k2,by rw[<- aF];exact hz,qq⟩
      |_=>rw[e1,e2]at q;exact q.elim
     |_=>rw[e1,e2]at q;exact q.elim
  |_=>exact q.elim
 |_=>cases wy<;>exact q.elim,fun x y st=>by
 unfold d8
 split
 ·trivial
 ·split<;>trivial
 ·exact IF _ _
 ·split
  ·exact IG _ _
  ·trivial
 ·trivial⟩
abbrev xI:=CC fun i j=>decide (i<j)
abbrev IH:=CC fun i j=>decide (j<i)
abbrev II:=CC fun i j=>decide (j<=i)
theorem w_lt:qL X (compareOp .Lt) xI:=Ef P9
theorem IJ:qL X (compareOp .Gt) IH:=Ef P_
theorem Na:qL X (compareOp .GtE) II:=Ef P'
end
mutual
def jf:W->W->Option Bool
 |.non,.non=>some true
 |.bl a,.bl b=>some (a==b)
 |.bl a,.int b=>some ((if a then 1 else 0)==b)
 |.int a,.bl b=>some (a==(if b then 1 else 0))
 |.int a,.int b=>some (a==b)
 |.str a,.str b=>some (a==b)
 |.tup a,.tup b=>eqWs a b
 |.loc _,_=>none
 |.non,.loc _=>none
 |.bl _,.loc _=>none
 |.int _,.loc _=>none
 |.str _,.loc _=>none
 |.tup _,.loc _=>none
 |.non,.bl _=>some false
 |.non,.int _=>some false
 |.non,.str _=>some false
 |.non,.tup _=>some false
 |.bl _,.non=>some false
 |.bl _,.str _=>some false
 |.bl _,.tup _=>some false
 |.int _,.non=>some false
 |.int _,.str _=>some false
 |.int _,.tup _=>some false
 |.str _,.non=>some false
 |.str _,.bl _=>some false
 |.str _,.int _=>some false
 |.str _,.tup _=>some false
 |.tup _,.non=>some false
 |.tup _,.bl _=>some false
 |.tup _,.int _=>some false
 |.tup _,.str _=>some false
def eqWs:List W->List W->Option Bool
 |[],[]=>some true
 |[],_::_=>some false
 |_::_,[]=>some false
 |x::xs,y::ys=>match jf x y,eqWs xs ys with
  |some a,some b=>some (a&&b)
  |_,_=>none
end
mutual
def W.dep:W->Nat
 |.tup ws=>depWs ws+1
 |_=>0
def depWs:List W->Nat
 |[]=>0
 |w::ws=>max w.dep (depWs ws)
end
theorem oT:∀(xs ys:List W) (b:Bool),eqWs xs ys=some b->∃e:Nat->Bool,(∀j (h1:j<xs.length) (h2:j<ys.length),jf xs[j] ys[j]=some (e j))/\((List.range (min xs.length ys.length)).all e&&xs.length==ys.length)=b
 |[],[],b,h=>by unfold eqWs at h;cases h;exact⟨fun _=>true,fun j h1=>absurd h1 (cE _),rfl⟩
 |[],y::ys,b,h=>by unfold eqWs at h;cases h;exact⟨fun _=>true,fun j h1=>absurd h1 (cE _),by simp⟩
 |x::xs,[],b,h=>by unfold eqWs at h;cases h;exact⟨fun _=>true,fun j _ h1=>absurd h1 (cE _),by simp⟩
 |x::xs,y::ys,b,h=>by
  unfold eqWs at h
  cases e1:jf x y with
  |none=>rw[e1]at h;simp at h
  |some a=>
   cases e2:eqWs xs ys with
   |none=>rw[e1,e2]at h;simp at h
   |some c=>
    rw[e1,e2]at h
    simp at h
    obtain⟨e,he,hb⟩:=oT xs ys c e2
    refine⟨fun j=>match j with|0=>a|j+1=>e j,fun j h1 h2=>?_,?_⟩
    ·cases j with
     |zero=>exact e1
     |succ j=>exact he j (ip h1) (ip h2)
    ·have m:min (x::xs).length (y::ys).length=min xs.length ys.length+1:=by simp only[a9];omega
     rw[m,io,ly,List.all_map,<- h,<- hb]
     simp[cQ,Bool.and_assoc]
theorem AW{a b:W}{x:V}{k:Bool}(hn:a.dep<=0)(ra:bf X.K μ H a x)(rb:bf X.K μ H b x)(he:jf a b=some k):k=true:=by
 cases a with
 |tup i=>unfold W.dep at hn;omega
 |non=>cases ra.nonE;cases b<;>first|(unfold jf at he;cases he;rfl)|cases rb.blE|cases rb.intE|cases rb.strE|(obtain⟨_,_,z,_⟩:=rb.tupE;cases z)|(unfold jf at he;cases he)
 |bl i=>cases ra.blE;cases b<;>first|(cases rb.blE;unfold jf at he;simp at he;exact he)|cases rb.nonE|cases rb.intE|cases rb.strE|(obtain⟨_,_,z,_⟩:=rb.tupE;cases z)|(unfold jf at he;cases he)
 |int i=>cases ra.intE;cases b<;>first|(cases rb.intE;unfold jf at he;simp at he;exact he)|cases rb.nonE|cases rb.blE|cases rb.strE|(obtain⟨_,_,z,_⟩:=rb.tupE;cases z)|(unfold jf at he;cases he)
 |str i=>cases ra.strE;cases b<;>first|(have z:=rb.strE;injection z with z;rw[D2.mp z]at he;unfold jf at he;simp at he;exact he)|cases rb.nonE|cases rb.blE|cases rb.intE|(obtain⟨_,_,z,_⟩:=rb.tupE;cases z)|(unfold jf at he;cases he)
 |loc i=>cases b<;>(unfold jf at he;cases he)
theorem Eh(I:bw X pins σ H s):∀(n:Nat) (a b:W) (x:V) (k:Bool),a.dep<=n->bf X.K μ H a x->bf X.K μ H b x->jf a b=some k->k=true:=by
 intro n
 induction n with
 |zero=>exact fun a b x k hn ra rb he=>AW hn ra rb he
 |succ n ih=>
  intro a b x k hn ra rb he
  cases a with
  |tup i=>
   obtain⟨p',HH,rfl,hS',r'⟩:=ra.tupE
   cases b with
   |tup z=>
    obtain⟨p,vs,e,hS,r⟩:=rb.tupE
    cases e
    obtain rfl:=I.tuple_inj hS hS'
    have he':eqWs i z=some k:=by unfold jf at he;exact he
    have dn:depWs i<=n:=by unfold W.dep at hn;omega
    have key:∀(i z:List W) (vs:List V) (k:Bool),depWs i<=n->RelWs X.K μ H i vs->RelWs X.K μ H z vs->eqWs i z=some k->k=true:=by
     intro i
     induction i with
     |nil=>
      intro z vs k _ r' r he
      have e1:=r'.nilE
      subst e1
      cases z with
      |nil=>unfold eqWs at he;cases he;rfl
      |cons _ _=>have e2:=r.len;simp at e2
     |cons w i ih2=>
      intro z vs k dn r' r he
      obtain⟨x,xs,rfl,rx,rxs⟩:=r'.consE
      cases z with
      |nil=>have e2:=r.len;simp at e2
      |cons y z=>
       obtain⟨x2,xs2,e3,ry,rys⟩:=r.consE
       cases e3
       unfold eqWs at he
       cases e1:jf w y with
       |none=>rw[e1]at he;simp at he
       |some k1=>
        cases e2:eqWs i z with
        |none=>rw[e1,e2]at he;simp at he
        |some k2=>
         rw[e1,e2]at he
         simp at he
         unfold depWs at dn
         have q1:=ih w y x k1 (by omega) rx ry e1
         have q2:=ih2 z xs k2 (by omega) rxs rys e2
         rw[<- he,q1,q2];rfl
    exact key i z _ k dn r' r he'
   |non=>cases rb.nonE
   |bl z=>cases rb.blE
   |int z=>cases rb.intE
   |str z=>cases rb.strE
   |loc z=>unfold jf at he;cases he
  |_=>exact AW (aw _) ra rb he
theorem qz:∀{ws:List W} {j:Nat} (h:j<ws.length),ws[j].dep<=depWs ws
 |w::ws,0,_=>by unfold depWs;exact Nat.le_max_left _ _
 |w::ws,j+1,h=>by unfold depWs;exact bu (qz (j:=j) (ip h)) (Nat.le_max_right _ _)
inductive Sh(s:Shared):W->Value->Prop
 |non:Sh s .non .none
 |bl (b:Bool):Sh s (.bl b) (.bool b)
 |int (i:Int) (t:Tok):Sh s (.int i) (.int i t)
 |str (l:List Nat) (t:Tok):Sh s (.str l) (.str (tx l) t)
 |tup (ws:List W) (p:Addr) (bz:List Value) (h:IsTup s.heap p bz.toArray):Sh s (.tup ws) (.ref p)
 |loc (n:Nat) (u:Value):Sh s (.loc n) u
section
theorem qN(I:bw X pins σ H s){a:W}{x:V}(ra:bf X.K μ H a x)(ru:bS x u):Sh s a u:=by
 cases a with
 |non=>cases ra.nonE;cases ru;exact .non
 |bl i=>cases ra.blE;cases ru;exact .bl _
 |int i=>cases ra.intE;obtain⟨t,rfl⟩:=ru;exact .int _ _
 |str i=>cases ra.strE;obtain⟨t,rfl⟩:=ru;exact .str _ _
 |tup i=>obtain⟨p,vs,rfl,hS,_⟩:=ra.tupE;cases ru;obtain⟨bz,_,ht,_⟩:=I.tuple hS;exact .tup _ _ _ ht
 |loc i=>exact .loc _ _
open SeqAt.EqAt in
theorem AX{a b:W}{v:Value}{k:Bool}(ha:Sh s a u)(hb:Sh s b v)(hu:A.units<cLine)(ht:b.dep=0\/a.dep=0)(he:jf a b=some k):SeqAt.EqAt A s u v k:=by
 cases ha<;>cases hb<;>first
  |(unfold jf at he;cases he;done)
  |(unfold jf at he;cases he;with_reducible first|exact same _|exact bool_none _|exact bool_bool _ _|exact bool_int _ _ _|exact bool_str _ _ _|exact int_none _ _|exact int_bool _ _ _|exact int_int _ _ _ _|exact int_str _ _ _ _|exact str_none _ _|exact str_bool _ _ _|exact str_int _ _ _ _|exact none_bool _|exact none_int _ _|exact none_str _ _)
  |(unfold jf at he;cases he;(with_reducible first|refine' bool_tuple _ ?_ hu|refine' int_tuple _ _ ?_ hu|refine' str_tuple _ _ ?_ hu|refine' tuple_none ?_ hu|refine' tuple_bool _ ?_ hu|refine' tuple_int _ _ ?_ hu|refine' tuple_str _ _ ?_ hu|refine' none_tuple ?_ hu);rotate_left;assumption)
  |(unfold W.dep at ht;omega)
  |skip
 rename_i i t z r
 unfold jf at he;cases he
 have:=str_str (A:=A) (s:=s) (tx i) t (tx z) r
 rw[<- oK]at this
 exact this
open SeqAt.RcAt in
theorem IK{a b:W}{v:Value}{k:Bool}(ha:Sh s a u)(hb:Sh s b v)(hu:A.units<cLine)(ht:b.dep=0\/a.dep=0)(he:jf a b=some k):SeqAt.RcAt A s u v k:=by
 cases ha<;>cases hb<;>first
  |(unfold jf at he;cases he;done)
  |(unfold jf at he;cases he;with_reducible first|exact none_none|exact bool_none _|exact bool_bool _ _|exact bool_int _ _ _|exact bool_str _ _ _|exact int_none _ _|exact int_bool _ _ _|exact int_int _ _ _ _|exact int_str _ _ _ _|exact str_none _ _|exact str_bool _ _ _|exact str_int _ _ _ _|exact none_bool _|exact none_int _ _|exact none_str _ _)
  |(unfold jf at he;cases he;(with_reducible first|refine' bool_tuple _ ?_ hu|refine' int_tuple _ _ ?_ hu|refine' str_tuple _ _ ?_ hu|refine' tuple_none ?_ hu|refine' tuple_bool _ ?_ hu|refine' tuple_int _ _ ?_ hu|refine' tuple_str _ _ ?_ hu|refine' none_tuple ?_ hu);rotate_left;assumption)
  |(unfold W.dep at ht;omega)
  |skip
 rename_i i t z r
 unfold jf at he;cases he
 have:=str_str (A:=A) (s:=s) (tx i) t (tx z) r
 rw[<- oK]at this
 exact this
open SeqAt.RcNeAt in
theorem CD         {a b:W} {v:Value} {k:Bool} (ha : Sh s a u) (hb : Sh s b v) (hu : A.units < cLine) (ht : b.dep = 0 \/ a.dep = 0) (he : jf  a b = some k) : SeqAt.RcNeAt A s u v (!k) := by
  cases ha <;> cases hb <;> first
    | (unfold jf  at he; cases he; done)
    | (unfold jf  at he; cases he; try simp only [ej           , j_            ]
       with_reducible first | exact none_none | exact bool_none _ | exact bool_bool _ _ | exact bool_int _ _ _ | exact bool_str _ _ _ | exact int_none _ _ | exact int_bool _ _ _ | exact int_int _ _ _ _ | exact int_str _ _ _ _ | exact str_none _ _ | exact str_bool _ _ _ | exact str_int _ _ _ _ | exact none_bool _ | exact none_int _ _ | exact none_str _ _)
    | (unfold jf  at he; cases he; try simp only [ej           , j_            ]
       (with_reducible first | refine' bool_tuple _ ?_ hu | refine' int_tuple _ _ ?_ hu | refine' str_tuple _ _ ?_ hu | refine' tuple_none ?_ hu | refine' tuple_bool _ ?_ hu | refine' tuple_int _ _ ?_ hu | refine' tuple_str _ _ ?_ hu | refine' none_tuple ?_ hu); rotate_left; assumption)
    | (unfold W.dep at ht; omega)
    | skip
  rename_i i t z r
  unfold jf  at he; cases he
  have := str_str (A := A) (s := s) (tx i) t (tx z) r
  rw [<- oK           ] at this
  exact this
theorem xJ{i z:List W}{HH:List V}{its':List Value}{e:Nat->Bool}{A:Around}(ih:∀(a b:W) (A:Around) (x y:V) (u v:Value) (k:Bool),a.dep<=m->bf X.K μ H a x->bf X.K μ H b y->bS x u->bS y v->A.units+m<cLine->jf a b=some k->SeqAt.EqAt A s u v k)
  (r':RelWs X.K μ H i HH) (r:RelWs X.K μ H z vs) (w':cp HH its') (w:cp vs bz) (hd:depWs i<=m) (hu:A.units+1+m<cLine) (h1:∀j (h1:j<i.length) (h2:j<z.length),jf i[j] z[j]=some (e j)):∀j (j1:j<its'.toArray.size) (j2:j<bz.toArray.size),SeqAt.EqAt A.in1 s its'.toArray[j] bz.toArray[j] (e j):=fun j j1 j2=>by
 have j1':j<i.length:=by rw[r'.len,w'.length];simpa using j1
 have j2':j<z.length:=by rw[r.len,w.length];simpa using j2
 obtain⟨x1,g1,q1⟩:=r'.get (ac j1')
 obtain⟨x2,g2,q2⟩:=r.get (ac j2')
 obtain⟨u1,f1,v1⟩:=w'.get g1
 obtain⟨u2,f2,v2⟩:=w.get g2
 have E:=ih i[j] z[j] A.in1 x1 x2 u1 u2 (e j) (bu (qz j1') hd) q1 q2 v1 v2 hu (h1 j j1' j2')
 have t1:its'.toArray[j]=u1:=by simpa using (aa.mp f1).2
 have t2:bz.toArray[j]=u2:=by simpa using (aa.mp f2).2
 rw[t1,t2];exact E
theorem Ei(I:bw X pins σ H s):∀(n:Nat) (a b:W) (A:Around) (x y:V) (u v:Value) (k:Bool),a.dep<=n->bf X.K μ H a x->bf X.K μ H b y->bS x u->bS y v->A.units+n<cLine->jf a b=some k->SeqAt.EqAt A s u v k:=by
 intro n
 induction n with
 |zero=>exact fun a b A x y u v k hn ra rb ru rv hu he=>AX (qN I ra ru) (qN I rb rv) hu (.inr (by omega)) he
 |succ m ih=>
  intro a b A x y u v k hn ra rb ru rv hu he
  by_cases hb:b.dep=0\/a.dep=0
  ·exact AX (qN I ra ru) (qN I rb rv) (by omega) hb he
  ·cases b with
   |tup z=>
    cases a with
    |tup i=>
     obtain⟨p',HH,rfl,hS',r'⟩:=id ra.tupE;cases ru;obtain⟨its',w',ht',_⟩:=I.tuple hS'
     obtain⟨p,vs,rfl,hS,r⟩:=id rb.tupE;cases rv;obtain⟨bz,w,ht,_⟩:=I.tuple hS
     by_cases hpp:p'=p
     ·subst hpp
      rw[Eh I (m+1) (.tup i) (.tup z) (.ref p') k hn ra rb he]
      exact SeqAt.EqAt.same _
     ·obtain⟨e,h1,h2⟩:=oT i z k (by unfold jf at he;exact he)
      have R:=SeqAt.RcAt.tuples (A:=A) (e:=e) ht' ht (by omega) (xJ ih r' r w' w (by unfold W.dep at hn;omega) (by omega) h1)
      rw[show its'.toArray.size=i.length by simp[<- w'.length,<- r'.len],show bz.toArray.size=z.length by simp[<- w.length,<- r.len],h2]at R
      exact SeqAt.EqAt.of_refs hpp R
    |_=>exact(hb (.inr rfl)).elim
   |_=>exact(hb (.inl rfl)).elim
theorem Ej(I:bw X pins σ H s){a b:W}{x:V}{v:Value}{k:Bool}(hn:b.dep=0\/a.dep<=n)(ra:bf X.K μ H a x)(rb:bf X.K μ H b y)(ru:bS x u)(rv:bS y v)(hu:A.units+n<cLine)(he:jf a b=some k):SeqAt.RcAt A s u v k/\SeqAt.RcNeAt A s u v (!k):=by
 by_cases hb:b.dep=0\/a.dep=0
 ·exact⟨IK (qN I ra ru) (qN I rb rv) (by omega) hb he,CD (qN I ra ru) (qN I rb rv) (by omega) hb he⟩
 cases b with
 |tup z=>
  cases a with
  |tup i=>
   obtain⟨p',HH,rfl,hS',r'⟩:=ra.tupE;cases ru;obtain⟨its',w',ht',_⟩:=I.tuple hS'
   obtain⟨p,vs,rfl,hS,r⟩:=rb.tupE;cases rv;obtain⟨bz,w,ht,_⟩:=I.tuple hS
   obtain⟨e,h1,h2⟩:=oT i z k (by unfold jf at he;exact he)
   have hd:depWs i+1<=n:=hn.elim (fun z=>(hb (.inl z)).elim) id
   obtain⟨m,rfl⟩:∃m,n=m+1:=⟨n-1,by omega⟩
   have T:=xJ (A:=A) (Ei I m) r' r w' w (by omega) (by omega) h1
   have R:=SeqAt.RcAt.tuples (A:=A) (e:=e) ht' ht (by omega) T
   have R2:=SeqAt.RcNeAt.tuples (A:=A) (e:=e) ht' ht (by omega) T
   rw[show its'.toArray.size=i.length by simp[<- w'.length,<- r'.len],show bz.toArray.size=z.length by simp[<- w.length,<- r.len],h2]at R R2
   exact⟨R,R2⟩
  |_=>exact(hb (.inr rfl)).elim
 |_=>exact(hb (.inl rfl)).elim
end
def ky:W->W->List aj->R W:=fun x y st=>match jf x y with
 |some k=>if y.dep=0\/x.dep<=64 then .ok (.bl k) st else .bad
 |none=>.bad
theorem zw{k:Nat}(hr:gD k X.A):qL X (compareOp .Eq) ky:=⟨fun pins s σ H x y v u Q I rv ru ⟨μ,st,wx,wy,S,rx,ry,q⟩=>by
 unfold ky at q
 cases e:jf wx wy with
 |none=>rw[e]at q;exact q.elim
 |some b=>
  rw[e]at q
  simp only at q
  by_cases c:wy.dep=0\/wx.dep<=64
  ·rw[ay c]at q
   have:=hr.units
   exact(Ej I c rx ry rv ru this e).1 X.prog X.w X.xe _ ⟨.bl b,H,I,rfl,iK S q⟩
  ·rw[aC c]at q;exact q.elim,fun x y st=>by
 unfold ky
 split
 ·split<;>trivial
 ·trivial⟩
def uf:W->W->List aj->R W:=fun x y st=>match jf x y with
 |some k=>if y.dep=0\/x.dep<=64 then .ok (.bl (!k)) st else .bad
 |none=>.bad
theorem vL{k:Nat}(hr:gD k X.A):qL X (compareOp .NotEq) uf:=⟨fun pins s σ H x y v u Q I rv ru ⟨μ,st,wx,wy,S,rx,ry,q⟩=>by
 unfold uf at q
 cases e:jf wx wy with
 |none=>rw[e]at q;exact q.elim
 |some b=>
  rw[e]at q
  simp only at q
  by_cases c:wy.dep=0\/wx.dep<=64
  ·rw[ay c]at q
   have:=hr.units
   exact(Ej I c rx ry rv ru this e).2 X.prog X.w X.xe _ ⟨.bl (!b),H,I,rfl,iK S q⟩
  ·rw[aC c]at q;exact q.elim,fun x y st=>by
 unfold uf
 split
 ·split<;>trivial
 ·trivial⟩
def oU(x:W):List W->Option Bool
 |[]=>some false
 |y::ys=>match jf y x,oU x ys with
  |some a,some b=>some (a||b)
  |_,_=>none
def uN(Ho:Bool)(x y:W)(st:List aj):R W:=match y with
 |.str l=>(match x with
  |.str [c]=>.ok (.bl (if Ho then !decide (c∈l)else decide (c∈l))) st
  |_=>.bad)
 |.tup ys=>(match oU x ys with
  |some k=>if depWs ys<=63 then .ok (.bl (if Ho then !k else k)) st else .bad
  |none=>.bad)
 |.loc n=>(match st[n]? with
  |some (.lst ys)=>(match oU x ys with
   |some k=>if depWs ys<=63 then .ok (.bl (if Ho then !k else k)) st else .bad
   |none=>.bad)
  |_=>.bad)
 |_=>.bad
theorem xK{x:W}:∀{ys:List W} {k:Bool},oU x ys=some k->(∀(j:Nat) w,ys[j]?=some w->∃b,jf w x=some b)/\(k=true↔∃(j:Nat) (w:W),ys[j]?=some w/\jf w x=some true)
 |[],k,h=>by
  unfold oU at h;cases h
  exact⟨fun j w e=>by simp at e,fun z=>(by cases z),fun⟨j,w,e,_⟩=>(by simp at e)⟩
 |y::ys,k,h=>by
  unfold oU at h
  cases e1:jf y x with
  |none=>rw[e1]at h;simp at h
  |some a=>
   cases e2:oU x ys with
   |none=>rw[e1,e2]at h;simp at h
   |some b=>
    rw[e1,e2]at h
    simp at h
    obtain⟨q1,q2⟩:=xK e2
    refine⟨fun j w e=>?_,fun z=>?_,fun⟨j,w,e,f⟩=>?_⟩
    ·cases j with
     |zero=>simp at e;subst e;exact⟨a,e1⟩
     |succ j=>exact q1 j w (by simpa using e)
    ·rw[<- h]at z
     cases a with
     |true=>exact⟨0,y,rfl,e1⟩
     |false=>
      obtain⟨j,w,p,q⟩:=q2.mp (by simpa using z)
      exact⟨j+1,w,by simpa using p,q⟩
    ·rw[<- h]
     cases j with
     |zero=>simp at e;subst e;rw[e1]at f;cases f;rfl
     |succ j=>rw[q2.mpr ⟨j,w,by simpa using e,f⟩];simp
theorem l8(I:bw X pins σ H s){wx:W}{x:V}{v:Value}(rx:bf X.K μ H wx x)(rv:bS x v)(n:Nat){A:Around}(hu:A.units+n<cLine)
  {ys:List W} {vs:List V} {us:List Value} {k:Bool} (hd:depWs ys<=n) (rs:RelWs X.K μ H ys vs) (kP:cp vs us) (ha:oU wx ys=some k):∃e:Value->Bool,(∀u,u∈us.toArray->SeqAt.EqAt A s u v (e u))/\us.toArray.any e=k:=by
 classical
 obtain⟨q1,q2⟩:=xK ha
 have at':∀(j:Nat) (u:Value),us[j]?=some u->∃w b,ys[j]?=some w/\jf w wx=some b/\SeqAt.EqAt A s u v b:=fun j u e=>by
  have hj:j<ys.length:=by
   have h1:=(aa.mp e).1
   rw[rs.len,kP.length];exact h1
  obtain⟨b,hb⟩:=q1 j ys[j] (ac hj)
  obtain⟨y,g1,r1⟩:=rs.get (ac hj)
  obtain⟨u',f1,v1⟩:=kP.get g1
  rw[e]at f1;cases f1
  exact⟨_,b,ac hj,hb,Ei I n ys[j] wx A y x u v b (bu (qz hj) hd) r1 rx v1 rv hu hb⟩
 refine⟨fun u=>decide (∃(j:Nat) (w:W),us[j]?=some u/\ys[j]?=some w/\jf w wx=some true),fun u hu=>?_,?_⟩
 ·by_cases c:∃(j:Nat) (w:W),us[j]?=some u/\ys[j]?=some w/\jf w wx=some true
  ·show SeqAt.EqAt A s u v (decide _)
   rw[bn c]
   obtain⟨j,w,e1,e2,e3⟩:=c
   obtain⟨w',b,f1,f2,f3⟩:=at' j u e1
   rw[e2]at f1;cases f1
   rw[e3]at f2;cases f2
   exact f3
  ·show SeqAt.EqAt A s u v (decide _)
   rw[aV c]
   obtain⟨j,hj,e⟩:=List.mem_iff_getElem.mp (show u∈us by simpa using hu)
   have e':us[j]?=some u:=by rw[ac hj,e]
   obtain⟨w',b,f1,f2,f3⟩:=at' j u e'
   cases b with
   |false=>exact f3
   |true=>exact absurd ⟨j,w',e',f1,f2⟩ c
 ·rw[List.any_toArray]
  cases k with
  |true=>
   obtain⟨j,w,e1,e2⟩:=q2.mp rfl
   have hj:j<us.length:=by rw[<- kP.length,<- rs.len];exact(aa.mp e1).1
   exact fV.mpr ⟨us[j],fW hj,bn ⟨j,w,ac hj,e1,e2⟩⟩
  |false=>
   refine fH.mpr fun u _ c=>?_
   obtain⟨j,w,_,e1,e2⟩:=iq c
   have:=q2.mpr ⟨j,w,e1,e2⟩
   cases this
theorem QX{k:Nat}(hr:gD k X.A):qL X (compareOp .In) (uN false):=⟨fun pins s σ H x y v u Q I rv ru ⟨μ,st,wx,wy,S,rx,ry,q⟩=>by
 have hu:=hr.units
 cases wy with
 |str l=>
  simp only[uN]at q
  split at q
  ·exact Cy pins s σ H x y v u Q I rv ru ⟨_,_,rx.strE,ry.strE,iK S q⟩
  ·exact q.elim
 |tup ys=>
  simp only[uN]at q
  cases hk:oU wx ys with
  |none=>rw[hk]at q;exact q.elim
  |some kk=>
   rw[hk]at q
   simp only at q
   by_cases c:depWs ys<=63
   ·rw[ay c]at q
    obtain⟨p,vs,rfl,hS,r⟩:=ry.tupE
    cases ru
    obtain⟨bz,w,ht,_⟩:=I.tuple hS
    obtain⟨e,he,ha⟩:=l8 (A:=X.A.in1) I rx rv 63 (by show X.A.units+1+63<cLine;omega) c r w hk
    exact SeqAt.in_tupleAt e ht he ⟨.bl _,H,I,rfl,by rw[ha];exact iK S q⟩
   ·rw[aC c]at q;exact q.elim
 |loc n=>
  simp only[uN]at q
  cases e1:st[n]? with
  |none=>rw[e1]at q;exact q.elim
  |some cc=>
   rw[e1]at q
   cases cc with
   |lst ys=>
    simp only at q
    cases hk:oU wx ys with
    |none=>rw[hk]at q;exact q.elim
    |some kk=>
     rw[hk]at q
     simp only at q
     by_cases c:depWs ys<=63
     ·rw[ay c]at q
      obtain⟨a1,g1,vs,k1,r⟩:=S.get e1
      obtain⟨b1,f1,rfl⟩:=ry.locE
      rw[g1]at f1;cases f1
      cases ru
      obtain⟨bz,w,ht,_⟩:=I.list (qr.of k1)
      obtain⟨e,he,ha⟩:=l8 (A:=X.A.in1) I rx rv 63 (by show X.A.units+1+63<cLine;omega) c r w hk
      exact SeqAt.in_listAt e ht.isList he ⟨.bl _,H,I,rfl,by rw[ha];exact iK S q⟩
     ·rw[aC c]at q;exact q.elim
   |_=>exact q.elim
 |_=>exact q.elim,fun x y st=>by
 unfold uN
 repeat' split
 all_goals trivial⟩
theorem AY{k:Nat}(hr:gD k X.A):qL X (compareOp .NotIn) (uN true):=⟨fun pins s σ H x y v u Q I rv ru ⟨μ,st,wx,wy,S,rx,ry,q⟩=>by
 have hu:=hr.units
 cases wy with
 |str l=>
  simp only[uN]at q
  split at q
  ·exact vI pins s σ H x y v u Q I rv ru ⟨_,_,rx.strE,ry.strE,iK S q⟩
  ·exact q.elim
 |tup ys=>
  simp only[uN]at q
  cases hk:oU wx ys with
  |none=>rw[hk]at q;exact q.elim
  |some kk=>
   rw[hk]at q
   simp only at q
   by_cases c:depWs ys<=63
   ·rw[ay c]at q
    obtain⟨p,vs,rfl,hS,r⟩:=ry.tupE
    cases ru
    obtain⟨bz,w,ht,_⟩:=I.tuple hS
    obtain⟨e,he,ha⟩:=l8 (A:=X.A.in1) I rx rv 63 (by show X.A.units+1+63<cLine;omega) c r w hk
    exact SeqAt.notIn_tupleAt e ht he ⟨.bl _,H,I,rfl,by rw[ha];exact iK S q⟩
   ·rw[aC c]at q;exact q.elim
 |loc n=>
  simp only[uN]at q
  cases e1:st[n]? with
  |none=>rw[e1]at q;exact q.elim
  |some cc=>
   rw[e1]at q
   cases cc with
   |lst ys=>
    simp only at q
    cases hk:oU wx ys with
    |none=>rw[hk]at q;exact q.elim
    |some kk=>
     rw[hk]at q
     simp only at q
     by_cases c:depWs ys<=63
     ·rw[ay c]at q
      obtain⟨a1,g1,vs,k1,r⟩:=S.get e1
      obtain⟨b1,f1,rfl⟩:=ry.locE
      rw[g1]at f1;cases f1
      cases ru
      obtain⟨bz,w,ht,_⟩:=I.list (qr.of k1)
      obtain⟨e,he,ha⟩:=l8 (A:=X.A.in1) I rx rv 63 (by show X.A.units+1+63<cLine;omega) c r w hk
      exact SeqAt.notIn_listAt e ht.isList he ⟨.bl _,H,I,rfl,by rw[ha];exact iK S q⟩
     ·rw[aC c]at q;exact q.elim
   |_=>exact q.elim
 |_=>exact q.elim,fun x y st=>by
 unfold uN
 repeat' split
 all_goals trivial⟩
section
variable{w:World}
theorem xL{t sl:Addr}{vl vu:Value}{lo hi:Option Int}(ht:IsTup s.heap t items)(hs:s.heap.IsSliceOf sl vl vu .none)(pl:IsPart vl lo)(pu:IsPart vu hi)
  (hw:HT.sIx items.size 0 lo=0/\HT.sIx items.size items.size hi=items.size) (h:Q (.ref t) s):wpAny (model prog w) A (getItem (.ref t) (.ref sl)) Q E s:=by
 obtain⟨os,hos,hcs,AC⟩:=id hs
 have hTs:s.TypeIs (.ref sl) "slice":=⟨os,hos,hcs⟩
 unfold getItem
 try with_reducible refine cF ?_
 first|refine ah (ax ?_)|skip
 refine ah (wpAny_sequenceKey ht.typeIs (by decide) ?_)
 refine ah (dy (name:=Str.ofString "__getitem__") ht.typeIs dR
  (dz dR ht.typeIs entry_tuple_getitem ?_ (args_tuple_getitem _ _)))
 show wpAny _ _ (Builtin.Tuple.tupleItemsOf (.ref t) >>= _) _ _ s
 refine ah (tupleItemsOf_ ht ?_)
 refine ah (qk hTs ?_)
 rw[ay (by decide)]
 refine ah (HT.sliceApplied_gen hs pl pu ?_)
 have hyes:(((HT.sIx items.size 0 lo:Nat):Int)==0&&(1:Int)==1&&(HT.sIx items.size items.size hi-HT.sIx items.size 0 lo)==items.size)=true:=by
  rw[hw.1,hw.2];simp
 show wpAny _ _ (if (((HT.sIx items.size 0 lo:Nat):Int)==0&&(1:Int)==1&&(HT.sIx items.size items.size hi-HT.sIx items.size 0 lo)==items.size)=true then _ else _) _ _ s
 rw[ay hyes]
 unfold Builtin.Tuple.tupleIsExact
 obtain⟨ot,hot,Tt,nt,hdt⟩:=id ht
 refine ah (ah (qk (T:="tuple") ht.typeIs ?_))
 refine ax ?_
 rw[ay (by decide)]
 exact ah (g8 (ax ⟨_,rfl,ax h⟩))
end
section
variable{a b o:Expr}{fa fb fc fe:FE}{fs:FA}
def lstOf(st:List aj)(n:Nat):Option (List W):=match st[n]? with
 |some (.lst ws)=>some ws
 |some (.ro ws)=>some ws
 |_=>none
theorem fY.lstOf{st:List aj}(S:fY K mg μ st H)(h:lstOf st n=some ws):∃a vs,μ[n]?=some a/\qr K H a vs/\RelWs K μ H ws vs:=by
 unfold L2.lstOf at h
 cases e:st[n]? with
 |none=>rw[e]at h;cases h
 |some cc=>
  rw[e]at h
  cases cc with
  |lst zs=>cases h;obtain⟨a,g,vs,k,r⟩:=S.get e;exact⟨a,vs,g,qr.of k,r⟩
  |ro zs=>cases h;obtain⟨a,g,vs,k,r⟩:=S.get e;exact⟨a,vs,g,k.sq,r⟩
  |exc zs=>cases h
  |dct zs=>cases h
  |rod zs=>cases h
  |dcx zs=>cases h
  |tab _ _ _=>cases h
  |pin _ _ _ _=>cases h
  |gone=>cases h
def ou(o:Option α)(k:α->R W):R W:=match o with
 |some a=>k a
 |none=>.bad
@[simp] theorem cw{α:Type}(a:α)(k:α->R W):ou (some a) k=k a:=rfl
def bp(x y:W)(st:List aj):R W:=match x,y with
 |.tup ws,.int i=>ou (oP ws i) fun w=>.ok w st
 |.str l,.int i=>if l.length<=jF then ou (oP l i) (fun c=>.ok (.str [c]) st)else .bad
 |.loc n,.int i=>ou (lstOf st n) fun ws=>ou (oP ws i) fun w=>.ok w st
 |_,_=>.bad
theorem AZ{i:Int}{w:W}(r:RelWs K μ H ws vs)(h:oP ws i=some w):∃v,oP vs i=some v/\bf K μ H w v:=by
 unfold oP at h ⊢
 rw[<- r.len]
 cases e:AH ws.length i with
 |none=>rw[e]at h;cases h
 |some k=>rw[e]at h;exact r.get h
theorem T8:HA X (T7 X bp):=fun value slice pins s σ H x y v u Q I rv ru ⟨μ,st,wx,wy,S,rx,ry,q⟩ hs=>by
 refine ML value slice pins s σ H x y v u Q I rv ru ?_ hs
 cases wy with
 |int i=>
  cases wx with
  |tup ws=>
   simp only[bp]at q
   cases e1:oP ws i with
   |none=>rw[e1]at q;exact q.elim
   |some w=>
    rw[e1]at q
    obtain⟨p,vs,rfl,hS,r⟩:=rx.tupE
    obtain⟨z,f,g⟩:=AZ r e1
    exact .inr (.inl ⟨p,vs,i,z,rfl,ry.intE,hS,f,q μ z H (af _) dD.refl S g⟩)
  |str l=>
   simp only[bp]at q
   by_cases c:l.length<=jF
   ·rw[ay c]at q
    cases e1:oP l i with
    |none=>rw[e1]at q;exact q.elim
    |some w=>
     rw[e1]at q
     exact .inr (.inr ⟨_,i,w,rx.strE,ry.intE,by rw[je];exact iI c,by rw[MR];exact e1,pJ S q⟩)
   ·rw[aC c]at q;exact q.elim
  |loc n=>
   simp only[bp]at q
   cases e0:lstOf st n with
   |none=>rw[e0]at q;exact q.elim
   |some ws=>
    rw[e0]at q
    cases e1:oP ws i with
    |none=>rw[cw,e1]at q;exact q.elim
    |some w=>
     rw[cw,e1]at q
     obtain⟨a,vs,g,hS,r⟩:=S.lstOf e0
     obtain⟨b1,f1,rfl⟩:=rx.locE
     rw[g]at f1;cases f1
     obtain⟨z,f,g⟩:=AZ r e1
     exact .inl ⟨_,vs,i,z,rfl,ry.intE,hS,f,q μ z H (af _) dD.refl S g⟩
  |_=>exact q.elim
 |_=>cases wx<;>exact q.elim
theorem oz{o:Option α}{k:α->R W}(h:∀a,rd (k a)):rd (ou o k):=by
 unfold ou
 split
 ·exact h _
 ·trivial
theorem QY(x y:W)(st:List aj):rd (bp x y st):=by
 unfold bp
 split
 ·exact oz fun _=>trivial
 ·split
  ·exact oz fun _=>trivial
  ·trivial
 ·exact oz fun _=>oz fun _=>trivial
 ·trivial
theorem dE(ha:SE X a fa)(hb:SE X b fb)(hs:AJ b:=by intro _ _;rfl):SE X (.Subscript a b pos) (e2 bp fa fb):=⟨(Qg T8 ha.h hb.h hs).imp fun _ _ _ h=>AS QY h⟩
abbrev FO:=cu->List aj->R (Option Int)
abbrev T9:List Addr->Hp->Option Int->Option Int->Prop:=fun _ _ a b=>a=b
structure SO(X:Cx)(e:Option Expr)(f:FO):Prop where
 h:PO X e (tG X T9 f)
def sv:FO:=fun _ st=>.ok none st
def mO(fa:FE):FO:=fun ρ st=>(fa ρ st).bind fun x st=>match x with
 |.int i=>.ok (some i) st
 |_=>.bad
theorem PO.imp{e:Option Expr}{t t':TO}(h:PO X e t)(i:∀σ H Q,t' σ H Q->t σ H Q):PO X e t':=fun pins s σ H Q I q=>h pins s σ H Q I (i _ _ _ q)
theorem A0:SO X none sv:=⟨Ia.imp fun σ H Q h=>by
 obtain⟨μ,ρ,st,l,h⟩:=h
 exact h μ none H (af _) dD.refl l.sto rfl⟩
theorem A1(ha:SE X a fa):SO X (some a) (mO fa):=⟨(Ib ha.h).imp fun σ H Q h=>by
 obtain⟨μ,ρ,st,l,h⟩:=h
 refine⟨μ,ρ,st,l,RK.bind h l fun μ1 st1 x v H1 p1 x1 l1 q1 h1=>?_⟩
 cases x with
 |int k=>exact⟨k,q1.intE,h1 μ1 _ H1 (af _) dD.refl l1.sto rfl⟩
 |_=>exact h1.elim⟩
def jM(xs:List α)(lo hi:Option Int):List α:=(xs.drop (HT.sIx xs.length 0 lo)).take (HT.sIx xs.length xs.length hi-HT.sIx xs.length 0 lo)
def A2(x:W)(lo hi:Option Int)(st:List aj):R W:=match x with
 |.tup ws=>.ok (.tup (jM ws lo hi)) st
 |.str l=>if l.length<=jF then .ok (.str (jM l lo hi)) st else .bad
 |.loc n=>ou (lstOf st n) fun ws=>.ok (.loc st.length) (st++[.lst (jM ws lo hi)])
 |_=>.bad
theorem QZ(x:W)(lo hi:Option Int)(st:List aj):rd (A2 x lo hi st):=by
 unfold A2 ou
 repeat' split
 all_goals trivial
def HC(fa:FE)(fl fh:FO):FE:=fun ρ st=>(fa ρ st).bind fun x st=>(fl ρ st).bind fun l st=>(fh ρ st).bind fun h st=>A2 x l h st
theorem T_:Qe X (fun x lo hi H Q=>∃μ st wx,fY X.K X.mg μ st H/\bf X.K μ H wx x/\Dw X μ H Q (A2 wx lo hi st)):=by
 intro pins s σ H x v vl vu lo hi sl Q I rv hs pl pu ⟨μ,st,wx,S,rx,q⟩
 cases wx with
 |tup ws=>
  obtain⟨p,vs,rfl,hS,r⟩:=rx.tupE
  have hl:=r.len
  by_cases hw:HT.sIx vs.length 0 lo=0/\HT.sIx vs.length vs.length hi=vs.length
  ·cases rv
   obtain⟨bz,w,ht,hz⟩:=I.tuple hS
   have dq:bz.toArray.size=vs.length:=by rw[aD];exact w.length.symm
   refine⟨"tuple",_,dR.lookup,ht.typeIs,xL ht hs pl pu (by rw[dq];exact hw) ⟨.ref p,H,I,rfl,?_⟩⟩
   have e:jM ws lo hi=ws:=by
    unfold jM
    rw[hl,hw.1,hw.2,List.drop_zero,Nat.sub_zero,<- hl,fX]
   have q':Dw X μ H Q (.ok (.tup (jM ws lo hi)) st):=q
   rw[e]at q'
   exact q' μ _ H (af _) dD.refl S rx
  ·refine MH pins s σ H _ v vl vu lo hi sl Q I rv hs pl pu ⟨p,vs,rfl,hS,hw,fun p2 hp2=>?_⟩
   have x:=fy.same (K:=X.K) (cD hp2 (.tup (rY vs lo hi)))
   have rc:RelWs X.K μ H (jM ws lo hi) (rY vs lo hi):=by
    unfold jM rY
    rw[hl]
    exact(r.drop _).take _
   exact q μ _ _ (af _) x (S.same (cD hp2 _)) (.tupI fy.new (rc.mono (af _) x))
 |str l=>
  simp only[A2]at q
  by_cases c:l.length<=jF
  ·rw[ay c]at q
   exact MU pins s σ H _ v vl vu lo hi sl Q I rv hs pl pu ⟨l,rx.strE,iI c,pJ S q⟩
  ·rw[aC c]at q;exact q.elim
 |loc n=>
  simp only[A2]at q
  cases e0:lstOf st n with
  |none=>rw[e0]at q;exact q.elim
  |some ws=>
   rw[e0]at q
   obtain⟨a,vs,g,hS,r⟩:=S.lstOf e0
   obtain⟨b1,f1,rfl⟩:=rx.locE
   rw[g]at f1;cases f1
   have hl:=r.len
   refine Ig pins s σ H _ v vl vu lo hi sl Q I rv hs pl pu ⟨_,vs,rfl,hS,fun p2 hp2=>?_⟩
   have rc:RelWs X.K μ H (jM ws lo hi) (rY vs lo hi):=by
    unfold jM rY
    rw[hl]
    exact(r.drop _).take _
   exact q (μ++[p2]) _ _ (ao _ _) (fy.same (cD hp2 _)) (S.newLst hp2 rc) (nv S)
 |_=>exact q.elim
theorem Q0{lo hi:Option Expr}{fl fh:FO}(ha:SE X a fa)(hl:SO X lo fl)(hh:SO X hi fh):SE X (.Subscript a (.Slice lo hi none p2) pos) (HC fa fl fh):=⟨(DS T_ ha.h hl.h hh.h).imp fun σ H Q h=>by
 obtain⟨μ,ρ,st,l,h⟩:=h
 refine⟨μ,ρ,st,l,RK.bind h l fun μ1 st1 x v H1 p1 x1 l1 q1 h1=>⟨μ1,ρ,st1,l1,RK.bind h1 l1 fun μ2 c7 y u H2 p2 x2 l2 q2 h2=>⟨μ2,ρ,c7,l2,RK.bind h2 l2 fun μ3 jd z t H3 p3 x3 l3 q3 h3=>?_⟩⟩⟩
 cases q2;cases q3
 exact⟨μ3,jd,x,l3.sto,(q1.mono p2 x2).mono p3 x3,qw h3 (QZ _ _ _ _)⟩⟩
def UM(X:Cx)(F:List W->List aj->R W):List V->Hp->VK->Prop:=fun vs H Q=>∃μ st ws,fY X.K X.mg μ st H/\RelWs X.K μ H ws vs/\Dw X μ H Q (F ws st)
structure lG(X:Cx)(f:Value)(F:List W->List aj->R W):Prop where
 h:g_ X f (UM X F)
 n:∀ws st,rd (F ws st)
def a_(F:List W->List aj->R W)(fs:FA):FE:=fun ρ st=>(fs ρ st).bind fun ws st=>F ws st
theorem A3{Q:VK}(n:∀ws st,rd (F ws st))(h:tE X (a_ F fs) σ H Q):TV (UM X F) (QL X fs) σ H Q:=by
 obtain⟨μ,ρ,st,l,h⟩:=h
 exact⟨μ,ρ,st,l,RK.bind h l fun μ1 st1 x v H1 p1 x1 l1 q1 h1=>⟨μ1,st1,x,l1.sto,q1,qw h1 (n _ _)⟩⟩
theorem fm(hc:lG X (.builtin id) F)(hm:X.mg x=none)(hv:bootBuiltins x=some (.builtin id))(ha:SA X (e::es) fs)(hg:Gl X x:=by rfl)(hn:x ≠ "__name__":=by decide)(yR:(x==("__debug__":Str))=false:=by decide)
  (he:starEach (e::es) X.env=(false,eval e X.env)::starEach es X.env:=by rfl) (qh:(backTo pos (starEach es X.env)).any (·.1)=false:=by rfl):SE X (.Call (.Name x p) (e::es) [] pos) (a_ F fs):=⟨(xf hc.h hg hm hv ha.h hn yR he qh).imp fun _ _ _ h=>A3 hc.n h⟩
theorem f_{T:String}(hc:lG X (.type T) F)(hm:X.mg x=none)(hv:bootBuiltins x=some (.type T))(ha:SA X (e::es) fs)(hg:Gl X x:=by rfl)(hn:x ≠ "__name__":=by decide)(yR:(x==("__debug__":Str))=false:=by decide)
  (he:starEach (e::es) X.env=(false,eval e X.env)::starEach es X.env:=by rfl) (qh:(backTo pos (starEach es X.env)).any (·.1)=false:=by rfl):SE X (.Call (.Name x p) (e::es) [] pos) (a_ F fs):=⟨(Ck hc.h hg hm hv ha.h hn yR he qh).imp fun _ _ _ h=>A3 hc.n h⟩
theorem RelWs.two{a b:W}(r:RelWs K μ H [a,b] vs):∃x y,vs=[x,y]/\bf K μ H a x/\bf K μ H b y:=by
 obtain⟨x,xs,rfl,rx,rn⟩:=r.consE
 obtain⟨y,ys,rfl,ry,rm⟩:=rn.consE
 rw[rm.nilE];exact⟨x,y,rfl,rx,ry⟩
theorem RelWs.one{a:W}(r:RelWs K μ H [a] vs):∃x,vs=[x]/\bf K μ H a x:=by
 obtain⟨x,xs,rfl,rx,rn⟩:=r.consE
 rw[rn.nilE];exact⟨x,rfl,rx⟩
def cS(ws:List W)(st:List aj):R W:=match ws with
 |[.tup xs]=>.ok (.int xs.length) st
 |[.str l]=>if l.length<=jF then .ok (.int l.length) st else .bad
 |[.loc n]=>ou (lstOf st n) fun xs=>.ok (.int xs.length) st
 |_=>.bad
theorem iA:lG X (.builtin "len") cS:=⟨fun pins s σ H vs us Q I rv ⟨μ,st,ws,S,r,q⟩=>by
 unfold cS at q
 split at q
 ·obtain⟨x,rfl,rx⟩:=r.one
  obtain⟨p,ys,rfl,hS,r'⟩:=rx.tupE
  exact pB pins s σ H _ us Q I rv ⟨p,ys,rfl,.inr hS,by rw[<- r'.len];exact jw S q⟩
 ·obtain⟨x,rfl,rx⟩:=r.one
  split at q
  ·rename_i c
   exact vA pins s σ H _ us Q I rv ⟨_,by rw[rx.strE],by rw[je];exact iI c,by rw[je];exact jw S q⟩
  ·exact q.elim
 ·obtain⟨x,rfl,rx⟩:=r.one
  unfold ou at q
  split at q
  ·rename_i ys e0
   obtain⟨a,vs,g,hS,r'⟩:=S.lstOf e0
   obtain⟨b1,f1,rfl⟩:=rx.locE
   rw[g]at f1;cases f1
   exact pB pins s σ H _ us Q I rv ⟨_,vs,rfl,.inl hS,by rw[<- r'.len];exact jw S q⟩
  ·exact q.elim
 ·exact q.elim,fun ws st=>by
 unfold cS ou
 repeat' split
 all_goals trivial⟩
def Ek(ws:List W)(st:List aj):R W:=match ws with
 |[.int i,.int j]=>.ok (.int (if j>i then j else i)) st
 |_=>.bad
def zx(ws:List W)(st:List aj):R W:=match ws with
 |[.int i,.int j]=>.ok (.int (if j<i then j else i)) st
 |_=>.bad
theorem Q1(hc:X.calm=true:=by rfl):lG X (.builtin "max") Ek:=⟨fun pins s σ H vs us Q I rv ⟨μ,st,ws,S,r,q⟩=>by
 unfold Ek at q
 split at q
 ·obtain⟨x,y,rfl,rx,ry⟩:=r.two
  exact Cg hc pins s σ H _ us Q I rv ⟨_,_,by rw[rx.intE,ry.intE],jw S q⟩
 ·exact q.elim,fun ws st=>by unfold Ek;split<;>trivial⟩
theorem Q2(hc:X.calm=true:=by rfl):lG X (.builtin "min") zx:=⟨fun pins s σ H vs us Q I rv ⟨μ,st,ws,S,r,q⟩=>by
 unfold zx at q
 split at q
 ·obtain⟨x,y,rfl,rx,ry⟩:=r.two
  exact Ch hc pins s σ H _ us Q I rv ⟨_,_,by rw[rx.intE,ry.intE],jw S q⟩
 ·exact q.elim,fun ws st=>by unfold zx;split<;>trivial⟩
def cX(ws:List W)(st:List aj):R W:=match ws with
 |[.tup xs]=>.ok (.tup xs) st
 |[.loc n]=>ou (lstOf st n) fun xs=>.ok (.tup xs) st
 |_=>.bad
theorem iT:lG X (.type "tuple") cX:=⟨fun pins s σ H vs us Q I rv ⟨μ,st,ws,S,r,q⟩=>by
 unfold cX at q
 split at q
 ·obtain⟨x,rfl,rx⟩:=r.one
  obtain⟨p,ys,rfl,hS,r'⟩:=id rx.tupE
  exact xg pins s σ H _ us Q I rv ⟨p,ys,rfl,hS,q μ _ H (af _) dD.refl S rx⟩
 ·obtain⟨x,rfl,rx⟩:=r.one
  unfold ou at q
  split at q
  ·rename_i ys e0
   obtain⟨a,vs,g,hS,r'⟩:=S.lstOf e0
   obtain⟨b1,f1,rfl⟩:=rx.locE
   rw[g]at f1;cases f1
   refine xB pins s σ H _ us Q I rv ⟨_,vs,rfl,hS,fun l H2 hl e=>?_⟩
   subst e
   have x:=fy.same (K:=X.K) (cD hl (.tup vs))
   exact q μ _ _ (af _) x (S.same (cD hl _)) (.tupI fy.new (r'.mono (af _) x))
  ·exact q.elim
 ·exact q.elim,fun ws st=>by
 unfold cX ou
 repeat' split
 all_goals trivial⟩
def nw(ws:List W)(st:List aj):R W:=match ws with
 |[.tup xs]=>.ok (.loc st.length) (st++[.lst xs])
 |[.loc n]=>ou (lstOf st n) fun xs=>.ok (.loc st.length) (st++[.lst xs])
 |_=>.bad
theorem Nb:lG X (.type "list") nw:=⟨fun pins s σ H vs us Q I rv ⟨μ,st,ws,S,r,q⟩=>by
 unfold nw at q
 split at q
 ·obtain⟨x,rfl,rx⟩:=r.one
  obtain⟨p,ys,rfl,hS,r'⟩:=id rx.tupE
  refine se pins s σ H _ us Q I rv ⟨p,ys,rfl,.inr hS,fun l H2 hl e=>?_⟩
  subst e
  exact q (μ++[l]) _ _ (ao _ _) (fy.same (cD hl _)) (S.newLst hl r') (nv S)
 ·obtain⟨x,rfl,rx⟩:=r.one
  unfold ou at q
  split at q
  ·rename_i ys e0
   obtain⟨a,vs,g,hS,r'⟩:=S.lstOf e0
   obtain⟨b1,f1,rfl⟩:=rx.locE
   rw[g]at f1;cases f1
   refine se pins s σ H _ us Q I rv ⟨_,vs,rfl,.inl hS,fun l H2 hl e=>?_⟩
   subst e
   exact q (μ++[l]) _ _ (ao _ _) (fy.same (cD hl _)) (S.newLst hl r') (nv S)
  ·exact q.elim
 ·exact q.elim,fun ws st=>by
 unfold nw ou
 repeat' split
 all_goals trivial⟩
def El(ws:List W)(st:List aj):R W:=match ws with
 |[.int i]=>.ok (.int i) st
 |[.bl k]=>.ok (.int (if k then 1 else 0)) st
 |_=>.bad
theorem Q3:lG X (.type "int") El:=⟨fun pins s σ H vs us Q I rv ⟨μ,st,ws,S,r,q⟩=>by
 unfold El at q
 split at q
 ·obtain⟨x,rfl,rx⟩:=r.one
  exact uD pins s σ H _ us Q I rv (.inl ⟨_,by rw[rx.intE],jw S q⟩)
 ·obtain⟨x,rfl,rx⟩:=r.one
  exact uD pins s σ H _ us Q I rv (.inr ⟨_,by rw[rx.blE],jw S q⟩)
 ·exact q.elim,fun ws st=>by unfold El;split<;>trivial⟩
end
section
variable{a b o:Expr}{fa fb fc fe:FE}{fs:FA}{ft:FT}{st1:Stmt}{sr sa sb:List Stmt}{g g':FS}
def aS(g g':FS):FS:=fun ρ st=>match g ρ st with
 |.nx ρ' bx=>g' ρ' bx
 |r=>r
def b_:FS:=fun ρ st=>.nx ρ st
theorem k6:SB X [] b_:=⟨HM.imp fun D σ H h=>by
 obtain⟨μ,ρ,st,l,h⟩:=h
 exact h μ σ H (af _) dD.refl l⟩
theorem dX(h1:SS X st1 g):SB X [st1] g:=⟨HN h1.h⟩
theorem bV(h1:SS X st1 g)(h2:SB X sr g'):SB X (st1::sr) (aS g g'):=⟨(w9 h1.h h2.h).imp fun D σ H h=>by
 obtain⟨μ,ρ,st,l,h⟩:=h
 refine⟨μ,ρ,st,l,?_⟩
 unfold aS at h
 cases e:g ρ st with
 |nx ρ' bx=>rw[e]at h;exact fun μ' σ' H' p x l'=>⟨μ',ρ',bx,l',SK.mono h p x⟩
 |rt w bx=>rw[e]at h;exact h
 |bk ρ' bx=>rw[e]at h;exact h
 |ct ρ' bx=>rw[e]at h;exact h
 |ex c ρ' bx=>rw[e]at h;exact h
 |bad=>rw[e]at h;exact h⟩
def R.stmt(r:R α)(ρ:cu)(k:α->List aj->RS):RS:=match r with
 |.ok a st=>k a st
 |.ex c st=>.ex c ρ st
 |.bad=>.bad
@[simp] theorem R.stmt_ok{α:Type}(a:α)(st:List aj)(ρ:cu)(k:α->List aj->RS):(R.ok a st).stmt ρ k=k a st:=rfl
theorem RK.stmt{i9:List Addr->Hp->α->β->Prop}{ρ:cu}{st:List aj}{D:vq}{r:R α}{k:α->List aj->RS}{T:β->Hp->Prop}
  (h:SK X μ H D (r.stmt ρ k)) (l:Rl X μ ρ st σ H)
  (hk:∀μ' bx x v H',μ <+: μ'->dD X.K H H'->Rl X μ' ρ bx σ H'->i9 μ' H' x v->SK X μ' H' D (k x bx)->T v H'):RK X i9 μ σ H T r:=by
 cases r with
 |ok a bx=>exact fun μ' b H' p x s q=>hk μ' bx a b H' p x (l.to p x s) q (SK.mono h p x)
 |ex c bx=>exact XS.toE h l
 |bad=>exact h
def eR(fe:FE):FS:=fun ρ st=>(fe ρ st).stmt ρ fun _ st=>.nx ρ st
theorem nM(he:SE X e fe)(hs:swapsWith e none pos.line X.env=pure false:=by rfl):SS X (.Expr e pos) (eR fe):=⟨(HP he.h hs).imp fun D σ H h=>by
 obtain⟨μ,ρ,st,l,h⟩:=h
 exact⟨μ,ρ,st,l,RK.stmt h l fun μ1 st1 x v H1 p1 x1 l1 q1 h1=>h1 μ1 σ H1 (af _) dD.refl l1⟩⟩
def cN(fe:FE):FS:=fun ρ st=>(fe ρ st).stmt ρ fun w st=>.rt w st
theorem h9(he:SE X e fe):SS X (.Return (some e) pos) (cN fe):=⟨(Mm he.h).imp fun D σ H h=>by
 obtain⟨μ,ρ,st,l,h⟩:=h
 exact⟨μ,ρ,st,l,RK.stmt h l fun μ1 st1 x v H1 p1 x1 l1 q1 h1=>h1 μ1 v H1 (af _) dD.refl l1.sto q1⟩⟩
def gY(t:FT)(g g':FS):FS:=fun ρ st=>(t ρ st).stmt ρ fun k st=>if k then g ρ st else g' ρ st
theorem oA(hc:ST X c ft)(ha:SB X sa g)(hb:SB X sb g'):SS X (.If c sa sb pos) (gY ft g g'):=⟨(P0 hc.h ha.h hb.h).imp fun D σ H h=>by
 obtain⟨μ,ρ,st,l,h⟩:=h
 refine⟨μ,ρ,st,l,RK.stmt h l fun μ1 st1 x v H1 p1 x1 l1 q1 h1=>?_⟩
 cases q1
 cases x with
 |true=>exact⟨μ1,ρ,st1,l1,h1⟩
 |false=>exact⟨μ1,ρ,st1,l1,h1⟩⟩
abbrev FG:=W->cu->Option cu
abbrev Kn:=List W->cu->Option cu
def Q4(X:Cx)(f:FG):TG:=fun v σ H Q=>∃μ ρ st w ρ',Rl X μ ρ st σ H/\bf X.K μ H w v/\f w ρ=some ρ'/\∀σ',Rl X μ ρ' st σ' H->Q σ' H
def Ua(X:Cx)(f:Kn):HQ:=fun vs σ H Q=>∃μ ρ st ws ρ',Rl X μ ρ st σ H/\RelWs X.K μ H ws vs/\f ws ρ=some ρ'/\∀σ',Rl X μ ρ' st σ' H->Q σ' H
theorem PG.imp{t t':TG}(h:PG X e t)(i:∀v σ H Q,t' v σ H Q->t v σ H Q):PG X e t':=fun pins s σ H x u Q I r q=>h pins s σ H x u Q I r (i _ _ _ _ q)
theorem Kc.imp{e:List Expr}{t t':HQ}(h:Kc X e t)(i:∀v σ H Q,t' v σ H Q->t v σ H Q):Kc X e t':=fun pins s σ H x u Q I r q=>h pins s σ H x u Q I r (i _ _ _ _ q)
structure SG(X:Cx)(e:Expr)(f:FG):Prop where
 h:PG X e (Q4 X f)
structure Tg(X:Cx)(e:List Expr)(f:Kn):Prop where
 h:Kc X e (Ua X f)
def eB(i:Nat):FG:=fun w ρ=>some (ρ.set i (some w))
theorem vM(hN:X.N.Nodup)(hi:X.N[i]?=some x)(hx:Du X.env.scope x)(hf:X.fn x=true\/X.env.scope.names.lookup x=some .local:=by first|exact .inl rfl|exact .inr rfl|assumption):SG X (.Name x pos) (eB i):=⟨(HS hN hi hx hf).imp fun v σ H Q h=>by
 obtain⟨μ,ρ,st,w,ρ',l,r,e,q⟩:=h
 cases e
 exact q _ ⟨pG r i l.env,l.sto⟩⟩
def xM:Kn:=fun ws ρ=>match ws with
 |[]=>some ρ
 |_=>none
def k_(f:FG)(fs:Kn):Kn:=fun ws ρ=>match ws with
 |w::ws=>(f w ρ).bind fun ρ'=>fs ws ρ'
 |[]=>none
theorem IL:Tg X [] xM:=⟨HU.imp fun vs σ H Q h=>by
 obtain⟨μ,ρ,st,ws,ρ',l,r,e,q⟩:=h
 cases ws with
 |nil=>cases e;exact⟨r.nilE,q σ l⟩
 |cons _ _=>cases e⟩
theorem Em{f:FG}{fs:Kn}(h1:SG X e f)(h2:Tg X es fs)(hs:(assignEach (e::es) X.env).map (·.2)=assign e X.env::(assignEach es X.env).map (·.2):=by rfl):Tg X (e::es) (k_ f fs):=⟨(DG h1.h h2.h hs).imp fun vs σ H Q h=>by
 obtain⟨μ,ρ,st,ws,ρ',l,r,e,q⟩:=h
 cases ws with
 |nil=>cases e
 |cons w ws=>
  obtain⟨x,xs,rfl,rx,rs⟩:=r.consE
  simp only[k_]at e
  cases e1:f w ρ with
  |none=>rw[e1]at e;cases e
  |some ρ1=>
   rw[e1]at e
   exact⟨x,xs,rfl,μ,ρ,st,w,ρ1,l,rx,e1,fun σ1 l1=>⟨μ,ρ1,st,ws,ρ',l1,rs,e,q⟩⟩⟩
def Pq(n:Nat)(fs:Kn):FG:=fun w ρ=>match w with
 |.tup ws=>if ws.length=n then fs ws ρ else none
 |_=>none
theorem Nc{k:Nat}{fs:Kn}(hc:X.calm=true)(h:Tg X es fs)(hn:(assignEach es X.env).length=n:=by rfl)(wM:(assignEach es X.env).findIdx? (·.1)=none:=by rfl):SG X (.Tuple es k pos) (Pq n fs):=⟨(Mn hc h.h hn wM).imp fun v σ H Q h=>by
 obtain⟨μ,ρ,st,w,ρ',l,r,e,q⟩:=h
 cases w with
 |tup ws=>
  obtain⟨p,vs,rfl,hS,rs⟩:=r.tupE
  simp only[Pq]at e
  by_cases c:ws.length=n
  ·rw[ay c]at e
   exact⟨p,vs,rfl,hS,by rw[<- rs.len];exact c,μ,ρ,st,ws,ρ',l,rs,e,q⟩
  ·rw[aC c]at e;cases e
 |_=>cases e⟩
def ug(fe:FE)(f:FG):FS:=fun ρ st=>(fe ρ st).stmt ρ fun w st=>match f w ρ with
 |some ρ'=>.nx ρ' st
 |none=>.bad
theorem Q5{f:FG}{D:vq}(h:Po X (ug fe f) D σ H):DH (tE X fe) (Q4 X f) D σ H:=by
 obtain⟨μ,ρ,st,l,h⟩:=h
 refine⟨μ,ρ,st,l,RK.stmt h l fun μ1 st1 x v H1 p1 x1 l1 q1 h1=>?_⟩
 cases e1:f x ρ with
 |none=>rw[e1]at h1;exact h1.elim
 |some ρ'=>rw[e1]at h1;exact⟨μ1,ρ,st1,x,ρ',l1,q1,e1,fun σ' l'=>h1 μ1 σ' H1 (af _) dD.refl l'⟩
theorem Nd{f:FG}(he:SE X e fe)(hg:SG X tg f)(hs:swapsWithSole [tg] e pos.line X.env=pure false:=by rfl)(hw:swappedStores [tg] e X.env=pure none:=by rfl)(h1:(assignEach [tg] X.env).map (·.2)=[assign tg X.env]:=by rfl):SS X (.Assign [tg] e pos) (ug fe f):=⟨(DI he.h hg.h hs hw h1).imp fun D σ H h=>Q5 h⟩
def bJ(i:Nat)(fe:FE):FS:=fun ρ st=>(fe ρ st).stmt ρ fun w st=>.nx (ρ.set i (some w)) st
theorem Nf(hN:X.N.Nodup)(hi:X.N[i]?=some x)(hx:Du X.env.scope x)(he:SE X e fe)(hs:swapsWith e (some (.Name x ji)) pos.line X.env=pure false:=by rfl)(hf:X.fn x=true\/X.env.scope.names.lookup x=some .local:=by first|exact .inl rfl|exact .inr rfl|assumption) :
  SS X (.Assign [.Name x ji] e pos) (bJ i fe):=⟨(Mp hN hi hx he.h hs hf).imp fun D σ H h=>by
 obtain⟨μ,ρ,st,l,h⟩:=h
 exact⟨μ,ρ,st,l,RK.stmt h l fun μ1 st1 x v H1 p1 x1 l1 q1 h1=>h1 μ1 _ H1 (af _) dD.refl ⟨pG q1 i l1.env,l1.sto⟩⟩⟩
def mP(x i v:W)(st:List aj):Option (List aj):=match x,i with
 |.loc n,.int k=>(match st[n]? with
  |some (.lst ws)=>(AH ws.length k).map fun j=>st.set n (.lst (ws.set j v))
  |_=>none)
 |_,_=>none
def m5(fo fi fe:FE)(f:W->W->W->List aj->Option (List aj)):FS:=fun ρ st=>(fe ρ st).stmt ρ fun v st=>(fo ρ st).stmt ρ fun x st=>(fi ρ st).stmt ρ fun i st=>match f x i v st with
 |some bx=>.nx ρ bx
 |none=>.bad
def En(X:Cx)(f:W->W->W->List aj->Option (List aj)):HR:=fun o i v H Q=>∃μ st wo wi wv bx,fY X.K X.mg μ st H/\bf X.K μ H wo o/\bf X.K μ H wi i/\bf X.K μ H wv v/\f wo wi wv st=some bx/\∀H',dD X.K H H'->fY X.K X.mg μ bx H'->Q H'
theorem zy:B_ X (En X mP):=fun pins s σ H o i v ov iv u Q I r1 r2 r3 ⟨μ,st,wo,wi,wv,bx,S,ro,ri,rv,e,q⟩=>by
 cases wo with
 |loc n=>
  cases wi with
  |int k=>
   simp only[mP]at e
   cases e1:st[n]? with
   |none=>rw[e1]at e;cases e
   |some cc=>
    rw[e1]at e
    cases cc with
    |lst ws=>
     simp only at e
     cases e2:AH ws.length k with
     |none=>rw[e2]at e;cases e
     |some jj=>
      rw[e2]at e
      cases e
      obtain⟨a1,g1,vs,k1,r⟩:=S.get e1
      obtain⟨b1,f1,rfl⟩:=ro.locE
      rw[g1]at f1;cases f1
      refine Cz pins s σ H _ i v ov iv u Q I r1 r2 r3 ⟨a1,vs,k,jj,rfl,ri.intE,k1,by rw[<- r.len];exact e2,fun H2 eH=>?_⟩
      subst eH
      exact q _ (fy.but fL k1) (S.set e1 g1 k1 (r.setI jj rv))
    |_=>cases e
  |_=>cases e
 |_=>cases wi<;>cases e
theorem qA{f:W->W->W->List aj->Option (List aj)}{i:Expr}{fi:FE}{fo:FE}(Uw:B_ X (En X f))(he:SE X e fe)(ho:SE X o fo)(hi:SE X i fi)
  (ha:∀v,assign (.Subscript o i ji) X.env v=(do
   let ov <- holding [v] (eval o X.env)
   let iv <- holding [v,ov] (eval i X.env)
   standAt ji
   holding [v,ov,iv] (setItem ov iv v)
   release [v,ov,iv] []):=by intro _;rfl)
  (hs:swapsWithSole [.Subscript o i ji] e pos.line X.env=pure false:=by rfl) (hw:swappedStores [.Subscript o i ji] e X.env=pure none:=by rfl) (h1:(assignEach [.Subscript o i ji] X.env).map (·.2)=[assign (.Subscript o i ji) X.env]:=by rfl) :
  SS X (.Assign [.Subscript o i ji] e pos) (m5 fo fi fe f):=⟨(DI he.h (Mo ho.h hi.h Uw ha) hs hw h1).imp fun D σ H h=>by
 obtain⟨μ,ρ,st,l,h⟩:=h
 refine⟨μ,ρ,st,l,RK.stmt h l fun μ1 st1 v vv H1 p1 x1 l1 q1 h1=>⟨μ1,ρ,st1,l1,RK.stmt h1 l1 fun μ2 c7 x xv H2 p2 x2 l2 q2 h2=>⟨μ2,ρ,c7,l2,RK.stmt h2 l2 fun μ3 jd i iv H3 p3 x3 l3 q3 h3=>?_⟩⟩⟩
 cases e1:f x i v jd with
 |none=>rw[e1]at h3;exact h3.elim
 |some bx=>
  rw[e1]at h3
  exact⟨μ3,jd,x,i,v,bx,l3.sto,q2.mono p3 x3,q3,(q1.mono p2 x2).mono p3 x3,e1,fun H' xx S'=>h3 μ3 σ H' (af _) xx (l3.to (af _) xx S')⟩⟩
end
def iB(st:List aj):Option (Nat×List W)->Prop
 |none=>True
 |some (n,ws)=>lstOf st n=some ws
abbrev zz:=List W×Option (Nat×List W)
abbrev FI:=cu->List aj->R zz
def zA(X:Cx)(J:It)(k:zz)(μ:List Addr)(H:Hp):Prop:=
 ∀(i:Nat) μ' bx H',μ <+: μ'->dD X.K H H'->fY X.K X.mg μ' bx H'->iB bx k.2 ->
  (∀w,k.1[i]?=some w->J.go i H'/\∀x H'',J.yld i H' x H''->dD X.K H' H''/\fY X.K X.mg μ' bx H''/\bf X.K μ' H'' w x)/\(k.1.length<=i->J.stop i H')
abbrev Q6(X:Cx):List Addr->Hp->zz->It->Prop:=fun μ H k J=>zA X J k μ H
structure SI(X:Cx)(tg it:Expr)(f:FI):Prop where
 h:PI X tg it (fun σ H R=>tG X (Q6 X) f σ H R)
theorem PI.imp{it:Expr}{t t':TI}(h:PI X tg it t)(i:∀σ H Q,t' σ H Q->t σ H Q):PI X tg it t':=fun pins s σ H Q I q=>h pins s σ H Q I (i _ _ _ q)
open Classical in
def sw(f:FG)(body:FS)(ck:Option (Nat×List W)):List W->FS
 |[],ρ,st=>if iB st ck then .nx ρ st else .bad
 |w::ws,ρ,st=>if iB st ck then(match f w ρ with
  |none=>.bad
  |some ρ'=>(match body ρ' st with
   |.nx ρ2 c7=>sw f body ck ws ρ2 c7
   |.ct ρ2 c7=>sw f body ck ws ρ2 c7
   |.bk ρ2 c7=>.nx ρ2 c7
   |.rt w c7=>.rt w c7
   |.ex c ρ2 c7=>.ex c ρ2 c7
   |.bad=>.bad))else .bad
def eS(fi:FI)(f:FG)(body:FS):FS:=fun ρ st=>(fi ρ st).stmt ρ fun k st=>sw f body k.2 k.1 ρ st
section
variable{a b o:Expr}{fa fb fe:FE}{fs:FA}{ft:FT}{g:FS}{f:FG}{fi:FI}
theorem l9(hi:SI X tg iter fi)(hg:SG X tg f)(hb:SB X body g)(hc:X.calm=true:=by rfl)(hp:PassesOwn (model X.prog X.w) X.A X.env X.xe:=by passes_own)(hs:∀x,foldedSetIterable iter X.env x=pure x:=by intro _;rfl):SS X (.For tg iter body [] pos) (eS fi f g):=⟨(Mr hp hc hi.h hg.h hb.h hs).imp fun D σ H h=>by
 obtain⟨μ,ρ,st,l,h⟩:=h
 refine⟨μ,ρ,st,l,RK.stmt h l fun μ1 st1 k J H1 p1 x1 l1 wk h1=>?_⟩
 refine⟨fun i m σ' H'=>i<=k.1.length/\m=k.1.length-i/\∃μ' ρ' bx,μ1 <+: μ'/\dD X.K H1 H'/\Rl X μ' ρ' bx σ' H'/\SK X μ' H' D (sw f g k.2 (k.1.drop i) ρ' bx),
  ⟨_,dB _,rfl,μ1,ρ,st1,af _,dD.refl,l1,h1⟩,?_⟩
 rintro i m σ' H' ⟨hi,rfl,μ',ρ',bx,pm,xm,lm,hm⟩
 by_cases hlt:i<k.1.length
 ·rw[fC hlt]at hm
  unfold sw at hm
  by_cases ck:iB bx k.2
  ·rw[ay ck]at hm
   obtain⟨go,yld⟩:=(wk i μ' bx H' pm xm lm.sto ck).1 _ (ac hlt)
   cases hf:f k.1[i] ρ' with
   |none=>rw[hf]at hm;exact hm.elim
   |some ρ2=>
    rw[hf]at hm
    simp only at hm
    refine .inr ⟨go,fun σ2 H2=>∃μ2 ρ3 c7,μ' <+: μ2/\dD X.K H' H2/\Rl X μ2 ρ3 c7 σ2 H2/\SK X μ2 H2 D (sw f g k.2 (k.1.drop (i+1)) ρ3 c7),fun σ2 H2 ⟨μ2,ρ3,c7,q1,q2,q3,q4⟩=>
     ⟨_,by omega,hlt,rfl,μ2,ρ3,c7,pm.trans q1,xm.trans q2,q3,q4⟩,fun x H2 hy=>?_⟩
    obtain⟨y1,y2,y3⟩:=yld x H2 hy
    refine⟨μ',ρ',bx,k.1[i],ρ2,lm.to (af _) y1 y2,y3,hf,fun σ2 l2=>⟨μ',ρ2,bx,l2,?_⟩⟩
    cases e:g ρ2 bx with
    |nx ρ3 jd=>rw[e]at hm;exact fun μ4 σ4 H4 p4 x4 l4=>⟨μ4,ρ3,jd,p4,y1.trans x4,l4,SK.mono hm p4 (y1.trans x4)⟩
    |ct ρ3 jd=>rw[e]at hm;exact fun μ4 σ4 H4 p4 x4 l4=>⟨μ4,ρ3,jd,p4,y1.trans x4,l4,SK.mono hm p4 (y1.trans x4)⟩
    |bk ρ3 jd=>rw[e]at hm;exact fun μ4 σ4 H4 p4 x4 l4=>hm μ4 σ4 H4 p4 (y1.trans x4) l4
    |rt w jd=>rw[e]at hm;exact fun μ4 v4 H4 p4 x4=>hm μ4 v4 H4 p4 (y1.trans x4)
    |ex c ρ3 jd=>rw[e]at hm;exact XS.mono hm (af _) y1
    |bad=>rw[e]at hm;exact hm
  ·rw[aC ck]at hm;exact hm.elim
 ·have hi':i=k.1.length:=by omega
  subst hi'
  rw[mG (aw _)]at hm
  unfold sw at hm
  by_cases ck:iB bx k.2
  ·rw[ay ck]at hm
   exact .inl ⟨(wk _ μ' bx H' pm xm lm.sto ck).2 (aw _),hm μ' σ' H' (af _) dD.refl lm⟩
  ·rw[aC ck]at hm;exact hm.elim⟩
def fP(t:FT)(body:FS):Nat->FS
 |0,_,_=>.bad
 |n+1,ρ,st=>(t ρ st).stmt ρ fun k st=>if k then(match body ρ st with
   |.nx ρ2 c7=>fP t body n ρ2 c7
   |.ct ρ2 c7=>fP t body n ρ2 c7
   |.bk ρ2 c7=>.nx ρ2 c7
   |.rt w c7=>.rt w c7
   |.ex c ρ2 c7=>.ex c ρ2 c7
   |.bad=>.bad)else .nx ρ st
open Classical in
def lf(t:FT)(body:FS):FS:=fun ρ st=>if h:∃n,fP t body n ρ st≠.bad then fP t body h.choose ρ st else .bad
theorem ny(t:FT)(g:FS):∀(n:Nat) (ρ:cu) (st:List aj),fP t g n ρ st≠.bad->fP t g (n+1) ρ st=fP t g n ρ st
 |0,_,_,h=>absurd rfl h
 |n+1,ρ,st,h=>by
  unfold fP at h ⊢
  cases e:t ρ st with
  |ex c st1=>rfl
  |bad=>rfl
  |ok k st1=>
   rw[e]at h
   simp only[R.stmt_ok]at h ⊢
   cases k with
   |false=>rfl
   |true=>
    simp only[fx]at h ⊢
    cases e2:g ρ st1 with
    |nx ρ2 c7=>rw[e2]at h;exact ny t g n ρ2 c7 h
    |ct ρ2 c7=>rw[e2]at h;exact ny t g n ρ2 c7 h
    |_=>rfl
theorem uO{t:FT}{n m:Nat}{ρ:cu}{st:List aj}(h:fP t g n ρ st≠.bad)(hm:n<=m):fP t g m ρ st=fP t g n ρ st:=by
 induction hm with
 |refl=>rfl
 |@step m _ ih=>rw[ny t g m ρ st (by rw[ih];exact h),ih]
theorem CF{t:FT}{ρ:cu}{st:List aj}{r:RS}(h:fP t g n ρ st=r)(hr:r≠.bad):lf t g ρ st=r:=by
 have hx:∃n,fP t g n ρ st≠.bad:=⟨n,by rw[h];exact hr⟩
 unfold lf
 rw[mH hx]
 have c:=hx.choose_spec
 have a:=uO c (Nat.le_max_left hx.choose n)
 have b:=uO (n:=n) (m:=max hx.choose n) (by rw[h];exact hr) (Nat.le_max_right _ _)
 rw[<- a,b,h]
theorem xN{t:FT}{D:vq}:∀(n:Nat) (σ:St) (H:Hp) (μ:List Addr) (ρ:cu) (st:List aj),Rl X μ ρ st σ H->SK X μ H D (fP t g n ρ st)->DJ (tT X t) (Po X g) D σ H:=by
 intro n σ H μ ρ st l h
 refine⟨fun m σ' H'=>∃μ' ρ' bx,Rl X μ' ρ' bx σ' H'/\SK X μ' H' D (fP t g m ρ' bx),⟨n,μ,ρ,st,l,h⟩,?_⟩
 rintro m σ' H' ⟨μ',ρ',bx,l',h'⟩
 cases m with
 |zero=>exact h'.elim
 |succ m=>
  refine⟨μ',ρ',bx,l',RK.stmt h' l' fun μ1 st1 k v H1 p1 x1 l1 q1 h1=>?_⟩
  cases q1
  cases k with
  |false=>exact h1 μ1 σ' H1 (af _) dD.refl l1
  |true=>
   refine⟨fun σ2 H2=>∃μ2 ρ2 c7,Rl X μ2 ρ2 c7 σ2 H2/\SK X μ2 H2 D (fP t g m ρ2 c7),fun σ2 H2 z=>⟨m,iQ m,z⟩,μ1,ρ',st1,l1,?_⟩
   simp only[fx]at h1
   cases e:g ρ' st1 with
   |nx ρ3 jd=>rw[e]at h1;exact fun μ4 σ4 H4 p4 x4 l4=>⟨μ4,ρ3,jd,l4,SK.mono h1 p4 x4⟩
   |ct ρ3 jd=>rw[e]at h1;exact fun μ4 σ4 H4 p4 x4 l4=>⟨μ4,ρ3,jd,l4,SK.mono h1 p4 x4⟩
   |bk ρ3 jd=>rw[e]at h1;exact h1
   |rt w jd=>rw[e]at h1;exact h1
   |ex c ρ3 jd=>rw[e]at h1;exact h1
   |bad=>rw[e]at h1;exact h1
theorem sA{t:FT}(hc:ST X c t)(hb:SB X body g)(hp:PassesOwn (model X.prog X.w) X.A X.env X.xe:=by passes_own):SS X (.While c body [] pos) (lf t g):=⟨(DL hp hc.h hb.h).imp fun D σ H h=>by
 obtain⟨μ,ρ,st,l,h⟩:=h
 unfold lf at h
 by_cases hx:∃n,fP t g n ρ st≠.bad
 ·rw[mH hx]at h;exact xN _ σ H μ ρ st l h
 ·rw[dif_neg hx]at h;exact h.elim⟩
def Eo(fe:FE):FI:=fun ρ st=>(fe ρ st).bind fun x st=>match x with
 |.tup ws=>.ok (ws,none) st
 |_=>.bad
theorem Ep(he:SE X e fe):SI X tg e (Eo fe):=⟨(Mq he.h).imp fun σ H R h=>by
 obtain⟨μ,ρ,st,l,h⟩:=h
 refine⟨μ,ρ,st,l,RK.bind h l fun μ1 st1 x v H1 p1 x1 l1 q1 h1=>?_⟩
 cases x with
 |tup ws=>
  obtain⟨p,vs,rfl,hS,r⟩:=q1.tupE
  refine⟨p,rfl,⟨vs,hS⟩,h1 μ1 _ H1 (af _) dD.refl l1.sto fun i μ' bx H' pp xx S _=>⟨fun w hw=>?_,fun hl=>⟨vs,xx _ _ hS,by rw[<- r.len];exact hl⟩⟩⟩
  have r':=r.mono pp xx
  obtain⟨v,g1,g2⟩:=r'.get hw
  refine⟨⟨vs,v,xx _ _ hS,g1⟩,fun y H'' hy=>?_⟩
  obtain⟨rfl,hy⟩:=hy
  have:=hy vs (xx _ _ hS)
  rw[g1]at this;cases this
  exact⟨dD.refl,S,g2⟩
 |_=>exact h1.elim⟩
def Ko(fe:FE):FI:=fun ρ st=>(fe ρ st).bind fun x st=>match x with
 |.loc n=>(match lstOf st n with
  |some ws=>.ok (ws,some (n,ws)) st
  |none=>.bad)
 |_=>.bad
theorem Ng(he:SE X e fe):SI X tg e (Ko fe):=⟨(HW he.h).imp fun σ H R h=>by
 obtain⟨μ,ρ,st,l,h⟩:=h
 refine⟨μ,ρ,st,l,RK.bind h l fun μ1 st1 x v H1 p1 x1 l1 q1 h1=>?_⟩
 cases x with
 |loc n=>
  obtain⟨a,ha,rfl⟩:=q1.locE
  simp only at h1
  cases e1:lstOf st1 n with
  |none=>rw[e1]at h1;exact h1.elim
  |some ws=>
   rw[e1]at h1
   obtain⟨a',vs0,g0,hS0,r0⟩:=l1.sto.lstOf e1
   rw[ha]at g0;cases g0
   refine⟨a,rfl,⟨vs0,hS0⟩,h1 μ1 _ H1 (af _) dD.refl l1.sto fun i μ' bx H' pp xx S ck=>?_⟩
   obtain⟨a2,vs,g2,hS,r⟩:=S.lstOf (show lstOf bx n=some ws from ck)
   have:μ'[n]?=some a:=pre_get pp ha
   rw[g2]at this;cases this
   refine⟨fun w hw=>?_,fun hl=>⟨vs,hS,by rw[<- r.len];exact hl⟩⟩
   obtain⟨v,g1,g3⟩:=r.get hw
   refine⟨⟨vs,v,hS,g1⟩,fun y H'' hy=>?_⟩
   obtain⟨rfl,hy⟩:=hy
   have:=hy vs hS
   rw[g1]at this;cases this
   exact⟨dD.refl,S,g3⟩
 |_=>exact h1.elim⟩
def bM(lo:Int)(n:Nat):List W:=(List.range n).map fun(i:Nat)=>W.int (lo+i)
theorem bB(lo:Int)(n:Nat):(bM lo n).length=n:=by simp[bM]
theorem sB{lo:Int}:zA X (P2 lo n) (bM lo n,none) μ H:=fun i μ' bx H' pp xx S _=>by
 refine⟨fun w hw=>?_,fun hl=>by rw[bB]at hl;exact hl⟩
 have hi:i<n:=by
  have:=(aa.mp hw).1
  rw[bB]at this;exact this
 refine⟨hi,fun y H'' hy=>?_⟩
 obtain⟨rfl,rfl⟩:=hy
 have e:w=.int (lo+i):=by
  unfold bM at hw
  rw[ak,dO hi]at hw
  exact(a7 hw).symm
 subst e
 exact⟨dD.refl,S,.int⟩
def be(fs:FA):FI:=fun ρ st=>(fs ρ st).bind fun ws st=>match ws with
 |[.int j]=>if -(2^62)<=j/\j<2^62 then .ok (bM 0 j.toNat,none) st else .bad
 |_=>.bad
def pK(fs:FA):FI:=fun ρ st=>(fs ρ st).bind fun ws st=>match ws with
 |[.int i,.int j]=>if -(2^62)<=i/\i<2^62/\-(2^62)<=j/\j<2^62 then .ok (bM i (j-i).toNat,none) st else .bad
 |_=>.bad
theorem gi(hm:X.mg "range"=none)(ha:SA X [a] fs)(hg:Gl X "range":=by rfl)(hs:starEach [a] X.env=[(false,eval a X.env)]:=by rfl):SI X tg (.Call (.Name "range" p) [a] [] pos) (be fs):=⟨(Cc hg hm ha.h hs).imp fun σ H R h=>by
 obtain⟨μ,ρ,st,l,h⟩:=h
 refine⟨μ,ρ,st,l,RK.bind h l fun μ1 st1 x v H1 p1 x1 l1 q1 h1=>?_⟩
 split at h1
 ·obtain⟨y,rfl,ry⟩:=q1.one
  split at h1
  ·rename_i c
   exact⟨_,by rw[ry.intE],c.1,c.2,h1 μ1 _ H1 (af _) dD.refl l1.sto sB⟩
  ·exact h1.elim
 ·exact h1.elim⟩
theorem CG(hm:X.mg "range"=none)(ha:SA X [a,b] fs)(hg:Gl X "range":=by rfl)(hs:starEach [a,b] X.env=[(false,eval a X.env),(false,eval b X.env)]:=by rfl)(vm:starEach [b] X.env=[(false,eval b X.env)]:=by rfl):SI X tg (.Call (.Name "range" p) [a,b] [] pos) (pK fs):=⟨(Cd hg hm ha.h hs vm).imp fun σ H R h=>by
 obtain⟨μ,ρ,st,l,h⟩:=h
 refine⟨μ,ρ,st,l,RK.bind h l fun μ1 st1 x v H1 p1 x1 l1 q1 h1=>?_⟩
 split at h1
 ·obtain⟨y,z,rfl,ry,rz⟩:=q1.two
  split at h1
  ·rename_i c
   exact⟨_,_,by rw[ry.intE,rz.intE],c,h1 μ1 _ H1 (af _) dD.refl l1.sto sB⟩
  ·exact h1.elim
 ·exact h1.elim⟩
end
mutual
def W.und(n:Nat):W->Bool
 |.loc m=>decide (m<n)
 |.tup ws=>undWs n ws
 |_=>true
def undWs(n:Nat):List W->Bool
 |[]=>true
 |w::ws=>w.und n&&undWs n ws
end
def aj.und(n:Nat):aj->Bool
 |.lst ws=>undWs n ws
 |.ro ws=>undWs n ws
 |.exc _=>true
 |.dct kvs=>undWs n (kvs.map fun p=>p.2)
 |.rod kvs=>undWs n (kvs.map fun p=>p.2)
 |.dcx kvs=>undWs n (kvs.map fun p=>p.2)
 |.tab _ _ _=>true
 |.pin _ _ _ w=>w.und n
 |.gone=>true
section
mutual
theorem bf.und:∀{w:W} {v:V},bf K μ H w v->w.und μ.length=true
 |.non,_,_=>by simp[W.und]
 |.bl _,_,_=>by simp[W.und]
 |.int _,_,_=>by simp[W.und]
 |.str _,_,_=>by simp[W.und]
 |.tup _,_,r=>by obtain⟨p,vs,_,_,c⟩:=r.tupE;unfold W.und;exact RelWs.und c
 |.loc _,_,r=>by obtain⟨a,e,_⟩:=r.locE;unfold W.und;exact bn (aa.mp e).1
theorem RelWs.und:∀{ws:List W} {vs:List V},RelWs K μ H ws vs->undWs μ.length ws=true
 |[],_,_=>by unfold undWs;rfl
 |_::_,_,r=>by obtain⟨x,xs,_,b,c⟩:=r.consE;unfold undWs;rw[bf.und b,RelWs.und c];rfl
end
mutual
theorem bf.take:∀{w:W} {v:V},bf K μ H w v->w.und n=true->bf K (μ.take n) H w v
 |.non,_,r,_=>by rw[r.nonE];exact .non
 |.bl _,_,r,_=>by rw[r.blE];exact .bl
 |.int _,_,r,_=>by rw[r.intE];exact .int
 |.str _,_,r,_=>by rw[r.strE];exact .str
 |.tup _,_,r,b=>by obtain⟨p,vs,rfl,h,c⟩:=r.tupE;unfold W.und at b;exact .tupI h (RelWs.takeN c b)
 |.loc _,_,r,b=>by obtain⟨a,e,rfl⟩:=r.locE;unfold W.und at b;exact .locI (by rw[cG (iq b)];exact e)
theorem RelWs.takeN:∀{ws:List W} {vs:List V},RelWs K μ H ws vs->undWs n ws=true->RelWs K (μ.take n) H ws vs
 |[],_,r,_=>by rw[r.nilE];exact .nilI
 |_::_,_,r,b=>by
  obtain⟨x,xs,rfl,b1,c1⟩:=r.consE
  unfold undWs at b
  rw[bh]at b
  exact .consI (bf.take b1 b.1) (RelWs.takeN c1 b.2)
end
theorem KX.und_w(k:KX)(n:Nat):k.w.und n=true:=by
 have hi:∀ks:List Int,undWs n (ks.map W.int)=true:=fun ks=>by
  induction ks with
  |nil=>rfl
  |cons a l ih=>show(true&&undWs n (l.map W.int))=true;rw[ih];rfl
 cases k with
 |bo b=>rfl
 |fl ks=>unfold KX.w W.und;exact hi ks
 |pr i ks=>unfold KX.w W.und undWs;rw[show(W.int i).und n=true from rfl];unfold undWs;rw[show(W.tup (ks.map W.int)).und n=true by unfold W.und;exact hi ks];rfl
theorem xO:∀{kvs:List (KX×W)} {es:List DictEntry},Paired (q9 K μ H) kvs es->undWs μ.length (kvs.map fun p=>p.2)=true
 |_,_,.nil=>rfl
 |_,_,.cons r t=>by
  obtain⟨_,_,v,h,_⟩:=r
  show(_&&undWs _ _)=true
  rw[h.und,xO t];rfl
theorem uP:∀{kvs:List (KX×W)} {es:List DictEntry},Paired (q9 K μ H) kvs es->undWs n (kvs.map fun p=>p.2)=true->Paired (q9 K (μ.take n) H) kvs es
 |_,_,.nil,_=>.nil
 |_,_,.cons r t,b=>by
  obtain⟨a,⟨u,c,d⟩,v,h,g⟩:=r
  have b:(_&&undWs n _)=true:=b
  rw[bh]at b
  exact .cons ⟨a,⟨u,bf.take c (KX.und_w _ n),d⟩,v,bf.take h b.1,g⟩ (uP t b.2)
theorem kK.und{c:aj}(r:kK K mg μ H c a):c.und μ.length=true:=by
 cases c with
 |lst ws=>obtain⟨vs,_,y⟩:=r;exact y.und
 |ro ws=>obtain⟨vs,_,y⟩:=r;exact y.und
 |exc c=>rfl
 |dct kvs=>obtain⟨vs,_,y⟩:=r;exact y.und
 |rod kvs=>obtain⟨vs,_,_,y⟩:=r;exact y.und
 |dcx kvs=>obtain⟨es,_,_,y,_⟩:=r;exact xO y
 |tab _ _ _=>rfl
 |pin _ _ _ _=>obtain⟨_,_,_,v,y,_⟩:=r;exact y.und
 |gone=>rfl
theorem kK.take{c:aj}(r:kK K mg μ H c a)(b:c.und n=true):kK K mg (μ.take n) H c a:=by
 cases c with
 |lst ws=>obtain⟨vs,x,y⟩:=r;exact⟨vs,x,y.takeN b⟩
 |ro ws=>obtain⟨vs,x,y⟩:=r;exact⟨vs,x,y.takeN b⟩
 |exc c=>exact r
 |dct kvs=>obtain⟨vs,x,y⟩:=r;exact⟨vs,x,y.takeN b⟩
 |rod kvs=>obtain⟨vs,o,x,y⟩:=r;exact⟨vs,o,x,y.takeN b⟩
 |dcx kvs=>obtain⟨es,x,d,y,z⟩:=r;exact⟨es,x,d,uP y b,z⟩
 |tab _ _ _=>exact r
 |pin _ _ _ _=>obtain⟨ea,p,g,v,y,z⟩:=r;exact⟨ea,p,g,v,y.take b,z⟩
 |gone=>trivial
end
theorem eO.ex{w:World}{o:HO}(x:eO P w H h a o):∃ob,h.get? a=some ob:=by
 cases o with
 |lst xs=>obtain⟨_,_,_,_,e⟩:=x;exact⟨_,e⟩
 |tup xs=>obtain⟨_,_,_,o,e,_⟩:=x;exact⟨_,e⟩
 |dK kvs=>obtain⟨_,_,_,_,o,_,_,e,_⟩:=x;exact⟨_,e⟩
 |dT kvs=>obtain⟨_,_,_,_,o,_,_,e,_⟩:=x;exact⟨_,e⟩
 |set S n=>obtain⟨o,_,_,_,e,_⟩:=x;exact⟨_,e⟩
 |ins C dx fs=>obtain⟨_,_,_,e,_⟩:=x;exact⟨_,e⟩
 |own y=>obtain⟨_,e⟩:=x;exact⟨_,e⟩
 |xd fs=>obtain⟨_,⟨_,_,_,e,_⟩,_⟩:=x;exact⟨_,e⟩
 |rng lo hi=>obtain⟨_,_,_,e⟩:=x;exact⟨_,e⟩
 |frz ob u=>obtain⟨e,_⟩:=x;exact⟨_,e⟩
 |tbl ps=>exact⟨_,(show h.get? a=some _ from x)⟩
 |met f y=>exact⟨_,(show h.get? a=some _ from x)⟩
 |ext φ=>obtain⟨_,⟨_,e⟩,_⟩:=x;exact⟨_,e⟩
def Kp(st bx:List aj)(ws:List W):Prop:=undWs st.length ws=true/\st.length<=bx.length/\∀(i:Nat),i<st.length->bx[i]?=st[i]?\/∃c,bx[i]?=some c/\c.und st.length=true
open Classical in
def h_(st bx:List aj)(ws:List W):List aj:=if Kp st bx ws then bx.take st.length else bx
theorem iX{st:List aj}{ws:List W}{vs:List V}(S:fY K mg μ st H)(S':fY K mg μ' bx H')(p:μ <+: μ')(r:RelWs K μ' H' ws vs) :
  ∃μ2,μ <+: μ2/\fY K mg μ2 (h_ st bx ws) H'/\RelWs K μ2 H' ws vs:=by
 unfold h_
 by_cases k:Kp st bx ws
 ·rw[ay k]
  obtain⟨k1,k2,k3⟩:=k
  have e:μ'.take st.length=μ:=by
   obtain⟨t,rfl⟩:=p
   rw[S.len,List.take_left]
  refine⟨μ'.take st.length,by rw[e];exact af _,⟨fun i j a ci cj h1 h2 r1 r2 m1 m2=>?_,by rw[a8,a8,S'.len],fun i c a h1 h2=>?_⟩,r.takeN k1⟩
  ·have hi:i<st.length:=by have:=(aa.mp h1).1;rw[a8]at this;omega
   have hj:j<st.length:=by have:=(aa.mp h2).1;rw[a8]at this;omega
   rw[cG hi]at h1 m1
   rw[cG hj]at h2 m2
   exact S'.nd i j a ci cj h1 h2 r1 r2 m1 m2
  ·have hi:i<st.length:=by have:=(aa.mp h1).1;rw[a8]at this;omega
   rw[cG hi]at h1 h2
   refine(S'.at' i c a h1 h2).take ?_
   rcases k3 i hi with q|⟨c',q,b⟩
   ·rw[h1]at q
    obtain⟨a0,g0,r0⟩:=S.get q.symm
    have:=r0.und
    rw[S.len];exact this
   ·rw[h1]at q;cases q;exact b
 ·rw[aC k]
  exact⟨μ',p,S',r⟩
def d9(N:Nat)(body:FS)(ws:List W)(st:List aj):R W:=match body (ws.map some++List.replicate (N-ws.length) none) st with
 |.rt w bx=>.ok w (h_ st bx [w])
 |.nx _ bx=>.ok .non (h_ st bx [])
 |.ex c _ bx=>.ex c (h_ st bx [])
 |_=>.bad
def iU(P:Program)(w:World):Dv:=fun outer H s E e s'=>∃x C t B H',e=.ref x/\E C none H'/\s'.os=s.os/\AllBare s'.gens/\Un (tZ outer) [] H H' s.heap s'.heap/\kw P w H' s'.heap/\H' x=none/\Heap.FlyingW B outer x C (.ref t) s'.heap /\
 ∀b o,s'.heap.get? b=some o->(H' b≠none\/((∃o0,s.heap.get? b=some o0)/\b∉tZ outer))->B.get? b=some o
def jN(K:Frag)(mg:Str->Option Value)(n:Nat)(F:List W->List aj->R W):Sp:=fun vs H Q E=>vs.length=n/\∃μ ws st,fY K mg μ st H/\RelWs K μ H ws vs/\(match F ws st with
 |.ok w bx=>∀μ' v H',μ <+: μ'->dD K H H'->fY K mg μ' bx H'->bf K μ' H' w v->Q v H'
 |.ex c bx=>∀C μ' H',mg c=some C->μ <+: μ'->dD K H H'->fY K mg μ' bx H'->E C none H'
 |.bad=>False)
theorem uL.noted{c:Str}{e:Value}{Q:Unit->Shared->Prop}{E:Value->Shared->Prop}{M:Model}{outer:List Env}(f:uL X pins σ c H e s)(wM:X.stack=X.env::outer)(rA:X.env.frame=some X.env.locals)(hA:X.A.frames=some X.stack)
  (h:∀x C t B h',e=.ref x->X.mg c=some C->H x=none->Heap.FlyingW B X.stack x C (.ref t) h'->s.heap.UpToSlots h' ->
   (∀b o,s.heap.get? b=some o->(H b≠none\/((∃o0,X.s₀.heap.get? b=some o0)/\b∉X.fs/\b∉X.ex)\/((∃y,X.env.cells.lookup y=some b)/\b∉tZ X.stack)\/∃p∈X.pn++pins,p.1=b)->B.get? b=some o)->Q () { s with heap:=h' }) :
  wpAny M X.A (leaving X.env e) Q E s:=by
 obtain⟨x,C,t,B,rfl,hC,hx,st,nx,ff,tr,cov⟩:=f.ex
 rw[wM]at ff hA
 rcases tr with tr|⟨oe,vs,he,rfl,_,hd,h1,h0⟩|⟨L,hL,tr⟩
 ·refine wpAny_leaving_nextW hA ff rA tr st nx fun h' hL=>?_
  obtain⟨k1,k2,k3,k4⟩:=hL
  exact h x C t B h' rfl hC hx ⟨k1,nx,by rw[wM];exact k2,k3⟩ k4 cov
 ·refine wpAny_leaving_firstW hA ff rA he st nx hd h1 h0 fun h' hL=>?_
  obtain⟨k1,k2,k3,k4⟩:=hL
  exact h x _ t B h' rfl hC hx ⟨k1,nx,by rw[wM];exact k2,k3⟩ k4 cov
 ·unfold leaving
  refine ah (wpAny_noteFrame_againW hL tr (wpAny_landsW ⟨st,nx,ff,tr⟩ fun h' fl up=>?_))
  exact h x C t B h' rfl hC hx (by rw[wM];exact fl) up cov
theorem uL.leaves{c:Str}{e:Value}{E:XK}{E':Value->Shared->Prop}(f:uL X pins σ c H e s)(wM:X.stack=X.env::X.outer)(rA:X.env.frame=some X.env.locals)(hA:X.A.frames=some X.stack)(Pa:X.ex=[])
  (hE:∀C,X.mg c=some C->E C none H):wpAny M X.A (leaving X.env e) (fun _ s''=>iU X.prog X.w X.outer X.H₀ X.s₀ E e s'') E' s:=by
 refine f.noted wM rA hA fun x C t B h' he hC hx fl up cov=>?_
 have I:=f.inv
 have un:=I.base
 rw[Pa]at un
 have fsE:X.fs=tZ X.outer:=rfl
 obtain⟨f1,f2,f3,f4⟩:=fl
 rw[wM]at f3
 obtain⟨_,_,f3'⟩:=f3
 have frames:∀b∈tZ X.outer,∀o,s.heap.get? b=some o->∃sl,h'.get? b=some { o with slots:=sl }:=fun b hb o ho=>by
  obtain⟨_,o',ho',hd⟩:=I.funs.mem hb
  rw[ho]at ho';cases ho'
  exact up b o ho hd
 have kept:∀b o,s.heap.get? b=some o->(∃o0,X.s₀.heap.get? b=some o0)->b∉tZ X.outer->h'.get? b=some o:=fun b o ho h0 hb=>f1 b o (cov b o ho (.inr (.inl ⟨h0,hb,by rw[Pa];simp⟩)))
 have keptH:∀b o,s.heap.get? b=some o->H b≠none->h'.get? b=some o:=fun b o ho h0=>f1 b o (cov b o ho (.inl h0))
 refine⟨x,C,t,B,H,he,hE C hC,I.os,I.bare,⟨fun b o q n hb hx=>?_,fun b o q n hb hx=>?_,fun b o q n hx=>un.free b o q n hx,fun b o q hx=>?_,un.tups,un.frzs,un.tbls⟩,fun b u hb=>?_,hx,⟨f1,f2,f3',f4⟩,fun b o ho hr=>?_⟩
 ·exact kept b o (un.keep b o q n hb hx) ⟨o,q⟩ hb
 ·obtain⟨sl,q1⟩:=un.slot b o q n hb hx
  obtain⟨J',q2⟩:=frames b hb _ q1
  exact⟨J',q2⟩
 ·obtain⟨o',q1⟩:=un.there b o q hx
  by_cases hb:b∈tZ X.outer
  ·obtain⟨J',q2⟩:=frames b hb _ q1;exact⟨_,q2⟩
  ·exact⟨o',kept b o' q1 ⟨o,q⟩ hb⟩
 ·refine(I.hok b u hb).stay (fun c v hc q=>?_) (fun _ q=>q) fun _ _ q=>q
  refine keptH c v q ?_
  rcases hc with rfl|hc
  ·rw[hb];simp
  ·rw[hc];simp
 ·rcases hr with hr|⟨⟨o0,h0⟩,hb⟩
  ·cases hu:H b with
   |none=>exact absurd hu hr
   |some u=>
    have lt:=I.hok.lt hu
    obtain⟨ob,Hm⟩:∃ob,s.heap.get? b=some ob:=by
     exact(I.hok b u hu).ex
    have:=keptH b ob Hm hr
    rw[ho]at this;cases this
    exact cov b o Hm (.inl hr)
  ·obtain⟨o',q1⟩:=un.there b o0 h0 (by simp)
   have:=kept b o' q1 ⟨o0,h0⟩ hb
   rw[ho]at this;cases this
   exact cov b o q1 (.inr (.inl ⟨⟨o0,h0⟩,hb,by rw[Pa];simp⟩))
structure dF(P:Program)(w:World)(K:Frag)(mg:Str->Option Value)(base:Heap)(k:Nat)(x:Str)(n:Nat)(F:List W->List aj->R W):Prop where
 ex:∃(f:Addr) (fd:FuncData) (ps:List Str),mg x=some (.ref f)/\keepIn K (.ref f)=true/\ps.length=n/\xc K fd ps []/\eQ P w K mg base (iU P w) k f fd ps (jN K mg n F)
theorem dF.mono{w:World}{k:Nat}(h:dF P w K mg base j x n F)(hj:j<=k):dF P w K mg base k x n F:=by
 obtain⟨f,fd,ps,a,b,c,d,e⟩:=h.ex
 exact⟨f,fd,ps,a,b,c,d,e.mono hj⟩
def c8(n:Nat)(F:List W->List aj->R W)(fs:FA):FE:=fun ρ st=>(fs ρ st).bind fun ws st=>if ws.length=n then F ws st else .bad
section
theorem Q7{k:Nat}{Q:VK}{st:List aj}
  (Fn:eQ X.prog X.w X.K X.mg X.base (iU X.prog X.w) k f fd ps (jN X.K X.mg n F)) (hn:ps.length=n) (hr:gD k X.A) (hb:xc X.K fd ps []) (I:bw X pins σ H s) (S:fY X.K X.mg μ st H) (r:RelWs X.K μ H ws vs) (rv:cp vs us) (hl:ws.length=n)
  (h:RK X (q_ X) μ σ H Q (F ws st)):wpAny (model X.prog X.w) X.A (call (.ref f) us) (EP X pins σ Q) X.xe s:=by
 have hl':(us++([]:List Value)).length=ps.length:=by rw[bU,<- rv.length,<- r.len,hl,hn]
 cases e:F ws st with
 |bad=>rw[e]at h;exact h.elim
 |ok w bx=>
  rw[e]at h
  refine mI (il (Fn.run X.A X.stack s H ⟨us,[]⟩ us vs Q (fun _ _ _=>False) hr I.env0 (by have:=hb s us I.kIn hl';rwa[bU]at this) rv ⟨by rw[<- r.len];exact hl,μ,ws,st,S,r,by rw[e];exact h⟩) fun r s' hq=>?_)
  cases r with
  |error e=>obtain⟨_,_,_,_,_,_,z,_⟩:=hq;exact z.elim
  |ok fl=>
   cases fl with
   |ret u=>exact I.after hq
   |next=>exact False.elim hq
   |brk=>exact False.elim hq
   |cont=>exact False.elim hq
 |ex c bx=>
  rw[e]at h
  refine mI (il (Fn.run X.A X.stack s H ⟨us,[]⟩ us vs (fun _ _=>False) (fun C _ H'=>X.mg c=some C/\∃μ',μ <+: μ'/\dD X.K H H'/\fY X.K X.mg μ' bx H') hr I.env0 (by have:=hb s us I.kIn hl';rwa[bU]at this) rv
   ⟨by rw[<- r.len];exact hl,μ,ws,st,S,r,by rw[e];exact fun C μ' H' hC p x S'=>⟨hC,μ',p,x,S'⟩⟩) fun r s' hq=>?_)
  cases r with
  |ok fl=>
   cases fl with
   |ret u=>obtain⟨_,_,_,_,_,_,_,z⟩:=hq;exact z.elim
   |next=>exact False.elim hq
   |brk=>exact False.elim hq
   |cont=>exact False.elim hq
  |error ev=>
   obtain⟨x,C,t,B,H',rfl,⟨hC,μ',p,xx,S'⟩,os,bare,un,hok,hx,fl,cov⟩:=hq
   have I':bw X pins σ H' s':=I.call' os un hok bare fun b hb=>absurd hb (by simp)
   refine h pins μ' H' (.ref x) s' p xx S' ⟨I',x,C,t,B,rfl,hC,hx,fl.1,fl.2.1,fl.2.2.1,.inl fl.2.2.2,fun b o ho hrel=>?_⟩
   refine cov b o ho ?_
   rcases hrel with q|⟨⟨o0,h0⟩,hb,hbx⟩|⟨⟨y,hy⟩,hb⟩|⟨pp,hp,rfl⟩
   ·exact .inl q
   ·refine .inr ⟨?_,fun z=>?_⟩
    ·obtain⟨o',q1⟩:=I.base.there b o0 h0 hbx
     exact⟨o',q1⟩
    ·rcases aI.mp (I.stkSub b z)with z|z
     ·rw[z]at h0
      exact absurd (aY (aH h0) I.ok.above) (bD _)
     ·exact hb z
   ·obtain⟨v,ov,hov,_⟩:=I.cell y b hy
    exact .inr ⟨⟨_,hov⟩,hb⟩
   ·obtain⟨g1,g2,g3,g4,_⟩:=I.pin pp hp
    refine .inr ⟨⟨_,g1⟩,fun z=>?_⟩
    rcases aI.mp (I.stkSub _ z)with z|z
    ·exact g3 z
    ·exact g4 z
variable{fs:FA}
theorem kL{k k':Nat}(Fn:dF X.prog X.w X.K X.mg X.base k x n F)(hr:gD k' X.A)(hk:k<=k')(ha:SA X (e::es) fs)(hg:Gl X x:=by rfl)(yR:(x==("__debug__":Str))=false:=by decide)
  (he:starEach (e::es) X.env=(false,eval e X.env)::starEach es X.env:=by rfl) (qh:(backTo pos (starEach es X.env)).any (·.1)=false:=by rfl):SE X (.Call (.Name x p) (e::es) [] pos) (c8 n F fs):=⟨by
 intro pins s σ H Q I h
 obtain⟨f,fd,ps,hm,hkp,hn,hb,Fo⟩:=(Fn.mono hk).ex
 refine du (AE I hg hm ?_ yR)
 obtain⟨μ,ρ,st,l,h⟩:=h
 have h':QL X fs σ H fun vs H1=>∃μ1 st1 ws,Rl X μ1 ρ st1 σ H1/\RelWs X.K μ1 H1 ws vs/\RK X (q_ X) μ1 σ H1 Q (if ws.length=n then F ws st1 else .bad):=
  ⟨μ,ρ,st,l,RK.bind h l fun μ1 st1 x v H1 p1 x1 l1 q1 h1=>⟨μ1,st1,x,l1,q1,h1⟩⟩
 refine PySem.W.callWith_K (h₀:=X.base) I.ok.mod.kin hkp (f6 (ha.h pos pins s σ H _ I h') fun us s1 ⟨vs,H1,I1,r,μ1,st1,ws,l1,r1,q⟩=>⟨I1.kIn,?_⟩) he qh
 by_cases c:ws.length=n
 ·rw[ay c]at q
  exact Q7 Fo hn hr hb I1 l1.sto r1 r c q
 ·rw[aC c]at q;exact q.elim⟩
end
theorem vN{w:World}{st:Stmt}{N:List Str}{k:Nat}{g:FS}(F:jK K x qual st f fd)(S:bK N ps (aR st))(hn:ps.length=n)
  (tS:∀(ga:Value) (A:Around) (outer:List Env) (s:Shared) (H:Hp) (E:XK),fd.code=ga->gD k (A.deeper (envOfC qual (aR st) s.heap.objs.size f ga)) ->
   SB (zd (iU P w) P w K mg base N qual (aR st) f ga A outer s H E) (dU st) g):eQ P w K mg base (iU P w) (k+1) f fd ps (jN K mg n (d9 N.length g)):=by
 obtain⟨oc,od,kV,iM,pm,an,ga,ct,LW,rfl,lk,lD⟩:=F.ex
 refine Qc lk lD S (fun vs H Q E h=>by rw[hn];exact h.1) fun A outer s H vs Q E hr LM=>?_
 obtain⟨hl,μ,ws,Pj,Sr,r,h⟩:=LM
 refine⟨_,(tS ga A outer s H E rfl hr).h,μ,ws.map some++List.replicate (N.length-ws.length) none,Pj,⟨?_,Sr⟩,?_⟩
 ·unfold jr
  rw[<- r.len]
  have base:∀(ws:List W) (vs:List V) (m:Nat),RelWs K μ H ws vs->Paired (fun(o:Option W) (s:Option V)=>∀w,o=some w->∃v,s=some v/\bf K μ H w v) (ws.map some++List.replicate m none) (vs.map some++List.replicate m none):=by
   intro ws
   induction ws with
   |nil=>
    intro vs m r
    rw[r.nilE]
    induction m with
    |zero=>exact .nil
    |succ m ih=>exact .cons (fun w z=>nomatch z) ih
   |cons w ws ih=>
    intro vs m r
    obtain⟨y,ys,rfl,ry,rys⟩:=r.consE
    exact .cons (fun w' z=>⟨y,rfl,by cases z;exact ry⟩) (ih ys m rys)
  exact base ws vs _ r
 ·unfold d9 at h
  cases e:g (ws.map some++List.replicate (N.length-ws.length) none) Pj with
  |rt w bx=>
   rw[e]at h
   intro μ' v H' p x S' kP
   obtain⟨μ2,p2,S2,r2⟩:=iX Sr S' p (.consI kP .nilI)
   obtain⟨_,e2,r3⟩:=r2.one
   cases e2
   exact h μ2 v H' p2 x S2 r3
  |nx ρ' bx=>
   rw[e]at h
   intro μ' σ' H' p x l'
   obtain⟨μ2,p2,S2,_⟩:=iX (ws:=[]) (vs:=[]) Sr l'.sto p .nilI
   exact h μ2 .non H' p2 x S2 .non
  |ex c ρ' bx=>
   rw[e]at h
   intro pins μ' σ' H' ev s' p x l' fl
   obtain⟨μ2,p2,S2,_⟩:=iX (ws:=[]) (vs:=[]) Sr l'.sto p .nilI
   exact fl.leaves rfl rfl fl.inv.ok.frames rfl fun C hC=>h C μ2 H' hC p2 x S2
  |bk ρ' bx=>rw[e]at h;exact h.elim
  |ct ρ' bx=>rw[e]at h;exact h.elim
  |bad=>rw[e]at h;exact h.elim
theorem cV{w:World}{st:Stmt}{N:List Str}{k:Nat}{g:FS}(F:jK K x qual st f fd)(S:bK N ps (aR st))(hn:ps.length=n)
  (tS:∀(ga:Value) (A:Around) (outer:List Env) (s:Shared) (H:Hp) (E:XK),gD k (A.deeper (envOfC qual (aR st) s.heap.objs.size f ga)) ->
   SB (zd (iU P w) P w K mg base N qual (aR st) f ga A outer s H E) (dU st) g):eQ P w K mg base (iU P w) (k+1) f fd ps (jN K mg n (d9 N.length g)):=vN F S hn fun ga A outer s H E _ hr=>tS ga A outer s H E hr
theorem rE{w:World}{k:Nat}{st:Stmt}{ps:List Str}
  (F:jK K x x st f fd) (hm:mg x=some (.ref f)) (hn:ps.length=n)
  (hb:∀(kV iM pm:Value) (an:Option Addr) (ga ct:Value) (us:List Value),us.length=ps.length->bindArgs (fnOf x x (dS st) (dU st) (aR st) .none kV iM pm an ga ct) ⟨us,[]⟩=pure (ps.zip us))
  (ok:eQ P w K mg base (iU P w) k f fd ps (jN K mg n G)):dF P w K mg base k x n G:=⟨f,fd,ps,hm,F.kp,hn,F.binds hb,ok⟩
theorem RelWs.split:∀{as bs:List W} {vs:List V},RelWs K μ H (as++bs) vs->∃xs ys,vs=xs++ys/\RelWs K μ H as xs/\RelWs K μ H bs ys
 |[],_,vs,r=>⟨[],vs,rfl,.nilI,r⟩
 |w::as,bs,vs,r=>by
  obtain⟨x,xs,rfl,rx,rs⟩:=r.consE
  obtain⟨ys,zs,rfl,r1,r2⟩:=RelWs.split rs
  exact⟨x::ys,zs,rfl,.consI rx r1,r2⟩
section
variable{a b o:Expr}{fa fb fe fo:FE}{fs:FA}
structure IM(X:Cx)(id:String)(F:W->List W->List aj->R W):Prop where
 h:Cm X id (fun x vs H Q=>∃μ st wx ws,fY X.K X.mg μ st H/\bf X.K μ H wx x/\RelWs X.K μ H ws vs/\Dw X μ H Q (F wx ws st))
 n:∀x ws st,rd (F x ws st)
def qO(st:List aj):W->Bool
 |.loc n=>(match st[n]? with|some (.lst _)=>true|_=>false)
 |_=>false
def Er:W->Bool
 |.str _=>true
 |_=>false
theorem xP{st:List aj}{w:W}(S:fY X.K X.mg μ st H)(r:bf X.K μ H w v)(h:qO st w=true):∃l ys,v=.ref l/\H l=some (.lst ys):=by
 cases w with
 |loc n=>
  obtain⟨a,ha,rfl⟩:=r.locE
  simp only[qO]at h
  cases e1:st[n]? with
  |none=>rw[e1]at h;cases h
  |some cc=>
   rw[e1]at h
   cases cc with
   |lst ws=>obtain⟨a1,g1,vs,k1,_⟩:=S.get e1;rw[ha]at g1;cases g1;exact⟨_,vs,rfl,k1⟩
   |_=>cases h
 |_=>cases h
def n5(F:W->List W->List aj->R W)(fo:FE)(fs:FA):FE:=fun ρ st=>(fo ρ st).bind fun x st=>if qO st x then(fs ρ st).bind fun ws st=>F x ws st else .bad
def Ps(F:W->List W->List aj->R W)(fo:FE)(fs:FA):FE:=fun ρ st=>(fo ρ st).bind fun x st=>if Er x then(fs ρ st).bind fun ws st=>F x ws st else .bad
theorem CI{F:W->List W->List aj->R W}(slot:Slot "list" name id)(yW:typeOf (.builtin id)=pure (.type "method_descriptor"))(hm:IM X id F)(ho:SE X o fo)(ha:SA X (e::es) fs)
  (lR:attributeBase o name X.env (eval o X.env)=eval o X.env:=by rfl)
  (wK:((backTo dk (starEach (e::es) X.env)).all (fun x=>!x.1)&&(backToKw dk (keywordEach [] X.env)).all (fun x=>x.1.isSome)
   && decide ((e::es).length+([]:List Keyword).length+(if ([]:List Keyword).isEmpty then 0 else 1)<30))=true:=by rfl)
  (lQ:(fK.endLine==dk.line)=true:=by rfl) (hs:starEach (e::es) X.env=(false,eval e X.env)::starEach es X.env:=by rfl) (mn:(backTo dk (starEach es X.env)).any (·.1)=false:=by rfl) :
  SE X (.Call (.Attribute o name fK) (e::es) [] dk) (n5 F fo fs):=⟨(Qy slot yW hm.h ho.h ha.h lR wK lQ hs mn).imp fun σ H Q h=>by
 obtain⟨μ,ρ,st,l,h⟩:=h
 refine⟨μ,ρ,st,l,RK.bind h l fun μ1 st1 x v H1 p1 x1 l1 q1 h1=>?_⟩
 by_cases c:qO st1 x=true
 ·rw[ay c]at h1
  refine⟨xP l1.sto q1 c,μ1,ρ,st1,l1,RK.bind h1 l1 fun μ2 c7 ws vs H2 p2 x2 l2 q2 h2=>?_⟩
  exact⟨μ2,c7,x,ws,l2.sto,q1.mono p2 x2,q2,qw h2 (hm.n _ _ _)⟩
 ·rw[aC c]at h1;exact h1.elim⟩
theorem Q8{F:W->List W->List aj->R W}(slot:Slot "list" name id)(yW:typeOf (.builtin id)=pure (.type "method_descriptor"))(hm:IM X id F)(ho:SE X o fo)
  (lR:attributeBase o name X.env (eval o X.env)=eval o X.env:=by rfl) (lQ:(fK.endLine==dk.line)=true:=by rfl):SE X (.Call (.Attribute o name fK) [] [] dk) (n5 F fo az):=⟨(MV slot yW hm.h ho.h lR lQ).imp fun σ H Q h=>by
 obtain⟨μ,ρ,st,l,h⟩:=h
 refine⟨μ,ρ,st,l,RK.bind h l fun μ1 st1 x v H1 p1 x1 l1 q1 h1=>?_⟩
 by_cases c:qO st1 x=true
 ·rw[ay c]at h1
  exact⟨xP l1.sto q1 c,μ1,st1,x,[],l1.sto,q1,.nilI,qw h1 (hm.n _ _ _)⟩
 ·rw[aC c]at h1;exact h1.elim⟩
theorem Ub{F:W->List W->List aj->R W}(slot:Slot "str" name id)(yW:typeOf (.builtin id)=pure (.type "method_descriptor"))(hm:IM X id F)(ho:SE X o fo)(ha:SA X (e::es) fs)
  (lR:attributeBase o name X.env (eval o X.env)=eval o X.env:=by rfl)
  (wK:((backTo dk (starEach (e::es) X.env)).all (fun x=>!x.1)&&(backToKw dk (keywordEach [] X.env)).all (fun x=>x.1.isSome)
   && decide ((e::es).length+([]:List Keyword).length+(if ([]:List Keyword).isEmpty then 0 else 1)<30))=true:=by rfl)
  (lQ:(fK.endLine==dk.line)=true:=by rfl) (hs:starEach (e::es) X.env=(false,eval e X.env)::starEach es X.env:=by rfl) (mn:(backTo dk (starEach es X.env)).any (·.1)=false:=by rfl) :
  SE X (.Call (.Attribute o name fK) (e::es) [] dk) (Ps F fo fs):=⟨(Qz slot yW hm.h ho.h ha.h lR wK lQ hs mn).imp fun σ H Q h=>by
 obtain⟨μ,ρ,st,l,h⟩:=h
 refine⟨μ,ρ,st,l,RK.bind h l fun μ1 st1 x v H1 p1 x1 l1 q1 h1=>?_⟩
 cases x with
 |str z=>
  rw[ay (show Er (W.str z)=true from rfl)]at h1
  refine⟨⟨z,q1.strE⟩,μ1,ρ,st1,l1,RK.bind h1 l1 fun μ2 c7 ws vs H2 p2 x2 l2 q2 h2=>?_⟩
  exact⟨μ2,c7,_,ws,l2.sto,q1.mono p2 x2,q2,qw h2 (hm.n _ _ _)⟩
 |_=>exact h1.elim⟩
def cy(x:W)(ws:List W)(st:List aj):R W:=match x,ws with
 |.loc n,[y]=>(match st[n]? with
  |some (.lst zs)=>if zs.length<jF then .ok .non (st.set n (.lst (zs++[y])))else .bad
  |_=>.bad)
 |_,_=>.bad
theorem nN:IM X "list.append" cy:=⟨fun pins s σ H x vs v us Q I rv rus ⟨μ,st,wx,ws,S,rx,rs,q⟩=>by
 unfold cy at q
 split at q
 ·rename_i n y
  obtain⟨y1,rfl,ry⟩:=rs.one
  split at q
  ·rename_i zs e1
   split at q
   ·rename_i c
    obtain⟨a1,g1,vs,k1,r⟩:=S.get e1
    obtain⟨b1,f1,rfl⟩:=rx.locE
    rw[g1]at f1;cases f1
    refine zn pins s σ H _ _ v us Q I rv rus ⟨a1,vs,y1,rfl,rfl,k1,by rw[<- r.len];exact M4 (d_ c),fun H2 e=>?_⟩
    subst e
    exact q μ _ _ (af _) (fy.but fL k1) (S.set e1 g1 k1 (r.app (.consI ry .nilI))) .non
   ·exact q.elim
  ·exact q.elim
 ·exact q.elim,fun x ws st=>by
 unfold cy
 repeat' split
 all_goals trivial⟩
def vO(x:W)(ws:List W)(st:List aj):R W:=match x,ws with
 |.loc n,[]=>(match st[n]? with
  |some (.lst zs)=>ou zs.getLast? fun w=>.ok w (st.set n (.lst zs.dropLast))
  |_=>.bad)
 |_,_=>.bad
theorem Nh:IM X "list.pop" vO:=⟨fun pins s σ H x vs v us Q I rv rus ⟨μ,st,wx,ws,S,rx,rs,q⟩=>by
 unfold vO at q
 split at q
 ·rename_i n
  have e0:=rs.nilE
  subst e0
  split at q
  ·rename_i zs e1
   obtain⟨a1,g1,vs,k1,r⟩:=S.get e1
   obtain⟨b1,f1,rfl⟩:=rx.locE
   rw[g1]at f1;cases f1
   cases hl:zs.getLast? with
   |none=>rw[hl]at q;exact q.elim
   |some w=>
    rw[hl]at q
    have hz:zs=zs.dropLast++[w]:=by
     obtain⟨ys,rfl⟩:=List.getLast?_eq_some_iff.mp hl
     simp
    rw[hz]at r
    obtain⟨xs',Su,hx,r1,r3⟩:=r.split
    obtain⟨y',rfl,r2⟩:=r3.one
    refine Iy pins s σ H _ _ v us Q I rv rus ⟨a1,xs',y',rfl,rfl,by rw[<- hx];exact k1,fun H2 e=>?_⟩
    subst e
    have xx:dD X.K H (eL H a1 (.lst xs')):=fy.but fL k1
    exact q μ _ _ (af _) xx (S.set e1 g1 k1 r1) (r2.mono (af _) xx)
  ·exact q.elim
 ·exact q.elim,fun x ws st=>by
 unfold vO ou
 repeat' split
 all_goals trivial⟩
def pL(x:W)(ws:List W)(st:List aj):R W:=match x,ws with
 |.loc n,[.loc m]=>(match st[n]?,st[m]? with
  |some (.lst zs),some (.lst ys)=>if zs.length+ys.length<=jF then .ok .non (st.set n (.lst (zs++ys)))else .bad
  |_,_=>.bad)
 |_,_=>.bad
theorem uQ:IM X "list.extend" pL:=⟨fun pins s σ H x vs v us Q I rv rus ⟨μ,st,wx,ws,S,rx,rs,q⟩=>by
 unfold pL at q
 split at q
 ·rename_i n m
  obtain⟨y1,rfl,ry⟩:=rs.one
  split at q
  ·rename_i zs ys e1 e2
   split at q
   ·rename_i c
    obtain⟨a1,g1,vs1,k1,r1⟩:=S.get e1
    obtain⟨a2,g2,vs2,k2,r2⟩:=S.get e2
    obtain⟨b1,f1,rfl⟩:=rx.locE
    obtain⟨b2,f2,rfl⟩:=ry.locE
    rw[g1]at f1;cases f1
    rw[g2]at f2;cases f2
    refine Co pins s σ H _ _ v us Q I rv rus ⟨a1,a2,vs1,vs2,rfl,rfl,k1,k2,by rw[<- r1.len,<- r2.len];exact iI c,?_⟩
    exact q μ _ _ (af _) (fy.but fL k1) (S.set e1 g1 k1 (r1.app r2)) .non
   ·exact q.elim
  ·exact q.elim
 ·exact q.elim,fun x ws st=>by
 unfold pL
 repeat' split
 all_goals trivial⟩
def mQ:List W->Option (List (List Nat))
 |[]=>some []
 |.str l::ws=>(mQ ws).map (l :: ·)
 |_=>none
theorem sD:∀{ws:List W} {ls:List (List Nat)} {vs:List V},mQ ws=some ls->RelWs K μ H ws vs->vs=ls.map fun l=>V.str (tx l)
 |[],ls,vs,h,r=>by simp only[mQ]at h;cases h;exact r.nilE
 |w::ws,ls,vs,h,r=>by
  obtain⟨x,xs,rfl,rx,rs⟩:=r.consE
  cases w with
  |str l=>
   simp only[mQ]at h
   cases e:mQ ws with
   |none=>rw[e]at h;cases h
   |some ls'=>rw[e]at h;cases h;rw[rx.strE,sD e rs];rfl
  |_=>simp only[mQ]at h;cases h
theorem uR(ls:List (List Nat)):mQ (ls.map W.str)=some ls:=by
 induction ls with
 |nil=>rfl
 |cons a r ih=>show(mQ (r.map W.str)).map (a :: ·)=_;rw[ih];rfl
def qP(x:W)(ws:List W)(st:List aj):R W:=match x,ws with
 |.str sep,[.loc n]=>ou (lstOf st n) fun zs=>ou (mQ zs) fun ls=>if (ls.map List.length).sum+ls.length*sep.length<=jF then .ok (.str (nu sep ls)) st else .bad
 |_,_=>.bad
theorem IN:IM X "str.join" qP:=⟨fun pins s σ H x vs v us Q I rv rus ⟨μ,st,wx,ws,S,rx,rs,q⟩=>by
 unfold qP at q
 split at q
 ·rename_i sep n
  obtain⟨y1,rfl,ry⟩:=rs.one
  cases e1:lstOf st n with
  |none=>rw[e1]at q;exact q.elim
  |some zs=>
   rw[e1,cw]at q
   cases e2:mQ zs with
   |none=>rw[e2]at q;exact q.elim
   |some ls=>
    rw[e2,cw]at q
    split at q
    ·rename_i c
     obtain⟨a,vs,g,hS,r⟩:=S.lstOf e1
     obtain⟨b1,f1,rfl⟩:=ry.locE
     rw[g]at f1;cases f1
     have:=sD e2 r
     subst this
     exact Ir pins s σ H _ _ v us Q I rv rus ⟨sep,_,ls,rx.strE,rfl,hS,bu c (by decide),pJ S q⟩
    ·exact q.elim
 ·exact q.elim,fun x ws st=>by
 unfold qP
 split
 ·exact oz fun _=>oz fun _=>by split<;>trivial
 ·trivial⟩
end
def pM(cap:List (Option Nat))(ρ:cu):cu:=cap.map fun o=>o.bind fun j=>(ρ[j]?).join
theorem Q9{ρ:cu}(r:Paired (fun(o:Option W) (s:Option V)=>∀w,o=some w->∃v,s=some v/\bf X.K μ H w v) ρ σ):∀cap:List (Option Nat),
  Paired (fun(o:Option W) (s:Option V)=>∀w,o=some w->∃v,s=some v/\bf X.K μ H w v) (pM cap ρ) (oo cap σ)
 |[]=>.nil
 |o::cap=>by
  refine .cons (fun w e=>?_) (Q9 r cap)
  cases o with
  |none=>cases e
  |some j=>
   have e':(ρ[j]?).join=some w:=e
   have e2:ρ[j]?=some (some w):=by
    cases h:ρ[j]? with
    |none=>rw[h]at e';cases e'
    |some ow=>rw[h]at e';simp at e';rw[e']
   obtain⟨v,g1,g2⟩:=lF r e2
   exact⟨v,by show(σ[j]?).join=some v;rw[g1];rfl,g2⟩
open Classical in
def mR(f:FG)(t:FT)(el:FE)(ck:Option (Nat×List W))(ρ0:cu):List W->List W->List aj->R (List W)
 |[],acc,st=>if iB st ck then .ok acc st else .bad
 |w::ws,acc,st=>if iB st ck then(match f w ρ0 with
  |none=>.bad
  |some ρ'=>(match t ρ' st with
   |.ok true st1=>(match el ρ' st1 with
    |.ok y c7=>mR f t el ck ρ0 ws (acc++[y]) c7
    |_=>.bad)
   |.ok false st1=>mR f t el ck ρ0 ws acc st1
   |_=>.bad))else .bad
def c_(cap:List (Option Nat))(fi:FI)(f:FG)(t:FT)(el:FE):FE:=fun ρ st=>(fi ρ st).bind fun k st=>if k.1.length<=jF then(mR f t el k.2 (pM cap ρ) k.1 [] st).bind fun ys st=>mN ys st else .bad
def Th(X:Cx)(i9:List Addr->Hp->α->β->Prop)(f:cu->List aj->R α)(σ:St)(H:Hp)(Q:β->Hp->Prop):Prop:=
 ∃μ ρ st a bx,Rl X μ ρ st σ H/\f ρ st=.ok a bx/\∀μ' b H',μ <+: μ'->dD X.K H H'->fY X.K X.mg μ' bx H'->i9 μ' H' a b->Q b H'
def gR:FT:=fun _ st=>.ok true st
structure Kq(X:Cx)(es:List Expr)(f:FT):Prop where
 h:HB X es (tT X f)
theorem HB.imp{e:List Expr}{t t':TT}(h:HB X e t)(i:∀σ H Q,t' σ H Q->t σ H Q):HB X e t':=fun pins s σ H Q I q=>h pins s σ H Q I (i _ _ _ q)
theorem iV:Kq X [] gR:=⟨Io.imp fun σ H Q h=>by
 obtain⟨μ,ρ,st,l,h⟩:=h
 exact h μ true H (af _) dD.refl l.sto rfl⟩
theorem IP{t:FT}(hc:ST X c t):Kq X [c] t:=⟨Ip hc.h⟩
theorem zB{fi:FI}{f:FG}{t:FT}{el:FE}{Q:VK}(h:tE X (c_ cap fi f t el) σ H Q) :
  r_ cap (fun σ H R=>tG X (Q6 X) fi σ H R) (Q4 X f) (Th X M5 t) (Th X (q_ X) el) σ H Q:=by
 obtain⟨μ,ρ,st,l,h⟩:=h
 refine⟨μ,ρ,st,l,RK.bind h l fun μ1 st1 k J H1 p1 x1 l1 wk h1=>?_⟩
 by_cases hz:k.1.length<=jF
 ·rw[ay hz]at h1
  refine⟨fun i m ys H'=>i<=k.1.length/\m=k.1.length-i/\ys.length<=i/\∃μ' acc bx,μ1 <+: μ'/\dD X.K H1 H'/\Rl X μ' ρ bx σ H'/\RelWs X.K μ' H' acc ys/\RK X (q_ X) μ' σ H' Q ((mR f t el k.2 (pM cap ρ) (k.1.drop i) acc bx).bind fun ys st=>mN ys st),
   ⟨_,dB _,rfl,aw _,μ1,[],st1,af _,dD.refl,l1,.nilI,h1⟩,?_⟩
  rintro i m ys H' ⟨hi,rfl,hy,μ',acc,bx,pm,xm,lm,ra,hm⟩
  by_cases hlt:i<k.1.length
  ·rw[fC hlt]at hm
   unfold mR at hm
   by_cases ck:iB bx k.2
   ·rw[ay ck]at hm
    obtain⟨go,yld⟩:=(wk i μ' bx H' pm xm lm.sto ck).1 _ (ac hlt)
    refine .inr ⟨go,fun x H2 hy2=>?_⟩
    obtain⟨y1,y2,y3⟩:=yld x H2 hy2
    cases hf:f k.1[i] (pM cap ρ)with
    |none=>rw[hf]at hm;exact hm.elim
    |some ρ2=>
     rw[hf]at hm
     simp only at hm
     have lb:Rl X μ' (pM cap ρ) bx (oo cap σ) H2:=⟨Q9 (lm.to (af _) y1 y2).env cap,y2⟩
     refine⟨μ',pM cap ρ,bx,k.1[i],ρ2,lb,y3,hf,fun σ2 l2=>?_⟩
     cases ht:t ρ2 bx with
     |bad=>rw[ht]at hm;exact hm.elim
     |ex c s=>rw[ht]at hm;exact hm.elim
     |ok kk c7=>
      rw[ht]at hm
      refine⟨μ',ρ2,bx,kk,c7,l2,ht,fun μ3 b3 H3 p3 x3 S3 q3=>?_⟩
      cases q3
      cases kk with
      |false=>
       exact⟨_,by omega,hlt,rfl,by omega,μ3,acc,c7,pm.trans p3,xm.trans (y1.trans x3),lm.to p3 (y1.trans x3) S3,ra.mono p3 (y1.trans x3),RK.mono hm p3 (y1.trans x3)⟩
      |true=>
       rw[ay rfl]
       simp only at hm
       cases he:el ρ2 c7 with
       |bad=>rw[he]at hm;exact hm.elim
       |ex c s=>rw[he]at hm;exact hm.elim
       |ok w jd=>
        rw[he]at hm
        refine⟨μ3,ρ2,c7,w,jd,l2.to p3 x3 S3,he,fun μ4 b4 H4 p4 x4 S4 q4=>?_⟩
        have pp:=p3.trans p4
        have xx:=y1.trans (x3.trans x4)
        exact⟨j7 hy (aY hlt (iI hz)),_,by omega,hlt,rfl,by simp;omega,μ4,acc++[w],jd,pm.trans pp,xm.trans xx,lm.to pp xx S4,(ra.mono pp xx).app (.consI q4 .nilI),RK.mono hm pp xx⟩
   ·rw[aC ck]at hm;exact hm.elim
  ·have hi':i=k.1.length:=by omega
   subst hi'
   rw[mG (aw _)]at hm
   unfold mR at hm
   by_cases ck:iB bx k.2
   ·rw[ay ck]at hm
    obtain⟨z1,z2⟩:=sk lm.sto ra hm
    exact .inl ⟨(wk _ μ' bx H' pm xm lm.sto ck).2 (aw _),z1,fun p hp=>z2 p _ hp rfl⟩
   ·rw[aC ck]at hm;exact hm.elim
 ·rw[aC hz]at h1;exact h1.elim
section
variable{fi:FI}{f:FG}{t:FT}{el:FE}
theorem Uc{X X':Cx}{f:FE}(hK:X'.K=X.K)(hm:X'.mg=X.mg)(h:SE X' e f):QE X' e (Th X (q_ X) f):=⟨h.h.imp fun σ H Q ⟨μ,ρ,st,a,bx,l,e,q⟩=>⟨μ,ρ,st,⟨by rw[hK];exact l.env,by rw[hK,hm];exact l.sto⟩,by rw[e];exact fun μ' b H' p x S r=>q μ' b H' p (by rw[<- hK];exact x) (by rw[<- hK,<- hm];exact S) (by show bf X.K μ' H' a b;rw[<- hK];exact r)⟩⟩
theorem Ud{X X':Cx}{e:List Expr}{f:FT}(hK:X'.K=X.K)(hm:X'.mg=X.mg)(h:Kq X' e f):Te X' e (Th X M5 f):=⟨h.h.imp fun σ H Q ⟨μ,ρ,st,a,bx,l,e,q⟩=>⟨μ,ρ,st,⟨by rw[hK];exact l.env,by rw[hK,hm];exact l.sto⟩,by rw[e];exact fun μ' b H' p x S r=>q μ' b H' p (by rw[<- hK];exact x) (by rw[<- hK,<- hm];exact S) r⟩⟩
theorem Ue{X X':Cx}(hK:X'.K=X.K)(hm:X'.mg=X.mg)(h:SG X' e f):QG X' e (Q4 X f):=⟨h.h.imp fun v σ H Q ⟨μ,ρ,st,w,ρ',l,r,e,q⟩=>⟨μ,ρ,st,w,ρ',⟨by rw[hK];exact l.env,by rw[hK,hm];exact l.sto⟩,by rw[hK];exact r,e,fun σ' l'=>q σ' ⟨by rw[<- hK];exact l'.env,by rw[<- hK,<- hm];exact l'.sto⟩⟩⟩
theorem oV(hB:sg X.env.scope.names scope.names nm cap X.N=true)(fJ:X.env.cells=cellsFrom m X.env.scope.names [])(hi:SI X tg iter fi)(hg:∀cl C s0 H0 fp,SG (bH X nm scope cl C s0 H0 fp) tg f)(ht:∀cl C s0 H0 fp,Kq (bH X nm scope cl C s0 H0 fp) kC t)
  (he:∀cl C s0 H0 fp,SE (bH X nm scope cl C s0 H0 fp) mv el) (gv:X.calm=true:=by rfl) (f':scope.kind=.function:=by rfl) (hs:∀x,foldedSetIterable iter X.env x=pure x:=by intro _;rfl) :
  SE X (.ListComp mv [⟨tg,iter,kC,0⟩] scope pos) (c_ cap fi f t el):=
 ⟨(MX gv fJ f' hB ⟨hi.h⟩ (fun cl C s0 H0 fp=>Ue (X:=X) rfl rfl (hg cl C s0 H0 fp)) (fun cl C s0 H0 fp=>Ud (X:=X) rfl rfl (ht cl C s0 H0 fp)) (fun cl C s0 H0 fp=>Uc (X:=X) rfl rfl (he cl C s0 H0 fp)) hs).h.imp fun _ _ _ h=>zB h⟩
theorem oW{x0:Str}{p0 p1:Pos}(OW:SG X (.Name x0 p0) (eB i))(hB:sg X.env.scope.names scope.names nm cap X.N=true)(fJ:X.env.cells=cellsFrom m X.env.scope.names [])(hi:SI X tg iter fi)(hg:∀cl C s0 H0 fp,SG (bH X nm scope cl C s0 H0 fp) tg f)(ht:∀cl C s0 H0 fp,Kq (bH X nm scope cl C s0 H0 fp) kC t)
  (he:∀cl C s0 H0 fp,SE (bH X nm scope cl C s0 H0 fp) mv el) (gv:X.calm=true:=by rfl) (f':scope.kind=.function:=by rfl) (hs:∀x,foldedSetIterable iter X.env x=pure x:=by intro _;rfl)
  (O':swapsWith (.ListComp mv [⟨tg,iter,kC,0⟩] scope pos) (some (.Name x0 p0)) p1.line X.env=pure true:=by first|rfl|kernel_rfl) :
  SS X (.Assign [.Name x0 p0] (.ListComp mv [⟨tg,iter,kC,0⟩] scope pos) p1) (ug (c_ cap fi f t el) (eB i)):=
 ⟨(zq ⟨OW.h⟩ gv fJ f' hB ⟨hi.h⟩ (fun cl C s0 H0 fp=>Ue (X:=X) rfl rfl (hg cl C s0 H0 fp)) (fun cl C s0 H0 fp=>Ud (X:=X) rfl rfl (ht cl C s0 H0 fp)) (fun cl C s0 H0 fp=>Uc (X:=X) rfl rfl (he cl C s0 H0 fp)) hs O').h.imp fun D σ H h=>by
  obtain⟨μ,ρ,st,l,h⟩:=h
  have h':tE X (c_ cap fi f t el) σ H fun x H1=>Q4 X (eB i) x σ H1 D.nx:=⟨μ,ρ,st,l,RK.stmt h l fun μ1 st1 x v H1 p1 x1 l1 q1 h1=>⟨μ1,ρ,st1,x,ρ.set i (some x),l1,q1,rfl,fun σ' l'=>h1 μ1 σ' H1 (af _) dD.refl l'⟩⟩
  exact zB h'⟩
end
section
variable{a b o:Expr}{fa fb fc fe fo:FE}{fs:FA}
theorem uS{mq:List V}(hr:∀μ H,RelWs X.K μ H ws mq):zA X (Td mq) (ws,none) μ H:=fun i μ' bx H' pp xx S _=>by
 have hl:ws.length=mq.length:=(hr μ H).len
 refine⟨fun w hw=>?_,fun h=>by show mq.length<=i;rw[<- hl];exact h⟩
 obtain⟨v,g1,g2⟩:=(hr μ' H').get hw
 refine⟨(aa.mp g1).1,fun y H'' hy=>?_⟩
 obtain⟨rfl,hy⟩:=hy
 rw[g1]at hy;cases hy
 exact⟨dD.refl,S,g2⟩
def l_(l:List Nat):List W:=l.map fun c=>.str [c]
theorem CJ(l:List Nat)(μ:List Addr)(H:Hp):RelWs X.K μ H (l_ l) (oQ l):=by
 induction l with
 |nil=>exact .nilI
 |cons a r ih=>exact .consI .str ih
def Kr(fe:FE):FI:=fun ρ st=>(fe ρ st).bind fun x st=>match x with
 |.str l=>.ok (l_ l,none) st
 |_=>.bad
theorem Ni(he:SE X e fe):SI X tg e (Kr fe):=⟨(MS he.h).imp fun σ H R h=>by
 obtain⟨μ,ρ,st,l,h⟩:=h
 refine⟨μ,ρ,st,l,RK.bind h l fun μ1 st1 x v H1 p1 x1 l1 q1 h1=>?_⟩
 cases x with
 |str z=>exact⟨z,q1.strE,h1 μ1 _ H1 (af _) dD.refl l1.sto (uS (CJ z))⟩
 |_=>exact h1.elim⟩
def cx(fe:FE):FI:=fun ρ st=>(fe ρ st).bind fun x st=>match x with
 |.tup ws=>.ok (ws,none) st
 |.loc n=>(match lstOf st n with
  |some ws=>.ok (ws,some (n,ws)) st
  |none=>.bad)
 |.str l=>.ok (l_ l,none) st
 |_=>.bad
theorem ma(he:SE X e fe):SI X tg e (cx fe):=⟨fun pins s σ H Rr I h=>by
 obtain⟨μ,ρ,st,l,h⟩:=h
 cases e1:fe ρ st with
 |bad=>simp only[cx,e1,R.bind_bad]at h;exact h.elim
 |ex c st1=>
  refine(Ep (tg:=tg) he).h pins s σ H Rr I ⟨μ,ρ,st,l,?_⟩
  simp only[cx,Eo,e1,R.bind_ex]at h ⊢;exact h
 |ok w st1=>
  cases w with
  |tup ws=>
   refine(Ep (tg:=tg) he).h pins s σ H Rr I ⟨μ,ρ,st,l,?_⟩
   simp only[cx,Eo,e1,R.bind_ok]at h ⊢;exact h
  |loc n=>
   refine(Ng (tg:=tg) he).h pins s σ H Rr I ⟨μ,ρ,st,l,?_⟩
   simp only[cx,Ko,e1,R.bind_ok]at h ⊢;exact h
  |str z=>
   refine(Ni (tg:=tg) he).h pins s σ H Rr I ⟨μ,ρ,st,l,?_⟩
   simp only[cx,Kr,e1,R.bind_ok]at h ⊢;exact h
  |_=>simp only[cx,e1,R.bind_ok]at h;exact h.elim⟩
def sE(ws:List W):List W:=(List.range ws.length).map fun(i:Nat)=>W.tup [.int i,ws.getD i .non]
theorem uT{w:W}(h:(sE ws)[i]?=some w):∃y,ws[i]?=some y/\w=.tup [.int i,y]:=by
 unfold sE at h
 rw[ak]at h
 by_cases hi:i<ws.length
 ·rw[dO hi]at h
  refine⟨ws[i],ac hi,?_⟩
  have:=(a7 h).symm
  rw[this]
  show W.tup [W.int i,ws.getD i W.non]=_
  rw[aE,ac hi];rfl
 ·rw[gq (by simpa using hi)]at h;cases h
theorem CK(ws:List W):(sE ws).length=ws.length:=by simp[sE]
def vP(fs:FA):FI:=fun ρ st=>(fs ρ st).bind fun ws st=>match ws with
 |[.tup zs]=>.ok (sE zs,none) st
 |_=>.bad
theorem IQ{Hh:List Expr}{kk:Nat}{tp:Pos}(hm:X.mg "enumerate"=none)(ha:SA X [a] fs)(hg:Gl X "enumerate":=by rfl)(hs:starEach [a] X.env=[(false,eval a X.env)]:=by rfl) :
  SI X (.Tuple Hh kk tp) (.Call (.Name "enumerate" p) [a] [] pos) (vP fs):=⟨(D_ hm ⟨ha.h⟩ hg hs).h.imp fun σ H R h=>by
 obtain⟨μ,ρ,st,l,h⟩:=h
 refine⟨μ,ρ,st,l,RK.bind h l fun μ1 st1 x v H1 p1 x1 l1 q1 h1=>?_⟩
 split at h1
 ·rename_i zs
  obtain⟨y,rfl,ry⟩:=q1.one
  obtain⟨p,vs,rfl,hS,r⟩:=ry.tupE
  refine⟨p,rfl,⟨vs,hS⟩,h1 μ1 _ H1 (af _) dD.refl l1.sto fun i μ' bx H' pp xx S _=>⟨fun w hw=>?_,fun hl=>⟨vs,xx _ _ hS,by rw[CK]at hl;rw[<- r.len];exact hl⟩⟩⟩
  obtain⟨y,hy,rfl⟩:=uT hw
  have r':=r.mono pp xx
  obtain⟨v,g1,g2⟩:=r'.get hy
  refine⟨⟨vs,v,xx _ _ hS,g1⟩,fun z H'' hz=>?_⟩
  obtain⟨q,hq,rfl,hH⟩:=hz
  have e:=hH vs v (xx _ _ hS) g1
  subst e
  have ex:=fy.same (K:=X.K) (cD hq (.tup [.int i,v]))
  exact⟨ex,S.same (cD hq _),.tupI fy.new (.consI .int (.consI (g2.mono (af _) ex) .nilI))⟩
 ·exact h1.elim⟩
def Es(fa:FE):FE:=fun ρ st=>(fa ρ st).bind fun x st=>match x with
 |.int i=>.ok (.int (-i)) st
 |_=>.bad
theorem Q_(ha:SE X a fa):SE X (.UnaryOp .USub a pos) (Es fa):=⟨(P8 MF ha.h).imp fun σ H Q h=>by
 obtain⟨μ,ρ,st,l,h⟩:=h
 refine⟨μ,ρ,st,l,RK.bind h l fun μ1 st1 x v H1 p1 x1 l1 q1 h1=>?_⟩
 cases x with
 |int k=>exact⟨k,q1.intE,h1 μ1 _ H1 (af _) dD.refl l1.sto .int⟩
 |_=>exact h1.elim⟩
def Uf(x y:W)(st:List aj):R W:=match x,y with
 |.int i,.int j=>.ok (.bl (decide (i<=j))) st
 |.str [c],.str [d]=>.ok (.bl (decide (c<=d))) st
 |_,_=>.bad
end
theorem zC:∀{l m:List Nat},l.Pairwise (· < ·)->m.Pairwise (· < ·)->(∀x,x∈l↔x∈m)->l=m
 |[],[],_,_,_=>rfl
 |[],b::m,_,_,h=>by have:=(h b).mpr (by simp);simp at this
 |a::l,[],_,_,h=>by have:=(h a).mp (by simp);simp at this
 |a::l,b::m,h1,h2,h=>by
  obtain⟨p1,p2⟩:=cA.mp h1
  obtain⟨q1,q2⟩:=cA.mp h2
  have e:a=b:=by
   rcases aI.mp ((h a).mp (by simp))with z|z
   ·exact z
   ·rcases aI.mp ((h b).mpr (by simp))with y|y
    ·exact y.symm
    ·have:=p1 b y;have:=q1 a z;omega
  subst e
  rw[zC p2 q2 fun x=>?_]
  constructor
  ·intro hx
   rcases aI.mp ((h x).mp (aA _ hx))with z|z
   ·subst z;exact absurd (p1 x hx) (bD _)
   ·exact z
  ·intro hx
   rcases aI.mp ((h x).mpr (aA _ hx))with z|z
   ·subst z;exact absurd (q1 x hx) (bD _)
   ·exact z
def zD(c:List Nat):List (List Nat)->List (List Nat)
 |[]=>[c]
 |d::r=>if c<d then c::d::r else d::zD c r
def iC(l:List (List Nat)):List (List Nat):=l.foldr zD []
theorem qB(c:List Nat):∀l:List (List Nat),(zD c l).Perm (c::l)
 |[]=>kg _
 |d::r=>by
  unfold zD
  split
  ·exact kg _
  ·exact((qB c r).cons d).trans (List.Perm.swap c d r)
theorem gZ(l:List (List Nat)):(iC l).Perm l:=by
 induction l with
 |nil=>exact kg _
 |cons a r ih=>exact(qB a _).trans (ih.cons a)
def IR:List (List Nat)->Prop:=List.Pairwise fun a b=>¬ b<a
theorem A4(c:List Nat):∀{l:List (List Nat)},IR l->IR (zD c l)
 |[],_=>by simp[zD,IR]
 |d::r,h=>by
  obtain⟨h1,h2⟩:=cA.mp h
  unfold zD
  split
  ·rename_i hc
   refine cA.mpr ⟨fun x hx=>?_,h⟩
   rcases aI.mp hx with rfl|hx
   ·exact fun z=>List.lt_irrefl _ (List.lt_trans z hc)
   ·exact fun z=>h1 x hx (List.lt_trans z hc)
  ·rename_i hc
   refine cA.mpr ⟨fun x hx=>?_,A4 c h2⟩
   rcases aI.mp ((qB c r).mem_iff.mp hx)with rfl|hx
   ·exact hc
   ·exact h1 x hx
theorem xQ(l:List (List Nat)):IR (iC l):=by
 induction l with
 |nil=>exact List.Pairwise.nil
 |cons a r ih=>exact A4 a ih
theorem vQ:∀{l m:List (List Nat)},IR l->IR m->l.Perm m->l=m
 |[],m,_,_,h=>(List.Perm.nil_eq h)
 |a::l,[],_,_,h=>(by have:=h.length_eq;simp at this)
 |a::l,b::m,h1,h2,h=>by
  obtain⟨p1,p2⟩:=cA.mp h1
  obtain⟨q1,q2⟩:=cA.mp h2
  have e:a=b:=by
   rcases aI.mp (h.mem_iff.mp (by simp:a∈a::l))with z|z
   ·exact z
   ·rcases aI.mp (h.mem_iff.mpr (by simp:b∈b::m))with y|y
    ·exact y.symm
    ·exact List.le_antisymm (show a<=b from p1 b y) (show b<=a from q1 a z)
  subst e
  rw[vQ p2 q2 (List.perm_cons a |>.mp h)]
theorem sF:∀{zs:List (List Nat)},sortedS (zs.map tx)=true->IR zs:=by
 have key:∀(zs:List (List Nat)) (p:List Nat),risingS (tx p) (zs.map tx)=true->IR (p::zs):=by
  intro zs
  induction zs with
  |nil=>intro p _;simp[IR]
  |cons a r ih=>
   intro p h
   have h':(!ltCps a p&&risingS (tx a) (r.map tx))=true:=h
   rw[bh,gA,ltCps_eq,decide_eq_false_iff_not]at h'
   have u:=ih a h'.2
   refine cA.mpr ⟨fun x hx=>?_,u⟩
   rcases aI.mp hx with rfl|hx
   ·exact h'.1
   ·have:=(cA.mp u).1 x hx
    exact List.not_lt.mpr (List.le_trans (List.not_lt.mp h'.1) (List.not_lt.mp this))
 intro zs h
 cases zs with
 |nil=>exact List.Pairwise.nil
 |cons a r=>exact key r a h
section
variable{a b o:Expr}{fa fb fc fe fo:FE}{fs:FA}
def nO(ws:List W)(st:List aj):R W:=match ws with
 |[.loc n]=>ou (lstOf st n) fun zs=>ou (mQ zs) fun ls=>if ls.length<64 then .ok (.loc st.length) (st++[.lst ((iC ls).map W.str)])else .bad
 |_=>.bad
theorem xR(ls:List (List Nat)):RelWs K μ H (ls.map W.str) (ls.map fun l=>V.str (tx l)):=by
 induction ls with
 |nil=>exact .nilI
 |cons a r ih=>exact .consI .str ih
theorem xS:lG X (.builtin "sorted") nO:=⟨fun pins s σ H vs us Q I rv ⟨μ,st,ws,S,r,q⟩=>by
 unfold nO at q
 split at q
 ·rename_i n
  obtain⟨y,rfl,ry⟩:=r.one
  cases e1:lstOf st n with
  |none=>rw[e1]at q;exact q.elim
  |some zs=>
   rw[e1,cw]at q
   cases e2:mQ zs with
   |none=>rw[e2]at q;exact q.elim
   |some ls=>
    rw[e2,cw]at q
    split at q
    ·rename_i c
     obtain⟨a,vs,g,hS,rz⟩:=S.lstOf e1
     obtain⟨b1,f1,rfl⟩:=ry.locE
     rw[g]at f1;cases f1
     have:=sD e2 rz
     subst this
     refine t_.h pins s σ H _ us Q I rv ⟨_,ls,rfl,hS,c,fun zs hp hs l H2 hl eH=>?_⟩
     subst eH
     have ez:zs=iC ls:=vQ (sF hs) (xQ ls) (hp.trans (gZ ls).symm)
     subst ez
     exact q (μ++[l]) _ _ (ao _ _) (fy.same (cD hl _)) (S.newLst hl (xR _)) (nv S)
    ·exact q.elim
 ·exact q.elim,fun ws st=>by
 unfold nO
 split
 ·exact oz fun _=>oz fun _=>by split<;>trivial
 ·trivial⟩
theorem lh{m l:List Nat}(hm:m.Nodup)(h:∀c∈m,c∈l):m.length<=l.length:=by
 induction m generalizing l with
 |nil=>exact dB _
 |cons a r ih=>
  obtain⟨h1,h2⟩:=bF.mp hm
  have ha:a∈l:=h a (by simp)
  have:=ih h2 (l:=l.erase a) fun c hc=>by
   have:c≠a:=fun z=>h1 (z▸hc)
   exact(List.mem_erase_of_ne this).mpr (h c (aA _ hc))
  rw[List.length_erase_of_mem ha]at this
  have:0<l.length:=mJ ha
  simp;omega
end
def W.ty:W->Option String
 |.non=>some "NoneType" | .bl _=>some "bool" | .int _=>some "int" | .str _=>some "str" | .tup _=>some "tuple" | .loc _=>none
def IS(t T:String):Bool:=(t==T)||(t == "bool" && T == "int")
theorem Ra{K:Frag}{T:String}(h:D8 T){w:W}{t:String}(hw:w.ty=some t):PySem.W.kitOne K (.type t) (.type T)=some (IS t T):=by
 cases w<;>simp only[W.ty]at hw<;>cases hw<;>(rcases h with rfl|rfl|rfl|rfl<;>rfl)
def jg(T:String)(fa:FE):FE:=fun ρ st=>(fa ρ st).bind fun x st=>match x.ty with
 |some t=>.ok (.bl (IS t T)) st
 |none=>.bad
section
variable{a b o:Expr}{fa fb fc fe fo:FE}{fs:FA}
theorem qQ{T:String}{xT:Str}(hm:X.mg "isinstance"=none)(hT:X.mg xT=none)(hv:bootBuiltins xT=some (.type T))(ha:SE X a fa)(hk:D8 T:=by first|exact .inl rfl|exact .inr (.inl rfl)|exact .inr (.inr (.inl rfl))|exact .inr (.inr (.inr rfl)))
  (hg:Gl X "isinstance":=by rfl) (Ve:Gl X xT:=by rfl) (hn:xT ≠ "__name__":=by decide) (hd:(xT==("__debug__":Str))=false:=by decide)
  (he:starEach [a,.Name xT p2] X.env=(false,eval a X.env)::starEach [.Name xT p2] X.env:=by rfl) (Ut:starEach [.Name xT p2] X.env=(false,eval (.Name xT p2) X.env)::starEach [] X.env:=by rfl) (qh:(backTo pos (starEach [.Name xT p2] X.env)).any (·.1)=false:=by rfl) :
  SE X (.Call (.Name "isinstance" p) [a,.Name xT p2] [] pos) (jg T fa):=by
 have C:g_ X (.builtin "isinstance") (fun xs H Q=>∃x μ st w t,xs=[x,.ty T]/\fY X.K X.mg μ st H/\bf X.K μ H w x/\w.ty=some t/\Q (.bl (IS t T)) H):=by
  intro pins s σ H xs us Q I r h
  obtain⟨x,μ,st,w,t,rfl,S,rx,ht,q⟩:=h
  obtain⟨u,u2,rfl,r1,r2⟩:=cp.two r
  obtain rfl:u2=.type T:=r2
  have e:=Ra (K:=X.K) hk ht
  cases w with
  |tup ws=>
   cases ht
   obtain⟨p,vs,rfl,hS,_⟩:=rx.tupE
   cases(show u=Value.ref p from r1)
   obtain⟨bz,_,hp,_⟩:=I.tuple hS
   obtain⟨o,h1,h2,_⟩:=hp
   exact kia_one PySem.W.kitx_tuple I.kIn ⟨o,h1,h2⟩ e (fun z=>nomatch z) fun tk=>⟨.bl _,H,I.tok tk,rfl,q⟩
  |non=>cases ht;cases rx.nonE;exact nK I r1 .non e fun tk=>⟨.bl _,H,I.tok tk,rfl,q⟩
  |bl b=>cases ht;cases rx.blE;exact nK I r1 (.bl _) e fun tk=>⟨.bl _,H,I.tok tk,rfl,q⟩
  |int b=>cases ht;cases rx.intE;exact nK I r1 (.int _) e fun tk=>⟨.bl _,H,I.tok tk,rfl,q⟩
  |str b=>cases ht;cases rx.strE;exact nK I r1 (.str _) e fun tk=>⟨.bl _,H,I.tok tk,rfl,q⟩
  |loc b=>cases ht
 refine⟨(xf C hg hm boot_isinstance (rD ha.h (rD (HK Ve hT hv (v:=.ty T) rfl hn hd) zc Ut) he) (by decide) (by decide) he qh).imp fun σ H Q h=>?_⟩
 obtain⟨μ,ρ,st,l,h⟩:=h
 refine⟨μ,ρ,st,l,RK.bind h l fun μ1 st1 x v H1 p1 x1 l1 q1 h1=>?_⟩
 cases ht:x.ty with
 |none=>rw[ht]at h1;exact h1.elim
 |some t=>
  rw[ht]at h1
  exact⟨v,μ1,st1,x,t,rfl,l1.sto,q1,ht,h1 μ1 _ H1 (af _) dD.refl l1.sto .bl⟩
theorem Et{w:World}{k:Nat}{st:Stmt}{ps:List Str}
  (F:jK K x x st f fd) (hm:mg x=some (.ref f)) (hn:ps.length=n)
  (hb:∀(kV iM pm:Value) (an:Option Addr) (ga ct:Value) (us:List Value),us.length=ps.length->bindArgs (fnOf x x (dS st) (dU st) (aR st) .none kV iM pm an ga ct) ⟨us,[]⟩=pure (ps.zip us)) :
  dF P w K mg base k x n (fun _ _=>.bad):=rE F hm hn hb ⟨fun vs H Q E h=>by rw[hn];exact h.1,fun _ _ _ _ _ _ _ _ _ _ _ _ _ h=>by obtain⟨_,_,_,_,_,_,z⟩:=h;exact z.elim⟩
end
section
end
open AutoSeq1 (wpAny_loadPart')
theorem xU(l:Addr)(items:Array Value)(n:Nat)(b:Addr)(gQ:Array Value)(n2:Nat)(dd:Option Addr)(sl:Array (Option Value))(PD:¬(!items.isEmpty&&Builtin.List.listTooLong (items.size+gQ.size))=true)(rq:items.size<=sizeLine)(vm:items.size+gQ.size<=sizeLine+1) :
  Meets (Builtin.«list.extend» ⟨[.ref l,.ref b],[]⟩) (fun _ R s=>s.heap.get? l=some { cls:=.type "list",dict:=none,data:=.seq items n,slots:=#[] }/\s.heap.get? b=some { cls:=.type "tuple",dict:=dd,data:=.seq gQ n2,slots:=sl }
   /\ R (.ok (.ret Value.none)) { s with heap:=s.heap.update l (Obj.mapSeq fun x=>x++gQ),toks:=s.toks }):=
 .of_wp fun prog w A R s h=>by
  have g1:=AutoSeq1.idx_int
  have g2:=lx
  have g3:=AutoSeq1.sub_list_list
  have g4:=AutoSeq1.sub_tuple_list
  have g5:=AutoSeq1.sub_list_tuple
  obtain⟨hp,gl,ds,tk,os⟩:=s
  obtain⟨ha,hb,q⟩:=h
  have fits:(items++gQ).size<=sizeLine+1:=by
   rw[Array.size_append]
   exact vm
  wp_walk using (jn ha rfl (hz:=rq) (_hz':=fits)),bN ha,bN hb
  exact⟨_,rfl,q⟩
def Eu(K:Frag):V->List V->Hp->VK->Prop:=fun x vs H Q=>∃l b xs zs,x=.ref l/\vs=[.ref b]/\H l=some (.lst xs)/\fy K H b zs/\xs.length+zs.length<=sizeLine/\Q .non (eL H l (.lst (xs++zs)))
section
theorem zE:Qm X "list.extend" (Eu X.K):=by
 intro pins s σ H x vs v us Q I rx rv h
 obtain⟨l,b,xs,zs,rfl,rfl,hH,hB,hz,q⟩:=h
 cases rx
 obtain⟨u,rfl,ru⟩:=rv.one
 cases ru
 obtain⟨z,bz,n,r,hl,e⟩:=I.lstM hH
 obtain⟨its2,r2,⟨o,e2,hc,n2,hd⟩,z2⟩:=I.tuple hB
 have hl2:=r2.length
 have hsz:bz.toArray.size+its2.toArray.size<=sizeLine:=by rw[aD,aD];omega
 have hlong:¬ (!bz.toArray.isEmpty&&Builtin.List.listTooLong (bz.toArray.size+its2.toArray.size))=true:=by
  rw[xk hsz,Bool.and_false]
  exact bT
 obtain⟨cls,dd,data,sl⟩:=o
 dsimp only at hc hd
 subst hc hd
 refine j6 F.slot_list_extend ⟨_,e,rfl⟩ F.entry_list_extend (F.args_list_extend_2 _ _)
  (xU l bz.toArray n b its2.toArray n2 dd sl hlong (by rw[aD];omega) (by omega)) ⟨e,e2,?_⟩
 refine⟨.non,_,I.lset (its':=bz++its2) hH e (by simp) (r.append r2) ?_,rfl,q⟩
 rw[aF]
 omega
def jO(x:W)(ws:List W)(st:List aj):R W:=match x,ws with
 |.loc n,[.tup ys]=>(match st[n]? with
  |some (.lst zs)=>if zs.length+ys.length<=jF then .ok .non (st.set n (.lst (zs++ys)))else .bad
  |_=>.bad)
 |_,_=>pL x ws st
theorem zF:IM X "list.extend" jO:=⟨fun pins s σ H x vs v us Q I rv rus ⟨μ,st,wx,ws,S,rx,rs,q⟩=>by
 unfold jO at q
 split at q
 ·rename_i n ys
  obtain⟨y1,rfl,ry⟩:=rs.one
  split at q
  ·rename_i zs e1
   split at q
   ·rename_i c
    obtain⟨a1,g1,vs1,k1,r1⟩:=S.get e1
    obtain⟨b1,f1,rfl⟩:=rx.locE
    rw[g1]at f1;cases f1
    obtain⟨p,vs2,rfl,hS,r2⟩:=ry.tupE
    refine zE pins s σ H _ _ v us Q I rv rus ⟨a1,p,vs1,vs2,rfl,rfl,k1,hS,by rw[<- r1.len,<- r2.len];exact iI c,?_⟩
    exact q μ _ _ (af _) (fy.but fL k1) (S.set e1 g1 k1 (r1.app r2)) .non
   ·exact q.elim
  ·exact q.elim
 ·exact uQ.h pins s σ H x vs v us Q I rv rus ⟨μ,st,wx,ws,S,rx,rs,q⟩,fun x ws st=>by
 unfold jO
 split
 ·repeat' split
  all_goals trivial
 ·exact(uQ (X:=X)).n x ws st⟩
end
section
variable{a b o:Expr}{fa fb fe fo:FE}{fs:FA}
theorem Ev(xs:List α)(k:Nat)(y:α):((xs.toArray.extract 0 k).push y++xs.toArray.extract k).toList=xs.take k++y::xs.drop k:=by
 simp
 exact dM (by simp)
def IT:V->List V->Hp->VK->Prop:=fun x vs H Q=>∃(l:Addr) (xs:List V) (k:Nat) (y:V),x=.ref l/\vs=[.int k,y]/\H l=some (.lst xs)/\k<=xs.length/\xs.length+1<=sizeLine/\k<1000000/\Q .non (eL H l (.lst (xs.take k++y::xs.drop k)))
theorem CL:Qm X "list.insert" IT:=by
 intro pins s σ H x vs v us Q I rx rv h
 obtain⟨l,xs,k,y,rfl,rfl,hH,hk,hz,DA,q⟩:=h
 cases rx
 obtain⟨u,u2,rfl,r1,r2⟩:=cp.two rv
 obtain⟨t,rfl⟩:=r1
 obtain⟨z,bz,n,r,hl,e⟩:=I.lstM hH
 have ON:¬ (!Builtin.List.listFitsIndex (k:Int))=true:=by
  unfold Builtin.List.listFitsIndex
  simp;omega
 have hsz:bz.toArray.size<=sizeLine:=by rw[aD];omega
 obtain⟨q0,hq0⟩:∃q0:Int,q0=k:=⟨_,rfl⟩
 rw[<- hq0]at ON ⊢
 have M:=AutoSeq1.list_insert_list_int_val_1 l bz.toArray n q0 t u2 ON hsz
 refine j6 F.slot_list_insert ⟨_,e,rfl⟩ F.entry_list_insert (F.args_list_insert_3 _ _ _) M ⟨e,?_⟩
 refine⟨.non,_,I.lset (its':=bz.take k++u2::bz.drop k) hH e ?_ ((r.take k).append (.cons r2 (r.drop k))) ?_,rfl,q⟩
 ·have h0:¬ (q0<0):=by omega
  have hm:min q0.toNat bz.toArray.size=k:=by rw[aD];omega
  simp only[aC h0,hm]
  apply Array.toList_inj.mp
  rw[Ev]
 ·rw[aF,a8,a9,d5]
  omega
def nP(x:W)(ws:List W)(st:List aj):R W:=match x,ws with
 |.loc n,[.int k,y]=>(match st[n]? with
  |some (.lst zs)=>if 0<=k/\k.toNat<=zs.length/\zs.length<jF/\k<1000000 then .ok .non (st.set n (.lst (zs.take k.toNat++y::zs.drop k.toNat)))else .bad
  |_=>.bad)
 |_,_=>.bad
theorem CM:IM X "list.insert" nP:=⟨fun pins s σ H x vs v us Q I rv rus ⟨μ,st,wx,ws,S,rx,rs,q⟩=>by
 unfold nP at q
 split at q
 ·rename_i n k y
  obtain⟨y1,y2,rfl,ry1,ry2⟩:=rs.two
  split at q
  ·rename_i zs e1
   split at q
   ·rename_i cc
    obtain⟨c1,c2,c3,c4⟩:=cc
    obtain⟨k,rfl⟩:=lU c1
    rw[aO]at c2 q
    obtain⟨a1,g1,vs1,k1,r1⟩:=S.get e1
    obtain⟨b1,f1,rfl⟩:=rx.locE
    rw[g1]at f1;cases f1
    have hl:=r1.len
    have hL:vs1.length+1<=sizeLine:=by rw[<- hl];exact iI c3
    refine CL pins s σ H _ _ v us Q I rv rus ⟨a1,vs1,k,y2,rfl,by rw[ry1.intE],k1,by omega,hL,by omega,?_⟩
    exact q μ _ _ (af _) (fy.but fL k1) (S.set e1 g1 k1 ((r1.take k).app (.consI ry2 (r1.drop k)))) .non
   ·exact q.elim
  ·exact q.elim
 ·exact q.elim,fun x ws st=>by
 unfold nP
 repeat' split
 all_goals trivial⟩
end
section
variable{w:World}{g:Array GenState}{d:Drawn}{t:Nat}{os:OsState}
 {nm q:Str} {C N:Addr} {bs bm:List Value} {Vd:Bool} {sn:List Str} {Vr:List Value} {ab:Bool} {col:Option Bool} {dd:Option Addr} {k0 k1 k2 k3 k5:Option Value} {UU:String} {K:Frag}
end
section
variable{a:Expr}{fa:FE}
end
section
variable{a:Expr}{fa:FE}{k:Nat}
end
section
end
section
theorem sH(l:List α):∀(k:Nat) (acc:List α),List.foldl (fun x1 x2=>x1++x2) acc.toArray (List.replicate k l.toArray)=(acc++(List.replicate k l).flatten).toArray
 |0,acc=>by simp
 |k+1,acc=>by
  have e:acc.toArray++l.toArray=(acc++l).toArray:=by simp
  rw[jv,gU,e,sH l k (acc++l),jv,List.flatten_cons,av]
theorem Nj(l:List Nat)(n:Int):Txt.mul (tx l) n=tx (List.replicate n.toNat l).flatten:=by
 unfold Txt.mul
 by_cases h:n<1
 ·rw[ay h,show n.toNat=0 by omega];rfl
 ·rw[aC h]
  split
  ·rename_i hc
   rw[fF,b9,b9,je]at hc
   rcases hc with rfl|hc
   ·simp
   ·have:l=[]:=lV.mp hc
    subst this
    simp
  ·have:=sH l n.toNat []
   rw[mU]at this
   show Str.mk _=Str.mk _
   congr 1
theorem IU:mL X (binaryOp .Mult) (fun x y H Q=>∃(l:List Nat) (k:Int),x=.str (tx l)/\y=.int k/\-(2^62)<=k/\k<2^62/\l.length*k.toNat<=1000000/\Q (.str (tx (List.replicate k.toNat l).flatten)) H):=by
 intro pins s σ H x y v u Q I rx ry h
 obtain⟨l,k,rfl,rfl,h1,h2,h3,q⟩:=h
 obtain⟨t,rfl⟩:=rx
 obtain⟨t',rfl⟩:=ry
 refine SB.mul ⟨?_,?_,?_⟩ fun t2 tk=>⟨.str _,H,I.tok _,⟨t2,?_⟩,q⟩
 ·simp;omega
 ·intro hk hx
  rw[je]
  intro hg
  have hk1:1<=k:=by omega
  have:k*((2^63-1)/k)<=2^63-1:=Int.mul_ediv_self_le (by omega)
  have h4:(2^63-1)<k*(l.length:Int):=by
   have:=Int.lt_mul_of_ediv_lt (a:=2^63-1) (b:=(l.length:Int)) (c:=k) (by omega) hg
   rw[Int.mul_comm];exact this
  have h5:k*(l.length:Int)=((l.length*k.toNat:Nat):Int):=by
   rw[jo,Int.toNat_of_nonneg (by omega),Int.mul_comm]
  rw[h5]at h4
  omega
 ·intro hk hx
  rw[je]
  unfold Builtin.Str.tooLong
  rw[aV]
  have:(1000000:Nat)<=sizeLine:=by decide
  omega
 ·rw[Nj]
def ia:W->W->List aj->R W
 |.int i,.int j,st=>if zv i j then .ok (.int (i*j)) st else .bad
 |.str l,.int k,st=>if -(2^62)<=k/\k<2^62/\l.length*k.toNat<=jF then .ok (.str (List.replicate k.toNat l).flatten) st else .bad
 |_,_,_=>.bad
theorem Nl:qL X (binaryOp .Mult) ia:=⟨fun pins s σ H x y v u Q I rv ru ⟨μ,st,wx,wy,S,rx,ry,q⟩=>by
 cases wx with
 |int i=>
  cases wy with
  |int j=>
   have q':Dw X μ H Q (QQ (.int i) (.int j) st):=q
   exact QT.h pins s σ H x y v u Q I rv ru ⟨μ,st,.int i,.int j,S,rx,ry,q'⟩
  |_=>exact q.elim
 |str l=>
  cases wy with
  |int k=>
   simp only[ia]at q
   split at q
   ·rename_i cc
    exact IU pins s σ H x y v u Q I rv ru ⟨l,k,rx.strE,ry.intE,cc.1,cc.2.1,cc.2.2,pJ S q⟩
   ·exact q.elim
  |_=>exact q.elim
 |_=>cases wy<;>exact q.elim,fun x y st=>by
 unfold ia
 repeat' split
 all_goals trivial⟩
end
section
variable{fs:FA}
end
section
variable{w:World}
theorem sI:∀(l:List Nat) (vs:List Value),vs.length=l.length->(∀(j:Nat) (v:Value),vs[j]?=some v->∃c u,l[j]?=some c/\v=.str (tx [c]) u)->StrsAre vs (l.map fun c=>tx [c])
 |[],[],_,_=>.nil
 |c::l,v::vs,hl,h=>by
  obtain⟨d,u,e,rfl⟩:=h 0 v rfl
  cases e
  exact .cons _ _ (sI l vs (Nat.succ.inj hl) fun j v hj=>h (j+1) v hj)
 |[],_::_,hl,_=>nomatch hl
 |_::_,[],hl,_=>nomatch hl
theorem xV{t:Tok}(few:l.length<64)(hh:A.handled=none)
  (q:∀(s1:Shared) (g1:Heap) (out:Array Value) (ss:List Str) (e:Nat),(∀b o,s.heap.get? b=some o->s1.heap.get? b=some o)->s1.gens=s.gens->s1.drawn=s.drawn->s1.os=s.os->(∀b o,s1.heap.get? b=some o->g1.get? b=some o)->g1.get? s1.heap.objs.size=some (seqObj "list" out e) ->
   StrsAre out.toList ss->ss.Perm (l.map fun c=>tx [c])->sortedS ss=true->Q (.ref s1.heap.objs.size) { s1 with heap:=g1 }):wpAny (model prog w) A (call (.builtin "sorted") [.str (tx l) t]) Q E s:=by
 have hn:(tx l).cps.size=l.length:=by simp[tx]
 apply kF kind_sorted plain_sorted entry_sorted (args_sorted1 _)
 show wpAny _ _ (checkCount "sorted" 1 1 _ >>= _) _ _ _
 refine ah (ax (ah (wpAny_collect_str (by simpa using hh) _ _ (fun s1 acc kp eg ed eo ha=>?_) (by rw[kR];omega))))
 have wM:StrsAre acc.toList (l.map fun c=>tx [c]):=by
  refine sI l _ (by rw[fO,ha.1,hn]) fun j v hj=>?_
  obtain⟨c,u,hc,e⟩:=ha.2 j v (by simpa using hj)
  exact⟨c,u,by simpa[tx]using hc,e⟩
 have hvl:acc.toList.length<64:=by rw[fO,ha.1,hn];exact few
 refine ah (wpAny_newList ?_ (by rw[kR];omega))
 have oL:(s1.heap.push (seqObj "list" acc.toList.toArray 0)).get? s1.heap.objs.size=some (seqObj "list" acc.toList.toArray 0):=aU _ rfl
 refine ah (cF (dz slot_list_sort ⟨_,oL,rfl⟩ entry_list_sort (list_sort_treeK strKind_oneLt oL wM.keysOf (fun a b r e=>keyKind_strs (by rw[<- e];exact wM)) hvl fun st a1 a2=>⟨_,rfl,?_⟩) (args_list_sort _)))
 obtain⟨ss,h1,h2,h3⟩:=sorted_out_str wM a1 a2
 obtain⟨e,he⟩:=sortedHeap_at (out:=(arrOf st).map (·.2)) oL
 refine ax ⟨_,rfl,q s1 _ _ ss e kp eg ed eo (fun b o hb=>?_) he h1 h2 h3⟩
 rw[sortedHeap_old (bE (aH hb)) (by rw[j9];exact gz (aH hb))]
 exact ar _ hb
end
section
def oX(ws:List W)(st:List aj):R W:=match ws with
 |[.str l]=>if l.length<64 then .ok (.loc st.length) (st++[.lst ((iC (l.map fun c=>[c])).map W.str)])else .bad
 |[.loc n]=>nO [.loc n] st
 |_=>.bad
theorem IV(hc:X.calm=true:=by rfl):lG X (.builtin "sorted") oX:=⟨fun pins s σ H vs us Q I rv ⟨μ,st,ws,S,r,q⟩=>by
 unfold oX at q
 split at q
 ·rename_i l
  split at q
  ·rename_i c
   obtain⟨y,rfl,ry⟩:=r.one
   have:=ry.strE;subst this
   obtain⟨u,rfl,ru⟩:=kI rv
   obtain⟨t,rfl⟩:=ru
   refine xV c (I.ok.hd hc) fun s1 g1 out ss e kp eg ed eo k1 gL wM hp hsr=>?_
   have es:s1={ s with heap:=s1.heap,toks:=s1.toks }:=by cases s1;cases s;cases eg;cases ed;cases eo;rfl
   generalize s1.heap=g0,s1.toks=tk at es kp k1 gL ⊢
   subst es
   have I2:bw X pins σ H { s with heap:=g0,toks:=tk }:=I.kept2 (d':=s.drawn) fun b o e=>kp b o e
   have rA:H g0.objs.size=none:=I2.hok.fresh (aw _)
   have hmap:(ss.map fun z=>z.cps.toList).map tx=ss:=by
    rw[aT]
    have:(tx∘fun z:Str=>z.cps.toList)=id:=funext fun z=>AR z
    rw[this,nJ]
   have hperm:(ss.map fun z=>z.cps.toList).Perm (l.map fun c=>[c]):=by
    have e:=hp.map fun z:Str=>z.cps.toList
    rw[aT]at e
    exact e
   have ez:(ss.map fun z=>z.cps.toList)=iC (l.map fun c=>[c]):=vQ (sF (by rw[hmap];exact hsr)) (xQ _) (hperm.trans (gZ _).symm)
   have hvals:cp ((iC (l.map fun c=>[c])).map fun l=>V.str (tx l)) out.toList:=by
    have e:=oS wM
    rw[<- hmap,ez,aT]at e
    exact e
   refine⟨.ref g0.objs.size,_,I2.laid (o:=.lst ((iC (l.map fun c=>[c])).map fun l=>V.str (tx l))) (t':=tk) k1 (aw _) ⟨?_,out.toList,e,hvals,gL⟩,rfl,?_⟩
   ·rw[ai,(gZ _).length_eq,ai]
    exact bu (d_ c) (by decide)
   ·exact q (μ++[g0.objs.size]) _ _ (ao _ _) (fy.same (cD rA _)) (S.newLst rA (xR _)) (nv S)
  ·exact q.elim
 ·exact xS.h pins s σ H _ us Q I rv ⟨μ,st,_,S,r,q⟩
 ·exact q.elim,fun ws st=>by
 unfold oX
 split
 ·split<;>trivial
 ·exact(xS (X:=X)).n _ _
 ·trivial⟩
end
def oB(a b k:Int):Nat:=if a<b then((b-a-1)/k+1).toNat else 0
theorem uU{a b k:Int}(hk:0<k):Builtin.Range.rangeSize a b k=(oB a b k:Int):=by
 unfold Builtin.Range.rangeSize oB
 rw[ay hk]
 split
 ·have:=Int.ediv_nonneg (a:=b-a-1) (b:=k) (by omega) (by omega)
  omega
 ·rfl
theorem IW{a b k:Int}(hk:0<k)(h:a<b):(b-a-1)/k<=b-a-1:=Int.ediv_le_self _ (by omega)
theorem zG{a b k:Int}(h1:-(2^60)<=a)(h2:a<2^60)(h3:-(2^60)<=b)(h4:b<2^60)(hk:0<k)(DA:k<=1000):Builtin.Range.small a b k=true:=by
 unfold Builtin.Range.small
 rw[uU hk]
 simp only[Builtin.Range.rangeFitsLong,bh,fF,decide_eq_true_eq,b9,ay hk]
 unfold oB
 split
 ·have:=IW hk (by assumption)
  have:=Int.ediv_nonneg (a:=b-a-1) (b:=k) (by omega) (by omega)
  have:=Int.ediv_mul_le (a:=b-a-1) (b:=k) (by omega)
  omega
 ·omega
def uV(i k:Int)(n:Nat):List V:=(List.range n).map fun m:Nat=>V.int (i+m*k)
def Rb(ta:TA):TI:=fun σ H R=>ta σ H fun vs H1=>∃i j k:Int,vs=[.int i,.int j,.int k]/\(-(2^60)<=i/\i<2^60/\-(2^60)<=j/\j<2^60/\0<k/\k<=1000)/\R (Td (uV i k (oB i j k))) H1
theorem vR{tg a b:Expr}{ta:TA}{p pos:Pos}(hm:X.mg "range"=none)(ha:QA X [a,b,c] ta)(hg:Gl X "range":=by rfl)(hs:starEach [a,b,c] X.env=(false,eval a X.env)::starEach [b,c] X.env:=by rfl)
  (vm:(backTo pos (starEach [b,c] X.env)).any (·.1)=false:=by rfl):QI X tg (.Call (.Name "range" p) [a,b,c] [] pos) (Rb ta):=⟨by
 intro pins s σ H R I h
 refine Call_ (kZ I hg hm boot_range (cO (f6 (ha.h pos pins s σ H _ I h) fun us s1 ⟨vs,H1,I1,r1,q1⟩=>?_) hs vm))
 obtain⟨i,j,k,e,⟨b1,b2,b3,b4,b5,b6⟩,q⟩:=q1
 subst e
 cases r1 with
 |cons x1 r1=>cases r1 with
  |cons x2 r1=>cases r1 with
   |cons x3 r1=>
    cases r1
    obtain⟨t1,rfl⟩:=x1
    obtain⟨t2,rfl⟩:=x2
    obtain⟨t3,rfl⟩:=x3
    refine call_range_3 (by omega) ?_ (Or.inl (mz (by omega)))
    refine wpAny_pyIter_range (IsRange.new ..) (zG b1 b2 b3 b4 b5 b6) ?_
    generalize hN:oB i j k=n at q
    have hl:(uV i k n).length=n:=by unfold uV;simp
    have I2:bw X pins σ H1 { s1 with heap:=s1.heap.push { cls:=.type "range",data:=.fields #[.int i t1,.int j t2,.int k t3] },toks:=s1.toks }:=I1.kept fun b o e=>ar _ e
    refine⟨(s1.heap.push { cls:=.type "range",data:=.fields #[.int i t1,.int j t2,.int k t3] }).objs.size,[(s1.heap.push { cls:=.type "range",data:=.fields #[.int i t1,.int j t2,.int k t3] }).objs.size],_,_,H1,rfl,
     I2.kept (t':=s1.toks) fun b o e=>ar _ e,sd (ty:="range_iterator") (fun A hA=>by rw[hl];exact Walks.range hA _ i k n) (fun m v hk hp=>?_) (fun k h st=>⟨_,_,st,rfl,rfl⟩) (by decide) (fun A k s Q E st h=>my st h),⟨dB _,?_⟩,fun b hb=>?_,q⟩
    ·obtain⟨t,rfl⟩:=hp
     rw[hl]at hk
     refine⟨.int (i+m*k),?_,t,rfl⟩
     unfold uV
     rw[ak,dO hk]
     rfl
    ·have e1:i+((0:Nat):Int)*k=i:=by simp
     have e2:((n:Nat):Int)-((0:Nat):Int)=Builtin.Range.rangeSize i j k:=by rw[uU b5,hN];simp
     rw[e1,e2]
     exact aU _ rfl
    ·have e:b=(s1.heap.push { cls:=.type "range",data:=.fields #[.int i t1,.int j t2,.int k t3] }).objs.size:=by simpa using hb
     subst e
     exact I2.fpOk (aw _) (I2.hok.fresh (aw _))⟩
section
variable{a b:Expr}{fs:FA}
def qR(i k:Int)(n:Nat):List W:=(List.range n).map fun m:Nat=>W.int (i+m*k)
theorem Ew(i k:Int)(n:Nat)(μ:List Addr)(H:Hp):RelWs X.K μ H (qR i k n) (uV i k n):=by
 unfold qR uV
 induction (List.range n)with
 |nil=>exact .nilI
 |cons a r ih=>exact .consI .int ih
def vS(fs:FA):FI:=fun ρ st=>(fs ρ st).bind fun ws st=>match ws with
 |[.int i,.int j,.int k]=>if -(2^60)<=i/\i<2^60/\-(2^60)<=j/\j<2^60/\0<k/\k<=1000 then .ok (qR i k (oB i j k),none) st else .bad
 |_=>.bad
theorem IX(hm:X.mg "range"=none)(ha:SA X [a,b,c] fs)(hg:Gl X "range":=by rfl)(hs:starEach [a,b,c] X.env=(false,eval a X.env)::starEach [b,c] X.env:=by rfl)(qh:(backTo pos (starEach [b,c] X.env)).any (·.1)=false:=by rfl) :
  SI X tg (.Call (.Name "range" p) [a,b,c] [] pos) (vS fs):=⟨(vR hm ⟨ha.h⟩ hg hs qh).h.imp fun σ H R h=>by
 obtain⟨μ,ρ,st,l,h⟩:=h
 refine⟨μ,ρ,st,l,RK.bind h l fun μ1 st1 x v H1 p1 x1 l1 q1 h1=>?_⟩
 split at h1
 ·rename_i i j k
  obtain⟨y,ys,rfl,ry,r1⟩:=q1.consE
  obtain⟨z,zs,rfl,rz,r2⟩:=r1.consE
  obtain⟨w,rfl,kP⟩:=r2.one
  split at h1
  ·rename_i cc
   exact⟨_,_,_,by rw[ry.intE,rz.intE,kP.intE],cc,h1 μ1 _ H1 (af _) dD.refl l1.sto (uS (Ew _ _ _))⟩
  ·exact h1.elim
 ·exact h1.elim⟩
end
theorem IY{pos:Pos}{g:TG}(gv:X.calm=true)
  (f':scope.kind=.function) (hB:sg X.env.scope.names scope.names nm cap X.N=true)
  (hi:QI X tg iter wi) (hg:∀cl C s0 H0 fp,QG (bH X nm scope cl C s0 H0 fp) tg g) (ht:∀cl C s0 H0 fp,Te (bH X nm scope cl C s0 H0 fp) kC tc)
  (he:∀cl C s0 H0 fp,QE (bH X nm scope cl C s0 H0 fp) mv te) (hs:∀x,foldedSetIterable iter X.env x=pure x:=by intro _;rfl) :
  QE X (.ListComp mv [⟨tg,iter,kC,0⟩] scope pos) (r_ cap wi g tc te):=by
 simp only[sg,bh,d6,fF,gA,b9,aX]at hB
 obtain⟨⟨⟨⟨b1,b2⟩,b3⟩,b4⟩,b5⟩:=hB
 refine⟨fun pins s σ H Q I h=>?_⟩
 have has:∀x∈scope.names,x.2=.free->∃c,X.env.cells.lookup x.1=some c:=fun x hx hk=>by
  rcases b3 x hx with z|z
  ·exact absurd hk z
  ·exact I.ok.has x.1 (.inl z)
 have jc:∀x c,(cM X.env scope.names []).lookup x=some c->X.env.cells.lookup x=some c:=fun x c h=>jE scope.names [] has (by simp) (x,c) (dw h)
 have hin:∀x,(x,NameKind.free)∈scope.names->∃c,(cM X.env scope.names []).lookup x=some c:=fun x h=>let ⟨_,q⟩:=lZ (env:=X.env) scope.names [] x h;l7 q
 have hmap:(relabel scope X.env).names=scope.names.map fun y=>if (y.2==.free&&X.env.scope.kind==.function&&X.env.kindOf y.1==some .cell)then(y.1,NameKind.cell)else y:=by
  show scope.names.map _=_
  refine bq fun y _=>?_
  obtain⟨a,b⟩:=y
  rfl
 have fr:∀x,((relabel scope X.env).names.lookup x=some .cell\/(relabel scope X.env).names.lookup x=some .free)->(x,NameKind.free)∈scope.names:=fun x h=>by
  have h':∃k,(x,k)∈(relabel scope X.env).names/\(k=.cell\/k=.free):=by
   rcases h with h|h
   ·exact⟨_,dw h,.inl rfl⟩
   ·exact⟨_,dw h,.inr rfl⟩
  obtain⟨k,hm,hk⟩:=h'
  rw[hmap]at hm
  obtain⟨y,hy,e⟩:=al.mp hm
  obtain⟨a,b⟩:=y
  by_cases hb:b=.free
  ·subst hb
   have:a=x:=by split at e<;>(cases e;rfl)
   subst this;exact hy
  ·rw[aC (by simp[hb])]at e
   cases e
   rcases hk with rfl|rfl
   ·exact absurd rfl (b2 _ hy)
   ·exact absurd rfl hb
 refine AO (cl:=cM X.env scope.names []) (cap:=cap) (nm:=nm) gv (xD has) jc f' (fun x hx hk=>(b1 x hx).resolve_left fun z=>z hk) (fun y hy=>b2 y hy) (fun x hx=>hin x (fr x hx)) (fun i j e=>?_) b4 hi.h (fun C s0 H0 fp=>(hg _ C s0 H0 fp).h) (fun C s0 H0 fp=>(ht _ C s0 H0 fp).h) (fun C s0 H0 fp=>(he _ C s0 H0 fp).h) hs pins s σ H Q I h
 have hi':i<cap.length:=(aa.mp e).1
 have q:=b5 i (bj.mpr hi')
 rw[e]at q
 dsimp only at q
 cases hx:nm[i]? with
 |none=>rw[hx]at q;simp at q
 |some x=>
  cases hy:X.N[j]? with
  |none=>rw[hx,hy]at q;simp at q
  |some y=>
   rw[hx,hy]at q
   simp only[bh,b9]at q
   obtain⟨⟨rfl,q1⟩,q2⟩:=q
   refine⟨x,rfl,rfl,.inr (.inl q1),(by rw[q1];decide),?_,?_⟩
   ·obtain⟨c,hc⟩:=hin x (dw q2)
    rw[hc,jc _ _ hc]
   ·rw[hmap];exact kJ (env:=X.env) q2
section
variable{fi:FI}{f:FG}{t:FT}{el:FE}
theorem IZ(hB:sg X.env.scope.names scope.names nm cap X.N=true)(hi:SI X tg iter fi)(hg:∀cl C s0 H0 fp,SG (bH X nm scope cl C s0 H0 fp) tg f)(ht:∀cl C s0 H0 fp,Kq (bH X nm scope cl C s0 H0 fp) kC t)
  (he:∀cl C s0 H0 fp,SE (bH X nm scope cl C s0 H0 fp) mv el) (gv:X.calm=true:=by rfl) (f':scope.kind=.function:=by rfl) (hs:∀x,foldedSetIterable iter X.env x=pure x:=by intro _;rfl) :
  SE X (.ListComp mv [⟨tg,iter,kC,0⟩] scope pos) (c_ cap fi f t el):=
 ⟨(IY gv f' hB ⟨hi.h⟩ (fun cl C s0 H0 fp=>Ue (X:=X) rfl rfl (hg cl C s0 H0 fp)) (fun cl C s0 H0 fp=>Ud (X:=X) rfl rfl (ht cl C s0 H0 fp)) (fun cl C s0 H0 fp=>Uc (X:=X) rfl rfl (he cl C s0 H0 fp)) hs).h.imp fun _ _ _ h=>zB h⟩
end
section
variable{w:World}
variable{z P O i j:Addr}{xs ys:Array Value}{x y v:Value}
end
open AutoSeq1 (wpAny_loadPart')
section
variable{w:World}
end
section
variable{a b:Expr}{fs:FA}
end
open Builtin.Str (tooLong)
section
variable{w:World}
end
section
end
section
def fQ:List W->Option (List Int)
 |[]=>some []
 |.int z::ws=>(fQ ws).map (z :: ·)
 |_=>none
theorem lH:∀{ws:List W} {l:List Int} {vs:List V},fQ ws=some l->RelWs K μ H ws vs->vs=l.map V.int
 |[],l,vs,h,r=>by simp only[fQ]at h;cases h;exact r.nilE
 |w::ws,l,vs,h,r=>by
  obtain⟨x,xs,rfl,rx,rs⟩:=r.consE
  unfold fQ at h
  split at h
  ·rename_i e;cases e
  ·rename_i z Sy e
   cases e
   cases e2:fQ ws with
   |none=>rw[e2]at h;cases h
   |some l'=>rw[e2]at h;cases h;rw[rx.intE,lH e2 rs];rfl
  ·cases h
end
section
end
abbrev Rc:=List W×List (Nat×List W)
abbrev U7:=cu->List aj->R Rc
section
variable{fi:U7}{f:FG}{t:FT}{el:FE}
end
section
variable{a b:Expr}{fs:FA}
end
section
end
section
variable{g:TG}{te:Cx->TE}
end
section
variable{fi:FI}{f:FG}{el:FE}
end
theorem DK.key_inj{a b:DK}:a.key=b.key↔a=b:=by
 cases a<;>cases b<;>simp[DK.key,D2]
def DK.w:DK->W
 |.i z=>.int z
 |.s l=>.str l
def jP:W->Option DK
 |.int z=>some (.i z)
 |.str l=>some (.s l)
 |_=>none
theorem pO{w:W}{k:DK}(h:jP w=some k)(r:bf K μ H w v):v=kV k.key:=by
 cases w with
 |int z=>cases h;exact r.intE
 |str l=>cases h;exact r.strE
 |_=>cases h
theorem DK.w_rel(k:DK):bf K μ H k.w (kV k.key):=by
 cases k with
 |i z=>exact .int
 |s l=>exact .str
def jx(kvs:List (DK×W))(k:DK):Option W:=(kvs.find? fun p=>decide (p.1=k)).map fun p=>p.2
def sJ(kvs:List (DK×W))(k:DK)(v:W):List (DK×W):=if (kvs.any fun p=>decide (p.1=k))=true then kvs.map fun p=>if p.1=k then(p.1,v)else p else kvs++[(k,v)]
def jQ(kvs:List (DK×W))(k:DK):List (DK×W):=kvs.filter fun p=>decide (p.1≠k)
abbrev dV(kvs:List (DK×W))(vs:List V):List (fZ×V):=(kvs.map fun p=>p.1.key).zip vs
section
theorem sK:∀{kvs:List (DK×W)} {vs:List V} (k:DK),RelWs K μ H (kvs.map fun p=>p.2) vs->(∃w v,jx kvs k=some w/\jL (dV kvs vs) k.key=some v/\bf K μ H w v)\/(jx kvs k=none/\jL (dV kvs vs) k.key=none)
 |[],vs,k,r=>.inr ⟨rfl,rfl⟩
 |p::kvs,vs,k,r=>by
  obtain⟨x,xs,rfl,a,b⟩:=RelWs.consE r
  have ih:=sK (kvs:=kvs) k b
  by_cases h:p.1=k
  ·refine .inl ⟨p.2,x,?_,?_,a⟩
   ·unfold jx;rw[bG];simp[h]
   ·show jL ((p.1.key,x)::dV kvs xs) k.key=some x
    exact no (by rw[h])
  ·have e1:jx (p::kvs) k=jx kvs k:=by unfold jx;rw[bG];simp[h]
   have e2:jL (dV (p::kvs) (x::xs)) k.key=jL (dV kvs xs) k.key:=pD (p:=(p.1.key,x)) fun z=>h (DK.key_inj.mp z)
   rw[e1,e2];exact ih
theorem Ex:∀{kvs:List (DK×W)} {vs:List V} (k:DK),RelWs K μ H (kvs.map fun p=>p.2) vs->((dV kvs vs).any fun kv=>decide (kv.1=k.key))=(kvs.any fun p=>decide (p.1=k))
 |[],vs,k,r=>rfl
 |p::kvs,vs,k,r=>by
  obtain⟨x,xs,rfl,a,b⟩:=RelWs.consE r
  show(decide (p.1.key=k.key)||(dV kvs xs).any _)=(decide (p.1=k)||kvs.any _)
  rw[Ex k b]
  congr 1
  rw[decide_eq_decide];exact DK.key_inj
theorem Ey{k:DK}{w:W}:∀{kvs:List (DK×W)} {vs:List V},RelWs K μ H (kvs.map fun p=>p.2) vs->bf K μ H w v->∃us,(dV kvs vs).map (fun kv=>if kv.1=k.key then(kv.1,v)else kv)=dV (kvs.map fun p=>if p.1=k then(p.1,w)else p) us/\RelWs K μ H ((kvs.map fun p=>if p.1=k then(p.1,w)else p).map fun p=>p.2) us
 |[],vs,r,kP=>⟨[],rfl,.nilI⟩
 |p::kvs,vs,r,kP=>by
  obtain⟨x,xs,rfl,a,b⟩:=RelWs.consE r
  obtain⟨us,e,q⟩:=Ey (k:=k) b kP
  by_cases h:p.1=k
  ·refine⟨v::us,?_,?_⟩
   ·show(if p.1.key=k.key then(p.1.key,v)else(p.1.key,x))::(dV kvs xs).map _=_
    rw[ay (by rw[h]),e,aG,ay h];rfl
   ·rw[aG,ay h];exact .consI kP q
  ·refine⟨x::us,?_,?_⟩
   ·show(if p.1.key=k.key then(p.1.key,v)else(p.1.key,x))::(dV kvs xs).map _=_
    rw[aC (fun z=>h (DK.key_inj.mp z)),e,aG,aC h];rfl
   ·rw[aG,aC h];exact .consI a q
theorem Ez{kvs:List (DK×W)}{k:DK}{w:W}(r:RelWs K μ H (kvs.map fun p=>p.2) vs)(kP:bf K μ H w v):∃us,mZ (dV kvs vs) k.key v=dV (sJ kvs k w) us/\RelWs K μ H ((sJ kvs k w).map fun p=>p.2) us:=by
 unfold mZ sJ
 rw[Ex k r]
 by_cases h:(kvs.any fun p=>decide (p.1=k))=true
 ·rw[ay h,ay h]
  exact Ey r kP
 ·rw[aC h,aC h]
  refine⟨vs++[v],?_,?_⟩
  ·unfold dV
   rw[cv,List.zip_append (by rw[ai,<- r.len,ai])];rfl
  ·rw[cv];exact r.app (.consI kP .nilI)
theorem A5{k:DK}:∀{kvs:List (DK×W)} {vs:List V},RelWs K μ H (kvs.map fun p=>p.2) vs->∃us,mM (dV kvs vs) k.key=dV (jQ kvs k) us/\RelWs K μ H ((jQ kvs k).map fun p=>p.2) us
 |[],vs,r=>⟨[],rfl,.nilI⟩
 |p::kvs,vs,r=>by
  obtain⟨x,xs,rfl,a,b⟩:=RelWs.consE r
  obtain⟨us,e,q⟩:=A5 (k:=k) b
  by_cases h:p.1=k
  ·refine⟨us,?_,?_⟩
   ·have e1:jQ (p::kvs) k=jQ kvs k:=by unfold jQ;rw[cZ];simp[h]
    rw[e1]
    exact(Ct (p:=(p.1.key,x)) (by rw[h])).trans e
   ·have e1:jQ (p::kvs) k=jQ kvs k:=by unfold jQ;rw[cZ];simp[h]
    rw[e1];exact q
  ·have e1:jQ (p::kvs) k=p::jQ kvs k:=by unfold jQ;rw[cZ];simp[h]
   refine⟨x::us,?_,?_⟩
   ·rw[e1]
    exact(Cu (p:=(p.1.key,x)) fun z=>h (DK.key_inj.mp z)).trans (dJ (List.cons (p.1.key,x)) e)
   ·rw[e1];exact .consI a q
theorem qC{kvs:List (DK×W)}(r:RelWs K μ H (kvs.map fun p=>p.2) vs):(dV kvs vs).length=kvs.length:=by
 unfold dV;rw[List.length_zip,ai,<- r.len,ai,Nat.min_self]
theorem fy.butD{l:Addr}{xs:List (fZ×V)}(e:Qx l H H')(hl:H l=some (.dK xs)):dD K H H':=by
 have lu:∀{p:Addr} {o:HO},H p=some o->(∀zs,o≠.dK zs)->p≠l:=fun{p o} q hn z=>by subst z;rw[hl]at q;cases q;exact hn _ rfl
 refine⟨fun p ys h=>?_,fun b o u h=>e _ _ (lu h (fun _ z=>by cases z)) h⟩
 rcases h with(h|⟨o,h⟩)|h
 ·exact .inl (.inl (e _ _ (lu h (fun _ z=>by cases z)) h))
 ·exact .inl (.inr ⟨o,e _ _ (lu h (fun _ z=>by cases z)) h⟩)
 ·exact .inr h
end
theorem fY.setD{st:List aj}(S:fY K mg μ st H){kvs OO:List (DK×W)}{xs:List (fZ×V)}{us:List V}(hn:st[n]?=some (.dct kvs))(hm:μ[n]?=some a)(ha:H a=some (.dK xs))(hr:RelWs K μ H (OO.map fun p=>p.2) us) :
  fY K mg μ (st.set n (.dct OO)) (eL H a (.dK (dV OO us))):=
 S.setG hn rfl hm ha (fun _ _ z=>by cases z) (fun _ z=>by cases z) (fy.butD fL ha) rfl ⟨us,dG,hr.mono (af _) (fy.butD fL ha)⟩
def iD(st:List aj):W->Option (Nat×List (DK×W))
 |.loc n=>(match st[n]? with
  |some (.dct kvs)=>some (n,kvs)
  |some (.rod kvs)=>some (n,kvs)
  |_=>none)
 |_=>none
def rf(st:List aj):W->Option (Nat×List (DK×W))
 |.loc n=>(match st[n]? with
  |some (.dct kvs)=>some (n,kvs)
  |_=>none)
 |_=>none
theorem nz{st:List aj}(S:fY K mg μ st H){x:W}{kvs:List (DK×W)}(h:iD st x=some (n,kvs))(r:bf K μ H x v) :
  ∃a vs,(st[n]?=some (.dct kvs)\/st[n]?=some (.rod kvs))/\μ[n]?=some a/\v=.ref a/\Rd H a (.dK (dV kvs vs))/\RelWs K μ H (kvs.map fun p=>p.2) vs:=by
 cases x with
 |loc m=>
  simp only[iD]at h
  cases e:st[m]? with
  |none=>rw[e]at h;cases h
  |some c=>
   rw[e]at h
   cases c with
   |dct z=>
    cases h
    obtain⟨a,g,vs,k,rr⟩:=S.get e
    obtain⟨b,f,rfl⟩:=r.locE
    rw[g]at f;cases f
    exact⟨a,vs,.inl e,g,rfl,.inl k,rr⟩
   |rod z=>
    cases h
    obtain⟨a,g,vs,o,k,rr⟩:=S.get e
    obtain⟨b,f,rfl⟩:=r.locE
    rw[g]at f;cases f
    exact⟨a,vs,.inr e,g,rfl,.inr ⟨o,k⟩,rr⟩
   |_=>cases h
 |_=>cases h
theorem rF{st:List aj}(S:fY K mg μ st H){x:W}{kvs:List (DK×W)}(h:rf st x=some (n,kvs))(r:bf K μ H x v) :
  ∃a vs,st[n]?=some (.dct kvs)/\μ[n]?=some a/\v=.ref a/\H a=some (.dK (dV kvs vs))/\RelWs K μ H (kvs.map fun p=>p.2) vs:=by
 cases x with
 |loc m=>
  simp only[rf]at h
  cases e:st[m]? with
  |none=>rw[e]at h;cases h
  |some c=>
   rw[e]at h
   cases c with
   |dct z=>
    cases h
    obtain⟨a,g,vs,k,rr⟩:=S.get e
    obtain⟨b,f,rfl⟩:=r.locE
    rw[g]at f;cases f
    exact⟨a,vs,e,g,rfl,k,rr⟩
   |_=>cases h
 |_=>cases h
theorem xq.r{kvs:List (fZ×V)}{k:fZ}(e:Rd H a (.dK kvs)):xq H a (kV k) (jL kvs k):=.inl ⟨kvs,k,e,rfl,rfl⟩
section
variable{a b d o i:Expr}{fa fb fc fe fo fi:FE}{fs:FA}
def vT(Ho:Bool)(x y:W)(st:List aj):R W:=match iD st y with
 |some (_,kvs)=>(match jP x with
  |some k=>.ok (.bl (if Ho then !(jx kvs k).isSome else(jx kvs k).isSome)) st
  |none=>.bad)
 |none=>uN Ho x y st
theorem CN{kvs:List (DK×W)}{k:DK}(r:RelWs K μ H (kvs.map fun p=>p.2) vs):(jL (dV kvs vs) k.key).isSome=(jx kvs k).isSome:=by
 rcases sK k r with⟨w,v,e1,e2,_⟩|⟨e1,e2⟩<;>rw[e1,e2]<;>rfl
theorem xW(hr:gD kk X.A)(ho:qL X (compareOp .NotIn) (uN true)):qL X (compareOp .NotIn) (vT true):=⟨fun pins s σ H x y v u Q I rv ru ⟨μ,st,wx,wy,S,rx,ry,q⟩=>by
 unfold vT at q
 cases e:iD st wy with
 |none=>rw[e]at q;exact ho.h pins s σ H x y v u Q I rv ru ⟨μ,st,wx,wy,S,rx,ry,q⟩
 |some nk=>
  obtain⟨n,kvs⟩:=nk
  rw[e]at q
  cases ek:jP wx with
  |none=>simp only[ek]at q;exact q.elim
  |some k=>
   simp only[ek]at q
   obtain⟨a,vs,_,_,rfl,ha,r⟩:=nz S e ry
   have:=pO ek rx
   subst this
   obtain rfl:u=Value.ref a:=ru
   refine Ij (DV hr) I (xq.r ha) rv fun s' I'=>?_
   rw[CN r]
   exact⟨.bl _,H,I',rfl,iK S q⟩,fun x y st=>by
 unfold vT
 split
 ·split<;>trivial
 ·exact ho.n x y st⟩
def gS(x y:W)(st:List aj):R W:=match iD st x,jP y with
 |some (_,kvs),some k=>ou (jx kvs k) fun w=>.ok w st
 |_,_=>.bad
theorem nA(hr:gD kk X.A)(ha:SE X a fa)(hb:SE X b fb)(hs:DY b:=by intro _ _;rfl):SE X (.Subscript a b pos) (e2 gS fa fb):=⟨(Ik (DV hr) ha.h hb.h hs).imp fun σ H Q h=>by
 obtain⟨μ,ρ,st,l,h⟩:=h
 refine⟨μ,ρ,st,l,RK.bind h l fun μ1 st1 x v H1 p1 x1 l1 q1 h1=>⟨μ1,ρ,st1,l1,RK.bind h1 l1 fun μ2 c7 y u H2 p2 x2 l2 q2 h2=>?_⟩⟩
 unfold gS at h2
 cases e1:iD c7 x with
 |none=>rw[e1]at h2;exact h2.elim
 |some nk=>
  obtain⟨n,kvs⟩:=nk
  cases e2:jP y with
  |none=>rw[e1,e2]at h2;exact h2.elim
  |some k=>
   rw[e1,e2]at h2
   simp only at h2
   obtain⟨a,vs,_,_,rfl,ha,r⟩:=nz l2.sto e1 (q1.mono p2 x2)
   have:=pO e2 q2
   subst this
   rcases sK k r with⟨w,z,g1,g2,g3⟩|⟨g1,g2⟩
   ·rw[g1]at h2
    exact⟨a,z,rfl,by rw[<- g2];exact xq.r ha,h2 μ2 z H2 (af _) dD.refl l2.sto g3⟩
   ·rw[g1]at h2;exact h2.elim⟩
def jR(x i v:W)(st:List aj):Option (List aj):=match rf st x,jP i with
 |some (n,kvs),some k=>if kvs.length<jF then some (st.set n (.dct (sJ kvs k v)))else none
 |_,_=>none
theorem zH(hr:gD kk X.A):B_ X (En X jR):=fun pins s σ H o i v ov iv u Q I r1 r2 r3 ⟨μ,st,wo,wi,wv,bx,S,ro,ri,rv,e,q⟩=>by
 unfold jR at e
 cases e1:rf st wo with
 |none=>rw[e1]at e;cases e
 |some nk=>
  obtain⟨n,kvs⟩:=nk
  cases e2:jP wi with
  |none=>rw[e1,e2]at e;cases e
  |some k=>
   rw[e1,e2]at e
   simp only at e
   split at e
   ·rename_i hl
    cases e
    obtain⟨a,vs,hn,hm,rfl,ha,r⟩:=rF S e1 ro
    have:=pO e2 ri
    subst this
    obtain rfl:ov=Value.ref a:=r1
    obtain⟨us,g1,g2⟩:=Ez (k:=k) r rv
    refine Cs (DV hr) I (Ii.k ha (by rw[qC r];exact aY hl (by decide))) r2 r3 fun s' I'=>⟨_,I',?_⟩
    rw[g1]
    exact q _ (fy.butD fL ha) (S.setD hn hm ha g2)
   ·cases e
def sL(ws:List W)(st:List aj):R W:=match ws with
 |[x]=>(match iD st x with
  |some (_,kvs)=>.ok (.int kvs.length) st
  |none=>cS ws st)
 |_=>cS ws st
theorem Nm:lG X (.builtin "len") sL:=⟨fun pins s σ H vs us Q I rv ⟨μ,st,ws,S,r,q⟩=>by
 unfold sL at q
 split at q
 ·rename_i x
  split at q
  ·rename_i n kvs e
   obtain⟨y,rfl,ry⟩:=r.one
   obtain⟨a,vs,_,_,rfl,ha,rr⟩:=nz S e ry
   obtain⟨u,rfl,ru⟩:=kI rv
   obtain rfl:u=Value.ref a:=ru
   refine Qq I ha fun t s' I'=>⟨.int kvs.length,H,I',⟨t,by rw[qC rr]⟩,?_⟩
   exact q μ _ H (af _) dD.refl S .int
  ·exact iA.h pins s σ H _ us Q I rv ⟨μ,st,_,S,r,q⟩
 ·exact iA.h pins s σ H _ us Q I rv ⟨μ,st,_,S,r,q⟩,fun ws st=>by
 unfold sL
 split
 ·split
  ·trivial
  ·exact(iA (X:=X)).n _ _
 ·exact(iA (X:=X)).n _ _⟩
def pP:FE:=fun _ st=>.ok (.loc st.length) (st++[.dct []])
theorem zJ:SE X (.Dict [] [] pos) pP:=⟨DZ.imp fun σ H Q h=>by
 obtain⟨μ,ρ,st,l,h⟩:=h
 intro p hp
 have hs:nZ H (eL H p (.dK [])):=cD hp _
 exact h (μ++[p]) (.ref p) _ (ao _ _) (fy.same hs) (l.sto.push (c:=.dct []) hp ⟨[],dG,.nilI⟩) (nv l.sto)⟩
abbrev FP:=cu->List aj->R (List (W×W))
def A6:FP:=fun _ st=>.ok [] st
def vU(fk fv:FE)(fr:FP):FP:=fun ρ st=>(fk ρ st).bind fun k st=>(fv ρ st).bind fun v st=>(fr ρ st).bind fun ps st=>.ok ((k,v)::ps) st
abbrev Ug(X:Cx):List Addr->Hp->List (W×W)->List (V×V)->Prop:=fun μ H ws vs=>RelWs X.K μ H (ws.map fun p=>p.1) (vs.map fun p=>p.1)/\RelWs X.K μ H (ws.map fun p=>p.2) (vs.map fun p=>p.2)
structure Ti(X:Cx)(pos:Pos)(keys:List (Option Expr))(jZ:List Expr)(f:FP):Prop where
 h:∃Av,Qs X pos keys jZ Av/\∀σ H Q,tG X (Ug X) f σ H Q->vG Av σ H Q
theorem Nn:Ti X pos [] [] A6:=⟨[],Il,fun σ H Q h=>by
 obtain⟨μ,ρ,st,l,h⟩:=h
 exact h μ [] H (af _) dD.refl l.sto ⟨.nilI,.nilI⟩⟩
theorem I0{k v:Expr}{fk fv:FE}{fr:FP}{vs:List Expr}(hk:SE X k fk)(hv:SE X v fv)(hr:Ti X pos ks vs fr):Ti X pos (some k::ks) (v::vs) (vU fk fv fr):=by
 obtain⟨Av,h1,h2⟩:=hr.h
 refine⟨(tE X fk,tE X fv)::Av,D0 hk.h hv.h h1,fun σ H Q h=>?_⟩
 obtain⟨μ,ρ,st,l,h⟩:=h
 refine⟨μ,ρ,st,l,RK.bind h l fun μ1 st1 x1 v1 H1 p1 e1 l1 q1 h1=>⟨μ1,ρ,st1,l1,RK.bind h1 l1 fun μ2 c7 x2 v2 H2 p2 e2 l2 q2 h2'=>h2 _ _ _ ⟨μ2,ρ,c7,l2,RK.bind h2' l2 fun μ3 jd x3 v3 H3 p3 e3 l3 q3 h3=>?_⟩⟩⟩
 exact h3 μ3 _ H3 (af _) dD.refl l3.sto ⟨.consI (q1.mono (p2.trans p3) (e2.trans e3)) q3.1,.consI (q2.mono p3 e3) q3.2⟩
def keysOf:List (W×W)->Option (List (DK×W))
 |[]=>some []
 |(k,v)::r=>match jP k,keysOf r with
  |some k,some r=>some ((k,v)::r)
  |_,_=>none
theorem uW:∀{ps:List (W×W)} {kvs:List (DK×W)} {vs:List (V×V)},keysOf ps=some kvs->RelWs K μ H (ps.map fun p=>p.1) (vs.map fun p=>p.1)->RelWs K μ H (ps.map fun p=>p.2) (vs.map fun p=>p.2) ->
  ∃us,vs=(dV kvs us).map (fun kv=>(kV kv.1,kv.2))/\RelWs K μ H (kvs.map fun p=>p.2) us
 |[],kvs,vs,h,r1,r2=>by
  cases h
  have:vs=[]:=by simpa using r1.nilE
  subst this
  exact⟨[],rfl,.nilI⟩
 |(k,v)::r,kvs,vs,h,r1,r2=>by
  unfold keysOf at h
  cases e1:jP k with
  |none=>rw[e1]at h;cases h
  |some k'=>
   cases e2:keysOf r with
   |none=>rw[e1,e2]at h;cases h
   |some r'=>
    rw[e1,e2]at h
    cases h
    cases vs with
    |nil=>obtain⟨_,_,z,_⟩:=r1.consE;cases z
    |cons q vs=>
     obtain⟨x,xs,z,a1,b1⟩:=r1.consE
     cases z
     obtain⟨x,xs,z,a2,b2⟩:=r2.consE
     cases z
     obtain⟨us,f1,f2⟩:=uW e2 b1 b2
     refine⟨q.2::us,?_,.consI a2 f2⟩
     obtain⟨q1,q2⟩:=q
     show(q1,q2)::vs=(kV k'.key,q2)::_
     rw[f1,show q1=kV k'.key from pO e1 a1]
     rfl
def zK(acc kvs:List (DK×W)):List (DK×W):=kvs.foldl (fun acc p=>sJ acc p.1 p.2) acc
theorem xX:∀{kvs acc:List (DK×W)} {vs us:List V},RelWs K μ H (kvs.map fun p=>p.2) vs->RelWs K μ H (acc.map fun p=>p.2) us->∃zs,nr (dV acc us) (dV kvs vs)=dV (zK acc kvs) zs/\RelWs K μ H ((zK acc kvs).map fun p=>p.2) zs
 |[],acc,vs,us,r1,r2=>⟨us,rfl,r2⟩
 |p::kvs,acc,vs,us,r1,r2=>by
  obtain⟨x,xs,rfl,a,b⟩:=RelWs.consE r1
  obtain⟨zs,e,q⟩:=Ez (k:=p.1) r2 a
  obtain⟨ys,e2,q2⟩:=xX b q
  refine⟨ys,?_,q2⟩
  show nr (mZ (dV acc us) p.1.key x) (dV kvs xs)=_
  rw[e,e2];rfl
def A7(f:FP):FE:=fun ρ st=>(f ρ (st++[.dct []])).bind fun ps c7=>match c7[st.length]?,keysOf ps with
 |some (.dct []),some kvs=>if kvs.length<=15 then .ok (.loc st.length) (c7.set st.length (.dct (zK [] kvs)))else .bad
 |_,_=>.bad
theorem No{keys:List (Option Expr)}{jZ:List Expr}{f:FP}(h:Ti X pos keys jZ f)(m8:keys.all (·.isSome)=true:=by rfl)(hl:keys.length=jZ.length:=by rfl)(h0:keys≠[]:=by intro z;cases z)(Uo:keys.length<=15:=by decide) :
  SE X (.Dict keys jZ pos) (A7 f):=by
 obtain⟨Av,h1,h2⟩:=h.h
 refine⟨(Im h1 m8 hl h0 Uo).imp fun σ H Q hh=>?_⟩
 obtain⟨μ,ρ,st,l,hh⟩:=hh
 intro p hp
 have hs:nZ H (eL H p (.dK [])):=cD hp _
 have S0:fY X.K X.mg (μ++[p]) (st++[.dct []]) (eL H p (.dK [])):=l.sto.push (c:=.dct []) hp ⟨[],dG,.nilI⟩
 have l0:Rl X (μ++[p]) ρ (st++[.dct []]) σ (eL H p (.dK [])):=l.to (ao _ _) (fy.same hs) S0
 refine h2 σ _ _ ⟨μ++[p],ρ,st++[.dct []],l0,RK.bind (RK.mono hh (ao _ _) (fy.same hs)) l0 fun μ2 c7 ps vs H2 p2 e2 l2 q2 h2'=>?_⟩
 have hm:μ2[st.length]?=some p:=L2.pre_get p2 (by rw[l.sto.len];simp)
 split at h2'
 ·rename_i kvs ec ek
  split at h2'
  ·rename_i hle
   obtain⟨us,f1,f2⟩:=uW ek q2.1 q2.2
   have hd:H2 p=some (.dK []):=by
    obtain⟨a,g,vs0,k,_⟩:=l2.sto.get ec
    rw[hm]at g;cases g
    exact k
   obtain⟨zs,g1,g2⟩:=xX (acc:=[]) (us:=[]) f2 .nilI
   have dq:(dV kvs us).length=kvs.length:=qC f2
   refine⟨hd,dV kvs us,f1,by rw[dq];exact hle,?_⟩
   rw[show nr ([]:List (fZ×V)) (dV kvs us)=_ from g1]
   exact h2' μ2 (.ref p) _ (af _) (fy.butD fL hd) (l2.sto.setD ec hm hd g2) (.locI hm)
  ·exact h2'.elim
 ·exact h2'.elim
def A8(fo fk:FE):FE:=fun ρ st=>(fo ρ st).bind fun x st=>match rf st x with
 |some _=>(fk ρ st).bind fun y st=>(match rf st x,jP y with
  |some (n,kvs),some k=>ou (jx kvs k) fun w=>.ok w (st.set n (.dct (jQ kvs k)))
  |_,_=>.bad)
 |none=>.bad
theorem Np(ho:SE X o fo)(he:SE X e fe)(m:M1 X o "pop" fK e dk:=by exact⟨by rfl,by rfl,by rfl,by rfl⟩):SE X (.Call (.Attribute o "pop" fK) [e] [] dk) (A8 fo fe):=⟨(D1 ho.h he.h m).imp fun σ H Q h=>by
 obtain⟨μ,ρ,st,l,h⟩:=h
 refine⟨μ,ρ,st,l,RK.bind h l fun μ1 st1 x v H1 p1 x1 l1 q1 h1=>?_⟩
 cases e0:rf st1 x with
 |none=>rw[e0]at h1;exact h1.elim
 |some nk0=>
  obtain⟨n0,kvs0⟩:=nk0
  rw[e0]at h1
  simp only at h1
  obtain⟨a0,vs0,_,hm0,rfl,ha0,_⟩:=rF l1.sto e0 q1
  refine⟨a0,rfl,.inl ⟨_,.inl ha0⟩,μ1,ρ,st1,l1,RK.bind h1 l1 fun μ2 c7 y u H2 p2 x2 l2 q2 h2=>?_⟩
  cases e1:rf c7 x with
  |none=>rw[e1]at h2;exact h2.elim
  |some nk=>
   obtain⟨n,kvs⟩:=nk
   cases e2:jP y with
   |none=>rw[e1,e2]at h2;exact h2.elim
   |some k=>
    rw[e1,e2]at h2
    simp only at h2
    obtain⟨a,vs,hn,hm,ea,ha,r⟩:=rF l2.sto e1 (q1.mono p2 x2)
    cases ea
    have:=pO e2 q2
    subst this
    rcases sK k r with⟨w,z,g1,g2,g3⟩|⟨g1,g2⟩
    ·rw[g1]at h2
     obtain⟨us,f1,f2⟩:=A5 (k:=k) r
     refine⟨_,k.key,z,ha,rfl,g2,?_⟩
     rw[f1]
     exact h2 μ2 z _ (af _) (fy.butD fL ha) (l2.sto.setD hn hm ha f2) (g3.mono (af _) (fy.butD fL ha))
    ·rw[g1]at h2;exact h2.elim⟩
end
def rg(h:Heap)(mg:Str->Option Value):Prop:=∃bm o,mg "__builtins__"=some (.ref bm)/\bm≠builtinsNs/\h.get? bm=some o/\o.cls=.type "module"/\o.dict=some builtinsNs/\o.data=.plain
structure Ks(ts:List Addr)(H:Hp):Prop where
 all:∀b,H b=none\/(∃o xs,H b=some (.frz o (.lst xs)))\/(b∈ts/\H b=some (.tbl #[]))
 tab:∀T∈ts,H T=some (.tbl #[])
theorem CO{P:Program}{w:World}{mb:Str->Option Value}{CX:Dv}{k:Nat}{fa:Addr}{fd:FuncData}{sp:Sp}{s₁:Shared}{vs:List Value}{ts:List Addr}
  (KX:K.In s₁.heap) (Hr:s₁.heap.Ns mainGlobals mg) (hb:s₁.heap.Ns builtinsNs mb) (Vm:∀x:Str,x ≠ "__name__"->mb x=bootBuiltins x) (Uu:s₁.heap.NoLimit) (hg:s₁.gens=#[])
  (ha:s₁.heap.get? a=some { cls:=.type "list",data:=.seq vs.toArray }) (hi:IntsAre vs ns) (hl:ns.length<=sizeLine) (hr:gD k callerA)
  (ht:∀T∈ts,s₁.heap.get? T=some { cls:=.none,data:=.fields #[] }) (Uy:∀T∈ts,K.lookup T=none) (Tt:∀T∈ts,isCodeTable s₁.heap T)
  (Vf:rg s₁.heap mg) (F:∀base:Heap,K.In base->base.Ns mainGlobals mg->rg base mg->eQ P w K mg base CX k fa fd [x] sp) (S_:∀(s:Shared) (u:Value),BindsTo s fd ⟨[u],[]⟩ [(x,u)])
  (LM:∀H:Hp,Ks ts H->qr K H a (ns.map V.int)->sp [.ref a] H (fun v _=>v=.bl true) fun _ _ _=>False)
  (Vn:∀H e s',CX [] H s₁ (fun _ _ _=>False) e s'->False) :
  codeAny (model P w) callerA (.call (.ref fa) ⟨[.ref a],[]⟩) (fun r s'=>r=.ok (.ret (.bool true))/\OldK s₁.heap s'.heap/\s'.os=s₁.os/\AllBare s'.gens) s₁:=by
 have rv:=uI hi
 have lenV:=hi.length
 have hta:∀T∈ts,T≠a:=fun T hT z=>by
  have:=ht T hT
  rw[z,ha]at this
  have h2:=dJ Obj.cls (a7 this)
  cases h2
 have core:∀H:Hp,Ks ts H->qr K H a (ns.map V.int)->kw P w H s₁.heap->(∀b,H b≠none->b=a\/b∈ts)->(H a≠none->K.lookup a=none) ->
   codeAny (model P w) callerA (.call (.ref fa) ⟨[.ref a],[]⟩) (fun r s'=>r=.ok (.ret (.bool true))/\OldK s₁.heap s'.heap/\s'.os=s₁.os/\AllBare s'.gens) s₁:=by
  intro H hO hS hok hA hK
  have base_of:∀{b:Addr} {o:Obj},s₁.heap.get? b=some o->H b=none->(t6 s₁.heap H).get? b=some o:=fun e n=>DE e n
  have noA:∀{b:Addr} {o:Obj} {es:Array DictEntry} {ep:Nat},s₁.heap.get? b=some o->o.data=.dict es ep->H b=none:=fun{b o es ep} e d=>by
   cases q:H b with
   |none=>rfl
   |some u=>
    rcases hA b (by rw[q];simp)with e'|e'
    ·subst e'
     rw[ha]at e;cases e
     have d':Data.seq vs.toArray _=Data.dict es ep:=d
     cases d'
    ·rw[ht b e']at e;cases e
     have d':Data.fields _=Data.dict es ep:=d
     cases d'
  have nsK:∀{b:Addr} {m:Str->Option Value},s₁.heap.Ns b m->(t6 s₁.heap H).Ns b m:=fun{b m} ⟨o,es,ep,e,d,r⟩=>⟨o,es,ep,base_of e (noA e d),d,r⟩
  have hKb:K.In (t6 s₁.heap H):=fun b o e=>base_of (KX b o e) (by
   cases q:H b with
   |none=>rfl
   |some u=>
    rcases hA b (by rw[q];simp)with e'|e'
    ·subst e'
     rw[hK (by rw[q];simp)]at e;cases e
    ·rw[Uy b e']at e;cases e)
  have hbk':rg (t6 s₁.heap H) mg:=by
   obtain⟨bm,o,b1,b2,b3,b4,b5,b6⟩:=Vf
   refine⟨bm,o,b1,b2,base_of b3 ?_,b4,b5,b6⟩
   cases q:H bm with
   |none=>rfl
   |some u=>
    rcases hA bm (by rw[q];simp)with e'|e'
    ·subst e'
     rw[ha]at b3;cases b3;exact absurd b4 (by simp)
    ·rw[ht bm e']at b3;cases b3;cases b4
  have hM:Mod K mg (t6 s₁.heap H):=⟨hKb,nsK Hr,⟨mb,nsK hb,Vm⟩,let ⟨mc,h1,h2⟩:=Uu;⟨mc,nsK h1,h2⟩⟩
  have e0:xa P w K mg (t6 s₁.heap H) callerA [] s₁ H:=⟨rfl,hM,fun b o e=>HI e,Nat.le_of_eq (B6 _ _),trivial,fun b hb=>absurd (show b∈([]:List Addr)from hb) (by simp),hok,.of_eq hg⟩
  refine il ((F _ hKb (nsK Hr) hbk').run callerA [] s₁ H ⟨[.ref a],[]⟩ [.ref a] [.ref a] _ _ hr e0 (S_ s₁ (.ref a)) (.cons rfl .nil) (LM H hO hS)) fun r s' h=>?_
  cases r with
  |error e=>exact(Vn H e s' h).elim
  |ok fl=>
   cases fl with
   |next=>exact False.elim h
   |brk=>exact False.elim h
   |cont=>exact False.elim h
   |ret u=>
    obtain⟨v,H',os,bare,un,hok',r',q⟩:=h
    have q':v=.bl true:=q
    subst q'
    obtain rfl:u=Value.bool true:=r'
    have was:∀b o,s₁.heap.get? b=some o->asItWas s₁.heap s'.heap b o/\∃o',s'.heap.get? b=some o':=fun b o e=>by
     cases q:H b with
     |none=>
      have:=un.keep b o e q (by intro z;exact absurd (show b∈([]:List Addr)from z) (by simp)) (by simp)
      exact⟨.inl this,_,this⟩
     |some u=>
      rcases hO.all b with z|⟨ob,xs,z⟩|⟨hbt,z⟩
      ·rw[q]at z;cases z
      ·have z2:=un.frzs b ob _ z
       obtain⟨e1,_⟩:=hok b _ z
       obtain⟨e2,_⟩:=hok' b _ z2
       rw[e]at e1;cases e1
       exact⟨.inl e2,_,e2⟩
      ·obtain⟨j0,z2⟩:=un.tbls b _ z
       have e2:s'.heap.get? b=some { cls:=.none,data:=.fields (#[]++j0) }:=hok' b _ z2
       rw[ht b hbt]at e
       cases e
       exact⟨.inr (.inl ⟨Tt b hbt,rfl,#[],j0,rfl,e2⟩),_,e2⟩
    exact⟨rfl,⟨fun b o e=>(was b o e).1,fun b o e=>(was b o e).2⟩,os,bare⟩
 have tb:∀(f:Hp),(∀T∈ts,f T=some (.tbl #[]))->∀T∈ts,eO P w f s₁.heap T (.tbl #[]):=fun f _ T hT=>ht T hT
 have dec:∀b:Addr,b∈ts\/b∉ts:=fun b=>Classical.em _
 open Classical in
 cases hk:K.lookup a with
 |some o=>
  have e:=KX a o hk
  rw[ha]at e
  cases e
  refine core (fun b=>if b∈ts then some (.tbl #[])else none) ⟨fun b=>?_,fun T hT=>ay hT⟩ (.inr ⟨_,vs.toArray,_,hk,rfl,rfl,rfl,by rw[aD,lenV];exact hl,by simpa using rv⟩) (fun b u z=>?_) (fun b z=>?_) (fun z=>?_)
  ·by_cases hb:b∈ts
   ·exact .inr (.inr ⟨hb,ay hb⟩)
   ·exact .inl (aC hb)
  ·by_cases hb:b∈ts
   ·have z':=(ay hb).symm.trans z
    cases z'
    exact ht b hb
   ·have z':=(aC hb).symm.trans z
    cases z'
  ·by_cases hb:b∈ts
   ·exact .inr hb
   ·exact absurd (aC hb) z
  ·exact absurd (aC (fun q=>hta a q rfl)) z
 |none=>
  refine core (fun b=>if b=a then some (.frz { cls:=.type "list",data:=.seq vs.toArray } (.lst (ns.map V.int)))else if b∈ts then some (.tbl #[])else none) ⟨fun b=>?_,fun T hT=>(aC (hta T hT)).trans (ay hT)⟩ (.inl (.inr ⟨{ cls:=.type "list",data:=.seq vs.toArray },ay rfl⟩)) (fun b u z=>?_) (fun b z=>?_) (fun _=>hk)
  ·by_cases hb:b=a
   ·exact .inr (.inl ⟨_,_,ay hb⟩)
   ·by_cases hb2:b∈ts
    ·exact .inr (.inr ⟨hb2,(aC hb).trans (ay hb2)⟩)
    ·exact .inl ((aC hb).trans (aC hb2))
  ·by_cases hb:b=a
   ·have z':=(ay hb).symm.trans z
    cases z'
    subst hb
    exact⟨ha,by rw[ai];exact hl,vs,_,rv,ha⟩
   ·by_cases hb2:b∈ts
    ·have z':=((aC hb).trans (ay hb2)).symm.trans z
     cases z'
     exact ht b hb2
    ·have z':=((aC hb).trans (aC hb2)).symm.trans z
     cases z'
  ·by_cases hb:b=a
   ·exact .inl hb
   ·by_cases hb2:b∈ts
    ·exact .inr hb2
    ·exact absurd ((aC hb).trans (aC hb2)) z
def EA(tc:List aj)(F:List W->List aj->R W):Prop:=∀ns:List Int,ns.length<=63->∃bx,F [.loc 0] (.ro (ns.map W.int)::tc)=.ok (.bl true) bx
def rh(L:List (Addr×Pos×Str)):List aj:=L.map fun t=>.tab t.1 t.2.1 t.2.2
theorem walkT{l:PySem.W.OpenLaw}{k:Nat}{q:Program}{BX:List Str}{XP:(Str->Option Value)->Heap->Prop}{d:DefRec}{K:Params->Frag}{x:Str}{G:List W->List aj->R W}(L:List (Addr×Pos×Str))(hL:(L.map fun t=>t.1).Nodup)(hn:l.most=some 63)(Us:d.params.defaults=[])(hr:gD k callerA)
  (hY:∀(w:World) (h:Heap),YP w h->(K w.params).In h) (hT:∀(w:World) (h:Heap),YP w h->∀T∈L.map (fun t=>t.1),h.get? T=some { cls:=.none,data:=.fields #[] })
  (Uy:∀(w:World),∀T∈L.map (fun t=>t.1),(K w.params).lookup T=none) (Tt:∀(w:World),∀T∈L.map (fun t=>t.1),∃c,codeHdIn (K w.params) c T=true)
  (F:∀(w:World) (mg:Str->Option Value) (fa:Addr) (h:Heap),(K w.params).In h->h.Ns mainGlobals mg->mg d.name=some (.ref fa) ->
   ∃fd:FuncData,(∀(s:Shared) (u:Value),BindsTo s fd ⟨[u],[]⟩ [(x,u)])/\∀base:Heap,(K w.params).In base->base.Ns mainGlobals mg->rg base mg->eQ l.prog w (K w.params) mg base (iU l.prog w) k fa fd [x] (jN (K w.params) mg 1 G))
  (ok:EA (rh L) G):PySem.W.WalkO q BX XP YP l.row.toRowW d [] (fun f vs=>PySem.call f vs):=by
 refine Att.attach_call hn Us fun w s₀ s₁ mg mb fa o pm cd iM a vs ns G' Y ho hd lD hmg hobj hints dq hg=>?_
 have KX:=hY w _ Y
 obtain⟨fd,hb,hF⟩:=F w mg fa _ KX G'.T.g hmg
 refine CO (ts:=L.map fun t=>t.1) (CX:=iU l.prog w) (sp:=jN (K w.params) mg 1 G) KX G'.T.g G'.T.b G'.T.builtins G'.T.nolimit hg hobj hints (bu dq (by decide)) hr (hT w _ Y) (Uy w) (fun T hT'=>?_) G'.T.bmain hF hb (fun H hO hS=>?_) fun H e s' z=>?_
 ·obtain⟨c,hc⟩:=Tt w T hT'
  obtain⟨o,vs,_,_,_,_,_,_,_,e1,e2,e3,e4,_⟩:=PySem.W.codeHd_of_K KX hc
  exact⟨c,o,vs,e1,e2,e3,e4⟩
 ·obtain⟨bx,e⟩:=ok ns dq
  have tQ:Tf (K w.params) H a (ns.map V.int):=by
   rcases hS with(z|⟨o,z⟩)|z
   ·rcases hO.all a with y|⟨o,xs,y⟩|⟨_,y⟩
    ·rw[z]at y;cases y
    ·rw[z]at y;cases y
    ·rw[z]at y;cases y
   ·exact .inl ⟨o,z⟩
   ·exact .inr z
  have hta:∀T∈L.map (fun t=>t.1),T≠a:=fun T hT' z=>by
   have:=hT w _ Y T hT'
   rw[z,hobj]at this
   have h2:=dJ Obj.cls (a7 this)
   cases h2
  have hri:∀μ:List Addr,RelWs (K w.params) μ H (ns.map W.int) (ns.map V.int):=fun μ=>by
   clear hS tQ e dq hints
   induction ns with
   |nil=>exact .nilI
   |cons n r ih=>exact .consI .int ih
  refine⟨rfl,a::L.map (fun t=>t.1),[.loc 0],.ro (ns.map W.int)::rh L,⟨fun i j b ci cj c1 c2 r1 r2 m1 m2=>?_,by simp[rh],fun i c b c1 c2=>?_⟩,.consI (.locI rfl) .nilI,?_⟩
  ·cases i with
   |zero=>cases c1;cases r1
   |succ i=>
    cases j with
    |zero=>cases c2;cases r2
    |succ j=>
     simp only[hZ]at m1 m2
     rw[(List.getElem?_inj (aa.mp m1).1 hL).mp (m1.trans m2.symm)]
  ·cases i with
   |zero=>cases c1;cases c2;exact⟨_,tQ,hri _⟩
   |succ i=>
    simp only[hZ]at c1 c2
    unfold rh at c1
    rw[ak]at c1 c2
    cases e1:L[i]? with
    |none=>rw[e1]at c1;cases c1
    |some t=>
     rw[e1]at c1 c2
     cases c1;cases c2
     exact⟨rfl,#[],hO.tab _ (al.mpr ⟨t,am e1,rfl⟩),trivial,.inl rfl⟩
  ·rw[e]
   intro μ' v H' _ _ _ rv
   exact rv.blE
 ·obtain⟨_,_,_,_,_,_,z,_⟩:=z
  exact z
structure EB(en dn:Str)(pr:Arguments)(b:Expr)(sc:Scope):Prop where
 co:sc.isCoroutine=false
 gen:sc.isGenerator=false
 kind:sc.kind=.function
 cell:∀x∈sc.names,x.2≠.cell
 ke:sc.names.lookup en=some .local
 kd:sc.names.lookup dn=some .free
 bind:∀(nm q:Str) (cl:List (Str×Addr)) (pm ga ct v:Value),bindArgs (PySem.W.kla_fn nm q pr b sc cl pm ga ct) ⟨[v],[]⟩=pure [(en,v)]
 nd:(dn==("__classdict__":Str))=false
 d1:(en==("__debug__":Str))=false
 d2:(dn==("__debug__":Str))=false
section
theorem xY{c0:Addr}{en dn nm q:Str}{pr:Arguments}{p3 p4:Pos}{pm ct:Value}{kvs:List (fZ×V)}{k:fZ}
  (T:EB en dn pr (.Subscript (.Name dn p2) (.Name en p3) p4) sc) (I:bw X pins σ H s)
  (hf:s.heap.get? f=some (kla_obj nm q pr (.Subscript (.Name dn p2) (.Name en p3) p4) sc [(dn,c0)] pm cd ct)) (lD:s.heap.CodeRec (.ref cd) q)
  (J4:s.heap.IsCell c0 (some (.ref a))) (ha:H a=some (.dK kvs)) (hv:jL kvs k=some v) (ru:bS (kV k) u) (vn:A.depth<recursionLimit) (hu:A.units+8<cLine)
  (h:∀z h' t,(∀b o,s.heap.get? b=some o->h'.get? b=some o)->bw X pins σ H { s with heap:=h',toks:=t }->bS v z->Q z { s with heap:=h',toks:=t }) :
  wpAny (model X.prog X.w) A (call (.ref f) [u]) Q E s:=by
 refine mI ?_
 refine PySem.W.kla_callFunE vn hf rfl T.co T.gen rfl lD ?_
 rw[T.bind]
 refine ax (wpAny_newFunctionEnv T.cell (fun y hy=>?_) (fun h₁ Hr hsb=>?_) T.kind)
 ·have:y=(en,u):=by simpa using hy
  rw[this];exact T.ke
 ·have hk1:∀b o,s.heap.get? b=some o->h₁.get? b=some o:=fun b o e=>hsb.extBut b o (bE (aH e)) (ar _ e)
  have I1:bw X pins σ H { s with heap:=h₁,toks:=s.toks+[(en,u)].length }:=I.kept hk1
  refine⟨I1.nolimit,PySem.W.kla_codeExpr ?_⟩
  obtain⟨z0,hd,vs,i9,dd⟩:=oh I1.hok (.inl ha)
  refine vF PySem.F.slot_dict_getitem.lookup (fun _ _=>rfl) (mw ?_ T.d2)
  refine wpAny_loadName_free (c:=c0) (v:=.ref a) T.kind ?_ ?_ (J4.keeps hk1) ?_ T.nd
  ·show List.lookup dn sc.names=some .free
   exact T.kd
  ·show List.lookup dn [(dn,c0)]=some c0
   simp[List.lookup]
  refine mw ?_ T.d1
  refine wpAny_loadName_local (v:=u) T.kind ?_ Hr ?_ ?_
  ·show List.lookup en sc.names=some .local
   exact T.ke
  ·simp[List.lookup]
  obtain⟨z,hz,rz⟩:=pz.some_of (v:=v) (o:=valueAt vs k) (by rw[<- hv];exact i9.val k)
  refine⟨dd.typeIs,lT (rZ ru) dd.mapOf hz ?_⟩
  exact h z h₁ _ hk1 (I1.tok _) rz
def jS(kf:Nat->List Int):Nat->Nat
 |0=>0
 |j+1=>if HT.lexLt (kf (j+1)) (kf (jS kf j))=true then j+1 else jS kf j
theorem vV(kf:Nat->List Int):∀j,jS kf j<=j
 |0=>aw _
 |j+1=>by unfold jS;have:=vV kf j;split<;>omega
theorem A9{w:World}{k:fZ}{v:Value}(h:(eU P w).is k v=true):bS (kV k) v:=by
 rcases eY h with⟨i,t,rfl,rfl⟩|⟨x,t,rfl,rfl⟩
 ·exact⟨t,rfl⟩
 ·exact⟨t,rfl⟩
structure nB(X:Cx)(pins:List (Addr×Obj))(σ:St)(H:Hp)(s:Shared)(f c0 cd a it:Addr)(fo:Obj)(q:Str)(vs:List (fZ×Value))(ep j:Nat):Prop where
 inv:bw X pins σ H s
 fn:s.heap.get? f=some fo
 code:s.heap.CodeRec (.ref cd) q
 cell:s.heap.IsCell c0 (some (.ref a))
 dict:s.heap.DictAt (eU X.prog X.w) a vs ep
 iter:s.heap.IsKeyIter it a j vs.length ep
theorem nB.go{c0:Addr}{fo:Obj}{q:Str}{vs:List (fZ×Value)}{ep j':Nat}{b0:Addr}(M:nB X pins σ H s f c0 cd a it fo q vs ep j)(I:bw X pins σ H { s with heap:=h',toks:=t' })
  (k:∀b o,b≠b0->s.heap.get? b=some o->h'.get? b=some o) (n1:f≠b0) (n2:cd≠b0) (n3:c0≠b0) (n4:a≠b0) (hi:h'.IsKeyIter it a j' vs.length ep):nB X pins σ H { s with heap:=h',toks:=t' } f c0 cd a it fo q vs ep j':=by
 obtain⟨c2,oc,ws,tt,e2,hoc,hd,hv⟩:=M.code
 cases e2
 refine⟨I,k f _ n1 M.fn,⟨_,oc,ws,tt,rfl,k _ _ n2 hoc,hd,hv⟩,?_,M.dict.at' fun o e=>k a o n4 e,hi⟩
 obtain⟨o,ho,hd⟩:=M.cell
 exact⟨o,k c0 o n3 ho,hd⟩
theorem EC{c0 ls:Addr}{en dn nm q:Str}{pr:Arguments}{p3 p4:Pos}{pm ct:Value}{kvs:List (fZ×V)}{vs:List (fZ×Value)}{ep:Nat}{kf:Nat->List Int}{tv:Nat->Addr}{R:Result->Shared->Prop}{g0:Array GenState}{d0:Drawn}{rR:OsState}
  (T:EB en dn pr (.Subscript (.Name dn p2) (.Name en p3) p4) sc) (hh:A.handled=none) (vn:A.depth<recursionLimit) (hu:A.units+16<cLine) (ha:H a=some (.dK kvs)) (i9:KV kvs vs) (kE:(kvs.map (·.1)).Nodup)
  (AD:∀(i:Nat) (k:fZ) (x:V),kvs[i]?=some (k,x)->x=.ref (tv i)/\fy X.K H (tv i) ((kf i).map V.int))
  (wV:pA X pins H it) (wW:pA X pins H ls) (O8:it≠ls) (nf:f≠it/\f≠ls) (Pz:cd≠it/\cd≠ls) (PB:c0≠it/\c0≠ls)
  (hR:∀v h t k x,kvs[jS kf (kvs.length-1)]?=some (k,x)->bS (kV k) v->bw X pins σ H ⟨h,g0,d0,t,rR⟩->R (.ok (.ret v)) ⟨h,g0,d0,t,rR⟩) :
  ∀(r j:Nat) (h:Heap) (t:Nat) (vb:Value) (c:Nat),kvs.length-(j+1)=r->j+1<=kvs.length->nB X pins σ H ⟨h,g0,d0,t,rR⟩ f c0 cd a it (kla_obj nm q pr (.Subscript (.Name dn p2) (.Name en p3) p4) sc [(dn,c0)] pm cd ct) q vs ep (j+1) ->
   h.get? ls=some (seqObj "list" #[vb,.ref (tv (jS kf j))] c)->(∀k x,kvs[jS kf j]?=some (k,x)->bS (kV k) vb) ->
   codeAny (model X.prog X.w) A (.builtin "min.loop" ⟨[.ref it,.ref f,.ref ls],[]⟩) R ⟨h,g0,d0,t,rR⟩:=by
 have hname:(toString "min"++toString ".loop":String)="min.loop":=by decide
 have hna:a≠it/\a≠ls:=⟨fun z=>(by rw[z,wV.1]at ha;cases ha),fun z=>(by rw[z,wW.1]at ha;cases ha)⟩
 have dq:kvs.length=vs.length:=i9.length
 intro r
 induction r with
 |zero=>
  intro j h t vb c hr hj M hls hvb
  have hin:j+1=kvs.length:=by omega
  refine mV PySem.F.entry_min_loop ?_
  rw[ja PySem.F.plain_min_loop _]
  show wpAny _ A.in1 (seqItems? (.ref ls) >>= _) _ _ _
  refine ah (fU hls rfl ?_)
  show wpAny _ A.in1 (tryCatch (pyNext (.ref it)) _ >>= _) _ _ _
  refine ah (gI (wpAny_pyNext_dict_end hh M.iter M.dict (by rw[gq];omega) fun h1 hk1=>?_))
  have I1:bw X pins σ H ⟨h1,g0,d0,t,rR⟩:=M.inv.turned (it:=it) (fun b o hb e=>hk1 b o hb e) wV.1 wV.2.1 wV.2.2.2.1 wV.2.2.2.2.1 wV.2.2.2.2.2
  have hls1:=hk1 ls _ (Ne.symm O8) hls
  show wpAny _ A.in1 (updateSeq ls (fun _=>#[]) >>= _) _ _ _
  refine ah ?_
  refine jn hls1 rfl (ah (kT (ax ?_)))
  have sb:=cK h1 ls (Obj.mapSeq fun _=>(#[]:Array Value))
  obtain⟨⟨k,x⟩,hx⟩:∃p,kvs[jS kf j]?=some p:=⟨_,ac (by have:=vV kf j;omega)⟩
  refine hR vb _ _ k x (by rw[show kvs.length-1=j by omega];exact hx) (hvb k x hx) ?_
  exact I1.turned (it:=ls) (fun b o hb e=>sb.extBut b o hb e) wW.1 wW.2.1 wW.2.2.2.1 wW.2.2.2.2.1 wW.2.2.2.2.2
 |succ r ih=>
  intro j h t vb c hr hj M hls hvb
  have hlt:j+1<kvs.length:=by omega
  obtain⟨⟨k,x⟩,hx⟩:∃p,kvs[j+1]?=some p:=⟨_,ac hlt⟩
  obtain⟨⟨k',y⟩,hy⟩:∃p,vs[j+1]?=some p:=⟨_,ac (by omega)⟩
  have ek:k=k':=by
   have:=dJ (fun l:List fZ=>l[j+1]?) i9.keys
   simp only[ak,hx,hy]at this
   exact a7 this
  subst ek
  obtain⟨rfl,hS⟩:=AD (j+1) k x hx
  refine mV PySem.F.entry_min_loop ?_
  rw[ja PySem.F.plain_min_loop _]
  show wpAny _ A.in1 (seqItems? (.ref ls) >>= _) _ _ _
  refine ah (fU hls rfl ?_)
  show wpAny _ A.in1 (tryCatch (pyNext (.ref it)) _ >>= _) _ _ _
  refine ah (gI (mK M.iter M.dict hy fun v h1 hv hit1 rq=>?_))
  have rv:bS (kV k) v:=A9 hv
  have I1:bw X pins σ H ⟨h1,g0,d0,t,rR⟩:=M.inv.turned (it:=it) (fun b o hb e=>rq.extBut b o hb e) wV.1 wV.2.1 wV.2.2.2.1 wV.2.2.2.2.1 wV.2.2.2.2.2
  have M1:nB X pins σ H ⟨h1,g0,d0,t,rR⟩ f c0 cd a it _ q vs ep (j+1+1):=M.go (s:=⟨h,g0,d0,t,rR⟩) (b0:=it) I1 (fun b o hb e=>rq.extBut b o hb e) nf.1 Pz.1 PB.1 hna.1 hit1
  have hls1:=rq.extBut ls _ (Ne.symm O8) hls
  have hvk:jL kvs k=some (.ref (tv (j+1))):=by
   unfold jL
   have hm:(k,V.ref (tv (j+1)))∈kvs:=am hx
   cases hf:kvs.find? (fun kv=>decide (kv.1=k))with
   |none=>
    have:=kh.mp hf _ hm
    simp at this
   |some p=>
    have h1:=List.find?_some hf
    have h2:=List.mem_of_find?_eq_some hf
    have e1:p.1=k:=by simpa using h1
    obtain⟨i1,hi1⟩:=aZ h2
    have e2:i1=j+1:=by
     refine(List.getElem?_inj (l:=kvs.map (·.1)) (by rw[ai];exact(aa.mp hi1).1) kE).mp ?_
     rw[ak,ak,hi1,hx]
     show some p.1=some k
     rw[e1]
    subst e2
    rw[hx]at hi1;cases hi1;rfl
  show wpAny _ A.in1 (tryCatch (holding [v] (call (.ref f) [v])) _ >>= _) _ _ _
  refine ah (gI (cF (xY T M1.inv M1.fn M1.code M1.cell ha hvk rv vn (by show A.units+1+8<cLine;omega) fun z h2 t2 DA I2 rz=>?_)))
  obtain rfl:z=Value.ref (tv (j+1)):=rz
  have M2:nB X pins σ H ⟨h2,g0,d0,t2,rR⟩ f c0 cd a it _ q vs ep (j+1+1):=M1.go (s:=⟨h1,g0,d0,t,rR⟩) (b0:=h1.objs.size) I2 (fun b o _ e=>DA b o e)
   (fun q=>by have:=aH M1.fn;rw[q]at this;exact bD _ this) (fun q=>by obtain⟨_,_,_,_,e2,ho,_⟩:=M1.code;cases e2;have:=aH ho;rw[q]at this;exact bD _ this) (fun q=>by have:=M1.cell.lt;rw[q]at this;exact bD _ this)
   (fun q=>by obtain⟨o,_,ho,_⟩:=M1.dict;have:=aH ho;rw[q]at this;exact bD _ this) (by obtain⟨o,ho,r1,r2⟩:=hit1;exact⟨o,DA _ _ ho,r1,r2⟩)
  have hls2:=DA ls _ hls1
  obtain⟨⟨kb,xb⟩,hxb⟩:∃p,kvs[jS kf j]?=some p:=⟨_,ac (by have:=vV kf j;omega)⟩
  obtain⟨rfl,hSb⟩:=AD (jS kf j) kb xb hxb
  obtain⟨bz,r1,p1,_⟩:=I2.tuple hS
  obtain⟨its2,r2,p2,_⟩:=I2.tuple hSb
  have i1:IntsAre bz.toArray.toList (kf (j+1)):=lY r1
  have i2:IntsAre its2.toArray.toList (kf (jS kf j)):=lY r2
  show wpAny _ A.in1 (tryCatch (holding [v,.ref (tv (j+1))] (richCompare .Lt (.ref (tv (j+1))) (.ref (tv (jS kf j))) >>= _)) _ >>= _) _ _ _
  refine ah (gI (cF (ah ?_)))
  refine HT.lt_tupInts p1 p2 i1 i2 (by show A.units+1<cLine;omega) ?_
  refine ah (cF (eJ ?_))
  refine ah (kT (ax ?_))
  by_cases hb:HT.lexLt (kf (j+1)) (kf (jS kf j))=true
  ·have em:jS kf (j+1)=j+1:=by show(if _ then _ else _)=_;rw[ay hb]
   have sb:=cK h2 ls (Obj.mapSeq fun _=>#[v,Value.ref (tv (j+1))])
   obtain⟨c2,hc2⟩:∃c2,(h2.update ls (Obj.mapSeq fun _=>#[v,Value.ref (tv (j+1))])).get? ls=some (seqObj "list" #[v,.ref (tv (j+1))] c2):=⟨_,get?_update_seq hls2 fun _=>#[v,Value.ref (tv (j+1))]⟩
   simp only[hb,fx]
   refine ah ?_
   refine jn hls2 rfl (ah (kT ?_))
   rw[hname]
   have I3:bw X pins σ H ⟨h2.update ls (Obj.mapSeq fun _=>#[v,Value.ref (tv (j+1))]),g0,d0,t2,rR⟩:=I2.turned (it:=ls) (fun b o hb e=>sb.extBut b o hb e) wW.1 wW.2.1 wW.2.2.2.1 wW.2.2.2.2.1 wW.2.2.2.2.2
   have M3:nB X pins σ H ⟨h2.update ls (Obj.mapSeq fun _=>#[v,Value.ref (tv (j+1))]),g0,d0,t2,rR⟩ f c0 cd a it _ q vs ep (j+1+1):=
    M2.go (s:=⟨h2,g0,d0,t2,rR⟩) (b0:=ls) I3 (fun b o hb e=>sb.extBut b o hb e) nf.2 Pz.2 PB.2 hna.2 (by obtain⟨o,ho,r1,r2⟩:=M2.iter;exact⟨o,sb.extBut _ _ O8 ho,r1,r2⟩)
   exact ax ⟨lz PySem.F.plain_min_loop _,ih (j+1) _ _ v c2 (by omega) hlt M3 (by rw[em];exact hc2) fun k2 x2 e2=>by rw[em,hx]at e2;cases e2;exact rv⟩
  ·have em:jS kf (j+1)=jS kf j:=by show(if _ then _ else _)=_;rw[aC hb]
   simp only[hb,cB,gb]
   refine ah (kT ?_)
   rw[hname]
   exact ax ⟨lz PySem.F.plain_min_loop _,ih (j+1) _ _ vb c (by omega) hlt M2 (by rw[em];exact hls2) fun k2 x2 e2=>by rw[em]at e2;exact hvb k2 x2 e2⟩
theorem ED{c0:Addr}{en dn nm q:Str}{pr:Arguments}{p3 p4:Pos}{pm ct:Value}{kvs:List (fZ×V)}{kf:Nat->List Int}{tv:Nat->Addr}
  (T:EB en dn pr (.Subscript (.Name dn p2) (.Name en p3) p4) sc) (hh:A.handled=none) (vn:A.depth<recursionLimit) (hu:A.units+16<cLine) (I:bw X pins σ H s) (ha:H a=some (.dK kvs))
  (hf:s.heap.get? f=some (kla_obj nm q pr (.Subscript (.Name dn p2) (.Name en p3) p4) sc [(dn,c0)] pm cd ct)) (lD:s.heap.CodeRec (.ref cd) q) (J4:s.heap.IsCell c0 (some (.ref a))) (lu:0<kvs.length)
  (AD:∀(i:Nat) (k:fZ) (x:V),kvs[i]?=some (k,x)->x=.ref (tv i)/\fy X.K H (tv i) ((kf i).map V.int))
  (hQ:∀v h t k x,kvs[jS kf (kvs.length-1)]?=some (k,x)->bS (kV k) v->bw X pins σ H { s with heap:=h,toks:=t }->Q v { s with heap:=h,toks:=t }) :
  wpAny (model X.prog X.w) A (call (.builtin "min") [.ref a] [(Str.ofString "key",.ref f)]) Q E s:=by
 have hname:(toString "min"++toString ".loop":String)="min.loop":=by decide
 obtain⟨hz,hsys,vs,i9,o,es,ep,hdo⟩:=oh I.hok (.inl ha)
 have dd:s.heap.DictAt (eU X.prog X.w) a vs ep:=⟨o,es,hdo⟩
 have kE:(kvs.map (·.1)).Nodup:=by rw[i9.keys];exact hdo.2.2.2.2.2
 have dq:kvs.length=vs.length:=i9.length
 obtain⟨h0,g0,d0,t0,rR⟩:=s
 refine kmk_tree PySem.F.kind_min PySem.F.plain_min PySem.F.entry_min (kmk_min_key _ _) ?_
 show wpAny _ A.in1 (Builtin.Builtins.bindParams "min" ["key","default"] 0 ⟨[],[(Str.ofString "key",.ref f)]⟩ >>= _) _ _ _
 refine ah (wpAny_of_eq (show Builtin.Builtins.bindParams "min" ["key","default"] 0 ⟨[],[(Str.ofString "key",.ref f)]⟩=pure [some (.ref f),none]from rfl) ?_)
 refine ah (ax ?_)
 refine ah (wpAny_pyIter_dict hsys dd ?_)
 refine ah (wpAny_newList ?_ (dB _))
 rw[hname]
 dsimp only
 generalize hG1:h0.push { cls:=.type "dict_keyiterator",data:=.fields #[.ref a,.int 0 0,.int vs.length 0,.int ep 0] }=G1
 have sz1:G1.objs.size=h0.objs.size+1:=by rw[<- hG1,j9]
 have k1:∀b o,h0.get? b=some o->(G1.push { cls:=.type "list",data:=.seq ([]:List Value).toArray }).get? b=some o:=fun b o e=>ar _ (hG1▸ar _ e)
 have git:(G1.push { cls:=.type "list",data:=.seq ([]:List Value).toArray }).get? h0.objs.size=some { cls:=.type "dict_keyiterator",data:=.fields #[.ref a,.int 0 0,.int vs.length 0,.int ep 0] }:=ar _ (hG1▸aU _ rfl)
 have gls:(G1.push { cls:=.type "list",data:=.seq ([]:List Value).toArray }).get? G1.objs.size=some (seqObj "list" #[] 0):=aU _ rfl
 generalize hG2:G1.push { cls:=.type "list",data:=.seq ([]:List Value).toArray }=G2 at k1 git gls
 have I2:bw X pins σ H ⟨G2,g0,d0,t0,rR⟩:=I.kept k1
 have O8:h0.objs.size≠G1.objs.size:=by omega
 have wV:pA X pins H h0.objs.size:=I.fpOk (aw _) I.fresh
 have wW:pA X pins H G1.objs.size:=I.fpOk (by show h0.objs.size<=_;omega) (I.hok.fresh (by show h0.objs.size<=_;omega))
 have old:∀b o,h0.get? b=some o->b≠h0.objs.size/\b≠G1.objs.size:=fun b o e=>⟨bE (aH e),bE (by rw[sz1];exact gz (aH e))⟩
 obtain⟨c2,oc,ws,tt,e2,hoc,hdc,hvc⟩:=id lD
 cases e2
 obtain⟨oc0,hoc0,hdc0⟩:=id J4
 have M0:nB X pins σ H ⟨G2,g0,d0,t0,rR⟩ f c0 cd a h0.objs.size (kla_obj nm q pr (.Subscript (.Name dn p2) (.Name en p3) p4) sc [(dn,c0)] pm cd ct) q vs ep 0:=
  ⟨I2,k1 _ _ hf,⟨_,oc,ws,tt,rfl,k1 _ _ hoc,hdc,hvc⟩,J4.keeps k1,dd.at' fun o e=>k1 a o e,⟨_,git,rfl,rfl⟩⟩
 refine ax ⟨lz PySem.F.plain_min_loop _,?_⟩
 obtain⟨⟨k,x⟩,hx⟩:∃p,kvs[0]?=some p:=⟨_,ac lu⟩
 obtain⟨⟨k',y⟩,hy⟩:∃p,vs[0]?=some p:=⟨_,ac (by omega)⟩
 have ek:k=k':=by
  have:=dJ (fun l:List fZ=>l[0]?) i9.keys
  simp only[ak,hx,hy]at this
  exact a7 this
 subst ek
 obtain⟨rfl,hS⟩:=AD 0 k x hx
 have hvk:jL kvs k=some (.ref (tv 0)):=by
  cases kvs with
  |nil=>cases hx
  |cons p r=>
   have:p=(k,.ref (tv 0)):=a7 hx
   subst this
   exact no rfl
 refine mV PySem.F.entry_min_loop ?_
 rw[ja PySem.F.plain_min_loop _]
 show wpAny _ A.in1 (seqItems? (.ref G1.objs.size) >>= _) _ _ _
 refine ah (fU gls rfl ?_)
 show wpAny _ A.in1 (tryCatch (pyNext (.ref h0.objs.size)) _ >>= _) _ _ _
 refine ah (gI (mK M0.iter M0.dict hy fun v h1 hv hit1 rq=>?_))
 have rv:bS (kV k) v:=A9 hv
 have I1:bw X pins σ H ⟨h1,g0,d0,t0,rR⟩:=M0.inv.turned (it:=h0.objs.size) (fun b o hb e=>rq.extBut b o hb e) wV.1 wV.2.1 wV.2.2.2.1 wV.2.2.2.2.1 wV.2.2.2.2.2
 have nf:=old f _ hf
 have Pz:=old cd _ hoc
 have PB:=old c0 _ hoc0
 have na:=old a _ hdo.1
 have M1:nB X pins σ H ⟨h1,g0,d0,t0,rR⟩ f c0 cd a h0.objs.size _ q vs ep (0+1):=M0.go (s:=⟨G2,g0,d0,t0,rR⟩) (b0:=h0.objs.size) I1 (fun b o hb e=>rq.extBut b o hb e) nf.1 Pz.1 PB.1 na.1 hit1
 have hls1:=rq.extBut _ _ (Ne.symm O8) gls
 show wpAny _ A.in1 (tryCatch (holding [v] (call (.ref f) [v])) _ >>= _) _ _ _
 refine ah (gI (cF (xY T M1.inv M1.fn M1.code M1.cell ha hvk rv vn (by show A.units+1+8<cLine;omega) fun z h2 t2 DA I2' rz=>?_)))
 obtain rfl:z=Value.ref (tv 0):=rz
 have M2:nB X pins σ H ⟨h2,g0,d0,t2,rR⟩ f c0 cd a h0.objs.size _ q vs ep (0+1):=M1.go (s:=⟨h1,g0,d0,t0,rR⟩) (b0:=h1.objs.size) I2' (fun b o _ e=>DA b o e)
  (fun q=>by have:=aH M1.fn;rw[q]at this;exact bD _ this) (fun q=>by obtain⟨_,_,_,_,e2,ho,_⟩:=M1.code;cases e2;have:=aH ho;rw[q]at this;exact bD _ this) (fun q=>by have:=M1.cell.lt;rw[q]at this;exact bD _ this)
  (fun q=>by obtain⟨o,_,ho,_⟩:=M1.dict;have:=aH ho;rw[q]at this;exact bD _ this) (by obtain⟨o,ho,r1,r2⟩:=hit1;exact⟨o,DA _ _ ho,r1,r2⟩)
 have hls2:=DA _ _ hls1
 have sb:=cK h2 G1.objs.size (Obj.mapSeq fun _=>#[v,Value.ref (tv 0)])
 obtain⟨c3,hc3⟩:∃c3,(h2.update G1.objs.size (Obj.mapSeq fun _=>#[v,Value.ref (tv 0)])).get? G1.objs.size=some (seqObj "list" #[v,.ref (tv 0)] c3):=⟨_,get?_update_seq hls2 fun _=>#[v,Value.ref (tv 0)]⟩
 show wpAny _ A.in1 (updateSeq G1.objs.size (fun _=>#[v,Value.ref (tv 0)]) >>= _) _ _ _
 refine ah ?_
 refine jn hls2 rfl ?_
 rw[hname]
 have I3:bw X pins σ H ⟨h2.update G1.objs.size (Obj.mapSeq fun _=>#[v,Value.ref (tv 0)]),g0,d0,t2,rR⟩:=I2'.turned (it:=G1.objs.size) (fun b o hb e=>sb.extBut b o hb e) wW.1 wW.2.1 wW.2.2.2.1 wW.2.2.2.2.1 wW.2.2.2.2.2
 have M3:nB X pins σ H ⟨h2.update G1.objs.size (Obj.mapSeq fun _=>#[v,Value.ref (tv 0)]),g0,d0,t2,rR⟩ f c0 cd a h0.objs.size _ q vs ep (0+1):=
  M2.go (s:=⟨h2,g0,d0,t2,rR⟩) (b0:=G1.objs.size) I3 (fun b o hb e=>sb.extBut b o hb e) nf.2 Pz.2 PB.2 na.2 (by obtain⟨o,ho,r1,r2⟩:=M2.iter;exact⟨o,sb.extBut _ _ O8 ho,r1,r2⟩)
 exact ax ⟨lz PySem.F.plain_min_loop _,EC T hh vn hu ha i9 kE AD wV wW O8 nf Pz PB (fun v h t k x e1 e2 e3=>hQ v h t k x e1 e2 e3) _ 0 _ _ v c3 rfl (by omega) M3 hc3 fun k2 x2 e2=>by rw[show jS kf 0=0 from rfl,hx]at e2;cases e2;exact rv⟩
end
abbrev EE(ns:List (Str×NameKind)):Scope:=⟨.function,ns,false,false,[]⟩
def Re(K:Frag)(fd:FuncData)(P:Addr):Prop:=∃c,fd.code=.ref c/\codeHdIn K c P=true/\K.lookup P=none
theorem vW{a b:Int}{t u:Tok}{c:Value}(l:List Value)(h:TriplesOk l):TriplesOk (l++[.int a t,.int b u,c]):=by
 fun_induction TriplesOk l with
 |case1=>exact trivial
 |case2 _ _ _ _ _ rest ih=>exact ih h
 |case3=>exact h.elim
section
variable{st:List aj}
abbrev sM(H:Hp)(P cd:Addr)(q:Str)(ps:Array Value)(pos:Pos):Hp:=eL (eL H cd (iz cd q)) P (.tbl (ps++#[rawInt pos.line,rawInt pos.col,.ref cd]))
theorem rG{P:Addr}{q:Str}{ps:Array Value}(n1:b≠P)(n2:b≠cd):sM H P cd q ps pos b=H b:=by
 show eL (eL H cd _) P _ b=_
 rw[ce n1,ce n2]
theorem EF{P:Addr}{q:Str}{ps:Array Value}:sM H P cd q ps pos P=some (.tbl (ps++#[rawInt pos.line,rawInt pos.col,.ref cd])):=dG
theorem vX{P:Addr}{q:Str}{ps:Array Value}(h:P≠cd):sM H P cd q ps pos cd=some (iz cd q):=by
 show eL (eL H cd _) P _ cd=_
 rw[ce (Ne.symm h),dG]
theorem fy.butT{l:Addr}{xs:Array Value}(e:Qx l H H')(hl:H l=some (.tbl xs)):dD K H H':=by
 have lu:∀{p:Addr} {o:HO},H p=some o->(∀zs,o≠.tbl zs)->p≠l:=fun{p o} q hn z=>by subst z;rw[hl]at q;cases q;exact hn _ rfl
 refine⟨fun p ys h=>?_,fun b o u h=>e _ _ (lu h (fun _ z=>by cases z)) h⟩
 rcases h with(h|⟨o,h⟩)|h
 ·exact .inl (.inl (e _ _ (lu h (fun _ z=>by cases z)) h))
 ·exact .inl (.inr ⟨o,e _ _ (lu h (fun _ z=>by cases z)) h⟩)
 ·exact .inr h
theorem EG{l:List α}{x:α}(h:l[i]?=some x):l.set i x=l:=by
 refine kU fun j=>?_
 by_cases e:i=j
 ·subst e;rw[bv (aa.mp h).1,h]
 ·rw[bP e]
theorem fY.tabbed{P:Addr}{q:Str}{ps:Array Value}(S:fY K mg μ st H)(hi:st[i]?=some (.tab P pos q))(hP:H P=some (.tbl ps))(lD:H cd=none)(ht:TriplesOk ps.toList)(hn:codeAmong pos ps.toList=none) :
  fY K mg μ st (sM H P cd q ps pos)/\dD K H (sM H P cd q ps pos):=by
 have hs:nZ H (eL H cd (iz cd q)):=cD lD _
 have lu:P≠cd:=fun z=>by rw[z,lD]at hP;cases hP
 have hP1:eL H cd (iz cd q) P=some (.tbl ps):=hs _ _ hP
 have hx:dD K (eL H cd (iz cd q)) (sM H P cd q ps pos):=fy.butT fL hP1
 obtain⟨a,hm,ea,_⟩:=S.get hi
 subst ea
 have:=(S.same hs).setG (c':=.tab a pos q) hi rfl hm hP1 (fun _ _ z=>by cases z) (fun _ z=>by cases z) hx rfl ⟨rfl,_,dG,?_,.inr ⟨cd,?_,?_⟩⟩
 ·rw[EG hi]at this
  exact⟨this,(fy.same hs).trans hx⟩
 ·rw[Array.toList_append];exact vW _ ht
 ·rw[Array.toList_append];exact codeAmong_snoc _ ht hn
 ·exact vX lu
end
section
theorem bw.tabbed{t':Nat}{P:Addr}{q:Str}{ps:Array Value}(I:bw X pins σ H s)(hP:H P=some (.tbl ps))(Ds:s.heap.objs.size<=cd)(hx:∀b o,b≠P->s.heap.get? b=some o->h'.get? b=some o)
  (AA:h'.CodeRec (.ref cd) q) (Pw:h'.get? P=some { cls:=.none,data:=.fields (ps++#[rawInt pos.line,rawInt pos.col,.ref cd]) }):bw X pins σ (sM H P cd q ps pos) { s with heap:=h',toks:=t' }:=by
 have lD:H cd=none:=I.hok.fresh Ds
 have lu:P≠cd:=fun z=>by rw[z,lD]at hP;cases hP
 have notP:∀b,H b=none->b≠P:=fun b n z=>by rw[z,hP]at n;cases n
 have old:∀b o,s.heap.get? b=some o->b≠cd:=fun b o e=>bE (aY (aH e) Ds)
 have keepH:∀b u,H b=some u->b≠P->sM H P cd q ps pos b=some u:=fun b u e n=>by
  rw[rG n (fun z=>by rw[z,lD]at e;cases e)];exact e
 have Hcd:sM H P cd q ps pos cd=some (iz cd q):=vX lu
 refine I.call' (ch:=[]) rfl ⟨fun b o e n hb t5=>hx b o (notP b n) e,fun b o e n hb t5=>⟨o.slots,hx b o (notP b n) e⟩,fun b o e n t5=>?_,fun b o e t5=>?_,fun b xs e=>?_,fun b o u e=>?_,fun b ps' e=>?_⟩ (fun b u e=>?_) I.bare fun b hb=>absurd hb (by simp)
 ·rw[rG (notP b n) (old b o e)];exact n
 ·by_cases hb:b=P
  ·subst hb;exact⟨_,Pw⟩
  ·exact⟨o,hx b o hb e⟩
 ·exact keepH b _ e fun z=>by rw[z,hP]at e;cases e
 ·exact keepH b _ e fun z=>by rw[z,hP]at e;cases e
 ·by_cases hb:b=P
  ·subst hb
   rw[hP]at e;cases e
   exact⟨_,EF⟩
  ·exact⟨#[],by rw[keepH b _ e hb];simp⟩
 ·by_cases hb:b=P
  ·subst hb
   rw[EF]at e;cases e
   exact Pw
  ·by_cases hb2:b=cd
   ·subst hb2
    rw[Hcd]at e;cases e
    obtain⟨c2,oc,vs,t,e2,hoc,hd,hv⟩:=AA
    cases e2
    refine⟨⟨oc,vs,t,hoc,hd,hv⟩,⟨oc,hoc⟩,fun h1 h2 p k=>?_⟩
    obtain⟨o,vs,t,ho,r⟩:=p
    exact⟨o,vs,t,k o ho,r⟩
   ·rw[rG hb hb2]at e
    refine(I.hok b u e).stay (fun c v hc q'=>hx c v (fun z=>?_) q') (fun c q'=>keepH c _ q' fun z=>by rw[z,hP]at q';cases q') fun c xs q'=>keepH c _ q' fun z=>by rw[z,hP]at q';cases q'
    rcases hc with rfl|hc
    ·exact hb z
    ·rw[z,hP]at hc;cases hc
theorem EH{P c:Addr}{pr:Arguments}{b:Expr}{uA:Pos}{q:Str}{ps:Array Value}(O9:defaultsOf pr X.env=([],[]))(hq:X.env.qual++"<lambda>"=q)(lP:X.env.code=.ref c)(J7:codeHdIn X.K c P=true)(UY:X.K.lookup P=none)(hB:rg X.base X.mg)
  (jc:closureFor sc X.env=pure cl) (I:bw X pins σ H s) (hP:H P=some (.tbl ps)) (ht:TriplesOk ps.toList) (O2:codeAmong uA ps.toList=none\/∃cd,codeAmong uA ps.toList=some (.ref cd)/\H cd=some (iz cd q))
  (h:∀f cd ct pm h' t H',((codeAmong uA ps.toList=none/\H cd=none/\H'=sM H P cd q ps uA)\/H'=H)->bw X pins σ H' { s with heap:=h',toks:=t }->h'.get? f=some (kla_obj "<lambda>" q pr b sc cl pm cd ct)->h'.CodeRec (.ref cd) q ->
   (∀b o,b≠P->s.heap.get? b=some o->h'.get? b=some o)->Q (.ref f) { s with heap:=h',toks:=t }) :
  wpAny (model X.prog X.w) X.A (eval (.Lambda pr b sc uA) X.env) Q E s:=by
 subst hq
 have hPo:s.heap.get? P=some { cls:=.none,data:=.fields ps }:=I.hok P _ hP
 have hgs:s.heap.Ns mainGlobals X.mg:=I.mod.glob.keeps I.bk
 have hgP:mainGlobals≠P:=fun z=>by
  obtain⟨o,es,ep,e,hd,_⟩:=hgs
  rw[z,hPo]at e;cases e;cases hd
 obtain⟨bm,ob,b1,b2,b4,b5,b6,b7⟩:=hB
 have b4':=I.bk _ _ b4
 have hbP:bm≠P:=fun z=>by rw[z,hPo]at b4';cases b4';cases b5
 have b3:bm≠mainGlobals:=fun z=>by
  obtain⟨o,es,ep,e,hd,_⟩:=hgs
  rw[z,e]at b4';cases b4';rw[b7]at hd;cases hd
 have hb:s.heap.BuiltinsAt X.mg P:=⟨bm,ob,b1,b2,b3,hbP,b4',b5,b6,b7⟩
 have CH:=PySem.W.codeHd_of_K I.kIn J7
 refine PySem.W.kla_eval O9 ?_
 rcases O2 with hn|⟨cd,hhit,hH⟩
 ·refine PySem.W.kla_makeFunction (mg:=X.mg) jc I.ok.glob hgs lP CH hPo ht hn hgP hb fun cd ct h' tk hx Ds hlt AA Pw=>?_
  have t5:∀b o,b≠P->s.heap.get? b=some o->h'.get? b=some o:=fun b o hb e=>hx b o hb e
  have hrec2:(h'.push (kla_obj "<lambda>" (X.env.qual++"<lambda>") pr b sc cl ((X.mg "__name__").getD .none) cd ct)).CodeRec (.ref cd) (X.env.qual++"<lambda>"):=by
   obtain⟨c2,oc,vs,t,e2,hoc,hd,hv⟩:=AA
   exact⟨c2,oc,vs,t,e2,ar _ hoc,hd,hv⟩
  exact h _ cd ct _ _ tk _ (.inl ⟨hn,I.hok.fresh Ds,rfl⟩) (I.tabbed hP Ds (fun b o hb e=>ar _ (t5 b o hb e)) hrec2 (ar _ Pw)) (aU _ rfl) hrec2 fun b o hb e=>ar _ (t5 b o hb e)
 ·refine PySem.W.kla_makeFunctionHit (mg:=X.mg) jc I.ok.glob hgs lP CH hPo ht hhit hb fun ct h' tk hk hsz=>?_
  obtain⟨⟨oc,vs,t,hoc,hd,hv⟩,_⟩:=I.hok cd _ hH
  exact h _ cd ct _ _ tk _ (.inr rfl) (I.kept fun b o e=>ar _ (hk b o e)) (aU _ rfl) ⟨cd,oc,vs,t,rfl,ar _ (hk _ _ hoc),hd,hv⟩ fun b o _ e=>ar _ (hk b o e)
end
def zL:W->Option (List Int)
 |.tup ws=>fQ ws
 |_=>none
def jy:List (DK×W)->Option (List (List Int))
 |[]=>some []
 |p::r=>match zL p.2,jy r with
  |some a,some b=>some (a::b)
  |_,_=>none
def qS(st:List aj)(j:Nat)(P:Addr)(pos:Pos)(q:Str):Prop:=st[j]?=some (.tab P pos q)
open Classical in
def sN(i j:Nat)(P:Addr)(pos:Pos)(q:Str):FE:=fun ρ st=>match ρ[i]? with
 |some (some x)=>(match rf st x with
  |some (_,kvs)=>(match jy kvs with
   |some ks=>if qS st j P pos q then ou (kvs[jS (fun a=>ks.getD a []) (kvs.length-1)]?) fun p=>.ok p.1.w st else .bad
   |none=>.bad)
  |none=>.bad)
 |_=>.bad
theorem sO:∀{kvs:List (DK×W)} {ks:List (List Int)} {vs:List V},jy kvs=some ks->RelWs K μ H (kvs.map fun p=>p.2) vs->∃ts:List Addr,vs=ts.map V.ref/\∀(i:Nat) (t:Addr),ts[i]?=some t->fy K H t ((ks.getD i []).map V.int)
 |[],ks,vs,h,r=>by
  have:=r.nilE
  subst this
  exact⟨[],rfl,fun i t e=>by simp at e⟩
 |p::r,ks,vs,h,rr=>by
  unfold jy at h
  cases e1:zL p.2 with
  |none=>rw[e1]at h;cases h
  |some a=>
   cases e2:jy r with
   |none=>rw[e1,e2]at h;cases h
   |some b=>
    rw[e1,e2]at h;cases h
    obtain⟨x,xs,rfl,q1,q2⟩:=RelWs.consE rr
    obtain⟨ts,rfl,ht⟩:=sO e2 q2
    obtain⟨k,w⟩:=p
    cases w with
    |tup ws=>
     obtain⟨t,us,rfl,hS,r1⟩:=bf.tupE q1
     have:=lH (show fQ ws=some a from e1) r1
     subst this
     refine⟨t::ts,rfl,fun i t' e=>?_⟩
     cases i with
     |zero=>cases e;exact hS
     |succ i=>exact ht i t' (by simpa using e)
    |_=>cases e1
theorem EI{kvs:List (DK×W)}{ts:List Addr}(r:RelWs K μ H (kvs.map fun p=>p.2) (ts.map V.ref)){k:fZ}{x:V}(h:(dV kvs (ts.map V.ref))[i]?=some (k,x)) :
  ∃p t,kvs[i]?=some p/\k=p.1.key/\ts[i]?=some t/\x=.ref t:=by
 unfold dV at h
 rw[kG]at h
 obtain⟨h1,h2⟩:=h
 rw[ak]at h1 h2
 obtain⟨p,e1,e2⟩:=a6.mp h1
 obtain⟨t,e3,e4⟩:=a6.mp h2
 exact⟨p,t,e1,e2.symm,e3,e4.symm⟩
section
variable{en dn q:Str}{pr:Arguments}{p1 p3 p4 uA SD:Pos}{c P:Addr}
theorem I_(hr:gD kk X.A)(T:EB en dn pr (.Subscript (.Name dn p2) (.Name en p3) p4) sc)(lP:X.env.code=.ref c)(J7:codeHdIn X.K c P=true)(UY:X.K.lookup P=none)(hB:rg X.base X.mg)(hm:X.mg "min"=none)
  (fJ:X.env.cells=cellsFrom m X.env.scope.names []) (hN:X.N[i]?=some dn:=by rfl) (hk:X.env.scope.names.lookup dn=some .cell:=by rfl) (O1:∀env:Env,cM env sc.names []=[(dn,(env.cells.lookup dn).getD 0)]:=by intro _;rfl) (rA:∀x∈sc.names,x.2=.free->x.1=dn:=by decide)
  (hq:X.env.qual++"<lambda>"=q:=by rfl) (O9:defaultsOf pr X.env=([],[]):=by rfl) (gv:X.calm=true:=by rfl) (hg:Gl X "min":=by rfl) (Tr:(dn==("__debug__":Str))=false:=by decide) (HG:(dn==("__classdict__":Str))=false:=by decide)
  (he:starEach [.Name dn p1] X.env=(false,eval (.Name dn p1) X.env)::starEach [] X.env:=by rfl) :
  SE X (.Call (.Name "min" p) [.Name dn p1] [⟨some "key",.Lambda pr (.Subscript (.Name dn p2) (.Name en p3) p4) sc uA,SD⟩] pos) (sN i j P uA q):=⟨fun pins s σ H Q I h=>by
 obtain⟨μ,ρ,st,l,h⟩:=h
 unfold sN at h
 cases e1:ρ[i]? with
 |none=>rw[e1]at h;exact h.elim
 |some ox=>
  cases ox with
  |none=>rw[e1]at h;exact h.elim
  |some x=>
   rw[e1]at h
   simp only at h
   cases e2:rf st x with
   |none=>rw[e2]at h;exact h.elim
   |some nk=>
    obtain⟨n,kvs⟩:=nk
    rw[e2]at h
    simp only at h
    cases e3:jy kvs with
    |none=>rw[e3]at h;exact h.elim
    |some ks=>
     rw[e3]at h
     simp only at h
     by_cases e4:qS st j P uA q
     ·rw[ay e4]at h
      cases e5:kvs[jS (fun a=>ks.getD a []) (kvs.length-1)]? with
      |none=>rw[e5]at h;exact h.elim
      |some pk=>
       rw[e5]at h
       simp only[cw]at h
       obtain⟨v,hσ,rx⟩:=lF l.env e1
       obtain⟨a,vs,hn,hmu,rfl,ha,rr⟩:=rF l.sto e2 rx
       obtain⟨ts,rfl,hts⟩:=sO e3 rr
       have hc:∃c0,X.env.cells.lookup dn=some c0:=by rw[fJ];exact jJ hk
       obtain⟨c0,J4⟩:=hc
       obtain⟨aP,hP0,eP,ps,hP,ht,O2⟩:=l.sto.get e4
       subst eP
       refine du (kZ I hg hm (by rfl) ?_ (by decide) (by decide))
       refine callWith_builtin_kwB (by rfl) (by rfl) (evalArgs_kw2 (by rfl) ?_ he)
       refine f6 ((rD (pv i hN (.inr (.inl hk)) Tr HG) zc) pos pins s σ H (fun vs H1=>vs=[.ref a]/\H1=H) I ⟨_,hσ,rfl,rfl⟩) fun us s1 rq=>?_
       obtain⟨vs1,H1,I1,r1,rfl,rfl⟩:=rq
       obtain⟨u1,rfl,ru1⟩:=kI r1
       obtain rfl:u1=Value.ref a:=ru1
       obtain⟨mm,Hr,hlk⟩:=id I1.loc
       obtain⟨u,ru,lk⟩:=hlk i dn (.ref a) hN hσ (.inr (.inl hk))
       obtain rfl:u=Value.ref a:=ru
       have fA:s1.heap.IsCell c0 (some (.ref a)):=by
        rcases lk with⟨kl,_⟩|⟨_,c1,hc1,hcc⟩
        ·have:X.env.scope.names.lookup dn=some .local:=kl
         rw[hk]at this;cases this
        ·rw[J4]at hc1;cases hc1;exact hcc
       have jc:closureFor sc X.env=pure [(dn,c0)]:=by
        rw[xD (fun x hx hf=>by rw[rA x hx hf];exact⟨c0,J4⟩),O1,J4];rfl
       show wpAny _ _ (evalAll ((do let v <- eval (.Lambda pr (.Subscript (.Name dn p2) (.Name en p3) p4) sc uA) X.env;standAt pos;pure v)::[])) _ _ s1
       refine wpAny_evalAll_cons (ah (EH O9 hq lP J7 UY hB jc I1 hP ht O2 fun f cd ct pm h' t H' hH I2 hf AA hx=>ah (lw (ax (wpAny_evalAll_nil ?_)))))
       have hS':fY X.K X.mg μ st H'/\dD X.K H1 H':=by
        rcases hH with⟨g1,g2,rfl⟩|rfl
        ·exact l.sto.tabbed e4 hP g2 ht g1
        ·exact⟨l.sto,dD.refl⟩
       obtain⟨S',X'⟩:=hS'
       have ha':H' a=some (.dK (dV kvs (ts.map V.ref))):=by
        rcases hH with⟨g1,g2,rfl⟩|rfl
        ·rw[rG (fun z=>by rw[z,hP]at ha;cases ha) (fun z=>by rw[z,g2]at ha;cases ha)];exact ha
        ·exact ha
       have hcell':h'.IsCell c0 (some (.ref a)):=by
        obtain⟨o,ho,hd⟩:=fA
        exact⟨o,hx c0 o (fun z=>by have:=I1.freeC _ _ J4;rw[z,hP]at this;cases this) ho,hd⟩
       have dq:(dV kvs (ts.map V.ref)).length=kvs.length:=qC rr
       have Dp:0<kvs.length:=by
        cases kvs with
        |nil=>simp at e5
        |cons _ _=>simp
       have AD:∀(i:Nat) (k:fZ) (x:V),(dV kvs (ts.map V.ref))[i]?=some (k,x)->x=.ref (ts.getD i 0)/\fy X.K H' (ts.getD i 0) ((ks.getD i []).map V.int):=fun i k x e=>by
        obtain⟨p',t',f1,f2,f3,f4⟩:=EI rr e
        have:ts.getD i 0=t':=by rw[aE,f3];rfl
        rw[this]
        exact⟨f4,X' _ _ (hts i t' f3)⟩
       refine ED (pins:=pins) (H:=H') (kvs:=dV kvs (ts.map V.ref)) (kf:=fun a=>ks.getD a []) (tv:=fun a=>ts.getD a 0) T (I.ok.hd gv) (by have:=hr.dp;omega) (by have:=hr.un;omega) I2 ha' hf AA hcell' (by rw[dq];exact Dp) AD fun v h2 t2 k x ek rk I3=>?_
       rw[dq]at ek
       obtain⟨p',t',f1,f2,_,_⟩:=EI rr ek
       rw[e5]at f1;cases f1
       subst f2
       exact⟨_,H',I3,rk,h μ _ H' (af _) X' S' (DK.w_rel _)⟩
     ·rw[aC e4]at h;exact h.elim⟩
end
def CP(x y:W)(st:List aj):R W:=match x,y with
 |.int i,.int j=>.ok (.bl (decide (i<j))) st
 |.tup a,.tup b=>(match fQ a,fQ b with
  |some ns,some ms=>.ok (.bl (HT.lexLt ns ms)) st
  |_,_=>.bad)
 |_,_=>.bad
theorem Kt{k:Nat}(hr:gD k X.A):qL X (compareOp .Lt) CP:=⟨fun pins s σ H x y v u Q I rv ru ⟨μ,st,wx,wy,S,rx,ry,q⟩=>by
 cases wx with
 |int i=>
  cases wy with
  |int j=>exact w_lt.h pins s σ H x y v u Q I rv ru ⟨μ,st,.int i,.int j,S,rx,ry,q⟩
  |_=>exact q.elim
 |tup a=>
  cases wy with
  |tup b=>
   simp only[CP]at q
   cases e1:fQ a with
   |none=>rw[e1]at q;exact q.elim
   |some ns=>
    cases e2:fQ b with
    |none=>rw[e1,e2]at q;exact q.elim
    |some ms=>
     rw[e1,e2]at q
     obtain⟨p,vs,rfl,hS,r⟩:=rx.tupE
     obtain⟨p2,vs2,rfl,hS2,r2⟩:=ry.tupE
     have:=lH e1 r;subst this
     have:=lH e2 r2;subst this
     exact MI (by have:=hr.un;omega) pins s σ H _ _ v u Q I rv ru ⟨p,p2,ns,ms,rfl,rfl,hS,hS2,iK S q⟩
  |_=>exact q.elim
 |_=>cases wy<;>exact q.elim,fun x y st=>by
 unfold CP
 split
 ·trivial
 ·split<;>trivial
 ·trivial⟩
section
variable{o f:Expr}{fo fk fd fe:FE}
end
section
variable{y:Str}{a b:Expr}{fs:FA}
end
inductive DefIn(K:Frag)(x:Str)(st:Stmt):Prop
 |mk {ad:Addr} {od an:Option Addr} {sl:Array (Option Value)} {oc kV dc pm cd ct:Value} (a:nsIn K mainGlobals x=some (some (.ref ad)))
   (l:K.lookup ad=some ⟨oc,od,.func (fnOf x x (dS st) (dU st) (aR st) .none kV dc pm an cd ct),sl⟩) (c:codeIn K cd x=true) (k:keepIn K (.ref ad)=true):DefIn K x st
theorem DefIn.fn{st:Stmt}(d:DefIn K x st)(X:K.In h)(G:h.Ns mainGlobals mg):∃f fd,jK K x x st f fd/\mg x=some (.ref f):=by
 obtain⟨a,l,c,k⟩:=d
 exact⟨_,_,vC (st:=st) l c k,mg_of X G a⟩
theorem UN:∀{l:List Value},l.length=1->∃a,l=[a]
 |[a],_=>⟨a,rfl⟩
theorem Tj:∀{l:List Value},l.length=2->∃a b,l=[a,b]
 |[a,b],_=>⟨a,b,rfl⟩
theorem Tk:∀{l:List Value},l.length=3->∃a b c,l=[a,b,c]
 |[a,b,c],_=>⟨a,b,c,rfl⟩
theorem UO:∀{l:List Value},l.length=4->∃a b c d,l=[a,b,c,d]
 |[a,b,c,d],_=>⟨a,b,c,d,rfl⟩
theorem UP:∀{l:List Value},l.length=5->∃a b c d e,l=[a,b,c,d,e]
 |[a,b,c,d,e],_=>⟨a,b,c,d,e,rfl⟩
theorem UQ:∀{l:List Value},l.length=6->∃a b c d e f,l=[a,b,c,d,e,f]
 |[a,b,c,d,e,f],_=>⟨a,b,c,d,e,f,rfl⟩
section
variable{P:Program}{w:World}{K:Frag}{mg:Str->Option Value}{base:Heap}{k n:Nat}{x:Str}{st:Stmt}{f:Addr}{fd:FuncData}{ps:List Str}{G:List W->List aj->R W}
theorem EJ(F:jK K x x st f fd)(hm:mg x=some (.ref f))(ok:eQ P w K mg base (iU P w) k f fd ps (jN K mg n G))(hn:ps.length=n:=by rfl)
  (hb:∀(kV iM pm:Value) (an:Option Addr) (ga ct:Value) (us:List Value),us.length=ps.length->bindArgs (fnOf x x (dS st) (dU st) (aR st) .none kV iM pm an ga ct) ⟨us,[]⟩=pure (ps.zip us):=by(intro _ _ _ _ _ _ _ q;first|(obtain⟨_,rfl⟩:=UN q;rfl)|(obtain⟨_,_,rfl⟩:=Tj q;rfl)|(obtain⟨_,_,_,rfl⟩:=Tk q;rfl)|(obtain⟨_,_,_,_,rfl⟩:=UO q;rfl)|(obtain⟨_,_,_,_,_,rfl⟩:=UP q;rfl)|(obtain⟨_,_,_,_,_,_,rfl⟩:=UQ q;rfl))):dF P w K mg base k x n G:=rE F hm hn hb ok
theorem Nq{h:Heap}(d:DefIn K x st)(X:K.In h)(Gs:h.Ns mainGlobals mg)(ok:∀{f:Addr} {fd:FuncData},jK K x x st f fd->eQ P w K mg base (iU P w) k f fd ps (jN K mg n G))(hn:ps.length=n:=by rfl)
  (hb:∀(kV iM pm:Value) (an:Option Addr) (ga ct:Value) (us:List Value),us.length=ps.length->bindArgs (fnOf x x (dS st) (dU st) (aR st) .none kV iM pm an ga ct) ⟨us,[]⟩=pure (ps.zip us):=by(intro _ _ _ _ _ _ _ q;first|(obtain⟨_,rfl⟩:=UN q;rfl)|(obtain⟨_,_,rfl⟩:=Tj q;rfl)|(obtain⟨_,_,_,rfl⟩:=Tk q;rfl)|(obtain⟨_,_,_,_,rfl⟩:=UO q;rfl)|(obtain⟨_,_,_,_,_,rfl⟩:=UP q;rfl)|(obtain⟨_,_,_,_,_,_,rfl⟩:=UQ q;rfl))):dF P w K mg base k x n G:=let ⟨_,_,F,m⟩:=d.fn X Gs;rE F m hn hb (ok F)
end
def Pt:List Str->Bool
 |[]=>true
 |x::r=>!(r.any fun y=>y==x)&&Pt r
theorem vY:∀{l:List Str},Pt l=true->l.Nodup
 |[],_=>.nil
 |x::r,h=>by
  simp only[Pt,bh,gA,fH,b9]at h
  exact bF.mpr ⟨fun m=>h.1 x m rfl,vY h.2⟩
section
variable{fe:FE}{sp:Scope}
theorem m6{N:List Str}(a:sp.kind=.function:=by rfl)(b:sp.isCoroutine=false:=by rfl)(c:sp.isGenerator=false:=by rfl)(d:N.Nodup:=by decide +kernel)(f:N.take ps.length=ps:=by rfl)(g:∀x∈ps,sp.names.lookup x=some .local\/sp.names.lookup x=some .cell:=by decide +kernel)(h:∀y∈sp.names,y.2≠.free:=by decide +kernel):bK N ps sp:=⟨a,b,c,d,f,g,h⟩
theorem sS(i:Nat){ji:Pos}(sc:bK X.N ps sp)(he:SE X e fe)(hi:X.N[i]?=some x:=by rfl)(hx:Du X.env.scope x:=by first|exact .inl rfl|exact .inr rfl)(hs:swapsWith e (some (.Name x ji)) pos.line X.env=pure false:=by rfl)(hf:X.fn x=true\/X.env.scope.names.lookup x=some .local:=by first|exact .inl rfl|exact .inr rfl|assumption) :
  SS X (.Assign [.Name x ji] e pos) (bJ i fe):=Nf sc.nd hi hx he hs hf
theorem sG(i:Nat)(sc:bK X.N ps sp)(hi:X.N[i]?=some x:=by rfl)(hx:Du X.env.scope x:=by first|exact .inl rfl|exact .inr rfl)(hf:X.fn x=true\/X.env.scope.names.lookup x=some .local:=by first|exact .inl rfl|exact .inr rfl|assumption):SG X (.Name x pos) (eB i):=vM sc.nd hi hx hf
theorem sC{cl:List (Str×Addr)}{C s0 H0 fp}(i:Nat)(hN:nm.Nodup:=by decide +kernel)(hi:nm[i]?=some x:=by rfl)(hx:Du (bH X nm scope cl C s0 H0 fp).env.scope x:=by first|exact .inl rfl|exact .inr rfl)(hf:(bH X nm scope cl C s0 H0 fp).fn x=true\/(bH X nm scope cl C s0 H0 fp).env.scope.names.lookup x=some .local:=by first|exact .inl rfl|exact .inr rfl|assumption) :
  SG (bH X nm scope cl C s0 H0 fp) (.Name x pos) (eB i):=vM (X:=bH X nm scope cl C s0 H0 fp) hN hi hx hf
theorem U8{cl:List (Str×Addr)}{C s0 H0 fp}(i:Nat)(hN:Pt nm=true:=by first|rfl|kernel_rfl)(hi:nm[i]?=some x:=by rfl)(hx:Du (bH X nm scope cl C s0 H0 fp).env.scope x:=by first|exact .inl rfl|exact .inr rfl)(hf:(bH X nm scope cl C s0 H0 fp).fn x=true\/(bH X nm scope cl C s0 H0 fp).env.scope.names.lookup x=some .local:=by first|exact .inl rfl|exact .inr rfl|assumption) :
  SG (bH X nm scope cl C s0 H0 fp) (.Name x pos) (eB i):=vM (X:=bH X nm scope cl C s0 H0 fp) (vY hN) hi hx hf
end
def Ja:Expr->List Str
 |.Name x _=>[x]
 |.Tuple es _ _=>es.filterMap fun e=>match e with
  |.Name x _=>some x
  |_=>none
 |_=>[]
def Nr(N:List Str):List Str->List (Option Nat)->List Str
 |_,[]=>[]
 |ts,some j::r=>N.getD j "" :: Nr N ts r
 |ts,none::r=>ts.headD "" :: Nr N ts.tail r
abbrev Ku(X:Cx)(tg:Expr)(cap:List (Option Nat)):List Str:=Nr X.N (Ja tg) cap
section
variable{fi:FI}{f:FG}{t:FT}{el:FE}
theorem A_(fJ:X.env.cells=cellsFrom m X.env.scope.names [])(hi:SI X tg iter fi)(hg:∀cl C s0 H0 fp,SG (bH X (Ku X tg cap) scope cl C s0 H0 fp) tg f)(ht:∀cl C s0 H0 fp,Kq (bH X (Ku X tg cap) scope cl C s0 H0 fp) kC t)
  (he:∀cl C s0 H0 fp,SE (bH X (Ku X tg cap) scope cl C s0 H0 fp) mv el) (hB:sg X.env.scope.names scope.names (Ku X tg cap) cap X.N=true:=by first|rfl|kernel_rfl) (gv:X.calm=true:=by rfl) (f':scope.kind=.function:=by rfl) (hs:∀x,foldedSetIterable iter X.env x=pure x:=by intro _;rfl) :
  SE X (.ListComp mv [⟨tg,iter,kC,0⟩] scope pos) (c_ cap fi f t el):=oV hB fJ hi hg ht he gv f' hs
theorem qT{x0:Str}{p0 p1:Pos}(OW:SG X (.Name x0 p0) (eB i))(fJ:X.env.cells=cellsFrom m X.env.scope.names [])(hi:SI X tg iter fi)(hg:∀cl C s0 H0 fp,SG (bH X (Ku X tg cap) scope cl C s0 H0 fp) tg f)(ht:∀cl C s0 H0 fp,Kq (bH X (Ku X tg cap) scope cl C s0 H0 fp) kC t)
  (he:∀cl C s0 H0 fp,SE (bH X (Ku X tg cap) scope cl C s0 H0 fp) mv el) (hB:sg X.env.scope.names scope.names (Ku X tg cap) cap X.N=true:=by first|rfl|kernel_rfl) (O':swapsWith (.ListComp mv [⟨tg,iter,kC,0⟩] scope pos) (some (.Name x0 p0)) p1.line X.env=pure true:=by first|rfl|kernel_rfl) (gv:X.calm=true:=by rfl) (f':scope.kind=.function:=by rfl) (hs:∀x,foldedSetIterable iter X.env x=pure x:=by intro _;rfl) :
  SS X (.Assign [.Name x0 p0] (.ListComp mv [⟨tg,iter,kC,0⟩] scope pos) p1) (ug (c_ cap fi f t el) (eB i)):=oW OW hB fJ hi hg ht he gv f' hs O'
end
end L2
variable{ρ:L2.cu}{fa fb fe fo el:L2.FE}{fi:L2.FI}
namespace HT
open PySem PyProof.Rows
section
open PySem.SeqAt
open PySem.AutoSeq1 (wpAny_loadPart')
open PySem.MeetsSeq PySem.MeetsSeq2 PySem.MeetsSeq3
end
end HT
namespace L2
open PySem PySem.Spec PyProof.Rows
section
end
end L2
namespace PK
open PySem
section
variable{w:World}{K1 K2:Type}[DecidableEq K1][DecidableEq K2](knd:KeyKind prog w K1)(hk:HeapKind prog w K2)
def Is(h:Heap)(k:K1×K2)(a:Addr):Prop:=∃o v b n,h.get? a=some o/\o.cls=.type "tuple"/\o.data=.seq #[v,.ref b] n/\knd.is k.1 v=true/\hk.is h k.2 b
def hash(k:K1×K2):Int:=reduceHash (Builtin.Tuple.tupleHashOf [knd.hash k.1,hk.hash k.2])
variable{knd hk}
theorem Is.typeIs{k:K1×K2}(x:Is knd hk s.heap k a):s.TypeIs (.ref a) "tuple":=let ⟨o,_,_,_,ho,hc,_⟩:=x;⟨o,ho,hc⟩
theorem Is.inj{x y:K1×K2}(hx:Is knd hk h x a)(hy:Is knd hk h y a):x=y:=by
 obtain⟨o,v,b,n,ho,_,hd,h1,h2⟩:=hx
 obtain⟨o',v',b',n',ho',_,hd',h1',h2'⟩:=hy
 obtain rfl:o=o':=a7 (ho.symm.trans ho')
 rw[hd]at hd'
 injection hd' with e _
 have e:=dJ Array.toList e
 simp only[List.cons.injEq,Value.ref.injEq,and_true]at e
 obtain⟨rfl,rfl⟩:=e
 exact Prod.ext (knd.inj _ _ _ h1 h1') (hk.inj h2 h2')
theorem Is.keeps{k:K1×K2}{d:Addr}{es ep}(x:Is knd hk h k a)(ho:h.get? d=some o)(hd:o.data=.dict es ep)(hs:Heap.SameBut d h h'):Is knd hk h' k a:=by
 obtain⟨o',v,b,n,ho',hc,hd',h1,h2⟩:=x
 have lu:a≠d:=by
  rintro rfl
  obtain rfl:o'=o:=a7 (ho'.symm.trans ho)
  rw[hd]at hd';exact nomatch hd'
 exact⟨o',v,b,n,(hs.2 a lu).trans ho',hc,hd',h1,hk.keeps h2 ho hd hs⟩
theorem pyHash{k:K1×K2}{Q:Int->Shared->Prop}(hu:A.units<cLine)(hr:hk.room A.in1)(hx:Is knd hk s.heap k a)(h:Q (hash knd hk k) { s with toks:=s.toks+(1+hk.draws k.2+1) }) :
  wpAny (model prog w) A (PySem.pyHash (.ref a)) Q E s:=by
 have hT:=hx.typeIs
 obtain⟨o,v,b,n,ho,_,hd,h1,h2⟩:=hx
 unfold PySem.pyHash
 first|unfold pyHashByItsType|skip
 first|refine ah (wpAny_cRoomFor_or (.inr hu) ?_)|skip
 refine ah (fE hT F.slot_tuple_hash.lookup ?_)
 show wpAny _ _ (if (some (Value.builtin "tuple.__hash__")==some Value.none)=true then _ else _) Q E s
 rw[aC (by rw[beq_builtin_none];exact bT)]
 refine ah (fE hT F.slot_tuple_hash.lookup ?_)
 show wpAny _ _ (callSpecialIfBoundUnlessNone? (.ref a) "__hash__" _ >>= _) Q E s
 refine ah (gr hT F.slot_tuple_hash (dz F.slot_tuple_hash hT F.entry_tuple_hash ?_ (F.args_tuple_hash_1 _)))
 show wpAny _ _ (Builtin.Tuple.tupleItemsOf (.ref a) >>= _) _ _ s
 refine ah (ki ho hd ?_)
 refine ah ?_
 rw[<- kj]
 refine gO _
  (fun rest (c:Array Int) s'=>(rest=[v,.ref b]/\c.toList=[]/\s'=s)\/(rest=[.ref b]/\c.toList=[knd.hash k.1]/\s'={ s with toks:=s.toks+1 })\/(rest=[]/\c.toList=[knd.hash k.1,hk.hash k.2]/\s'={ s with toks:=s.toks+1+hk.draws k.2 }))
  _ ?_ ?_ _ _ (.inl ⟨rfl,rfl,rfl⟩)
 ·rintro x rest c s' (⟨e,hc,rfl⟩|⟨e,hc,rfl⟩|⟨e,_⟩)
  ·injection e with e1 e2
   subst e1;subst e2
   refine ah (knd.pyHash h1 ?_)
   first
    |exact ax (.inr (.inl ⟨rfl,by simp[hc],rfl⟩))
    |exact ah (ax (ax (.inr (.inl ⟨rfl,by simp[hc],rfl⟩))))
  ·injection e with e1 e2
   subst e1;subst e2
   refine ah (hk.pyHash (k:=k.2) hr h2 ?_)
   first
    |exact ax (.inr (.inr ⟨rfl,by simp[hc],rfl⟩))
    |exact ah (ax (ax (.inr (.inr ⟨rfl,by simp[hc],rfl⟩))))
  ·cases e
 ·rintro c s' (⟨e,_⟩|⟨e,_⟩|⟨_,hc,rfl⟩)
  ·cases e
  ·cases e
  show wpAny _ _ (retInt (Builtin.Tuple.tupleHashOf c.toList)) _ _ _
  rw[hc]
  refine mW ?_
  show wpAny _ _ (if (decide (-(2:Int)^63<=Builtin.Tuple.tupleHashOf [knd.hash k.1,hk.hash k.2])&&decide (Builtin.Tuple.tupleHashOf [knd.hash k.1,hk.hash k.2]<2^63))=true then _ else _) Q E _
  unfold hash reduceHash at h
  by_cases hr:(decide (-(2:Int)^63<=Builtin.Tuple.tupleHashOf [knd.hash k.1,hk.hash k.2])&&decide (Builtin.Tuple.tupleHashOf [knd.hash k.1,hk.hash k.2]<2^63))=true
  ·rw[ay hr]
   rw[ay hr]at h
   exact ax (by simpa[oM]using h)
  ·rw[aC hr]
   rw[aC hr]at h
   exact ah (g8 (ax (by simpa[oM]using h)))
theorem Jb{x y:K1×K2}{P:Fin->Shared->Prop}(hr:hk.room A)(hx:Is knd hk s.heap x a)(hy:Is knd hk s.heap y b)(h:P (.done (.ret (.bool (decide (x=y))))) s) :
  wpAny (model prog w) A (Builtin.«tuple.__eq__» ⟨[.ref a,.ref b],[]⟩) P E s:=by
 have hTb:=hy.typeIs
 obtain⟨oa,v,c,na,hoa,_,hda,h1,h2⟩:=hx
 obtain⟨ob,u,d,nb,Hm,_,yR,g1,g2⟩:=hy
 show wpAny _ _ (isInstance (.ref b) (.type "tuple") >>= _) _ _ s
 refine ah (iR hTb iG ?_)
 simp only[ej,cB,gb]
 refine ah (ki hoa hda ?_)
 refine ah (ki Hm yR ?_)
 refine ah ?_
 refine gO _
  (fun rest r s'=>r.1=none/\s'=s/\((rest=[(v,u),(.ref c,.ref d)])\/(rest=[(.ref c,.ref d)]/\x.1=y.1)\/(rest=[]/\x=y)))
  _ ?_ ?_ _ _ ⟨rfl,rfl,.inl rfl⟩
 ·rintro⟨p,q⟩ rest r s' ⟨hr0,rfl,e|⟨e,e0⟩|⟨e,_⟩⟩
  ·injection e with e1 e2
   injection e1 with e3 e4
   subst e3;subst e4;subst e2
   refine ah (knd.eqBool (a:=x.1) (b:=y.1) h1 g1 ?_)
   by_cases z:x.1=y.1
   ·rw[bn z]
    simp only[ej,cB,gb]
    exact ax ⟨rfl,rfl,.inr (.inl ⟨by first|rfl|trivial,z⟩)⟩
   ·rw[aV z]
    simp only[j_,fx]
    have hf:decide (x=y)=false:=aV fun e=>z (by rw[e])
    rw[hf]at h
    exact ah (ax (ax (ax h)))
  ·injection e with e1 e2
   injection e1 with e3 e4
   subst e3;subst e4;subst e2
   refine ah (hk.eqBool (x:=x.2) (y:=y.2) hr h2 g2 ?_)
   by_cases z:x.2=y.2
   ·rw[bn z]
    simp only[ej,cB,gb]
    exact ax ⟨rfl,rfl,.inr (.inr ⟨by first|rfl|trivial,Prod.ext e0 z⟩)⟩
   ·rw[aV z]
    simp only[j_,fx]
    have hf:decide (x=y)=false:=aV fun e=>z (by rw[e])
    rw[hf]at h
    exact ah (ax (ax (ax h)))
  ·cases e
 ·rintro⟨r1,r2⟩ s' ⟨hr0,rfl,e|⟨e,_⟩|⟨_,e⟩⟩
  ·cases e
  ·cases e
  simp only at hr0
  subst hr0
  refine ax ?_
  rw[bn e]at h
  exact h
theorem eqBool{x y:K1×K2}{a b:Addr}{Q:Bool->Shared->Prop}(hu:A.units<cLine)(hr:hk.room A.in1)(hx:Is knd hk s.heap x a)(hy:Is knd hk s.heap y b)(h:Q (decide (x=y)) s) :
  wpAny (model prog w) A (PySem.eqBool (.ref a) (.ref b)) Q E s:=by
 unfold PySem.eqBool
 try with_reducible refine cF ?_
 show wpAny _ _ (if (Value.ref a==Value.ref b)=true then _ else _) Q E s
 by_cases hab:(Value.ref a==Value.ref b)=true
 ·rw[ay hab]
  have e:a=b:=by have:=jI hab;injection this
  subst e
  obtain rfl:=hx.inj hy
  exact ah (g8 (ax (by simpa using h)))
 ·rw[aC hab]
  exact ah (wpAny_richCompare_same_room (op:=.Eq) hx.typeIs hy.typeIs F.slot_tuple_eq
   (dz F.slot_tuple_eq hx.typeIs F.entry_tuple_eq (Jb hr hx hy ⟨_,rfl,(fun e=>nomatch e),eJ h⟩) (F.args_tuple_eq_2 _ _)) hu)
theorem quiet{k:K1×K2}{Q:Bool->Shared->Prop}(hq:∀{b:Addr} {Q:Bool->Shared->Prop},hk.is s.heap k.2 b->Q true s->wpAny (model prog w) A (eqIsQuiet 7 (.ref b)) Q E s)(hx:Is knd hk s.heap k a)(h:Q true s):wpAny (model prog w) A (eqIsQuiet 8 (.ref a)) Q E s:=by
 have hT:=hx.typeIs
 obtain⟨o,v,b,n,ho,_,hd,h1,h2⟩:=hx
 unfold eqIsQuiet
 refine ah (fE hT F.slot_tuple_eq.lookup ?_)
 show wpAny _ _ (isInstance (.ref a) (.type "tuple") >>= _) _ _ s
 refine ah (iR hT iG ?_)
 simp only[ej,cB,gb]
 refine ah (fU ho hd ?_)
 refine ah ?_
 show wpAny _ _ (forIn #[v,Value.ref b] _ _) _ _ s
 rw[<- kj]
 refine gO _ (fun rest r s'=>r.1=none/\s'=s/\(rest=[v,.ref b]\/rest=[.ref b]\/rest=[])) _ ?_ ?_ _ _ ⟨rfl,rfl,.inl rfl⟩
 ·rintro x rest r s' ⟨hr,rfl,e|e|e⟩
  ·injection e with e1 e2
   subst e1;subst e2
   rw[eqIsQuiet_byValue _ (knd.byValue _ _ h1)]
   refine ah (ax ?_)
   simp only[ej,cB,gb]
   exact ax ⟨rfl,rfl,.inr (.inl (by first|rfl|trivial))⟩
  ·injection e with e1 e2
   subst e1;subst e2
   refine ah (hq h2 ?_)
   simp only[ej,cB,gb]
   exact ax ⟨rfl,rfl,.inr (.inr (by first|rfl|trivial))⟩
  ·cases e
 ·rintro⟨r1,r2⟩ s' ⟨hr,rfl,_⟩
  simp only at hr
  subst hr
  exact ax h
end
theorem CQ{w:World}{K:Type}[DecidableEq K]{knd:KeyKind prog w K}(f:Nat){ks:List K}{Q:Bool->Shared->Prop}(hk:IsTupleKey knd s.heap ks a)(h:Q true s):wpAny (model prog w) A (eqIsQuiet (f+1) (.ref a)) Q E s:=by
 have hT:=hk.typeIs
 obtain⟨o,items,n,ho,_,hd,hi⟩:=hk
 unfold eqIsQuiet
 refine ah (fE hT F.slot_tuple_eq.lookup ?_)
 show wpAny _ _ (isInstance (.ref a) (.type "tuple") >>= _) _ _ s
 refine ah (iR hT iG ?_)
 simp only[ej,cB,gb]
 refine ah (fU ho hd ?_)
 refine ah ?_
 show wpAny _ _ (forIn items _ _) _ _ s
 rw[<- kj]
 refine gO _ (fun rest r s'=>r.1=none/\s'=s/\∀v∈rest,carriedByValue v=true) _ ?_ ?_ _ _ ⟨rfl,rfl,hi.byValue⟩
 ·rintro v rest r s' ⟨hr,rfl,m8⟩
  rw[eqIsQuiet_byValue _ (m8 v aQ)]
  refine ah (ax ?_)
  simp only[ej,cB,gb]
  exact ax ⟨rfl,rfl,fun u hu'=>m8 u (aA _ hu')⟩
 ·rintro⟨r1,r2⟩ s' ⟨hr,rfl,_⟩
  simp only at hr
  subst hr
  exact ax h
def kind{w:World}{K1 K:Type}[DecidableEq K1][DecidableEq K](knd:KeyKind prog w K1)(kd:KeyKind prog w K):HeapKind prog w (K1×List K) where
 is:=Is knd (tupleKind kd)
 hash:=hash knd (tupleKind kd)
 draws:=fun k=>1+(k.2.length+1)+1
 room:=fun A=>A.units+1<cLine
 inj:=fun hx hy=>hx.inj hy
 keeps:=fun x ho hd hs=>x.keeps ho hd hs
 pyHash:=fun hu hk h=>pyHash (Nat.lt_of_succ_lt hu) hu hk h
 eqBool:=fun hu hx hy h=>eqBool (Nat.lt_of_succ_lt hu) hu hx hy h
 quiet:=fun hk h=>quiet (fun hb hq=>CQ 6 hb hq) hk h
section
variable{w:World}{K:Type}[DecidableEq K]{knd:HeapKind prog w K}
theorem zM{d:Addr}{xs:List (K×Addr×Value)}{k:K}{dflt:Value}(hu:knd.room A)(rB:knd.is s.heap k a)(hm:s.heap.DictOfH knd d xs)
  (Au:∀p,atKey xs k=some p->Q p.2 { s with toks:=s.toks+knd.draws k })
  (qJ:atKey xs k=none->∀h',h'.DictOfH knd d (xs++[(k,a,dflt)])->Heap.SameBut d s.heap h'->Q dflt { s with heap:=h',toks:=s.toks+knd.draws k })
  (hsz:xs.length<=sizeLine):wpAny (model prog w) A (dictSetDefault d (.ref a) dflt) Q E s:=by
 obtain⟨o,es,ep,ho,hc,hd,he,y7,hn⟩:=hm
 unfold dictSetDefault
 try with_reducible refine cF ?_
 refine ah (knd.pyHash hu rB ?_)
 refine ah (wpAny_dictFind_heap (s:={ s with toks:=s.toks+knd.draws k }) hu rB ho hd he y7 hn ?_ ?_)
 ·intro hno
  have hnot:k∉xs.map (·.1):=not_mem_keys_of_get hno
  refine ah (g8 (ah (wpAny_updateDictKeys (hz:=by have e:=size_of_entries he;omega) (s:={ s with toks:=s.toks+knd.draws k }) ho hd (ax (qJ (atKey_none_of_get hno) _ ⟨_,_,ep+1,gj _ ho (Obj.isFreed_of_dict (gJ hd _)),
   hc.mapDictKeys _,gJ hd _,?_,?_,?_⟩ (cK ..))))))
  ·simp[he,entryOfKey]
  ·intro x hx
   rcases aN.mp hx with hx|hx
   ·exact knd.keeps (y7 x hx) ho hd (cK ..)
   ·simp only[br]at hx
    subst hx
    exact knd.keeps rB ho hd (cK ..)
  ·rw[cv,cR]
   refine⟨hn,by simp,?_⟩
   intro x hx y hy
   simp only[aG,dL,br]at hy
   subst hy
   exact fun e=>hnot (e▸hx)
 ·intro j p hj
  refine ah (kW (s:={ s with toks:=s.toks+knd.draws k }) ho hd ?_)
  rw[entry_at he j,hj]
  exact ah (g8 (ax (Au p (atKey_of_get hn hj))))
theorem meets_setdefault(d a:Addr)(hd:(d==sysModules)=false)(dflt:Value) :
  MeetsIn prog w (Builtin.«dict.setdefault» ⟨[.ref d,.ref a,dflt],[]⟩) (fun A R s=>knd.room A.in1/\∃k xs,knd.is s.heap k a/\s.heap.DictOfH knd d xs/\xs.length<=sizeLine /\
   (∀p,atKey xs k=some p->R (.ok (.ret p.2)) { s with toks:=s.toks+knd.draws k }) /\
   (atKey xs k=none->∀h',h'.DictOfH knd d (xs++[(k,a,dflt)])->Heap.SameBut d s.heap h'->R (.ok (.ret dflt)) { s with heap:=h',toks:=s.toks+knd.draws k })):=
 .of_wp fun A R s ⟨hu,k,xs,rB,hm,hz,h1,h2⟩=>by
  unfold Builtin.«dict.setdefault»
  refine ah ?_
  unfold Builtin.Dict.keyAndDefault
  refine ah (nh hm.typeIs ?_)
  show wpAny _ _ (pure (d,Value.ref a,some dflt)) _ _ s
  refine ax ?_
  show wpAny _ _ (if (d==sysModules)=true then _ else(dictSetDefault d (.ref a) dflt >>= _)) _ _ s
  rw[aC (by rw[hd];exact bT)]
  exact ah (zM hu rB hm (fun p hp=>ax ⟨p.2,rfl,h1 p hp⟩) (fun hn h' hm' hs'=>ax ⟨dflt,rfl,h2 hn h' hm' hs'⟩) hz)
end
end PK
namespace L2
open PySem PySem.Spec PyProof.Rows
section
variable{w:World}{es:List DictEntry}
theorem Rf(ok:kw P w H h)(e:H a=some (Pn a es)):DX a es h:=(show eO P w H h a (.ext (DX a es))from ok a _ e).1
theorem EK(d:DX a es h):eO P w H h a (Pn a es):=by
 refine⟨d,?_,fun h1 h2 ⟨o,ep,e,x,y⟩ k=>⟨o,ep,k o e,x,y⟩⟩
 obtain⟨o,ep,e,_⟩:=d
 exact⟨o,e⟩
theorem Nt(ok:kw P w H h)(e:H a=some (.dK [])):DX a [] h/\(a==sysModules)=false:=by
 obtain⟨_,hd,vs,i9,dd⟩:=AL ok e
 cases i9
 obtain⟨o,es,ep,h1,h2,h3,_,h4,_⟩:=dd
 refine⟨⟨o,ep,h1,h2,?_⟩,hd⟩
 rw[h3]
 have:es.toList=[]:=by
  cases hh:es.toList with
  |nil=>rfl
  |cons x l=>rw[hh]at h4;cases h4
 rw[show es=[].toArray from by apply Array.ext';rw[this]]
theorem Jc(d:DX a es h)(q:Str):Pn a es≠iz a q:=fun z=>by
 injection z with z
 have:=congrFun z h
 have c:∃o vs t,h.get? a=some o/\o.data=.fields vs/\vs[1]?=some (.str q t):=this▸d
 obtain⟨o,ep,e,_,y⟩:=d
 obtain⟨o',vs,t,e',y',_⟩:=c
 rw[e]at e';cases e'
 rw[y]at y';cases y'
end
section
variable{K:Type}[DecidableEq K]{knd:HeapKind X.prog X.w K}{xs:List (K×Addr×Value)}{k:K}
abbrev zN(knd:HeapKind X.prog X.w K)(xs:List (K×Addr×Value)):List DictEntry:=xs.map (entryOfKey knd)
theorem Kv(d:DX a (zN knd xs) s.heap)(y7:∀x∈xs,knd.is s.heap x.1 x.2.1)(hn:(xs.map (·.1)).Nodup):s.heap.DictOfH knd a xs:=by
 obtain⟨o,ep,h1,h2,h3⟩:=d
 exact⟨o,_,ep,h1,h2,h3,by simp,y7,hn⟩
theorem Jd{ys:List (K×Addr×Value)}(d:h'.DictOfH knd a ys):DX a (zN knd ys) h':=by
 obtain⟨o,es,ep,h1,h2,h3,h4,_⟩:=d
 refine⟨o,ep,h1,h2,?_⟩
 rw[h3,show es=(zN knd ys).toArray from by apply Array.ext';rw[h4]]
structure XD(knd:HeapKind X.prog X.w K)(H:Hp)(s:Shared)(a:Addr)(xs:List (K×Addr×Value)):Prop where
 d:DX a (zN knd xs) s.heap
 is:∀x∈xs,knd.is s.heap x.1 x.2.1
 nd:(xs.map (·.1)).Nodup
 sm:(a==sysModules)=false
 z:xs.length<=sizeLine
 mu:L_ (H a)
theorem Rg(hu:knd.room A.in1)(I:bw X pins σ H s)(x:XD knd H s a xs)(hk:knd.is s.heap k b){p:Addr×Value}(hp:atKey xs k=some p)(h:∀s',bw X pins σ H s'->Q p.2 s'):wpAny (model X.prog X.w) A (getItem (.ref a) (.ref b)) Q E s:=
 wpAny_getItem_heap hu hk (Kv x.d x.is x.nd) hp (h _ (I.tok _))
end
theorem sP:∀{ws:List W} {l:List Int},fQ ws=some l->ws=l.map W.int
 |[],l,h=>by simp only[fQ]at h;cases h;rfl
 |w::ws,l,h=>by
  cases w with
  |int z=>
   unfold fQ at h
   cases e:fQ ws with
   |none=>rw[e]at h;cases h
   |some r=>
    rw[e]at h
    cases h
    rw[sP e];rfl
  |_=>unfold fQ at h;cases h
def qD:W->Option KX
 |.bl b=>some (.bo b)
 |.tup ws=>(match fQ ws,ws with
  |some ks,_=>some (.fl ks)
  |none,[.int i,.tup vs]=>(fQ vs).map (KX.pr i)
  |_,_=>none)
 |_=>none
theorem EL{w:W}{k:KX}(h:qD w=some k):w=k.w:=by
 cases w with
 |bl b=>cases h;rfl
 |tup ws=>
  simp only[qD]at h
  cases e:fQ ws with
  |some ks=>rw[e]at h;cases h;show _=W.tup _;rw[sP e]
  |none=>
   rw[e]at h
   split at h
   ·rename_i z
    cases z
   ·rename_i i vs e2
    cases e3:fQ vs with
    |none=>rw[e3]at h;cases h
    |some ks=>rw[e3]at h;cases h;show _=W.tup [_,.tup _];rw[sP e3]
   ·cases h
 |_=>cases h
structure HV(X:Cx)(K:Type)[DecidableEq K] where
 knd:HeapKind X.prog X.w K
 em:K->KX
 inj:∀{a b:K},em a=em b->a=b
 hash:∀k,(em k).hash=knd.hash k
 is:∀{pins:List (Addr×Obj)} {σ:St} {H:Hp} {s:Shared} {μ:List Addr} {k:K} {v:V} {u:Value},bw X pins σ H s->bf X.K μ H (em k).w v->bS v u->∃b,u=.ref b/\knd.is s.heap k b
 room:∀{A:Around},A.units+2<cLine->knd.room A.in1
theorem items_int{w:World}:∀{ks:List Int} {bz:List Value},cp (ks.map V.int) bz->ItemsAre (intKind P w) ks bz
 |[],_,r=>by cases r;exact .nil
 |k::ks,_,r=>by
  cases r with
  |cons h t=>
   obtain⟨q,rfl⟩:=h
   exact .cons (by simp[intKind,Value.isInt]) (items_int t)
theorem EM:∀{ks:List Int} {vs:List V},RelWs K μ H (ks.map W.int) vs->vs=ks.map V.int
 |[],vs,r=>r.nilE
 |k::ks,vs,r=>by
  obtain⟨x,xs,rfl,a,b⟩:=r.consE
  rw[a.intE,EM b];rfl
theorem EN{ks:List Int}(I:bw X pins σ H s)(r:bf X.K μ H (.tup (ks.map W.int)) v)(ru:bS v u):∃b,u=.ref b/\IsTupleKey (intKind X.prog X.w) s.heap ks b:=by
 obtain⟨p,vs,rfl,hS,q⟩:=r.tupE
 cases ru
 rw[EM q]at hS
 obtain⟨bz,r,⟨o,ho,hc,n,hd⟩,_⟩:=I.tuple hS
 exact⟨p,rfl,o,bz.toArray,n,ho,hc,hd,items_int r⟩
def Tl(X:Cx):HV X (List Int) where
 knd:=tupleKind (intKind X.prog X.w)
 em:=KX.fl
 inj:=fun h=>by injection h
 hash:=fun k=>rfl
 is:=fun I r ru=>EN I r ru
 room:=fun{A} h=>by show A.units+1<cLine;omega
def Tn(X:Cx):HV X (Int×List Int) where
 knd:=PK.kind (intKind X.prog X.w) (intKind X.prog X.w)
 em:=fun k=>.pr k.1 k.2
 inj:=fun{a b} h=>by injection h with h1 h2;exact Prod.ext h1 h2
 hash:=fun k=>rfl
 is:=fun{pins σ H s μ k v u} I r ru=>by
  obtain⟨p,vs,rfl,hS,q⟩:=bf.tupE r
  cases ru
  obtain⟨x,xs,rfl,a,b⟩:=q.consE
  obtain⟨y,ys,rfl,c,d⟩:=b.consE
  have:=d.nilE;subst this
  cases a.intE
  obtain⟨bz,r',⟨o,ho,hc,n,hd⟩,_⟩:=I.tuple hS
  obtain⟨u1,us,rfl,r1,r2⟩:∃u1 us,bz=u1::us/\bS (.int k.1) u1/\cp [y] us:=by cases r' with|cons h t=>exact⟨_,_,rfl,h,t⟩
  obtain⟨u2,rfl,r3⟩:∃u2,us=[u2]/\bS y u2:=by
   cases r2 with
   |cons h t=>cases t;exact⟨_,rfl,h⟩
  obtain⟨b,rfl,hb⟩:=EN I c r3
  obtain⟨t,rfl⟩:=r1
  exact⟨p,rfl,o,_,b,n,ho,hc,hd,by simp[intKind,Value.isInt],hb⟩
 room:=fun{A} h=>by show A.units+1+1<cLine;omega
def iY(kvs:List (KX×W))(k:KX):Option W:=(kvs.find? fun p=>decide (p.1=k)).map fun p=>p.2
def sQ(kvs:List (KX×W))(k:KX)(v:W):List (KX×W):=if (iY kvs k).isSome=true then kvs.map fun p=>if p.1=k then(p.1,v)else p else kvs++[(k,v)]
section
variable{K:Type}[DecidableEq K](G:HV X K)
def Vw(μ:List Addr)(H:Hp):List (KX×W)->List (K×Addr×Value)->Prop:=Paired fun p x=>p.1=G.em x.1/\bf X.K μ H p.1.w (.ref x.2.1)/\∃v,bf X.K μ H p.2 v/\bS v x.2.2
theorem sR(h:bS v (.ref b)):v=.ref b:=by
 cases v with
 |ref a=>cases h;rfl
 |non=>cases h
 |bl _=>cases h
 |ty _=>cases h
 |int _=>obtain⟨_,h⟩:=h;cases h
 |str _=>obtain⟨_,h⟩:=h;cases h
 |byt _=>obtain⟨_,h⟩:=h;cases h
 |flt _=>obtain⟨_,h⟩:=h;cases h
theorem A'(I:bw X pins σ H s):∀{kvs:List (KX×W)} {es:List DictEntry},Paired (q9 X.K μ H) kvs es->(∀p∈kvs,∃k,p.1=G.em k)->∃xs,es=zN G.knd xs/\Vw G μ H kvs xs/\∀x∈xs,G.knd.is s.heap x.1 x.2.1
 |_,_,.nil,_=>⟨[],rfl,.nil,fun x hx=>by cases hx⟩
 |_,_,.cons (a:=p) (b:=e) r t,hk=>by
  obtain⟨xs,e1,vw,y7⟩:=A' I t fun p hp=>hk p (aA _ hp)
  obtain⟨k,hpk⟩:=hk p (aQ ..)
  obtain⟨hh,⟨v,rk,rv⟩,u,ru,kP⟩:=r
  obtain⟨b,hb,hi⟩:=G.is (k:=k) I (by rw[<- hpk];exact rk) rv
  have ev:v=.ref b:=sR (by rw[<- hb];exact rv)
  subst ev
  refine⟨(k,b,e.val)::xs,?_,.cons ⟨hpk,rk,u,ru,kP⟩ vw,fun x hx=>?_⟩
  ·rw[e1]
   show e::_=entryOfKey G.knd (k,b,e.val)::_
   congr 1
   obtain⟨eh,ek,ev⟩:=e
   simp only at hh hb
   subst hb
   rw[hh,hpk,G.hash];rfl
  ·rcases aI.mp hx with rfl|hx
   ·exact hi
   ·exact y7 x hx
variable{G}
theorem pQ:∀{kvs:List (KX×W)} {xs:List (K×Addr×Value)} (k:K),Vw G μ H kvs xs->(∃w p v,iY kvs (G.em k)=some w/\atKey xs k=some p/\bf X.K μ H w v/\bS v p.2)\/(iY kvs (G.em k)=none/\atKey xs k=none)
 |_,_,k,.nil=>.inr ⟨rfl,rfl⟩
 |_,_,k,.cons (a:=p) (b:=x) (l₁:=kvs) (l₂:=xs) ⟨h1,_,v,h3,h4⟩ t=>by
  by_cases e:x.1=k
  ·refine .inl ⟨p.2,x.2,v,?_,?_,h3,h4⟩
   ·unfold iY;rw[bG];simp[h1,e]
   ·unfold atKey;rw[bG];simp[e]
  ·have e2:p.1≠G.em k:=fun z=>e (G.inj (h1.symm.trans z))
   have a1:iY (p::kvs) (G.em k)=iY kvs (G.em k):=by unfold iY;rw[bG];simp[e2]
   have a2:atKey (x::xs) k=atKey xs k:=by unfold atKey;rw[bG];simp[e]
   rw[a1,a2]
   exact pQ k t
theorem uX:∀{kvs:List (KX×W)} {xs:List (K×Addr×Value)},Vw G μ H kvs xs->kvs.map (fun p=>p.1)=(xs.map (·.1)).map G.em
 |_,_,.nil=>rfl
 |_,_,.cons ⟨h1,_⟩ t=>by
  simp only[aG]
  rw[h1,uX t]
theorem uY:∀{kvs:List (KX×W)} {xs:List (K×Addr×Value)},Vw G μ H kvs xs->Paired (q9 X.K μ H) kvs (zN G.knd xs)
 |_,_,.nil=>.nil
 |_,_,.cons ⟨h1,h2,h3⟩ t=>.cons ⟨by rw[h1,G.hash];rfl,⟨_,h2,rfl⟩,h3⟩ (uY t)
theorem xZ{k:K}{w:W}(kP:bf X.K μ H w v)(ru:bS v u):∀{kvs:List (KX×W)} {xs:List (K×Addr×Value)},Vw G μ H kvs xs->Vw G μ H (kvs.map fun p=>if p.1=G.em k then(p.1,w)else p) (xs.map (putAt k u))
 |_,_,.nil=>.nil
 |_,_,.cons (a:=p) (b:=x) ⟨h1,h2,h3⟩ t=>by
  refine .cons ?_ (xZ kP ru t)
  by_cases e:x.1=k
  ·simp only[]
   rw[ay (by rw[h1,e])]
   unfold putAt
   rw[ay e]
   exact⟨h1,h2,v,kP,ru⟩
  ·simp only[]
   rw[aC fun z=>e (G.inj (h1.symm.trans z))]
   unfold putAt
   rw[aC e]
   exact⟨h1,h2,h3⟩
theorem EO{k:K}{w:W}{xs:List (K×Addr×Value)}(vw:Vw G μ H kvs xs)(rk:bf X.K μ H (G.em k).w (.ref b))(kP:bf X.K μ H w v)(ru:bS v u):Vw G μ H (sQ kvs (G.em k) w) (storedH xs k b u):=by
 unfold sQ storedH
 rcases pQ (G:=G) k vw with⟨w',p,v',e1,e2,_⟩|⟨e1,e2⟩
 ·rw[e1,e2]
  exact xZ kP ru vw
 ·rw[e1,e2]
  simp only[Option.isSome_none,cB,gb]
  exact Paired.snoc vw ⟨rfl,rk,v,kP,ru⟩
end
def KX.tag:KX->Nat
 |.bo _=>0
 |.fl _=>1
 |.pr _ _=>2
def Ba(kvs:List (KX×W))(k:KX):Bool:=decide (k.tag≠0)&&kvs.all fun p=>p.1.tag==k.tag
def jt(st:List aj):W->Option (Nat×List (KX×W))
 |.loc n=>(match st[n]? with
  |some (.dcx kvs)=>some (n,kvs)
  |some (.dct [])=>some (n,[])
  |_=>none)
 |_=>none
section
variable{st:List aj}
structure Dc(X:Cx)(μ:List Addr)(H:Hp)(s:Shared)(st:List aj)(n:Nat)(kvs:List (KX×W))(a:Addr)(es:List DictEntry):Prop where
 m:μ[n]?=some a
 c:∃c,st[n]?=some c/\c.isRo=false
 o:∃o,H a=some o/\(∀q u,o≠.frz q u)/\∀q,o≠iz a q
 d:DX a es s.heap
 sm:(a==sysModules)=false
 p:Paired (q9 X.K μ H) kvs es
 nd:(kvs.map fun p=>p.1).Nodup
 mu:L_ (H a)
 sq:∀es',dD X.K H (eL H a (Pn a es'))
theorem fy.butE{l:Addr}(e:Qx l H H')(hl:H l=some (.ext φ)):dD K H H':=by
 have lu:∀{p:Addr} {o:HO},H p=some o->(∀zs,o≠.ext zs)->p≠l:=fun{p o} q hn z=>by subst z;rw[hl]at q;cases q;exact hn _ rfl
 refine⟨fun p ys h=>?_,fun b o u h=>e _ _ (lu h (fun _ z=>by cases z)) h⟩
 rcases h with(h|⟨o,h⟩)|h
 ·exact .inl (.inl (e _ _ (lu h (fun _ z=>by cases z)) h))
 ·exact .inl (.inr ⟨o,e _ _ (lu h (fun _ z=>by cases z)) h⟩)
 ·exact .inr h
theorem pR(I:bw X pins σ H s)(S:fY X.K X.mg μ st H){x:W}(h:jt st x=some (n,kvs))(r:bf X.K μ H x v):∃a es,v=.ref a/\Dc X μ H s st n kvs a es:=by
 cases x with
 |loc m=>
  simp only[jt]at h
  cases e:st[m]? with
  |none=>rw[e]at h;cases h
  |some c=>
   rw[e]at h
   cases c with
   |dcx z=>
    cases h
    obtain⟨a,g,es,k,hd,p,nd⟩:=S.get e
    obtain⟨b,f,rfl⟩:=r.locE
    rw[g]at f;cases f
    have d:=Rf I.hok k
    exact⟨a,es,rfl,g,⟨_,e,rfl⟩,⟨_,k,(fun _ _ z=>by cases z),Jc d⟩,d,hd,p,nd,by rw[k];trivial,fun es'=>fy.butE fL k⟩
   |dct z=>
    cases z with
    |cons _ _=>cases h
    |nil=>
     cases h
     obtain⟨a,g,vs,k,rr⟩:=S.get e
     obtain⟨b,f,rfl⟩:=r.locE
     rw[g]at f;cases f
     have k:H a=some (.dK []):=k
     obtain⟨d,hd⟩:=Nt I.hok k
     exact⟨a,[],rfl,g,⟨_,e,rfl⟩,⟨_,k,(fun _ _ z=>by cases z),fun _ z=>by cases z⟩,d,hd,.nil,ko,by rw[k];trivial,fun es'=>fy.butD fL k⟩
   |_=>cases h
 |_=>cases h
theorem Bb{K:Type}[DecidableEq K](G:HV X K){es:List DictEntry}(I:bw X pins σ H s)(D:Dc X μ H s st n kvs a es)(hk:∀p∈kvs,∃k,p.1=G.em k)(hl:kvs.length<=sizeLine):∃xs,XD G.knd H s a xs/\Vw G μ H kvs xs:=by
 obtain⟨xs,e,vw,y7⟩:=A' G I D.p hk
 have hn:(xs.map (·.1)).Nodup:=by
  have:=D.nd
  rw[uX vw]at this
  exact(gC.mp this).imp fun h e=>h (dJ _ e)
 exact⟨xs,⟨by rw[<- e];exact D.d,y7,hn,D.sm,by rw[<- Paired.length vw];exact hl,D.mu⟩,vw⟩
theorem EQ{k:KX}(h:Ba kvs k=true):(∃ks,k=.fl ks/\∀p∈kvs,∃q,p.1=(Tl X).em q)\/∃i ks,k=.pr i ks/\∀p∈kvs,∃q,p.1=(Tn X).em q:=by
 unfold Ba at h
 rw[bh,d6]at h
 obtain⟨h0,h1⟩:=h
 cases k with
 |bo b=>simp[KX.tag]at h0
 |fl ks=>
  refine .inl ⟨ks,rfl,fun p hp=>?_⟩
  have:=h1 p hp
  cases e:p.1 with
  |fl q=>exact⟨q,rfl⟩
  |bo _=>rw[e]at this;simp[KX.tag]at this
  |pr _ _=>rw[e]at this;simp[KX.tag]at this
 |pr i ks=>
  refine .inr ⟨i,ks,rfl,fun p hp=>?_⟩
  have:=h1 p hp
  cases e:p.1 with
  |pr j q=>exact⟨(j,q),rfl⟩
  |bo _=>rw[e]at this;simp[KX.tag]at this
  |fl _=>rw[e]at this;simp[KX.tag]at this
def ER(kvs:List (KX×W))(k:KX):Bool:=Ba kvs k&&decide (kvs.length<jF)
theorem Kw{Pr:Prop}{es:List DictEntry}{k:KX}(I:bw X pins σ H s)(D:Dc X μ H s st n kvs a es)(h:ER kvs k=true)(rk:bf X.K μ H k.w v)(ru:bS v u)
  (hh:∀(K:Type) [DecidableEq K] (G:HV X K) (q:K) (b:Addr) (xs:List (K×Addr×Value)),k=G.em q->v=.ref b->u=.ref b->G.knd.is s.heap q b->XD G.knd H s a xs->Vw G μ H kvs xs->Pr):Pr:=by
 unfold ER at h
 rw[bh,bY]at h
 have hl:kvs.length<=sizeLine:=iI (d_ h.2)
 rcases EQ (X:=X) h.1 with⟨ks,rfl,hk⟩|⟨i,ks,rfl,hk⟩
 ·obtain⟨xs,xd,vw⟩:=Bb (Tl X) I D hk hl
  obtain⟨b,rfl,hb⟩:=(Tl X).is (k:=ks) I rk ru
  exact hh _ (Tl X) ks b xs rfl (sR ru) rfl hb xd vw
 ·obtain⟨xs,xd,vw⟩:=Bb (Tn X) I D hk hl
  obtain⟨b,rfl,hb⟩:=(Tn X).is (k:=(i,ks)) I rk ru
  exact hh _ (Tn X) (i,ks) b xs rfl (sR ru) rfl hb xd vw
end
theorem CS{k:KX}(h:iY kvs k=none):k∉kvs.map fun p=>p.1:=fun z=>by
 obtain⟨p,hp,e⟩:=al.mp z
 unfold iY at h
 rw[Option.map_eq_none_iff,kh]at h
 exact h p hp (bn e)
theorem Bc(k:KX)(v:W)(h:(kvs.map fun p=>p.1).Nodup):((sQ kvs k v).map fun p=>p.1).Nodup:=by
 unfold sQ
 by_cases z:(iY kvs k).isSome=true
 ·rw[ay z,aT]
  have:((fun p:KX×W=>p.1)∘fun p:KX×W=>if p.1=k then(p.1,v)else p)=fun p=>p.1:=by
   funext p
   show(if p.1=k then(p.1,v)else p).1=p.1
   split<;>rfl
  rw[this];exact h
 ·rw[aC z,cv,cR]
  have hn:iY kvs k=none:=by
   cases e:iY kvs k with
   |none=>rfl
   |some _=>rw[e]at z;exact(z rfl).elim
  refine⟨h,by simp,fun a ha b hb=>?_⟩
  have:b=k:=by simpa using hb
  subst this
  exact fun e=>CS hn (e▸ha)
section
theorem Dc.put{K:Type}[DecidableEq K]{G:HV X K}{st:List aj}{es:List DictEntry}(D:Dc X μ H s st n kvs a es)(S:fY X.K X.mg μ st H)
  {xs:List (K×Addr×Value)} {z:K} {b:Addr} {wv:W} {v:V} {u:Value} (vw:Vw G μ H kvs xs) (rk:bf X.K μ H (G.em z).w (.ref b)) (rv:bf X.K μ H wv v) (ru:bS v u) :
  fY X.K X.mg μ (st.set n (.dcx (sQ kvs (G.em z) wv))) (eL H a (Pn a (zN G.knd (storedH xs z b u)))):=by
 obtain⟨c,hc,tQ⟩:=D.c
 obtain⟨o,ho,hf,hg⟩:=D.o
 exact S.setG hc tQ D.m ho hf hg (D.sq _) rfl ⟨_,dG,D.sm,Paired.imp' (fun _ _ q=>q.mono (af _) (D.sq _)) (uY (EO vw rk rv ru)),Bc _ _ D.nd⟩
def PX(X:Cx)(x y:V)(H:Hp)(Q:VK):Prop:=∃a,x=.ref a/\∀(pins:List (Addr×Obj)) (σ:St) (s:Shared) (u:Value) (E:Value->Shared->Prop) (Qv:Value->Shared->Prop),bw X pins σ H s->bS y u ->
 (∀v w' s',bw X pins σ H s'->bS v w'->Q v H->Qv w' s')->s.TypeIs (.ref a) "dict"/\wpAny (model X.prog X.w) X.A (getItem (.ref a) u) Qv E s
def Rh(X:Cx)(td ty:TE):TE:=fun σ H Q=>td σ H fun x H1=>ty σ H1 fun y H2=>PX X x y H2 Q
theorem Je{o i:Expr}{td ty:TE}(ho:PE X o td)(hi:PE X i ty)(hs:DY i):PE X (.Subscript o i pos) (Rh X td ty):=by
 intro pins s σ H Q I h
 refine vF PySem.F.slot_dict_getitem.lookup hs (f6 (ho pins s σ H _ I h) fun u s1 ⟨x,H1,I1,rx,q1⟩=>f6 (hi pins s1 σ H1 _ I1 q1) fun iv s2 ⟨y,H2,I2,ry,a,ex,g⟩=>?_)
 subst ex
 obtain rfl:u=Value.ref a:=rx
 exact g pins σ s2 iv _ _ I2 ry fun v w' s3 I3 kP q2=>⟨v,H2,I3,kP,q2⟩
theorem nQ{st:List aj}{es:List DictEntry}(D:Dc X μ H s st n kvs a es):s.TypeIs (.ref a) "dict":=by
 obtain⟨o,ep,h1,h2,_⟩:=D.d
 exact⟨o,h1,h2.1⟩
def U9(X:Cx)(id:String)(x y z:V)(H:Hp)(Q:VK):Prop:=∃a,x=.ref a/\∀(pins:List (Addr×Obj)) (σ:St) (s:Shared) (u r:Value) (E:Value->Shared->Prop) (Qv:Value->Shared->Prop),bw X pins σ H s->bS y u->bS z r ->
 (∀v w' H' s',bw X pins σ H' s'->bS v w'->Q v H'->Qv w' s')->wpAny (model X.prog X.w) X.A (call (.builtin id) [.ref a,u,r]) Qv E s
def UR(X:Cx)(x:V)(H:Hp):Prop:=∃a,x=.ref a/\∀(pins:List (Addr×Obj)) (σ:St) (s:Shared),bw X pins σ H s->s.TypeIs (.ref a) "dict"/\∀b,Value.ref a=.ref b->∃ob,s.heap.get? b=some ob/\ob.dict=none
def Nu(X:Cx)(id:String)(td ty tx:TE):TE:=fun σ H Q=>td σ H fun x H1=>UR X x H1/\ty σ H1 fun y H2=>tx σ H2 fun z H3=>U9 X id x y z H3 Q
theorem ES{o f:Expr}{td ty tx:TE}(ho:PE X o td)(he:PE X e ty)(hf:PE X f tx)(m:M2 X o "setdefault" fK e f dk):PE X (.Call (.Attribute o "setdefault" fK) [e,f] [] dk) (Nu X "dict.setdefault" td ty tx):=by
 intro pins s σ H Q I h
 refine wpAny_Call_method m.base m.few m.line PySem.F.plainAttrs_dict PySem.F.slot_dict_setdefault PySem.F.type_dict_setdefault (f6 (ho pins s σ H _ I h) fun u s1 ⟨x,H1,I1,rx,⟨a,ex,d⟩,q1⟩=>?_)
 subst ex
 obtain rfl:u=Value.ref a:=rx
 obtain⟨t1,t2⟩:=d pins σ s1 I1
 refine⟨t1,t2,?_⟩
 rw[m.trees]
 refine f9 rfl (i_ (fg (f6 (he pins s1 σ H1 _ I1 q1) fun iv s2 ⟨y,H2,I2,ry,q2⟩=>
  fg (f6 (hf pins s2 σ H2 _ I2 q2) fun fv s3 ⟨z,H3,I3,rz,a',ea,g⟩=>gw ?_))))
 cases ea
 exact g pins σ s3 iv fv _ _ I3 ry rz fun v w' H' s4 I4 kP q3=>⟨v,H',I4,kP,q3⟩
theorem zO{st:List aj}{x:W}{nk:Nat×List (KX×W)}(S:fY X.K X.mg μ st H)(e:jt st x=some nk)(r:bf X.K μ H x v):UR X v H:=by
 have⟨a,ea,_⟩:∃a,v=.ref a/\True:=by
  cases x with
  |loc m=>obtain⟨a,_,e⟩:=r.locE;exact⟨a,e,trivial⟩
  |_=>simp only[jt]at e;cases e
 subst ea
 refine⟨a,rfl,fun pins σ s I=>?_⟩
 obtain⟨a',es,ea,D⟩:=pR I S (n:=nk.1) (kvs:=nk.2) e r
 cases ea
 refine⟨nQ D,fun b hb=>?_⟩
 cases hb
 obtain⟨o,ep,h1,h2,_⟩:=D.d
 exact⟨o,h1,h2.2.1⟩
end
end L2
namespace PK
open PySem
section
variable{w:World}
theorem CU{b:Bool}{Q:Int->Shared->Prop}(h:Q (hashInt (if b then 1 else 0)) { s with toks:=s.toks+1 }):wpAny (model prog w) A (PySem.pyHash (.bool b)) Q E s:=by
 have hr:=rawHash_range (if b then 1 else 0)
 unfold PySem.pyHash
 have hv:[Value.bool b].any Value.onHeap=false:=rfl
 refine ah ?_
 rw[cRoomFor,aC (by rw[hv];exact bT)];refine ax ?_
 refine ah (fE (typeIs_bool s b) F.slot_bool_hash.lookup ?_)
 show wpAny _ _ (if (some (Value.builtin "int.__hash__")==some Value.none)=true then _ else _) Q E s
 rw[aC (by rw[beq_builtin_none];exact bT)]
 refine ah (fE (typeIs_bool s b) F.slot_bool_hash.lookup ?_)
 show wpAny _ _ (callSpecialIfBoundUnlessNone? (.bool b) "__hash__" _ >>= _) Q E s
 refine ah (gr (typeIs_bool s b) F.slot_bool_hash
  (dz F.slot_bool_hash (typeIs_bool s b) entry_int_hash
   (show wpAny _ _ (do ret (<- mkInt (rawHash (if b then 1 else 0)))) _ _ s from mW ?_) (args_int_hash _)))
 show wpAny _ _ (if (decide (-(2:Int)^63<=rawHash (if b then 1 else 0))&&decide (rawHash (if b then 1 else 0)<2^63))=true then _ else _) Q E _
 rw[ay (by rw[bn hr.1,bn hr.2];rfl)]
 exact ax h
end
def isBool:Bool->Value->Bool
 |b,.bool c=>b==c
 |_,_=>false
theorem gN           {b:Bool} {v:Value} (h : isBool b v = true) : v = .bool b := by
  cases v with
  | bool c => have : b = c := by simpa [isBool] using h
              rw [this]
  | _ => cases h
def boolKind(prog:Program)(w:World):KeyKind prog w Bool where
 is:=isBool
 hash:=fun b=>hashInt (if b then 1 else 0)
 inj:=fun v a b ha hb=>by
  have h1:=gN ha
  have h2:=gN hb
  rw[h1]at h2
  injection h2
 byValue:=fun k v h=>by rw[gN h];rfl
 pyHash:=fun hv h=>by rw[gN hv];exact CU h
 eqBool:=fun{A E s a b u v Q} hu hv h=>by
  rw[gN hu,gN hv]
  have:decide (a=b)=(a==b):=by cases a<;>cases b<;>rfl
  rw[this]at h
  exact SeqAt.EqAt.bool_bool a b _ _ _ _ h
 «strs»:=fun k x t v h=>by cases h
end PK
namespace L2
open PySem PySem.Spec PyProof.Rows
section
variable{w:World}{K:Type}[DecidableEq K]{knd:KeyKind prog w K}{es:List DictEntry}{k:K}{key dflt:Value}
theorem Jf(rB:knd.is k key=true)(d:DX a es s.heap)(hk:KeysOf knd es.toArray)
  (Au:∀e,(es.find? fun e=>knd.is k e.key)=some e->Q e.val { s with toks:=s.toks+1 })
  (qJ:(es.find? fun e=>knd.is k e.key)=none->∀h',DX a (es++[⟨knd.hash k,key,dflt⟩]) h'->Heap.SameBut a s.heap h'->Q dflt { s with heap:=h',toks:=s.toks+1 })
  (hz:es.length<=sizeLine):wpAny (model prog w) A (dictSetDefault a key dflt) Q E s:=by
 obtain⟨o,ep,ho,hc,hd⟩:=d
 unfold dictSetDefault
 try with_reducible refine cF ?_
 refine ah (knd.pyHash rB ?_)
 refine ah (wpAny_dictFind_of (s:={ s with toks:=s.toks+1 }) rB ho hd hk ?_)
 have ef:(es.toArray.find? fun e=>knd.is k e.key)=es.find? fun e=>knd.is k e.key:=by simp
 cases hi:es.toArray.findIdx? fun e=>knd.is k e.key with
 |some i=>
  refine ah (kW (s:={ s with toks:=s.toks+1 }) ho hd ?_)
  have hlt:i<es.toArray.size:=(Array.findIdx?_eq_some_iff_findIdx_eq.mp hi).1
  rw[Array.getElem?_eq_getElem hlt]
  have hfi:(es.find? fun e=>knd.is k e.key)=some es.toArray[i]:=by
   have h1:es.findIdx? (fun e=>knd.is k e.key)=some i:=by rw[<- ni];exact hi
   obtain⟨h2,h3,h4⟩:=List.findIdx?_eq_some_iff_getElem.mp h1
   rw[List.find?_eq_some_iff_getElem]
   exact⟨h3,i,h2,by simp,fun j hj=>by simpa using h4 j hj⟩
  exact ah (g8 (ax (Au _ hfi)))
 |none=>
  have y8:(es.find? fun e=>knd.is k e.key)=none:=by
   have h1:es.findIdx? (fun e=>knd.is k e.key)=none:=by rw[<- ni];exact hi
   rw[kh]
   intro x hx
   have:=kH.mp h1 x hx
   simpa using this
  refine ah (g8 (ah (wpAny_updateDictKeys (hz:=by simpa using hz) (s:={ s with toks:=s.toks+1 }) ho hd (ax (qJ y8 _ ⟨_,ep+1,gj _ ho (Obj.isFreed_of_dict (gJ hd _)),hc.mapDictKeys _,?_⟩ (cK ..))))))
  rw[gJ hd]
  congr 1
  simp
theorem zP(rB:knd.is k key=true)(hd:(a==sysModules)=false) :
  MeetsIn prog w (Builtin.«dict.setdefault» ⟨[.ref a,key,dflt],[]⟩) (fun _ R s=>∃es,DX a es s.heap/\KeysOf knd es.toArray/\es.length<=sizeLine /\
   (∀e,(es.find? fun e=>knd.is k e.key)=some e->R (.ok (.ret e.val)) { s with toks:=s.toks+1 }) /\
   ((es.find? fun e=>knd.is k e.key)=none->∀h',DX a (es++[⟨knd.hash k,key,dflt⟩]) h'->Heap.SameBut a s.heap h'->R (.ok (.ret dflt)) { s with heap:=h',toks:=s.toks+1 })):=
 .of_wp fun A R s ⟨es,d,hk,hz,h1,h2⟩=>by
  have ht:s.TypeIs (.ref a) "dict":=let ⟨o,ep,e,c,_⟩:=d;⟨o,e,c.1⟩
  unfold Builtin.«dict.setdefault»
  refine ah ?_
  unfold Builtin.Dict.keyAndDefault
  refine ah (nh ht ?_)
  show wpAny _ _ (pure (a,key,some dflt)) _ _ s
  refine ax ?_
  show wpAny _ _ (if (a==sysModules)=true then _ else(dictSetDefault a key dflt >>= _)) _ _ s
  rw[aC (by rw[hd];exact bT)]
  exact ah (Jf rB d hk (fun e he=>ax ⟨e.val,rfl,h1 e he⟩) (fun hn h' d' hs=>ax ⟨dflt,rfl,h2 hn h' d' hs⟩) hz)
end
section
def ET(kvs:List (KX×W))(k:KX):Bool:=decide (k.tag=0)&&(kvs.all fun p=>p.1.tag==0)&&decide (kvs.length<jF)
theorem zQ:∀{kvs:List (KX×W)} {es:List DictEntry},Paired (q9 X.K μ H) kvs es->(kvs.all fun p=>p.1.tag==0)=true->∀e∈es,∃b,(PK.boolKind X.prog X.w).is b e.key=true/\e.hash=(PK.boolKind X.prog X.w).hash b
 |_,_,.nil,_=>fun e he=>by cases he
 |_,_,.cons (a:=p) (b:=e) r t,h=>fun e' he=>by
  rw[ly,bh]at h
  rcases aI.mp he with rfl|he
  ·obtain⟨hh,⟨v,rk,rv⟩,_⟩:=r
   obtain⟨pk,pw⟩:=p
   cases pk with
   |bo b=>
    cases bf.blE rk
    have hk:_=Value.bool b:=rv
    exact⟨b,by rw[hk];simp[PK.boolKind,PK.isBool],hh⟩
   |fl _=>simp[KX.tag]at h
   |pr _ _=>simp[KX.tag]at h
  ·exact zQ t h.2 e' he
theorem vZ(b:Bool):∀{kvs:List (KX×W)} {es:List DictEntry},Paired (q9 X.K μ H) kvs es->(kvs.all fun p=>p.1.tag==0)=true ->
  (∃w e v,iY kvs (.bo b)=some w/\(es.find? fun e=>(PK.boolKind X.prog X.w).is b e.key)=some e/\bf X.K μ H w v/\bS v e.val)\/(iY kvs (.bo b)=none/\(es.find? fun e=>(PK.boolKind X.prog X.w).is b e.key)=none)
 |_,_,.nil,_=>.inr ⟨rfl,rfl⟩
 |_,_,.cons (a:=p) (b:=e) (l₁:=kvs) (l₂:=es) r t,h=>by
  rw[ly,bh]at h
  obtain⟨hh,⟨v,rk,rv⟩,u,ru,kP⟩:=r
  obtain⟨pk,pw⟩:=p
  cases pk with
  |bo c=>
   cases bf.blE rk
   have hek:e.key=.bool c:=rv
   by_cases z:c=b
   ·subst z
    refine .inl ⟨pw,e,u,?_,?_,ru,kP⟩
    ·unfold iY;rw[bG];simp
    ·rw[bG,hek];simp[PK.boolKind,PK.isBool]
   ·have a1:iY ((KX.bo c,pw)::kvs) (.bo b)=iY kvs (.bo b):=by unfold iY;rw[bG];simp[z]
    have a2:((e::es).find? fun e=>(PK.boolKind X.prog X.w).is b e.key)=es.find? fun e=>(PK.boolKind X.prog X.w).is b e.key:=by
     rw[bG,hek,show(PK.boolKind X.prog X.w).is b (.bool c)=false by simp[PK.boolKind,PK.isBool,Ne.symm z]]
    rw[a1,a2]
    exact vZ b t h.2
  |fl _=>simp[KX.tag]at h
  |pr _ _=>simp[KX.tag]at h
end
section
variable{w:World}{es:List DictEntry}
theorem v5(hd:(a==sysModules)=false):MeetsIn prog w (Builtin.«dict.__len__» ⟨[.ref a],[]⟩) (fun _ R s=>∃es,DX a es s.heap/\R (.ok (.ret (.int es.length s.toks))) { s with toks:=s.toks+1 }):=
 .of_wp fun A R s ⟨es,⟨o,ep,ho,hc,hdat⟩,h⟩=>by
  show wpAny _ _ (dictSize a >>= _) _ _ s
  unfold dictSize
  refine ah (ah (kW ho hdat (ax ?_)))
  show wpAny _ _ (Builtin.Dict.pendingCount a >>= _) _ _ s
  refine ah (wpAny_pendingCount_other hd ?_)
  refine mW ?_
  rw[mE,aD];exact h
theorem x5(hd:(a==sysModules)=false)(d:DX a es s.heap)(ON:(es.length:Int)<2^63)(h:Q (.int es.length (s.toks+1)) { s with toks:=s.toks+1+1 }):wpAny (model prog w) A (call (.builtin "len") [.ref a]) Q E s:=by
 have ht:s.TypeIs (.ref a) "dict":=let ⟨o,ep,e,c,_⟩:=d;⟨o,e,c.1⟩
 refine kF kind_len plain_len entry_len (args_len1 _) ?_
 unfold Builtin.«len»
 refine ah (m:=oneArg "len" _) (ax ?_)
 refine ah (m:=callSpecial? (.ref a) (Str.ofString "__len__")) (dy (name:=Str.ofString "__len__") ht F.slot_dict_len
  (mD F.slot_dict_len ht F.entry_dict_len (F.args_dict_len_1 _) (v5 hd) ⟨es,d,?_⟩))
 show wpAny _ _ _ _ _ { s with toks:=s.toks+1 }
 refine ah (cF (ax ?_))
 refine ah (kT ?_)
 show wpAny _ _ (if ((es.length:Nat):Int)<0 then _ else _) _ _ _
 rw[aC (by omega)]
 show wpAny _ _ (if ((es.length:Nat):Int)≥2^63 then _ else _) _ _ _
 rw[aC (by omega)]
 exact ah (wpAny_mkInt (ax ⟨_,rfl,h⟩))
end
section
theorem Ri{st:List aj}{es:List DictEntry}(D:Dc X μ H s st n kvs a es)(h:(kvs.all fun p=>p.1.tag==0)=true):s.heap.MapOf (PK.boolKind X.prog X.w) a (findBy (PK.boolKind X.prog X.w).is es.toArray):=by
 obtain⟨o,ep,h1,h2,h3⟩:=D.d
 exact⟨o,_,ep,h1,h2,h3,fun e he=>zQ D.p h e (by simpa using he),fun _=>rfl⟩
theorem Kx{k:KX}(h:ET kvs k=true):(∃b,k=.bo b)/\(kvs.all fun p=>p.1.tag==0)=true/\kvs.length<=sizeLine:=by
 unfold ET at h
 rw[bh,bh,bY,bY]at h
 refine⟨?_,h.1.2,iI (d_ h.2)⟩
 cases k with
 |bo b=>exact⟨b,rfl⟩
 |fl _=>simp[KX.tag]at h
 |pr _ _=>simp[KX.tag]at h
def EU(x y:W)(st:List aj):R W:=match jt st x,qD y with
 |some (_,kvs),some k=>if (ER kvs k||ET kvs k)=true then ou (iY kvs k) fun w=>.ok w st else .bad
 |_,_=>.bad
theorem Rj{a b:Expr}{pos:Pos}(hr:gD kk X.A)(ha:SE X a fa)(hb:SE X b fb)(hs:DY b:=by intro _ _;rfl):SE X (.Subscript a b pos) (e2 EU fa fb):=⟨(Je ha.h hb.h hs).imp fun σ H Q h=>by
 obtain⟨μ,ρ,st,l,h⟩:=h
 refine⟨μ,ρ,st,l,RK.bind h l fun μ1 st1 x v H1 p1 x1 l1 q1 h1=>⟨μ1,ρ,st1,l1,RK.bind h1 l1 fun μ2 c7 y u H2 p2 x2 l2 q2 h2=>?_⟩⟩
 unfold EU at h2
 cases e1:jt c7 x with
 |none=>rw[e1]at h2;exact h2.elim
 |some nk=>
  obtain⟨n,kvs⟩:=nk
  cases e2:qD y with
  |none=>rw[e1,e2]at h2;exact h2.elim
  |some k=>
   rw[e1,e2]at h2
   simp only at h2
   by_cases hx:(ER kvs k||ET kvs k)=true
   ·rw[ay hx]at h2
    have:=EL e2
    subst this
    obtain⟨a,ea,_⟩:=zO l2.sto e1 (q1.mono p2 x2)
    refine⟨a,ea,fun pins σ s iv E Qv I ry hq=>?_⟩
    obtain⟨a',es,ea',D⟩:=pR I l2.sto e1 (q1.mono p2 x2)
    rw[ea]at ea'
    cases ea'
    refine⟨nQ D,?_⟩
    rw[fF]at hx
    rcases hx with hx|hx
    ·refine Kw I D hx q2 ry fun K inst G z b xs hk hv hb y7 xd vw=>?_
     subst hk;subst hb
     rcases pQ z vw with⟨w,p,v',g1,g2,g3,g4⟩|⟨g1,g2⟩
     ·rw[g1]at h2
      exact Rg (G.room (by have:=hr.units;omega)) I xd y7 g2 fun s' I'=>hq v' _ s' I' g4 (h2 μ2 v' H2 (af _) dD.refl l2.sto g3)
     ·rw[g1]at h2;exact h2.elim
    ·obtain⟨⟨b,rfl⟩,m8,_⟩:=Kx hx
     cases bf.blE q2
     obtain rfl:iv=Value.bool b:=ry
     rcases vZ b D.p m8 with⟨w,e,v',g1,g2,g3,g4⟩|⟨g1,g2⟩
     ·rw[g1]at h2
      refine lT (knd:=PK.boolKind X.prog X.w) (k:=b) (by simp[PK.boolKind,PK.isBool]) (Ri D m8) (v:=e.val) ?_ (hq v' _ _ (I.tok _) g4 (h2 μ2 v' H2 (af _) dD.refl l2.sto g3))
      unfold findBy
      rw[show(es.toArray.find? fun e=>(PK.boolKind X.prog X.w).is b e.key)=es.find? fun e=>(PK.boolKind X.prog X.w).is b e.key by simp,g2];rfl
     ·rw[g1]at h2;exact h2.elim
   ·rw[aC hx]at h2;exact h2.elim⟩
def v6(fo fk fd:FE):FE:=fun ρ st=>(fo ρ st).bind fun x st=>match jt st x with
 |some _=>(fk ρ st).bind fun y st=>(fd ρ st).bind fun z st=>(match jt st x,qD y with
  |some (n,kvs),some k=>if (ER kvs k||ET kvs k)=true then(match iY kvs k with
   |some w=>.ok w st
   |none=>.ok z (st.set n (.dcx (sQ kvs k z))))else .bad
  |_,_=>.bad)
 |none=>.bad
theorem Jg{o f:Expr}{fd:FE}(hr:gD kk X.A)(ho:SE X o fo)(he:SE X e fe)(hf:SE X f fd)(m:M2 X o "setdefault" fK e f dk:=by exact⟨by rfl,by rfl,by rfl,by rfl⟩):SE X (.Call (.Attribute o "setdefault" fK) [e,f] [] dk) (v6 fo fe fd):=⟨(ES ho.h he.h hf.h m).imp fun σ H Q h=>by
 obtain⟨μ,ρ,st,l,h⟩:=h
 refine⟨μ,ρ,st,l,RK.bind h l fun μ1 st1 x v H1 p1 x1 l1 q1 h1=>?_⟩
 cases e0:jt st1 x with
 |none=>rw[e0]at h1;exact h1.elim
 |some nk0=>
  rw[e0]at h1
  simp only at h1
  obtain⟨a0,ea0,_⟩:=zO l1.sto e0 q1
  refine⟨zO l1.sto e0 q1,μ1,ρ,st1,l1,RK.bind h1 l1 fun μ2 c7 y u H2 p2 x2 l2 q2 h2=>⟨μ2,ρ,c7,l2,RK.bind h2 l2 fun μ3 jd dW t H3 p3 x3 l3 q3 h3=>?_⟩⟩
  cases e1:jt jd x with
  |none=>rw[e1]at h3;exact h3.elim
  |some nk=>
   obtain⟨n,kvs⟩:=nk
   cases e2:qD y with
   |none=>rw[e1,e2]at h3;exact h3.elim
   |some k=>
    rw[e1,e2]at h3
    simp only at h3
    by_cases hx:(ER kvs k||ET kvs k)=true
    ·rw[ay hx]at h3
     have:=EL e2
     subst this
     refine⟨a0,ea0,fun pins σ s iv r E Qv I ry rz hq=>?_⟩
     obtain⟨a',es,ea,D⟩:=pR I l3.sto e1 ((q1.mono p2 x2).mono p3 x3)
     rw[ea0]at ea
     cases ea
     rw[fF]at hx
     rcases hx with hx|hx
     ·refine Kw I D hx (q2.mono p3 x3) ry fun K inst G z b xs hk hv hb y7 xd vw=>?_
      subst hk;subst hb
      refine mD PySem.F.slot_dict_setdefault (nQ D) PySem.F.entry_dict_setdefault (PySem.F.args_dict_setdefault_3 _ _ _) (PK.meets_setdefault (knd:=G.knd) a0 b xd.sm r) ⟨G.room (by have:=hr.units;omega),z,xs,y7,Kv xd.d xd.is xd.nd,xd.z,?_,?_⟩
      ·intro p hp
       rcases pQ z vw with⟨w,p',v',g1,g2,g3,g4⟩|⟨g1,g2⟩
       ·rw[g1]at h3
        rw[g2]at hp;cases hp
        exact hq v' _ _ _ (I.tok _) g4 (h3 μ3 v' H3 (af _) dD.refl l3.sto g3)
       ·rw[g2]at hp;cases hp
      ·intro hn h' dd hs
       rcases pQ z vw with⟨w,p',v',g1,g2,g3,g4⟩|⟨g1,g2⟩
       ·rw[g2]at hn;cases hn
       ·rw[g1]at h3
        have d:=Jd dd
        have I':=nL (t':=s.toks+G.knd.draws z) I xd.mu hs (let ⟨q,_,hq,_⟩:=d;⟨q,hq⟩) (EK d)
        rw[<- storedH_new g2 b r]at I'
        exact hq t _ _ _ I' rz (h3 μ3 t _ (af _) (D.sq _) (D.put l3.sto vw (by have:=q2.mono p3 x3;rw[hv]at this;exact this) q3 rz) (q3.mono (af _) (D.sq _)))
     ·obtain⟨⟨b,rfl⟩,m8,dq⟩:=Kx hx
      cases bf.blE q2
      obtain rfl:iv=Value.bool b:=ry
      refine mD PySem.F.slot_dict_setdefault (nQ D) PySem.F.entry_dict_setdefault (PySem.F.args_dict_setdefault_3 _ _ _) (zP (knd:=PK.boolKind X.prog X.w) (k:=b) (by simp[PK.boolKind,PK.isBool]) D.sm) ⟨es,D.d,fun e he=>zQ D.p m8 e (by simpa using he),by rw[<- Paired.length D.p];exact dq,?_,?_⟩
      ·intro e he
       rcases vZ b D.p m8 with⟨w,e',v',g1,g2,g3,g4⟩|⟨g1,g2⟩
       ·rw[g1]at h3
        rw[g2]at he;cases he
        exact hq v' _ _ _ (I.tok _) g4 (h3 μ3 v' H3 (af _) dD.refl l3.sto g3)
       ·rw[g2]at he;cases he
      ·intro hn h' d hs
       rcases vZ b D.p m8 with⟨w,e',v',g1,g2,g3,g4⟩|⟨g1,g2⟩
       ·rw[g2]at hn;cases hn
       ·rw[g1]at h3
        have I':=nL (t':=s.toks+1) I D.mu hs (let ⟨q,_,hq,_⟩:=d;⟨q,hq⟩) (EK d)
        obtain⟨c,hc,tQ⟩:=D.c
        obtain⟨o,ho,hf,hg⟩:=D.o
        have ep:sQ kvs (.bo b) dW=kvs++[(.bo b,dW)]:=by unfold sQ;rw[g1];rfl
        have S':=l3.sto.setG (c':=.dcx (sQ kvs (.bo b) dW)) hc tQ D.m ho hf hg (D.sq (es++[⟨(PK.boolKind X.prog X.w).hash b,.bool b,r⟩])) rfl ⟨_,dG,D.sm,by
         rw[ep]
         exact Paired.snoc (Paired.imp' (fun _ _ q=>q.mono (af _) (D.sq _)) D.p) ⟨rfl,⟨_,.bl,rfl⟩,_,q3.mono (af _) (D.sq _),rz⟩,Bc _ _ D.nd⟩
        exact hq t _ _ _ I' rz (h3 μ3 t _ (af _) (D.sq _) S' (q3.mono (af _) (D.sq _)))
    ·rw[aC hx]at h3;exact h3.elim⟩
def uZ(ws:List W)(st:List aj):R W:=match ws with
 |[x]=>(match jt st x with
  |some (_,kvs)=>if kvs.length<=jF then .ok (.int kvs.length) st else .bad
  |none=>cS ws st)
 |_=>cS ws st
theorem Nv:lG X (.builtin "len") uZ:=⟨fun pins s σ H vs us Q I rv ⟨μ,st,ws,S,r,q⟩=>by
 unfold uZ at q
 split at q
 ·rename_i x
  split at q
  ·rename_i n kvs e
   split at q
   ·rename_i hl
    obtain⟨y,rfl,ry⟩:=r.one
    obtain⟨a,es,rfl,D⟩:=pR I S e ry
    obtain⟨u,rfl,ru⟩:=kI rv
    obtain rfl:u=Value.ref a:=ru
    have hle:es.length=kvs.length:=(Paired.length D.p).symm
    refine x5 D.sm D.d (by rw[hle];have:kvs.length<=1000000:=hl;omega) ?_
    refine⟨.int kvs.length,H,I.tok _,⟨_,by rw[hle]⟩,?_⟩
    exact q μ _ H (af _) dD.refl S .int
   ·exact q.elim
  ·exact iA.h pins s σ H _ us Q I rv ⟨μ,st,_,S,r,q⟩
 ·exact iA.h pins s σ H _ us Q I rv ⟨μ,st,_,S,r,q⟩,fun ws st=>by
 unfold uZ
 split
 ·split
  ·split<;>trivial
  ·exact(iA (X:=X)).n _ st
 ·exact(iA (X:=X)).n _ st⟩
end
open AutoSeq1 (wpAny_loadPart')
section
variable{w:World}
end
section
end
section
variable{a:Expr}{fs:FA}
end
section
theorem nC:∀{ys:List Int} {bz:List Value},cp (ys.map V.int) bz->IntsAre bz ys
 |[],_,r=>by cases r;exact .nil
 |y::ys,_,r=>by
  cases r with
  |cons r rr=>
   obtain⟨t,rfl⟩:=r
   exact .cons _ _ (nC rr)
theorem sT:∀{bz:List Value} {ns:List Int},IntsAre bz ns->cp (ns.map V.int) bz
 |_,_,.nil=>.nil
 |_,_,.cons y t r=>.cons ⟨t,rfl⟩ (sT r)
theorem CV(l:List Int):RelWs K μ H (l.map W.int) (l.map V.int):=by
 induction l with
 |nil=>exact .nilI
 |cons a r ih=>exact .consI .int ih
def nD(ws:List W)(st:List aj):R W:=match ws with
 |[.loc n]=>ou (lstOf st n) fun zs=>ou (fQ zs) fun l=>if l.length<64 then .ok (.loc st.length) (st++[.lst ((sortI l).map W.int)])else .bad
 |_=>.bad
theorem v7:lG X (.builtin "sorted") nD:=⟨fun pins s σ H vs us Q I rv ⟨μ,st,ws,S,r,q⟩=>by
 unfold nD at q
 split at q
 ·rename_i n
  obtain⟨y,rfl,ry⟩:=r.one
  cases e1:lstOf st n with
  |none=>rw[e1]at q;exact q.elim
  |some zs=>
   rw[e1,cw]at q
   cases e2:fQ zs with
   |none=>rw[e2]at q;exact q.elim
   |some l=>
    rw[e2,cw]at q
    split at q
    ·rename_i c
     obtain⟨a,vs,g,hS,rz⟩:=S.lstOf e1
     obtain⟨b1,f1,rfl⟩:=ry.locE
     rw[g]at f1;cases f1
     have ev:=lH e2 rz
     subst ev
     obtain⟨u,rfl,ru⟩:=kI rv
     cases ru
     obtain⟨bz,rv',pl,hz⟩:=I.list hS
     have hl:=rv'.length
     rw[ai]at hl
     refine sorted_ints (ns:=l) pl.isList (nC (by simpa using rv')) (by omega) fun out Pi h1 h2 h3=>?_
     have en:=PySem.W.eq_sortI h2 h3
     subst en
     obtain⟨ep,hat⟩:=sortedAll_at s.heap bz out
     have rA:H (s.heap.objs.size+1)=none:=I.hok.fresh (hX _)
     refine⟨.ref (s.heap.objs.size+1),_,I.laid (o:=.lst ((sortI l).map V.int)) (t':=s.toks) (fun b o e=>sortedAll_old e) (hX _) ?_,rfl,q (μ++[s.heap.objs.size+1]) _ _ (ao _ _) (fy.same (cD rA _)) (S.newLst rA (CV _)) (nv S)⟩
     refine⟨?_,out.toList,ep,sT h1,hat⟩
     rw[ai,h2.length_eq]
     exact bu (d_ c) (by decide)
    ·exact q.elim
 ·exact q.elim,fun ws st=>by
 unfold nD
 split
 ·exact oz fun _=>oz fun _=>by split<;>trivial
 ·trivial⟩
end
section
end
section
end
section
end
theorem v8{w:World}(e:h.get? a=some o):eO P w H h a (lE a o):=⟨e,⟨o,e⟩,fun h1 h2 p k=>k o p⟩
theorem CW{u:Option Value}(e:h.get? a=some o)(hd:o.data=.cell u)(q:Str):lE a o≠iz a q:=fun z=>by
 have:=congrFun (HO.ext.inj z) h
 have t:∃o' vs t,h.get? a=some o'/\o'.data=.fields vs/\vs[1]?=some (.str q t):=cast this e
 obtain⟨o',vs,_,e1,e2,_⟩:=t
 rw[e]at e1;cases e1;rw[hd]at e2;cases e2
def drp(H:Hp)(c:Addr):Hp:=fun b=>if b=c then none else H b
theorem lj{c:Addr}(h:b≠c):drp H c b=H b:=by unfold drp;rw[aC h]
theorem pS{c:Addr}:drp H c c=none:=by unfold drp;rw[ay rfl]
section
variable{st:List aj}{w:World}
theorem dD.drp{c:Addr}(hl:H c=some (.ext φ)):dD K H (drp H c):=by
 have lu:∀{p:Addr} {o:HO},H p=some o->(∀z,o≠.ext z)->p≠c:=fun{p o} q hn z=>by subst z;rw[hl]at q;cases q;exact hn _ rfl
 refine⟨fun p ys h=>?_,fun b o u h=>by rw[lj (lu h (fun _ z=>by cases z))];exact h⟩
 rcases h with(h|⟨o,h⟩)|h
 ·exact .inl (.inl (by rw[lj (lu h (fun _ z=>by cases z))];exact h))
 ·exact .inl (.inr ⟨o,by rw[lj (lu h (fun _ z=>by cases z))];exact h⟩)
 ·exact .inr h
theorem kw.drp{c:Addr}(hok:kw P w H h)(hl:H c=some (.ext φ)):kw P w (drp H c) h:=fun b u e=>by
 by_cases hb:b=c
 ·subst hb;rw[pS]at e;cases e
 ·rw[lj hb]at e
  refine(hok b u e).stay (fun _ _ _ q=>q) (fun x q=>?_) fun x xs q=>?_
  ·rw[lj (by rintro rfl;rw[hl]at q;cases q)];exact q
  ·rw[lj (by rintro rfl;rw[hl]at q;cases q)];exact q
theorem kw.put{c:Addr}(hok:kw P w H h)(hc:H c=none)(e:h.get? c=some o):kw P w (eL H c (lE c o)) h:=fun b u q=>by
 by_cases hb:b=c
 ·subst hb;rw[dG]at q;cases q;exact v8 e
 ·rw[ce hb]at q
  refine(hok b u q).stay (fun _ _ _ z=>z) (fun x z=>?_) fun x xs z=>?_
  ·rw[ce (by rintro rfl;rw[hc]at z;cases z)];exact z
  ·rw[ce (by rintro rfl;rw[hc]at z;cases z)];exact z
theorem me{l:List α}{x d:α}(e:(l.set j x)[i]?=some d):(i=j/\d=x/\j<l.length)\/(i≠j/\l[i]?=some d):=by
 by_cases q:j=i
 ·subst q
  have hl:j<l.length:=by have:=(aa.mp e).1;simpa using this
  rw[bv hl]at e
  exact .inl ⟨rfl,(a7 e).symm,hl⟩
 ·rw[bP q]at e;exact .inr ⟨Ne.symm q,e⟩
theorem fY.hide{k:Bool}{c:Addr}{x:W}{u:Option Value}(S:fY K mg μ st H)(hj:st[j]?=some (.pin k c o x))(e:h.get? c=some o)(hd:o.data=.cell u):fY K mg μ (st.set j .gone) (L2.drp H c):=by
 obtain⟨a,hm,rfl,hc,_⟩:=S.get hj
 have xt:dD K H (L2.drp H a):=dD.drp hc
 refine⟨fun i i' b ci cj h1 h2 r1 r2 m1 m2=>?_,by simp[S.len],fun i d b h1 h2=>?_⟩
 ·rcases me h1 with⟨rfl,rfl,_⟩|⟨_,h1⟩
  ·cases r1
  ·rcases me h2 with⟨rfl,rfl,_⟩|⟨_,h2⟩
   ·cases r2
   ·exact S.nd i i' b ci cj h1 h2 r1 r2 m1 m2
 ·rcases me h1 with⟨rfl,rfl,_⟩|⟨hij,h1⟩
  ·trivial
  ·have r:=S.at' i d b h1 h2
   by_cases hrd:d.isRo=true
   ·cases d with
    |ro zs=>
     obtain⟨us,p,q⟩:=r
     refine⟨us,?_,q.mono (af _) xt⟩
     rcases p with⟨o2,p⟩|p
     ·exact .inl ⟨o2,xt.z _ _ _ p⟩
     ·exact .inr p
    |gone=>trivial
    |lst _=>cases hrd
    |exc _=>cases hrd
    |dct _=>cases hrd
    |rod _=>cases hrd
    |dcx _=>cases hrd
    |tab _ _ _=>cases hrd
    |pin _ _ _ _=>cases hrd
   ·have hb:b≠a:=by
     rintro rfl
     exact hij (S.nd i j b d _ h1 hj (by simpa using hrd) rfl h2 hm)
    refine r.keep (af _) xt (fun o' ho=>by rw[lj hb];exact ho) fun b' q z=>?_
    rw[lj (by rintro rfl;rw[hc]at z;exact CW e hd _ (a7 z))];exact z
theorem fY.take'{c:Addr}{x:W}(S:fY K mg μ st H)(hj:st[j]?=some .gone)(hm:μ[j]?=some c)(hc:H c=none)(rx:bf K μ H x v)(hd:∃u,o.data=.cell (some u)/\bS v u):fY K mg μ (st.set j (.pin true c o x)) (eL H c (lE c o)):=by
 have hs:nZ H (eL H c (lE c o)):=cD hc _
 have S':=S.same hs
 refine⟨fun i i' b ci cj h1 h2 r1 r2 m1 m2=>?_,by simp[S.len],fun i d b h1 h2=>?_⟩
 ·rcases me h1 with⟨y1,y2,_⟩|⟨hi,g1⟩
  ·rcases me h2 with⟨z1,_,_⟩|⟨hi2,g2⟩
   ·rw[y1,z1]
   ·rw[y1,hm]at m1;cases m1
    obtain⟨o',z⟩:=(S.at' i' cj c g2 m2).ro_ne r2
    rw[hc]at z;cases z
  ·rcases me h2 with⟨z1,_,_⟩|⟨_,g2⟩
   ·rw[z1,hm]at m2;cases m2
    obtain⟨o',z⟩:=(S.at' i ci c g1 m1).ro_ne r1
    rw[hc]at z;cases z
   ·exact S.nd i i' b ci cj g1 g2 r1 r2 m1 m2
 ·rcases me h1 with⟨rfl,rfl,_⟩|⟨_,h1⟩
  ·rw[hm]at h2;cases h2
   exact⟨rfl,dG,(fun z=>by cases z),v,rx.mono (af _) (fy.same hs),fun _=>hd⟩
  ·exact S'.at' i d b h1 h2
abbrev iZ:=Nat×Addr×Obj×W
def pU:List Nat->List aj->Option (List iZ×List aj)
 |[],st=>some ([],st)
 |j::js,st=>match st[j]? with
  |some (.pin true c o x)=>(match pU js (st.set j .gone)with
   |some (l,bx)=>some ((j,c,o,x)::l,bx)
   |none=>none)
  |_=>none
def mf:List iZ->Hp->Hp
 |[],H=>H
 |x::l,H=>mf l (drp H x.2.1)
theorem ib:∀{l:List iZ} {H:Hp} {b:Addr},(∀x∈l,x.2.1≠b)->mf l H b=H b
 |[],_,_,_=>rfl
 |x::l,H,b,n=>by
  show mf l (drp H x.2.1) b=_
  rw[ib fun y hy=>n y (aA _ hy),lj (Ne.symm (n x aQ))]
theorem rH{l:List iZ}(h:∃x∈l,x.2.1=b):mf l H b=none:=by
 induction l generalizing H with
 |nil=>obtain⟨y,hy,_⟩:=h;exact absurd hy (by simp)
 |cons x l ih=>
  unfold mf
  by_cases q:∃z∈l,z.2.1=b
  ·exact ih q
  ·rw[ib fun z hz e'=>q ⟨z,hz,e'⟩]
   obtain⟨y,hy,e⟩:=h
   rcases aI.mp hy with r|r
   ·rw[<- e,r];exact pS
   ·exact absurd ⟨y,r,e⟩ q
def x6(K:Frag)(μ:List Addr)(H:Hp)(h:Heap)(x:iZ):Prop:=μ[x.1]?=some x.2.1/\h.get? x.2.1=some x.2.2.1/\∃u v,x.2.2.1.data=.cell (some u)/\bS v u/\bf K μ H x.2.2.2 v
theorem sU:∀{js:List Nat} {st bx:List aj} {H:Hp} {l:List iZ},fY K mg μ st H->kw P w H h->pU js st=some (l,bx) ->
  fY K mg μ bx (mf l H)/\kw P w (mf l H) h/\dD K H (mf l H)/\(∀x∈l,x6 K μ (mf l H) h x/\H x.2.1=some (lE x.2.1 x.2.2.1))/\(l.map fun x=>x.2.1).Nodup
 |[],st,bx,H,l,S,hok,e=>by cases e;exact⟨S,hok,dD.refl,fun _ z=>absurd z (by simp),ko⟩
 |j::js,st,bx,H,l,S,hok,e=>by
  unfold pU at e
  split at e
  ·rename_i c o x hj
   split at e
   ·rename_i l1 st1 h1
    cases e
    obtain⟨a,hm,rfl,hc,_,v,rx,g⟩:=S.get hj
    obtain⟨u,hu,ru⟩:=g rfl
    obtain⟨ge,_⟩:=hok _ _ hc
    have x1:dD K H (L2.drp H a):=dD.drp hc
    obtain⟨r1,r2,r3,r4,r5⟩:=sU (S.hide hj ge hu) (hok.drp hc) h1
    refine⟨r1,r2,x1.trans r3,fun y hy=>?_,bF.mpr ⟨fun z=>?_,r5⟩⟩
    ·rcases aI.mp hy with rfl|hy
     ·exact⟨⟨hm,ge,u,v,hu,ru,rx.mono (af _) (x1.trans r3)⟩,hc⟩
     ·obtain⟨q1,q2⟩:=r4 y hy
      refine⟨q1,?_⟩
      by_cases hb:y.2.1=a
      ·rw[hb,pS]at q2;cases q2
      ·rw[lj hb]at q2;exact q2
    ·obtain⟨y,hy,e2⟩:=al.mp z
     have:=(r4 y hy).2
     rw[show y.2.1=a from e2,pS]at this;cases this
   ·cases e
  ·cases e
def zR:List iZ->List aj->Option (List aj)
 |[],st=>some st
 |(j,c,o,x)::l,st=>match st[j]? with
  |some .gone=>zR l (st.set j (.pin true c o x))
  |_=>none
def oY:List iZ->Hp->Hp
 |[],H=>H
 |x::l,H=>oY l (eL H x.2.1 (lE x.2.1 x.2.2.1))
theorem fR:∀{l:List iZ} {H:Hp} {b:Addr},(∀x∈l,x.2.1≠b)->oY l H b=H b
 |[],_,_,_=>rfl
 |x::l,H,b,n=>by
  show oY l (eL H x.2.1 _) b=_
  rw[fR fun y hy=>n y (aA _ hy),ce (Ne.symm (n x aQ))]
theorem Bd:∀{l:List iZ} {st bx:List aj} {H:Hp},fY K mg μ st H->kw P w H h->(∀x∈l,x6 K μ H h x/\H x.2.1=none)->(l.map fun x=>x.2.1).Nodup->zR l st=some bx ->
  fY K mg μ bx (oY l H)/\kw P w (oY l H) h/\dD K H (oY l H)
 |[],st,bx,H,S,hok,_,_,e=>by cases e;exact⟨S,hok,dD.refl⟩
 |(j,c,o,x)::l,st,bx,H,S,hok,ha,nd,e=>by
  unfold zR at e
  split at e
  ·rename_i hj
   obtain⟨⟨m,g,u,v,d,ru,rx⟩,hn⟩:=ha _ aQ
   have hs:nZ H (eL H c (lE c o)):=cD hn _
   have x1:dD K H (eL H c (lE c o)):=fy.same hs
   have ha':∀y∈l,x6 K μ (eL H c (lE c o)) h y/\eL H c (lE c o) y.2.1=none:=fun y hy=>by
    obtain⟨⟨m',g',u',v',d',ru',rx'⟩,hn'⟩:=ha y (aA _ hy)
    refine⟨⟨m',g',u',v',d',ru',rx'.mono (af _) x1⟩,?_⟩
    rw[ce fun z=>(bF.mp nd).1 (al.mpr ⟨y,hy,z⟩)];exact hn'
   obtain⟨r1,r2,r3⟩:=Bd (l:=l) (S.take' hj m hn rx ⟨u,d,ru⟩) (hok.put hn g) ha' (bF.mp nd).2 e
   exact⟨r1,r2,x1.trans r3⟩
  ·cases e
def hG:List iZ->List aj:=fun l=>l.map fun x=>.pin true x.2.1 x.2.2.1 x.2.2.2
theorem x8:∀{l:List iZ} {st:List aj} {μ:List Addr} {H:Hp},fY K mg μ st H->kw P w H h->(∀x∈l,H x.2.1=none/\h.get? x.2.1=some x.2.2.1/\∃u v,x.2.2.1.data=.cell (some u)/\bS v u/\bf K μ H x.2.2.2 v)->(l.map fun x=>x.2.1).Nodup ->
  fY K mg (μ++l.map fun x=>x.2.1) (st++hG l) (oY l H)/\kw P w (oY l H) h/\dD K H (oY l H)
 |[],st,μ,H,S,hok,_,_=>by simp only[hG,dL,bU];exact⟨S,hok,dD.refl⟩
 |(j,c,o,x)::l,st,μ,H,S,hok,ha,nd=>by
  obtain⟨hn,g,u,v,d,ru,rx⟩:=ha _ aQ
  have hs:nZ H (eL H c (lE c o)):=cD hn _
  have x1:dD K H (eL H c (lE c o)):=fy.same hs
  have S1:fY K mg (μ++[c]) (st++[.pin true c o x]) (eL H c (lE c o)):=S.push hn ⟨rfl,dG,(fun z=>by cases z),v,rx.mono (ao _ _) x1,fun _=>⟨u,d,ru⟩⟩
  obtain⟨r1,r2,r3⟩:=x8 (l:=l) S1 (hok.put hn g) (fun y hy=>by
   obtain⟨hn',g',u',v',d',ru',rx'⟩:=ha y (aA _ hy)
   refine⟨?_,g',u',v',d',ru',rx'.mono (ao _ _) x1⟩
   rw[ce fun z=>(bF.mp nd).1 (al.mpr ⟨y,hy,z⟩)];exact hn') (bF.mp nd).2
  rw[av,av]at r1
  exact⟨r1,r2,x1.trans r3⟩
end
section
theorem CY{P c:Addr}{q:Str}{pr:Arguments}{fl:Nat}{ps:Array Value}(lP:X.env.code=.ref c)(J7:codeHdIn X.K c P=true)(hB:rg X.base X.mg)
  (jc:closureFor sc X.env=pure cl) (I:bw X pins σ H s) (hP:H P=some (.tbl ps)) (ht:TriplesOk ps.toList) (O2:codeAmong pos ps.toList=none\/∃cd,codeAmong pos ps.toList=some (.ref cd)/\H cd=some (iz cd q))
  (h:∀f cd iM ct h' t H',((codeAmong pos ps.toList=none/\H cd=none/\H'=sM H P cd q ps pos)\/H'=H)->H' f=none->H' cd=some (iz cd q) ->
   bw X pins σ (eL H' f (lE f (fnMade name q pr body sc cl iM ((X.mg "__name__").getD .none) cd ct))) { s with heap:=h',toks:=t }->Q (.ref f) { s with heap:=h',toks:=t }) :
  wpAny (model X.prog X.w) X.A (makeFunction name q pr (.stmts body) sc X.env [] [] [] pos fl) Q E s:=by
 have hPo:s.heap.get? P=some { cls:=.none,data:=.fields ps }:=I.hok P _ hP
 have hgs:s.heap.Ns mainGlobals X.mg:=I.mod.glob.keeps I.bk
 have hgP:mainGlobals≠P:=fun z=>by
  obtain⟨o,es,ep,e,hd,_⟩:=hgs
  rw[z,hPo]at e;cases e;cases hd
 obtain⟨bm,ob,b1,b2,b4,b5,b6,b7⟩:=hB
 have b4':=I.bk _ _ b4
 have hbP:bm≠P:=fun z=>by rw[z,hPo]at b4';cases b4';cases b5
 have b3:bm≠mainGlobals:=fun z=>by
  obtain⟨o,es,ep,e,hd,_⟩:=hgs
  rw[z,e]at b4';cases b4';rw[b7]at hd;cases hd
 have hb:s.heap.BuiltinsAt X.mg P:=⟨bm,ob,b1,b2,b3,hbP,b4',b5,b6,b7⟩
 have CH:=PySem.W.codeHd_of_K I.kIn J7
 rcases O2 with hn|⟨cd,hhit,hH⟩
 ·refine PySem.W.makeFunction_K (mg:=X.mg) jc I.ok.glob hgs lP CH hPo ht hn hgP hb fun cd ct iM h' tk hx Ds hlt AA Pw=>?_
  have hcdn:H cd=none:=I.hok.fresh Ds
  have hPc:P≠cd:=fun z=>by rw[z,hcdn]at hP;cases hP
  have I1:=I.tabbed (t':=tk) hP Ds (fun b o hb e=>hx b o hb e) AA Pw
  have I2:=bw.laid (t':=tk) (o:=lE h'.objs.size (fnMade name q pr body sc cl iM ((X.mg "__name__").getD .none) cd ct)) I1 (fun b u e=>ar _ e) (aw _) (v8 (aU _ rfl))
  exact h _ cd iM ct _ tk _ (.inl ⟨hn,hcdn,rfl⟩) (I1.hok.fresh (aw _)) (vX hPc) I2
 ·refine PySem.W.makeFunction_hit (mg:=X.mg) jc I.ok.glob hgs lP CH hPo ht hhit hb fun ct iM h' tk hk hsz=>?_
  have I1:=I.kept (t':=tk) hk
  have I2:=bw.laid (t':=tk) (o:=lE h'.objs.size (fnMade name q pr body sc cl iM ((X.mg "__name__").getD .none) cd ct)) I1 (fun b u e=>ar _ e) (aw _) (v8 (aU _ rfl))
  exact h _ cd iM ct _ tk _ (.inr rfl) (I1.hok.fresh (aw _)) hH I2
end
def Nw(name q:Str)(pr:Arguments)(body:List Stmt)(sc:Scope)(xs:List Str)(o:Obj):Prop:=∃cl iM pm cd ct,cl.map (·.1)=xs/\(cl.map (·.2)).Nodup/\o=fnMade name q pr body sc cl iM pm cd ct
def Nx(X:Cx)(name q:Str)(pr:Arguments)(body:List Stmt)(sc:Scope)(o:Obj):Prop:=∃iM cd ct,o=fnMade name q pr body sc (cM X.env sc.names []) iM ((X.mg "__name__").getD .none) cd ct
open Classical in
def Jh(ok:α->Prop)(f:α->RS):RS:=if h:∃r,∀a,ok a->f a=r then h.choose else .bad
def Be(st:List aj):RS->RS
 |.rt w bx=>.rt w (h_ st bx [w])
 |_=>.bad
open Classical in
def u0(ok:Obj->Prop)(j:Nat)(P:Addr)(pos:Pos)(q:Str)(i:Nat)(g:Addr->Obj->FS):FS:=fun ρ st=>if qS st j P pos q then
  Jh (fun p:Addr×Obj=>ok p.2) (fun p=>Be st (g p.1 p.2 (ρ.set i (some (.loc st.length))) (st++[.pin false p.1 p.2 .non])))else .bad
theorem Ji{ok:α->Prop}{f:α->RS}{r:RS}(a0:α)(h0:ok a0)(h:∀a,ok a->f a=r):Jh ok f=r:=by
 have e:∃r,∀a,ok a->f a=r:=⟨r,h⟩
 unfold Jh
 rw[mH e,<- e.choose_spec a0 h0,h a0 h0]
section
variable{q:Str}{pr:Arguments}{rest:List Stmt}{P c:Addr}{xs:List Str}{g:Addr->Obj->FS}
def Rk(X:Cx)(name q:Str)(pr:Arguments)(body:List Stmt)(sc:Scope)(xs:List Str)(j:Nat)(P:Addr)(pos:Pos)(i:Nat):TS:=fun D σ H=>∃μ ρ st,Rl X μ ρ st σ H/\qS st j P pos q /\
 ∀f o H',Nx X name q pr body sc o->Nw name q pr body sc xs o->dD X.K H H'->fY X.K X.mg (μ++[f]) (st++[.pin false f o .non]) H'->D.nx (σ.set i (some (.ref f))) H'
theorem Jj(lP:X.env.code=.ref c)(J7:codeHdIn X.K c P=true)(hB:rg X.base X.mg)(fJ:X.env.cells=cellsFrom m X.env.scope.names [])(rA:∀x∈sc.names,x.2=.free->X.env.scope.names.lookup x.1=some .cell)
  (PL:(cM X.env sc.names []).map (·.1)=xs) (kE:xs.Nodup) (hq:qualnameIn X.env name name=q) (hN:X.N.Nodup) (hi:X.N[i]?=some name) (hx:Du X.env.scope name) (hf:X.fn name=true\/X.env.scope.names.lookup name=some .local)
  (UB:pr.defaults=[]:=by rfl) (UG:pr.kw_defaults=[]:=by rfl) (ha:annTrees pr none X.env=[]:=by rfl) :
  PS X (.FunctionDef name pr body [] none [] sc none name pos) (Rk X name q pr body sc xs j P pos i):=fun pins s σ H D I h=>by
 obtain⟨μ,ρ,st,l,e4,h⟩:=h
 obtain⟨aP,hP0,eP,ps,hP,ht,O2⟩:=l.sto.get e4
 subst eP
 have has:∀x∈sc.names,x.2=.free->∃c,X.env.cells.lookup x.1=some c:=fun x hx hf=>by rw[fJ];exact jJ (rA x hx hf)
 have jc:closureFor sc X.env=pure (cM X.env sc.names []):=xD has
 refine PySem.W.nestDef_K UB UG ha ?_
 rw[hq]
 refine CY (P:=aP) lP J7 hB jc I hP ht O2 fun f cd iM ct h' t H' hH y8 lD I2=>?_
 refine rT I2 hN hi hx (v:=.ref f) rfl (fun s' I3=>?_) hf
 have ok:Nx X name q pr body sc (fnMade name q pr body sc (cM X.env sc.names []) iM ((X.mg "__name__").getD .none) cd ct):=⟨iM,cd,ct,rfl⟩
 have hcl':∀y∈cM X.env sc.names [],X.env.cells.lookup y.1=some y.2:=jE sc.names [] has (by simp)
 have nd2:((cM X.env sc.names []).map (·.2)).Nodup:=by
  have nd1:((cM X.env sc.names []).map (·.1)).Nodup:=by rw[PL];exact kE
  have gen:∀l:List (Str×Addr),(∀y∈l,X.env.cells.lookup y.1=some y.2)->(l.map (·.1)).Nodup->(l.map (·.2)).Nodup:=by
   intro l
   induction l with
   |nil=>intro _ _;exact ko
   |cons y l ih=>
    intro a b
    rw[aG,bF]at b ⊢
    refine⟨fun z=>b.1 ?_,ih (fun y hy=>a y (aA _ hy)) b.2⟩
    obtain⟨y',Dn,e⟩:=al.mp z
    have:=I.ok.inj _ _ _ (a y aQ) (by rw[<- e];exact a y' (aA _ Dn))
    rw[this]
    exact al.mpr ⟨y',Dn,rfl⟩
  exact gen _ hcl' nd1
 have hS':fY X.K X.mg μ st H'/\dD X.K H H':=by
  rcases hH with⟨g1,g2,rfl⟩|rfl
  ·exact l.sto.tabbed e4 hP g2 ht g1
  ·exact⟨l.sto,dD.refl⟩
 obtain⟨S',X'⟩:=hS'
 have hs:nZ H' (eL H' f (lE f (fnMade name q pr body sc (cM X.env sc.names []) iM ((X.mg "__name__").getD .none) cd ct))):=cD y8 _
 refine⟨_,_,I3,h f _ _ ok ⟨_,iM,_,cd,ct,PL,nd2,rfl⟩ (X'.trans (fy.same hs)) (S'.push y8 ⟨rfl,dG,fun _=>⟨_,cd,rfl,rfl,?_⟩,.non,.non,fun z=>by cases z⟩)⟩
 rw[ce (by rintro rfl;rw[y8]at lD;cases lD)];exact lD
theorem Jk(hd:PS X (.FunctionDef name pr body [] none [] sc none name pos) (Rk X name q pr body sc xs j P pos i))(tX:∀f o,Nx X name q pr body sc o->SB X rest (g f o)) :
  SB X (.FunctionDef name pr body [] none [] sc none name pos::rest) (u0 (Nw name q pr body sc xs) j P pos q i g):=⟨(w9 hd (u:=fun D σ H=>∃f o,Nx X name q pr body sc o/\Po X (g f o) D σ H) (fun pins s σ H D I h=>by
  obtain⟨f,o,ok,h⟩:=h
  exact(tX f o ok).h pins s σ H D I h)).imp fun D σ H h=>by
 obtain⟨μ,ρ,st,l,h⟩:=h
 unfold u0 at h
 by_cases e4:qS st j P pos q
 ·rw[ay e4]at h
  refine⟨μ,ρ,st,l,e4,fun f o H' on ok x S=>⟨f,o,on,μ++[f],ρ.set i (some (.loc st.length)),st++[.pin false f o .non],⟨pG (.locI (by rw[l.sto.len];simp)) i (qv (ao _ _) x l.env),S⟩,?_⟩⟩
  unfold Jh at h
  by_cases he:∃r,∀p:Addr×Obj,Nw name q pr body sc xs p.2->Be st (g p.1 p.2 (ρ.set i (some (.loc st.length))) (st++[.pin false p.1 p.2 .non]))=r
  ·rw[mH he]at h
   have hr:=he.choose_spec (f,o) ok
   rw[<- hr]at h
   simp only at h
   cases e:g f o (ρ.set i (some (.loc st.length))) (st++[.pin false f o .non])with
   |rt w c7=>
    rw[e]at h
    intro μ' v H2 p x2 S2 r2
    obtain⟨μ2,p2,S3,r3⟩:=iX l.sto S2 ((ao _ _).trans p) (.consI r2 .nilI)
    obtain⟨_,e2,r4⟩:=r3.one
    cases e2
    exact h μ2 v H2 p2 (x.trans x2) S3 r4
   |nx _ _=>rw[e]at h;exact h.elim
   |bk _ _=>rw[e]at h;exact h.elim
   |ct _ _=>rw[e]at h;exact h.elim
   |ex _ _ _=>rw[e]at h;exact h.elim
   |bad=>rw[e]at h;exact h.elim
  ·rw[dif_neg he]at h;exact h.elim
 ·rw[aC e4]at h;exact h.elim⟩
end
structure zS(N ps xs:List Str)(sc:Scope):Prop where
 kind:sc.kind=.function
 co:sc.isCoroutine=false
 gen:sc.isGenerator=false
 nd:N.Nodup
 pre:N.take ps.length=ps
 mid:(N.drop ps.length).take xs.length=xs
 par:∀x∈ps,sc.names.lookup x=some .local
 nocell:∀y∈sc.names,y.2≠.cell
 fre:∀y∈sc.names,y.2=.free->y.1∈xs
 xfr:∀x∈xs,sc.names.lookup x=some .free
abbrev CZ(q:Str)(sc:Scope)(L f:Addr)(cd:Value)(cl:List (Str×Addr)):Env:=PySem.W.envX q sc L f cd cl
def qE(CX:Dv)(P:Program)(w:World)(K:Frag)(mg:Str->Option Value)(base:Heap)(N:List Str)(qual:Str)(scope:Scope)(f:Addr)(cd:Value)(cl:List (Str×Addr))(A:Around)(outer:List Env)(s:Shared)(H:Hp)(E:XK):Cx where
 prog:=P
 w:=w
 K:=K
 mg:=mg
 base:=base
 A:=A.deeper (CZ qual scope s.heap.objs.size f cd cl)
 N:=N
 s₀:=s
 H₀:=H
 env:=CZ qual scope s.heap.objs.size f cd cl
 outer:=outer
 stack:=CZ qual scope s.heap.objs.size f cd cl::outer
 ex:=[]
 calm:=true
 fn:=fun _=>false
 pn:=[]
 xe:=fun e s'=>wpAny (model P w) (A.deeper (CZ qual scope s.heap.objs.size f cd cl)) (leaving (CZ qual scope s.heap.objs.size f cd cl) e) (fun _ s''=>CX outer H s E e s'') (fun e' s''=>CX outer H s E e' s'') s'
theorem nR:∀{l:List (Str×α)} {x:Str} {a:α},(l.map (·.1)).Nodup->(x,a)∈l->l.lookup x=some a
 |[],_,_,_,h=>absurd h (by simp)
 |(y,b)::l,x,a,nd,h=>by
  rw[aG,bF]at nd
  rcases aI.mp h with e|h2
  ·cases e;simp[fT]
  ·have:(x==y)=false:=by
    rw[aX];intro z;exact nd.1 (al.mpr ⟨_,h2,z⟩)
   rw[fT,this];exact nR nd.2 h2
theorem oZ{R:α->β->Prop}:∀{l:List α} {m:List β} {i:Nat} {a:α},Paired R l m->l[i]?=some a->∃b,m[i]?=some b/\R a b
 |_,_,_,_,.nil,e=>by simp at e
 |_,_,0,_,.cons r _,e=>by simp at e;subst e;exact⟨_,rfl,r⟩
 |_,_,i+1,_,.cons _ t,e=>by simpa using oZ (i:=i) t (by simpa using e)
theorem Bf:∀{l:List (Str×Addr)} {x y:Str} {c:Addr},(l.map (·.2)).Nodup->(x,c)∈l->(y,c)∈l->x=y
 |[],_,_,_,_,h,_=>absurd h (by simp)
 |(z,b)::l,x,y,c,nd,h1,h2=>by
  rw[aG,bF]at nd
  rcases aI.mp h1 with e|h1
  ·rcases aI.mp h2 with e2|h2
   ·cases e;cases e2;rfl
   ·cases e;exact absurd (al.mpr ⟨_,h2,rfl⟩) nd.1
  ·rcases aI.mp h2 with e2|h2
   ·cases e2;exact absurd (al.mpr ⟨_,h1,rfl⟩) nd.1
   ·exact Bf nd.2 h1 h2
section
variable{w:World}
theorem EV{CX:Dv}{N xs:List Str}{cd:Value}{outer:List Env}{h₁:Heap}{tk:Nat}{E:XK}{yX:List Value}{rS:List V}
  (S:zS N ps xs scope) (hd:A.handled=none) (e0:xa P w K mg base A outer s H) (hl:vs.length=ps.length) (r:cp vs us) (rc:cp rS yX) (hx:cl.map (·.1)=xs) (hn:(cl.map (·.2)).Nodup)
  (hc:Paired (fun(y:Str×Addr) (u:Value)=>s.heap.IsCell y.2 (some u)/\H y.2=none) cl yX)
  (Hr:h₁.Ns s.heap.objs.size (fun x=>(ps.zip us).reverse.lookup x)) (hk:∀b o,s.heap.get? b=some o->h₁.get? b=some o) :
  bw (qE CX P w K mg base N qual scope f cd cl A outer s H E) [] (jr N (vs++rS)) H { s with heap:=h₁,toks:=tk }:=by
 have qh:ps.length<=N.length:=by have:=dJ List.length S.pre;rw[a8]at this;omega
 have hxl:xs.length<=N.length-ps.length:=by have:=dJ List.length S.mid;rw[a8,d5]at this;omega
 have jc:rS.length=xs.length:=by rw[rc.length,<- hc.length,<- hx,ai]
 have ndx:xs.Nodup:=by rw[<- S.mid];exact(S.nd.sublist (List.drop_sublist _ _)).sublist (gy _ _)
 have ndP:ps.Nodup:=by rw[<- S.pre];exact S.nd.sublist (gy _ _)
 have look:∀x∈xs,∃c,cl.lookup x=some c:=fun x t5=>by
  rw[<- hx]at t5
  obtain⟨y,hy,rfl⟩:=al.mp t5
  exact⟨y.2,nR (by rw[hx];exact ndx) hy⟩
 have cellOf:∀x c,cl.lookup x=some c->∃u,s.heap.IsCell c (some u)/\H c=none:=fun x c e=>by
  have hm:=PySem.mem_of_lookup e
  obtain⟨i,hi⟩:=aZ hm
  obtain⟨u,_,q⟩:=oZ hc hi
  exact⟨u,q⟩
 have noA:∀b:Addr,b∉(qE CX P w K mg base N qual scope f cd cl A outer s H E).ex:=fun b z=>absurd (show b∈([]:List Addr)from z) (by simp)
 refine⟨⟨e0.mod,S.kind,rfl,rfl,aw _,fun y z c h1 h2=>?_,fun y hy=>?_,fun y c z _=>?_,fun _=>hd,Around.frames_deeper e0.frames,.inr ⟨rfl,rfl⟩,fun b z=>absurd z (noA b),e0.bs,e0.bsz,fun b _ _=>noA b,fun b z=>absurd z (noA b),e0.funs,e0.frf⟩,
  rfl,e0.bare,Un.kept hk,⟨_,Hr,fun i y v h1 h2 h3=>?_⟩,fun y c h=>?_,e0.hok.fresh (aw _),fun y c h=>?_,fun p hp=>absurd (show p∈([]:List (Addr×Obj))from hp) (by simp),e0.hok.kept hk,?_⟩
 ·exact Bf hn (PySem.mem_of_lookup (show cl.lookup y=some c from h1)) (PySem.mem_of_lookup (show cl.lookup z=some c from h2))
 ·have hy:scope.names.lookup y=some .cell\/scope.names.lookup y=some .free:=hy
  rcases hy with hy|hy
  ·exact absurd rfl (S.nocell _ (PySem.mem_of_lookup hy))
  ·exact look y (S.fre _ (PySem.mem_of_lookup hy) rfl)
 ·cases z
 ·have h1:N[i]?=some y:=h1
  have hi:i<(vs++rS).length:=by
   unfold jr at h2
   by_cases hi:i<(vs++rS).length
   ·exact hi
   ·rw[bX (by simpa using hi)]at h2
    rw[hW]at h2
    split at h2<;>cases h2
  have ha:(vs++rS)[i]?=some v:=by
   unfold jr at h2
   rw[au (by simpa using hi),ak]at h2
   cases e:(vs++rS)[i]? with
   |none=>rw[e]at h2;cases h2
   |some a=>rw[e]at h2;cases h2;rfl
  obtain⟨u,hu,rv⟩:=(r.append rc).get ha
  refine⟨u,rv,?_⟩
  by_cases hip:i<ps.length
  ·have hp:ps[i]?=some y:=by rw[<- S.pre,cG hip];exact h1
   have hu':us[i]?=some u:=by rw[au (by rw[<- r.length,hl];exact hip)]at hu;exact hu
   refine .inl ⟨S.par y (am hp),?_⟩
   have hz:(ps.zip us)[i]?=some (y,u):=by rw[kG];exact⟨hp,hu'⟩
   refine nR ?_ (List.mem_reverse.mpr (am hz))
   rw[List.map_reverse]
   have:(ps.zip us).map (·.1)=ps:=List.map_fst_zip (by rw[<- r.length,hl];exact aw _)
   rw[this]
   exact List.pairwise_reverse.mpr (ndP.imp fun h=>Ne.symm h)
  ·have t5:xs[i-ps.length]?=some y:=by
    rw[<- S.mid,cG (by rw[aF,hl,jc]at hi;omega),List.getElem?_drop]
    rw[show ps.length+(i-ps.length)=i by omega];exact h1
   have hu':yX[i-ps.length]?=some u:=by rw[bX (by rw[<- r.length,hl];omega),<- r.length,hl]at hu;exact hu
   rw[<- hx,ak]at t5
   obtain⟨yc,ey,e2⟩:=a6.mp t5
   obtain⟨u',eu,q1,q2⟩:=oZ hc ey
   rw[hu']at eu;cases eu
   have hin:y∈xs:=by rw[<- hx,<- e2];exact al.mpr ⟨yc,am ey,rfl⟩
   refine .inr ⟨.inr (S.xfr y hin),yc.2,?_,q1.keeps hk⟩
   exact nR (l:=cl) (by rw[hx];exact ndx) (by rw[<- e2];exact am ey)
 ·obtain⟨u,q,_⟩:=cellOf y c h;exact⟨_,q.keeps hk⟩
 ·obtain⟨u,_,q⟩:=cellOf y c h;exact q
 ·unfold jr
  show _=N.length
  rw[aF,ai,m_,aF,hl,jc]
  omega
def lI(o:Obj):List (Str×Addr):=match o.data with
 |.func fd=>fd.closure
 |_=>[]
structure o_(P:Program)(w:World)(K:Frag)(mg:Str->Option Value)(base:Heap)(k n m:Nat)(ok:Obj->Prop)(F:List W->List aj->R W):Prop where
 run:∀(A:Around) (outer:List Env) (s:Shared) (H:Hp) (f:Addr) (o:Obj) (fd:FuncData) (us yX:List Value) (vs rS:List V) (Q:VK) (E:XK),gD k A->xa P w K mg base A outer s H->s.heap.get? f=some o->ok o->o.data=.func fd->s.heap.CodeRec fd.code fd.qualname ->
  cp vs us->cp rS yX->us.length=n->Paired (fun(y:Str×Addr) (u:Value)=>s.heap.IsCell y.2 (some u)/\H y.2=none) (lI o) yX->jN K mg (n+m) F (vs++rS) H Q E ->
  codeAny (model P w) A (.call (.ref f) ⟨us,[]⟩) (CR (iU P w) outer P w H s Q E) s
theorem o_.mono{k:Nat}{ok:Obj->Prop}(h:o_ P w K mg base j n m ok F)(hj:j<=k):o_ P w K mg base k n m ok F:=
 ⟨fun A outer s H f o fd us yX vs rS Q E hr=>h.run A outer s H f o fd us yX vs rS Q E (hr.mono hj)⟩
theorem Jl{pr:Arguments}{N xs:List Str}{k:Nat}{g:FS}(S:zS N ps xs scope)(hn:ps.length=n)(hm:xs.length=m)
  (hb:∀(cl:List (Str×Addr)) (iM pm:Value) (cd:Addr) (ct:Value) (us:List Value),us.length=ps.length->bindArgs (PySem.W.fnX name qual pr body scope cl .none .none iM pm none (.ref cd) ct) ⟨us,[]⟩=pure (ps.zip us))
  (tS:∀(f:Addr) (cd:Value) (cl:List (Str×Addr)) (A:Around) (outer:List Env) (s:Shared) (H:Hp) (E:XK),gD k (A.deeper (CZ qual scope s.heap.objs.size f cd cl)) ->
   SB (qE (iU P w) P w K mg base N qual scope f cd cl A outer s H E) body g):o_ P w K mg base (k+1) n m (Nw name qual pr body scope xs) (d9 N.length g):=⟨fun A outer s H f o fd us yX vs rS Q E hr e0 ho ok hd lD r rc hul hc LM=>by
 obtain⟨cl,iM,pm,cd,ct,hx,kE,rfl⟩:=ok
 cases hd
 have KX:K.In s.heap:=e0.mod.kin.keeps fun b o e=>(e0.bs b o e).1
 have lim:s.heap.NoLimit:=e0.mod.nolimit.keeps fun b o e=>(e0.bs b o e).1
 have hl:vs.length=ps.length:=by rw[r.length,hul,hn]
 refine codeAny_call_def (fd:=PySem.W.fnX name qual pr body scope cl .none .none iM pm none (.ref cd) ct) (body:=body) (binds:=ps.zip us) hr.depth ho rfl lim lD rfl (.of_eq (hb cl iM pm cd ct us (by rw[hul,hn]))) S.nocell (fun y hy=>S.par _ (jl hy).1) (fun h₁ Hr hk=>?_) S.co S.gen S.kind
 have I:bw (qE (iU P w) P w K mg base N qual scope f (.ref cd) cl A outer s H E) [] (jr N (vs++rS)) H { s with heap:=h₁,toks:=s.toks+(ps.zip us).length }:=EV S hr.hd e0 hl r rc hx kE hc Hr hk
 obtain⟨hl2,μ,ws,Pj,Sr,rw0,h⟩:=LM
 have hq:Po (qE (iU P w) P w K mg base N qual scope f (.ref cd) cl A outer s H E) g { nx:=fun _ H'=>Q .non H',rt:=Q } (jr N (vs++rS)) H:=by
  refine⟨μ,ws.map some++List.replicate (N.length-ws.length) none,Pj,⟨?_,Sr⟩,?_⟩
  ·unfold jr
   rw[<- rw0.len]
   have base:∀(ws:List W) (vs:List V) (m:Nat),RelWs K μ H ws vs->Paired (fun(o:Option W) (s:Option V)=>∀w,o=some w->∃v,s=some v/\bf K μ H w v) (ws.map some++List.replicate m none) (vs.map some++List.replicate m none):=by
    intro ws
    induction ws with
    |nil=>
     intro vs m r
     rw[r.nilE]
     induction m with
     |zero=>exact .nil
     |succ m ih=>exact .cons (fun w z=>nomatch z) ih
    |cons w ws ih=>
     intro vs m r
     obtain⟨y,ys,rfl,ry,rys⟩:=r.consE
     exact .cons (fun w' z=>⟨y,rfl,by cases z;exact ry⟩) (ih ys m rys)
   exact base ws _ _ rw0
  ·unfold d9 at h
   cases e:g (ws.map some++List.replicate (N.length-ws.length) none) Pj with
   |rt w bx=>
    rw[e]at h
    intro μ' v H' p x S' kP
    obtain⟨μ2,p2,S2,r2⟩:=iX Sr S' p (.consI kP .nilI)
    obtain⟨_,e2,r3⟩:=r2.one
    cases e2
    exact h μ2 v H' p2 x S2 r3
   |nx ρ' bx=>
    rw[e]at h
    intro μ' σ' H' p x l'
    obtain⟨μ2,p2,S2,_⟩:=iX (ws:=[]) (vs:=[]) Sr l'.sto p .nilI
    exact h μ2 .non H' p2 x S2 .non
   |ex c ρ' bx=>
    rw[e]at h
    intro pins μ' σ' H' ev s' p x l' fl
    obtain⟨μ2,p2,S2,_⟩:=iX (ws:=[]) (vs:=[]) Sr l'.sto p .nilI
    exact fl.leaves rfl rfl fl.inv.ok.frames rfl fun C hC=>h C μ2 H' hC p2 x S2
   |bk ρ' bx=>rw[e]at h;exact h.elim
   |ct ρ' bx=>rw[e]at h;exact h.elim
   |bad=>rw[e]at h;exact h.elim
 refine dZ ((tS f (.ref cd) cl A outer s H E (hr.deeper _)).h [] _ (jr N (vs++rS)) H _ I hq) (fun fl s' hs=>?_) fun e s' hs=>hs
 have fin:∀{σ':St} {H':Hp} {v:V} {u:Value},bw (qE (iU P w) P w K mg base N qual scope f (.ref cd) cl A outer s H E) [] σ' H' s'->bS v u->Q v H'->CE outer P w H s Q u s':=
  fun{σ' H' v u} J rv q=>⟨v,H',J.os,J.bare,J.base,J.hok,rv,q⟩
 cases fl with
 |ret u=>
  obtain⟨v,σ',H',J,rv,q⟩:=hs
  exact fin J rv q
 |next=>
  obtain⟨σ',H',J,q⟩:=hs
  exact fin (v:=V.non) (u:=Value.none) J rfl q
 |brk=>
  obtain⟨_,_,_,q⟩:=hs
  exact False.elim q
 |cont=>
  obtain⟨_,_,_,q⟩:=hs
  exact False.elim q⟩
end
def mS(c:Addr):aj->Bool
 |.pin true a _ _=>a==c
 |_=>false
open Classical in
def sV(ok:Obj->Prop)(F:List W->List aj->R W)(m:Nat)(ws:List W)(st:List aj):R W:=match st[m]? with
 |some (.pin false _ o _)=>if ok o then(match pU ((lI o).map fun y=>(st.findIdx? (mS y.2)).getD 0) st with
   |some (l,st1)=>if (l.map fun x=>x.2.1)=(lI o).map (·.2)then(match F (ws++l.map fun x=>x.2.2.2) st1 with
     |.ok w c7=>(match zR l c7 with
      |some jd=>.ok w jd
      |none=>.bad)
     |_=>.bad)else .bad
   |none=>.bad)else .bad
 |_=>.bad
def pb(i n:Nat)(ok:Obj->Prop)(F:List W->List aj->R W)(fs:FA):FE:=fun ρ st=>match ρ[i]? with
 |some (some (.loc m))=>(match st[m]? with
  |some (.pin false _ _ _)=>(fs ρ st).bind fun ws st1=>if ws.length=n then sV ok F m ws st1 else .bad
  |_=>.bad)
 |_=>.bad
theorem jG{l:List iZ}(h:H b=none):mf l H b=none:=by
 by_cases q:∃x∈l,x.2.1=b
 ·exact rH q
 ·rw[ib fun x hx e=>q ⟨x,hx,e⟩];exact h
theorem x9:∀{l:List iZ},(∀x∈l,x6 K μ H h x)->∃rS yX,cp rS yX/\RelWs K μ H (l.map fun x=>x.2.2.2) rS/\Paired (fun(x:iZ) (u:Value)=>h.IsCell x.2.1 (some u)) l yX
 |[],_=>⟨[],[],.nil,.nilI,.nil⟩
 |x::l,ha=>by
  obtain⟨rS,yX,a,b,c⟩:=x9 (l:=l) fun y hy=>ha y (aA _ hy)
  obtain⟨_,g,u,v,d,ru,rx⟩:=ha x aQ
  exact⟨v::rS,u::yX,.cons ru a,.consI rx b,.cons ⟨_,g,d⟩ c⟩
theorem u3{R:Addr->α->Prop}:∀{l:List iZ} {cl:List (Str×Addr)} {m:List α},(l.map fun x=>x.2.1)=cl.map (·.2)->Paired (fun(x:iZ) u=>R x.2.1 u) l m->Paired (fun(y:Str×Addr) u=>R y.2 u) cl m
 |[],[],_,_,.nil=>.nil
 |[],_::_,_,e,_=>by simp at e
 |_::_,[],_,e,_=>by simp at e
 |x::l,y::cl,_,e,.cons r t=>by
  simp only[aG,List.cons.injEq]at e
  exact .cons (by rw[<- e.1];exact r) (u3 e.2 t)
theorem x_{R T:α->β->Prop}:∀{l:List α} {m:List β},Paired R l m->(∀a∈l,∀b,T a b)->Paired (fun a b=>R a b/\T a b) l m
 |_,_,.nil,_=>.nil
 |_,_,.cons r t,h=>.cons ⟨r,h _ aQ _⟩ (x_ t fun a ha=>h a (aA _ ha))
section
variable{fs:FA}
theorem Jm(i:Nat){k k':Nat}{ok:Obj->Prop}(Nk:o_ X.prog X.w X.K X.mg X.base k n m ok F)(hm:∀o,ok o->(lI o).length=m)(hr:gD k' X.A)(hk:k<=k')(ha:SA X (e::es) fs)
  (hN:X.N[i]?=some x:=by rfl) (hv:Pk X.env.scope x:=by first|exact Or.inl rfl|exact Or.inr (Or.inl rfl)|exact Or.inr (Or.inr rfl)) (yR:(x==("__debug__":Str))=false:=by decide)
  (lD:(x==("__classdict__":Str))=false:=by decide) (he:starEach (e::es) X.env=(false,eval e X.env)::starEach es X.env:=by rfl) (qh:(backTo pos (starEach es X.env)).any (·.1)=false:=by rfl) :
  SE X (.Call (.Name x p) (e::es) [] pos) (pb i n ok F fs):=⟨by
 intro pins s σ H Q I h
 obtain⟨μ,ρ,st,l,h⟩:=h
 unfold pb at h
 split at h
 ·rename_i mm e1
  split at h
  ·rename_i f0 o0 w0 e2
   obtain⟨v,hσ,rx⟩:=lF l.env e1
   obtain⟨f,hmu,rfl⟩:=rx.locE
   obtain⟨a0,hmu0,ea,hH0,hf0,_⟩:=l.sto.get e2
   rw[hmu]at hmu0;cases hmu0
   subst ea
   refine du (f6 ((pv i hN hv yR lD) pins s σ H (fun v H1=>v=.ref f/\H1=H) I ⟨_,hσ,rfl,rfl⟩) fun u s1 rq=>?_)
   obtain⟨v1,H1,I1,ru,rfl,rfl⟩:=rq
   obtain rfl:u=Value.ref f:=ru
   have fnAt:∀{H2:Hp} {h2:Heap} {o:Obj},kw X.prog X.w H2 h2->H2 f=some (lE f o)->(∃fd cd,o.data=.func fd/\fd.code=.ref cd/\H2 cd=some (iz cd fd.qualname))->PySem.W.FnAt f h2:=fun{H2 h2 o} hok q r=>by
    obtain⟨g,_⟩:=hok _ _ q
    obtain⟨fd,_,d,_⟩:=r
    obtain⟨c1,c2,c3,c4⟩:=o
    cases d
    exact⟨c1,c2,fd,c4,g⟩
   have h':QL X fs σ H1 fun vs H2=>∃μ1 st1 ws,Rl X μ1 ρ st1 σ H2/\μ <+: μ1/\RelWs X.K μ1 H2 ws vs/\RK X (q_ X) μ1 σ H2 Q (if ws.length=n then sV ok F mm ws st1 else .bad):=
    ⟨μ,ρ,st,l,RK.bind h l fun μ1 st1 x v H1 p1 x1 l1 q1 h1=>⟨μ1,st1,x,l1,p1,q1,h1⟩⟩
   refine PySem.W.callWith_F (q:=f) (fnAt I1.hok hH0 (hf0 rfl)) (f6 (ha.h pos pins s1 σ H1 _ I1 h') fun us s2 ⟨vs,H2,I2,r,μ1,st1,ws,l1,p1,r1,q⟩=>?_) he qh
   by_cases c:ws.length=n
   ·rw[ay c]at q
    unfold sV at q
    split at q
    ·rename_i f1 o1 w1 e3
     obtain⟨a1,hmu1,ea1,hH1,hf1,_⟩:=l1.sto.get e3
     rw[pre_get p1 hmu]at hmu1;cases hmu1
     subst ea1
     have y8:=hf1 rfl
     refine⟨fnAt I2.hok hH1 y8,?_⟩
     obtain⟨go,_⟩:=I2.hok _ _ hH1
     obtain⟨fd,cd,hd,lP,hHc⟩:=y8
     obtain⟨⟨oc,vsc,tc,hoc,hdc,hvc⟩,_⟩:=I2.hok _ _ hHc
     by_cases hok:ok o1
     ·rw[ay hok]at q
      split at q
      ·rename_i lv c7 e4
       by_cases had:(lv.map fun x=>x.2.1)=(lI o1).map (·.2)
       ·rw[ay had]at q
        split at q
        ·rename_i wv jd e5
         split at q
         ·rename_i Sx e6
          obtain⟨S1,hok1,x1,la,nd⟩:=sU l1.sto I2.hok e4
          have inH:∀y∈lv,H2 y.2.1≠none:=fun y hy=>by rw[(la y hy).2];simp
          have out:∀{b:Addr},H2 b=none->∀y∈lv,y.2.1≠b:=fun{b} n y hy z=>inH y hy (by rw[z];exact n)
          have outT:∀{b:Addr} {u:HO},H2 b=some u->(∀φ,u≠.ext φ)->∀y∈lv,y.2.1≠b:=fun{b u} n ne y hy z=>by have:=(la y hy).2;rw[z,n]at this;cases this;exact ne _ rfl
          obtain⟨rS,yX,rc,rwc,pc⟩:=x9 fun y hy=>(la y hy).1
          have e0:=I2.env0
          have e0':xa X.prog X.w X.K X.mg X.base X.A X.stack s2 (mf lv H2):=⟨e0.frames,e0.mod,fun b o q=>⟨(e0.bs b o q).1,jG (e0.bs b o q).2⟩,e0.bsz,e0.funs,fun b hb=>jG (e0.frf b hb),hok1,e0.bare⟩
          have jc:Paired (fun(y:Str×Addr) (u:Value)=>s2.heap.IsCell y.2 (some u)/\mf lv H2 y.2=none) (lI o1) yX:=
           u3 (R:=fun a u=>s2.heap.IsCell a (some u)/\mf lv H2 a=none) had (x_ pc fun y hy _=>rH ⟨y,hy,rfl⟩)
          have dq:(ws++lv.map fun x=>x.2.2.2).length=n+m:=by
           rw[aF,c,ai]
           have:=dJ List.length had
           rw[ai,ai,hm o1 hok]at this
           rw[this]
          have rall:RelWs X.K μ1 (mf lv H2) (ws++lv.map fun x=>x.2.2.2) (vs++rS):=(RelWs.pr.mpr (Paired.imp' (fun _ _ z=>z.mono (af _) x1) (RelWs.pr.mp r1))).app rwc
          refine mI (il ((Nk.mono hk).run X.A X.stack s2 (mf lv H2) f o1 fd us yX vs rS (fun v H'=>∃μ',μ1 <+: μ'/\dD X.K (mf lv H2) H'/\fY X.K X.mg μ' jd H'/\bf X.K μ' H' wv v) (fun _ _ _=>False) hr e0' go hok hd ⟨cd,oc,vsc,tc,lP,hoc,hdc,hvc⟩ r rc (by rw[<- r.length,<- r1.len,c]) jc
           ⟨by rw[<- rall.len];exact dq,μ1,_,c7,S1,rall,by rw[e5];exact fun μ' v H' a b c d=>⟨μ',a,b,c,d⟩⟩) fun rr s' hq=>?_)
          cases rr with
          |error ev=>obtain⟨_,_,_,_,_,_,z,_⟩:=hq;exact z.elim
          |ok fl=>
           cases fl with
           |next=>exact False.elim hq
           |brk=>exact False.elim hq
           |cont=>exact False.elim hq
           |ret u=>
            obtain⟨v,H',os,bare,un,hok',rv,μ',pm,xm,Sm,rm⟩:=hq
            have hla:∀y∈lv,x6 X.K μ' H' s'.heap y/\H' y.2.1=none:=fun y hy=>by
             obtain⟨⟨g1,g2,u1,v1,g3,g4,g5⟩,_⟩:=la y hy
             have hn:mf lv H2 y.2.1=none:=rH ⟨y,hy,rfl⟩
             exact⟨⟨pre_get pm g1,un.keep _ _ g2 hn (fun z=>inH y hy (I2.stkFree _ z)) (by simp),u1,v1,g3,g4,g5.mono pm xm⟩,un.free _ _ g2 hn (by simp)⟩
            obtain⟨Sp,hokp,xp⟩:=Bd Sm hok' hla nd e6
            have un':Un (tZ X.stack) [] H2 (oY lv H') s2.heap s'.heap:=by
             refine⟨fun b o q n hb hx=>un.keep b o q (jG n) hb hx,fun b o q n hb hx=>un.slot b o q (jG n) hb hx,fun b o q n hx=>?_,un.there,fun b xs q=>?_,fun b o u q=>?_,fun b ps q=>?_⟩
             ·rw[fR (out n)];exact un.free b o q (jG n) hx
             ·have ot:=outT q (fun _ z=>by cases z)
              rw[fR ot];exact un.tups b xs (by rw[ib ot];exact q)
             ·have ot:=outT q (fun _ z=>by cases z)
              rw[fR ot];exact un.frzs b o u (by rw[ib ot];exact q)
             ·have ot:=outT q (fun _ z=>by cases z)
              rw[fR ot];exact un.tbls b ps (by rw[ib ot];exact q)
            have I3:bw X pins σ (oY lv H') s':=I2.call' os un' hokp bare fun b hb=>absurd hb (by simp)
            exact⟨v,_,I3,rv,q μ' v _ pm (x1.trans (xm.trans xp)) Sp (rm.mono (af _) xp)⟩
         ·exact q.elim
        ·exact q.elim
       ·rw[aC had]at q;exact q.elim
      ·exact q.elim
     ·rw[aC hok]at q;exact q.elim
    ·exact q.elim
   ·rw[aC c]at q;exact q.elim
  ·exact h.elim
 ·exact h.elim⟩
end
open Classical in
def u4(ok:α->Prop)(f:α->R W):R W:=if h:∃r,∀a,ok a->f a=r then h.choose else .bad
theorem EW{ok:α->Prop}{f:α->R W}{r:R W}(a0:α)(h0:ok a0)(h:∀a,ok a->f a=r):u4 ok f=r:=by
 have e:∃r,∀a,ok a->f a=r:=⟨r,h⟩
 unfold u4
 rw[mH e,<- e.choose_spec a0 h0,h a0 h0]
def lJ:List (Str×Addr)->List Obj->List W->List iZ
 |y::cl,o::os,w::ws=>(0,y.2,o,w)::lJ cl os ws
 |_,_,_=>[]
def u5:List Nat->cu->Option (List W)
 |[],_=>some []
 |i::is,ρ=>match ρ[i]? with
  |some (some w)=>(match u5 is ρ with
   |some ws=>some (w::ws)
   |none=>none)
  |_=>none
theorem EX{ok:α->Prop}{f:α->R W}(a:α)(h:ok a):u4 ok f=f a\/u4 ok f=.bad:=by
 unfold u4
 by_cases e:∃r,∀a,ok a->f a=r
 ·rw[mH e];exact .inl (e.choose_spec a h).symm
 ·rw[dif_neg e];exact .inr rfl
open Classical in
def Bg(F:List W->List aj->R W)(C:List (Str×Addr))(cws ws:List W)(st1:List aj)(os:List Obj):R W:=match F ws (st1++hG (lJ C os cws))with
  |.ok w c7=>(match pU (List.range' st1.length C.length) c7 with
   |some (l',jd)=>if (l'.map fun x=>(x.2.1,x.2.2.1))=(lJ C os cws).map fun x=>(x.2.1,x.2.2.1)then .ok w (h_ st1 jd [w])else .bad
   |none=>.bad)
  |_=>.bad
def C0(F:List W->List aj->R W)(o:Obj)(cws ws:List W)(st1:List aj):R W:=u4 (fun os:List Obj=>os.length=(lI o).length) (Bg F (lI o) cws ws st1)
def u6(n:Nat)(F:List W->List aj->R W)(o:Obj)(is:List Nat)(fs:FA):FE:=fun ρ st=>(fs ρ st).bind fun ws st1=>if ws.length=n then(match u5 is ρ with
  |some cws=>C0 F o cws ws st1
  |none=>.bad)else .bad
section
variable{st:List aj}
theorem EY(I:bw X pins σ H s)(l:Rl X μ ρ st σ H):∀{cl:List (Str×Addr)} {is:List Nat} {cws:List W},(∀y∈cl,X.env.cells.lookup y.1=some y.2/\X.env.scope.names.lookup y.1=some .cell)->Paired (fun(i:Nat) (y:Str×Addr)=>X.N[i]?=some y.1) is cl->u5 is ρ=some cws ->
  ∃os:List Obj,os.length=cl.length/\((lJ cl os cws).map fun x=>x.2.1)=cl.map (·.2)/\∀x∈lJ cl os cws,H x.2.1=none/\s.heap.get? x.2.1=some x.2.2.1/\∃u v,x.2.2.1.data=.cell (some u)/\bS v u/\bf X.K μ H x.2.2.2 v
 |[],[],cws,_,.nil,e=>by cases e;exact⟨[],rfl,rfl,fun _ h=>absurd h (by simp[lJ])⟩
 |y::cl,i::is,cws,ha,.cons hi t,e=>by
  unfold u5 at e
  split at e
  ·rename_i w e1
   split at e
   ·rename_i ws e2
    cases e
    obtain⟨os,q1,q2,q3⟩:=EY I l (fun y hy=>ha y (aA _ hy)) t e2
    obtain⟨v,hσ,rx⟩:=lF l.env e1
    obtain⟨hc,hk⟩:=ha y aQ
    obtain⟨mm,Hr,hlk⟩:=id I.loc
    obtain⟨u,ru,lk⟩:=hlk i y.1 v hi hσ (.inr (.inl hk))
    obtain⟨o,ho,hd⟩:s.heap.IsCell y.2 (some u):=by
     rcases lk with⟨kl,_⟩|⟨_,c1,hc1,hcc⟩
     ·have:X.env.scope.names.lookup y.1=some .local:=kl
      rw[hk]at this;cases this
     ·rw[hc]at hc1;cases hc1;exact hcc
    refine⟨o::os,by simp[q1],by simp only[lJ,aG,q2],fun x hx=>?_⟩
    rcases aI.mp (show x∈(0,y.2,o,w)::lJ cl os ws from hx)with rfl|hx
    ·exact⟨I.freeC _ _ hc,ho,u,v,hd,ru,rx⟩
    ·exact q3 x hx
   ·cases e
  ·cases e
variable{fs:FA}
theorem Ny{k k':Nat}{qn:Str}{pr:Arguments}{is:List Nat}(Fn:dF X.prog X.w X.K X.mg X.base k x n F)(hr:gD k' X.A)(hk:k<=k')(ok:Nx X name qn pr body sc o)(ha:SA X (e::es) fs)
  (fJ:X.env.cells=cellsFrom m X.env.scope.names []) (rA:∀x∈sc.names,x.2=.free->X.env.scope.names.lookup x.1=some .cell) (kE:((cM X.env sc.names []).map (·.1)).Nodup) (y7:Paired (fun(i:Nat) (y:Str×Addr)=>X.N[i]?=some y.1) is (cM X.env sc.names []))
  (UF:∀y∈cM X.env sc.names [],X.env.scope.names.lookup y.1=some .cell) (y8:∀x,X.fn x=true)
  (hg:Gl X x:=by rfl) (yR:(x==("__debug__":Str))=false:=by decide)
  (he:starEach (e::es) X.env=(false,eval e X.env)::starEach es X.env:=by rfl) (qh:(backTo pos (starEach es X.env)).any (·.1)=false:=by rfl):SE X (.Call (.Name x p) (e::es) [] pos) (u6 n F o is fs):=⟨by
 intro pins s σ H Q I h
 obtain⟨f,fd,ps,hm,hkp,hn,hb,Fo⟩:=(Fn.mono hk).ex
 obtain⟨iM,cd,ct,rfl⟩:=ok
 refine du (AE I hg hm ?_ yR)
 obtain⟨μ,ρ,st,l,h⟩:=h
 have h':QL X fs σ H fun vs H1=>∃μ1 st1 ws,Rl X μ1 ρ st1 σ H1/\RelWs X.K μ1 H1 ws vs/\RK X (q_ X) μ1 σ H1 Q (if ws.length=n then(match u5 is ρ with
  |some cws=>C0 F (fnMade name qn pr body sc (cM X.env sc.names []) iM ((X.mg "__name__").getD .none) cd ct) cws ws st1
  |none=>.bad)else .bad):=
  ⟨μ,ρ,st,l,RK.bind h l fun μ1 st1 x v H1 p1 x1 l1 q1 h1=>⟨μ1,st1,x,l1,q1,h1⟩⟩
 refine PySem.W.callWith_K (h₀:=X.base) I.ok.mod.kin hkp (f6 (ha.h pos pins s σ H _ I h') fun us s1 ⟨vs,H1,I1,r,μ1,st1,ws,l1,r1,q⟩=>⟨I1.kIn,?_⟩) he qh
 by_cases c:ws.length=n
 ·rw[ay c]at q
  split at q
  ·rename_i cws ec
   have has:∀x∈sc.names,x.2=.free->∃c,X.env.cells.lookup x.1=some c:=fun x hx hf=>by rw[fJ];exact jJ (rA x hx hf)
   have hcl':∀y∈cM X.env sc.names [],X.env.cells.lookup y.1=some y.2:=jE sc.names [] has (by simp)
   obtain⟨os,ol,oa,ol2⟩:=EY I1 l1 (fun y hy=>⟨hcl' y hy,UF y hy⟩) y7 ec
   unfold C0 at q
   generalize hC:cM X.env sc.names []=C at *
   have hclo:lI (fnMade name qn pr body sc C iM ((X.mg "__name__").getD .none) cd ct)=C:=rfl
   rw[hclo]at q
   rcases EX (ok:=fun os:List Obj=>os.length=C.length) (f:=Bg F C cws ws st1) os ol with Pa|Pa
   ·rw[Pa]at q
    unfold Bg at q
    have ndc:((lJ C os cws).map fun x=>x.2.1).Nodup:=by
     rw[oa]
     have gen:∀l:List (Str×Addr),(∀y∈l,X.env.cells.lookup y.1=some y.2)->(l.map (·.1)).Nodup->(l.map (·.2)).Nodup:=by
      intro l
      induction l with
      |nil=>intro _ _;exact ko
      |cons y l ih=>
       intro a b
       rw[aG,bF]at b ⊢
       refine⟨fun z=>b.1 ?_,ih (fun y hy=>a y (aA _ hy)) b.2⟩
       obtain⟨y',Dn,e⟩:=al.mp z
       have:=I.ok.inj _ _ _ (a y aQ) (by rw[<- e];exact a y' (aA _ Dn))
       rw[this]
       exact al.mpr ⟨y',Dn,rfl⟩
     exact gen _ hcl' kE
    split at q
    ·rename_i wv c7 e5
     split at q
     ·rename_i l' jd e6
      split at q
      ·rename_i hll
       obtain⟨S1,hok1,x1⟩:=x8 l1.sto I1.hok ol2 ndc
       generalize hL:lJ C os cws=L at *
       have isCell:∀y∈L,∃z,X.env.cells.lookup z=some y.2.1:=fun y hy=>by
        have:y.2.1∈C.map (·.2):=by rw[<- oa];exact al.mpr ⟨y,hy,rfl⟩
        obtain⟨z,hz,e⟩:=al.mp this
        exact⟨z.1,by rw[<- e];exact hcl' z hz⟩
       have big:∀y∈L,X.s₀.heap.objs.size<=y.2.1:=fun y hy=>by
        obtain⟨z,hz⟩:=isCell y hy
        exact I1.ok.cab z _ (y8 z) hz
       have noStk:∀y∈L,y.2.1∉tZ X.stack:=fun y hy z=>by
        rcases aI.mp (I1.stkSub _ z)with e|hb
        ·obtain⟨z',hz⟩:=isCell y hy
         exact I1.cne z' _ hz e
        ·obtain⟨_,ob,Hm,_⟩:=I1.ok.funs.mem hb
         exact absurd (aY (aH Hm) (big y hy)) (bD _)
       have e0:=I1.env0
       have e0':xa X.prog X.w X.K X.mg X.base X.A X.stack s1 (oY L H1):=⟨e0.frames,e0.mod,fun b o q=>⟨(e0.bs b o q).1,by
        rw[fR fun y hy z=>?_]
        ·exact(e0.bs b o q).2
        ·have:=aH (I1.ok.bs b o q).1
         rw[<- z]at this
         exact absurd (aY this (big y hy)) (bD _)⟩,e0.bsz,e0.funs,fun b hb=>by rw[fR fun y hy z=>noStk y hy (by rw[z];exact hb)];exact e0.frf b hb,hok1,e0.bare⟩
       have hl':(us++([]:List Value)).length=ps.length:=by rw[bU,<- r.length,<- r1.len,c,hn]
       have rall:RelWs X.K (μ1++L.map fun x=>x.2.1) (oY L H1) ws vs:=RelWs.pr.mpr (Paired.imp' (fun _ _ z=>z.mono (ao _ _) x1) (RelWs.pr.mp r1))
       refine mI (il (Fo.run X.A X.stack s1 (oY L H1) ⟨us,[]⟩ us vs (fun v H'=>∃μ',(μ1++L.map fun x=>x.2.1) <+: μ'/\dD X.K (oY L H1) H'/\fY X.K X.mg μ' c7 H'/\bf X.K μ' H' wv v) (fun _ _ _=>False) hr e0' (by have:=hb s1 us I1.kIn hl';rwa[bU]at this) r
        ⟨by rw[<- r1.len];exact c,_,ws,_,S1,rall,by rw[e5];exact fun μ' v H' a b c d=>⟨μ',a,b,c,d⟩⟩) fun rr s' hq=>?_)
       cases rr with
       |error ev=>obtain⟨_,_,_,_,_,_,z,_⟩:=hq;exact z.elim
       |ok fl=>
        cases fl with
        |next=>exact False.elim hq
        |brk=>exact False.elim hq
        |cont=>exact False.elim hq
        |ret u=>
         obtain⟨v,H',os',bare,un,hok',rv,μ',pm,xm,Sm,rm⟩:=hq
         obtain⟨Sh,hokh,xh,la,ndl⟩:=sU Sm hok' e6
         have pm1:μ1 <+: μ':=(ao _ _).trans pm
         obtain⟨μ2,p2,S2,r2⟩:=iX l1.sto Sh pm1 (.consI (rm.mono (af _) xh) .nilI)
         obtain⟨_,ee,r3⟩:=r2.one
         cases ee
         have both1:∀y∈L,∃z∈l',z.2.1=y.2.1/\z.2.2.1=y.2.2.1:=fun y hy=>by
          have:(y.2.1,y.2.2.1)∈l'.map fun x=>(x.2.1,x.2.2.1):=by rw[hll];exact al.mpr ⟨y,hy,rfl⟩
          obtain⟨z,hz,e⟩:=al.mp this
          exact⟨z,hz,(nI e).1,(nI e).2⟩
         have both2:∀z∈l',∃y∈L,y.2.1=z.2.1:=fun z hz=>by
          have:(z.2.1,z.2.2.1)∈L.map fun x=>(x.2.1,x.2.2.1):=by rw[<- hll];exact al.mpr ⟨z,hz,rfl⟩
          obtain⟨y,hy,e⟩:=al.mp this
          exact⟨y,hy,(nI e).1⟩
         have inL:∀{b:Addr} {u:HO},H1 b=some u->∀y∈L,y.2.1≠b:=fun{b u} e y hy z=>by have:=(ol2 y hy).1;rw[z,e]at this;cases this
         have outT:∀{b:Addr} {u:HO},H' b=some u->(∀φ,u≠.ext φ)->∀y∈l',y.2.1≠b:=fun{b u} n ne y hy z=>by have:=(la y hy).2;rw[z,n]at this;cases this;exact ne _ rfl
         have un':Un (tZ X.stack) [] H1 (mf l' H') s1.heap s'.heap:=by
          refine⟨fun b o q n hb hx=>?_,fun b o q n hb hx=>?_,fun b o q n hx=>?_,un.there,fun b xs q=>?_,fun b o u q=>?_,fun b ps q=>?_⟩
          ·by_cases hbL:∃y∈L,y.2.1=b
           ·obtain⟨y,hy,rfl⟩:=hbL
            obtain⟨z,hz,z1,z2⟩:=both1 y hy
            have g1:=(ol2 y hy).2.1
            rw[q]at g1;cases g1
            have g2:=(la z hz).1.2.1
            rw[z1,z2]at g2
            exact g2
           ·exact un.keep b o q (by rw[fR fun y hy z=>hbL ⟨y,hy,z⟩];exact n) hb hx
          ·exact un.slot b o q (by rw[fR fun y hy z=>noStk y hy (by rw[z];exact hb)];exact n) hb hx
          ·by_cases hbL:∃y∈L,y.2.1=b
           ·obtain⟨y,hy,rfl⟩:=hbL
            obtain⟨z,hz,z1,_⟩:=both1 y hy
            exact rH ⟨z,hz,z1⟩
           ·exact jG (un.free b o q (by rw[fR fun y hy z=>hbL ⟨y,hy,z⟩];exact n) hx)
          ·have t:=un.tups b xs (by rw[fR (inL q)];exact q)
           rw[ib (outT t (fun _ z=>by cases z))];exact t
          ·have t:=un.frzs b o u (by rw[fR (inL q)];exact q)
           rw[ib (outT t (fun _ z=>by cases z))];exact t
          ·obtain⟨j0,t⟩:=un.tbls b ps (by rw[fR (inL q)];exact q)
           exact⟨j0,by rw[ib (outT t (fun _ z=>by cases z))];exact t⟩
         have I3:bw X pins σ (mf l' H') s':=I1.call' os' un' hokh bare fun b hb=>absurd hb (by simp)
         exact⟨v,_,I3,rv,q μ2 v _ p2 (x1.trans (xm.trans xh)) S2 r3⟩
      ·exact q.elim
     ·exact q.elim
    ·exact q.elim
   ·rw[Pa]at q;exact q.elim
  ·exact q.elim
 ·rw[aC c]at q;exact q.elim⟩
end
theorem qU:∀{ns:List (Str×NameKind)} {cs:List (Str×Addr)} {y:Str×Addr},y∈cM env ns cs->y∈cs\/∃x∈ns,x.1=y.1/\x.2=.free
 |[],cs,y,h=>.inl h
 |(n,k)::r,cs,y,h=>by
  unfold cM at h
  rcases qU h with h|⟨x,hx,e⟩
  ·by_cases hk:(k==NameKind.free)=true
   ·rw[ay hk]at h
    rcases aI.mp h with rfl|h
    ·exact .inr ⟨(n,k),aQ,rfl,jI hk⟩
    ·exact .inl h
   ·rw[aC hk]at h;exact .inl h
  ·exact .inr ⟨x,aA _ hx,e⟩
theorem Jn{q:Str}{pr:Arguments}{xs:List Str}(h:xs.length=m)(o:Obj)(ok:Nw name q pr body sc xs o):(lI o).length=m:=by
 obtain⟨cl,iM,pm,cd,ct,hx,_,rfl⟩:=ok
 rw[<- h,<- hx,ai];rfl
def Uh(a b:List (Str×NameKind)):Bool:=b.all fun x=>!(x.2==.free)||a.lookup x.1==some .cell
theorem zT{a b:List (Str×NameKind)}(h:Uh a b=true):∀x∈b,x.2=.free->a.lookup x.1=some .cell:=fun x hx e=>by
 have:=d6.mp h x hx
 rw[e]at this
 have t:(!(NameKind.free==NameKind.free)||a.lookup x.1==some .cell)=true:=this
 simpa using t
abbrev To(name q:Str)(st:Stmt)(xs:List Str):Obj->Prop:=Nw name q (dS st) (dU st) (aR st) xs
section
variable{q:Str}{st:Stmt}{rest:List Stmt}{P c:Addr}{xs:List Str}{g:Addr->Obj->FS}
theorem EZ(lP:X.env.code=.ref c)(J7:codeHdIn X.K c P=true)(hB:rg X.base X.mg)(fJ:X.env.cells=cellsFrom m X.env.scope.names [])(hN:X.N.Nodup)
  (tX:∀f o,Nx X name q (dS st) (dU st) (aR st) o->SB X rest (g f o))
  (SL:st=.FunctionDef name (dS st) (dU st) [] none [] (aR st) none name pos:=by rfl)
  (rA:Uh X.env.scope.names (aR st).names=true:=by first|rfl|kernel_rfl) (PL:(cM X.env (aR st).names []).map (·.1)=xs:=by rfl) (kE:Pt xs=true:=by first|rfl|kernel_rfl) (hq:qualnameIn X.env name name=q:=by rfl)
  (hi:X.N[i]?=some name:=by rfl) (hx:Du X.env.scope name:=by first|exact Or.inl rfl|exact Or.inr rfl) (hf:X.fn name=true\/X.env.scope.names.lookup name=some .local:=by exact .inl rfl)
  (UB:(dS st).defaults=[]:=by rfl) (UG:(dS st).kw_defaults=[]:=by rfl) (ha:annTrees (dS st) none X.env=[]:=by rfl) :
  SB X (st::rest) (u0 (To name q st xs) j P pos q i g):=by
 have h1:=Jk (j:=j) (P:=P) (pos:=pos) (i:=i) (Jj (j:=j) (pos:=pos) lP J7 hB fJ (zT rA) PL (vY kE) hq hN hi hx hf UB UG ha) tX
 rw[SL]
 exact h1
variable{fs:FA}
theorem Jo{k k':Nat}{is:List Nat}(Fn:dF X.prog X.w X.K X.mg X.base k x n F)(hr:gD k' X.A)(hk:k<=k')(ok:Nx X name q (dS st) (dU st) (aR st) o)(ha:SA X (e::es) fs)
  (fJ:X.env.cells=cellsFrom m X.env.scope.names []) (y7:Paired (fun(i:Nat) (y:Str×Addr)=>X.N[i]?=some y.1) is (cM X.env (aR st).names []))
  (rA:Uh X.env.scope.names (aR st).names=true:=by first|rfl|kernel_rfl) (PL:(cM X.env (aR st).names []).map (·.1)=xs:=by rfl) (kE:Pt xs=true:=by first|rfl|kernel_rfl) (y8:∀x,X.fn x=true:=by exact fun _=>rfl)
  (hg:Gl X x:=by rfl) (yR:(x==("__debug__":Str))=false:=by decide)
  (he:starEach (e::es) X.env=(false,eval e X.env)::starEach es X.env:=by rfl) (qh:(backTo pos (starEach es X.env)).any (·.1)=false:=by rfl):SE X (.Call (.Name x p) (e::es) [] pos) (u6 n F o is fs):=
 Ny Fn hr hk ok ha fJ (zT rA) (by rw[PL];exact vY kE) y7 (fun y hy=>by
  rcases qU hy with h|⟨z,hz,e1,e2⟩
  ·exact absurd h (by simp)
  ·rw[<- e1];exact zT rA z hz e2) y8 hg yR he qh
end
section
variable{a:Expr}
end
end L2
namespace L2
open PySem PySem.Spec PyProof.Rows PySem.W
def ya(kb:List (DK×W)):List (DK×W)->Option Bool
 |[]=>some true
 |(k,w)::r=>match w,jx kb k with
  |.int _,none=>some false
  |.int i,some (.int j)=>(ya kb r).map fun b=>(i==j)&&b
  |_,_=>none
def zU(x y:W)(st:List aj):R W:=match iD st x,iD st y with
 |some (_,ka),some (_,kb)=>if ka.length=kb.length then(match ya kb ka with
  |some b=>.ok (.bl (!b)) st
  |none=>.bad)else .ok (.bl true) st
 |_,_=>uf x y st
section
theorem E0{kb:List (DK×W)}{vb:List V}{ub:List (fZ×Value)}(rb:RelWs K μ H (kb.map fun p=>p.2) vb)(qb:KV (dV kb vb) ub) :
  ∀(ka:List (DK×W)) {va:List V} {ua:List (fZ×Value)} {b:Bool},RelWs K μ H (ka.map fun p=>p.2) va->KV (dV ka va) ua->ya kb ka=some b->PySem.W.KeqHits A s ub ua b:=by
 intro ka
 induction ka with
 |nil=>
  intro va ua b r q h
  cases q
  cases h
  exact .nil
 |cons p ka ih=>
  intro va ua b r q h
  obtain⟨k,w⟩:=p
  obtain⟨x,xs,rfl,r1,r2⟩:=RelWs.consE r
  unfold KV at q
  cases q with
  |@cons _ q0 _ qs h0 t0=>
   obtain⟨q1,q2⟩:=q0
   obtain⟨e1,e2⟩:=h0
   cases e1
   unfold ya at h
   have hv:=qb.val k.key
   cases w with
   |int i=>
    have:=r1.intE
    subst this
    obtain⟨t,rfl⟩:=e2
    rcases sK k rb with⟨w',v',g1,g2,g3⟩|⟨g1,g2⟩
    ·rw[g1]at h
     rw[g2]at hv
     cases w' with
     |int j=>
      simp only[a6]at h
      obtain⟨b',h1,rfl⟩:=h
      have:=g3.intE
      subst this
      obtain⟨y,hy,ry⟩:=pz.some_of hv
      obtain⟨u,rfl⟩:=ry
      exact .hit hy (SeqAt.EqAt.int_int i t j u) (ih r2 t0 h1)
     |_=>cases h
    ·rw[g1]at h
     rw[g2]at hv
     cases h
     refine .miss (show valueAt ub k.key=none from ?_)
     cases e:valueAt ub k.key with
     |none=>rfl
     |some y=>rw[e]at hv;exact hv.elim
   |_=>cases h
theorem Rn(hr:gD kk X.A):qL X (compareOp .NotEq) zU:=⟨fun pins s σ H x y v u Q I rv ru ⟨μ,st,wx,wy,S,rx,ry,q⟩=>by
 unfold zU at q
 cases e1:iD st wx with
 |none=>rw[e1]at q;exact(vL hr).h pins s σ H x y v u Q I rv ru ⟨μ,st,wx,wy,S,rx,ry,q⟩
 |some na=>
  cases e2:iD st wy with
  |none=>rw[e1,e2]at q;exact(vL hr).h pins s σ H x y v u Q I rv ru ⟨μ,st,wx,wy,S,rx,ry,q⟩
  |some nb=>
   obtain⟨n,ka⟩:=na
   obtain⟨m,kb⟩:=nb
   rw[e1,e2]at q
   simp only at q
   obtain⟨a,va,_,_,rfl,ha,ra⟩:=nz S e1 rx
   obtain⟨b,vb,_,_,rfl,hb,rb⟩:=nz S e2 ry
   obtain rfl:v=Value.ref a:=rv
   obtain rfl:u=Value.ref b:=ru
   obtain⟨_,sa,ua,qa,da⟩:=oh I.hok ha
   obtain⟨_,sb,ub,qb,db⟩:=oh I.hok hb
   have la:ua.length=ka.length:=by rw[<- qa.length,qC ra]
   have lb:ub.length=kb.length:=by rw[<- qb.length,qC rb]
   have hu:X.A.units<cLine:=by have:=hr.units;omega
   by_cases hl:ka.length=kb.length
   ·rw[ay hl]at q
    cases ec:ya kb ka with
    |none=>rw[ec]at q;exact q.elim
    |some r=>
     rw[ec]at q
     refine PySem.W.keq_ne sa sb da db hu (fun _=>E0 rb qb ka ra qa ec) ?_
     rw[la,lb,hl,cH,oJ]
     exact⟨.bl (!r),H,I,rfl,iK S q⟩
   ·rw[aC hl]at q
    refine PySem.W.keq_ne (r:=true) sa sb da db hu (fun z=>absurd (by rw[<- la,<- lb];exact z) hl) ?_
    rw[la,lb,aX.mpr hl]
    exact⟨.bl true,H,I,rfl,iK S q⟩,fun x y st=>by
 unfold zU
 split
 ·split
  ·split<;>trivial
  ·trivial
 ·exact(vL hr).n x y st⟩
end
end L2
namespace L2
open PySem PySem.Spec PyProof.Rows
section
end
abbrev lO(n:Nat):Option W:=some (.loc n)
abbrev iO(z:Int):Option W:=some (.int z)
section
end
def yb(l:List Int):Nat:=(PyProof.Rows.firstMet (fun i=>l.getD i 0) l.length).length
def Jp(K:Frag)(te:TE):TE:=fun σ H Q=>te σ H fun v H1=>∃(a:Addr) (l:List Int),v=.ref a/\qr K H1 a (l.map V.int)/\l.length<1000/\Q (.int (yb l:Nat)) H1
theorem E1{p1 p2 OZ J3:Pos}(h1:X.mg "len"=none)(h3:X.mg "set"=none)(he:QE X e te)(hc:X.calm=true:=by rfl)
  (UD:Gl X "len":=by rfl) (Ur:Gl X "set":=by rfl) (Tq:starEach [e] X.env=(false,eval e X.env)::starEach [] X.env:=by rfl):QE X (.Call (.Name "len" p1) [.Call (.Name "set" p2) [e] [] J3] [] OZ) (Jp X.K te):=⟨by
 intro pins s σ H Q I h
 refine du (kZ I UD h1 gf (iP ?_) (by decide) (by decide))
 show wpAny _ _ (spliced ((false,eval (.Call (.Name "set" p2) [e] [] J3) X.env)::[])) _ _ s
 refine fg (du (kZ I Ur h3 PyProof.Rows.boot_set (cO ?_ Tq rfl) (by decide) (by decide)))
 rw[Tq]
 show wpAny _ _ (spliced ((false,eval e X.env)::[])) _ _ s
 refine fg (f6 (he.h pins s σ H _ I h) fun u s1 ⟨v,H1,I1,r1,a,l,hv,hS,hb,q⟩=>gw ?_)
 subst hv
 cases r1
 have hh:X.A.handled=none:=I1.ok.hd hc
 obtain⟨bz,rv',pl,hz⟩:=I1.list hS
 have hi:=nC rv'
 have hl:bz.length=l.length:=by have:=rv'.length;rw[ai]at this;exact this.symm
 refine call_set_list hh pl.isList (by simpa using hi) (by simp;unfold scanBound;omega) fun h' tk hS' kp=>gw ?_
 obtain⟨o,es,ep,t,g1,g2,g3,_,_,g4,g5,g6⟩:=hS'
 have hN:es.size=yb l:=by rw[g6];unfold yb;rw[show bz.toArray.size=l.length by simpa using hl]
 have I2:bw X pins σ H1 { s1 with heap:=h',toks:=tk+1+1 }:=I1.kept2 (d':=s1.drawn) fun b o e=>kp b o (by
  rcases eA b s1.heap.objs.size with z|z
  ·exact z
  ·rw[Heap.get?_none_of_le z]at e;cases e) e
 refine call_len_set g1 g2 g3 g5 (by unfold scanBound at g4;omega) ⟨.int (yb l:Nat),H1,I2,⟨_,by rw[hN]⟩,q⟩⟩
section
def rJ(fe:FE):FE:=fun ρ st=>(fe ρ st).bind fun x st=>match x with
 |.loc n=>ou (lstOf st n) fun zs=>ou (fQ zs) fun l=>if l.length<1000 then .ok (.int (yb l:Nat)) st else .bad
 |_=>.bad
theorem E2{p1 p2 OZ J3:Pos}(h1:X.mg "len"=none)(h3:X.mg "set"=none)(he:SE X e fe)(hc:X.calm=true:=by rfl)
  (UD:Gl X "len":=by rfl) (Ur:Gl X "set":=by rfl) (Tq:starEach [e] X.env=(false,eval e X.env)::starEach [] X.env:=by rfl):SE X (.Call (.Name "len" p1) [.Call (.Name "set" p2) [e] [] J3] [] OZ) (rJ fe):=⟨(E1 h1 h3 ⟨he.h⟩ hc UD Ur Tq).h.imp fun σ H Q h=>by
 obtain⟨μ,ρ,st,l,h⟩:=h
 refine⟨μ,ρ,st,l,RK.bind h l fun μ1 st1 x v H1 p1 x1 l1 q1 h1=>?_⟩
 cases x with
 |loc n=>
  simp only at h1
  cases e1:lstOf st1 n with
  |none=>rw[e1]at h1;exact h1.elim
  |some zs=>
   rw[e1,cw]at h1
   cases e2:fQ zs with
   |none=>rw[e2]at h1;exact h1.elim
   |some ns=>
    rw[e2,cw]at h1
    split at h1
    ·rename_i c
     obtain⟨a,vs,g,hS,rz⟩:=l1.sto.lstOf e1
     obtain⟨b1,f1,rfl⟩:=q1.locE
     rw[g]at f1;cases f1
     have ev:=lH e2 rz
     subst ev
     exact⟨a,ns,rfl,hS,c,h1 μ1 _ H1 (af _) dD.refl l1.sto .int⟩
    ·exact h1.elim
 |_=>exact h1.elim⟩
end
theorem de(st x:List aj)(k:Nat):(st++x)[st.length+k]?=x[k]?:=by rw[bX (by omega)];congr 1;omega
theorem ca(st x:List aj):(st++x)[st.length]?=x[0]?:=de st x 0
theorem ie(st x:List aj)(k:Nat)(c:aj):(st++x).set (st.length+k) c=st++x.set k c:=by rw[gs _ _ (by omega)];congr 2;omega
theorem dN(st x:List aj)(c:aj):(st++x).set st.length c=st++x.set 0 c:=ie st x 0 c
theorem aM{st x:List aj}{c:aj}(h:st[n]?=some c):(st++x)[n]?=some c:=by
 rw[au (aa.mp h).1];exact h
theorem zV(st:List aj)(ws:List W):h_ st st ws=st:=by unfold h_;split<;>simp
theorem C1{st x:List aj}(h:undWs st.length ws=true):h_ st (st++x) ws=st:=by
 unfold h_
 rw[ay ⟨h,by simp,fun i hi=>.inl (au hi)⟩]
 simp
theorem C2{st:List aj}(h:undWs st.length ws=false):h_ st bx ws=bx:=by
 unfold h_
 rw[aC fun k=>by have:=k.1;rw[h]at this;cases this]
theorem rK{body:FS}{st:List aj}{w:W}(h:body (ws.map some++List.replicate (N-ws.length) none) st=.rt w bx):d9 N body ws st=.ok w (h_ st bx [w]):=by
 unfold d9;rw[h]
theorem nS{body:FS}{st:List aj}{w:W}(h:body (ws.map some++List.replicate (N-ws.length) none) st=.rt w st):d9 N body ws st=.ok w st:=by
 rw[rK h,zV]
theorem yd{body:FS}{st x:List aj}{w:W}(h:body (ws.map some++List.replicate (N-ws.length) none) st=.rt w (st++x))(hu:undWs st.length [w]=true):d9 N body ws st=.ok w st:=by
 rw[rK h,C1 hu]
theorem ye{N:Nat}{body:FS}{ws:List W}{st x:List aj}{k:Nat}(h:body (ws.map some++List.replicate (N-ws.length) none) st=.rt (.loc (st.length+k)) (st++x)):d9 N body ws st=.ok (.loc (st.length+k)) (st++x):=by
 rw[rK h,C2 (by simp[undWs,W.und])]
theorem zW{g g':FS}{ρ':cu}{st:List aj}(h:g ρ st=.nx ρ' bx):aS g g' ρ st=g' ρ' bx:=by unfold aS;rw[h]
theorem Bh{f:FG}{body:FS}{st:List aj}{k:zz}(h:fi ρ st=.ok k bx):eS fi f body ρ st=sw f body k.2 k.1 ρ bx:=by unfold eS;rw[h];rfl
theorem sW{f:FG}{body:FS}{ck:Option (Nat×List W)}(I:Nat->cu->List aj->Prop):∀{ws:List W} {ρ:cu} {st:List aj} (i0:Nat),I i0 ρ st->(∀i ρ st,I i ρ st->iB st ck) ->
  (∀i w ρ st,ws[i]?=some w->I (i0+i) ρ st->∃ρ' ρ2 c7,f w ρ=some ρ'/\body ρ' st=.nx ρ2 c7/\I (i0+i+1) ρ2 c7) ->
  ∃ρ2 c7,sw f body ck ws ρ st=.nx ρ2 c7/\I (i0+ws.length) ρ2 c7
 |[],ρ,st,i0,h0,hc,hs=>⟨ρ,st,by unfold sw;rw[ay (hc _ _ _ h0)],h0⟩
 |w::ws,ρ,st,i0,h0,hc,hs=>by
  obtain⟨ρ',ρ2,c7,e1,e2,h1⟩:=hs 0 w ρ st rfl h0
  obtain⟨ρ3,jd,e3,h3⟩:=sW I (ws:=ws) (ρ:=ρ2) (st:=c7) (i0+1) h1 hc fun i w ρ st hw hI=>by
   obtain⟨a,b,c,d,e,g⟩:=hs (i+1) w ρ st (by simpa using hw) (by rw[show i0+(i+1)=i0+1+i by omega];exact hI)
   exact⟨a,b,c,d,e,by rw[show i0+1+i+1=i0+(i+1)+1 by omega];exact g⟩
  refine⟨ρ3,jd,?_,by rw[a9,show i0+(ws.length+1)=i0+1+ws.length by omega];exact h3⟩
  unfold sw
  rw[ay (hc _ _ _ h0),e1]
  simp only[e2]
  exact e3
theorem C3{t:FT}{g:FS}(I:Nat->cu->List aj->Prop):∀(n:Nat) {ρ:cu} {st:List aj},I n ρ st ->
  (∀n ρ st,I n ρ st->t ρ st=.ok false st\/(t ρ st=.ok true st/\∃ρ2 c7 m,g ρ st=.nx ρ2 c7/\m<n/\I m ρ2 c7)) ->
  ∃m ρ2 c7,lf t g ρ st=.nx ρ2 c7/\I m ρ2 c7/\t ρ2 c7=.ok false c7:=by
 intro n ρ st h hs
 have key:∀(k n:Nat) (ρ:cu) (st:List aj),n<k->I n ρ st->∃m ρ2 c7,fP t g k ρ st=.nx ρ2 c7/\I m ρ2 c7/\t ρ2 c7=.ok false c7:=by
  intro k
  induction k with
  |zero=>intro n _ _ h;exact absurd h (cE _)
  |succ k ih=>
   intro n ρ st hk hI
   rcases hs n ρ st hI with e|⟨e,ρ2,c7,m,e2,hm,h2⟩
   ·exact⟨n,ρ,st,by unfold fP;rw[e];rfl,hI,e⟩
   ·obtain⟨m',ρ3,jd,e3,h3⟩:=ih m ρ2 c7 (by omega) h2
    exact⟨m',ρ3,jd,by unfold fP;rw[e];simp only[R.stmt_ok,fx,e2];exact e3,h3⟩
 obtain⟨m,ρ2,c7,e,h2⟩:=key (n+1) n ρ st (iQ n) h
 exact⟨m,ρ2,c7,CF e (by simp),h2⟩
section
variable{ρ':cu}{st c7 jd Sx:List aj}{fi:FE}{fs:FA}{t u:FT}{x y z w v:W}{xs zs:List W}{a b k:Bool}{g g':FS}
theorem ig(h:ρ[i]?=some (some w)):ae i ρ st=.ok w st:=by unfold ae;rw[h]
theorem bZ:eC w ρ st=.ok w st:=rfl
theorem bd{f:W->W->List aj->R W}(h1:fa ρ st=.ok x st1)(h2:fb ρ st1=.ok y c7)(h3:f x y c7=.ok z jd):e2 f fa fb ρ st=.ok z jd:=by unfold e2;rw[h1];simp only[R.bind_ok];rw[h2];exact h3
theorem bc:az ρ st=.ok [] st:=rfl
theorem aq(h1:fa ρ st=.ok x st1)(h2:fs ρ st1=.ok xs c7):ag fa fs ρ st=.ok (x::xs) c7:=by unfold ag;rw[h1];simp only[R.bind_ok];rw[h2];rfl
theorem Nz:QP ls ρ st=.ok (ls.map W.str) st:=rfl
theorem iE(h1:fs ρ st=.ok ws st1)(h2:ws.length<=jF):f7 fs ρ st=.ok (.tup ws) st1:=by unfold f7;rw[h1];simp only[R.bind_ok,pI];rw[ay h2]
theorem u7(h1:fs ρ st=.ok ws st1)(h2:ws.length<=jF):kB fs ρ st=.ok (.loc st1.length) (st1++[.lst ws]):=by unfold kB;rw[h1];simp only[R.bind_ok,mN];rw[ay h2]
theorem bb(h1:fs ρ st=.ok ws st1)(h2:F ws st1=.ok w c7):a_ F fs ρ st=.ok w c7:=by unfold a_;rw[h1];exact h2
theorem cI(h1:fs ρ st=.ok ws st1)(h2:F ws st1=.ok w c7)(hn:ws.length=n):c8 n F fs ρ st=.ok w c7:=by unfold c8;rw[h1];simp only[R.bind_ok];rw[ay hn];exact h2
theorem bO(h:fa ρ st=.ok (.bl k) st1):eV fa ρ st=.ok k st1:=by unfold eV;rw[h];rfl
theorem pV(h1:t ρ st=.ok true st1)(h2:u ρ st1=.ok k c7):M6 t u ρ st=.ok k c7:=by unfold M6;rw[h1];exact h2
theorem v9(h1:t ρ st=.ok false st1):M6 t u ρ st=.ok false st1:=by unfold M6;rw[h1];rfl
theorem eE(h1:t ρ st=.ok false st1)(h2:u ρ st1=.ok k c7):re t u ρ st=.ok k c7:=by unfold re;rw[h1];exact h2
theorem v_(h1:t ρ st=.ok true st1):re t u ρ st=.ok true st1:=by unfold re;rw[h1];rfl
theorem i5(h1:t ρ st=.ok a st1)(h2:(!a)=k):ue t ρ st=.ok k st1:=by unfold ue;rw[h1,<- h2];rfl
theorem pW(h1:fa ρ st=.ok (.bl true) st1)(h2:fb ρ st1=.ok w c7):xE fa fb ρ st=.ok w c7:=by unfold xE;rw[h1];exact h2
theorem Rp(h1:fa ρ st=.ok (.bl a) st1)(h2:(!a)=k):ID fa ρ st=.ok (.bl k) st1:=by unfold ID;rw[h1,<- h2];rfl
theorem jz{F:W->List W->List aj->R W}(h1:fo ρ st=.ok x st1)(hl:qO st1 x=true)(h2:fs ρ st1=.ok ws c7)(h3:F x ws c7=.ok w jd):n5 F fo fs ρ st=.ok w jd:=by unfold n5;rw[h1];simp only[R.bind_ok];rw[ay hl,h2];exact h3
theorem NA{F:W->List W->List aj->R W}(h1:fo ρ st=.ok x st1)(hl:Er x=true)(h2:fs ρ st1=.ok ws c7)(h3:F x ws c7=.ok w jd):Ps F fo fs ρ st=.ok w jd:=by unfold Ps;rw[h1];simp only[R.bind_ok];rw[ay hl,h2];exact h3
theorem df(h:st[n]?=some (.lst ws)):qO st (.loc n)=true:=by simp only[qO,h]
theorem E3{q:Int}(h:fa ρ st=.ok (.int q) st1):Es fa ρ st=.ok (.int (-q)) st1:=by unfold Es;rw[h];rfl
theorem jT{T c:String}(h:fa ρ st=.ok x st1)(hx:x.ty=some c)(hk:IS c T=k):jg T fa ρ st=.ok (.bl k) st1:=by unfold jg;rw[h];simp only[R.bind_ok,hx,hk]
theorem Rq(h:fa ρ st=.ok x st1)(hk:x.isNon=k):zt fa ρ st=.ok (.bl k) st1:=by unfold zt;rw[h,<- hk];rfl
theorem NB(h:fa ρ st=.ok x st1)(hk:(!x.isNon)=k):Kl fa ρ st=.ok (.bl k) st1:=by unfold Kl;rw[h,<- hk];rfl
theorem NC:sv ρ st=.ok none st:=rfl
theorem zX{q:Int}(h:fa ρ st=.ok (.int q) st1):mO fa ρ st=.ok (some q) st1:=by unfold mO;rw[h];rfl
theorem E4{fl fh:FO}{l h:Option Int}(h1:fa ρ st=.ok x st1)(h2:fl ρ st1=.ok l c7)(h3:fh ρ c7=.ok h jd)(h4:A2 x l h jd=.ok w Sx):HC fa fl fh ρ st=.ok w Sx:=by unfold HC;rw[h1];simp only[R.bind_ok];rw[h2];simp only[R.bind_ok];rw[h3];exact h4
theorem bQ(h:fe ρ st=.ok w st1):bJ i fe ρ st=.nx (ρ.set i (some w)) st1:=by unfold bJ;rw[h];rfl
theorem eW(h:fe ρ st=.ok w st1):eR fe ρ st=.nx ρ st1:=by unfold eR;rw[h];rfl
theorem nE(h:fe ρ st=.ok w st1):cN fe ρ st=.rt w st1:=by unfold cN;rw[h];rfl
theorem lK{f:W->W->W->List aj->Option (List aj)}(h1:fe ρ st=.ok v st1)(h2:fo ρ st1=.ok x c7)(h3:fi ρ c7=.ok y jd)(h4:f x y v jd=some Sx):m5 fo fi fe f ρ st=.nx ρ Sx:=by
 unfold m5;rw[h1];simp only[R.stmt_ok];rw[h2];simp only[R.stmt_ok];rw[h3];simp only[R.stmt_ok];rw[h4]
theorem sX{r:RS}(h1:t ρ st=.ok true st1)(h2:g ρ st1=r):gY t g g' ρ st=r:=by unfold gY;rw[h1];exact h2
theorem sY{r:RS}(h1:t ρ st=.ok false st1)(h2:g' ρ st1=r):gY t g g' ρ st=r:=by unfold gY;rw[h1];exact h2
theorem sZ:b_ ρ st=.nx ρ st:=rfl
theorem Ky{r:RS}(h:g ρ st=.nx ρ' st1)(h2:g' ρ' st1=r):aS g g' ρ st=r:=by rw[zW h];exact h2
theorem E5(h:g ρ st=.rt w st1):aS g g' ρ st=.rt w st1:=by unfold aS;rw[h]
theorem eD{p q:Int}:d8 (.int p) (.int q) st=.ok (.int (p+q)) st:=rfl
theorem E6{p q:List Nat}(h:p.length+q.length<=jF):d8 (.str p) (.str q) st=.ok (.str (p++q)) st:=by simp only[d8];rw[ay h]
theorem E7(h1:st[n]?=some (.lst ws))(h2:st[m]?=some (.lst xs))(h:(ws++xs).length<=jF):d8 (.loc n) (.loc m) st=.ok (.loc st.length) (st++[.lst (ws++xs)]):=by
 unfold d8;simp only[h1,h2,mN];rw[ay h]
theorem gE{C:Int->Int->Prop}[∀i j,Decidable (C i j)]{f:Int->Int->Int}{p q:Int}(h:C p q):CB C f (.int p) (.int q) st=.ok (.int (f p q)) st:=by simp only[CB];rw[ay h]
theorem qF{p q:Int}(h:zv p q):ia (.int p) (.int q) st=.ok (.int (p*q)) st:=by simp only[ia];rw[ay h]
theorem iF{f:Int->Int->Bool}{p q:Int}(h:f p q=k):CC f (.int p) (.int q) st=.ok (.bl k) st:=by rw[<- h];rfl
theorem E8{p q:Int}(h:decide (p<=q)=k):Uf (.int p) (.int q) st=.ok (.bl k) st:=by rw[<- h];rfl
theorem gF{p q:Int}(h:(p==q)=k):ky (.int p) (.int q) st=.ok (.bl k) st:=by rw[<- h];rfl
theorem pX{p q:Int}(h:(!(p==q))=k):uf (.int p) (.int q) st=.ok (.bl k) st:=by rw[<- h];rfl
theorem Rs{p q:List Nat}(h:(p==q)=k):ky (.str p) (.str q) st=.ok (.bl k) st:=by rw[<- h];rfl
theorem hJ{q:Int}(h:oP ws q=some w):bp (.tup ws) (.int q) st=.ok w st:=by unfold bp;simp only[h,cw]
theorem kv(h:ρ[i]?=some (some w):=by rfl):ae i ρ st=.ok w st:=ig h
theorem ox{q:Int}(h:oP ws q=some w:=by rfl):bp (.tup ws) (.int q) st=.ok w st:=hJ h
theorem kn(h:ρ[i]?=some (some w):=by rfl):ag (ae i) az ρ st=.ok [w] st:=aq (ig h) bc
theorem kx{q:Int}(h:ρ[i]?=some (some (.tup ws)):=by rfl)(h2:oP ws q=some w:=by rfl):e2 bp (ae i) (eC (.int q)) ρ st=.ok w st:=bd (ig h) bZ (hJ h2)
theorem E9{q:Int}{c:Nat}(hl:l.length<=jF)(h:oP l q=some c):bp (.str l) (.int q) st=.ok (.str [c]) st:=by unfold bp;simp only[h,cw];rw[ay hl]
theorem jU{q:Int}(hl:lstOf st n=some ws)(h:oP ws q=some w):bp (.loc n) (.int q) st=.ok w st:=by unfold bp;simp only[hl,h,cw]
theorem jV:cS [.tup ws] st=.ok (.int ws.length) st:=rfl
theorem s_(h:l.length<=jF):cS [.str l] st=.ok (.int l.length) st:=by unfold cS;simp only;rw[ay h]
theorem gP(hl:lstOf st n=some ws):cS [.loc n] st=.ok (.int ws.length) st:=by unfold cS;simp only[hl,cw]
theorem aK(h:st[n]?=some (.lst ws)):lstOf st n=some ws:=by unfold lstOf;rw[h]
theorem rL(h:st[n]?=some (.ro ws)):lstOf st n=some ws:=by unfold lstOf;rw[h]
theorem oD(h:st[n]?=some (.lst ws))(hl:ws.length<jF):cy (.loc n) [y] st=.ok .non (st.set n (.lst (ws++[y]))):=by unfold cy;simp only[h];rw[ay hl]
theorem Bi(h:st[n]?=some (.lst (ws++[y]))):vO (.loc n) [] st=.ok y (st.set n (.lst ws)):=by unfold vO;simp only[h];simp
theorem ND{q:Int}(h:st[n]?=some (.lst ws))(hi:AH ws.length q=some j):mP (.loc n) (.int q) v st=some (st.set n (.lst (ws.set j v))):=by unfold mP;simp only[h,hi];rfl
theorem E_{sep:List Nat}(h:lstOf st n=some (ls.map W.str))(hl:(ls.map List.length).sum+ls.length*sep.length<=jF):qP (.str sep) [.loc n] st=.ok (.str (nu sep ls)) st:=by
 unfold qP;simp only[h,cw,uR];rw[ay hl]
theorem Bj{l h:Option Int}(hl:lstOf st n=some ws):A2 (.loc n) l h st=.ok (.loc st.length) (st++[.lst (jM ws l h)]):=by unfold A2;simp only[hl,cw]
theorem Rt{l h:Option Int}{z:List Nat}(hl:z.length<=jF):A2 (.str z) l h st=.ok (.str (jM z l h)) st:=by unfold A2;simp only;rw[ay hl]
theorem Ru{l h:Option Int}:A2 (.tup ws) l h st=.ok (.tup (jM ws l h)) st:=rfl
theorem ii(h:fe ρ st=.ok (.tup ws) st1):cx fe ρ st=.ok (ws,none) st1:=by unfold cx;rw[h];rfl
theorem fq(h:fe ρ st=.ok (.loc n) st1)(hl:lstOf st1 n=some ws):cx fe ρ st=.ok (ws,some (n,ws)) st1:=by unfold cx;rw[h];simp only[R.bind_ok,hl]
theorem c9{q:Int}(h:fs ρ st=.ok [.int q] st1)(hq:-(2^62)<=q/\q<2^62):be fs ρ st=.ok (bM 0 q.toNat,none) st1:=by unfold be;rw[h];simp only[R.bind_ok];rw[ay hq]
theorem Fa{l:List W}{q:Nat}(h:l.reverse[q]?=some x):oP l (-((q:Int)+1))=some x:=by
 have hq:q<l.length:=by have:=(aa.mp h).1;simpa using this
 unfold oP AH
 rw[aC (by omega),ay (by omega)]
 rw[List.getElem?_reverse hq]at h
 simp only[Option.bind_some]
 rw[show((-((q:Int)+1))+(l.length:Int)).toNat=l.length-1-q by omega]
 exact h
theorem dg{l:List α}{x:α}(h:l[q]?=some x):oP l (q:Int)=some x:=by
 have hq:q<l.length:=(aa.mp h).1
 unfold oP AH
 rw[ay (by omega),ay (by omega)]
 simpa using h
def gG(P:RS->Prop)(r:RS):Prop:=P r
def HD(I:cu->List aj->Prop):RS->Prop:=fun r=>∃ρ st,r=.nx ρ st/\I ρ st
def qp(I:W->List aj->Prop):RS->Prop:=fun r=>∃w st,r=.rt w st/\I w st
variable{P:RS->Prop}{rest:FS}
theorem cY{r r':RS}(h:r=r')(h2:P r'):gG P r:=by rw[h];exact h2
theorem aB(h:g ρ st=.nx ρ' st1)(h2:gG P (g' ρ' st1)):gG P (aS g g' ρ st):=by rw[zW h];exact h2
theorem kM(h1:t ρ st=.ok true st1)(h2:gG P (g ρ st1)):gG P (gY t g g' ρ st):=by rw[sX h1 rfl];exact h2
theorem hU(h1:t ρ st=.ok false st1)(h2:gG P (g' ρ st1)):gG P (gY t g g' ρ st):=by rw[sY h1 rfl];exact h2
theorem eF(h1:t ρ st=.ok true st1)(h2:gG P (aS g rest ρ st1)):gG P (aS (gY t g g') rest ρ st):=by
 unfold aS at h2 ⊢;rw[sX h1 rfl];exact h2
theorem bC(h1:t ρ st=.ok false st1)(h2:gG P (aS g' rest ρ st1)):gG P (aS (gY t g g') rest ρ st):=by
 unfold aS at h2 ⊢;rw[sY h1 rfl];exact h2
theorem nT{h:FS}(h2:gG P (aS g (aS g' h) ρ st)):gG P (aS (aS g g') h ρ st):=by
 unfold aS at h2 ⊢
 cases e:g ρ st<;>simp only[e]at h2 ⊢ <;> exact h2
theorem bR(h2:gG P (rest ρ st)):gG P (aS b_ rest ρ st):=h2
theorem cU(h:fe ρ st=.ok w st1)(h2:P (.rt w st1)):gG P (cN fe ρ st):=by rw[nE h];exact h2
theorem fG(h:fe ρ st=.ok w st1)(h2:P (.rt w st1)):gG P (aS (cN fe) rest ρ st):=by rw[E5 (nE h)];exact h2
theorem cz{fi:FI}{f:FG}{body:FS}{k:zz}(I:Nat->cu->List aj->Prop)(h:fi ρ st=.ok k st1)(h0:I 0 ρ st1)(hc:∀i ρ st,I i ρ st->iB st k.2)
  (hs:∀i w ρ st,k.1[i]?=some w->I i ρ st->∃ρ',f w ρ=some ρ'/\gG (HD (I (i+1))) (body ρ' st)) (he:∀ρ st,I k.1.length ρ st->gG P (rest ρ st)):gG P (aS (eS fi f body) rest ρ st):=by
 obtain⟨ρ2,c7,e,h2⟩:=sW (f:=f) (body:=body) (ck:=k.2) I (ws:=k.1) (ρ:=ρ) (st:=st1) 0 h0 hc fun i w ρ st hw hI=>by
  rw[fI]at hI ⊢
  obtain⟨ρ',e1,ρ2,c7,e2,h2⟩:=hs i w ρ st hw hI
  exact⟨ρ',ρ2,c7,e1,e2,h2⟩
 rw[fI]at h2
 exact aB (by rw[Bh h];exact e) (he _ _ h2)
theorem nU{body:FS}(I:Nat->cu->List aj->Prop)(n:Nat)(h0:I n ρ st)
  (hs:∀n ρ st,I n ρ st->t ρ st=.ok false st\/(t ρ st=.ok true st/\gG (HD fun ρ2 c7=>∃m,m<n/\I m ρ2 c7) (body ρ st))) (he:∀m ρ st,I m ρ st->t ρ st=.ok false st->gG P (rest ρ st)):gG P (aS (lf t body) rest ρ st):=by
 obtain⟨m,ρ2,c7,e,h2,h3⟩:=C3 (t:=t) (g:=body) I n h0 fun n ρ st hI=>by
  rcases hs n ρ st hI with e|⟨e,ρ2,c7,e2,m,hm,h2⟩
  ·exact .inl e
  ·exact .inr ⟨e,ρ2,c7,m,e2,hm,h2⟩
 exact aB e (he _ _ _ h2 h3)
theorem iW{body:FS}{Q:W->Prop}(h:gG (qp fun w bx=>(∃x,bx=st++x)/\undWs st.length [w]=true/\Q w) (body (ws.map some++List.replicate (N-ws.length) none) st)):∃w,Q w/\d9 N body ws st=.ok w st:=by
 obtain⟨w,bx,e,⟨x,rfl⟩,hu,q⟩:=h
 exact⟨w,q,yd e hu⟩
theorem iL{N:Nat}{body:FS}(h:gG (qp fun w' bx=>w'=w/\∃x,bx=st++x) (body (ws.map some++List.replicate (N-ws.length) none) st))(hu:undWs st.length [w]=true):d9 N body ws st=.ok w st:=by
 obtain⟨w,bx,e,rfl,x,rfl⟩:=h
 exact yd e hu
theorem ij{body:FS}{Q:Nat->List aj->Prop}(h:gG (qp fun w bx=>∃j x,w=.loc (st.length+j)/\bx=st++x/\Q j x) (body (ws.map some++List.replicate (N-ws.length) none) st)):∃j x,Q j x/\d9 N body ws st=.ok (.loc (st.length+j)) (st++x):=by
 obtain⟨w,bx,e,j,x,rfl,rfl,q⟩:=h
 exact⟨j,x,q,ye e⟩
theorem eZ{lo:Int}(h:(bM lo q)[i]?=some w):i<q/\w=.int (lo+i):=by
 unfold bM at h
 obtain⟨h1,h2⟩:=aa.mp h
 simp only[ai,cP]at h1
 exact⟨h1,by rw[<- h2];simp⟩
theorem rM{l:List α}(h:q<=l.length):jM l none (some (q:Int))=l.take q:=by
 unfold jM;rw[HT.sIx_none,HT.sIx_nat,jp h];simp
theorem rN{l:List α}(h:q<=l.length):jM l (some (q:Int)) none=l.drop q:=by
 unfold jM;rw[HT.sIx_none,HT.sIx_nat,jp h];rw[dM (by simp)]
theorem fw{q:Int}{n:Nat}(h:0<n):∃m:Nat,m<n/\q%(n:Int)=m:=by
 have h0:0<=q%(n:Int):=gW _ (by omega)
 have h1:q%(n:Int)<n:=kq _ (by omega)
 exact⟨(q%(n:Int)).toNat,by omega,by omega⟩
end
section
variable{st:List aj}{t u:FT}{a b k:Bool}{P:RS->Prop}{g g' rest:FS}{w:W}
theorem NE(h1:t ρ st=.ok a st)(h2:u ρ st=.ok b st):M6 t u ρ st=.ok (a&&b) st:=by cases a;exact v9 h1;exact pV h1 h2
theorem Fb(h1:t ρ st=.ok a st)(h2:u ρ st=.ok b st):re t u ρ st=.ok (a||b) st:=by cases a;exact eE h1 h2;exact v_ h1
theorem NF(h1:t ρ st=.ok a st):ue t ρ st=.ok (!a) st:=i5 h1 rfl
theorem lL{N:Nat}{body:FS}(h:gG (qp fun w' bx=>w'=w/\bx=st) (body (ws.map some++List.replicate (N-ws.length) none) st)):d9 N body ws st=.ok w st:=by
 obtain⟨w,bx,e,rfl,rfl⟩:=h
 exact nS e
end
end L2
open L2
local macro_rules | `(tactic| walk_at "ev1") => `(tactic| first
 | (with_reducible apply ig) <;> rfl
 | (with_reducible apply hJ) <;> rfl
 | with_reducible first
  | exact bZ | exact bc | exact Nz | exact NC | exact eD | exact jV | exact sZ | exact Ru
  | apply bd | apply aq | apply iE | apply u7 | apply bb | apply cI | apply bO | apply i5 | apply Rp
  | apply jz | apply NA | apply E3 | apply jT | apply Rq | apply NB | apply zX | apply E4 | apply bQ | apply eW | apply nE | apply lK
  | apply gE | apply qF | apply iF | apply E8 | apply gF | apply pX | apply Rs | apply E6
 | decide
 | (show List.length _ <= jF; exact bI rfl)
 | (show @Eq Nat _ _; exact rfl)
 | (show @Eq Bool _ _; exact rfl)
 | (show @Eq (Option String) _ _; exact rfl)
 | (show @Eq _ _ _; with_reducible assumption))
local macro_rules | `(tactic| walk_at "evs") => `(tactic| repeat' walk_at "ev1")
local macro_rules | `(tactic| walk_at "tst") => `(tactic| first
 | (walk_at "evs"; done)
 | (apply v9; (focus walk_at "tst"); done)
 | (apply pV; (focus walk_at "tst"); (focus walk_at "tst"); done)
 | (apply v_; (focus walk_at "tst"); done)
 | (apply eE; (focus walk_at "tst"); (focus walk_at "tst"); done))
local macro_rules | `(tactic| walk_at "go1") => `(tactic| first
 | apply bR
 | (apply fG; (focus (walk_at "evs"; done)))
 | (apply cU; (focus (walk_at "evs"; done)))
 | (apply eF; (focus walk_at "tst"))
 | (apply bC; (focus walk_at "tst"))
 | (apply kM; (focus walk_at "tst"))
 | (apply hU; (focus walk_at "tst"))
 | (apply aB; (focus (walk_at "evs"; done))))
local macro_rules | `(tactic| walk_at "go") => `(tactic| repeat walk_at "go1")
local macro_rules | `(tactic| walk_at "tb") => `(tactic| repeat' (first | with_reducible apply NE | with_reducible apply Fb | with_reducible apply NF | walk_at "ev1"))
local macro_rules | `(tactic| walk_at "len") => `(tactic| (simp only [aF, a9, dP]; show _ <= 1000000; omega))
namespace L2
open PySem PySem.Spec PyProof.Rows
section
variable{ρ' ρ2:cu}{st c7:List aj}{fs:FA}{g gh rest:FS}{w:W}{c:Str}{cs:List Str}{P:RS->Prop}{b:Bool}
theorem Rv{p q:Bool}(h:(p==q)=b):ky (.bl p) (.bl q) st=.ok (.bl b) st:=by rw[<- h];rfl
theorem Fc{zs:List W}{k:Nat}{y:W}(h:st[n]?=some (.lst zs))(hk:k<=zs.length)(hl:zs.length<jF)(DA:k<1000000):nP (.loc n) [.int k,y] st=.ok .non (st.set n (.lst (zs.take k++y::zs.drop k))):=by
 unfold nP;simp only[h,aO];rw[ay ⟨by omega,hk,hl,by omega⟩]
theorem kN(I:cu->List aj->Prop)(h:gG (HD I) (g ρ st))(h2:∀ρ st,I ρ st->gG P (rest ρ st)):gG P (aS g rest ρ st):=by
 obtain⟨ρ',bx,e,hi⟩:=h
 exact aB e (h2 _ _ hi)
end
section
variable{st:List aj}{f:FG}{t:FT}
theorem yf{ρ0:cu}(hc:iB st ck)(T:W->Bool)(Y:W->W):∀(ws acc:List W),(∀w∈ws,∃ρ',f w ρ0=some ρ'/\t ρ' st=.ok (T w) st/\(T w=true->el ρ' st=.ok (Y w) st)) ->
  mR f t el ck ρ0 ws acc st=.ok (acc++(ws.filter T).map Y) st
 |[],acc,_=>by unfold mR;rw[ay hc];simp
 |w::ws,acc,h=>by
  obtain⟨ρ',e1,e2,e3⟩:=h w (by simp)
  have ih:=fun acc=>yf hc T Y ws acc fun w' hw'=>h w' (by simp[hw'])
  unfold mR
  rw[ay hc,e1]
  simp only[e2]
  cases hT:T w with
  |true=>
   simp only[e3 hT]
   rw[ih]
   simp[cZ,hT]
  |false=>
   simp only
   rw[ih]
   simp[cZ,hT]
theorem zY(T:W->Bool)(Y:W->W)(h:fi ρ st=.ok (ws,ck) st1)(hl:ws.length<=jF)(hc:iB st1 ck)
  (hs:∀w∈ws,∃ρ',f w (pM cap ρ)=some ρ'/\t ρ' st1=.ok (T w) st1/\(T w=true->el ρ' st1=.ok (Y w) st1)):c_ cap fi f t el ρ st=.ok (.loc st1.length) (st1++[.lst ((ws.filter T).map Y)]):=by
 unfold c_
 rw[h]
 simp only[R.bind_ok]
 rw[ay hl,yf hc T Y ws [] hs]
 simp only[R.bind_ok,mU,mN]
 rw[ay]
 rw[ai]
 exact bu (gp _ _) hl
theorem gu(Y:W->W)(h:fi ρ st=.ok (ws,ck) st1)(hl:ws.length<=jF)(hc:iB st1 ck)
  (hs:∀w∈ws,∃ρ',f w (pM cap ρ)=some ρ'/\el ρ' st1=.ok (Y w) st1):c_ cap fi f gR el ρ st=.ok (.loc st1.length) (st1++[.lst (ws.map Y)]):=by
 have:=zY (fi:=fi) (f:=f) (t:=gR) (el:=el) (cap:=cap) (fun _=>true) Y h hl hc fun w hw=>by
  obtain⟨ρ',e1,e2⟩:=hs w hw
  exact⟨ρ',e1,rfl,fun _=>e2⟩
 rw[List.filter_eq_self.mpr (fun _ _=>rfl)]at this
 exact this
theorem nV{lo:Int}{w:W}(h:w∈bM lo q):∃i:Nat,i<q/\w=.int (lo+i):=by
 unfold bM at h
 obtain⟨i,hi,rfl⟩:=al.mp h
 exact⟨i,bj.mp hi,rfl⟩
theorem fB(h:lstOf st n=some ws):cX [.loc n] st=.ok (.tup ws) st:=by unfold cX;simp only[h,cw]
theorem NG{l:List α}(hj:j<=l.length)(hi:i<=j):jM l (some (i:Int)) (some (j:Int))=(l.drop i).take (j-i):=by
 unfold jM;rw[HT.sIx_nat,HT.sIx_nat,jp hj,jp (by omega)]
end
def qV:Nat->List iZ->List iZ
 |_,[]=>[]
 |n,(_,c,o,w)::l=>(n,c,o,w)::qV (n+1) l
def Bm(l:List iZ):List aj:=l.map fun _=>.gone
theorem Bn(a b:List α)(x y:α):(a++x::b).set a.length y=a++y::b:=by
 rw[gs _ _ (aw _),qo];rfl
theorem Bo(a b:List α)(x:α):(a++x::b)[a.length]?=some x:=by rw[bX (aw _),qo];rfl
theorem pd:∀(l:List iZ) (a b:List aj),pU (List.range' a.length l.length) (a++(hG l++b))=some (qV a.length l,a++(Bm l++b))
 |[],a,b=>rfl
 |(j,c,o,w)::l,a,b=>by
  show pU (List.range' a.length (l.length+1)) (a++(.pin true c o w::(hG l++b)))=_
  rw[List.range'_succ]
  unfold pU
  rw[Bo,Bn]
  have ih:=pd l (a++[.gone]) b
  rw[aF,av,av]at ih
  have ih:pU (List.range' (a.length+1) l.length) (a++(.gone::(hG l++b)))=some (qV (a.length+1) l,a++(.gone::(Bm l++b))):=ih
  simp only[ih]
  rfl
theorem u8:∀(l:List iZ) (a b:List aj),zR (qV a.length l) (a++(Bm l++b))=some (a++(hG l++b))
 |[],a,b=>rfl
 |(j,c,o,w)::l,a,b=>by
  show zR ((a.length,c,o,w)::qV (a.length+1) l) (a++(.gone::(Bm l++b)))=_
  unfold zR
  rw[Bo,Bn]
  have ih:=u8 l (a++[.pin true c o w]) b
  rw[aF,av,av]at ih
  exact ih
theorem nX(f:Addr×Obj×W->α):∀(n:Nat) (l:List iZ),((qV n l).map fun x=>f x.2)=l.map fun x=>f x.2
 |_,[]=>rfl
 |n,(j,c,o,w)::l=>by show f (c,o,w)::_=f (c,o,w)::_;rw[nX f (n+1) l]
def fz(st:List aj):Prop:=∀d∈st,∀c,mS c d=false
theorem u9:∀(l:List iZ) (a b:List aj),(∀d∈a,∀x∈l,mS x.2.1 d=false)->(l.map fun x=>x.2.1).Nodup->(l.map fun x=>(((a++(hG l++b))).findIdx? (mS x.2.1)).getD 0)=List.range' a.length l.length
 |[],a,b,_,_=>rfl
 |(j,c,o,w)::l,a,b,hn,nd=>by
  rw[aG,bF]at nd
  show((a++(.pin true c o w::(hG l++b))).findIdx? (mS c)).getD 0::(l.map fun x=>((a++(.pin true c o w::(hG l++b))).findIdx? (mS x.2.1)).getD 0)=List.range' a.length (l.length+1)
  rw[List.range'_succ]
  have h1:(a++(.pin true c o w::(hG l++b))).findIdx? (mS c)=some a.length:=by
   rw[List.findIdx?_append,kH.mpr fun x hx=>by simp[hn x hx (j,c,o,w) aQ]]
   rw[List.findIdx?_cons,show mS c (.pin true c o w)=true from cH _];simp
  rw[h1]
  have ih:=u9 l (a++[.pin true c o w]) b (fun d hd x hx=>by
   rcases aN.mp hd with hd|hd
   ·exact hn d hd x (aA _ hx)
   ·rw[br.mp hd]
    show(c==x.2.1)=false
    rw[aX];intro z;exact nd.1 (al.mpr ⟨x,hx,z.symm⟩)) nd.2
  rw[aF,av]at ih
  have ih:(l.map fun x=>((a++(.pin true c o w::(hG l++b))).findIdx? (mS x.2.1)).getD 0)=List.range' (a.length+1) l.length:=ih
  rw[ih];rfl
theorem u_{st x:List aj}(h:undWs st.length ws=true):h_ st (st++x) ws=st:=by
 unfold h_
 rw[ay ⟨h,by simp,fun i hi=>.inl (by rw[au hi])⟩]
 simp
theorem Fd{os:List Obj}(h1:os.length=C.length)(h2:cws.length=C.length):(lJ C os cws).length=C.length:=by
 induction C generalizing os cws with
 |nil=>cases os with
  |nil=>cases cws with
   |nil=>rfl
   |cons w ws=>simp at h2
  |cons o os=>simp at h1
 |cons y C ih=>cases os with
  |nil=>simp at h1
  |cons o os=>cases cws with
   |nil=>simp at h2
   |cons w ws=>
    have e:=ih (os:=os) (cws:=ws) (by simpa using h1) (by simpa using h2)
    show(lJ C os ws).length+1=C.length+1
    rw[e]
theorem NH{C:List (Str×Addr)}{os:List Obj}{cws:List W}(h1:os.length=C.length)(h2:cws.length=C.length):((lJ C os cws).map fun x=>x.2.1)=C.map (·.2):=by
 induction C generalizing os cws with
 |nil=>cases os with
  |nil=>cases cws with
   |nil=>rfl
   |cons w ws=>simp at h2
  |cons o os=>simp at h1
 |cons y C ih=>cases os with
  |nil=>simp at h1
  |cons o os=>cases cws with
   |nil=>simp at h2
   |cons w ws=>
    have e:=ih (os:=os) (cws:=ws) (by simpa using h1) (by simpa using h2)
    show y.2::((lJ C os ws).map fun x=>x.2.1)=y.2::C.map (·.2)
    rw[e]
theorem NI{C:List (Str×Addr)}{os:List Obj}{cws:List W}(h1:os.length=C.length)(h2:cws.length=C.length):((lJ C os cws).map fun x=>x.2.2.2)=cws:=by
 induction C generalizing os cws with
 |nil=>cases os with
  |nil=>cases cws with
   |nil=>rfl
   |cons w ws=>simp at h2
  |cons o os=>simp at h1
 |cons y C ih=>cases os with
  |nil=>simp at h1
  |cons o os=>cases cws with
   |nil=>simp at h2
   |cons w ws=>
    have e:=ih (os:=os) (cws:=ws) (by simpa using h1) (by simpa using h2)
    show w::((lJ C os ws).map fun x=>x.2.2.2)=w::ws
    rw[e]
theorem Jq{st:List aj}{w:W}(hl:cws.length=(lI o).length)(hu:undWs st.length [w]=true)
  (hF:∀os:List Obj,os.length=(lI o).length->F ws (st++(hG (lJ (lI o) os cws)++[]))=.ok w (st++(hG (lJ (lI o) os cws)++[]))):C0 F o cws ws st=.ok w st:=by
 unfold C0
 refine EW (List.replicate (lI o).length { cls:=.none,data:=.cell none }) (by simp) fun os ho=>?_
 have e:=hF os ho
 unfold Bg
 rw[bU]at e
 rw[e]
 simp only
 have h:=pd (lJ (lI o) os cws) st []
 rw[Fd ho hl,bU,bU]at h
 rw[h]
 simp only
 rw[ay (nX (fun y=>(y.1,y.2.1)) _ _),u_ hu]
theorem NJ(name q:Str)(pr:Arguments)(body:List Stmt)(sc:Scope)(xs:List Str):∃o,Nw name q pr body sc xs o:=by
 refine⟨_,xs.zip (List.range xs.length),.none,.none,0,.none,?_,?_,rfl⟩
 ·exact List.map_fst_zip (by simp)
 ·rw[List.map_snd_zip (by simp)];exact List.nodup_range
theorem Fe{q:Str}{st:Stmt}{xs:List Str}{P:Addr}{g:Addr->Obj->FS}{s:List aj}{w:W}(ht:qS s j P pos q)(hu:undWs s.length [w]=true)
  (h:∀f o,To name q st xs o->∃x,g f o (ρ.set i (some (.loc s.length))) (s++[.pin false f o .non])=.rt w (s++x)):u0 (To name q st xs) j P pos q i g ρ s=.rt w s:=by
 obtain⟨o0,h0⟩:=NJ name q (dS st) (dU st) (aR st) xs
 unfold u0
 rw[ay ht]
 refine Ji (0,o0) h0 fun p hp=>?_
 obtain⟨x,e⟩:=h p.1 p.2 hp
 rw[e]
 show RS.rt w (h_ s (s++x) [w])=_
 rw[u_ hu]
theorem Jr{m:Nat}{ok:Obj->Prop}{fs:FA}{st:List aj}{w0 v:W}(hi:ρ[i]?=some (some (.loc m)))(hm:st[m]?=some (.pin false f o w0))(ha:fs ρ st=.ok ws st1)(hl:ws.length=n)(h:sV ok F m ws st1=.ok v st1) :
  pb i n ok F fs ρ st=.ok v st1:=by
 unfold pb
 rw[hi];simp only
 rw[hm];simp only
 rw[ha];simp only[R.bind_ok]
 rw[ay hl,h]
theorem NK{is:List Nat}{fs:FA}{st:List aj}{w:W}(ha:fs ρ st=.ok ws st1)(hl:ws.length=n)(hc:u5 is ρ=some cws)(h:C0 F o cws ws st1=.ok w st1):u6 n F o is fs ρ st=.ok w st1:=by
 unfold u6
 rw[ha];simp only[R.bind_ok]
 rw[ay hl,hc];simp only
 rw[h]
end L2
namespace P
open PySem L2
open PyProof.Rows (boot_sorted boot_set boot_ord boot_all boot_enumerate boot_int boot_str boot_bool boot_list boot_tuple boot_isinstance boot_max boot_min)
def top(i:Nat):Stmt:=PySem.Challenge.pw_trunksay_k24_least_machine_paper.main.body.getD i (.Pass ⟨0,0,0,0⟩)
abbrev NL:Stmt:=top 1
abbrev zZ:List Str:=["letters","rooms","lead","table","letter","leads","left"]
abbrev Rw:List Str:=["letters","rooms","lead"]
theorem yg:bK zZ Rw (aR NL):=m6
abbrev NM:Stmt:=top 3
abbrev wa:List Str:=["newest"]
abbrev Rx:List Str:=["newest"]
theorem Kz:bK wa Rx (aR NM):=m6
abbrev NN:Stmt:=top 4
abbrev z4:List Str:=["rooms","keys","numbers","blocks","room"]
abbrev Ry:List Str:=["rooms","keys"]
theorem KA:bK z4 Ry (aR NN):=m6
abbrev NO:Stmt:=top 5
abbrev uh:List Str:=["machine","rooms","keys","room"]
abbrev Rz:List Str:=["machine","rooms"]
theorem KB:bK uh Rz (aR NO):=m6
abbrev NP:Stmt:=top 6
abbrev z5:List Str:=["machine","rooms","blocks","views","room","view","leads"]
abbrev RA:List Str:=["machine","rooms","blocks"]
theorem KC:bK z5 RA (aR NP):=m6
abbrev NQ:Stmt:=top 7
abbrev tf:List Str:=["rooms","blocks","views","keys","room"]
abbrev RB:List Str:=["rooms","blocks","views"]
theorem KD:bK tf RB (aR NQ):=m6
abbrev NR:Stmt:=top 9
abbrev z6:List Str:=["machine","rows","told","best","left","right","size","letter","leads","room","way"]
abbrev RC:List Str:=["machine","rows","told","best"]
theorem KF:bK z6 RC (aR NR):=m6
abbrev C4:Stmt:=top 10
abbrev yh:List Str:=["machine","rows","told","best","room","way"]
abbrev RD:List Str:=["machine"]
theorem vc:bK yh RD (aR C4):=m6
abbrev NS:Stmt:=top 12
abbrev ui:List Str:=["machine","rooms","blocks","finer"]
abbrev RE:List Str:=["machine","rooms"]
theorem yi:bK ui RE (aR NS):=m6
abbrev NT:Stmt:=top 13
abbrev z7:List Str:=["rooms","blocks","heads","room"]
abbrev RF:List Str:=["rooms","blocks"]
theorem KG:bK z7 RF (aR NT):=m6
abbrev tj:Stmt:=top 14
abbrev z8:List Str:=["machine","rooms","blocks","heads","good","lead","paper"]
abbrev KH:List Str:=["machine"]
theorem pe:bK z8 KH (aR tj):=m6
abbrev Ff:Stmt:=top 16
abbrev z9:List Str:=["_law_machine_here","_law_met_here","_law_at","_law_other","_law_rows","_law_led"]
abbrev KI:List Str:=["_law_machine_here"]
theorem Fg:bK z9 KI (aR Ff):=m6
abbrev Fh:Stmt:=top 17
abbrev yj:List Str:=["_law_found","_law_due","_law_k"]
abbrev Fi:List Str:=["_law_found","_law_due"]
theorem Fj:bK yj Fi (aR Fh):=m6
abbrev Fk:Stmt:=top 18
abbrev wb:List Str:=["_law_cell_here","_law_k","_law_salt","_law_first"]
abbrev KJ:List Str:=["_law_cell_here","_law_k","_law_salt"]
theorem Fl:bK wb KJ (aR Fk):=m6
abbrev Fm:Stmt:=top 19
abbrev wc:List Str:=["_law_cell_here","_law_many","_law_salt","_law_found","_law_rest","_law_k"]
abbrev KL:List Str:=["_law_cell_here","_law_many","_law_salt"]
theorem Fp:bK wc KL (aR Fm):=m6
abbrev Fq:Stmt:=top 20
abbrev yk:List Str:=["_law_cell_here","_law_many","_law_salt","_law_rest","_law_found","_law_d","_law_at"]
abbrev KM:List Str:=["_law_cell_here","_law_many","_law_salt"]
theorem Fs:bK yk KM (aR Fq):=m6
abbrev Ft:Stmt:=top 21
abbrev ym:List Str:=["_law_script","_law_k"]
abbrev KN:List Str:=["_law_script","_law_k"]
theorem Fu:bK ym KN (aR Ft):=m6
abbrev Fv:Stmt:=top 22
abbrev wd:List Str:=["_law_d","_law_shapes"]
abbrev KO:List Str:=["_law_d"]
theorem Fw:bK wd KO (aR Fv):=m6
abbrev Fx:Stmt:=top 23
abbrev we:List Str:=["_law_pool_here","_law_many"]
abbrev KP:List Str:=["_law_pool_here","_law_many"]
theorem Fy:bK we KP (aR Fx):=m6
abbrev Fz:Stmt:=top 24
abbrev uj:List Str:=["_law_script","_law_at","_law_many","_law_salt","_law_found","_law_k"]
abbrev KQ:List Str:=["_law_script","_law_at","_law_many","_law_salt"]
theorem FB:bK uj KQ (aR Fz):=m6
abbrev FC:Stmt:=top 25
abbrev wf:List Str:=["_law_way","_law_l","_law_r"]
abbrev KR:List Str:=["_law_way","_law_l","_law_r"]
theorem FD:bK wf KR (aR FC):=m6
abbrev FF:Stmt:=top 26
abbrev uk:List Str:=["_law_names_here","_law_many","_law_draws_here","_law_table","_law_letter_here","_law_more","_law_rows","_law_l","_law_only"]
abbrev KS:List Str:=["_law_names_here","_law_many","_law_draws_here"]
theorem FH:bK uk KS (aR FF):=m6
abbrev FJ:Stmt:=top 27
abbrev tm:List Str:=["_law_machine_here","_law_spot","_law_many","_law_table","_law_at","_law_rows","_law_row"]
abbrev KU:List Str:=["_law_machine_here","_law_spot"]
theorem FK:bK tm KU (aR FJ):=m6
abbrev FL:Stmt:=top 28
abbrev wg:List Str:=["_law_machine_here","_law_owner_here","_law_draws_here","_law_many","_law_at","_law_table","_law_rows","_law_made","_law_x","_law_row","_law_y","_law_due","_law_some"]
abbrev KW:List Str:=["_law_machine_here","_law_owner_here","_law_draws_here"]
theorem FM:bK wg KW (aR FL):=m6
abbrev FN:Stmt:=top 29
abbrev wj:List Str:=["_law_many","_law_extra","_law_draws_here","_law_row","_law_k","_law_room"]
abbrev KY:List Str:=["_law_many","_law_extra","_law_draws_here"]
theorem FQ:bK wj KY (aR FN):=m6
abbrev FR:Stmt:=top 30
abbrev tq:List Str:=["_law_names_here","_law_many","_law_top","_law_draws_here","_law_good","_law_table","_law_at","_law_letter_here","_law_rows","_law_l"]
abbrev KZ:List Str:=["_law_names_here","_law_many","_law_top","_law_draws_here"]
theorem FU:bK tq KZ (aR FR):=m6
abbrev FV:Stmt:=top 31
abbrev z_:List Str:=["_law_script","_law_at","_law_pool_here","_law_head","_law_count","_law_many","_law_names_here","_law_draws_here","_law_machine_here","_law_top"]
abbrev K0:List Str:=["_law_script","_law_at","_law_pool_here"]
theorem FW:bK z_ K0 (aR FV):=m6
abbrev FX:Stmt:=top 32
abbrev yn:List Str:=["_law_machine_here","_law_names_here","_law_good","_law_truth","_law_rows","_law_row","_law_room"]
abbrev K3:List Str:=["_law_machine_here","_law_names_here"]
theorem FY:bK yn K3 (aR FX):=m6
abbrev FZ:Stmt:=top 33
abbrev wm:List Str:=["_law_pool_here","_law_number"]
abbrev K4:List Str:=["_law_pool_here","_law_number"]
theorem F0:bK wm K4 (aR FZ):=m6
abbrev F1:Stmt:=top 34
abbrev yo:List Str:=["_law_draws_here","_law_marks_here","_law_letters","_law_found","_law_high","_law_d","_law_branches"]
abbrev K5:List Str:=["_law_draws_here","_law_marks_here","_law_letters"]
theorem F2:bK yo K5 (aR F1):=m6
abbrev F3:Stmt:=top 35
abbrev wn:List Str:=["_law_script","_law_at","_law_letters","_law_head","_law_many","_law_draws_here"]
abbrev K6:List Str:=["_law_script","_law_at","_law_letters"]
theorem F4:bK wn K6 (aR F3):=m6
abbrev F5:Stmt:=top 36
abbrev ul:List Str:=["_law_names_here","_law_marks_here","_law_found","_law_name"]
abbrev K7:List Str:=["_law_names_here","_law_marks_here"]
theorem F6:bK ul K7 (aR F5):=m6
abbrev F7:Stmt:=top 37
abbrev Aa:List Str:=["_law_machine_here","_law_tree","_law_heap","_law_found","_law_branches","_law_marks_here","_law_left","_law_right"]
abbrev K8:List Str:=["_law_machine_here","_law_tree"]
theorem F8:bK Aa K8 (aR F7):=m6
abbrev F9:Stmt:=top 38
abbrev yp:List Str:=["_law_machine_here","_law_tree"]
abbrev K9:List Str:=["_law_machine_here","_law_tree"]
theorem F_:bK yp K9 (aR F9):=m6
abbrev F':Stmt:=top 39
abbrev um:List Str:=["_law_draws_here","_law_many","_law_place","_law_rows","_law_k","_law_only"]
abbrev K_:List Str:=["_law_draws_here"]
theorem pf:bK um K_ (aR F'):=m6
abbrev Ga:Stmt:=top 40
abbrev yq:List Str:=["_law_machine_here","_law_made","_law_rows","_law_met_here","_law_tie","_law_k","_law_room","_law_letter_here","_law_l","_law_r","_law_due"]
abbrev K':List Str:=["_law_machine_here","_law_made","_law_rows"]
theorem mh:bK yq K' (aR Ga):=m6
abbrev pY:Stmt:=top 41
abbrev RG:List Str:=["_law_script","_law_pool_here","_law_machine_here","_law_told","_law_at","_law_tree"]
abbrev Gb:List Str:=["_law_script"]
theorem Gc:bK RG Gb (aR pY):=m6
structure Bl(mg:Str->Option Value):Prop where
 bool:mg "bool"=Option.none
 enumerate:mg "enumerate"=Option.none
 int:mg "int"=Option.none
 isinstance:mg "isinstance"=Option.none
 len:mg "len"=Option.none
 list:mg "list"=Option.none
 max:mg "max"=Option.none
 min:mg "min"=Option.none
 range:mg "range"=Option.none
 set:mg "set"=Option.none
 sorted:mg "sorted"=Option.none
 str:mg "str"=Option.none
 tuple:mg "tuple"=Option.none
def tabL:List (Addr×Pos×Str):=[(59,⟨54,29,54,52⟩,"firsts_of.<locals>.<lambda>"),(80,⟨80,4,81,68⟩,"least_of.<locals>.lead")]
section
variable{w:World}
local macro_rules | `(tactic| walk_at "w1") => `(tactic| first | exact aJ _ | refine aL ?_ ?_ | exact cf | exact bA | refine bV ?_ ?_ | refine dE ?_ ?_ | refine dX ?_ | refine sS _ ‹_› ?_ | refine pH (by first | exact xH | exact xG | exact Nl | exact uM | exact M9 | exact QU | exact QV | exact QW | exact M_) ?_ ?_ | refine kL ‹_› ‹_› (by omega) ?_ | refine h9 ?_ | refine oq ?_ | exact sG _ ‹_› | refine fm iA ‹Bl _›.len gf ?_ | refine fm Nv ‹Bl _›.len gf ?_ | refine fm Q1 ‹Bl _›.max boot_max ?_ | refine fm Q2 ‹Bl _›.min boot_min ?_ | refine fm IV ‹Bl _›.sorted kX ?_ | refine fm v7 ‹Bl _›.sorted kX ?_ | refine iJ (by first | exact zw ‹_› | exact vL ‹_› | exact QX ‹_› | exact AY ‹_› | exact Kt ‹_› | exact w_lt | exact IJ | exact Na | exact xW ‹_› (AY ‹_›)) ?_ ?_ | refine AT (by first | exact zw ‹_› | exact vL ‹_› | exact QX ‹_› | exact AY ‹_› | exact Kt ‹_› | exact w_lt | exact IJ | exact Na | exact xW ‹_› (AY ‹_›)) ?_ ?_ | refine oA ?_ ?_ ?_ | exact k6 | refine l9 ?_ ?_ ?_ | refine Em ?_ ?_ | exact IL | refine Nc rfl ?_ | refine nM ?_ | refine nA ‹_› ?_ ?_ | refine Rj ‹_› ?_ ?_ | refine AU ?_ | exact vJ | exact Ki | refine f_ Q3 ‹Bl _›.int boot_int ?_ | refine f_ iT ‹Bl _›.tuple d7 ?_ | refine f_ Nb ‹Bl _›.list boot_list ?_ | refine CI PySem.F.slot_list_append PySem.F.type_list_append nN ?_ ?_ | refine Q8 PySem.F.slot_list_pop PySem.F.type_list_pop Nh ?_ | refine CI PySem.F.slot_list_extend PySem.F.type_list_extend zF ?_ ?_ | refine Ub PySem.F.slot_str_join PySem.F.type_str_join IN ?_ ?_ | refine CI PySem.F.slot_list_insert PySem.F.type_list_insert CM ?_ ?_ | refine gi ‹Bl _›.range ?_ | refine CG ‹Bl _›.range ?_ | refine IX ‹Bl _›.range ?_ | refine IQ ‹Bl _›.enumerate ?_ | refine A_ rfl ?_ (fun _ _ _ _ _ => ?_) (fun _ _ _ _ _ => ?_) (fun _ _ _ _ _ => ?_) | refine qT (sG _ ‹_›) rfl ?_ (fun _ _ _ _ _ => ?_) (fun _ _ _ _ _ => ?_) (fun _ _ _ _ _ => ?_) | refine A_ (m := 0) rfl ?_ (fun _ _ _ _ _ => ?_) (fun _ _ _ _ _ => ?_) (fun _ _ _ _ _ => ?_) | refine qT (sG _ ‹_›) (m := 0) rfl ?_ (fun _ _ _ _ _ => ?_) (fun _ _ _ _ _ => ?_) (fun _ _ _ _ _ => ?_) | exact U8 _ | exact iV | refine IP ?_ | refine ma ?_ | refine M7 ?_ | refine QO ?_ | refine sj ?_ | refine zr (Ed ?_ ?_) | refine zr (qM ?_ ?_) | refine Ed ?_ ?_ | refine qM ?_ ?_ | refine IC ?_ | refine qy ?_ | refine qx ?_ | refine QM ?_ | refine Q_ ?_ | refine Kk ?_ ?_ | refine Kj ?_ | refine A1 ?_ | exact A0 | refine Q0 ?_ ?_ ?_ | refine qA (zH ‹_›) ?_ ?_ ?_ | refine qA zy ?_ ?_ ?_ | refine sA ?_ ?_ | refine Nd ?_ ?_ | exact zJ | refine Jg ‹_› ?_ ?_ ?_ | refine qQ ‹Bl _›.isinstance ‹Bl _›.bool boot_bool ?_ | refine qQ ‹Bl _›.isinstance ‹Bl _›.int boot_int ?_ | refine qQ ‹Bl _›.isinstance ‹Bl _›.str boot_str ?_ | refine qQ ‹Bl _›.isinstance ‹Bl _›.tuple d7 ?_)
local macro_rules | `(tactic| walk_at "w") => `(tactic| repeat' walk_at "w1")
abbrev dY:Stmt:=(dU tj).getD 4 (.Pass ⟨0,0,0,0⟩)
abbrev cJ:Obj->Prop:=To "lead" "least_of.<locals>.lead" dY ["machine","heads","blocks"]
theorem pZ:zS ["letter","left","right","machine","heads","blocks"] ["letter","left","right"] ["machine","heads","blocks"] (aR dY):=⟨rfl,rfl,rfl,by decide +kernel,rfl,rfl,by decide +kernel,by decide +kernel,by decide +kernel,by decide +kernel⟩
def jW:FS:=(cN (e2 gS (ae 5) (e2 bp (e2 bp (e2 bp (e2 bp (ae 3) (eI 2)) (ae 0)) (e2 bp (ae 4) (ae 1))) (e2 bp (ae 4) (ae 2)))))
def dh:List W->List aj->R W:=d9 6 jW
theorem n6  :o_ P w K mg base 1 3 3 cJ dh:=
 Jl (k:=0) pZ rfl rfl (fun _ _ _ _ _ us hl=>match us,hl with|[_,_,_],_=>rfl) fun f cd cl A outer s H E hr=>(dX (h9 (nA hr (aJ 5) (dE (dE (dE (dE (aJ 3) cf) (aJ 0)) (dE (aJ 4) (aJ 1))) (dE (aJ 4) (aJ 2))))))
def RH:FS:=(aS (bJ 3 (kB az)) (aS (eS (be (ag (ae 0) az)) (eB 4) (aS (bJ 5 (kB az)) (aS (eS (be (ag (ae 1) az)) (eB 6) (eR (n5 cy (ae 5) (ag (a_ cX (ag (c_ [none,some 2,some 4,some 6] (be (ag (ae 1) az)) (eB 0) gR (pb 1 3 cJ dh (ag (ae 2) (ag (ae 3) (ag (ae 0) az))))) az)) az)))) (eR (n5 cy (ae 3) (ag (a_ cX (ag (ae 5) az)) az)))))) (cN (a_ cX (ag (ae 3) az)))))
def Gd:List W->List aj->R W:=d9 7 RH
theorem RI(F:jK K "table_by" "table_by" NL f fd)(B:Bl mg)(iN:o_ P w K mg base 1 3 3 cJ dh) :eQ P w K mg base (iU P w) 2 f fd Rw (jN K mg 3 Gd):=
 cV (k:=1) F yg rfl fun ga A outer s H E hr=>(bV (sS 3 yg (AU bA)) (bV (l9 (gi B.range (aL (aJ 0) bA)) (sG 4 yg) (bV (sS 5 yg (AU bA)) (bV (l9 (gi B.range (aL (aJ 1) bA)) (sG 6 yg) (dX (nM (CI PySem.F.slot_list_append PySem.F.type_list_append nN (aJ 5) (aL (f_ iT B.tuple d7 (aL (oV (nm:=["right","lead","letter","left"]) (cap:=[none,some 2,some 4,some 6]) (by first|rfl|kernel_rfl) rfl (gi B.range (aL (aJ 1) bA)) (fun _ _ _ _ _=>(sC 0)) (fun _ _ _ _ _=>iV) (fun _ _ _ _ _=>(Jm 1 iN (Jn rfl) hr (by omega) (aL (aJ 2) (aL (aJ 3) (aL (aJ 0) bA)))))) bA)) bA))))) (dX (nM (CI PySem.F.slot_list_append PySem.F.type_list_append nN (aJ 3) (aL (f_ iT B.tuple d7 (aL (aJ 5) bA)) bA))))))) (dX (h9 (f_ iT B.tuple d7 (aL (aJ 3) bA))))))
def RJ:FS:=(cN (e2 d8 (c_ [none,some 0] (be (ag (e2 d8 (ae 0) (eI 1)) az)) (eB 0) gR (f7 (ag (ae 1) (ag (ae 0) az)))) (c_ [none,some 0] (be (ag (ae 0) az)) (eB 0) gR (f7 (ag (ae 0) (ag (ae 1) az))))))
def Ge:List W->List aj->R W:=d9 1 RJ
theorem RL(F:jK K "pairs_with" "pairs_with" NM f fd)(B:Bl mg) :eQ P w K mg base (iU P w) 1 f fd Rx (jN K mg 1 Ge):=
 cV (k:=0) F Kz rfl fun ga A outer s H E hr=>by have sc:=Kz;walk_at "w"
def RM:FS:=(aS (bJ 2 pP) (aS (bJ 3 pP) (aS (eS (cx (ae 0)) (eB 4) (aS (eR (v6 (ae 2) (e2 gS (ae 1) (ae 4)) (a_ uZ (ag (ae 2) az)))) (m5 (ae 3) (ae 4) (e2 EU (ae 2) (e2 gS (ae 1) (ae 4))) jR))) (cN (ae 3)))))
def C5:List W->List aj->R W:=d9 5 RM
theorem RN(F:jK K "numbered" "numbered" NN f fd)(B:Bl mg) :eQ P w K mg base (iU P w) 1 f fd Ry (jN K mg 2 C5):=
 cV (k:=0) F KA rfl fun ga A outer s H E hr=>by have sc:=KA;walk_at "w"
def RO:FS:=(aS (bJ 2 pP) (aS (eS (cx (ae 1)) (eB 3) (m5 (ae 2) (ae 3) (e2 bp (e2 bp (ae 0) (eI 1)) (ae 3)) jR)) (cN (c8 2 C5 (ag (ae 1) (ag (ae 2) az))))))
def Js:List W->List aj->R W:=d9 4 RO
theorem RP(F:jK K "good_blocks" "good_blocks" NO f fd) (J_:dF P w K mg base 1 "numbered" 2 C5):eQ P w K mg base (iU P w) 2 f fd Rz (jN K mg 2 Js):=
 cV (k:=1) F KB rfl fun ga A outer s H E hr=>by have sc:=KB;walk_at "w"
def RQ:FS:=(aS (bJ 3 pP) (aS (eS (cx (ae 1)) (eB 4) (aS (bJ 5 (kB az)) (aS (eS (cx (e2 bp (ae 0) (eI 2))) (eB 6) (aS (eR (n5 jO (ae 5) (ag (c_ [none,some 2,some 6,some 4] (cx (ae 1)) (eB 0) gR (e2 gS (ae 1) (e2 bp (e2 bp (ae 2) (ae 3)) (ae 0)))) az))) (eR (n5 jO (ae 5) (ag (c_ [none,some 2,some 4,some 6] (cx (ae 1)) (eB 0) gR (e2 gS (ae 1) (e2 bp (e2 bp (ae 3) (ae 0)) (ae 2)))) az))))) (m5 (ae 3) (ae 4) (a_ cX (ag (ae 5) az)) jR)))) (cN (ae 3))))
def C6:List W->List aj->R W:=d9 7 RQ
theorem RR(F:jK K "views_of" "views_of" NP f fd)(B:Bl mg) :eQ P w K mg base (iU P w) 1 f fd RA (jN K mg 3 C6):=
 cV (k:=0) F KC rfl fun ga A outer s H E hr=>by have sc:=KC;walk_at "w"
def RT:FS:=(aS (bJ 3 pP) (aS (eS (cx (ae 0)) (eB 4) (m5 (ae 3) (ae 4) (f7 (ag (e2 gS (ae 1) (ae 4)) (ag (e2 gS (ae 2) (ae 4)) az))) jR)) (cN (c8 2 C5 (ag (ae 0) (ag (ae 3) az))))))
def C7:List W->List aj->R W:=d9 5 RT
theorem RU(F:jK K "split_blocks" "split_blocks" NQ f fd) (J_:dF P w K mg base 1 "numbered" 2 C5):eQ P w K mg base (iU P w) 2 f fd RB (jN K mg 3 C7):=
 cV (k:=1) F KD rfl fun ga A outer s H E hr=>by have sc:=KD;walk_at "w"
def RV:FS:=(eS (cx (c8 1 Ge (ag (e2 m3 (a_ cS (ag (ae 1) az)) (eI 1)) az))) (Pq 2 (k_ (eB 4) (k_ (eB 5) xM))) (aS (bJ 6 (e2 d8 (e2 d8 (e2 bp (e2 bp (ae 1) (ae 4)) (eI 1)) (e2 bp (e2 bp (ae 1) (ae 5)) (eI 1))) (eI 1))) (eS (vP (ag (e2 bp (ae 0) (eI 2)) az)) (Pq 2 (k_ (eB 7) (k_ (eB 8) xM))) (aS (bJ 9 (e2 bp (e2 bp (ae 8) (e2 bp (e2 bp (ae 1) (ae 4)) (eI 0))) (e2 bp (e2 bp (ae 1) (ae 5)) (eI 0)))) (aS (bJ 10 (f7 (ag (ae 6) (ag (ae 4) (ag (ae 5) (ag (ae 7) az)))))) (gY (M6 (eV (e2 (vT true) (ae 9) (ae 2))) (re (eV (e2 (vT true) (ae 9) (ae 3))) (eV (e2 CP (ae 10) (e2 gS (ae 3) (ae 9)))))) (m5 (ae 3) (ae 9) (ae 10) jR) b_))))))
def Gf:List W->List aj->R W:=d9 11 RV
theorem RW(F:jK K "put_ways" "put_ways" NR f fd)(B:Bl mg)(SF:dF P w K mg base 1 "pairs_with" 1 Ge):eQ P w K mg base (iU P w) 2 f fd RC (jN K mg 4 Gf):=
 cV (k:=1) F KF rfl fun ga A outer s H E hr=>by have sc:=KF;walk_at "w"
theorem uo(p2 p3 p4:Pos):EB "each" "best" ⟨[],[⟨"each",none,⟨54,36,54,40⟩⟩],none,[],[],none,[]⟩ (.Subscript (.Name "best" p2) (.Name "each" p3) p4) (EE [("each",.local),("best",.free)]):=⟨rfl,rfl,rfl,by decide,rfl,rfl,fun _ _ _ _ _ _ _=>rfl,by decide,by decide,by decide⟩
def RX:FS:=(aS (bJ 1 (kB (ag (f7 (ag (eI 0) (ag (eI 0) (ag (f7 az) az)))) az))) (aS (bJ 2 (A7 (vU (eI 0) (eC (.bl true)) A6))) (aS (bJ 3 pP) (aS (eR (c8 4 Gf (ag (ae 0) (ag (ae 1) (ag (ae 2) (ag (ae 3) az)))))) (aS (lf (eV (e2 IH (a_ sL (ag (ae 3) az)) (eI 0))) (aS (bJ 4 (sN 3 1 59 ⟨54,29,54,52⟩ "firsts_of.<locals>.<lambda>")) (aS (bJ 5 (A8 (ae 3) (ae 4))) (aS (eR (n5 cy (ae 1) (ag (f7 (ag (ae 4) (ag (e2 bp (ae 5) (eI 0)) (ag (f7 (ag (e2 bp (e2 bp (ae 1) (e2 bp (ae 5) (eI 1))) (eI 0)) (ag (e2 bp (e2 bp (ae 1) (e2 bp (ae 5) (eI 2))) (eI 0)) (ag (e2 bp (ae 5) (eI 3)) az)))) az)))) az))) (aS (m5 (ae 2) (ae 4) (eC (.bl true)) jR) (eR (c8 4 Gf (ag (ae 0) (ag (ae 1) (ag (ae 2) (ag (ae 3) az))))))))))) (cN (a_ cX (ag (ae 1) az))))))))
def C8:List W->List aj->R W:=d9 6 RX
theorem RY(F:jK K "firsts_of" "firsts_of" C4 f fd)(Tc:Re K fd 59)(Bk:rg base mg)(B:Bl mg)(J6:dF P w K mg base 2 "put_ways" 4 Gf):eQ P w K mg base (iU P w) 3 f fd RD (jN K mg 1 C8):=
 Tc.elim fun cT hT=>vN (k:=2) F vc rfl fun ga A outer s H E lD hr=>(bV (sS 1 vc (AU (aL (oq (aL cf (aL cf (aL (oq bA) bA)))) bA))) (bV (sS 2 vc (No (I0 cf vJ Nn))) (bV (sS 3 vc zJ) (bV (nM (kL J6 hr (by omega) (aL (aJ 0) (aL (aJ 1) (aL (aJ 2) (aL (aJ 3) bA)))))) (bV (sA (iJ IJ (fm Nm B.len gf (aL (aJ 3) bA)) cf) (bV (sS 4 vc (I_ (i:=3) (j:=1) hr (uo _ _ _) (lD.symm.trans hT.1) hT.2.1 hT.2.2 Bk B.min rfl)) (bV (sS 5 vc (Np (aJ 3) (aJ 4))) (bV (nM (CI PySem.F.slot_list_append PySem.F.type_list_append nN (aJ 1) (aL (oq (aL (aJ 4) (aL (dE (aJ 5) cf) (aL (oq (aL (dE (dE (aJ 1) (dE (aJ 5) cf)) cf) (aL (dE (dE (aJ 1) (dE (aJ 5) cf)) cf) (aL (dE (aJ 5) cf) bA)))) bA)))) bA))) (bV (qA (zH hr) vJ (aJ 2) (aJ 4)) (dX (nM (kL J6 hr (by omega) (aL (aJ 0) (aL (aJ 1) (aL (aJ 2) (aL (aJ 3) bA)))))))))))) (dX (h9 (f_ iT B.tuple d7 (aL (aJ 1) bA)))))))))
def RZ:FS:=(aS (bJ 2 (c8 2 Js (ag (ae 0) (ag (ae 1) az)))) (aS (bJ 3 (c8 3 C7 (ag (ae 1) (ag (ae 2) (ag (c8 3 C6 (ag (ae 0) (ag (ae 1) (ag (ae 2) az)))) az))))) (aS (lf (eV (e2 zU (ae 3) (ae 2))) (aS (bJ 2 (ae 3)) (bJ 3 (c8 3 C7 (ag (ae 1) (ag (ae 2) (ag (c8 3 C6 (ag (ae 0) (ag (ae 1) (ag (ae 2) az)))) az))))))) (cN (ae 2)))))
def Jt:List W->List aj->R W:=d9 4 RZ
theorem R0(F:jK K "last_blocks" "last_blocks" NS f fd) (Ph:dF P w K mg base 2 "good_blocks" 2 Js)(J5:dF P w K mg base 2 "split_blocks" 3 C7)(J9:dF P w K mg base 1 "views_of" 3 C6):eQ P w K mg base (iU P w) 3 f fd RE (jN K mg 2 Jt):=
 cV (k:=2) F yi rfl fun ga A outer s H E hr=>(bV (sS 2 yi (kL Ph hr (by omega) (aL (aJ 0) (aL (aJ 1) bA)))) (bV (sS 3 yi (kL J5 hr (by omega) (aL (aJ 1) (aL (aJ 2) (aL (kL J9 hr (by omega) (aL (aJ 0) (aL (aJ 1) (aL (aJ 2) bA)))) bA))))) (bV (sA (iJ (Rn hr) (aJ 3) (aJ 2)) (bV (sS 2 yi (aJ 3)) (dX (sS 3 yi (kL J5 hr (by omega) (aL (aJ 1) (aL (aJ 2) (aL (kL J9 hr (by omega) (aL (aJ 0) (aL (aJ 1) (aL (aJ 2) bA)))) bA)))))))) (dX (h9 (aJ 2))))))
def R4:FS:=(aS (bJ 2 (kB az)) (aS (eS (cx (ae 0)) (eB 3) (gY (eV (e2 ky (e2 gS (ae 1) (ae 3)) (a_ cS (ag (ae 2) az)))) (eR (n5 cy (ae 2) (ag (ae 3) az))) b_)) (cN (ae 2))))
def Ju:List W->List aj->R W:=d9 4 R4
theorem R5(F:jK K "heads_of" "heads_of" NT f fd)(B:Bl mg) :eQ P w K mg base (iU P w) 1 f fd RF (jN K mg 2 Ju):=
 cV (k:=0) F KG rfl fun ga A outer s H E hr=>by have sc:=KG;walk_at "w"
def La:FS:=(aS (ug (c_ [none] (cx (c8 1 C8 (ag (ae 0) az))) (eB 0) gR (e2 bp (ae 0) (eI 0))) (eB 1)) (aS (bJ 2 (c8 2 Jt (ag (ae 0) (ag (ae 1) az)))) (aS (bJ 3 (c8 2 Ju (ag (ae 1) (ag (ae 2) az)))) (aS (bJ 4 (a_ cX (ag (c_ [none,some 0] (cx (ae 3)) (eB 0) gR (e2 bp (e2 bp (ae 1) (eI 1)) (ae 0))) az))) (u0 cJ 2 80 ⟨80,4,81,68⟩ "least_of.<locals>.lead" 5 fun f o=>(aS (bJ 6 (a_ cX (ag (c_ [none,some 2] (cx (a_ nD (ag (ae 1) az))) (eB 0) gR (f7 (ag (ae 0) (ag (e2 gS (ae 1) (ae 0)) az)))) az))) (cN (f7 (ag (f7 (ag (e2 bp (ae 0) (eI 0)) (ag (ae 4) (ag (u6 3 Gd o [0,3,2] (ag (a_ cS (ag (e2 bp (ae 0) (eI 2)) az)) (ag (a_ cS (ag (ae 3) az)) (ag (ae 5) az)))) az)))) (ag (ae 6) az))))))))))
def vd:List W->List aj->R W:=d9 7 La
theorem NU(F:jK K "least_of" "least_of" tj f fd)(Tc:Re K fd 80)(Bk:rg base mg)(B:Bl mg)(Pf:dF P w K mg base 3 "firsts_of" 1 C8)(O6:dF P w K mg base 1 "heads_of" 2 Ju)(O4:dF P w K mg base 3 "last_blocks" 2 Jt)(OU:dF P w K mg base 2 "table_by" 3 Gd):eQ P w K mg base (iU P w) 4 f fd KH (jN K mg 1 vd):=
 Tc.elim fun cT hT=>vN (k:=3) F pe rfl fun ga A outer s H E lD hr=>(bV (oW (sG 1 pe) (nm:=["row"]) (cap:=[none]) (by first|rfl|kernel_rfl) rfl (ma (kL Pf hr (by omega) (aL (aJ 0) bA))) (fun _ _ _ _ _=>(sC 0)) (fun _ _ _ _ _=>iV) (fun _ _ _ _ _=>(dE (aJ 0) cf))) (bV (sS 2 pe (kL O4 hr (by omega) (aL (aJ 0) (aL (aJ 1) bA)))) (bV (sS 3 pe (kL O6 hr (by omega) (aL (aJ 1) (aL (aJ 2) bA)))) (bV (sS 4 pe (f_ iT B.tuple d7 (aL (oV (nm:=["room","machine"]) (cap:=[none,some 0]) (by first|rfl|kernel_rfl) rfl (ma (aJ 3)) (fun _ _ _ _ _=>(sC 0)) (fun _ _ _ _ _=>iV) (fun _ _ _ _ _=>(dE (dE (aJ 1) cf) (aJ 0)))) bA))) (EZ (st:=dY) (lD.symm.trans hT.1) hT.2.1 Bk rfl pe.nd (fun f o okN=>(bV (sS 6 pe (f_ iT B.tuple d7 (aL (oV (nm:=["room","blocks"]) (cap:=[none,some 2]) (by first|rfl|kernel_rfl) rfl (ma (fm v7 B.sorted kX (aL (aJ 1) bA))) (fun _ _ _ _ _=>(sC 0)) (fun _ _ _ _ _=>iV) (fun _ _ _ _ _=>(oq (aL (aJ 0) (aL (nA hr (aJ 1) (aJ 0)) bA))))) bA))) (dX (h9 (oq (aL (oq (aL (dE (aJ 0) cf) (aL (aJ 4) (aL (Jo (st:=dY) (xs:=["machine","heads","blocks"]) OU hr (by omega) okN (aL (fm iA B.len gf (aL (dE (aJ 0) cf) bA)) (aL (fm iA B.len gf (aL (aJ 3) bA)) (aL (aJ 5) bA))) rfl (.cons rfl (.cons rfl (.cons rfl (.nil))))) bA)))) (aL (aJ 6) bA))))))))))))
def Lb:FS:=(aS (bJ 1 (kB (ag (eI 0) az))) (aS (bJ 2 (eI 0)) (aS (lf (eV (e2 xI (ae 2) (a_ cS (ag (ae 1) az)))) (aS (eS (cx (a_ nw (ag (HC (ae 1) sv (mO (e2 d8 (ae 2) (eI 1)))) az))) (eB 3) (eS (cx (e2 bp (ae 0) (eI 2))) (eB 4) (eS (cx (f7 (ag (e2 bp (e2 bp (ae 4) (e2 bp (ae 1) (ae 2))) (ae 3)) (ag (e2 bp (e2 bp (ae 4) (ae 3)) (e2 bp (ae 1) (ae 2))) az)))) (eB 5) (gY (eV (e2 (uN true) (ae 5) (ae 1))) (eR (n5 cy (ae 1) (ag (ae 5) az))) b_)))) (bJ 2 (e2 d8 (ae 2) (eI 1))))) (cN (ae 1)))))
def Bp:List W->List aj->R W:=d9 6 Lb
theorem NV(F:jK K "_law_met" "_law_met" Ff f fd)(B:Bl mg) :eQ P w K mg base (iU P w) 1 f fd KI (jN K mg 1 Bp):=
 cV (k:=0) F Fg rfl fun ga A outer s H E hr=>by have sc:=Fg;walk_at "w"
def yr(SH:List W->List aj->R W):FS:=(aS (gY (eV (jg "tuple" (ae 1))) (aS (gY (re (ue (eV (jg "tuple" (ae 0)))) (eV (e2 uf (a_ cS (ag (ae 0) az)) (a_ cS (ag (ae 1) az))))) (cN (eC (.bl false))) b_) (aS (eS (be (ag (a_ cS (ag (ae 1) az)) az)) (eB 2) (gY (ue (eV (c8 2 SH (ag (e2 bp (ae 0) (ae 2)) (ag (e2 bp (ae 1) (ae 2)) az))))) (cN (eC (.bl false))) b_)) (cN (eC (.bl true))))) b_) (aS (gY (eV (zt (ae 1))) (cN (zt (ae 0))) b_) (aS (gY (eV (jg "bool" (ae 1))) (cN (xE (jg "bool" (ae 0)) (e2 ky (ae 0) (ae 1)))) b_) (aS (gY (eV (jg "int" (ae 1))) (cN (xE (jg "int" (ae 0)) (xE (ID (jg "bool" (ae 0))) (e2 ky (ae 0) (ae 1))))) b_) (cN (xE (jg "str" (ae 0)) (e2 ky (ae 0) (ae 1))))))))
def hV:Nat->List W->List aj->R W
 |0=>fun _ _=>.bad
 |k+1=>d9 3 (yr (hV k))
theorem Bq{Hl:Addr}{O5:FuncData}(vo:jK K "_law_same" "_law_same" Fh Hl O5)(yK:mg "_law_same"=some (.ref Hl))(B:Bl mg) :∀k:Nat,dF P w K mg base (0+k) "_law_same" 2 (hV k)
 |0=>Et (ps:=Fi) vo yK rfl (fun _ _ _ _ _ _ us hl=>match us,hl with|[_,_],_=>rfl)
 |k+1=>by
  have vp:=Bq vo yK B  k
  exact rE (ps:=Fi) vo yK rfl (fun _ _ _ _ _ _ us hl=>match us,hl with|[_,_],_=>rfl) (cV (k:=0+k) vo Fj rfl fun ga A outer s H E hr=>by have sc:=Fj;walk_at "w")
def R6:FS:=(aS (bJ 3 (e2 dQ (e2 ia (e2 d8 (e2 d8 (e2 d8 (ae 0) (e2 ia (e2 ia (eI 7) (ae 1)) (ae 1))) (e2 ia (eI 13) (ae 1))) (ae 2)) (eI 69621)) (eI 2147483647))) (cN (e2 dQ (e2 ia (e2 dQ (e2 d8 (e2 d8 (e2 ia (ae 3) (e2 d8 (e2 su (ae 3) (eI 1009)) (eI 3))) (e2 ia (eI 31) (ae 1))) (ae 2)) (eI 2147483629)) (eI 48271)) (eI 1000000007))))
def yt:List W->List aj->R W:=d9 4 R6
theorem NW(F:jK K "_law_mixed" "_law_mixed" Fk f fd)  :eQ P w K mg base (iU P w) 1 f fd KJ (jN K mg 3 yt):=
 cV (k:=0) F Fl rfl fun ga A outer s H E hr=>by have sc:=Fl;walk_at "w"
def Lc:FS:=(aS (bJ 3 (kB az)) (aS (bJ 4 (eI 0)) (aS (gY (eV (e2 II (ae 0) (e2 QR (eI 10) (eI 18)))) (bJ 4 (ae 0)) b_) (aS (eS (be (ag (ae 1) az)) (eB 5) (gY (eV (e2 IH (ae 4) (eI 0))) (aS (eR (n5 cy (ae 3) (ag (e2 dQ (ae 4) (eI 64)) az))) (bJ 4 (e2 su (ae 4) (eI 64)))) (eR (n5 cy (ae 3) (ag (c8 3 yt (ag (ae 0) (ag (ae 5) (ag (ae 2) az)))) az))))) (cN (ae 3))))))
def i6:List W->List aj->R W:=d9 6 Lc
theorem NX(F:jK K "_law_draws" "_law_draws" Fm f fd)(B:Bl mg)(L3:dF P w K mg base 1 "_law_mixed" 3 yt):eQ P w K mg base (iU P w) 2 f fd KL (jN K mg 3 i6):=
 cV (k:=1) F Fp rfl fun ga A outer s H E hr=>by have sc:=Fp;walk_at "w"
def Ld:FS:=(aS (bJ 3 (eC (.str [65,66,67,68,69,70,71,72,73,74,75,76,77,78,79,80,81,82,83,84,85,86,87,88,89,90,97,98,99,100,101,102,103,104,105,106,107,108,109,110,111,112,113,114,115,116,117,118,119,120,121,122]))) (aS (bJ 4 (eC (.str []))) (aS (eS (cx (c8 3 i6 (ag (ae 0) (ag (ae 1) (ag (ae 2) az))))) (eB 5) (aS (bJ 6 (e2 dQ (ae 5) (a_ cS (ag (ae 3) az)))) (aS (bJ 4 (e2 d8 (ae 4) (e2 bp (ae 3) (ae 6)))) (bJ 3 (e2 d8 (HC (ae 3) sv (mO (ae 6))) (HC (ae 3) (mO (e2 d8 (ae 6) (eI 1))) sv)))))) (cN (ae 4)))))
def Br:List W->List aj->R W:=d9 7 Ld
theorem NY(F:jK K "_law_pool" "_law_pool" Fq f fd)(B:Bl mg)(oG:dF P w K mg base 2 "_law_draws" 3 i6):eQ P w K mg base (iU P w) 3 f fd KM (jN K mg 3 Br):=
 cV (k:=2) F Fs rfl fun ga A outer s H E hr=>by have sc:=Fs;walk_at "w"
def R7:FS:=(aS (gY (eV (e2 ky (a_ cS (ag (ae 0) az)) (eI 0))) (cN (eI 0)) b_) (cN (e2 bp (ae 0) (e2 dQ (ae 1) (a_ cS (ag (ae 0) az))))))
def kO:List W->List aj->R W:=d9 2 R7
theorem NZ(F:jK K "_law_cell" "_law_cell" Ft f fd)(B:Bl mg) :eQ P w K mg base (iU P w) 1 f fd KN (jN K mg 2 kO):=
 cV (k:=0) F Fu rfl fun ga A outer s H E hr=>by have sc:=Fu;walk_at "w"
def Le:FS:=(aS (bJ 1 (f7 (ag (f7 (ag (eI 0) (ag (eI 1) az))) (ag (f7 (ag (eI 0) (ag (eI 5) az))) (ag (f7 (ag (eI 0) (ag (eI 9) az))) (ag (f7 (ag (eI 1) (ag (eI 2) az))) (ag (f7 (ag (eI 1) (ag (eI 4) az))) (ag (f7 (ag (eI 1) (ag (eI 6) az))) (ag (f7 (ag (eI 2) (ag (eI 1) az))) (ag (f7 (ag (eI 2) (ag (eI 3) az))) (ag (f7 (ag (eI 2) (ag (eI 5) az))) (ag (f7 (ag (eI 3) (ag (eI 2) az))) (ag (f7 (ag (eI 3) (ag (eI 4) az))) (ag (f7 (ag (eI 5) (ag (eI 2) az))) az)))))))))))))) (cN (e2 bp (ae 1) (e2 dQ (ae 0) (eI 12)))))
def Bs:List W->List aj->R W:=d9 2 Le
theorem N0(F:jK K "_law_shape" "_law_shape" Fv f fd)  :eQ P w K mg base (iU P w) 1 f fd KO (jN K mg 1 Bs):=
 cV (k:=0) F Fw rfl fun ga A outer s H E hr=>by have sc:=Fw;walk_at "w"
def Lf:FS:=(cN (Ps qP (eC (.str [])) (ag (a_ oX (ag (c_ [none,some 0] (be (ag (ae 1) az)) (eB 0) gR (e2 bp (ae 1) (ae 0))) az)) az)))
def Bt:List W->List aj->R W:=d9 2 Lf
theorem N1(F:jK K "_law_names" "_law_names" Fx f fd)(B:Bl mg) :eQ P w K mg base (iU P w) 1 f fd KP (jN K mg 2 Bt):=
 cV (k:=0) F Fy rfl fun ga A outer s H E hr=>by have sc:=Fy;walk_at "w"
def Lg:FS:=(aS (bJ 4 (kB az)) (aS (eS (vS (ag (eI 0) (ag (ae 2) (ag (eI 50) az)))) (eB 5) (bJ 4 (e2 d8 (ae 4) (c8 3 i6 (ag (c8 2 kO (ag (ae 0) (ag (e2 d8 (ae 1) (e2 su (ae 5) (eI 50))) az))) (ag (a_ zx (ag (eI 50) (ag (e2 m3 (ae 2) (ae 5)) az))) (ag (e2 d8 (ae 3) (e2 ia (eI 1009) (ae 5))) az))))))) (cN (ae 4))))
def ve:List W->List aj->R W:=d9 6 Lg
theorem N2(F:jK K "_law_blocks" "_law_blocks" Fz f fd)(B:Bl mg)(qY:dF P w K mg base 1 "_law_cell" 2 kO)(oG:dF P w K mg base 2 "_law_draws" 3 i6):eQ P w K mg base (iU P w) 3 f fd KQ (jN K mg 4 ve):=
 cV (k:=2) F FB rfl fun ga A outer s H E hr=>by have sc:=FB;walk_at "w"
def R8:FS:=(aS (gY (eV (e2 ky (ae 0) (eI 0))) (cN (e2 d8 (ae 1) (ae 2))) b_) (aS (gY (eV (e2 ky (ae 0) (eI 1))) (cN (a_ Ek (ag (ae 1) (ag (ae 2) az)))) b_) (aS (gY (eV (e2 ky (ae 0) (eI 2))) (cN (ae 1)) b_) (cN (ae 2)))))
def yu:List W->List aj->R W:=d9 3 R8
theorem N3(F:jK K "_law_grown" "_law_grown" FC f fd)(B:Bl mg) :eQ P w K mg base (iU P w) 1 f fd KR (jN K mg 3 yu):=
 cV (k:=0) F FD rfl fun ga A outer s H E hr=>by have sc:=FD;walk_at "w"
def Lh:FS:=(aS (bJ 3 (kB az)) (aS (eS (be (ag (e2 vK (eI 1) (a_ cS (ag (ae 0) az))) az)) (eB 4) (aS (bJ 5 (e2 d8 (e2 dQ (ae 4) (eI 2)) (e2 dQ (e2 bp (ae 2) (eI 1)) (eI 2)))) (aS (gY (eV (e2 ky (a_ cS (ag (ae 0) az)) (eI 0))) (bJ 5 (eI 1)) b_) (aS (bJ 6 (kB az)) (aS (eS (be (ag (ae 1) az)) (eB 7) (eR (n5 cy (ae 6) (ag (a_ cX (ag (c_ [none,some 1,some 5,some 7,some 2] (be (ag (ae 1) az)) (eB 0) gR (a_ zx (ag (e2 m3 (ae 1) (eI 1)) (ag (e2 d8 (c8 3 yu (ag (e2 dQ (e2 bp (ae 4) (eI 0)) (eI 4)) (ag (ae 3) (ag (ae 0) az)))) (ae 2)) az)))) az)) az)))) (eR (n5 cy (ae 3) (ag (a_ cX (ag (ae 6) az)) az)))))))) (aS (bJ 8 (e2 m3 (ae 1) (eI 1))) (aS (gY (eV (e2 ky (e2 dQ (e2 bp (ae 2) (eI 2)) (eI 2)) (eI 1))) (bJ 8 (e2 dQ (e2 bp (ae 2) (eI 3)) (ae 1))) b_) (cN (f7 (ag (ae 0) (ag (a_ cX (ag (c_ [none,some 8] (be (ag (ae 1) az)) (eB 0) gR (e2 ky (ae 0) (ae 1))) az)) (ag (a_ cX (ag (ae 3) az)) az)))))))))
def Bu:List W->List aj->R W:=d9 9 Lh
theorem N4(F:jK K "_law_graded" "_law_graded" FF f fd)(B:Bl mg)(L5:dF P w K mg base 1 "_law_grown" 3 yu):eQ P w K mg base (iU P w) 2 f fd KS (jN K mg 3 Bu):=
 cV (k:=1) F FH rfl fun ga A outer s H E hr=>by have sc:=FH;walk_at "w"
def Li:FS:=(aS (bJ 2 (a_ cS (ag (e2 bp (ae 0) (eI 1)) az))) (aS (bJ 3 (a_ nw (ag (e2 bp (ae 0) (eI 2)) az))) (aS (bJ 4 (e2 dQ (e2 bp (ae 1) (eI 0)) (a_ cS (ag (ae 3) az)))) (aS (bJ 5 (a_ nw (ag (e2 bp (ae 3) (ae 4)) az))) (aS (bJ 6 (a_ nw (ag (e2 bp (ae 5) (e2 dQ (e2 bp (ae 1) (eI 1)) (ae 2))) az))) (aS (m5 (ae 6) (e2 dQ (e2 bp (ae 1) (eI 2)) (ae 2)) (e2 dQ (e2 bp (ae 1) (eI 3)) (ae 2)) mP) (aS (m5 (ae 5) (e2 dQ (e2 bp (ae 1) (eI 1)) (ae 2)) (a_ cX (ag (ae 6) az)) mP) (aS (m5 (ae 3) (ae 4) (a_ cX (ag (ae 5) az)) mP) (cN (f7 (ag (e2 bp (ae 0) (eI 0)) (ag (e2 bp (ae 0) (eI 1)) (ag (a_ cX (ag (ae 3) az)) az)))))))))))))
def Bv:List W->List aj->R W:=d9 7 Li
theorem N5(F:jK K "_law_spotted" "_law_spotted" FJ f fd)(B:Bl mg) :eQ P w K mg base (iU P w) 1 f fd KU (jN K mg 2 Bv):=
 cV (k:=0) F FK rfl fun ga A outer s H E hr=>by have sc:=FK;walk_at "w"
def Lj:FS:=(aS (bJ 3 (a_ cS (ag (ae 1) az))) (aS (bJ 4 (eI 0)) (aS (bJ 5 (kB az)) (aS (eS (cx (e2 bp (ae 0) (eI 2))) (eB 6) (aS (bJ 7 (kB az)) (aS (eS (be (ag (ae 3) az)) (eB 8) (aS (bJ 9 (kB az)) (aS (eS (be (ag (ae 3) az)) (eB 10) (aS (bJ 11 (e2 bp (e2 bp (ae 6) (e2 bp (ae 1) (ae 8))) (e2 bp (ae 1) (ae 10)))) (aS (ug (c_ [none,some 11,some 1] (be (ag (ae 3) az)) (eB 0) (eV (e2 ky (e2 bp (ae 2) (ae 0)) (ae 1))) (ae 0)) (eB 12)) (aS (eR (n5 cy (ae 9) (ag (e2 bp (ae 12) (e2 dQ (e2 bp (ae 2) (e2 dQ (ae 4) (a_ cS (ag (ae 2) az)))) (a_ cS (ag (ae 12) az)))) az))) (bJ 4 (e2 d8 (ae 4) (eI 1))))))) (eR (n5 cy (ae 7) (ag (a_ cX (ag (ae 9) az)) az)))))) (eR (n5 cy (ae 5) (ag (a_ cX (ag (ae 7) az)) az)))))) (cN (f7 (ag (e2 bp (ae 0) (eI 0)) (ag (a_ cX (ag (c_ [none,some 0] (cx (ae 1)) (eB 0) gR (e2 bp (e2 bp (ae 1) (eI 1)) (ae 0))) az)) (ag (a_ cX (ag (ae 5) az)) az)))))))))
def Bw:List W->List aj->R W:=d9 13 Lj
theorem N6(F:jK K "_law_blown" "_law_blown" FL f fd)(B:Bl mg) :eQ P w K mg base (iU P w) 1 f fd KW (jN K mg 3 Bw):=
 cV (k:=0) F FM rfl fun ga A outer s H E hr=>by have sc:=FM;walk_at "w"
def Lk:FS:=(aS (bJ 3 (kB (ag (eI 0) az))) (aS (eS (pK (ag (eI 1) (ag (e2 d8 (ae 0) (ae 1)) az))) (eB 4) (aS (bJ 5 (ae 4)) (aS (gY (eV (e2 II (ae 4) (ae 0))) (bJ 5 (e2 dQ (e2 bp (ae 2) (e2 d8 (e2 ia (eI 2) (ae 4)) (eI 1))) (ae 0))) b_) (eR (n5 nP (ae 3) (ag (e2 d8 (eI 1) (e2 dQ (e2 bp (ae 2) (e2 ia (eI 2) (ae 4))) (a_ cS (ag (ae 3) az)))) (ag (ae 5) az))))))) (cN (ae 3))))
def vf:List W->List aj->R W:=d9 6 Lk
theorem N7(F:jK K "_law_owner" "_law_owner" FN f fd)(B:Bl mg) :eQ P w K mg base (iU P w) 1 f fd KY (jN K mg 3 vf):=
 cV (k:=0) F FQ rfl fun ga A outer s H E hr=>by have sc:=FQ;walk_at "w"
def Ll:FS:=(aS (bJ 4 (a_ cX (ag (c_ [none,some 3] (be (ag (ae 1) az)) (eB 0) gR (e2 ky (e2 dQ (e2 bp (ae 1) (ae 0)) (eI 2)) (eI 1))) az))) (aS (bJ 5 (kB az)) (aS (bJ 6 (ae 1)) (aS (eS (be (ag (e2 vK (eI 1) (a_ cS (ag (ae 0) az))) az)) (eB 7) (aS (bJ 8 (kB az)) (aS (eS (be (ag (ae 1) az)) (eB 9) (aS (eR (n5 cy (ae 8) (ag (a_ cX (ag (c_ [none,some 2,some 3,some 6] (be (ag (ae 1) az)) (eB 0) gR (e2 dQ (e2 bp (ae 2) (e2 d8 (ae 3) (ae 0))) (ae 1))) az)) az))) (bJ 6 (e2 d8 (ae 6) (ae 1))))) (eR (n5 cy (ae 5) (ag (a_ cX (ag (ae 8) az)) az)))))) (cN (f7 (ag (ae 0) (ag (ae 4) (ag (a_ cX (ag (ae 5) az)) az)))))))))
def Bx:List W->List aj->R W:=d9 10 Ll
theorem N8(F:jK K "_law_machine" "_law_machine" FR f fd)(B:Bl mg) :eQ P w K mg base (iU P w) 1 f fd KZ (jN K mg 4 Bx):=
 cV (k:=0) F FU rfl fun ga A outer s H E hr=>by have sc:=FU;walk_at "w"
def Lm:FS:=(aS (bJ 3 (c8 3 i6 (ag (c8 2 kO (ag (ae 0) (ag (ae 1) az))) (ag (eI 10) (ag (eI 1000003) az))))) (aS (ug (c8 1 Bs (ag (e2 bp (ae 3) (eI 0)) az)) (Pq 2 (k_ (eB 4) (k_ (eB 5) xM)))) (aS (bJ 6 (c8 2 Bt (ag (ae 2) (ag (ae 4) az)))) (aS (bJ 7 (c8 4 ve (ag (ae 0) (ag (e2 d8 (ae 1) (eI 1)) (ag (e2 d8 (e2 d8 (ae 5) (e2 ia (e2 ia (ae 5) (ae 5)) (e2 vK (eI 1) (ae 4)))) (eI 40)) (ag (eI 3000017) az)))))) (aS (gY (eV (e2 ky (e2 dQ (e2 bp (ae 3) (eI 3)) (eI 3)) (eI 0))) (aS (bJ 8 (c8 3 Bu (ag (ae 6) (ag (ae 5) (ag (ae 7) az))))) (aS (gY (eV (e2 ky (e2 dQ (e2 bp (ae 3) (eI 4)) (eI 3)) (eI 0))) (bJ 8 (c8 2 Bv (ag (ae 8) (ag (HC (ae 7) (mO (eI 4)) (mO (eI 8))) az)))) b_) (cN (c8 3 Bw (ag (ae 8) (ag (c8 3 vf (ag (ae 5) (ag (eI 0) (ag (HC (ae 7) (mO (eI 8)) (mO (eI 30))) az)))) (ag (ae 7) az))))))) b_) (aS (bJ 9 (ae 5)) (aS (gY (eV (e2 ky (e2 dQ (e2 bp (ae 3) (eI 1)) (eI 3)) (eI 0))) (bJ 9 (e2 d8 (eI 1) (e2 dQ (e2 bp (ae 3) (eI 2)) (ae 5)))) b_) (cN (c8 4 Bx (ag (ae 6) (ag (ae 5) (ag (ae 9) (ag (ae 7) az)))))))))))))
def By:List W->List aj->R W:=d9 10 Lm
theorem N9(F:jK K "_law_any" "_law_any" FV f fd) (BY:dF P w K mg base 3 "_law_blocks" 4 ve)(LH:dF P w K mg base 1 "_law_blown" 3 Bw)(qY:dF P w K mg base 1 "_law_cell" 2 kO)(oG:dF P w K mg base 2 "_law_draws" 3 i6)(L0:dF P w K mg base 2 "_law_graded" 3 Bu)(LJ:dF P w K mg base 1 "_law_machine" 4 Bx)(LY:dF P w K mg base 1 "_law_names" 2 Bt)(yN:dF P w K mg base 1 "_law_owner" 3 vf)(LZ:dF P w K mg base 1 "_law_shape" 1 Bs)(LK:dF P w K mg base 1 "_law_spotted" 2 Bv):eQ P w K mg base (iU P w) 4 f fd K0 (jN K mg 3 By):=
 cV (k:=3) F FW rfl fun ga A outer s H E hr=>by have sc:=FW;walk_at "w"
def Ln:FS:=(aS (gY (re (ue (eV (jg "tuple" (ae 0)))) (eV (e2 uf (a_ cS (ag (ae 0) az)) (eI 3)))) (cN (eC (.bl false))) b_) (aS (gY (re (ue (eV (jg "str" (e2 bp (ae 0) (eI 0))))) (eV (e2 uf (e2 bp (ae 0) (eI 0)) (ae 1)))) (cN (eC (.bl false))) b_) (aS (bJ 2 (e2 bp (ae 0) (eI 1))) (aS (gY (re (ue (eV (jg "tuple" (ae 2)))) (re (eV (e2 ky (a_ cS (ag (ae 2) az)) (eI 0))) (ue (eV (jg "tuple" (e2 bp (ae 0) (eI 2))))))) (cN (eC (.bl false))) b_) (aS (eS (cx (ae 2)) (eB 3) (gY (ue (eV (jg "bool" (ae 3)))) (cN (eC (.bl false))) b_)) (aS (gY (eV (e2 uf (a_ cS (ag (e2 bp (ae 0) (eI 2)) az)) (e2 vK (eI 1) (a_ cS (ag (ae 1) az))))) (cN (eC (.bl false))) b_) (aS (eS (cx (e2 bp (ae 0) (eI 2))) (eB 4) (aS (gY (re (ue (eV (jg "tuple" (ae 4)))) (eV (e2 uf (a_ cS (ag (ae 4) az)) (a_ cS (ag (ae 2) az))))) (cN (eC (.bl false))) b_) (eS (cx (ae 4)) (eB 5) (aS (gY (re (ue (eV (jg "tuple" (ae 5)))) (eV (e2 uf (a_ cS (ag (ae 5) az)) (a_ cS (ag (ae 2) az))))) (cN (eC (.bl false))) b_) (eS (cx (ae 5)) (eB 6) (gY (re (ue (eV (jg "int" (ae 6)))) (re (eV (jg "bool" (ae 6))) (re (eV (e2 xI (ae 6) (eI 0))) (eV (e2 II (ae 6) (a_ cS (ag (ae 2) az))))))) (cN (eC (.bl false))) b_)))))) (cN (eC (.bl true))))))))))
def Bz:List W->List aj->R W:=d9 7 Ln
theorem N_(F:jK K "_law_fits" "_law_fits" FX f fd)(B:Bl mg) :eQ P w K mg base (iU P w) 1 f fd K3 (jN K mg 2 Bz):=
 cV (k:=0) F FY rfl fun ga A outer s H E hr=>by have sc:=FY;walk_at "w"
def Lo:FS:=(cN (Ps qP (eC (.str [])) (ag (a_ oX (ag (c_ [none,some 0,some 1] (be (ag (a_ cS (ag (ae 0) az)) az)) (eB 0) (eV (e2 ky (e2 AV (e2 IE (ae 2) (ae 0)) (eI 1)) (eI 1))) (e2 bp (ae 1) (ae 0))) az)) az)))
def yv:List W->List aj->R W:=d9 2 Lo
theorem N'(F:jK K "_law_marks" "_law_marks" FZ f fd)(B:Bl mg) :eQ P w K mg base (iU P w) 1 f fd K4 (jN K mg 2 yv):=
 cV (k:=0) F F0 rfl fun ga A outer s H E hr=>by have sc:=F0;walk_at "w"
def Lp:FS:=(aS (bJ 3 (kB az)) (aS (bJ 4 (eI 0)) (aS (eS (cx (ae 0)) (eB 5) (aS (bJ 6 (e2 dQ (ae 5) (eI 4))) (aS (gY (eV (e2 IH (e2 su (e2 d8 (ae 6) (eI 1)) (eI 2)) (ae 4))) (bJ 6 (eI 0)) b_) (aS (eR (n5 cy (ae 3) (ag (f7 (ag (ae 6) (ag (c8 2 yv (ag (ae 2) (ag (e2 dQ (e2 bp (ae 1) (a_ cS (ag (ae 3) az))) (eI 64)) az))) az))) az))) (bJ 4 (e2 m3 (e2 d8 (ae 4) (eI 1)) (e2 su (e2 d8 (ae 6) (eI 1)) (eI 2)))))))) (aS (lf (eV (e2 IH (ae 4) (eI 1))) (aS (eR (n5 cy (ae 3) (ag (f7 (ag (eI 3) (ag (c8 2 yv (ag (ae 2) (ag (e2 dQ (e2 bp (ae 1) (a_ cS (ag (ae 3) az))) (eI 64)) az))) az))) az))) (bJ 4 (e2 m3 (ae 4) (eI 1))))) (cN (a_ cX (ag (ae 3) az)))))))
def BA:List W->List aj->R W:=d9 7 Lp
theorem Oa(F:jK K "_law_wood" "_law_wood" F1 f fd)(B:Bl mg)(LN:dF P w K mg base 1 "_law_marks" 2 yv):eQ P w K mg base (iU P w) 2 f fd K5 (jN K mg 3 BA):=
 cV (k:=1) F F2 rfl fun ga A outer s H E hr=>by have sc:=F2;walk_at "w"
def Lq:FS:=(aS (bJ 3 (c8 3 i6 (ag (c8 2 kO (ag (ae 0) (ag (ae 1) az))) (ag (eI 4) (ag (eI 5000011) az))))) (aS (bJ 4 (e2 dQ (e2 bp (ae 3) (eI 0)) (eI 9))) (aS (gY (eV (e2 ky (e2 dQ (e2 bp (ae 3) (eI 1)) (eI 4)) (eI 0))) (bJ 4 (e2 dQ (e2 bp (ae 3) (eI 2)) (eI 51))) b_) (aS (bJ 5 (c8 3 i6 (ag (c8 2 kO (ag (ae 0) (ag (e2 d8 (ae 1) (eI 1)) az))) (ag (ae 4) (ag (eI 6000011) az))))) (cN (c8 3 BA (ag (ae 5) (ag (c8 4 ve (ag (ae 0) (ag (e2 d8 (ae 1) (eI 2)) (ag (e2 ia (eI 2) (ae 4)) (ag (eI 7000003) az))))) (ag (ae 2) az)))))))))
def BB:List W->List aj->R W:=d9 6 Lq
theorem Ob(F:jK K "_law_grove" "_law_grove" F3 f fd) (BY:dF P w K mg base 3 "_law_blocks" 4 ve)(qY:dF P w K mg base 1 "_law_cell" 2 kO)(oG:dF P w K mg base 2 "_law_draws" 3 i6)(L4:dF P w K mg base 2 "_law_wood" 3 BA):eQ P w K mg base (iU P w) 4 f fd K6 (jN K mg 3 BB):=
 cV (k:=3) F F4 rfl fun ga A outer s H E hr=>by have sc:=F4;walk_at "w"
def Lr:FS:=(aS (bJ 2 (eI 0)) (aS (eS (cx (ae 0)) (eB 3) (bJ 2 (e2 d8 (e2 ia (eI 2) (ae 2)) (a_ El (ag (e2 (uN false) (ae 3) (ae 1)) az))))) (cN (ae 2))))
def BC:List W->List aj->R W:=d9 4 Lr
theorem Oc(F:jK K "_law_letter" "_law_letter" F5 f fd)(B:Bl mg) :eQ P w K mg base (iU P w) 1 f fd K7 (jN K mg 2 BC):=
 cV (k:=0) F F6 rfl fun ga A outer s H E hr=>by have sc:=F6;walk_at "w"
def Ls:FS:=(aS (bJ 2 (kB az)) (aS (bJ 3 (kB az)) (aS (eS (cx (ae 1)) (Pq 2 (k_ (eB 4) (k_ (eB 5) xM))) (aS (bJ 6 (eI 0)) (aS (bJ 7 (eI 0)) (aS (gY (eV (e2 II (ae 4) (eI 2))) (bJ 7 (n5 vO (ae 2) az)) b_) (aS (gY (eV (e2 ky (e2 dQ (ae 4) (eI 2)) (eI 1))) (bJ 6 (n5 vO (ae 2) az)) b_) (aS (eR (n5 cy (ae 2) (ag (e2 bp (e2 bp (e2 bp (e2 bp (ae 0) (eI 2)) (c8 2 BC (ag (e2 bp (ae 0) (eI 0)) (ag (ae 5) az)))) (ae 6)) (ae 7)) az))) (eR (n5 cy (ae 3) (ag (e2 bp (ae 2) (Es (eI 1))) az))))))))) (cN (ae 3)))))
def BD:List W->List aj->R W:=d9 8 Ls
theorem Od(F:jK K "_law_run" "_law_run" F7 f fd) (LF:dF P w K mg base 1 "_law_letter" 2 BC):eQ P w K mg base (iU P w) 2 f fd K8 (jN K mg 2 BD):=
 cV (k:=1) F F8 rfl fun ga A outer s H E hr=>by have sc:=F8;walk_at "w"
def Lu:FS:=(aS (gY (eV (e2 ky (a_ cS (ag (ae 1) az)) (eI 0))) (cN (e2 bp (e2 bp (ae 0) (eI 1)) (eI 0))) b_) (cN (e2 bp (e2 bp (ae 0) (eI 1)) (e2 bp (c8 2 BD (ag (ae 0) (ag (ae 1) az))) (Es (eI 1))))))
def yw:List W->List aj->R W:=d9 2 Lu
theorem Oe(F:jK K "_law_lets" "_law_lets" F9 f fd)(B:Bl mg)(LU:dF P w K mg base 2 "_law_run" 2 BD):eQ P w K mg base (iU P w) 3 f fd K9 (jN K mg 2 yw):=
 cV (k:=2) F F_ rfl fun ga A outer s H E hr=>by have sc:=F_;walk_at "w"
def Lv:FS:=(aS (bJ 1 (e2 d8 (eI 12) (e2 dQ (e2 bp (ae 0) (eI 0)) (eI 9)))) (aS (bJ 2 (c8 3 vf (ag (ae 1) (ag (eI 0) (ag (HC (ae 0) (mO (eI 8)) sv) az))))) (aS (ug (c_ [none,some 2,some 1] (be (ag (ae 1) az)) (eB 0) gR (c_ [none,some 1,some 2] (be (ag (ae 2) az)) (eB 0) gR (e2 bp (ae 1) (e2 m3 (ae 2) (eI 1))))) (eB 3)) (aS (eS (be (ag (e2 m3 (ae 1) (eI 2)) az)) (eB 4) (aS (gY (re (eV (e2 IH (e2 dQ (e2 bp (ae 0) (eI 1)) (eI 3)) (eI 0))) (eV (e2 ky (ae 4) (eI 0)))) (m5 (e2 bp (ae 3) (e2 bp (ae 2) (ae 4))) (eI 0) (e2 bp (ae 2) (e2 d8 (ae 4) (eI 1))) mP) b_) (gY (eV (e2 xI (e2 dQ (e2 bp (ae 0) (eI 1)) (eI 3)) (eI 2))) (m5 (e2 bp (ae 3) (eI 0)) (e2 bp (ae 2) (ae 4)) (e2 bp (ae 2) (e2 d8 (ae 4) (eI 1))) mP) b_))) (aS (bJ 5 (e2 m3 (ae 1) (eI 2))) (aS (gY (eV (e2 ky (e2 dQ (e2 bp (ae 0) (eI 2)) (eI 2)) (eI 1))) (bJ 5 (e2 d8 (eI 1) (e2 dQ (e2 bp (ae 0) (eI 3)) (e2 m3 (ae 1) (eI 2))))) b_) (cN (f7 (ag (eC (.str [])) (ag (a_ cX (ag (c_ [none,some 2,some 5] (be (ag (ae 1) az)) (eB 0) gR (e2 ky (ae 0) (e2 bp (ae 1) (ae 2)))) az)) (ag (f7 (ag (a_ cX (ag (c_ [none] (cx (ae 3)) (eB 0) gR (a_ cX (ag (ae 0) az))) az)) az)) az)))))))))))
def BE:List W->List aj->R W:=d9 6 Lv
theorem Of(F:jK K "_law_ladder" "_law_ladder" F' f fd)(B:Bl mg)(yN:dF P w K mg base 1 "_law_owner" 3 vf):eQ P w K mg base (iU P w) 2 f fd K_ (jN K mg 1 BE):=
 cV (k:=1) F pf rfl fun ga A outer s H E hr=>(bV (sS 1 pf (pH xH cf (pH uM (dE (aJ 0) cf) cf))) (bV (sS 2 pf (kL yN hr (by omega) (aL (aJ 1) (aL cf (aL (Q0 (aJ 0) (A1 cf) A0) bA))))) (bV (oW (sG 3 pf) (nm:=["_law_l","_law_place","_law_many"]) (cap:=[none,some 2,some 1]) (by first|rfl|kernel_rfl) rfl (gi B.range (aL (aJ 1) bA)) (fun _ _ _ _ _=>(sC 0)) (fun _ _ _ _ _=>iV) (fun _ _ _ _ _=>(IZ (nm:=["_law_r","_law_place","_law_many"]) (cap:=[none,some 1,some 2]) (by first|rfl|kernel_rfl) (gi B.range (aL (aJ 2) bA)) (fun _ _ _ _ _=>(sC 0)) (fun _ _ _ _ _=>iV) (fun _ _ _ _ _=>(dE (aJ 1) (pH xG (aJ 2) cf)))))) (bV (l9 (gi B.range (aL (pH xG (aJ 1) cf) bA)) (sG 4 pf) (bV (oA (zr (qM (iJ IJ (pH uM (dE (aJ 0) cf) cf) cf) (qy (iJ (zw hr) (aJ 4) cf)))) (dX (qA zy (dE (aJ 2) (pH xH (aJ 4) cf)) (dE (aJ 3) (dE (aJ 2) (aJ 4))) cf)) k6) (dX (oA (iJ w_lt (pH uM (dE (aJ 0) cf) cf) cf) (dX (qA zy (dE (aJ 2) (pH xH (aJ 4) cf)) (dE (aJ 3) cf) (dE (aJ 2) (aJ 4)))) k6)))) (bV (sS 5 pf (pH xG (aJ 1) cf)) (bV (oA (iJ (zw hr) (pH uM (dE (aJ 0) cf) cf) cf) (dX (sS 5 pf (pH xH cf (pH uM (dE (aJ 0) cf) (pH xG (aJ 1) cf))))) k6) (dX (h9 (oq (aL Ki (aL (f_ iT B.tuple d7 (aL (oV (nm:=["_law_room","_law_place","_law_only"]) (cap:=[none,some 2,some 5]) (by first|rfl|kernel_rfl) rfl (gi B.range (aL (aJ 1) bA)) (fun _ _ _ _ _=>(sC 0)) (fun _ _ _ _ _=>iV) (fun _ _ _ _ _=>(AT (zw hr) (aJ 0) (dE (aJ 1) (aJ 2))))) bA)) (aL (oq (aL (f_ iT B.tuple d7 (aL (oV (nm:=["_law_row"]) (cap:=[none]) (by first|rfl|kernel_rfl) rfl (ma (aJ 3)) (fun _ _ _ _ _=>(sC 0)) (fun _ _ _ _ _=>iV) (fun _ _ _ _ _=>(f_ iT B.tuple d7 (aL (aJ 0) bA)))) bA)) bA)) bA))))))))))))
def Lw:FS:=(aS (bJ 3 (a_ nD (ag (c8 1 Bp (ag (ae 0) az)) az))) (aS (gY (re (ue (eV (jg "tuple" (ae 2)))) (eV (e2 uf (a_ cS (ag (ae 2) az)) (a_ cS (ag (ae 3) az))))) (cN (eC (.bl false))) b_) (aS (bJ 4 pP) (aS (eS (be (ag (a_ cS (ag (ae 3) az)) az)) (eB 5) (aS (gY (re (ue (eV (jg "tuple" (e2 bp (ae 2) (ae 5))))) (re (eV (e2 uf (a_ cS (ag (e2 bp (ae 2) (ae 5)) az)) (eI 2))) (ue (eV (c8 2 (hV 40) (ag (e2 bp (e2 bp (ae 2) (ae 5)) (eI 0)) (ag (e2 bp (ae 3) (ae 5)) az))))))) (cN (eC (.bl false))) b_) (aS (gY (re (ue (eV (jg "int" (e2 bp (e2 bp (ae 2) (ae 5)) (eI 1))))) (eV (jg "bool" (e2 bp (e2 bp (ae 2) (ae 5)) (eI 1))))) (cN (eC (.bl false))) b_) (m5 (ae 4) (e2 bp (ae 3) (ae 5)) (e2 bp (e2 bp (ae 2) (ae 5)) (eI 1)) jR)))) (aS (eS (cx (ae 3)) (eB 6) (aS (gY (re (eV (e2 xI (e2 gS (ae 4) (ae 6)) (eI 0))) (eV (e2 II (e2 gS (ae 4) (ae 6)) (a_ cS (ag (e2 bp (ae 1) (eI 1)) az))))) (cN (eC (.bl false))) b_) (gY (eV (e2 uf (e2 bp (e2 bp (ae 1) (eI 1)) (e2 gS (ae 4) (ae 6))) (e2 bp (e2 bp (ae 0) (eI 1)) (ae 6)))) (cN (eC (.bl false))) b_))) (aS (eS (be (ag (a_ cS (ag (e2 bp (ae 0) (eI 2)) az)) az)) (eB 7) (eS (cx (ae 3)) (eB 8) (eS (cx (ae 3)) (eB 9) (aS (bJ 10 (e2 bp (e2 bp (e2 bp (e2 bp (ae 1) (eI 2)) (ae 7)) (e2 gS (ae 4) (ae 8))) (e2 gS (ae 4) (ae 9)))) (gY (eV (e2 uf (e2 gS (ae 4) (e2 bp (e2 bp (e2 bp (e2 bp (ae 0) (eI 2)) (ae 7)) (ae 8)) (ae 9))) (ae 10))) (cN (eC (.bl false))) b_))))) (cN (xE (e2 ky (e2 gS (ae 4) (eI 0)) (eI 0)) (e2 ky (rJ (c_ [none,some 4] (cx (ae 3)) (eB 0) gR (e2 gS (ae 1) (ae 0)))) (a_ cS (ag (e2 bp (ae 1) (eI 1)) az)))))))))))
def BF:List W->List aj->R W:=d9 11 Lw
theorem Og(F:jK K "_law_tied" "_law_tied" Ga f fd)(B:Bl mg)(Ht:dF P w K mg base 1 "_law_met" 1 Bp)(vp:dF P w K mg base 40 "_law_same" 2 (hV 40)):eQ P w K mg base (iU P w) 41 f fd K' (jN K mg 3 BF):=
 cV (k:=40) F mh rfl fun ga A outer s H E hr=>(bV (sS 3 mh (fm v7 B.sorted kX (aL (kL Ht hr (by omega) (aL (aJ 0) bA)) bA))) (bV (oA (zr (qM (sj (qx (qQ B.isinstance B.tuple d7 (aJ 2)))) (qy (iJ (vL hr) (fm iA B.len gf (aL (aJ 2) bA)) (fm iA B.len gf (aL (aJ 3) bA)))))) (dX (h9 vJ)) k6) (bV (sS 4 mh zJ) (bV (l9 (gi B.range (aL (fm iA B.len gf (aL (aJ 3) bA)) bA)) (sG 5 mh) (bV (oA (zr (qM (sj (qx (qQ B.isinstance B.tuple d7 (dE (aJ 2) (aJ 5))))) (qM (iJ (vL hr) (fm iA B.len gf (aL (dE (aJ 2) (aJ 5)) bA)) cf) (qy (sj (qx (kL vp hr (by omega) (aL (dE (dE (aJ 2) (aJ 5)) cf) (aL (dE (aJ 3) (aJ 5)) bA))))))))) (dX (h9 vJ)) k6) (bV (oA (zr (qM (sj (qx (qQ B.isinstance B.int boot_int (dE (dE (aJ 2) (aJ 5)) cf)))) (qy (qx (qQ B.isinstance B.bool boot_bool (dE (dE (aJ 2) (aJ 5)) cf)))))) (dX (h9 vJ)) k6) (dX (qA (zH hr) (dE (dE (aJ 2) (aJ 5)) cf) (aJ 4) (dE (aJ 3) (aJ 5))))))) (bV (l9 (ma (aJ 3)) (sG 6 mh) (bV (oA (zr (qM (iJ w_lt (nA hr (aJ 4) (aJ 6)) cf) (qy (iJ Na (nA hr (aJ 4) (aJ 6)) (fm iA B.len gf (aL (dE (aJ 1) cf) bA)))))) (dX (h9 vJ)) k6) (dX (oA (iJ (vL hr) (dE (dE (aJ 1) cf) (nA hr (aJ 4) (aJ 6))) (dE (dE (aJ 0) cf) (aJ 6))) (dX (h9 vJ)) k6)))) (bV (l9 (gi B.range (aL (fm iA B.len gf (aL (dE (aJ 0) cf) bA)) bA)) (sG 7 mh) (dX (l9 (ma (aJ 3)) (sG 8 mh) (dX (l9 (ma (aJ 3)) (sG 9 mh) (bV (sS 10 mh (dE (dE (dE (dE (aJ 1) cf) (aJ 7)) (nA hr (aJ 4) (aJ 8))) (nA hr (aJ 4) (aJ 9)))) (dX (oA (iJ (vL hr) (nA hr (aJ 4) (dE (dE (dE (dE (aJ 0) cf) (aJ 7)) (aJ 8)) (aJ 9))) (aJ 10)) (dX (h9 vJ)) k6)))))))) (dX (h9 (Kk (AT (zw hr) (nA hr (aJ 4) cf) cf) (Kj (AT (zw hr) (E2 B.len B.set (oV (nm:=["_law_room","_law_tie"]) (cap:=[none,some 4]) (by first|rfl|kernel_rfl) rfl (ma (aJ 3)) (fun _ _ _ _ _=>(sC 0)) (fun _ _ _ _ _=>iV) (fun _ _ _ _ _=>(nA hr (aJ 1) (aJ 0))))) (fm iA B.len gf (aL (dE (aJ 1) cf) bA)))))))))))))
def Lx:FS:=(aS (bJ 1 (c8 3 Br (ag (c8 2 kO (ag (ae 0) (ag (eI 0) az))) (ag (eI 6) (ag (eI 2000003) az))))) (aS (bJ 2 (c8 3 By (ag (ae 0) (ag (eI 1) (ag (ae 1) az))))) (aS (gY (eV (e2 ky (e2 dQ (e2 bp (c8 3 i6 (ag (c8 2 kO (ag (ae 0) (ag (eI 40) az))) (ag (eI 1) (ag (eI 8000009) az)))) (eI 0)) (eI 8)) (eI 3))) (bJ 2 (c8 1 BE (ag (c8 3 i6 (ag (c8 2 kO (ag (ae 0) (ag (eI 41) az))) (ag (eI 50) (ag (eI 9000011) az)))) az))) b_) (aS (bJ 3 (c8 1 vd (ag (ae 2) az))) (aS (gY (re (ue (eV (jg "tuple" (ae 3)))) (eV (e2 uf (a_ cS (ag (ae 3) az)) (eI 2)))) (cN (eC (.bl false))) b_) (aS (gY (ue (eV (c8 2 Bz (ag (e2 bp (ae 3) (eI 0)) (ag (e2 bp (ae 2) (eI 0)) az))))) (cN (eC (.bl false))) b_) (aS (gY (ue (eV (c8 3 BF (ag (ae 2) (ag (e2 bp (ae 3) (eI 0)) (ag (e2 bp (ae 3) (eI 1)) az)))))) (cN (eC (.bl false))) b_) (aS (eS (cx (f7 (ag (eI 20) (ag (eI 30) az)))) (eB 4) (aS (bJ 5 (c8 3 BB (ag (ae 0) (ag (ae 4) (ag (ae 1) az))))) (gY (eV (e2 uf (c8 2 yw (ag (e2 bp (ae 3) (eI 0)) (ag (ae 5) az))) (c8 2 yw (ag (ae 2) (ag (ae 5) az))))) (cN (eC (.bl false))) b_))) (cN (c8 2 (hV 40) (ag (c8 1 vd (ag (ae 2) az)) (ag (ae 3) az))))))))))))
def f_q36:List W->List aj->R W:=d9 6 Lx
theorem Oh(F:jK K "law" "law" pY f fd)(B:Bl mg)(LD:dF P w K mg base 4 "_law_any" 3 By)(qY:dF P w K mg base 1 "_law_cell" 2 kO)(oG:dF P w K mg base 2 "_law_draws" 3 i6)(LP:dF P w K mg base 1 "_law_fits" 2 Bz)(LV:dF P w K mg base 4 "_law_grove" 3 BB)(LQ:dF P w K mg base 2 "_law_ladder" 1 BE)(LO:dF P w K mg base 3 "_law_lets" 2 yw)(LS:dF P w K mg base 3 "_law_pool" 3 Br)(vp:dF P w K mg base 40 "_law_same" 2 (hV 40))(LR:dF P w K mg base 41 "_law_tied" 3 BF)(LG:dF P w K mg base 4 "least_of" 1 vd):eQ P w K mg base (iU P w) 42 f fd Gb (jN K mg 1 f_q36):=
 cV (k:=41) F Gc rfl fun ga A outer s H E hr=>by have sc:=Gc;walk_at "w"
end
theorem Oi(ns:List α)(hl:0<ns.length)(k:Int):∃c∈ns,oP ns (k%((ns.length:Nat):Int))=some c:=by
 have h0:0<=k%((ns.length:Nat):Int):=gW _ (by omega)
 have h1:k%((ns.length:Nat):Int)<ns.length:=kq _ (by omega)
 obtain⟨m,hm⟩:=lU h0
 rw[hm]at h1 ⊢
 have h2:m<ns.length:=by omega
 exact⟨ns[m],fW _,dg (by simp[h2])⟩
theorem mi{st:List aj}(h:st[n]?=some (.ro (ns.map W.int)))(k:Int):∃c,kO [.loc n,.int k] st=.ok (.int c) st:=by
 by_cases hn:ns=[]
 ·subst hn
  refine⟨0,?_⟩
  apply nS;apply E5;apply sX
  ·(repeat' (first|with_reducible exact gP (rL h)|walk_at "ev1"))
  ·(walk_at "evs")
 ·have hl:0<ns.length:=List.length_pos_iff.mpr hn
  obtain⟨c,hc,e⟩:=Oi (ns.map W.int) (by simpa using hl) k
  obtain⟨c,_,rfl⟩:=al.mp hc
  refine⟨c,?_⟩
  apply nS;apply Ky
  ·apply sY
   ·(repeat' (first|with_reducible exact gP (rL h)|walk_at "ev1"))
    rw[aX,ai];omega
   ·(walk_at "evs")
  ·(repeat' (first|with_reducible exact gP (rL h)|with_reducible exact jU (rL h) e|walk_at "ev1"))
   rw[ai];omega
theorem Gg(c k s:Int)(hk:-(2^64)<k/\k<2^64)(st:List aj):∃r,0<=r/\yt [.int c,.int k,.int s] st=.ok (.int r) st:=by
 have big:∀q:Int,0<=q%2147483647/\q%2147483647<2147483647:=fun q=>⟨gW _ (by decide),kq _ (by decide)⟩
 refine⟨(((c+7*k*k+13*k+s)*69621%2147483647*((c+7*k*k+13*k+s)*69621%2147483647/1009+3)+31*k+s)%2147483629*48271)%1000000007,gW _ (by decide),?_⟩
 apply nS;apply Ky
 ·(walk_at "evs")<;>first|exact .inl (by decide)|exact .inr (by decide)|exact .inr hk
 ·(walk_at "evs")<;>first|exact .inl (by decide)|exact .inr (by decide)|exact .inl (by have:=big ((c+7*k*k+13*k+s)*69621);omega)
theorem jX(c s:Int)(m:Nat)(hm:m<=1000)(st:List aj):∃ds:List Int,ds.length=m/\(∀d∈ds,0<=d)/\i6 [.int c,.int m,.int s] st=.ok (.loc st.length) (st++[.lst (ds.map W.int)]):=by
 suffices hh:gG (qp fun w bx=>∃j x,w=.loc (st.length+j)/\bx=st++x/\j=0/\∃ds:List Int,x=[.lst (ds.map W.int)]/\ds.length=m/\∀d∈ds,0<=d) (Lc ([W.int c,.int m,.int s].map some++List.replicate (6-3) none) st) by
  obtain⟨j,x,⟨rfl,ds,rfl,h1,h2⟩,e⟩:=ij hh
  exact⟨ds,h1,h2,e⟩
 apply aB
 ·(walk_at "evs")
 apply aB
 ·(walk_at "evs")
 have main:∀r0:Int,gG (qp fun w bx=>∃j x,w=.loc (st.length+j)/\bx=st++x/\j=0/\∃ds:List Int,x=[.lst (ds.map W.int)]/\ds.length=m/\∀d∈ds,0<=d)
   (aS (eS (be (ag (ae 1) az)) (eB 5) (gY (eV (e2 IH (ae 4) (eI 0))) (aS (eR (n5 cy (ae 3) (ag (e2 dQ (ae 4) (eI 64)) az))) (bJ 4 (e2 su (ae 4) (eI 64)))) (eR (n5 cy (ae 3) (ag (c8 3 yt (ag (ae 0) (ag (ae 5) (ag (ae 2) az)))) az))))) (cN (ae 3))
   [iO c,iO m,iO s,lO st.length,iO r0,none] (st++[.lst []])):=by
  intro r0
  refine cz (fun i ρ bx=>∃(r:Int) (o:Option W) (ds:List Int),ρ=[iO c,iO m,iO s,lO st.length,iO r,o]/\bx=st++[.lst (ds.map W.int)]/\ds.length=i/\∀d∈ds,0<=d) (c9 (by(walk_at "evs");rfl) (by omega))
   ⟨r0,none,[],rfl,rfl,rfl,by simp⟩ (fun _ _ _ _=>trivial) ?_ ?_
  ·rintro i w ρ bx hw ⟨r,o,ds,rfl,rfl,hd,h⟩
   obtain⟨hi,rfl⟩:=eZ hw
   refine⟨_,rfl,?_⟩
   have fA:(st++[aj.lst (ds.map W.int)])[st.length]?=some (.lst (ds.map W.int)):=by rw[ca];rfl
   have hsh:(ds.map W.int).length<jF:=by rw[ai,hd];show i<1000000;omega
   by_cases hr:0<r
   ·apply kM
    ·(walk_at "evs");simpa using hr
    apply aB
    ·(repeat' (first|with_reducible exact df fA|with_reducible exact oD fA hsh|walk_at "ev1"))
    rw[dN]
    apply cY
    ·(walk_at "evs")
    ·refine⟨_,_,rfl,r/64,_,ds++[r%64],rfl,by simp,by simp[hd],fun d hd'=>?_⟩
     rcases aN.mp hd' with hd'|hd'
     ·exact h d hd'
     ·rw[br.mp hd'];exact gW _ (by decide)
   ·obtain⟨q,hq,e⟩:=Gg c (0+i) s (by omega) (st++[aj.lst (ds.map W.int)])
    apply hU
    ·(walk_at "evs");simpa using hr
    apply cY
    ·(repeat' (first|with_reducible exact df fA|with_reducible exact oD fA hsh|with_reducible exact e|walk_at "ev1"))
    ·refine⟨_,_,rfl,r,_,ds++[q],rfl,by rw[dN];simp,by simp[hd],fun d hd'=>?_⟩
     rcases aN.mp hd' with hd'|hd'
     ·exact h d hd'
     ·rw[br.mp hd'];exact hq
  ·rintro ρ bx ⟨r,o,ds,rfl,rfl,hd,h⟩
   apply cU
   ·(walk_at "evs")
   ·exact⟨_,_,rfl,0,_,rfl,rfl,rfl,ds,rfl,by rw[hd];simpa using bB 0 m,h⟩
 by_cases hc:(10:Int)^18<=c
 ·apply aB
  ·apply sX
   ·(walk_at "evs")<;>simpa using hc
   ·(walk_at "evs")
  ·exact main c
 ·apply aB
  ·apply sY
   ·(walk_at "evs")<;>simpa using hc
   ·(walk_at "evs")
  ·exact main 0
abbrev LL:List Nat:=[65,66,67,68,69,70,71,72,73,74,75,76,77,78,79,80,81,82,83,84,85,86,87,88,89,90,97,98,99,100,101,102,103,104,105,106,107,108,109,110,111,112,113,114,115,116,117,118,119,120,121,122]
theorem Jv(c s:Int)(m:Nat)(hm:m<=52)(st:List aj):∃l:List Nat,l.length=m/\l.Nodup/\(∀d∈l,d∈LL)/\Br [.int c,.int m,.int s] st=.ok (.str l) st:=by
 suffices hh:gG (qp fun w bx=>(∃x,bx=st++x)/\undWs st.length [w]=true/\∃l:List Nat,w=.str l/\l.length=m/\l.Nodup/\∀d∈l,d∈LL) (Ld ([W.int c,.int m,.int s].map some++List.replicate (7-3) none) st) by
  obtain⟨w,⟨l,rfl,h1,h2,h3⟩,e⟩:=iW hh
  exact⟨l,h1,h2,h3,e⟩
 obtain⟨ds,h1,h2,e⟩:=jX c s m (by omega) st
 apply aB
 ·(walk_at "evs")
 apply aB
 ·(walk_at "evs")
 have fA:lstOf (st++[aj.lst (ds.map W.int)]) st.length=some (ds.map W.int):=aK (by rw[ca];rfl)
 refine cz (fun i ρ bx=>∃(r f:List Nat) (o o2:Option W),ρ=[iO c,iO m,iO s,some (.str r),some (.str f),o,o2]/\bx=st++[.lst (ds.map W.int)]/\f.length=i/\r.length+i=52/\(f++r).Perm LL) (fq (by(repeat' (first|with_reducible exact e|walk_at "ev1"))) fA)
  ⟨LL,[],none,none,rfl,rfl,rfl,rfl,.refl _⟩ (fun i ρ bx h=>?_) ?_ ?_
 ·obtain⟨r,f,o,o2,rfl,rfl,_⟩:=h
  exact fA
 ·rintro i w ρ bx hw ⟨r,f,o,o2,rfl,rfl,hf,hr,hfl⟩
  obtain⟨d,hd,rfl⟩:∃d,ds[i]?=some d/\w=.int d:=by
   simp only[ak,a6]at hw
   obtain⟨d,h1,rfl⟩:=hw
   exact⟨d,h1,rfl⟩
  have hi:i<m:=by rw[<- h1];exact(aa.mp hd).1
  obtain⟨q,hq,eq⟩:=fw (q:=d) (n:=r.length) (by omega)
  have hL:r.length<=jF:=by show _<=1000000;omega
  have hLf:f.length<=jF:=by show _<=1000000;omega
  have hat:oP r (d%(r.length:Int))=some r[q]:=by rw[eq];exact dg (by simp[hq])
  refine⟨_,rfl,?_⟩
  apply aB
  ·(repeat' (first|with_reducible exact s_ hL|walk_at "ev1"))
   show 0<(r.length:Int);omega
  apply aB
  ·have ha:f.length+[r[q]].length<=jF:=by show _+1<=1000000;omega
   (repeat' (first|with_reducible exact E9 hL hat|with_reducible exact E6 ha|walk_at "ev1"))
  apply cY
  ·(repeat' (first|with_reducible exact Rt hL|walk_at "ev1"))
   rw[eq,rM (by omega),show((q:Int)+1)=((q+1:Nat):Int)from rfl,rN (by omega),a8,d5]
   show _<=1000000;omega
  ·refine⟨_,_,rfl,_,_,_,_,rfl,rfl,by simp[hf],?_,?_⟩
   ·rw[eq,rM (by omega),show((q:Int)+1)=((q+1:Nat):Int)from rfl,rN (by omega),aF,a8,d5]
    omega
   ·rw[eq,rM (by omega),show((q:Int)+1)=((q+1:Nat):Int)from rfl,rN (by omega)]
    refine List.Perm.trans ?_ hfl
    rw[av]
    refine List.Perm.append_left f ?_
    have e:r=r.take q++r[q]::r.drop (q+1):=by rw[<- fC hq,nj]
    have e2:(r[q]::(r.take q++r.drop (q+1))).Perm r:=(List.perm_middle.symm).trans (by rw[<- e])
    exact e2
 ·rintro ρ bx ⟨r,f,o,o2,rfl,rfl,hf,hr,hfl⟩
  apply cU
  ·(walk_at "evs")
  ·exact⟨_,_,rfl,⟨_,rfl⟩,rfl,f,rfl,by rw[hf];simpa using h1,(cR.mp (hfl.nodup_iff.mpr (by decide))).1,fun d hd=>hfl.mem_iff.mp (cW _ hd)⟩
theorem gT{st s:List aj}{p:Nat}{c:aj}(h:st <+: s)(hp:st.length<=p):st <+: s.set p c:=by
 obtain⟨x,rfl⟩:=h
 rw[show p=st.length+(p-st.length) by omega,ie]
 exact ao _ _
theorem mj{st s y:List aj}(h:st <+: s):st <+: s++y:=h.trans (ao _ _)
theorem pre_get{st s:List aj}{c:aj}(h:st <+: s)(e:st[i]?=some c):s[i]?=some c:=by
 obtain⟨x,rfl⟩:=h
 exact aM e
theorem jh{s:List aj}{p:Nat}{c d:aj}(h:s[p]?=some d):(s.set p c)[p]?=some c:=by
 rw[bv (aa.mp h).1]
theorem Ab{s:List aj}{p:Nat}{c:aj}(h:p≠q):(s.set p c)[q]?=s[q]?:=bP h
theorem Oj{s:List aj}{p:Nat}{c:aj}(h:s[p]?=some c):p<s.length:=(aa.mp h).1
theorem bg{s:List aj}{c:aj}:(s++[c])[s.length]?=some c:=by rw[ca];rfl
def kA(l:List Int):List W:=l.map W.int
theorem eG{s:List aj}{p i:Nat}{ds:List Int}{d:Int}(h:s[p]?=some (.lst (kA ds)))(e:ds[i]?=some d):bp (.loc p) (.int i) s=.ok (.int d) s:=jU (aK h) (dg (by rw[kA,ak,e];rfl))
theorem Gh(d:Int)(st:List aj):∃c n:Nat,c<=5/\1<=n/\n<=9/\n*n*2^c<=200/\Bs [.int d] st=.ok (.tup [.int c,.int n]) st:=by
 suffices hh:gG (qp fun w bx=>(∃x,bx=st++x)/\undWs st.length [w]=true/\∃c n:Nat,w=.tup [.int c,.int n]/\c<=5/\1<=n/\n<=9/\n*n*2^c<=200) (Le ([W.int d].map some++List.replicate (2-1) none) st) by
  obtain⟨w,⟨c,n,rfl,h1,h2,h3,h4⟩,e⟩:=iW hh
  exact⟨c,n,h1,h2,h3,h4,e⟩
 apply aB
 ·(walk_at "evs")
 have hd:d%12=0\/d%12=1\/d%12=2\/d%12=3\/d%12=4\/d%12=5\/d%12=6\/d%12=7\/d%12=8\/d%12=9\/d%12=10\/d%12=11:=by
  obtain⟨m,hm,em⟩:=fw (q:=d) (n:=12) (by decide)
  rw[show d%12=_ from em]
  clear em
  revert m
  decide
 have hm:e2 dQ (ae 0) (eI 12) (([W.int d].map some++List.replicate (2-1) none).set 1 (some (.tup [.tup [.int 0,.int 1],.tup [.int 0,.int 5],.tup [.int 0,.int 9],.tup [.int 1,.int 2],.tup [.int 1,.int 4],.tup [.int 1,.int 6],.tup [.int 2,.int 1],.tup [.int 2,.int 3],.tup [.int 2,.int 5],.tup [.int 3,.int 2],.tup [.int 3,.int 4],.tup [.int 5,.int 2]]))) st=.ok (.int (d%12)) st:=bd kv bZ (gE (by decide))
 have fin:∀(c n:Nat),c<=5->1<=n->n<=9->n*n*2^c<=200->oP [W.tup [.int 0,.int 1],.tup [.int 0,.int 5],.tup [.int 0,.int 9],.tup [.int 1,.int 2],.tup [.int 1,.int 4],.tup [.int 1,.int 6],.tup [.int 2,.int 1],.tup [.int 2,.int 3],.tup [.int 2,.int 5],.tup [.int 3,.int 2],.tup [.int 3,.int 4],.tup [.int 5,.int 2]] (d%12)=some (.tup [.int c,.int n]) ->
   gG (qp fun w bx=>(∃x,bx=st++x)/\undWs st.length [w]=true/\∃c n:Nat,w=.tup [.int c,.int n]/\c<=5/\1<=n/\n<=9/\n*n*2^c<=200) (cN (e2 bp (ae 1) (e2 dQ (ae 0) (eI 12))) (([W.int d].map some++List.replicate (2-1) none).set 1 (some (.tup [.tup [.int 0,.int 1],.tup [.int 0,.int 5],.tup [.int 0,.int 9],.tup [.int 1,.int 2],.tup [.int 1,.int 4],.tup [.int 1,.int 6],.tup [.int 2,.int 1],.tup [.int 2,.int 3],.tup [.int 2,.int 5],.tup [.int 3,.int 2],.tup [.int 3,.int 4],.tup [.int 5,.int 2]]))) st):=fun c n h1 h2 h3 h4 e=>by
  apply cU
  ·exact bd kv hm (hJ e)
  ·exact⟨_,_,rfl,⟨[],by simp⟩,rfl,c,n,rfl,h1,h2,h3,h4⟩
 rcases hd with h|h|h|h|h|h|h|h|h|h|h|h
 ·exact fin 0 1 (by decide) (by decide) (by decide) (by decide) (by rw[h];rfl)
 ·exact fin 0 5 (by decide) (by decide) (by decide) (by decide) (by rw[h];rfl)
 ·exact fin 0 9 (by decide) (by decide) (by decide) (by decide) (by rw[h];rfl)
 ·exact fin 1 2 (by decide) (by decide) (by decide) (by decide) (by rw[h];rfl)
 ·exact fin 1 4 (by decide) (by decide) (by decide) (by decide) (by rw[h];rfl)
 ·exact fin 1 6 (by decide) (by decide) (by decide) (by decide) (by rw[h];rfl)
 ·exact fin 2 1 (by decide) (by decide) (by decide) (by decide) (by rw[h];rfl)
 ·exact fin 2 3 (by decide) (by decide) (by decide) (by decide) (by rw[h];rfl)
 ·exact fin 2 5 (by decide) (by decide) (by decide) (by decide) (by rw[h];rfl)
 ·exact fin 3 2 (by decide) (by decide) (by decide) (by decide) (by rw[h];rfl)
 ·exact fin 3 4 (by decide) (by decide) (by decide) (by decide) (by rw[h];rfl)
 ·exact fin 5 2 (by decide) (by decide) (by decide) (by decide) (by rw[h];rfl)
theorem yx{st:List aj}(h:lstOf st n=some (ls.map W.str))(hl:ls.length<64):oX [.loc n] st=.ok (.loc st.length) (st++[.lst ((iC ls).map W.str)]):=by
 show nO [.loc n] st=_
 unfold nO
 simp only[h,cw,uR]
 rw[ay hl]
theorem tu{a b:List (List Nat)}(h:a.Perm b):(a.map List.length).sum=(b.map List.length).sum:=by
 induction h with
 |nil=>rfl
 |cons x _ ih=>simp only[aG,lA,ih]
 |swap x y l=>simp only[aG,lA];omega
 |trans _ _ ih1 ih2=>rw[ih1,ih2]
theorem yy(l:List Nat):(((l.map fun c=>[c])).map List.length).sum=l.length:=by
 induction l with
 |nil=>rfl
 |cons a r ih=>simp only[aG,lA,a9,ih,dP];omega
def C9(l:List Nat):List Nat:=nu [] (iC (l.map fun c=>[c]))
theorem Jw(l:List Nat):(C9 l).length=l.length:=by
 unfold C9;rw[qu,List.length_flatten,tu (gZ _),yy]
theorem Jx{st s1:List aj}(h:fe ρ st=.ok (.loc n) s1)(hc:lstOf s1 n=some ((l.map fun c=>[c]).map W.str))(hl:l.length<64) :
  Ps qP (eC (.str [])) (ag (a_ oX (ag fe az)) az) ρ st=.ok (.str (C9 l)) (s1++[.lst ((iC (l.map fun c=>[c])).map W.str)]):=by
 have hs:=yx hc (by simpa using hl)
 have hcell2:lstOf (s1++[aj.lst ((iC (l.map fun c=>[c])).map W.str)]) s1.length=some ((iC (l.map fun c=>[c])).map W.str):=aK bg
 have hj:=E_ (sep:=[]) hcell2 (by rw[tu (gZ _),yy];show _<=1000000;simp;omega)
 exact NA bZ rfl (aq (bb (aq h bc) hs) bc) hj
theorem Gi(pool:List Nat)(c:Nat)(hp:pool.length<=50)(hc:c<=pool.length)(st:List aj):Bt [.str pool,.int c] st=.ok (.str (C9 (pool.take c))) st:=by
 have hL:pool.length<=jF:=by show _<=1000000;omega
 have hcm:c_ [none,some 0] (be (ag (ae 1) az)) (eB 0) gR (e2 bp (ae 1) (ae 0)) [some (.str pool),iO c] st=.ok (.loc st.length) (st++[.lst (((pool.take c).map fun c=>[c]).map W.str)]):=by
  have:=gu (fi:=be (ag (ae 1) az)) (f:=eB 0) (el:=e2 bp (ae 1) (ae 0)) (cap:=[none,some 0]) (ρ:=[some (.str pool),iO c]) (st:=st) (st1:=st) (ws:=bM 0 c) (ck:=none) (fun w=>match w with|.int i=>.str [pool.getD i.toNat 0]|_=>.non)
   (by
    have:=c9 (fs:=ag (ae 1) az) (ρ:=[some (.str pool),iO c]) (st:=st) (st1:=st) (q:=(c:Int)) kn (by omega)
    rw[aO]at this
    exact this) (by rw[bB];show _<=1000000;omega) trivial ?_
  ·have e:(bM 0 c).map (fun w=>match w with|.int i=>W.str [pool.getD i.toNat 0]|_=>.non)=((pool.take c).map fun c=>[c]).map W.str:=by
    refine iS (by simp[bB];omega) fun i h1 h2=>?_
    have hi:i<c:=by simpa[bB]using h1
    rw[dC,dC,dC,List.getElem_take]
    unfold bM
    rw[dC,g9]
    show W.str [pool.getD ((0:Int)+(i:Int)).toNat 0]=_
    rw[show((0:Int)+(i:Int)).toNat=i by omega,aE,ac (by omega)];rfl
   rw[this,e]
  ·intro w hw
   obtain⟨i,hi,rfl⟩:=nV hw
   refine⟨[iO (0+(i:Int)),some (.str pool)],rfl,bd kv kv ?_⟩
   rw[show((0:Int)+(i:Int))=(i:Int) by omega]
   have e2:oP pool (i:Int)=some (pool.getD i 0):=dg (by rw[aE,ac (by omega)];rfl)
   rw[E9 hL e2]
   simp
 have dq:(pool.take c).length=c:=by rw[a8];omega
 have hj:=Jx hcm (aK bg) (by omega)
 refine iL (N:=2) (ws:=[.str pool,.int c]) (body:=Lf) ?_ rfl
 apply cU
 ·exact hj
 ·exact⟨_,_,rfl,rfl,_,by rw[av]⟩
theorem Ol{fs:FA}{st st1:List aj}{i j k:Int}(h:fs ρ st=.ok [.int i,.int j,.int k] st1)(hq:-(2^60)<=i/\i<2^60/\-(2^60)<=j/\j<2^60/\0<k/\k<=1000):vS fs ρ st=.ok (qR i k (oB i j k),none) st1:=by
 unfold vS;rw[h];simp only[R.bind_ok];rw[ay hq]
theorem Gj{i k:Int}{w:W}(h:(qR i k n)[m]?=some w):m<n/\w=.int (i+m*k):=by
 unfold qR at h
 obtain⟨h1,h2⟩:=aa.mp h
 simp only[ai,cP]at h1
 exact⟨h1,by rw[<- h2];simp⟩
theorem C_(i k:Int)(n:Nat):(qR i k n).length=n:=by simp[qR]
theorem vg{n0:Nat}{st:List aj}(h0:st[n0]?=some (.ro (ns.map W.int)))(a:Int)(og:Nat)(J8:Int)(hm:og<=1000) :
  ∃(j:Nat) (x:List aj) (ds:List Int),ds.length=og/\(∀d∈ds,0<=d)/\x[j]?=some (.lst (kA ds))/\ve [.loc n0,.int a,.int og,.int J8] st=.ok (.loc (st.length+j)) (st++x):=by
 suffices hh:gG (qp fun w bx=>∃j x,w=.loc (st.length+j)/\bx=st++x/\∃ds:List Int,ds.length=og/\(∀d∈ds,0<=d)/\x[j]?=some (.lst (kA ds))) (Lg ([W.loc n0,.int a,.int og,.int J8].map some++List.replicate (6-4) none) st) by
  obtain⟨j,x,⟨ds,h1,h2,h3⟩,e⟩:=ij hh
  exact⟨j,x,ds,h1,h2,h3,e⟩
 apply aB
 ·(walk_at "evs")
 refine cz (fun i ρ s=>∃(p:Nat) (ds:List Int) (o5:Option W),ρ=[lO n0,iO a,iO og,iO J8,lO p,o5]/\st <+: s/\st.length<=p/\s[p]?=some (.lst (kA ds))/\ds.length=min og (50*i)/\∀d∈ds,0<=d) (Ol (i:=0) (j:=og) (k:=50) (st1:=st++[aj.lst []]) (by(walk_at "evs")) (by omega))
  ⟨st.length,[],none,rfl,ao _ _,aw _,bg,by simp,by simp⟩ (fun _ _ _ _=>trivial) ?_ ?_
 ·rintro i w ρ s hw ⟨p,ds,o5,rfl,hp,qh,hc,hl,Dp⟩
  obtain⟨hi,rfl⟩:=Gj hw
  refine⟨_,rfl,?_⟩
  have hlt:(50:Int)*i<og:=by
   unfold oB at hi
   split at hi
   ·omega
   ·omega
  obtain⟨c,ec⟩:=mi (pre_get hp h0) (a+(0+(i:Int)*50)/50)
  obtain⟨mm,hmm,emm⟩:∃mm:Nat,mm=min 50 (og-50*i)/\zx [.int 50,.int ((og:Int)-(0+(i:Int)*50))] s=.ok (.int mm) s:=by
   refine⟨min 50 (og-50*i),rfl,?_⟩
   show R.ok (W.int (if (og:Int)-(0+(i:Int)*50)<50 then(og:Int)-(0+(i:Int)*50)else 50)) s=_
   congr 2
   split<;>omega
  obtain⟨es,hes,hep,ee⟩:=jX c (J8+1009*(0+(i:Int)*50)) mm (by omega) s
  have ad:=E7 (st:=s++[aj.lst (es.map W.int)]) (pre_get (ao _ _) hc) bg (by simp[kA];show _<=1000000;omega)
  have cm:zv 1009 (0+(i:Int)*50):=.inl (by decide)
  apply cY
  ·(walk_at "evs")
   all_goals first|exact cm|exact(by decide)
  ·refine⟨_,_,rfl,_,ds++es,_,rfl,mj (mj hp),?_,?_,?_,?_⟩
   ·have:=Oj hc;simp;omega
   ·rw[bg];simp[kA]
   ·rw[aF];omega
   ·intro d hd
    rcases aN.mp hd with z|z
    ·exact Dp d z
    ·exact hep d z
 ·rintro ρ s ⟨p,ds,o5,rfl,⟨x,rfl⟩,qh,hc,hl,Dp⟩
  rw[C_]at hl
  have hmn:og<=50*oB 0 og 50:=by
   unfold oB
   split
   ·omega
   ·omega
  apply cU
  ·(walk_at "evs")
  ·refine⟨_,_,rfl,p-st.length,x,by rw[show st.length+(p-st.length)=p by omega],rfl,ds,by omega,Dp,?_⟩
   rw[bX qh]at hc
   exact hc
theorem Gk(g l r:Nat)(st:List aj):∃k:Nat,yu [.int g,.int l,.int r] st=.ok (.int k) st:=by
 by_cases h0:g=0
 ·subst h0
  refine⟨l+r,?_⟩
  apply lL
  apply eF
  ·(walk_at "evs")
  apply fG
  ·(walk_at "evs")
  ·exact⟨_,_,rfl,rfl,rfl⟩
 ·have t0:((g:Int)==0)=false:=by rw[aX];omega
  by_cases h1:g=1
  ·subst h1
   refine⟨if r>l then r else l,?_⟩
   have mx:Ek [.int l,.int r] st=.ok (.int ((if r>l then r else l:Nat):Int)) st:=by
    show R.ok (W.int (if (r:Int)>(l:Int)then(r:Int)else(l:Int))) st=_
    congr 2
    split<;>split<;>omega
   apply lL
   apply bC
   ·(walk_at "evs")
   apply bR
   apply eF
   ·(walk_at "evs")
   apply fG
   ·(walk_at "evs")
   ·exact⟨_,_,rfl,rfl,rfl⟩
  ·have t1:((g:Int)==1)=false:=by rw[aX];omega
   by_cases h2:g=2
   ·subst h2
    refine⟨l,?_⟩
    apply lL
    apply bC
    ·(walk_at "evs")
    apply bR
    apply bC
    ·(walk_at "evs")
    apply bR
    apply eF
    ·(walk_at "evs")
    apply fG
    ·(walk_at "evs")
    ·exact⟨_,_,rfl,rfl,rfl⟩
   ·have t2:((g:Int)==2)=false:=by rw[aX];omega
    refine⟨r,?_⟩
    apply lL
    apply bC
    ·(walk_at "evs")
    apply bR
    apply bC
    ·(walk_at "evs")
    apply bR
    apply bC
    ·(walk_at "evs")
    apply bR
    apply cU
    ·(walk_at "evs")
    ·exact⟨_,_,rfl,rfl,rfl⟩
section
variable{st:List aj}{fs:FA}
theorem Jy(V:β->W)(Pb:Nat->β->Prop)(hr:fs ρ st=.ok [.int n] st)(hn:n<=100000)(h:∀i:Nat,i<n->∃b,Pb i b/\el ((pM cap ρ).set 0 (iO i)) st=.ok (V b) st) :
  ∃r:List β,r.length=n/\(∀i b,r[i]?=some b->Pb i b)/\c_ cap (be fs) (eB 0) gR el ρ st=.ok (.loc st.length) (st++[.lst (r.map V)]):=by
 let f:Fin n->β:=fun i=>Classical.choose (h i i.2)
 have hf:∀i:Fin n,Pb i (f i)/\el ((pM cap ρ).set 0 (iO (i:Nat))) st=.ok (V (f i)) st:=fun i=>Classical.choose_spec (h i i.2)
 let Y:W->W:=fun w=>match w with
  |.int z=>if hz:z.toNat<n then V (f ⟨z.toNat,hz⟩)else .non
  |_=>.non
 have ir:be fs ρ st=.ok (bM 0 n,none) st:=by
  have:=c9 hr (by omega)
  rw[aO]at this
  exact this
 have hc:=gu (fi:=be fs) (f:=eB 0) (el:=el) (cap:=cap) (ρ:=ρ) Y ir (by rw[bB];show _<=1000000;omega) trivial fun w hw=>by
  obtain⟨i,hi,rfl⟩:=nV hw
  refine⟨_,rfl,?_⟩
  rw[show((0:Int)+(i:Int))=(i:Int) by omega]
  show _=R.ok (if hz:(i:Int).toNat<n then V (f ⟨(i:Int).toNat,hz⟩)else .non) st
  rw[mH (show(i:Int).toNat<n by omega)]
  exact(hf ⟨i,hi⟩).2
 refine⟨List.ofFn f,by simp,fun i b hb=>?_,?_⟩
 ·obtain⟨h1,h2⟩:=aa.mp hb
  rw[List.getElem_ofFn]at h2
  rw[<- h2]
  exact(hf ⟨i,by simpa using h1⟩).1
 ·rw[hc]
  have e:(bM 0 n).map Y=(List.ofFn f).map V:=by
   refine iS (by simp[bB]) fun i h1 h2=>?_
   have hi:i<n:=by simpa[bB]using h1
   rw[dC,dC,List.getElem_ofFn]
   unfold bM
   rw[dC,g9,show((0:Int)+(i:Int))=(i:Int) by omega]
   show(if hz:(i:Int).toNat<n then V (f ⟨(i:Int).toNat,hz⟩)else .non)=_
   rw[mH (show(i:Int).toNat<n by omega)]
  rw[e]
theorem tw(V:β->W)(Pb:Nat->β->Prop)(hr:fs ρ st=.ok [.int n] st)(hn:n<=100000)(h:∀i:Nat,i<n->∃b,Pb i b/\el ((pM cap ρ).set 0 (iO i)) st=.ok (V b) st) :
  ∃r:List β,r.length=n/\(∀i b,r[i]?=some b->Pb i b)/\a_ cX (ag (c_ cap (be fs) (eB 0) gR el) az) ρ st=.ok (.tup (r.map V)) (st++[.lst (r.map V)]):=by
 obtain⟨r,h1,h2,e⟩:=Jy (cap:=cap) (el:=el) V Pb hr hn h
 exact⟨r,h1,h2,bb (aq e bc) (fB (aK bg))⟩
end
structure Mc where
 nm:List Nat
 gd:List Bool
 tb:List (List (List Nat))
def g7(r:List Nat):W:=.tup (r.map fun k=>W.int (k:Nat))
def dH(t:List (List Nat)):W:=.tup (t.map g7)
def Mc.w(M:Mc):W:=.tup [.str M.nm,.tup (M.gd.map W.bl),.tup (M.tb.map dH)]
def Dx(n:Nat)(t:List (List Nat)):Prop:=t.length=n/\∀r∈t,r.length=n/\∀k∈r,k<n
structure n9(M:Mc)(n:Nat):Prop where
 gd:M.gd.length=n
 tb:M.tb.length=2^M.nm.length
 t:∀t∈M.tb,Dx n t
theorem Jz(r:List Nat)(n:Nat):(g7 r).und n=true:=by
 unfold g7 W.und
 induction r with
 |nil=>rfl
 |cons x r ih=>simp only[aG,undWs,ih,b8];rfl
theorem BG(t:List (List Nat))(n:Nat):(dH t).und n=true:=by
 unfold dH W.und
 induction t with
 |nil=>rfl
 |cons x r ih=>simp only[aG,undWs,ih,b8];exact Jz x n
theorem Gm(t:List (List (List Nat)))(n:Nat):undWs n (t.map dH)=true:=by
 induction t with
 |nil=>rfl
 |cons x r ih=>simp only[aG,undWs,ih,b8];exact BG x n
theorem BH(t:List Bool)(n:Nat):undWs n (t.map W.bl)=true:=by
 induction t with
 |nil=>rfl
 |cons x r ih=>simp only[aG,undWs,ih,b8];rfl
theorem ph(M:Mc)(n:Nat):M.w.und n=true:=by
 unfold Mc.w
 simp[W.und,undWs,Gm,BH]
theorem xC{c:Nat}{st:List aj}(h:c<=100):vK (.int 1) (.int c) st=.ok (.int ((2^c:Nat):Int)) st:=by
 have:=gE (C:=fun i j=>0<=j/\j<=1000000/\i.natAbs<2^64) (f:=fun i j=>i*2^j.toNat) (p:=1) (q:=(c:Int)) (st:=st) ⟨by omega,by omega,by decide⟩
 rw[show vK (.int 1) (.int c) st=_ from this]
 simp
theorem ml{s:List aj}{p:Nat}{y:W}(h:s[p]?=some (.lst ws))(hl:ws.length<1000000):cy (.loc p) [y] s=.ok .non (s.set p (.lst (ws++[y]))):=oD h hl
theorem Da(nm:List Nat)(n dl:Nat)(ds:List Int)(st:List aj)(y6:nm.length<=6)(hn:1<=n)(DC:n<=9)(hd:st[dl]?=some (.lst (kA ds)))(AC:4<=ds.length)(Dp:∀d∈ds,0<=d) :
  ∃M:Mc,M.nm=nm/\n9 M n/\Bu [.str nm,.int n,.loc dl] st=.ok M.w st:=by
 suffices hh:gG (qp fun w bx=>(∃x,bx=st++x)/\undWs st.length [w]=true/\∃M:Mc,w=M.w/\M.nm=nm/\n9 M n) (Lh ([W.str nm,.int n,.loc dl].map some++List.replicate (9-3) none) st) by
  obtain⟨w,⟨M,rfl,h1,h2⟩,e⟩:=iW hh
  exact⟨M,h1,h2,e⟩
 obtain⟨d0,d1,d2,d3,dr,rfl⟩:∃a b c d r,ds=a::b::c::d::r:=by
  match ds,AC with
  |a::b::c::d::r,_=>exact⟨_,_,_,_,_,rfl⟩
 have dq:∀s:List aj,cS [.str nm] s=.ok (.int nm.length) s:=fun s=>s_ (by show _<=1000000;omega)
 have p2:2^nm.length<=64:=gK (by omega) y6
 obtain⟨N,hN⟩:∃N,N=2^nm.length:=⟨_,rfl⟩
 have sh:∀s:List aj,vK (.int 1) (.int nm.length) s=.ok (.int N) s:=fun s=>by rw[hN];exact xC (by omega)
 rw[<- hN]at p2
 have ix0:∀s:List aj,st <+: s->bp (.loc dl) (.int 0) s=.ok (.int d0) s:=fun s h=>eG (i:=0) (pre_get h hd) rfl
 have ix1:∀s:List aj,st <+: s->bp (.loc dl) (.int 1) s=.ok (.int d1) s:=fun s h=>eG (i:=1) (pre_get h hd) rfl
 have ix2:∀s:List aj,st <+: s->bp (.loc dl) (.int 2) s=.ok (.int d2) s:=fun s h=>eG (i:=2) (pre_get h hd) rfl
 have ix3:∀s:List aj,st <+: s->bp (.loc dl) (.int 3) s=.ok (.int d3) s:=fun s h=>eG (i:=3) (pre_get h hd) rfl
 apply aB
 ·(walk_at "evs")
 refine cz (fun i ρ s=>∃(tb:List (List (List Nat))) (o4 o5 o6 o7:Option W),ρ=[some (.str nm),iO n,lO dl,lO st.length,o4,o5,o6,o7,none]/\st <+: s/\s[st.length]?=some (.lst (tb.map dH))/\tb.length=i/\∀t∈tb,Dx n t)
  (c9 (q:=(N:Int)) (st1:=st++[aj.lst []]) (aq (bd bZ (bb kn (dq _)) (sh _)) bc) (by omega))
  ⟨[],none,none,none,none,rfl,ao _ _,bg,rfl,by simp⟩ (fun _ _ _ _=>trivial) ?_ ?_
 ·rintro i w ρ s hw ⟨tb,o4,o5,o6,o7,rfl,hp,hc,hl,ht⟩
  obtain⟨hi,rfl⟩:=eZ hw
  refine⟨_,rfl,?_⟩
  have hl1:=dq s
  have i1:=ix1 s hp
  apply aB
  ·(walk_at "evs")
  refine kN (fun ρ s'=>∃(m:Nat) (o4:Option W),ρ=[some (.str nm),iO n,lO dl,lO st.length,o4,iO m,o6,o7,none]/\s'=s) ?_ ?_
  ·by_cases h0:nm.length=0
   ·have t0:((nm.length:Int)==0)=true:=by rw[b9];omega
    apply kM
    ·(walk_at "evs")
    apply cY
    ·(walk_at "evs")
    ·exact⟨_,_,rfl,1,_,rfl,rfl⟩
   ·have t0:((nm.length:Int)==0)=false:=by rw[aX];omega
    apply hU
    ·(walk_at "evs")
    apply cY
    ·(walk_at "evs")
    ·exact⟨_,_,rfl,((0+(i:Int))%2+d1%2).toNat,_,by rw[Int.toNat_of_nonneg (by omega)];rfl,rfl⟩
  rintro ρ s' ⟨m,o4,rfl,rfl⟩
  apply aB
  ·(walk_at "evs")
  refine cz (fun j ρ z=>∃(fS:List (List Nat)) (o7:Option W),ρ=[some (.str nm),iO n,lO dl,lO st.length,o4,iO m,lO s'.length,o7,none]/\s' <+: z/\z[s'.length]?=some (.lst (fS.map g7))/\fS.length=j/\∀r∈fS,r.length=n/\∀k∈r,k<n)
   (c9 (q:=(n:Int)) (st1:=s'++[aj.lst []]) (by(walk_at "evs")) (by omega)) ⟨[],_,rfl,ao _ _,bg,rfl,by simp⟩ (fun _ _ _ _=>trivial) ?_ ?_
  ·rintro j w ρ z hw ⟨fS,o7,rfl,hz,hcz,hrl,hr⟩
   obtain⟨hj,rfl⟩:=eZ hw
   refine⟨_,rfl,?_⟩
   obtain⟨g,hg,eg⟩:=fw (q:=d0) (n:=4) (by omega)
   have eg:d0%4=(g:Int):=eg
   obtain⟨r,hrn,hrb,er⟩:=tw (cap:=[none,some 1,some 5,some 7,some 2]) (ρ:=[some (.str nm),iO n,lO dl,lO st.length,o4,iO m,lO s'.length,iO (0+(j:Int)),none]) (st:=z) (fs:=ag (ae 1) az) (n:=n)
    (el:=a_ zx (ag (e2 m3 (ae 1) (eI 1)) (ag (e2 d8 (c8 3 yu (ag (e2 dQ (e2 bp (ae 4) (eI 0)) (eI 4)) (ag (ae 3) (ag (ae 0) az)))) (ae 2)) az))) (fun k:Nat=>W.int (k:Nat)) (fun _ k=>k<n) kn (by omega) fun q hq=>by
     obtain⟨k,ek⟩:=Gk g j q z
     rw[<- eg,show(j:Int)=0+(j:Int) by omega]at ek
     refine⟨min (n-1) (k+m),by omega,?_⟩
     refine bb (aq (bd kv bZ (gE trivial)) (aq (bd (cI (aq (bd (bd kv bZ (ix0 z (hp.trans hz))) bZ (gE (by decide))) (aq kv kn)) ek rfl) kv eD) bc)) ?_
     show R.ok (W.int (if (k:Int)+(m:Int)<(n:Int)-1 then(k:Int)+(m:Int)else(n:Int)-1)) z=_
     congr 2
     split<;>omega
   have ap:=ml (y:=g7 r) (pre_get (s:=z++[.lst (r.map fun k:Nat=>W.int k)]) (ao _ _) hcz) (by rw[ai];omega)
   apply cY
   ·exact eW (jz kv (df hcz) (aq er bc) ap)
   ·refine⟨_,_,rfl,fS++[r],_,rfl,gT (mj hz) (aw _),?_,by simp[hrl],?_⟩
    ·rw[jh (pre_get (ao _ _) hcz)];simp
    ·intro x hx
     rcases aN.mp hx with y|y
     ·exact hr x y
     ·simp at y;subst y
      refine⟨hrn,fun k hk=>?_⟩
      obtain⟨q,hq⟩:=aZ hk
      exact hrb q k hq
  ·rintro ρ z ⟨fS,o7,rfl,hz,hcz,hrl,hr⟩
   have hrl:fS.length=n:=by rw[hrl];simp[bB]
   have hcp:=pre_get hz hc
   have ap:=ml (y:=dH fS) hcp (by rw[ai,hl];omega)
   apply cY
   ·exact eW (jz kv (df hcp) (aq (bb kn (fB (aK hcz))) bc) ap)
   ·refine⟨_,_,rfl,tb++[fS],_,_,_,_,rfl,gT (hp.trans hz) (aw _),?_,by simp[hl],?_⟩
    ·rw[jh hcp];simp
    ·intro x hx
     rcases aN.mp hx with y|y
     ·exact ht x y
     ·simp at y;subst y
      exact⟨hrl,hr⟩
 ·rintro ρ s ⟨tb,o4,o5,o6,o7,rfl,hp,hc,hl,ht⟩
  have hl:tb.length=N:=by rw[hl];simp[bB]
  have i2:=ix2 s hp
  have i3:=ix3 s hp
  apply aB
  ·(walk_at "evs")
  refine kN (fun ρ s'=>∃k:Int,ρ=[some (.str nm),iO n,lO dl,lO st.length,o4,o5,o6,o7,iO k]/\s'=s) ?_ ?_
  ·by_cases h1:d2%2=1
   ·have t1:(d2%2==1)=true:=b9.mpr h1
    have pn:(0:Int)<(n:Int):=by omega
    apply kM
    ·(walk_at "evs")
    apply cY
    ·(walk_at "evs")
     all_goals exact pn
    ·exact⟨_,_,rfl,_,rfl,rfl⟩
   ·have t1:(d2%2==1)=false:=aX.mpr h1
    apply hU
    ·(walk_at "evs")
    apply cY
    ·(walk_at "evs")
    ·exact⟨_,_,rfl,_,rfl,rfl⟩
  rintro ρ s' ⟨k,rfl,rfl⟩
  obtain⟨gd,hgl,_,eg⟩:=tw (cap:=[none,some 8]) (ρ:=[some (.str nm),iO n,lO dl,lO st.length,o4,o5,o6,o7,iO k]) (st:=s') (fs:=ag (ae 1) az) (n:=n)
   (el:=e2 ky (ae 0) (ae 1)) W.bl (fun _ _=>True) kn (by omega) fun q hq=>⟨_,trivial,bd kv kv (gF rfl)⟩
  obtain⟨x,rfl⟩:=hp
  apply cU
  ·exact iE (aq kv (aq eg (aq (bb kn (fB (aK (pre_get (ao _ _) hc)))) bc))) (bI rfl)
  ·exact⟨_,_,rfl,⟨_,by rw[av]⟩,by simp only[undWs,b8];exact ph ⟨nm,gd,tb⟩ _,⟨nm,gd,tb⟩,rfl,rfl,hgl,by rw[hl,hN],ht⟩
theorem Om(h:q<n):AH n (q:Int)=some q:=by
 unfold AH
 rw[ay (by omega),ay (by omega)];simp
theorem wp{s:List aj}{p:Nat}{v:W}(h:s[p]?=some (.lst ws))(hq:q<ws.length):mP (.loc p) (.int q) v s=some (s.set p (.lst (ws.set q v))):=ND h (Om hq)
theorem Gn{fs:FA}{st:List aj}{i j:Int}(h:fs ρ st=.ok [.int i,.int j] st1)(hq:-(2^62)<=i/\i<2^62/\-(2^62)<=j/\j<2^62):pK fs ρ st=.ok (bM i (j-i).toNat,none) st1:=by
 unfold pK;rw[h];simp only[R.bind_ok];rw[ay hq]
theorem Ac{s:List aj}:nw [.tup ws] s=.ok (.loc s.length) (s++[.lst ws]):=rfl
theorem p5{l:List α}{x y:α}(h:y∈l.set i x):y∈l\/y=x:=List.mem_or_eq_of_mem_set h
theorem Ad(M:Mc)(n sl:Nat)(ds:List Int)(st:List aj)(hM:n9 M n)(hn:1<=n)(DC:n<=9)(hd:st[sl]?=some (.lst (kA ds)))(AC:ds.length=4) :
  ∃M':Mc,M'.nm=M.nm/\n9 M' n/\Bv [M.w,.loc sl] st=.ok M'.w st:=by
 obtain⟨d0,d1,d2,d3,rfl⟩:∃a b c d,ds=[a,b,c,d]:=by
  match ds,AC with
  |[a,b,c,d],_=>exact⟨_,_,_,_,rfl⟩
 have hT:0<M.tb.length:=by rw[hM.tb];exact Nat.pow_pos (by omega)
 obtain⟨a,ha,ea⟩:=fw (q:=d0) (n:=M.tb.length) hT
 obtain⟨b,hb,eb⟩:=fw (q:=d1) (n:=n) (by omega)
 obtain⟨c,hc,ec⟩:=fw (q:=d2) (n:=n) (by omega)
 obtain⟨v,hv,ev⟩:=fw (q:=d3) (n:=n) (by omega)
 have pT:(0:Int)<(M.tb.length:Int):=by omega
 have pn:(0:Int)<(n:Int):=by omega
 obtain⟨fS,hrows⟩:∃r,M.tb[a]?=some r:=⟨_,ac ha⟩
 obtain⟨r1,r2⟩:=hM.t fS (am hrows)
 obtain⟨row,rC⟩:∃r,fS[b]?=some r:=⟨_,ac (by omega)⟩
 obtain⟨q1,q2⟩:=r2 row (am rC)
 have g0:bp M.w (.int 0) st=.ok (.str M.nm) st:=rfl
 have g1:∀s,bp M.w (.int 1) s=.ok (.tup (M.gd.map W.bl)) s:=fun _=>rfl
 have g2:∀s,bp M.w (.int 2) s=.ok (.tup (M.tb.map dH)) s:=fun _=>rfl
 generalize hs3:st++[aj.lst (M.tb.map dH)]=s3
 have c3:s3[st.length]?=some (.lst (M.tb.map dH)):=by rw[<- hs3];exact bg
 have h3:st <+: s3:=by rw[<- hs3];exact ao _ _
 generalize hs5:s3++[aj.lst (fS.map g7)]=s5
 have c5:s5[s3.length]?=some (.lst (fS.map g7)):=by rw[<- hs5];exact bg
 have h5:s3 <+: s5:=by rw[<- hs5];exact ao _ _
 generalize hs6:s5++[aj.lst (row.map fun k:Nat=>W.int k)]=s6
 have c6:s6[s5.length]?=some (.lst (row.map fun k:Nat=>W.int k)):=by rw[<- hs6];exact bg
 have h6:s5 <+: s6:=by rw[<- hs6];exact ao _ _
 have l3:st.length<s3.length:=by rw[<- hs3];simp
 have l5:s3.length<s5.length:=by rw[<- hs5];simp
 have l6:s5.length<s6.length:=by rw[<- hs6];simp
 have dx:∀(s:List aj) (i:Nat) (d:Int),st <+: s->[d0,d1,d2,d3][i]?=some d->bp (.loc sl) (.int i) s=.ok (.int d) s:=fun s i d h e=>eG (pre_get h hd) e
 have ix4:∀s:List aj,st <+: s->bp (.loc sl) (.int 0) s=.ok (.int d0) s:=fun s h=>dx s 0 d0 h rfl
 have ix1:∀s:List aj,st <+: s->bp (.loc sl) (.int 1) s=.ok (.int d1) s:=fun s h=>dx s 1 d1 h rfl
 have ix2:∀s:List aj,st <+: s->bp (.loc sl) (.int 2) s=.ok (.int d2) s:=fun s h=>dx s 2 d2 h rfl
 have ix3:∀s:List aj,st <+: s->bp (.loc sl) (.int 3) s=.ok (.int d3) s:=fun s h=>dx s 3 d3 h rfl
 have p6:=wp (v:=.int v) c6 (q:=c) (by rw[ai];omega)
 generalize hs7:s6.set s5.length (.lst ((row.map fun k:Nat=>W.int k).set c (.int v)))=s7 at p6
 have k7:st <+: s7:=by rw[<- hs7];exact gT (h3.trans (h5.trans h6)) (by omega)
 have e6:s7[s5.length]?=some (.lst ((row.set c v).map fun k:Nat=>W.int k)):=by rw[<- hs7,jh c6];simp[jC]
 have e5:s7[s3.length]?=some (.lst (fS.map g7)):=by rw[<- hs7,Ab (by omega)];exact pre_get h6 c5
 have e3:s7[st.length]?=some (.lst (M.tb.map dH)):=by rw[<- hs7,Ab (by omega)];exact pre_get (h5.trans h6) c3
 have p7:=wp (v:=g7 (row.set c v)) e5 (q:=b) (by rw[ai];omega)
 generalize hs8:s7.set s3.length (.lst ((fS.map g7).set b (g7 (row.set c v))))=s8 at p7
 have k8:st <+: s8:=by rw[<- hs8];exact gT k7 (by omega)
 have f5:s8[s3.length]?=some (.lst ((fS.set b (row.set c v)).map g7)):=by rw[<- hs8,jh e5];simp[jC]
 have f3:s8[st.length]?=some (.lst (M.tb.map dH)):=by rw[<- hs8,Ab (by omega)];exact e3
 have p8:=wp (v:=dH (fS.set b (row.set c v))) f3 (q:=a) (by rw[ai];omega)
 generalize hs9:s8.set st.length (.lst ((M.tb.map dH).set a (dH (fS.set b (row.set c v)))))=s9 at p8
 have k9:st <+: s9:=by rw[<- hs9];exact gT k8 (by omega)
 have z3:s9[st.length]?=some (.lst ((M.tb.set a (fS.set b (row.set c v))).map dH)):=by rw[<- hs9,jh f3];simp[jC]
 refine⟨⟨M.nm,M.gd,M.tb.set a (fS.set b (row.set c v))⟩,rfl,⟨hM.gd,by rw[<- hM.tb];simp,?_⟩,?_⟩
 ·intro t ht
  rcases p5 ht with h|rfl
  ·exact hM.t t h
  ·refine⟨by simpa using r1,fun r hr=>?_⟩
   rcases p5 hr with h|rfl
   ·exact r2 r h
   ·refine⟨by simpa using q1,fun k hk=>?_⟩
    rcases p5 hk with h|rfl
    ·exact q2 k h
    ·exact hv
 ·refine iL (N:=7) (ws:=[M.w,.loc sl]) (body:=Li) ?_ (by simp only[undWs,b8];exact ph _ _)
  apply aB
  ·exact bQ (bb (aq (bd kv bZ (g1 st)) bc) jV)
  rw[ai,hM.gd]
  apply aB
  ·exact bQ (bb (aq (bd kv bZ (g2 st)) bc) Ac)
  rw[hs3]
  apply aB
  ·refine bQ (bd (bd kv bZ (ix4 s3 h3)) (bb kn (gP (aK c3))) (gE ?_))
   rw[ai];exact pT
  rw[ai,ea]
  apply aB
  ·exact bQ (bb (aq (bd kv kv (jU (aK c3) (dg (by rw[ak,hrows];rfl)))) bc) Ac)
  rw[hs5]
  apply aB
  ·have iv:bp (.loc s3.length) (.int (d1%(n:Int))) s5=.ok (.tup (row.map fun k:Nat=>W.int k)) s5:=by
    rw[eb]
    exact jU (aK c5) (dg (by rw[ak,rC];rfl))
   exact bQ (bb (aq (bd kv (bd (bd kv bZ (ix1 s5 (h3.trans h5))) kv (gE pn)) iv) bc) Ac)
  rw[hs6]
  apply aB
  ·rw[<- ec,<- ev]at p6
   exact lK (bd (bd kv bZ (ix3 s6 (h3.trans (h5.trans h6)))) kv (gE pn)) kv (bd (bd kv bZ (ix2 s6 (h3.trans (h5.trans h6)))) kv (gE pn)) p6
  apply aB
  ·rw[<- eb]at p7
   exact lK (bb kn (fB (aK e6))) kv (bd (bd kv bZ (ix1 s7 k7)) kv (gE pn)) p7
  apply aB
  ·exact lK (bb kn (fB (aK f5))) kv kv p8
  obtain⟨x,rfl⟩:=k9
  apply cU
  ·exact iE (aq (bd kv bZ rfl) (aq (bd kv bZ (g1 _)) (aq (bb kn (fB (aK z3))) bc))) (bI rfl)
  ·exact⟨_,_,rfl,rfl,x,rfl⟩
def nW(l:List Nat):List W:=l.map fun k=>W.int (k:Nat)
theorem tz{s:List aj}{p:Nat}{k:Nat}(h:s[p]?=some (.lst (nW l)))(e:l[i]?=some k):bp (.loc p) (.int i) s=.ok (.int k) s:=jU (aK h) (dg (by rw[nW,ak,e];rfl))
theorem On{s:List aj}{k:Nat}(e:l[i]?=some k):bp (g7 l) (.int i) s=.ok (.int k) s:=hJ (dg (by rw[ak,e];rfl))
theorem Oo{s:List aj}{r:List Nat}(e:t[i]?=some r):bp (dH t) (.int i) s=.ok (g7 r) s:=hJ (dg (by rw[ak,e];rfl))
def Ui(n:Nat)(zs:List Nat):Prop:=zs.length=n/\∀r,r∈zs↔r<n
theorem yz(n dl:Nat)(ds:List Int)(st:List aj)(hn:1<=n)(DC:n<=100)(hd:st[dl]?=some (.lst (kA ds)))(AC:2*n<=ds.length) :
  ∃zs,Ui n zs/\vf [.int n,.int 0,.loc dl] st=.ok (.loc st.length) (st++[.lst (nW zs)]):=by
 suffices hh:gG (qp fun w bx=>∃j x,w=.loc (st.length+j)/\bx=st++x/\j=0/\∃zs,Ui n zs/\x=[.lst (nW zs)]) (Lk ([W.int n,.int 0,.loc dl].map some++List.replicate (6-3) none) st) by
  obtain⟨j,x,⟨rfl,zs,h1,rfl⟩,e⟩:=ij hh
  exact⟨zs,h1,e⟩
 apply aB
 ·(walk_at "evs")
 refine cz (fun i ρ s=>∃(zs:List Nat) (o4 o5:Option W),ρ=[iO n,iO 0,lO dl,lO st.length,o4,o5]/\s=st++[.lst (nW zs)]/\zs.length=i+1/\∀r,r∈zs↔r<i+1)
  (Gn (i:=1) (j:=(n:Int)+0) (st1:=st++[aj.lst [.int 0]]) (by(walk_at "evs")) (by omega))
  ⟨[0],none,none,rfl,rfl,rfl,by simp⟩ (fun _ _ _ _=>trivial) ?_ ?_
 ·rintro i w ρ s hw ⟨zs,o4,o5,rfl,rfl,hl,hm⟩
  obtain⟨hi,rfl⟩:=eZ hw
  refine⟨_,rfl,?_⟩
  have hc:(st++[aj.lst (nW zs)])[st.length]?=some (.lst (nW zs)):=bg
  have t0:decide ((n:Int)<=1+(i:Int))=false:=aV (by omega)
  apply aB
  ·(walk_at "evs")
  apply bC
  ·(walk_at "evs")
  apply bR
  obtain⟨d,hdd⟩:∃d,ds[2*(1+i)]?=some d:=⟨_,ac (by omega)⟩
  have id:=eG (s:=st++[aj.lst (nW zs)]) (aM hd) hdd
  rw[show((2*(1+i):Nat):Int)=2*(1+(i:Int)) by omega]at id
  obtain⟨q,hq,eq⟩:=fw (q:=d) (n:=zs.length) (by omega)
  have ll:=gP (aK hc)
  rw[show(nW zs).length=zs.length by simp[nW]]at ll
  have pl:(0:Int)<(zs.length:Int):=by omega
  have ins:=Fc (y:=.int (1+(i:Int))) hc (k:=1+q) (by simp[nW];omega) (by simp[nW];show _<1000000;omega) (by omega)
  rw[dN,show((1+q:Nat):Int)=1+d%(zs.length:Int) by omega]at ins
  have cm:zv 2 (1+(i:Int)):=.inl (by decide)
  apply cY
  ·exact eW (jz kv (df hc) (aq (bd bZ (bd (bd kv (bd bZ kv (qF cm)) id) (bb kn ll) (gE pl)) eD) kn) ins)
  ·refine⟨_,_,rfl,zs.take (1+q)++(1+i)::zs.drop (1+q),_,_,rfl,?_,?_,?_⟩
   ·simp[nW,oN,oO]
   ·simp;omega
   ·intro r
    rw[aN,aI]
    have:=hm r
    have h2:r∈zs↔r∈zs.take (1+q)\/r∈zs.drop (1+q):=by
     rw[<- aN,nj]
    constructor
    ·rintro(h|h|h)
     ·have:=this.mp (h2.mpr (.inl h));omega
     ·omega
     ·have:=this.mp (h2.mpr (.inr h));omega
    ·intro h
     by_cases e:r=1+i
     ·exact .inr (.inl e)
     ·rcases h2.mp (this.mpr (by omega))with h|h
      ·exact .inl h
      ·exact .inr (.inr h)
 ·rintro ρ s ⟨zs,o4,o5,rfl,rfl,hl,hm⟩
  rw[show(bM 1 ((n:Int)+0-1).toNat,(none:Option (Nat×List W))).fst.length=n-1 by simp[bB]]at hl hm
  apply cU
  ·(walk_at "evs")
  ·exact⟨_,_,rfl,0,_,rfl,rfl,rfl,zs,⟨by omega,fun r=>by rw[hm r];omega⟩,rfl⟩
theorem JA{cap:List (Option Nat)}{st:List aj}{t:FT}{fs:FA}(Pb:Nat->Bool)(hr:fs ρ st=.ok [.int n] st)(hn:n<=100000)(h0:0<cap.length)(h:∀i:Nat,i<n->t ((pM cap ρ).set 0 (iO i)) st=.ok (Pb i) st) :
  c_ cap (be fs) (eB 0) t (ae 0) ρ st=.ok (.loc st.length) (st++[.lst (nW ((List.range n).filter Pb))]):=by
 have ir:be fs ρ st=.ok (bM 0 n,none) st:=by
  have:=c9 hr (by omega)
  rw[aO]at this
  exact this
 rw[zY (fi:=be fs) (f:=eB 0) (t:=t) (el:=ae 0) (cap:=cap) (ρ:=ρ) (fun w=>match w with|.int z=>Pb z.toNat|_=>false) id ir (by rw[bB];show _<=1000000;omega) trivial fun w hw=>by
  obtain⟨i,hi,rfl⟩:=nV hw
  rw[show((0:Int)+(i:Int))=(i:Int) by omega]
  exact⟨_,rfl,h i hi,fun _=>ig (by rw[bv (by simp[pM];exact h0)];rfl)⟩]
 congr 4
 unfold bM nW
 rw[List.filter_map,aT]
 have e:((fun w=>match w with|W.int z=>Pb z.toNat|_=>false)∘fun k:Nat=>W.int (0+(k:Int)))=Pb:=by
  funext k
  show Pb (0+(k:Int)).toNat=Pb k
  congr 1;omega
 rw[e]
 refine bq fun k _=>?_
 show W.int (0+(k:Int))=_
 rw[eX]
theorem BI{f:FG}{ρ':cu}{st:List aj}{w:W}(h:fe ρ st=.ok w st1)(h2:f w ρ=some ρ'):ug fe f ρ st=.nx ρ' st1:=by
 unfold ug;rw[h];simp only[R.stmt_ok];rw[h2]
theorem Gp(M:Mc)(n ow dl:Nat)(zs:List Nat)(ds:List Int)(st:List aj)(hM:n9 M n)(DC:n<=200)(ho:Ui n zs)(hc:st[ow]?=some (.lst (nW zs)))(hd:st[dl]?=some (.lst (kA ds)))(AC:0<ds.length)(Vi:ds.length<=1000)(y6:M.nm.length<=10) :
  ∃M':Mc,M'.nm=M.nm/\n9 M' n/\Bw [M.w,.loc ow,.loc dl] st=.ok M'.w st:=by
 suffices hh:gG (qp fun w bx=>(∃x,bx=st++x)/\undWs st.length [w]=true/\∃M':Mc,w=M'.w/\M'.nm=M.nm/\n9 M' n) (Lj ([M.w,.loc ow,.loc dl].map some++List.replicate (13-3) none) st) by
  obtain⟨w,⟨M',rfl,h1,h2⟩,e⟩:=iW hh
  exact⟨M',h1,h2,e⟩
 obtain⟨hz,hm⟩:=ho
 have p2:M.tb.length<=1024:=by rw[hM.tb];exact bu (gK (by omega) y6) (by decide)
 have ll:=gP (aK hc)
 rw[show(nW zs).length=n by simp[nW,hz]]at ll
 have g2:bp M.w (.int 2) (st++[aj.lst []])=.ok (.tup (M.tb.map dH)) (st++[aj.lst []]):=rfl
 apply aB
 ·(walk_at "evs")
 apply aB
 ·(walk_at "evs")
 apply aB
 ·(walk_at "evs")
 refine cz (fun i ρ s=>∃(tb:List (List (List Nat))) (a:Nat) (o6 o7 o8 o9 m7 DB Dr:Option W),ρ=[some M.w,lO ow,lO dl,iO n,iO a,lO st.length,o6,o7,o8,o9,m7,DB,Dr]/\st <+: s/\s[st.length]?=some (.lst (tb.map dH))/\tb.length=i/\∀t∈tb,Dx n t)
  (ii (st1:=st++[aj.lst []]) (bd kv bZ g2))
  ⟨[],0,none,none,none,none,none,none,none,rfl,ao _ _,bg,rfl,by simp⟩ (fun _ _ _ _=>trivial) ?_ ?_
 ·rintro i w ρ s hw ⟨tb,a,o6,o7,o8,o9,m7,DB,Dr,rfl,hp,hcT,hl,ht⟩
  obtain⟨t,hti,rfl⟩:∃t,M.tb[i]?=some t/\w=dH t:=by
   simp only[ak,a6]at hw
   obtain⟨t,h1,rfl⟩:=hw
   exact⟨t,h1,rfl⟩
  obtain⟨t1,t2⟩:=hM.t t (am hti)
  have hi:i<M.tb.length:=(aa.mp hti).1
  refine⟨_,rfl,?_⟩
  apply aB
  ·(walk_at "evs")
  refine cz (fun j ρ z=>∃(fS:List (List Nat)) (a:Nat) (o8 o9 m7 DB Dr:Option W),ρ=[some M.w,lO ow,lO dl,iO n,iO a,lO st.length,some (dH t),lO s.length,o8,o9,m7,DB,Dr]/\s <+: z/\z[s.length]?=some (.lst (fS.map g7))/\fS.length=j/\∀r∈fS,r.length=n/\∀k∈r,k<n)
   (c9 (q:=(n:Int)) (st1:=s++[aj.lst []]) (by(walk_at "evs")) (by omega)) ⟨[],a,_,_,_,_,_,rfl,ao _ _,bg,rfl,by simp⟩ (fun _ _ _ _=>trivial) ?_ ?_
  ·rintro x w ρ s1 hw ⟨fS,a,o8,o9,m7,DB,Dr,rfl,h1,hc1,hrl,hr⟩
   obtain⟨hx,rfl⟩:=eZ hw
   rw[aO]at hx
   refine⟨_,rfl,?_⟩
   apply aB
   ·(walk_at "evs")
   obtain⟨ox,hox⟩:∃k,zs[x]?=some k:=⟨_,ac (by omega)⟩
   have hox':ox<n:=(hm ox).mp (am hox)
   obtain⟨rx,hrx⟩:∃r,t[ox]?=some r:=⟨_,ac (by omega)⟩
   obtain⟨rx1,rx2⟩:=t2 rx (am hrx)
   refine cz (fun j ρ z=>∃(row:List Nat) (a:Nat) (m7 DB Dr:Option W),ρ=[some M.w,lO ow,lO dl,iO n,iO a,lO st.length,some (dH t),lO s.length,iO (0+(x:Int)),lO s1.length,m7,DB,Dr]/\s1 <+: z/\z[s1.length]?=some (.lst (nW row))/\row.length=j/\∀k∈row,k<n)
    (c9 (q:=(n:Int)) (st1:=s1++[aj.lst []]) (by(walk_at "evs")) (by omega)) ⟨[],a,_,_,_,rfl,ao _ _,bg,rfl,by simp⟩ (fun _ _ _ _=>trivial) ?_ ?_
   ·rintro y w ρ z hw ⟨row,a,m7,DB,Dr,rfl,h2,hc2,Hv,hr2⟩
    obtain⟨hy,rfl⟩:=eZ hw
    rw[aO]at hy
    refine⟨_,rfl,?_⟩
    have hz0:st <+: z:=hp.trans (h1.trans h2)
    obtain⟨oy,hoy⟩:∃k,zs[y]?=some k:=⟨_,ac (by omega)⟩
    have hoy':oy<n:=(hm oy).mp (am hoy)
    obtain⟨SC,hdue⟩:∃k,rx[oy]?=some k:=⟨_,ac (by omega)⟩
    have hdue':=rx2 SC (am hdue)
    have wx:bp (.loc ow) (.int (0+(x:Int))) z=.ok (.int ox) z:=by rw[eX];exact tz (pre_get hz0 hc) hox
    have wy:bp (.loc ow) (.int (0+(y:Int))) z=.ok (.int oy) z:=by rw[eX];exact tz (pre_get hz0 hc) hoy
    apply aB
    ·exact bQ (bd (bd kv (bd kv kv wx) (Oo hrx)) (bd kv kv wy) (On hdue))
    have hcomp:=JA (cap:=[none,some 11,some 1]) (ρ:=[some M.w,lO ow,lO dl,iO n,iO a,lO st.length,some (dH t),lO s.length,iO (0+(x:Int)),lO s1.length,iO (0+(y:Int)),iO SC,Dr]) (st:=z) (t:=eV (e2 ky (e2 bp (ae 2) (ae 0)) (ae 1))) (fs:=ag (ae 3) az) (n:=n) (fun i=>((zs.getD i 0:Nat):Int)==(SC:Int)) kn (by omega) (by simp) fun q hq=>by
     have:zs[q]?=some (zs.getD q 0):=by rw[aE,ac (by omega)];rfl
     exact bO (bd (bd kv kv (tz (pre_get hz0 hc) this)) kv (gF rfl))
    generalize hso:(List.range n).filter (fun i=>((zs.getD i 0:Nat):Int)==(SC:Int))=some' at hcomp
    have hsn:0<some'.length:=by
     obtain⟨q,hq⟩:=aZ ((hm SC).mpr hdue')
     have hqn:q<n:=by have:=(aa.mp hq).1;omega
     refine mJ (a:=q) ?_
     rw[<- hso]
     exact eN.mpr ⟨bj.mpr hqn,by rw[aE,hq];simp⟩
    have hsm:∀k∈some',k<n:=fun k hk=>by
     rw[<- hso]at hk
     exact bj.mp (eN.mp hk).1
    have hsl:some'.length<=n:=by rw[<- hso];exact bu (gp _ _) (by simp)
    apply aB
    ·exact BI hcomp rfl
    obtain⟨q,hq,eq⟩:=fw (q:=(a:Int)) (n:=ds.length) (by omega)
    obtain⟨d,hdd⟩:∃d,ds[q]?=some d:=⟨_,ac hq⟩
    obtain⟨k,hk,ek⟩:=fw (q:=d) (n:=some'.length) hsn
    obtain⟨c,hcc⟩:∃c,some'[k]?=some c:=⟨_,ac hk⟩
    have hz3:st <+: z++[aj.lst (nW some')]:=mj hz0
    have ld:=gP (aK (pre_get hz3 hd))
    rw[show(kA ds).length=ds.length by simp[kA]]at ld
    have ls:=gP (st:=z++[aj.lst (nW some')]) (n:=z.length) (aK bg)
    rw[show(nW some').length=some'.length by simp[nW]]at ls
    have id:=eG (pre_get hz3 hd) hdd
    rw[<- eq]at id
    have ic:=tz (s:=z++[aj.lst (nW some')]) (p:=z.length) bg hcc
    rw[<- ek]at ic
    have pl:(0:Int)<(ds.length:Int):=by omega
    have ps:(0:Int)<(some'.length:Int):=by omega
    have hc3:(z++[aj.lst (nW some')])[s1.length]?=some (.lst (nW row)):=aM hc2
    have ap:=ml (y:=.int c) hc3 (by simp[nW];omega)
    apply aB
    ·exact eW (jz kv (df hc3) (aq (bd kv (bd (bd kv (bd kv (bb kn ld) (gE pl)) id) (bb kn ls) (gE ps)) ic) bc) ap)
    apply cY
    ·exact bQ (bd kv bZ eD)
    ·refine⟨_,_,rfl,row++[c],a+1,_,_,_,rfl,gT (mj h2) (aw _),?_,by simp[Hv],?_⟩
     ·rw[jh hc3];simp[nW]
     ·intro k' hk'
      rcases aN.mp hk' with u|u
      ·exact hr2 k' u
      ·simp at u;subst u;exact hsm _ (am hcc)
   ·rintro ρ z ⟨row,a,m7,DB,Dr,rfl,h2,hc2,Hv,hr2⟩
    have Hv:row.length=n:=by rw[Hv];simp[bB]
    have hc3:=pre_get h2 hc1
    have ap:=ml (y:=g7 row) hc3 (by rw[ai,hrl];omega)
    apply cY
    ·exact eW (jz kv (df hc3) (aq (bb kn (fB (aK hc2))) bc) ap)
    ·refine⟨_,_,rfl,fS++[row],a,_,_,_,_,_,rfl,gT (h1.trans h2) (aw _),?_,by simp[hrl],?_⟩
     ·rw[jh hc3];simp
     ·intro r hr'
      rcases aN.mp hr' with u|u
      ·exact hr r u
      ·simp at u;subst u;exact⟨Hv,hr2⟩
  ·rintro ρ z ⟨fS,a,o8,o9,m7,DB,Dr,rfl,h1,hc1,hrl,hr⟩
   have hrl:fS.length=n:=by rw[hrl];simp[bB]
   have hc3:=pre_get h1 hcT
   have ap:=ml (y:=dH fS) hc3 (by rw[ai,hl];omega)
   apply cY
   ·exact eW (jz kv (df hc3) (aq (bb kn (fB (aK hc1))) bc) ap)
   ·refine⟨_,_,rfl,tb++[fS],a,_,_,_,_,_,_,_,rfl,gT (hp.trans h1) (aw _),?_,by simp[hl],?_⟩
    ·rw[jh hc3];simp
    ·intro r hr'
     rcases aN.mp hr' with u|u
     ·exact ht r u
     ·simp at u;subst u;exact⟨hrl,hr⟩
 ·rintro ρ s ⟨tb,a,o6,o7,o8,o9,m7,DB,Dr,rfl,hp,hcT,hl,ht⟩
  have hl:tb.length=M.tb.length:=by rw[hl];simp
  have hc':=pre_get hp hc
  have cg:=gu (cap:=[none,some 0]) (ρ:=[some M.w,lO ow,lO dl,iO n,iO a,lO st.length,o6,o7,o8,o9,m7,DB,Dr]) (st:=s) (st1:=s) (f:=eB 0) (el:=e2 bp (e2 bp (ae 1) (eI 1)) (ae 0)) (fun w=>match w with|.int z=>W.bl (M.gd.getD z.toNat false)|_=>.non)
   (fq (fe:=ae 1) kv (aK hc')) (by simp[nW];show _<=1000000;omega) (aK hc') fun w hw=>by
    obtain⟨r,hr,rfl⟩:=al.mp hw
    have hrn:=(hm r).mp hr
    have hg:M.gd[r]?=some (M.gd.getD r false):=by rw[aE,ac (by rw[hM.gd];exact hrn)];rfl
    have g1:bp M.w (.int 1) s=.ok (.tup (M.gd.map W.bl)) s:=rfl
    exact⟨_,rfl,bd (bd kv bZ g1) kv (hJ (dg (by rw[ak,hg];rfl)))⟩
  rw[show(nW zs).map (fun w=>match w with|.int z=>W.bl (M.gd.getD z.toNat false)|_=>.non)=(zs.map fun r=>M.gd.getD r false).map W.bl by
   unfold nW;rw[aT,aT];refine bq fun k _=>?_;show W.bl (M.gd.getD (k:Int).toNat false)=_;rw[aO];rfl]at cg
  obtain⟨x,rfl⟩:=hp
  apply cU
  ·exact iE (aq (bd kv bZ rfl) (aq (bb (aq cg bc) (fB (aK bg))) (aq (bb kn (fB (aK (aM hcT)))) bc))) (bI rfl)
  ·exact⟨_,_,rfl,⟨_,by rw[av]⟩,by simp only[undWs,b8];exact ph ⟨M.nm,zs.map fun r=>M.gd.getD r false,tb⟩ _,⟨M.nm,zs.map fun r=>M.gd.getD r false,tb⟩,rfl,rfl,by simp[hz],by rw[hl,hM.tb],ht⟩
theorem Ae(nm:List Nat)(n top dl:Nat)(ds:List Int)(st:List aj)(y6:nm.length<=6)(hn:1<=n)(DC:n<=9)(UX:1<=top)(Vo:top<=n)(hd:st[dl]?=some (.lst (kA ds)))(AC:n+2^nm.length*(n*n)<=ds.length) :
  ∃M:Mc,M.nm=nm/\n9 M n/\Bx [.str nm,.int n,.int top,.loc dl] st=.ok M.w st:=by
 suffices hh:gG (qp fun w bx=>(∃x,bx=st++x)/\undWs st.length [w]=true/\∃M:Mc,w=M.w/\M.nm=nm/\n9 M n) (Ll ([W.str nm,.int n,.int top,.loc dl].map some++List.replicate (10-4) none) st) by
  obtain⟨w,⟨M,rfl,h1,h2⟩,e⟩:=iW hh
  exact⟨M,h1,h2,e⟩
 have dq:∀s:List aj,cS [.str nm] s=.ok (.int nm.length) s:=fun s=>s_ (by show _<=1000000;omega)
 have p2:2^nm.length<=64:=gK (by omega) y6
 obtain⟨N,hN⟩:∃N,N=2^nm.length:=⟨_,rfl⟩
 have sh:∀s:List aj,vK (.int 1) (.int nm.length) s=.ok (.int N) s:=fun s=>by rw[hN];exact xC (by omega)
 rw[<- hN]at p2 AC
 have hdn:n<=ds.length:=by omega
 obtain⟨gd,hgl,_,eg⟩:=tw (cap:=[none,some 3]) (ρ:=[some (.str nm),iO n,iO top,lO dl,none,none,none,none,none,none]) (st:=st) (fs:=ag (ae 1) az) (n:=n)
  (el:=e2 ky (e2 dQ (e2 bp (ae 1) (ae 0)) (eI 2)) (eI 1)) W.bl (fun _ _=>True) kn (by omega) fun q hq=>by
   obtain⟨d,hdd⟩:∃d,ds[q]?=some d:=⟨_,ac (by omega)⟩
   exact⟨_,trivial,bd (bd (bd kv kv (eG hd hdd)) bZ (gE (by decide))) bZ (gF rfl)⟩
 apply aB
 ·exact bQ eg
 generalize PD:st++[aj.lst (gd.map W.bl)]=s0
 have hst0:st <+: s0:=by rw[<- PD];exact ao _ _
 apply aB
 ·(walk_at "evs")
 apply aB
 ·(walk_at "evs")
 refine cz (fun i ρ s=>∃(tb:List (List (List Nat))) (a:Nat) (o7 o8 o9:Option W),ρ=[some (.str nm),iO n,iO top,lO dl,some (.tup (gd.map W.bl)),lO s0.length,iO a,o7,o8,o9]/\s0 <+: s/\s[s0.length]?=some (.lst (tb.map dH))/\tb.length=i/\(∀t∈tb,Dx n t)/\a+(N-i)*(n*n)<=ds.length)
  (c9 (q:=(N:Int)) (st1:=s0++[aj.lst []]) (aq (bd bZ (bb kn (dq _)) (sh _)) bc) (by omega))
  ⟨[],n,none,none,none,rfl,ao _ _,bg,rfl,by simp,by simpa using AC⟩ (fun _ _ _ _=>trivial) ?_ ?_
 ·rintro i w ρ s hw ⟨tb,a,o7,o8,o9,rfl,hp,hc,hl,ht,hal⟩
  obtain⟨hi,rfl⟩:=eZ hw
  rw[aO]at hi
  refine⟨_,rfl,?_⟩
  rw[show N-i=(N-(i+1))+1 by omega,Nat.succ_mul]at hal
  apply aB
  ·(walk_at "evs")
  refine cz (fun j ρ z=>∃(fS:List (List Nat)) (a:Nat) (o9:Option W),ρ=[some (.str nm),iO n,iO top,lO dl,some (.tup (gd.map W.bl)),lO s0.length,iO a,iO (0+(i:Int)),lO s.length,o9]/\s <+: z/\z[s.length]?=some (.lst (fS.map g7))/\fS.length=j/\(∀r∈fS,r.length=n/\∀k∈r,k<n)/\a+((N-(i+1))*(n*n)+(n-j)*n)<=ds.length)
   (c9 (q:=(n:Int)) (st1:=s++[aj.lst []]) (by(walk_at "evs")) (by omega)) ⟨[],a,_,rfl,ao _ _,bg,rfl,by simp,by simpa using hal⟩ (fun _ _ _ _=>trivial) ?_ ?_
  ·rintro j w ρ z hw ⟨fS,a,o9,rfl,hz,hcz,hrl,hr,hal⟩
   obtain⟨hj,rfl⟩:=eZ hw
   rw[aO]at hj
   refine⟨_,rfl,?_⟩
   rw[show n-j=(n-(j+1))+1 by omega,Nat.succ_mul]at hal
   have pt:(0:Int)<(top:Int):=by omega
   obtain⟨r,hrn,hrb,er⟩:=tw (cap:=[none,some 2,some 3,some 6]) (ρ:=[some (.str nm),iO n,iO top,lO dl,some (.tup (gd.map W.bl)),lO s0.length,iO a,iO (0+(i:Int)),lO s.length,iO (0+(j:Int))]) (st:=z) (fs:=ag (ae 1) az) (n:=n)
    (el:=e2 dQ (e2 bp (ae 2) (e2 d8 (ae 3) (ae 0))) (ae 1)) (fun k:Nat=>W.int (k:Nat)) (fun _ k=>k<n) kn (by omega) fun q hq=>by
     obtain⟨d,hdd⟩:∃d,ds[a+q]?=some d:=⟨_,ac (by omega)⟩
     obtain⟨k,hk,ek⟩:=fw (q:=d) (n:=top) (by omega)
     refine⟨k,by omega,?_⟩
     rw[<- ek]
     exact bd (bd kv (bd kv kv eD) (eG (pre_get (hst0.trans (hp.trans hz)) hd) hdd)) kv (gE pt)
   have ap:=ml (y:=g7 r) (pre_get (s:=z++[.lst (r.map fun k:Nat=>W.int k)]) (ao _ _) hcz) (by rw[ai];omega)
   apply aB
   ·exact eW (jz kv (df hcz) (aq er bc) ap)
   apply cY
   ·exact bQ (bd kv kv eD)
   ·refine⟨_,_,rfl,fS++[r],a+n,_,rfl,gT (mj hz) (aw _),?_,by simp[hrl],?_,by omega⟩
    ·rw[jh (pre_get (ao _ _) hcz)];simp
    ·intro x hx
     rcases aN.mp hx with y|y
     ·exact hr x y
     ·simp at y;subst y
      refine⟨hrn,fun k hk=>?_⟩
      obtain⟨q,hq⟩:=aZ hk
      exact hrb q k hq
  ·rintro ρ z ⟨fS,a,o9,rfl,hz,hcz,hrl,hr,hal⟩
   have hrl:fS.length=n:=by rw[hrl];simp[bB]
   have hcp:=pre_get hz hc
   have ap:=ml (y:=dH fS) hcp (by rw[ai,hl];omega)
   apply cY
   ·exact eW (jz kv (df hcp) (aq (bb kn (fB (aK hcz))) bc) ap)
   ·refine⟨_,_,rfl,tb++[fS],a,_,_,_,rfl,gT (hp.trans hz) (aw _),?_,by simp[hl],?_,by omega⟩
    ·rw[jh hcp];simp
    ·intro x hx
     rcases aN.mp hx with y|y
     ·exact ht x y
     ·simp at y;subst y
      exact⟨hrl,hr⟩
 ·rintro ρ s ⟨tb,a,o7,o8,o9,rfl,hp,hc,hl,ht,hal⟩
  have hl:tb.length=N:=by rw[hl];simp[bB]
  obtain⟨x,rfl⟩:=hst0.trans hp
  apply cU
  ·exact iE (aq kv (aq kv (aq (bb kn (fB (aK hc))) bc))) (bI rfl)
  ·exact⟨_,_,rfl,⟨_,rfl⟩,by simp only[undWs,b8];exact ph ⟨nm,gd,tb⟩ _,⟨nm,gd,tb⟩,rfl,rfl,hgl,by rw[hl,hN],ht⟩
theorem BJ(hj:j<=ds.length)(hi:i<=j):jM (kA ds) (some (i:Int)) (some (j:Int))=kA ((ds.drop i).take (j-i)):=by
 rw[NG (by simpa[kA]using hj) hi]
 simp[kA,oN,oO]
theorem Op{n0:Nat}{st:List aj}(h0:st[n0]?=some (.ro (ns.map W.int)))(a:Int)(pool:List Nat)(Vp:5<=pool.length)(hp:pool.length<=50) :
  ∃(M:Mc) (n:Nat),n9 M n/\1<=n/\n<=9/\M.nm.length<=5/\n*n*2^M.nm.length<=200/\M.nm=C9 (pool.take M.nm.length)/\By [.loc n0,.int a,.str pool] st=.ok M.w st:=by
 suffices hh:gG (qp fun w bx=>(∃x,bx=st++x)/\undWs st.length [w]=true/\∃(M:Mc) (n:Nat),w=M.w/\n9 M n/\1<=n/\n<=9/\M.nm.length<=5/\n*n*2^M.nm.length<=200/\M.nm=C9 (pool.take M.nm.length)) (Lm ([W.loc n0,.int a,.str pool].map some++List.replicate (10-3) none) st) by
  obtain⟨w,⟨M,n,rfl,h1,h2,h3,h4,h5,h6⟩,e⟩:=iW hh
  exact⟨M,n,h1,h2,h3,h4,h5,h6,e⟩
 obtain⟨c0,e0⟩:=mi h0 a
 obtain⟨hs,hhl,hhp,e1⟩:=jX c0 1000003 10 (by omega) st
 have e1:i6 [.int c0,.int 10,.int 1000003] st=_:=e1
 obtain⟨d0,d1,d2,d3,d4,dr,rfl⟩:∃a b c d e r,hs=a::b::c::d::e::r:=by
  match hs,hhl with
  |a::b::c::d::e::r,_=>exact⟨_,_,_,_,_,_,rfl⟩
 apply aB
 ·(walk_at "evs")
 generalize rq:st++[aj.lst ((d0::d1::d2::d3::d4::dr).map W.int)]=s1
 have k1:st <+: s1:=by rw[<- rq];exact ao _ _
 have hc1:s1[st.length]?=some (.lst (kA (d0::d1::d2::d3::d4::dr))):=by rw[<- rq];exact bg
 clear e0 e1 rq
 have i0:∀s:List aj,s1 <+: s->bp (.loc st.length) (.int 0) s=.ok (.int d0) s:=fun s h=>eG (i:=0) (pre_get h hc1) rfl
 have i1:∀s:List aj,s1 <+: s->bp (.loc st.length) (.int 1) s=.ok (.int d1) s:=fun s h=>eG (i:=1) (pre_get h hc1) rfl
 have i2:∀s:List aj,s1 <+: s->bp (.loc st.length) (.int 2) s=.ok (.int d2) s:=fun s h=>eG (i:=2) (pre_get h hc1) rfl
 have i3:∀s:List aj,s1 <+: s->bp (.loc st.length) (.int 3) s=.ok (.int d3) s:=fun s h=>eG (i:=3) (pre_get h hc1) rfl
 have i4:∀s:List aj,s1 <+: s->bp (.loc st.length) (.int 4) s=.ok (.int d4) s:=fun s h=>eG (i:=4) (pre_get h hc1) rfl
 obtain⟨c,n,hc5,hn1,DC,hcn,es⟩:=Gh d0 s1
 apply aB
 ·exact BI (cI (aq (bd kv bZ (i0 s1 (af _))) bc) es rfl) rfl
 have en:=Gi pool c hp (by omega) s1
 have y6:(C9 (pool.take c)).length=c:=by rw[Jw,a8];omega
 have hnm2:C9 (pool.take c)=C9 (pool.take (C9 (pool.take c)).length):=by rw[y6]
 generalize C9 (pool.take c)=nm at en y6 hnm2
 apply aB
 ·exact bQ (cI (aq kv kn) en rfl)
 obtain⟨T,hT⟩:∃T,T=n+n*n*2^c+40:=⟨_,rfl⟩
 have hnn:n*n<=81:=Nat.mul_le_mul DC DC
 obtain⟨j,x,ds,Uz,hdp,hxj,eb⟩:=vg (pre_get k1 h0) (a+1) T 3000017 (by omega)
 have eT:(n:Int)+(n:Int)*(n:Int)*((2^c:Nat):Int)+40=(T:Int):=by rw[hT];simp only[mX,jo];rfl
 have cm1:zv (n:Int) (n:Int):=.inl ⟨by omega,by omega⟩
 have cm2:zv ((n:Int)*(n:Int)) ((2^c:Nat):Int):=.inl (by rw[<- jo];omega)
 rw[<- eT]at eb
 apply aB
 ·exact bQ (cI (aq kv (aq (bd kv bZ eD) (aq (bd (bd kv (bd (bd kv kv (qF cm1)) (bd bZ kv (xC (by omega))) (qF cm2)) eD) bZ eD) (aq bZ bc)))) eb rfl)
 clear eb en es
 generalize vm:s1++x=s2
 have k2:s1 <+: s2:=by rw[<- vm];exact ao _ _
 have lD:s2[s1.length+j]?=some (.lst (kA ds)):=by rw[<- vm,de];exact hxj
 generalize hdlo:s1.length+j=dl at lD
 have kk2:st <+: s2:=k1.trans k2
 have hT2:n+2^nm.length*(n*n)+40<=ds.length:=by rw[y6,Nat.mul_comm,Uz,hT];omega
 have h3:=i3 s2 k2
 have hnc:n*n*2^nm.length<=200:=by rw[y6];exact hcn
 generalize n*n*2^c=q1 at hcn hT
 by_cases w3:d3%3=0
 ·have t3:(d3%3==0)=true:=b9.mpr w3
  obtain⟨M,eM,hM,egr⟩:=Da nm n dl ds s2 (by omega) hn1 DC lD (by omega) hdp
  apply eF
  ·(walk_at "evs")
  apply nT
  apply aB
  ·exact bQ (cI (aq kv (aq kv kn)) egr rfl)
  apply nT
  refine kN (fun ρ s=>∃M':Mc,M'.nm=nm/\n9 M' n/\ρ=[lO n0,iO a,some (.str pool),lO st.length,iO c,iO n,some (.str nm),lO dl,some M'.w,none]/\s2 <+: s) ?_ ?_
  ·have h4:=i4 s2 k2
   by_cases w4:d4%3=0
   ·have t4:(d4%3==0)=true:=b9.mpr w4
    have sl:=Bj (st:=s2) (n:=dl) (l:=some 4) (h:=some 8) (aK lD)
    rw[show(some (4:Int))=some ((4:Nat):Int)from rfl,show(some (8:Int))=some ((8:Nat):Int)from rfl,BJ (by omega) (by omega)]at sl
    obtain⟨M',eM',hM',esp⟩:=Ad M n s2.length ((ds.drop 4).take (8-4)) (s2++[.lst (kA ((ds.drop 4).take (8-4)))]) hM hn1 (by omega) bg (by simp;omega)
    apply kM
    ·(walk_at "evs")
    apply cY
    ·exact bQ (cI (aq kv (aq (E4 kv (zX bZ) (zX bZ) sl) bc)) esp rfl)
    ·exact⟨_,_,rfl,M',by rw[eM',eM],hM',rfl,ao _ _⟩
   ·have t4:(d4%3==0)=false:=aX.mpr w4
    apply hU
    ·(walk_at "evs")
    apply cY
    ·(walk_at "evs")
    ·exact⟨_,_,rfl,M,eM,hM,rfl,af _⟩
  rintro ρ s3 ⟨M',eM',hM',rfl,k3⟩
  have sl:=Bj (st:=s3) (n:=dl) (l:=some 8) (h:=some 30) (aK (pre_get k3 lD))
  rw[show(some (8:Int))=some ((8:Nat):Int)from rfl,show(some (30:Int))=some ((30:Nat):Int)from rfl,BJ (by omega) (by omega)]at sl
  obtain⟨zs,hzs,eo⟩:=yz n s3.length ((ds.drop 8).take (30-8)) (s3++[.lst (kA ((ds.drop 8).take (30-8)))]) hn1 (by omega) bg (by simp;omega)
  obtain⟨M2,eM2,hM2,ebl⟩:=Gp M' n _ dl zs ds (s3++[.lst (kA ((ds.drop 8).take (30-8)))]++[.lst (nW zs)]) hM' (by omega) hzs bg (aM (aM (pre_get k3 lD))) (by omega) (by omega) (by rw[eM',y6];omega)
  obtain⟨y,rfl⟩:=kk2.trans k3
  apply fG
  ·exact cI (aq kv (aq (cI (aq kv (aq bZ (aq (E4 kv (zX bZ) (zX bZ) sl) bc))) eo rfl) kn)) ebl rfl
  ·exact⟨_,_,rfl,⟨_,by rw[av,av]⟩,by simp only[undWs,b8];exact ph _ _,M2,n,rfl,hM2,hn1,DC,by rw[eM2,eM',y6];exact hc5,by rw[eM2,eM'];exact hnc,by rw[eM2,eM'];exact hnm2⟩
 ·have t3:(d3%3==0)=false:=aX.mpr w3
  apply bC
  ·(walk_at "evs")
  apply bR
  apply aB
  ·(walk_at "evs")
  have h1:=i1 s2 k2
  have h2:=i2 s2 k2
  have pn:(0:Int)<(n:Int):=by omega
  refine kN (fun ρ s=>∃top:Nat,1<=top/\top<=n/\ρ=[lO n0,iO a,some (.str pool),lO st.length,iO c,iO n,some (.str nm),lO dl,none,iO top]/\s=s2) ?_ ?_
  ·by_cases w1:d1%3=0
   ·have t1:(d1%3==0)=true:=b9.mpr w1
    obtain⟨q,hq,eq⟩:=fw (q:=d2) (n:=n) (by omega)
    apply kM
    ·(walk_at "evs")
    apply cY
    ·exact bQ (bd bZ (bd (bd kv bZ h2) kv (gE pn)) eD)
    ·rw[eq];exact⟨_,_,rfl,1+q,by omega,by omega,rfl,rfl⟩
   ·have t1:(d1%3==0)=false:=aX.mpr w1
    apply hU
    ·(walk_at "evs")
    apply cY
    ·(walk_at "evs")
    ·exact⟨_,_,rfl,n,hn1,aw _,rfl,rfl⟩
  rintro ρ s3 ⟨top,UX,DD,rfl,rfl⟩
  obtain⟨M,eM,hM,em⟩:=Ae nm n top dl ds s3 (by omega) hn1 DC UX DD lD (by omega)
  obtain⟨y,rfl⟩:=kk2
  apply cU
  ·exact cI (aq kv (aq kv (aq kv kn))) em rfl
  ·exact⟨_,_,rfl,⟨_,rfl⟩,by simp only[undWs,b8];exact ph _ _,M,n,rfl,hM,hn1,DC,by rw[eM,y6];exact hc5,by rw[eM];exact hnc,by rw[eM];exact hnm2⟩
structure Wy where
 s:Nat
 l:Nat
 r:Nat
 a:Nat
def Wy.z(p:Wy):List Int:=[(p.s:Int),(p.l:Int),(p.r:Int),(p.a:Int)]
def Wy.lt(p q:Wy):Prop:=p.s<q.s\/p.s=q.s/\(p.l<q.l\/p.l=q.l/\(p.r<q.r\/p.r=q.r/\p.a<q.a))
theorem Wy.lex(p q:Wy):HT.lexLt p.z q.z=true↔p.lt q:=by
 obtain⟨a,b,c,d⟩:=p
 obtain⟨e,f,g,h⟩:=q
 simp only[Wy.z,Wy.lt,HT.lexLt_cons,HT.lexLt_nil_nil]
 by_cases h1:(a:Int)=e
 ·rw[ay h1]
  by_cases h2:(b:Int)=f
  ·rw[ay h2]
   by_cases h3:(c:Int)=g
   ·rw[ay h3]
    by_cases h4:(d:Int)=h
    ·rw[ay h4];constructor
     ·intro z;cases z
     ·intro z;omega
    ·rw[aC h4,bY];omega
   ·rw[aC h3,bY];omega
  ·rw[aC h2,bY];omega
 ·rw[aC h1,bY];omega
theorem Oq{a b c:Nat}{A B C:Prop}(t:A->B->C)(h1:a<b\/a=b/\A)(h2:b<c\/b=c/\B):a<c\/a=c/\C:=by
 rcases h1 with z|⟨rfl,p⟩
 ·rcases h2 with y|⟨rfl,_⟩
  ·exact .inl (qm z y)
  ·exact .inl z
 ·rcases h2 with y|⟨rfl,q⟩
  ·exact .inl y
  ·exact .inr ⟨rfl,t p q⟩
theorem Wy.trans{p q r:Wy}(h1:p.lt q)(h2:q.lt r):p.lt r:=Oq (Oq (Oq qm)) h1 h2
theorem Wy.irr(p:Wy):¬ p.lt p:=fun h=>by
 rcases h with z|⟨_,z|⟨_,z|⟨_,z⟩⟩⟩<;>exact bD _ z
theorem Wy.tri{p q:Wy}(h1:¬ p.lt q)(h2:¬ q.lt p):p=q:=by
 obtain⟨a,b,c,d⟩:=p
 obtain⟨e,f,g,h⟩:=q
 obtain rfl:a=e:=gc (dA fun z=>h2 (.inl z)) (dA fun z=>h1 (.inl z))
 obtain rfl:b=f:=gc (dA fun z=>h2 (.inr ⟨rfl,.inl z⟩)) (dA fun z=>h1 (.inr ⟨rfl,.inl z⟩))
 obtain rfl:c=g:=gc (dA fun z=>h2 (.inr ⟨rfl,.inr ⟨rfl,.inl z⟩⟩)) (dA fun z=>h1 (.inr ⟨rfl,.inr ⟨rfl,.inl z⟩⟩))
 obtain rfl:d=h:=gc (dA fun z=>h2 (.inr ⟨rfl,.inr ⟨rfl,.inr ⟨rfl,z⟩⟩⟩)) (dA fun z=>h1 (.inr ⟨rfl,.inr ⟨rfl,.inr ⟨rfl,z⟩⟩⟩))
 rfl
abbrev Ro:=Nat×Wy
abbrev Os(T:Nat->Nat->Nat->Nat)(L:Nat)(E:List Ro)(p:Ro):Prop:=∃el er:Ro,E[p.2.l]?=some el/\E[p.2.r]?=some er/\p.2.a<L/\T p.2.a el.1 er.1=p.1/\p.2.s=el.2.s+er.2.s+1
structure lq(T:Nat->Nat->Nat->Nat)(L N:Nat)(E:List Ro):Prop where
 zero:∃r,E=(0,⟨0,0,0,0⟩)::r
 lt:∀e∈E,e.1<N
 nd:(E.map Prod.fst).Nodup
 row:∀(i:Nat) (e:Ro),E[i]?=some e->0<i->e.2.l<i/\e.2.r<i/\Os T L E e
 rise:∀(i:Nat) (e f:Ro),E[i]?=some e->E[i+1]?=some f->e.2.lt f.2
structure yA(T:Nat->Nat->Nat->Nat)(L N:Nat)(E B:List Ro):Prop where
 nd:(B.map Prod.fst).Nodup
 ok:∀p∈B,Os T L E p/\p.1∉E.map Prod.fst/\p.1<N
 up:∀p∈B,∀e,E[E.length-1]?=some e->e.2.lt p.2
abbrev rj(l r a:Nat)(el er:Ro):Wy:=⟨el.2.s+er.2.s+1,l,r,a⟩
def HE(T:Nat->Nat->Nat->Nat)(E B:List Ro)(l r a:Nat):Prop:=∀el er,E[l]?=some el->E[r]?=some er->(∃(i:Nat) (e:Ro),E[i]?=some e/\e.1=T a el.1 er.1/\¬ (rj l r a el er).lt e.2)\/∃p∈B,p.1=T a el.1 er.1/\¬ (rj l r a el er).lt p.2
section
variable{E B:List Ro}
theorem lq.mono(h:lq T L N E):∀(k i:Nat) (e f:Ro),E[i]?=some e->E[i+k]?=some f->e.2.s<=f.2.s
 |0,i,e,f,h1,h2=>by rw[mE,h1]at h2;cases h2;exact aw _
 |k+1,i,e,f,h1,h2=>by
  have hk:i+k<E.length:=by have:=(aa.mp h2).1;omega
  have e1:E[i+k]?=some E[i+k]:=ac hk
  have a:=h.mono k i e _ h1 e1
  have b:=h.rise (i+k) _ f e1 (by rw[<- h2];congr 1)
  unfold Wy.lt at b
  omega
theorem lq.top(h:lq T L N E){e f:Ro}(h1:E[i]?=some e)(h2:E[E.length-1]?=some f):e.2.s<=f.2.s:=by
 have hi:=(aa.mp h1).1
 exact h.mono (E.length-1-i) i e f h1 (by rw[show i+(E.length-1-i)=E.length-1 by omega];exact h2)
theorem lq.len(h:lq T L N E):E.length<=N:=by
 have:=lh (l:=List.range N) h.nd fun c hc=>by
  obtain⟨e,he,rfl⟩:=al.mp hc
  exact bj.mpr (h.lt e he)
 simpa using this
theorem lq.len0(h:lq T L N E):0<E.length:=by obtain⟨r,e⟩:=h.zero;rw[e];simp
theorem yA.len(h:yA T L N E B):B.length<=N:=by
 have:=lh (l:=List.range N) h.nd fun c hc=>by
  obtain⟨e,he,rfl⟩:=al.mp hc
  exact bj.mpr (h.ok e he).2.2
 simpa using this
theorem BK(h:(B.map Prod.fst).Nodup):∀{p q:Ro},p∈B->q∈B->p.1=q.1->p=q:=by
 induction B with
 |nil=>intro p q hp;cases hp
 |cons b B ih=>
  intro p q hp hq e
  simp only[aG,bF]at h
  rcases aI.mp hp with rfl|hp'<;>rcases aI.mp hq with rfl|hq'
  ·rfl
  ·exact(h.1 (al.mpr ⟨q,hq',e.symm⟩)).elim
  ·exact(h.1 (al.mpr ⟨p,hp',e⟩)).elim
  ·exact ih h.2 hp' hq' e
theorem Os.app{x:List Ro}{p:Ro}(h:Os T L E p):Os T L (E++x) p:=by
 obtain⟨el,er,h1,h2,h3⟩:=h
 exact⟨el,er,by rw[au (aa.mp h1).1];exact h1,by rw[au (aa.mp h2).1];exact h2,h3⟩
def qG(B:List Ro)(p:Ro):List Ro:=if p.1∈B.map Prod.fst then B.map fun q=>if q.1=p.1 then p else q else B++[p]
theorem yB{p q:Ro}(h:q∈qG B p):q=p\/q∈B/\q.1≠p.1:=by
 unfold qG at h
 split at h
 ·obtain⟨x,hx,e⟩:=al.mp h
  split at e
  ·exact .inl e.symm
  ·rename_i hn;subst e;exact .inr ⟨hx,hn⟩
 ·rename_i hn
  rcases aN.mp h with h|h
  ·exact .inr ⟨h,fun e=>hn (al.mpr ⟨q,h,e⟩)⟩
  ·exact .inl (br.mp h)
theorem yC{p:Ro}:p∈qG B p:=by
 unfold qG
 split
 ·rename_i h
  obtain⟨x,hx,e⟩:=al.mp h
  exact al.mpr ⟨x,hx,by rw[ay e]⟩
 ·exact aN.mpr (.inr (br.mpr rfl))
theorem Gq{p q:Ro}(h:q∈B)(hn:q.1≠p.1):q∈qG B p:=by
 unfold qG
 split
 ·exact al.mpr ⟨q,h,by rw[aC hn]⟩
 ·exact aN.mpr (.inl h)
theorem JB{p:Ro}(h:(B.map Prod.fst).Nodup):((qG B p).map Prod.fst).Nodup:=by
 unfold qG
 split
 ·rw[aT]
  have e:B.map (Prod.fst∘fun q:Ro=>if q.1=p.1 then p else q)=B.map Prod.fst:=by
   refine bq fun q _=>?_
   show(if q.1=p.1 then p else q).1=q.1
   split
   ·rename_i e;exact e.symm
   ·rfl
  rw[e];exact h
 ·rename_i hn
  rw[cv,cR]
  refine⟨h,by simp,fun a ha b hb=>?_⟩
  simp only[aG,dL,br]at hb
  subst hb
  exact fun z=>hn (z▸ha)
def Gr(E B:List Ro)(p:Ro)(B':List Ro):Prop:=(p.1∈E.map Prod.fst/\B'=B)\/(p.1∉E.map Prod.fst/\(∃q∈B,q.1=p.1/\¬ p.2.lt q.2)/\B'=B)\/(p.1∉E.map Prod.fst/\(∀q∈B,q.1=p.1->p.2.lt q.2)/\B'=qG B p)
theorem Gu(h:lq T L N E)(b:yA T L N E B){B':List Ro}{p:Ro}(hw:Os T L E p)(hN:p.1<N)(qJ:p.2.l=E.length-1\/p.2.r=E.length-1)(o:Gr E B p B'):yA T L N E B':=by
 rcases o with⟨_,rfl⟩|⟨_,_,rfl⟩|⟨h1,h2,rfl⟩
 ·exact b
 ·exact b
 ·refine⟨JB b.nd,fun q hq=>?_,fun q hq e he=>?_⟩
  ·rcases yB hq with rfl|⟨hq,_⟩
   ·exact⟨hw,h1,hN⟩
   ·exact b.ok q hq
  ·rcases yB hq with rfl|⟨hq,_⟩
   ·obtain⟨el,er,e1,e2,_,_,e5⟩:=hw
    rcases qJ with z|z
    ·rw[z,he]at e1;cases e1
     unfold Wy.lt;omega
    ·rw[z,he]at e2;cases e2
     unfold Wy.lt;omega
   ·exact b.up q hq e he
theorem JC{l r a:Nat}{B':List Ro}{p:Ro}(o:Gr E B p B')(b:(B.map Prod.fst).Nodup)(c:HE T E B l r a):HE T E B' l r a:=by
 rcases o with⟨_,rfl⟩|⟨_,_,rfl⟩|⟨h1,h2,rfl⟩
 ·exact c
 ·exact c
 ·intro el er e1 e2
  rcases c el er e1 e2 with x|⟨q,hq,e,n⟩
  ·exact .inl x
  ·by_cases z:q.1=p.1
   ·have:=h2 q hq z
    exact .inr ⟨p,yC,z▸e,fun y=>n (Wy.trans y this)⟩
   ·exact .inr ⟨q,Gq hq z,e,n⟩
theorem Gv(h:lq T L N E){l r a:Nat}{B':List Ro}{el er:Ro}(e1:E[l]?=some el)(e2:E[r]?=some er)(qJ:l=E.length-1\/r=E.length-1)(o:Gr E B (T a el.1 er.1,rj l r a el er) B'):HE T E B' l r a:=by
 intro el' er' f1 f2
 rw[e1]at f1;rw[e2]at f2
 cases f1;cases f2
 rcases o with⟨h1,rfl⟩|⟨_,⟨q,hq,e,n⟩,rfl⟩|⟨h1,h2,rfl⟩
 ·obtain⟨x,hx,e⟩:=al.mp h1
  obtain⟨i,hi⟩:=aZ hx
  refine .inl ⟨i,x,hi,e,fun z=>?_⟩
  rcases qJ with y|y
  ·have:=h.top hi (by rw[<- y];exact e1)
   unfold Wy.lt at z;simp only at z;omega
  ·have:=h.top hi (by rw[<- y];exact e2)
   unfold Wy.lt at z;simp only at z;omega
 ·exact .inr ⟨q,hq,e,n⟩
 ·exact .inr ⟨_,yC,rfl,fun z=>by unfold Wy.lt at z;simp only at z;omega⟩
theorem Db(h:lq T L N E)(b:yA T L N E B){p:Ro}(hp:p∈B):lq T L N (E++[p]):=by
 obtain⟨w,hn,hN⟩:=b.ok p hp
 obtain⟨r,hr⟩:=h.zero
 refine⟨⟨r++[p],by rw[hr];rfl⟩,fun e he=>?_,?_,fun i e he hi=>?_,fun i e f h1 h2=>?_⟩
 ·rcases aN.mp he with he|he
  ·exact h.lt e he
  ·rw[br.mp he];exact hN
 ·rw[cv,cR]
  refine⟨h.nd,by simp,fun a ha c hc=>?_⟩
  simp only[aG,dL,br]at hc
  subst hc
  exact fun z=>hn (z▸ha)
 ·by_cases hl:i<E.length
  ·rw[au hl]at he
   obtain⟨a,c,d⟩:=h.row i e he hi
   exact⟨a,c,d.app⟩
  ·have:i=E.length:=by have:=(aa.mp he).1;simp at this;omega
   subst this
   rw[bL]at he;cases he
   obtain⟨el,er,e1,e2,e3⟩:=w
   exact⟨(aa.mp e1).1,(aa.mp e2).1,Os.app ⟨el,er,e1,e2,e3⟩⟩
 ·by_cases hl:i+1<E.length
  ·rw[au hl]at h2
   rw[au (by omega)]at h1
   exact h.rise i e f h1 h2
  ·have:i+1=E.length:=by have:=(aa.mp h2).1;simp at this;omega
   rw[this,bL]at h2;cases h2
   rw[au (by omega)]at h1
   exact b.up p hp e (by rw[<- h1];congr 1;omega)
theorem Dd(h:lq T L N E)(b:yA T L N E B){p:Ro}(hp:p∈B)(Pc:∀q∈B,¬ q.2.lt p.2):yA T L N (E++[p]) (B.filter fun q=>decide (q.1≠p.1)):=by
 refine⟨(List.Nodup.sublist (List.filter_sublist.map _) b.nd),fun q hq=>?_,fun q hq e he=>?_⟩
 ·obtain⟨hq,lu⟩:=eN.mp hq
  obtain⟨w,hn,hN⟩:=b.ok q hq
  refine⟨w.app,?_,hN⟩
  rw[cv,aN]
  rintro(z|z)
  ·exact hn z
  ·simp only[aG,dL,br]at z
   exact iq lu z
 ·obtain⟨hq,lu⟩:=eN.mp hq
  have he:(E++[p])[E.length]?=some e:=by rw[<- he];congr 1;simp
  rw[bL]at he;cases he
  have h1:=Pc q hq
  obtain⟨el,er,a1,a2,a3,a4,a5⟩:=(b.ok q hq).1
  obtain⟨fl,fr,c1,c2,c3,c4,c5⟩:=(b.ok p hp).1
  obtain⟨q1,⟨s,l,r,a⟩⟩:=q
  obtain⟨p1,⟨s',l',r',a'⟩⟩:=p
  simp only at a1 a2 a3 a4 a5 c1 c2 c3 c4 c5
  by_cases z:l=l'/\r=r'/\a=a'
  ·obtain⟨rfl,rfl,rfl⟩:=z
   rw[a1]at c1;rw[a2]at c2
   cases c1;cases c2
   exact(iq lu (a4.symm.trans c4)).elim
  ·by_cases y:Wy.lt ⟨s',l',r',a'⟩ ⟨s,l,r,a⟩
   ·exact y
   ·have:=Wy.tri h1 y
    cases this
    exact(z ⟨rfl,rfl,rfl⟩).elim
theorem Gw{l r a:Nat}{p:Ro}(hp:p∈B)(nd:(B.map Prod.fst).Nodup)(hl:l<E.length)(hr:r<E.length)(c:HE T E B l r a):HE T (E++[p]) (B.filter fun q=>decide (q.1≠p.1)) l r a:=by
 intro el er e1 e2
 rw[au hl]at e1
 rw[au hr]at e2
 rcases c el er e1 e2 with⟨i,e,f1,f2,f3⟩|⟨q,hq,f2,f3⟩
 ·exact .inl ⟨i,e,by rw[au (aa.mp f1).1];exact f1,f2,f3⟩
 ·by_cases z:q.1=p.1
  ·obtain rfl:=BK nd hq hp z
   exact .inl ⟨E.length,q,bL,f2,f3⟩
  ·exact .inr ⟨q,eN.mpr ⟨hq,bn z⟩,f2,f3⟩
end
def dI(f:α->Nat)(g:α->W)(l:List α):List (DK×W):=l.map fun a=>(DK.i (f a:Nat),g a)
section
variable{f:α->Nat}{g:α->W}{l:List α}
theorem Af(q:Nat)(a:α):decide ((DK.i (f a:Nat))=DK.i (q:Nat))=decide (f a=q):=by
 rw[gX,bY,bY]
 constructor
 ·intro h;injection h with h;omega
 ·intro h;rw[h]
theorem Gx(q:Nat):jx (dI f g l) (.i q)=(l.find? fun a=>decide (f a=q)).map g:=by
 unfold jx dI
 rw[List.find?_map]
 simp only[cQ,Af,Option.map_map]
theorem BL(q:Nat):(jx (dI f g l) (.i q)).isSome=decide (q∈l.map f):=by
 rw[Gx,kS,gX,List.find?_isSome,bY,al]
 simp
theorem Gy{a:α}(h:(l.map f).Nodup)(ha:a∈l):jx (dI f g l) (.i (f a:Nat))=some (g a):=by
 rw[Gx]
 induction l with
 |nil=>cases ha
 |cons b l ih=>
  simp only[aG,bF]at h
  rw[bG]
  rcases aI.mp ha with rfl|ha'
  ·simp
  ·have:f b≠f a:=fun z=>h.1 (z▸al.mpr ⟨a,ha',rfl⟩)
   rw[show decide (f b=f a)=false from aV this]
   exact ih h.2 ha'
theorem wq{a:α}(h:f a∉l.map f):sJ (dI f g l) (.i (f a:Nat)) (g a)=dI f g (l++[a]):=by
 unfold sJ
 rw[aC]
 ·unfold dI;rw[cv];rfl
 ·intro z
  unfold dI at z
  rw[List.any_map,fV]at z
  obtain⟨x,hx,e⟩:=z
  simp only[cQ,Af,bY]at e
  exact h (al.mpr ⟨x,hx,e⟩)
theorem JD(q:Nat):jQ (dI f g l) (.i q)=dI f g (l.filter fun a=>decide (f a≠q)):=by
 unfold jQ dI
 rw[List.filter_map]
 congr 1
 refine List.filter_congr fun a _=>?_
 show decide ((DK.i (f a:Nat))≠DK.i (q:Nat))=decide (f a≠q)
 rw[decide_not,Af,decide_not]
theorem nF:(dI f g l).length=l.length:=by simp[dI]
end
def wt(w:Wy):W:=.tup (w.z.map W.int)
abbrev bW(B:List Ro):List (DK×W):=dI (fun p:Ro=>p.1) (fun p=>wt p.2) B
abbrev tW(E:List Ro):List (DK×W):=dI (fun p:Ro=>p.1) (fun _=>W.bl true) E
theorem Ot(B:List Ro)(p:Ro):sJ (bW B) (.i (p.1:Nat)) (wt p.2)=bW (qG B p):=by
 by_cases h:p.1∈B.map Prod.fst
 ·unfold qG
  rw[ay h]
  unfold sJ
  rw[ay]
  ·unfold bW dI
   rw[aT,aT]
   refine bq fun q _=>?_
   show(if DK.i (q.1:Nat)=DK.i (p.1:Nat)then _ else _)=_
   by_cases e:q.1=p.1
   ·rw[ay (by rw[e])]
    show _=(DK.i ((if q.1=p.1 then p else q).1:Nat),wt (if q.1=p.1 then p else q).2)
    rw[ay e];show(DK.i (q.1:Nat),_)=_;rw[e]
   ·rw[aC (by intro z;injection z with z;omega)]
    show _=(DK.i ((if q.1=p.1 then p else q).1:Nat),wt (if q.1=p.1 then p else q).2)
    rw[aC e]
  ·unfold bW dI
   rw[List.any_map,fV]
   obtain⟨x,hx,e⟩:=al.mp h
   exact⟨x,hx,by simp only[cQ,bY];rw[e]⟩
 ·unfold qG
  rw[aC h]
  exact wq (f:=fun p:Ro=>p.1) (g:=fun p=>wt p.2) (a:=p) h
theorem tD:∀B:List Ro,jy (bW B)=some (B.map fun p=>p.2.z)
 |[]=>rfl
 |p::B=>by
  show(match zL (wt p.2),jy (bW B)with|some a,some b=>some (a::b)|_,_=>none)=_
  rw[tD B];rfl
theorem yD(B:List Ro):∀j,j<B.length->∃p,B[jS (fun a=>(B.map fun p=>p.2.z).getD a []) j]?=some p/\∀i q,i<=j->B[i]?=some q->¬ q.2.lt p.2
 |0,h=>⟨B[0],ac h,fun i q hi hq=>by
   obtain rfl:i=0:=by omega
   rw[ac h]at hq;cases hq
   exact Wy.irr _⟩
 |j+1,h=>by
  obtain⟨p,hp,hm⟩:=yD B j (by omega)
  have hj:B[j+1]?=some B[j+1]:=ac h
  have kz:∀(i:Nat) (q:Ro),B[i]?=some q->(B.map fun p=>p.2.z).getD i []=q.2.z:=fun i q e=>by
   rw[aE,ak,e];rfl
  unfold jS
  simp only[kz _ _ hj,kz _ _ hp]
  split
  ·rename_i z
   rw[Wy.lex]at z
   refine⟨B[j+1],hj,fun i q hi hq=>?_⟩
   rcases eA i (j+1)with y|y
   ·have:=hm i q (by omega) hq
    exact fun y=>this (Wy.trans y z)
   ·obtain rfl:i=j+1:=by omega
    rw[hj]at hq;cases hq
    exact Wy.irr _
  ·rename_i z
   refine⟨p,hp,fun i q hi hq=>?_⟩
   rcases eA i (j+1)with y|y
   ·exact hm i q (by omega) hq
   ·obtain rfl:i=j+1:=by omega
    rw[hj]at hq;cases hq
    intro y;exact z ((Wy.lex _ _).mpr y)
section
variable{st:List aj}{kvs:List (DK×W)}
theorem fM(h:st[n]?=some (.dct kvs)):iD st (.loc n)=some (n,kvs):=by simp only[iD,h]
theorem wu(h:st[n]?=some (.dct kvs)):rf st (.loc n)=some (n,kvs):=by simp only[rf,h]
theorem BM{Ho b:Bool}(h:iD st (.loc n)=some (n,kvs))(hb:(if Ho then !(jx kvs (.i q)).isSome else(jx kvs (.i q)).isSome)=b):vT Ho (.int q) (.loc n) st=.ok (.bl b) st:=by
 rw[<- hb];simp only[vT,h,jP]
theorem oE{w:W}(h:iD st (.loc n)=some (n,kvs))(hb:jx kvs (.i q)=some w):gS (.loc n) (.int q) st=.ok w st:=by
 simp only[gS,h,jP,hb,cw]
theorem ww{q:Nat}{v:W}(h:st[n]?=some (.dct kvs))(hl:kvs.length<jF):jR (.loc n) (.int q) v st=some (st.set n (.dct (sJ kvs (.i q) v))):=by
 simp only[jR,wu h,jP];rw[ay hl]
theorem Ag(h:iD st (.loc n)=some (n,kvs)):sL [.loc n] st=.ok (.int kvs.length) st:=by
 simp only[sL,h]
theorem Ou{fk:FE}{q:Nat}{w:W}(h1:fo ρ st=.ok (.loc n) st)(h2:fk ρ st=.ok (.int q) st)(h:st[n]?=some (.dct kvs))(hg:jx kvs (.i q)=some w):A8 fo fk ρ st=.ok w (st.set n (.dct (jQ kvs (.i q)))):=by
 unfold A8
 rw[h1];simp only[R.bind_ok,wu h]
 rw[h2];simp only[R.bind_ok,wu h,jP,hg,cw]
theorem JE{T:Addr}{q:Str}{ks:List (List Int)}{p:DK×W}(h0:ρ[i]?=some (lO n))(h:st[n]?=some (.dct kvs))(hk:jy kvs=some ks)(ht:st[j]?=some (.tab T pos q))(hp:kvs[jS (fun a=>ks.getD a []) (kvs.length-1)]?=some p) :
  sN i j T pos q ρ st=.ok p.1.w st:=by
 unfold sN
 rw[h0];simp only[wu h,hk]
 rw[ay (show qS st j T pos q from ht),hp];rfl
theorem R9{w v:Wy}{b:Bool}(h:HT.lexLt w.z v.z=b):CP (wt w) (wt v) st=.ok (.bl b) st:=by
 rw[<- h];rfl
theorem JF{body:FS}{c:Nat}{d:aj}(hc:c<st.length)(hd:d.und st.length=true)(h:gG (HD fun _ bx=>∃x,bx=st.set c d++x) (body (ws.map some++List.replicate (N-ws.length) none) st)):d9 N body ws st=.ok .non (st.set c d):=by
 obtain⟨ρ',bx,e,x,rfl⟩:=h
 unfold d9
 rw[e]
 show R.ok W.non (h_ st (st.set c d++x) [.non])=_
 unfold h_
 rw[ay]
 ·congr 1
  rw[jb (by simp),dM (by simp)]
 ·refine⟨rfl,by simp,fun i hi=>?_⟩
  rw[au (by simpa using hi)]
  by_cases z:c=i
  ·subst z
   exact .inr ⟨d,by rw[bv hi],hd⟩
  ·exact .inl (by rw[bP z])
end
theorem p9{st:List aj}{P:RS->Prop}{f:FG}{body:FS}{k:zz}(I:Nat->cu->List aj->Prop)(h:fi ρ st=.ok k st1)(h0:I 0 ρ st1)(hc:∀i ρ st,I i ρ st->iB st k.2)
  (hs:∀i w ρ st,k.1[i]?=some w->I i ρ st->∃ρ',f w ρ=some ρ'/\gG (HD (I (i+1))) (body ρ' st)) (he:∀ρ st,I k.1.length ρ st->P (.nx ρ st)):gG P (eS fi f body ρ st):=by
 obtain⟨ρ2,c7,e,h2⟩:=sW (f:=f) (body:=body) (ck:=k.2) I (ws:=k.1) (ρ:=ρ) (st:=st1) 0 h0 hc fun i w ρ st hw hI=>by
  rw[fI]at hI ⊢
  obtain⟨ρ',e1,ρ2,c7,e2,h2⟩:=hs i w ρ st hw hI
  exact⟨ρ',ρ2,c7,e1,e2,h2⟩
 rw[fI]at h2
 rw[Bh h,e];exact he _ _ h2
def wS(n:Nat):List (Nat×Nat):=(List.range (n+1)).map (fun o=>(n,o))++(List.range n).map (fun o=>(o,n))
def Ov(p:Nat×Nat):W:=.tup [.int (p.1:Nat),.int (p.2:Nat)]
theorem tF(q:Nat)(F:W->β):(bM 0 q).map F=(List.range q).map fun i=>F (.int (i:Nat)):=by
 unfold bM
 rw[aT]
 refine bq fun i _=>?_
 show F (.int (0+(i:Int)))=_
 rw[eX]
theorem Gz(n:Nat)(hn:n<=1000)(st:List aj):∃x y,Ge [.int n] st=.ok (.loc (st.length+2)) (st++[.lst x,.lst y,.lst ((wS n).map Ov)]):=by
 refine⟨List.map (fun w=>W.tup [.int n,w]) (bM 0 ((n:Int)+1).toNat),List.map (fun w=>W.tup [w,.int n]) (bM 0 (n:Int).toNat),ye (N:=1) (body:=RJ) (ws:=[.int n]) (k:=2) ?_⟩
 refine nE ?_
 refine bd (gu (fun w=>.tup [.int n,w]) (c9 (aq (bd kv bZ eD) bc) (by omega)) ?_ trivial ?_) (gu (fun w=>.tup [w,.int n]) (c9 kn (by omega)) ?_ trivial ?_) ?_
 ·rw[bM,ai,cP];show _<=1000000;omega
 ·intro w hw
  exact⟨_,rfl,(by(walk_at "evs"))⟩
 ·rw[bM,ai,cP];show _<=1000000;omega
 ·intro w hw
  exact⟨_,rfl,(by(walk_at "evs"))⟩
 ·have ea:(wS n).map Ov=List.map (fun w=>W.tup [.int n,w]) (bM 0 ((n:Int)+1).toNat)++List.map (fun w=>W.tup [w,.int n]) (bM 0 (n:Int).toNat):=by
   rw[tF,tF,wS,cv,aT,aT]
   rfl
  rw[E7 (ws:=List.map (fun w=>W.tup [.int n,w]) (bM 0 ((n:Int)+1).toNat)) (xs:=List.map (fun w=>W.tup [w,.int n]) (bM 0 (n:Int).toNat)) (aM (by rw[ca];rfl)) (by rw[ca];rfl),ea]
  ·simp
  ·simp[bM];show _<=1000000;omega
theorem Ow{p:Nat×Nat}(h:(wS n)[i]?=some p):p.1<=n/\p.2<=n/\(p.1=n\/p.2=n):=by
 have:=am h
 unfold wS at this
 rcases aN.mp this with h|h
 ·obtain⟨o,ho,rfl⟩:=al.mp h
  have:=bj.mp ho
  exact⟨aw _,by simp only;omega,.inl rfl⟩
 ·obtain⟨o,ho,rfl⟩:=al.mp h
  have:=bj.mp ho
  exact⟨by simp only;omega,aw _,.inr rfl⟩
theorem JG{n l r:Nat}(hl:l<=n)(hr:r<=n)(h:l=n\/r=n):∃i:Nat,i<(wS n).length/\(wS n)[i]?=some (l,r):=by
 have:(l,r)∈wS n:=by
  unfold wS
  rw[aN]
  by_cases z:l=n
  ·subst z
   exact .inl (al.mpr ⟨r,bj.mpr (by omega),rfl⟩)
  ·have:r=n:=by omega
   subst this
   exact .inr (al.mpr ⟨l,bj.mpr (by omega),rfl⟩)
 obtain⟨i,hi⟩:=aZ this
 exact⟨i,(aa.mp hi).1,hi⟩
def vh(E:List Ro)(i:Nat)(e:Ro)(w:W):Prop:=(i=0/\w=.tup [.int (e.1:Nat),.int (e.2.s:Nat),.tup []])\/(0<i/\∃el er:Ro,E[e.2.l]?=some el/\E[e.2.r]?=some er/\w=.tup [.int (e.1:Nat),.int (e.2.s:Nat),.tup [.int (el.1:Nat),.int (er.1:Nat),.int (e.2.a:Nat)]])
structure Rows(E:List Ro)(R:List W):Prop where
 len:R.length=E.length
 at':∀(i:Nat) (e:Ro),E[i]?=some e->∃w,R[i]?=some w/\vh E i e w
theorem vh.sh{E:List Ro}{e:Ro}{w:W}(h:vh E i e w):∃t,w=.tup [.int (e.1:Nat),.int (e.2.s:Nat),t]:=by
 rcases h with⟨_,rfl⟩|⟨_,_,_,_,_,rfl⟩<;>exact⟨_,rfl⟩
theorem vh.app{E x:List Ro}{e:Ro}{w:W}(h:vh E i e w):vh (E++x) i e w:=by
 rcases h with h|⟨h0,el,er,h1,h2,h3⟩
 ·exact .inl h
 ·exact .inr ⟨h0,el,er,by rw[au (aa.mp h1).1];exact h1,by rw[au (aa.mp h2).1];exact h2,h3⟩
def bt(M:Mc)(a l r:Nat):Nat:=((M.tb.getD a []).getD l []).getD r 0
section
variable{M:Mc}
theorem oF(hM:n9 M N){a:Nat}(ht:M.tb[a]?=some t){l r:Nat}(hl:l<N)(hr:r<N):∃row,t[l]?=some row/\row[r]?=some (bt M a l r)/\bt M a l r<N:=by
 obtain⟨t1,t2⟩:=hM.t t (am ht)
 have hl':l<t.length:=by omega
 have e1:t[l]?=some t[l]:=ac hl'
 obtain⟨r1,r2⟩:=t2 t[l] (fW hl')
 have hr':r<t[l].length:=by omega
 have e2:t[l][r]?=some t[l][r]:=ac hr'
 have e3:bt M a l r=t[l][r]:=by
  unfold bt
  rw[aE,aE,aE,ht]
  simp only[Option.getD_some,e1,e2]
 exact⟨t[l],e1,by rw[e2,e3],by rw[e3];exact r2 _ (fW hr')⟩
theorem p_{l:Nat}{st:List aj}(h:t[l]?=some row):bp (dH t) (.int (l:Nat)) st=.ok (g7 row) st:=by
 unfold dH;exact hJ (dg (by rw[ak,h];rfl))
theorem qc{r k:Nat}{st:List aj}(h:row[r]?=some k):bp (g7 row) (.int (r:Nat)) st=.ok (.int (k:Nat)) st:=by
 unfold g7;exact hJ (dg (by rw[ak,h];rfl))
end
structure Go(T:Nat->Nat->Nat->Nat)(L N:Nat)(E B:List Ro)(D:Nat->Nat->Nat->Prop):Prop where
 best:yA T L N E B
 cov:∀l r a,D l r a->HE T E B l r a
theorem Go.imp{E B:List Ro}{D D':Nat->Nat->Nat->Prop}(g:Go T L N E B D)(h:∀l r a,D' l r a->D l r a):Go T L N E B D':=⟨g.best,fun l r a d=>g.cov l r a (h l r a d)⟩
theorem Go.one{E B B':List Ro}{D:Nat->Nat->Nat->Prop}(h:lq T L N E)(g:Go T L N E B D){l r a:Nat}{el er:Ro}(e1:E[l]?=some el)(e2:E[r]?=some er)(ha:a<L)(hN:T a el.1 er.1<N)
  (qJ:l=E.length-1\/r=E.length-1) (o:Gr E B (T a el.1 er.1,rj l r a el er) B'):Go T L N E B' (fun l' r' a'=>D l' r' a'\/l'=l/\r'=r/\a'=a):=
 ⟨Gu h g.best ⟨el,er,e1,e2,ha,rfl,rfl⟩ hN qJ o,fun l' r' a' d=>by
  rcases d with d|⟨rfl,rfl,rfl⟩
  ·exact JC o g.best.nd (g.cov _ _ _ d)
  ·exact Gv h e1 e2 qJ o⟩
theorem yE(n:Nat):∀l:List Int,undWs n (l.map W.int)=true
 |[]=>rfl
 |_::l=>by simp only[aG,undWs,yE n l,b8];rfl
theorem Ox(n:Nat)(B:List Ro):(aj.dct (bW B)).und n=true:=by
 show undWs n ((bW B).map fun p=>p.2)=true
 unfold bW dI
 rw[aT]
 induction B with
 |nil=>rfl
 |cons b B ih=>
  simp only[aG,undWs,ih,b8]
  show(wt b.2).und n=true
  unfold wt W.und
  exact yE n _
section
variable{M:Mc}{E B:List Ro}{R:List W}{st:List aj}{ra rb rc:Nat}
theorem BN(hM:n9 M N)(hN:N<=100)(rC:st[ra]?=some (.lst R))(Sq:st[rb]?=some (.dct (tW E)))(Hk:st[rc]?=some (.dct (bW B)))(n1:rc≠ra)(n2:rc≠rb)(hR:Rows E R)(h:lq (bt M) M.tb.length N E)
  (g:Go (bt M) M.tb.length N E B fun l r a=>l<E.length-1/\r<E.length-1/\a<M.tb.length) :
  ∃B',Go (bt M) M.tb.length N E B' (fun l r a=>l<E.length/\r<E.length/\a<M.tb.length)/\Gf [M.w,.loc ra,.loc rb,.loc rc] st=.ok .non (st.set rc (.dct (bW B'))):=by
 have hE:=h.len
 have hE0:=h.len0
 suffices hh:gG (HD fun _ bx=>∃B',Go (bt M) M.tb.length N E B' (fun l r a=>l<E.length/\r<E.length/\a<M.tb.length)/\∃x,bx=st.set rc (.dct (bW B'))++x) (RV ([M.w,W.loc ra,.loc rb,.loc rc].map some++List.replicate (11-4) none) st) by
  obtain⟨ρ',bx,e,B',hg,hx⟩:=hh
  exact⟨B',hg,JF (aa.mp Hk).1 (Ox _ _) ⟨ρ',bx,e,hx⟩⟩
 obtain⟨x,y,ep⟩:=Gz (E.length-1) (by omega) st
 have hc:=(aa.mp Hk).1
 have elen:((R.length:Int)-1)=((E.length-1:Nat):Int):=by rw[hR.len];omega
 generalize rq:st++[aj.lst x,.lst y,.lst ((wS (E.length-1)).map Ov)]=s1 at ep
 have qh:s1[st.length+2]?=some (.lst ((wS (E.length-1)).map Ov)):=by rw[<- rq,de];rfl
 have p1:st <+: s1:=by rw[<- rq];exact ao _ _
 have hq:∀(B':List Ro) (i:Nat) (c:aj),i≠rc->s1[i]?=some c->(s1.set rc (.dct (bW B')))[i]?=some c:=fun B' i c hi e=>by rw[bP (Ne.symm hi)];exact e
 have hq':∀(B':List Ro),(s1.set rc (.dct (bW B')))[rc]?=some (.dct (bW B')):=fun B'=>bv (aY hc p1.length_le)
 have yL:s1.set rc (.dct (bW B))=s1:=by
  refine kU fun i=>?_
  by_cases z:rc=i
  ·subst z;rw[hq',pre_get p1 Hk]
  ·rw[bP z]
 refine p9 (fun i ρ s=>∃(B':List Ro) (o4 o5 o6 o7 o8 o9 m7:Option W),ρ=[some M.w,lO ra,lO rb,lO rc,o4,o5,o6,o7,o8,o9,m7]/\s=s1.set rc (.dct (bW B')) /\
   Go (bt M) M.tb.length N E B' fun l r a=>(l<E.length-1/\r<E.length-1\/∃j,j<i/\(wS (E.length-1))[j]?=some (l,r))/\a<M.tb.length) (k:=((wS (E.length-1)).map Ov,some (st.length+2,(wS (E.length-1)).map Ov))) (st1:=s1)
  (fq (cI (aq (bd (bb kn (gP (aK rC))) bZ rfl) bc) (by show Ge [W.int ((R.length:Int)-1)] st=_;rw[elen];exact ep) rfl) (aK qh))
  ⟨B,_,_,_,_,_,_,_,rfl,yL.symm,g.imp fun l r a d=>?_⟩ ?_ ?_ ?_
 ·obtain⟨d|⟨j,z,_⟩,da⟩:=d
  ·exact⟨d.1,d.2,da⟩
  ·exact absurd z (cE _)
 ·rintro i ρ s ⟨B',o4,o5,o6,o7,o8,o9,m7,rfl,rfl,gg⟩
  exact aK (hq B' _ _ (by omega) qh)
 ·rintro i w ρ s hw ⟨B0,o4,o5,o6,o7,o8,o9,m7,rfl,rfl,gg⟩
  rw[ak]at hw
  cases hp:(wS (E.length-1))[i]? with
  |none=>rw[hp]at hw;cases hw
  |some p=>
   obtain⟨l,r⟩:=p
   rw[hp]at hw
   cases hw
   obtain⟨hl,hr,qJ⟩:=Ow hp
   simp only at hl hr qJ
   have hl':l<E.length:=by omega
   have hr':r<E.length:=by omega
   obtain⟨el,hel⟩:∃el,E[l]?=some el:=⟨_,ac hl'⟩
   obtain⟨er,her⟩:∃er,E[r]?=some er:=⟨_,ac hr'⟩
   obtain⟨wl,Hv,rl⟩:=hR.at' l el hel
   obtain⟨wr,hwr,rr⟩:=hR.at' r er her
   obtain⟨tl,rfl⟩:=rl.sh
   obtain⟨tr,rfl⟩:=rr.sh
   clear rl rr
   have hlN:el.1<N:=h.lt el (am hel)
   have Ts:er.1<N:=h.lt er (am her)
   have xl:∀B',bp (.loc ra) (.int (l:Nat)) (s1.set rc (.dct (bW B')))=.ok _ _:=fun B'=>jU (aK (hq B' _ _ (Ne.symm n1) (pre_get p1 rC))) (dg Hv)
   have xr:∀B',bp (.loc ra) (.int (r:Nat)) (s1.set rc (.dct (bW B')))=.ok _ _:=fun B'=>jU (aK (hq B' _ _ (Ne.symm n1) (pre_get p1 rC))) (dg hwr)
   refine⟨_,rfl,?_⟩
   apply aB
   ·exact bQ (bd (bd (bd (bd kv kv (xl B0)) bZ ox) (bd (bd kv kv (xr B0)) bZ ox) eD) bZ eD)
   refine p9 (fun k ρ s=>∃(B':List Ro) (o7 o8 o9 m7:Option W),ρ=[some M.w,lO ra,lO rb,lO rc,iO (l:Nat),iO (r:Nat),iO ((el.2.s:Int)+(er.2.s:Int)+1),o7,o8,o9,m7]/\s=s1.set rc (.dct (bW B')) /\
     Go (bt M) M.tb.length N E B' fun l' r' a'=>((l'<E.length-1/\r'<E.length-1\/∃j,j<i/\(wS (E.length-1))[j]?=some (l',r'))/\a'<M.tb.length)\/l'=l/\r'=r/\a'<k) (k:=(sE (M.tb.map dH),none)) (st1:=s1.set rc (.dct (bW B0)))
    (by show vP (ag (e2 bp (ae 0) (eI 2)) az) _ _=_;unfold vP;rfl) ⟨B0,_,_,_,_,rfl,rfl,gg.imp fun l' r' a' d=>?_⟩ (fun _ _ _ _=>trivial) ?_ ?_
   ·rcases d with d|⟨_,_,d⟩
    ·exact d
    ·exact absurd d (cE _)
   ·rintro k w ρ s hw ⟨B1,o7,o8,o9,m7,rfl,rfl,gg⟩
    obtain⟨y,hy,rfl⟩:=uT hw
    rw[ak]at hy
    cases ht:M.tb[k]? with
    |none=>rw[ht]at hy;cases hy
    |some t=>
     rw[ht]at hy
     cases hy
     have hk:k<M.tb.length:=(aa.mp ht).1
     obtain⟨row,t1e,t2e,t3e⟩:=oF hM ht hlN Ts
     refine⟨_,rfl,?_⟩
     apply aB
     ·exact bQ (bd (bd kv (bd (bd kv kv (xl B1)) bZ ox) (p_ t1e)) (bd (bd kv kv (xr B1)) bZ ox) (qc t2e))
     apply aB
     ·exact bQ (iE (aq kv (aq kv (aq kv kn))) (bI rfl))
     have ew:W.tup [.int ((el.2.s:Int)+(er.2.s:Int)+1),.int (l:Nat),.int (r:Nat),.int (k:Nat)]=wt (rj l r k el er):=by
      unfold wt Wy.z
      simp only[aG,dL,mX];rfl
     have hto:iD (s1.set rc (.dct (bW B1))) (.loc rb)=some (rb,tW E):=fM (hq B1 _ _ (Ne.symm n2) (pre_get p1 Sq))
     have hbo:iD (s1.set rc (.dct (bW B1))) (.loc rc)=some (rc,bW B1):=fM (hq' B1)
     have fin:∀B',Gr E B1 (bt M k el.1 er.1,rj l r k el er) B'->Go (bt M) M.tb.length N E B' fun l' r' a'=>((l'<E.length-1/\r'<E.length-1\/∃j,j<i/\(wS (E.length-1))[j]?=some (l',r'))/\a'<M.tb.length)\/l'=l/\r'=r/\a'<k+1:=fun B' o=>
      (Go.one h gg hel her hk t3e qJ o).imp fun l' r' a' d=>by
       rcases d with d|⟨rfl,rfl,d⟩
       ·exact .inl (.inl d)
       ·rcases eA a' k with z|z
        ·exact .inl (.inr ⟨rfl,rfl,z⟩)
        ·exact .inr ⟨rfl,rfl,by omega⟩
     have put:∀ρ:cu,ρ[3]?=some (lO rc)->ρ[9]?=some (iO (bt M k el.1 er.1:Nat))->ρ[10]?=some (some (wt (rj l r k el er)))->m5 (ae 3) (ae 9) (ae 10) jR ρ (s1.set rc (.dct (bW B1)))=.nx ρ (s1.set rc (.dct (bW (qG B1 (bt M k el.1 er.1,rj l r k el er))))):=fun ρ r3 r9 r10=>by
      refine lK (ig r10) (ig r3) (ig r9) ?_
      rw[ww (hq' B1) (by rw[nF];have:=gg.best.len;show _<1000000;omega),List.set_set,Ot B1 (bt M k el.1 er.1,rj l r k el er)]
     rw[ew]
     by_cases c1:bt M k el.1 er.1∈E.map Prod.fst
     ·refine hU (v9 (bO (bd kv kv (BM (b:=false) hto (by rw[BL];simp only[fx];rw[bn c1];rfl))))) ?_
      exact⟨_,_,rfl,B1,_,_,_,_,rfl,rfl,fin B1 (.inl ⟨c1,rfl⟩)⟩
     ·have t1:∀ρ:cu,ρ[9]?=some (iO (bt M k el.1 er.1:Nat))->ρ[2]?=some (lO rb)->eV (e2 (vT true) (ae 9) (ae 2)) ρ (s1.set rc (.dct (bW B1)))=.ok true _:=fun ρ r9 r2=>
       bO (bd (ig r9) (ig r2) (BM (b:=true) hto (by rw[BL];simp only[fx];rw[aV c1];rfl)))
      by_cases c2:bt M k el.1 er.1∈B1.map Prod.fst
      ·obtain⟨q,hqB,hq1⟩:=al.mp c2
       have t2:∀ρ:cu,ρ[9]?=some (iO (bt M k el.1 er.1:Nat))->ρ[3]?=some (lO rc)->eV (e2 (vT true) (ae 9) (ae 3)) ρ (s1.set rc (.dct (bW B1)))=.ok false _:=fun ρ r9 r2=>
        bO (bd (ig r9) (ig r2) (BM (b:=false) hbo (by rw[BL];simp only[fx];rw[bn c2];rfl)))
       have gt:jx (bW B1) (.i (bt M k el.1 er.1:Nat))=some (wt q.2):=by
        rw[<- hq1];exact Gy (f:=fun p:Ro=>p.1) (g:=fun p=>wt p.2) gg.best.nd hqB
       have t3:∀(b:Bool) (ρ:cu),HT.lexLt (rj l r k el er).z q.2.z=b->ρ[9]?=some (iO (bt M k el.1 er.1:Nat))->ρ[3]?=some (lO rc)->ρ[10]?=some (some (wt (rj l r k el er)))->eV (e2 CP (ae 10) (e2 gS (ae 3) (ae 9))) ρ (s1.set rc (.dct (bW B1)))=.ok b _:=fun b ρ hb r9 r3 r10=>
        bO (bd (ig r10) (bd (ig r3) (ig r9) (oE hbo gt)) (R9 hb))
       cases hb:HT.lexLt (rj l r k el er).z q.2.z with
       |true=>
        refine kM (pV (t1 _ rfl rfl) (eE (t2 _ rfl rfl) (t3 true _ hb rfl rfl rfl))) ?_
        exact⟨_,_,put _ rfl rfl rfl,_,_,_,_,_,rfl,rfl,fin _ (.inr (.inr ⟨c1,fun q' hq' e'=>by
         obtain rfl:=BK gg.best.nd hqB hq' (hq1.trans e'.symm)
         exact(Wy.lex _ _).mp hb,rfl⟩))⟩
       |false=>
        refine hU (pV (t1 _ rfl rfl) (eE (t2 _ rfl rfl) (t3 false _ hb rfl rfl rfl))) ?_
        exact⟨_,_,rfl,B1,_,_,_,_,rfl,rfl,fin B1 (.inr (.inl ⟨c1,⟨q,hqB,hq1,fun z=>by rw[(Wy.lex _ _).mpr z]at hb;cases hb⟩,rfl⟩))⟩
      ·refine kM (pV (t1 _ rfl rfl) (v_ (bO (bd kv kv (BM (b:=true) hbo (by rw[BL];simp only[fx];rw[aV c2];rfl)))))) ?_
       exact⟨_,_,put _ rfl rfl rfl,_,_,_,_,_,rfl,rfl,fin _ (.inr (.inr ⟨c1,fun q' hq' e'=>(c2 (al.mpr ⟨q',hq',e'⟩)).elim,rfl⟩))⟩
   ·rintro ρ s ⟨B1,o7,o8,o9,m7,rfl,rfl,gg⟩
    refine⟨_,_,rfl,B1,_,_,_,_,_,_,_,rfl,rfl,gg.imp fun l' r' a' d=>?_⟩
    obtain⟨d|⟨j,hj,d⟩,da⟩:=d
    ·exact .inl ⟨.inl d,da⟩
    ·rcases eA j i with z|z
     ·exact .inl ⟨.inr ⟨j,z,d⟩,da⟩
     ·obtain rfl:j=i:=by omega
      rw[hp]at d;cases d
      exact .inr ⟨rfl,rfl,by simpa[sE]using da⟩
 ·rintro ρ s ⟨B',o4,o5,o6,o7,o8,o9,m7,rfl,rfl,gg⟩
  refine⟨_,_,rfl,B',gg.imp fun l r a d=>?_,[aj.lst x,.lst y,.lst ((wS (E.length-1)).map Ov)],by rw[<- rq,List.set_append_left _ _ hc]⟩
  obtain⟨dl,dr,da⟩:=d
  refine⟨?_,da⟩
  by_cases z:l<E.length-1/\r<E.length-1
  ·exact .inl z
  ·obtain⟨j,hj,e⟩:=JG (n:=E.length-1) (l:=l) (r:=r) (by omega) (by omega) (by omega)
   exact .inr ⟨j,by simpa using hj,e⟩
end
theorem JH{st:List aj}{z:Int}{v:W}:A7 (vU (eC (.int z)) (eC v) A6) ρ st=.ok (.loc st.length) (st++[.dct [(.i z,v)]]):=by
 unfold A7
 have e1:vU (eC (.int z)) (eC v) A6 ρ (st++[.dct []])=.ok [(.int z,v)] (st++[.dct []]):=rfl
 rw[e1]
 simp only[R.bind_ok,ca,dN]
 rfl
theorem Oy{st:List aj}:pP ρ st=.ok (.loc st.length) (st++[.dct []]):=rfl
theorem GA{E:List Ro}{R:List W}(h:Rows E R)(n:Nat):undWs n R=true:=by
 have m8:∀w∈R,w.und n=true:=fun w hw=>by
  obtain⟨i,hi⟩:=aZ hw
  have hl:=(aa.mp hi).1
  obtain⟨w',hw',ro⟩:=h.at' i (E[i]'(by rw[<- h.len];exact hl)) (ac (by rw[<- h.len];exact hl))
  rw[hi]at hw';cases hw'
  rcases ro with⟨_,rfl⟩|⟨_,_,_,_,_,rfl⟩<;>simp[W.und,undWs]
 clear h
 induction R with
 |nil=>rfl
 |cons w R ih=>
  simp only[undWs,bh]
  exact⟨m8 w (aQ ..),ih fun w hw=>m8 w (aA _ hw)⟩
theorem Rows.next{E:List Ro}{R:List W}(h:Rows E R)(h0:0<E.length){p el er:Ro}(e1:E[p.2.l]?=some el)(e2:E[p.2.r]?=some er):Rows (E++[p]) (R++[.tup [.int (p.1:Nat),.int (p.2.s:Nat),.tup [.int (el.1:Nat),.int (er.1:Nat),.int (p.2.a:Nat)]]]):=
 ⟨by simp[h.len],fun i e he=>by
  by_cases hl:i<E.length
  ·rw[au hl]at he
   obtain⟨w,hw,ro⟩:=h.at' i e he
   exact⟨w,by rw[au (by rw[h.len];exact hl)];exact hw,ro.app⟩
  ·have:i=E.length:=by have:=(aa.mp he).1;simp at this;omega
   subst this
   rw[bL]at he;cases he
   exact⟨_,by rw[<- h.len,bL],.inr ⟨h0,el,er,by rw[au (aa.mp e1).1];exact e1,by rw[au (aa.mp e2).1];exact e2,rfl⟩⟩⟩
section
variable{M:Mc}{st:List aj}
theorem De(hM:n9 M N)(PJ:1<=N)(hN:N<=100)(ht:st[1]?=some (.tab 59 ⟨54,29,54,52⟩ "firsts_of.<locals>.<lambda>")) :
  ∃(E:List Ro) (R:List W),lq (bt M) M.tb.length N E/\Rows E R/\(∀l r a,l<E.length->r<E.length->a<M.tb.length->HE (bt M) E [] l r a)/\C8 [M.w] st=.ok (.tup R) st:=by
 suffices hh:gG (qp fun w bx=>(∃x,bx=st++x)/\undWs st.length [w]=true/\∃(E:List Ro) (R:List W),w=.tup R/\lq (bt M) M.tb.length N E/\Rows E R/\∀l r a,l<E.length->r<E.length->a<M.tb.length->HE (bt M) E [] l r a) (RX ([M.w].map some++List.replicate (6-1) none) st) by
  obtain⟨w,⟨E,R,rfl,h1,h2,h3⟩,e⟩:=iW hh
  exact⟨E,R,h1,h2,h3,e⟩
 apply aB
 ·(walk_at "evs")
 apply aB
 ·exact bQ JH
 apply aB
 ·exact bQ Oy
 have hlt:1<st.length:=(aa.mp ht).1
 rw[show(st++[aj.lst [W.tup [.int 0,.int 0,.tup []]]]++[aj.dct [(DK.i 0,W.bl true)]]).length=st.length+2 by simp,show(st++[aj.lst [W.tup [.int 0,.int 0,.tup []]]]).length=st.length+1 by simp,
  show st++[aj.lst [W.tup [.int 0,.int 0,.tup []]]]++[aj.dct [(DK.i 0,W.bl true)]]++[aj.dct []]=st++[aj.lst [W.tup [.int 0,.int 0,.tup []]],.dct (tW [(0,⟨0,0,0,0⟩)]),.dct (bW [])] by simp only[av];rfl]
 have hT0:lq (bt M) M.tb.length N [(0,⟨0,0,0,0⟩)]:=by
  refine⟨⟨[],rfl⟩,fun e he=>?_,by simp,fun i e he hi=>?_,fun i e f h1 h2=>?_⟩
  ·rw[br.mp he];exact PJ
  ·have:=(aa.mp he).1;simp at this;omega
  ·have:=(aa.mp h2).1;simp at this
 have hR0:Rows [(0,⟨0,0,0,0⟩)] [W.tup [.int 0,.int 0,.tup []]]:=⟨rfl,fun i e he=>by
  have:i=0:=by have:=(aa.mp he).1;simp at this;omega
  subst this
  cases he
  exact⟨_,rfl,.inl ⟨rfl,rfl⟩⟩⟩
 have g0:Go (bt M) M.tb.length N [(0,⟨0,0,0,0⟩)] [] fun l r a=>l<[((0:Nat),(⟨0,0,0,0⟩:Wy))].length-1/\r<[((0:Nat),(⟨0,0,0,0⟩:Wy))].length-1/\a<M.tb.length:=
  ⟨⟨by simp,fun p hp=>by simp at hp,fun p hp=>by simp at hp⟩,fun l r a d=>absurd d.1 (by simp)⟩
 obtain⟨B1,g1,ew⟩:=BN (st:=st++[aj.lst [W.tup [.int 0,.int 0,.tup []]],.dct (tW [(0,⟨0,0,0,0⟩)]),.dct (bW [])]) (ra:=st.length) (rb:=st.length+1) (rc:=st.length+2) hM hN (by rw[ca];rfl) (by rw[de];rfl) (by rw[de];rfl) (by omega) (by omega) hR0 hT0 g0
 rw[ie]at ew
 apply aB
 ·exact eW (cI (aq kv (aq kv (aq kv kn))) ew rfl)
 clear ew g0
 refine nU (fun m ρ s=>∃(E B:List Ro) (R:List W) (o4 o5:Option W),m=N-E.length/\ρ=[some M.w,lO st.length,lO (st.length+1),lO (st.length+2),o4,o5]/\s=st++[.lst R,.dct (tW E),.dct (bW B)] /\
   Rows E R/\lq (bt M) M.tb.length N E/\Go (bt M) M.tb.length N E B fun l r a=>l<E.length/\r<E.length/\a<M.tb.length) _ ⟨_,B1,_,_,_,rfl,rfl,rfl,hR0,hT0,g1⟩ ?_ ?_
 ·rintro m ρ s ⟨E,B,R,o4,o5,rfl,rfl,rfl,hR,hT,g⟩
  have hb:(st++[aj.lst R,.dct (tW E),.dct (bW B)])[st.length+2]?=some (.dct (bW B)):=by rw[de];rfl
  cases B with
  |nil=>exact .inl (bO (bd (bb kn (Ag (fM hb))) bZ (iF rfl)))
  |cons b B=>
   refine .inr ⟨bO (bd (bb kn (Ag (fM hb))) bZ (iF (by rw[nF];exact bn (by simp only[a9];omega)))),?_⟩
   obtain⟨p,hp,Pc⟩:=yD (b::B) B.length (by simp)
   have hpB:p∈b::B:=am hp
   have hmin':∀q∈b::B,¬ q.2.lt p.2:=fun q hq=>by
    obtain⟨i,hi⟩:=aZ hq
    exact Pc i q (by have:=(aa.mp hi).1;simp at this;omega) hi
   apply aB
   ·refine bQ (JE (p:=(DK.i (p.1:Nat),wt p.2)) rfl hb (tD _) (aM ht) ?_)
    rw[nF,show(b::B).length-1=B.length from rfl]
    show((b::B).map _)[_]?=_
    rw[ak,hp];rfl
   apply aB
   ·exact bQ (Ou (n:=st.length+2) (q:=p.1) kv kv hb (Gy (f:=fun p:Ro=>p.1) (g:=fun p=>wt p.2) g.best.nd hpB))
   rw[ie,JD]
   obtain⟨⟨el,er,w1,w2,w3,w4,w5⟩,pn,pN⟩:=g.best.ok p hpB
   obtain⟨vl,hvl,rl⟩:=hR.at' _ _ w1
   obtain⟨vr,hvr,rr⟩:=hR.at' _ _ w2
   obtain⟨tl,rfl⟩:=rl.sh
   obtain⟨tr,rfl⟩:=rr.sh
   clear rl rr
   have hT2:=Db hT g.best hpB
   have b2:=Dd hT g.best hpB hmin'
   have hR2:=hR.next hT.len0 w1 w2
   have hel:E.length<N:=by have:=hT2.len;simp at this;omega
   generalize hB2:List.filter (fun q:Ro=>decide (q.1≠p.1)) (b::B)=B2 at b2
   have g2:Go (bt M) M.tb.length N (E++[p]) B2 fun l r a=>l<(E++[p]).length-1/\r<(E++[p]).length-1/\a<M.tb.length:=⟨b2,fun l r a d=>by
    rw[<- hB2]
    simp only[aF,a9,dP]at d
    exact Gw hpB g.best.nd (by omega) (by omega) (g.cov l r a ⟨by omega,by omega,d.2.2⟩)⟩
   show gG _ (aS _ _ _ (st++[aj.lst R,.dct (tW E),.dct (bW B2)]))
   have hr0:(st++[aj.lst R,.dct (tW E),.dct (bW B2)])[st.length]?=some (.lst R):=by rw[ca];rfl
   have xl:bp (.loc st.length) (.int (p.2.l:Nat)) (st++[aj.lst R,.dct (tW E),.dct (bW B2)])=.ok _ _:=jU (aK hr0) (dg hvl)
   have xr:bp (.loc st.length) (.int (p.2.r:Nat)) (st++[aj.lst R,.dct (tW E),.dct (bW B2)])=.ok _ _:=jU (aK hr0) (dg hvr)
   have xw:∀(i:Int) (w:W) (s:List aj),oP (p.2.z.map W.int) i=some w->bp (wt p.2) (.int i) s=.ok w s:=fun i w s e=>hJ e
   apply aB
   ·exact eW (jz kv (df hr0) (aq (iE (aq kv (aq (bd kv bZ (xw 0 _ _ rfl)) (aq (iE (aq (bd (bd kv (bd kv bZ (xw 1 _ _ rfl)) xl) bZ ox) (aq (bd (bd kv (bd kv bZ (xw 2 _ _ rfl)) xr) bZ ox) (aq (bd kv bZ (xw 3 _ _ rfl)) bc))) (bI rfl)) bc))) (bI rfl)) bc) (oD hr0 (by rw[hR.len];show _<1000000;omega)))
   rw[dN]
   show gG _ (aS _ _ _ (st++[aj.lst (R++[_]),.dct (tW E),.dct (bW B2)]))
   apply aB
   ·refine lK bZ kv kv (ww (kvs:=tW E) (q:=p.1) (by rw[de];rfl) (by rw[nF];show _<1000000;omega))
   rw[ie,show sJ (tW E) (.i (p.1:Nat)) (W.bl true)=tW (E++[p])from wq (f:=fun p:Ro=>p.1) (g:=fun _=>W.bl true) (a:=p) pn]
   show gG _ (eR _ _ (st++[aj.lst (R++[_]),.dct (tW (E++[p])),.dct (bW B2)]))
   obtain⟨B3,g3,e3⟩:=BN (st:=st++[aj.lst (R++[W.tup [.int (p.1:Nat),.int (p.2.s:Nat),.tup [.int (el.1:Nat),.int (er.1:Nat),.int (p.2.a:Nat)]]]),.dct (tW (E++[p])),.dct (bW B2)]) (ra:=st.length) (rb:=st.length+1) (rc:=st.length+2) hM hN (by rw[ca];rfl) (by rw[de];rfl) (by rw[de];rfl) (by omega) (by omega) hR2 hT2 g2
   rw[ie]at e3
   exact⟨_,_,eW (cI (aq kv (aq kv (aq kv kn))) e3 rfl),N-(E++[p]).length,by simp only[aF,a9,dP];omega,E++[p],B3,_,_,_,rfl,rfl,rfl,hR2,hT2,g3⟩
 ·rintro m ρ s ⟨E,B,R,o4,o5,rfl,rfl,rfl,hR,hT,g⟩ hf
  have hb:(st++[aj.lst R,.dct (tW E),.dct (bW B)])[st.length+2]?=some (.dct (bW B)):=by rw[de];rfl
  have hB:B=[]:=by
   cases B with
   |nil=>rfl
   |cons b B=>
    have t:eV (e2 IH (a_ sL (ag (ae 3) az)) (eI 0)) [some M.w,lO st.length,lO (st.length+1),lO (st.length+2),o4,o5] (st++[aj.lst R,.dct (tW E),.dct (bW (b::B))])=.ok true _:=
     bO (bd (bb kn (Ag (fM hb))) bZ (iF (by rw[nF];exact bn (by simp only[a9];omega))))
    rw[t]at hf
    cases hf
  subst hB
  refine cU (bb kn (fB (aK (by rw[ca];rfl)))) ⟨_,_,rfl,⟨_,rfl⟩,?_,E,R,rfl,hT,hR,fun l r a h1 h2 h3=>g.cov l r a ⟨h1,h2,h3⟩⟩
  simp only[undWs,b8]
  unfold W.und
  exact GA hR _
end
structure Uj(T:Nat->Nat->Nat->Nat)(L N:Nat)(E:List Ro):Prop where
 told:lq T L N E
 cov:∀l r a,l<E.length->r<E.length->a<L->HE T E [] l r a
section
variable{E E':List Ro}
end
section
variable{E:List Ro}{h:Nat->Nat}{hd:Nat->Ro}
end
section
variable(T:Nat->Nat->Nat->Nat)(L:Nat)(g:Nat->Bool)(rs:List Nat)
def rp:List (Nat×Nat×Nat):=(List.range L).flatMap fun a=>rs.map (fun t=>(a,0,t))++rs.map (fun t=>(a,1,t))
def led(p:Nat×Nat×Nat)(x:Nat):Nat:=if p.2.1=0 then T p.1 x p.2.2 else T p.1 p.2.2 x
def ap:Nat->Nat->Nat->Bool
 |0,a,b=>g a != g b
 |s+1,a,b=>ap s a b||(rp L rs).any fun p=>ap s (led T p a) (led T p b)
def lM:List Nat->List (Nat×Nat)
 |[]=>[]
 |x::r=>r.map (fun y=>(x,y))++lM r
def uq:Nat->Nat->Nat->Bool
 |0,_,_=>true
 |s+1,a,b=>!ap T L g rs s a b
def JI(s:Nat):List (Nat×Nat):=(lM rs).filter fun p=>uq T L g rs s p.1 p.2&&ap T L g rs s p.1 p.2
end
section
variable{g:Nat->Bool}
theorem Ah:∀(s a:Nat),ap T L g rs s a a=false
 |0,a=>by simp[ap]
 |s+1,a=>by
  unfold ap
  rw[Ah s a,Bool.false_or,fH]
  intro p _;rw[Ah s];simp
theorem rO:∀(s a b:Nat),ap T L g rs s a b=ap T L g rs s b a
 |0,a,b=>by simp only[ap];cases g a<;>cases g b<;>rfl
 |s+1,a,b=>by
  unfold ap
  rw[rO s a b]
  congr 1
  refine dJ _ (funext fun p=>?_)
  exact rO s _ _
theorem qe{s a b:Nat}(h:ap T L g rs (s+1) a b=false):ap T L g rs s a b=false/\∀p∈rp L rs,ap T L g rs s (led T p a) (led T p b)=false:=by
 unfold ap at h
 rw[Bool.or_eq_false_iff,fH]at h
 exact⟨h.1,fun p hp=>by have:=h.2 p hp;simpa using this⟩
theorem GB{s a b:Nat}(h:ap T L g rs s a b=false)(h2:∀p∈rp L rs,ap T L g rs s (led T p a) (led T p b)=false):ap T L g rs (s+1) a b=false:=by
 unfold ap
 rw[Bool.or_eq_false_iff,fH]
 exact⟨h,fun p hp=>by rw[h2 p hp];simp⟩
theorem GC{a b:Nat}:∀(d k:Nat),ap T L g rs (k+d) a b=false->ap T L g rs k a b=false
 |0,_,h=>h
 |d+1,k,h=>GC d k (qe h).1
theorem Uk{s a b k:Nat}(h:uq T L g rs s a b=true)(hk:k<s):ap T L g rs k a b=false:=by
 cases s with
 |zero=>omega
 |succ s=>
  have h':ap T L g rs s a b=false:=by simpa[uq]using h
  exact GC (s-k) k (by rw[show k+(s-k)=s by omega];exact h')
theorem Ul{s a b:Nat}(h:∀k,k<s->ap T L g rs k a b=false):uq T L g rs s a b=true:=by
 cases s with
 |zero=>rfl
 |succ s=>simp only[uq];rw[h s (by omega)];rfl
def Tp(T:Nat->Nat->Nat->Nat)(L:Nat)(g:Nat->Bool)(rs:List Nat)(s:Nat):Nat:=((lM rs).filter fun p=>uq T L g rs s p.1 p.2).length
theorem GD(s a b:Nat):uq T L g rs (s+1) a b=(uq T L g rs s a b&&!ap T L g rs s a b):=by
 cases s with
 |zero=>simp[uq]
 |succ s=>
  show(!ap T L g rs (s+1) a b)=((!ap T L g rs s a b)&&!ap T L g rs (s+1) a b)
  cases e:ap T L g rs (s+1) a b with
  |true=>simp
  |false=>rw[(qe e).1];rfl
theorem qf(p q:α->Bool):∀l:List α,(l.filter p).length=(l.filter fun x=>p x&&q x).length+(l.filter fun x=>p x&&!q x).length
 |[]=>rfl
 |x::l=>by
  have:=qf p q l
  simp only[cZ]
  cases p x<;>cases q x<;>simp<;>omega
theorem R_{s:Nat}(h:JI T L g rs s≠[]):Tp T L g rs (s+1)<Tp T L g rs s:=by
 have e:=qf (fun p:Nat×Nat=>uq T L g rs s p.1 p.2) (fun p=>ap T L g rs s p.1 p.2) (lM rs)
 have h1:0<(JI T L g rs s).length:=List.length_pos_iff.mpr h
 unfold JI at h1
 unfold Tp
 simp only[GD]
 omega
theorem JJ:∀l:List Nat,(lM l).length<=l.length*l.length
 |[]=>aw _
 |x::r=>by
  have:=JJ r
  simp only[lM,aF,ai,a9,Nat.add_mul,Nat.mul_add];omega
theorem Oz:∀{l:List Nat},l.Pairwise (· < ·)->∀{a b:Nat},(a,b)∈lM l↔a∈l/\b∈l/\a<b
 |[],_,a,b=>by simp[lM]
 |x::r,h,a,b=>by
  obtain⟨h1,h2⟩:=cA.mp h
  simp only[lM,aN,al,Oz h2,aI]
  constructor
  ·rintro(⟨y,hy,e⟩|⟨q1,q2,q3⟩)
   ·cases e;exact⟨.inl rfl,.inr hy,h1 _ hy⟩
   ·exact⟨.inr q1,.inr q2,q3⟩
  ·rintro⟨q1,q2,q3⟩
   rcases q1 with rfl|q1
   ·rcases q2 with rfl|q2
    ·omega
    ·exact .inl ⟨b,q2,rfl⟩
   ·rcases q2 with rfl|q2
    ·have:=h1 _ q1;omega
    ·exact .inr ⟨q1,q2,q3⟩
theorem JK(L:Nat)(rs:List Nat):(rp L rs).length=L*(2*rs.length):=by
 unfold rp
 rw[List.length_flatMap]
 simp only[aF,ai]
 rw[List.map_const',cP,List.sum_replicate_nat]
 congr 1;omega
theorem GE(L:Nat)(rs:List Nat):rp (L+1) rs=rp L rs++(rs.map (fun t=>(L,0,t))++rs.map (fun t=>(L,1,t))):=by
 unfold rp;rw[jq,List.flatMap_append];simp
end
section
variable{g:Nat->Bool}
theorem GF:∀(s a b c:Nat),ap T L g rs s a b=false->ap T L g rs s b c=false->ap T L g rs s a c=false
 |0,a,b,c,h1,h2=>by
  simp only[ap,bne_eq_false_iff_eq]at h1 h2 ⊢
  rw[h1,h2]
 |s+1,a,b,c,h1,h2=>by
  obtain⟨x1,x2⟩:=qe h1
  obtain⟨y1,y2⟩:=qe h2
  exact GB (GF s a b c x1 y1) fun p hp=>GF s _ _ _ (x2 p hp) (y2 p hp)
theorem BO{p:Nat×Nat×Nat}:p∈rp L rs↔p.1<L/\(p.2.1=0\/p.2.1=1)/\p.2.2∈rs:=by
 obtain⟨a,d,t⟩:=p
 unfold rp
 simp only[List.mem_flatMap,bj,aN,al,Prod.mk.injEq]
 constructor
 ·rintro⟨x,hx,⟨y,hy,rfl,rfl,rfl⟩|⟨y,hy,rfl,rfl,rfl⟩⟩
  ·exact⟨hx,.inl rfl,hy⟩
  ·exact⟨hx,.inr rfl,hy⟩
 ·rintro⟨h1,rfl|rfl,h3⟩
  ·exact⟨a,h1,.inl ⟨t,h3,rfl,rfl,rfl⟩⟩
  ·exact⟨a,h1,.inr ⟨t,h3,rfl,rfl,rfl⟩⟩
end
section
variable{g:Nat->Bool}{hd:Nat->Nat}
end
def ju:Nat->List KX->List (KX×W)
 |_,[]=>[]
 |n,k::ks=>(k,.int (n:Nat))::ju (n+1) ks
theorem lN:∀(ks:List KX) (n:Nat),(ju n ks).length=ks.length
 |[],_=>rfl
 |k::ks,n=>by simp only[ju,a9,lN ks]
theorem vi(k:KX):∀(ks:List KX) (n:Nat),ju n (ks++[k])=ju n ks++[(k,.int ((n+ks.length:Nat):Int))]
 |[],n=>rfl
 |x::ks,n=>by
  simp only[List.cons_append,ju,vi k ks,a9]
  rw[show n+1+ks.length=n+(ks.length+1) by omega]
theorem Df(p:KX×W)(l:List (KX×W))(k:KX):iY (p::l) k=if p.1=k then some p.2 else iY l k:=by
 unfold iY
 rw[bG]
 by_cases h:p.1=k
 ·rw[ay h];simp[h]
 ·rw[aC h];simp[h]
theorem jH(k:KX):∀(ks:List KX) (n:Nat),iY (ju n ks) k=if k∈ks then some (.int ((n+ks.idxOf k:Nat):Int))else none
 |[],n=>rfl
 |x::ks,n=>by
  simp only[ju]
  rw[Df]
  by_cases h:x=k
  ·subst h;simp
  ·rw[aC h,jH k ks]
   have e:(x::ks).idxOf k=ks.idxOf k+1:=by rw[List.idxOf_cons,show(x==k)=false from aX.mpr h];rfl
   rw[e]
   by_cases h2:k∈ks
   ·rw[ay h2,ay (aA _ h2)];rw[show n+1+ks.idxOf k=n+(ks.idxOf k+1) by omega]
   ·rw[aC h2,aC (by simp[h2];exact fun z=>h z.symm)]
theorem nG:∀l:List Int,fQ (l.map W.int)=some l
 |[]=>rfl
 |z::l=>by simp only[aG,fQ,nG l,mY]
theorem JL(l:List Int):qD (.tup (l.map W.int))=some (.fl l):=by simp only[qD,nG]
theorem JM(i:Int)(l:List Int):qD (.tup [.int i,.tup (l.map W.int)])=some (.pr i l):=by
 simp only[qD,fQ,Option.map_none,nG,mY]
theorem rP(k:KX):qD k.w=some k:=by
 cases k with
 |bo b=>rfl
 |fl l=>exact JL l
 |pr i l=>exact JM i l
theorem OA{k:KX}(h:∀p∈kvs,p.1.tag=k.tag)(hl:kvs.length<jF):(ER kvs k||ET kvs k)=true:=by
 unfold ER ET Ba
 have a:(kvs.all fun p=>p.1.tag==k.tag)=true:=by rw[d6];intro p hp;rw[h p hp];simp
 by_cases z:k.tag=0
 ·have b:(kvs.all fun p=>p.1.tag==0)=true:=by rw[d6];intro p hp;rw[h p hp,z];simp
  rw[b];simp[z];exact hl
 ·rw[a];simp[z];exact hl
theorem tH:∀{ks:List KX} {n:Nat} {p:KX×W},p∈ju n ks->p.1∈ks
 |k::ks,n,p,h=>by
  rcases aI.mp h with rfl|h
  ·exact aQ
  ·exact aA _ (tH h)
section
variable{st:List aj}{fk fd:FE}{y z:W}{k:KX}
theorem BP(h1:fo ρ st=.ok (.loc n) st)(hd:jt st (.loc n)=some (n,kvs))(h2:fk ρ st=.ok y st)(hk:qD y=some k)(h3:fd ρ st=.ok z st)(ok:(ER kvs k||ET kvs k)=true) :
  v6 fo fk fd ρ st=match iY kvs k with|some w=>.ok w st|none=>.ok z (st.set n (.dcx (sQ kvs k z))):=by
 unfold v6
 rw[h1];simp only[R.bind_ok,hd]
 rw[h2];simp only[R.bind_ok]
 rw[h3];simp only[R.bind_ok,hd,hk,ok,fx]
 all_goals rfl
theorem Ly{w:W}(hd:jt st (.loc n)=some (n,kvs))(hk:qD y=some k)(ok:(ER kvs k||ET kvs k)=true)(hg:iY kvs k=some w):EU (.loc n) y st=.ok w st:=by
 unfold EU
 simp only[hd,hk,ok,fx,hg,cw]
theorem GG(hd:jt st (.loc n)=some (n,kvs))(hl:kvs.length<=jF):uZ [.loc n] st=.ok (.int kvs.length) st:=by
 unfold uZ;simp only[hd];rw[ay hl]
end
def tI:List KX->aj
 |[]=>.dct []
 |k::ks=>.dcx (ju 0 (k::ks))
theorem BQ{st:List aj}{ks:List KX}(h:st[n]?=some (tI ks)):jt st (.loc n)=some (n,ju 0 ks):=by
 unfold jt
 simp only[h]
 cases ks<;>rfl
theorem GH{ks:List KX}{a b:KX}(ha:a∈ks)(h:ks.idxOf a=ks.idxOf b):a=b:=by
 have hl:=jD ha
 have e1:ks[ks.idxOf a]?=some a:=by rw[ac hl];simp
 have hl2:ks.idxOf b<ks.length:=by omega
 have e2:ks[ks.idxOf b]?=some b:=by rw[ac hl2];simp
 rw[h,e2]at e1;cases e1;rfl
abbrev iw(B:Nat->Nat)(l:List Nat):List (DK×W):=dI (fun a:Nat=>a) (fun a=>W.int (B a:Nat)) l
theorem i7{a b:List aj}(h:fz a)(h2:fz b):fz (a++b):=fun d hd=>by
 rcases aN.mp hd with z|z
 ·exact h d z
 ·exact h2 d z
theorem wT{a:aj}{b:List aj}(h:∀c,mS c a=false)(h2:fz b):fz (a::b):=fun d hd=>by
 rcases aI.mp hd with z|z
 ·rw[z];exact h
 ·exact h2 d z
theorem y0:fz []:=fun d hd=>by cases hd
theorem Sa(ks:List KX):fz [tI ks]:=wT (fun c=>by cases ks<;>rfl) y0
def kD(kf:Nat->KX)(l:List Nat):List KX:=l.foldl (fun ks a=>if kf a∈ks then ks else ks++[kf a]) []
theorem wz(kf:Nat->KX)(l:List Nat)(a:Nat):kD kf (l++[a])=if kf a∈kD kf l then kD kf l else kD kf l++[kf a]:=by unfold kD;rw[iu];rfl
theorem qW{st:List aj}{r:Nat}{kvs:List (DK×W)}{kf:Nat->KX}{tg:Nat}(hr:st[r]?=some (.lst (rs.map fun a=>W.int (a:Nat))))(hq:st[q]?=some (.dct kvs))(hk:∀a∈rs,jx kvs (.i (a:Nat))=some (kf a).w)(ht:∀a∈rs,(kf a).tag=tg)(kE:rs.Nodup)(hl:rs.length<=1000) :
  ∃(B:Nat->Nat) (c:aj),(∀a∈rs,∀b∈rs,(B a=B b↔kf a=kf b))/\(B=fun a=>(kD kf rs).idxOf (kf a))/\fz [c]/\C5 [.loc r,.loc q] st=.ok (.loc (st.length+1)) (st++[c,.dct (iw B rs)]):=by
 suffices hh:gG (qp fun w bx=>∃j x,w=.loc (st.length+j)/\bx=st++x/\∃(B:Nat->Nat) (c:aj),(∀a∈rs,∀b∈rs,(B a=B b↔kf a=kf b))/\(B=fun a=>(kD kf rs).idxOf (kf a))/\fz [c]/\j=1/\x=[c,.dct (iw B rs)]) (RM ([W.loc r,.loc q].map some++List.replicate (5-2) none) st) by
  obtain⟨j,x,⟨B,c,h1,hB,hp,rfl,rfl⟩,e⟩:=ij hh
  exact⟨B,c,h1,hB,hp,e⟩
 have hrl:=(aa.mp hr).1
 have hql:=(aa.mp hq).1
 apply aB
 ·exact bQ rfl
 apply aB
 ·exact bQ rfl
 refine cz (k:=(rs.map fun a=>W.int (a:Nat),some (r,rs.map fun a=>W.int (a:Nat)))) (fun i ρ s=>∃(ks:List KX) (o4:Option W),ks=kD kf (rs.take i)/\ks.Nodup/\ks.length<=i/\(∀k∈ks,k.tag=tg)/\(∀a∈rs.take i,kf a∈ks) /\
   ρ=[lO r,lO q,lO st.length,lO (st.length+1),o4]/\s=st++[tI ks,.dct (iw (fun a=>ks.idxOf (kf a)) (rs.take i))]) (fq kv (aK (aM (aM hr)))) ?_ ?_ ?_ ?_
 ·refine⟨[],none,by simp[kD],.nil,dB _,fun _ h=>(by cases h),fun a h=>(by simp at h),?_,?_⟩
  ·simp
  ·simp[tI,dI]
 ·rintro i ρ s ⟨ks,o4,_,_,_,_,_,rfl,rfl⟩
  exact aK (aM hr)
 ·rintro i w ρ s hw ⟨ks,o4,h0,h1,h2,h3,h4,rfl,rfl⟩
  rw[ak]at hw
  obtain⟨a,ha,rfl⟩:=a6.mp hw
  have hi:i<rs.length:=(aa.mp ha).1
  have ham:a∈rs:=am ha
  have BZ:rs.take (i+1)=rs.take i++[a]:=by rw[List.take_add_one,ha];rfl
  have hant:a∉rs.take i:=fun z=>by
   have:(rs.take (i+1)).Nodup:=kE.sublist (gy _ _)
   rw[BZ,cR]at this
   exact this.2.2 a z a (by simp) rfl
  refine⟨_,rfl,?_⟩
  generalize hs:st++[tI ks,.dct (iw (fun a=>ks.idxOf (kf a)) (rs.take i))]=s
  have c2:s[st.length]?=some (tI ks):=by rw[<- hs,ca];rfl
  have c3:s[st.length+1]?=some (.dct (iw (fun a=>ks.idxOf (kf a)) (rs.take i))):=by rw[<- hs,de];rfl
  have cq:s[q]?=some (.dct kvs):=by rw[<- hs];exact aM hq
  have hd:=BQ c2
  have ix:∀{s':List aj},s'[q]?=some (.dct kvs)->gS (.loc q) (.int (a:Nat)) s'=.ok (kf a).w s':=fun z=>oE (fM z) (hk a ham)
  have okk:∀He:List KX,(∀k∈He,k.tag=tg)->He.length<=i+1->(ER (ju 0 He) (kf a)||ET (ju 0 He) (kf a))=true:=fun He z1 z2=>OA (fun p hp=>by rw[z1 _ (tH hp),ht a ham]) (by rw[lN];show _<1000000;omega)
  have hb:∀f:Nat->W,(f a)=(fun x=>f x) a:=fun f=>rfl
  have put:∀(He:List KX) (s':List aj),s'[st.length+1]?=some (.dct (iw (fun a=>He.idxOf (kf a)) (rs.take i)))->jR (.loc (st.length+1)) (.int (a:Nat)) (.int (He.idxOf (kf a):Nat)) s'=some (s'.set (st.length+1) (.dct (iw (fun a=>He.idxOf (kf a)) (rs.take (i+1))))):=fun He s' z=>by
   rw[ww z (by rw[nF,a8];show _<1000000;omega),BZ]
   congr 3
   exact wq (f:=fun a:Nat=>a) (g:=fun a=>W.int (He.idxOf (kf a):Nat)) (a:=a) (by simpa using hant)
  by_cases hm:kf a∈ks
  ·apply aB
   ·refine eW (w:=.int ((0+ks.idxOf (kf a):Nat):Int)) (st1:=s) ?_
    rw[BP kv hd (bd kv kv (ix cq)) (rP _) (bb kn (GG hd (by rw[lN];show _<=1000000;omega))) (okk ks h3 (by omega)),jH,ay hm]
   refine⟨_,_,lK (bd kv (bd kv kv (ix cq)) (Ly hd (rP _) (okk ks h3 (by omega)) (by rw[jH,ay hm]))) kv kv (by rw[fI];exact put ks s c3),ks,_,by rw[BZ,wz,<- h0,ay hm],h1,by omega,h3,fun b hb=>?_,rfl,?_⟩
   ·rw[BZ]at hb
    rcases aN.mp hb with z|z
    ·exact h4 b z
    ·simp at z;subst z;exact hm
   ·rw[<- hs,gs _ _ (by omega),show st.length+1-st.length=1 by omega];rfl
  ·have wM:s.set st.length (.dcx (ju 0 (ks++[kf a])))=st++[tI (ks++[kf a]),.dct (iw (fun a=>ks.idxOf (kf a)) (rs.take i))]:=by
    rw[<- hs,gs _ _ (by omega),qo]
    have:tI (ks++[kf a])=.dcx (ju 0 (ks++[kf a])):=by cases ks<;>rfl
    rw[this];rfl
   apply aB
   ·refine eW (w:=.int (ks.length:Nat)) (st1:=s.set st.length (.dcx (ju 0 (ks++[kf a])))) ?_
    rw[BP kv hd (bd kv kv (ix cq)) (rP _) (bb kn (GG hd (by rw[lN];show _<=1000000;omega))) (okk ks h3 (by omega)),jH,aC hm]
    simp only[lN]
    congr 3
    unfold sQ
    rw[jH,aC hm,vi,fI];rfl
   rw[wM]
   have bks:iw (fun b=>ks.idxOf (kf b)) (rs.take i)=iw (fun b=>(ks++[kf a]).idxOf (kf b)) (rs.take i):=by
    unfold iw dI
    refine bq fun b hb=>?_
    show(DK.i (b:Nat),W.int ((ks.idxOf (kf b):Nat):Int))=(DK.i (b:Nat),W.int (((ks++[kf a]).idxOf (kf b):Nat):Int))
    rw[kY,ay (h4 b hb)]
   rw[bks]
   have h3':∀k∈ks++[kf a],k.tag=tg:=fun k hk=>by
    rcases aN.mp hk with z|z
    ·exact h3 k z
    ·simp at z;subst z;exact ht a ham
   have hm':kf a∈ks++[kf a]:=by simp
   generalize hs':st++[tI (ks++[kf a]),.dct (iw (fun b=>(ks++[kf a]).idxOf (kf b)) (rs.take i))]=s'
   have c2':s'[st.length]?=some (tI (ks++[kf a])):=by rw[<- hs',ca];rfl
   have c3':s'[st.length+1]?=some (.dct (iw (fun b=>(ks++[kf a]).idxOf (kf b)) (rs.take i))):=by rw[<- hs',de];rfl
   have cq':s'[q]?=some (.dct kvs):=by rw[<- hs'];exact aM hq
   have hd':=BQ c2'
   refine⟨_,_,lK (bd kv (bd kv kv (ix cq')) (Ly hd' (rP _) (okk (ks++[kf a]) h3' (by simp;omega)) (by rw[jH,ay hm']))) kv kv (by rw[fI];exact put (ks++[kf a]) s' c3'),ks++[kf a],_,by rw[BZ,wz,<- h0,aC hm],?_,by simp;omega,h3',fun b hb=>?_,rfl,?_⟩
   ·rw[cR]
    exact⟨h1,by simp,fun x hx y hy z=>by simp at hy;subst hy;subst z;exact hm hx⟩
   ·rw[BZ]at hb
    rcases aN.mp hb with z|z
    ·exact cW _ (h4 b z)
    ·simp at z;subst z;exact hm'
   ·rw[<- hs',ie];rfl
 ·rintro ρ s ⟨ks,o4,h0,h1,h2,h3,h4,rfl,rfl⟩
  rw[ai,fX]at h4 h0 ⊢
  refine⟨_,_,nE kv,1,_,rfl,rfl,fun a=>ks.idxOf (kf a),tI ks,fun a ha b hb=>⟨fun z=>GH (h4 a ha) z,fun z=>by simp only[z]⟩,by rw[h0],Sa ks,rfl,rfl⟩
structure qX(rs:List Nat)(B:Nat->Nat)(m:Nat)(h:Nat->Nat):Prop where
 hd:∀j,j<m->∃x,rs[h j]?=some x/\B x=j
 fst:∀i a,rs[i]?=some a->B a<m/\h (B a)<=i
 up:∀j k,j<k->k<m->h j<h k
theorem wA{ks:List KX}{k:KX}(h:k∈ks):ks.idxOf k<ks.length:=jD h
theorem GI(kf:Nat->KX):∀(n:Nat) (l:List Nat),l.length=n->(∀a∈l,kf a∈kD kf l)/\∃h,qX l (fun a=>(kD kf l).idxOf (kf a)) (kD kf l).length h:=by
 intro n
 induction n with
 |zero=>
  intro l hl
  obtain rfl:=lV.mp hl
  exact⟨fun a h=>(by cases h),fun _=>0,fun j h=>absurd h (cE _),fun i a h=>(by cases h),fun j k _ h=>absurd h (cE _)⟩
 |succ n ih=>
  intro l0 hl0
  obtain e0|⟨l,x,e0⟩:=List.eq_nil_or_concat l0
  ·rw[e0]at hl0;cases hl0
  rw[List.concat_eq_append]at e0
  subst e0
  have hln:l.length=n:=by rw[aF,gk]at hl0;omega
  obtain⟨hm,h,c⟩:=ih l hln
  have hlt:∀j,j<(kD kf l).length->h j<l.length:=fun j hj=>by
   obtain⟨y,hy,_⟩:=c.hd j hj
   exact(aa.mp hy).1
  have atx:∀{i a},(l++[x])[i]?=some a->(i<l.length/\l[i]?=some a)\/(i=l.length/\a=x):=fun{i a} e=>by
   rcases eA i l.length with z|z
   ·rw[au z]at e;exact .inl ⟨z,e⟩
   ·have:i=l.length:=by have:=(aa.mp e).1;rw[aF,gk]at this;omega
    subst this
    rw[bL]at e
    exact .inr ⟨rfl,(a7 e).symm⟩
  rw[wz]
  by_cases hx:kf x∈kD kf l
  ·rw[ay hx]
   refine⟨fun a ha=>?_,h,fun j hj=>?_,fun i a e=>?_,c.up⟩
   ·rcases aN.mp ha with z|z
    ·exact hm a z
    ·rw[br.mp z];exact hx
   ·obtain⟨y,h1,h2⟩:=c.hd j hj
    exact⟨y,by rw[au (hlt j hj)];exact h1,h2⟩
   ·rcases atx e with⟨_,e⟩|⟨rfl,rfl⟩
    ·exact c.fst i a e
    ·exact⟨wA hx,d_ (hlt _ (wA hx))⟩
  ·rw[aC hx]
   have old:∀{k:KX},k∈kD kf l->(kD kf l++[kf x]).idxOf k=(kD kf l).idxOf k:=fun{k} hk=>by rw[kY,ay hk]
   have new:(kD kf l++[kf x]).idxOf (kf x)=(kD kf l).length:=by rw[kY,aC hx];simp
   have len:(kD kf l++[kf x]).length=(kD kf l).length+1:=by simp
   refine⟨fun a ha=>?_,fun j=>if j<(kD kf l).length then h j else l.length,fun j hj=>?_,fun i a e=>?_,fun j k hjk hk=>?_⟩
   ·rcases aN.mp ha with z|z
    ·exact cW _ (hm a z)
    ·rw[br.mp z];simp
   ·by_cases z:j<(kD kf l).length
    ·obtain⟨y,h1,h2⟩:=c.hd j z
     have hy:kf y∈kD kf l:=hm y (am h1)
     refine⟨y,?_,?_⟩
     ·show(l++[x])[if j<(kD kf l).length then h j else l.length]?=some y
      rw[ay z,au (hlt j z)];exact h1
     ·show(kD kf l++[kf x]).idxOf (kf y)=j
      rw[old hy];exact h2
    ·have:j=(kD kf l).length:=by rw[len]at hj;omega
     refine⟨x,?_,?_⟩
     ·show(l++[x])[if j<(kD kf l).length then h j else l.length]?=some x
      rw[aC z,bL]
     ·show(kD kf l++[kf x]).idxOf (kf x)=j
      rw[new,this]
   ·show(kD kf l++[kf x]).idxOf (kf a)<_/\(if (kD kf l++[kf x]).idxOf (kf a)<(kD kf l).length then h ((kD kf l++[kf x]).idxOf (kf a))else l.length)<=i
    rcases atx e with⟨_,e⟩|⟨rfl,rfl⟩
    ·have hy:kf a∈kD kf l:=hm a (am e)
     rw[old hy,ay (wA hy),len]
     have:=c.fst i a e
     exact⟨gz this.1,this.2⟩
    ·rw[new,aC (bD _),len]
     exact⟨iQ _,aw _⟩
   ·show(if j<(kD kf l).length then h j else l.length)<(if k<(kD kf l).length then h k else l.length)
    rw[len]at hk
    have hj:j<(kD kf l).length:=by omega
    rw[ay hj]
    by_cases z:k<(kD kf l).length
    ·rw[ay z];exact c.up j k hjk z
    ·rw[aC z];exact hlt j hj
theorem GJ{m':Nat}{h h':Nat->Nat}(c:qX rs B m h)(c':qX rs B' m' h')(e:∀a∈rs,∀b∈rs,(B a=B b↔B' a=B' b)):∀a∈rs,B a=B' a:=by
 have same:∀a∈rs,h (B a)=h' (B' a):=by
  have half:∀{B B':Nat->Nat} {m m':Nat} {h h':Nat->Nat},qX rs B m h->qX rs B' m' h'->(∀a∈rs,∀b∈rs,(B a=B b↔B' a=B' b))->∀a∈rs,h' (B' a)<=h (B a):=fun{B B' m m' h h'} c c' e a ha=>by
   obtain⟨i,hi⟩:=aZ ha
   obtain⟨x,h1,h2⟩:=c.hd (B a) (c.fst i a hi).1
   have:=(c'.fst _ x h1).2
   rw[(e x (am h1) a ha).mp h2]at this
   exact this
  exact fun a ha=>gc (half c' c (fun a ha b hb=>(e a ha b hb).symm) a ha) (half c c' e a ha)
 have inj:∀{B:Nat->Nat} {m:Nat} {h:Nat->Nat},qX rs B m h->∀{j k},j<m->k<m->h j=h k->j=k:=fun{B m h} c {j k} hj hk z=>by
  rcases Nat.lt_trichotomy j k with y|y|y
  ·have:=c.up j k y hk;omega
  ·exact y
  ·have:=c.up k j y hj;omega
 have key:∀j,j<m->j<m'/\h j=h' j:=by
  intro j
  induction j using Nat.strongRecOn with
  |_ j ih=>
   intro hj
   obtain⟨x,x1,x2⟩:=c.hd j hj
   have hx:=am x1
   have sx:=same x hx
   rw[x2]at sx
   have km:=(c'.fst _ x x1).1
   rcases Nat.lt_trichotomy (B' x) j with z|z|z
   ·obtain⟨_,i2⟩:=ih (B' x) z (by omega)
    have:=inj c (by omega) hj (i2.trans sx.symm)
    omega
   ·rw[z]at sx km
    exact⟨km,sx⟩
   ·obtain⟨y,y1,y2⟩:=c'.hd j (by omega)
    have hy:=am y1
    have sy:=same y hy
    rw[y2]at sy
    have u:=c'.up j (B' x) z km
    have bm:=(c.fst _ y y1).1
    have lt:B y<j:=by
     rcases eA (B y) j with w|w
     ·exact w
     ·rcases kr w with w|w
      ·rw[<- w]at sy;omega
      ·have:=c.up j (B y) w bm;omega
    obtain⟨q1,q2⟩:=ih (B y) lt bm
    have:=inj c' q1 (by omega:j<m') (q2.symm.trans sy)
    omega
 intro a ha
 obtain⟨i,hi⟩:=aZ ha
 obtain⟨k1,k2⟩:=key (B a) (c.fst i a hi).1
 exact inj c' k1 (c'.fst i a hi).1 (k2.symm.trans (same a ha))
abbrev cC(rs:List Nat):List W:=rs.map fun a=>W.int (a:Nat)
abbrev vD(V:Nat->W)(l:List Nat):List (DK×W):=dI (fun a:Nat=>a) V l
theorem jY{V:Nat->W}{a:Nat}(hn:l.Nodup)(h:a∈l):jx (vD V l) (.i (a:Nat))=some (V a):=Gy (f:=fun a:Nat=>a) (g:=V) (by simpa using hn) h
theorem qH{a:Nat}(kE:rs.Nodup)(ha:rs[i]?=some a):i<rs.length/\a∈rs/\rs.take (i+1)=rs.take i++[a]/\a∉rs.take i:=by
 have BZ:rs.take (i+1)=rs.take i++[a]:=by rw[List.take_add_one,ha];rfl
 refine⟨(aa.mp ha).1,am ha,BZ,fun z=>?_⟩
 have:(rs.take (i+1)).Nodup:=kE.sublist (gy _ _)
 rw[BZ,cR]at this
 exact this.2.2 a z a (by simp) rfl
theorem Ai{V:Nat->W}{a:Nat}{s:List aj}(kE:rs.Nodup)(ha:rs[i]?=some a)(hl:rs.length<=1000)(hs:s[n]?=some (.dct (vD V (rs.take i)))):jR (.loc n) (.int (a:Nat)) (V a) s=some (s.set n (.dct (vD V (rs.take (i+1))))):=by
 obtain⟨_,_,BZ,hant⟩:=qH kE ha
 rw[ww hs (by rw[nF,a8];show _<1000000;omega),BZ]
 congr 3
 exact wq (f:=fun a:Nat=>a) (g:=V) (a:=a) (by simpa using hant)
theorem yF{st:List aj}{r rv dv iv:Nat}{V:Nat->W}{e:FE}{P:RS->Prop}{rest:FS}(hr:st[r]?=some (.lst (cC rs)))(kE:rs.Nodup)(hl:rs.length<=1000)
  (Vh:∀o,(ρ.set iv o)[rv]?=some (lO r)) (Vk:∀o,(ρ.set iv o)[dv]?=some (lO st.length)) (UW:iv<ρ.length)
  (he:∀a∈rs,∀c,e (ρ.set iv (iO (a:Nat))) (st++[c])=.ok (V a) (st++[c]))
  (tX:∀o,gG P (rest (ρ.set iv o) (st++[.dct (vD V rs)]))) :
  gG P (aS (eS (cx (ae rv)) (eB iv) (m5 (ae dv) (ae iv) e jR)) rest ρ (st++[.dct []])):=by
 have h0:ρ=ρ.set iv ρ[iv]:=by simp
 refine cz (k:=(cC rs,some (r,cC rs))) (fun i ρ' s=>∃o,ρ'=ρ.set iv o/\s=st++[.dct (vD V (rs.take i))]) (fq (ig (by have:=Vh ρ[iv];rwa[<- h0]at this)) (aK (aM hr))) ⟨_,h0,rfl⟩ ?_ ?_ ?_
 ·rintro i ρ' s ⟨o,rfl,rfl⟩
  exact aK (aM hr)
 ·rintro i w ρ' s hw ⟨o,rfl,rfl⟩
  rw[ak]at hw
  obtain⟨a,ha,rfl⟩:=a6.mp hw
  obtain⟨hi,ham,_,_⟩:=qH kE ha
  refine⟨ρ.set iv (iO (a:Nat)),?_,?_⟩
  ·show eB iv _ _=_
   unfold eB
   simp[UW]
  ·refine⟨_,_,lK (he a ham _) (ig (Vk _)) (ig (by rw[bv UW])) (Ai kE ha hl bg),_,rfl,?_⟩
   rw[dN];rfl
 ·rintro ρ' s ⟨o,rfl,rfl⟩
  rw[ai,fX]
  exact tX o
def gM(M:Mc)(a:Nat):Bool:=M.gd.getD a false
theorem JN{M:Mc}{st:List aj}{r:Nat}(hM:n9 M N)(hr:st[r]?=some (.lst (cC rs)))(Ts:∀a∈rs,a<N)(kE:rs.Nodup)(hl:rs.length<=1000) :
  ∃(B:Nat->Nat) (x:List aj),(∀a∈rs,∀b∈rs,(B a=B b↔gM M a=gM M b))/\(∃m h,qX rs B m h)/\fz x/\x[2]?=some (.dct (iw B rs))/\Js [M.w,.loc r] st=.ok (.loc (st.length+2)) (st++x):=by
 suffices hh:gG (qp fun w bx=>∃j x,w=.loc (st.length+j)/\bx=st++x/\j=2/\∃(B:Nat->Nat),(∀a∈rs,∀b∈rs,(B a=B b↔gM M a=gM M b))/\(∃m h,qX rs B m h)/\fz x/\x[2]?=some (.dct (iw B rs))) (RO ([M.w,.loc r].map some++List.replicate (4-2) none) st) by
  obtain⟨j,x,⟨rfl,B,h1,hc,hp,h2⟩,e⟩:=ij hh
  exact⟨B,x,h1,hc,hp,h2,e⟩
 apply aB
 ·exact bQ rfl
 refine yF (V:=fun a=>W.bl (gM M a)) hr kE hl (fun o=>rfl) (fun o=>rfl) (by simp) (fun a ha c=>?_) fun o=>?_
 ·refine bd kx kv (hJ (dg ?_))
  rw[ak,ac (by rw[hM.gd];exact Ts a ha)]
  simp[gM,aE,ac (show a<M.gd.length by rw[hM.gd];exact Ts a ha)]
 ·obtain⟨B,c,hB,hk,hp,e⟩:=qW (st:=st++[.dct (vD (fun a=>W.bl (gM M a)) rs)]) (r:=r) (q:=st.length) (rs:=rs) (kf:=fun a=>.bo (gM M a)) (tg:=0) (aM hr) bg (fun a ha=>jY kE ha) (fun _ _=>rfl) kE hl
  refine⟨_,_,nE (cI (aq kv kn) e rfl),2,[.dct (vD (fun a=>W.bl (gM M a)) rs),c,.dct (iw B rs)],by simp,by simp,rfl,B,fun a ha b hb=>?_,by rw[hk];exact⟨_,(GI _ _ rs rfl).2⟩,wT (fun _=>rfl) (i7 hp (wT (fun _=>rfl) y0)),rfl⟩
  rw[hB a ha b hb]
  simp
theorem GK{st:List aj}{r b v:Nat}{vw:Nat->List Int}(hr:st[r]?=some (.lst (cC rs)))(hb:st[b]?=some (.dct (iw B rs)))(hv:st[v]?=some (.dct (vD (fun a=>.tup ((vw a).map W.int)) rs)))(kE:rs.Nodup)(hl:rs.length<=1000) :
  ∃(B':Nat->Nat) (x:List aj),(∀a∈rs,∀b∈rs,(B' a=B' b↔B a=B b/\vw a=vw b))/\(∃m h,qX rs B' m h)/\fz x/\x[2]?=some (.dct (iw B' rs))/\C7 [.loc r,.loc b,.loc v] st=.ok (.loc (st.length+2)) (st++x):=by
 suffices hh:gG (qp fun w bx=>∃j x,w=.loc (st.length+j)/\bx=st++x/\j=2/\∃(B':Nat->Nat),(∀a∈rs,∀b∈rs,(B' a=B' b↔B a=B b/\vw a=vw b))/\(∃m h,qX rs B' m h)/\fz x/\x[2]?=some (.dct (iw B' rs))) (RT ([W.loc r,.loc b,.loc v].map some++List.replicate (5-3) none) st) by
  obtain⟨j,x,⟨rfl,B,h1,hc,hp,h2⟩,e⟩:=ij hh
  exact⟨B,x,h1,hc,hp,h2,e⟩
 apply aB
 ·exact bQ rfl
 refine yF (V:=fun a=>(KX.pr (B a:Nat) (vw a)).w) hr kE hl (fun o=>rfl) (fun o=>rfl) (by simp) (fun a ha c=>?_) fun o=>?_
 ·exact iE (aq (bd kv kv (oE (fM (aM hb)) (jY kE ha))) (aq (bd kv kv (oE (fM (aM hv)) (jY kE ha))) bc)) (by show 2<=1000000;decide)
 ·obtain⟨B',c,hB,hk,hp,e⟩:=qW (st:=st++[.dct (vD (fun a=>(KX.pr (B a:Nat) (vw a)).w) rs)]) (r:=r) (q:=st.length) (rs:=rs) (kf:=fun a=>.pr (B a:Nat) (vw a)) (tg:=2) (aM hr) bg (fun a ha=>jY kE ha) (fun _ _=>rfl) kE hl
  refine⟨_,_,nE (cI (aq kv kn) e rfl),2,[.dct (vD (fun a=>(KX.pr (B a:Nat) (vw a)).w) rs),c,.dct (iw B' rs)],by simp,by simp,rfl,B',fun a ha b hb=>?_,by rw[hk];exact⟨_,(GI _ _ rs rfl).2⟩,wT (fun _=>rfl) (i7 hp (wT (fun _=>rfl) y0)),rfl⟩
  rw[hB a ha b hb,KX.pr.injEq]
  exact⟨fun z=>⟨by omega,z.2⟩,fun z=>⟨by rw[z.1],z.2⟩⟩
theorem GL{st:List aj}{zs ys:List W}(h:st[n]?=some (.lst zs))(h2:st[m]?=some (.lst ys))(hl:zs.length+ys.length<=1000000):jO (.loc n) [.loc m] st=.ok .non (st.set n (.lst (zs++ys))):=by
 unfold jO pL
 simp only[h,h2,aK h2,cw]
 rw[ay hl]
def GM:W->Nat
 |.int z=>z.toNat
 |_=>0
theorem tJ(a:Nat):GM (.int (a:Nat))=a:=by show((a:Int)).toNat=a;omega
theorem GN(rs:List Nat)(f:Nat->W):(cC rs).map (fun w=>f (GM w))=rs.map f:=by
 unfold cC;rw[aT];exact bq fun a _=>by show f (GM (.int (a:Nat)))=f a;rw[tJ]
theorem GO{w:W}(h:w∈cC rs):∃a∈rs,w=.int (a:Nat):=by
 obtain⟨a,ha,rfl⟩:=al.mp h;exact⟨a,ha,rfl⟩
def yG(M:Mc)(rs:List Nat)(B:Nat->Nat)(a:Nat):List Int:=(rp M.tb.length rs).map fun p=>((B (led (bt M) p a):Nat):Int)
structure Rm(M:Mc)(N:Nat)(rs:List Nat):Prop where
 ok:n9 M N
 lt:∀a∈rs,a<N
 nd:rs.Nodup
 len:rs.length<=100
 sz:M.tb.length*(2*rs.length)<=10000
 cl:∀k,k<M.tb.length->∀a∈rs,∀b∈rs,bt M k a b∈rs
theorem GP{M:Mc}{st:List aj}{r b:Nat}(hM:Rm M N rs)(hr:st[r]?=some (.lst (cC rs)))(hb:st[b]?=some (.dct (iw B rs))) :
  ∃x:List aj,fz x/\x[0]?=some (.dct (vD (fun a=>.tup ((yG M rs B a).map W.int)) rs))/\C6 [M.w,.loc r,.loc b] st=.ok (.loc st.length) (st++x):=by
 suffices hh:gG (qp fun w bx=>∃j x,w=.loc (st.length+j)/\bx=st++x/\j=0/\fz x/\x[0]?=some (.dct (vD (fun a=>.tup ((yG M rs B a).map W.int)) rs))) (RQ ([M.w,.loc r,.loc b].map some++List.replicate (7-3) none) st) by
  obtain⟨j,x,⟨rfl,hp,h1⟩,e⟩:=ij hh
  exact⟨x,hp,h1,e⟩
 have dq:=hM.len
 apply aB
 ·exact bQ rfl
 refine cz (k:=(cC rs,some (r,cC rs))) (fun i ρ s=>∃x o4 o5 o6,fz x/\ρ=[some M.w,lO r,lO b,lO st.length,o4,o5,o6]/\s=st++.dct (vD (fun a=>.tup ((yG M rs B a).map W.int)) (rs.take i))::x) (fq kv (aK (aM hr))) ⟨[],none,none,none,y0,rfl,rfl⟩ ?_ ?_ ?_
 ·rintro i ρ' s ⟨x,o4,o5,o6,_,rfl,rfl⟩
  exact aK (aM hr)
 ·rintro i w ρ' s hw ⟨x,o4,o5,o6,npx,rfl,rfl⟩
  rw[ak]at hw
  obtain⟨a,ha,rfl⟩:=a6.mp hw
  obtain⟨hi,ham,_,_⟩:=qH hM.nd ha
  refine⟨_,rfl,?_⟩
  have c3:(st++.dct (vD (fun a=>.tup ((yG M rs B a).map W.int)) (rs.take i))::x)[st.length]?=some (.dct (vD (fun a=>.tup ((yG M rs B a).map W.int)) (rs.take i))):=by rw[ca];rfl
  have cr:(st++.dct (vD (fun a=>.tup ((yG M rs B a).map W.int)) (rs.take i))::x)[r]?=some (.lst (cC rs)):=aM hr
  have cb:(st++.dct (vD (fun a=>.tup ((yG M rs B a).map W.int)) (rs.take i))::x)[b]?=some (.dct (iw B rs)):=aM hb
  have hss:∀(y:List aj) (c:aj),fz y->∃x',fz x'/\(st++.dct (vD (fun a=>.tup ((yG M rs B a).map W.int)) (rs.take i))::x++y).set st.length c=st++c::x':=fun y c npy=>⟨x++y,i7 npx npy,by rw[av,dN];rfl⟩
  generalize st++.dct (vD (fun a=>.tup ((yG M rs B a).map W.int)) (rs.take i))::x=s0 at c3 cr cb hss
  apply aB
  ·exact bQ (u7 bc (dB _))
  refine cz (k:=(M.tb.map dH,none)) (fun k ρ s=>∃y o6,fz y/\ρ=[some M.w,lO r,lO b,lO st.length,iO (a:Nat),lO s0.length,o6]/\s=s0++.lst ((rp k rs).map fun p=>W.int (B (led (bt M) p a):Nat))::y) (ii kx) ⟨[],_,y0,rfl,rfl⟩ (fun _ _ _ _=>trivial) ?_ ?_
  ·rintro k w ρ' s hw ⟨y,o6,npy,rfl,rfl⟩
   rw[ak]at hw
   obtain⟨t,ht,rfl⟩:=a6.mp hw
   have hk:k<M.tb.length:=(aa.mp ht).1
   refine⟨_,rfl,?_⟩
   have qh:(rp k rs).length<=10000:=by
    rw[JK]
    refine bu (Nat.mul_le_mul_right _ (d_ hk)) hM.sz
   have c5:(s0++.lst ((rp k rs).map fun p=>W.int (B (led (bt M) p a):Nat))::y)[s0.length]?=some (.lst ((rp k rs).map fun p=>W.int (B (led (bt M) p a):Nat))):=by rw[ca];rfl
   have cr':(s0++.lst ((rp k rs).map fun p=>W.int (B (led (bt M) p a):Nat))::y)[r]?=some (.lst (cC rs)):=aM cr
   have cb':(s0++.lst ((rp k rs).map fun p=>W.int (B (led (bt M) p a):Nat))::y)[b]?=some (.dct (iw B rs)):=aM cb
   apply aB
   ·refine eW (jz kv (df c5) (aq (gu (fun w=>W.int (B (bt M k a (GM w)):Nat)) (fq kv (aK cr')) (by rw[ai];show _<=1000000;omega) (aK cr') fun w hw=>?_) bc) (GL (aM c5) bg (by rw[ai,ai,ai];omega)))
    obtain⟨z,hz,rfl⟩:=GO hw
    obtain⟨row,e1,e2,_⟩:=oF hM.ok ht (hM.lt a ham) (hM.lt z hz)
    rw[tJ]
    exact⟨_,rfl,bd kv (bd (bd kv kv (p_ e1)) kv (qc e2)) (oE (fM cb') (jY hM.nd (hM.cl k hk a ham z hz)))⟩
   rw[av,dN,GN rs fun t=>W.int (B (bt M k a t):Nat)]
   generalize hy:(y++[.lst (rs.map fun t=>W.int (B (bt M k a t):Nat))]:List aj)=y1
   generalize hL1:((rp k rs).map fun p=>W.int (B (led (bt M) p a):Nat))++(rs.map fun t=>W.int (B (bt M k a t):Nat))=L1
   have hl1:L1.length<=20000:=by rw[<- hL1];simp;omega
   show gG _ (eR _ _ (s0++.lst L1::(y++[_])))
   rw[hy]
   have c5':(s0++.lst L1::y1)[s0.length]?=some (.lst L1):=by rw[ca];rfl
   have cr2:(s0++.lst L1::y1)[r]?=some (.lst (cC rs)):=aM cr
   have cb2:(s0++.lst L1::y1)[b]?=some (.dct (iw B rs)):=aM cb
   refine⟨_,_,eW (jz kv (df c5') (aq (gu (fun w=>W.int (B (bt M k (GM w) a):Nat)) (fq kv (aK cr2)) (by rw[ai];show _<=1000000;omega) (aK cr2) fun w hw=>?_) bc) (GL (aM c5') bg (by rw[ai,ai];omega))),y1++[.lst (rs.map fun t=>W.int (B (bt M k t a):Nat))],_,i7 (by rw[<- hy];exact i7 npy (wT (fun _=>rfl) y0)) (wT (fun _=>rfl) y0),rfl,?_⟩
   ·obtain⟨z,hz,rfl⟩:=GO hw
    obtain⟨row,e1,e2,_⟩:=oF hM.ok ht (hM.lt z hz) (hM.lt a ham)
    rw[tJ]
    exact⟨_,rfl,bd kv (bd (bd kv kv (p_ e1)) kv (qc e2)) (oE (fM cb2) (jY hM.nd (hM.cl k hk z hz a ham)))⟩
   ·rw[av,dN,GN rs fun t=>W.int (B (bt M k t a):Nat)]
    show s0++.lst (L1++_)::(y1++_)=s0++.lst _::_
    congr 3
    rw[GE,<- hL1]
    simp[led,aT,cQ]
  ·rintro ρ' s ⟨y,o6,npy,rfl,rfl⟩
   rw[ai]
   have c5:(s0++.lst ((rp M.tb.length rs).map fun p=>W.int (B (led (bt M) p a):Nat))::y)[s0.length]?=some (.lst ((rp M.tb.length rs).map fun p=>W.int (B (led (bt M) p a):Nat))):=by rw[ca];rfl
   have ev:W.tup ((rp M.tb.length rs).map fun p=>W.int (B (led (bt M) p a):Nat))=.tup ((yG M rs B a).map W.int):=by
    unfold yG;rw[aT];rfl
   obtain⟨x',npx',hx⟩:=hss (.lst ((rp M.tb.length rs).map fun p=>W.int (B (led (bt M) p a):Nat))::y) (.dct (vD (fun a=>.tup ((yG M rs B a).map W.int)) (rs.take (i+1)))) (wT (fun _=>rfl) npy)
   refine⟨_,_,lK (bb kn (fB (aK c5))) kv kv (by rw[ev];exact Ai (V:=fun a=>.tup ((yG M rs B a).map W.int)) hM.nd ha (by omega) (aM c3)),x',_,_,_,npx',rfl,hx⟩
 ·rintro ρ' s ⟨x,o4,o5,o6,npx,rfl,rfl⟩
  rw[ai,fX]
  exact⟨_,_,nE kv,0,_,rfl,rfl,rfl,wT (fun _=>rfl) npx,rfl⟩
theorem JO{p:Nat×Nat×Nat}(h:p∈rp L rs):p.1<L/\p.2.2∈rs:=by
 unfold rp at h
 rw[List.mem_flatMap]at h
 obtain⟨a,ha,h⟩:=h
 have:=bj.mp ha
 rcases aN.mp h with h|h<;>(obtain⟨t,ht,rfl⟩:=al.mp h;exact⟨this,ht⟩)
section
variable{M:Mc}{s:Nat}
theorem Rm.led(hM:Rm M N rs){p:Nat×Nat×Nat}(hp:p∈rp M.tb.length rs){a:Nat}(ha:a∈rs):led (bt M) p a∈rs:=by
 obtain⟨h1,h2⟩:=JO hp
 unfold P.led
 split
 ·exact hM.cl _ h1 _ ha _ h2
 ·exact hM.cl _ h1 _ h2 _ ha
abbrev HF(M:Mc)(rs:List Nat)(s a b:Nat):Bool:=ap (bt M) M.tb.length (gM M) rs s a b
abbrev OB(M:Mc)(rs:List Nat)(s:Nat):List (Nat×Nat):=JI (bt M) M.tb.length (gM M) rs s
def Dy(M:Mc)(rs:List Nat)(s:Nat)(B:Nat->Nat):Prop:=∀a∈rs,∀b∈rs,(B a=B b↔HF M rs s a b=false)
theorem Sb(h:∀a∈rs,∀b∈rs,(B a=B b↔gM M a=gM M b)):Dy M rs 0 B:=fun a ha b hb=>by
 rw[h a ha b hb];unfold HF ap;simp
theorem Sc(hM:Rm M N rs)(h:Dy M rs s B)(h':∀a∈rs,∀b∈rs,(B' a=B' b↔B a=B b/\yG M rs B a=yG M rs B b)):Dy M rs (s+1) B':=fun a ha b hb=>by
 rw[h' a ha b hb,h a ha b hb]
 unfold yG
 rw[List.map_inj_left]
 constructor
 ·rintro⟨z1,z2⟩
  exact GB z1 fun p hp=>(h _ (hM.led hp ha) _ (hM.led hp hb)).mp (by have:=z2 p hp;omega)
 ·intro z
  obtain⟨z1,z2⟩:=qe z
  exact⟨z1,fun p hp=>by rw[(h _ (hM.led hp ha) _ (hM.led hp hb)).mpr (z2 p hp)]⟩
end
theorem GQ{f:cu->List aj->R Bool}{st a b:List aj}(h1:f ρ st=.ok false a)(h2:f ρ st=.ok true b):False:=by
 rw[h1]at h2;cases h2
theorem BR:∀{l:List Nat} {a b:Nat},a∈l->b∈l->a≠b->(a,b)∈lM l\/(b,a)∈lM l
 |[],_,_,h,_,_=>by cases h
 |x::r,a,b,ha,hb,hab=>by
  unfold lM
  rcases aI.mp ha with z1|z1
  ·rcases aI.mp hb with z2|z2
   ·exact absurd (z1.trans z2.symm) hab
   ·exact .inl (cW _ (al.mpr ⟨b,z2,by rw[z1]⟩))
  ·rcases aI.mp hb with z2|z2
   ·exact .inr (cW _ (al.mpr ⟨a,z1,by rw[z2]⟩))
   ·rcases BR z1 z2 hab with z|z
    ·exact .inl (aW _ z)
    ·exact .inr (aW _ z)
theorem GR{B B':Nat->Nat}(kE:rs.Nodup):∀l:List Nat,(∀a∈l,a∈rs)->ya (iw B rs) (iw B' l)=some (l.all fun a=>B' a==B a)
 |[],_=>rfl
 |a::l,h=>by
  have hg:jx (iw B rs) (.i (a:Nat))=some (.int (B a:Nat)):=jY (V:=fun a=>W.int (B a:Nat)) kE (h a (by simp))
  have ih:=GR (B:=B) (B':=B') kE l fun b hb=>h b (by simp[hb])
  show ya (iw B rs) ((DK.i (a:Nat),W.int (B' a:Nat))::iw B' l)=_
  unfold ya
  simp only[hg,ih,mY,ly]
  congr 2
  rw[gX,b9,b9]
  omega
theorem Sd{st:List aj}{p:Nat}(kE:rs.Nodup)(hp:st[p]?=some (.dct (iw B' rs)))(hq:st[q]?=some (.dct (iw B rs))):zU (.loc p) (.loc q) st=.ok (.bl (!(rs.all fun a=>B' a==B a))) st:=by
 unfold zU
 rw[fM hp,fM hq]
 simp only[nF,fx]
 rw[GR kE rs fun _ h=>h]
section
variable{M:Mc}
structure tK(M:Mc)(rs:List Nat)(B:Nat->Nat):Prop where
 can:∃m h,qX rs B m h
 ok:∃s,Dy M rs s B/\Dy M rs (s+1) B
theorem OC{s:Nat}(c:∃m h,qX rs B m h)(c':∃m h,qX rs B' m h)(h:Dy M rs s B)(h':Dy M rs (s+1) B')(hn:OB M rs (s+1)=[]):∀a∈rs,B a=B' a:=by
 obtain⟨m,hh,c⟩:=c
 obtain⟨m',hh',c'⟩:=c'
 refine GJ c c' fun a ha b hb=>?_
 rw[h a ha b hb,h' a ha b hb]
 have pr:∀a b,(a,b)∈lM rs->HF M rs s a b=false->HF M rs (s+1) a b=false:=fun a b hp z=>by
  cases e:HF M rs (s+1) a b with
  |false=>rfl
  |true=>
   have:(a,b)∈OB M rs (s+1):=eN.mpr ⟨hp,by show((!HF M rs s a b)&&HF M rs (s+1) a b)=true;rw[z,e];rfl⟩
   rw[hn]at this;cases this
 constructor
 ·intro z
  by_cases hab:a=b
  ·subst hab;exact Ah _ _
  ·rcases BR ha hb hab with y|y
   ·exact pr a b y z
   ·have:=pr b a y (by show ap _ _ _ _ _ _ _=_;rw[rO];exact z)
    show ap _ _ _ _ _ _ _=_
    rw[rO];exact this
 ·exact fun z=>(qe z).1
theorem tL(hM:Rm M N rs){st:List aj}{r b:Nat}{s:Nat}(hr:st[r]?=some (.lst (cC rs)))(hb:st[b]?=some (.dct (iw B rs)))(h:Dy M rs s B){fv fr:FE}(e1:fv ρ st=.ok M.w st)(e2:fr ρ st=.ok (.loc r) st)(e3:fb ρ st=.ok (.loc b) st) :
  ∃(B':Nat->Nat) (p:Nat) (y:List aj),Dy M rs (s+1) B'/\(∃m h,qX rs B' m h)/\fz y/\y[p]?=some (.dct (iw B' rs)) /\
   c8 3 C7 (ag fr (ag fb (ag (c8 3 C6 (ag fv (ag fr (ag fb az)))) az))) ρ st=.ok (.loc (st.length+p)) (st++y):=by
 have hl:=hM.len
 obtain⟨x,npx,x0,ev⟩:=GP hM hr hb
 have hv:(st++x)[st.length]?=some (.dct (vD (fun a=>.tup ((yG M rs B a).map W.int)) rs)):=by rw[ca];exact x0
 obtain⟨B',y,hB,can,npy,y2,es⟩:=GK (st:=st++x) (aM hr) (aM hb) hv hM.nd (by omega)
 refine⟨B',x.length+2,x++y,Sc hM h fun a ha b hb=>hB a ha b hb,can,i7 npx npy,?_,?_⟩
 ·rw[de];exact y2
 ·rw[<- av,show st.length+(x.length+2)=(st++x).length+2 by rw[aF];omega]
  exact cI (aq e2 (aq e3 (aq (cI (aq e1 (aq e2 (aq e3 bc))) ev rfl) bc))) es rfl
theorem JP(hM:Rm M N rs){st:List aj}{r:Nat}(hr:st[r]?=some (.lst (cC rs))):∃(B:Nat->Nat) (j:Nat) (x:List aj),tK M rs B/\fz x/\x[j]?=some (.dct (iw B rs))/\Jt [M.w,.loc r] st=.ok (.loc (st.length+j)) (st++x):=by
 have hl:=hM.len
 suffices hh:gG (qp fun w bx=>∃j x,w=.loc (st.length+j)/\bx=st++x/\fz x/\∃B,tK M rs B/\x[j]?=some (.dct (iw B rs))) (RZ ([M.w,.loc r].map some++List.replicate (4-2) none) st) by
  obtain⟨j,x,⟨np,B,h1,h2⟩,e⟩:=ij hh
  exact⟨B,j,x,h1,np,h2,e⟩
 obtain⟨B,x,hB,can,npx,x2,eg⟩:=JN hM.ok hr hM.lt hM.nd (by omega)
 refine aB (bQ (cI (aq kv kn) eg rfl)) ?_
 have b0:Dy M rs 0 B:=Sb hB
 have hb:(st++x)[st.length+2]?=some (.dct (iw B rs)):=by rw[de];exact x2
 obtain⟨B',p,y,b1,can',npy,hp,es⟩:=tL hM (st:=st++x) (r:=r) (b:=st.length+2) (aM hr) hb b0 (fv:=ae 0) (fr:=ae 1) (fb:=ae 2) (ρ:=[some M.w,lO r,lO (st.length+2),none]) kv kv kv
 refine aB (bQ es) ?_
 have tq':∀{S:List aj} {B B':Nat->Nat} {u v:Nat},S[v]?=some (.dct (iw B' rs))->S[u]?=some (.dct (iw B rs))->eV (e2 zU (ae 3) (ae 2)) [some M.w,lO r,lO u,lO v] S=.ok (!(rs.all fun a=>B' a==B a)) S:=fun h h'=>bO (bd kv kv (Sd hM.nd h h'))
 refine nU (fun n ρ s=>∃(B B':Nat->Nat) (k j p:Nat) (x:List aj),n=Tp (bt M) M.tb.length (gM M) rs (k+1)/\Dy M rs k B/\Dy M rs (k+1) B'/\(∃m h,qX rs B m h)/\(∃m h,qX rs B' m h)/\fz x/\x[j]?=some (.dct (iw B rs))/\x[p]?=some (.dct (iw B' rs)) /\
   ρ=[some M.w,lO r,lO (st.length+j),lO (st.length+p)]/\s=st++x) _ ⟨B,B',0,2,x.length+p,x++y,rfl,b0,b1,can,can',i7 npx npy,?_,?_,?_,?_⟩ ?_ ?_
 ·rw[au (aa.mp x2).1];exact x2
 ·rw[de];exact hp
 ·rw[show st.length+(x.length+p)=(st++x).length+p by rw[aF];omega];rfl
 ·rw[av]
 ·rintro n ρ s ⟨B,B',k,j,p,x,rfl,b0,b1,can,can',npx,xj,xp,rfl,rfl⟩
  have hj:(st++x)[st.length+j]?=some (.dct (iw B rs)):=by rw[de];exact xj
  have hp:(st++x)[st.length+p]?=some (.dct (iw B' rs)):=by rw[de];exact xp
  have tt:=tq' hp hj
  cases e:rs.all fun a=>B' a==B a with
  |true=>rw[e]at tt;exact .inl tt
  |false=>
   rw[e]at tt
   refine .inr ⟨tt,?_⟩
   have lu:OB M rs (k+1)≠[]:=fun z=>by
    have:=OC can can' b0 b1 z
    rw[List.all_eq_false]at e
    obtain⟨a,ha,h2⟩:=e
    exact h2 (by rw[this a ha];exact cH _)
   refine aB (bQ kv) ?_
   obtain⟨B2,p2,y,b2,can2,npy,hp2,es⟩:=tL hM (st:=st++x) (r:=r) (b:=st.length+p) (aM hr) hp b1 (fv:=ae 0) (fr:=ae 1) (fb:=ae 2) (ρ:=[some M.w,lO r,lO (st.length+p),lO (st.length+p)]) kv kv kv
   refine cY (bQ es) ⟨_,_,rfl,_,R_ lu,B',B2,k+1,p,x.length+p2,x++y,rfl,b1,b2,can',can2,i7 npx npy,?_,?_,?_,?_⟩
   ·rw[au (aa.mp xp).1];exact xp
   ·rw[de];exact hp2
   ·rw[show st.length+(x.length+p2)=(st++x).length+p2 by rw[aF];omega];rfl
   ·rw[av]
 ·rintro n ρ s ⟨B,B',k,j,p,x,rfl,b0,b1,can,can',npx,xj,xp,rfl,rfl⟩ hno
  have hj:(st++x)[st.length+j]?=some (.dct (iw B rs)):=by rw[de];exact xj
  have hp:(st++x)[st.length+p]?=some (.dct (iw B' rs)):=by rw[de];exact xp
  have tt:=tq' hp hj
  cases e:rs.all fun a=>B' a==B a with
  |false=>rw[e]at tt;exact(GQ hno tt).elim
  |true=>
   rw[d6]at e
   refine cU kv ⟨_,_,rfl,j,x,rfl,rfl,npx,B,⟨can,k,b0,fun a ha b hb=>?_⟩,xj⟩
   rw[<- b1 a ha b hb,b9.mp (e a ha),b9.mp (e b hb)]
end
section
variable{h:Nat->Nat}
def pj(rs:List Nat)(h:Nat->Nat)(j:Nat):Nat:=rs.getD (h j) 0
def qI(rs:List Nat)(h:Nat->Nat)(m:Nat):List Nat:=(List.range m).map (pj rs h)
theorem GS{x:Nat}(e:rs[h j]?=some x):pj rs h j=x:=by unfold pj;rw[aE,e];rfl
theorem qX.at'(c:qX rs B m h){j:Nat}(hj:j<m):rs[h j]?=some (pj rs h j)/\pj rs h j∈rs/\B (pj rs h j)=j:=by
 obtain⟨x,h1,h2⟩:=c.hd j hj
 rw[GS h1]
 exact⟨h1,am h1,h2⟩
theorem qX.m_le(c:qX rs B m h)(hl:rs.length<=1000):∀j,j<m->j<=h j:=by
 intro j
 induction j with
 |zero=>intro _;exact dB _
 |succ j ih=>
  intro hj
  have:=ih (by omega)
  have:=c.up j (j+1) (by omega) hj
  omega
theorem qX.len(c:qX rs B m h)(hl:rs.length<=1000):m<=rs.length:=by
 rcases kt m with z|z
 ·omega
 ·have:=c.m_le hl (m-1) (by omega)
  have:=(aa.mp (c.at' (j:=m-1) (by omega)).1).1
  omega
theorem GT(c:qX rs B m h)(kE:rs.Nodup)(hl:rs.length<=1000){st:List aj}{r b:Nat}(hr:st[r]?=some (.lst (cC rs)))(hb:st[b]?=some (.dct (iw B rs))):Ju [.loc r,.loc b] st=.ok (.loc st.length) (st++[.lst (cC (qI rs h m))]):=by
 suffices hh:gG (qp fun w bx=>∃j x,w=.loc (st.length+j)/\bx=st++x/\j=0/\x=[.lst (cC (qI rs h m))]) (R4 ([W.loc r,.loc b].map some++List.replicate (4-2) none) st) by
  obtain⟨j,x,⟨rfl,rfl⟩,e⟩:=ij hh
  exact e
 have hml:=c.len hl
 refine aB (bQ (u7 bc (dB _))) ?_
 refine cz (k:=(cC rs,some (r,cC rs))) (fun i ρ s=>∃(n:Nat) (o3:Option W),n<=m/\(∀j,j<n->h j<i)/\(∀j,n<=j->j<m->i<=h j)/\ρ=[lO r,lO b,lO st.length,o3]/\s=st++[.lst (cC (qI rs h n))]) (fq kv (aK (aM hr))) ⟨0,none,dB _,fun j z=>absurd z (cE _),fun j _ _=>dB _,rfl,rfl⟩ ?_ ?_ ?_
 ·rintro i ρ s ⟨n,o3,_,_,_,rfl,rfl⟩
  exact aK (aM hr)
 ·rintro i w ρ s hw ⟨n,o3,hn,h1,h2,rfl,rfl⟩
  rw[ak]at hw
  obtain⟨a,ha,rfl⟩:=a6.mp hw
  obtain⟨f1,f2⟩:=c.fst i a ha
  have ham:a∈rs:=am ha
  refine⟨_,rfl,?_⟩
  have hc:(st++[aj.lst (cC (qI rs h n))])[st.length]?=some (.lst (cC (qI rs h n))):=by rw[ca];rfl
  have ln:cS [.loc st.length] (st++[aj.lst (cC (qI rs h n))])=.ok (.int (n:Nat)) (st++[aj.lst (cC (qI rs h n))]):=by
   rw[gP (aK hc)];simp[qI]
  have ix:gS (.loc b) (.int (a:Nat)) (st++[aj.lst (cC (qI rs h n))])=.ok (.int (B a:Nat)) (st++[aj.lst (cC (qI rs h n))]):=oE (fM (aM hb)) (jY (V:=fun a=>W.int (B a:Nat)) kE ham)
  by_cases e:B a=n
  ·refine kM (bO (bd (bd kv kv ix) (bb kn ln) (gF (by rw[b9];omega)))) ?_
   have hi:h n=i:=by
    have:=h2 n (aw _) (by omega)
    rw[e]at f2;omega
   have hd:pj rs h n=a:=GS (by rw[hi];exact ha)
   refine cY (eW (jz kv (df hc) kn (oD hc (by simp[qI];show _<1000000;omega)))) ⟨_,_,rfl,n+1,_,by omega,fun j hj=>?_,fun j hj hjm=>?_,rfl,?_⟩
   ·rcases eA j n with z|z
    ·have:=h1 j z;omega
    ·have:j=n:=by omega
     rw[this,hi];omega
   ·have:=c.up n j (by omega) hjm;omega
   ·rw[dN]
    simp[qI,jq,hd]
  ·refine hU (bO (bd (bd kv kv ix) (bb kn ln) (gF (by rw[aX];omega)))) ⟨_,_,rfl,n,_,hn,fun j hj=>by have:=h1 j hj;omega,fun j hj hjm=>?_,rfl,rfl⟩
   have h3:=h2 j hj hjm
   rcases eA i (h j)with z|z
   ·exact z
   ·exfalso
    have hij:h j=i:=by omega
    have ba:B a=j:=by
     obtain⟨g1,_,g3⟩:=c.at' hjm
     rw[hij,ha]at g1
     cases g1;exact g3
    rcases kr hj with y|y
    ·omega
    ·have:=c.up n j y hjm
     have:=h2 n (aw _) (by omega)
     omega
 ·rintro ρ s ⟨n,o3,hn,h1,h2,rfl,rfl⟩
  rw[ai]at h2
  have:n=m:=by
   rcases kr hn with z|z
   ·exact z
   ·have a1:=h2 n (aw _) z
    have a2:=(aa.mp (c.at' z).1).1
    omega
  subst this
  exact cU kv ⟨_,_,rfl,0,_,rfl,rfl,rfl,rfl⟩
end
section
variable{M:Mc}{h:Nat->Nat}
theorem tK.cg(l:tK M rs B)(hM:Rm M N rs){a x x' y y':Nat}(ha:a<M.tb.length)(hx:x∈rs)(t5:x'∈rs)(hy:y∈rs)(Dn:y'∈rs)(e1:B x=B x')(e2:B y=B y'):B (bt M a x y)=B (bt M a x' y'):=by
 obtain⟨s,b0,b1⟩:=l.ok
 have h1:=(qe ((b1 x hx x' t5).mp e1)).2 (a,0,y) (BO.mpr ⟨ha,.inl rfl,hy⟩)
 have h2:=(qe ((b1 y hy y' Dn).mp e2)).2 (a,1,x') (BO.mpr ⟨ha,.inr rfl,t5⟩)
 have h1:HF M rs s (bt M a x y) (bt M a x' y)=false:=h1
 have h2:HF M rs s (bt M a x' y) (bt M a x' y')=false:=h2
 exact(b0 _ (hM.cl a ha x hx y hy) _ (hM.cl a ha x' t5 y' Dn)).mpr (GF s _ _ _ h1 h2)
theorem tK.st(l:tK M rs B)(hM:Rm M N rs):∀(k:Nat) (a b:Nat),a∈rs->b∈rs->B a=B b->HF M rs k a b=false:=by
 obtain⟨s,b0,b1⟩:=l.ok
 intro k
 induction k with
 |zero=>intro a b ha hb e;exact GC s 0 (by rw[fI];exact(b0 a ha b hb).mp e)
 |succ k ih=>
  intro a b ha hb e
  refine GB (ih a b ha hb e) fun p hp=>?_
  refine ih _ _ (hM.led hp ha) (hM.led hp hb) ?_
  exact(b0 _ (hM.led hp ha) _ (hM.led hp hb)).mpr ((qe ((b1 a ha b hb).mp e)).2 p hp)
def wU(M:Mc)(rs:List Nat)(B h:Nat->Nat)(m:Nat):Mc:=⟨M.nm,(List.range m).map fun j=>gM M (pj rs h j),(List.range M.tb.length).map fun a=>(List.range m).map fun l=>(List.range m).map fun r=>B (bt M a (pj rs h l) (pj rs h r))⟩
theorem OD(hM:Rm M N rs)(c:qX rs B m h):n9 (wU M rs B h m) m:=by
 refine⟨by simp[wU],by simp[wU,hM.ok.tb],fun t ht=>?_⟩
 simp only[wU,al]at ht
 obtain⟨a,ha,rfl⟩:=ht
 have ha:=bj.mp ha
 refine⟨by simp,fun r hr=>?_⟩
 obtain⟨l,hl,rfl⟩:=al.mp hr
 refine⟨by simp,fun v hv=>?_⟩
 obtain⟨q,hq,rfl⟩:=al.mp hv
 obtain⟨i,hi⟩:=aZ (hM.cl a ha _ (c.at' (bj.mp hl)).2.1 _ (c.at' (bj.mp hq)).2.1)
 exact(c.fst i _ hi).1
theorem JQ{a l r:Nat}(ha:a<M.tb.length)(hl:l<m)(hr:r<m):bt (wU M rs B h m) a l r=B (bt M a (pj rs h l) (pj rs h r)):=by
 have gm:∀{α:Type} (f:Nat->α) (n i:Nat) (d:α),i<n->((List.range n).map f).getD i d=f i:=fun f n i d hi=>by
  rw[aE,ak,dO hi];rfl
 show((((List.range M.tb.length).map fun a=>(List.range m).map fun l=>(List.range m).map fun r=>B (bt M a (pj rs h l) (pj rs h r))).getD a []).getD l []).getD r 0=_
 rw[gm _ _ _ _ ha,gm _ _ _ _ hl,gm _ _ _ _ hr]
end
section
variable{M:Mc}{h:Nat->Nat}
theorem JR(hM:Rm M N rs)(c:qX rs B m h){st:List aj}{p:Nat}(hp:st[p]?=some (.lst (cC (qI rs h m))))(hq:st[q]?=some (.dct (iw B rs))){a l r:Nat}(ha:a<M.tb.length)(hl:l<m)(hr:r<m) :
  dh [.int (a:Int),.int (l:Int),.int (r:Int),M.w,.loc p,.loc q] st=.ok (.int (B (bt M a (pj rs h l) (pj rs h r)):Nat)) st:=by
 have ht:=ac ha
 obtain⟨_,l1,_⟩:=c.at' hl
 obtain⟨_,r1,_⟩:=c.at' hr
 obtain⟨row,e1,e2',_⟩:=oF hM.ok ht (hM.lt _ l1) (hM.lt _ r1)
 have ixh:∀{j:Nat},j<m->bp (.loc p) (.int (j:Int)) st=.ok (.int (pj rs h j:Nat)) st:=fun{j} hj=>jU (aK hp) (dg (by unfold qI cC;rw[ak,ak,dO hj];rfl))
 have g2:bp M.w (.int 2) st=.ok (.tup (M.tb.map dH)) st:=rfl
 have it:bp (.tup (M.tb.map dH)) (.int (a:Int)) st=.ok (dH M.tb[a]) st:=hJ (dg (by rw[ak,ht];rfl))
 have ixd:gS (.loc q) (.int (bt M a (pj rs h l) (pj rs h r):Nat)) st=.ok (.int (B (bt M a (pj rs h l) (pj rs h r)):Nat)) st:=oE (fM hq) (jY (V:=fun a=>W.int (B a:Nat)) hM.nd (hM.cl a ha _ l1 _ r1))
 refine lL (N:=6) (ws:=[.int (a:Int),.int (l:Int),.int (r:Int),M.w,.loc p,.loc q]) (body:=jW) ?_
 exact cU (bd kv (bd (bd (bd (bd kv bZ g2) kv it) (bd kv kv (ixh hl)) (p_ e1)) (bd kv kv (ixh hr)) (qc e2')) ixd) ⟨_,_,rfl,rfl,rfl⟩
end
section
variable{M:Mc}{st:List aj}
end
structure Dg(M:Mc)(N:Nat)(rs:List Nat):Prop where
 up:rs.Pairwise (· < ·)
 zero:0∈rs
 lt:∀a∈rs,a<N
 cl:∀k,k<M.tb.length->∀a∈rs,∀b∈rs,bt M k a b∈rs
 least:∀C:Nat->Prop,C 0->(∀k,k<M.tb.length->∀a b,C a->C b->C (bt M k a b))->∀a∈rs,C a
theorem GU(h:rs.Pairwise (· < ·)):rs.Nodup:=h.imp fun z=>bE z
abbrev zI(l:List Nat):List Int:=l.map fun a=>((a:Nat):Int)
theorem OE{l':List Nat}(h:zI l=zI l'):l=l':=by
 have:=dJ (List.map Int.toNat) h
 simpa[zI,aT,cQ]using this
theorem zC{l':List Nat}(h:l.Pairwise (· < ·))(h':l'.Pairwise (· < ·))(hm:∀a,a∈l↔a∈l'):l=l':=by
 have hp:l.Perm l':=(ku (GU h) (GU h')).mpr hm
 have p1:(zI l).Pairwise (· <= ·):=gC.mpr (h.imp fun z=>by omega)
 have p2:(zI l').Pairwise (· <= ·):=gC.mpr (h'.imp fun z=>by omega)
 exact OE ((PySem.W.eq_sortI (hp.map _) p1).trans (PySem.W.eq_sortI (kg _) p2).symm)
theorem Dg.one{M:Mc}{Px:List Nat}(h:Dg M N rs)(h':Dg M N Px):rs=Px:=
 zC h.up h'.up fun a=>⟨fun z=>h.least (· ∈ Px) h'.zero (fun k hk a b=>fun x y=>h'.cl k hk a x b y) a z,fun z=>h'.least (· ∈ rs) h.zero (fun k hk a b=>fun x y=>h.cl k hk a x b y) a z⟩
theorem LA(hn:l.Nodup):∃rs,sortI (zI l)=zI rs/\rs.Perm l/\rs.Pairwise (· < ·):=by
 have hp:=PySem.W.sortI_perm (zI l)
 have e:zI ((sortI (zI l)).map Int.toNat)=sortI (zI l):=by
  unfold zI
  rw[aT]
  conv=>rhs;rw[<- nJ (sortI _)]
  refine bq fun z hz=>?_
  obtain⟨a,_,rfl⟩:=al.mp (hp.mem_iff.mp hz)
  show((((a:Int)).toNat:Nat):Int)=(a:Int)
  omega
 have hq:((sortI (zI l)).map Int.toNat).Perm l:=by
  have:=hp.map Int.toNat
  rw[show(zI l).map Int.toNat=l by simp[zI,aT,cQ]]at this
  exact this
 refine⟨(sortI (zI l)).map Int.toNat,e.symm,hq,?_⟩
 have h1:=PySem.W.sortI_rises (zI l)
 rw[<- e]at h1
 have h2:=gC.mp h1
 have h3:((sortI (zI l)).map Int.toNat).Nodup:=hq.nodup_iff.mpr hn
 exact(List.pairwise_and_iff.mpr ⟨h2,h3⟩).imp fun{a b} z=>by have:=z.1;have:=z.2;omega
theorem BS{st:List aj}{n:Nat}{l rs:List Nat}(h:st[n]?=some (.lst (cC l)))(hl:l.length<64)(hs:sortI (zI l)=zI rs):nD [.loc n] st=.ok (.loc st.length) (st++[.lst (cC rs)]):=by
 unfold nD
 simp only[aK h,cw]
 rw[show cC l=(zI l).map W.int by unfold cC zI;rw[aT];rfl,nG,cw,ay (by simpa[zI]using hl),hs]
 unfold zI cC
 rw[aT];rfl
theorem LB{M:Mc}{E:List Ro}(t:lq (bt M) M.tb.length N E)(cov:∀l r a,l<E.length->r<E.length->a<M.tb.length->HE (bt M) E [] l r a)(hp:rs.Perm (E.map Prod.fst))(hu:rs.Pairwise (· < ·)):Dg M N rs:=by
 have hm:∀a,a∈rs↔∃e∈E,e.1=a:=fun a=>by rw[hp.mem_iff,al]
 refine⟨hu,?_,fun a ha=>?_,fun k hk a ha b hb=>?_,fun C c0 cc a ha=>?_⟩
 ·obtain⟨r,e⟩:=t.zero
  exact(hm 0).mpr ⟨_,by rw[e];exact aQ,rfl⟩
 ·obtain⟨e,he,rfl⟩:=(hm a).mp ha
  exact t.lt e he
 ·obtain⟨e,he,rfl⟩:=(hm a).mp ha
  obtain⟨f,hf,rfl⟩:=(hm b).mp hb
  obtain⟨i,hi⟩:=aZ he
  obtain⟨j,hj⟩:=aZ hf
  rcases cov i j k (aa.mp hi).1 (aa.mp hj).1 hk e f hi hj with⟨m,g,hg,e1,_⟩|⟨p,hp,_⟩
  ·exact(hm _).mpr ⟨g,am hg,e1⟩
  ·cases hp
 ·have key:∀(n i:Nat) (e:Ro),i<n->E[i]?=some e->C e.1:=by
   intro n
   induction n with
   |zero=>intro i e h;omega
   |succ n ih=>
    intro i e hi he
    rcases kt i with z|z
    ·subst z
     obtain⟨r,e0⟩:=t.zero
     rw[e0]at he;cases he;exact c0
    ·obtain⟨h1,h2,el,er,h3,h4,h5,h6,_⟩:=t.row i e he z
     rw[<- h6]
     exact cc _ h5 _ _ (ih _ el (by omega) h3) (ih _ er (by omega) h4)
  obtain⟨e,he,rfl⟩:=(hm a).mp ha
  obtain⟨i,hi⟩:=aZ he
  exact key (i+1) i e (by omega) hi
theorem wB:∀{ws:List W},(∀w∈ws,w.und n=true)->undWs n ws=true
 |[],_=>rfl
 |w::ws,h=>by simp only[undWs,h w aQ,oJ];exact wB fun v hv=>h v (aA _ hv)
def OF(E:W->W->W->W)(R:Nat)(x l:W):W:=.tup ((bM 0 R).map (E x l))
def Pu(E:W->W->W->W)(R:Nat)(x:W):W:=.tup ((bM 0 R).map (OF E R x))
def GV(E:W->W->W->W)(L R:Nat):W:=.tup ((bM 0 L).map (Pu E R))
theorem vj{l:List α}{x:α}(h:l[i]?=some x):l.take (i+1)=l.take i++[x]:=by rw[List.take_succ,h];rfl
theorem rQ{f:W->W}:∀{l:List W},(∀x∈l,(f x).und n=true)->undWs n (l.map f)=true
 |[],_=>rfl
 |x::l,h=>by
  show((f x).und n&&undWs n (l.map f))=true
  rw[h x aQ,rQ fun y hy=>h y (aA _ hy)];rfl
theorem BU{E:W->W->W->W}{R:Nat}(hu:∀x l r,(E x l r).und n=true):(GV E L R).und n=true:=by
 unfold GV W.und
 refine rQ fun x _=>?_
 unfold Pu W.und
 refine rQ fun l _=>?_
 unfold OF W.und
 exact rQ fun r _=>hu x l r
theorem GW{E:W->W->W->W}{R:Nat}{st:List aj}{w0:W}(hL:L<=64)(hR:R<=64)(hm:st[m]?=some (.pin false f o w0))(hu:∀x l r,(E x l r).und st.length=true)
  (hc:∀s,st <+: s->∀x∈bM 0 L,∀l∈bM 0 R,∀r∈bM 0 R,sV cJ dh m [x,l,r] s=.ok (E x l r) s):Gd [.int L,.int R,.loc m] st=.ok (GV E L R) st:=by
 refine iL (N:=7) (ws:=[.int L,.int R,.loc m]) (body:=RH) ?_ (by show(_&&true)=true;rw[BU hu];rfl)
 apply aB
 ·(walk_at "evs")
 refine cz (fun i ρ s=>∃o4 o5 o6:Option W,ρ=[iO L,iO R,lO m,lO st.length,o4,o5,o6]/\st <+: s/\s[st.length]?=some (.lst (((bM 0 L).take i).map (Pu E R))))
  (c9 (q:=(L:Int)) (st1:=st++[aj.lst []]) kn (by omega)) ⟨none,none,none,rfl,ao _ _,by rw[bg];rfl⟩ (fun _ _ _ _=>trivial) ?_ ?_
 ·rintro i w ρ s hw ⟨o4,o5,o6,rfl,hp,fA⟩
  rw[aO]at hw
  have hwm:w∈bM 0 L:=am hw
  have hi:i<L:=by have:=(aa.mp hw).1;rw[bB]at this;exact this
  refine⟨_,rfl,?_⟩
  apply aB
  ·(walk_at "evs")
  refine cz (fun j ρ z=>∃o6:Option W,ρ=[iO L,iO R,lO m,lO st.length,some w,lO s.length,o6]/\s <+: z/\z[s.length]?=some (.lst (((bM 0 R).take j).map (OF E R w))))
   (c9 (q:=(R:Int)) (st1:=s++[aj.lst []]) kn (by omega)) ⟨_,rfl,ao _ _,by rw[bg];rfl⟩ (fun _ _ _ _=>trivial) ?_ ?_
  ·rintro j v ρ z hv ⟨o6,rfl,hz,hcz⟩
   rw[aO]at hv
   have hvm:v∈bM 0 R:=am hv
   have hj:j<R:=by have:=(aa.mp hv).1;rw[bB]at this;exact this
   refine⟨_,rfl,?_⟩
   have hmz:z[m]?=some (.pin false f o w0):=pre_get (hp.trans hz) hm
   have ec:=gu (cap:=[none,some 2,some 4,some 6]) (fi:=be (ag (ae 1) az)) (f:=eB 0) (el:=pb 1 3 cJ dh (ag (ae 2) (ag (ae 3) (ag (ae 0) az)))) (ρ:=[iO L,iO R,lO m,lO st.length,some w,lO s.length,some v]) (st:=z) (st1:=z)
    (ws:=bM 0 (R:Int).toNat) (ck:=none) (E w v) (c9 (q:=(R:Int)) kn (by omega)) (by rw[bB,aO];show R<=1000000;omega) trivial fun r hr=>by
     rw[aO]at hr
     exact⟨_,rfl,Jr (m:=m) rfl hmz (aq kv (aq kv kn)) rfl (hc z (hp.trans hz) w hwm v hvm r hr)⟩
   rw[aO]at ec
   have et:a_ cX (ag (c_ [none,some 2,some 4,some 6] (be (ag (ae 1) az)) (eB 0) gR (pb 1 3 cJ dh (ag (ae 2) (ag (ae 3) (ag (ae 0) az))))) az) [iO L,iO R,lO m,lO st.length,some w,lO s.length,some v] z=.ok (OF E R w v) (z++[.lst ((bM 0 R).map (E w v))]):=
    bb (aq ec bc) (fB (aK bg))
   have ap:=ml (y:=OF E R w v) (pre_get (s:=z++[.lst ((bM 0 R).map (E w v))]) (ao _ _) hcz) (by rw[ai,a8];omega)
   apply cY
   ·exact eW (jz kv (df hcz) (aq et bc) ap)
   ·refine⟨_,_,rfl,_,rfl,gT (mj hz) (aw _),?_⟩
    rw[jh (pre_get (ao _ _) hcz),vj hv,cv];rfl
  ·rintro ρ z ⟨o6,rfl,hz,hcz⟩
   rw[aO,bB,dM (by rw[bB];exact aw _)]at hcz
   have hcp:=pre_get hz fA
   have ap:=ml (y:=Pu E R w) hcp (by rw[ai,a8];omega)
   apply cY
   ·exact eW (jz kv (df hcp) (aq (bb kn (fB (aK hcz))) bc) ap)
   ·refine⟨_,_,rfl,_,_,_,rfl,gT (hp.trans hz) (aw _),?_⟩
    rw[jh hcp,vj hw,cv];rfl
 ·rintro ρ s ⟨o4,o5,o6,rfl,hp,fA⟩
  rw[aO,bB,dM (by rw[bB];exact aw _)]at fA
  obtain⟨x,rfl⟩:=hp
  apply cU
  ·exact bb kn (fB (aK fA))
  ·exact⟨_,_,rfl,rfl,_,rfl⟩
def US:W->W
 |.tup (x::_)=>x
 |w=>w
abbrev Se:aj:=.tab 59 ⟨54,29,54,52⟩ "firsts_of.<locals>.<lambda>"
abbrev OG:aj:=.tab 80 ⟨80,4,81,68⟩ "least_of.<locals>.lead"
def lr(B:Nat->Nat)(rs:List Nat):W:=.tup (rs.map fun a=>W.tup [.int (a:Nat),.int (B a:Nat)])
structure pq(M:Mc)(N:Nat)(E:List Ro)(B h:Nat->Nat)(m:Nat)(rs:List Nat):Prop where
 full:Uj (bt M) M.tb.length N E
 rm:Rm M N (E.map Prod.fst)
 last:tK M (E.map Prod.fst) B
 can:qX (E.map Prod.fst) B m h
 perm:rs.Perm (E.map Prod.fst)
 up:rs.Pairwise (· < ·)
def ur(M:Mc)(E:List Ro)(B h:Nat->Nat)(m:Nat)(rs:List Nat):W:=.tup [(wU M (E.map Prod.fst) B h m).w,lr B rs]
theorem Dh{ok:Obj->Prop}{a b:List aj}{l:List iZ}{w0 v:W}(hm:(a++(hG l++b))[m]?=some (.pin false f o w0))(ho:ok o)(hc:(lI o).map (·.2)=l.map fun x=>x.2.1)(nd:(l.map fun x=>x.2.1).Nodup)(hn:fz a)
  (hF:∀s,F (ws++l.map fun x=>x.2.2.2) (a++s)=.ok v (a++s)):sV ok F m ws (a++(hG l++b))=.ok v (a++(hG l++b)):=by
 have e1:((lI o).map fun y=>((a++(hG l++b)).findIdx? (mS y.2)).getD 0)=List.range' a.length l.length:=by
  rw[<- u9 l a b (fun d hd x _=>hn d hd _) nd]
  have:∀(g:Addr->Nat),(lI o).map (fun y=>g y.2)=l.map fun x=>g x.2.1:=fun g=>by
   have:=dJ (List.map g) hc
   rw[aT,aT]at this;exact this
  exact this fun c=>((a++(hG l++b)).findIdx? (mS c)).getD 0
 unfold sV
 rw[hm]
 simp only
 rw[ay ho,e1,pd]
 simp only
 have e2:((qV a.length l).map fun x=>x.2.1)=l.map fun x=>x.2.1:=nX (fun y=>y.1) _ _
 have e3:((qV a.length l).map fun x=>x.2.2.2)=l.map fun x=>x.2.2.2:=nX (fun y=>y.2.2) _ _
 rw[ay (by rw[e2,hc]),e3,hF]
 simp only[u8]
def Eb(M:Mc)(F:List Nat)(B h:Nat->Nat):W->W->W->W
 |.int x,.int l,.int r=>.int (B (bt M x.toNat (pj F h l.toNat) (pj F h r.toNat)):Nat)
 |_,_,_=>.non
theorem GX(M:Mc)(F:List Nat)(B h:Nat->Nat)(x l r:W)(n:Nat):(Eb M F B h x l r).und n=true:=by
 unfold Eb
 split<;>rfl
theorem wC{f:W->W}{g:Nat->W}(h:∀i:Nat,f (.int (i:Int))=g i):(bM 0 n).map f=(List.range n).map g:=by
 unfold bM
 rw[aT]
 refine bq fun i _=>?_
 show f (.int (0+(i:Int)))=_
 rw[eX];exact h i
theorem OH(M:Mc)(F:List Nat)(B h:Nat->Nat)(m:Nat):GV (Eb M F B h) M.tb.length m=.tup ((wU M F B h m).tb.map dH):=by
 unfold GV wU
 simp only[aT]
 congr 1
 refine wC fun a=>?_
 show Pu _ _ _=dH _
 unfold Pu dH
 congr 1
 rw[aT]
 refine wC fun l=>?_
 show OF _ _ _ _=g7 _
 unfold OF g7
 congr 1
 rw[aT]
 exact wC fun r=>rfl
theorem JS(B:Nat->Nat)(rs:List Nat)(n:Nat):(lr B rs).und n=true:=by
 unfold lr W.und
 exact wB fun w hw=>by obtain⟨a,_,rfl⟩:=al.mp hw;rfl
theorem JT(M:Mc)(E:List Ro)(B h:Nat->Nat)(m:Nat)(rs:List Nat)(n:Nat):undWs n [ur M E B h m rs]=true:=by
 unfold ur
 simp only[undWs,W.und,ph,JS,b8]
theorem Aj{w:W}(h:w∈bM 0 n):∃i:Nat,i<n/\w=.int (i:Int):=by
 obtain⟨i,hi⟩:=aZ h
 obtain⟨h1,rfl⟩:=eZ hi
 exact⟨i,h1,by rw[eX]⟩
def Pv:W->Nat
 |.int z=>z.toNat
 |_=>0
theorem GY{M:Mc}{st:List aj}(hM:n9 M N)(PJ:1<=N)(hN:N<=50)(hsz:M.tb.length*(2*N)<=10000)(hL:M.tb.length<=64)(OP:fz st)(ht:st[1]?=some Se)(DD:st[2]?=some OG) :
  ∃E B h m rs,pq M N E B h m rs/\vd [M.w] st=.ok (ur M E B h m rs) st:=by
 obtain⟨E,R,t,hR,cov,ef⟩:=De hM PJ (by omega) ht
 obtain⟨rs,hsrt,hperm,hup⟩:=LA t.nd
 have hrs:=LB t cov hperm hup
 have hlE:=t.len
 obtain⟨F,hF⟩:∃F,F=E.map Prod.fst:=⟨_,rfl⟩
 have hFl:F.length=E.length:=by rw[hF,ai]
 have hmem:∀{a},a∈F↔a∈rs:=fun{a}=>by rw[hF];exact hperm.mem_iff.symm
 have hRm:Rm M N F:=⟨hM,fun a ha=>hrs.lt a (hmem.mp ha),by rw[hF];exact t.nd,by omega,bu (Nat.mul_le_mul_left _ (by omega)) hsz,fun k hk a ha b hb=>hmem.mpr (hrs.cl k hk a (hmem.mp ha) b (hmem.mp hb))⟩
 have hRE:R.map US=cC F:=by
  rw[hF]
  refine kU fun i=>?_
  rw[ak,ak,ak]
  cases he:E[i]? with
  |none=>
   rw[gq (by rw[hR.len];exact List.getElem?_eq_none_iff.mp he)];rfl
  |some e=>
   obtain⟨w,hw,tQ⟩:=hR.at' i e he
   obtain⟨tt,rfl⟩:=tQ.sh
   rw[hw];rfl
 have ec:=gu (cap:=[none]) (fi:=cx (c8 1 C8 (ag (ae 0) az))) (f:=eB 0) (el:=e2 bp (ae 0) (eI 0)) (ρ:=[M.w].map some++List.replicate (7-1) none) (st:=st) (st1:=st) US (ii (cI kn ef rfl)) (by rw[hR.len];show _<=1000000;omega) trivial fun w hw=>by
  obtain⟨i,hi⟩:=aZ hw
  have hiE:i<E.length:=by rw[<- hR.len];exact(aa.mp hi).1
  obtain⟨w',hw',tQ⟩:=hR.at' i _ (ac hiE)
  rw[hi]at hw';cases hw'
  obtain⟨tt,rfl⟩:=tQ.sh
  exact⟨_,rfl,bd kv bZ ox⟩
 rw[hRE]at ec
 have c1:(st++[aj.lst (cC F)])[st.length]?=some (.lst (cC F)):=bg
 obtain⟨B,j,x,hLB,npx,hxj,el⟩:=JP hRm c1
 obtain⟨m,h,c⟩:=hLB.can
 have hml:=c.len (by omega)
 refine⟨E,B,h,m,rs,⟨⟨t,cov⟩,hF▸hRm,hF▸hLB,hF▸c,hperm,hup⟩,?_⟩
 unfold ur
 rw[<- hF]
 have hund:∀n,undWs n [W.tup [(wU M F B h m).w,lr B rs]]=true:=fun n=>by have:=JT M E B h m rs n;unfold ur at this;rw[<- hF]at this;exact this
 refine iL (N:=7) (ws:=[M.w]) (body:=La) ?_ (hund _)
 refine aB (BI ec rfl) ?_
 generalize hS1:st++[aj.lst (cC F)]=S1 at c1 el
 have np1:fz S1:=by rw[<- hS1];exact i7 OP (wT (fun _=>rfl) y0)
 refine aB (bQ (cI (aq kv kn) el rfl)) ?_
 have c2:(S1++x)[S1.length+j]?=some (.dct (iw B F)):=by rw[de];exact hxj
 have e3:=GT c hRm.nd (by omega) (aM c1) c2
 refine aB (bQ (cI (aq kv kn) e3 rfl)) ?_
 have hd3:(S1++x++[aj.lst (cC (qI F h m))])[(S1++x).length]?=some (.lst (cC (qI F h m))):=bg
 have hhl:(qI F h m).length=m:=by simp[qI]
 have hhm:∀a∈qI F h m,a∈F:=fun a ha=>by
  obtain⟨k,hk,rfl⟩:=al.mp ha
  exact(c.at' (bj.mp hk)).2.1
 have ec4:=gu (cap:=[none,some 0]) (fi:=cx (ae 3)) (f:=eB 0) (el:=e2 bp (e2 bp (ae 1) (eI 1)) (ae 0)) (ρ:=[some M.w,lO st.length,lO (S1.length+j),some (.loc (S1++x).length),none,none,none]) (st:=S1++x++[aj.lst (cC (qI F h m))]) (st1:=S1++x++[aj.lst (cC (qI F h m))]) (fun w=>.bl (gM M (Pv w))) (fq kv (aK hd3)) (by rw[ai,hhl];show _<=1000000;omega) (aK hd3) fun w hw=>by
  obtain⟨a,ha,rfl⟩:=al.mp hw
  have hlt:a<M.gd.length:=by rw[hM.gd];exact hRm.lt a (hhm a ha)
  exact⟨_,rfl,bd kx kv (hJ (dg (by
   rw[ak,ac hlt]
   show some (W.bl M.gd[a])=some (W.bl (gM M ((a:Nat):Int).toNat))
   rw[aO];unfold gM;rw[aE,ac hlt];rfl)))⟩
 have eg:(cC (qI F h m)).map (fun w=>W.bl (gM M (Pv w)))=(wU M F B h m).gd.map W.bl:=by
  unfold cC qI wU
  simp only[aT]
  refine bq fun k _=>?_
  show W.bl (gM M (((pj F h k:Nat):Int).toNat))=W.bl (gM M (pj F h k))
  rw[aO]
 rw[eg]at ec4
 refine aB (bQ (bb (aq ec4 bc) (fB (aK bg)))) ?_
 obtain⟨S4,hS4⟩:∃S4:List aj,S1++x++[aj.lst (cC (qI F h m))]++[aj.lst ((wU M F B h m).gd.map W.bl)]=S4:=⟨_,rfl⟩
 rw[hS4]
 have c4:∀{i:Nat} {d:aj},S1[i]?=some d->S4[i]?=some d:=fun e=>by rw[<- hS4];exact aM (aM (aM e))
 have hd4:S4[(S1++x).length]?=some (.lst (cC (qI F h m))):=by rw[<- hS4];exact aM hd3
 have bk4:S4[S1.length+j]?=some (.dct (iw B F)):=by rw[<- hS4];exact aM (aM c2)
 have np4:fz S4:=by rw[<- hS4];exact i7 (i7 (i7 np1 npx) (wT (fun _=>rfl) y0)) (wT (fun _=>rfl) y0)
 obtain⟨y4,hy4⟩:∃y,S4=st++y:=⟨_,by rw[<- hS4,<- hS1,av,av,av]⟩
 have hr4:=c4 c1
 have ht4:=c4 (i:=2) (d:=OG) (by rw[<- hS1];exact aM DD)
 generalize hp:(S1++x).length=p at hd4
 generalize hq:S1.length+j=q at bk4
 refine cY (Fe (w:=W.tup [(wU M F B h m).w,lr B rs]) (show qS S4 2 80 ⟨80,4,81,68⟩ "least_of.<locals>.lead" from ht4) (hund _) fun f o ok=>⟨[.pin false f o .non]++[.lst (cC rs)]++[.lst (rs.map fun a=>W.tup [.int (a:Nat),.int (B a:Nat)])],?_⟩) ⟨_,_,rfl,rfl,y4,hy4⟩
 obtain⟨cl,iM,pm,cd,ct,hx,kE,rfl⟩:=ok
 generalize ho:fnMade "lead" "least_of.<locals>.lead" (dS dY) (dU dY) (aR dY) cl iM pm cd ct=o
 have hok:cJ o:=⟨cl,iM,pm,cd,ct,hx,kE,ho.symm⟩
 have hclo:lI o=cl:=by rw[<- ho];rfl
 have jc:cl.length=3:=by have:=dJ List.length hx;rw[ai]at this;exact this
 have C9:=BS (st:=S4++[.pin false f o .non]) (n:=st.length) (l:=F) (rs:=rs) (aM hr4) (by omega) (by rw[hF];exact hsrt)
 have cs:(S4++[.pin false f o .non]++[aj.lst (cC rs)])[(S4++[aj.pin false f o .non]).length]?=some (.lst (cC rs)):=bg
 have hrl:rs.length=E.length:=by rw[hperm.length_eq,ai]
 have ec6:=gu (cap:=[none,some 2]) (fi:=cx (a_ nD (ag (ae 1) az))) (f:=eB 0) (el:=f7 (ag (ae 0) (ag (e2 gS (ae 1) (ae 0)) az))) (ρ:=[some M.w,lO st.length,lO q,lO p,some (.tup ((wU M F B h m).gd.map W.bl)),lO S4.length,none]) (st:=S4++[.pin false f o .non]) (st1:=S4++[.pin false f o .non]++[aj.lst (cC rs)]) (fun w=>W.tup [w,.int (B (Pv w):Nat)]) (fq (bb kn C9) (aK cs)) (by rw[ai];show _<=1000000;omega) (aK cs) fun w hw=>by
  obtain⟨a,ha,rfl⟩:=al.mp hw
  have ix:gS (.loc q) (.int (a:Nat)) (S4++[.pin false f o .non]++[aj.lst (cC rs)])=.ok (.int (B a:Nat)) (S4++[.pin false f o .non]++[aj.lst (cC rs)]):=oE (fM (aM (aM bk4))) (jY (V:=fun a=>W.int (B a:Nat)) hRm.nd (hmem.mpr ha))
  refine⟨_,rfl,?_⟩
  show _=L2.R.ok (W.tup [.int (a:Nat),.int (B ((a:Nat):Int).toNat:Nat)]) _
  rw[aO]
  exact iE (aq kv (aq (bd kv kv ix) bc)) (by show 2<=1000000;decide)
 have eq6:(cC rs).map (fun w=>W.tup [w,.int (B (Pv w):Nat)])=rs.map fun a=>W.tup [.int (a:Nat),.int (B a:Nat)]:=by
  unfold cC
  rw[aT]
  refine bq fun a _=>?_
  show W.tup [.int (a:Nat),.int (B ((a:Nat):Int).toNat:Nat)]=_
  rw[aO]
 rw[eq6]at ec6
 refine(zW (bQ (bb (aq ec6 bc) (fB (aK bg))))).trans ?_
 obtain⟨S6,hS6⟩:∃S6:List aj,S4++[aj.pin false f o .non]++[aj.lst (cC rs)]++[aj.lst (rs.map fun a=>W.tup [.int (a:Nat),.int (B a:Nat)])]=S6:=⟨_,rfl⟩
 have hm6:S6[S4.length]?=some (.pin false f o .non):=by rw[<- hS6];exact aM (aM bg)
 have hd6:S6[p]?=some (.lst (cC (qI F h m))):=by rw[<- hS6];exact aM (aM (aM hd4))
 have bk6:S6[q]?=some (.dct (iw B F)):=by rw[<- hS6];exact aM (aM (aM bk4))
 have np6:fz S6:=by rw[<- hS6];exact i7 (i7 (i7 np4 (wT (fun _=>rfl) y0)) (wT (fun _=>rfl) y0)) (wT (fun _=>rfl) y0)
 rw[<- av,<- av,hS6]
 have Tj:cS [.tup (M.tb.map dH)] S6=.ok (.int (M.tb.length:Nat)) S6:=by rw[jV,ai]
 have Tk:cS [.loc p] S6=.ok (.int (m:Nat)) S6:=by rw[gP (aK hd6)];simp[qI]
 refine nE ?_
 have e7:u6 3 Gd o [0,3,2] (ag (a_ cS (ag (e2 bp (ae 0) (eI 2)) az)) (ag (a_ cS (ag (ae 3) az)) (ag (ae 5) az))) [some M.w,lO st.length,lO q,lO p,some (.tup ((wU M F B h m).gd.map W.bl)),lO S4.length,some (lr B rs)] S6=.ok (.tup ((wU M F B h m).tb.map dH)) S6:=by
  rw[<- OH]
  refine NK (ws:=[.int (M.tb.length:Nat),.int (m:Nat),.loc S4.length]) (cws:=[M.w,.loc p,.loc q]) (aq (bb (aq kx bc) Tj) (aq (bb kn Tk) kn)) rfl rfl ?_
  refine Jq (by rw[hclo,jc];rfl) (by show(_&&true)=true;rw[BU fun x l r=>GX _ _ _ _ x l r _];rfl) fun os hos=>?_
  rw[hclo]at hos ⊢
  have hz1:=NH (C:=cl) (os:=os) (cws:=[M.w,.loc p,.loc q]) hos (by rw[jc];rfl)
  have hz2:=NI (C:=cl) (os:=os) (cws:=[M.w,.loc p,.loc q]) hos (by rw[jc];rfl)
  generalize lJ cl os [M.w,.loc p,.loc q]=Lz at hz1 hz2
  have hmz:∀y,(S6++(hG Lz++y))[S4.length]?=some (.pin false f o .non):=fun y=>aM hm6
  refine GW (E:=Eb M F B h) hL (by omega) (hmz _) (fun x l r=>GX _ _ _ _ x l r _) fun s hs x t5 l hl' r hr'=>?_
  obtain⟨y,rfl⟩:=hs
  rw[bU,av]
  obtain⟨xi,hxi,rfl⟩:=Aj t5
  obtain⟨li,hli,rfl⟩:=Aj hl'
  obtain⟨ri,hri,rfl⟩:=Aj hr'
  refine Dh (hmz y) hok (by rw[hclo,hz1]) (by rw[hz1];exact kE) np6 fun s=>?_
  rw[hz2]
  exact JR hRm c (aM hd6) (aM bk6) hxi hli hri
 exact iE (aq (iE (aq kx (aq kv (aq e7 bc))) (by show 3<=1000000;decide)) kn) (by show 2<=1000000;decide)
theorem OI(g:FS)(ρ:cu)(st:List aj):aS g b_ ρ st=g ρ st:=by
 unfold aS
 cases g ρ st<;>rfl
theorem qg{f:FG}{body:FS}{k:zz}{st:List aj}{Q:RS->Prop}(I:Nat->cu->List aj->Prop)(h:fi ρ st=.ok k st1)(h0:I 0 ρ st1)(hc:∀i ρ st,I i ρ st->iB st k.2)
  (hs:∀i w ρ st,k.1[i]?=some w->I i ρ st->∃ρ',f w ρ=some ρ'/\gG (HD (I (i+1))) (body ρ' st)) (he:∀ρ st,I k.1.length ρ st->Q (.nx ρ st)):gG Q (eS fi f body ρ st):=by
 rw[<- OI (eS fi f body)]
 exact cz (rest:=b_) I h h0 hc hs fun ρ st hI=>cY (r':=.nx ρ st) sZ (he ρ st hI)
theorem JU{M:Mc}(hM:n9 M n)(hn:1<=n)(Vq:n<=1000)(hl:M.nm.length<=20)(st:List aj):Bz [M.w,.str M.nm] st=.ok (.bl true) st:=by
 have g0:bp M.w (.int 0) st=.ok (.str M.nm) st:=rfl
 have g1:bp M.w (.int 1) st=.ok (.tup (M.gd.map W.bl)) st:=rfl
 have g2:bp M.w (.int 2) st=.ok (.tup (M.tb.map dH)) st:=rfl
 have ln:cS [.tup (M.gd.map W.bl)] st=.ok (.int (n:Nat)) st:=by rw[jV,ai,hM.gd]
 have tl:cS [.tup (M.tb.map dH)] st=.ok (.int ((2^M.nm.length:Nat):Int)) st:=by rw[jV,ai,hM.tb]
 have lu:uf (.str M.nm) (.str M.nm) st=.ok (.bl false) st:=by
  show R.ok (W.bl (!(M.nm==M.nm))) st=_
  rw[cH];rfl
 have n0:((n:Int)==0)=false:=by rw[aX];omega
 have nn:(!((n:Int)==(n:Int)))=false:=by rw[cH];rfl
 refine iL (N:=7) (ws:=[M.w,.str M.nm]) (body:=Ln) ?_ rfl
 refine bC (eE (i5 (bO (jT kv rfl rfl)) rfl) (bO (bd (bb kn (w:=.int 3) rfl) bZ (pX rfl)))) (bR ?_)
 refine bC (eE (i5 (bO (jT (bd kv bZ g0) rfl rfl)) rfl) (bO (bd (bd kv bZ g0) kv lu))) (bR ?_)
 refine aB (bQ (bd kv bZ g1)) ?_
 refine bC (eE (i5 (bO (jT kv rfl rfl)) rfl) (eE (bO (bd (bb kn ln) bZ (gF n0))) (i5 (bO (jT (bd kv bZ g2) rfl rfl)) rfl))) (bR ?_)
 refine cz (fun i ρ s=>∃o3,ρ=[some M.w,some (.str M.nm),some (.tup (M.gd.map W.bl)),o3,none,none,none]/\s=st) (ii kv) ⟨none,rfl,rfl⟩ (fun _ _ _ _=>trivial) ?_ ?_
 ·rintro i w ρ s hw ⟨o3,rfl,rfl⟩
  obtain⟨b,_,rfl⟩:=al.mp (am hw)
  exact⟨_,rfl,hU (i5 (bO (jT kv rfl rfl)) rfl) ⟨_,_,rfl,_,rfl,rfl⟩⟩
 rintro ρ s ⟨o3,rfl,rfl⟩
 refine bC (bO (bd (bb (aq (bd kv bZ g2) bc) tl) (bd bZ (bb kn (s_ (by show _<=1000000;omega))) (xC (by omega))) (pX (k:=false) (by rw[cH];rfl)))) (bR ?_)
 refine cz (fun i ρ s'=>∃o4 o5 o6,ρ=[some M.w,some (.str M.nm),some (.tup (M.gd.map W.bl)),o3,o4,o5,o6]/\s'=s) (ii (bd kv bZ g2)) ⟨none,none,none,rfl,rfl⟩ (fun _ _ _ _=>trivial) ?_ ?_
 ·rintro i w ρ s' hw ⟨o4,o5,o6,rfl,rfl⟩
  obtain⟨t,ht,rfl⟩:=al.mp (am hw)
  obtain⟨t1,t2⟩:=hM.t t ht
  have tn:cS [dH t] s'=.ok (.int (n:Nat)) s':=by unfold dH;rw[jV,ai,t1]
  refine⟨_,rfl,bC (eE (i5 (bO (jT kv rfl rfl)) rfl) (bO (bd (bb kn tn) (bb kn ln) (pX nn)))) (bR ?_)⟩
  refine qg (fun i ρ s=>∃o5 o6,ρ=[some M.w,some (.str M.nm),some (.tup (M.gd.map W.bl)),o3,some (dH t),o5,o6]/\s=s') (ii (ws:=t.map g7) kv) ⟨_,_,rfl,rfl⟩ (fun _ _ _ _=>trivial) ?_ ?_
  ·rintro i w ρ s hw ⟨o5,o6,rfl,rfl⟩
   obtain⟨r,hr,rfl⟩:=al.mp (am hw)
   obtain⟨r1,r2⟩:=t2 r hr
   have rn:cS [g7 r] s=.ok (.int (n:Nat)) s:=by unfold g7;rw[jV,ai,r1]
   refine⟨_,rfl,bC (eE (i5 (bO (jT kv rfl rfl)) rfl) (bO (bd (bb kn rn) (bb kn ln) (pX nn)))) (bR ?_)⟩
   refine qg (fun i ρ s'=>∃o6,ρ=[some M.w,some (.str M.nm),some (.tup (M.gd.map W.bl)),o3,some (dH t),some (g7 r),o6]/\s'=s) (ii (ws:=r.map fun k=>W.int (k:Nat)) kv) ⟨_,rfl,rfl⟩ (fun _ _ _ _=>trivial) ?_ ?_
   ·rintro i w ρ s' hw ⟨o6,rfl,rfl⟩
    obtain⟨v,hv,rfl⟩:=al.mp (am hw)
    have hv':=r2 v hv
    have c1:decide ((v:Int)<0)=false:=aV (by omega)
    have c2:decide ((n:Int)<=(v:Int))=false:=aV (by omega)
    have Ds:II (.int ((v:Nat):Int)) (.int ((n:Nat):Int)) s'=.ok (.bl false) s':=E8 c2
    exact⟨_,rfl,hU (eE (i5 (bO (jT kv rfl rfl)) rfl) (eE (bO (jT kv rfl rfl)) (eE (bO (bd kv bZ (iF c1))) (bO (bd kv (bb kn ln) Ds))))) ⟨_,_,rfl,_,rfl,rfl⟩⟩
   ·rintro ρ s' ⟨o6,rfl,rfl⟩
    exact⟨_,_,rfl,_,_,rfl,rfl⟩
  ·rintro ρ s ⟨o5,o6,rfl,rfl⟩
   exact⟨_,_,rfl,_,_,_,rfl,rfl⟩
 ·rintro ρ s' ⟨o4,o5,o6,rfl,rfl⟩
  exact cU bZ ⟨_,_,rfl,rfl,[],by simp⟩
section
variable{T':Nat->Nat->Nat->Nat}{g g':Nat->Bool}{E:List Ro}
end
section
variable{M:Mc}{E:List Ro}{h:Nat->Nat}
abbrev mB(M:Mc)(E:List Ro)(B h:Nat->Nat)(m:Nat):Mc:=wU M (E.map Prod.fst) B h m
theorem GZ:(mB M E B h m).tb.length=M.tb.length:=by simp[wU]
theorem pq.m_le(l:pq M N E B h m rs):m<=N/\1<=m:=by
 have h1:=l.rm.len
 have h2:=l.can.len (by omega)
 have h3:=l.full.told.len
 rw[ai]at h2
 have h4:=l.full.told.len0
 obtain⟨r,e⟩:=l.full.told.zero
 have:=(l.can.fst 0 0 (by rw[e];rfl)).1
 omega
theorem pq.okB(l:pq M N E B h m rs):n9 (mB M E B h m) m:=OD l.rm l.can
theorem pq.gB(l:pq M N E B h m rs)(hj:j<m):gM (mB M E B h m) j=gM M (pj (E.map Prod.fst) h j):=by
 show((List.range m).map fun j=>gM M (pj (E.map Prod.fst) h j)).getD j false=_
 rw[aE,ak,dO hj];rfl
end
theorem G0(z:Nat):∀l:List Nat,oU (.int (z:Nat)) (cC l)=some (decide (z∈l))
 |[]=>rfl
 |a::l=>by
  have ih:=G0 z l
  by_cases h:a=z
  ·subst h
   simp[oU,jf,ih]
  ·have h2:¬ z=a:=fun e=>h e.symm
   have h3:¬ ((a:Int)=(z:Int)):=by omega
   simp[oU,jf,ih,h2,h3]
theorem G3:∀l:List Nat,depWs (cC l)<=63
 |[]=>by decide
 |a::l=>by
  have:=G3 l
  simp only[cC,aG,depWs,W.dep]at this ⊢
  omega
theorem Sf{S:List aj}{z:Nat}(h:S[n]?=some (.lst (cC l))):uN true (.int (z:Nat)) (.loc n) S=.ok (.bl (!decide (z∈l))) S:=by
 unfold uN
 simp only[h,G0,G3,fx]
theorem Ak{l':List Nat}{a:Nat}(h:l <+: l')(e:l[i]?=some a):l'[i]?=some a:=by
 obtain⟨t,rfl⟩:=h
 rw[au (aa.mp e).1];exact e
structure Mt(M:Mc)(N:Nat)(mt:List Nat):Prop where
 zero:∃r,mt=0::r
 nd:mt.Nodup
 lt:∀a∈mt,a<N
 least:∀C:Nat->Prop,C 0->(∀k,k<M.tb.length->∀a b,C a->C b->C (bt M k a b))->∀a∈mt,C a
theorem Mt.len{M:Mc}(h:Mt M N mt):mt.length<=N:=by
 have:=lh h.nd (l:=List.range N) fun c hc=>bj.mpr (h.lt c hc)
 rwa[cP]at this
def ut(mt:List Nat)(z:Nat):List Nat:=if z∈mt then mt else mt++[z]
theorem nH(mt:List Nat)(z:Nat):mt <+: ut mt z:=by unfold ut;split;exact af _;exact ao _ _
theorem yH(mt:List Nat)(z:Nat):z∈ut mt z:=by
 unfold ut;split
 ·assumption
 ·simp
theorem Mt.ext{M:Mc}(h:Mt M N mt){k a b:Nat}(hk:k<M.tb.length)(ha:a∈mt)(hb:b∈mt)(hN:bt M k a b<N):Mt M N (ut mt (bt M k a b)):=by
 unfold ut
 split
 ·exact h
 ·rename_i hn
  obtain⟨r,hr⟩:=h.zero
  refine⟨⟨r++[bt M k a b],by rw[hr];rfl⟩,?_,fun c hc=>?_,fun C c0 cc c hc=>?_⟩
  ·rw[cR]
   exact⟨h.nd,by simp,fun x hx y hy z=>by simp at hy;subst hy;subst z;exact hn hx⟩
  ·rcases aN.mp hc with z|z
   ·exact h.lt c z
   ·simp at z;subst z;exact hN
  ·rcases aN.mp hc with z|z
   ·exact h.least C c0 cc c z
   ·simp at z;subst z;exact cc k hk a b (h.least C c0 cc a ha) (h.least C c0 cc b hb)
section
variable{M:Mc}{st:List aj}
abbrev UT:FS:=(eS (cx (f7 (ag (e2 bp (e2 bp (ae 4) (e2 bp (ae 1) (ae 2))) (ae 3)) (ag (e2 bp (e2 bp (ae 4) (ae 3)) (e2 bp (ae 1) (ae 2))) az)))) (eB 5) (gY (eV (e2 (uN true) (ae 5) (ae 1))) (eR (n5 cy (ae 1) (ag (ae 5) az))) b_))
abbrev U_:FS:=(eS (cx (e2 bp (ae 0) (eI 2))) (eB 4) UT)
theorem Sg(hM:n9 M N)(hN:N<=1000){x:List aj}(hm:Mt M N mt){k c o:Nat}(ht:M.tb[k]?=some t)(hc:mt[q]?=some c)(ho:o∈mt)(o5:Option W) :
  gG (HD fun ρ S=>∃mt' o5,mt <+: mt'/\Mt M N mt'/\bt M k c o∈mt'/\bt M k o c∈mt'/\ρ=[some M.w,lO st.length,iO (q:Nat),iO (o:Nat),some (dH t),o5]/\S=st++.lst (cC mt')::x)
   (UT [some M.w,lO st.length,iO (q:Nat),iO (o:Nat),some (dH t),o5] (st++.lst (cC mt)::x)):=by
 have hk:k<M.tb.length:=(aa.mp ht).1
 have hcm:c∈mt:=am hc
 obtain⟨r1,a1,a2,a3⟩:=oF hM ht (hm.lt c hcm) (hm.lt o ho)
 obtain⟨r2,b1,b2,b3⟩:=oF hM ht (hm.lt o ho) (hm.lt c hcm)
 have cm:(st++.lst (cC mt)::x)[st.length]?=some (.lst (cC mt)):=by rw[ca];rfl
 have ic:bp (.loc st.length) (.int (q:Nat)) (st++.lst (cC mt)::x)=.ok (.int (c:Nat)) (st++.lst (cC mt)::x):=jU (aK cm) (dg (by rw[ak,hc];rfl))
 have one:∀{m1:List Nat} {z:Nat} (o5:Option W),m1.length<=1000->(gY (eV (e2 (uN true) (ae 5) (ae 1))) (eR (n5 cy (ae 1) (ag (ae 5) az))) b_) [some M.w,lO st.length,iO (q:Nat),iO (o:Nat),some (dH t),iO (z:Nat)] (st++.lst (cC m1)::x)=.nx [some M.w,lO st.length,iO (q:Nat),iO (o:Nat),some (dH t),iO (z:Nat)] (st++.lst (cC (ut m1 z))::x):=fun{m1 z} _ hl=>by
  have c1:(st++.lst (cC m1)::x)[st.length]?=some (.lst (cC m1)):=by rw[ca];rfl
  have tsx:=bO (bd (f:=uN true) (fa:=ae 5) (fb:=ae 1) (ρ:=[some M.w,lO st.length,iO (q:Nat),iO (o:Nat),some (dH t),iO (z:Nat)]) kv kv (Sf (z:=z) c1))
  unfold ut
  by_cases h:z∈m1
  ·rw[bn h]at tsx
   rw[ay h]
   exact sY tsx sZ
  ·rw[aV h]at tsx
   rw[aC h]
   refine sX tsx ?_
   rw[eW (jz (F:=cy) (ig (i:=1) rfl) (df c1) (aq (fa:=ae 5) kv bc) (oD c1 (by rw[ai];show _<1000000;omega))),dN]
   simp[cC]
 have e1:=hm.len
 have m1:=hm.ext hk hcm ho a3
 have e2':=m1.len
 have m2:=m1.ext hk ((nH _ _).subset ho) ((nH _ _).subset hcm) b3
 refine p9 (k:=([W.int (bt M k c o:Nat),W.int (bt M k o c:Nat)],none)) (fun j ρ S=>∃o5,ρ=[some M.w,lO st.length,iO (q:Nat),iO (o:Nat),some (dH t),o5]/\S=st++.lst (cC (([bt M k c o,bt M k o c].take j).foldl ut mt))::x) (ii (iE (aq (bd (bd kv (bd kv kv ic) (p_ a1)) kv (qc a2)) (aq (bd (bd kv kv (p_ b1)) (bd kv kv ic) (qc b2)) bc)) (by show 2<=1000000;decide))) ⟨o5,rfl,rfl⟩ (fun _ _ _ _=>trivial) ?_ ?_
 ·rintro j w ρ S hw ⟨o5,rfl,rfl⟩
  refine⟨_,rfl,?_⟩
  match j,hw with
  |0,hw=>
   cases hw
   exact⟨_,_,one (m1:=mt) none (by omega),_,rfl,rfl⟩
  |1,hw=>
   cases hw
   exact⟨_,_,one (m1:=ut mt (bt M k c o)) none (by omega),_,rfl,rfl⟩
 ·rintro ρ S ⟨o5,rfl,rfl⟩
  exact⟨_,_,rfl,_,o5,(nH _ _).trans (nH _ _),m2,(nH _ _).subset (yH _ _),yH _ _,rfl,rfl⟩
theorem Si(hM:n9 M N)(hN:N<=1000){x:List aj}(hm:Mt M N mt){c o:Nat}(hc:mt[q]?=some c)(ho:o∈mt)(o4 o5:Option W) :
  gG (HD fun ρ S=>∃mt' o4 o5,mt <+: mt'/\Mt M N mt'/\(∀k,k<M.tb.length->bt M k c o∈mt'/\bt M k o c∈mt')/\ρ=[some M.w,lO st.length,iO (q:Nat),iO (o:Nat),o4,o5]/\S=st++.lst (cC mt')::x)
   (U_ [some M.w,lO st.length,iO (q:Nat),iO (o:Nat),o4,o5] (st++.lst (cC mt)::x)):=by
 refine p9 (k:=(M.tb.map dH,none)) (fun i ρ S=>∃mt' o4 o5,mt <+: mt'/\Mt M N mt'/\(∀k,k<i->bt M k c o∈mt'/\bt M k o c∈mt')/\ρ=[some M.w,lO st.length,iO (q:Nat),iO (o:Nat),o4,o5]/\S=st++.lst (cC mt')::x) (ii kx) ⟨mt,o4,o5,af _,hm,fun k hk=>absurd hk (cE _),rfl,rfl⟩ (fun _ _ _ _=>trivial) ?_ ?_
 ·rintro i w ρ S hw ⟨mt',o4,o5,hp,hm',jc,rfl,rfl⟩
  rw[ak]at hw
  obtain⟨t,ht,rfl⟩:=a6.mp hw
  refine⟨_,rfl,?_⟩
  obtain⟨ρ2,S2,e,mt2,o5',p2,m2,z1,z2,rfl,rfl⟩:=Sg (st:=st) (x:=x) hM hN hm' ht (Ak hp hc) (hp.subset ho) o5
  refine⟨_,_,e,mt2,_,_,hp.trans p2,m2,fun k hk=>?_,rfl,rfl⟩
  rcases lB.mp hk with z|z
  ·exact⟨p2.subset (jc k z).1,p2.subset (jc k z).2⟩
  ·subst z;exact⟨z1,z2⟩
 ·rintro ρ S ⟨mt',o4,o5,hp,hm',jc,rfl,rfl⟩
  rw[ai]at jc
  exact⟨_,_,rfl,mt',o4,o5,hp,hm',jc,rfl,rfl⟩
theorem OJ(hM:n9 M N)(PJ:1<=N)(hN:N<=1000):∃mt y,Mt M N mt/\(∀k,k<M.tb.length->∀a∈mt,∀b∈mt,bt M k a b∈mt)/\Bp [M.w] st=.ok (.loc st.length) (st++.lst (cC mt)::y):=by
 suffices hh:gG (qp fun w bx=>∃j x,w=.loc (st.length+j)/\bx=st++x/\j=0/\∃mt y,Mt M N mt/\(∀k,k<M.tb.length->∀a∈mt,∀b∈mt,bt M k a b∈mt)/\x=.lst (cC mt)::y) (Lb ([M.w].map some++List.replicate (6-1) none) st) by
  obtain⟨j,x,⟨rfl,mt,y,h1,h2,rfl⟩,e⟩:=ij hh
  exact⟨mt,y,h1,h2,e⟩
 apply aB
 ·exact bQ (u7 (aq bZ bc) (by show 1<=1000000;decide))
 apply aB
 ·exact bQ bZ
 have m0:Mt M N [0]:=⟨⟨[],rfl⟩,by simp,fun a ha=>by simp at ha;omega,fun C c0 _ a ha=>by simp at ha;subst ha;exact c0⟩
 refine nU (fun n ρ S=>∃q mt x o3 o4 o5,n+q=N/\q<=mt.length/\Mt M N mt/\(∀i j a b,i<q->j<q->mt[i]?=some a->mt[j]?=some b->∀k,k<M.tb.length->bt M k a b∈mt)/\ρ=[some M.w,lO st.length,iO (q:Nat),o3,o4,o5]/\S=st++.lst (cC mt)::x) N ⟨0,[0],[],none,none,none,by omega,by simp,m0,fun i j a b hi=>absurd hi (cE _),rfl,rfl⟩ ?_ ?_
 ·rintro n ρ S ⟨q,mt,x,o3,o4,o5,hnq,hq,hm,jc,rfl,rfl⟩
  have Vg:=hm.len
  have cm:(st++.lst (cC mt)::x)[st.length]?=some (.lst (cC mt)):=by rw[ca];rfl
  have ln:=gP (aK cm)
  rw[ai]at ln
  have tsx:eV (e2 xI (ae 2) (a_ cS (ag (ae 1) az))) [some M.w,lO st.length,iO (q:Nat),o3,o4,o5] (st++.lst (cC mt)::x)=.ok (decide (q<mt.length)) (st++.lst (cC mt)::x):=bO (bd kv (bb kn ln) (iF (by rw[gX];simp)))
  by_cases hlt:q<mt.length
  ·refine .inr ⟨by rw[tsx,bn hlt],?_⟩
   obtain⟨c,hc⟩:∃c,mt[q]?=some c:=⟨_,ac hlt⟩
   have hcut:jM (cC mt) none (some ((q:Int)+1))=cC (mt.take (q+1)):=by
    rw[show((q:Int)+1)=((q+1:Nat):Int) by omega,rM (by rw[ai];omega)]
    unfold cC;rw[oN]
   have sl:A2 (.loc st.length) none (some ((q:Int)+1)) (st++.lst (cC mt)::x)=.ok (.loc (st++.lst (cC mt)::x).length) ((st++.lst (cC mt)::x)++[.lst (cC (mt.take (q+1)))]):=by
    rw[Bj (aK cm),hcut]
   have ls:nw [.loc (st++.lst (cC mt)::x).length] ((st++.lst (cC mt)::x)++[.lst (cC (mt.take (q+1)))])=.ok (.loc ((st++.lst (cC mt)::x)++[aj.lst (cC (mt.take (q+1)))]).length) ((st++.lst (cC mt)::x)++[.lst (cC (mt.take (q+1)))]++[.lst (cC (mt.take (q+1)))]):=by
    unfold nw;simp only[aK bg,cw]
   have hx1:((st++.lst (cC mt)::x)++[.lst (cC (mt.take (q+1)))]++[.lst (cC (mt.take (q+1)))]:List aj)=st++.lst (cC mt)::(x++[.lst (cC (mt.take (q+1)))]++[.lst (cC (mt.take (q+1)))]):=by simp
   have hloc:((st++.lst (cC mt)::x)++[aj.lst (cC (mt.take (q+1)))]).length=st.length+(x.length+2):=by simp
   have Dq:∀mt':List Nat,(st++.lst (cC mt')::(x++[.lst (cC (mt.take (q+1)))]++[.lst (cC (mt.take (q+1)))]))[st.length+(x.length+2)]?=some (.lst (cC (mt.take (q+1)))):=fun mt'=>by
    rw[de,hZ,bX (by simp)];simp
   have ei:cx (a_ nw (ag (HC (ae 1) sv (mO (e2 d8 (ae 2) (eI 1)))) az)) [some M.w,lO st.length,iO (q:Nat),o3,o4,o5] (st++.lst (cC mt)::x)=.ok (cC (mt.take (q+1)),some (st.length+(x.length+2),cC (mt.take (q+1)))) (st++.lst (cC mt)::(x++[.lst (cC (mt.take (q+1)))]++[.lst (cC (mt.take (q+1)))])):=by
    rw[<- hx1,<- hloc]
    refine fq (bb (aq (E4 kv NC (zX (bd kv bZ eD)) sl) bc) ls) (aK bg)
   generalize x++[.lst (cC (mt.take (q+1)))]++[.lst (cC (mt.take (q+1)))]=x1 at Dq ei
   refine cz (fun i ρ S=>∃mt' o3 o4 o5,mt <+: mt'/\Mt M N mt'/\(∀i' o,i'<i->mt[i']?=some o->i'<q+1->∀k,k<M.tb.length->bt M k c o∈mt'/\bt M k o c∈mt')/\ρ=[some M.w,lO st.length,iO (q:Nat),o3,o4,o5]/\S=st++.lst (cC mt')::x1) ei ⟨mt,o3,o4,o5,af _,hm,fun i' o hi=>absurd hi (cE _),rfl,rfl⟩ ?_ ?_ ?_
   ·rintro i ρ S ⟨mt',o3,o4,o5,_,_,_,rfl,rfl⟩
    exact aK (Dq mt')
   ·rintro i w ρ S hw ⟨mt',o3,o4,o5,hp,hm',hc',rfl,rfl⟩
    rw[ak]at hw
    obtain⟨o,ho,rfl⟩:=a6.mp hw
    have ho':mt[i]?=some o:=by
     rw[List.getElem?_take]at ho
     split at ho
     ·exact ho
     ·cases ho
    refine⟨_,rfl,?_⟩
    obtain⟨ρ2,S2,e,mt2,o4',o5',p2,m2,z,rfl,rfl⟩:=Si (st:=st) (x:=x1) hM hN hm' (Ak hp hc) (hp.subset (am ho')) o4 o5
    refine⟨_,_,e,mt2,_,_,_,hp.trans p2,m2,fun i' o' hi' he' hq' k hk=>?_,rfl,rfl⟩
    rcases lB.mp hi' with y|y
    ·exact⟨p2.subset (hc' i' o' y he' hq' k hk).1,p2.subset (hc' i' o' y he' hq' k hk).2⟩
    ·subst y;rw[ho']at he';cases he';exact z k hk
   ·rintro ρ S ⟨mt',o3,o4,o5,hp,hm',hc',rfl,rfl⟩
    have htl:(cC (mt.take (q+1))).length=q+1:=by rw[ai,a8];omega
    rw[htl]at hc'
    have hlm':=hm'.len
    refine⟨_,_,bQ (bd kv bZ eD),n-1,by omega,q+1,mt',x1,o3,o4,o5,by omega,?_,hm',fun i j a b hi hj ha hb k hk=>?_,by rw[show((q+1:Nat):Int)=(q:Int)+1 by omega];rfl,rfl⟩
    ·have:=hp.length_le;omega
    ·have old:∀{i a:Nat},i<q+1->mt'[i]?=some a->mt[i]?=some a:=fun{i a} hi he=>by
      have hl:i<mt.length:=by omega
      have:=Ak hp (ac hl)
      rw[he]at this;rw[ac hl,this]
     have ha':=old hi ha
     have hb':=old hj hb
     by_cases zi:i=q
     ·subst zi
      rw[hc]at ha';cases ha'
      exact(hc' j b hj hb' hj k hk).1
     ·by_cases zj:j=q
      ·subst zj
       rw[hc]at hb';cases hb'
       exact(hc' i a hi ha' hi k hk).2
      ·exact hp.subset (jc i j a b (by omega) (by omega) ha' hb' k hk)
  ·exact .inl (by rw[tsx,aV hlt])
 ·rintro n ρ S ⟨q,mt,x,o3,o4,o5,hnq,hq,hm,jc,rfl,rfl⟩ hf
  have cm:(st++.lst (cC mt)::x)[st.length]?=some (.lst (cC mt)):=by rw[ca];rfl
  have ln:=gP (aK cm)
  rw[ai]at ln
  have Ds:mt.length<=q:=by
   rcases eA q mt.length with z|z
   ·exact(GQ hf (bO (bd kv (bb kn ln) (iF (bn (by omega)))))).elim
   ·exact z
  refine⟨_,_,nE kv,0,_,rfl,rfl,rfl,mt,x,hm,fun k hk a ha b hb=>?_,rfl⟩
  obtain⟨i,hi⟩:=aZ ha
  obtain⟨j,hj⟩:=aZ hb
  exact jc i j a b (by have:=(aa.mp hi).1;omega) (by have:=(aa.mp hj).1;omega) hi hj k hk
end
theorem G4(l:List Nat)(k:Nat)(st:List aj):hV (k+1) [.str l,.str l] st=.ok (.bl true) st:=by
 refine iL (N:=3) (ws:=[.str l,.str l]) (body:=yr (hV k)) ?_ rfl
 (walk_at "go")
 apply cU
 ·apply pW
  ·(walk_at "evs")
  ·(walk_at "evs")
 ·exact⟨_,_,rfl,by simp,[],by simp⟩
theorem i8{k:Nat}{st:List aj}(hl:ws.length<=1000)(h:∀w∈ws,hV k [w,w] st=.ok (.bl true) st):hV (k+1) [.tup ws,.tup ws] st=.ok (.bl true) st:=by
 refine iL (N:=3) (ws:=[.tup ws,.tup ws]) (body:=yr (hV k)) ?_ rfl
 apply eF
 ·(walk_at "evs")
 apply nT
 apply bC
 ·apply eE
  ·(walk_at "evs")
  ·(walk_at "evs")
   simp
 apply bR
 apply nT
 refine cz (fun i ρ bx=>∃o,ρ=[some (.tup ws),some (.tup ws),o]/\bx=st) (c9 (by(walk_at "evs")) (by omega)) ⟨none,rfl,rfl⟩ (fun _ _ _ _=>trivial) ?_ ?_
 ·rintro i w ρ bx hw ⟨o,rfl,rfl⟩
  obtain⟨hi,rfl⟩:=eZ hw
  refine⟨_,rfl,?_⟩
  have hi':i<ws.length:=by simpa using hi
  have hat:bp (.tup ws) (.int (0+(i:Int))) bx=.ok ws[i] bx:=hJ (by rw[eX];exact dg (by simp[hi']))
  have hs:=h ws[i] (fW _)
  apply hU
  ·(walk_at "evs")
  apply cY
  ·(walk_at "evs")
  ·exact⟨_,_,rfl,_,rfl,rfl⟩
 ·rintro ρ bx ⟨o,rfl,rfl⟩
  apply fG
  ·(walk_at "evs")
  ·exact⟨_,_,rfl,rfl,[],by simp⟩
theorem Di(b:Bool)(k:Nat)(st:List aj):hV (k+1) [.bl b,.bl b] st=.ok (.bl true) st:=by
 have hb:ky (.bl b) (.bl b) st=.ok (.bl true) st:=Rv (by simp)
 refine iL (N:=3) (ws:=[.bl b,.bl b]) (body:=yr (hV k)) ?_ rfl
 apply bC
 ·(walk_at "evs")
 apply bR
 apply bC
 ·(walk_at "evs")
 apply bR
 apply eF
 ·(walk_at "evs")
 apply fG
 ·apply pW
  ·(walk_at "evs")
  ·(walk_at "evs")
 ·exact⟨_,_,rfl,rfl,[],by simp⟩
theorem tM(z:Int)(k:Nat)(st:List aj):hV (k+1) [.int z,.int z] st=.ok (.bl true) st:=by
 have hb:ky (.int z) (.int z) st=.ok (.bl true) st:=gF (by simp)
 refine iL (N:=3) (ws:=[.int z,.int z]) (body:=yr (hV k)) ?_ rfl
 apply bC
 ·(walk_at "evs")
 apply bR
 apply bC
 ·(walk_at "evs")
 apply bR
 apply bC
 ·(walk_at "evs")
 apply bR
 apply eF
 ·(walk_at "evs")
 apply fG
 ·apply pW
  ·(walk_at "evs")
  ·apply pW
   ·(walk_at "evs")
   ·(walk_at "evs")
 ·exact⟨_,_,rfl,by simp,[],by simp⟩
def Sm(w:W):Prop:=∀st,hV 40 [w,w] st=.ok (.bl true) st
theorem JV(M:Mc)(k:Nat)(h1:M.gd.length<=1000)(h2:M.tb.length<=1000)(h3:∀t∈M.tb,t.length<=1000/\∀r∈t,r.length<=1000)(st:List aj):hV (k+5) [M.w,M.w] st=.ok (.bl true) st:=
 i8 (k:=k+4) (by simp) fun w hw=>by
  simp at hw
  rcases hw with rfl|rfl|rfl
  ·exact G4 _ _ _
  ·refine i8 (k:=k+3) (by simpa using h1) fun w hw=>?_
   obtain⟨b,_,rfl⟩:=al.mp hw
   exact Di _ _ _
  ·refine i8 (k:=k+3) (by simpa using h2) fun w hw=>?_
   obtain⟨t,ht,rfl⟩:=al.mp hw
   obtain⟨t1,t2⟩:=h3 t ht
   refine i8 (k:=k+2) (by simpa using t1) fun w hw=>?_
   obtain⟨r,hr,rfl⟩:=al.mp hw
   refine i8 (k:=k+1) (by simpa using t2 r hr) fun w hw=>?_
   obtain⟨z,_,rfl⟩:=al.mp hw
   exact tM _ _ _
theorem vk{f:FG}{t:FT}{ρ0:cu}{c:aj}:∀(ws acc:List W) (st:List aj),(∀w∈ws,∀x,∃ρ',f w ρ0=some ρ'/\t ρ' (st++x)=.ok true (st++x)/\el ρ' (st++x)=.ok (.loc (st++x).length) (st++x++[c])) ->
  mR f t el none ρ0 ws acc st=.ok (acc++(List.range ws.length).map fun i=>W.loc (st.length+i)) (st++List.replicate ws.length c)
 |[],acc,st,_=>by unfold mR;rw[ay (show iB st none from trivial)];simp
 |w::ws,acc,st,h=>by
  obtain⟨ρ',e1,e2,e3⟩:=h w aQ []
  rw[bU]at e2 e3
  unfold mR
  rw[ay (show iB st none from trivial),e1]
  simp only[e2,e3]
  rw[vk ws _ (st++[c]) fun v hv x=>by
   have:=h v (aA _ hv) ([c]++x)
   rw[<- av]at this
   exact this]
  rw[a9,io,jv,aF]
  simp[cQ,oM,Nat.add_comm 1]
abbrev cL(R:List (List Nat)):List aj:=R.map fun r=>aj.lst (nW r)
theorem JW{s0 y:List aj}{R:List (List Nat)}{l:Nat}(hl:l<R.length):(s0++cL R++y).set (s0.length+l) (.lst (nW row))=s0++cL (R.set l row)++y:=by
 rw[av,ie,List.set_append_left _ _ (by simpa using hl),av]
 congr 2
 unfold cL
 rw[jC]
theorem BV{s0 y:List aj}{R:List (List Nat)}{l:Nat}(h:R[l]?=some row):(s0++cL R++y)[s0.length+l]?=some (.lst (nW row)):=by
 rw[av,de,au (by rw[ai];exact(aa.mp h).1),ak,h];rfl
theorem JX{R:List (List Nat)}{l v:Nat}(h:Dx n R)(hr:R[l]?=some row)(hv:v<n):Dx n (R.set l (row.set j v)):=by
 refine⟨by rw[mT];exact h.1,fun r hr'=>?_⟩
 rcases p5 hr' with z|z
 ·exact h.2 r z
 ·subst z
  obtain⟨a,b⟩:=h.2 row (am hr)
  refine⟨by rw[mT];exact a,fun k hk=>?_⟩
  rcases p5 hk with y|y
  ·exact b k y
  ·omega
abbrev py(s0:List aj)(n:Nat):aj:=.lst ((List.range n).map fun i=>W.loc (s0.length+i))
theorem Dj{dl:Nat}{st:List aj}(hd:st[dl]?=some (.lst (kA ds)))(hl:ds.length=50) :
  ∃(M:Mc) (n:Nat),n9 M n/\12<=n/\n<=20/\M.nm=[]/\BE [.loc dl] st=.ok M.w st:=by
 suffices hh:gG (qp fun w bx=>(∃x,bx=st++x)/\undWs st.length [w]=true/\∃(M:Mc) (n:Nat),w=M.w/\n9 M n/\12<=n/\n<=20/\M.nm=[]) (Lv ([W.loc dl].map some++List.replicate (6-1) none) st) by
  obtain⟨w,⟨M,n,rfl,h1,h2,h3,h4⟩,e⟩:=iW hh
  exact⟨M,n,h1,h2,h3,h4,e⟩
 have ix:∀(i:Nat) (x:List aj),i<50->∃d,bp (.loc dl) (.int (i:Nat)) (st++x)=.ok (.int d) (st++x):=fun i x hi=>by
  obtain⟨d,hdd⟩:∃d,ds[i]?=some d:=⟨_,ac (by omega)⟩
  exact⟨d,eG (aM hd) hdd⟩
 obtain⟨d0,i0⟩:=ix 0 [] (by omega)
 rw[bU]at i0
 obtain⟨m0,hm0,em0⟩:=fw (q:=d0) (n:=9) (by omega)
 have mo:dQ (.int d0) (.int 9) st=.ok (.int (m0:Nat)) st:=by
  have:d0%9=(m0:Int):=em0
  rw[<- this];exact gE (by decide)
 obtain⟨n,hn⟩:∃n:Nat,n=12+m0:=⟨_,rfl⟩
 apply aB
 ·exact bQ (bd bZ (bd (bd kv bZ i0) bZ mo) eD)
 rw[show(12:Int)+(m0:Int)=((n:Nat):Int) by omega]
 have hcut:jM (kA ds) (some ((8:Nat):Int)) none=kA (ds.drop 8):=by
  rw[rN (by unfold kA;rw[ai];omega)];unfold kA;rw[oO]
 have sl:A2 (.loc dl) (some 8) none st=.ok (.loc st.length) (st++[.lst (kA (ds.drop 8))]):=by
  rw[Bj (aK hd)]
  have:jM (kA ds) (some 8) none=kA (ds.drop 8):=hcut
  rw[this]
 obtain⟨zs,hzs,eo⟩:=yz n st.length (ds.drop 8) (st++[.lst (kA (ds.drop 8))]) (by omega) (by omega) bg (by rw[d5];omega)
 apply aB
 ·exact bQ (cI (aq kv (aq bZ (aq (E4 kv (zX bZ) NC sl) bc))) eo rfl)
 have hzl:=hzs.1
 have zat:∀i,i<n->∃k,zs[i]?=some k/\k<n:=fun i hi=>by
  have e:=ac (l:=zs) (show i<zs.length by omega)
  exact⟨_,e,(hzs.2 _).mp (am e)⟩
 have c2:(st++[.lst (kA (ds.drop 8))]++[.lst (nW zs)])[(st++[aj.lst (kA (ds.drop 8))]).length]?=some (.lst (nW zs)):=bg
 have pre:∃x0,(st++[.lst (kA (ds.drop 8))]++[.lst (nW zs)]:List aj)=st++x0:=⟨_,by rw[av]⟩
 generalize (st++[aj.lst (kA (ds.drop 8))]).length=pl at c2 ⊢
 generalize st++[.lst (kA (ds.drop 8))]++[.lst (nW zs)]=s0 at c2 pre ⊢
 obtain⟨x0,rfl⟩:=pre
 generalize PD:st++x0=s0 at c2 ⊢
 have zix:∀(i:Nat) (x:List aj),i<n->∃k,k<n/\bp (.loc pl) (.int (i:Nat)) (s0++x)=.ok (.int (k:Nat)) (s0++x):=fun i x hi=>by
  obtain⟨k,hk,hk'⟩:=zat i hi
  exact⟨k,hk',tz (aM c2) hk⟩
 obtain⟨v0,hv0,hv0'⟩:=zat (n-1) (by omega)
 have hsub:∀(j:Nat) (x:List aj),j<=n->m3 (.int (n:Nat)) (.int (j:Nat)) x=.ok (.int ((n-j:Nat):Int)) x:=fun j x hj=>by
  rw[show((n-j:Nat):Int)=(n:Int)-(j:Int) by omega];exact gE trivial
 have inner:∀(l:Option W) (x:List aj),c_ [none,some 1,some 2] (be (ag (ae 2) az)) (eB 0) gR (e2 bp (ae 1) (e2 m3 (ae 2) (eI 1))) [l,lO pl,iO (n:Nat)] (s0++x)=.ok (.loc (s0++x).length) (s0++x++[.lst (nW (List.replicate n v0))]):=fun l x=>by
  have ir:=c9 (fs:=ag (ae 2) az) (ρ:=[l,lO pl,iO (n:Nat)]) (st:=s0++x) (q:=(n:Nat)) kn (by omega)
  rw[aO]at ir
  have kc:=gu (cap:=[none,some 1,some 2]) (fi:=be (ag (ae 2) az)) (f:=eB 0) (el:=e2 bp (ae 1) (e2 m3 (ae 2) (eI 1))) (ρ:=[l,lO pl,iO (n:Nat)]) (st:=s0++x) (st1:=s0++x) (fun _=>W.int (v0:Nat)) ir (by rw[bB];show _<=1000000;omega) trivial fun w hw=>⟨_,rfl,bd kv (bd kv bZ (hsub 1 _ (by omega))) (tz (aM c2) hv0)⟩
  rw[kc,show(bM 0 n).map (fun _=>W.int (v0:Nat))=nW (List.replicate n v0)from by
   unfold nW bM
   rw[aT,List.map_replicate]
   simp[cQ,List.map_const']]
 have outer:c_ [none,some 2,some 1] (be (ag (ae 1) az)) (eB 0) gR (c_ [none,some 1,some 2] (be (ag (ae 2) az)) (eB 0) gR (e2 bp (ae 1) (e2 m3 (ae 2) (eI 1)))) [lO dl,iO (n:Nat),lO pl,none,none,none] s0
   = .ok (.loc (s0.length+n)) (s0++cL (List.replicate n (List.replicate n v0))++[py s0 n]):=by
  have ir:=c9 (fs:=ag (ae 1) az) (ρ:=[lO dl,iO (n:Nat),lO pl,none,none,none]) (st:=s0) (q:=(n:Nat)) kn (by omega)
  rw[aO]at ir
  unfold c_
  rw[ir]
  simp only[R.bind_ok]
  rw[ay (by rw[bB];show _<=1000000;omega)]
  have cn:=vk (f:=eB 0) (t:=gR) (el:=c_ [none,some 1,some 2] (be (ag (ae 2) az)) (eB 0) gR (e2 bp (ae 1) (e2 m3 (ae 2) (eI 1)))) (ρ0:=pM [none,some 2,some 1] [lO dl,iO (n:Nat),lO pl,none,none,none]) (c:=.lst (nW (List.replicate n v0))) (bM 0 n) [] s0 fun w hw x=>⟨_,rfl,rfl,inner _ x⟩
  unfold c_ at cn
  rw[cn,bB]
  simp only[R.bind_ok,mU,mN]
  rw[ay (by rw[ai,cP];show _<=1000000;omega)]
  unfold cL
  rw[List.map_replicate]
  simp
 apply aB
 ·exact BI outer rfl
 have tok0:Dx n (List.replicate n (List.replicate n v0)):=⟨by simp,fun r hr=>by
  obtain⟨_,rfl⟩:=List.mem_replicate.mp hr
  exact⟨by simp,fun k hk=>by obtain⟨_,rfl⟩:=List.mem_replicate.mp hk;exact hv0'⟩⟩
 have lc:∀R:List (List Nat),R.length=n->(s0++cL R++[py s0 n])[s0.length+n]?=some (.lst ((List.range n).map fun i=>W.loc (s0.length+i))):=fun R hR=>by
  have:=bg (s:=s0++cL R) (c:=.lst ((List.range n).map fun i=>W.loc (s0.length+i)))
  rwa[show(s0++cL R).length=s0.length+n by simp[hR]]at this
 have lix:∀(R:List (List Nat)) (l:Nat),R.length=n->l<n->bp (.loc (s0.length+n)) (.int (l:Nat)) (s0++cL R++[py s0 n])=.ok (.loc (s0.length+l)) (s0++cL R++[py s0 n]):=fun R l hR hl'=>jU (aK (lc R hR)) (dg (by rw[ak,dO hl'];rfl))
 have put:∀(R:List (List Nat)) (l j v:Nat),Dx n R->l<n->j<n->v<n->∃R',Dx n R'/\mP (.loc (s0.length+l)) (.int (j:Nat)) (.int (v:Nat)) (s0++cL R++[py s0 n])=some (s0++cL R'++[py s0 n]):=fun R l j v hR hl' hj hv=>by
  have hlR:l<R.length:=by rw[hR.1];exact hl'
  have rC:=ac hlR
  refine⟨R.set l (R[l].set j v),JX hR rC hv,?_⟩
  rw[wp (BV rC) (by unfold nW;rw[ai,(hR.2 _ (fW hlR)).1];exact hj)]
  rw[show(nW R[l]).set j (.int (v:Nat))=nW (R[l].set j v) by unfold nW;rw[jC],JW hlR]
 have vm:s0.length+n=s0.length+n:=rfl
 have dix:∀(i:Nat) (y:List aj),i<50->∃d,bp (.loc dl) (.int (i:Nat)) (s0++y)=.ok (.int d) (s0++y):=fun i y hi=>by
  obtain⟨d,e⟩:=ix i (x0++y) hi
  rw[<- av,PD]at e
  exact⟨d,e⟩
 have modp:∀(d:Int) (m:Nat) (y:List aj),0<m->m<=100->∃q:Nat,q<m/\dQ (.int d) (.int (m:Nat)) y=.ok (.int (q:Nat)) y:=fun d m y h1 h2=>by
  obtain⟨q,hq,eq⟩:=fw (q:=d) (n:=m) h1
  exact⟨q,hq,by rw[<- eq];exact gE (by omega)⟩
 refine cz (k:=(bM 0 (n-2),none)) (fun i ρ S=>∃R o4,Dx n R/\ρ=[lO dl,iO (n:Nat),lO pl,lO (s0.length+n),o4,none]/\S=s0++cL R++[py s0 n]) (by
   have:=c9 (fs:=ag (e2 m3 (ae 1) (eI 2)) az) (ρ:=[lO dl,iO (n:Nat),lO pl,lO (s0.length+n),none,none]) (st:=s0++cL (List.replicate n (List.replicate n v0))++[py s0 n]) (q:=((n-2:Nat):Int)) (aq (bd kv bZ (hsub 2 _ (by omega))) bc) (by omega)
   rw[aO]at this
   exact this) ⟨_,none,tok0,rfl,rfl⟩ (fun _ _ _ _=>trivial) ?_ ?_
 ·rintro i w ρ S hw ⟨R,o4,hR,rfl,rfl⟩
  obtain⟨hi,rfl⟩:=eZ hw
  rw[eX]
  refine⟨_,rfl,?_⟩
  obtain⟨d1,i1⟩:=dix 1 (cL R++[py s0 n]) (by omega)
  rw[<- av]at i1
  obtain⟨q1,hq1,eq1⟩:=modp d1 3 (s0++cL R++[py s0 n]) (by omega) (by omega)
  obtain⟨a,ha,ea⟩:=zix i (cL R++[py s0 n]) (by omega)
  rw[<- av]at ea
  obtain⟨b,hb,eb⟩:=zix (i+1) (cL R++[py s0 n]) (by omega)
  rw[<- av,show((i+1:Nat):Int)=(i:Int)+1 by omega]at eb
  obtain⟨R1,hR1,p1⟩:=put R a 0 b hR ha (by omega) hb
  have second:∀R2:List (List Nat),Dx n R2->gG (HD fun ρ S=>∃R o4,Dx n R/\ρ=[lO dl,iO (n:Nat),lO pl,lO (s0.length+n),o4,none]/\S=s0++cL R++[py s0 n])
    ((gY (eV (e2 xI (e2 dQ (e2 bp (ae 0) (eI 1)) (eI 3)) (eI 2))) (m5 (e2 bp (ae 3) (eI 0)) (e2 bp (ae 2) (ae 4)) (e2 bp (ae 2) (e2 d8 (ae 4) (eI 1))) mP) b_) [lO dl,iO (n:Nat),lO pl,lO (s0.length+n),iO (i:Nat),none] (s0++cL R2++[py s0 n])):=fun R2 hR2=>by
   obtain⟨d1,i1⟩:=dix 1 (cL R2++[py s0 n]) (by omega)
   rw[<- av]at i1
   obtain⟨q1,hq1,eq1⟩:=modp d1 3 (s0++cL R2++[py s0 n]) (by omega) (by omega)
   obtain⟨a,ha,ea⟩:=zix i (cL R2++[py s0 n]) (by omega)
   rw[<- av]at ea
   obtain⟨b,hb,eb⟩:=zix (i+1) (cL R2++[py s0 n]) (by omega)
   rw[<- av,show((i+1:Nat):Int)=(i:Int)+1 by omega]at eb
   obtain⟨R3,hR3,p3⟩:=put R2 0 a b hR2 (by omega) ha hb
   have tsx:eV (e2 xI (e2 dQ (e2 bp (ae 0) (eI 1)) (eI 3)) (eI 2)) [lO dl,iO (n:Nat),lO pl,lO (s0.length+n),iO (i:Nat),none] (s0++cL R2++[py s0 n])=.ok (decide ((q1:Int)<2)) (s0++cL R2++[py s0 n]):=bO (bd (bd (bd kv bZ i1) bZ eq1) bZ (iF rfl))
   cases hdec:decide ((q1:Int)<2)with
   |true=>
    rw[hdec]at tsx
    refine kM tsx ?_
    exact⟨_,_,lK (bd kv (bd kv bZ eD) eb) (bd kv bZ (lix R2 0 hR2.1 (by omega))) (bd kv kv ea) p3,R3,_,hR3,rfl,rfl⟩
   |false=>
    rw[hdec]at tsx
    exact hU tsx ⟨_,_,rfl,R2,_,hR2,rfl,rfl⟩
  have tsx:re (eV (e2 IH (e2 dQ (e2 bp (ae 0) (eI 1)) (eI 3)) (eI 0))) (eV (e2 ky (ae 4) (eI 0))) [lO dl,iO (n:Nat),lO pl,lO (s0.length+n),iO (i:Nat),none] (s0++cL R++[py s0 n])=.ok (decide ((q1:Int)>0)||((i:Int)==0)) (s0++cL R++[py s0 n]):=
   Fb (bO (bd (bd (bd kv bZ i1) bZ eq1) bZ (iF rfl))) (bO (bd kv bZ (gF rfl)))
  cases hdec:decide ((q1:Int)>0)||((i:Int)==0)with
  |true=>
   rw[hdec]at tsx
   refine eF tsx ?_
   apply aB
   ·exact lK (bd kv (bd kv bZ eD) eb) (bd kv (bd kv kv ea) (lix R a hR.1 ha)) bZ p1
   exact second R1 hR1
  |false=>
   rw[hdec]at tsx
   exact bC tsx (bR (second R hR))
 ·rintro ρ S ⟨R,o4,hR,rfl,rfl⟩
  apply aB
  ·exact bQ (bd kv bZ (hsub 2 _ (by omega)))
  have dix':∀i:Nat,i<50->∃d,bp (.loc dl) (.int (i:Nat)) (s0++cL R++[py s0 n])=.ok (.int d) (s0++cL R++[py s0 n]):=fun i hi=>by
   have:=dix i (cL R++[py s0 n]) hi
   rwa[<- av]at this
  have rC:∀(l:Nat) (row:List Nat) (y:List aj),R[l]?=some row->(s0++cL R++[py s0 n]++y)[s0.length+l]?=some (.lst (nW row)):=fun l row y h=>aM (BV h)
  have hc2:(s0++cL R++[py s0 n])[pl]?=some (.lst (nW zs)):=aM (aM c2)
  have hlc:=lc R hR.1
  have wP:s0++cL R++[py s0 n]=st++(x0++cL R++[py s0 n]):=by rw[<- PD];simp
  generalize hS:s0++cL R++[py s0 n]=S at dix' rC hc2 hlc wP ⊢
  refine kN (fun ρ S'=>∃u o4,u<n/\S'=S/\ρ=[lO dl,iO (n:Nat),lO pl,lO (s0.length+n),o4,iO (u:Nat)]) ?_ ?_
  ·obtain⟨d2,i2⟩:=dix' 2 (by omega)
   obtain⟨q2,hq2,eq2⟩:=modp d2 2 S (by omega) (by omega)
   have tsx:eV (e2 ky (e2 dQ (e2 bp (ae 0) (eI 2)) (eI 2)) (eI 1)) [lO dl,iO (n:Nat),lO pl,lO (s0.length+n),o4,iO ((n-2:Nat):Int)] S=.ok ((q2:Int)==1) S:=bO (bd (bd (bd kv bZ i2) bZ eq2) bZ (gF rfl))
   cases hdec:((q2:Int)==1)with
   |true=>
    rw[hdec]at tsx
    obtain⟨d3,i3⟩:=dix' 3 (by omega)
    obtain⟨q3,hq3,eq3⟩:=modp d3 (n-2) S (by omega) (by omega)
    refine kM tsx ⟨_,_,bQ (bd bZ (bd (bd kv bZ i3) (bd kv bZ (hsub 2 _ (by omega))) eq3) eD),1+q3,o4,by omega,rfl,?_⟩
    rw[show((1+q3:Nat):Int)=1+(q3:Int) by omega];rfl
   |false=>
    rw[hdec]at tsx
    exact hU tsx ⟨_,_,rfl,n-2,o4,by omega,rfl,rfl⟩
  ·rintro ρ S' ⟨u,o4,hu,rfl,rfl⟩
   obtain⟨zu,hzu,_⟩:=zat u hu
   obtain⟨gd,hgl,_,eg⟩:=tw (cap:=[none,some 2,some 5]) (el:=e2 ky (ae 0) (e2 bp (ae 1) (ae 2))) (fs:=ag (ae 1) az) (ρ:=[lO dl,iO (n:Nat),lO pl,lO (s0.length+n),o4,iO (u:Nat)]) (st:=S') (n:=n) W.bl (fun _ _=>True) kn (by omega) fun i hi=>⟨((i:Int)==(zu:Int)),trivial,bd kv (bd kv kv (tz hc2 hzu)) (gF rfl)⟩
   have hS1:∀(l:Nat) (row:List Nat),R[l]?=some row->(S'++[.lst (gd.map W.bl)])[s0.length+l]?=some (.lst (nW row)):=fun l row h=>rC l row _ h
   have er:=gu (cap:=[none]) (fi:=cx (ae 3)) (f:=eB 0) (el:=a_ cX (ag (ae 0) az)) (ρ:=[lO dl,iO (n:Nat),lO pl,lO (s0.length+n),o4,iO (u:Nat)]) (st:=S'++[.lst (gd.map W.bl)]) (st1:=S'++[.lst (gd.map W.bl)]) (fun w=>match w with|.loc p=>g7 (R.getD (p-s0.length) [])|_=>.non) (fq kv (aK (aM hlc))) (by rw[ai,cP];show _<=1000000;omega) (aK (aM hlc)) fun w hw=>by
    obtain⟨l,hl',rfl⟩:=al.mp hw
    have hln:=bj.mp hl'
    have e:=ac (l:=R) (show l<R.length by rw[hR.1];exact hln)
    refine⟨_,rfl,?_⟩
    have hg:R.getD (s0.length+l-s0.length) []=R[l]'(by rw[hR.1];exact hln):=by
     rw[lW,aE,e];rfl
    show _=L2.R.ok (g7 (R.getD (s0.length+l-s0.length) [])) _
    rw[hg]
    exact bb kn (fB (aK (hS1 l _ e)))
   have hmap:((List.range n).map fun i=>W.loc (s0.length+i)).map (fun w=>match w with|.loc p=>g7 (R.getD (p-s0.length) [])|_=>.non)=R.map g7:=by
    rw[aT]
    refine iS (by simp[hR.1]) fun i h1 h2=>?_
    have hi:i<R.length:=by simpa using h2
    simp only[dC,g9,cQ,lW]
    rw[aE,ac hi];rfl
   rw[hmap]at er
   refine⟨_,_,nE (iE (aq bZ (aq eg (aq (iE (aq (bb (aq er bc) (fB (aK bg))) bc) (by show 1<=1000000;decide)) bc))) (by show 3<=1000000;decide)),⟨_,by rw[wP,av,av]⟩,?_,⟨[],gd,[R]⟩,n,rfl,⟨hgl,rfl,fun t ht=>?_⟩,by omega,by omega,rfl⟩
   ·have a:=BH gd st.length
    have b:=BG R st.length
    unfold dH W.und at b
    simp only[undWs,W.und,a,b,b8]
   ·simp at ht;subst ht;exact hR
section
variable{M:Mc}{E:List Ro}{h:Nat->Nat}
abbrev fs(E:List Ro):List Nat:=E.map Prod.fst
theorem pq.rso(l:pq M N E B h m rs):Dg M N rs:=LB l.full.told l.full.cov l.perm l.up
theorem pq.mem(l:pq M N E B h m rs){a:Nat}:a∈fs E↔a∈rs:=l.perm.mem_iff.symm
theorem pq.z(l:pq M N E B h m rs):0∈fs E:=l.mem.mpr l.rso.zero
theorem pq.blt(l:pq M N E B h m rs){a:Nat}(ha:a∈fs E):B a<m:=by
 obtain⟨i,hi⟩:=aZ ha
 exact(l.can.fst i a hi).1
theorem pq.b0(l:pq M N E B h m rs):B 0=0:=by
 obtain⟨r,e⟩:=l.full.told.zero
 obtain⟨z1,z2⟩:=l.can.fst 0 0 (by rw[e];rfl)
 rcases kt (B 0)with z|z
 ·exact z
 ·have:=l.can.up 0 (B 0) z z1;omega
theorem pq.hd(l:pq M N E B h m rs){a:Nat}(ha:a∈fs E):pj (fs E) h (B a)∈fs E/\B (pj (fs E) h (B a))=B a:=(l.can.at' (l.blt ha)).2
theorem pq.hom(l:pq M N E B h m rs){k a b:Nat}(hk:k<M.tb.length)(ha:a∈fs E)(hb:b∈fs E):bt (mB M E B h m) k (B a) (B b)=B (bt M k a b):=by
 rw[JQ hk (l.blt ha) (l.blt hb)]
 exact l.last.cg l.rm hk (l.hd ha).1 ha (l.hd hb).1 hb (l.hd ha).2 (l.hd hb).2
theorem pq.gdB(l:pq M N E B h m rs){a:Nat}(ha:a∈fs E):gM (mB M E B h m) (B a)=gM M a:=by
 rw[l.gB (l.blt ha)]
 have:=l.last.st l.rm 0 _ _ (l.hd ha).1 ha (l.hd ha).2
 exact bne_eq_false_iff_eq.mp (show(gM M (pj (fs E) h (B a)) != gM M a)=false from this)
variable{E':List Ro}{h':Nat->Nat}{m':Nat}{Px:List Nat}
end
structure Pl where
 b:Nat
 m:List Nat
def Pl.w(p:Pl):W:=.tup [.int p.b,.str p.m]
def Dk(t:List Pl):W:=.tup (t.map Pl.w)
def pi(ps:List Pl):Nat:=ps.foldl (fun d p=>d+1-(p.b+1)/2) 0
theorem tN(ps:List Pl)(p:Pl):pi (ps++[p])=pi ps+1-(p.b+1)/2:=by unfold pi;rw[iu];rfl
theorem G5(ps:List Pl):pi ps<=ps.length:=by
 have key:∀(ps:List Pl) (d:Nat),ps.foldl (fun d p=>d+1-(p.b+1)/2) d<=d+ps.length:=by
  intro ps
  induction ps with
  |nil=>intro d;exact aw _
  |cons p r ih=>
   intro d
   have:=ih (d+1-(p.b+1)/2)
   rw[gU,a9];omega
 have:=key ps 0
 rw[fI]at this;exact this
def OK(ps:List Pl):Prop:=∀i p,ps[i]?=some p->p.b<=3/\(p.b+1)/2<=pi (ps.take i)
def Wk(ps:List Pl):Prop:=OK ps/\ps.length<=900
theorem OK.snoc{ps:List Pl}{b:Nat}{m:List Nat}(h:OK ps)(h1:b<=3)(h2:(b+1)/2<=pi ps):OK (ps++[⟨b,m⟩]):=fun i p e=>by
 rcases eA i ps.length with z|z
 ·rw[au z]at e
  rw[jb (by omega)];exact h i p e
 ·have:i=ps.length:=by have:=(aa.mp e).1;rw[aF,gk]at this;omega
  subst this
  rw[bL]at e
  cases e
  rw[List.take_left];exact⟨h1,h2⟩
theorem G6(t:List Pl)(n:Nat):(Dk t).und n=true:=by
 unfold Dk W.und
 exact wB fun w hw=>by obtain⟨p,_,rfl⟩:=al.mp hw;rfl
theorem G7(a:List Pl)(st:List aj):cS [Dk a] st=.ok (.int a.length) st:=by
 unfold Dk
 rw[jV,ai]
theorem Sj{c:Nat}{st:List aj}:uN false (.str [c]) (.str l) st=.ok (.bl (decide (c∈l))) st:=rfl
theorem JY{st st1:List aj}(h:fe ρ st=.ok (.str l) st1):cx fe ρ st=.ok (l_ l,none) st1:=by unfold cx;rw[h];rfl
theorem G8{w:W}(h:(l_ l)[i]?=some w):∃c,l[i]?=some c/\w=.str [c]:=by
 simp only[l_,ak,a6]at h
 obtain⟨c,h1,rfl⟩:=h
 exact⟨c,h1,rfl⟩
theorem Dl(l:List Nat):(l_ l).length=l.length:=by simp[l_]
theorem nY{l:List α}{c:α}(h:l[i]?=some c):l.take (i+1)=l.take i++[c]:=by
 rw[List.take_succ,h];rfl
def iy(m:List Nat)(l:List Nat):Nat:=l.foldl (fun a c=>2*a+if c∈m then 1 else 0) 0
theorem Dm(m l:List Nat)(c:Nat):iy m (l++[c])=2*iy m l+if c∈m then 1 else 0:=by unfold iy;rw[iu];rfl
theorem wD(m:List Nat)(l:List Nat):iy m l<2^l.length:=by
 have key:∀(l:List Nat) (a k:Nat),a<2^k->l.foldl (fun a c=>2*a+if c∈m then 1 else 0) a<2^(k+l.length):=by
  intro l
  induction l with
  |nil=>intro a k h;simpa using h
  |cons c r ih=>
   intro a k h
   have:=ih (2*a+if c∈m then 1 else 0) (k+1) (by rw[Nat.pow_succ];split<;>omega)
   rw[gU,a9,show k+(r.length+1)=k+1+r.length by omega];exact this
 have:=key l 0 0 (by simp)
 simpa[iy]using this
theorem Al(names m:List Nat)(st:List aj):BC [.str names,.str m] st=.ok (.int (iy m names:Nat)) st:=by
 refine iL (N:=4) (ws:=[.str names,.str m]) (body:=Lr) ?_ rfl
 apply aB
 ·(walk_at "evs")
 refine cz (fun i ρ s=>∃o3:Option W,ρ=[some (.str names),some (.str m),iO (iy m (names.take i):Nat),o3]/\s=st) (JY (st1:=st) kv) ⟨none,rfl,rfl⟩ (fun _ _ _ _=>trivial) ?_ ?_
 ·rintro i w ρ s hw ⟨o3,rfl,rfl⟩
  obtain⟨c,hc,rfl⟩:=G8 hw
  refine⟨_,rfl,?_⟩
  have e:=Dm m (names.take i) c
  rw[<- nY hc]at e
  have bi:El [.bl (decide (c∈m))] s=.ok (.int ((if c∈m then 1 else 0:Nat):Int)) s:=by
   by_cases h:c∈m
   ·rw[bn h,ay h];rfl
   ·rw[aV h,aC h];rfl
  apply cY
  ·exact bQ (bd (bd bZ kv (qF (.inl (by decide)))) (bb (aq (bd kv kv Sj) bc) bi) eD)
  ·exact⟨_,_,rfl,_,by rw[e,mX,jo];rfl,rfl⟩
 ·rintro ρ s ⟨o3,rfl,rfl⟩
  apply cU
  ·(walk_at "evs")
  ·exact⟨_,_,rfl,by rw[show(l_ names,(none:Option (Nat×List W))).fst.length=names.length from Dl names,fX],[],by simp⟩
def G9:W->Nat
 |.int i=>i.toNat
 |_=>0
theorem yI(pool:List Nat)(hp:pool.length<=50)(d:Int)(st:List aj):∃m:List Nat,m.length<=5000/\yv [.str pool,.int d] st=.ok (.str m) st:=by
 let T:W->Bool:=fun w=>Builtin.bitAnd (d/2^(G9 w)) 1==1
 let yl:W->List Nat:=fun w=>[pool.getD (G9 w) 0]
 have hL:pool.length<=jF:=by show _<=1000000;omega
 obtain⟨ls,hls⟩:∃ls,ls=((bM 0 pool.length).filter T).map yl:=⟨_,rfl⟩
 have dq:ls.length<=50:=by
  rw[hls,ai]
  refine bu (gp _ _) ?_
  rw[bB];omega
 have O1:∀x∈ls,x.length=1:=by
  rw[hls];intro x hx
  obtain⟨w,_,rfl⟩:=al.mp hx;rfl
 have hsum:∀l:List (List Nat),(∀x∈l,x.length=1)->(l.map List.length).sum=l.length:=by
  intro l
  induction l with
  |nil=>intro;rfl
  |cons x r ih=>
   intro h
   simp only[aG,lA,a9]
   rw[h x (by simp),ih fun y hy=>h y (by simp[hy])];omega
 have hc:c_ [none,some 0,some 1] (be (ag (a_ cS (ag (ae 0) az)) az)) (eB 0) (eV (e2 ky (e2 AV (e2 IE (ae 2) (ae 0)) (eI 1)) (eI 1))) (e2 bp (ae 1) (ae 0)) [some (.str pool),iO d] st=.ok (.loc st.length) (st++[.lst (ls.map W.str)]):=by
  have:=zY (fi:=be (ag (a_ cS (ag (ae 0) az)) az)) (f:=eB 0) (t:=eV (e2 ky (e2 AV (e2 IE (ae 2) (ae 0)) (eI 1)) (eI 1))) (el:=e2 bp (ae 1) (ae 0)) (cap:=[none,some 0,some 1]) (ρ:=[some (.str pool),iO d]) (st:=st) (st1:=st) (ws:=bM 0 pool.length) (ck:=none) T (fun w=>.str (yl w))
   (by
    have:=c9 (fs:=ag (a_ cS (ag (ae 0) az)) az) (ρ:=[some (.str pool),iO d]) (st:=st) (st1:=st) (q:=(pool.length:Int)) (aq (bb kn (s_ hL)) bc) (by omega)
    rw[aO]at this
    exact this) (by rw[bB];show _<=1000000;omega) trivial ?_
  ·rw[this,hls,aT];rfl
  ·intro w hw
   obtain⟨i,hi,rfl⟩:=nV hw
   have ei:G9 (.int (0+(i:Int)))=i:=by simp[G9]
   refine⟨[iO (0+(i:Int)),some (.str pool),iO d],rfl,?_,fun _=>?_⟩
   ·have h0:(0:Int)<=0+(i:Int):=by omega
    have hk:(Builtin.bitAnd (d/2^(0+(i:Int)).toNat) 1==1)=T (.int (0+(i:Int))):=rfl
    exact bO (bd (bd (bd kv kv (gE h0)) bZ (gE trivial)) bZ (gF hk))
   ·refine bd kv kv ?_
    rw[show((0:Int)+(i:Int))=(i:Int) by omega]
    have e2:oP pool (i:Int)=some (pool.getD i 0):=dg (by rw[aE,ac hi];rfl)
    rw[E9 hL e2]
    simp[yl,G9]
 have fA:lstOf (st++[aj.lst (ls.map W.str)]) st.length=some (ls.map W.str):=aK (by rw[ca];rfl)
 have hs:=yx fA (by omega)
 have hcell2:lstOf (st++[aj.lst (ls.map W.str)]++[aj.lst ((iC ls).map W.str)]) (st++[aj.lst (ls.map W.str)]).length=some ((iC ls).map W.str):=aK (by rw[ca];rfl)
 have hsl:(iC ls).length=ls.length:=(gZ ls).length_eq
 have hss:((iC ls).map List.length).sum=ls.length:=by rw[tu (gZ ls),hsum ls O1]
 have hj:=E_ (sep:=[]) hcell2 (by rw[hss];show _<=1000000;simp;omega)
 refine⟨nu [] (iC ls),?_,?_⟩
 ·rw[qu,List.length_flatten,hss];omega
 ·refine iL (N:=2) (ws:=[.str pool,.int d]) (body:=Lo) ?_ rfl
  apply cU
  ·exact NA bZ rfl (aq (bb (aq hc bc) hs) bc) hj
  ·exact⟨_,_,rfl,rfl,_,by rw[av]⟩
theorem JZ{st:List aj}{nd md:Nat}{ds ms:List Int}{pool:List Nat}(hd:st[nd]?=some (.lst (kA ds)))(Vc:st[md]?=some (.lst (kA ms)))(Vg:ms.length=2*ds.length)(Uz:ds.length<=100)(AC:∀d∈ds,0<=d)(hp:pool.length<=50) :
  ∃ps,Wk ps/\BA [.loc nd,.loc md,.str pool] st=.ok (Dk ps) st:=by
 suffices hh:gG (qp fun w bx=>(∃x,bx=st++x)/\undWs st.length [w]=true/\∃ps,w=Dk ps/\Wk ps) (Lp ([W.loc nd,.loc md,.str pool].map some++List.replicate (7-3) none) st) by
  obtain⟨w,⟨ps,rfl,h1⟩,e⟩:=iW hh
  exact⟨ps,h1,e⟩
 apply aB
 ·(walk_at "evs")
 apply aB
 ·(walk_at "evs")
 have fA:∀A:List W,lstOf (st++[aj.lst A]) nd=some (kA ds):=fun A=>aK (aM hd)
 have mix:∀(A:List W) (k:Nat),k<ms.length->∃d,bp (.loc md) (.int k) (st++[aj.lst A])=.ok (.int d) (st++[aj.lst A]):=fun A k hk=>⟨_,eG (aM Vc) (ac hk)⟩
 refine cz (fun i ρ bx=>∃(ps:List Pl) (o5 o6:Option W),ρ=[lO nd,lO md,some (.str pool),lO st.length,iO (pi ps),o5,o6]/\bx=st++[.lst (ps.map Pl.w)]/\OK ps/\ps.length=i) (fq (st1:=st++[aj.lst []]) (by(walk_at "evs")) (fA []))
  ⟨[],none,none,rfl,rfl,(fun i p h=>by cases h),rfl⟩ (fun i ρ bx h=>?_) ?_ ?_
 ·obtain⟨ps,o5,o6,rfl,rfl,_⟩:=h
  exact fA _
 ·rintro i w ρ bx hw ⟨ps,o5,o6,rfl,rfl,hg,hle⟩
  obtain⟨d,hdd,rfl⟩:∃d,ds[i]?=some d/\w=.int d:=by
   simp only[kA,ak,a6]at hw
   obtain⟨d,h1,rfl⟩:=hw
   exact⟨d,h1,rfl⟩
  have hi:i<ds.length:=(aa.mp hdd).1
  refine⟨_,rfl,?_⟩
  have hc:(st++[aj.lst (ps.map Pl.w)])[st.length]?=some (.lst (ps.map Pl.w)):=bg
  have dq:=gP (aK hc)
  rw[ai]at dq
  obtain⟨b0,hb0,eb0⟩:=fw (q:=d) (n:=4) (by omega)
  have eb0:d%4=(b0:Int):=eb0
  apply aB
  ·exact bQ (bd kv bZ (gE (by decide)))
  rw[eb0]
  refine kN (fun ρ bx=>∃b:Nat,b<=3/\(b+1)/2<=(pi ps)/\ρ=[lO nd,lO md,some (.str pool),lO st.length,iO (pi ps),iO d,iO b]/\bx=st++[.lst (ps.map Pl.w)]) ?_ ?_
  ·by_cases h1:(pi ps)<(b0+1)/2
   ·have t1:decide (((pi ps):Int)<((b0:Int)+1)/2)=true:=bn (by omega)
    apply kM
    ·exact bO (bd (bd (bd kv bZ eD) bZ (gE (by decide))) kv (iF t1))
    apply cY
    ·(walk_at "evs")
    ·exact⟨_,_,rfl,0,by omega,by omega,rfl,rfl⟩
   ·have t1:decide (((pi ps):Int)<((b0:Int)+1)/2)=false:=aV (by omega)
    apply hU
    ·exact bO (bd (bd (bd kv bZ eD) bZ (gE (by decide))) kv (iF t1))
    apply cY
    ·exact sZ
    ·exact⟨_,_,rfl,b0,by omega,by omega,rfl,rfl⟩
  rintro ρ bx ⟨b2,hb2,vm,rfl,rfl⟩
  obtain⟨dm,edm⟩:=mix (ps.map Pl.w) ps.length (by omega)
  obtain⟨m,hm,em⟩:=yI pool hp (dm%64) (st++[aj.lst (ps.map Pl.w)])
  have ap:=oD (y:=(Pl.mk b2 m).w) hc (by rw[ai];show _<1000000;omega)
  rw[dN]at ap
  have ap:cy (.loc st.length) [.tup [.int b2,.str m]] (st++[aj.lst (ps.map Pl.w)])=_:=ap
  apply aB
  ·exact eW (jz kv (df hc) (aq (iE (aq kv (aq (cI (aq kv (aq (bd (bd kv (bb kn dq) edm) bZ (gE (by decide))) bc)) em rfl) bc)) (bI rfl)) bc) ap)
  apply cY
  ·exact bQ (bd (bd kv bZ eD) (bd (bd kv bZ eD) bZ (gE (by decide))) (gE trivial))
  ·refine⟨_,_,rfl,ps++[⟨b2,m⟩],iO d,iO b2,?_,by simp,hg.snoc hb2 vm,by simp[hle]⟩
   ·show[_,_,_,_,iO (((pi ps):Int)+1-((b2:Int)+1)/2),_,_]=_
    rw[show((pi ps):Int)+1-((b2:Int)+1)/2=(pi (ps++[⟨b2,m⟩]):Int) by rw[tN];show _=((pi ps+1-(b2+1)/2:Nat):Int);omega]
 ·rintro ρ bx ⟨ps,o5,o6,rfl,rfl,hg,hle⟩
  rw[show(kA ds,some (nd,kA ds)).fst.length=ds.length by simp[kA]]at hle
  have hSle:=G5 ps
  refine nU (fun n ρ bx=>∃(ps:List Pl),ρ=[lO nd,lO md,some (.str pool),lO st.length,iO (pi ps),o5,o6]/\bx=st++[.lst (ps.map Pl.w)]/\OK ps/\ps.length+(pi ps)<=2*ds.length/\(pi ps)=n) (pi ps) ⟨ps,rfl,rfl,hg,by omega,rfl⟩ ?_ ?_
  ·rintro n ρ bx ⟨ps,rfl,rfl,hg,hle,rfl⟩
   by_cases h1:1<(pi ps)
   ·right
    have t1:decide ((1:Int)<((pi ps):Int))=true:=bn (by omega)
    constructor
    ·exact bO (bd kv bZ (iF t1))
    have hc:(st++[aj.lst (ps.map Pl.w)])[st.length]?=some (.lst (ps.map Pl.w)):=bg
    have dq:=gP (aK hc)
    rw[ai]at dq
    obtain⟨dm,edm⟩:=mix (ps.map Pl.w) ps.length (by omega)
    obtain⟨m,hm,em⟩:=yI pool hp (dm%64) (st++[aj.lst (ps.map Pl.w)])
    have hd3:pi (ps++[⟨3,m⟩])=(pi ps)-1:=by rw[tN];show(pi ps)+1-(3+1)/2=_;omega
    have ap:=oD (y:=(Pl.mk 3 m).w) hc (by rw[ai];show _<1000000;omega)
    rw[dN]at ap
    have ap:cy (.loc st.length) [.tup [.int 3,.str m]] (st++[aj.lst (ps.map Pl.w)])=_:=ap
    apply aB
    ·exact eW (jz kv (df hc) (aq (iE (aq bZ (aq (cI (aq kv (aq (bd (bd kv (bb kn dq) edm) bZ (gE (by decide))) bc)) em rfl) bc)) (bI rfl)) bc) ap)
    apply cY
    ·exact bQ (bd kv bZ (gE trivial))
    ·refine⟨_,_,rfl,(pi ps)-1,by omega,ps++[⟨3,m⟩],?_,by simp,hg.snoc (by omega) (by omega),by rw[hd3,aF];simp;omega,hd3⟩
     ·show[_,_,_,_,iO (((pi ps):Int)-1),_,_]=_
      rw[show((pi ps):Int)-1=(pi (ps++[⟨3,m⟩]):Int) by rw[hd3];omega]
   ·left
    have t1:decide ((1:Int)<((pi ps):Int))=false:=aV (by omega)
    exact bO (bd kv bZ (iF t1))
  ·rintro n ρ bx ⟨ps,rfl,rfl,hg,hle,rfl⟩ hno
   have hc:(st++[aj.lst (ps.map Pl.w)])[st.length]?=some (.lst (ps.map Pl.w)):=bg
   apply cU
   ·exact bb kn (fB (aK hc))
   ·exact⟨_,_,rfl,⟨_,rfl⟩,by simp only[undWs,b8];exact G6 ps _,ps,rfl,hg,by omega⟩
theorem G_{n0:Nat}{st:List aj}(h0:st[n0]?=some (.ro (ns.map W.int)))(a:Int)(pool:List Nat)(hp:pool.length<=50) :
  ∃ps,Wk ps/\BB [.loc n0,.int a,.str pool] st=.ok (Dk ps) st:=by
 suffices hh:gG (qp fun w bx=>(∃x,bx=st++x)/\undWs st.length [w]=true/\∃ps,w=Dk ps/\Wk ps) (Lq ([W.loc n0,.int a,.str pool].map some++List.replicate (6-3) none) st) by
  obtain⟨w,⟨ps,rfl,h1⟩,e⟩:=iW hh
  exact⟨ps,h1,e⟩
 obtain⟨c0,e0⟩:=mi h0 a
 obtain⟨hs,hhl,hhp,e1⟩:=jX c0 5000011 4 (by omega) st
 have e1:i6 [.int c0,.int 4,.int 5000011] st=_:=e1
 obtain⟨d0,d1,d2,d3,rfl⟩:∃a b c d,hs=[a,b,c,d]:=by
  match hs,hhl with
  |[a,b,c,d],_=>exact⟨_,_,_,_,rfl⟩
 apply aB
 ·exact bQ (cI (aq (cI (aq kv kn) e0 rfl) (aq bZ (aq bZ bc))) e1 rfl)
 generalize rq:st++[aj.lst ([d0,d1,d2,d3].map W.int)]=s1
 have k1:st <+: s1:=by rw[<- rq];exact ao _ _
 have hc1:s1[st.length]?=some (.lst (kA [d0,d1,d2,d3])):=by rw[<- rq];exact bg
 have i0:bp (.loc st.length) (.int 0) s1=.ok (.int d0) s1:=eG (i:=0) hc1 rfl
 have i1:bp (.loc st.length) (.int 1) s1=.ok (.int d1) s1:=eG (i:=1) hc1 rfl
 have i2:bp (.loc st.length) (.int 2) s1=.ok (.int d2) s1:=eG (i:=2) hc1 rfl
 clear e0 e1 rq
 apply aB
 ·exact bQ (bd (bd kv bZ i0) bZ (gE (by decide)))
 refine kN (fun ρ s=>∃k:Nat,k<=50/\ρ=[lO n0,iO a,some (.str pool),lO st.length,iO k,none]/\s=s1) ?_ ?_
 ·by_cases w1:d1%4=0
  ·have t1:(d1%4==0)=true:=b9.mpr w1
   obtain⟨q,hq,eq⟩:=fw (q:=d2) (n:=51) (by omega)
   have eq:d2%51=(q:Int):=eq
   apply kM
   ·exact bO (bd (bd (bd kv bZ i1) bZ (gE (by decide))) bZ (gF t1))
   apply cY
   ·exact bQ (bd (bd kv bZ i2) bZ (gE (by decide)))
   ·rw[eq];exact⟨_,_,rfl,q,by omega,rfl,rfl⟩
  ·have t1:(d1%4==0)=false:=aX.mpr w1
   obtain⟨q,hq,eq⟩:=fw (q:=d0) (n:=9) (by omega)
   have eq:d0%9=(q:Int):=eq
   apply hU
   ·exact bO (bd (bd (bd kv bZ i1) bZ (gE (by decide))) bZ (gF t1))
   apply cY
   ·exact sZ
   ·rw[eq];exact⟨_,_,rfl,q,by omega,rfl,rfl⟩
 rintro ρ s ⟨k,hk,rfl,rfl⟩
 have h1:=pre_get k1 h0
 obtain⟨c1,e2'⟩:=mi h1 (a+1)
 obtain⟨ds,Uz,hdp,e3⟩:=jX c1 6000011 k (by omega) s
 apply aB
 ·exact bQ (cI (aq (cI (aq kv (aq (bd kv bZ eD) bc)) e2' rfl) (aq kv (aq bZ bc))) e3 rfl)
 generalize vm:s++[aj.lst (ds.map W.int)]=s2
 have k2:s <+: s2:=by rw[<- vm];exact ao _ _
 have hc2:s2[s.length]?=some (.lst (kA ds)):=by rw[<- vm];exact bg
 obtain⟨j,x,ms,hml,hmp,hxj,eb⟩:=vg (pre_get (k1.trans k2) h0) (a+2) (2*k) 7000003 (by omega)
 rw[show((2*k:Nat):Int)=2*(k:Int) by omega]at eb
 obtain⟨ps,ht,ew⟩:=JZ (pool:=pool) (st:=s2++x) (nd:=s.length) (md:=s2.length+j) (ds:=ds) (ms:=ms) (aM hc2) (by rw[de];exact hxj) (by omega) (by omega) hdp hp
 obtain⟨y,rfl⟩:=k1.trans k2
 apply cU
 ·exact cI (aq kv (aq (cI (aq kv (aq (bd kv bZ eD) (aq (bd bZ kv (qF (.inl (by decide)))) (aq bZ bc)))) eb rfl) kn)) ew rfl
 ·exact⟨_,_,rfl,⟨_,by rw[av]⟩,by simp only[undWs,b8];exact G6 _ _,ps,rfl,ht⟩
def Dz(T:Nat->Nat->Nat->Nat)(nm:List Nat)(S:List Nat)(p:Pl):List Nat:=match p.b,S with
 |0,S=>T (iy p.m nm) 0 0::S
 |1,l::S=>T (iy p.m nm) l 0::S
 |2,r::S=>T (iy p.m nm) 0 r::S
 |3,r::l::S=>T (iy p.m nm) l r::S
 |_,S=>S
def uu(T:Nat->Nat->Nat->Nat)(nm:List Nat)(ps:List Pl):List Nat:=ps.foldl (Dz T nm) []
theorem tO(T:Nat->Nat->Nat->Nat)(nm:List Nat)(ps:List Pl)(p:Pl):uu T nm (ps++[p])=Dz T nm (uu T nm ps) p:=by unfold uu;rw[iu];rfl
def Pp(b:Nat)(S:List Nat)(l r:Nat)(S0:List Nat):Prop:=(b=0/\l=0/\r=0/\S=S0)\/(b=1/\r=0/\S=l::S0)\/(b=2/\l=0/\S=r::S0)\/(b=3/\S=r::l::S0)
theorem Ha{b:Nat}(h:b<=3)(h2:(b+1)/2<=S.length):∃l r S0,Pp b S l r S0/\S0.length+(b+1)/2=S.length:=by
 obtain rfl|rfl|rfl|rfl:b=0\/b=1\/b=2\/b=3:=by omega
 ·exact⟨0,0,S,.inl ⟨rfl,rfl,rfl,rfl⟩,by omega⟩
 ·cases S with
  |nil=>simp at h2
  |cons a S=>exact⟨a,0,S,.inr (.inl ⟨rfl,rfl,rfl⟩),by simp⟩
 ·cases S with
  |nil=>simp at h2
  |cons a S=>exact⟨0,a,S,.inr (.inr (.inl ⟨rfl,rfl,rfl⟩)),by simp⟩
 ·cases S with
  |nil=>simp at h2
  |cons a S=>
   cases S with
   |nil=>simp at h2
   |cons c S=>exact⟨c,a,S,.inr (.inr (.inr ⟨rfl,rfl⟩)),by simp⟩
theorem Am{nm:List Nat}{p:Pl}{S0:List Nat}{l r:Nat}(h:Pp p.b S l r S0):Dz T nm S p=T (iy p.m nm) l r::S0:=by
 obtain⟨b,m⟩:=p
 rcases h with⟨h1,rfl,rfl,rfl⟩|⟨h1,rfl,rfl⟩|⟨h1,rfl,rfl⟩|⟨h1,rfl⟩<;>(simp only at h1;subst h1;rfl)
theorem J0{T:Nat->Nat->Nat->Nat}{nm:List Nat}{ps:List Pl}(h:OK ps):∀i,i<=ps.length->(uu T nm (ps.take i)).length=pi (ps.take i):=by
 intro i
 induction i with
 |zero=>intro _;rfl
 |succ i ih=>
  intro hi
  have hp:=ac (l:=ps) (show i<ps.length by omega)
  obtain⟨h1,h2⟩:=h i _ hp
  have ih:=ih (by omega)
  obtain⟨l,r,S0,hP,hl⟩:=Ha (S:=uu T nm (ps.take i)) h1 (by omega)
  rw[nY hp,tO,tN,Am hP,a9]
  omega
theorem Um{M T:W}{b l r:Nat}{m:List Nat}{S0:List Nat}{st:List aj}{F:aj}(h:Pp b S l r S0){Q:RS->Prop}{rest:FS}
  (hr:gG Q (rest [some M,some T,lO st.length,lO (st.length+1),iO (b:Nat),some (.str m),iO (l:Nat),iO (r:Nat)] (st++[.lst (cC S0).reverse,F]))) :
  gG Q (aS (gY (eV (e2 II (ae 4) (eI 2))) (bJ 7 (n5 vO (ae 2) az)) b_) (aS (gY (eV (e2 ky (e2 dQ (ae 4) (eI 2)) (eI 1))) (bJ 6 (n5 vO (ae 2) az)) b_) rest) [some M,some T,lO st.length,lO (st.length+1),iO (b:Nat),some (.str m),iO 0,iO 0] (st++[.lst (cC S).reverse,F])):=by
 have pop:∀(a:Nat) (S:List Nat),(st++[aj.lst (cC (a::S)).reverse,F])[st.length]?=some (.lst ((cC S).reverse++[W.int (a:Nat)])):=fun a S=>by rw[ca];show some (aj.lst ((W.int (a:Nat)::cC S).reverse))=_;rw[List.reverse_cons]
 have set0:∀(c d:aj),(st++[c,F]).set st.length d=st++[d,F]:=fun c d=>by rw[dN];rfl
 have mo:∀(k:Int) (s:List aj),dQ (.int k) (.int 2) s=.ok (.int (k%2)) s:=fun k s=>gE (by decide)
 rcases h with⟨rfl,rfl,rfl,rfl⟩|⟨rfl,rfl,rfl⟩|⟨rfl,rfl,rfl⟩|⟨rfl,rfl⟩
 ·exact bC (bO (bd kv bZ (iF rfl))) (bR (bC (bO (bd (bd kv bZ (mo _ _)) bZ (gF rfl))) (bR hr)))
 ·refine bC (bO (bd kv bZ (iF rfl))) (bR (eF (bO (bd (bd kv bZ (mo _ _)) bZ (gF rfl))) (aB (bQ (jz kv (df (pop l S0)) bc (Bi (pop l S0)))) ?_)))
  rw[set0];exact hr
 ·refine eF (bO (bd kv bZ (iF rfl))) (aB (bQ (jz kv (df (pop r S0)) bc (Bi (pop r S0)))) (bC (bO (bd (bd kv bZ (mo _ _)) bZ (gF rfl))) (bR ?_)))
  rw[set0];exact hr
 ·refine eF (bO (bd kv bZ (iF rfl))) (aB (bQ (jz kv (df (pop r (l::S0))) bc (Bi (pop r (l::S0))))) (eF (bO (bd (bd kv bZ (mo _ _)) bZ (gF rfl))) ?_))
  rw[set0]
  refine aB (bQ (jz kv (df (pop l S0)) bc (Bi (pop l S0)))) ?_
  rw[set0];exact hr
section
variable{M:Mc}{ps:List Pl}
def n_(M:Mc)(ps:List Pl)(j:Nat):Nat:=(uu (bt M) M.nm (ps.take (j+1))).headD 0
theorem OL(hM:n9 M n)(hn:1<=n)(p:Pl)(h:∀a∈S,a<n):∀a∈Dz (bt M) M.nm S p,a<n:=by
 have T:∀l r,l<n->r<n->bt M (iy p.m M.nm) l r<n:=fun l r hl hr=>by
  obtain⟨_,_,_,z⟩:=oF hM (ac (show iy p.m M.nm<M.tb.length by rw[hM.tb];exact wD _ _)) hl hr
  exact z
 intro a ha
 by_cases hb:p.b<=3/\(p.b+1)/2<=S.length
 ·obtain⟨l,r,S0,hP,_⟩:=Ha hb.1 hb.2
  rw[Am hP]at ha
  have hs:l<n/\r<n/\∀a∈S0,a<n:=by
   rcases hP with⟨_,rfl,rfl,rfl⟩|⟨_,rfl,rfl⟩|⟨_,rfl,rfl⟩|⟨_,rfl⟩
   ·exact⟨hn,hn,h⟩
   ·exact⟨h _ (by simp),hn,fun a ha=>h a (by simp[ha])⟩
   ·exact⟨hn,h _ (by simp),fun a ha=>h a (by simp[ha])⟩
   ·exact⟨h _ (by simp),h _ (by simp),fun a ha=>h a (by simp[ha])⟩
  rcases aI.mp ha with z|z
  ·rw[z];exact T l r hs.1 hs.2.1
  ·exact hs.2.2 a z
 ·have:Dz (bt M) M.nm S p=S:=by
   obtain⟨b,m⟩:=p
   unfold Dz
   match b,S,hb with
   |0,S,hb=>exact(hb ⟨by simp,by simp⟩).elim
   |1,[],_=>rfl
   |1,_::_,hb=>exact(hb ⟨by simp,by simp⟩).elim
   |2,[],_=>rfl
   |2,_::_,hb=>exact(hb ⟨by simp,by simp⟩).elim
   |3,[],_=>rfl
   |3,[_],_=>rfl
   |3,_::_::_,hb=>exact(hb ⟨by simp,by simp⟩).elim
   |k+4,S,_=>rfl
  rw[this]at ha
  exact h a ha
theorem An(hM:n9 M n)(hn:1<=n):∀i,i<=ps.length->∀a∈uu (bt M) M.nm (ps.take i),a<n:=by
 intro i
 induction i with
 |zero=>intro _ a ha;cases ha
 |succ i ih=>
  intro hi
  rw[nY (ac (l:=ps) (show i<ps.length by omega)),tO]
  exact OL hM hn _ (ih (by omega))
theorem OM(hM:n9 M n)(hn:1<=n)(h:Wk ps)(st:List aj) :
  ∃x,BD [M.w,Dk ps] st=.ok (.loc (st.length+1)) (st++x)/\x[1]?=some (.lst ((List.range ps.length).map fun j=>W.int (n_ M ps j:Nat))):=by
 suffices hh:gG (qp fun w bx=>∃j x,w=.loc (st.length+j)/\bx=st++x/\j=1/\x[1]?=some (.lst ((List.range ps.length).map fun j=>W.int (n_ M ps j:Nat)))) (Ls ([M.w,Dk ps].map some++List.replicate (8-2) none) st) by
  obtain⟨j,x,⟨rfl,hx⟩,e⟩:=ij hh
  exact⟨x,e,hx⟩
 obtain⟨h,hl⟩:=h
 refine aB (bQ (u7 bc (bI rfl))) (aB (bQ (u7 bc (bI rfl))) ?_)
 rw[show(st++[aj.lst []]).length=st.length+1 by simp]
 refine cz (fun i ρ s=>∃(o4 o5 o6 o7:Option W),ρ=[some M.w,some (Dk ps),lO st.length,lO (st.length+1),o4,o5,o6,o7]/\s=st++[.lst (cC (uu (bt M) M.nm (ps.take i))).reverse,.lst ((List.range i).map fun j=>W.int (n_ M ps j:Nat))])
  (k:=(ps.map Pl.w,none)) (st1:=(st++[aj.lst []])++[aj.lst []]) (ii kv) ⟨none,none,none,none,rfl,by rw[av];rfl⟩ (fun _ _ _ _=>trivial) ?_ ?_
 ·rintro i w ρ s hw ⟨o4,o5,o6,o7,rfl,rfl⟩
  have hi:i<ps.length:=by have:=(aa.mp hw).1;simpa using this
  rw[ak]at hw
  obtain⟨p,hp,rfl⟩:=a6.mp hw
  obtain⟨b1,b2⟩:=h i p hp
  have dq:=J0 (T:=bt M) (nm:=M.nm) h i (by omega)
  obtain⟨l,r,S0,hP,hS0⟩:=Ha (S:=uu (bt M) M.nm (ps.take i)) b1 (by omega)
  have hlt:=An (ps:=ps) hM hn (i+1) hi
  have hd:=G5 (ps.take i)
  rw[a8]at hd
  refine⟨_,rfl,?_⟩
  refine aB (bQ bZ) (aB (bQ bZ) (Um hP ?_))
  have e1:uu (bt M) M.nm (ps.take (i+1))=bt M (iy p.m M.nm) l r::S0:=by rw[nY hp,tO,Am hP]
  have hs:l<n/\r<n:=by
   have h0:=An (ps:=ps) hM hn i (by omega)
   rcases hP with⟨_,rfl,rfl,_⟩|⟨_,rfl,e⟩|⟨_,rfl,e⟩|⟨_,e⟩
   ·exact⟨hn,hn⟩
   ·exact⟨h0 _ (by rw[e];simp),hn⟩
   ·exact⟨hn,h0 _ (by rw[e];simp)⟩
   ·exact⟨h0 _ (by rw[e];simp),h0 _ (by rw[e];simp)⟩
  have hk:iy p.m M.nm<M.tb.length:=by rw[hM.tb];exact wD _ _
  have ht:=ac hk
  obtain⟨row,t1,t2,_⟩:=oF hM ht hs.1 hs.2
  have mt:∀s:List aj,bp (.tup (M.tb.map dH)) (.int (iy p.m M.nm:Nat)) s=.ok (dH M.tb[iy p.m M.nm]) s:=fun s=>hJ (dg (by rw[ak,ht];rfl))
  generalize hfl:(aj.lst ((List.range i).map fun j=>W.int (n_ M ps j:Nat)))=fl
  have hc:(st++[aj.lst (cC S0).reverse,fl])[st.length]?=some (.lst (cC S0).reverse):=by rw[ca];rfl
  refine aB (eW (jz kv (df hc) (aq (bd (bd (bd kx (cI (aq kx kn) (Al M.nm p.m _) rfl) (mt _)) kv (p_ t1)) kv (qc t2)) bc) (oD hc (by rw[List.length_reverse,ai];show _<1000000;omega)))) ?_
  have e2:(cC S0).reverse++[W.int (bt M (iy p.m M.nm) l r:Nat)]=(cC (uu (bt M) M.nm (ps.take (i+1)))).reverse:=by rw[e1];show _=(W.int (bt M (iy p.m M.nm) l r:Nat)::cC S0).reverse;rw[List.reverse_cons]
  have e3:(st++[aj.lst (cC S0).reverse,fl]).set st.length (.lst ((cC S0).reverse++[W.int (bt M (iy p.m M.nm) l r:Nat)]))=st++[aj.lst (cC (uu (bt M) M.nm (ps.take (i+1)))).reverse,fl]:=by rw[dN,e2];rfl
  rw[e3]
  subst hfl
  have hc1:(st++[aj.lst (cC (uu (bt M) M.nm (ps.take (i+1)))).reverse,.lst ((List.range i).map fun j=>W.int (n_ M ps j:Nat))])[st.length]?=some (.lst (cC (uu (bt M) M.nm (ps.take (i+1)))).reverse):=by rw[ca];rfl
  have hc2:(st++[aj.lst (cC (uu (bt M) M.nm (ps.take (i+1)))).reverse,.lst ((List.range i).map fun j=>W.int (n_ M ps j:Nat))])[st.length+1]?=some (.lst ((List.range i).map fun j=>W.int (n_ M ps j:Nat))):=by rw[de];rfl
  have last:oP (cC (uu (bt M) M.nm (ps.take (i+1)))).reverse (-1)=some (.int (n_ M ps i:Nat)):=Fa (q:=0) (by rw[List.reverse_reverse];unfold n_;rw[e1];rfl)
  refine⟨_,_,eW (jz kv (df hc2) (aq (bd kv (E3 bZ) (jU (aK hc1) last)) bc) (oD hc2 (by rw[ai,cP];show _<1000000;omega))),_,_,_,_,rfl,?_⟩
  rw[ie,jq,cv];rfl
 ·rintro ρ s ⟨o4,o5,o6,o7,rfl,rfl⟩
  refine cU kv ⟨_,_,rfl,1,_,rfl,rfl,rfl,?_⟩
  rw[show(ps.map Pl.w,(none:Option (Nat×List W))).fst.length=ps.length by simp];rfl
def yJ(M:Mc)(ps:List Pl):Bool:=if ps.length=0 then gM M 0 else gM M (n_ M ps (ps.length-1))
theorem BW(hM:n9 M n)(hn:1<=n)(h:Wk ps)(st:List aj):yw [M.w,Dk ps] st=.ok (.bl (yJ M ps)) st:=by
 have gd:∀(x:Nat) (s:List aj),x<n->bp (.tup (M.gd.map W.bl)) (.int (x:Nat)) s=.ok (.bl (gM M x)) s:=fun x s hx=>hJ (dg (by
  rw[ak,ac (show x<M.gd.length by rw[hM.gd];exact hx)]
  unfold gM;rw[aE,ac (show x<M.gd.length by rw[hM.gd];exact hx)];rfl))
 have g1:∀s:List aj,bp M.w (.int 1) s=.ok (.tup (M.gd.map W.bl)) s:=fun _=>rfl
 refine iL (N:=2) (ws:=[M.w,Dk ps]) (body:=Lu) ?_ rfl
 unfold yJ
 by_cases z:ps.length=0
 ·rw[ay z]
  exact eF (bO (bd (bb kn (G7 ps st)) bZ (gF (by rw[z];rfl)))) (fG (bd (bd kv bZ (g1 _)) bZ (gd 0 _ hn)) ⟨_,_,rfl,rfl,[],by simp⟩)
 ·rw[aC z]
  refine bC (bO (bd (bb kn (G7 ps st)) bZ (gF (by rw[aX];omega)))) (bR ?_)
  obtain⟨x,e,hx⟩:=OM hM hn h st
  have hx2:(st++x)[st.length+1]?=some (.lst ((List.range ps.length).map fun j=>W.int (n_ M ps j:Nat))):=by rw[de];exact hx
  have last:oP ((List.range ps.length).map fun j=>W.int (n_ M ps j:Nat)) (-1)=some (.int (n_ M ps (ps.length-1):Nat)):=Fa (q:=0) (by
   obtain⟨k,hk⟩:∃k,ps.length=k+1:=⟨ps.length-1,by omega⟩
   rw[hk,jq,cv,List.reverse_append];rfl)
  have lt:n_ M ps (ps.length-1)<n:=by
   unfold n_
   have:=An (ps:=ps) hM hn (ps.length-1+1) (by omega)
   cases hr:uu (bt M) M.nm (ps.take (ps.length-1+1))with
   |nil=>exact hn
   |cons a S=>rw[hr]at this;exact this a (by simp)
  exact cU (bd (bd kv bZ (g1 _)) (bd (cI (aq kv kn) e rfl) (E3 bZ) (jU (aK hx2) last)) (gd _ _ lt)) ⟨_,_,rfl,rfl,_,rfl⟩
end
section
variable{M:Mc}{E:List Ro}{h:Nat->Nat}
theorem pq.pshB(l:pq M N E B h m rs)(p:Pl)(hS:∀a∈S,a∈fs E):Dz (bt (mB M E B h m)) M.nm (S.map B) p=(Dz (bt M) M.nm S p).map B/\∀a∈Dz (bt M) M.nm S p,a∈fs E:=by
 have hk:iy p.m M.nm<M.tb.length:=by rw[l.rm.ok.tb];exact wD _ _
 have T:∀{a b},a∈fs E->b∈fs E->bt (mB M E B h m) (iy p.m M.nm) (B a) (B b)=B (bt M (iy p.m M.nm) a b)/\bt M (iy p.m M.nm) a b∈fs E:=fun{a b} ha hb=>⟨l.hom hk ha hb,l.rm.cl _ hk _ ha _ hb⟩
 have z:=l.z
 have b0:=l.b0
 obtain⟨b,mm⟩:=p
 have one:∀{a c:Nat} {R:List Nat},a∈fs E->c∈fs E->(∀x∈R,x∈fs E)->bt (mB M E B h m) (iy mm M.nm) (B a) (B c)::R.map B=(bt M (iy mm M.nm) a c::R).map B/\∀x∈bt M (iy mm M.nm) a c::R,x∈fs E:=fun{a c R} ha hc hR=>by
  refine⟨by rw[aG,(T ha hc).1],fun x hx=>?_⟩
  rcases aI.mp hx with y|y
  ·rw[y];exact(T ha hc).2
  ·exact hR x y
 match b,S,hS with
 |0,S,hS=>have:=one z z hS;rw[b0]at this;exact this
 |1,[],hS=>exact⟨rfl,hS⟩
 |1,a::S,hS=>have:=one (R:=S) (hS a (by simp)) z (fun x hx=>hS x (by simp[hx]));rw[b0]at this;exact this
 |2,[],hS=>exact⟨rfl,hS⟩
 |2,a::S,hS=>have:=one (R:=S) z (hS a (by simp)) (fun x hx=>hS x (by simp[hx]));rw[b0]at this;exact this
 |3,[],hS=>exact⟨rfl,hS⟩
 |3,[_],hS=>exact⟨rfl,hS⟩
 |3,a::c::S,hS=>exact one (R:=S) (hS c (by simp)) (hS a (by simp)) (fun x hx=>hS x (by simp[hx]))
 |k+4,S,hS=>exact⟨rfl,hS⟩
theorem pq.rstB(l:pq M N E B h m rs)(ps:List Pl):uu (bt (mB M E B h m)) M.nm ps=(uu (bt M) M.nm ps).map B/\∀a∈uu (bt M) M.nm ps,a∈fs E:=by
 have key:∀(ps:List Pl) (S:List Nat),(∀a∈S,a∈fs E)->ps.foldl (Dz (bt (mB M E B h m)) M.nm) (S.map B)=(ps.foldl (Dz (bt M) M.nm) S).map B/\∀a∈ps.foldl (Dz (bt M) M.nm) S,a∈fs E:=by
  intro ps
  induction ps with
  |nil=>intro S hS;exact⟨rfl,hS⟩
  |cons p r ih=>
   intro S hS
   obtain⟨h1,h2⟩:=l.pshB p hS
   rw[gU,gU,h1]
   exact ih _ h2
 exact key ps [] fun a ha=>by cases ha
theorem pq.lets(l:pq M N E B h m rs)(ps:List Pl):yJ (mB M E B h m) ps=yJ M ps:=by
 unfold yJ
 by_cases z:ps.length=0
 ·rw[ay z,ay z]
  have:=l.gdB l.z
  rw[l.b0]at this;exact this
 ·rw[aC z,aC z]
  unfold n_
  obtain⟨h1,h2⟩:=l.rstB (ps.take (ps.length-1+1))
  rw[show(mB M E B h m).nm=M.nm from rfl,h1]
  cases hr:uu (bt M) M.nm (ps.take (ps.length-1+1))with
  |nil=>have:=l.gdB l.z;rw[l.b0]at this;exact this
  |cons a S=>rw[hr]at h2;exact l.gdB (h2 a (by simp))
end
theorem J1(l:List Int)(k:Int):k∈PyProof.Rows.firstMet (fun i=>l.getD i 0) l.length↔k∈l:=by
 have h:=PyProof.Rows.firstMet_any (fun i=>l.getD i 0) l.length k
 have e:(List.range l.length).map (fun i=>l.getD i 0)=l:=by
  refine iS (by simp) fun i h1 h2=>?_
  rw[dC,g9,aE,ac h2];rfl
 rw[e,gX,fV,fV]at h
 simpa using h
theorem Hb(v:Nat->Int):∀i,(PyProof.Rows.firstMet v i).Nodup
 |0=>by rw[PyProof.Rows.firstMet_zero];exact .nil
 |i+1=>by
  rw[PyProof.Rows.firstMet_succ]
  unfold PyProof.Rows.step_dedup
  have ih:=Hb v i
  split
  ·exact ih
  ·rename_i z
   rw[cR]
   refine⟨ih,by simp,fun a ha b hb e=>z ?_⟩
   rw[br]at hb
   rw[fV]
   exact⟨a,ha,by rw[e,hb];exact cH _⟩
theorem Sk{l:List Int}(h:∀k:Int,k∈l↔∃j:Nat,j<m/\k=(j:Int)):yb l=m:=by
 unfold yb
 have nd2:((List.range m).map fun j:Nat=>(j:Int)).Nodup:=gC.mpr (List.nodup_range.imp fun z y=>z (by omega))
 have p:=(ku (Hb (fun i=>l.getD i 0) l.length) nd2).mpr fun k=>by
  rw[J1,h,al]
  exact⟨fun⟨j,h1,h2⟩=>⟨j,bj.mpr h1,h2.symm⟩,fun⟨j,h1,h2⟩=>⟨j,bj.mp h1,h2.symm⟩⟩
 rw[p.length_eq];simp
section
variable{M:Mc}{E:List Ro}{h:Nat->Nat}
theorem LC(hM:n9 M n){x:Nat}(hx:x<n)(s:List aj):bp (.tup (M.gd.map W.bl)) (.int (x:Nat)) s=.ok (.bl (gM M x)) s:=hJ (dg (by
 rw[ak,ac (show x<M.gd.length by rw[hM.gd];exact hx)]
 unfold gM;rw[aE,ac (show x<M.gd.length by rw[hM.gd];exact hx)];rfl))
theorem J2(l:pq M N E B h m rs)(PJ:1<=N)(hN:N<=20)(hL:M.tb.length<=64)(st:List aj):BF [M.w,(mB M E B h m).w,lr B rs] st=.ok (.bl true) st:=by
 have hM:=l.rm.ok
 obtain⟨hmN,hm1⟩:=l.m_le
 obtain⟨mt,y,hmt,jc,em⟩:=OJ (st:=st) hM PJ (by omega)
 obtain⟨Px,hs',hp',hu'⟩:=LA hmt.nd
 have hrs':Dg M N Px:=⟨hu',hp'.mem_iff.mpr (by obtain⟨r,e⟩:=hmt.zero;rw[e];exact aQ),fun a ha=>hmt.lt a (hp'.mem_iff.mp ha),fun k hk a ha b hb=>hp'.mem_iff.mpr (jc k hk a (hp'.mem_iff.mp ha) b (hp'.mem_iff.mp hb)),fun C c0 cc a ha=>hmt.least C c0 cc a (hp'.mem_iff.mp ha)⟩
 obtain rfl:=l.rso.one hrs'
 have hml:=hmt.len
 have hrl:rs.length<=20:=by rw[l.perm.length_eq,ai];have:=l.full.told.len;omega
 have kE:=GU l.up
 have es:=BS (st:=st++.lst (cC mt)::y) (n:=st.length) (l:=mt) (by rw[ca];rfl) (by omega) hs'
 refine iL (N:=11) (ws:=[M.w,(mB M E B h m).w,lr B rs]) (body:=Lw) ?_ rfl
 refine aB (bQ (bb (aq (cI kn em rfl) bc) es)) ?_
 have cs:(st++.lst (cC mt)::y++[aj.lst (cC rs)])[(st++.lst (cC mt)::y).length]?=some (.lst (cC rs)):=bg
 obtain⟨z,hz⟩:∃z,st++.lst (cC mt)::y++[aj.lst (cC rs)]=st++z:=⟨_,by rw[av]⟩
 generalize (st++.lst (cC mt)::y).length=p at cs ⊢
 generalize st++.lst (cC mt)::y++[aj.lst (cC rs)]=S at cs hz ⊢
 have ln:∀x,cS [.loc p] (S++x)=.ok (.int (rs.length:Nat)) (S++x):=fun x=>by rw[gP (aK (aM cs)),ai]
 have lp:∀s:List aj,cS [lr B rs] s=.ok (.int (rs.length:Nat)) s:=fun s=>by unfold lr;rw[jV,ai]
 have ln0:=ln []
 rw[bU]at ln0
 refine bC (eE (i5 (bO (jT kv rfl rfl)) rfl) (bO (bd (bb kn (lp _)) (bb kn ln0) (pX (k:=false) (by rw[cH];rfl))))) (bR ?_)
 refine aB (bQ rfl) ?_
 refine cz (fun i ρ s=>∃o5,ρ=[some M.w,some (mB M E B h m).w,some (lr B rs),lO p,lO S.length,o5,none,none,none,none,none]/\s=S++[.dct (iw B (rs.take i))]) (c9 (q:=(rs.length:Int)) (st1:=S++[.dct []]) (aq (bb kn (ln _)) bc) (by omega)) ⟨_,rfl,rfl⟩ (fun _ _ _ _=>trivial) ?_ ?_
 ·rintro i w ρ s hw ⟨o5,rfl,rfl⟩
  obtain⟨hi,rfl⟩:=eZ hw
  have hi:i<rs.length:=by simpa using hi
  rw[eX]
  obtain⟨a,ha⟩:∃a,rs[i]?=some a:=⟨_,ac hi⟩
  have ir:∀s:List aj,bp (lr B rs) (.int (i:Nat)) s=.ok (.tup [.int (a:Nat),.int (B a:Nat)]) s:=fun s=>hJ (dg (by rw[ak,ha];rfl))
  have im:bp (.loc p) (.int (i:Nat)) (S++[.dct (iw B (rs.take i))])=.ok (.int (a:Nat)) (S++[.dct (iw B (rs.take i))]):=jU (aK (aM cs)) (dg (by rw[ak,ha];rfl))
  have g0:∀s:List aj,bp (.tup [.int (a:Nat),.int (B a:Nat)]) (.int 0) s=.ok (.int (a:Nat)) s:=fun _=>rfl
  have g1:∀s:List aj,bp (.tup [.int (a:Nat),.int (B a:Nat)]) (.int 1) s=.ok (.int (B a:Nat)) s:=fun _=>rfl
  refine⟨_,rfl,bC (eE (i5 (bO (jT (bd kv kv (ir _)) rfl rfl)) rfl) (eE (bO (bd (bb (aq (bd kv kv (ir _)) bc) (w:=.int 2) rfl) bZ (pX rfl))) (i5 (a:=true) (bO (cI (aq (bd (bd kv kv (ir _)) bZ (g0 _)) (aq (bd kv kv im) bc)) (tM _ 39 _) rfl)) rfl))) (bR ?_)⟩
  refine bC (eE (i5 (bO (jT (bd (bd kv kv (ir _)) bZ (g1 _)) rfl rfl)) rfl) (bO (jT (bd (bd kv kv (ir _)) bZ (g1 _)) rfl rfl))) (bR ?_)
  refine⟨_,_,lK (bd (bd kv kv (ir _)) bZ (g1 _)) kv (bd kv kv im) (Ai (V:=fun a=>W.int (B a:Nat)) kE ha (by omega) bg),_,rfl,?_⟩
  rw[dN];rfl
 rintro ρ s ⟨o5,rfl,rfl⟩
 rw[show(bM 0 (rs.length:Int).toNat,(none:Option (Nat×List W))).fst.length=rs.length by simp[bB],fX]
 have ct:(S++[aj.dct (iw B rs)])[S.length]?=some (.dct (iw B rs)):=bg
 have cm:=aM (x:=[aj.dct (iw B rs)]) cs
 obtain⟨z2,hz2⟩:∃z,S++[aj.dct (iw B rs)]=st++z:=⟨_,by rw[hz,av]⟩
 generalize S.length=q at ct ⊢
 generalize S++[aj.dct (iw B rs)]=S2 at ct cm hz2 ⊢
 have ix:∀{a:Nat} {x:List aj},a∈rs->gS (.loc q) (.int (a:Nat)) (S2++x)=.ok (.int (B a:Nat)) (S2++x):=fun ha=>oE (fM (aM ct)) (jY (V:=fun a=>W.int (B a:Nat)) kE ha)
 have ix0:∀{a:Nat},a∈rs->gS (.loc q) (.int (a:Nat)) S2=.ok (.int (B a:Nat)) S2:=fun{a} ha=>by have:=ix (x:=[]) ha;rwa[bU]at this
 have lg:∀s:List aj,cS [.tup ((mB M E B h m).gd.map W.bl)] s=.ok (.int (m:Nat)) s:=fun _=>by rw[jV,ai,l.okB.gd]
 have q1:∀s:List aj,bp (mB M E B h m).w (.int 1) s=.ok (.tup ((mB M E B h m).gd.map W.bl)) s:=fun _=>rfl
 have q2:∀s:List aj,bp (mB M E B h m).w (.int 2) s=.ok (.tup ((mB M E B h m).tb.map dH)) s:=fun _=>rfl
 refine cz (k:=(cC rs,some (p,cC rs))) (fun i ρ s=>∃o6,ρ=[some M.w,some (mB M E B h m).w,some (lr B rs),lO p,lO q,o5,o6,none,none,none,none]/\s=S2) (fq kv (aK cm)) ⟨_,rfl,rfl⟩ ?_ ?_ ?_
 ·rintro i ρ s ⟨o6,rfl,rfl⟩
  exact aK cm
 ·rintro i w ρ s hw ⟨o6,rfl,rfl⟩
  obtain⟨a,ha,rfl⟩:=al.mp (am hw)
  have haE:=l.mem.mpr ha
  have hb:=l.blt haE
  have c1:decide (((B a:Nat):Int)<0)=false:=aV (by omega)
  have c2:decide ((m:Int)<=((B a:Nat):Int))=false:=aV (by omega)
  have Ds:II (.int (B a:Nat)) (.int (m:Nat)) s=.ok (.bl false) s:=E8 c2
  have lu:uf (.bl (gM (mB M E B h m) (B a))) (.bl (gM M a)) s=.ok (.bl false) s:=by rw[l.gdB haE];cases gM M a<;>rfl
  refine⟨_,rfl,bC (eE (bO (bd (bd kv kv (ix0 ha)) bZ (iF c1))) (bO (bd (bd kv kv (ix0 ha)) (bb (aq (bd kv bZ (q1 _)) bc) (lg _)) Ds))) (bR ?_)⟩
  exact hU (bO (bd (bd (bd kv bZ (q1 _)) (bd kv kv (ix0 ha)) (LC l.okB hb _)) (bd kx kv (LC hM (l.rm.lt a haE) _)) lu)) ⟨_,_,rfl,_,rfl,rfl⟩
 rintro ρ s ⟨o6,rfl,rfl⟩
 have lt:cS [.tup (M.tb.map dH)] s=.ok (.int (M.tb.length:Nat)) s:=by rw[jV,ai]
 refine cz (fun i ρ s'=>∃o7 o8 o9 m7,ρ=[some M.w,some (mB M E B h m).w,some (lr B rs),lO p,lO q,o5,o6,o7,o8,o9,m7]/\s'=s) (c9 (q:=(M.tb.length:Int)) (aq (bb (aq kx bc) lt) bc) (by omega)) ⟨_,_,_,_,rfl,rfl⟩ (fun _ _ _ _=>trivial) ?_ ?_
 ·rintro k w ρ s' hw ⟨o7,o8,o9,m7,rfl,rfl⟩
  obtain⟨hk,rfl⟩:=eZ hw
  have hk:k<M.tb.length:=by simpa using hk
  rw[eX]
  have ht:=ac hk
  have DA:k<(mB M E B h m).tb.length:=by rw[GZ];exact hk
  have DD:=ac DA
  have xt:bp (.tup (M.tb.map dH)) (.int (k:Nat)) s'=.ok (dH M.tb[k]) s':=hJ (dg (by rw[ak,ht];rfl))
  have xt2:bp (.tup ((mB M E B h m).tb.map dH)) (.int (k:Nat)) s'=.ok (dH (mB M E B h m).tb[k]) s':=hJ (dg (by rw[ak,DD];rfl))
  refine⟨_,rfl,qg (k:=(cC rs,some (p,cC rs))) (fun i ρ s=>∃o8 o9 m7,ρ=[some M.w,some (mB M E B h m).w,some (lr B rs),lO p,lO q,o5,o6,iO (k:Nat),o8,o9,m7]/\s=s') (fq kv (aK cm)) ⟨_,_,_,rfl,rfl⟩ ?_ ?_ ?_⟩
  ·rintro i ρ s ⟨o8,o9,m7,rfl,rfl⟩
   exact aK cm
  ·rintro i w ρ s hw ⟨o8,o9,m7,rfl,rfl⟩
   obtain⟨a,ha,rfl⟩:=al.mp (am hw)
   have haE:=l.mem.mpr ha
   refine⟨_,rfl,qg (k:=(cC rs,some (p,cC rs))) (fun i ρ s'=>∃o9 m7,ρ=[some M.w,some (mB M E B h m).w,some (lr B rs),lO p,lO q,o5,o6,iO (k:Nat),iO (a:Nat),o9,m7]/\s'=s) (fq kv (aK cm)) ⟨_,_,rfl,rfl⟩ ?_ ?_ ?_⟩
   ·rintro i ρ s ⟨o9,m7,rfl,rfl⟩
    exact aK cm
   ·rintro i w ρ s' hw ⟨o9,m7,rfl,rfl⟩
    obtain⟨b,hb,rfl⟩:=al.mp (am hw)
    have hbE:=l.mem.mpr hb
    obtain⟨row,t1,t2,_⟩:=oF hM ht (l.rm.lt a haE) (l.rm.lt b hbE)
    obtain⟨row2,u1,u2,_⟩:=oF l.okB DD (l.blt haE) (l.blt hbE)
    have hT:=l.mem.mp (l.rm.cl k hk a haE b hbE)
    have lu:uf (.int (B (bt M k a b):Nat)) (.int (bt (mB M E B h m) k (B a) (B b):Nat)) s'=.ok (.bl false) s':=pX (by rw[l.hom hk haE hbE,cH];rfl)
    refine⟨_,rfl,aB (bQ (bd (bd (bd (bd kv bZ (q2 _)) kv xt2) (bd kv kv (ix0 ha)) (p_ u1)) (bd kv kv (ix0 hb)) (qc u2))) ?_⟩
    exact hU (bO (bd (bd kv (bd (bd (bd kx kv xt) kv (p_ t1)) kv (qc t2)) (ix0 hT)) kv lu)) ⟨_,_,rfl,_,_,rfl,rfl⟩
   ·rintro ρ s' ⟨o9,m7,rfl,rfl⟩
    exact⟨_,_,rfl,_,_,_,rfl,rfl⟩
  ·rintro ρ s ⟨o8,o9,m7,rfl,rfl⟩
   exact⟨_,_,rfl,_,_,_,_,rfl,rfl⟩
 rintro ρ s' ⟨o7,o8,o9,m7,rfl,rfl⟩
 have e0:ky (.int (B 0:Nat)) (.int 0) s'=.ok (.bl true) s':=gF (by rw[l.b0];rfl)
 have ec:=gu (cap:=[none,some 4]) (fi:=cx (ae 3)) (f:=eB 0) (el:=e2 gS (ae 1) (ae 0)) (ρ:=[some M.w,some (mB M E B h m).w,some (lr B rs),lO p,lO q,o5,o6,o7,o8,o9,m7]) (st:=s') (st1:=s') (fun w=>W.int (B (Pv w):Nat)) (fq kv (aK cm)) (by rw[ai];show _<=1000000;omega) (aK cm) fun w hw=>by
  obtain⟨a,ha,rfl⟩:=al.mp hw
  exact⟨_,rfl,bd kv kv (ix0 ha)⟩
 have ee:(cC rs).map (fun w=>W.int (B (Pv w):Nat))=(rs.map fun a=>((B a:Nat):Int)).map W.int:=by
  unfold cC
  rw[aT,aT]
  refine bq fun a _=>?_
  show W.int (B (((a:Nat):Int).toNat):Nat)=_
  rw[aO];rfl
 rw[ee]at ec
 have sn:yb (rs.map fun a=>((B a:Nat):Int))=m:=Sk fun k=>by
  rw[al]
  constructor
  ·rintro⟨a,ha,rfl⟩
   exact⟨B a,l.blt (l.mem.mpr ha),rfl⟩
  ·rintro⟨j,hj,rfl⟩
   obtain⟨_,g1,g2⟩:=l.can.at' hj
   exact⟨_,l.mem.mp g1,by rw[g2]⟩
 have es2:rJ (c_ [none,some 4] (cx (ae 3)) (eB 0) gR (e2 gS (ae 1) (ae 0))) [some M.w,some (mB M E B h m).w,some (lr B rs),lO p,lO q,o5,o6,o7,o8,o9,m7] s'=.ok (.int (m:Nat)) (s'++[.lst ((rs.map fun a=>((B a:Nat):Int)).map W.int)]):=by
  unfold rJ
  rw[ec]
  simp only[R.bind_ok,aK bg,cw,nG]
  rw[ay (by rw[ai];omega),sn]
 refine cU (pW (bd (bd kv bZ (ix0 l.rso.zero)) bZ e0) (bd es2 (bb (aq (bd kv bZ (q1 _)) bc) (lg _)) (gF (cH _)))) ⟨_,_,rfl,rfl,?_⟩
 exact⟨_,by rw[hz2,av]⟩
end
theorem Hc(B:Nat->Nat)(rs:List Nat)(hl:rs.length<=1000)(k:Nat)(st:List aj):hV (k+3) [lr B rs,lr B rs] st=.ok (.bl true) st:=by
 refine i8 (k:=k+2) (by simpa using hl) fun w hw=>?_
 obtain⟨a,_,rfl⟩:=al.mp hw
 refine i8 (k:=k+1) (by simp) fun w hw=>?_
 simp at hw
 rcases hw with rfl|rfl<;>exact tM _ _ _
theorem Hd{M:Mc}(hM:n9 M n)(hn:n<=100)(hL:M.tb.length<=64)(k:Nat)(st:List aj):hV (k+5) [M.w,M.w] st=.ok (.bl true) st:=by
 refine JV M k (by rw[hM.gd];omega) (by omega) (fun t ht=>?_) st
 obtain⟨t1,t2⟩:=hM.t t ht
 exact⟨by omega,fun r hr=>by rw[(t2 r hr).1];omega⟩
theorem U'(ns:List Int):fz (.ro (ns.map W.int)::rh tabL):=fun d hd c=>by
 simp only[rh,tabL,List.map,aI,lX,or_false]at hd
 rcases hd with rfl|rfl|rfl<;>rfl
theorem law_ok:EA (rh tabL) f_q36:=by
 intro ns Hr
 suffices hh:gG (qp fun w bx=>w=.bl true) (Lx ([W.loc 0].map some++List.replicate (6-1) none) (.ro (ns.map W.int)::rh tabL)) by
  obtain⟨w,bx,e,rfl⟩:=hh
  exact⟨_,rK e⟩
 have h0:(aj.ro (ns.map W.int)::rh tabL)[0]?=some (.ro (ns.map W.int)):=rfl
 have ht:(aj.ro (ns.map W.int)::rh tabL)[1]?=some Se:=rfl
 have DD:(aj.ro (ns.map W.int)::rh tabL)[2]?=some OG:=rfl
 have OP:=U' ns
 generalize PD:(aj.ro (ns.map W.int)::rh tabL:List aj)=s0 at h0 ht DD OP
 obtain⟨c0,e0⟩:=mi h0 0
 obtain⟨pool,qh,hpd,_,e1⟩:=Jv c0 2000003 6 (by omega) s0
 refine aB (bQ (cI (aq (cI (aq kv (aq bZ bc)) e0 rfl) (aq bZ (aq bZ bc))) e1 rfl)) ?_
 obtain⟨M,n,hM,hn1,DC,y6,hsz,_,ea⟩:=Op h0 1 pool (by omega) (by omega)
 refine aB (bQ (cI (aq kv (aq bZ kn)) ea rfl)) ?_
 refine kN (fun ρ S=>∃(M3:Mc) (n3:Nat) (x:List aj),n9 M3 n3/\1<=n3/\n3<=20/\M3.tb.length*(2*n3)<=10000/\M3.tb.length<=64/\M3.nm.length<=20/\fz x/\S=s0++x/\ρ=[lO 0,some (.str pool),some M3.w,none,none,none]) ?_ ?_
 ·obtain⟨c2,e2'⟩:=mi h0 40
  obtain⟨hs,hhl,_,e3⟩:=jX c2 8000009 1 (by omega) s0
  obtain⟨d,rfl⟩:∃a,hs=[a]:=by
   match hs,hhl with
   |[a],_=>exact⟨_,rfl⟩
  have i0:bp (.loc s0.length) (.int 0) (s0++[.lst ([d].map W.int)])=.ok (.int d) (s0++[.lst ([d].map W.int)]):=eG (i:=0) (ds:=[d]) bg rfl
  obtain⟨q,hq,eq⟩:=fw (q:=d) (n:=8) (by omega)
  have mo:dQ (.int d) (.int 8) (s0++[.lst ([d].map W.int)])=.ok (.int (q:Nat)) (s0++[.lst ([d].map W.int)]):=by
   have:d%8=(q:Int):=eq
   rw[<- this];exact gE (by decide)
  have tsx:eV (e2 ky (e2 dQ (e2 bp (c8 3 i6 (ag (c8 2 kO (ag (ae 0) (ag (eI 40) az))) (ag (eI 1) (ag (eI 8000009) az)))) (eI 0)) (eI 8)) (eI 3)) [lO 0,some (.str pool),some M.w,none,none,none] s0=.ok ((q:Int)==3) (s0++[.lst ([d].map W.int)]):=bO (bd (bd (bd (cI (aq (cI (aq kv (aq bZ bc)) e2' rfl) (aq bZ (aq bZ bc))) e3 rfl) bZ i0) bZ mo) bZ (gF rfl))
  cases hdec:((q:Int)==3)with
  |true=>
   rw[hdec]at tsx
   obtain⟨c3,e4⟩:=mi (aM (x:=[.lst ([d].map W.int)]) h0) 41
   obtain⟨hs3,hhl3,_,e5⟩:=jX c3 9000011 50 (by omega) (s0++[.lst ([d].map W.int)])
   obtain⟨M3,n3,hM3,h12,h20,hnm3,e6⟩:=Dj (dl:=(s0++[aj.lst ([d].map W.int)]).length) (ds:=hs3) (st:=s0++[.lst ([d].map W.int)]++[.lst (hs3.map W.int)]) bg hhl3
   have hl1:M3.tb.length=1:=by rw[hM3.tb,hnm3];rfl
   refine kM tsx ⟨_,_,bQ (cI (aq (cI (aq (cI (aq kv (aq bZ bc)) e4 rfl) (aq bZ (aq bZ bc))) e5 rfl) bc) e6 rfl),M3,n3,_,hM3,by omega,h20,by rw[hl1];omega,by omega,by rw[hnm3];simp,?_,by rw[av],rfl⟩
   exact i7 (wT (fun _=>rfl) y0) (wT (fun _=>rfl) y0)
  |false=>
   rw[hdec]at tsx
   have a:2^M.nm.length*n<=n*n*2^M.nm.length:=by
    rw[Nat.mul_comm (n*n)]
    exact Nat.mul_le_mul_left _ (Nat.le_mul_of_pos_right _ hn1)
   have b:2^M.nm.length<=2^6:=gK (by omega) (by omega)
   refine hU tsx ⟨_,_,rfl,M,n,_,hM,hn1,by omega,?_,by rw[hM.tb];omega,by omega,wT (fun _=>rfl) y0,rfl,rfl⟩
   rw[hM.tb,show 2^M.nm.length*(2*n)=2*(2^M.nm.length*n) by rw[Nat.mul_left_comm]]
   omega
 rintro ρ S ⟨M,N,x,hM,h1,h20,hsz,hL,y6,npx,rfl,rfl⟩
 have OP:=i7 OP npx
 have ht:=aM (x:=x) ht
 have DD:=aM (x:=x) DD
 have h0:=aM (x:=x) h0
 generalize s0++x=S at OP ht DD h0
 obtain⟨E,B,h,m,rs,l,el⟩:=GY hM h1 (by omega) hsz hL OP ht DD
 obtain⟨hmN,hm1⟩:=l.m_le
 refine aB (bQ (cI kn el rfl)) ?_
 refine bC (eE (i5 (bO (jT kv rfl rfl)) rfl) (bO (bd (bb kn (w:=.int 2) rfl) bZ (pX rfl)))) (bR ?_)
 have ef:=JU l.okB hm1 (by omega) y6 S
 have g0:bp (ur M E B h m rs) (.int 0) S=.ok (mB M E B h m).w S:=rfl
 have g1:bp (ur M E B h m rs) (.int 1) S=.ok (lr B rs) S:=rfl
 have gn:bp M.w (.int 0) S=.ok (.str (mB M E B h m).nm) S:=rfl
 refine bC (i5 (a:=true) (bO (cI (aq (bd kv bZ g0) (aq (bd kv bZ gn) bc)) ef rfl)) rfl) (bR ?_)
 refine bC (i5 (a:=true) (bO (cI (aq kv (aq (bd kv bZ g0) (aq (bd kv bZ g1) bc))) (J2 l h1 h20 hL S) rfl)) rfl) (bR ?_)
 refine cz (k:=([W.int 20,W.int 30],none)) (fun i ρ s=>∃o4 o5,ρ=[lO 0,some (.str pool),some M.w,some (ur M E B h m rs),o4,o5]/\s=S) (ii (iE (aq bZ (aq bZ bc)) (by show 2<=1000000;decide))) ⟨_,_,rfl,rfl⟩ (fun _ _ _ _=>trivial) ?_ ?_
 ·rintro i w ρ s hw ⟨o4,o5,rfl,rfl⟩
  obtain⟨a,rfl⟩:∃a,w=.int a:=by
   have:=am hw
   simp at this
   rcases this with rfl|rfl<;>exact⟨_,rfl⟩
  obtain⟨ps,hw,eg⟩:=G_ h0 a pool (by omega)
  refine⟨_,rfl,aB (bQ (cI (aq kv (aq kv kn)) eg rfl)) ?_⟩
  have lu:uf (.bl (yJ (mB M E B h m) ps)) (.bl (yJ M ps)) s=.ok (.bl false) s:=by rw[l.lets];cases yJ M ps<;>rfl
  exact hU (bO (bd (cI (aq (bd kv bZ g0) kn) (BW l.okB hm1 hw s) rfl) (cI (aq kv kn) (BW hM h1 hw s) rfl) lu)) ⟨_,_,rfl,_,_,rfl,rfl⟩
 rintro ρ s ⟨o4,o5,rfl,rfl⟩
 have hrl:rs.length<=20:=by rw[l.perm.length_eq,ai];have:=l.full.told.len;omega
 have s3:hV 40 [ur M E B h m rs,ur M E B h m rs] s=.ok (.bl true) s:=i8 (k:=39) (by simp) fun w hw=>by
  rcases aI.mp hw with rfl|hw
  ·exact Hd l.okB (by omega) (by rw[GZ];exact hL) 34 s
  ·rw[br.mp hw];exact Hc B rs (by omega) 36 s
 exact cU (cI (aq (cI kn el rfl) kn) s3 rfl) ⟨_,_,rfl,rfl⟩
theorem all_mk{l:PySem.W.OpenLaw}{w:World}{fa:Addr}(X:K.In h)(G:h.Ns mainGlobals mg)(Vl:mg "law"=some (.ref fa))
  {Hy As Az:Addr} {SR Sz O_ OV OR Hu:Option Addr} {S9 OS O7:Array (Option Value)} {So Sn S5 SX SU OY O0 Pd OT Pe OQ Hf Hg Hq Aq Hi:Value} {jA kQ:Addr}
  (Ax:DefIn K "table_by" NL)
  (wE:DefIn K "pairs_with" NM)
  (Ao:DefIn K "numbered" NN)
  (uB:DefIn K "good_blocks" NO)
  (Ay:DefIn K "views_of" NP)
  (tP:DefIn K "split_blocks" NQ)
  (Aw:DefIn K "put_ways" NR)
  (ux:DefIn K "last_blocks" NS)
  (AB:DefIn K "heads_of" NT)
  (Ap:DefIn K "_law_met" Ff)
  (yQ:DefIn K "_law_same" Fh)
  (wG:DefIn K "_law_mixed" Fk)
  (wI:DefIn K "_law_draws" Fm)
  (yU:DefIn K "_law_pool" Fq)
  (yP:DefIn K "_law_cell" Ft)
  (wL:DefIn K "_law_shape" Fv)
  (wF:DefIn K "_law_names" Fx)
  (uz:DefIn K "_law_blocks" Fz)
  (wN:DefIn K "_law_grown" FC)
  (uy:DefIn K "_law_graded" FF)
  (tV:DefIn K "_law_spotted" FJ)
  (wQ:DefIn K "_law_blown" FL)
  (wO:DefIn K "_law_owner" FN)
  (tU:DefIn K "_law_machine" FR)
  (Ar:DefIn K "_law_any" FV)
  (yS:DefIn K "_law_fits" FX)
  (wH:DefIn K "_law_marks" FZ)
  (yT:DefIn K "_law_wood" F1)
  (wJ:DefIn K "_law_grove" F3)
  (uv:DefIn K "_law_letter" F5)
  (At:DefIn K "_law_run" F7)
  (yO:DefIn K "_law_lets" F9)
  (uw:DefIn K "_law_ladder" F')
  (yM:DefIn K "_law_tied" Ga)
  (UC:nsIn K mainGlobals "firsts_of"=some (some (.ref Hy)))
  (Uq:K.lookup Hy=some ⟨So,SR,.func (fnOf "firsts_of" "firsts_of" (dS C4) (dU C4) (aR C4) .none Sn S5 SX Sz (.ref jA) SU),S9⟩)
  (Hw:codeIn K (.ref jA) "firsts_of"=true)
  (Up:keepIn K (.ref Hy)=true)
  (tc_firsts_of:codeHdIn K jA 59=true)
  (tk_firsts_of:K.lookup 59=none)
  (Sw:nsIn K mainGlobals "least_of"=some (some (.ref As)))
  (SN:K.lookup As=some ⟨OY,O_,.func (fnOf "least_of" "least_of" (dS tj) (dU tj) (aR tj) .none O0 Pd OT OV (.ref kQ) Pe),OS⟩)
  (Dt:codeIn K (.ref kQ) "least_of"=true)
  (Sv:keepIn K (.ref As)=true)
  (tc_least_of:codeHdIn K kQ 80=true)
  (tk_least_of:K.lookup 80=none)
  (LX:nsIn K mainGlobals "law"=some (some (.ref Az)))
  (SQ:K.lookup Az=some ⟨OQ,OR,.func (fnOf "law" "law" (dS pY) (dU pY) (aR pY) .none Hf Hg Hq Hu Aq Hi),O7⟩)
  (Do:codeIn K Aq "law"=true)
  (Sl:keepIn K (.ref Az)=true)
  (O3:nsIn K mainGlobals "bool"=some none)
  (yZ:nsIn K mainGlobals "enumerate"=some none)
  (SM:nsIn K mainGlobals "int"=some none)
  (wR:nsIn K mainGlobals "isinstance"=some none)
  (SY:nsIn K mainGlobals "len"=some none)
  (OX:nsIn K mainGlobals "list"=some none)
  (SJ:nsIn K mainGlobals "max"=some none)
  (SV:nsIn K mainGlobals "min"=some none)
  (Ka:nsIn K mainGlobals "range"=some none)
  (SZ:nsIn K mainGlobals "set"=some none)
  (Hs:nsIn K mainGlobals "sorted"=some none)
  (Ss:nsIn K mainGlobals "str"=some none)
  (Kb:nsIn K mainGlobals "tuple"=some none) :
  ∃fd:FuncData,(∀(s:Shared) (v:Value),BindsTo s fd ⟨[v],[]⟩ [("_law_script",v)])/\∀base:Heap,K.In base->base.Ns mainGlobals mg->rg base mg->eQ l.prog w K mg base (iU l.prog w) 42 fa fd Gb (jN K mg 1 f_q36):=by
 have e:=Vl.symm.trans (mg_of X G LX)
 cases e
 have F_q7:=vC (st:=C4) Uq Hw Up
 have m_q7:=mg_of X G UC
 have F_q10:=vC (st:=tj) SN Dt Sv
 have m_q10:=mg_of X G Sw
 obtain⟨_,_,vo,yK⟩:=yQ.fn X G
 have F_q36:=vC (st:=pY) SQ Do Sl
 have m_q36:=mg_of X G LX
 have B:Bl mg:=⟨mg_none_of X G O3,mg_none_of X G yZ,mg_none_of X G SM,mg_none_of X G wR,mg_none_of X G SY,mg_none_of X G OX,mg_none_of X G SJ,mg_none_of X G SV,mg_none_of X G Ka,mg_none_of X G SZ,mg_none_of X G Hs,mg_none_of X G Ss,mg_none_of X G Kb⟩
 refine⟨fnOf "law" "law" (dS pY) (dU pY) (aR pY) .none Hf Hg Hq Hu Aq Hi,fun s v=>.of_eq rfl,fun base _ _ Bk=>?_⟩
 have qd:=@Nq l.prog w K mg base
 have iN:=n6 (P:=l.prog) (w:=w) (K:=K) (mg:=mg) (base:=base)  
 have OU:=qd Ax X G fun F=>RI F B iN 
 have SF:=qd wE X G fun F=>RL F B  
 have J_:=qd Ao X G fun F=>RN F B  
 have Ph:=qd uB X G fun F=>RP F   J_
 have J9:=qd Ay X G fun F=>RR F B  
 have J5:=qd tP X G fun F=>RU F   J_
 have J6:=qd Aw X G fun F=>RW F B  SF
 have Pf:dF l.prog w K mg base 3 "firsts_of" 1 C8:=EJ F_q7 m_q7 (RY F_q7 ⟨jA,rfl,tc_firsts_of,tk_firsts_of⟩ Bk B  J6)
 have O4:=qd ux X G fun F=>R0 F   Ph J5 J9
 have O6:=qd AB X G fun F=>R5 F B  
 have LG:dF l.prog w K mg base 4 "least_of" 1 vd:=EJ F_q10 m_q10 (NU F_q10 ⟨kQ,rfl,tc_least_of,tk_least_of⟩ Bk B  Pf O6 O4 OU)
 have Ht:=qd Ap X G fun F=>NV F B  
 have vp:=Bq (P:=l.prog) (w:=w) (base:=base) vo yK B  40
 have L3:=qd wG X G fun F=>NW F   
 have oG:=qd wI X G fun F=>NX F B  L3
 have LS:=qd yU X G fun F=>NY F B  oG
 have qY:=qd yP X G fun F=>NZ F B  
 have LZ:=qd wL X G fun F=>N0 F   
 have LY:=qd wF X G fun F=>N1 F B  
 have BY:=qd uz X G fun F=>N2 F B  qY oG
 have L5:=qd wN X G fun F=>N3 F B  
 have L0:=qd uy X G fun F=>N4 F B  L5
 have LK:=qd tV X G fun F=>N5 F B  
 have LH:=qd wQ X G fun F=>N6 F B  
 have yN:=qd wO X G fun F=>N7 F B  
 have LJ:=qd tU X G fun F=>N8 F B  
 have LD:=qd Ar X G fun F=>N9 F   BY LH qY oG L0 LJ LY yN LZ LK
 have LP:=qd yS X G fun F=>N_ F B  
 have LN:=qd wH X G fun F=>N' F B  
 have L4:=qd yT X G fun F=>Oa F B  LN
 have LV:=qd wJ X G fun F=>Ob F   BY qY oG L4
 have LF:=qd uv X G fun F=>Oc F B  
 have LU:=qd At X G fun F=>Od F   LF
 have LO:=qd yO X G fun F=>Oe F B  LU
 have LQ:=qd uw X G fun F=>Of F B  yN
 have LR:=qd yM X G fun F=>Og F B  Ht vp
 exact Oh F_q36 B  LD qY oG LP LV LQ LO LS vp LR LG
end P
end
namespace PySem.W.Fast
def tw15258130936737626780:=0
def tw8087963491044900410:=0
def tw6959900778743080534:=0
def tw2472105443280172564:=0
def tw411849802670366736:=0
def tw6384193875020483311:=0
def tw3441843423867860046:=0
def tw16764118192222158121:=0
def tw6119048580040354567:=0
def tw15376960671591594982:=0
def tw14957252443077759429:=0
def tw2784154011382023365:=0
def tw375754962505470596:=0
def tw5379343133605282851:=0
def tw8135500220974168811:=0
def tw1860216286235291736:=0
def tw6069528648776019104:=0
def tw2838547134111709797:=0
def tw6627201409784981815:=0
def tw9588138327408967234:=0
def tw15549346122391058660:=0
def tw3080855426644709018:=0
def tw12060895771185263320:=0
def tw11789244101162460211:=0
def tw14458765261109699873:=0
def tw16063413559692541119:=0
def tw9871391408009112157:=0
def tw11095837733044421006:=0
def tw6985719709676470562:=0
def tw10211172616950006178:=0
def tw7423885151597048923:=0
def tw10065662075838947961:=0
def tw6130053009562825833:=0
def tw11215498660603942496:=0
def tw16433221221480557080:=0
def tw12908101558809674320:=0
def tw17149054024430617957:=0
def tw7149662194367209876:=0
def tw9030834195726248568:=0
def tw14388213733002988568:=0
def tw3197365909924237648:=0
def tw1946740833504715010:=0
def tw6139680842001538284:=0
def tw692657856673512464:=0
def tw14766398255148996703:=0
def tw18300975455163337403:=0
def tw2872104790999477168:=0
def tw7827168684261245809:=0
def tw4899862958736309930:=0
def tw15982539258110924442:=0
def tw17970567709150334617:=0
def tw685385116259029366:=0
def tw11937447686400437324:=0
def tw8847820951955322065:=0
def tw5069598058549888096:=0
def tw7813707980198054760:=0
def tw7888987620380636614:=0
def tw9345985653674288668:=0
def tw1922239701663202911:=0
def tw18186643774302010502:=0
def tw6660346784109816342:=0
def tw13529077344233043366:=0
def tw11950981037965732921:=0
def tw3823599969079780284:=0
def tw7514210001135664715:=0
def tw9375069312006364520:=0
def tw14720775780134628981:=0
def tw9257035140803574591:=0
def tw7902277700211453727:=0
def tw11122127028105886160:=0
def tw4108760296486166599:=0
def tw9209930644511858732:=0
def tw10302254511571266416:=0
def tw7038777612969085504:=0
def tw10121207535190458973:=0
def tw12238435722032361647:=0
def tw1120161500371197978:=0
def tw3713994888523216079:=0
def tw17342114552512240859:=0
def tw16763296880834668396:=0
def tw11385757669680884065:=0
def tw694973021886931046:=0
def tw1631612844030458513:=0
def tw4242729093680665559:=0
def tw14556334642446083076:=0
def tw11188611772638521881:=0
def tw10199408779516430725:=0
def tw7965191396793237643:=0
def tw7045196699381904238:=0
def tw15559846169389212746:=0
def tw7185342643704773917:=0
def tw17936507528471772766:=0
def tw6897775696306460191:=0
def tw2053235046238088472:=0
def tw7907476777785016462:=0
def tw3607971036106843099:=0
def tw16236874696723274004:=0
def tw8120512442291743580:=0
def tw10066449161407551516:=0
def tw1738637866727083774:=0
def tw5221394936693561636:=0
def tw4897065052294933780:=0
def tw7197904657954020324:=0
def tw14781777627413791857:=0
def tw8566425435588800039:=0
def tw13611293921599672557:=0
def tw13039602655996986270:=0
def tw11830943587319594831:=0
def tw17920677504681188415:=0
def tw16742352096030603750:=0
def tw9095433240131006486:=0
def tw14347320026169195365:=0
def tw869247604464695746:=0
def tw11788244150106048048:=0
def tw10758376765824891572:=0
def tw11326496469061876402:=0
def tw3868251482161655579:=0
def tw5086979252786332756:=0
def tw13128955638696045558:=0
def tw16931074283354153743:=0
def tw3279830512217571384:=0
def tw12954789087811777225:=0
def tw7318801695601661557:=0
def tw5404258957991889784:=0
def tw3761497960798001715:=0
def tw12859122526123200065:=0
def tw9841239418528394351:=0
def tw13835841623300303298:=0
def tw4312494145994211939:=0
def tw17499784217237111367:=0
def tw17160439316869329651:=0
def tw362475055916635528:=0
def tw6696095532060654415:=0
def tw13361692227739728537:=0
def tw13152323831987505715:=0
def tw12245617461870203649:=0
def tw10167697507201127162:=0
def tw8490199758107403080:=0
def tw2189130823015871063:=0
def tw18280497047012983425:=0
def tw5872767662270284548:=0
def tw17849090777603549932:=0
def tw9235530923758682682:=0
def tw11801396043970657498:=0
def tw7911590351737345413:=0
def tw15415507761749275912:=0
def tw12113910853346663871:=0
def tw3368671493037315912:=0
def tw18407633512276563655:=0
def tw11557876248959705567:=0
def tw11411263663641878139:=0
def tw12204593201710075147:=0
def tw15300704344949324520:=0
def tw8477353494783021584:=0
def tw13076906308099735825:=0
def tw18302287210004766057:=0
def tw3688089431398844433:=0
def tw11442691066045172868:=0
def tw6878669977923473457:=0
def tw13330238634855234146:=0
def tw9924463614644577518:=0
def tw9407332541588361868:=0
def tw9009642081180844461:=0
def tw8939254176521953048:=0
def tw8872365072463400130:=0
def tw8735441256678902265:=0
def tw8660595115740271783:=0
def tw864024893018579730:=0
def tw8270267545446699801:=0
def tw7609215276371821408:=0
def tw7462598633393687706:=0
def tw7419725633663291532:=0
def tw6851074500351955814:=0
def tw6661605727145960036:=0
def tw6020174961271927147:=0
def tw537861860671619649:=0
def tw5225404000220208336:=0
def tw5150227929260953951:=0
def tw5100209834352137785:=0
def tw5010940367910368570:=0
def tw4859095617219068673:=0
def tw4663495520615686291:=0
def tw4625785229082153031:=0
def tw453751586639593745:=0
def tw3596118606891256094:=0
def tw3565023927276034259:=0
def tw3245397760313325926:=0
def tw3124280105269778333:=0
def tw3018384991654042235:=0
def tw291482550157561029:=0
def tw2544274546531775098:=0
def tw2445565330065071812:=0
def tw18230535828505674709:=0
def tw18003884147100621430:=0
def tw17964668126473666641:=0
def tw177746391661976852:=0
def tw17363988178302616101:=0
def tw17363177575040439333:=0
def tw17202361977104158773:=0
def tw16963967323782877527:=0
def tw16620958978781554008:=0
def tw16453556433047315178:=0
def tw16245599424083659155:=0
def tw16205388669978519978:=0
def tw15877573467680678891:=0
def tw15603148039339321986:=0
def tw15351117542280268044:=0
def tw15098641446967514947:=0
def tw14466271753741364446:=0
def tw14426318793480852974:=0
def tw14204830715983930459:=0
def tw13240517511045166959:=0
def tw12796731105396412734:=0
def tw12350782076598995961:=0
def tw12349544191983870516:=0
def tw12012741240693978022:=0
def tw11851431289921254028:=0
def tw11737690536286090605:=0
def tw11698701467778927929:=0
def tw11596278842056689631:=0
def tw11423297178754533564:=0
def tw10442634436404002821:=0
def tw10013288944361097144:=0
end PySem.W.Fast
open PySem PySem.W PyProof.Rows
set_option maxRecDepth 100000 in
set_option maxHeartbeats 0 in
theorem PySem.Challenge.cw_trunksay_k24_least_machine_paper_holds : PySem.Challenge.rw_trunksay_k24_least_machine_paper.Holds := by
 w_on; o_law; k_head; (case hw => w_witness2)
 k_fill
 refine L2.walkT (l := PySem.Challenge.rw_trunksay_k24_least_machine_paper) (k := 42) (x := "_law_script") (G := P.f_q36) P.tabL (by decide) rfl rfl ⟨rfl, by decide, by decide⟩ (fun w h Y => PySem.W.km_in_of Y) (fun w h Y T hT => PySem.W.km_tabs_of Y T hT) (fun w T hT => ?KT) (fun w T hT => ?CT) ?F P.law_ok
 case KT =>
  simp only [P.tabL, aG, dL, aI, lX, or_false] at hT
  rcases hT with rfl | rfl
  ·kernel_rfl
  ·kernel_rfl
 case CT =>
  simp only [P.tabL, aG, dL, aI, lX, or_false] at hT
  rcases hT with rfl | rfl
  ·exact ⟨63, by kernel_rfl⟩
  ·exact ⟨82, by kernel_rfl⟩
 case F =>
  intro w mg fa h KX G hmg
  refine' P.all_mk KX G hmg ?_ ?_ ?_ ?_ ?_ ?_ ?_ ?_ ?_ ?_ ?_ ?_ ?_ ?_ ?_ ?_ ?_ ?_ ?_ ?_ ?_ ?_ ?_ ?_ ?_ ?_ ?_ ?_ ?_ ?_ ?_ ?_ ?_ ?_ ?_ ?_ ?_ ?_ ?tc_firsts_of ?tk_firsts_of ?_ ?_ ?_ ?_ ?tc_least_of ?tk_least_of ?_ ?_ ?_ ?_ ?_ ?_ ?_ ?_ ?_ ?_ ?_ ?_ ?_ ?_ ?_ ?_ ?_
  any_goals (refine' L2.DefIn.mk ?a ?l ?c ?k; (case a => k_is); (case l => k_is); (case c => k_is); (case k => k_is))
  any_goals k_is
  (case tc_firsts_of => kernel_rfl)
  (case tk_firsts_of => kernel_rfl)
  (case tc_least_of => kernel_rfl)
  (case tk_least_of => kernel_rfl)
