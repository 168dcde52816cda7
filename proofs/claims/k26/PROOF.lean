import PyProof.Rows.All
import Wide.All
import OpenK.AllK
import Wide.FinOn
import Lean
import PyProof.EqAt
import PyProof.EqKinds
import PyProof.TupleCall
import PyProof.StrLawsIn
import PyProof.StationsW
import PyProof.NeData
import OpenK.KOwn
import PyProof.NsDelKeeps
import PyProof.ExcArgsOwn
import PyProof.ExcAttrAll.ValueError
import PyProof.IsiH_tuple
import KE.KIsAll
import PyProof.CollectStr
import PyProof.ZipIter
import PyProof.Rows.ZipGen
import PyProof.JoinWalk
import PyProof.CollectIter
import PyProof.EnumMake
import PyProof.SumAny
import PyProof.DictTruth
import KE.KDictList
import KE.KNest
import KE.KEqDict
import PyProof.ListRange
import KE.KEqSeq
import PyProof.Rows.SetFrom
import PySem.Challenge.RW_trunksay_k26_least_is_one_value
set_option Elab.async false
set_option linter.all false
set_option genSizeOf false
set_option maxRecDepth 100000
def aa:=@List.getElem?_eq_some_iff
def ac:=@List.getElem?_eq_getElem
def ae:=@List.prefix_refl
def af:=@PySem.wpAny_bind
def aj:=@List.length_map
def ak:=@List.mem_of_getElem?
def al:=@List.getElem?_map
def am:=@List.mem_map
def ao:=@PySem.Heap.get?_push_of_some
def aq:=@List.getElem?_append_left
def ar:=@List.prefix_append
def au:=@PySem.wpAny_pure
def av:=@Nat.le_refl
def aw:=@if_pos
def az:=@List.getD_eq_getElem?_getD
def aA:=@List.mem_cons_of_mem
def aC:=@List.map_cons
def aD:=@if_neg
def aE:=@List.size_toArray
def aF:=@PySem.Heap.lt_size
def aH:=@List.mem_append
def aI:=@List.length_append
def aJ:=@List.mem_cons
def aK:=@Int.toNat_natCast
def aL:=@List.map_map
def aM:=@Option.some.inj
def aN:=@List.mem_cons_self
def aO:=@List.append_assoc
def aQ:=@List.getElem?_take_of_lt
def aS:=@PySem.Heap.get?_push_size
def aT:=@List.mem_append_right
def aU:=@List.getElem?_of_mem
def aW:=@Nat.lt_of_lt_of_le
def aY:=@Option.map_eq_some_iff
def aZ:=@List.map_congr_left
def a7:=@decide_eq_false
def a8:=@beq_eq_false_iff_ne
def a9:=@List.length_take
def a_:=@List.mem_range
def bd:=@List.mem_singleton
def be:=@Nat.le_trans
def bf:=@Bool.and_eq_true
def bi:=@List.getElem?_set_self
def bp:=@decide_eq_true
def bq:=@Nat.lt_irrefl
def bt:=@Nat.ne_of_lt
def bu:=@List.length_cons
def bx:=@List.nodup_cons
def bz:=@List.find?_cons
def bD:=@List.getElem?_concat_length
def bE:=@PySem.wpAny_loadPart'
def bH:=@List.getElem?_set_ne
def bM:=@Bool.false_ne_true
def bP:=@List.getElem?_append_right
def bQ:=@decide_eq_true_iff
def bT:=@beq_iff_eq
def bZ:=@List.getElem?_range
def b_:=@List.take_of_length_le
def ca:=@List.pairwise_cons
def ce:=@Bool.false_eq_true
def cn:=@List.append_nil
def cp:=@Nat.not_lt_zero
def cv:=@PySem.wpAny_holding
def cw:=@Bool.and_true
def cy:=@PySem.Heap.SameBut.update
def cz:=@Nat.le_of_ble_eq_true
def cC:=@congrArg
def cD:=@Nat.lt_or_ge
def cF:=@List.mem_append_left
def cG:=@List.map_append
def cJ:=@List.filter_cons
def cM:=@Nat.zero_le
def cN:=@List.nodup_append
def cV:=@Nat.le_of_lt
def cY:=@PySem.wpAny_callSpecial?_slot
def cZ:=@PySem.wpAny_call_entry
def c7:=@Nat.le_of_not_lt
def c8:=@List.getElem_map
def c_:=@PyProof.Rows.callWith_type1
def dk:=@List.map_nil
def dm:=@List.length_range
def du:=@List.mem_filter
def dw:=@List.length_nil
def dz:=@PyProof.Rows.slot_tuple_getitem
def dJ:=@PySem.wpAny_mono
def dL:=@beq_self_eq_true
def dO:=@Bool.not_true
def dP:=@PySem.wpAny_truthy_bool
def dQ:=@PySem.wpAny_newObj_type
def dR:=@Function.comp_def
def d7:=@if_true
def d9:=@List.length_drop
def d_:=@List.all_eq_true
def eB:=@PySem.Calls.spliced_cons
def eD:=@PySem.wpAny_Call_Name_kw
def eF:=@PySem.F.slot_tuple_iterator_next
def eL:=@List.drop_eq_getElem_cons
def eO:=@PySem.wpAny_passesOwn
def eQ:=@PySem.wpAny_specialOf
def eX:=@List.any_eq_false
def eY:=@List.pairwise_map
def fx:=@List.filterMap_cons
def fy:=@Array.length_toList
def fD:=@if_false
def fE:=@List.lookup_cons
def fF:=@PySem.wpAny_seqItems
def fO:=@PySem.Calls.callWith_builtin
def fP:=@Nat.zero_add
def fS:=@Nat.le_antisymm
def fT:=@Bool.or_eq_true
def fV:=@PySem.Heap.get?_update_self
def fW:=@List.length_singleton
def fX:=@List.getElem?_eq_none
def fY:=@PySem.wpAny_callSpecialIfBoundUnlessNone?_slot
def fZ:=@List.set_append_right
def f9:=@List.take_sublist
def f_:=@Nat.lt_succ_of_lt
def gc:=@PySem.wpAny_field
def gf:=@PySem.Calls.evalArgs_plain
def gi:=@PySem.wpAny_tryCatch
def gj:=@PySem.Obj.data_mapDictKeys
def gk:=@PyProof.Rows.boot_tuple
def gp:=@Nat.pow_le_pow_right
def gv:=@PySem.wpAny_forIn_list
def gw:=@List.getElem_mem
def gy:=@List.take_length
def gz:=@Int.zero_add
def gI:=@Int.emod_nonneg
def gJ:=@PySem.tupleKind_room_in1
def gK:=@PySem.wpAny_rule
def gN:=@Nat.eq_zero_or_pos
def gT:=@List.getElem?_replicate
def gU:=@Nat.le_succ
def gW:=@List.getElem?_cons_succ
def g9:=@PySem.Calls.spliced_nil
def g_:=@PySem.Heap.get?_update_other
def hG:=@PySem.codeAny_mono
def hJ:=@PySem.call_meetsIn
def hU:=@List.range_succ_eq_map
def hV:=@Bool.not_eq_true'
def hW:=@Nat.lt_of_succ_lt_succ
def hX:=@of_decide_eq_true
def hZ:=@List.take_add_one
def ii:=@List.length_filter_le
def ij:=@PySem.isSubtype_tuple_tuple
def ip:=@Nat.lt_succ_self
def iq:=@PySem.wpAny_isInstance
def iG:=@PySem.Around.under_plainId
def iN:=@PySem.wpAny_execs_nil
def iP:=@List.of_mem_zip
def iQ:=@PySem.F.args_tuple_iterator_next_1
def iR:=@PySem.wpAny_updateSeq
def iS:=@Nat.min_eq_left
def iT:=@Bool.eq_iff_iff
def i9:=@Nat.add_zero
def i_:=@PySem.F.entry_tuple_iterator_next
def ja:=@List.idxOf_lt_length_of_mem
def je:=@LawfulBEq.eq_of_beq
def jy:=@PySem.Calls.Name_function_global
def jz:=@PySem.wpAny_pyIter_tuple
def jA:=@Nat.lt_of_le_of_lt
def jB:=@PySem.Heap.size_push
def jC:=@Bool.not_false
def jD:=@List.Perm.refl
def jE:=@List.find?_eq_none
def jF:=@PySem.wpAny_tupleItemsOf
def jG:=@Array.forIn_toList
def jH:=@List.nodup_nil
def jI:=@Int.emod_lt_of_pos
def jJ:=@Nat.eq_or_lt_of_le
def jM:=@PySem.Calls.call_function_entry
def jN:=@List.getElem?_zip_eq_some
def jO:=@List.findIdx?_eq_none_iff
def jT:=@PySem.sizeLine_eq
def jU:=@Option.isSome_map
def jV:=@PySem.wpAny_Call_method
def jW:=@List.map_id
def jX:=@PySem.wpAny_letGo
def jY:=@List.ext_getElem?
def jZ:=@PySem.wpAny_dictEntries
def j0:=@Nat.lt_trichotomy
def j3:=@List.idxOf_append
def kh:=@PySem.wpAny_standAt
def ki:=@PySem.AutoSeq1.sub_tuple_tuple
def kj:=@List.all_cons
def ko:=@PySem.plainId_quiet
def kq:=@Nat.lt_succ_iff_lt_or_eq
def kM:=@PySem.noFill_tuple_add
def kN:=@PySem.wpAny_getItem_of
def kO:=@List.any_eq_true
def kP:=@Int.eq_ofNat_of_zero_le
def kQ:=@List.length_eq_zero_iff
def kR:=@List.not_mem_nil
def lz:=@PySem.wpAny_Name
def lA:=@PySem.wpAny_pyIter_rangeiter
def lB:=@PyProof.noPylong_small
def lD:=@PyProof.Rows.subscriptTail_builtinR
def lE:=@PySem.call_meets
def lF:=@List.drop_eq_nil_of_le
def lG:=@List.drop_of_length_le
def lH:=@dif_pos
def lI:=@PySem.wpAny_call
def lJ:=@List.length_pos_of_mem
def lK:=@PySem.wpAny_pyNext_dict_item
def lU:=@Int.natCast_mul
def lV:=@PySem.codeAny_builtin
def lW:=@PySem.wpAny_ret_mkInt
def lX:=@Option.map_some
def l7:=@PySem.wpAny_isTrue_Compare1
def l8:=@List.length_replicate
def l9:=@PySem.F.slot_enumerate_next
def l_:=@PySem.wpAny_notOrdered_dict
def ma:=@List.findIdx?_toArray
def md:=@List.take_append_drop
def mL:=@Prod.mk.inj
def mM:=@PyProof.Rows.boot_sorted
def nw:=@PySem.seq_tuple_add
def ny:=@List.any_cons
def nz:=@Bool.true_and
def nA:=@PySem.SeqAt.str_beq
def nB:=@List.sum_cons
def nC:=@List.map_take
def oW:=@Nat.ne_of_gt
def oX:=@PySem.concat_meets
def oY:=@PySem.wpAny_typeOf
def oZ:=@PySem.seqIndex_neg
def o_:=@Nat.lt_trans
def pb:=@Nat.sub_self
def pd:=@PySem.boot_len
def pe:=@List.map_set
set_option compiler.extract_closed false
noncomputable section
variable{us bw:List PySem.Value}{x name qual:PySem.Str}{u:PySem.Value}{a b it f cd:PySem.Addr}{o:PySem.Obj}{P prog:PySem.Program}{h h' base:PySem.Heap}{α β:Type}{pins:List (PySem.Addr×PySem.Obj)}{s:PySem.Shared}{g':Array PySem.GenState}{t' N i j n m kk L:Nat}{ch fp μ μ':List PySem.Addr}{M:PySem.Model}{A:PySem.Around}{E Q:PySem.Value->PySem.Shared->Prop}{e c tg iter m7:PySem.Expr}{pos iM p fq p2 cX:PySem.Pos}{op:PySem.CmpOp}{K:PySem.W.Frag}{es kU FW:List PySem.Expr}{g:PySem.Value->PySem.Value->PySem.Sem PySem.Value}{body:List PySem.Stmt}{C cl:List (PySem.Str×PySem.Addr)}{mA mg:PySem.Str->Option PySem.Value}{t ls:List (List Nat)}{fd:PySem.FuncData}{ps nm:List PySem.Str}{kindOf:PySem.Str->Option PySem.NameKind}{sc scope:PySem.Scope}{id:String}{T:Nat->Nat->Nat->Nat}{l rs mt:List Nat}{items:Array PySem.Value}{ns:List Int}{XP:(PySem.Str->Option PySem.Value)->PySem.Heap->Prop}{YP:PySem.World->PySem.Heap->Prop}{env:PySem.Env}{ks:List (Option PySem.Expr)}{cap:List (Option Nat)}{q:Int}{φ:PySem.Heap->Prop}{B B':Nat->Nat}
open PySem.W (Frag)
open PySem.W (kia_one fnOf codeIn keepIn codeHdIn kla_obj nsIn mg_of sortI fnMade mg_none_of)
namespace L2
open PySem PySem.Spec PyProof.Rows
abbrev fK:=Sum Int Str
def tR:fK->Value->Bool
 |.inl k,v=>Value.isInt k v
 |.inr x,v=>Value.isStrOf x v
def Rn(w:World):fK->Int
 |.inl k=>hashInt k
 |.inr x=>hashStr w x
theorem d8:∀{k:fK} {v:Value},tR k v=true->(∃i t,k=Sum.inl i/\v=Value.int i t)\/(∃x t,k=Sum.inr x/\v=Value.str x t)
 |.inl i,v,h=>by
  obtain⟨t,e⟩:=Value.isInt_shape (k:=i) (v:=v) h
  exact .inl ⟨i,t,rfl,e⟩
 |.inr x,v,h=>by
  obtain⟨t,e⟩:=Value.isStrOf_shape (x:=x) (v:=v) h
  exact .inr ⟨x,t,rfl,e⟩
theorem AW(i:Int)(t:Tok):tR (.inl i) (.int i t)=true:=by simp[tR,Value.isInt]
theorem AX(x:Str)(t:Tok):tR (.inr x) (.str x t)=true:=by simp[tR,Value.isStrOf]
theorem J8(a b:Int):decide ((Sum.inl a:fK)=Sum.inl b)=(a==b):=by
 by_cases e:a=b
 ·subst e;simp
 ·have h:¬ (Sum.inl a:fK)=Sum.inl b:=fun q=>e (Sum.inl.inj q)
  rw[a7 h]
  exact(a8.mpr e).symm
theorem J9(a b:Str):decide ((Sum.inr a:fK)=Sum.inr b)=decide (a=b):=by
 by_cases e:a=b
 ·subst e;simp
 ·have h:¬ (Sum.inr a:fK)=Sum.inr b:=fun q=>e (Sum.inr.inj q)
  rw[a7 h,a7 e]
theorem J_(a:Int)(b:Str):decide ((Sum.inl a:fK)=Sum.inr b)=false:=a7 (fun q=>nomatch q)
theorem J'(a:Str)(b:Int):decide ((Sum.inr a:fK)=Sum.inl b)=false:=a7 (fun q=>nomatch q)
def dM(prog:Program)(w:World):PySem.KeyKind prog w fK where
 is:=tR
 hash:=Rn w
 inj:=fun v a b ha hb=>by
  rcases d8 ha with⟨i,t,rfl,rfl⟩|⟨x,t,rfl,rfl⟩
  ·rcases d8 hb with⟨j,u,rfl,e⟩|⟨y,u,rfl,e⟩
   ·injection e with e1 _;rw[e1]
   ·exact nomatch e
  ·rcases d8 hb with⟨j,u,rfl,e⟩|⟨y,u,rfl,e⟩
   ·exact nomatch e
   ·injection e with e1 _;rw[e1]
 byValue:=fun k v h=>by
  rcases d8 h with⟨i,t,rfl,rfl⟩|⟨x,t,rfl,rfl⟩<;>rfl
 pyHash:=fun hv h=>by
  rcases d8 hv with⟨i,t,rfl,rfl⟩|⟨x,t,rfl,rfl⟩
  ·exact wpAny_pyHash_int h
  ·exact wpAny_pyHash_str h
 eqBool:=fun hu hv h=>by
  rcases d8 hu with⟨i,t,rfl,rfl⟩|⟨x,t,rfl,rfl⟩
  ·rcases d8 hv with⟨j,u,rfl,rfl⟩|⟨y,u,rfl,rfl⟩
   ·rw[J8]at h;exact wpAny_eqBool_int h
   ·rw[J_]at h;exact SeqAt.EqAt.int_str i t y u _ _ _ _ h
  ·rcases d8 hv with⟨j,u,rfl,rfl⟩|⟨y,u,rfl,rfl⟩
   ·rw[J']at h;exact SeqAt.EqAt.str_int x t j u _ _ _ _ h
   ·rw[J9]at h;exact wpAny_eqBool_str h
 «strs»:=fun k x t v h=>by
  rcases d8 h with⟨i,u,rfl,e⟩|⟨y,u,rfl,e⟩
  ·exact nomatch e
  ·injection e with e1 _
   subst e1
   cases v<;>rfl
theorem wj(prog:Program)(w:World)(i:Int)(t:Tok):(dM prog w).is (.inl i) (.int i t)=true:=AW i t
theorem wm(prog:Program)(w:World)(x:Str)(t:Tok):(dM prog w).is (.inr x) (.str x t)=true:=AX x t
inductive V where
 |non|bl (b:Bool)|int (i:Int)|str (x:Str)|byt (b:Array UInt8)|flt (b:UInt64)|ref (a:Addr)|ty (n:String)
 deriving DecidableEq
def bF:V->Value->Prop
 |.non,u=>u=Value.none
 |.bl b,u=>u=Value.bool b
 |.int i,u=>∃t,u=Value.int i t
 |.str x,u=>∃t,u=Value.str x t
 |.byt b,u=>∃t,u=Value.bytes b t
 |.flt b,u=>∃t,u=Value.float b t
 |.ref a,u=>u=Value.ref a
 |.ty n,u=>u=Value.type n
abbrev b8:List V->List Value->Prop:=Paired bF
theorem b8.length{xs:List V}(r:b8 xs us):xs.length=us.length:=Paired.length r
theorem b8.get:∀{xs:List V} {us:List Value} {i:Nat} {x:V},b8 xs us->xs[i]?=some x->∃u,us[i]?=some u/\bF x u
 |_,_,_,_,.nil,e=>by simp at e
 |_,_,0,_,.cons r _,e=>by simp at e;subst e;exact⟨_,rfl,r⟩
 |_,_,i+1,x,.cons _ t,e=>by
  obtain⟨u,h1,h2⟩:=b8.get (i:=i) (x:=x) t (by simpa using e)
  exact⟨u,by simpa using h1,h2⟩
theorem b8.set{x:V}(r:bF x u):∀{xs:List V} {us:List Value} (i:Nat),b8 xs us->b8 (xs.set i x) (us.set i u)
 |_,_,_,.nil=>.nil
 |_,_,0,.cons _ t=>.cons r t
 |_,_,i+1,.cons q t=>.cons q (b8.set r i t)
theorem b8.append:∀{xs ys:List V} {us ws:List Value},b8 xs us->b8 ys ws->b8 (xs++ys) (us++ws)
 |_,_,_,_,.nil,s=>s
 |_,_,_,_,.cons r t,s=>.cons r (b8.append t s)
theorem b8.take:∀{xs:List V} {us:List Value} (n:Nat),b8 xs us->b8 (xs.take n) (us.take n)
 |_,_,0,_=>.nil
 |_,_,_+1,.nil=>.nil
 |_,_,n+1,.cons r t=>.cons r (b8.take n t)
theorem b8.drop:∀{xs:List V} {us:List Value} (n:Nat),b8 xs us->b8 (xs.drop n) (us.drop n)
 |_,_,0,r=>r
 |_,_,_+1,.nil=>.nil
 |_,_,n+1,.cons _ t=>b8.drop n t
def m8:Option V->Option Value->Prop
 |some v,some u=>bF v u
 |none,none=>True
 |_,_=>False
def KV{κ:Type}:List (κ×V)->List (κ×Value)->Prop:=Paired fun(p:κ×V) (q:κ×Value)=>p.1=q.1/\bF p.2 q.2
def kV:fK->V
 |.inl i=>.int i
 |.inr x=>.str x
inductive HO where
 /-- a list -/
 |lst (xs:List V)
 /-- a tuple (never changes) -/
 |tup (xs:List V)
 /-- a dict whose keys are ints and texts;one whose keys are tuples of ints and texts (the empty one is both) -/
 |dK (kvs:List (fK×V))|dT (kvs:List (List fK×V))
 /-- a set of ints: bw members,bw size -/
 |set (S:Int->Bool) (n:Nat)
 /-- an instance of the class at C,bw dict at dx,bw attributes -/
 |ins (C dx:Addr) (fs:List (Str×V))
 /-- the dict of the instance at x -/
 |own (x:Addr)
 /-- the dict of an exception -/
 |xd (fs:List (Str×V))
 /-- a bound method,f of x -/
 |met (f x:Addr)
 /-- a range object lo,lo+1,.. below hi -/
 |rng (lo hi:Int)
 /-- a thing that is known to the object (the script;a dict while a loop walks it): read,never written while it is so -/
 |frz (o:Obj) (u:HO)
 /-- a code object's table -/
 |tbl (ps:Array Value)
 /-- any other thing,by what is true of bw one object (a def of Tb own: SetO a S n:=HO.ext fun h=>..) -/
 |ext (φ:Heap->Prop)
abbrev Hp:=Addr->Option HO
def dY(H:Hp)(a:Addr)(o:HO):Hp:=fun b=>if b=a then some o else H b
theorem df{H:Hp}{o:HO}:dY H a o a=some o:=by unfold dY;rw[aw rfl]
theorem bX{H:Hp}{o:HO}(h:b≠a):dY H a o b=H b:=by unfold dY;rw[aD h]
theorem NM{H:Hp}{o u:HO}(h:H a=some o)(h':H b=some u)(d:o≠u):a≠b:=by
 intro e;subst e;rw[h]at h';exact d (aM h')
theorem ej{H:Hp}{o:HO}(h:H a=some o)(h':H b=none):a≠b:=by
 intro e;subst e;rw[h]at h';cases h'
section
variable(P:Program)(w:World)
def dU(H:Hp)(h:Heap)(a:Addr):HO->Prop
 |.lst xs=>xs.length<=sizeLine/\∃(bw:List Value) (n:Nat),b8 xs bw/\h.get? a=some { cls:=.type "list",data:=.seq bw.toArray n }
 |.tup xs=>xs.length<=sizeLine/\∃bw:List Value,b8 xs bw/\IsTup h a bw.toArray
 |.dK kvs=>kvs.length<=sizeLine/\(a==sysModules)=false/\∃vs,KV kvs vs/\h.DictOf (dM P w) a vs
 |.dT kvs=>kvs.length<=sizeLine/\(a==sysModules)=false/\∃xs:List (List fK×Addr×Value),
   Paired (fun(p:List fK×V) (q:List fK×Addr×Value)=>p.1=q.1/\H q.2.1=some (.tup (p.1.map kV))/\bF p.2 q.2.2) kvs xs /\
   ∃o es ep,h.get? a=some o/\o.ExactDict/\o.data=.dict es ep/\es.toList=xs.map (entryOfKey (tupleKind (dM P w)))/\(xs.map (·.1)).Nodup
 |.set S n=>h.SetOf (intKind P w) a S n
 |.ins C dx fs=>H dx=some (.own a)/\fs.length<=1000/\dx≠a/\h.get? a=some (PySem.W.instObj C dx) /\
   ∃mA,h.Ns1 dx mA/\(∀f,m8 (fs.lookup f) (mA f))/\PySem.Within mA (fs.map (·.1))
 |.own _=>∃o,h.get? a=some o
 |.xd fs=>∃mA,h.Ns1 a mA/\∀f,m8 (fs.lookup f) (mA f)
 |.rng lo hi=>∃t u v,h.get? a=some { cls:=.type "range",data:=.fields #[.int lo t,.int hi u,.int 1 v] }
 |.frz o u=>h.get? a=some o/\dU H h a u
 |.tbl ps=>h.get? a=some { cls:=.none,data:=.fields ps }
 |.met f x=>h.get? a=some (PySem.W.methodObj (.ref f) (.ref x))
 |.ext φ=>φ h/\(∃o,h.get? a=some o)/\∀h1 h2:Heap,φ h1->(∀o,h1.get? a=some o->h2.get? a=some o)->φ h2
def jK(H:Hp)(h:Heap):Prop:=∀a o,H a=some o->dU P w H h a o
end
section
variable{w:World}{H H':Hp}{o:HO}
theorem dU.lt(x:dU P w H h a o):a<h.objs.size:=by
 cases o with
 |lst xs=>obtain⟨_,_,_,_,e⟩:=x;exact aF e
 |tup xs=>obtain⟨_,_,_,p⟩:=x;exact p.lt
 |dK kvs=>obtain⟨_,_,_,_,o,_,_,e,_⟩:=x;exact aF e
 |dT kvs=>obtain⟨_,_,_,_,o,_,_,e,_⟩:=x;exact aF e
 |set S n=>obtain⟨o,_,_,_,e,_⟩:=x;exact aF e
 |ins C dx fs=>obtain⟨_,_,_,e,_⟩:=x;exact aF e
 |own y=>obtain⟨_,e⟩:=x;exact aF e
 |xd fs=>obtain⟨_,⟨_,_,_,e,_⟩,_⟩:=x;exact aF e
 |rng lo hi=>obtain⟨_,_,_,e⟩:=x;exact aF e
 |frz ob u=>obtain⟨e,_⟩:=x;exact aF e
 |tbl ps=>exact aF (show h.get? a=some _ from x)
 |met f y=>exact aF (show h.get? a=some _ from x)
 |ext φ=>obtain⟨_,⟨_,e⟩,_⟩:=x;exact aF e
theorem Paired.mapP{F G:α->β->Prop}:∀{l₁:List α} {l₂:List β},Paired F l₁ l₂->(∀a b,F a b->G a b)->Paired G l₁ l₂
 |_,_,.nil,_=>.nil
 |_,_,.cons r t,f=>.cons (f _ _ r) (Paired.mapP t f)
theorem Paired.imp'{F G:α->β->Prop}(f:∀a b,F a b->G a b){l₁:List α}{l₂:List β}(r:Paired F l₁ l₂):Paired G l₁ l₂:=Paired.mapP r f
theorem dU.stay(x:dU P w H h a o)(k:∀b u,(b=a\/H b=some (.own a))->h.get? b=some u->h'.get? b=some u)
  (ho:∀b,H b=some (.own a)->H' b=some (.own a)) (ht:∀b xs,H b=some (.tup xs)->H' b=some (.tup xs)):dU P w H' h' a o:=by
 induction o with
 |lst xs=>obtain⟨z,bw,n,r,e⟩:=x;exact⟨z,bw,n,r,k _ _ (.inl rfl) e⟩
 |tup xs=>obtain⟨z,bw,r,ob,e,c⟩:=x;exact⟨z,bw,r,ob,k _ _ (.inl rfl) e,c⟩
 |dK kvs=>obtain⟨z,y,vs,r,ob,es,ep,e,c⟩:=x;exact⟨z,y,vs,r,ob,es,ep,k _ _ (.inl rfl) e,c⟩
 |dT kvs=>
  obtain⟨z,y,xs,r,ob,es,ep,e,c⟩:=x
  exact⟨z,y,xs,Paired.mapP r fun p q z=>⟨z.1,ht _ _ z.2.1,z.2.2⟩,ob,es,ep,k _ _ (.inl rfl) e,c⟩
 |set S n=>obtain⟨ob,es,ep,t,e,c⟩:=x;exact⟨ob,es,ep,t,k _ _ (.inl rfl) e,c⟩
 |ins C dx fs=>
  obtain⟨d,z,ne,e,mA,⟨od,es,ep,e2,c⟩,r⟩:=x
  exact⟨ho _ d,z,ne,k _ _ (.inl rfl) e,mA,⟨od,es,ep,k _ _ (.inr d) e2,c⟩,r⟩
 |own y=>obtain⟨ob,e⟩:=x;exact⟨ob,k _ _ (.inl rfl) e⟩
 |xd fs=>obtain⟨mA,⟨od,es,ep,e,c⟩,r⟩:=x;exact⟨mA,⟨od,es,ep,k _ _ (.inl rfl) e,c⟩,r⟩
 |rng lo hi=>obtain⟨t,u,v,e⟩:=x;exact⟨t,u,v,k _ _ (.inl rfl) e⟩
 |frz ob u ih=>obtain⟨e,q⟩:=x;exact⟨k _ _ (.inl rfl) e,ih q⟩
 |tbl ps=>
  have e:h.get? a=some { cls:=.none,data:=.fields ps }:=x
  show h'.get? a=some { cls:=.none,data:=.fields ps }
  exact k a _ (.inl rfl) e
 |met f y=>
  have e:h.get? a=some (PySem.W.methodObj (.ref f) (.ref y)):=x
  show h'.get? a=some (PySem.W.methodObj (.ref f) (.ref y))
  exact k a _ (.inl rfl) e
 |ext φ=>obtain⟨p,⟨o,e⟩,st⟩:=x;exact⟨st _ _ p fun o q=>k _ _ (.inl rfl) q,⟨o,k _ _ (.inl rfl) e⟩,st⟩
theorem jK.lt(x:jK P w H h)(e:H a=some o):a<h.objs.size:=(x a o e).lt
theorem jK.fresh(x:jK P w H h)(e:h.objs.size<=a):H a=none:=by
 cases q:H a with
 |none=>rfl
 |some u=>exact absurd (aW (x.lt q) e) (bq _)
theorem jK.kept(x:jK P w H h)(k:∀b u,h.get? b=some u->h'.get? b=some u):jK P w H h':=fun a o e=>
 (x a o e).stay (fun b u _ q=>k b u q) (fun _ q=>q) fun _ _ q=>q
theorem jK.laid(x:jK P w H h)(k:∀b u,h.get? b=some u->h'.get? b=some u)(hp:h.objs.size<=a)(new:dU P w (dY H a o) h' a o):jK P w (dY H a o) h':=fun b u e=>by
 have hn:=x.fresh hp
 by_cases hb:b=a
 ·subst hb;rw[df]at e;cases e;exact new
 ·rw[bX hb]at e
  exact(x b u e).stay (fun c v _ q=>k c v q) (fun c q=>by rw[bX (ej q hn)];exact q) fun c xs q=>by rw[bX (ej q hn)];exact q
end
def Rd(H:Hp)(a:Addr)(u:HO):Prop:=H a=some u\/∃o,H a=some (.frz o u)
theorem Rd.ok{w:World}{H:Hp}{u:HO}(r:Rd H a u)(x:jK P w H h):dU P w H h a u:=by
 rcases r with r|⟨o,r⟩
 ·exact x a u r
 ·obtain⟨_,q⟩:=x a _ r
  exact q
def Ka:Option HO->Prop
 |some (.lst _)=>True
 |some (.dK _)=>True
 |some (.dT _)=>True
 |some (.set _ _)=>True
 |some (.ins _ _ _)=>True
 |some (.ext _)=>True
 |_=>False
section
variable{w:World}{H:Hp}{x e:Addr}{o':HO}
theorem jK.write(ok:jK P w H h)(mu:Ka (H x))(he:e=x\/H e=some (.own x))(k:∀b u,b≠e->h.get? b=some u->h'.get? b=some u)(NL:∃u,h'.get? e=some u)
  (new:dU P w (dY H x o') h' x o'):jK P w (dY H x o') h':=fun b u q=>by
 have nown:∀c y,H c=some (.own y)->c≠x:=fun c y r z=>by subst z;rw[r]at mu;exact mu
 have ntup:∀c xs,H c=some (.tup xs)->c≠x:=fun c xs r z=>by subst z;rw[r]at mu;exact mu
 by_cases hb:b=x
 ·subst hb;rw[df]at q;cases q;exact new
 ·rw[bX hb]at q
  by_cases hbe:b=e
  ·have q':H b=some (.own x):=by
    rcases he with z|z
    ·exact absurd (hbe.trans z) hb
    ·rw[hbe];exact z
   rw[q]at q';cases q'
   obtain⟨v,hv⟩:=NL
   exact⟨v,by rw[hbe];exact hv⟩
  ·refine(ok b u q).stay (fun c v hc r=>k c v ?_ r) (fun c r=>by rw[bX (nown c b r)];exact r) fun c xs r=>by rw[bX (ntup c xs r)];exact r
   rcases hc with rfl|hc
   ·exact hbe
   ·rintro rfl
    rcases he with z|z
    ·exact nown c b hc z
    ·rw[hc]at z;cases z;exact hb rfl
end
structure Un(fs ex:List Addr)(H H':Hp)(h h':Heap):Prop where
 keep:∀b o,h.get? b=some o->H b=none->b∉fs->b∉ex->h'.get? b=some o
 slot:∀b o,h.get? b=some o->H b=none->b∈fs->b∉ex->∃sl,h'.get? b=some { o with slots:=sl }
 free:∀b o,h.get? b=some o->H b=none->b∉ex->H' b=none
 there:∀b o,h.get? b=some o->b∉ex->∃o',h'.get? b=some o'
 tups:∀b xs,H b=some (.tup xs)->H' b=some (.tup xs)
 frzs:∀b o u,H b=some (.frz o u)->H' b=some (.frz o u)
 tbls:∀b ps,H b=some (.tbl ps)->∃jw,H' b=some (.tbl (ps++jw))
section
variable{fs Tx ex TN:List Addr}{H H1 H2:Hp}{h1 h2:Heap}{x e:Addr}{o:HO}
theorem Un.any(u:Un fs ex H H1 h h1){ob:Obj}(q:h.get? b=some ob)(n:H b=none)(hx:b∉ex):∃sl,h1.get? b=some { ob with slots:=sl }:=by
 by_cases hb:b∈fs
 ·exact u.slot b ob q n hb hx
 ·exact⟨ob.slots,u.keep b ob q n hb hx⟩
theorem Un.kept(k:∀b u,h.get? b=some u->h'.get? b=some u):Un fs ex H H h h':=
 ⟨fun b ob q _ _ _=>k b ob q,fun b ob q _ _ _=>⟨ob.slots,k b ob q⟩,fun _ _ _ n _=>n,fun b ob q _=>⟨ob,k b ob q⟩,fun _ _ q=>q,fun _ _ _ q=>q,fun _ ps q=>⟨#[],by rw[q];simp⟩⟩
theorem Un.refl:Un fs ex H H h h:=Un.kept fun _ _ q=>q
theorem Un.laid(k:∀b u,h.get? b=some u->h'.get? b=some u)(hp:h.objs.size<=a)(hn:H a=none):Un fs ex H (dY H a o) h h' where
 keep:=fun b u q _ _ _=>k b u q
 slot:=fun b u q _ _ _=>⟨u.slots,k b u q⟩
 free:=fun b u q n _=>by rw[bX (bt (aW (aF q) hp))];exact n
 there:=fun b u q _=>⟨u,k b u q⟩
 tups:=fun b xs q=>by rw[bX (ej q hn)];exact q
 frzs:=fun b u xs q=>by rw[bX (ej q hn)];exact q
 tbls:=fun b ps q=>⟨#[],by rw[bX (ej q hn),q];simp⟩
theorem Un.write(mu:Ka (H x))(he:e=x\/H e=some (.own x))(k:∀b u,b≠e->h.get? b=some u->h'.get? b=some u)(NL:∃u,h'.get? e=some u):Un fs ex H (dY H x o) h h':=by
 have hx:∀b,H b=none->b≠x:=fun b n z=>by subst z;rw[n]at mu;exact mu
 have hb:∀b,H b=none->b≠e:=fun b n z=>by
  subst z
  rcases he with r|r
  ·exact hx b n r
  ·rw[n]at r;cases r
 have hm:∀b u,H b=some u->¬ Ka (some u)->b≠x:=fun b u q nm z=>by subst z;rw[q]at mu;exact nm mu
 refine⟨fun b u q n _ _=>k b u (hb b n) q,fun b u q n _ _=>⟨u.slots,k b u (hb b n) q⟩,fun b u q n _=>by rw[bX (hx b n)];exact n,fun b u q _=>?_,
  fun b xs q=>by rw[bX (hm b _ q fun z=>z)];exact q,fun b u xs q=>by rw[bX (hm b _ q fun z=>z)];exact q,fun b ps q=>⟨#[],by rw[bX (hm b _ q fun z=>z),q];simp⟩⟩
 by_cases hbe:b=e
 ·subst hbe;exact NL
 ·exact⟨u,k b u hbe q⟩
end
def Q0(h:Heap)(H:Hp):List Addr:=(List.range h.objs.size).filter fun a=>(H a).isSome
def sY(h:Heap)(H:Hp):Heap:=PySem.W.hideAll h (Q0 h H)
theorem AY(h:Heap)(H:Hp):(sY h H).objs.size=h.objs.size:=PySem.W.hideAll_size _ _
theorem Cv{H:Hp}(e:h.get? b=some o)(n:H b=none):(sY h H).get? b=some o:=
 PySem.W.hideAll_get _ e fun hm=>by
  have q:(H b).isSome=true:=(du.mp hm).2
  rw[n]at q;simp at q
theorem Ge{H:Hp}(e:(sY h H).get? b=some o):h.get? b=some o/\H b=none:=by
 have e':h.get? b=some o:=PySem.W.of_hideAll (Q0 h H) e
 refine⟨e',?_⟩
 cases q:H b with
 |none=>rfl
 |some x=>
  have hm:b∈Q0 h H:=du.mpr ⟨a_.mpr (aF e'),by simp[q]⟩
  have z:(sY h H).get? b=none:=PySem.W.hideAll_none (Q0 h H) hm
  rw[z]at e;cases e
def Gf(g h:Heap)(L:Addr):List (Addr×Obj):=(List.range h.objs.size).filterMap fun a=>if a=L\/(g.get? a).isSome=true then none else(h.get? a).map fun o=>(a,o)
def rest(g h:Heap)(L d:Addr):List (Addr×Obj):=(Gf g h L).filter fun p=>decide (p.1≠d)
structure Mod(K:Frag)(mg:Str->Option Value)(base:Heap):Prop where
 kin:K.In base
 glob:base.Ns mainGlobals mg
 blt:∃mb,base.Ns builtinsNs mb/\∀x:Str,x ≠ "__name__"->mb x=bootBuiltins x
 nolimit:base.NoLimit
structure Cx where
 prog:Program
 w:World
 K:Frag
 mg:Str->Option Value
 base:Heap
 A:Around
 N:List Str
 s₀:Shared
 H₀:Hp
 env:Env
 outer:List Env
 stack:List Env
 ex:List Addr
 fn:Str->Bool
 calm:Bool
 pn:List (Addr×Obj)
 xe:Value->Shared->Prop
def sV(l:List Env):List Addr:=l.filterMap (·.frame)
abbrev Cx.fs(X:Cx):List Addr:=sV X.outer
def Nv(sc:Scope)(x:Str):Prop:=sc.names.lookup x=some .local\/sc.names.lookup x=some .cell\/sc.names.lookup x=some .free
def Co(sc:Scope)(x:Str):Prop:=sc.names.lookup x=some .local\/sc.names.lookup x=some .cell
def Rp(env:Env)(h:Heap)(m:Str->Option Value)(x:Str)(u:Value):Prop:=
 (env.kindOf x=some .local/\m x=some u)\/((env.kindOf x=some .cell\/env.kindOf x=some .free)/\∃c,env.cells.lookup x=some c/\h.IsCell c (some u))
structure Cx.Ok(X:Cx):Prop where
 mod:Mod X.K X.mg X.base
 kind:X.env.scope.kind=.function
 glob:X.env.globals=mainGlobals
 blt:X.env.builtins=builtinsNs
 above:X.s₀.heap.objs.size<=X.env.locals
 inj:∀x y c,X.env.cells.lookup x=some c->X.env.cells.lookup y=some c->x=y
 has:∀x,(X.env.kindOf x=some .cell\/X.env.kindOf x=some .free)->∃c,X.env.cells.lookup x=some c
 cab:∀x c,X.fn x=true->X.env.cells.lookup x=some c->X.s₀.heap.objs.size<=c
 hd:X.calm=true->X.A.handled=none
 frames:X.A.frames=some X.stack
 stk:X.stack=X.outer\/(X.stack=X.env::X.outer/\X.env.frame=some X.env.locals)
 exf:∀b∈X.ex,b≠X.env.locals/\∀x c,X.env.cells.lookup x=some c->c≠b
 bs:∀b o,X.base.get? b=some o->X.s₀.heap.get? b=some o/\X.H₀ b=none
 bsz:X.base.objs.size<=X.s₀.heap.objs.size
 noex:∀b o,X.base.get? b=some o->b∉X.ex
 exfs:∀b∈X.ex,b∉X.fs
 funs:X.s₀.heap.FunFrames X.base X.outer
 frf:∀b∈X.fs,X.H₀ b=none
structure bj(X:Cx)(pins:List (Addr×Obj))(σ:List (Option V))(H:Hp)(s:Shared):Prop where
 ok:X.Ok
 os:s.os=X.s₀.os
 bare:AllBare s.gens
 base:Un X.fs X.ex X.H₀ H X.s₀.heap s.heap
 loc:∃m,s.heap.Ns X.env.locals m/\∀(i:Nat) (x:Str) (v:V),X.N[i]?=some x->σ[i]?=some (some v)->Nv X.env.scope x->∃u,bF v u/\Rp X.env s.heap m x u
 cell:∀x c,X.env.cells.lookup x=some c->∃v,s.heap.IsCell c v
 free:H X.env.locals=none
 freeC:∀x c,X.env.cells.lookup x=some c->H c=none
 pin:∀p∈X.pn++pins,s.heap.get? p.1=some p.2/\H p.1=none/\p.1≠X.env.locals/\p.1∉X.fs/\∀v,p.2.data≠.cell v
 hok:jK X.prog X.w H s.heap
 len:σ.length=X.N.length
section
variable{X:Cx}{σ:List (Option V)}{H H':Hp}
theorem Cx.Ok.nofr(ok:X.Ok)(e:X.base.get? b=some o):b∉X.fs:=fun hb=>by
 have:=(ok.funs.mem hb).1
 rw[e]at this;cases this
theorem bj.bs(I:bj X pins σ H s):∀b o,X.base.get? b=some o->s.heap.get? b=some o/\H b=none:=fun b o e=>
 ⟨I.base.keep b o (I.ok.bs b o e).1 (I.ok.bs b o e).2 (I.ok.nofr e) (I.ok.noex b o e),I.base.free b o (I.ok.bs b o e).1 (I.ok.bs b o e).2 (I.ok.noex b o e)⟩
theorem bj.bk(I:bj X pins σ H s):∀b o,X.base.get? b=some o->s.heap.get? b=some o:=fun b o e=>(I.bs b o e).1
theorem bj.mod(I:bj X pins σ H s):Mod X.K X.mg X.base:=I.ok.mod
theorem bj.kIn(I:bj X pins σ H s):X.K.In s.heap:=I.ok.mod.kin.keeps I.bk
theorem bj.nolimit(I:bj X pins σ H s):s.heap.NoLimit:=I.ok.mod.nolimit.keeps I.bk
theorem bj.lt(I:bj X pins σ H s):X.env.locals<s.heap.objs.size:=let ⟨_,hn,_⟩:=I.loc;hn.lt
theorem bj.sz(I:bj X pins σ H s):X.s₀.heap.objs.size<=s.heap.objs.size:=be I.ok.above (cV I.lt)
theorem bj.nofs(I:bj X pins σ H s)(h:s.heap.objs.size<=a):a∉X.fs:=fun hb=>by
 obtain⟨_,o,ho,_⟩:=I.ok.funs.mem hb
 exact absurd (aW (aF ho) (be I.sz h)) (bq _)
theorem bj.cne(I:bj X pins σ H s):∀x c,X.env.cells.lookup x=some c->c≠X.env.locals:=fun x c e z=>by
 obtain⟨v,o,ho,hd⟩:=I.cell x c e
 obtain⟨m,⟨o',es,ep,ho',hd',_⟩,_⟩:=I.loc
 rw[z,ho']at ho;cases ho;rw[hd']at hd;cases hd
theorem bj.funs(I:bj X pins σ H s):s.heap.FunFrames X.base X.outer:=by
 have all:∀(l:List Env),(∀b∈sV l,b∈X.fs)->X.s₀.heap.FunFrames X.base l->s.heap.FunFrames X.base l:=by
  intro l
  induction l with
  |nil=>intro _ _;trivial
  |cons env r ih=>
   intro hs hl
   obtain⟨hk,⟨L,o,hf,hn,ho,hd⟩,hr⟩:=hl
   have hL:L∈X.fs:=hs L (by unfold sV;rw[fx,hf];exact aN)
   obtain⟨sl,e⟩:=I.base.slot L o ho (I.ok.frf L hL) hL fun z=>I.ok.exfs L z hL
   exact⟨hk,⟨L,_,hf,hn,e,hd⟩,ih (fun b hb=>hs b (by unfold sV;rw[fx,hf];exact aA _ hb)) hr⟩
 exact all X.outer (fun _ hb=>hb) I.ok.funs
theorem bj.stack(I:bj X pins σ H s):s.heap.FunFrames X.base X.stack:=by
 rcases I.ok.stk with e|⟨e,hf⟩
 ·rw[e];exact I.funs
 ·rw[e]
  obtain⟨m,hn,_⟩:=I.loc
  refine .cons (by rw[I.ok.kind];decide) hf hn ?_ I.funs
  exact Heap.get?_none_of_le (be I.ok.bsz I.ok.above)
theorem bj.stkSub(I:bj X pins σ H s):∀b∈sV X.stack,b∈X.env.locals::X.fs:=fun b hb=>by
 rcases I.ok.stk with e|⟨e,hf⟩
 ·rw[e]at hb;exact aA _ hb
 ·rw[e]at hb
  unfold sV at hb
  rw[fx,hf]at hb
  exact hb
theorem bj.stkFree(I:bj X pins σ H s):∀b∈sV X.stack,H b=none:=fun b hb=>by
 rcases aJ.mp (I.stkSub b hb)with e|hb
 ·rw[e];exact I.free
 ·obtain⟨_,o,ho,_⟩:=I.ok.funs.mem hb
  exact I.base.free b o ho (I.ok.frf b hb) fun z=>I.ok.exfs b z hb
theorem bj.step{g':Array GenState}{t':Nat}{d':Drawn}{ch:List Addr}(I:bj X pins σ H s)
  (Cg:∀b∈ch,(b∈X.ex\/X.s₀.heap.objs.size<=b)/\b≠X.env.locals/\(∀x c,X.env.cells.lookup x=some c->c≠b)/\∀p∈X.pn++pins,p.1≠b)
  (keep:∀b o,b≠X.env.locals->b∉X.fs->b∉ch->s.heap.get? b=some o->H b=none->h'.get? b=some o)
  (slot:∀b o,b≠X.env.locals->b∈X.fs->b∉ch->s.heap.get? b=some o->H b=none->∃sl,h'.get? b=some { o with slots:=sl }) (free:∀b o,b∉ch->s.heap.get? b=some o->H b=none->H' b=none)
  (there:∀b o,b∉ch->s.heap.get? b=some o->∃o',h'.get? b=some o')
  (tups:∀b xs,H b=some (.tup xs)->H' b=some (.tup xs)) (frzs:∀b o u,H b=some (.frz o u)->H' b=some (.frz o u)) (tbls:∀b ps,H b=some (.tbl ps)->∃jw,H' b=some (.tbl (ps++jw)))
  (ns:∀m,s.heap.Ns X.env.locals m->h'.Ns X.env.locals m) (hok:jK X.prog X.w H' h') (hg:AllBare g') :
  bj X pins σ H' { s with heap:=h',gens:=g',drawn:=d',toks:=t' }:=by
 have neL:∀b o,X.s₀.heap.get? b=some o->b≠X.env.locals:=fun b o e=>bt (aW (aF e) I.ok.above)
 have neC:∀b o,X.s₀.heap.get? b=some o->b∉X.ex->b∉ch:=fun b o e hx hb=>by
  rcases(Cg b hb).1 with z|z
  ·exact hx z
  ·exact absurd (aW (aF e) z) (bq _)
 have cellK:∀x c,X.env.cells.lookup x=some c->∀v,s.heap.IsCell c v->h'.IsCell c v:=fun x c e v ⟨o,ho,hd⟩=>by
  have nch:c∉ch:=fun z=>(Cg c z).2.2.1 x c e rfl
  by_cases hc:c∈X.fs
  ·obtain⟨sl,q⟩:=slot c o (I.cne x c e) hc nch ho (I.freeC x c e)
   exact⟨_,q,hd⟩
  ·exact⟨o,keep c o (I.cne x c e) hc nch ho (I.freeC x c e),hd⟩
 refine⟨I.ok,I.os,hg,⟨fun b o e n hb hx=>?_,fun b o e n hb hx=>?_,fun b o e n hx=>?_,fun b o e hx=>?_,fun b xs e=>tups b xs (I.base.tups b xs e),fun b o xs e=>frzs b o xs (I.base.frzs b o xs e),fun b ps e=>?_⟩,?_,fun x c e=>?_,?_,fun x c e=>?_,fun p hp=>?_,hok,I.len⟩
 ·exact keep b o (neL b o e) hb (neC b o e hx) (I.base.keep b o e n hb hx) (I.base.free b o e n hx)
 ·obtain⟨sl,e1⟩:=I.base.slot b o e n hb hx
  obtain⟨sl',e2⟩:=slot b _ (neL b o e) hb (neC b o e hx) e1 (I.base.free b o e n hx)
  exact⟨sl',e2⟩
 ·obtain⟨o',e1⟩:=I.base.there b o e hx
  exact free b o' (neC b o e hx) e1 (I.base.free b o e n hx)
 ·obtain⟨o',e1⟩:=I.base.there b o e hx
  exact there b o' (neC b o e hx) e1
 ·obtain⟨m1,e1⟩:=I.base.tbls b ps e
  obtain⟨m2,e2⟩:=tbls b _ e1
  exact⟨m1++m2,by rw[e2,Array.append_assoc]⟩
 ·obtain⟨m,hn,hl⟩:=I.loc
  refine⟨m,ns m hn,fun i x v e1 e2 e3=>?_⟩
  obtain⟨u,r,l⟩:=hl i x v e1 e2 e3
  refine⟨u,r,?_⟩
  rcases l with l|⟨k,c,e,z⟩
  ·exact .inl l
  ·exact .inr ⟨k,c,e,cellK x c e _ z⟩
 ·obtain⟨v,z⟩:=I.cell x c e
  exact⟨v,cellK x c e v z⟩
 ·obtain⟨m,⟨o,_,_,ho,_⟩,_⟩:=I.loc
  exact free _ o (fun z=>(Cg _ z).2.1 rfl) ho I.free
 ·obtain⟨v,o,ho,hd⟩:=I.cell x c e
  exact free c o (fun z=>(Cg c z).2.2.1 x c e rfl) ho (I.freeC x c e)
 ·obtain⟨e,n,ne,nf,d⟩:=I.pin p hp
  have nch:p.1∉ch:=fun z=>(Cg p.1 z).2.2.2 p hp rfl
  exact⟨keep p.1 p.2 ne nf nch e n,free p.1 p.2 nch e n,ne,nf,d⟩
theorem bj.un{t':Nat}(I:bj X pins σ H s)(u:Un X.fs [] H H' s.heap h')(hok:jK X.prog X.w H' h'):bj X pins σ H' { s with heap:=h',toks:=t' }:=by
 obtain⟨m,⟨o,es,ep,ho,r⟩,_⟩:=id I.loc
 obtain⟨sl,hL⟩:=u.any ho I.free (by simp)
 exact I.step (g':=s.gens) (d':=s.drawn) (ch:=[]) (fun _ z=>nomatch z) (fun b o _ hb _ e n=>u.keep b o e n hb (by simp)) (fun b o _ hb _ e n=>u.slot b o e n hb (by simp)) (fun b o _ e n=>u.free b o e n (by simp)) (fun b o _ e=>u.there b o e (by simp)) u.tups u.frzs u.tbls (fun m' hm=>by
  obtain⟨o',es',ep',ho',r'⟩:=hm
  rw[ho]at ho';cases ho'
  exact⟨_,es',ep',hL,r'⟩) hok I.bare
theorem bj.call{g':Array GenState}{t':Nat}{d':Drawn}{ch:List Addr}(I:bj X pins σ H s)(u:Un (sV X.stack) ch H H' s.heap h')(hok:jK X.prog X.w H' h')(hg:AllBare g')
  (Cg:∀b∈ch,(b∈X.ex\/X.s₀.heap.objs.size<=b)/\b≠X.env.locals/\(∀x c,X.env.cells.lookup x=some c->c≠b)/\∀p∈X.pn++pins,p.1≠b) :
  bj X pins σ H' { s with heap:=h',gens:=g',drawn:=d',toks:=t' }:=by
 obtain⟨m,⟨o,es,ep,ho,r⟩,_⟩:=id I.loc
 obtain⟨sl,hL⟩:=u.any ho I.free fun z=>(Cg _ z).2.1 rfl
 exact I.step (ch:=ch) Cg (fun b o hL hb hc e n=>u.keep b o e n (fun z=>(aJ.mp (I.stkSub b z)).elim hL hb) hc) (fun b o _ _ hc e n=>u.any e n hc) (fun b o hc e n=>u.free b o e n hc) (fun b o hc e=>u.there b o e hc) u.tups u.frzs u.tbls (fun m' hm=>by
  obtain⟨o',es',ep',ho',r'⟩:=hm
  rw[ho]at ho';cases ho'
  exact⟨_,es',ep',hL,r'⟩) hok hg
theorem bj.turned{t':Nat}{it:Addr}(I:bj X pins σ H s)(k:∀b o,b≠it->s.heap.get? b=some o->h'.get? b=some o)(hn:H it=none)(hL:it≠X.env.locals)
  (h1:it∈X.ex\/X.s₀.heap.objs.size<=it) (h2:∀x c,X.env.cells.lookup x=some c->c≠it) (h3:∀p∈X.pn++pins,p.1≠it):bj X pins σ H { s with heap:=h',toks:=t' }:=by
 have nit:∀b u,H b=some u->b≠it:=fun b u e z=>by rw[z,hn]at e;cases e
 refine I.step (g':=s.gens) (d':=s.drawn) (ch:=[it]) (fun b hb=>?_) (fun b o _ _ hc e _=>k b o (fun z=>hc (by simp[z])) e) (fun b o _ _ hc e _=>⟨o.slots,k b o (fun z=>hc (by simp[z])) e⟩) (fun _ _ _ _ n=>n)
  (fun b o hc e=>⟨o,k b o (fun z=>hc (by simp[z])) e⟩) (fun _ _ e=>e) (fun _ _ _ e=>e) (fun b ps e=>⟨#[],by rw[e];simp⟩) (fun m hm=>?_) (fun b u e=>?_) I.bare
 ·have e:b=it:=by simpa using hb
  subst e
  exact⟨h1,hL,h2,h3⟩
 ·obtain⟨o,es,ep,ho,r⟩:=hm
  exact⟨o,es,ep,k _ o (Ne.symm hL) ho,r⟩
 ·refine(I.hok b u e).stay (fun c v hc q=>k c v ?_ q) (fun _ q=>q) fun _ _ q=>q
  rcases hc with z|z
  ·rw[z];exact nit b u e
  ·exact nit c _ z
theorem bj.tok(I:bj X pins σ H s)(t:Nat):bj X pins σ H { s with toks:=t }:=I.un (h':=s.heap) (t':=t) Un.refl I.hok
theorem bj.kept{t':Nat}(I:bj X pins σ H s)(k:∀b u,s.heap.get? b=some u->h'.get? b=some u):bj X pins σ H { s with heap:=h',toks:=t' }:=I.un (Un.kept k) (I.hok.kept k)
theorem bj.laid{a:Addr}{o:HO}{t':Nat}(I:bj X pins σ H s)(k:∀b u,s.heap.get? b=some u->h'.get? b=some u)(hp:s.heap.objs.size<=a)(new:dU X.prog X.w (dY H a o) h' a o) :
  bj X pins σ (dY H a o) { s with heap:=h',toks:=t' }:=I.un (Un.laid k hp (I.hok.fresh hp)) (I.hok.laid k hp new)
theorem bj.write{x e:Addr}{o:HO}(I:bj X pins σ H s)(mu:Ka (H x))(he:e=x\/H e=some (.own x))(k:∀b u,b≠e->s.heap.get? b=some u->h'.get? b=some u)(NL:∃u,h'.get? e=some u)
  (new:dU X.prog X.w (dY H x o) h' x o):bj X pins σ (dY H x o) { s with heap:=h',toks:=t' }:=I.un (Un.write mu he k NL) (I.hok.write mu he k NL new)
theorem bj.pins_of{pins':List (Addr×Obj)}(I:bj X pins σ H s)(h:∀p∈pins',s.heap.get? p.1=some p.2/\H p.1=none/\p.1≠X.env.locals/\p.1∉X.fs/\∀v,p.2.data≠.cell v):bj X pins' σ H s:=
 ⟨I.ok,I.os,I.bare,I.base,I.loc,I.cell,I.free,I.freeC,fun p hp=>(aH.mp hp).elim (fun z=>I.pin p (cF _ z)) (h p),I.hok,I.len⟩
theorem wn{N:List Str}(hN:N.Nodup)(a:N[i]?=some x)(b:N[j]?=some x):i=j:=by
 obtain⟨h1,e1⟩:=aa.mp a
 obtain⟨h2,e2⟩:=aa.mp b
 exact(List.getElem_inj hN).mp (e1.trans e2.symm)
theorem AZ{M:Model}{A:Around}{E:Value->Shared->Prop}{v:V}{Q:Unit->Shared->Prop}(I:bj X pins σ H s)(hN:X.N.Nodup)(hi:X.N[i]?=some x)(hx:Co X.env.scope x)(r:bF v u)
  (h:∀s',bj X pins (σ.set i (some v)) H s'->(∃a,Heap.SameBut a s.heap s'.heap/\(a=X.env.locals\/X.env.cells.lookup x=some a))->Q () s') (hf:X.fn x=true\/X.env.scope.names.lookup x=some .local:=by first|exact .inl rfl|exact .inr rfl|assumption):wpAny M A (storeName X.env x u) Q E s:=by
 obtain⟨m,hn,hl⟩:=id I.loc
 have hcls:(X.env.scope.kind==.class||(X.env.scope.kind==.module&&X.env.locals != X.env.globals))=false:=by rw[I.ok.kind];rfl
 have hiσ:i<σ.length:=by rw[I.len];exact(aa.mp hi).1
 have cne:=I.cne
 have tracked:∀{a:Addr} {h':Heap},(∃o,s.heap.get? a=some o/\H a=none)->Heap.SameBut a s.heap h'->jK X.prog X.w H h':=fun{a h'} ha hs b ob e=>by
  obtain⟨_,_,hfree⟩:=ha
  refine(I.hok b ob e).stay (fun c w' hc q=>(hs.2 c ?_).trans q) (fun _ q=>q) fun _ _ q=>q
  rintro rfl
  rcases hc with rfl|hc
  ·rw[hfree]at e;cases e
  ·rw[hfree]at hc;cases hc
 rcases hx with hk|hk
 ·refine wpAny_storeName_local hk hn (fun h' hn' hs=>?_) hcls
  obtain⟨oL,_,_,hoL,_⟩:=id hn
  refine h _ ⟨I.ok,I.os,I.bare,⟨fun b o e n hb hx=>?_,fun b o e n hb hx=>?_,I.base.free,fun b o e hx=>?_,I.base.tups,I.base.frzs,I.base.tbls⟩,⟨_,hn',fun j y v' e1 e2 e3=>?_⟩,fun y c e=>?_,I.free,I.freeC,fun p hp=>?_,tracked ⟨oL,hoL,I.free⟩ hs,by simpa using I.len⟩ ⟨_,hs,.inl rfl⟩
  ·exact(hs.2 b (bt (aW (aF e) I.ok.above))).trans (I.base.keep b o e n hb hx)
  ·obtain⟨sl,e1⟩:=I.base.slot b o e n hb hx
   exact⟨sl,(hs.2 b (bt (aW (aF e) I.ok.above))).trans e1⟩
  ·obtain⟨o',e1⟩:=I.base.there b o e hx
   exact⟨o',(hs.2 b (bt (aW (aF e) I.ok.above))).trans e1⟩
  ·by_cases hj:j=i
   ·subst hj
    rw[hi]at e1;cases e1
    rw[bi hiσ]at e2
    cases e2
    exact⟨u,r,.inl ⟨hk,by simp⟩⟩
   ·rw[bH (Ne.symm hj)]at e2
    obtain⟨u',r',q⟩:=hl j y v' e1 e2 e3
    refine⟨u',r',?_⟩
    rcases q with⟨k,e⟩|⟨k,c,e,z⟩
    ·refine .inl ⟨k,?_⟩
     have:y≠x:=fun e=>hj (wn hN e1 (e▸hi))
     simp[this,e]
    ·exact .inr ⟨k,c,e,z.sameBut hs (cne y c e)⟩
  ·obtain⟨w',z⟩:=I.cell y c e
   exact⟨w',z.sameBut hs (cne y c e)⟩
  ·obtain⟨e,n,ne,nf,d⟩:=I.pin p hp
   exact⟨(hs.2 p.1 ne).trans e,n,ne,nf,d⟩
 ·have yk:X.fn x=true:=by
   rcases hf with z|z
   ·exact z
   ·rw[z]at hk;cases hk
  obtain⟨c,hc⟩:=I.ok.has x (.inl hk)
  obtain⟨w',z⟩:=I.cell x c hc
  refine wpAny_storeName_cell I.ok.kind hk hc z (fun h' hc' hs=>?_)
  obtain⟨oc,hoc,hocd⟩:=id z
  refine h { s with heap:=h' } ⟨I.ok,I.os,I.bare,⟨fun b o e n hb hx=>?_,fun b o e n hb hx=>?_,I.base.free,fun b o e hx=>?_,I.base.tups,I.base.frzs,I.base.tbls⟩,⟨m,hn.sameBut hs (Ne.symm (cne x c hc)),fun j y v' e1 e2 e3=>?_⟩,fun y c' e=>?_,I.free,I.freeC,fun p hp=>?_,tracked ⟨oc,hoc,I.freeC x c hc⟩ hs,by simpa using I.len⟩ ⟨c,hs,.inr hc⟩
  ·exact(hs.2 b (bt (aW (aF e) (I.ok.cab x c yk hc)))).trans (I.base.keep b o e n hb hx)
  ·obtain⟨sl,e1⟩:=I.base.slot b o e n hb hx
   exact⟨sl,(hs.2 b (bt (aW (aF e) (I.ok.cab x c yk hc)))).trans e1⟩
  ·obtain⟨o',e1⟩:=I.base.there b o e hx
   exact⟨o',(hs.2 b (bt (aW (aF e) (I.ok.cab x c yk hc)))).trans e1⟩
  ·by_cases hj:j=i
   ·subst hj
    rw[hi]at e1;cases e1
    rw[bi hiσ]at e2
    cases e2
    exact⟨u,r,.inr ⟨.inl hk,c,hc,hc'⟩⟩
   ·rw[bH (Ne.symm hj)]at e2
    obtain⟨u',r',q⟩:=hl j y v' e1 e2 e3
    refine⟨u',r',?_⟩
    rcases q with q|⟨k,c',e,z'⟩
    ·exact .inl q
    ·refine .inr ⟨k,c',e,z'.sameBut hs ?_⟩
     rintro rfl
     exact hj (wn hN e1 (I.ok.inj _ _ _ e hc▸hi))
  ·by_cases hcc:c'=c
   ·subst hcc;exact⟨_,hc'⟩
   ·obtain⟨w2,z2⟩:=I.cell y c' e
    exact⟨w2,z2.sameBut hs hcc⟩
  ·obtain⟨e,n,ne,nf,d⟩:=I.pin p hp
   refine⟨(hs.2 p.1 ?_).trans e,n,ne,nf,d⟩
   intro q
   rw[q,hoc]at e
   have q':oc=p.2:=aM e
   exact d w' (by rw[<- q'];exact hocd)
theorem qS{M:Model}{A:Around}{E:Value->Shared->Prop}{v:V}{Q:Unit->Shared->Prop}(I:bj X pins σ H s)(hN:X.N.Nodup)(hi:X.N[i]?=some x)(hx:Co X.env.scope x)(r:bF v u)
  (h:∀s',bj X pins (σ.set i (some v)) H s'->Q () s') (hf:X.fn x=true\/X.env.scope.names.lookup x=some .local:=by first|exact .inl rfl|exact .inr rfl|assumption):wpAny M A (storeName X.env x u) Q E s:=
 AZ I hN hi hx r (fun s' I' _=>h s' I') hf
theorem bj.call'{s':Shared}{ch:List Addr}(I:bj X pins σ H s)(ho:s'.os=s.os)(u:Un (sV X.stack) ch H H' s.heap s'.heap)(hok:jK X.prog X.w H' s'.heap)(hg:AllBare s'.gens)
  (Cg:∀b∈ch,(b∈X.ex\/X.s₀.heap.objs.size<=b)/\b≠X.env.locals/\(∀x c,X.env.cells.lookup x=some c->c≠b)/\∀p∈X.pn++pins,p.1≠b):bj X pins σ H' s':=by
 obtain⟨h',g',d',t',o'⟩:=s'
 have e:o'=s.os:=ho
 subst e
 exact I.call (g':=g') (t':=t') (d':=d') u hok hg Cg
end
abbrev XK:=Value->Option Addr->Hp->Prop
abbrev St:=List (Option V)
abbrev VK:=V->Hp->Prop
abbrev TE:=St->Hp->VK->Prop
abbrev TT:=St->Hp->(Bool->Hp->Prop)->Prop
abbrev TA:=St->Hp->(List V->Hp->Prop)->Prop
structure uR where
 nx:St->Hp->Prop
 rt:VK
 bk:St->Hp->Prop:=fun _ _=>False
 ct:St->Hp->Prop:=fun _ _=>False
abbrev TS:=uR->St->Hp->Prop
def EP(X:Cx)(pins:List (Addr×Obj))(σ:St)(Q:VK)(u:Value)(s':Shared):Prop:=∃v H',bj X pins σ H' s'/\bF v u/\Q v H'
def TP(X:Cx)(pins:List (Addr×Obj))(σ:St)(Q:Bool->Hp->Prop)(b:Bool)(s':Shared):Prop:=∃H',bj X pins σ H' s'/\Q b H'
def AP(X:Cx)(pins:List (Addr×Obj))(σ:St)(Q:List V->Hp->Prop)(us:List Value)(s':Shared):Prop:=∃vs H',bj X pins σ H' s'/\b8 vs us/\Q vs H'
def SP(X:Cx)(pins:List (Addr×Obj))(D:uR)(f:Flow)(s':Shared):Prop:=
 match f with
 |.next=>∃σ' H',bj X pins σ' H' s'/\D.nx σ' H'
 |.brk=>∃σ' H',bj X pins σ' H' s'/\D.bk σ' H'
 |.cont=>∃σ' H',bj X pins σ' H' s'/\D.ct σ' H'
 |.ret u=>∃v σ' H',bj X pins σ' H' s'/\bF v u/\D.rt v H'
def PE(X:Cx)(e:Expr)(t:TE):Prop:=
 ∀(pins:List (Addr×Obj)) (s:Shared) (σ:St) (H:Hp) (Q:VK),bj X pins σ H s->t σ H Q->wpAny (model X.prog X.w) X.A (eval e X.env) (EP X pins σ Q) X.xe s
def PT(X:Cx)(e:Expr)(t:TT):Prop:=
 ∀(pins:List (Addr×Obj)) (s:Shared) (σ:St) (H:Hp) (Q:Bool->Hp->Prop),bj X pins σ H s->t σ H Q->wpAny (model X.prog X.w) X.A (isTrue e X.env (eval e X.env)) (TP X pins σ Q) X.xe s
def PW(X:Cx)(e:Expr)(t:TT):Prop:=
 ∀(sU:Sem Value) (pins:List (Addr×Obj)) (s:Shared) (σ:St) (H:Hp) (Q:Bool->Hp->Prop),bj X pins σ H s->t σ H Q->wpAny (model X.prog X.w) X.A (isTrue e X.env sU) (TP X pins σ Q) X.xe s
theorem PW.pt{X:Cx}{t:TT}(h:PW X e t):PT X e t:=h _
def PA(X:Cx)(es:List Expr)(t:TA):Prop:=
 ∀(pos:Pos) (pins:List (Addr×Obj)) (s:Shared) (σ:St) (H:Hp) (Q:List V->Hp->Prop),bj X pins σ H s->t σ H Q->wpAny (model X.prog X.w) X.A (spliced (backTo pos (starEach es X.env))) (AP X pins σ Q) X.xe s
def PS(X:Cx)(st:Stmt)(t:TS):Prop:=
 ∀(pins:List (Addr×Obj)) (s:Shared) (σ:St) (H:Hp) (D:uR),bj X pins σ H s->t D σ H->wpAny (model X.prog X.w) X.A (exec st X.env) (SP X pins D) X.xe s
def A0(X:Cx)(st:List Stmt)(t:TS):Prop:=
 ∀(pins:List (Addr×Obj)) (s:Shared) (σ:St) (H:Hp) (D:uR),bj X pins σ H s->t D σ H->wpAny (model X.prog X.w) X.A (execs st X.env) (SP X pins D) X.xe s
theorem fI{t:Sem α}{Q Q':α->Shared->Prop}(h:wpAny M A t Q E s)(hQ:∀a s,Q a s->Q' a s):wpAny M A t Q' E s:=dJ h hQ fun _ _ x=>x
section
variable{X:Cx}
def NN(i:Nat):TE:=fun σ H Q=>∃v,σ[i]?=some (some v)/\Q v H
def tC(v:V):TE:=fun _ H Q=>Q v H
theorem Kb{pos:Pos}(hN:X.N[i]?=some x)(hv:Nv X.env.scope x)(hd:(x==("__debug__":Str))=false:=by decide)(kt:(x==("__classdict__":Str))=false:=by decide):PE X (.Name x pos) (NN i):=by
 intro pins s σ H Q I h
 obtain⟨v,e,h⟩:=h
 obtain⟨m,hn,hl⟩:=I.loc
 obtain⟨u,r,l⟩:=hl i x v hN e hv
 have fin:EP X pins σ Q u s:=⟨v,H,I,r,h⟩
 rcases l with⟨hk,hm⟩|⟨hk,c,hc,fR⟩
 ·exact lz (wpAny_loadName_local I.ok.kind hk hn hm fin) hd
 ·rcases hk with hk|hk
  ·exact lz (wpAny_loadName_cell I.ok.kind hk hc fR fin) hd
  ·exact lz (wpAny_loadName_free I.ok.kind hk hc fR fin kt) hd
theorem Kc{i j pos}:PE X (.Constant (.int i) j pos) (tC (.int i)):=fun _ _ _ H _ I h=>wpAny_Constant_int ⟨.int i,H,I.tok _,⟨_,rfl⟩,h⟩
theorem NO{b j pos}:PE X (.Constant (.bool b) j pos) (tC (.bl b)):=fun _ _ _ H _ I h=>Constant_bool ⟨.bl b,H,I,rfl,h⟩
theorem Kd{x j pos}:PE X (.Constant (.str x) j pos) (tC (.str x)):=fun _ _ _ H _ I h=>Calls.Constant_str ⟨.str x,H,I.tok _,⟨_,rfl⟩,h⟩
def Gl(X:Cx)(x:Str):Prop:=X.env.kindOf x=some .globalImplicit
theorem zL{E:Value->Shared->Prop}{σ:St}{H:Hp}{pos:Pos}(I:bj X pins σ H s)(hg:Gl X x)(hm:X.mg x=some u)(h:Q u s)
  (hd:(x==("__debug__":Str))=false:=by decide):wpAny (model X.prog X.w) X.A (eval (.Name x pos) X.env) Q E s:=
 jy I.ok.kind hg (Calls.loadGlobal_global (by rw[I.ok.glob];exact I.mod.glob.keeps I.bk) hm h) hd
theorem me{E:Value->Shared->Prop}{σ:St}{H:Hp}{pos:Pos}(I:bj X pins σ H s)(hg:Gl X x)(hm:X.mg x=none)(hv:bootBuiltins x=some u)(h:Q u s)
  (hn:x ≠ "__name__":=by decide) (hd:(x==("__debug__":Str))=false:=by decide):wpAny (model X.prog X.w) X.A (eval (.Name x pos) X.env) Q E s:=by
 obtain⟨mb,h1,h2⟩:=I.mod.blt
 exact jy I.ok.kind hg (Calls.loadGlobal_builtin (by rw[I.ok.glob];exact I.mod.glob.keeps I.bk) hm (by rw[I.ok.blt];exact h1.keeps I.bk) ((h2 x hn).trans hv) h) hd
theorem Gg{v:V}{pos:Pos}(hg:Gl X x)(hm:X.mg x=none)(hv:bootBuiltins x=some u)(r:bF v u)(hn:x ≠ "__name__":=by decide)(hd:(x==("__debug__":Str))=false:=by decide):PE X (.Name x pos) (tC v):=
 fun _ _ _ H _ I h=>me I hg hm hv ⟨v,H,I,r,h⟩ hn hd
variable{a b:Expr}{ta tb:TE}
def PC(X:Cx)(op:CmpOp)(a b:Expr)(t:TE):Prop:=
 ∀(pins:List (Addr×Obj)) (s:Shared) (σ:St) (H:Hp) (Q:VK),bj X pins σ H s->t σ H Q ->
  wpAny (model X.prog X.w) X.A (eval a X.env) (fun v s₁=>wpAny (model X.prog X.w) X.A (eval b X.env) (fun u s₂=>wpAny (model X.prog X.w) X.A (compareOp op v u) (EP X pins σ Q) X.xe s₂) X.xe s₁) X.xe s
theorem wp(b:Expr)(h:op≠.In)(h2:op≠.NotIn):behindInMarks op b=false:=by
 have e1:(op==CmpOp.In)=false:=by cases op<;>first|rfl|exact absurd rfl h
 have e2:(op==CmpOp.NotIn)=false:=by cases op<;>first|rfl|exact absurd rfl h2
 cases b<;>simp[behindInMarks,e1,e2]
def NP(ta:TE):TE:=fun σ H Q=>ta σ H fun x H1=>Q (.bl (decide (x=.non))) H1
theorem bF.none_iff{x:V}{v:Value}(r:bF x v):(v==Value.none)=decide (x=.non):=by
 cases x with
 |non=>cases r;rfl
 |bl _=>cases r;rfl
 |int _=>obtain⟨t,rfl⟩:=r;rfl
 |str _=>obtain⟨t,rfl⟩:=r;rfl
 |byt _=>obtain⟨t,rfl⟩:=r;rfl
 |flt _=>obtain⟨t,rfl⟩:=r;rfl
 |ref _=>cases r;rfl
 |ty _=>cases r;rfl
theorem Cw{j iM}(ha:PE X a ta):PC X .Is a (.Constant .none j iM) (NP ta):=by
 intro pins s σ H Q I h
 refine fI (ha pins s σ H _ I h) fun v s1 ⟨x,H1,I1,r1,q1⟩=>?_
 exact Constant_none (is_none_gen ⟨.bl _,H1,I1,by rw[r1.none_iff];rfl,q1⟩)
def tB(t:TE):TT:=fun σ H Q=>t σ H fun x H1=>∃c,x=.bl c/\Q c H1
theorem Ke{t:TE}(h:PC X op a b t)(h1:behindInMarks op b=false:=by first|exact wp _ (by decide) (by decide)|rfl):PE X (.Compare a [op] [b] pos) t:=fun pins s σ H Q I hw=>wpAny_Compare1 (h pins s σ H Q I hw) h1
theorem Kf{t:TE}(h:PC X op a b t)(h1:behindInMarks op b=false:=by first|exact wp _ (by decide) (by decide)|rfl):PT X (.Compare a [op] [b] pos) (tB t):=by
 intro pins s σ H Q I hw
 refine l7 (fI (h pins s σ H _ I hw) fun v s1 h1=>fI h1 fun u s2 h2=>fI h2 fun c s3 ⟨x,H1,I1,r1,q1⟩=>?_) h1
 obtain⟨d,rfl,q⟩:=q1
 cases r1
 exact dP ⟨H1,I1,q⟩
theorem Kg{t:TE}(h:PE X e t)(he:∀sU,isTrue e X.env sU=(do let v <- sU;standAt e.pos;holding [v] (truthy v)):=by intro _;rfl):PT X e (tB t):=by
 intro pins s σ H Q I hw
 refine isTrue_plain (fI (h pins s σ H _ I hw) fun v s1 ⟨x,H1,I1,r1,q1⟩=>?_) (he _)
 obtain⟨d,rfl,q⟩:=q1
 cases r1
 exact dP ⟨H1,I1,q⟩
variable{tA QF:TT}{rest:List Expr}
def Rq(t u:TT):TT:=fun σ H Q=>t σ H fun c H1=>if c=true then u σ H1 Q else Q false H1
def Tg(t u:TT):TT:=fun σ H Q=>t σ H fun c H1=>if c=true then Q true H1 else u σ H1 Q
def Rs(t:TT):TT:=fun σ H Q=>t σ H fun c H1=>Q (!c) H1
theorem Gh(ha:PT X a tA):PW X (.BoolOp .And [a] pos) tA:=by
 intro wh pins s σ H Q I h
 refine isTrue_and (fI (ha pins s σ H Q I h) fun c s1 e=>?_)
 cases c with
 |true=>exact isTrue_and_nil e
 |false=>exact e
theorem Kh(ha:PT X a tA):PW X (.BoolOp .Or [a] pos) tA:=by
 intro wh pins s σ H Q I h
 refine isTrue_or (fI (ha pins s σ H Q I h) fun c s1 e=>?_)
 cases c with
 |false=>exact isTrue_or_nil e
 |true=>exact e
theorem Ki(ha:PT X a tA)(hb:PW X (.BoolOp .And (b::rest) pos) QF):PW X (.BoolOp .And (a::b::rest) pos) (Rq tA QF):=by
 intro wh pins s σ H Q I h
 refine isTrue_and (fI (ha pins s σ H _ I h) fun c s1 ⟨H1,I1,q1⟩=>?_)
 cases c with
 |true=>exact hb wh pins s1 σ H1 Q I1 q1
 |false=>exact⟨H1,I1,q1⟩
theorem NQ(ha:PT X a tA)(hb:PW X (.BoolOp .Or (b::rest) pos) QF):PW X (.BoolOp .Or (a::b::rest) pos) (Tg tA QF):=by
 intro wh pins s σ H Q I h
 refine isTrue_or (fI (ha pins s σ H _ I h) fun c s1 ⟨H1,I1,q1⟩=>?_)
 cases c with
 |true=>exact⟨H1,I1,q1⟩
 |false=>exact hb wh pins s1 σ H1 Q I1 q1
theorem Kj(ha:PT X a tA):PT X (.UnaryOp .Not a pos) (Rs tA):=by
 intro pins s σ H Q I h
 exact isTrue_not (ha pins s σ H (fun c H1=>Q (!c) H1) I h)
def NR(ta tb:TE):TE:=fun σ H Q=>ta σ H fun x H1=>∃c,x=.bl c/\if c=true then tb σ H1 Q else Q (.bl false) H1
def NS(ta:TE):TE:=fun σ H Q=>ta σ H fun x H1=>∃c,x=.bl c/\Q (.bl (!c)) H1
theorem Kk{op}{t:TE}(h:PE X a t):PE X (.BoolOp op [a] pos) t:=fun pins s σ H Q I hw=>BoolOp_one (h pins s σ H Q I hw)
theorem Kl(ha:PE X a ta)(hb:PE X (.BoolOp .And (b::rest) pos) tb):PE X (.BoolOp .And (a::b::rest) pos) (NR ta tb):=by
 intro pins s σ H Q I h
 refine BoolOp_and (fI (ha pins s σ H _ I h) fun v s1 ⟨x,H1,I1,r1,q1⟩=>?_)
 obtain⟨c,rfl,q1⟩:=q1
 cases r1
 refine dP ?_
 cases c with
 |true=>exact hb pins s1 σ H1 Q I1 q1
 |false=>exact⟨.bl false,H1,I1,rfl,q1⟩
theorem Km(ha:PE X a ta):PE X (.UnaryOp .Not a pos) (NS ta):=by
 intro pins s σ H Q I h
 refine UnaryOp_ (fI (ha pins s σ H _ I h) fun v s1 ⟨x,H1,I1,r1,q1⟩=>?_)
 obtain⟨c,rfl,q1⟩:=q1
 cases r1
 exact not_of (dP ⟨.bl (!c),H1,I1,rfl,q1⟩)
end
def qk(K:Frag)(H:Hp)(a:Addr)(xs:List V):Prop:=
 Rd H a (.lst xs) \/
  ∃(o:Obj) (bw:Array Value) (n:Nat),K.lookup a=some o/\o.cls=.type "list"/\o.dict=none/\o.data=.seq bw n/\bw.size<=sizeLine/\b8 xs bw.toList
def eG(K:Frag)(H:Hp)(a:Addr)(xs:List V):Prop:=
 Rd H a (.tup xs) \/
  ∃(o:Obj) (bw:Array Value) (n:Nat),K.lookup a=some o/\o.cls=.type "tuple"/\o.data=.seq bw n/\bw.size<=sizeLine/\b8 xs bw.toList
def Rt:Value->Option V
 |.none=>some .non
 |.bool b=>some (.bl b)
 |.int i _=>some (.int i)
 |.str x _=>some (.str x)
 |.bytes b _=>some (.byt b)
 |.float b _=>some (.flt b)
 |.ref a=>some (.ref a)
 |.type n=>some (.ty n)
 |_=>none
theorem bF.abs{x:V}(r:bF x u):Rt u=some x:=by
 cases x with
 |non=>cases r;rfl
 |bl _=>cases r;rfl
 |int _=>obtain⟨t,rfl⟩:=r;rfl
 |str _=>obtain⟨t,rfl⟩:=r;rfl
 |byt _=>obtain⟨t,rfl⟩:=r;rfl
 |flt _=>obtain⟨t,rfl⟩:=r;rfl
 |ref _=>cases r;rfl
 |ty _=>cases r;rfl
theorem bF.inj{x y:V}(r:bF x u)(q:bF y u):x=y:=aM (r.abs.symm.trans q.abs)
theorem b8.inj:∀{xs ys:List V} {us:List Value},b8 xs us->b8 ys us->xs=ys
 |_,_,_,.nil,.nil=>rfl
 |_,_,_,.cons r t,.cons r' t'=>by rw[r.inj r',b8.inj t t']
section
variable{X:Cx}{σ:St}{H:Hp}{xs ys:List V}
theorem qk.of(h:H a=some (.lst xs)):qk K H a xs:=.inl (.inl h)
theorem eG.of(h:H a=some (.tup xs)):eG K H a xs:=.inl (.inl h)
theorem bj.list(I:bj X pins σ H s)(h:qk X.K H a xs):∃bw:List Value,b8 xs bw/\PlainL s.heap a bw.toArray/\xs.length<=sizeLine:=by
 rcases h with h|⟨o,bw,n,hk,hc,hd,hs,hz,r⟩
 ·obtain⟨z,bw,n,r,e⟩:=h.ok I.hok
  exact⟨bw,r,⟨_,n,e,rfl,rfl,rfl⟩,z⟩
 ·refine⟨bw.toList,r,⟨o,n,I.kIn a o hk,hc,hd,by simpa using hs⟩,?_⟩
  have e:=r.length
  simp only[fy]at e
  omega
theorem bj.tuple(I:bj X pins σ H s)(h:eG X.K H a xs):∃bw:List Value,b8 xs bw/\IsTup s.heap a bw.toArray/\xs.length<=sizeLine:=by
 rcases h with h|⟨o,bw,n,hk,hc,hs,hz,r⟩
 ·obtain⟨z,bw,r,p⟩:=h.ok I.hok
  exact⟨bw,r,p,z⟩
 ·refine⟨bw.toList,r,⟨o,I.kIn a o hk,hc,n,by simpa using hs⟩,?_⟩
  have e:=r.length
  simp only[fy]at e
  omega
theorem bj.list_inj(I:bj X pins σ H s)(h:qk X.K H a xs)(h':qk X.K H a ys):xs=ys:=by
 obtain⟨bw,r,⟨o,n,e,_,_,d⟩,_⟩:=I.list h
 obtain⟨its',r',⟨o',n',e',_,_,d'⟩,_⟩:=I.list h'
 rw[e]at e';cases e'
 rw[d]at d'
 injection d' with d1 _
 have:bw=its':=by simpa using cC Array.toList d1
 subst this
 exact r.inj r'
theorem bj.tuple_inj(I:bj X pins σ H s)(h:eG X.K H a xs)(h':eG X.K H a ys):xs=ys:=by
 obtain⟨bw,r,⟨o,e,_,n,d⟩,_⟩:=I.tuple h
 obtain⟨its',r',⟨o',e',_,n',d'⟩,_⟩:=I.tuple h'
 rw[e]at e';cases e'
 rw[d]at d'
 injection d' with d1 _
 have:bw=its':=by simpa using cC Array.toList d1
 subst this
 exact r.inj r'
end
section
variable{X:Cx}{σ:St}{H:Hp}
end
section
variable{X:Cx}{st:Stmt}{rest:List Stmt}{t u:TS}{te:TE}
def NT:TS:=fun D σ H=>D.nx σ H
def Ru(t u:TS):TS:=fun D σ H=>t { D with nx:=u D } σ H
theorem Gi:A0 X [] NT:=fun _ _ σ H _ I h=>iN ⟨σ,H,I,h⟩
theorem wq(h1:PS X st t)(h2:A0 X rest u):A0 X (st::rest) (Ru t u):=by
 intro pins s σ H D I h
 refine wpAny_execs_cons (fI (h1 pins s σ H { D with nx:=u D } I h) fun f s1 q=>?_)
 cases f with
 |next=>
  obtain⟨σ',H',I',q⟩:=q
  exact h2 pins s1 σ' H' D I' q
 |ret v=>exact q
 |brk=>exact q
 |cont=>exact q
theorem Gj(h1:PS X st t):A0 X [st] t:=by
 intro pins s σ H D I h
 refine wpAny_execs_cons (fI (h1 pins s σ H D I h) fun f s1 q=>?_)
 cases f with
 |next=>exact iN q
 |ret v=>exact q
 |brk=>exact q
 |cont=>exact q
theorem bj.quiet{σ:St}{H:Hp}(I:bj X pins σ H s):interactive X.env=false:=by simp[interactive,I.ok.kind]
def NU(te:TE):TS:=fun D σ H=>te σ H fun _ H1=>D.nx σ H1
theorem Gk(he:PE X e te)(hs:swapsWith e none pos.line X.env=pure false:=by rfl):PS X (.Expr e pos) (NU te):=by
 intro pins s σ H D I h
 exact wpAny_Expr_any (fI (he pins s σ H _ I h) fun v s1 ⟨x,H1,I1,r1,q1⟩=>⟨σ,H1,I1,q1⟩) I.quiet hs
def Rv(te:TE):TS:=fun D σ H=>te σ H D.rt
theorem Kn(he:PE X e te):PS X (.Return (some e) pos) (Rv te):=by
 intro pins s σ H D I h
 exact wpAny_Return_some (fI (he pins s σ H _ I h) fun v s1 ⟨x,H1,I1,r1,q1⟩=>⟨x,σ,H1,I1,r1,q1⟩)
def Rw(c:TT)(t u:TS):TS:=fun D σ H=>c σ H fun b H1=>if b=true then t D σ H1 else u D σ H1
theorem NV{a b:List Stmt}{tc:TT}(hc:PT X c tc)(ha:A0 X a t)(hb:A0 X b u):PS X (.If c a b pos) (Rw tc t u):=by
 intro pins s σ H D I h
 refine wpAny_If (fI (hc pins s σ H _ I h) fun d s1 ⟨H1,I1,q1⟩=>?_)
 cases d with
 |true=>exact ha pins s1 σ H1 D I1 q1
 |false=>exact hb pins s1 σ H1 D I1 q1
end
abbrev TG:=V->St->Hp->(St->Hp->Prop)->Prop
abbrev Gm:=List V->St->Hp->(St->Hp->Prop)->Prop
def PG(X:Cx)(M4:Expr)(t:TG):Prop:=
 ∀(pins:List (Addr×Obj)) (s:Shared) (σ:St) (H:Hp) (v:V) (u:Value) (Q:St->Hp->Prop),bj X pins σ H s->bF v u->t v σ H Q ->
  wpAny (model X.prog X.w) X.A (assign M4 X.env u) (fun _ s'=>∃σ' H',bj X pins σ' H' s'/\Q σ' H') X.xe s
def ID(X:Cx)(ts:List Expr)(t:Gm):Prop:=
 ∀(pins:List (Addr×Obj)) (s:Shared) (σ:St) (H:Hp) (vs:List V) (us:List Value) (Q:St->Hp->Prop),bj X pins σ H s->b8 vs us->t vs σ H Q ->
  wpAny (model X.prog X.w) X.A (assignInOrder ((assignEach ts X.env).map (·.2)) us) (fun _ s'=>∃σ' H',bj X pins σ' H' s'/\Q σ' H') X.xe s
abbrev Gn:=V->V->V->Hp->(Hp->Prop)->Prop
def A1(X:Cx)(t:Gn):Prop:=
 ∀(pins:List (Addr×Obj)) (s:Shared) (σ:St) (H:Hp) (o i v:V) (ov iv u:Value) (Q:Hp->Prop),bj X pins σ H s->bF o ov->bF i iv->bF v u->t o i v H Q ->
  wpAny (model X.prog X.w) X.A (setItem ov iv u) (fun _ s'=>∃H',bj X pins σ H' s'/\Q H') X.xe s
section
variable{X:Cx}
def IE(i:Nat):TG:=fun v σ H Q=>Q (σ.set i (some v)) H
theorem Gp(hN:X.N.Nodup)(hi:X.N[i]?=some x)(hx:Co X.env.scope x)(hf:X.fn x=true\/X.env.scope.names.lookup x=some .local:=by first|exact .inl rfl|exact .inr rfl|assumption):PG X (.Name x pos) (IE i):=by
 intro pins s σ H v u Q I r h
 exact wpAny_assign_Name (qS I hN hi hx r (fun s' I'=>⟨_,H,I',h⟩) hf)
def Rx:Gm:=fun vs σ H Q=>vs=[]/\Q σ H
def NW(t:TG)(u:Gm):Gm:=fun vs σ H Q=>∃v r,vs=v::r/\t v σ H fun σ' H'=>u r σ' H' Q
theorem Gq:ID X [] Rx:=by
 intro pins s σ H vs us Q I r h
 obtain⟨e,h⟩:=h
 subst e
 cases r
 exact assignInOrder_nil ⟨σ,H,I,h⟩
theorem Cy{t:TG}{u:Gm}(h1:PG X e t)(h2:ID X es u)
  (hs:(assignEach (e::es) X.env).map (·.2)=assign e X.env::(assignEach es X.env).map (·.2):=by rfl):ID X (e::es) (NW t u):=by
 intro pins s σ H vs us Q I r h
 obtain⟨v,vr,e1,h⟩:=h
 subst e1
 cases r with
 |cons r rr=>
  rw[hs]
  refine assignInOrder_cons (fI (h1 pins s σ H _ _ _ I r h) fun _ s1 ⟨σ1,H1,I1,q1⟩=>?_)
  exact h2 pins s1 σ1 H1 _ _ Q I1 rr q1
def Ry(K:Frag)(n:Nat)(t:Gm):TG:=fun v σ H Q=>∃a xs,v=.ref a/\eG K H a xs/\xs.length=n/\t xs σ H Q
theorem Ko{k:Nat}{t:Gm}(hc:X.calm=true)(h:ID X es t)
  (hn:(assignEach es X.env).length=n:=by rfl) (vX:(assignEach es X.env).findIdx? (·.1)=none:=by rfl):PG X (.Tuple es k pos) (Ry X.K n t):=by
 intro pins s σ H v u Q I r hw
 obtain⟨a,xs,e1,hq,hl,hw⟩:=hw
 subst e1
 cases r
 obtain⟨bw,rv,ht,hz⟩:=I.tuple hq
 refine assign_Tuple_tuple (I.ok.hd hc) ht (by simp[hn,<- hl,rv.length]) vX fun h' hx=>?_
 have I1:bj X pins σ H { s with heap:=h' }:=I.kept (t':=s.toks) fun b o e=>hx b o (bt (aF e)) e
 exact h pins _ σ H xs _ Q I1 (by simpa using rv) hw
def Rz(to ti:TE)(t:Gn):TG:=fun v σ H Q=>to σ H fun o H1=>ti σ H1 fun i H2=>t o i v H2 fun H3=>Q σ H3
theorem Kp{o i:Expr}{to ti:TE}{t:Gn}(ho:PE X o to)(hi:PE X i ti)(hs:A1 X t)
  (ha:∀v,assign (.Subscript o i pos) X.env v=(do
   let ov <- holding [v] (eval o X.env)
   let iv <- holding [v,ov] (eval i X.env)
   standAt pos
   holding [v,ov,iv] (setItem ov iv v)
   release [v,ov,iv] []):=by intro _;rfl):PG X (.Subscript o i pos) (Rz to ti t):=by
 intro pins s σ H v u Q I r h
 rw[ha]
 refine af (cv (fI (ho pins s σ H _ I h) fun ov s1 ⟨x,H1,I1,r1,q1⟩=>?_))
 refine af (cv (fI (hi pins s1 σ H1 _ I1 q1) fun iv s2 ⟨y,H2,I2,r2,q2⟩=>?_))
 refine af (kh (af (cv (fI (hs pins s2 σ H2 x y v ov iv u _ I2 r1 r2 r q2) fun _ s3 ⟨H3,I3,q3⟩=>?_))))
 exact wpAny_release ⟨σ,H3,I3,q3⟩
def Cz(te:TE)(g:TG):TS:=fun D σ H=>te σ H fun x H1=>g x σ H1 D.nx
theorem CA{te:TE}{g:TG}(he:PE X e te)(hg:PG X tg g)(hs:swapsWithSole [tg] e pos.line X.env=pure false:=by rfl)(hw:swappedStores [tg] e X.env=pure none:=by rfl)
  (h1:(assignEach [tg] X.env).map (·.2)=[assign tg X.env]:=by rfl):PS X (.Assign [tg] e pos) (Cz te g):=by
 intro pins s σ H D I h
 refine wpAny_Assign_stores (fI (he pins s σ H _ I h) fun v s1 ⟨x,H1,I1,r1,q1⟩=>?_) hs hw
 rw[h1]
 exact fI (hg pins s1 σ H1 x v _ I1 r1 q1) fun _ s2 q=>q
theorem Kq{te:TE}(hN:X.N.Nodup)(hi:X.N[i]?=some x)(hx:Co X.env.scope x)(he:PE X e te)(hs:swapsWith e (some (.Name x iM)) pos.line X.env=pure false:=by rfl)(hf:X.fn x=true\/X.env.scope.names.lookup x=some .local:=by first|exact .inl rfl|exact .inr rfl|assumption) :
  PS X (.Assign [.Name x iM] e pos) (Cz te (IE i)):=by
 intro pins s σ H D I h
 refine wpAny_Assign_Name (fI (he pins s σ H _ I h) fun v s1 ⟨y,H1,I1,r1,q1⟩=>?_) hs
 exact qS I1 hN hi hx r1 (fun s2 I2=>⟨_,H1,I2,q1⟩) hf
end
section
variable{X:Cx}
def CB(c:TT)(tb:TS):TS:=fun D σ H=>∃W:Nat->St->Hp->Prop,(∃m,W m σ H)/\∀m σ H,W m σ H ->
 c σ H fun b H1=>if b=true then ∃N:St->Hp->Prop,(∀σ' H',N σ' H'->∃m',m'<m/\W m' σ' H')/\tb { D with nx:=N,ct:=N,bk:=D.nx } σ H1 else D.nx σ H1
theorem CC{tc:TT}{tb:TS}(hp:PassesOwn (model X.prog X.w) X.A X.env X.xe)(hc:PT X c tc)(hb:A0 X body tb):PS X (.While c body [] pos) (CB tc tb):=by
 intro pins s σ H D I h
 obtain⟨W,⟨m0,w0⟩,turn⟩:=h
 refine wpAny_While (codeAny_whileLoop (fun n s'=>∃σ' H',bj X pins σ' H' s'/\W n σ' H') ?_ m0 ⟨σ,H,I,w0⟩)
 rintro n s1 ⟨σ1,H1,I1,w1⟩
 refine eO hp (fI (hc pins s1 σ1 H1 _ I1 (turn n σ1 H1 w1)) fun b s2 ⟨H2,I2,q2⟩=>?_)
 cases b with
 |true=>
  obtain⟨N,hN,q2⟩:=q2
  rw[aw rfl]
  refine eO hp (fI (hb pins s2 σ1 H2 _ I2 q2) fun f s3 q3=>?_)
  cases f with
  |next=>
   obtain⟨σ3,H3,I3,n3⟩:=q3
   obtain⟨m',hm,w3⟩:=hN σ3 H3 n3
   exact⟨m',hm,σ3,H3,I3,w3⟩
  |cont=>
   obtain⟨σ3,H3,I3,n3⟩:=q3
   obtain⟨m',hm,w3⟩:=hN σ3 H3 n3
   exact⟨m',hm,σ3,H3,I3,w3⟩
  |brk=>exact q3
  |ret v=>exact q3
 |false=>
  rw[aD bM]
  exact iN ⟨σ1,H2,I2,q2⟩
end
structure It where
 go:Nat->Hp->Prop
 yld:Nat->Hp->V->Hp->Prop
 stop:Nat->Hp->Prop
def nV(X:Cx)(pins:List (Addr×Obj))(H:Hp)(b:Addr):Prop:=
 H b=none/\b≠X.env.locals/\b∉X.fs/\(b∈X.ex\/X.s₀.heap.objs.size<=b)/\(∀x c,X.env.cells.lookup x=some c->c≠b)/\∀p∈X.pn++pins,p.1≠b
theorem bj.fpOk{X:Cx}{σ:St}{H H':Hp}(I:bj X pins σ H s)(hb:s.heap.objs.size<=b)(hn:H' b=none):nV X pins H' b:=by
 refine⟨hn,oW (aW I.lt hb),I.nofs hb,.inr (be I.sz hb),fun x c e z=>?_,fun p hp z=>?_⟩
 ·obtain⟨v,q⟩:=I.cell x c e
  exact absurd (aW q.lt (by rw[z];exact hb)) (bq _)
 ·exact absurd (aW (aF (I.pin p hp).1) (by rw[z];exact hb)) (bq _)
structure A2(P:Program)(w:World)(K:Frag)(tg:Expr)(J:It)(fp:List Addr)(it:Addr)(tn:Nat->Heap->Prop):Prop where
 mem:it∈fp
 obj:∀i h,tn i h->∀b∈fp,∃o,h.get? b=some o/\∀v,o.data≠.cell v
 keep:∀i h h',tn i h->(∀b∈fp,∀o,h.get? b=some o->h'.get? b=some o)->tn i h'
 item:∀(X:Cx),X.prog=P->X.w=w->X.K=K->X.calm=true->∀(i:Nat) (pins:List (Addr×Obj)) (s:Shared) (σ:St) (H:Hp) (E:Value->Shared->Prop),bj X pins σ H s->(∀b∈fp,nV X pins H b)->tn i s.heap->J.go i H ->
  wpAny (model P w) X.A (pyNext (.ref it)) (fun r s1=>∃u,r=some u /\
   wpAny (model P w) X.A (letOwnedTupleGo tg (.ref it) u) (fun _ s2=>∃x H',bj X pins σ H' s2/\bF x u/\J.yld i H x H'/\tn (i+1) s2.heap/\∀b∈fp,H' b=none) E s1) E s
 done:∀(X:Cx),X.prog=P->X.w=w->X.K=K->X.calm=true->∀(i:Nat) (pins:List (Addr×Obj)) (s:Shared) (σ:St) (H:Hp) (E:Value->Shared->Prop),bj X pins σ H s->(∀b∈fp,nV X pins H b)->tn i s.heap->J.stop i H ->
  wpAny (model P w) X.A (pyNext (.ref it)) (fun r s1=>r=none/\bj X pins σ H s1) E s
 self:∀(A:Around) (i:Nat) (s:Shared) (Q:Value->Shared->Prop) (E:Value->Shared->Prop),tn i s.heap->Q (.ref it) s->wpAny (model P w) A (pyIter (.ref it)) Q E s
abbrev TI:=St->Hp->(It->Hp->Prop)->Prop
def RA(X:Cx)(pins:List (Addr×Obj))(σ:St)(tg:Expr)(R:It->Hp->Prop)(Sd:Value)(s2:Shared):Prop:=
 ∃(it:Addr) (fp:List Addr) (tn:Nat->Heap->Prop) (J:It) (H':Hp),Sd=.ref it/\bj X pins σ H' s2/\A2 X.prog X.w X.K tg J fp it tn/\tn 0 s2.heap/\(∀b∈fp,nV X pins H' b)/\R J H'
def PI(X:Cx)(tg iter:Expr)(wi:TI):Prop:=
 ∀(pins:List (Addr×Obj)) (s:Shared) (σ:St) (H:Hp) (R:It->Hp->Prop),bj X pins σ H s->wi σ H R ->
  wpAny (model X.prog X.w) X.A (eval iter X.env) (fun v s1=>wpAny (model X.prog X.w) X.A (pyIter v) (RA X pins σ tg R) X.xe s1) X.xe s
theorem zM      {E:Value -> Shared -> Prop} {s:Shared}     {n:String} {vs:Array Value} {Q:Unit -> Shared -> Prop} (ho : s.heap.get? it = some o) (hc : o.cls = .type n) (hd : o.data = .fields vs)
    (hn : ["enumerate", "zip", "dict_itemiterator", "dict_reverseitemiterator", "odict_iterator", "itertools.zip_longest", "itertools.pairwise"].contains n = false) (hQ : Q () s) : wpAny M A (letOwnedTupleGo tg (.ref it) u) Q E s := by
  unfold letOwnedTupleGo
  cases tg <;> first
    | exact au         hQ
    | (cases u <;> first
        | exact au         hQ
        | (refine af         (wpAny_load ho ?_)
           rw [hc, hd]
           show wpAny M A (if (["enumerate", "zip", "dict_itemiterator", "dict_reverseitemiterator", "odict_iterator", "itertools.zip_longest", "itertools.pairwise"].contains n && vs[0]? == some (rawInt _)) = true then _ else _) Q E s
           rw [aD     (by intro h; rw [hn, Bool.false_and] at h; cases h)]
           exact au         hQ))
def Sz(K:Frag)(a:Addr):It:=
 ⟨fun i H=>∃xs x,qk K H a xs/\xs[i]?=some x,fun i H x H'=>H'=H/\∀xs,qk K H a xs->xs[i]?=some x,fun i H=>∃xs,qk K H a xs/\xs.length<=i⟩
def SC(K:Frag)(a:Addr):It:=
 ⟨fun i H=>∃xs x,eG K H a xs/\xs[i]?=some x,fun i H x H'=>H'=H/\∀xs,eG K H a xs->xs[i]?=some x,fun i H=>∃xs,eG K H a xs/\xs.length<=i⟩
def NX(lo:Int)(n:Nat):It:=⟨fun i _=>i<n,fun i H x H'=>H'=H/\x=.int (lo+i),fun i _=>n<=i⟩
theorem A3{w:World}(a it:Addr):A2 P w K tg (Sz K a) [it] it (fun i h=>h.IsListIter it a i) where
 mem:=by simp
 obj:=fun i h st b hb=>by
  have e:b=it:=by simpa using hb
  subst e
  obtain⟨o,e,c,d⟩:=st
  exact⟨o,e,fun v z=>by rw[d]at z;cases z⟩
 keep:=fun i h h' st k=>st.at fun o e=>k it (by simp) o e
 item:=by
  intro X hP hw hK hc i pins s σ H E I hf st hg
  subst hP hw hK
  obtain⟨xs,x,hq,hx⟩:=hg
  obtain⟨bw,rv,p,hz⟩:=I.list hq
  obtain⟨u,hu,ru⟩:=rv.get hx
  obtain⟨f0,f1,f2,f3,f4,f5⟩:=hf it (by simp)
  refine wpAny_pyNext_list_item st p.isList (x:=u) (by simpa using hu) fun h' bv sb=>?_
  have I1:bj X pins σ H { s with heap:=h' }:=I.turned (t':=s.toks) (fun b o hb e=>(sb.2 b hb).trans e) f0 f1 f3 f4 f5
  obtain⟨o,e,c,d⟩:=id bv
  exact⟨u,rfl,zM (s:={ s with heap:=h' }) e c d (by decide) ⟨x,H,I1,ru,⟨rfl,fun ys hy=>by rw[I.list_inj hy hq];exact hx⟩,bv,fun b hb=>(hf b hb).1⟩⟩
 done:=by
  intro X hP hw hK hc i pins s σ H E I hf st hg
  subst hP hw hK
  obtain⟨xs,hq,hx⟩:=hg
  obtain⟨bw,rv,p,hz⟩:=I.list hq
  obtain⟨f0,f1,f2,f3,f4,f5⟩:=hf it (by simp)
  have hl:=rv.length
  exact wpAny_pyNext_list_end (I.ok.hd hc) st p.isList (by simp;omega) fun h' eb=>⟨rfl,I.turned (t':=s.toks) (fun b o hb e=>eb b o hb e) f0 f1 f3 f4 f5⟩
 self:=fun _ _ _ _ _ st h=>wpAny_pyIter_listiter st h
theorem ym{w:World}(a it:Addr):A2 P w K tg (SC K a) [it] it (fun i h=>h.IsTupleIter it a i) where
 mem:=by simp
 obj:=fun i h st b hb=>by
  have e:b=it:=by simpa using hb
  subst e
  obtain⟨o,e,c,d⟩:=st
  exact⟨o,e,fun v z=>by rw[d]at z;cases z⟩
 keep:=fun i h h' st k=>st.at fun o e=>k it (by simp) o e
 item:=by
  intro X hP hw hK hc i pins s σ H E I hf st hg
  subst hP hw hK
  obtain⟨xs,x,hq,hx⟩:=hg
  obtain⟨bw,rv,p,hz⟩:=I.tuple hq
  obtain⟨u,hu,ru⟩:=rv.get hx
  obtain⟨f0,f1,f2,f3,f4,f5⟩:=hf it (by simp)
  refine wpAny_pyNext_tuple_item st (show s.heap.IsTuple a bw.toArray from p) (x:=u) (by simpa using hu) fun h' bv sb=>?_
  have I1:bj X pins σ H { s with heap:=h' }:=I.turned (t':=s.toks) (fun b o hb e=>(sb.2 b hb).trans e) f0 f1 f3 f4 f5
  obtain⟨o,e,c,d⟩:=id bv
  exact⟨u,rfl,zM (s:={ s with heap:=h' }) e c d (by decide) ⟨x,H,I1,ru,⟨rfl,fun ys hy=>by rw[I.tuple_inj hy hq];exact hx⟩,bv,fun b hb=>(hf b hb).1⟩⟩
 done:=by
  intro X hP hw hK hc i pins s σ H E I hf st hg
  subst hP hw hK
  obtain⟨xs,hq,hx⟩:=hg
  obtain⟨bw,rv,p,hz⟩:=I.tuple hq
  obtain⟨f0,f1,f2,f3,f4,f5⟩:=hf it (by simp)
  have hl:=rv.length
  exact wpAny_pyNext_tuple_end (I.ok.hd hc) st (show s.heap.IsTuple a bw.toArray from p) (by simp;omega) fun h' eb=>⟨rfl,I.turned (t':=s.toks) (fun b o hb e=>eb b o hb e) f0 f1 f3 f4 f5⟩
 self:=fun _ _ _ _ _ st h=>wpAny_pyIter_tupleiter st h
theorem yn{w:World}(it:Addr)(lo:Int)(n:Nat):A2 P w K tg (NX lo n) [it] it (fun i h=>IsRangeIter h it (lo+(i:Nat)*1) ((n:Int)-(i:Nat)) 1) where
 mem:=by simp
 obj:=fun i h st b hb=>by
  have e:b=it:=by simpa using hb
  subst e
  exact⟨_,st,fun v z=>by
   have z':Data.fields _=Data.cell v:=z
   cases z'⟩
 keep:=fun i h h' st k=>k it (by simp) _ st
 item:=by
  intro X hP hw hK hc i pins s σ H E I hf st hg
  subst hP hw hK
  obtain⟨f0,f1,f2,f3,f4,f5⟩:=hf it (by simp)
  have W:=Walks.range (prog:=X.prog) (w:=X.w) (I.ok.hd hc) it lo 1 n
  refine W.item i s _ _ hg st fun v h' tk hv bv kk=>?_
  obtain⟨t,rfl⟩:=hv
  have I1:bj X pins σ H { s with heap:=h',toks:=tk }:=I.turned (fun b o hb e=>kk b o (by simpa using hb) e) f0 f1 f3 f4 f5
  refine⟨_,rfl,zM (s:={ s with heap:=h',toks:=tk }) (n:="range_iterator") bv rfl rfl (by decide) ⟨.int (lo+i),H,I1,⟨t,?_⟩,⟨rfl,rfl⟩,bv,fun b hb=>(hf b hb).1⟩⟩
  rw[Int.mul_one]
 done:=by
  intro X hP hw hK hc i pins s σ H E I hf st hg
  subst hP hw hK
  obtain⟨f0,f1,f2,f3,f4,f5⟩:=hf it (by simp)
  exact wpAny_pyNext_range_end (I.ok.hd hc) st (by have:n<=i:=hg;omega) fun h' eb=>⟨rfl,I.turned (t':=s.toks) (fun b o hb e=>eb b o hb e) f0 f1 f3 f4 f5⟩
 self:=fun _ _ _ _ _ st h=>lA st h
section
variable{X:Cx}
def NY(K:Frag)(tl:TE):TI:=fun σ H R=>tl σ H fun x H1=>∃a,x=.ref a/\(∃xs,qk K H1 a xs)/\R (Sz K a) H1
def RB(K:Frag)(tl:TE):TI:=fun σ H R=>tl σ H fun x H1=>∃a,x=.ref a/\(∃xs,eG K H1 a xs)/\R (SC K a) H1
theorem Gr{l:Expr}{tl:TE}(hl:PE X l tl):PI X tg l (NY X.K tl):=by
 intro pins s σ H R I h
 refine fI (hl pins s σ H _ I h) fun v s1 ⟨x,H1,I1,r1,q1⟩=>?_
 obtain⟨a,e,⟨xs,hq⟩,q⟩:=q1
 subst e
 cases r1
 obtain⟨bw,rv,p,hz⟩:=I1.list hq
 refine wpAny_pyIter_list p.isList ?_
 refine⟨s1.heap.objs.size,[s1.heap.objs.size],_,_,H1,rfl,I1.kept (t':=s1.toks) fun b o e=>ao _ e,A3 a _,⟨_,aS _ rfl,rfl,rfl⟩,fun b hb=>?_,q⟩
 have e:b=s1.heap.objs.size:=by simpa using hb
 subst e
 exact I1.fpOk (av _) (I1.hok.fresh (av _))
theorem Kr{l:Expr}{tl:TE}(hl:PE X l tl):PI X tg l (RB X.K tl):=by
 intro pins s σ H R I h
 refine fI (hl pins s σ H _ I h) fun v s1 ⟨x,H1,I1,r1,q1⟩=>?_
 obtain⟨a,e,⟨xs,hq⟩,q⟩:=q1
 subst e
 cases r1
 obtain⟨bw,rv,p,hz⟩:=I1.tuple hq
 refine jz (show s1.heap.IsTuple a bw.toArray from p) ?_
 refine⟨s1.heap.objs.size,[s1.heap.objs.size],_,_,H1,rfl,I1.kept (t':=s1.toks) fun b o e=>ao _ e,ym a _,⟨_,aS _ rfl,rfl,rfl⟩,fun b hb=>?_,q⟩
 have e:b=s1.heap.objs.size:=by simpa using hb
 subst e
 exact I1.fpOk (av _) (I1.hok.fresh (av _))
theorem wt{σ:St}{H:Hp}{R:It->Hp->Prop}{lo hi:Int}{t u v:Tok}{tk:Nat}(I:bj X pins σ H s)(h1:-(2^62)<=lo)(h2:lo<2^62)(h3:-(2^62)<=hi)(h4:hi<2^62)
  (q:R (NX lo (hi-lo).toNat) H):wpAny (model X.prog X.w) X.A (pyIter (.ref s.heap.objs.size)) (RA X pins σ tg R) E { s with heap:=s.heap.push { cls:=.type "range",data:=.fields #[.int lo t,.int hi u,.int 1 v] },toks:=tk }:=by
 refine wpAny_pyIter_range (IsRange.new ..) (small_one h1 h2 h3 h4) ?_
 have I1:bj X pins σ H { s with heap:=s.heap.push { cls:=.type "range",data:=.fields #[.int lo t,.int hi u,.int 1 v] },toks:=tk }:=I.kept fun b o e=>ao _ e
 refine⟨(s.heap.push { cls:=.type "range",data:=.fields #[.int lo t,.int hi u,.int 1 v] }).objs.size,[(s.heap.push { cls:=.type "range",data:=.fields #[.int lo t,.int hi u,.int 1 v] }).objs.size],_,_,H,rfl,
  I1.kept (t':=tk) fun b o e=>ao _ e,yn _ lo (hi-lo).toNat,?_,fun b hb=>?_,q⟩
 ·have e1:lo+((0:Nat):Int)*1=lo:=by simp
  have e2:(((hi-lo).toNat:Nat):Int)-((0:Nat):Int)=Builtin.Range.rangeSize lo hi 1:=by rw[rangeSize_one];split<;>omega
  show IsRangeIter _ _ (lo+((0:Nat):Int)*1) ((((hi-lo).toNat:Nat):Int)-((0:Nat):Int)) 1
  rw[e1,e2]
  exact aS _ rfl
 ·have e:b=(s.heap.push { cls:=.type "range",data:=.fields #[.int lo t,.int hi u,.int 1 v] }).objs.size:=by simpa using hb
  subst e
  exact I1.fpOk (av _) (I1.hok.fresh (av _))
def NZ(ta:TA):TI:=fun σ H R=>ta σ H fun vs H1=>∃j:Int,vs=[.int j]/\-(2^62)<=j/\j<2^62/\R (NX 0 j.toNat) H1
def N0(ta:TA):TI:=fun σ H R=>ta σ H fun vs H1=>∃i j:Int,vs=[.int i,.int j]/\(-(2^62)<=i/\i<2^62/\-(2^62)<=j/\j<2^62)/\R (NX i (j-i).toNat) H1
theorem A4{a:Expr}{ta:TA}{p pos:Pos}(hg:Gl X "range")(hm:X.mg "range"=none)(ha:PA X [a] ta)(hs:starEach [a] X.env=[(false,eval a X.env)]:=by rfl):PI X tg (.Call (.Name "range" p) [a] [] pos) (NZ ta):=by
 intro pins s σ H R I h
 refine Call_ (me I hg hm boot_range (c_ (fI (ha pos pins s σ H _ I h) fun us s1 ⟨vs,H1,I1,r1,q1⟩=>?_) hs rfl))
 obtain⟨j,e,q1,q2,q⟩:=q1
 subst e
 cases r1 with
 |cons r rr=>
  cases rr
  obtain⟨t,rfl⟩:=r
  exact call_range_1 (wt I1 (by omega) (by omega) q1 q2 (by simpa using q))
theorem A5{a b:Expr}{ta:TA}{p pos:Pos}(hg:Gl X "range")(hm:X.mg "range"=none)(ha:PA X [a,b] ta)(hs:starEach [a,b] X.env=[(false,eval a X.env),(false,eval b X.env)]:=by rfl)(AR:starEach [b] X.env=[(false,eval b X.env)]:=by rfl) :
  PI X tg (.Call (.Name "range" p) [a,b] [] pos) (N0 ta):=by
 intro pins s σ H R I h
 refine Call_ (me I hg hm boot_range (c_ (fI (ha pos pins s σ H _ I h) fun us s1 ⟨vs,H1,I1,r1,q1⟩=>?_) (by rw[hs,AR]) (by rw[AR];rfl)))
 obtain⟨i,j,e,⟨q1,q2,q3,q4⟩,q⟩:=q1
 subst e
 cases r1 with
 |cons r rr=>
  cases rr with
  |cons r' rr=>
   cases rr
   obtain⟨t,rfl⟩:=r
   obtain⟨t',rfl⟩:=r'
   exact call_range_2 (wt I1 q1 q2 q3 q4 q)
def RC(wi:TI)(g:TG)(tb:TS):TS:=fun D σ H=>wi σ H fun J H1=>∃W:Nat->Nat->St->Hp->Prop,(∃m,W 0 m σ H1)/\∀i m σ H,W i m σ H ->
 (J.stop i H/\D.nx σ H)\/(J.go i H/\∃N:St->Hp->Prop,(∀σ' H',N σ' H'->∃m',m'<m/\W (i+1) m' σ' H')/\∀x H',J.yld i H x H'->g x σ H' fun σ2 H2=>tb { D with nx:=N,ct:=N,bk:=D.nx } σ2 H2)
def uS(fp:List Addr)(h:Heap):List (Addr×Obj):=fp.filterMap fun b=>(h.get? b).map fun o=>(b,o)
theorem ik(hb:b∈fp)(e:h.get? b=some o):(b,o)∈uS fp h:=List.mem_filterMap.mpr ⟨b,hb,by rw[e];rfl⟩
theorem A6{p:Addr×Obj}(hp:p∈uS fp h):p.1∈fp/\h.get? p.1=some p.2:=by
 obtain⟨b,hb,e⟩:=List.mem_filterMap.mp hp
 cases q:h.get? b with
 |none=>rw[q]at e;cases e
 |some o=>
  rw[q]at e
  have e':(b,o)=p:=aM e
  subst e'
  exact⟨hb,q⟩
theorem bj.pinned{σ:St}{H:Hp}(I:bj X pins σ H s)(hf:∀b∈fp,nV X pins H b)(ho:∀b∈fp,∃o,s.heap.get? b=some o/\∀v,o.data≠.cell v):bj X (pins++uS fp s.heap) σ H s:=
 I.pins_of fun p hp=>(aH.mp hp).elim (fun z=>I.pin p (aT _ z)) fun z=>by
  obtain⟨hb,e⟩:=A6 z
  obtain⟨f0,f1,f2,_⟩:=hf p.1 hb
  obtain⟨o,e',d⟩:=ho p.1 hb
  rw[e]at e';cases e'
  exact⟨e,f0,f1,f2,d⟩
theorem bj.unpinned{pl:List (Addr×Obj)}{σ:St}{H:Hp}(I:bj X (pins++pl) σ H s):bj X pins σ H s:=I.pins_of fun p hp=>I.pin p (aT _ (cF _ hp))
theorem Ks{wi:TI}{g:TG}{tb:TS}{pos:Pos}(hp:PassesOwn (model X.prog X.w) X.A X.env X.xe)(hc:X.calm=true)(hi:PI X tg iter wi)(hg:PG X tg g)(hb:A0 X body tb)
  (hs:∀x,foldedSetIterable iter X.env x=pure x:=by intro _;rfl):PS X (.For tg iter body [] pos) (RC wi g tb):=by
 intro pins s σ H D I h
 refine wpAny_For (fI (hi pins s σ H _ I h) fun v s1 h1=>fI h1 fun Sd s2 h2=>?_) hs
 obtain⟨it,fp,tn,J,H2,e,I2,T,cH,f2,W,⟨m0,w0⟩,turn⟩:=h2
 subst e
 have stat:∀{H':Hp},(∀b∈fp,H' b=none)->∀b∈fp,nV X pins H' b:=fun hn b hb=>⟨hn b hb,(f2 b hb).2⟩
 refine codeAny_forLoop_any (fun n s'=>∃i σ' H',bj X pins σ' H' s'/\tn i s'.heap/\(∀b∈fp,H' b=none)/\W i n σ' H') ?_ m0 ⟨0,σ,H2,I2,cH,fun b hb=>(f2 b hb).1,w0⟩
 rintro n s3 ⟨i,σ3,H3,I3,iy,fr3,w3⟩
 rcases turn i n σ3 H3 w3 with⟨stop,qn⟩|⟨go,N,hN,step⟩
 ·refine eO hp (fI (T.done X rfl rfl rfl hc i pins s3 σ3 H3 X.xe I3 (stat fr3) iy stop) fun r s4 ⟨hr,I4⟩=>?_)
  subst hr
  exact iN ⟨σ3,H3,I4,qn⟩
 ·refine eO hp (fI (T.item X rfl rfl rfl hc i pins s3 σ3 H3 X.xe I3 (stat fr3) iy go) fun r s4 ⟨u,hr,h4⟩=>?_)
  subst hr
  refine eO hp (fI h4 fun _ s5 ⟨x,H5,I5,r5,y5,st5,fr5⟩=>?_)
  have I5':=I5.pinned (stat fr5) (T.obj _ _ st5)
  refine eO hp (fI (hg _ s5 σ3 H5 x u _ I5' r5 (step x H5 y5)) fun _ s6 ⟨σ6,H6,I6,q6⟩=>?_)
  refine eO hp (fI (hb _ s6 σ6 H6 _ I6 q6) fun f s7 q7=>?_)
  have again:∀{σ7:St} {H7:Hp},bj X (pins++uS fp s5.heap) σ7 H7 s7->N σ7 H7->∃m,m<n/\∃i σ' H',bj X pins σ' H' s7/\tn i s7.heap/\(∀b∈fp,H' b=none)/\W i m σ' H':=fun{σ7 H7} I7 n7=>by
   obtain⟨m',hm,w7⟩:=hN σ7 H7 n7
   refine⟨m',hm,i+1,σ7,H7,I7.unpinned,T.keep _ _ _ st5 fun b hb o e=>(I7.pin (b,o) (aT _ (aT _ (ik hb e)))).1,fun b hb=>?_,w7⟩
   obtain⟨o,e,d⟩:=T.obj _ _ st5 b hb
   exact(I7.pin (b,o) (aT _ (aT _ (ik hb e)))).2.1
  cases f with
  |next=>obtain⟨σ7,H7,I7,n7⟩:=q7;exact again I7 n7
  |cont=>obtain⟨σ7,H7,I7,n7⟩:=q7;exact again I7 n7
  |brk=>obtain⟨σ7,H7,I7,q7⟩:=q7;exact⟨σ7,H7,I7.unpinned,q7⟩
  |ret v=>obtain⟨x7,σ7,H7,I7,r7,q7⟩:=q7;exact⟨x7,σ7,H7,I7.unpinned,r7,q7⟩
end
abbrev R2:=V->V->Hp->VK->Prop
def mN(X:Cx)(f:Value->Value->Sem Value)(r:R2):Prop:=
 ∀(pins:List (Addr×Obj)) (s:Shared) (σ:St) (H:Hp) (x y:V) (v u:Value) (Q:VK),bj X pins σ H s->bF x v->bF y u->r x y H Q ->
  wpAny (model X.prog X.w) X.A (f v u) (EP X pins σ Q) X.xe s
def RD(X:Cx)(f:Value->Sem Value)(r:V->Hp->VK->Prop):Prop:=
 ∀(pins:List (Addr×Obj)) (s:Shared) (σ:St) (H:Hp) (x:V) (v:Value) (Q:VK),bj X pins σ H s->bF x v->r x H Q ->
  wpAny (model X.prog X.w) X.A (f v) (EP X pins σ Q) X.xe s
def gZ(X:Cx)(f:Value)(r:List V->Hp->VK->Prop):Prop:=
 ∀(pins:List (Addr×Obj)) (s:Shared) (σ:St) (H:Hp) (xs:List V) (us:List Value) (Q:VK),bj X pins σ H s->b8 xs us->r xs H Q ->
  wpAny (model X.prog X.w) X.A (call f us) (EP X pins σ Q) X.xe s
def N3(r:R2)(ta tb:TE):TE:=fun σ H Q=>ta σ H fun x H1=>tb σ H1 fun y H2=>r x y H2 Q
def Th(r:V->Hp->VK->Prop)(ta:TE):TE:=fun σ H Q=>ta σ H fun x H1=>r x H1 Q
def rI(C:Int->Int->Prop)(g:Int->Int->V):R2:=fun x y H Q=>∃i j,x=.int i/\y=.int j/\C i j/\Q (g i j) H
def Gu(g:Int->Int->V):R2:=fun x y H Q=>∃i j,x=.int i/\y=.int j/\Q (g i j) H
def rU(g:Int->V):V->Hp->VK->Prop:=fun x H Q=>∃i,x=.int i/\Q (g i) H
section
variable{X:Cx}{a b:Expr}{ta tb tc:TE}
theorem Kt(ha:PE X a ta)(hb:PE X b tb){σ:St}{H:Hp}{R:V->V->Hp->Prop}(I:bj X pins σ H s)
  (h:ta σ H fun x H1=>tb σ H1 fun y H2=>R x y H2) {Q:Value->Shared->Prop} {f:Value->Value->Sem Value}
  (hf:∀v u s2 x y H2,bj X pins σ H2 s2->bF x v->bF y u->R x y H2->wpAny (model X.prog X.w) X.A (f v u) Q X.xe s2) :
  wpAny (model X.prog X.w) X.A (eval a X.env) (fun v s₁=>wpAny (model X.prog X.w) X.A (eval b X.env) (fun u s₂=>wpAny (model X.prog X.w) X.A (f v u) Q X.xe s₂) X.xe s₁) X.xe s:=by
 refine fI (ha pins s σ H _ I h) fun v s1 ⟨x,H1,I1,r1,q1⟩=>?_
 refine fI (hb pins s1 σ H1 _ I1 q1) fun u s2 ⟨y,H2,I2,r2,q2⟩=>?_
 exact hf v u s2 x y H2 I2 r1 r2 q2
theorem N5{op:Operator}{r:R2}(ho:mN X (binaryOp op) r)(ha:PE X a ta)(hb:PE X b tb):PE X (.BinOp a op b pos) (N3 r ta tb):=by
 intro pins s σ H Q I h
 exact wpAny_BinOp (Kt ha hb I h fun v u s2 x y H2 I2 rx ry q=>ho pins s2 σ H2 x y v u Q I2 rx ry q)
theorem N6{op:UnaryOp}{r:V->Hp->VK->Prop}(ho:RD X (unaryOp op) r)(ha:PE X a ta):PE X (.UnaryOp op a pos) (Th r ta):=by
 intro pins s σ H Q I h
 exact UnaryOp_ (fI (ha pins s σ H _ I h) fun v s1 ⟨x,H1,I1,r1,q1⟩=>ho pins s1 σ H1 x v Q I1 r1 q1)
theorem N7{f:Value->Value->Sem Value}{C:Int->Int->Prop}{g:Int->Int->Int}
  (rule:∀(i j:Int) (t u:Tok) (s:Shared) (Q:Value->Shared->Prop) (E:Value->Shared->Prop),C i j->Q (.int (g i j) s.toks) { s with toks:=s.toks+1 }->wpAny (model X.prog X.w) X.A (f (.int i t) (.int j u)) Q E s) :
  mN X f (rI C fun i j=>.int (g i j)):=by
 intro pins s σ H x y v u Q I rx ry h
 obtain⟨i,j,rfl,rfl,hc,q⟩:=h
 obtain⟨t,rfl⟩:=rx
 obtain⟨t',rfl⟩:=ry
 exact rule i j t t' s _ _ hc ⟨.int (g i j),H,I.tok _,⟨_,rfl⟩,q⟩
theorem N8{f:Value->Value->Sem Value}{g:Int->Int->Int}
  (rule:∀(i j:Int) (t u:Tok) (s:Shared) (Q:Value->Shared->Prop) (E:Value->Shared->Prop),Q (.int (g i j) s.toks) { s with toks:=s.toks+1 }->wpAny (model X.prog X.w) X.A (f (.int i t) (.int j u)) Q E s) :
  mN X f (Gu fun i j=>.int (g i j)):=by
 intro pins s σ H x y v u Q I rx ry h
 obtain⟨i,j,rfl,rfl,q⟩:=h
 obtain⟨t,rfl⟩:=rx
 obtain⟨t',rfl⟩:=ry
 exact rule i j t t' s _ _ ⟨.int (g i j),H,I.tok _,⟨_,rfl⟩,q⟩
theorem Ku{f:Value->Value->Sem Value}{g:Int->Int->Bool}
  (rule:∀(i j:Int) (t u:Tok) (s:Shared) (Q:Value->Shared->Prop) (E:Value->Shared->Prop),Q (.bool (g i j)) s->wpAny (model X.prog X.w) X.A (f (.int i t) (.int j u)) Q E s) :
  mN X f (Gu fun i j=>.bl (g i j)):=by
 intro pins s σ H x y v u Q I rx ry h
 obtain⟨i,j,rfl,rfl,q⟩:=h
 obtain⟨t,rfl⟩:=rx
 obtain⟨t',rfl⟩:=ry
 exact rule i j t t' s _ _ ⟨.bl (g i j),H,I,rfl,q⟩
def RE(i j:Int):Prop:=0<j/\j<1073741824
def Kv(i j:Int):Prop:=0<=j/\j<=1000000/\i.natAbs<2^64
def Kw(i j:Int):Prop:=(-(2^64)<i/\i<2^64)\/(-(2^64)<j/\j<2^64)
theorem Kw.ok{i j:Int}(h:Kw i j):IntMulOk i j:=by
 rcases h with⟨h1,h2⟩|⟨h1,h2⟩
 ·exact .of_left (intBits_le_64 h1 h2)
 ·exact .of_right (intBits_le_64 h1 h2)
theorem Kx:mN X (binaryOp .Add) (Gu fun i j=>.int (i+j)):=N8 fun _ _ _ _ _ _ _ q=>add_int q
theorem Ky:mN X (binaryOp .Sub) (Gu fun i j=>.int (i-j)):=N8 fun _ _ _ _ _ _ _ q=>sub_int q
theorem Kz:mN X (binaryOp .Mult) (rI Kw fun i j=>.int (i*j)):=N7 fun _ _ _ _ _ _ _ hc q=>mul_int q hc.ok
theorem Gv:mN X (binaryOp .FloorDiv) (rI RE fun i j=>.int (i/j)):=N7 fun i j _ _ _ _ _ hc q=>by
 have h1:(0:Int)<j:=hc.1
 have h2:j<1073741824:=hc.2
 exact floordiv_int (by omega) (by rw[Int.fdiv_eq_ediv_of_nonneg i (by omega)];exact q) (.inl (lB (by omega)))
theorem KA:mN X (binaryOp .Mod) (rI (fun _ j=>0<j) fun i j=>.int (i%j)):=N7 fun i j _ _ _ _ _ hc q=>by
 have h1:(0:Int)<j:=hc
 exact mod_int' (by omega) (by rw[Int.fmod_eq_emod_of_nonneg i (by omega)];exact q)
theorem KB:mN X (binaryOp .Pow) (rI Kv fun i j=>.int (i^j.toNat)):=N7 fun _ _ _ _ _ _ _ hc q=>pow_int_small hc.1 hc.2.1 hc.2.2 q
theorem CD:mN X (binaryOp .LShift) (rI Kv fun i j=>.int (i*2^j.toNat)):=N7 fun _ _ _ _ _ _ _ hc q=>lshift_int_small hc.1 hc.2.1 hc.2.2 q
theorem Ti{f:Value->Sem Value}{g:Int->Int}
  (rule:∀(i:Int) (t:Tok) (s:Shared) (Q:Value->Shared->Prop) (E:Value->Shared->Prop),Q (.int (g i) s.toks) { s with toks:=s.toks+1 }->wpAny (model X.prog X.w) X.A (f (.int i t)) Q E s) :
  RD X f (rU fun i=>.int (g i)):=by
 intro pins s σ H x v Q I rx h
 obtain⟨i,rfl,q⟩:=h
 obtain⟨t,rfl⟩:=rx
 exact rule i t s _ _ ⟨.int (g i),H,I.tok _,⟨_,rfl⟩,q⟩
theorem KC:RD X (unaryOp .USub) (rU fun i=>.int (-i)):=Ti fun _ _ _ _ _ q=>neg_int q
end
section
variable{X:Cx}{a b:Expr}{ta tb tc:TE}
theorem KD{σ:St}{H:Hp}{Q:VK}{k k':Bool}(I:bj X pins σ H s)(q:Q (.bl k) H)(e:k=k'):EP X pins σ Q (.bool k') s:=by
 subst e
 exact⟨.bl k,H,I,rfl,q⟩
theorem N9:mN X (compareOp .Lt) (Gu fun i j=>.bl (decide (i<j))):=Ku fun _ _ _ _ _ _ _ q=>lt_int q
theorem N_:mN X (compareOp .Gt) (Gu fun i j=>.bl (decide (j<i))):=Ku fun _ _ _ _ _ _ _ q=>gt_int q
theorem Oa:mN X (compareOp .GtE) (Gu fun i j=>.bl (decide (j<=i))):=Ku fun _ _ _ _ _ _ _ q=>ge_int q
theorem uT:mN X (compareOp .NotIn) (fun x y H Q=>∃i j,x=.str i/\y=.str j/\Q (.bl (!(!(Builtin.Str.occurrences j i 0 j.length 1).isEmpty))) H):=by
 intro pins s σ H x y v u Q I rx ry h
 obtain⟨i,j,rfl,rfl,q⟩:=h
 obtain⟨t,rfl⟩:=rx
 obtain⟨t',rfl⟩:=ry
 exact notIn_str (KD I q rfl)
theorem CF(b:Expr)(h:op≠.In:=by decide)(h2:op≠.NotIn:=by decide):behindInMarks op b=false:=by
 have e1:(op==CmpOp.In)=false:=by cases op<;>first|rfl|exact absurd rfl h
 have e2:(op==CmpOp.NotIn)=false:=by cases op<;>first|rfl|exact absurd rfl h2
 cases b<;>simp[behindInMarks,e1,e2]
theorem Gw{r:R2}(ho:mN X (compareOp op) r)(ha:PE X a ta)(hb:PE X b tb)(hm:behindInMarks op b=false):PE X (.Compare a [op] [b] pos) (N3 r ta tb):=by
 intro pins s σ H Q I h
 exact wpAny_Compare1 (Kt ha hb I h fun v u s2 x y H2 I2 rx ry q=>ho pins s2 σ H2 x y v u Q I2 rx ry q) hm
def Ob(t:TE):TT:=fun σ H Q=>t σ H fun x H'=>∃k,x=.bl k/\Q k H'
theorem Gx{r:R2}(ho:mN X (compareOp op) r)(ha:PE X a ta)(hb:PE X b tb)(hm:behindInMarks op b=false):PT X (.Compare a [op] [b] pos) (Ob (N3 r ta tb)):=by
 intro pins s σ H Q I h
 refine l7 (fI (ha pins s σ H _ I h) fun v s1 ⟨x,H1,I1,r1,q1⟩=>fI (hb pins s1 σ H1 _ I1 q1) fun u s2 ⟨y,H2,I2,r2,q2⟩=>
  fI (ho pins s2 σ H2 x y v u _ I2 r1 r2 q2) fun c s3 ⟨z,H3,I3,r3,k,e,q3⟩=>?_) hm
 subst e
 cases r3
 exact dP ⟨H3,I3,q3⟩
theorem pj:(sizeLine:Nat)<2^63:=by rw[jT];decide
theorem yo:mN X (binaryOp .Add) (fun x y H Q=>∃i j,x=.str i/\y=.str j/\i.length+j.length<=sizeLine/\Q (.str (i++j)) H):=by
 intro pins s σ H x y v u Q I rx ry h
 obtain⟨i,j,rfl,rfl,hz,q⟩:=h
 obtain⟨t,rfl⟩:=rx
 obtain⟨t',rfl⟩:=ry
 exact add_str (fun t' tk=>⟨.str (i++j),H,I.tok _,⟨_,rfl⟩,q⟩) hz
theorem lL{x:V}(r:b8 [x] us):∃u,us=[u]/\bF x u:=by
 cases r with
 |cons r1 r2=>cases r2;exact⟨_,rfl,r1⟩
theorem IF{x y:V}(r:b8 [x,y] us):∃u w',us=[u,w']/\bF x u/\bF y w':=by
 cases r with
 |cons r1 r2=>
  cases r2 with
  |cons r3 r4=>cases r4;exact⟨_,_,rfl,r1,r3⟩
theorem A7(hc:X.calm=true):gZ X (.builtin "max") (fun xs H Q=>∃i j,xs=[.int i,.int j]/\Q (.int (if j>i then j else i)) H):=by
 intro pins s σ H xs us Q I r h
 obtain⟨i,j,rfl,q⟩:=h
 obtain⟨u,w',rfl,⟨t,rfl⟩,⟨t',rfl⟩⟩:=IF r
 refine max_two_ints (I.ok.hd hc) fun h' tk k=>⟨_,H,I.kept k,?_,q⟩
 by_cases hj:j>i
 ·rw[aw hj,aw hj];exact⟨_,rfl⟩
 ·rw[aD hj,aD hj];exact⟨_,rfl⟩
theorem A8(hc:X.calm=true):gZ X (.builtin "min") (fun xs H Q=>∃i j,xs=[.int i,.int j]/\Q (.int (if j<i then j else i)) H):=by
 intro pins s σ H xs us Q I r h
 obtain⟨i,j,rfl,q⟩:=h
 obtain⟨u,w',rfl,⟨t,rfl⟩,⟨t',rfl⟩⟩:=IF r
 refine min_two_ints (I.ok.hd hc) fun h' tk k=>⟨_,H,I.kept k,?_,q⟩
 by_cases hj:j<i
 ·rw[aw hj,aw hj];exact⟨_,rfl⟩
 ·rw[aD hj,aD hj];exact⟨_,rfl⟩
end
structure KF(h:Heap)(x dx C:Addr)(mA:Str->Option Value):Prop where
 obj:h.get? x=some (PySem.W.instObj C dx)
 ns:h.Ns1 dx mA
 ne:dx≠x
theorem A9{dx:Addr}(n:h.Ns1 dx mA):∃od,h.get? dx=some od/\∀name,PySem.W.lookIn name od=some (mA name):=by
 obtain⟨o,es,ep,ho,hd,hk,_,hm⟩:=n
 refine⟨o,ho,fun name=>?_⟩
 have e:=hm name
 unfold nsFind findBy at e
 rw[<- Array.find?_toList]at e
 unfold PySem.W.lookIn
 rw[hd]
 dsimp only
 split
 ·rename_i y q
  rw[q]at e
  exact cC some e
 ·rename_i q
  rw[q]at e
  have a:es.toList.any (·.refKey)=false:=by
   rw[eX]
   intro y hy
   obtain⟨z,t,qz⟩:=hk y (Array.mem_toList_iff.mp hy)
   simp[DictEntry.refKey,qz]
  have a':¬ es.toList.any (·.refKey)=true:=by rw[a];exact bM
  rw[aD a']
  exact cC some e
theorem KF.look{x dx C:Addr}(I:KF h x dx C mA):∃od,PySem.W.InstAt h x (PySem.W.instObj C dx) C (some od)/\∀name,PySem.W.lookIn name od=some (mA name):=
 let ⟨od,ho,hl⟩:=A9 I.ns
 ⟨od,⟨I.obj,rfl,rfl,ho⟩,hl⟩
section
variable{w:World}{x dx C:Addr}{v:Value}
end
theorem m8.some_of{v:V}{o:Option Value}(r:m8 (some v) o):∃u,o=some u/\bF v u:=by
 cases o with
 |none=>exact(show False from r).elim
 |some u=>exact⟨u,rfl,r⟩
section
variable{w:World}{H H':Hp}{C dx:Addr}{fs Tx:List (Str×V)}
theorem Gy(hok:jK P w H h)(e:H a=some (.ins C dx fs)):∃mA,KF h a dx C mA/\(∀f,m8 (fs.lookup f) (mA f))/\PySem.Within mA (fs.map (·.1))/\fs.length<=1000/\H dx=some (.own a):=by
 obtain⟨d,z,ne,ob,mA,n,r,q⟩:=(show dU P w H h a (.ins C dx fs)from hok a _ e)
 exact⟨mA,⟨ob,n,ne⟩,r,q,z,d⟩
end
structure RF(K:Frag)(C:Addr):Prop where
 pg:PySem.W.plainGet K C Str.empty=true
 hd:PySem.W.hasDictIn K C=true
 po:PySem.W.plainOver K C=true
 sa:PySem.W.findIn K (.ref C) "__setattr__"=some (some (.builtin "object.__setattr__"))
theorem RF.get{C:Addr}(c:RF K C)(f:Str):PySem.W.plainGet K C f=true:=c.pg
section
variable{X:Cx}{σ:St}{H:Hp}{C dx:Addr}{fs:List (Str×V)}{f:Str}{v:V}
end
section
variable{X:Cx}{o value:Expr}{f:Str}{Sw:Pos}{ta tv:TE}
end
section
variable{X:Cx}{σ:St}{H:Hp}{c:Value}{b:Bool}
inductive ql(K:Frag)(H:Hp):V->Value->Prop where
 |non:ql K H .non (.type "NoneType")
 |bl (x:Bool):ql K H (.bl x) (.type "bool")
 |int (i:Int):ql K H (.int i) (.type "int")
 |str (x:Str):ql K H (.str x) (.type "str")
 |flt (x:UInt64):ql K H (.flt x) (.type "float")
 |lst {a:Addr} {xs:List V} (e:H a=some (.lst xs)):ql K H (.ref a) (.type "list")
 |frz {a:Addr} {o:Obj} {xs:List V} (e:H a=some (.frz o (.lst xs))):ql K H (.ref a) (.type "list")
 |tup {a:Addr} {xs:List V} (e:H a=some (.tup xs)):ql K H (.ref a) (.type "tuple")
 |dK {a:Addr} {kvs:List (fK×V)} (e:H a=some (.dK kvs)):ql K H (.ref a) (.type "dict")
 |dT {a:Addr} {kvs:List (List fK×V)} (e:H a=some (.dT kvs)):ql K H (.ref a) (.type "dict")
 |ins {a C dx:Addr} {fs:List (Str×V)} (e:H a=some (.ins C dx fs)) (cl:RF K C) (ha:PySem.W.findIn K (.ref C) "__class__"=some (some (.builtin "object.__class__")))
   (hn:PySem.W.specialIn K (.builtin "object.__class__") "__get__"=some (some (.builtin "getset_descriptor.__get__"))) (ya:PySem.W.takesIn K (.builtin "object.__class__")=some true)
   (hm:PySem.W.mroIn K C (.type "object")=some true):ql K H (.ref a) (.ref C)
theorem mO{x:V}{t:Value}(I:bj X pins σ H s)(rx:bF x u)(ty:ql X.K H x t)(e:PySem.W.kitOne X.K t c=some b)(h:∀tk,Q (.bool b) { s with toks:=tk }) :
  wpAny (model X.prog X.w) A (call (.builtin "isinstance") [u,c]) Q E s:=by
 cases ty with
 |non=>cases(show u=Value.none from rx);exact kia_one PySem.W.kitx_none I.kIn True.intro e (fun z=>nomatch z) h
 |bl y=>cases(show u=Value.bool y from rx);exact kia_one PySem.W.kitx_bool I.kIn True.intro e (fun z=>nomatch z) h
 |int i=>obtain⟨t,q⟩:=(show ∃t,u=Value.int i t from rx);cases q;exact kia_one PySem.W.kitx_int I.kIn True.intro e (fun z=>nomatch z) h
 |str y=>obtain⟨t,q⟩:=(show ∃t,u=Value.str y t from rx);cases q;exact kia_one PySem.W.kitx_str I.kIn True.intro e (fun z=>nomatch z) h
 |flt y=>obtain⟨t,q⟩:=(show ∃t,u=Value.float y t from rx);cases q;exact kia_one PySem.W.kitx_float I.kIn True.intro e (fun z=>nomatch z) h
 |@lst a xs ea=>
  cases(show u=Value.ref a from rx)
  obtain⟨_,_,n,_,h1⟩:=(show dU X.prog X.w H s.heap a (.lst xs)from I.hok a _ ea)
  exact kia_one PySem.W.kitx_list I.kIn ⟨_,h1,rfl⟩ e (fun z=>nomatch z) h
 |@frz a ob xs ea=>
  cases(show u=Value.ref a from rx)
  obtain⟨_,_,_,n,_,h1⟩:=(show dU X.prog X.w H s.heap a (.frz ob (.lst xs))from I.hok a _ ea)
  exact kia_one PySem.W.kitx_list I.kIn ⟨_,h1,rfl⟩ e (fun z=>nomatch z) h
 |@tup a xs ea=>
  cases(show u=Value.ref a from rx)
  obtain⟨_,_,_,p⟩:=(show dU X.prog X.w H s.heap a (.tup xs)from I.hok a _ ea)
  obtain⟨o,h1,h2,_⟩:=p
  exact kia_one PySem.W.kitx_tuple I.kIn ⟨o,h1,h2⟩ e (fun z=>nomatch z) h
 |@dK a kvs ea=>
  cases(show u=Value.ref a from rx)
  obtain⟨_,_,vs,_,p⟩:=(show dU X.prog X.w H s.heap a (.dK kvs)from I.hok a _ ea)
  obtain⟨o,es,ep,h1,h2,_⟩:=p
  exact kia_one PySem.W.kitx_dict I.kIn ⟨o,h1,h2.1⟩ e (fun z=>nomatch z) h
 |@dT a kvs ea=>
  cases(show u=Value.ref a from rx)
  obtain⟨_,_,xs,_,o,es,ep,h1,h2,_⟩:=(show dU X.prog X.w H s.heap a (.dT kvs)from I.hok a _ ea)
  exact kia_one PySem.W.kitx_dict I.kIn ⟨o,h1,h2.1⟩ e (fun z=>nomatch z) h
 |@ins a C dx fs ea cl ha hn ya hm=>
  cases(show u=Value.ref a from rx)
  obtain⟨mA,O,_⟩:=Gy I.hok ea
  obtain⟨od,J,_⟩:=O.look
  exact kia_one (PySem.W.kitx_own (cl.get _) cl.hd ha hn ya hm) I.kIn J e (fun z=>nomatch z) h
end
structure f'(k:Nat)(A:Around):Prop where
 hd:A.handled=none
 dp:A.depth+2*k+5<recursionLimit
 un:A.units+16*k+200<cLine
theorem f'.mono{k:Nat}(r:f' k A)(h:j<=k):f' j A:=⟨r.hd,by have:=r.dp;omega,by have:=r.un;omega⟩
theorem f'.deeper{k:Nat}(r:f' (k+1) A)(env:Env):f' k (A.deeper env):=
 ⟨r.hd,by have:=r.dp;show A.depth+1+2*k+5<_;omega,by have:=r.un;show A.units+3+16*k+200<_;omega⟩
theorem f'.depth{k:Nat}(r:f' k A):A.depth<recursionLimit:=by have:=r.dp;omega
theorem f'.units{k:Nat}(r:f' k A):A.units+64<cLine:=by have:=r.un;omega
def RG:TA:=fun _ H Q=>Q [] H
def Oc(ta:TE)(tr:TA):TA:=fun σ H Q=>ta σ H fun x H1=>tr σ H1 fun xs H2=>Q (x::xs) H2
section
variable{X:Cx}{te:TE}{t:TA}
theorem yp:PA X [] RG:=fun _ _ _ _ H Q I h=>g9 ⟨[],H,I,.nil,h⟩
theorem qB(ha:PE X e te)(hr:PA X es t)(hs:starEach (e::es) X.env=(false,eval e X.env)::starEach es X.env:=by rfl):PA X (e::es) (Oc te t):=by
 intro pos pins s σ H Q I h
 rw[hs]
 show wpAny _ _ (spliced ((false,eval e X.env)::backTo pos (starEach es X.env))) _ _ s
 refine eB (fI (ha pins s σ H _ I h) fun u s1 ⟨x,H1,I1,r1,q1⟩=>?_)
 exact fI (hr pos pins s1 σ H1 _ I1 q1) fun us s2 ⟨xs,H2,I2,r2,q2⟩=>⟨x::xs,H2,I2,.cons r1 r2,q2⟩
end
abbrev Sp:=List V->Hp->VK->XK->Prop
abbrev Cp:=List Env->Hp->Shared->XK->Value->Shared->Prop
structure wu(P:Program)(w:World)(K:Frag)(mg:Str->Option Value)(base:Heap)(A:Around)(outer:List Env)(s:Shared)(H:Hp):Prop where
 frames:A.frames=some outer
 mod:Mod K mg base
 bs:∀b o,base.get? b=some o->s.heap.get? b=some o/\H b=none
 bsz:base.objs.size<=s.heap.objs.size
 funs:s.heap.FunFrames base outer
 frf:∀b∈sV outer,H b=none
 hok:jK P w H s.heap
 bare:AllBare s.gens
def CE(outer:List Env)(P:Program)(w:World)(H:Hp)(s:Shared)(Q:VK)(u:Value)(s':Shared):Prop:=
 ∃v H',s'.os=s.os/\AllBare s'.gens/\Un (sV outer) [] H H' s.heap s'.heap/\jK P w H' s'.heap/\bF v u/\Q v H'
def CR(CX:Cp)(outer:List Env)(P:Program)(w:World)(H:Hp)(s:Shared)(Q:VK)(E:XK)(r:Result)(s':Shared):Prop:=
 match r with
 |.ok (.ret u)=>CE outer P w H s Q u s'
 |.ok _=>False
 |.error e=>CX outer H s E e s'
structure e_(P:Program)(w:World)(K:Frag)(mg:Str->Option Value)(base:Heap)(CX:Cp)(k:Nat)(f:Addr)(fd:FuncData)(ps:List Str)(sp:Sp):Prop where
 len:∀vs H Q E,sp vs H Q E->vs.length=ps.length
 run:∀(A:Around) (outer:List Env) (s:Shared) (H:Hp) (args:Args) (us:List Value) (vs:List V) (Q:VK) (E:XK),f' k A->wu P w K mg base A outer s H->BindsTo s fd args (ps.zip us)->b8 vs us->sp vs H Q E ->
  codeAny (model P w) A (.call (.ref f) args) (CR CX outer P w H s Q E) s
theorem e_.mono{w:World}{CX:Cp}{k:Nat}{sp:Sp}(F:e_ P w K mg base CX j f fd ps sp)(h:j<=k) :
  e_ P w K mg base CX k f fd ps sp:=⟨F.len,fun A outer s H args us vs Q E hr=>F.run A outer s H args us vs Q E (hr.mono h)⟩
section
variable{X:Cx}{σ:St}{H:Hp}{s':Shared}
theorem bj.env0(I:bj X pins σ H s):wu X.prog X.w X.K X.mg X.base X.A X.stack s H:=
 ⟨I.ok.frames,I.ok.mod,I.bs,be I.ok.bsz I.sz,I.stack,I.stkFree,I.hok,I.bare⟩
theorem bj.after{Q:VK}(I:bj X pins σ H s)(h:CE X.stack X.prog X.w H s Q u s'):EP X pins σ Q u s':=by
 obtain⟨v,H',os,bare,un,hok,r,q⟩:=h
 obtain⟨hh,g,d,t,os'⟩:=s'
 obtain rfl:os'=s.os:=os
 exact⟨v,H',I.call (h':=hh) (g':=g) (d':=d) (t':=t) (ch:=[]) un hok bare (fun b z=>absurd z (by simp)),r,q⟩
end
def ww(K:Frag)(fd:FuncData)(ps:List Str)(ds:List Value):Prop:=
 ∀(s:Shared) (us:List Value),K.In s.heap->(us++ds).length=ps.length->BindsTo s fd ⟨us,[]⟩ (ps.zip (us++ds))
theorem ww.all(h:∀us:List Value,us.length=ps.length->bindArgs fd ⟨us,[]⟩=pure (ps.zip us)):ww K fd ps []:=fun s us _ hl=>by
 rw[cn]at hl ⊢
 exact .of_eq (h us hl)
section
variable{X:Cx}{CX:Cp}{k:Nat}{C:Addr}{sp:Sp}{TQ:List V}{ds:List Value}{E:XK}{m:Str}{o:Expr}{ta:TE}{t:TA}
end
def PK(X:Cx)(Tf:List Keyword)(t:TA):Prop:=
 ∀(pos:Pos) (pins:List (Addr×Obj)) (s:Shared) (σ:St) (H:Hp) (Q:List V->Hp->Prop),bj X pins σ H s->t σ H Q->wpAny (model X.prog X.w) X.A (evalAll ((backToKw pos (keywordEach Tf X.env)).map (·.2))) (AP X pins σ Q) X.xe s
section
variable{X:Cx}{CX:Cp}{k:Nat}{C:Addr}{ks:List Str}{sp:Sp}{E:XK}{m:Str}{QU:Pos}{o:Expr}{Tf:List Keyword}{te ta:TE}{t tk:TA}{nm:Option Str}
variable{g:List Value->List Value->List Value}{gV:List V->List V->List V}
end
structure bR(N P:List Str)(sc:Scope):Prop where
 kind:sc.kind=.function
 co:sc.isCoroutine=false
 gen:sc.isGenerator=false
 nd:N.Nodup
 pre:N.take P.length=P
 par:∀x∈P,sc.names.lookup x=some .local\/sc.names.lookup x=some .cell
 nofree:∀y∈sc.names,y.2≠.free
theorem tS:∀{binds:List (Str×Value)} {m:Str->Option Value},(∀v,(x,v)∉binds)->bindL kindOf binds m x=m x
 |[],_,_=>rfl
 |(n,v)::r,m,h=>by
  unfold bindL
  rw[tS fun w hw=>h w (aA _ hw)]
  split
  ·have:x≠n:=by rintro rfl;exact h v aN
   simp[this]
  ·rfl
theorem tU:∀{binds:List (Str×Value)} {m:Str->Option Value},(∀v,(x,v)∉binds)->bindC kindOf binds m x=m x
 |[],_,_=>rfl
 |(n,v)::r,m,h=>by
  unfold bindC
  rw[tU fun w hw=>h w (aA _ hw)]
  split
  ·rfl
  ·have:x≠n:=by rintro rfl;exact h v aN
   simp[this]
theorem tV{v:Value}:∀{P:List Str} {vs:List Value} {i:Nat} {m:Str->Option Value},P.Nodup->P[i]?=some x->vs[i]?=some v->kindOf x=some .local ->
  bindL kindOf (P.zip vs) m x=some v
 |[],_,_,_,_,h,_,_=>by simp at h
 |_::_,[],_,_,_,_,h,_=>by simp at h
 |p::P,w::vs,0,m,nd,h1,h2,hk=>by
  simp at h1 h2;subst h1;subst h2
  show bindL kindOf ((p,w)::P.zip vs) m p=_
  unfold bindL
  rw[tS fun v hv=>(bx.mp nd).1 (iP hv).1,aw hk]
  simp
 |p::P,w::vs,i+1,m,nd,h1,h2,hk=>by
  show bindL kindOf ((p,w)::P.zip vs) m x=_
  unfold bindL
  exact tV (i:=i) (bx.mp nd).2 (by simpa using h1) (by simpa using h2) hk
theorem tX{v:Value}:∀{P:List Str} {vs:List Value} {i:Nat} {m:Str->Option Value},P.Nodup->P[i]?=some x->vs[i]?=some v->kindOf x≠some .local ->
  bindC kindOf (P.zip vs) m x=some v
 |[],_,_,_,_,h,_,_=>by simp at h
 |_::_,[],_,_,_,_,h,_=>by simp at h
 |p::P,w::vs,0,m,nd,h1,h2,hk=>by
  simp at h1 h2;subst h1;subst h2
  show bindC kindOf ((p,w)::P.zip vs) m p=_
  unfold bindC
  rw[tU fun v hv=>(bx.mp nd).1 (iP hv).1,aD hk]
  simp
 |p::P,w::vs,i+1,m,nd,h1,h2,hk=>by
  show bindC kindOf ((p,w)::P.zip vs) m x=_
  unfold bindC
  exact tX (i:=i) (bx.mp nd).2 (by simpa using h1) (by simpa using h2) hk
def iU(N:List Str)(vs:List V):St:=vs.map some++List.replicate (N.length-vs.length) none
def yq(CX:Cp)(P:Program)(w:World)(K:Frag)(mg:Str->Option Value)(base:Heap)(N:List Str)(qual:Str)(scope:Scope)(f:Addr)(cd:Value)(A:Around)(outer:List Env)(s:Shared)(H:Hp)(E:XK):Cx where
 prog:=P
 w:=w
 K:=K
 mg:=mg
 base:=base
 A:=A.deeper (envOfC qual scope s.heap.objs.size f cd)
 N:=N
 s₀:=s
 H₀:=H
 env:=envOfC qual scope s.heap.objs.size f cd
 outer:=outer
 stack:=envOfC qual scope s.heap.objs.size f cd::outer
 ex:=[]
 calm:=true
 fn:=fun _=>true
 pn:=[]
 xe:=fun e s'=>wpAny (model P w) (A.deeper (envOfC qual scope s.heap.objs.size f cd)) (leaving (envOfC qual scope s.heap.objs.size f cd) e) (fun _ s''=>CX outer H s E e s'') (fun e' s''=>CX outer H s E e' s'') s'
theorem jf{n:Nat}(h:sc.names.lookup x=some .cell):∃c,(cellsFrom n sc.names []).lookup x=some c:=by
 have q:=PySem.W.cellsFrom_some sc.names n [] (.inl h)
 exact Option.isSome_iff_exists.mp q
theorem A_{CX:Cp}{w:World}{N:List Str}{cd:Value}{outer:List Env}{s1:Shared}{H:Hp}{E:XK}{vs:List V}
  (S:bR N ps scope) (hd:A.handled=none) (e0:wu P w K mg base A outer s H) (hl:vs.length=ps.length) (r:b8 vs us)
  (x:InCallC s s.heap.objs.size (bindL (envOfC qual scope s.heap.objs.size f cd).kindOf (ps.zip us) fun _=>none) (cellsFrom (s.heap.objs.size+1) scope.names []) (bindC (envOfC qual scope s.heap.objs.size f cd).kindOf (ps.zip us) fun _=>none) s1) :
  bj (yq CX P w K mg base N qual scope f cd A outer s H E) [] (iU N vs) H s1:=by
 have oU:ps.length<=N.length:=by have:=cC List.length S.pre;rw[a9]at this;omega
 obtain⟨h1,tk,rfl,hk⟩:=x.done
 have noA:∀b:Addr,b∉(yq CX P w K mg base N qual scope f cd A outer s H E).ex:=fun b z=>absurd (show b∈([]:List Addr)from z) (by simp)
 refine⟨⟨e0.mod,S.kind,rfl,rfl,av _,fun y z c h1 h2=>?_,fun y hy=>?_,fun y c _ h=>?_,fun _=>hd,Around.frames_deeper e0.frames,.inr ⟨rfl,rfl⟩,fun b z=>absurd z (noA b),e0.bs,e0.bsz,fun b _ _=>noA b,fun b z=>absurd z (noA b),e0.funs,e0.frf⟩,
  rfl,e0.bare,Un.kept hk,⟨_,x.toInCall.ns,fun i y v h1 h2 h3=>?_⟩,fun y c h=>⟨_,x.cell y c h⟩,e0.hok.fresh (av _),fun y c h=>?_,fun p hp=>absurd (show p∈([]:List (Addr×Obj))from hp) (by simp),e0.hok.kept hk,?_⟩
 ·exact name_of_addr x.apart (PySem.mem_of_lookup h1) (PySem.mem_of_lookup h2)
 ·have hy:scope.names.lookup y=some .cell\/scope.names.lookup y=some .free:=hy
  rcases hy with hy|hy
  ·exact jf hy
  ·exact absurd rfl (S.nofree _ (PySem.mem_of_lookup hy))
 ·exact cV (x.above y c (PySem.mem_of_lookup h))
 ·have hi:i<vs.length:=by
   unfold iU at h2
   by_cases hi:i<vs.length
   ·exact hi
   ·rw[bP (by simpa using hi)]at h2
    rw[gT]at h2
    split at h2<;>cases h2
  have ha:vs[i]?=some v:=by
   unfold iU at h2
   rw[aq (by simpa using hi),al]at h2
   cases e:vs[i]? with
   |none=>rw[e]at h2;cases h2
   |some a=>rw[e]at h2;cases h2;rfl
  obtain⟨u,hu,rv⟩:=r.get ha
  have hp:ps[i]?=some y:=by
   rw[<- S.pre,aQ (by omega)];exact h1
  have ndP:ps.Nodup:=by rw[<- S.pre];exact S.nd.sublist (f9 _ _)
  refine⟨u,rv,?_⟩
  rcases S.par y (ak hp)with k|k
  ·exact .inl ⟨k,tV ndP hp hu k⟩
  ·obtain⟨c,e⟩:=jf (n:=s.heap.objs.size+1) k
   refine .inr ⟨.inl k,c,e,?_⟩
   have q:=x.cell y c e
   rw[tX ndP hp hu (by show scope.names.lookup y≠_;rw[k];decide)]at q
   exact q
 ·exact e0.hok.fresh (cV (x.above y c (PySem.mem_of_lookup h)))
 ·unfold iU
  show _=N.length
  rw[aI,aj,l8]
  omega
theorem Od{CX:Cp}{w:World}{k:Nat}{params:Arguments}{dV kV im pm gq ct oc:Value}{an od:Option Addr}
  {JX:Array (Option Value)} {N ps:List Str} {sp:Sp} (lk:K.lookup f=some ⟨oc,od,.func (fnOf name qual params body scope dV kV im pm an gq ct),JX⟩) (kt:codeIn K gq qual=true) (S:bR N ps scope)
  (len:∀vs H Q E,sp vs H Q E->vs.length=ps.length)
  (sT:∀(A:Around) (outer:List Env) (s:Shared) (H:Hp) (vs:List V) (Q:VK) (E:XK),f' k (A.deeper (envOfC qual scope s.heap.objs.size f gq))->sp vs H Q E ->
   ∃t,A0 (yq CX P w K mg base N qual scope f gq A outer s H E) body t/\t { nx:=fun _ H'=>Q .non H',rt:=Q } (iU N vs) H) :
  e_ P w K mg base CX (k+1) f (fnOf name qual params body scope dV kV im pm an gq ct) ps sp:=by
 refine⟨len,fun A outer s H args us vs Q E hr e0 hb r J1=>?_⟩
 have hl:=len _ _ _ _ J1
 have KX:K.In s.heap:=e0.mod.kin.keeps fun b o e=>(e0.bs b o e).1
 have lim:s.heap.NoLimit:=e0.mod.nolimit.keeps fun b o e=>(e0.bs b o e).1
 have gF:∀y∈ps.zip us,scope.names.lookup y.1=some .local\/(scope.names.lookup y.1=some .cell/\((cellsFrom (s.heap.objs.size+1) scope.names []).lookup y.1).isSome=true):=fun⟨n,v⟩ hy=>by
  rcases S.par n (iP hy).1 with q|q
  ·exact .inl q
  ·exact .inr ⟨q,PySem.W.cellsFrom_some _ _ _ (.inl q)⟩
 refine codeAny_call_function hr.depth (KX _ _ lk) rfl S.co S.gen rfl (PySem.W.codeRec_of KX kt) (hb _ _ _ _ ?_)
 refine wpAny_newFunctionEnv_cells S.kind gF fun env he s1 x=>?_
 subst he
 refine⟨lim.keeps x.toInCall.keep,codeAny_func ?_⟩
 obtain⟨t,ht,hq⟩:=sT A outer s H vs Q E (hr.deeper _) J1
 have I:bj (yq CX P w K mg base N qual scope f gq A outer s H E) [] (iU N vs) H s1:=A_ S hr.hd e0 hl r x
 refine dJ (ht [] s1 (iU N vs) H _ I hq) (fun fl s' hs=>?_) fun e s' hs=>hs
 have fin:∀{σ':St} {H':Hp} {v:V} {u:Value},bj (yq CX P w K mg base N qual scope f gq A outer s H E) [] σ' H' s'->bF v u->Q v H'->CE outer P w H s Q u s':=
  fun{σ' H' v u} J rv q=>⟨v,H',J.os,J.bare,J.base,J.hok,rv,q⟩
 cases fl with
 |ret u=>
  obtain⟨v,σ',H',J,rv,q⟩:=hs
  exact fin J rv q
 |next=>
  obtain⟨σ',H',J,q⟩:=hs
  exact fin (v:=V.non) (u:=Value.none) J rfl q
 |brk=>
  obtain⟨_,_,_,q⟩:=hs
  exact False.elim q
 |cont=>
  obtain⟨_,_,_,q⟩:=hs
  exact False.elim q
section
variable{X:Cx}{t:TA}{T:String}{r:List V->Hp->VK->Prop}
def RH(r:List V->Hp->VK->Prop)(t:TA):TE:=fun σ H Q=>t σ H fun vs H1=>r vs H1 Q
theorem wz(hc:gZ X (.builtin id) r)(hg:Gl X x)(hm:X.mg x=none)(hv:bootBuiltins x=some (.builtin id))(ha:PA X (e::es) t)(hn:x ≠ "__name__":=by decide)(yg:(x==("__debug__":Str))=false:=by decide)
  (he:starEach (e::es) X.env=(false,eval e X.env)::starEach es X.env:=by rfl) (oU:(backTo pos (starEach es X.env)).any (·.1)=false:=by rfl):PE X (.Call (.Name x p) (e::es) [] pos) (RH r t):=by
 intro pins s σ H Q I h
 refine eD (me I hg hm hv ?_ hn yg)
 exact PyProof.Rows.callWith_builtin1 (fI (ha pos pins s σ H _ I h) fun us s1 ⟨vs,H1,I1,r1,q1⟩=>hc pins s1 σ H1 vs us Q I1 r1 q1) he oU
theorem A'(hc:gZ X (.type T) r)(hg:Gl X x)(hm:X.mg x=none)(hv:bootBuiltins x=some (.type T))(ha:PA X (e::es) t)(hn:x ≠ "__name__":=by decide)(yg:(x==("__debug__":Str))=false:=by decide)
  (he:starEach (e::es) X.env=(false,eval e X.env)::starEach es X.env:=by rfl) (oU:(backTo pos (starEach es X.env)).any (·.1)=false:=by rfl):PE X (.Call (.Name x p) (e::es) [] pos) (RH r t):=by
 intro pins s σ H Q I h
 refine eD (me I hg hm hv ?_ hn yg)
 exact c_ (fI (ha pos pins s σ H _ I h) fun us s1 ⟨vs,H1,I1,r1,q1⟩=>hc pins s1 σ H1 vs us Q I1 r1 q1) he oU
end
end L2
variable{xs:List (List L2.fK×PySem.Addr×PySem.Value)}{H H':L2.Hp}{X:L2.Cx}{v y:L2.V}{σ:L2.St}{te:L2.TE}{vs:List L2.V}
namespace HT
open PySem PyProof.Rows
def lexLt:List Int->List Int->Bool
 |[],[]=>false
 |[],_::_=>true
 |_::_,[]=>false
 |x::xs,y::ys=>if x=y then lexLt xs ys else decide (x<y)
theorem lexLt_cons(x y:Int)(xs ys:List Int):lexLt (x::xs) (y::ys)=if x=y then lexLt xs ys else decide (x<y):=rfl
theorem lexLt_nil_nil:lexLt [] []=false:=rfl
theorem qT(y:Int)(ys:List Int):lexLt [] (y::ys)=true:=rfl
theorem qU(x:Int)(xs:List Int):lexLt (x::xs) []=false:=rfl
theorem CG(A:Around)(s:Shared)(a:Int)(t:Tok)(c:Int)(u:Tok):∃e,SeqAt.EqAt A s (.int a t) (.int c u) e/\(e=true↔a=c):=
 ⟨(a==c),SeqAt.EqAt.int_int a t c u,by simp⟩
theorem CI(A:Around)(s:Shared)(a:Int)(t:Tok)(c:Int)(u:Tok)(prog:Program)(w:World)(E:Value->Shared->Prop)(Q:Value->Shared->Prop)(h:Q (.bool (decide (a<c))) s) :
  wpAny (model prog w) A (richCompare .Lt (.int a t) (.int c u)) Q E s:=
 (PyProof.Rows.lt_int h:wpAny (model prog w) A (compareOp .Lt (.int a t) (.int c u)) Q E s)
section
open PySem.SeqAt
open PySem.AutoSeq1 (wpAny_loadPart')
open PySem.MeetsSeq PySem.MeetsSeq2 PySem.MeetsSeq3
theorem sZ(l b:Addr)(items gC:Array Value)(n n2:Nat)(dd NC:Option Addr)(sl Iv:Array (Option Value))(ns ms:List Int)(hi:IntsAre items.toList ns)(hj:IntsAre gC.toList ms) :
  Meets (Builtin.«tuple.__lt__» ⟨[.ref l,.ref b],[]⟩)
   (fun _ R s=>s.heap.get? l=some { cls:=.type "tuple",dict:=dd,data:=.seq items n,slots:=sl }/\s.heap.get? b=some { cls:=.type "tuple",dict:=NC,data:=.seq gC n2,slots:=Iv } /\
    R (.ok (.ret (.bool (lexLt ns ms)))) s):=
 .of_wp fun prog w A R s h=>by
  obtain⟨hp,g,d,tk,os⟩:=s;obtain⟨hl,hb,h⟩:=h
  have f2:=ki
  have z1:items.size=ns.length:=by rw[<- hi.length];simp
  have z2:gC.size=ms.length:=by rw[<- hj.length];simp
  wp_walk using bE hl,bE hb,gv _ (fun rest b s'=>b.1=none/\s'=⟨hp,g,d,tk,os⟩/\∃(vs ws:List Value) (Ni NE:List Int),rest=vs.zip ws /\
   IntsAre vs Ni/\IntsAre ws NE/\Ni.length+gC.size=NE.length+items.size/\R (.ok (.ret (.bool (lexLt Ni NE)))) ⟨hp,g,d,tk,os⟩) _
  case turn=>
   rintro⟨y,x⟩ rest b s' ⟨sL,rfl,vs,ws,Ni,NE,hz,hvi,hwi,dH,hR⟩
   cases hvi with
   |nil=>rw[List.zip_nil_left]at hz;cases hz
   |cons a t hvi'=>
    cases hwi with
    |nil=>rw[List.zip_nil_right]at hz;cases hz
    |cons c u hwi'=>
     rw[List.zip_cons_cons]at hz
     injection hz with hyx sP
     injection hyx with hy hx
     subst hy hx
     rw[lexLt_cons]at hR
     simp only[bu]at dH
     obtain⟨e,he,hiff⟩:=CG A.in1 ⟨hp,g,d,tk,os⟩ a t c u
     refine af (he prog w _ _ ?_)
     cases e with
     |true=>
      rw[aw (hiff.mp rfl)]at hR
      wp_walk
      exact⟨rfl,rfl,_,_,_,_,sP,hvi',hwi',by omega,hR⟩
     |false=>
      rw[aD (fun q=>absurd (hiff.mpr q) bM)]at hR
      have hri:=CI A.in1 ⟨hp,g,d,tk,os⟩ a t c u prog w
      wp_walk using hri
      exact⟨_,rfl,by simpa using hR⟩
  case fin=>
   rintro⟨b1,b2⟩ s' ⟨sL,rfl,vs,ws,Ni,NE,hz,hvi,hwi,dH,hR⟩
   simp only at sL
   subst sL
   have hv:lexLt Ni NE=decide (items.size<gC.size):=by
    cases hvi with
    |nil=>
     cases hwi with
     |nil=>
      simp only[dw]at dH
      rw[lexLt_nil_nil]
      exact(a7 (by omega)).symm
     |cons c u hw=>
      simp only[dw,bu]at dH
      rw[qT]
      exact(bp (by omega)).symm
    |cons a t hv=>
     cases hwi with
     |nil=>
      simp only[dw,bu]at dH
      rw[qU]
      exact(a7 (by omega)).symm
     |cons c u hw=>
      rw[List.zip_cons_cons]at hz
      cases hz
   rw[hv]at hR
   wp_walk
   exact⟨_,rfl,by simpa[Builtin.Tuple.tupleCompareSizes]using hR⟩
  case h=>
   exact⟨rfl,rfl,items.toList,gC.toList,ns,ms,rfl,hi,hj,by omega,h⟩
end
section
variable{w:World}
theorem lt_tupInts{l:Addr}{gC:Array Value}{ms:List Int}(hl:IsTup s.heap l items)(hb:IsTup s.heap b gC)(hi:IntsAre items.toList ns)(hj:IntsAre gC.toList ms)
  (hu:A.units<cLine) (h:Q (.bool (lexLt ns ms)) s):wpAny (model prog w) A (compareOp .Lt (.ref l) (.ref b)) Q E s:=by
 obtain⟨⟨cls,dd,data,sl⟩,ho,hc,n,hd⟩:=id hl
 obtain⟨⟨cls2,NC,data2,Iv⟩,ho2,hc2,n2,Cs⟩:=id hb
 simp only at hc hd hc2 Cs
 subst hc hd hc2 Cs
 exact richCompare_meets_room (op:=.Lt) ⟨_,ho,rfl⟩ ⟨_,ho2,rfl⟩ PySem.F.slot_tuple_lt PySem.F.entry_tuple_lt (PySem.F.args_tuple_lt_2 _ _) (sZ l b items gC n n2 dd NC sl Iv ns ms hi hj)
  ⟨ho,ho2,show Value.bool (lexLt ns ms)≠Value.notImplemented/\Q (.bool (lexLt ns ms)) s from⟨(fun x=>nomatch x),h⟩⟩ hu
theorem cat_tup{t:Addr}{vs ws:List Value}(ht:IsTup s.heap t vs.toArray)(hb:IsTup s.heap b ws.toArray)(hv:vs≠[])
  (h1:ws=[]->Q (.ref t) s) (h2:ws≠[]->Q (.ref s.heap.objs.size) { s with heap:=s.heap.push { cls:=.type "tuple",data:=.seq (vs++ws).toArray } })
  (hsz:vs.length+ws.length<=sizeLine):wpAny (model prog w) A (binaryOp .Add (.ref t) (.ref b)) Q E s:=by
 obtain⟨⟨cls,dd,data,sl⟩,ho,hc,n,hd⟩:=id ht
 obtain⟨⟨cls2,NC,data2,Iv⟩,ho2,hc2,n2,Cs⟩:=id hb
 simp only at hc hd hc2 Cs
 subst hc hd hc2 Cs
 have e:vs.toArray++ws.toArray=(vs++ws).toArray:=by simp
 by_cases hw:ws=[]
 ·exact oX ⟨_,ho,rfl⟩ ⟨_,ho2,rfl⟩ kM nw PySem.F.slot_tuple_add PySem.F.entry_tuple_add (PySem.F.args_tuple_add_2 _ _)
   (tuple_addW1 t b vs.toArray ws.toArray n n2 dd NC sl Iv (by simpa using hv) (by simp[hw])) ⟨ho,ho2,h1 hw⟩
 ·refine oX ⟨_,ho,rfl⟩ ⟨_,ho2,rfl⟩ kM nw PySem.F.slot_tuple_add PySem.F.entry_tuple_add (PySem.F.args_tuple_add_2 _ _)
   (tuple_addW2 t b vs.toArray ws.toArray n n2 dd NC sl Iv (by simpa using hv) (by simpa using hw) (by rw[aE,aE];exact hsz)) ⟨ho,ho2,?_⟩
  rw[e]
  exact h2 hw
def sIx(n d:Nat):Option Int->Nat
 |none=>d
 |some v=>if v<0 then(v+(n:Int)).toNat else min v.toNat n
theorem sIx_none(n d:Nat):sIx n d none=d:=rfl
theorem sIx_nat(n d k:Nat):sIx n d (some (k:Int))=min k n:=by
 show(if (k:Int)<0 then((k:Int)+(n:Int)).toNat else min (k:Int).toNat n)=min k n
 rw[aD (by omega),aK]
theorem sIx_le(n d:Nat)(hd:d<=n)(o:Option Int):sIx n d o<=n:=by
 cases o with
 |none=>exact hd
 |some v=>
  show(if v<0 then(v+(n:Int)).toNat else min v.toNat n)<=n
  by_cases hv:v<0
  ·rw[aw hv];omega
  ·rw[aD hv];exact Nat.min_le_right _ _
theorem zN(v:Int)(n d:Nat):(if v<0 then max (v+(n:Int)) 0 else min v (n:Int))=((sIx n d (some v):Nat):Int):=by
 show(if v<0 then max (v+(n:Int)) 0 else min v (n:Int))=(((if v<0 then(v+(n:Int)).toNat else min v.toNat n):Nat):Int)
 by_cases hv:v<0
 ·simp only[aw hv];omega
 ·simp only[aD hv];omega
theorem yr(lo hi:Option Int)(n:Nat):Builtin.Slice.sliceAdjust lo hi 1 (n:Int)=(((sIx n 0 lo:Nat):Int),((sIx n n hi:Nat):Int)):=by
 have h1:¬ ((1:Int)<0):=by omega
 unfold Builtin.Slice.sliceAdjust
 simp only[h1,fD]
 refine Prod.ext ?_ ?_
 ·cases lo with
  |none=>rfl
  |some v=>exact zN v n 0
 ·cases hi with
  |none=>rfl
  |some v=>exact zN v n n
theorem yt(i j:Nat):Builtin.Slice.slicePlaces (i:Int) (j:Int) 1=j-i:=by
 unfold Builtin.Slice.slicePlaces
 have h1:(1:Int)>0:=by omega
 simp only[h1,d7,Int.ediv_one]
 split<;>omega
theorem qV{v:Value}{o:Option Int}{Q:Option Int->Shared->Prop}(p:IsPart v o)(h:Q o s):wpAny (model prog w) A (Builtin.Slice.slicePartIndex v) Q E s:=by
 cases p with
 |none=>exact slicePart_none h
 |int i t=>exact slicePart_int h
theorem sliceApplied_gen{sl:Addr}{vl vu:Value}{lo hi:Option Int}{Q:Int×Int×Nat->Shared->Prop}(hs:s.heap.IsSliceOf sl vl vu .none)(pl:IsPart vl lo)(pu:IsPart vu hi)
  (h:Q (((sIx n 0 lo:Nat):Int),1,sIx n n hi-sIx n 0 lo) s):wpAny (model prog w) A (Builtin.Slice.sliceApplied (.ref sl) (pure (n:Int))) Q E s:=by
 obtain⟨os,hos,hcs,we⟩:=id hs
 unfold Builtin.Slice.sliceApplied Builtin.Slice.sliceFields
 refine af (af (gc hos we (x:=vl) rfl (af (gc hos we (x:=vu) rfl (af (gc hos we (x:=.none) rfl (au ?_)))))))
 refine af (slicePart_none ?_)
 show wpAny _ _ (if ((1:Int)==0)=true then _ else _) _ _ s
 rw[aD (by decide)]
 refine af (qV pl (af (qV pu (af (au ?_)))))
 show wpAny _ _ (match Builtin.Slice.sliceAdjust lo hi 1 (n:Int)with|(lo,hi)=>pure (lo,(1:Int),Builtin.Slice.slicePlaces lo hi 1)) _ _ s
 rw[yr lo hi n]
 show wpAny _ _ (pure (((sIx n 0 lo:Nat):Int),(1:Int),Builtin.Slice.slicePlaces ((sIx n 0 lo:Nat):Int) ((sIx n n hi:Nat):Int) 1)) _ _ s
 rw[yt]
 exact au h
theorem CJ(xs:Array Value)(i k:Nat):((List.range k).filterMap fun(m:Nat)=>xs[((i:Int)+(m:Int)*1).toNat]?).toArray=((xs.toList.drop i).take k).toArray:=by
 have e:(fun(m:Nat)=>xs[((i:Int)+(m:Int)*1).toNat]?)=fun m=>xs[i+m]?:=by
  funext m
  have:((i:Int)+(m:Int)*1).toNat=i+m:=by omega
  rw[this]
 rw[e]
 have:=pick_run xs i k
 rw[List.filterMap_map]at this
 have e2:((fun x=>xs[x]?)∘fun x=>i+x)=fun m=>xs[i+m]?:=rfl
 rw[e2]at this
 rw[this]
theorem getItem_tuple_cut{t sl:Addr}{vl vu:Value}{lo hi:Option Int}(ht:IsTup s.heap t items)(hs:s.heap.IsSliceOf sl vl vu .none)(pl:IsPart vl lo)(pu:IsPart vu hi)
  (hw:¬ (sIx items.size 0 lo=0/\sIx items.size items.size hi=items.size))
  (h:Q (.ref s.heap.objs.size) { s with heap:=s.heap.push { cls:=.type "tuple",data:=.seq ((items.toList.drop (sIx items.size 0 lo)).take (sIx items.size items.size hi-sIx items.size 0 lo)).toArray } })
  (hsz:items.size<=sizeLine):wpAny (model prog w) A (getItem (.ref t) (.ref sl)) Q E s:=by
 have htake:sizeOk (.seq ((items.toList.drop (sIx items.size 0 lo)).take (sIx items.size items.size hi-sIx items.size 0 lo)).toArray):=by
  show((items.toList.drop (sIx items.size 0 lo)).take (sIx items.size items.size hi-sIx items.size 0 lo)).toArray.size<=sizeLine
  rw[aE,a9,d9,fy]
  omega
 have hj:sIx items.size items.size hi<=items.size:=sIx_le _ _ (av _) hi
 obtain⟨os,hos,hcs,we⟩:=id hs
 have hTs:s.TypeIs (.ref sl) "slice":=⟨os,hos,hcs⟩
 unfold getItem
 try with_reducible refine cv ?_
 first|refine af (au ?_)|skip
 refine af (wpAny_sequenceKey ht.typeIs (by decide) ?_)
 refine af (cY (name:=Str.ofString "__getitem__") ht.typeIs dz
  (cZ dz ht.typeIs entry_tuple_getitem ?_ (args_tuple_getitem _ _)))
 show wpAny _ _ (Builtin.Tuple.tupleItemsOf (.ref t) >>= _) _ _ s
 refine af (tupleItemsOf_ ht ?_)
 refine af (oY hTs ?_)
 rw[aw (by decide)]
 refine af (sliceApplied_gen hs pl pu ?_)
 have hno:¬ ((((sIx items.size 0 lo:Nat):Int)==0&&(1:Int)==1&&(sIx items.size items.size hi-sIx items.size 0 lo)==items.size)=true):=by
  intro q
  rw[bf,bf]at q
  have q1:((sIx items.size 0 lo:Nat):Int)=0:=je q.1.1
  have q2:sIx items.size items.size hi-sIx items.size 0 lo=items.size:=je q.2
  exact hw ⟨by omega,by omega⟩
 show wpAny _ _ (if (((sIx items.size 0 lo:Nat):Int)==0&&(1:Int)==1&&(sIx items.size items.size hi-sIx items.size 0 lo)==items.size)=true then _ else _) _ _ s
 rw[aD hno,CJ]
 first
  |exact af (m:=Builtin.Tuple.tupleExact _) (dQ (au ⟨_,rfl,au h⟩) htake)
  |exact af (m:=Builtin.Tuple.tupleExact _) (dQ (af (au (au ⟨_,rfl,au h⟩))) htake)
  |exact af (af (m:=Builtin.Tuple.tupleExact _) (dQ (au (au ⟨_,rfl,au h⟩)) htake))
  |exact af (af (m:=Builtin.Tuple.tupleExact _) (dQ (au ⟨_,rfl,au h⟩) htake))
end
end HT
namespace L2
open PySem PySem.Spec PyProof.Rows
abbrev TO:=St->Hp->(Option Int->Hp->Prop)->Prop
def PO(X:Cx)(e:Option Expr)(t:TO):Prop:=
 ∀(pins:List (Addr×Obj)) (s:Shared) (σ:St) (H:Hp) (Q:Option Int->Hp->Prop),bj X pins σ H s->t σ H Q ->
  wpAny (model X.prog X.w) X.A (evalPart e X.env) (fun u s'=>∃o H',bj X pins σ H' s'/\IsPart u o/\Q o H') X.xe s
def Gz:TO:=fun _ H Q=>Q none H
def Oe(t:TE):TO:=fun σ H Q=>t σ H fun x H1=>∃i,x=.int i/\Q (some i) H1
theorem kW:∀{us:List Value},b8 (ns.map V.int) us->IntsAre us ns:=by
 induction ns with
 |nil=>intro us r;rw[dk]at r;cases r;exact .nil
 |cons n ns ih=>
  intro us r
  rw[aC]at r
  cases r with
  |cons r1 r2=>
   obtain⟨t,e⟩:=r1
   subst e
   exact .cons n t (ih r2)
section
variable{lo hi:Option Expr}{tl th:TO}
theorem GA:PO X none Gz:=by
 intro pins s σ H Q I h
 rw[evalPart_none]
 exact au ⟨none,H,I,.none,h⟩
theorem GB(h:PE X e te):PO X (some e) (Oe te):=by
 intro pins s σ H Q I hw
 rw[evalPart_some]
 refine fI (h pins s σ H _ I hw) fun u s1 ⟨x,H1,I1,r1,q1⟩=>?_
 obtain⟨i,rfl,q⟩:=q1
 obtain⟨t,rfl⟩:=r1
 exact⟨some i,H1,I1,.int i t,q⟩
def Of(X:Cx)(r:V->Option Int->Option Int->Hp->VK->Prop):Prop:=
 ∀(pins:List (Addr×Obj)) (s:Shared) (σ:St) (H:Hp) (x:V) (v vl vu:Value) (lo hi:Option Int) (sl:Addr) (Q:VK),bj X pins σ H s->bF x v->s.heap.IsSliceOf sl vl vu .none->IsPart vl lo->IsPart vu hi->r x lo hi H Q ->
  ∃T id,typeLookup (.type T) "__getitem__"=pure (some (.builtin id))/\s.TypeIs v T/\wpAny (model X.prog X.w) X.A (getItem v (.ref sl)) (EP X pins σ Q) X.xe s
def Tj(r:V->Option Int->Option Int->Hp->VK->Prop)(te:TE)(tl th:TO):TE:=fun σ H Q=>te σ H fun x H1=>tl σ H1 fun l H2=>th σ H2 fun u H3=>r x l u H3 Q
theorem CK{r:V->Option Int->Option Int->Hp->VK->Prop}(hr:Of X r)(he:PE X e te)(hl:PO X lo tl)(hu:PO X hi th):PE X (.Subscript e (.Slice lo hi none p2) pos) (Tj r te tl th):=by
 intro pins s σ H Q I h
 refine Subscript_ (fI (he pins s σ H _ I h) fun v s1 ⟨x,H1,I1,r1,q1⟩=>?_)
 refine wpAny_Slice (fI (hl pins s1 σ H1 _ I1 q1) fun vl s2 ⟨l,H2,I2,pl,q2⟩=>fI (hu pins s2 σ H2 _ I2 q2) fun vu s3 ⟨u,H3,I3,pu,q3⟩=>?_)
 rw[evalPart_none]
 refine au ?_
 have I4:bj X pins σ H3 { s3 with heap:=s3.heap.push { cls:=.type "slice",data:=.fields #[vl,vu,.none] } }:=I3.kept (t':=s3.toks) fun b ob q=>ao _ q
 obtain⟨T,id,hT,ht,hg⟩:=hr pins { s3 with heap:=s3.heap.push { cls:=.type "slice",data:=.fields #[vl,vu,.none] } } σ H3 x v vl vu l u s3.heap.objs.size Q I4 r1 (Heap.IsSliceOf.new ..) pl pu q3
 show wpAny (model X.prog X.w) X.A (subscriptTail e (.Slice lo hi none p2) v (.ref s3.heap.objs.size)) (EP X pins σ Q) X.xe { s3 with heap:=s3.heap.push { cls:=.type "slice",data:=.fields #[vl,vu,.none] } }
 exact tail_any (ops:=[.ref s3.heap.objs.size,v]) ht hT hg (by with_unfolding_all rfl)
def qW(xs:List V)(lo hi:Option Int):List V:=(xs.drop (HT.sIx xs.length 0 lo)).take (HT.sIx xs.length xs.length hi-HT.sIx xs.length 0 lo)
theorem pV(xs:List V)(lo hi:Option Int):(qW xs lo hi).length<=xs.length:=by
 unfold qW
 rw[a9,d9]
 omega
def RI(K:Frag):V->Option Int->Option Int->Hp->VK->Prop:=fun x lo hi H Q=>∃a xs,x=.ref a/\eG K H a xs /\
 ¬ (HT.sIx xs.length 0 lo=0/\HT.sIx xs.length xs.length hi=xs.length)/\∀p,H p=none->Q (.ref p) (dY H p (.tup (qW xs lo hi)))
theorem KG:Of X (RI X.K):=by
 intro pins s σ H x v vl vu lo hi sl Q I rx hs pl pu h
 obtain⟨a,xs,rfl,hx,hw,q⟩:=h
 cases rx
 obtain⟨bw,r,ht,hz⟩:=I.tuple hx
 have dH:bw.toArray.size=xs.length:=by rw[aE];exact r.length.symm
 refine⟨"tuple",_,dz.lookup,ht.typeIs,?_⟩
 refine HT.getItem_tuple_cut ht hs pl pu (by rw[dH];exact hw) ?_ (by rw[dH];exact hz)
 rw[dH]
 refine⟨.ref s.heap.objs.size,_,I.laid (t':=s.toks) (o:=.tup (qW xs lo hi)) (fun b ob q=>ao _ q) (av _) ?_,rfl,q _ (I.hok.fresh (av _))⟩
 exact⟨be (pV xs lo hi) hz,_,(r.drop (HT.sIx xs.length 0 lo)).take (HT.sIx xs.length xs.length hi-HT.sIx xs.length 0 lo),IsTup.new _ _⟩
def RJ(K:Frag):R2:=fun x y H Q=>∃a b ns ms,x=.ref a/\y=.ref b/\eG K H a (ns.map V.int)/\eG K H b (ms.map V.int)/\Q (.bl (HT.lexLt ns ms)) H
theorem KH(hu:X.A.units<cLine):mN X (compareOp .Lt) (RJ X.K):=by
 intro pins s σ H x y v u Q I rx ry h
 obtain⟨a,b,ns,ms,rfl,rfl,ha,hb,q⟩:=h
 cases rx
 cases ry
 obtain⟨bw,r1,p1,_⟩:=I.tuple ha
 obtain⟨its2,r2,p2,_⟩:=I.tuple hb
 have i1:IntsAre bw.toArray.toList ns:=kW r1
 have i2:IntsAre its2.toArray.toList ms:=kW r2
 exact HT.lt_tupInts p1 p2 i1 i2 hu ⟨.bl (HT.lexLt ns ms),H,I,rfl,q⟩
def Og(K:Frag):R2:=fun x y H Q=>∃a b xs ys,x=.ref a/\y=.ref b/\eG K H a xs/\eG K H b ys/\xs≠[]/\xs.length+ys.length<=sizeLine /\
 (ys=[]->Q (.ref a) H)/\(ys≠[]->∀p,H p=none->Q (.ref p) (dY H p (.tup (xs++ys))))
theorem b8.nil_iff{xs:List V}(r:b8 xs us):us=[]↔xs=[]:=by
 cases r with
 |nil=>simp
 |cons _ _=>simp
theorem GC:mN X (binaryOp .Add) (Og X.K):=by
 intro pins s σ H x y v u Q I rx ry h
 obtain⟨a,b,xs,ys,rfl,rfl,ha,hb,hx,hz,q1,q2⟩:=h
 cases rx
 cases ry
 obtain⟨bw,r1,p1,_⟩:=I.tuple ha
 obtain⟨its2,r2,p2,_⟩:=I.tuple hb
 refine HT.cat_tup p1 p2 (fun z=>hx (r1.nil_iff.mp z)) (fun z=>⟨.ref a,H,I,rfl,q1 (r2.nil_iff.mp z)⟩) (fun z=>?_) (by rw[<- r1.length,<- r2.length];exact hz)
 refine⟨.ref s.heap.objs.size,_,I.laid (t':=s.toks) (o:=.tup (xs++ys)) (fun b ob q=>ao _ q) (av _) ?_,rfl,q2 (fun w=>z (r2.nil_iff.mpr w)) _ (I.hok.fresh (av _))⟩
 exact⟨by rw[aI];exact hz,_,r1.append r2,IsTup.new _ _⟩
theorem wA:gZ X (.type "tuple") (fun xs H Q=>∃a ys,xs=[.ref a]/\eG X.K H a ys/\Q (.ref a) H):=by
 intro pins s σ H xs us Q I r h
 obtain⟨a,ys,rfl,ha,q⟩:=h
 obtain⟨u,rfl,ru⟩:=lL r
 cases ru
 obtain⟨bw,_,p1,_⟩:=I.tuple ha
 exact call_tuple_same (items:=bw.toArray) p1 ⟨.ref a,H,I,rfl,q⟩
end
def Ba(n:Nat)(i:Int):Option Nat:=if 0<=i then(if i<n then some i.toNat else none)else if -(n:Int)<=i then some (i+n).toNat else none
def pW(xs:List α)(i:Int):Option α:=(Ba xs.length i).bind fun j=>xs[j]?
theorem zO{i:Int}(h:Ba n i=some j):seqIndex? i n=some j/\j<n/\-(n:Int)<=i/\i<n:=by
 unfold Ba at h
 by_cases h0:0<=i
 ·rw[aw h0]at h
  by_cases h1:i<n
  ·rw[aw h1]at h
   have e:i.toNat=j:=aM h
   exact⟨by rw[seqIndex_of h0 h1,e],by omega,by omega,h1⟩
  ·rw[aD h1]at h;cases h
 ·rw[aD h0]at h
  by_cases h1:-(n:Int)<=i
  ·rw[aw h1]at h
   have e:(i+n).toNat=j:=aM h
   exact⟨by rw[oZ (by omega) h1,e],by omega,h1,by omega⟩
  ·rw[aD h1]at h;cases h
theorem uU{xs:List α}{i:Int}{v:α}(h:pW xs i=some v):∃j,seqIndex? i xs.length=some j/\xs[j]?=some v/\j<xs.length/\-(xs.length:Int)<=i/\i<xs.length:=by
 unfold pW at h
 cases e:Ba xs.length i with
 |none=>rw[e]at h;cases h
 |some j=>
  rw[e]at h
  obtain⟨h1,h2,h3,h4⟩:=zO e
  exact⟨j,h1,h,h2,h3,h4⟩
def zP(b:Expr):Prop:=∀o i,subscripted b false o i=operate [o,i] (getItem o i)
def F7(X:Cx)(r:R2):Prop:=
 ∀(value slice:Expr) (pins:List (Addr×Obj)) (s:Shared) (σ:St) (H:Hp) (x y:V) (v u:Value) (Q:VK),bj X pins σ H s->bF x v->bF y u->r x y H Q ->
  subscripted slice false v u=operate [v,u] (getItem v u)->wpAny (model X.prog X.w) X.A (subscriptTail value slice v u) (EP X pins σ Q) X.xe s
def F8(X:Cx)(id:String)(r:V->List V->Hp->VK->Prop):Prop:=
 ∀(pins:List (Addr×Obj)) (s:Shared) (σ:St) (H:Hp) (x:V) (xs:List V) (v:Value) (us:List Value) (Q:VK),bj X pins σ H s->bF x v->b8 xs us->r x xs H Q ->
  wpAny (model X.prog X.w) X.A (call (.builtin id) (v::us)) (EP X pins σ Q) X.xe s
section
variable{a b:Expr}{ta tb:TE}
theorem F7.or{r r':R2}(h:F7 X r)(h':F7 X r'):F7 X (fun x y H Q=>r x y H Q\/r' x y H Q):=by
 intro value slice pins s σ H x y v u Q I rx ry q hs
 rcases q with q|q
 ·exact h value slice pins s σ H x y v u Q I rx ry q hs
 ·exact h' value slice pins s σ H x y v u Q I rx ry q hs
theorem Oh{r:R2}(hr:F7 X r)(ha:PE X a ta)(hb:PE X b tb)(hs:zP b):PE X (.Subscript a b pos) (N3 r ta tb):=by
 intro pins s σ H Q I h
 exact Subscript_ (Kt ha hb I h fun v u s2 x y H2 I2 rx ry q=>hr a b pins s2 σ H2 x y v u Q I2 rx ry q (hs _ _))
def Oi(K:Frag):R2:=fun x y H Q=>∃p xs i v,x=.ref p/\y=.int i/\qk K H p xs/\pW xs i=some v/\Q v H
def Oj(K:Frag):R2:=fun x y H Q=>∃p xs i v,x=.ref p/\y=.int i/\eG K H p xs/\pW xs i=some v/\Q v H
def Ol:R2:=fun x y H Q=>∃z i c,x=.str z/\y=.int i/\z.length<=sizeLine/\pW z.cps.toList i=some c/\Q (.str ⟨#[c]⟩) H
theorem GD:F7 X (Oi X.K):=by
 intro value slice pins s σ H x y v u Q I rx ry h hs
 obtain⟨p,xs,i,z,rfl,rfl,hq,he,q⟩:=h
 cases rx
 obtain⟨t,rfl⟩:=ry
 obtain⟨bw,r,pl,hz⟩:=I.list hq
 obtain⟨j,h1,h2,h3,h4,h5⟩:=uU he
 obtain⟨w,ew,jL⟩:=r.get h2
 have hl:=r.length
 have hn:=pj
 have fin:EP X pins σ Q w s:=⟨z,H,I,jL,q⟩
 by_cases h0:0<=i
 ·have hj:i.toNat=j:=by
   rw[seqIndex_of h0 h5]at h1
   exact aM h1
  exact item_listR pl.isList h0 (by omega) (by rw[hj];simpa using ew) fin hs
 ·have hj:(i+(bw.toArray.size:Int)).toNat=j:=by
   rw[oZ (by omega) h4]at h1
   rw[aE,<- hl]
   exact aM h1
  exact lD (x:=w) pl.isList.typeIs slot_list_getitem.lookup
   (wpAny_getItem_list_neg (Q:=fun r s'=>r=w/\EP X pins σ Q r s') pl.isList (by omega) (by rw[aE]<;>omega) (by omega) (by rw[hj];simpa using ew) ⟨rfl,fin⟩) hs
theorem KI:F7 X (Oj X.K):=by
 intro value slice pins s σ H x y v u Q I rx ry h hs
 obtain⟨p,xs,i,z,rfl,rfl,hq,he,q⟩:=h
 cases rx
 obtain⟨t,rfl⟩:=ry
 obtain⟨bw,r,pl,hz⟩:=I.tuple hq
 obtain⟨j,h1,h2,h3,h4,h5⟩:=uU he
 obtain⟨w,ew,jL⟩:=r.get h2
 have hl:=r.length
 have hn:=pj
 have fin:EP X pins σ Q w s:=⟨z,H,I,jL,q⟩
 exact lD (x:=w) pl.typeIs slot_tuple_getitem.lookup
  (getItem_tuple (j:=j) (Q:=fun r s'=>r=w/\EP X pins σ Q r s') pl (by omega) (by omega) (by rw[aE,<- hl];exact h1) (by simpa using ew) ⟨rfl,fin⟩) hs
theorem KJ:F7 X Ol:=by
 intro value slice pins s σ H x y v u Q I rx ry h hs
 obtain⟨z,i,c,rfl,rfl,hz,he,q⟩:=h
 obtain⟨t,rfl⟩:=rx
 obtain⟨t',rfl⟩:=ry
 obtain⟨j,h1,h2,h3,h4,h5⟩:=uU he
 have hl:z.cps.toList.length=z.length:=by simp[Str.length]
 rw[hl]at h1 h4 h5
 have hn:=pj
 exact tail_any (typeIs_str s z t) slot_str_getitem.lookup (getItem_str (c:=c) (by
  have e1:decide (i < -(2^63:Int))=false:=a7 (by omega)
  have e2:decide (i≥2^63)=false:=a7 (by omega)
  rw[e1,e2,Bool.or_false]) (by rw[h1];simpa using h2) ⟨.str ⟨#[c]⟩,H,I.tok _,⟨_,rfl⟩,q⟩) hs
def Tk(K:Frag):R2:=fun x y H Q=>Oi K x y H Q\/Oj K x y H Q\/Ol x y H Q
theorem KL:F7 X (Tk X.K):=GD.or (KI.or KJ)
theorem yu(bw:List Value)(n j:Nat)(u:Value):Obj.mapSeq (·.setIfInBounds j u) { cls:=.type "list",data:=.seq bw.toArray n }={ cls:=.type "list",data:=.seq (bw.set j u).toArray n }:=by
 simp[Obj.mapSeq]
theorem bj.lst{p:Addr}{xs:List V}(I:bj X pins σ H s)(h:H p=some (.lst xs)) :
  ∃(bw:List Value) (n:Nat),b8 xs bw/\s.heap.get? p=some { cls:=.type "list",data:=.seq bw.toArray n }/\xs.length<=sizeLine:=by
 obtain⟨z,bw,n,r,e⟩:=I.hok p _ h
 exact⟨bw,n,r,e,z⟩
theorem bj.lstUpd{p:Addr}{xs ys:List V}{its':List Value}{n':Nat}{f:Obj->Obj}(I:bj X pins σ H s)(h:H p=some (.lst xs))
  (ho:s.heap.get? p=some { cls:=.type "list",data:=.seq bw.toArray n }) (hf:f { cls:=.type "list",data:=.seq bw.toArray n }={ cls:=.type "list",data:=.seq its'.toArray n' }) (r:b8 ys its') (hz:ys.length<=sizeLine) (t:Nat) :
  bj X pins σ (dY H p (.lst ys)) { s with heap:=s.heap.update p f,toks:=t }:=by
 have e:(s.heap.update p f).get? p=some { cls:=.type "list",data:=.seq its'.toArray n' }:=by
  rw[fV f ho (by rw[hf]<;>rfl),hf]
 refine I.write (x:=p) (e:=p) (by rw[h];trivial) (.inl rfl) (fun b u hb q=>(g_ _ _ (Ne.symm hb)).trans q) ⟨_,e⟩ ?_
 exact⟨hz,its',n',r,e⟩
def Om:V->V->V->Hp->(Hp->Prop)->Prop:=fun o i v H Q=>∃p xs k j,o=.ref p/\i=.int k/\H p=some (.lst xs)/\Ba xs.length k=some j/\Q (dY H p (.lst (xs.set j v)))
theorem CL:A1 X Om:=by
 intro pins s σ H o i v ov iv u Q I ro ri rv h
 obtain⟨p,xs,k,j,rfl,rfl,hp,hj,q⟩:=h
 cases ro
 obtain⟨t,rfl⟩:=ri
 obtain⟨bw,n,r,ho,hz⟩:=I.lst hp
 obtain⟨h1,h2,h3,h4⟩:=zO hj
 have hl:=r.length
 have hn:=pj
 have I':bj X pins σ (dY H p (.lst (xs.set j v))) { s with heap:=s.heap.update p (Obj.mapSeq (·.setIfInBounds j u)) }:=
  I.lstUpd hp ho (yu bw n j u) (r.set rv j) (by rw[List.length_set];exact hz) s.toks
 by_cases h0:0<=k
 ·have hk:k.toNat=j:=by
   rw[seqIndex_of h0 h4]at h1
   exact aM h1
  exact PySem.W.ki_setAt ho h0 (by omega) (by rw[aE,<- hl];exact h4) (by rw[hk];exact⟨_,I',q⟩)
 ·have hk:(k+(bw.toArray.size:Int)).toNat=j:=by
   rw[oZ (by omega) h3]at h1
   rw[aE,<- hl]
   exact aM h1
  exact PySem.W.ki_setBack ho (by omega) (by rw[aE,<- hl];exact h3) (by omega) (by rw[hk];exact⟨_,I',q⟩)
theorem uV(lo hi:Option Int)(n:Nat):(sliceBounds lo hi none n).1=((HT.sIx n 0 lo:Nat):Int)/\(sliceBounds lo hi none n).2.1=((HT.sIx n n hi:Nat):Int)/\(sliceBounds lo hi none n).2.2=1:=by
 refine⟨?_,?_,rfl⟩
 ·cases lo with
  |none=>simp[sliceBounds,HT.sIx]
  |some i=>
   simp only[sliceBounds,HT.sIx,Option.getD_none,show(1:Int)>0 by decide,d7]
   by_cases h:i<0
   ·simp only[h,d7]<;>omega
   ·simp only[h,fD]<;>omega
 ·cases hi with
  |none=>simp[sliceBounds,HT.sIx]
  |some i=>
   simp only[sliceBounds,HT.sIx,Option.getD_none,show(1:Int)>0 by decide,d7]
   by_cases h:i<0
   ·simp only[h,d7]<;>omega
   ·simp only[h,fD]<;>omega
theorem s_(bw:List Value)(lo hi:Option Int):slicePick bw.toArray lo hi none=((bw.drop (HT.sIx bw.length 0 lo)).take (HT.sIx bw.length bw.length hi-HT.sIx bw.length 0 lo)).toArray:=by
 obtain⟨h1,h2,h3⟩:=uV lo hi bw.toArray.size
 unfold slicePick
 rw[h1,h2,h3]
 simp only[sliceRange_one,pick_run,aE]<;>rfl
def RL(K:Frag):V->Option Int->Option Int->Hp->VK->Prop:=fun x lo hi H Q=>∃a xs,x=.ref a/\qk K H a xs/\∀p,H p=none->Q (.ref p) (dY H p (.lst (qW xs lo hi)))
theorem GE:Of X (RL X.K):=by
 intro pins s σ H x v vl vu lo hi sl Q I rx hs pl pu h
 obtain⟨a,xs,rfl,hx,q⟩:=h
 cases rx
 obtain⟨bw,r,ht,hz⟩:=I.list hx
 have dH:=r.length
 refine⟨"list",_,slot_list_getitem.lookup,ht.isList.typeIs,?_⟩
 refine wpAny_getItem_list_slice ht.isList hs pl pu .none (by simp) ?_ (by rw[aE]<;>omega)
 rw[s_,<- dH]
 refine⟨.ref s.heap.objs.size,_,I.laid (t':=s.toks) (o:=.lst (qW xs lo hi)) (fun b ob q=>ao _ q) (av _) ?_,rfl,q _ (I.hok.fresh (av _))⟩
 exact⟨be (pV xs lo hi) hz,_,0,(r.drop (HT.sIx xs.length 0 lo)).take (HT.sIx xs.length xs.length hi-HT.sIx xs.length 0 lo),aS _ rfl⟩
theorem nX:gZ X (.builtin "len") (fun xs H Q=>∃p ys,xs=[.ref p]/\(qk X.K H p ys\/eG X.K H p ys)/\Q (.int ys.length) H):=by
 intro pins s σ H xs us Q I r h
 obtain⟨p,ys,rfl,hq,q⟩:=h
 obtain⟨u,rfl,rx⟩:=lL r
 cases rx
 have hn:=pj
 rcases hq with hq|hq
 ·obtain⟨bw,r',pl,hz⟩:=I.list hq
  have dH:=r'.length
  exact Calls.call_len_list pl.isList (by simp only[aE]<;>omega) ⟨.int ys.length,H,I.tok _,⟨s.toks+1,by rw[aE,dH]⟩,q⟩
 ·obtain⟨bw,r',pl,hz⟩:=I.tuple hq
  have dH:=r'.length
  exact len_tuple pl (by simp only[aE]<;>omega) ⟨.int ys.length,H,I.tok _,⟨s.toks+1,by rw[aE,dH]⟩,q⟩
theorem uW:gZ X (.builtin "len") (fun xs H Q=>∃z,xs=[.str z]/\z.length<=sizeLine/\Q (.int z.length) H):=by
 intro pins s σ H xs us Q I r h
 obtain⟨z,rfl,hz,q⟩:=h
 obtain⟨u,rfl,t,rfl⟩:=lL r
 have hn:=pj
 exact len_str (by omega) ⟨.int z.length,H,I.tok _,⟨_,rfl⟩,q⟩
theorem uX:gZ X (.type "list") (fun xs H Q=>∃p ys,xs=[.ref p]/\(qk X.K H p ys\/eG X.K H p ys)/\∀l,H l=none->Q (.ref l) (dY H l (.lst ys))):=by
 intro pins s σ H xs us Q I r h
 obtain⟨p,ys,rfl,hq,q⟩:=h
 obtain⟨u,rfl,rx⟩:=lL r
 cases rx
 have fin:∀(bw:List Value),b8 ys bw->ys.length<=sizeLine->∀(h':Heap) (c':Nat),(∀b o',s.heap.get? b=some o'->h'.get? b=some o') ->
   h'.get? s.heap.objs.size=some { cls:=.type "list",dict:=none,data:=.seq bw.toArray c',slots:=#[] }->EP X pins σ Q (.ref s.heap.objs.size) { s with heap:=h' }:=fun bw r' hz h' c' kp e=>
  ⟨.ref s.heap.objs.size,_,I.laid (t':=s.toks) kp (av _) (show dU X.prog X.w _ h' _ (.lst ys)from⟨hz,bw,c',r',e⟩),rfl,q _ (I.hok.fresh (av _))⟩
 rcases hq with hq|hq
 ·obtain⟨bw,r',pl,hz⟩:=I.list hq
  have dH:=r'.length
  obtain⟨o,ho,hc,n,hd⟩:=pl.isList
  exact call_list_seq p (.inl rfl) ho hc hd (fun h' c' kp e=>fin bw r' hz h' c' kp e) (by simp only[aE]<;>omega)
 ·obtain⟨bw,r',pl,hz⟩:=I.tuple hq
  have dH:=r'.length
  obtain⟨o,ho,hc,n,hd⟩:=pl
  exact call_list_seq p (.inr rfl) ho hc hd (fun h' c' kp e=>fin bw r' hz h' c' kp e) (by simp only[aE]<;>omega)
theorem tf:gZ X (.type "tuple") (fun xs H Q=>∃p ys,xs=[.ref p]/\((qk X.K H p ys/\∀l,H l=none->Q (.ref l) (dY H l (.tup ys)))\/(eG X.K H p ys/\Q (.ref p) H))):=by
 intro pins s σ H xs us Q I r h
 obtain⟨p,ys,rfl,h⟩:=h
 obtain⟨u,rfl,rx⟩:=lL r
 cases rx
 rcases h with⟨hq,q⟩|⟨hq,q⟩
 ·obtain⟨bw,r',pl,hz⟩:=I.list hq
  have dH:=r'.length
  refine call_tuple_list pl.isList (fun h' kp=>?_) (by simp only[aE]<;>omega)
  have I1:bj X pins σ H { s with heap:=h' }:=I.kept (t':=s.toks) kp
  have I2:bj X pins σ (dY H h'.objs.size (.tup ys)) { s with heap:=h'.push { cls:=.type "tuple",data:=.seq bw.toArray } }:=
   I1.laid (t':=s.toks) (fun b o e=>ao _ e) (av _) (show dU X.prog X.w _ _ _ (.tup ys)from⟨hz,bw,r',IsTup.new _ _⟩)
  exact⟨.ref h'.objs.size,_,I2,rfl,q _ (I1.hok.fresh (av _))⟩
 ·obtain⟨bw,r',pl,hz⟩:=I.tuple hq
  exact call_tuple_same pl ⟨.ref p,H,I,rfl,q⟩
def Q1(K:Frag)(T:String)(x:V)(H:Hp):Prop:=match x with
 |.str _=>T="str"
 |.int _=>T="int"
 |.ref p=>(T="list"/\∃xs,qk K H p xs)\/(T="tuple"/\∃o,K.lookup p=some o/\o.cls=.type "tuple"/\o.dict=none) \/
   (T="dict"/\((∃kvs,H p=some (.dK kvs))\/∃kvs,H p=some (.dT kvs)))\/(T="set"/\∃S n,H p=some (.set S n))
 |_=>False
theorem KM{T:String}{x:V}{v:Value}(I:bj X pins σ H s)(r:bF x v)(ty:Q1 X.K T x H) :
  s.TypeIs v T/\∀a,v=.ref a->∃ob,s.heap.get? a=some ob/\ob.dict=none:=by
 cases x with
 |str z=>
  obtain⟨t,rfl⟩:=r
  cases(show T="str" from ty)
  exact⟨typeIs_str s z t,fun _ e=>nomatch e⟩
 |int i=>
  obtain⟨t,rfl⟩:=r
  cases(show T="int" from ty)
  exact⟨typeIs_int s i t,fun _ e=>nomatch e⟩
 |ref p=>
  cases r
  rcases ty with⟨rfl,xs,hq⟩|⟨rfl,o,hk,hc,hd⟩|⟨rfl,hk⟩|⟨rfl,S,n,hk⟩
  ·obtain⟨bw,_,pl,_⟩:=I.list hq
   refine⟨pl.isList.typeIs,fun a e=>?_⟩
   cases e
   obtain⟨o,n,e,c,hd,_⟩:=pl
   exact⟨o,e,hd⟩
  ·refine⟨⟨o,I.kIn p o hk,hc⟩,fun a e=>?_⟩
   cases e
   exact⟨o,I.kIn _ o hk,hd⟩
  ·have z:∃o,s.heap.get? p=some o/\o.ExactDict:=by
    rcases hk with⟨kvs,hk⟩|⟨kvs,hk⟩
    ·obtain⟨_,_,_,_,o,_,_,e,ex,_⟩:=I.hok p _ hk
     exact⟨o,e,ex⟩
    ·obtain⟨_,_,_,_,o,_,_,e,ex,_⟩:=I.hok p _ hk
     exact⟨o,e,ex⟩
   obtain⟨o,e,ex⟩:=z
   refine⟨⟨o,e,ex.1⟩,fun a e2=>?_⟩
   cases e2
   exact⟨o,e,ex.2.1⟩
  ·obtain⟨o,_,_,_,e,ex,_⟩:=I.hok p _ hk
   refine⟨⟨o,e,ex.1⟩,fun a e2=>?_⟩
   cases e2
   exact⟨o,e,ex.2.1⟩
 |_=>exact False.elim ty
variable{o:Expr}{to:TE}{t:TA}{T:String}{r:V->List V->Hp->VK->Prop}
end
def Q2(X:Cx)(id:String)(r:V->List V->Hp->VK->Prop):Prop:=
 ∀(pins:List (Addr×Obj)) (s:Shared) (σ:St) (H:Hp) (x:V) (xs:List V) (v:Value) (us:List Value) (Q:VK),bj X pins σ H s->bF x v->b8 xs us->r x xs H Q ->
  wpAny (model X.prog X.w) X.A (call (.builtin id) (v::us)) (EP X pins σ Q) X.xe s
theorem b8.one:∀{x:V} {us:List Value},b8 [x] us->∃u,us=[u]/\bF x u
 |_,_,.cons r .nil=>⟨_,rfl,r⟩
theorem b8.two:∀{x y:V} {us:List Value},b8 [x,y] us->∃u v,us=[u,v]/\bF x u/\bF y v
 |_,_,_,.cons r (.cons q .nil)=>⟨_,_,rfl,r,q⟩
section
variable{l:Addr}{xs ys zs:List V}
theorem bj.lset{its':List Value}{f:Array Value->Array Value}{t':Nat}(I:bj X pins σ H s)(hH:H l=some (.lst xs))
  (e:s.heap.get? l=some { cls:=.type "list",data:=.seq bw.toArray n }) (hf:f bw.toArray=its'.toArray) (hv:b8 ys its') (hz:ys.length<=sizeLine) :
  bj X pins σ (dY H l (.lst ys)) { s with heap:=s.heap.update l (Obj.mapSeq f),toks:=t' }:=by
 have q:=PySem.IsL.update e f
 rw[hf]at q
 refine I.write (x:=l) (e:=l) (by rw[hH];exact trivial) (.inl rfl) (fun b' u hb hu=>(g_ s.heap (Obj.mapSeq f) (Ne.symm hb)).trans hu) ⟨_,q⟩ ?_
 exact⟨hz,its',_,hv,q⟩
theorem bj.lnew{t':Nat}(I:bj X pins σ H s)(hv:b8 ys bw)(hz:ys.length<=sizeLine) :
  bj X pins σ (dY H s.heap.objs.size (.lst ys)) { s with heap:=s.heap.push { cls:=.type "list",data:=.seq bw.toArray },toks:=t' }:=
 I.laid (fun _ _ q=>ao _ q) (av _) ⟨hz,bw,0,hv,aS _ rfl⟩
theorem bj.fresh(I:bj X pins σ H s):H s.heap.objs.size=none:=I.hok.fresh (av _)
theorem bj.lstM(I:bj X pins σ H s)(hH:H l=some (.lst xs)):xs.length<=sizeLine/\∃(bw:List Value) (n:Nat),b8 xs bw/\xs.length=bw.length/\s.heap.get? l=some { cls:=.type "list",data:=.seq bw.toArray n }:=by
 obtain⟨z,bw,n,r,e⟩:=I.hok l _ hH
 exact⟨z,bw,n,r,r.length,e⟩
theorem wB(h:n<=sizeLine):Builtin.List.listTooLong n=false:=by
 unfold Builtin.List.listTooLong
 exact a7 (by omega)
end
section
def zQ:V->List V->Hp->VK->Prop:=fun x vs H Q=>∃l xs y,x=.ref l/\vs=[y]/\H l=some (.lst xs)/\xs.length<sizeLine/\Q .non (dY H l (.lst (xs++[y])))
theorem Bb:Q2 X "list.append" zQ:=by
 intro pins s σ H x vs v us Q I rx rv h
 obtain⟨l,xs,y,rfl,rfl,hH,hz,q⟩:=h
 cases rx
 obtain⟨u,rfl,ru⟩:=rv.one
 obtain⟨z,bw,n,r,hl,e⟩:=I.lstM hH
 refine lE F.slot_list_append ⟨_,e,rfl⟩ F.entry_list_append (F.args_list_append_2 _ _) (PySem.list_append l bw.toArray n u (by rw[aE];omega)) ⟨e,?_⟩
 refine⟨.non,_,I.lset (its':=bw++[u]) hH e (by simp) (r.append (.cons ru .nil)) ?_,rfl,q⟩
 rw[aI,fW]
 omega
def GF:V->List V->Hp->VK->Prop:=fun x vs H Q=>∃l b xs zs,x=.ref l/\vs=[.ref b]/\H l=some (.lst xs)/\H b=some (.lst zs)/\xs.length+zs.length<=sizeLine/\Q .non (dY H l (.lst (xs++zs)))
theorem Bc:Q2 X "list.extend" GF:=by
 intro pins s σ H x vs v us Q I rx rv h
 obtain⟨l,b,xs,zs,rfl,rfl,hH,hB,hz,q⟩:=h
 cases rx
 obtain⟨u,rfl,ru⟩:=rv.one
 cases ru
 obtain⟨z,bw,n,r,hl,e⟩:=I.lstM hH
 obtain⟨z2,its2,n2,r2,hl2,e2⟩:=I.lstM hB
 have hsz:bw.toArray.size+its2.toArray.size<=sizeLine:=by rw[aE,aE];omega
 have hlong:¬ (!bw.toArray.isEmpty&&Builtin.List.listTooLong (bw.toArray.size+its2.toArray.size))=true:=by
  rw[wB hsz,Bool.and_false]
  exact bM
 refine lE F.slot_list_extend ⟨_,e,rfl⟩ F.entry_list_extend (F.args_list_extend_2 _ _)
  (AutoSeq1.list_extend_list_list_0 l bw.toArray n b its2.toArray n2 hlong (by rw[aE];omega) (by omega)) ⟨e,e2,?_⟩
 refine⟨.non,_,I.lset (its':=bw++its2) hH e (by simp) (r.append r2) ?_,rfl,q⟩
 rw[aI]
 omega
def RM:R2:=fun x y H Q=>∃l b xs zs,x=.ref l/\y=.ref b/\H l=some (.lst xs)/\H b=some (.lst zs)/\xs.length+zs.length<=sizeLine/\∀p,H p=none->Q (.ref p) (dY H p (.lst (xs++zs)))
theorem KN:mN X (binaryOp .Add) RM:=by
 intro pins s σ H x y v u Q I rx ry h
 obtain⟨l,b,xs,zs,rfl,rfl,hH,hB,hz,q⟩:=h
 cases rx
 cases ry
 obtain⟨z,bw,n,r,hl,e⟩:=I.lstM hH
 obtain⟨z2,its2,n2,r2,hl2,e2⟩:=I.lstM hB
 refine PySem.P.add_list e e2 ?_ (by rw[aE,aE];omega)
 have ea:bw.toArray++its2.toArray=(bw++its2).toArray:=by simp
 rw[ea]
 exact⟨.ref _,_,I.lnew (t':=s.toks) (r.append r2) (by rw[aI];omega),rfl,q _ I.fresh⟩
end
section
variable{w:World}
end
section
end
end L2
namespace Att
open PySem PySem.W PySem.Calls PyProof.Rows
theorem qm{P:Params}:∀(ns:List Int) (vs:List Value),WellAll P h vs (ns.map WData.int)->IntsAre vs ns:=by
 intro ns
 induction ns with
 |nil=>
  intro vs w
  rw[dk]at w
  cases w
  exact .nil
 |cons n ns ih=>
  intro vs w
  rw[aC]at w
  cases w with
  |cons a b=>
   cases a
   exact .cons _ _ (ih _ b)
theorem Bd{l:OpenLaw}(hn:l.most=some n){P:Params}{args:List WData}{lw:List Value}
  (Cj:l.row.toRowW.claim.pre args=true) (Cu:WellAll P h lw args) :
  ∃a vs ns,lw=[Value.ref a]/\args=[WData.list (ns.map WData.int)]/\h.get? a=some { cls:=.type "list",data:=.seq vs.toArray }/\IntsAre vs ns/\ns.length<=n:=by
 have hsh:WShape.hasAll [] args [.list .int]=true:=(pre_splitW Cj).1
 have hc:l.pre.holds [] { args:=args }=true:=(pre_splitW Cj).2
 obtain⟨d,r,rfl,h1,h2⟩:=hasAllW_cons hsh
 obtain rfl:=hasAllW_nil h2
 obtain⟨xs,rfl,h3⟩:=hasW_list h1
 obtain⟨ns,rfl⟩:=items_int h3
 have dH:ns.length<=n:=by
  unfold OpenLaw.pre at hc
  have h4:(WTm.not (.lt (.lit (.int (n:Int))) (.len (.arg 0)))).holds [] { args:=[.list (ns.map .int)] }=true:=by
   have h4:=(holds_andW hc).1
   rw[hn]at h4
   exact h4
  have h5:=condW_of h4 (w_not (w_lt w_lit (w_len_list (w_arg rfl))))
  rw[aj]at h5
  refine c7 fun q=>?_
  have q':(n:Int)<((ns.length:Nat):Int):=by omega
  first
   |(rw[bp q']at h5;exact absurd h5 (by decide))
   |(simp at h5;omega)
 cases Cu with
 |cons w1 w2=>
  cases w2
  cases w1 with
  |list ho lZ=>exact⟨_,_,ns,rfl,rfl,ho,qm ns _ lZ,dH⟩
theorem Be(l:OpenLaw)(args:List WData):l.row.toRowW.claim.post args (.bool true) args=true:=
 postW_of (r:=l.row.toRowW) (X:=(true==true))
  (show WShape.has [] (.bool true) .bool=true by first|rfl|decide|simp[WShape.has,WShape.arms,WShape.armsAll])
  (show(WTm.eq .res (.lit (.bool true))).value [] { args:=args,res:=some (.bool true),after:=args }=some (.bool (true==true))from w_eq_bool (w_res rfl) w_lit) rfl
theorem attach_call{l:OpenLaw}{q:Program}{AS:List Str}{d:DefRec}
  (hn:l.most=some n) (Se:d.params.defaults=[])
  (call:∀(w:World) (s₀ s₁:Shared) (mg mb:Str->Option Value) (fa:Addr) (o:Obj) (pm cd im:Value) (a:Addr) (vs:List Value) (ns:List Int),
   Ground q AS [] XP w s₀ mg mb s₁.heap->YP w s₁.heap ->
   s₁.heap.get? fa=some o->o.data=.func (docDef d.name d.params d.body d.scope pm cd im)->s₁.heap.CodeRec cd d.name->mg d.name=some (.ref fa) ->
   s₁.heap.get? a=some { cls:=.type "list",data:=.seq vs.toArray }->IntsAre vs ns->ns.length<=n->s₁.gens=#[] ->
   codeAny (model l.prog w) callerA (.call (.ref fa) ⟨[.ref a],[]⟩) (fun r s'=>r=.ok (.ret (.bool true))/\OldK s₁.heap s'.heap/\s'.os=s₁.os/\AllBare s'.gens) s₁) :
  WalkO q AS XP YP l.row.toRowW d [] (fun f vs=>PySem.call f vs):=by
 intro w s₀ s₁ mg mb G Y fa o pm cd im dV kV ho hd kt hD hmg hg args lw as Cj hlay hrd Cu hlo
 obtain rfl:dV=.none:=Dflts.none hD Se
 obtain rfl:kV=.none:=Dflts.noKw hD
 obtain⟨a,vs,ns,rfl,rfl,hobj,hints,dH⟩:=Bd hn Cj Cu
 refine enter_call (hG (call w s₀ s₁ mg mb fa o pm cd im a vs ns G Y ho (fd_plain hd) kt hmg hobj hints dH hg) fun r s' hq=>?_)
 obtain⟨rfl,h2,h3,h4⟩:=hq
 exact⟨.inl ⟨.bool true,.bool true,[],rfl,fun _=>rfl,.bool true,Be l _,fun _=>⟨List.Pairwise.nil,fun _ hm=>(nomatch hm)⟩⟩,h2,h3,h4⟩
section
variable{w:World}
end
end Att
namespace L2
open PySem PySem.Spec PyProof.Rows
theorem tY:∀{vs:List Value} {ns:List Int},IntsAre vs ns->b8 (ns.map V.int) vs
 |_,_,.nil=>.nil
 |_,_,.cons n t h=>.cons ⟨t,rfl⟩ (tY h)
def dA(s:Stmt):Arguments:=match s with
 |.FunctionDef _ a _ _ _ _ _ _ _ _=>a
 |_=>{ posonlyargs:=[],args:=[],vararg:=none,kwonlyargs:=[],kw_defaults:=[],kwarg:=none,defaults:=[] }
def dB(s:Stmt):List Stmt:=match s with
 |.FunctionDef _ _ b _ _ _ _ _ _ _=>b
 |_=>[]
def aV(s:Stmt):Scope:=match s with
 |.FunctionDef _ _ _ _ _ _ sc _ _ _=>sc
 |_=>{ kind:=.function,names:=[],isGenerator:=false,isCoroutine:=false }
structure kS(K:Frag)(x qual:Str)(st:Stmt)(f:Addr)(fd:FuncData):Prop where
 ex:∃(oc:Value) (od:Option Addr) (kV im pm:Value) (an:Option Addr) (gq ct:Value) (JX:Array (Option Value)),
  fd=fnOf x qual (dA st) (dB st) (aV st) .none kV im pm an gq ct/\K.lookup f=some ⟨oc,od,.func fd,JX⟩/\codeIn K gq qual=true
 kp:keepIn K (.ref f)=true
section
variable{w:World}
theorem kS.binds{st:Stmt}(F:kS K x qual st f fd)
  (h:∀(kV im pm:Value) (an:Option Addr) (gq ct:Value) (us:List Value),us.length=ps.length->bindArgs (fnOf x qual (dA st) (dB st) (aV st) .none kV im pm an gq ct) ⟨us,[]⟩=pure (ps.zip us)):ww K fd ps []:=by
 obtain⟨oc,od,kV,im,pm,an,gq,ct,JX,rfl,lk,kt⟩:=F.ex
 exact .all (h kV im pm an gq ct)
theorem uY{st:Stmt}{oc:Value}{od an:Option Addr}{JX:Array (Option Value)}{kV im pm gq ct:Value}(l:K.lookup f=some ⟨oc,od,.func (fnOf x qual (dA st) (dB st) (aV st) .none kV im pm an gq ct),JX⟩)
  (c:codeIn K gq qual=true) (k:keepIn K (.ref f)=true):kS K x qual st f (fnOf x qual (dA st) (dB st) (aV st) .none kV im pm an gq ct):=⟨⟨oc,od,kV,im,pm,an,gq,ct,JX,rfl,l,c⟩,k⟩
end
theorem zR{k:Nat}(hr:f' k A):A.units+1<cLine:=jA (Nat.add_le_add_left (by decide:1<=64) _) hr.units
section
theorem pv(i:Nat){pos:Pos}(hN:X.N[i]?=some x:=by rfl)(hv:Nv X.env.scope x:=by first|exact Or.inl rfl|exact Or.inr (Or.inl rfl)|exact Or.inr (Or.inr rfl))(hd:(x==("__debug__":Str))=false:=by decide)
  (kt:(x==("__classdict__":Str))=false:=by decide):PE X (.Name x pos) (NN i):=Kb hN hv hd kt
end
def m9(H H':Hp):Prop:=∀b o,H b=some o->H' b=some o
theorem m9.refl(H:Hp):m9 H H:=fun _ _ h=>h
section
variable{κ:Type}[DecidableEq κ]
def jg(kvs:List (κ×V))(k:κ):Option V:=(kvs.find? fun kv=>decide (kv.1=k)).map (·.2)
def lY(kvs:List (κ×V))(k:κ)(v:V):List (κ×V):=
 if (kvs.any fun kv=>decide (kv.1=k))=true then kvs.map (fun kv=>if kv.1=k then(kv.1,v)else kv)else kvs++[(k,v)]
def lM(kvs:List (κ×V))(k:κ):List (κ×V):=kvs.filter fun kv=>decide (kv.1≠k)
theorem mf{p:κ×V}{r:List (κ×V)}{k:κ}(e:p.1=k):jg (p::r) k=some p.2:=by simp[jg,bz,e]
theorem nY{p:κ×V}{r:List (κ×V)}{k:κ}(e:¬ p.1=k):jg (p::r) k=jg r k:=by simp[jg,bz,e]
theorem wC(k:κ):∀kvs:List (κ×V),(kvs.any fun kv=>decide (kv.1=k))=(jg kvs k).isSome
 |[]=>rfl
 |p::r=>by
  rw[ny]
  by_cases e:p.1=k
  ·simp only[mf e,bp e,Bool.true_or,Option.isSome_some]
  ·rw[nY e,a7 e,Bool.false_or];exact wC k r
theorem mh(kvs:List (κ×V))(k:κ)(v:V):(lY kvs k v).length<=kvs.length+1:=by
 unfold lY
 split
 ·rw[aj];omega
 ·rw[aI,bu,dw];omega
theorem m8.isSome_eq{o:Option V}{u:Option Value}(r:m8 o u):o.isSome=u.isSome:=by
 cases o with
 |none=>cases u with
  |none=>rfl
  |some _=>exact(show False from r).elim
 |some _=>cases u with
  |none=>exact(show False from r).elim
  |some _=>rfl
theorem m8.getD{o:Option V}{u:Option Value}{d:V}{d':Value}(r:m8 o u)(rd:bF d d'):bF (o.getD d) (u.getD d'):=by
 cases o with
 |none=>cases u with
  |none=>exact rd
  |some _=>exact(show False from r).elim
 |some _=>cases u with
  |none=>exact(show False from r).elim
  |some _=>exact r
theorem KV.val{kvs:List (κ×V)}{vs:List (κ×Value)}(r:KV kvs vs)(k:κ):m8 (jg kvs k) (valueAt vs k):=by
 unfold KV at r
 induction r with
 |nil=>exact True.intro
 |@cons p q ps qs h t ih=>
  obtain⟨h1,h2⟩:=h
  by_cases e:p.1=k
  ·have e':q.1=k:=h1.symm.trans e
   have b:valueAt (q::qs) k=some q.2:=by simp[valueAt,bz,e']
   rw[mf e,b];exact h2
  ·have e':¬ q.1=k:=fun z=>e (h1.trans z)
   have b:valueAt (q::qs) k=valueAt qs k:=by simp[valueAt,bz,e']
   rw[nY e,b];exact ih
theorem KV.any{kvs:List (κ×V)}{vs:List (κ×Value)}(r:KV kvs vs)(k:κ):(kvs.any fun kv=>decide (kv.1=k))=vs.any fun kv=>decide (kv.1=k):=by
 unfold KV at r
 induction r with
 |nil=>rfl
 |cons h t ih=>rw[ny,ny,ih,h.1]
theorem KV.repl{kvs:List (κ×V)}{vs:List (κ×Value)}(r:KV kvs vs)(k:κ)(ry:bF y u) :
  KV (kvs.map fun kv=>if kv.1=k then(kv.1,y)else kv) (vs.map fun kv=>if kv.1=k then(kv.1,u)else kv):=by
 unfold KV at r ⊢
 induction r with
 |nil=>exact .nil
 |@cons p q ps qs h t ih=>
  rw[aC,aC]
  refine .cons ?_ ih
  obtain⟨h1,h2⟩:=h
  by_cases e:p.1=k
  ·rw[aw e,aw (h1.symm.trans e)];exact⟨h1,ry⟩
  ·rw[aD e,aD (fun z=>e (h1.trans z))];exact⟨h1,h2⟩
theorem KV.put{kvs:List (κ×V)}{vs:List (κ×Value)}(r:KV kvs vs)(k:κ)(ry:bF y u):KV (lY kvs k y) (stored vs k u):=by
 unfold lY stored
 rw[r.any k]
 by_cases e:(vs.any fun kv=>decide (kv.1=k))=true
 ·rw[aw e,aw e];exact r.repl k ry
 ·rw[aD e,aD e];exact Paired.snoc r ⟨rfl,ry⟩
theorem KV.drop{kvs:List (κ×V)}{vs:List (κ×Value)}(r:KV kvs vs)(k:κ):KV (lM kvs k) (without vs k):=by
 unfold KV at r ⊢
 unfold lM without
 induction r with
 |nil=>exact .nil
 |@cons p q ps qs h t ih=>
  obtain⟨h1,h2⟩:=h
  rw[cJ,cJ]
  by_cases e:p.1=k
  ·have a:¬ decide (p.1≠k)=true:=by simp[e]
   have b:¬ decide (q.1≠k)=true:=by simp[h1.symm.trans e]
   rw[aD a,aD b];exact ih
  ·have e':¬ q.1=k:=fun z=>e (h1.trans z)
   have a:decide (p.1≠k)=true:=by simp[e]
   have b:decide (q.1≠k)=true:=by simp[e']
   rw[aw a,aw b];exact .cons ⟨h1,h2⟩ ih
theorem KV.keys{kvs:List (κ×V)}{vs:List (κ×Value)}(r:KV kvs vs):kvs.map (·.1)=vs.map (·.1):=by
 unfold KV at r
 induction r with
 |nil=>rfl
 |cons h t ih=>rw[aC,aC,ih,h.1]
theorem KV.length{kvs:List (κ×V)}{vs:List (κ×Value)}(r:KV kvs vs):kvs.length=vs.length:=Paired.length r
theorem CM(kvs:List (κ×V))(k:κ):(lM kvs k).length<=kvs.length:=ii _ _
end
theorem pX{w:World}{k:fK}(r:bF (kV k) u):(dM P w).is k u=true:=by
 cases k with
 |inl i=>obtain⟨t,e⟩:=(show ∃t,u=Value.int i t from r);subst e;exact wj P w i t
 |inr x=>obtain⟨t,e⟩:=(show ∃t,u=Value.str x t from r);subst e;exact wm P w x t
theorem tZ{w:World}:∀{ks:List fK} {us:List Value},b8 (ks.map kV) us->ItemsAre (dM P w) ks us
 |[],_,r=>by rw[dk]at r;cases r;exact .nil
 |k::ks,_,r=>by
  rw[aC]at r
  cases r with
  |cons h t=>exact .cons (pX h) (tZ t)
abbrev KT(H:Hp):List (List fK×V)->List (List fK×Addr×Value)->Prop:=Paired fun p q=>p.1=q.1/\H q.2.1=some (.tup (p.1.map kV))/\bF p.2 q.2.2
theorem KT.val{kvs:List (List fK×V)}(r:KT H kvs xs)(k:List fK):m8 (jg kvs k) ((atKey xs k).map (·.2)):=by
 induction r with
 |nil=>exact True.intro
 |@cons p q ps qs h t ih=>
  obtain⟨h1,_,h2⟩:=h
  by_cases e:p.1=k
  ·have e':q.1=k:=h1.symm.trans e
   have b:atKey (q::qs) k=some q.2:=by simp[atKey,bz,e']
   rw[mf e,b];exact h2
  ·have e':¬ q.1=k:=fun z=>e (h1.trans z)
   have b:atKey (q::qs) k=atKey qs k:=by simp[atKey,bz,e']
   rw[nY e,b];exact ih
theorem KT.repl{kvs:List (List fK×V)}(r:KT H kvs xs)(k:List fK)(ry:bF y u) :
  KT H (kvs.map fun kv=>if kv.1=k then(kv.1,y)else kv) (xs.map (putAt k u)):=by
 induction r with
 |nil=>exact .nil
 |@cons p q ps qs h t ih=>
  rw[aC,aC]
  refine .cons ?_ ih
  obtain⟨h1,h2,h3⟩:=h
  unfold putAt
  by_cases e:p.1=k
  ·rw[aw e,aw (h1.symm.trans e)];exact⟨h1,h2,ry⟩
  ·rw[aD e,aD (fun z=>e (h1.trans z))];exact⟨h1,h2,h3⟩
theorem KT.put{kvs:List (List fK×V)}(r:KT H kvs xs)(k:List fK)(hb:H b=some (.tup (k.map kV)))(ry:bF y u) :
  KT H (lY kvs k y) (storedH xs k b u):=by
 have e:(kvs.any fun kv=>decide (kv.1=k))=(atKey xs k).isSome:=by
  rw[wC,(r.val k).isSome_eq,jU]
 unfold lY storedH
 rw[e]
 by_cases q:(atKey xs k).isSome=true
 ·rw[aw q,aw q];exact r.repl k ry
 ·rw[aD q,aD q];exact Paired.snoc r ⟨rfl,hb,ry⟩
theorem KT.keeps{kvs:List (List fK×V)}(r:KT H kvs xs)(ht:∀b ys,H b=some (.tup ys)->H' b=some (.tup ys)):KT H' kvs xs:=
 Paired.mapP r fun _ _ z=>⟨z.1,ht _ _ z.2.1,z.2.2⟩
section
variable{w:World}
theorem IG{u:HO}(ok:jK P w H h)(e:Rd H a u):dU P w H h a u:=e.ok ok
theorem mi{kvs:List (fK×V)}(ok:jK P w H h)(e:Rd H a (.dK kvs)):kvs.length<=sizeLine/\(a==sysModules)=false/\∃vs,KV kvs vs/\h.DictOf (dM P w) a vs:=
 show dU P w H h a (.dK kvs)from IG ok e
theorem zS{kvs:List (fK×V)}(ok:jK P w H h)(e:H a=some (.dK kvs)):kvs.length<=sizeLine/\(a==sysModules)=false/\∃vs,KV kvs vs/\h.DictOf (dM P w) a vs:=mi ok (.inl e)
theorem qX{ks:List fK}(ok:jK P w H h)(e:H a=some (.tup (ks.map kV))):(tupleKind (dM P w)).is h ks a:=by
 obtain⟨_,bw,r,o,h1,h2,n,h3⟩:=(show dU P w H h a (.tup (ks.map kV))from ok a _ e)
 exact⟨o,bw.toArray,n,h1,h2,h3,by simpa using tZ r⟩
theorem t5{kvs:List (List fK×V)}(ok:jK P w H h)(e:Rd H a (.dT kvs)):kvs.length<=sizeLine/\(a==sysModules)=false /\
  ∃xs,KT H kvs xs/\h.DictOfH (tupleKind (dM P w)) a xs:=by
 obtain⟨z,y,xs,r,o,es,ep,h1,h2,h3,h4,h5⟩:=(show dU P w H h a (.dT kvs)from IG ok e)
 refine⟨z,y,xs,r,o,es,ep,h1,h2,h3,h4,fun x hx=>?_,h5⟩
 have all:∀{l:List (List fK×V)} {m:List (List fK×Addr×Value)},KT H l m->∀x∈m,(tupleKind (dM P w)).is h x.1 x.2.1:=by
  intro l m q
  induction q with
  |nil=>intro x hx;exact nomatch hx
  |@cons p q ps qs hq t ih=>
   intro x hx
   rcases aJ.mp hx with e|hx
   ·subst e
    exact qX ok (by rw[<- hq.1];exact hq.2.1)
   ·exact ih x hx
 exact all r x hx
theorem On{kvs:List (List fK×V)}(ok:jK P w H h)(e:H a=some (.dT kvs)):kvs.length<=sizeLine/\(a==sysModules)=false /\
  ∃xs,KT H kvs xs/\h.DictOfH (tupleKind (dM P w)) a xs:=t5 ok (.inl e)
end
def qo(H:Hp)(a:Addr)(y:V)(r:Option V):Prop:=
 (∃kvs k,Rd H a (.dK kvs)/\y=kV k/\r=jg kvs k)\/∃kvs k b,Rd H a (.dT kvs)/\y=.ref b/\H b=some (.tup (k.map kV))/\r=jg kvs k
def GG(H:Hp)(a:Addr)(y v:V)(H':Hp):Prop:=
 (∃kvs k,H a=some (.dK kvs)/\y=kV k/\kvs.length<sizeLine/\H'=dY H a (.dK (lY kvs k v))) \/
 ∃kvs k b,H a=some (.dT kvs)/\y=.ref b/\H b=some (.tup (k.map kV))/\kvs.length<sizeLine/\H'=dY H a (.dT (lY kvs k v))
theorem GG.k{kvs:List (fK×V)}{k:fK}(e:H a=some (.dK kvs))(hl:kvs.length<sizeLine):GG H a (kV k) v (dY H a (.dK (lY kvs k v))):=.inl ⟨kvs,k,e,rfl,hl,rfl⟩
section
variable{r:Value}{o:Option V}
theorem bj.big(I:bj X pins σ H s):sysModules<s.heap.objs.size:=by
 have h:mainGlobals<s.heap.objs.size:=(I.mod.glob.keeps I.bk).lt
 exact o_ (by decide) h
theorem Bf(hu:A.units+1<cLine)(I:bj X pins σ H s)(g:qo H a y (some v))(ry:bF y u)(h:∀w' s',bj X pins σ H s'->bF v w'->Q w' s') :
  wpAny (model X.prog X.w) A (getItem (.ref a) u) Q E s:=by
 rcases g with⟨kvs,k,e,ey,l⟩|⟨kvs,k,b,e,ey,eb,l⟩
 ·subst ey
  obtain⟨z,hd,vs,h_,dd⟩:=mi I.hok e
  obtain⟨w',hw,jL⟩:=m8.some_of (v:=v) (o:=valueAt vs k) (by rw[l];exact h_.val k)
  exact kN (pX ry) dd.mapOf hw (h w' _ (I.tok _) jL)
 ·subst ey
  cases(show u=Value.ref b from ry)
  obtain⟨z,hd,xs,h_,dd⟩:=t5 I.hok e
  obtain⟨w',hw,jL⟩:=m8.some_of (v:=v) (o:=(atKey xs k).map (·.2)) (by rw[l];exact h_.val k)
  obtain⟨p,hp,hp2⟩:=aY.mp hw
  refine wpAny_getItem_heap (gJ hu) (qX I.hok eb) dd hp ?_
  rw[hp2]
  exact h w' _ (I.tok _) jL
theorem GH(hu:A.units+1<cLine)(I:bj X pins σ H s)(g:qo H a y o)(ry:bF y u)(h:∀s',bj X pins σ H s'->Q (.bool (!o.isSome)) s') :
  wpAny (model X.prog X.w) A (compareOp .NotIn u (.ref a)) Q E s:=by
 rcases g with⟨kvs,k,e,ey,l⟩|⟨kvs,k,b,e,ey,eb,l⟩
 ·subst ey
  obtain⟨z,hd,vs,h_,dd⟩:=mi I.hok e
  refine wpAny_notIn_of (pX ry) hd dd.mapOf ?_
  rw[<- (h_.val k).isSome_eq,<- l]
  exact h _ (I.tok _)
 ·subst ey
  cases(show u=Value.ref b from ry)
  obtain⟨z,hd,xs,h_,dd⟩:=t5 I.hok e
  refine wpAny_notIn_heap (gJ hu) (qX I.hok eb) hd dd ?_
  have q:=(h_.val k).isSome_eq
  rw[jU]at q
  rw[<- q,<- l]
  exact h _ (I.tok _)
theorem mP{t':Nat}{ob:HO}(I:bj X pins σ H s)(mu:Ka (H a))(hs:Heap.SameBut a s.heap h')(he:∃q,h'.get? a=some q)(new:dU X.prog X.w (dY H a ob) h' a ob) :
  bj X pins σ (dY H a ob) { s with heap:=h',toks:=t' }:=
 I.write (x:=a) (e:=a) mu (.inl rfl) (fun b q hb z=>(hs.2 b hb).trans z) he new
theorem yv{w:World}{kvs:List (fK×V)}{vs:List (fK×Value)}(z:kvs.length<=sizeLine)(hd:(a==sysModules)=false)(h_:KV kvs vs)(dd:h'.DictOf (dM P w) a vs) :
  dU P w H' h' a (.dK kvs):=⟨z,hd,vs,h_,dd⟩
theorem Bg{Q:Unit->Shared->Prop}(hu:A.units+1<cLine)(I:bj X pins σ H s)(g:GG H a y v H')(ry:bF y u)(rv:bF v r)(h:∀s',bj X pins σ H' s'->Q () s') :
  wpAny (model X.prog X.w) A (setItem (.ref a) u r) Q E s:=by
 rcases g with⟨kvs,k,e,ey,l,eH⟩|⟨kvs,k,b,e,ey,eb,l,eH⟩
 ·subst ey eH
  obtain⟨z,hd,vs,h_,dd⟩:=zS I.hok e
  have hz:vs.length<=sizeLine:=by rw[<- h_.length];exact z
  have hl:(lY kvs k v).length<=sizeLine:=by have:=mh kvs k v;omega
  refine wpAny_setItem_pairs (hsz:=hz) (pX ry) dd fun h' dd' hs=>h _ ?_
  have he:∃q,h'.get? a=some q:=let ⟨q,_,_,hq,_⟩:=dd';⟨q,hq⟩
  exact mP I (by rw[e];exact True.intro) hs he (yv hl hd (h_.put k rv) dd')
 ·subst ey eH
  cases(show u=Value.ref b from ry)
  obtain⟨z,hd,xs,h_,dd⟩:=On I.hok e
  have hz:xs.length<=sizeLine:=by rw[<- Paired.length h_];exact z
  have hl:(lY kvs k v).length<=sizeLine:=by have:=mh kvs k v;omega
  refine wpAny_setItem_heap (hsz:=hz) (gJ hu) (qX I.hok eb) dd fun h' dd' hs=>h _ ?_
  obtain⟨q,es,ep,hq,h2,h3,h4,_,h5⟩:=dd'
  refine mP I (by rw[e];exact True.intro) hs ⟨q,hq⟩ ⟨hl,hd,_,(h_.put k eb rv).keeps fun c ys ec=>?_,q,es,ep,hq,h2,h3,h4,h5⟩
  rw[bX (NM ec e (fun z=>nomatch z))]
  exact ec
end
section
variable{kvs:List (fK×V)}{k:fK}
theorem Oo{jw:List Value}(I:bj X pins σ H s)(e:H a=some (.dK kvs))(ry:bF (kV k) u)(l:jg kvs k=some v)(hm:jw=[]\/∃x,jw=[x])
  (h:∀w' s',bj X pins σ (dY H a (.dK (lM kvs k))) s'->bF v w'->Q w' s'):wpAny (model X.prog X.w) A (call (.builtin "dict.pop") (.ref a::u::jw)) Q E s:=by
 obtain⟨z,hd,vs,h_,dd⟩:=zS I.hok e
 obtain⟨w',hw,jL⟩:=m8.some_of (v:=v) (o:=valueAt vs k) (by rw[<- l];exact h_.val k)
 have hp:(keyPart u).isSome=true:=by
  cases k with
  |inl i=>obtain⟨t,q⟩:=(show ∃t,u=Value.int i t from ry);subst q;rfl
  |inr x=>obtain⟨t,q⟩:=(show ∃t,u=Value.str x t from ry);subst q;rfl
 have ha:argsOk "dict.pop" ⟨.ref a::u::jw,[]⟩:=by
  rcases hm with q|⟨x,q⟩
  ·subst q;exact PySem.F.args_dict_pop_2 _ _
  ·subst q;exact PySem.F.args_dict_pop_3 _ _ _
 refine hJ PySem.F.slot_dict_pop dd.typeIs PySem.F.entry_dict_pop ha (meets_dict_pop_there (dM X.prog X.w) a (pX ry) jw hm hp)
  ⟨vs,w',dd,by rw[<- h_.length];exact z,hw,fun h' dd' hs=>h w' _ ?_ jL⟩
 have he:∃q,h'.get? a=some q:=let ⟨q,_,_,hq,_⟩:=dd';⟨q,hq⟩
 exact mP I (by rw[e];exact True.intro) hs he (yv (be (CM kvs k) z) hd (h_.drop k) dd')
theorem Op(I:bj X pins σ H s)(e:Rd H a (.dK kvs))(h:∀t s',bj X pins σ H s'->Q (.int kvs.length t) s'):wpAny (model X.prog X.w) A (call (.builtin "len") [.ref a]) Q E s:=by
 obtain⟨z,hd,vs,h_,dd⟩:=mi I.hok e
 refine call_len_dict hd dd (by rw[<- h_.length];rw[jT]at z;omega) ?_
 rw[<- h_.length]
 exact h _ _ (I.tok _)
end
def CN(i:Expr):Prop:=∀ov iv,subscripted i false ov iv=operate [ov,iv] (getItem ov iv)
theorem uZ{w:World}{value slice:Expr}{T:String}
  (hl:typeLookup (.type T) "__getitem__"=pure (some (.builtin id))) (hs:CN slice)
  (h:wpAny (model prog w) A (eval value env) (fun o s₁=>wpAny (model prog w) A (eval slice env) (fun i s₂=>s₂.TypeIs o T/\wpAny (model prog w) A (getItem o i) Q E s₂) E s₁) E s) :
  wpAny (model prog w) A (eval (.Subscript value slice pos) env) Q E s:=by
 refine Subscript_ (dJ h (fun o s₁ h₁=>dJ h₁ (fun i s₂ h₂=>?_) fun _ _ x=>x) fun _ _ x=>x)
 obtain⟨hT,h₂⟩:=h₂
 unfold subscriptTail
 refine af ?_
 rw[getitemInPython_of_ne hT.not_modules]
 refine af (eQ hT hl ?_)
 have fin:wpAny (model prog w) A (subscripted slice false o i) (fun r s₃=>wpAny (model prog w) A (letTemporaryGo value o r >>= fun _=>pure r) Q E s₃) E s₂:=by
  rw[hs o i]
  exact wpAny_operating (dJ h₂ (fun r s₃ h₃=>af (wpAny_letTemporaryGo (au h₃))) fun _ _ x=>x)
 first
  |exact au (af fin)
  |exact af (au (af fin))
  |exact af fin
theorem wD{o:Option V}(I:bj X pins σ H s)(g:qo H a y o):s.TypeIs (.ref a) "dict":=by
 rcases g with⟨kvs,k,e,_,_⟩|⟨kvs,k,b,e,_,_,_⟩
 ·obtain⟨_,_,vs,_,dd⟩:=mi I.hok e
  exact dd.typeIs
 ·obtain⟨_,_,xs,_,dd⟩:=t5 I.hok e
  exact dd.typeIs
def Oq(td ty:TE):TE:=fun σ H Q=>td σ H fun x H1=>ty σ H1 fun y H2=>∃a v,x=.ref a/\qo H2 a y (some v)/\Q v H2
section
variable{o i value:Expr}{Sw:Pos}{td ty tv:TE}
theorem GI(hu:X.A.units+1<cLine)(ho:PE X o td)(hi:PE X i ty)(hs:CN i):PE X (.Subscript o i pos) (Oq td ty):=by
 intro pins s σ H Q I h
 refine uZ PySem.F.slot_dict_getitem.lookup hs (fI (ho pins s σ H _ I h) fun u s1 ⟨x,H1,I1,rx,q1⟩=>fI (hi pins s1 σ H1 _ I1 q1) fun iv s2 ⟨y,H2,I2,ry,a,v,ex,g,q2⟩=>?_)
 subst ex
 obtain rfl:u=Value.ref a:=rx
 exact⟨wD I2 g,Bf hu I2 g ry fun w' s3 I3 jL=>⟨v,H2,I3,jL,q2⟩⟩
end
theorem wE{w:World}(h:Heap)(hb:sysModules<h.objs.size):dU P w H (h.push { cls:=.type "dict",data:=.dict #[] }) h.objs.size (.dK []):=
 ⟨cM _,a8.mpr (Ne.symm (bt hb)),[],.nil,Heap.DictOf.new h⟩
def KO:TE:=fun _ H Q=>∀p,H p=none->Q (.ref p) (dY H p (.dK []))
section
theorem CO:PE X (.Dict [] [] pos) KO:=fun pins s σ H Q I h=>
 wpAny_Dict_empty ⟨.ref s.heap.objs.size,_,I.laid (a:=s.heap.objs.size) (o:=.dK []) (t':=s.toks) (fun _ _ q=>ao _ q) (av _) (wE s.heap I.big),rfl,h _ (I.hok.fresh (av _))⟩
end
def u0:List (TE×TE)->St->Hp->(List (V×V)->Hp->Prop)->Prop
 |[],_,H,Q=>Q [] H
 |(tk,tv)::r,σ,H,Q=>tk σ H fun x H1=>tv σ H1 fun y H2=>u0 r σ H2 fun ps H3=>Q ((x,y)::ps) H3
abbrev VV:List (V×V)->List (Value×Value)->Prop:=Paired fun p q=>bF p.1 q.1/\bF p.2 q.2
def Os(X:Cx)(pos:Pos)(keys:List (Option Expr))(jx:List Expr)(zv:List (TE×TE)):Prop:=
 ∀(pins:List (Addr×Obj)) (s:Shared) (σ:St) (H:Hp) (Q:List (V×V)->Hp->Prop),bj X pins σ H s->u0 zv σ H Q ->
  wpAny (model X.prog X.w) X.A (evalPairs (pairTrees keys jx X.env pos)) (fun vs s'=>∃ps H',bj X pins σ H' s'/\VV ps vs/\Q ps H') X.xe s
theorem GJ:Os X pos [] [] []:=fun pins s σ H Q I h=>pairTrees_nil_walk ⟨[],H,I,.nil,h⟩
theorem CP{k v:Expr}{vs:List Expr}{tk tv:TE}{zv:List (TE×TE)}(hk:PE X k tk)(hv:PE X v tv)(hr:Os X pos ks vs zv) :
  Os X pos (some k::ks) (v::vs) ((tk,tv)::zv):=fun pins s σ H Q I h=>
 pairTrees_cons_walk (fI (hk pins s σ H _ I h) fun u s1 ⟨x,H1,I1,rx,q1⟩=>fI (hv pins s1 σ H1 _ I1 q1) fun w2 s2 ⟨y,H2,I2,ry,q2⟩=>
  fI (hr pins s2 σ H2 _ I2 q2) fun ws s3 ⟨ps,H3,I3,h_,q3⟩=>⟨(x,y)::ps,H3,I3,.cons ⟨rx,ry⟩ h_,q3⟩)
def mj(kvs jw:List (fK×V)):List (fK×V):=jw.foldl (fun acc kv=>lY acc kv.1 kv.2) kvs
theorem KV.merge:∀{jw:List (fK×V)} {rs:List (fK×Value)} {kvs:List (fK×V)} {vs:List (fK×Value)},KV jw rs->KV kvs vs->KV (mj kvs jw) (merged vs rs):=by
 intro jw rs kvs vs r
 unfold KV at r
 induction r generalizing kvs vs with
 |nil=>intro q;exact q
 |@cons p q ps qs h t ih=>
  intro r0
  have e:KV (lY kvs p.1 p.2) (stored vs q.1 q.2):=by
   have:=r0.put p.1 h.2
   rw[<- h.1];exact this
  exact ih e
theorem ni:∀(jw kvs:List (fK×V)),(mj kvs jw).length<=kvs.length+jw.length
 |[],kvs=>by show kvs.length<=kvs.length+0;omega
 |p::r,kvs=>by
  have h1:=ni r (lY kvs p.1 p.2)
  have h2:=mh kvs p.1 p.2
  show(mj (lY kvs p.1 p.2) r).length<=_
  rw[bu];omega
theorem qY{P:Program}{w:World}:∀{kvs:List (fK×V)} {ws:List (Value×Value)},VV (kvs.map fun kv=>(kV kv.1,kv.2)) ws->∃rs,Carries (dM P w) ws rs/\KV kvs rs
 |[],_,r=>by rw[dk]at r;cases r;exact⟨[],True.intro,.nil⟩
 |p::kvs,_,r=>by
  rw[aC]at r
  cases r with
  |@cons a b as bs h t=>
   obtain⟨rs,c,q⟩:=qY (P:=P) (w:=w) t
   obtain⟨b1,b2⟩:=b
   exact⟨(p.1,b2)::rs,⟨pX h.1,rfl,c⟩,.cons ⟨rfl,h.2⟩ q⟩
def Ot(zv:List (TE×TE)):TE:=fun σ H Q=>∀p,H p=none->u0 zv σ (dY H p (.dK [])) fun ps H2=>H2 p=some (.dK [])/\∃kvs:List (fK×V),ps=kvs.map (fun kv=>(kV kv.1,kv.2))/\kvs.length<=15/\Q (.ref p) (dY H2 p (.dK (mj [] kvs)))
theorem GK{keys:List (Option Expr)}{jx:List Expr}{zv:List (TE×TE)}(h:Os X pos keys jx zv)(lZ:keys.all (·.isSome)=true)(hl:keys.length=jx.length)(h0:keys≠[])
  (Sg:keys.length<=15):PE X (.Dict keys jx pos) (Ot zv):=by
 intro pins s σ H Q I q
 have hn:=I.hok.fresh (av s.heap.objs.size)
 have I1:=I.laid (a:=s.heap.objs.size) (o:=.dK []) (h':=s.heap.push { cls:=.type "dict",data:=.dict #[] }) (t':=s.toks) (fun _ _ q=>ao _ q) (av _) (wE s.heap I.big)
 refine wpAny_Dict_walk (knd:=dM X.prog X.w) lZ hl h0 Sg (fI (h pins _ σ _ _ I1 (q _ hn)) fun ws s2 ⟨ps,H2,I2,h_,e,kvs,ep,lk,q2⟩=>?_)
 subst ep
 obtain⟨rs,c,rk⟩:=qY (P:=X.prog) (w:=X.w) h_
 obtain⟨z,hd,vs0,r0,dd⟩:=zS I2.hok e
 cases r0
 refine⟨rs,c,dd,fun h' dd' hs=>⟨.ref s.heap.objs.size,_,?_,rfl,q2⟩⟩
 have hz:(mj [] kvs).length<=sizeLine:=by
  have h1:=ni kvs []
  rw[dw]at h1
  rw[jT];omega
 have he:∃q,h'.get? s.heap.objs.size=some q:=let ⟨q,_,_,hq,_⟩:=dd';⟨q,hq⟩
 exact mP I2 (by rw[e];exact True.intro) hs he (yv hz hd (rk.merge .nil) dd')
structure M1(X:Cx)(o:Expr)(m:Str)(fq:Pos)(e:Expr)(cX:Pos):Prop where
 base:attributeBase o m X.env (eval o X.env)=eval o X.env
 few:((backTo cX (starEach [e] X.env)).all (fun x=>!x.1)&&(backToKw cX (keywordEach [] X.env)).all (fun x=>x.1.isSome)
  && decide (([e]:List Expr).length+([]:List Keyword).length+(if ([]:List Keyword).isEmpty then 0 else 1)<30))=true
 line:(fq.endLine==cX.line)=true
 trees:backTo cX (starEach [e] X.env)=[(false,eval e X.env)]
structure M2(X:Cx)(o:Expr)(m:Str)(fq:Pos)(e f:Expr)(cX:Pos):Prop where
 base:attributeBase o m X.env (eval o X.env)=eval o X.env
 few:((backTo cX (starEach [e,f] X.env)).all (fun x=>!x.1)&&(backToKw cX (keywordEach [] X.env)).all (fun x=>x.1.isSome)
  && decide (([e,f]:List Expr).length+([]:List Keyword).length+(if ([]:List Keyword).isEmpty then 0 else 1)<30))=true
 line:(fq.endLine==cX.line)=true
 trees:backTo cX (starEach [e,f] X.env)=[(false,eval e X.env),(false,eval f X.env)]
def RN(H:Hp)(a:Addr):Prop:=(∃kvs,Rd H a (.dK kvs))\/∃kvs,Rd H a (.dT kvs)
theorem CQ(I:bj X pins σ H s)(d:RN H a) :
  s.TypeIs (.ref a) "dict"/\(∀b,Value.ref a=.ref b->∃ob,s.heap.get? b=some ob/\ob.dict=none)/\(a==sysModules)=false:=by
 rcases d with⟨kvs,e⟩|⟨kvs,e⟩
 ·obtain⟨_,hd,vs,_,dd⟩:=mi I.hok e
  refine⟨dd.typeIs,fun b q=>?_,hd⟩
  cases q
  obtain⟨ob,_,_,h1,h2,_⟩:=dd
  exact⟨ob,h1,h2.2.1⟩
 ·obtain⟨_,hd,xs,_,dd⟩:=t5 I.hok e
  refine⟨dd.typeIs,fun b q=>?_,hd⟩
  cases q
  obtain⟨ob,_,_,h1,h2,_⟩:=dd
  exact⟨ob,h1,h2.2.1⟩
section
variable{d:V}{r:Value}{o:Option V}
theorem KP(hu:A.units+1<cLine)(I:bj X pins σ H s)(g:qo H a y o)(ry:bF y u)(rd:bF d r)(h:∀w' s',bj X pins σ H s'->bF (o.getD d) w'->Q w' s') :
  wpAny (model X.prog X.w) A (call (.builtin "dict.get") [.ref a,u,r]) Q E s:=by
 rcases g with⟨kvs,k,e,ey,l⟩|⟨kvs,k,b,e,ey,eb,l⟩
 ·subst ey
  obtain⟨z,hd,vs,h_,dd⟩:=mi I.hok e
  refine hJ PySem.F.slot_dict_get dd.typeIs PySem.F.entry_dict_get (PySem.F.args_dict_get_3 _ _ _) (meets_dict_get_default (dM X.prog X.w) a (pX ry) hd r) ⟨_,dd.mapOf,h _ _ (I.tok _) ?_⟩
  rw[l]
  exact(h_.val k).getD rd
 ·subst ey
  cases(show u=Value.ref b from ry)
  obtain⟨z,hd,xs,h_,dd⟩:=t5 I.hok e
  refine hJ PySem.F.slot_dict_get dd.typeIs PySem.F.entry_dict_get (PySem.F.args_dict_get_3 _ _ _) (meetsH_dict_get_default (tupleKind (dM X.prog X.w)) a b hd r) ⟨gJ hu,k,xs,qX I.hok eb,dd,h _ _ (I.tok _) ?_⟩
  rw[l]
  exact(h_.val k).getD rd
end
def KQ(td ty tx:TE):TE:=fun σ H Q=>td σ H fun x H1=>∃a,x=.ref a/\RN H1 a/\ty σ H1 fun y H2=>tx σ H2 fun z H3=>∃o,qo H3 a y o/\Q (o.getD z) H3
def KR(td ty:TE):TE:=fun σ H Q=>td σ H fun x H1=>∃a,x=.ref a/\RN H1 a/\ty σ H1 fun y H2=>∃kvs k v,H2 a=some (.dK kvs)/\y=kV k/\jg kvs k=some v/\Q v (dY H2 a (.dK (lM kvs k)))
section
variable{o f:Expr}{td ty tx:TE}
theorem CS(hu:X.A.units+1<cLine)(ho:PE X o td)(he:PE X e ty)(hf:PE X f tx)(m:M2 X o "get" fq e f cX):PE X (.Call (.Attribute o "get" fq) [e,f] [] cX) (KQ td ty tx):=by
 intro pins s σ H Q I h
 refine jV m.base m.few m.line PySem.F.plainAttrs_dict PySem.F.slot_dict_get PySem.F.type_dict_get (fI (ho pins s σ H _ I h) fun u s1 ⟨x,H1,I1,rx,a,ex,d,q1⟩=>?_)
 subst ex
 obtain rfl:u=Value.ref a:=rx
 obtain⟨t1,t2,_⟩:=CQ I1 d
 refine⟨t1,t2,?_⟩
 rw[m.trees]
 refine fO rfl (gf (eB (fI (he pins s1 σ H1 _ I1 q1) fun iv s2 ⟨y,H2,I2,ry,q2⟩=>
  eB (fI (hf pins s2 σ H2 _ I2 q2) fun fv s3 ⟨z,H3,I3,rz,ov,g,q3⟩=>g9 ?_))))
 exact KP hu I3 g ry rz fun w' s4 I4 jL=>⟨_,H3,I4,jL,q3⟩
theorem CU(ho:PE X o td)(he:PE X e ty)(m:M1 X o "pop" fq e cX):PE X (.Call (.Attribute o "pop" fq) [e] [] cX) (KR td ty):=by
 intro pins s σ H Q I h
 refine jV m.base m.few m.line PySem.F.plainAttrs_dict PySem.F.slot_dict_pop PySem.F.type_dict_pop (fI (ho pins s σ H _ I h) fun u s1 ⟨x,H1,I1,rx,a,ex,d,q1⟩=>?_)
 subst ex
 obtain rfl:u=Value.ref a:=rx
 obtain⟨t1,t2,_⟩:=CQ I1 d
 refine⟨t1,t2,?_⟩
 rw[m.trees]
 refine fO rfl (gf (eB (fI (he pins s1 σ H1 _ I1 q1) fun iv s2 ⟨y,H2,I2,ry,kvs,k,v,ea,ey,l,q2⟩=>g9 ?_)))
 subst ey
 exact Oo I2 ea ry l (.inl rfl) fun w' s3 I3 jL=>⟨v,_,I3,jL,q2⟩
end
section
variable{kvs:List (fK×V)}
end
section
end
section
end
section
variable{κ:Type}[DecidableEq κ]
theorem Bh{p:κ×V}{r:List (κ×V)}{k:κ}(e:p.1=k):lM (p::r) k=lM r k:=by
 unfold lM
 rw[cJ,aD (by simp[e])]
theorem Bi{p:κ×V}{r:List (κ×V)}{k:κ}(e:¬ p.1=k):lM (p::r) k=p::lM r k:=by
 unfold lM
 rw[cJ,aw (by simp[e])]
end
end L2
set_option maxHeartbeats 4000000
namespace L2
open PySem PySem.Spec PyProof.Rows
abbrev bK(X:Cx)(nm:List Str)(scope:Scope)(cl:List (Str×Addr))(C:Addr)(s0:Shared)(H0:Hp)(fp:List Addr):Cx:=
 { X with N:=nm,s₀:=s0,H₀:=H0,env:=compEnvC scope cl C X.env,outer:=X.stack,stack:=X.stack,ex:=fp,fn:=fun _=>false,pn:=[],xe:=fun _ _=>False }
def F9(X:Cx)(kU:List Expr)(t:TT):Prop:=
 ∀(pins:List (Addr×Obj)) (s:Shared) (σ:St) (H:Hp) (Q:Bool->Hp->Prop),bj X pins σ H s->t σ H Q ->
  wpAny (model X.prog X.w) X.A (forIn kU true fun c r=>if r=true then do let ok <- isTrue c X.env (eval c X.env);pure (ForInStep.yield ok)else pure (ForInStep.yield r)) (TP X pins σ Q) X.xe s
def RO:TT:=fun _ H Q=>Q true H
theorem GL:F9 X [] RO:=fun _ _ _ H _ I h=>wpAny_tests_nil ⟨H,I,h⟩
theorem GM{t:TT}(hc:PT X c t):F9 X [c] t:=fun pins s σ H Q I h=>wpAny_tests_one (hc pins s σ H Q I h)
def nj(cap:List (Option Nat))(σ:St):St:=cap.map fun o=>o.bind fun j=>(σ[j]?).join
def t6(cap:List (Option Nat))(wi:TI)(g:TG)(tc:TT)(te:TE):TE:=fun σ H Q=>wi σ H fun J H1=>∃W:Nat->Nat->List V->Hp->Prop,(∃m,W 0 m [] H1)/\∀i m ys H2,W i m ys H2 ->
 (J.stop i H2/\ys.length<=sizeLine/\∀p,H2 p=none->Q (.ref p) (dY H2 p (.lst ys))) \/
 (J.go i H2/\∀x H3,J.yld i H2 x H3->g x (nj cap σ) H3 fun σ2 H4=>tc σ2 H4 fun b H5=>if b=true then te σ2 H5 fun y H6=>ys.length<sizeLine/\∃m',m'<m/\W (i+1) m' (ys++[y]) H6 else ∃m',m'<m/\W (i+1) m' ys H5)
theorem Un.cellK{fs ex:List Addr}(u:Un fs ex H H' h h'){c:Addr}{v:Option Value}(x:h.IsCell c v)(n:H c=none)(he:c∉ex):h'.IsCell c v:=by
 obtain⟨o,ho,hd⟩:=x
 obtain⟨sl,q⟩:=u.any ho n he
 exact⟨_,q,hd⟩
structure zT(X:Cx)(scope:Scope)(cl:List (Str×Addr))(x:Str):Prop where
 vis:Nv X.env.scope x
 nl:X.env.scope.names.lookup x≠some .local
 cl:cl.lookup x=X.env.cells.lookup x
 kd:(relabel scope X.env).names.lookup x=some .cell\/(relabel scope X.env).names.lookup x=some .free
section
variable{wi:TI}{g:TG}{tc:TT}
theorem IH{J7:List (Addr×Obj)}{σ2:St}{H1:Hp}{s2:Shared}{C:Addr}
  (x8:∀(i j:Nat),cap[i]?=some (some j)->∃x,nm[i]?=some x/\X.N[j]?=some x/\zT X scope cl x) (dH:cap.length=nm.length)
  (I2:bj X pins σ H1 s2) (TH:∀b∈fp,∀x c,X.env.cells.lookup x=some c->c≠b)
  (I:bj (bK X nm scope cl C s2 H1 fp) J7 σ2 H s):bj (bK X nm scope cl C s2 H1 fp) J7 (nj cap σ) H s:=by
 refine⟨I.ok,I.os,I.bare,I.base,?_,I.cell,I.free,I.freeC,I.pin,I.hok,by show(nj cap σ).length=nm.length;unfold nj;rw[aj];exact dH⟩
 obtain⟨m,hn,_⟩:=I.loc
 refine⟨m,hn,fun i x v e1 e2 e3=>?_⟩
 unfold nj at e2
 rw[al]at e2
 cases hc:cap[i]? with
 |none=>rw[hc]at e2;cases e2
 |some oj=>
  cases oj with
  |none=>rw[hc]at e2;cases e2
  |some j=>
   rw[hc]at e2
   have e2':(σ[j]?).join=some v:=by simpa using e2
   have e2:σ[j]?=some (some v):=by
    cases hs:σ[j]? with
    |none=>rw[hs]at e2';cases e2'
    |some ov=>rw[hs]at e2';simp at e2';rw[e2']
   obtain⟨x',f1,f2,k⟩:=x8 i j hc
   have hx:x'=x:=by
    have z:nm[i]?=some x:=e1
    rw[f1]at z;exact aM z
   subst hx
   obtain⟨m2,_,hl2⟩:=I2.loc
   obtain⟨u,r,l⟩:=hl2 j x' v f2 e2 k.vis
   refine⟨u,r,?_⟩
   rcases l with⟨kl,_⟩|⟨_,c,hcc,fR⟩
   ·exact absurd kl k.nl
   ·refine .inr ⟨k.kd,c,by rw[<- hcc];exact k.cl,?_⟩
    exact I.base.cellK fR (I2.freeC _ _ hcc) fun z=>TH c z _ _ hcc rfl
theorem u3{prog:Program}{w:World}{A:Around}{E:Value->Shared->Prop}{l:Addr}{u:Value}{Q:Value->Shared->Prop}
  (e:s.heap.get? l=some { cls:=.type "list",data:=.seq bw.toArray n }) (hz:bw.length<sizeLine)
  (h:∀(h':Heap) (n' tk:Nat),h'.get? l=some { cls:=.type "list",data:=.seq (bw++[u]).toArray n' }->(∀b o,b≠l->s.heap.get? b=some o->h'.get? b=some o)->Q .none { s with heap:=h',toks:=tk }) :
  wpAny (model prog w) A (call (.builtin "list.append") [.ref l,u]) Q E s:=by
 refine lE F.slot_list_append ⟨_,e,rfl⟩ F.entry_list_append (F.args_list_append_2 _ _) (PySem.list_append l bw.toArray n u (by rw[aE];omega)) ⟨e,?_⟩
 have q:=PySem.IsL.update e (fun a=>a.push u)
 have q2:(s.heap.update l (Obj.mapSeq fun x=>x.push u)).get? l=some { cls:=.type "list",data:=.seq (bw++[u]).toArray (if ((bw.toArray.push u).size==bw.toArray.size)=true then n else n+1) }:=by
  rw[show(s.heap.update l (Obj.mapSeq fun x=>x.push u)).get? l=_ from q];simp
 exact h _ _ s.toks q2 fun b o hb ho=>(g_ s.heap (Obj.mapSeq _) (Ne.symm hb)).trans ho
structure zU(X:Cx)(pins:List (Addr×Obj))(H:Hp)(s:Shared)(C:Addr)(m:Str->Option Value):Prop where
 ns:s.heap.Ns C m
 fr:H C=none
 nl:C≠X.env.locals
 nf:C∉X.fs
 hi:X.s₀.heap.objs.size<=C
 nc:∀x c,X.env.cells.lookup x=some c->c≠C
 np:∀p∈X.pn++pins,p.1≠C
theorem zU.off{C:Addr}{m:Str->Option Value}(B:zU X pins H s C m)(I:bj X pins σ H s)(hs:Heap.SameBut C s.heap h'):bj X pins σ H { s with heap:=h' }:=I.turned (t':=s.toks) (it:=C) (fun b o hb e=>hs.extBut b o hb e) B.fr B.nl (.inr B.hi) B.nc B.np
theorem t7{use:Option (Value->Sem Unit)}{Qk:VK}{Qv:Value->Shared->Prop}(gS:X.calm=true)(yj:closureFor scope X.env=pure cl)(jd:∀x c,cl.lookup x=some c->X.env.cells.lookup x=some c)
  (gF:scope.kind=.function) (sR:∀x∈scope.names,x.2=.local->scope.names.lookup x.1=some .local) (fR:∀y∈scope.names,y.2≠.cell)
  (F6:∀x,((relabel scope X.env).names.lookup x=some .cell\/(relabel scope X.env).names.lookup x=some .free)->∃c,cl.lookup x=some c)
  (x8:∀(i j:Nat),cap[i]?=some (some j)->∃x,nm[i]?=some x/\X.N[j]?=some x/\zT X scope cl x) (dH:cap.length=nm.length)
  (hi:PI X tg iter wi) (hg:∀C s0 H0 fp,PG (bK X nm scope cl C s0 H0 fp) tg g) (ht:∀C s0 H0 fp,F9 (bK X nm scope cl C s0 H0 fp) kU tc)
  (he:∀C s0 H0 fp,PE (bK X nm scope cl C s0 H0 fp) m7 te) (hs:∀x,foldedSetIterable iter X.env x=pure x)
  (I:bj X pins σ H s) (h:t6 cap wi g tc te σ H Qk) (fin:∀(s4:Shared) (C D:Addr) (m4:Str->Option Value) (Hn:Hp),bj X pins σ Hn s4->zU X pins Hn s4 C m4->Qk (.ref D) Hn->compPost (model X.prog X.w) X.A X.xe use Qv (.ref D) C (.ok .next) s4) :
  wpAny (model X.prog X.w) X.A (comprehension (.ListComp m7 [⟨tg,iter,kU,0⟩] scope pos) scope X.env (firstIterPos [⟨tg,iter,kU,0⟩] pos) (newList []) (firstAsync [⟨tg,iter,kU,0⟩]) (firstIter [⟨tg,iter,kU,0⟩] X.env) use) Qv X.xe s:=by
 refine wpAny_comprehension_free (use:=use) rfl hs yj gF sR (fI (hi pins s σ H _ I h) fun v s1 h1=>fI h1 fun Sd s2 h2=>?_)
 obtain⟨it,fp,tn,J,H1,e,I2,T,cH,f2,W,⟨m0,w0⟩,turn⟩:=h2
 subst e
 have hfpn:∀b∈fp,b<s2.heap.objs.size:=fun b hb=>let ⟨o,ho,_⟩:=T.obj _ _ cH b hb;aF ho
 have hfpc:∀b∈fp,∀x c,X.env.cells.lookup x=some c->c≠b:=fun b hb=>(f2 b hb).2.2.2.2.1
 refine dQ (wpAny_newFunctionEnv fR (by intro y hy;simp at hy) (fun h₁ hns₁ hsb₁=>?_) gF)
 dsimp only at hns₁ hsb₁ ⊢
 generalize hH2:s2.heap.push { cls:=.type "list",dict:=none,data:=.seq ([]:List Value).toArray }=G2 at hns₁ hsb₁ ⊢
 have hC:G2.objs.size=s2.heap.objs.size+1:=by rw[<- hH2,jB]
 have hDC:s2.heap.objs.size≠G2.objs.size:=by rw[hC];exact bt (ip _)
 have old:∀b o,s2.heap.get? b=some o->h₁.get? b=some o:=fun b o e=>hsb₁.extBut b o (by rw[hC];exact bt (f_ (aF e))) (ao _ (hH2▸ao _ e))
 have hacc:h₁.get? s2.heap.objs.size=some { cls:=.type "list",data:=.seq ([]:List Value).toArray }:=hsb₁.extBut _ _ hDC (ao _ (hH2▸aS _ rfl))
 have okB:(bK X nm scope cl G2.objs.size s2 H1 fp).Ok:=by
  refine⟨I2.ok.mod,gF,I2.ok.glob,I2.ok.blt,by show s2.heap.objs.size<=G2.objs.size;omega,fun x y c h1 h2=>I2.ok.inj x y c (jd _ _ h1) (jd _ _ h2),fun x hx=>F6 x hx,fun x c h0=>(by cases h0),fun hc=>I2.ok.hd gS,I2.ok.frames,.inl rfl,?_,?_,?_,?_,?_,?_,?_⟩
  ·intro b hb
   exact⟨bt (aW (hfpn b hb) (by show _<=G2.objs.size;omega)),fun x c hx=>hfpc b hb x c (jd _ _ hx)⟩
  ·exact fun b o hb=>I2.bs b o hb
  ·exact be I2.ok.bsz I2.sz
  ·intro b o hb z
   rcases(f2 b z).2.2.2.1 with q|q
   ·exact I2.ok.noex b o hb q
   ·exact absurd (aF (I2.ok.bs b o hb).1) (Nat.not_lt.mpr q)
  ·intro b hb z
   rcases aJ.mp (I2.stkSub b z)with q|q
   ·exact(f2 b hb).2.1 q
   ·exact(f2 b hb).2.2.1 q
  ·exact I2.stack
  ·exact I2.stkFree
 have I4:bj (bK X nm scope cl G2.objs.size s2 H1 fp) [] (nj cap σ) H1 { s2 with heap:=h₁,toks:=s2.toks+([]:List (Str×Value)).length }:=by
  refine IH x8 dH I2 hfpc (σ2:=List.replicate nm.length none) ⟨okB,rfl,I2.bare,Un.kept old,⟨_,hns₁,fun i x v _ e2=>?_⟩,fun x c hx=>?_,?_,fun x c hx=>I2.freeC x c (jd _ _ hx),fun p hp=>absurd hp (by simp),I2.hok.kept old,by simp⟩
  ·rw[gT]at e2;split at e2<;>cases e2
  ·obtain⟨v,hv⟩:=I2.cell x c (jd _ _ hx)
   exact⟨v,hv.keeps old⟩
  ·exact I2.hok.fresh (by show _<=G2.objs.size;omega)
 have hsz0:∀{Hx:Hp} {sx:Shared} {px:List (Addr×Obj)} {σx:St},bj (bK X nm scope cl G2.objs.size s2 H1 fp) px σx Hx sx->Hx s2.heap.objs.size=none->∀{oa:Obj},sx.heap.get? s2.heap.objs.size=some oa->(∀v,oa.data≠.cell v) ->
   bj (bK X nm scope cl G2.objs.size s2 H1 fp) [(s2.heap.objs.size,oa)] σx Hx sx:=fun{Hx sx px σx} Ix hn {oa} ho hd=>Ix.pins_of fun p hp=>by
  have e:p=(s2.heap.objs.size,oa):=by simpa using hp
  subst e
  exact⟨ho,hn,hDC,fun z=>by
   obtain⟨_,o,q,_⟩:=I2.stack.mem z
   exact absurd (aF q) (bq _),hd⟩
 have hfpB:∀{Hx:Hp} {oa:Obj},(∀b∈fp,Hx b=none)->∀b∈fp,nV (bK X nm scope cl G2.objs.size s2 H1 fp) [(s2.heap.objs.size,oa)] Hx b:=fun{Hx oa} hn b hb=>
  ⟨hn b hb,(okB.exf b hb).1,okB.exfs b hb,.inl hb,(okB.exf b hb).2,fun p hp=>by
   have e:p=(s2.heap.objs.size,oa):=by simpa using hp
   subst e
   exact oW (hfpn b hb)⟩
 have hcalmB:(bK X nm scope cl G2.objs.size s2 H1 fp).calm=true:=gS
 have loop:∀sx:Shared,sx={ s2 with heap:=h₁,toks:=s2.toks+([]:List (Str×Value)).length } ->
   codeAny (model X.prog X.w) X.A (.compLoop (.ListComp m7 [⟨tg,iter,kU,0⟩] scope pos) 0 (.ref it) (.ref s2.heap.objs.size) (compEnvC scope cl G2.objs.size X.env))
    (compPost (model X.prog X.w) X.A X.xe use Qv (.ref s2.heap.objs.size) G2.objs.size) sx:=by
  rintro sx rfl
  refine codeAny_loop rfl (fun n s'=>∃i ys H',bj (bK X nm scope cl G2.objs.size s2 H1 fp) [] (nj cap σ) H' s'/\tn i s'.heap/\(∀b∈fp,H' b=none)/\H' s2.heap.objs.size=none /\
   (∃bw k,b8 ys bw/\s'.heap.get? s2.heap.objs.size=some { cls:=.type "list",data:=.seq bw.toArray k })/\W i n ys H') ?_ m0
   ⟨0,[],H1,I4,T.keep _ _ _ cH (fun b _ o e=>old b o e),fun b hb=>(f2 b hb).1,I2.fresh,⟨[],0,.nil,hacc⟩,w0⟩
  rintro n s3 ⟨i,ys,H3,I3,iy,fr3,na3,⟨bw,ka,rv,ea⟩,w3⟩
  show wpAny _ X.A ((compTurn (.ListComp m7 [⟨tg,iter,kU,0⟩] scope pos) 0 (.ref it) (.ref s2.heap.objs.size) (compEnvC scope cl G2.objs.size X.env)).onRaise (fun x=>do noteFrame x (compEnvC scope cl G2.objs.size X.env);theTreesLotGoes x)) _ _ s3
  refine wpAny_noted ?_
  rw[compTurn_list]
  refine af (kh ?_)
  have I3p:=hsz0 I3 na3 ea (fun v z=>by cases z)
  rcases turn i n ys H3 w3 with⟨stop,hz,qn⟩|⟨go,step⟩
  ·refine af (dJ (T.done (bK X nm scope cl G2.objs.size s2 H1 fp) rfl rfl rfl hcalmB i _ s3 _ H3 (fun _ _=>False) I3p (hfpB fr3) iy stop) (fun r s4 hr=>?_) fun _ _ z=>z.elim)
   obtain⟨hr,I4'⟩:=hr
   subst hr
   refine au ?_
   obtain⟨m4,hn4,_⟩:=id I4'.loc
   have pa:=I4'.pin (s2.heap.objs.size,{ cls:=.type "list",data:=.seq bw.toArray ka }) (by simp)
   have ne:∀b o,s2.heap.get? b=some o->b≠s2.heap.objs.size/\b≠G2.objs.size:=fun b o e=>⟨bt (aF e),bt (by rw[hC];exact f_ (aF e))⟩
   have I5:bj X pins σ (dY H3 s2.heap.objs.size (.lst ys)) s4:=by
    refine I2.call' (ch:=fp) I4'.os ⟨fun b o e n hb hx=>?_,fun b o e n hb hx=>?_,fun b o e n hx=>?_,fun b o e hx=>?_,fun b xs e=>?_,fun b o u e=>?_,fun b ps e=>?_⟩ ?_ I4'.bare fun b hb=>?_
    ·exact I4'.base.keep b o e n hb hx
    ·exact I4'.base.slot b o e n hb hx
    ·rw[bX (ne b o e).1];exact I4'.base.free b o e n hx
    ·exact I4'.base.there b o e hx
    ·have q:=I4'.base.tups b xs e
     rw[bX (ej q na3)];exact q
    ·have q:=I4'.base.frzs b o u e
     rw[bX (ej q na3)];exact q
    ·obtain⟨mr,q⟩:=I4'.base.tbls b ps e
     exact⟨mr,by rw[bX (ej q na3)];exact q⟩
    ·intro b o e
     by_cases hb:b=s2.heap.objs.size
     ·subst hb
      rw[df]at e;cases e
      exact⟨hz,bw,ka,rv,pa.1⟩
     ·rw[bX hb]at e
      exact(I4'.hok b o e).stay (fun c u hc q=>q) (fun c q=>by rw[bX (ej q na3)];exact q) fun c xs q=>by rw[bX (ej q na3)];exact q
    ·obtain⟨_,g1,_,g3,g4,g5⟩:=f2 b hb
     exact⟨g3,g1,g4,g5⟩
   have lC:s2.heap.objs.size<=G2.objs.size:=by rw[hC];exact gU _
   exact fin s4 G2.objs.size _ m4 _ I5 ⟨hn4,by rw[bX (Ne.symm hDC)];exact I4'.free,oW (aW I2.lt lC),I2.nofs lC,be I2.sz lC,fun x c hx z=>(by
    obtain⟨v,o,ho,_⟩:=I2.cell x c hx
    exact absurd (aF ho) (by rw[z];exact Nat.not_lt.mpr lC)),fun p hp z=>(by
    have:=(I2.pin p hp).1
    exact absurd (aF this) (by rw[z];exact Nat.not_lt.mpr lC))⟩ (qn _ na3)
  ·refine af (dJ (T.item (bK X nm scope cl G2.objs.size s2 H1 fp) rfl rfl rfl hcalmB i _ s3 _ H3 (fun _ _=>False) I3p (hfpB fr3) iy go) (fun r s4 hr=>?_) fun _ _ z=>z.elim)
   obtain⟨u,hr,h4⟩:=hr
   subst hr
   dsimp only
   refine af (dJ h4 (fun _ s5 h5=>?_) fun _ _ z=>z.elim)
   obtain⟨x,H5,I5,r5,y5,st5,fr5⟩:=h5
   have I5':=I5.pinned (hfpB fr5) (T.obj _ _ st5)
   refine af (dJ (hg _ _ _ _ _ s5 _ H5 x u _ I5' r5 (step x H5 y5)) (fun _ s6 h6=>?_) fun _ _ z=>z.elim)
   obtain⟨σ6,H6,I6,q6⟩:=h6
   refine af (dJ (ht _ _ _ _ _ s6 σ6 H6 _ I6 q6) (fun ok s7 h7=>?_) fun _ _ z=>z.elim)
   obtain⟨H7,I7,q7⟩:=h7
   have back:∀{H8:Hp} {s8:Shared} {Rf:List V} {its':List Value} {k':Nat},bj (bK X nm scope cl G2.objs.size s2 H1 fp) [] σ6 H8 s8->(∀b∈fp,∀o,s5.heap.get? b=some o->s8.heap.get? b=some o)->(∀b∈fp,H8 b=none)->H8 s2.heap.objs.size=none ->
     b8 Rf its'->s8.heap.get? s2.heap.objs.size=some { cls:=.type "list",data:=.seq its'.toArray k' }->(∃m',m'<n/\W (i+1) m' Rf H8) ->
     ∃m,m<n/\∃i ys H',bj (bK X nm scope cl G2.objs.size s2 H1 fp) [] (nj cap σ) H' s8/\tn i s8.heap/\(∀b∈fp,H' b=none)/\H' s2.heap.objs.size=none /\
      (∃bw k,b8 ys bw/\s8.heap.get? s2.heap.objs.size=some { cls:=.type "list",data:=.seq bw.toArray k })/\W i m ys H':=
    fun{H8 s8 Rf its' k'} I8 kf f8 n8 rv8 e8 ⟨m',hm,w8⟩=>⟨m',hm,i+1,Rf,H8,IH x8 dH I2 hfpc I8,T.keep _ _ _ st5 kf,f8,n8,⟨its',k',rv8,e8⟩,w8⟩
   cases ok with
   |false=>
    refine au ⟨rfl,?_⟩
    have q7':∃m',m'<n/\W (i+1) m' ys H7:=by simpa using q7
    have pa:=I7.pin (s2.heap.objs.size,{ cls:=.type "list",data:=.seq bw.toArray ka }) (by simp)
    refine back (I7.pins_of fun p hp=>absurd hp (by simp)) (fun b hb o e=>?_) (fun b hb=>?_) pa.2.1 rv pa.1 q7'
    ·exact(I7.pin (b,o) (aT _ (aT _ (ik hb e)))).1
    ·obtain⟨o,e,d⟩:=T.obj _ _ st5 b hb
     exact(I7.pin (b,o) (aT _ (aT _ (ik hb e)))).2.1
   |true=>
    rw[aw rfl]at q7
    refine af (af (dJ (he _ _ _ _ _ s7 σ6 H7 _ I7 q7) (fun xv s8 h8=>?_) fun _ _ z=>z.elim))
    obtain⟨y,H8,I8,r8,hzy,q8⟩:=h8
    have pa:=I8.pin (s2.heap.objs.size,{ cls:=.type "list",data:=.seq bw.toArray ka }) (by simp)
    refine af (u3 pa.1 (by rw[<- rv.length];exact hzy) fun h' k' tk e9 sb=>?_)
    refine au (au ⟨rfl,?_⟩)
    have I9:bj (bK X nm scope cl G2.objs.size s2 H1 fp) [] σ6 H8 { s8 with heap:=h',toks:=tk }:=
     (bj.pins_of (pins':=[]) I8 fun p hp=>absurd hp (by simp)).turned (it:=s2.heap.objs.size) (fun b o hb e=>sb b o hb e) pa.2.1 hDC (.inr (av _)) (fun x c hx z=>by
      obtain⟨v,hv⟩:=I2.cell x c (jd _ _ hx)
      exact absurd hv.lt (by rw[z];exact bq _)) (fun p hp=>absurd hp (by simp))
    refine back I9 (fun b hb o e=>?_) (fun b hb=>?_) pa.2.1 (rv.append (.cons r8 .nil)) e9 q8
    ·exact sb b o (bt (hfpn b hb)) (I8.pin (b,o) (aT _ (aT _ (ik hb e)))).1
    ·obtain⟨o,e,d⟩:=T.obj _ _ st5 b hb
     exact(I8.pin (b,o) (aT _ (aT _ (ik hb e)))).2.1
 exact codeAny_compStart_list (loop _ rfl) (T.self _ _ _ _ _ (T.keep _ _ _ cH fun b _ o e=>old b o e) (loop _ rfl))
theorem GN(gS:X.calm=true)(yj:closureFor scope X.env=pure cl)(jd:∀x c,cl.lookup x=some c->X.env.cells.lookup x=some c)
  (gF:scope.kind=.function) (sR:∀x∈scope.names,x.2=.local->scope.names.lookup x.1=some .local) (fR:∀y∈scope.names,y.2≠.cell)
  (F6:∀x,((relabel scope X.env).names.lookup x=some .cell\/(relabel scope X.env).names.lookup x=some .free)->∃c,cl.lookup x=some c)
  (x8:∀(i j:Nat),cap[i]?=some (some j)->∃x,nm[i]?=some x/\X.N[j]?=some x/\zT X scope cl x) (dH:cap.length=nm.length)
  (hi:PI X tg iter wi) (hg:∀C s0 H0 fp,PG (bK X nm scope cl C s0 H0 fp) tg g) (ht:∀C s0 H0 fp,F9 (bK X nm scope cl C s0 H0 fp) kU tc)
  (he:∀C s0 H0 fp,PE (bK X nm scope cl C s0 H0 fp) m7 te) (hs:∀x,foldedSetIterable iter X.env x=pure x:=by intro _;rfl) :
  PE X (.ListComp m7 [⟨tg,iter,kU,0⟩] scope pos) (t6 cap wi g tc te):=by
 intro pins s σ H Q I h
 rw[eval_ListComp]
 exact t7 gS yj jd gF sR fR F6 x8 dH hi hg ht he hs I h fun s4 C D m4 Hn I4 B q=>⟨m4,B.ns,fun h' hs'=>⟨.ref D,Hn,B.off I4 hs',rfl,q⟩⟩
end
def tx(l:List Nat):Str:=⟨l.toArray⟩
theorem KS(l:List Nat):(tx l).cps.toList=l:=rfl
theorem iH(l:List Nat):(tx l).length=l.length:=by show l.toArray.size=_;simp
theorem yw(a b:List Nat):tx a++tx b=tx (a++b):=by
 show(⟨a.toArray++b.toArray⟩:Str)=⟨(a++b).toArray⟩
 simp
theorem CV{a b:List Nat}:tx a=tx b↔a=b:=⟨fun h=>by have:=cC (fun z:Str=>z.cps.toList) h;exact this,fun h=>by rw[h]⟩
def Q3(lw:List V):It:=⟨fun i _=>i<lw.length,fun i H x H'=>H'=H/\lw[i]?=some x,fun i _=>lw.length<=i⟩
theorem qZ{w:World}{lw:List V}{Pr:Nat->Value->Prop}{S:Nat->Heap->Prop}{ty:String}
  (W:∀A:Around,A.handled=none->Walks P w A it [it] [it] lw.length Pr S) (hv:∀i v,i<lw.length->Pr i v->∃x,lw[i]?=some x/\bF x v)
  (FN:∀i h,S i h->∃o vs,h.get? it=some o/\o.cls=.type ty/\o.data=.fields vs)
  (Ci:["enumerate","zip","dict_itemiterator","dict_reverseitemiterator","odict_iterator","itertools.zip_longest","itertools.pairwise"].contains ty=false)
  (x5:∀(A:Around) (i:Nat) (s:Shared) (Q:Value->Shared->Prop) (E:Value->Shared->Prop),S i s.heap->Q (.ref it) s->wpAny (model P w) A (pyIter (.ref it)) Q E s) :
  A2 P w K tg (Q3 lw) [it] it (fun i h=>i<=lw.length/\S i h) where
 mem:=by simp
 obj:=fun i h st b hb=>by
  have e:b=it:=by simpa using hb
  subst e
  obtain⟨o,vs,e,c,d⟩:=FN i h st.2
  exact⟨o,e,fun v z=>by rw[d]at z;cases z⟩
 keep:=fun i h h' st k=>⟨st.1,(W { depth:=0,handled:=none,frames:=none } rfl).frame i h h' st.2 k⟩
 item:=by
  intro X hP hw hK hc i pins s σ H E I hf st hg
  subst hP hw hK
  obtain⟨f0,f1,f2,f3,f4,f5⟩:=hf it (by simp)
  refine(W X.A (I.ok.hd hc)).item i s _ _ hg st.2 fun v h' tk hp bv kk=>?_
  have I1:bj X pins σ H { s with heap:=h',toks:=tk }:=I.turned (fun b o hb e=>kk b o (by simpa using hb) e) f0 f1 f3 f4 f5
  obtain⟨x,hx,rx⟩:=hv i v hg hp
  obtain⟨o,vs,e,c,d⟩:=FN _ _ bv
  exact⟨v,rfl,zM (s:={ s with heap:=h',toks:=tk }) e c d Ci ⟨x,H,I1,rx,⟨rfl,hx⟩,⟨hg,bv⟩,fun b hb=>(hf b hb).1⟩⟩
 done:=by
  intro X hP hw hK hc i pins s σ H E I hf st hg
  subst hP hw hK
  obtain⟨f0,f1,f2,f3,f4,f5⟩:=hf it (by simp)
  have e:i=lw.length:=fS st.1 hg
  refine(W X.A (I.ok.hd hc)).done s _ _ (e▸st.2) fun h' tk kk=>⟨rfl,I.turned (fun b o hb e=>kk b o (by simpa using hb) e) f0 f1 f3 f4 f5⟩
 self:=fun A i s Q E st h=>x5 A i s Q E st.2 h
section
def nD(l:List Nat):List V:=l.map fun c=>.str (tx [c])
def RP(tl:TE):TI:=fun σ H R=>tl σ H fun x H1=>∃l,x=.str (tx l)/\R (Q3 (nD l)) H1
theorem Bj(i:Nat)(v:Value)(hi:i<(nD l).length)(h:SignAt (tx l) i v):∃x,(nD l)[i]?=some x/\bF x v:=by
 obtain⟨c,u,hc,e⟩:=h
 refine⟨.str (tx [c]),?_,u,e⟩
 unfold nD
 rw[al]
 have:l[i]?=some c:=by simpa[tx]using hc
 rw[this];rfl
theorem KU{l:Expr}{tl:TE}(hl:PE X l tl):PI X tg l (RP tl):=by
 intro pins s σ H R I h
 refine fI (hl pins s σ H _ I h) fun v s1 ⟨x,H1,I1,r1,q1⟩=>?_
 obtain⟨l,e,q⟩:=q1
 subst e
 obtain⟨t,rfl⟩:=r1
 have hn:(tx l).cps.size=(nD l).length:=by unfold nD;simp[tx]
 have fin:∀(ob:Obj) (S:Nat->Heap->Prop) (ty:String),(∀A:Around,A.handled=none->Walks X.prog X.w A s1.heap.objs.size [s1.heap.objs.size] [s1.heap.objs.size] (tx l).cps.size (SignAt (tx l)) S)->S 0 (s1.heap.push ob) ->
   (∀i h,S i h->∃o vs,h.get? s1.heap.objs.size=some o/\o.cls=.type ty/\o.data=.fields vs) ->
   ["enumerate","zip","dict_itemiterator","dict_reverseitemiterator","odict_iterator","itertools.zip_longest","itertools.pairwise"].contains ty=false ->
   (∀(A:Around) (i:Nat) (s:Shared) (Q:Value->Shared->Prop) (E:Value->Shared->Prop),S i s.heap->Q (.ref s1.heap.objs.size) s->wpAny (model X.prog X.w) A (pyIter (.ref s1.heap.objs.size)) Q E s) ->
   RA X pins σ tg R (.ref s1.heap.objs.size) { s1 with heap:=s1.heap.push ob }:=fun ob S ty W h0 FN Ci x5=>by
  rw[hn]at W
  refine⟨s1.heap.objs.size,[s1.heap.objs.size],_,_,H1,rfl,I1.kept (t':=s1.toks) fun b o e=>ao _ e,qZ W (fun i v hi hp=>Bj i v hi hp) FN Ci x5,⟨cM _,h0⟩,fun b hb=>?_,q⟩
  have e:b=s1.heap.objs.size:=by simpa using hb
  subst e
  exact I1.fpOk (av _) I1.fresh
 cases ha:(tx l).cps.all (· < 128)
 ·exact wpAny_pyIter_wide ha (fin _ _ _ (fun A hA=>Walks.strWide hA _ (tx l) t) ⟨_,aS _ rfl,rfl,rfl⟩ (fun i h st=>by obtain⟨o,a,b,c⟩:=st;exact⟨o,_,a,b,c⟩) (by decide) fun A i s Q E st h=>wpAny_pyIter_striter_wide st h)
 ·exact wpAny_pyIter_ascii ha (fin _ _ _ (fun A hA=>Walks.strAscii hA _ (tx l) t) ⟨_,aS _ rfl,rfl,rfl⟩ (fun i h st=>by obtain⟨o,a,b,c⟩:=st;exact⟨o,_,a,b,c⟩) (by decide) fun A i s Q E st h=>wpAny_pyIter_striter_ascii st h)
def Bm(l:List Nat)(lo hi:Option Int):List Nat:=(l.drop (HT.sIx l.length 0 lo)).take (HT.sIx l.length l.length hi-HT.sIx l.length 0 lo)
theorem wF(l:List Nat)(lo hi:Option Int):(Bm l lo hi).length<=l.length:=by unfold Bm;rw[a9,d9];omega
theorem yx(l:List Nat)(i k:Nat):((List.range k).map fun(m:Nat)=>i+m).filterMap (fun j=>l[j]?)=(l.drop i).take k:=by
 induction k generalizing i with
 |zero=>simp
 |succ k ih=>
  rw[hU,aC,aL]
  have e:((fun m=>i+m)∘Nat.succ)=fun m=>(i+1)+m:=by funext m;simp[Function.comp];omega
  rw[e]
  by_cases h:i<l.length
  ·rw[fx]
   simp only[i9,ac h]
   rw[ih (i+1),eL h,List.take_succ_cons]
  ·rw[fx]
   have h':l.length<=i:=by omega
   simp only[i9,fX h']
   rw[ih (i+1),lF h',lF (by omega)]
   simp
theorem II(v:Int)(n d:Nat):(if (1:Int)>0 then max 0 (min (if v<0 then v+(n:Int)else v) (n:Int))else max (-1) (min (if v<0 then v+(n:Int)else v) ((n:Int)-1)))=((HT.sIx n d (some v):Nat):Int):=by
 rw[aw (by omega)]
 show _=(((if v<0 then(v+(n:Int)).toNat else min v.toNat n):Nat):Int)
 by_cases hv:v<0
 ·simp only[aw hv];omega
 ·simp only[aD hv];omega
theorem KW(lo hi:Option Int)(n:Nat):Builtin.Str.strSliceIndices lo hi 1 n=(List.range (HT.sIx n n hi-HT.sIx n 0 lo)).map fun(m:Nat)=>HT.sIx n 0 lo+m:=by
 have key:∀a b:Nat,sliceRange (a:Int) (b:Int) 1=(List.range (b-a)).map fun(m:Nat)=>a+m:=fun a b=>by
  unfold sliceRange
  have e:(if (1:Int)>0 then(if (a:Int)<(b:Int)then((b:Int)-a+1-1)/1 else 0)else(if (a:Int)>b then((a:Int)-b-1-1)/(-1)else 0)).toNat=b-a:=by
   rw[aw (by omega)]
   by_cases h:(a:Int)<b
   ·rw[aw h];omega
   ·rw[aD h];omega
  dsimp only
  rw[e]
  refine aZ fun k _=>?_
  omega
 unfold Builtin.Str.strSliceIndices
 rw[<- key]
 dsimp only
 congr 1
 ·cases lo with
  |none=>rfl
  |some v=>exact II v n 0
 ·cases hi with
  |none=>rfl
  |some v=>exact II v n n
theorem CW(l:List Nat)(lo hi:Option Int):Txt.slice (tx l) lo hi=tx (Bm l lo hi):=by
 unfold Txt.slice
 rw[KW,iH]
 split
 ·rename_i h
  simp only[dL,nz,bT,aj,dm]at h
  unfold Bm
  have h1:=HT.sIx_le l.length l.length (av _) hi
  have h2:=HT.sIx_le l.length 0 (cM _) lo
  by_cases hz:l.length=0
  ·have:l=[]:=List.eq_nil_of_length_eq_zero hz
   subst this;simp
  ·have e0:HT.sIx l.length 0 lo=0:=by omega
   rw[e0,List.drop_zero,b_ (by omega)]
 ·unfold Bm tx
  have:∀j:Nat,(l.toArray)[j]?=l[j]?:=fun j=>by simp
  simp only[this]
  rw[yx]
def RQ:V->Option Int->Option Int->Hp->VK->Prop:=fun x lo hi H Q=>∃l,x=.str (tx l)/\l.length<=sizeLine/\Q (.str (tx (Bm l lo hi))) H
theorem zV{v:Value}{o:Option Int}(p:IsPart v o):∃q:Option (Int×Tok),v=partValue q/\q.map (·.1)=o:=by
 cases p with
 |none=>exact⟨none,rfl,rfl⟩
 |int i t=>exact⟨some (i,t),rfl,rfl⟩
theorem KY:Of X RQ:=by
 intro pins s σ H x v vl vu lo hi sl Q I rx hs pl pu h
 obtain⟨l,e,hz,q⟩:=h
 subst e
 obtain⟨t,rfl⟩:=rx
 obtain⟨pl',rfl,rfl⟩:=zV pl
 obtain⟨pu',rfl,rfl⟩:=zV pu
 refine⟨"str",_,F.slot_str_getitem.lookup,typeIs_str _ _ _,?_⟩
 refine wpAny_getItem_str_slice (l:=pl') (u:=pu') (st:=none) hs rfl (post_val_or_str ?_)
 have e:=CW l (pl'.map (·.1)) (pu'.map (·.1))
 unfold Txt.slice at e
 show(if ((1:Int)==1&&(Builtin.Str.strSliceIndices (pl'.map (·.1)) (pu'.map (·.1)) 1 (tx l).length).length==(tx l).length)=true then tx l else⟨((Builtin.Str.strSliceIndices (pl'.map (·.1)) (pu'.map (·.1)) 1 (tx l).length).filterMap ((tx l).cps[·]?)).toArray⟩:Str).length<=sizeLine /\
  ∀t' k,EP X pins σ Q (.str (if ((1:Int)==1&&(Builtin.Str.strSliceIndices (pl'.map (·.1)) (pu'.map (·.1)) 1 (tx l).length).length==(tx l).length)=true then tx l else⟨((Builtin.Str.strSliceIndices (pl'.map (·.1)) (pu'.map (·.1)) 1 (tx l).length).filterMap ((tx l).cps[·]?)).toArray⟩:Str) t') { s with toks:=k }
 rw[e,iH]
 exact⟨be (wF l _ _) hz,fun t' k=>⟨.str _,H,I.tok k,⟨t',rfl⟩,q⟩⟩
theorem KZ(c:Nat)(l:List Nat):(!(Builtin.Str.occurrences (tx l) (tx [c]) 0 (tx l).length 1).isEmpty)=decide (c∈l):=StrLaws.found_one (tx l) c
def RR(FQ:Bool):R2:=fun x y H Q=>∃c l,x=.str (tx [c])/\y=.str (tx l)/\Q (.bl (if FQ then !decide (c∈l)else decide (c∈l))) H
theorem u4:mN X (compareOp .NotIn) (RR true):=by
 intro pins s σ H x y v u Q I rx ry h
 obtain⟨c,l,rfl,rfl,q⟩:=h
 exact uT pins s σ H _ _ v u Q I rx ry ⟨_,_,rfl,rfl,by rw[KZ];exact q⟩
theorem nE:∀{ys:List (List Nat)} {bw:List Value},b8 (ys.map fun l=>V.str (tx l)) bw->StrsAre bw (ys.map tx)
 |[],_,r=>by cases r;exact .nil
 |y::ys,_,r=>by
  cases r with
  |cons r rr=>
   obtain⟨t,rfl⟩:=r
   exact .cons _ _ (nE rr)
theorem nF:∀{bw:List Value} {ss:List Str},StrsAre bw ss->b8 (ss.map fun z=>V.str z) bw
 |_,_,.nil=>.nil
 |_,_,.cons y t r=>.cons ⟨t,rfl⟩ (nF r)
def no(sep:List Nat):List (List Nat)->List Nat
 |[]=>[]
 |[x]=>x
 |x::y::r=>x++sep++no sep (y::r)
theorem t8:∀ys:List (List Nat),no [] ys=ys.flatten
 |[]=>rfl
 |[x]=>by simp[no]
 |x::y::r=>by rw[no,t8 (y::r)];simp
theorem GO(sep:List Nat):∀ys:List (List Nat),Txt.join (tx sep) (ys.map tx)=tx (no sep ys):=fun ys=>by
 show Builtin.Str.glued (tx sep) (ys.map tx)=_
 rw[StrLaws.glued_eq_join]
 induction ys with
 |nil=>rfl
 |cons x r ih=>
  cases r with
  |nil=>rfl
  |cons y r=>
   show tx x++tx sep++Str.join (tx sep) ((y::r).map tx)=tx (x++sep++no sep (y::r))
   rw[ih,yw,yw]
def Ou(K:Frag):V->List V->Hp->VK->Prop:=fun x vs H Q=>∃(sep:List Nat) (a:Addr) (ys:List (List Nat)),x=.str (tx sep)/\vs=[.ref a]/\qk K H a (ys.map fun l=>V.str (tx l))/\(ys.map List.length).sum+ys.length*sep.length<=16777216/\Q (.str (tx (no sep ys))) H
theorem GP:F8 X "str.join" (Ou X.K):=by
 intro pins s σ H x vs v us Q I rx rv h
 obtain⟨sep,a,ys,rfl,rfl,hS,hz,q⟩:=h
 obtain⟨t,rfl⟩:=rx
 obtain⟨u,rfl,ru⟩:=rv.one
 cases ru
 obtain⟨bw,r,p,_⟩:=I.list hS
 refine join_list p.isList (nE (by simpa using r)) ?_ fun t' k=>?_
 ·rw[aL,iH,aj]
  have e:((fun z:Str=>z.length)∘tx)=List.length:=by funext l;exact iH l
  rw[e];exact hz
 ·rw[GO]
  exact⟨.str _,H,I.tok k,⟨t',rfl⟩,q⟩
end
inductive D where
 |non|bl (b:Bool)|int (i:Int)|str (l:List Nat)|tnil|tcons (d r:D)
 deriving DecidableEq
structure c9(K:Frag)(H H':Hp):Prop where
 t:∀p xs,eG K H p xs->eG K H' p xs
 z:∀b o u,H b=some (.frz o u)->H' b=some (.frz o u)
instance {K:Frag} {H H':Hp}:CoeFun (c9 K H H') (fun _=>∀p xs,eG K H p xs->eG K H' p xs):=⟨c9.t⟩
theorem eG.same{K:Frag}(e:m9 H H'):c9 K H H':=⟨fun p xs h=>by
 rcases h with(h|⟨o,h⟩)|h
 ·exact .inl (.inl (e _ _ h))
 ·exact .inl (.inr ⟨o,e _ _ h⟩)
 ·exact .inr h,fun b o u h=>e _ _ h⟩
theorem cf{p:Addr}(h:H p=none)(o:HO):m9 H (dY H p o):=fun b u q=>by rw[bX (ej q h)];exact q
def Ov(l:Addr)(H H':Hp):Prop:=∀b o,b≠l->H b=some o->H' b=some o
theorem fL{l:Addr}{o:HO}:Ov l H (dY H l o):=fun b u h q=>by rw[bX h];exact q
theorem eG.but{l:Addr}{xs:List V}(e:Ov l H H')(hl:H l=some (.lst xs)):c9 K H H':=by
 have lx:∀{p:Addr} {o:HO},H p=some o->(∀zs,o≠.lst zs)->p≠l:=fun{p o} q hn z=>by subst z;rw[hl]at q;cases q;exact hn _ rfl
 refine⟨fun p ys h=>?_,fun b o u h=>e _ _ (lx h (fun _ z=>by cases z)) h⟩
 rcases h with(h|⟨o,h⟩)|h
 ·exact .inl (.inl (e _ _ (lx h (fun _ z=>by cases z)) h))
 ·exact .inl (.inr ⟨o,e _ _ (lx h (fun _ z=>by cases z)) h⟩)
 ·exact .inr h
theorem c9.refl:c9 K H H:=⟨fun _ _ h=>h,fun _ _ _ h=>h⟩
theorem c9.trans{H1 H2:Hp}(a:c9 K H H1)(b:c9 K H1 H2):c9 K H H2:=⟨fun p xs h=>b p xs (a p xs h),fun c o u h=>b.z c o u (a.z c o u h)⟩
theorem eG.new{p:Addr}{xs:List V}:eG K (dY H p (.tup xs)) p xs:=eG.of df
section
variable{o:Expr}{to:TE}{t:TA}{r:V->List V->Hp->VK->Prop}
def Tl(r:V->List V->Hp->VK->Prop)(to:TE)(t:TA):TE:=fun σ H Q=>to σ H fun x H1=>(∃l ys,x=.ref l/\H1 l=some (.lst ys))/\t σ H1 fun xs H2=>r x xs H2 Q
def Tn(r:V->List V->Hp->VK->Prop)(to:TE)(t:TA):TE:=fun σ H Q=>to σ H fun x H1=>(∃l,x=.str (tx l))/\t σ H1 fun xs H2=>r x xs H2 Q
theorem CY{x:V}(h:∃l ys,x=.ref l/\H l=some (.lst ys)):Q1 K "list" x H:=by
 obtain⟨l,ys,rfl,h⟩:=h
 exact .inl ⟨rfl,_,.of h⟩
theorem GQ{x:V}(h:∃l,x=.str (tx l)):Q1 K "str" x H:=by
 obtain⟨l,rfl⟩:=h
 exact rfl
theorem CZ{T:String}{ty:V->Hp->Prop}(Sv:∀x H,ty x H->Q1 X.K T x H)(pa:PlainAttrs T)(slot:Slot T name id)(Ci:typeOf (.builtin id)=pure (.type "method_descriptor"))(hm:F8 X id r)(ho:PE X o to)(ha:PA X (e::es) t)
  (oT:attributeBase o name X.env (eval o X.env)=eval o X.env)
  (wa:((backTo cX (starEach (e::es) X.env)).all (fun x=>!x.1)&&(backToKw cX (keywordEach [] X.env)).all (fun x=>x.1.isSome)
   && decide ((e::es).length+([]:List Keyword).length+(if ([]:List Keyword).isEmpty then 0 else 1)<30))=true)
  (oV:(fq.endLine==cX.line)=true) (hs:starEach (e::es) X.env=(false,eval e X.env)::starEach es X.env) (ly:(backTo cX (starEach es X.env)).any (·.1)=false) :
  PE X (.Call (.Attribute o name fq) (e::es) [] cX) (fun σ H Q=>to σ H fun x H1=>ty x H1/\t σ H1 fun xs H2=>r x xs H2 Q):=by
 intro pins s σ H Q I h
 refine wpAny_Call_method_late oT wa oV rfl (fI (ho pins s σ H _ I h) fun v s1 ⟨x,H1,I1,r1,ty,q1⟩=>?_)
 obtain⟨h1,h2⟩:=KM I1 r1 (Sv _ _ ty)
 refine⟨T,id,pa,slot,Ci,h1,h2,?_⟩
 have hA:=ha cX pins s1 σ H1 _ I1 q1
 rw[hs]at hA ⊢
 refine fO (by show(false||(backTo cX (starEach es X.env)).any (·.1))=false;rw[ly]<;>rfl) (gf ?_)
 exact fI hA fun us s2 ⟨vs,H2,I2,r2,q2⟩=>hm pins s2 σ H2 x vs v us Q I2 r1 r2 q2
theorem Ow(slot:Slot "list" name id)(Ci:typeOf (.builtin id)=pure (.type "method_descriptor"))(hm:F8 X id r)(ho:PE X o to)(ha:PA X (e::es) t)
  (oT:attributeBase o name X.env (eval o X.env)=eval o X.env:=by rfl)
  (wa:((backTo cX (starEach (e::es) X.env)).all (fun x=>!x.1)&&(backToKw cX (keywordEach [] X.env)).all (fun x=>x.1.isSome)
   && decide ((e::es).length+([]:List Keyword).length+(if ([]:List Keyword).isEmpty then 0 else 1)<30))=true:=by rfl)
  (oV:(fq.endLine==cX.line)=true:=by rfl) (hs:starEach (e::es) X.env=(false,eval e X.env)::starEach es X.env:=by rfl) (ly:(backTo cX (starEach es X.env)).any (·.1)=false:=by rfl) :
  PE X (.Call (.Attribute o name fq) (e::es) [] cX) (Tl r to t):=CZ (ty:=fun x H1=>∃l ys,x=.ref l/\H1 l=some (.lst ys)) (fun _ _ h=>CY h) F.plainAttrs_list slot Ci hm ho ha oT wa oV hs ly
theorem Ox(slot:Slot "str" name id)(Ci:typeOf (.builtin id)=pure (.type "method_descriptor"))(hm:F8 X id r)(ho:PE X o to)(ha:PA X (e::es) t)
  (oT:attributeBase o name X.env (eval o X.env)=eval o X.env:=by rfl)
  (wa:((backTo cX (starEach (e::es) X.env)).all (fun x=>!x.1)&&(backToKw cX (keywordEach [] X.env)).all (fun x=>x.1.isSome)
   && decide ((e::es).length+([]:List Keyword).length+(if ([]:List Keyword).isEmpty then 0 else 1)<30))=true:=by rfl)
  (oV:(fq.endLine==cX.line)=true:=by rfl) (hs:starEach (e::es) X.env=(false,eval e X.env)::starEach es X.env:=by rfl) (ly:(backTo cX (starEach es X.env)).any (·.1)=false:=by rfl) :
  PE X (.Call (.Attribute o name fq) (e::es) [] cX) (Tn r to t):=CZ (ty:=fun x H1=>∃l,x=.str (tx l)) (fun _ _ h=>GQ h) F.plainAttrs_str slot Ci hm ho ha oT wa oV hs ly
end
section
variable{t:TA}
def Oy(t:TA):TE:=fun σ H Q=>t σ H fun xs H1=>xs.length<=sizeLine/\∀p H2,H1 p=none->H2=dY H1 p (.tup xs)->Q (.ref p) H2
def Oz(t:TA):TE:=fun σ H Q=>t σ H fun xs H1=>xs.length<=sizeLine/\∀p H2,H1 p=none->H2=dY H1 p (.lst xs)->Q (.ref p) H2
theorem GR{x1}(h:PA X es t):PE X (.Tuple es x1 pos) (Oy t):=by
 intro pins s σ H Q I hq
 refine wpAny_Tuple_spliced (fI (h pos pins s σ H _ I hq) fun us s1 ⟨xs,H1,I1,r,z,q⟩=>⟨by rw[<- r.length];exact z,?_⟩)
 have hf:H1 s1.heap.objs.size=none:=I1.hok.fresh (av _)
 refine⟨.ref s1.heap.objs.size,dY H1 s1.heap.objs.size (.tup xs),I1.laid (t':=s1.toks) (fun b u e=>ao _ e) (av _) ?_,rfl,q _ _ hf rfl⟩
 exact⟨z,us,r,⟨_,aS _ rfl,rfl,_,rfl⟩⟩
theorem GS(h:PA X es t):PE X (.List es pos) (Oz t):=by
 intro pins s σ H Q I hq
 refine wpAny_List_spliced (fI (h pos pins s σ H _ I hq) fun us s1 ⟨xs,H1,I1,r,z,q⟩=>⟨by rw[<- r.length];exact z,?_⟩)
 have hf:H1 s1.heap.objs.size=none:=I1.hok.fresh (av _)
 refine⟨.ref s1.heap.objs.size,dY H1 s1.heap.objs.size (.lst xs),I1.laid (t':=s1.toks) (fun b u e=>ao _ e) (av _) ?_,rfl,q _ _ hf rfl⟩
 exact⟨z,us,0,r,aS _ rfl⟩
theorem F8.imp{r r':V->List V->Hp->VK->Prop}(h:F8 X id r)(i:∀x xs H Q,r' x xs H Q->r x xs H Q):F8 X id r':=fun pins s σ H x xs v us Q I rx rv q=>h pins s σ H x xs v us Q I rx rv (i _ _ _ _ q)
theorem gZ.imp{f:Value}{r r':List V->Hp->VK->Prop}(h:gZ X f r)(i:∀xs H Q,r' xs H Q->r xs H Q):gZ X f r':=fun pins s σ H xs us Q I rv q=>h pins s σ H xs us Q I rv (i _ _ _ q)
theorem mN.imp{f:Value->Value->Sem Value}{r r':R2}(h:mN X f r)(i:∀x y H Q,r' x y H Q->r x y H Q):mN X f r':=fun pins s σ H x y v u Q I rx ry q=>h pins s σ H x y v u Q I rx ry (i _ _ _ _ q)
def C0:V->List V->Hp->VK->Prop:=fun x vs H Q=>∃l xs y,x=.ref l/\vs=[y]/\H l=some (.lst xs)/\xs.length<sizeLine/\∀H2,H2=dY H l (.lst (xs++[y]))->Q .non H2
theorem yy:F8 X "list.append" C0:=F8.imp (r:=zQ) Bb fun _ _ _ _ ⟨l,xs,y,a,b,c,d,q⟩=>⟨l,xs,y,a,b,c,d,q _ rfl⟩
def K0:V->V->V->Hp->(Hp->Prop)->Prop:=fun o i v H Q=>∃p xs k j,o=.ref p/\i=.int k/\H p=some (.lst xs)/\Ba xs.length k=some j/\∀H2,H2=dY H p (.lst (xs.set j v))->Q H2
theorem Bn:A1 X K0:=fun pins s σ H o i v ov iv u Q I r1 r2 r3 q=>by
 obtain⟨p,xs,k,j,a,b,c,d,q⟩:=q
 exact CL pins s σ H o i v ov iv u Q I r1 r2 r3 ⟨p,xs,k,j,a,b,c,d,q _ rfl⟩
def C1(K:Frag):List V->Hp->VK->Prop:=fun xs H Q=>∃p ys,xs=[.ref p]/\qk K H p ys/\∀l H2,H l=none->H2=dY H l (.tup ys)->Q (.ref l) H2
theorem wG:gZ X (.type "tuple") (C1 X.K):=gZ.imp tf fun _ _ _ ⟨p,ys,a,b,q⟩=>⟨p,ys,a,.inl ⟨b,fun l hl=>q l _ hl rfl⟩⟩
def GT(K:Frag):List V->Hp->VK->Prop:=fun xs H Q=>∃p ys,xs=[.ref p]/\(qk K H p ys\/eG K H p ys)/\∀l H2,H l=none->H2=dY H l (.lst ys)->Q (.ref l) H2
theorem q9:gZ X (.type "list") (GT X.K):=gZ.imp uX fun _ _ _ ⟨p,ys,a,b,q⟩=>⟨p,ys,a,b,fun l hl=>q l _ hl rfl⟩
def OA:R2:=fun x y H Q=>∃l b xs zs,x=.ref l/\y=.ref b/\H l=some (.lst xs)/\H b=some (.lst zs)/\xs.length+zs.length<=sizeLine/\∀p H2,H p=none->H2=dY H p (.lst (xs++zs))->Q (.ref p) H2
theorem GU:mN X (binaryOp .Add) OA:=mN.imp KN fun _ _ _ _ ⟨l,b,xs,zs,h1,h2,h3,h4,h5,q⟩=>⟨l,b,xs,zs,h1,h2,h3,h4,h5,fun p hp=>q p _ hp rfl⟩
end
def C2(T:String):Prop:=T="tuple"\/T="bool"\/T="int"\/T="str"
end L2
namespace L2
end L2
namespace L2
open PySem PySem.Spec PyProof.Rows
structure QE(X:Cx)(e:Expr)(t:TE):Prop where
 h:PE X e t
structure QA(X:Cx)(es:List Expr)(t:TA):Prop where
 h:PA X es t
structure QS(X:Cx)(s:Stmt)(t:TS):Prop where
 h:PS X s t
structure QG(X:Cx)(e:Expr)(t:TG):Prop where
 h:PG X e t
structure QI(X:Cx)(tg it:Expr)(t:TI):Prop where
 h:PI X tg it t
structure RT(X:Cx)(es:List Expr)(t:TT):Prop where
 h:F9 X es t
structure SD(X:Cx)(f:Value->Value->Sem Value)(r:R2):Prop where
 h:mN X f r
structure OB(X:Cx)(f:Value)(r:List V->Hp->VK->Prop):Prop where
 h:gZ X f r
section
variable{a b o:Expr}{ta tb tc to:TE}{t u:TA}{tA QF:TT}{rest:List Expr}
theorem wH:SD X (binaryOp .LShift) (rI Kv fun i j=>.int (i*2^j.toNat)):=⟨CD⟩
variable{st:Stmt}{sr:List Stmt}{ts us:TS}{g:TG}
end
section
variable{wi:TI}{g:TG}{tb:TS}{tA:TT}
end
def cI(env:Env):List (Str×NameKind)->List (Str×Addr)->List (Str×Addr)
 |[],cs=>cs
 |(n,k)::r,cs=>cI env r (if k==.free then(n,(env.cells.lookup n).getD 0)::cs else cs)
theorem zX(h:∀x∈scope.names,x.2=.free->∃c,env.cells.lookup x.1=some c):closureFor scope env=pure (cI env scope.names []):=by
 unfold closureFor
 have key:∀(ns:List (Str×NameKind)) (cs:List (Str×Addr)),(∀x∈ns,x.2=.free->∃c,env.cells.lookup x.1=some c) ->
   (forIn ns cs fun(x:Str×NameKind) (r:List (Str×Addr))=>if (x.2==NameKind.free)=true then(do let a <- cellOf env x.1;pure (ForInStep.yield ((x.1,a)::r)))else(pure (ForInStep.yield r):Sem _))=pure (cI env ns cs):=by
  intro ns
  induction ns with
  |nil=>intro cs _;rfl
  |cons y r ih=>
   intro cs hc
   obtain⟨n,k⟩:=y
   rw[List.forIn_cons]
   have ihr:=fun cs=>ih cs fun x hx=>hc x (aA _ hx)
   by_cases hk:(k==NameKind.free)=true
   ·obtain⟨c,e⟩:=hc (n,k) aN (je hk)
    have e2:cellOf env n=pure c:=by unfold cellOf;rw[e]
    show((if (k==NameKind.free)=true then _ else _) >>= _)=pure (cI env r (if (k==NameKind.free)=true then _ else _))
    rw[aw hk,aw hk,e2]
    simp only[pure_bind]
    have e3:(env.cells.lookup n).getD 0=c:=by rw[show env.cells.lookup n=some c from e];rfl
    rw[e3]
    exact ihr _
   ·show((if (k==NameKind.free)=true then _ else _) >>= _)=pure (cI env r (if (k==NameKind.free)=true then _ else _))
    rw[aD hk,aD hk]
    simp only[pure_bind]
    exact ihr _
 have:=key scope.names [] h
 dsimp only
 rw[this];simp only[pure_bind]
theorem ku:∀(ns:List (Str×NameKind)) (cs:List (Str×Addr)),(∀x∈ns,x.2=.free->∃c,env.cells.lookup x.1=some c)->(∀y∈cs,env.cells.lookup y.1=some y.2)->∀y∈cI env ns cs,env.cells.lookup y.1=some y.2
 |[],cs,_,h=>h
 |(n,k)::r,cs,hf,h=>by
  refine ku r _ (fun x hx=>hf x (aA _ hx)) ?_
  by_cases hk:(k==NameKind.free)=true
  ·rw[aw hk]
   intro y hy
   rcases aJ.mp hy with rfl|hy
   ·obtain⟨c,e⟩:=hf (n,k) aN (je hk)
    show env.cells.lookup n=some ((env.cells.lookup n).getD 0)
    rw[show env.cells.lookup n=some c from e];rfl
   ·exact h y hy
  ·rw[aD hk];exact h
theorem q_:∀(ns:List (Str×NameKind)) (cs:List (Str×Addr)) (y:Str×Addr),y∈cs->y∈cI env ns cs
 |[],_,_,h=>h
 |(n,k)::r,cs,y,h=>by
  refine q_ r _ y ?_
  split
  ·exact aA _ h
  ·exact h
theorem nG{env:Env}:∀(ns:List (Str×NameKind)) (cs:List (Str×Addr)) (x:Str),(x,NameKind.free)∈ns->∃c,(x,c)∈cI env ns cs
 |[],_,_,h=>by simp at h
 |(n,k)::r,cs,x,h=>by
  rcases aJ.mp h with e|h
  ·obtain⟨e1,e2⟩:=mL e
   subst e1;subst e2
   exact⟨_,q_ r _ (x,_) (by rw[aw (by rfl:(NameKind.free==NameKind.free)=true)];exact aN)⟩
  ·exact nG r _ x h
theorem eR:∀{l:List (Str×β)} {x:Str} {b:β},l.lookup x=some b->(x,b)∈l
 |[],_,_,h=>by simp at h
 |(y,c)::r,x,b,h=>by
  rw[fE]at h
  cases hx:x==y with
  |true=>rw[hx]at h;have:=je hx;subst this;cases h;exact aN
  |false=>rw[hx]at h;exact aA _ (eR h)
theorem nH:∀{l:List (Str×β)} {x:Str} {b:β},(x,b)∈l->∃c,l.lookup x=some c
 |(y,c)::r,x,b,h=>by
  rw[fE]
  cases hx:x==y with
  |true=>exact⟨c,rfl⟩
  |false=>
   rcases aJ.mp h with e|h
   ·cases e;simp at hx
   ·exact nH h
theorem ml{env:Env}{g:Str×NameKind->Bool}:∀{names:List (Str×NameKind)} {x:Str},names.lookup x=some .free ->
  (names.map fun y=>if g y then(y.1,NameKind.cell)else y).lookup x=some .cell\/(names.map fun y=>if g y then(y.1,NameKind.cell)else y).lookup x=some .free
 |[],_,h=>by simp at h
 |(n,k)::r,x,h=>by
  rw[fE]at h
  rw[aC]
  have e1:∀y:Str×NameKind,(if g y then(y.1,NameKind.cell)else y).1=y.1:=fun y=>by split<;>rfl
  have e2:∀(y:Str×NameKind) (l:List (Str×NameKind)),(y::l).lookup x=if (x==y.1)=true then some y.2 else l.lookup x:=fun y l=>by
   obtain⟨a,b⟩:=y
   rw[fE]
   cases x==a<;>rfl
  rw[e2,e1]
  cases hx:x==n with
  |true=>
   rw[hx]at h
   cases h
   rw[aw rfl]
   by_cases hg:g (n,.free)=true
   ·rw[aw hg];exact .inl rfl
   ·rw[aD hg];exact .inr rfl
  |false=>
   rw[hx]at h
   rw[aD (by exact bM)]
   exact ml (env:=env) h
def wI(dn:List (Str×NameKind))(sn:List (Str×NameKind))(nm:List Str)(cap:List (Option Nat))(N:List Str):Bool:=
 (sn.all fun x=>!(x.2==.local)||sn.lookup x.1==some .local)&&(sn.all fun y=>!(y.2==.cell))&&(sn.all fun x=>!(x.2==.free)||dn.lookup x.1==some .cell)&&(cap.length==nm.length) &&
 ((List.range cap.length).all fun i=>match cap[i]? with
  |some (some j)=>(match nm[i]?,N[j]? with
   |some x,some y=>x==y&&dn.lookup x==some .cell&&sn.lookup x==some .free
   |_,_=>false)
  |_=>true)
theorem K3{pos:Pos}{wi:TI}{g:TG}{tc:TT}(gS:X.calm=true)
  (fj:X.env.cells=cellsFrom m X.env.scope.names []) (gF:scope.kind=.function) (hB:wI X.env.scope.names scope.names nm cap X.N=true)
  (hi:QI X tg iter wi) (hg:∀cl C s0 H0 fp,QG (bK X nm scope cl C s0 H0 fp) tg g) (ht:∀cl C s0 H0 fp,RT (bK X nm scope cl C s0 H0 fp) kU tc)
  (he:∀cl C s0 H0 fp,QE (bK X nm scope cl C s0 H0 fp) m7 te) (hs:∀x,foldedSetIterable iter X.env x=pure x:=by intro _;rfl) :
  QE X (.ListComp m7 [⟨tg,iter,kU,0⟩] scope pos) (t6 cap wi g tc te):=by
 simp only[wI,bf,d_,fT,hV,bT,a8]at hB
 obtain⟨⟨⟨⟨b1,b2⟩,b3⟩,b4⟩,b5⟩:=hB
 have has:∀x∈scope.names,x.2=.free->∃c,X.env.cells.lookup x.1=some c:=fun x hx hk=>by
  rw[fj]
  rcases b3 x hx with z|z
  ·exact absurd hk z
  ·exact jf z
 have jd:∀x c,(cI X.env scope.names []).lookup x=some c->X.env.cells.lookup x=some c:=fun x c h=>ku scope.names [] has (by simp) (x,c) (eR h)
 have hin:∀x,(x,NameKind.free)∈scope.names->∃c,(cI X.env scope.names []).lookup x=some c:=fun x h=>let ⟨_,q⟩:=nG (env:=X.env) scope.names [] x h;nH q
 have hmap:(relabel scope X.env).names=scope.names.map fun y=>if (y.2==.free&&X.env.scope.kind==.function&&X.env.kindOf y.1==some .cell)then(y.1,NameKind.cell)else y:=by
  show scope.names.map _=_
  refine aZ fun y _=>?_
  obtain⟨a,b⟩:=y
  rfl
 have fr:∀x,((relabel scope X.env).names.lookup x=some .cell\/(relabel scope X.env).names.lookup x=some .free)->(x,NameKind.free)∈scope.names:=fun x h=>by
  have h':∃k,(x,k)∈(relabel scope X.env).names/\(k=.cell\/k=.free):=by
   rcases h with h|h
   ·exact⟨_,eR h,.inl rfl⟩
   ·exact⟨_,eR h,.inr rfl⟩
  obtain⟨k,hm,hk⟩:=h'
  rw[hmap]at hm
  obtain⟨y,hy,e⟩:=am.mp hm
  obtain⟨a,b⟩:=y
  by_cases hb:b=.free
  ·subst hb
   have:a=x:=by split at e<;>(cases e;rfl)
   subst this;exact hy
  ·rw[aD (by simp[hb])]at e
   cases e
   rcases hk with rfl|rfl
   ·exact absurd rfl (b2 _ hy)
   ·exact absurd rfl hb
 refine⟨GN (cl:=cI X.env scope.names []) (cap:=cap) (nm:=nm) gS (zX has) jd gF (fun x hx hk=>(b1 x hx).resolve_left fun z=>z hk) (fun y hy=>b2 y hy) (fun x hx=>hin x (fr x hx)) (fun i j e=>?_) b4 hi.h (fun C s0 H0 fp=>(hg _ C s0 H0 fp).h) (fun C s0 H0 fp=>(ht _ C s0 H0 fp).h) (fun C s0 H0 fp=>(he _ C s0 H0 fp).h) hs⟩
 have hi':i<cap.length:=(aa.mp e).1
 have q:=b5 i (a_.mpr hi')
 rw[e]at q
 dsimp only at q
 cases hx:nm[i]? with
 |none=>rw[hx]at q;simp at q
 |some x=>
  cases hy:X.N[j]? with
  |none=>rw[hx,hy]at q;simp at q
  |some y=>
   rw[hx,hy]at q
   simp only[bf,bT]at q
   obtain⟨⟨rfl,q1⟩,q2⟩:=q
   refine⟨x,rfl,rfl,.inr (.inl q1),(by rw[q1];decide),?_,?_⟩
   ·obtain⟨c,hc⟩:=hin x (eR q2)
    rw[hc,jd _ _ hc]
   ·rw[hmap];exact ml (env:=X.env) q2
def GV(K:Frag):List V->Hp->VK->Prop:=fun xs H Q=>∃(p:Addr) (ys:List (List Nat)),xs=[.ref p]/\qk K H p (ys.map fun l=>V.str (tx l))/\ys.length<64 /\
 ∀zs:List (List Nat),zs.Perm ys->sortedS (zs.map tx)=true->∀l H2,H l=none->H2=dY H l (.lst (zs.map fun l=>V.str (tx l)))->Q (.ref l) H2
theorem zY(z:Str):tx z.cps.toList=z:=by cases z;rfl
theorem tj:OB X (.builtin "sorted") (GV X.K):=⟨by
 intro pins s σ H xs us Q I r h
 obtain⟨p,ys,rfl,hS,h64,q⟩:=h
 obtain⟨u,rfl,ru⟩:=lL r
 cases ru
 obtain⟨bw,rv,pl,hz⟩:=I.list hS
 have hl:=rv.length
 rw[aj]at hl
 refine sorted_strs (ss:=ys.map tx) pl.isList (nE (by simpa using rv)) (by omega) fun out ss' h1 h2 h3=>?_
 obtain⟨ep,hat⟩:=sortedAll_at s.heap bw out
 have qA:H (s.heap.objs.size+1)=none:=I.hok.fresh (gU _)
 have hmap:(ss'.map fun z=>z.cps.toList).map tx=ss':=by
  rw[aL]
  have:(tx∘fun z:Str=>z.cps.toList)=id:=funext fun z=>zY z
  rw[this,jW]
 have hperm:(ss'.map fun z=>z.cps.toList).Perm ys:=by
  have e:=h2.map fun z:Str=>z.cps.toList
  rw[aL]at e
  have:((fun z:Str=>z.cps.toList)∘tx)=id:=funext fun l=>by simp[tx]
  rw[this,jW]at e
  exact e
 have hvals:b8 ((ss'.map fun z=>z.cps.toList).map fun l=>V.str (tx l)) out.toList:=by
  have e:=nF h1
  rw[<- hmap,aL]at e
  exact e
 refine⟨.ref (s.heap.objs.size+1),_,I.laid (t':=s.toks) (fun b o e=>sortedAll_old e) (gU _) ?_,rfl,q _ hperm (by rw[hmap];exact h3) _ _ qA rfl⟩
 refine⟨?_,out.toList,ep,hvals,hat⟩
 rw[aj,hperm.length_eq]
 exact be (cV h64) (by decide)⟩
theorem bj.turned2{t':Nat}{e:Addr}(I:bj X pins σ H s)(k:∀b o,b≠e->b≠it->s.heap.get? b=some o->h'.get? b=some o)
  (he:∃o,h'.get? e=some o) (f1:nV X pins H e) (f2:nV X pins H it):bj X pins σ H { s with heap:=h',toks:=t' }:=by
 have nit:∀b u,H b=some u->b≠e/\b≠it:=fun b u q=>⟨fun z=>(by rw[z,f1.1]at q;cases q),fun z=>(by rw[z,f2.1]at q;cases q)⟩
 have nin:∀b,b∉[e,it]->b≠e/\b≠it:=fun b h=>⟨fun z=>h (by simp[z]),fun z=>h (by simp[z])⟩
 refine I.step (g':=s.gens) (d':=s.drawn) (ch:=[e,it]) (fun b hb=>?_) (fun b o _ _ hc q _=>k b o (nin b hc).1 (nin b hc).2 q) (fun b o _ _ hc q _=>⟨o.slots,k b o (nin b hc).1 (nin b hc).2 q⟩) (fun _ _ _ _ n=>n)
  (fun b o hc q=>⟨o,k b o (nin b hc).1 (nin b hc).2 q⟩) (fun _ _ q=>q) (fun _ _ _ q=>q) (fun b ps q=>⟨#[],by rw[q];simp⟩) (fun m hm=>?_) (fun b u q=>?_) I.bare
 ·have z:b=e\/b=it:=by simpa using hb
  rcases z with rfl|rfl
  ·exact⟨f1.2.2.2.1,f1.2.1,f1.2.2.2.2.1,f1.2.2.2.2.2⟩
  ·exact⟨f2.2.2.2.1,f2.2.1,f2.2.2.2.2.1,f2.2.2.2.2.2⟩
 ·obtain⟨o,es,ep,ho,r⟩:=hm
  exact⟨o,es,ep,k _ o (Ne.symm f1.2.1) (Ne.symm f2.2.1) ho,r⟩
 ·refine(I.hok b u q).stay (fun c v hc z=>?_) (fun _ z=>z) fun _ _ z=>z
  rcases hc with y|y
  ·rw[y]at z ⊢;exact k b v (nit b u q).1 (nit b u q).2 z
  ·exact k c v (nit c _ y).1 (nit c _ y).2 z
section
variable{w:World}
theorem tm{t:Addr}{bw:Array Value}{x:Value}(st:s.heap.IsTupleIter it t i)(ht:s.heap.IsTuple t bw)(hx:bw[i]?=some x)
  (q:∀g,g.IsTupleIter it t (i+1)->Heap.SameBut it s.heap g->Q x { s with heap:=g }):wpAny (model prog w) A (Builtin.SmallTypes.nextOf (.ref it)) Q E s:=by
 obtain⟨ob,e1,e2,e3⟩:=id st
 obtain⟨ot,g1,_,nt,g3⟩:=ht
 have T:=st.typeIs
 unfold Builtin.SmallTypes.nextOf
 refine af (cY (name:=Str.ofString "__next__") T eF (cZ eF T i_ ?_ (iQ _)))
 show wpAny _ _ (field (.ref it) 0 >>= _) _ _ s
 refine af (gc e1 e3 (x:=.ref t) rfl ?_)
 dsimp only
 rw[aD (show ¬ ((Value.ref t==Value.none)=true)from bM)]
 refine af (gc e1 e3 (x:=.int i 0) rfl ?_)
 dsimp only
 refine af (fF g1 g3 ?_)
 simp only[aK,hx]
 refine af (wpAny_setField e1 e3 (by simp) (au ⟨x,rfl,au (q _ ?_ (cy ..))⟩))
 exact⟨_,fV _ e1 (Obj.isFreed_of_fields (Obj.data_mapFields e3 _)),(Obj.cls_mapFields ..).trans e2,by rw[Obj.data_mapFields e3];simp[rawInt]⟩
theorem nZ{t:Addr}{bw:Array Value}(hh:A.handled=none)(st:s.heap.IsTupleIter it t i)(ht:s.heap.IsTuple t bw)(hx:bw[i]?=none)
  (q:∀g e,Heap.ExtBut it s.heap g->(∃o,g.get? e=some o/\o.cls=.type "StopIteration")->E (.ref e) { s with heap:=g }):wpAny (model prog w) A (Builtin.SmallTypes.nextOf (.ref it)) Q E s:=by
 obtain⟨ob,e1,e2,e3⟩:=id st
 obtain⟨ot,g1,_,nt,g3⟩:=ht
 have T:=st.typeIs
 unfold Builtin.SmallTypes.nextOf
 refine af (cY (name:=Str.ofString "__next__") T eF (cZ eF T i_ ?_ (iQ _)))
 show wpAny _ _ (field (.ref it) 0 >>= _) _ _ s
 refine af (gc e1 e3 (x:=.ref t) rfl ?_)
 dsimp only
 rw[aD (show ¬ ((Value.ref t==Value.none)=true)from bM)]
 refine af (gc e1 e3 (x:=.int i 0) rfl ?_)
 dsimp only
 refine af (fF g1 g3 ?_)
 simp only[aK,hx]
 refine af (gK (af (wpAny_setField e1 e3 (by simp) (af ?_))))
 simp only[newExc,newTuple]
 refine af (dQ (af (m:=firstArgMember _ _) (wpAny_of_eq (a:=Value.none) (by first|rfl|(simp only[firstArgMember];rfl)) (dQ ?_ (by size_fits)))) (by size_fits))
 simp only[raiseNew]
 refine af (wpAny_handled ?_)
 rw[show A.in1.handled=none from hh]
 exact af (au (wpAny_throw (q _ _ (((cy ..).extBut.push _).push _) ⟨_,aS _ rfl,rfl⟩)))
end
theorem C3{w:World}{A:Around}(hh:A.handled=none)(it t:Addr)(lx:t≠it)(bw:Array Value) :
  Draws prog w A it [it,t] bw.size (fun i v=>bw[i]?=some v) (fun i h=>h.IsTupleIter it t i/\h.IsTuple t bw) where
 live:=fun _ _ st=>let ⟨o,e,_⟩:=st.1;⟨o,e⟩
 frame:=fun _ h h' st k=>⟨st.1.at fun o e=>k it (by simp) o e,let ⟨o,e,r⟩:=st.2;⟨o,k t (by simp) o e,r⟩⟩
 item:=fun i s Q E hi st q=>tm st.1 st.2 (x:=bw[i]) (by simp[hi]) fun g a b=>q _ g s.toks (by simp[hi]) ⟨a,st.2.extBut b.extBut lx⟩ b
 done:=fun s Q E st q=>nZ hh st.1 st.2 (by simp) q
open AutoSeq1 (wpAny_loadPart')
def SF(K:Frag)(a:Addr):It:=
 ⟨fun i H=>∃xs x,eG K H a xs/\xs[i]?=some x,fun i H v H'=>∃p,H p=none/\v=.ref p/\∀xs x,eG K H a xs->xs[i]?=some x->H'=dY H p (.tup [.int i,x]),fun i H=>∃xs,eG K H a xs/\xs.length<=i⟩
theorem Bo{w:World}(a it e:Addr)(Sx:e≠it) :
  A2 P w K (.Tuple FW kk pos) (SF K a) [e,it] e (fun i h=>(∃old,IsEnum h e it i old)/\h.IsTupleIter it a i) where
 mem:=by simp
 obj:=fun i h st b hb=>by
  have z:b=e\/b=it:=by simpa using hb
  rcases z with rfl|rfl
  ·obtain⟨old,q⟩:=st.1
   exact⟨_,q,fun v z=>by cases z⟩
  ·obtain⟨o,q,c,d⟩:=st.2
   exact⟨o,q,fun v z=>by rw[d]at z;cases z⟩
 keep:=fun i h h' st k=>⟨let ⟨old,q⟩:=st.1;⟨old,k e (by simp) _ q⟩,st.2.at fun o q=>k it (by simp) o q⟩
 item:=by
  intro X hP hw hK hc i pins s σ H E I hf st hg
  subst hP hw hK
  obtain⟨xs,x,hq,hx⟩:=hg
  obtain⟨bw,rv,p,hz⟩:=I.tuple hq
  obtain⟨u,hu,ru⟩:=rv.get hx
  obtain⟨⟨old,he⟩,hit⟩:=st
  have hT:s.heap.IsTuple a bw.toArray:=p
  obtain⟨oa,ha,hca,_⟩:=id hT
  obtain⟨oi,hi,hci,_⟩:=id hit
  have nai:a≠it:=fun z=>by
   rw[z,hi]at ha;cases ha
   rw[hci]at hca;injection hca with z;exact absurd z (by decide)
  have nae:a≠e:=fun z=>by
   rw[z,he]at ha;cases ha
   injection hca with z;exact absurd z (by decide)
  have jS:i<bw.toArray.size:=by
   have:=(aa.mp hu).1
   simpa using this
  refine wpAny_pyNext_enum_itemD (C3 (A:=X.A.in1) (I.ok.hd hc) it a nai bw.toArray) he ⟨hit,hT⟩ jS Sx (by simp[Sx,Ne.symm nae]) fun x' g tk pi ho' bv htup hsz hk=>⟨_,rfl,?_⟩
  have ex:x'=u:=by
   have e1:bw[i]?=some x':=by simpa using pi
   rw[hu]at e1;exact(aM e1).symm
  subst ex
  refine wpAny_letOwnedTupleGo_enum ho' fun g2 Sf AR=>?_
  have qA:H s.heap.objs.size=none:=I.hok.fresh (av _)
  have I1:bj X pins σ (dY H s.heap.objs.size (.tup [.int i,x])) { s with heap:=s.heap.push { cls:=.type "tuple",data:=.seq #[.int i tk,x'] },toks:=tk+1 }:=I.laid (fun b o q=>ao _ q) (av _)
   ⟨by show 2<=sizeLine;decide,[.int i tk,x'],.cons ⟨tk,rfl⟩ (.cons ru .nil),⟨_,aS _ rfl,rfl,_,rfl⟩⟩
  have nf:∀b∈[e,it],b≠s.heap.objs.size:=fun b hb=>by
   have z:b=e\/b=it:=by simpa using hb
   rcases z with rfl|rfl
   ·exact bt (aF he)
   ·exact bt (aF hi)
  have fp:∀b∈[e,it],nV X pins (dY H s.heap.objs.size (.tup [.int i,x])) b:=fun b hb=>by
   obtain⟨f0,f⟩:=hf b hb
   exact⟨by rw[bX (nf b hb)];exact f0,f⟩
  have he2':IsEnum g2 e it ((i:Int)+1) x':=Sf
  have I2:bj X pins σ (dY H s.heap.objs.size (.tup [.int i,x])) { s with heap:=g2,toks:=tk+1 }:=I1.turned2 (t':=tk+1) (fun b o hbe hbi q=>?_) ⟨_,he2'⟩ (fp e (by simp)) (fp it (by simp))
  ·refine⟨.ref s.heap.objs.size,_,I2,rfl,⟨_,qA,rfl,fun ys y hy ye=>?_⟩,⟨⟨x',by simpa using he2'⟩,bv.1.extBut AR.extBut (Ne.symm Sx)⟩,fun b hb=>(fp b hb).1⟩
   have e1:=I.tuple_inj hy hq
   subst e1
   rw[hx]at ye;cases ye;rfl
  ·have q':(s.heap.push { cls:=.type "tuple",data:=.seq #[.int i tk,x'] }).get? b=some o:=q
   refine AR.extBut b o hbe ?_
   by_cases hb:b=s.heap.objs.size
   ·subst hb
    have e1:=aS s.heap (o:={ cls:=.type "tuple",data:=.seq #[.int i tk,x'] }) rfl
    rw[e1]at q';cases q'
    exact htup
   ·rw[Heap.get?_push_ne _ _ _ hb]at q'
    exact hk b o hbe hbi q'
 done:=by
  intro X hP hw hK hc i pins s σ H E I hf st hg
  subst hP hw hK
  obtain⟨xs,hq,hx⟩:=hg
  obtain⟨bw,rv,p,hz⟩:=I.tuple hq
  obtain⟨⟨old,he⟩,hit⟩:=st
  have hT:s.heap.IsTuple a bw.toArray:=p
  have hl:=rv.length
  have hT':Shared.TypeIs s (.ref e) "enumerate":=⟨_,he,rfl⟩
  unfold pyNext
  refine af (wpAny_attempt (cY (name:=Str.ofString "__next__") hT' l9 (cZ l9 hT' F.entry_enumerate_next ?_ (F.args_enumerate_next_1 _))))
  show wpAny _ _ (field (.ref e) 2 >>= _) _ _ _
  refine af (gc he rfl (x:=.ref it) rfl (af (nZ (show X.A.in1.handled=none from I.ok.hd hc) hit hT (by simp;omega) fun g y pi hy=>?_)))
  obtain⟨o,ho,jd⟩:=hy
  refine af (iq (T:="StopIteration") (b:=true) ⟨o,ho,jd⟩ isSubtype_stop (au ⟨rfl,?_⟩))
  obtain⟨f0,f1,f2,f3,f4,f5⟩:=hf it (by simp)
  exact I.turned (t':=s.toks) (fun b o hb q=>pi b o hb q) f0 f1 f3 f4 f5
 self:=fun A i s Q E st h=>let ⟨_,q⟩:=st.1;wpAny_pyIter_enum q h
open AutoSeq1 (wpAny_loadPart')
abbrev n5(t:Addr):Obj:={ cls:=.type "tuple_iterator",data:=.fields #[.ref t,.int 0 0] }
abbrev yz(it:Addr):Obj:={ cls:=.type "enumerate",data:=.fields #[.none,.bool false,.ref it,rawInt 0,.none,.none] }
theorem K4(t:Addr)(bw:Array Value)(n:Nat)(dc:Option Addr)(sl:Array (Option Value)) :
  Meets (Builtin.«enumerate.__new__» ⟨[.type "enumerate",.ref t],[]⟩) (fun _ R s=>s.heap.get? t=some { cls:=.type "tuple",dict:=dc,data:=.seq bw n,slots:=sl } /\
   R (.ok (.ret (.ref (s.heap.push (n5 t)).objs.size))) { s with heap:=(s.heap.push (n5 t)).push (yz s.heap.objs.size) }):=
 .of_wp fun prog w A R s h=>by
  obtain⟨hp,g,d,tk,os⟩:=s
  obtain⟨ht,h⟩:=h
  have sb:=sub_enumerate
  have hT:Heap.IsTuple (Shared.heap ⟨hp,g,d,tk,os⟩) t bw:=⟨_,ht,rfl,n,rfl⟩
  wp_walk using bE ht
  refine wpAny_stack_any fun st=>au ?_
  split
  ·rename_i c _ _ _ _ _
   cases(c==Value.type "enumerate")<;>(wp_walk using bE ht,jz hT;exact⟨_,rfl,h⟩)
  ·wp_walk using bE ht,jz hT
   exact⟨_,rfl,h⟩
section
variable{w:World}
theorem tq{t:Addr}{bw:Array Value}(hT:s.heap.IsTuple t bw)
  (q:∀g,IsEnum g (s.heap.objs.size+1) s.heap.objs.size 0 .none->g.IsTupleIter s.heap.objs.size t 0->(∀b o,s.heap.get? b=some o->g.get? b=some o)->Q (.ref (s.heap.objs.size+1)) { s with heap:=g }) :
  wpAny (model prog w) A (call (.type "enumerate") [.ref t]) Q E s:=by
 obtain⟨⟨c,dc,dt,sl⟩,ht,hc,n,hd⟩:=hT
 obtain rfl:c=.type "tuple":=hc
 obtain rfl:dt=.seq bw n:=hd
 refine callType_new F.called_enumerate (by decide) (F.typeCall_enumerate_1 _) (F.newCall_enumerate_1 _) (fun ob=>F.args_object_init_2 ob _) F.entry_enumerate_new (K4 t bw n dc sl) ⟨ht,?_⟩
 have z:(s.heap.push (n5 t)).objs.size=s.heap.objs.size+1:=jB ..
 show _/\_
 rw[z]
 have e1:IsEnum ((s.heap.push (n5 t)).push (yz s.heap.objs.size)) (s.heap.objs.size+1) s.heap.objs.size 0 .none:=by
  have y:=aS (s.heap.push (n5 t)) (o:=yz s.heap.objs.size) rfl
  rw[z]at y;exact y
 exact⟨⟨_,e1,rfl⟩,q _ e1 ⟨_,ao _ (aS _ rfl),rfl,rfl⟩ fun b o y=>ao _ (ao _ y)⟩
end
section
def RU(K:Frag)(ta:TA):TI:=fun σ H R=>ta σ H fun vs H1=>∃a,vs=[.ref a]/\(∃xs,eG K H1 a xs)/\R (SF K a) H1
theorem C4{a:Expr}{ta:TA}{p pos tp:Pos}{FW:List Expr}{kk:Nat}(hm:X.mg "enumerate"=none)(ha:QA X [a] ta)(hg:Gl X "enumerate":=by rfl)(hs:starEach [a] X.env=[(false,eval a X.env)]:=by rfl) :
  QI X (.Tuple FW kk tp) (.Call (.Name "enumerate" p) [a] [] pos) (RU X.K ta):=⟨by
 intro pins s σ H R I h
 refine Call_ (me I hg hm boot_enumerate (c_ (fI (ha.h pos pins s σ H _ I h) fun us s1 ⟨vs,H1,I1,r1,q1⟩=>?_) hs rfl))
 obtain⟨t,e,⟨xs,hq⟩,q⟩:=q1
 subst e
 obtain⟨u,rfl,ru⟩:=lL r1
 cases ru
 obtain⟨bw,rv,pt,hz⟩:=I1.tuple hq
 refine tq (show s1.heap.IsTuple t bw.toArray from pt) fun g e1 e2 kp=>?_
 refine wpAny_pyIter_enum e1 ?_
 refine⟨s1.heap.objs.size+1,[s1.heap.objs.size+1,s1.heap.objs.size],_,_,H1,rfl,I1.kept (t':=s1.toks) kp,Bo t _ _ (Nat.succ_ne_self _),⟨⟨_,e1⟩,e2⟩,fun b hb=>?_,q⟩
 have z:b=s1.heap.objs.size+1\/b=s1.heap.objs.size:=by simpa using hb
 rcases z with rfl|rfl
 ·exact I1.fpOk (gU _) (I1.hok.fresh (gU _))
 ·exact I1.fpOk (av _) (I1.hok.fresh (av _))⟩
end
section
variable{g:TG}{tc:TT}{H1:Hp}{Q:VK}
end
section
variable{w:World}
end
section
variable{w:World}{R:Result->Shared->Prop}{I:Addr}{wr:List Addr}{P:Nat->Value->Prop}{St:Nat->Heap->Prop}
end
section
variable{w:World}
end
section
end
section
variable{w:World}
end
section
variable{w:World}
end
section
variable{w:World}
end
section
variable{w:World}
end
section
variable{w:World}
end
section
variable{w:World}
end
theorem bj.kept2{d':Drawn}(I:bj X pins σ H s)(k:∀b o,s.heap.get? b=some o->h'.get? b=some o):bj X pins σ H { s with heap:=h',drawn:=d',toks:=t' }:=
 I.step (g':=s.gens) (ch:=[]) (fun _ z=>nomatch z) (fun b o _ _ _ e _=>k b o e) (fun b o _ _ _ e _=>⟨o.slots,k b o e⟩) (fun _ _ _ _ n=>n) (fun b o _ e=>⟨o,k b o e⟩) (fun _ _ e=>e) (fun _ _ _ e=>e) (fun b ps e=>⟨#[],by rw[e];simp⟩)
  (fun m hm=>let ⟨o,es,ep,ho,r⟩:=hm;⟨o,es,ep,k _ o ho,r⟩) (I.hok.kept k) I.bare
section
variable{w:World}
end
section
variable{wi:TI}{g:TG}{tc:TT}
theorem yA{x0:Str}{p0 p1:Pos}{gx:TG}(MZ:PG X (.Name x0 p0) gx)(M9:swapsWith (.ListComp m7 [⟨tg,iter,kU,0⟩] scope pos) (some (.Name x0 p0)) p1.line X.env=pure true)(gS:X.calm=true)(yj:closureFor scope X.env=pure cl)(jd:∀x c,cl.lookup x=some c->X.env.cells.lookup x=some c)
  (gF:scope.kind=.function) (sR:∀x∈scope.names,x.2=.local->scope.names.lookup x.1=some .local) (fR:∀y∈scope.names,y.2≠.cell)
  (F6:∀x,((relabel scope X.env).names.lookup x=some .cell\/(relabel scope X.env).names.lookup x=some .free)->∃c,cl.lookup x=some c)
  (x8:∀(i j:Nat),cap[i]?=some (some j)->∃x,nm[i]?=some x/\X.N[j]?=some x/\zT X scope cl x) (dH:cap.length=nm.length)
  (hi:PI X tg iter wi) (hg:∀C s0 H0 fp,PG (bK X nm scope cl C s0 H0 fp) tg g) (ht:∀C s0 H0 fp,F9 (bK X nm scope cl C s0 H0 fp) kU tc)
  (he:∀C s0 H0 fp,PE (bK X nm scope cl C s0 H0 fp) m7 te) (hs:∀x,foldedSetIterable iter X.env x=pure x:=by intro _;rfl) :
  PS X (.Assign [.Name x0 p0] (.ListComp m7 [⟨tg,iter,kU,0⟩] scope pos) p1) (Cz (t6 cap wi g tc te) gx):=by
 intro pins s σ H D I h
 rw[exec_Assign_Name_used _ _ _ _ M9]
 suffices main:wpAny (model X.prog X.w) X.A (comprehension (.ListComp m7 [⟨tg,iter,kU,0⟩] scope pos) scope X.env (firstIterPos [⟨tg,iter,kU,0⟩] pos) (newList []) (firstAsync [⟨tg,iter,kU,0⟩]) (firstIter [⟨tg,iter,kU,0⟩] X.env) (some (assign (.Name x0 p0) X.env))) (fun _ s'=>SP X pins D .next s') X.xe s from
  af (kh (af (af (dJ main (fun _ s' h=>au (au h)) fun _ _ z=>z))))
 refine t7 gS yj jd gF sR fR F6 x8 dH hi hg ht he hs I h fun s4 C D m4 Hn I4 B q=>?_
 obtain⟨oC,es,ep,hoC,hdC,hrC⟩:=B.ns
 refine dJ (MZ _ s4 σ _ (.ref D) (.ref D) _ (I4.pins_of (pins':=pins++[(C,oC)]) fun p hp=>?_) rfl q) (fun _ s5 h5=>?_) fun _ _ z=>z
 ·rcases aH.mp hp with z|z
  ·exact I4.pin p (aT _ z)
  ·have e:p=(C,oC):=by simpa using z
   subst e
   exact⟨hoC,B.fr,B.nl,B.nf,fun v z=>by rw[hdC]at z;cases z⟩
 obtain⟨σ',H',I6,nx⟩:=h5
 have pC:=I6.pin (C,oC) (aT _ (aT _ (bd.mpr rfl)))
 have I7:bj X pins σ' H' s5:=I6.pins_of fun p hp=>I6.pin p (aT _ (cF _ hp))
 have B7:zU X pins H' s5 C m4:=⟨⟨oC,es,ep,pC.1,hdC,hrC⟩,pC.2.1,B.nl,B.nf,B.hi,B.nc,B.np⟩
 exact⟨m4,B7.ns,fun h' hs'=>⟨σ',H',B7.off I7 hs',nx⟩⟩
end
theorem yB{x0:Str}{p0 p1:Pos}{gx:TG}{pos:Pos}{wi:TI}{g:TG}{tc:TT}(MZ:QG X (.Name x0 p0) gx)(gS:X.calm=true)
  (fj:X.env.cells=cellsFrom m X.env.scope.names []) (gF:scope.kind=.function) (hB:wI X.env.scope.names scope.names nm cap X.N=true)
  (hi:QI X tg iter wi) (hg:∀cl C s0 H0 fp,QG (bK X nm scope cl C s0 H0 fp) tg g) (ht:∀cl C s0 H0 fp,RT (bK X nm scope cl C s0 H0 fp) kU tc)
  (he:∀cl C s0 H0 fp,QE (bK X nm scope cl C s0 H0 fp) m7 te) (hs:∀x,foldedSetIterable iter X.env x=pure x:=by intro _;rfl) (M9:swapsWith (.ListComp m7 [⟨tg,iter,kU,0⟩] scope pos) (some (.Name x0 p0)) p1.line X.env=pure true:=by first|rfl|kernel_rfl) :
  QS X (.Assign [.Name x0 p0] (.ListComp m7 [⟨tg,iter,kU,0⟩] scope pos) p1) (Cz (t6 cap wi g tc te) gx):=by
 simp only[wI,bf,d_,fT,hV,bT,a8]at hB
 obtain⟨⟨⟨⟨b1,b2⟩,b3⟩,b4⟩,b5⟩:=hB
 have has:∀x∈scope.names,x.2=.free->∃c,X.env.cells.lookup x.1=some c:=fun x hx hk=>by
  rw[fj]
  rcases b3 x hx with z|z
  ·exact absurd hk z
  ·exact jf z
 have jd:∀x c,(cI X.env scope.names []).lookup x=some c->X.env.cells.lookup x=some c:=fun x c h=>ku scope.names [] has (by simp) (x,c) (eR h)
 have hin:∀x,(x,NameKind.free)∈scope.names->∃c,(cI X.env scope.names []).lookup x=some c:=fun x h=>let ⟨_,q⟩:=nG (env:=X.env) scope.names [] x h;nH q
 have hmap:(relabel scope X.env).names=scope.names.map fun y=>if (y.2==.free&&X.env.scope.kind==.function&&X.env.kindOf y.1==some .cell)then(y.1,NameKind.cell)else y:=by
  show scope.names.map _=_
  refine aZ fun y _=>?_
  obtain⟨a,b⟩:=y
  rfl
 have fr:∀x,((relabel scope X.env).names.lookup x=some .cell\/(relabel scope X.env).names.lookup x=some .free)->(x,NameKind.free)∈scope.names:=fun x h=>by
  have h':∃k,(x,k)∈(relabel scope X.env).names/\(k=.cell\/k=.free):=by
   rcases h with h|h
   ·exact⟨_,eR h,.inl rfl⟩
   ·exact⟨_,eR h,.inr rfl⟩
  obtain⟨k,hm,hk⟩:=h'
  rw[hmap]at hm
  obtain⟨y,hy,e⟩:=am.mp hm
  obtain⟨a,b⟩:=y
  by_cases hb:b=.free
  ·subst hb
   have:a=x:=by split at e<;>(cases e;rfl)
   subst this;exact hy
  ·rw[aD (by simp[hb])]at e
   cases e
   rcases hk with rfl|rfl
   ·exact absurd rfl (b2 _ hy)
   ·exact absurd rfl hb
 refine⟨yA MZ.h M9 (cl:=cI X.env scope.names []) (cap:=cap) (nm:=nm) gS (zX has) jd gF (fun x hx hk=>(b1 x hx).resolve_left fun z=>z hk) (fun y hy=>b2 y hy) (fun x hx=>hin x (fr x hx)) (fun i j e=>?_) b4 hi.h (fun C s0 H0 fp=>(hg _ C s0 H0 fp).h) (fun C s0 H0 fp=>(ht _ C s0 H0 fp).h) (fun C s0 H0 fp=>(he _ C s0 H0 fp).h) hs⟩
 have hi':i<cap.length:=(aa.mp e).1
 have q:=b5 i (a_.mpr hi')
 rw[e]at q
 dsimp only at q
 cases hx:nm[i]? with
 |none=>rw[hx]at q;simp at q
 |some x=>
  cases hy:X.N[j]? with
  |none=>rw[hx,hy]at q;simp at q
  |some y=>
   rw[hx,hy]at q
   simp only[bf,bT]at q
   obtain⟨⟨rfl,q1⟩,q2⟩:=q
   refine⟨x,rfl,rfl,.inr (.inl q1),(by rw[q1];decide),?_,?_⟩
   ·obtain⟨c,hc⟩:=hin x (eR q2)
    rw[hc,jd _ _ hc]
   ·rw[hmap];exact ml (env:=X.env) q2
open AutoSeq1 (wpAny_loadPart')
theorem C5(l b:Addr)(i1 i2:Array Value)(n1 n2:Nat)(d1 d2:Option Addr)(s1 s2:Array (Option Value))(h0:i1.isEmpty=true) :
  Meets (Builtin.«tuple.__add__» ⟨[.ref l,.ref b],[]⟩) (fun _ R s=>s.heap.get? l=some { cls:=.type "tuple",dict:=d1,data:=.seq i1 n1,slots:=s1 }/\s.heap.get? b=some { cls:=.type "tuple",dict:=d2,data:=.seq i2 n2,slots:=s2 }/\R (.ok (.ret (.ref b))) s):=
 .of_wp fun prog w A R s h=>by
  obtain⟨hp,g,d,tk,os⟩:=s
  obtain⟨e1,e2,h⟩:=h
  have a2:=PyProof.Rows.sub_tuple_tuple
  wp_walk using bE e1,bE e2
  exact⟨_,rfl,h⟩
def OC(K:Frag):R2:=fun x y H Q=>∃a b xs ys,x=.ref a/\y=.ref b/\eG K H a xs/\eG K H b ys/\xs.length+ys.length<=sizeLine/\∀p H2,m9 H H2->eG K H2 p (xs++ys)->Q (.ref p) H2
theorem K5:SD X (binaryOp .Add) (OC X.K):=⟨by
 intro pins s σ H x y v u Q I rx ry h
 obtain⟨a,b,xs,ys,rfl,rfl,ha,hb,hz,q⟩:=h
 by_cases hx:xs=[]
 ·subst hx
  cases rx
  cases ry
  obtain⟨bw,r1,p1,_⟩:=I.tuple ha
  obtain⟨its2,r2,p2,_⟩:=I.tuple hb
  have e1:bw=[]:=r1.nil_iff.mpr rfl
  obtain⟨⟨c1,d1,g1,l1⟩,f1,hc1,n1,Ri⟩:=id p1
  obtain⟨⟨c2,d2,g2,l2⟩,f2,hc2,n2,Cs⟩:=id p2
  simp only at hc1 Ri hc2 Cs
  subst hc1 Ri hc2 Cs
  refine oX ⟨_,f1,rfl⟩ ⟨_,f2,rfl⟩ kM nw PySem.F.slot_tuple_add PySem.F.entry_tuple_add (PySem.F.args_tuple_add_2 _ _) (C5 a b bw.toArray its2.toArray n1 n2 d1 d2 l1 l2 (by rw[e1];rfl)) ⟨f1,f2,?_⟩
  exact⟨.ref b,H,I,rfl,q b H (m9.refl H) hb⟩
 ·exact GC pins s σ H _ _ v u Q I rx ry ⟨a,b,xs,ys,rfl,rfl,ha,hb,hx,hz,fun e=>q a H (m9.refl H) (by rw[e,cn];exact ha),fun _ p hp=>q p _ (cf hp _) (eG.of df)⟩⟩
inductive W where
 |non|bl (b:Bool)|int (i:Int)|str (l:List Nat)|tup (ws:List W)|loc (n:Nat)
inductive DK where
 |i (z:Int)|s (l:List Nat)
deriving DecidableEq
def DK.key:DK->fK
 |.i z=>.inl z
 |.s l=>.inr (tx l)
inductive KX where
 |bo (b:Bool)|fl (ks:List Int)|pr (i:Int) (ks:List Int)
deriving DecidableEq
def KX.w:KX->W
 |.bo b=>.bl b
 |.fl ks=>.tup (ks.map W.int)
 |.pr i ks=>.tup [.int i,.tup (ks.map W.int)]
def C6(ks:List Int):Int:=reduceHash (Builtin.Tuple.tupleHashOf (ks.map hashInt))
def KX.hash:KX->Int
 |.bo b=>hashInt (if b then 1 else 0)
 |.fl ks=>C6 ks
 |.pr i ks=>reduceHash (Builtin.Tuple.tupleHashOf [hashInt i,C6 ks])
inductive ai where
 |lst (ws:List W)
 |ro (ws:List W)
 |exc (c:Str)
 |dct (kvs:List (DK×W))
 |tab (P:Addr) (pos:Pos) (q:Str)
 |rod (kvs:List (DK×W))
 |dcx (kvs:List (KX×W))
 |pin (k:Bool) (c:Addr) (o:Obj) (w:W)
 |gone
abbrev jh:Nat:=1000000
theorem il(h:n<=jh):n<=sizeLine:=be h (by decide)
theorem K6(h:n<=jh):n<sizeLine:=jA h (by decide)
inductive R(α:Type) where
 |ok (a:α) (st:List ai)
 |ex (c:Str) (st:List ai)
 |bad
end L2
variable{kvs:List (L2.KX×L2.W)}{ws cws:List L2.W}{bv st1:List L2.ai}{F G:List L2.W->List L2.ai->L2.R L2.W}{ck:Option (Nat×List L2.W)}
namespace L2
open PySem PySem.Spec PyProof.Rows
def R.bind:R α->(α->List ai->R β)->R β
 |.ok a st,k=>k a st
 |.ex c st,_=>.ex c st
 |.bad,_=>.bad
@[simp] theorem R.bind_ok{α β:Type}(a:α)(st:List ai)(k:α->List ai->R β):(R.ok a st).bind k=k a st:=rfl
@[simp] theorem R.bind_ex{α β:Type}(c:Str)(st:List ai)(k:α->List ai->R β):(R.ex c st:R α).bind k=.ex c st:=rfl
@[simp] theorem R.bind_bad{α β:Type}(k:α->List ai->R β):(R.bad:R α).bind k=.bad:=rfl
abbrev bY:=List (Option W)
inductive RS where
 |nx (ρ:bY) (st:List ai)|rt (w:W) (st:List ai)|bk (ρ:bY) (st:List ai)|ct (ρ:bY) (st:List ai)
 |ex (c:Str) (ρ:bY) (st:List ai)|bad
abbrev FE:=bY->List ai->R W
abbrev FT:=bY->List ai->R Bool
abbrev FA:=bY->List ai->R (List W)
abbrev FS:=bY->List ai->RS
section
variable(K:Frag)
mutual
def bb(μ:List Addr)(H:Hp):W->V->Prop
 |.non,v=>v=.non
 |.bl b,v=>v=.bl b
 |.int i,v=>v=.int i
 |.str l,v=>v=.str (tx l)
 |.tup ws,v=>∃p vs,v=.ref p/\eG K H p vs/\RelWs μ H ws vs
 |.loc n,v=>∃a,μ[n]?=some a/\v=.ref a
def RelWs(μ:List Addr)(H:Hp):List W->List V->Prop
 |[],vs=>vs=[]
 |w::ws,vs=>∃x xs,vs=x::xs/\bb μ H w x/\RelWs μ H ws xs
end
end
theorem pre_get(h:μ <+: μ')(e:μ[n]?=some a):μ'[n]?=some a:=by
 obtain⟨t,rfl⟩:=h
 rw[aq (aa.mp e).1];exact e
section
mutual
theorem bb.mono(h:μ <+: μ')(e:c9 K H H'):∀{w:W} {v:V},bb K μ H w v->bb K μ' H' w v
 |.non,_,r=>by unfold bb at r ⊢;exact r
 |.bl _,_,r=>by unfold bb at r ⊢;exact r
 |.int _,_,r=>by unfold bb at r ⊢;exact r
 |.str _,_,r=>by unfold bb at r ⊢;exact r
 |.tup _,_,r=>by unfold bb at r ⊢;obtain⟨p,vs,a,b,c⟩:=r;exact⟨p,vs,a,e _ _ b,RelWs.mono h e c⟩
 |.loc _,_,r=>by unfold bb at r ⊢;obtain⟨a,b,c⟩:=r;exact⟨a,pre_get h b,c⟩
theorem RelWs.mono(h:μ <+: μ')(e:c9 K H H'):∀{ws:List W} {vs:List V},RelWs K μ H ws vs->RelWs K μ' H' ws vs
 |[],_,r=>by unfold RelWs at r ⊢;exact r
 |_::_,_,r=>by unfold RelWs at r ⊢;obtain⟨x,xs,a,b,c⟩:=r;exact⟨x,xs,a,bb.mono h e b,RelWs.mono h e c⟩
end
theorem RelWs.nilI:RelWs K μ H [] []:=by unfold RelWs;rfl
theorem RelWs.consI{w:W}{x:V}{xs:List V}(a:bb K μ H w x)(b:RelWs K μ H ws xs):RelWs K μ H (w::ws) (x::xs):=by unfold RelWs;exact⟨x,xs,rfl,a,b⟩
theorem RelWs.nilE(h:RelWs K μ H [] vs):vs=[]:=by unfold RelWs at h;exact h
theorem RelWs.consE{w:W}(h:RelWs K μ H (w::ws) vs):∃x xs,vs=x::xs/\bb K μ H w x/\RelWs K μ H ws xs:=by unfold RelWs at h;exact h
theorem RelWs.pr:∀{ws:List W} {vs:List V},RelWs K μ H ws vs↔Paired (fun w v=>bb K μ H w v) ws vs
 |[],vs=>⟨fun h=>by rw[h.nilE];exact .nil,fun h=>by cases h;exact .nilI⟩
 |w::ws,vs=>⟨fun h=>by obtain⟨x,xs,rfl,a,b⟩:=h.consE;exact .cons a (RelWs.pr.mp b),fun h=>by cases h with|cons a b=>exact .consI a (RelWs.pr.mpr b)⟩
theorem RelWs.len(h:RelWs K μ H ws vs):ws.length=vs.length:=Paired.length (RelWs.pr.mp h)
theorem RelWs.app:∀{as:List W} {xs:List V} {bs:List W} {ys:List V},RelWs K μ H as xs->RelWs K μ H bs ys->RelWs K μ H (as++bs) (xs++ys)
 |[],xs,bs,ys,a,b=>by rw[a.nilE];exact b
 |w::as,xs,bs,ys,a,b=>by obtain⟨x,xs,rfl,c,d⟩:=a.consE;exact .consI c (RelWs.app d b)
theorem RelWs.get:∀{ws:List W} {vs:List V} {i:Nat} {w:W},RelWs K μ H ws vs->ws[i]?=some w->∃v,vs[i]?=some v/\bb K μ H w v
 |[],_,_,_,_,e=>by simp at e
 |x::ws,vs,0,w,h,e=>by obtain⟨y,ys,rfl,a,b⟩:=h.consE;simp at e;subst e;exact⟨y,rfl,a⟩
 |x::ws,vs,i+1,w,h,e=>by obtain⟨y,ys,rfl,a,b⟩:=h.consE;simpa using RelWs.get (i:=i) b (by simpa using e)
theorem RelWs.take:∀{ws:List W} {vs:List V} (n:Nat),RelWs K μ H ws vs->RelWs K μ H (ws.take n) (vs.take n)
 |_,_,0,_=>by simp only[List.take_zero];exact .nilI
 |[],vs,n+1,h=>by rw[h.nilE];exact .nilI
 |x::ws,vs,n+1,h=>by obtain⟨y,ys,rfl,a,b⟩:=h.consE;exact .consI a (RelWs.take n b)
theorem RelWs.drop:∀{ws:List W} {vs:List V} (n:Nat),RelWs K μ H ws vs->RelWs K μ H (ws.drop n) (vs.drop n)
 |_,_,0,h=>h
 |[],vs,n+1,h=>by rw[h.nilE];exact .nilI
 |x::ws,vs,n+1,h=>by obtain⟨y,ys,rfl,a,b⟩:=h.consE;exact RelWs.drop n b
theorem RelWs.setI:∀{ws:List W} {vs:List V} (i:Nat) {w:W} {v:V},bb K μ H w v->RelWs K μ H ws vs->RelWs K μ H (ws.set i w) (vs.set i v)
 |[],vs,_,_,_,_,h=>by rw[h.nilE];exact .nilI
 |x::ws,vs,0,w,v,r,h=>by obtain⟨y,ys,rfl,a,b⟩:=h.consE;exact .consI r b
 |x::ws,vs,i+1,w,v,r,h=>by obtain⟨y,ys,rfl,a,b⟩:=h.consE;exact .consI a (RelWs.setI i r b)
theorem bb.intE{i:Int}(h:bb K μ H (.int i) v):v=.int i:=by unfold bb at h;exact h
theorem bb.blE{b:Bool}(h:bb K μ H (.bl b) v):v=.bl b:=by unfold bb at h;exact h
theorem bb.nonE(h:bb K μ H .non v):v=.non:=by unfold bb at h;exact h
theorem bb.strE(h:bb K μ H (.str l) v):v=.str (tx l):=by unfold bb at h;exact h
theorem bb.tupE(h:bb K μ H (.tup ws) v):∃p vs,v=.ref p/\eG K H p vs/\RelWs K μ H ws vs:=by unfold bb at h;exact h
theorem bb.locE(h:bb K μ H (.loc n) v):∃a,μ[n]?=some a/\v=.ref a:=by unfold bb at h;exact h
theorem bb.int{i:Int}:bb K μ H (.int i) (.int i):=by unfold bb;rfl
theorem bb.bl{i:Bool}:bb K μ H (.bl i) (.bl i):=by unfold bb;rfl
theorem bb.non:bb K μ H .non .non:=by unfold bb;rfl
theorem bb.str:bb K μ H (.str l) (.str (tx l)):=by unfold bb;rfl
theorem bb.tupI{p:Addr}(a:eG K H p vs)(b:RelWs K μ H ws vs):bb K μ H (.tup ws) (.ref p):=by unfold bb;exact⟨p,vs,rfl,a,b⟩
theorem bb.locI(e:μ[n]?=some a):bb K μ H (.loc n) (.ref a):=by unfold bb;exact⟨a,e,rfl⟩
end
def OD(a:Addr)(C:Value):HO:=.ext fun h=>∃o vs,h.get? a=some o/\o.cls=C/\o.data=.fields vs
def ia(b:Addr)(q:Str):HO:=.ext fun h=>∃o vs t,h.get? b=some o/\o.data=.fields vs/\vs[1]?=some (.str q t)
def Q4(K:Frag)(H:Hp)(a:Addr)(xs:List V):Prop:=
 (∃o,H a=some (.frz o (.lst xs)))\/∃(o:Obj) (bw:Array Value) (n:Nat),K.lookup a=some o/\o.cls=.type "list"/\o.dict=none/\o.data=.seq bw n/\bw.size<=sizeLine/\b8 xs bw.toList
theorem Q4.sq{xs:List V}(h:Q4 K H a xs):qk K H a xs:=by
 rcases h with⟨o,h⟩|h
 ·exact .inl (.inr ⟨o,h⟩)
 ·exact .inr h
def ai.isRo:ai->Bool
 |.ro _=>true
 |.gone=>true
 |_=>false
def DX(a:Addr)(es:List DictEntry):Heap->Prop:=fun h=>∃o ep,h.get? a=some o/\o.ExactDict/\o.data=.dict es.toArray ep
abbrev Nw(a:Addr)(es:List DictEntry):HO:=.ext (DX a es)
def qp(K:Frag)(μ:List Addr)(H:Hp)(p:KX×W)(e:DictEntry):Prop:=e.hash=p.1.hash/\(∃v,bb K μ H p.1.w v/\bF v e.key)/\∃v,bb K μ H p.2 v/\bF v e.val
def kw(a:Addr)(o:Obj):HO:=.ext fun h=>h.get? a=some o
def jP(K:Frag)(mg:Str->Option Value)(μ:List Addr)(H:Hp):ai->Addr->Prop
 |.lst ws,a=>∃vs,H a=some (.lst vs)/\RelWs K μ H ws vs
 |.ro ws,a=>∃vs,Q4 K H a vs/\RelWs K μ H ws vs
 |.exc c,a=>∃C,mg c=some C/\H a=some (OD a C)
 |.dct kvs,a=>∃vs,H a=some (.dK ((kvs.map fun p=>p.1.key).zip vs))/\RelWs K μ H (kvs.map fun p=>p.2) vs
 |.rod kvs,a=>∃vs o,H a=some (.frz o (.dK ((kvs.map fun p=>p.1.key).zip vs)))/\RelWs K μ H (kvs.map fun p=>p.2) vs
 |.dcx kvs,a=>∃es,H a=some (Nw a es)/\(a==sysModules)=false/\Paired (qp K μ H) kvs es/\(kvs.map fun p=>p.1).Nodup
 |.tab P pos q,a=>a=P/\∃ps,H a=some (.tbl ps)/\TriplesOk ps.toList/\(codeAmong pos ps.toList=none\/∃c,codeAmong pos ps.toList=some (.ref c)/\H c=some (ia c q))
 |.pin k c o w,a=>a=c/\H a=some (kw a o)/\(k=false->∃fd cd,o.data=.func fd/\fd.code=.ref cd/\H cd=some (ia cd fd.qualname))/\∃v,bb K μ H w v/\(k=true->∃u,o.data=.cell (some u)/\bF v u)
 |.gone,_=>True
structure fG(K:Frag)(mg:Str->Option Value)(μ:List Addr)(st:List ai)(H:Hp):Prop where
 nd:∀(i j:Nat) (a:Addr) (ci cj:ai),st[i]?=some ci->st[j]?=some cj->ci.isRo=false->cj.isRo=false->μ[i]?=some a->μ[j]?=some a->i=j
 len:st.length=μ.length
 at':∀(i:Nat) (c:ai) (a:Addr),st[i]?=some c->μ[i]?=some a->jP K mg μ H c a
section
variable{st:List ai}
theorem qp.mono(h:μ <+: μ')(x:c9 K H H'){p:KX×W}{e:DictEntry}(r:qp K μ H p e):qp K μ' H' p e:=by
 obtain⟨a,⟨v,b,c⟩,u,d,g⟩:=r
 exact⟨a,⟨v,b.mono h x,c⟩,u,d.mono h x,g⟩
theorem jP.keep(h:μ <+: μ')(x:c9 K H H'){c:ai}(e:∀o,H a=some o->H' a=some o)(e2:∀b q,H b=some (ia b q)->H' b=some (ia b q))(r:jP K mg μ H c a):jP K mg μ' H' c a:=by
 cases c with
 |lst ws=>obtain⟨vs,p,y⟩:=r;exact⟨vs,e _ p,y.mono h x⟩
 |ro ws=>
  obtain⟨vs,p,y⟩:=r
  refine⟨vs,?_,y.mono h x⟩
  rcases p with⟨o,p⟩|p
  ·exact .inl ⟨o,e _ p⟩
  ·exact .inr p
 |exc c=>obtain⟨C,p,y⟩:=r;exact⟨C,p,e _ y⟩
 |dct kvs=>obtain⟨vs,p,y⟩:=r;exact⟨vs,e _ p,y.mono h x⟩
 |rod kvs=>obtain⟨vs,o,p,y⟩:=r;exact⟨vs,o,e _ p,y.mono h x⟩
 |dcx kvs=>obtain⟨es,p,d,y,z⟩:=r;exact⟨es,e _ p,d,Paired.imp' (fun _ _ q=>q.mono h x) y,z⟩
 |tab P pos q=>
  obtain⟨ea,ps,p,t,y⟩:=r
  refine⟨ea,ps,e _ p,t,?_⟩
  rcases y with y|⟨c,y,z⟩
  ·exact .inl y
  ·exact .inr ⟨c,y,e2 _ _ z⟩
 |pin k c o w=>obtain⟨ea,p,g,v,y,z⟩:=r;exact⟨ea,e _ p,fun q=>let ⟨fd,cd,q1,q2,q3⟩:=g q;⟨fd,cd,q1,q2,e2 _ _ q3⟩,v,y.mono h x,z⟩
 |gone=>trivial
theorem jP.ro_ne{c:ai}(r:jP K mg μ H c a)(h:c.isRo=false):∃o,H a=some o:=by
 cases c with
 |lst ws=>obtain⟨vs,p,y⟩:=r;exact⟨_,p⟩
 |ro ws=>cases h
 |exc c=>obtain⟨C,p,y⟩:=r;exact⟨_,y⟩
 |dct kvs=>obtain⟨vs,p,y⟩:=r;exact⟨_,p⟩
 |rod kvs=>obtain⟨vs,o,p,y⟩:=r;exact⟨_,p⟩
 |dcx kvs=>obtain⟨es,p,_⟩:=r;exact⟨_,p⟩
 |tab P pos q=>obtain⟨_,ps,p,_⟩:=r;exact⟨_,p⟩
 |pin k c o w=>obtain⟨_,p,_⟩:=r;exact⟨_,p⟩
 |gone=>cases h
theorem fG.same(S:fG K mg μ st H)(e:m9 H H'):fG K mg μ st H':=⟨S.nd,S.len,fun i c a h1 h2=>(S.at' i c a h1 h2).keep (ae _) (eG.same e) (e a) fun b q h=>e b _ h⟩
theorem fG.get(S:fG K mg μ st H){c:ai}(h:st[n]?=some c):∃a,μ[n]?=some a/\jP K mg μ H c a:=by
 have hn:n<μ.length:=by rw[<- S.len];exact(aa.mp h).1
 exact⟨μ[n],ac hn,S.at' n c _ h (ac hn)⟩
theorem fG.push(S:fG K mg μ st H){p:Addr}{o:HO}{c:ai}(hp:H p=none)(hc:jP K mg (μ++[p]) (dY H p o) c p):fG K mg (μ++[p]) (st++[c]) (dY H p o):=by
 have hs:m9 H (dY H p o):=cf hp o
 have Cj:μ <+: μ++[p]:=ar _ _
 have old:∀{i:Nat} {d:ai} {a:Addr},i<st.length->(st++[c])[i]?=some d->(μ++[p])[i]?=some a->st[i]?=some d/\μ[i]?=some a:=fun{i d a} hi h1 h2=>by
  rw[aq hi]at h1
  rw[aq (by rw[<- S.len];exact hi)]at h2
  exact⟨h1,h2⟩
 have new:∀{i:Nat} {d:ai} {a:Addr},¬ i<st.length->(st++[c])[i]?=some d->(μ++[p])[i]?=some a->i=st.length/\d=c/\a=p:=fun{i d a} hi h1 h2=>by
  have hi':i=st.length:=by
   have:=(aa.mp h1).1
   simp at this;omega
  subst hi'
  simp at h1
  rw[S.len,bP (av _)]at h2
  simp at h2
  exact⟨rfl,h1.symm,h2.symm⟩
 refine⟨fun i j a ci cj h1 h2 r1 r2 m1 m2=>?_,by simp[S.len],fun i d a h1 h2=>?_⟩
 ·by_cases hi:i<st.length
  ·obtain⟨x1,x2⟩:=old hi h1 m1
   by_cases hj:j<st.length
   ·obtain⟨y1,y2⟩:=old hj h2 m2
    exact S.nd i j a ci cj x1 y1 r1 r2 x2 y2
   ·obtain⟨_,_,rfl⟩:=new hj h2 m2
    obtain⟨o',z⟩:=(S.at' i ci a x1 x2).ro_ne r1
    rw[hp]at z;cases z
  ·obtain⟨e1,_,rfl⟩:=new hi h1 m1
   by_cases hj:j<st.length
   ·obtain⟨y1,y2⟩:=old hj h2 m2
    obtain⟨o',z⟩:=(S.at' j cj a y1 y2).ro_ne r2
    rw[hp]at z;cases z
   ·obtain⟨e2,_,_⟩:=new hj h2 m2
    omega
 ·by_cases hi:i<st.length
  ·obtain⟨x1,x2⟩:=old hi h1 h2
   exact(S.at' i d a x1 x2).keep Cj (eG.same hs) (hs a) fun b q h=>hs b _ h
  ·obtain⟨_,rfl,rfl⟩:=new hi h1 h2
   exact hc
theorem fG.setG(S:fG K mg μ st H){c c':ai}{o o':HO}(hn:st[n]?=some c)(sO:c.isRo=false)(hm:μ[n]?=some a)(ha:H a=some o)(hf:∀q u,o≠.frz q u)(hg:∀q,o≠ia a q)(hx:c9 K H (dY H a o'))(TD:c'.isRo=false)(hr:jP K mg μ (dY H a o') c' a):fG K mg μ (st.set n c') (dY H a o'):=by
 have hl:n<st.length:=(aa.mp hn).1
 have back:∀{i:Nat} {d:ai},(st.set n c')[i]?=some d->∃d',st[i]?=some d'/\(d'=d\/(i=n/\d=c')):=fun{i d} h=>by
  by_cases e:i=n
  ·subst e
   rw[bi hl]at h
   exact⟨_,hn,.inr ⟨rfl,(aM h).symm⟩⟩
  ·rw[bH (Ne.symm e)]at h
   exact⟨d,h,.inl rfl⟩
 refine⟨fun i j b ci cj h1 h2 r1 r2 m1 m2=>?_,by simp[S.len],fun i d b h1 h2=>?_⟩
 ·obtain⟨di,x1,y1⟩:=back h1
  obtain⟨dj,x2,y2⟩:=back h2
  refine S.nd i j b di dj x1 x2 ?_ ?_ m1 m2
  ·rcases y1 with rfl|⟨rfl,rfl⟩
   ·exact r1
   ·rw[hn]at x1;cases x1;exact sO
  ·rcases y2 with rfl|⟨rfl,rfl⟩
   ·exact r2
   ·rw[hn]at x2;cases x2;exact sO
 ·by_cases e:i=n
  ·subst e
   rw[bi hl]at h1
   cases h1
   rw[hm]at h2;cases h2
   exact hr
  ·rw[bH (Ne.symm e)]at h1
   have r:=S.at' i d b h1 h2
   by_cases hrd:d.isRo=true
   ·cases d with
    |ro zs=>
     obtain⟨us,p,q⟩:=r
     refine⟨us,?_,q.mono (ae _) hx⟩
     rcases p with⟨o2,p⟩|p
     ·exact .inl ⟨o2,by rw[bX (by rintro rfl;rw[ha]at p;cases p;exact hf _ _ rfl)];exact p⟩
     ·exact .inr p
    |lst _=>cases hrd
    |exc _=>cases hrd
    |dct _=>cases hrd
    |rod _=>cases hrd
    |dcx _=>cases hrd
    |tab _ _ _=>cases hrd
    |pin _ _ _ _=>cases hrd
    |gone=>trivial
   ·refine r.keep (ae _) hx (fun o ho=>?_) fun b' q h=>by rw[bX (by rintro rfl;rw[ha]at h;cases h;exact hg _ rfl)];exact h
    have hb:b≠a:=by
     rintro rfl
     exact e (S.nd i n b d _ h1 hn (by simpa using hrd) sO h2 hm)
    rw[bX hb];exact ho
theorem fG.set(S:fG K mg μ st H){QM:List W}{Gd:List V}(hn:st[n]?=some (.lst ws))(hm:μ[n]?=some a)(ha:H a=some (.lst vs))(hr:RelWs K μ H QM Gd):fG K mg μ (st.set n (.lst QM)) (dY H a (.lst Gd)):=by
 have hx:c9 K H (dY H a (.lst Gd)):=eG.but fL ha
 have hl:n<st.length:=(aa.mp hn).1
 have back:∀{i:Nat} {d:ai},(st.set n (.lst QM))[i]?=some d->∃d',st[i]?=some d'/\(d'=d\/(i=n/\d=.lst QM)):=fun{i d} h=>by
  by_cases e:i=n
  ·subst e
   rw[bi hl]at h
   exact⟨_,hn,.inr ⟨rfl,(aM h).symm⟩⟩
  ·rw[bH (Ne.symm e)]at h
   exact⟨d,h,.inl rfl⟩
 refine⟨fun i j b ci cj h1 h2 r1 r2 m1 m2=>?_,by simp[S.len],fun i d b h1 h2=>?_⟩
 ·obtain⟨di,x1,y1⟩:=back h1
  obtain⟨dj,x2,y2⟩:=back h2
  refine S.nd i j b di dj x1 x2 ?_ ?_ m1 m2
  ·rcases y1 with rfl|⟨rfl,rfl⟩
   ·exact r1
   ·rw[hn]at x1;cases x1;rfl
  ·rcases y2 with rfl|⟨rfl,rfl⟩
   ·exact r2
   ·rw[hn]at x2;cases x2;rfl
 ·by_cases e:i=n
  ·subst e
   rw[bi hl]at h1
   cases h1
   rw[hm]at h2;cases h2
   exact⟨Gd,df,hr.mono (ae _) hx⟩
  ·rw[bH (Ne.symm e)]at h1
   have r:=S.at' i d b h1 h2
   by_cases sO:d.isRo=true
   ·cases d with
    |ro zs=>
     obtain⟨us,p,q⟩:=r
     refine⟨us,?_,q.mono (ae _) hx⟩
     rcases p with⟨o',p⟩|p
     ·exact .inl ⟨o',by rw[bX (by rintro rfl;rw[ha]at p;cases p)];exact p⟩
     ·exact .inr p
    |lst _=>cases sO
    |exc _=>cases sO
    |dct _=>cases sO
    |rod _=>cases sO
    |dcx _=>cases sO
    |tab _ _ _=>cases sO
    |pin _ _ _ _=>cases sO
    |gone=>trivial
   ·refine r.keep (ae _) hx (fun o ho=>?_) fun b' q h=>by rw[bX (by rintro rfl;rw[ha]at h;cases h)];exact h
    have hb:b≠a:=by
     rintro rfl
     exact e (S.nd i n b d _ h1 hn (by simpa using sO) rfl h2 hm)
    rw[bX hb];exact ho
end
structure Rl(X:Cx)(μ:List Addr)(ρ:bY)(st:List ai)(σ:St)(H:Hp):Prop where
 env:Paired (fun(o:Option W) (s:Option V)=>∀w,o=some w->∃v,s=some v/\bb X.K μ H w v) ρ σ
 sto:fG X.K X.mg μ st H
theorem pq(h:μ <+: μ')(x:c9 K H H'):∀{ρ:bY} {σ:St},Paired (fun(o:Option W) (s:Option V)=>∀w,o=some w->∃v,s=some v/\bb K μ H w v) ρ σ ->
  Paired (fun(o:Option W) (s:Option V)=>∀w,o=some w->∃v,s=some v/\bb K μ' H' w v) ρ σ
 |_,_,.nil=>.nil
 |_,_,.cons a t=>.cons (fun w e=>let ⟨v,p,q⟩:=a w e;⟨v,p,q.mono h x⟩) (pq h x t)
theorem Rl.to{ρ:bY}{st:List ai}(r:Rl X μ ρ st σ H)(h:μ <+: μ')(x:c9 X.K H H')(s:fG X.K X.mg μ' bv H'):Rl X μ' ρ bv σ H':=⟨pq h x r.env,s⟩
theorem ky:∀{ρ:bY} {σ:St} {i:Nat} {w:W},Paired (fun(o:Option W) (s:Option V)=>∀w,o=some w->∃v,s=some v/\bb K μ H w v) ρ σ->ρ[i]?=some (some w)->∃v,σ[i]?=some (some v)/\bb K μ H w v
 |_,_,_,_,.nil,e=>by simp at e
 |_,_,0,w,.cons a t,e=>by simp at e;obtain⟨v,p,q⟩:=a w e;exact⟨v,by simp[p],q⟩
 |_,_,i+1,w,.cons a t,e=>by simpa using ky (i:=i) t (by simpa using e)
theorem n6{w:W}(r:bb K μ H w v):∀{ρ:bY} {σ:St} (i:Nat),Paired (fun(o:Option W) (s:Option V)=>∀w,o=some w->∃v,s=some v/\bb K μ H w v) ρ σ ->
  Paired (fun(o:Option W) (s:Option V)=>∀w,o=some w->∃v,s=some v/\bb K μ H w v) (ρ.set i (some w)) (σ.set i (some v))
 |_,_,_,.nil=>.nil
 |_,_,0,.cons a t=>.cons (fun w' e=>⟨v,rfl,by cases e;exact r⟩) t
 |_,_,i+1,.cons a t=>.cons a (n6 r i t)
structure t9(X:Cx)(pins:List (Addr×Obj))(σ:St)(c:Str)(H:Hp)(e:Value)(s:Shared):Prop where
 inv:bj X pins σ H s
 ex:∃x C t B,e=.ref x/\X.mg c=some C/\H x=none/\B.StaysIn s.heap/\B.get? x=none/\s.heap.FunFrames B X.stack /\
  (s.heap.TracedW B x C (.ref t)\/(∃oe vs,s.heap.get? x=some oe/\oe.cls=C/\oe.dict=none/\oe.data=.fields vs/\vs[1]?=some .none/\vs[0]?=some (.ref t))\/∃L,X.env.frame=some L/\s.heap.TracedAtW B x C (.ref t) (rawInt L)) /\
  ∀b o,s.heap.get? b=some o->(H b≠none\/((∃o0,X.s₀.heap.get? b=some o0)/\b∉X.fs/\b∉X.ex)\/((∃y,X.env.cells.lookup y=some b)/\b∉sV X.stack)\/∃p∈X.pn++pins,p.1=b)->B.get? b=some o
def XS(X:Cx)(c:Str)(μ:List Addr)(ρ:bY)(st:List ai)(H:Hp):Prop:=
 ∀pins μ' σ' H' e s',μ <+: μ'->c9 X.K H H'->Rl X μ' ρ st σ' H'->t9 X pins σ' c H' e s'->X.xe e s'
def XE(X:Cx)(c:Str)(μ:List Addr)(st:List ai)(σ:St)(H:Hp):Prop:=
 ∀pins μ' H' e s',μ <+: μ'->c9 X.K H H'->fG X.K X.mg μ' st H'->t9 X pins σ c H' e s'->X.xe e s'
theorem XE.mono{c:Str}{μ1:List Addr}{st:List ai}{H1:Hp}(h:XE X c μ st σ H)(p:μ <+: μ1)(x:c9 X.K H H1):XE X c μ1 st σ H1:=fun pins μ' H' e s' a b=>h pins μ' H' e s' (p.trans a) (x.trans b)
theorem XS.mono{c:Str}{μ1:List Addr}{ρ:bY}{st:List ai}{H1:Hp}(h:XS X c μ ρ st H)(p:μ <+: μ1)(x:c9 X.K H H1):XS X c μ1 ρ st H1:=fun pins μ' σ' H' e s' a b=>h pins μ' σ' H' e s' (p.trans a) (x.trans b)
theorem XS.toE{c:Str}{ρ:bY}{Nt st:List ai}(h:XS X c μ ρ st H)(r:Rl X μ ρ Nt σ H):XE X c μ st σ H:=fun pins μ' H' e s' a b s f=>h pins μ' σ H' e s' a b (r.to a b s) f
def RK(X:Cx)(h_:List Addr->Hp->α->β->Prop)(μ:List Addr)(σ:St)(H:Hp)(Q:β->Hp->Prop):R α->Prop
 |.ok a bv=>∀μ' b H',μ <+: μ'->c9 X.K H H'->fG X.K X.mg μ' bv H'->h_ μ' H' a b->Q b H'
 |.ex c bv=>XE X c μ bv σ H
 |.bad=>False
theorem RK.mono{h_:List Addr->Hp->α->β->Prop}{μ1:List Addr}{H1:Hp}{Q:β->Hp->Prop}{r:R α}(h:RK X h_ μ σ H Q r)(p:μ <+: μ1)(x:c9 X.K H H1):RK X h_ μ1 σ H1 Q r:=by
 cases r with
 |ok a st=>exact fun μ' b H' a1 b1=>h μ' b H' (p.trans a1) (x.trans b1)
 |ex c st=>exact XE.mono h p x
 |bad=>exact h
def tG(X:Cx)(h_:List Addr->Hp->α->β->Prop)(f:bY->List ai->R α)(σ:St)(H:Hp)(Q:β->Hp->Prop):Prop:=
 ∃μ ρ st,Rl X μ ρ st σ H/\RK X h_ μ σ H Q (f ρ st)
abbrev qr(X:Cx):List Addr->Hp->W->V->Prop:=fun μ H w v=>bb X.K μ H w v
abbrev RV(X:Cx):List Addr->Hp->List W->List V->Prop:=fun μ H w v=>RelWs X.K μ H w v
abbrev K7:List Addr->Hp->Bool->Bool->Prop:=fun _ _ a b=>a=b
abbrev tE(X:Cx)(f:FE):TE:=tG X (qr X) f
abbrev tT(X:Cx)(f:FT):TT:=tG X K7 f
abbrev OE(X:Cx)(f:FA):TA:=tG X (RV X) f
theorem RK.bind{α' β':Type}{h_:List Addr->Hp->α->β->Prop}{Qw:List Addr->Hp->α'->β'->Prop}{ρ:bY}{st:List ai}{r:R α}{k:α->List ai->R α'}{Q:β'->Hp->Prop}{T:β->Hp->Prop}
  (h:RK X Qw μ σ H Q (r.bind k)) (l:Rl X μ ρ st σ H)
  (hk:∀μ' bv x v H',μ <+: μ'->c9 X.K H H'->Rl X μ' ρ bv σ H'->h_ μ' H' x v->RK X Qw μ' σ H' Q (k x bv)->T v H'):RK X h_ μ σ H T r:=by
 cases r with
 |ok a bv=>exact fun μ' b H' p x s q=>hk μ' bv a b H' p x (l.to p x s) q (RK.mono h p x)
 |ex c bv=>exact h
 |bad=>exact h
def SK(X:Cx)(μ:List Addr)(H:Hp)(D:uR):RS->Prop
 |.nx ρ st=>∀μ' σ' H',μ <+: μ'->c9 X.K H H'->Rl X μ' ρ st σ' H'->D.nx σ' H'
 |.bk ρ st=>∀μ' σ' H',μ <+: μ'->c9 X.K H H'->Rl X μ' ρ st σ' H'->D.bk σ' H'
 |.ct ρ st=>∀μ' σ' H',μ <+: μ'->c9 X.K H H'->Rl X μ' ρ st σ' H'->D.ct σ' H'
 |.rt w st=>∀μ' v H',μ <+: μ'->c9 X.K H H'->fG X.K X.mg μ' st H'->bb X.K μ' H' w v->D.rt v H'
 |.ex c ρ st=>XS X c μ ρ st H
 |.bad=>False
theorem SK.mono{μ1:List Addr}{H1:Hp}{D:uR}{r:RS}(h:SK X μ H D r)(p:μ <+: μ1)(x:c9 X.K H H1):SK X μ1 H1 D r:=by
 cases r with
 |nx ρ st=>exact fun μ' b H' a1 b1=>h μ' b H' (p.trans a1) (x.trans b1)
 |bk ρ st=>exact fun μ' b H' a1 b1=>h μ' b H' (p.trans a1) (x.trans b1)
 |ct ρ st=>exact fun μ' b H' a1 b1=>h μ' b H' (p.trans a1) (x.trans b1)
 |rt w st=>exact fun μ' b H' a1 b1=>h μ' b H' (p.trans a1) (x.trans b1)
 |ex c ρ st=>exact XS.mono h p x
 |bad=>exact h
def Nx(X:Cx)(g:FS):TS:=fun D σ H=>∃μ ρ st,Rl X μ ρ st σ H/\SK X μ H D (g ρ st)
structure SE(X:Cx)(e:Expr)(f:FE):Prop where
 h:PE X e (tE X f)
structure ST(X:Cx)(e:Expr)(f:FT):Prop where
 h:PT X e (tT X f)
structure SW(X:Cx)(e:Expr)(f:FT):Prop where
 h:PW X e (tT X f)
structure SA(X:Cx)(es:List Expr)(f:FA):Prop where
 h:PA X es (OE X f)
structure SS(X:Cx)(s:Stmt)(g:FS):Prop where
 h:PS X s (Nx X g)
structure SB(X:Cx)(s:List Stmt)(g:FS):Prop where
 h:A0 X s (Nx X g)
theorem PE.imp{t t':TE}(h:PE X e t)(i:∀σ H Q,t' σ H Q->t σ H Q):PE X e t':=fun pins s σ H Q I q=>h pins s σ H Q I (i _ _ _ q)
theorem PT.imp{t t':TT}(h:PT X e t)(i:∀σ H Q,t' σ H Q->t σ H Q):PT X e t':=fun pins s σ H Q I q=>h pins s σ H Q I (i _ _ _ q)
theorem PW.imp{t t':TT}(h:PW X e t)(i:∀σ H Q,t' σ H Q->t σ H Q):PW X e t':=fun wh pins s σ H Q I q=>h wh pins s σ H Q I (i _ _ _ q)
theorem PA.imp{e:List Expr}{t t':TA}(h:PA X e t)(i:∀σ H Q,t' σ H Q->t σ H Q):PA X e t':=fun pos pins s σ H Q I q=>h pos pins s σ H Q I (i _ _ _ q)
theorem PS.imp{e:Stmt}{t t':TS}(h:PS X e t)(i:∀D σ H,t' D σ H->t D σ H):PS X e t':=fun pins s σ H D I q=>h pins s σ H D I (i _ _ _ q)
theorem A0.imp{e:List Stmt}{t t':TS}(h:A0 X e t)(i:∀D σ H,t' D σ H->t D σ H):A0 X e t':=fun pins s σ H D I q=>h pins s σ H D I (i _ _ _ q)
section
variable{a b o:Expr}{rest:List Expr}{fa fb fc fe:FE}{ft fu:FT}{fs:FA}
def ag(i:Nat):FE:=fun ρ st=>match ρ[i]? with
 |some (some w)=>.ok w st
 |_=>.bad
theorem bC(i:Nat){pos:Pos}(hN:X.N[i]?=some x:=by rfl)(hv:Nv X.env.scope x:=by first|exact Or.inl rfl|exact Or.inr (Or.inl rfl)|exact Or.inr (Or.inr rfl))(hd:(x==("__debug__":Str))=false:=by decide)
  (kt:(x==("__classdict__":Str))=false:=by decide):SE X (.Name x pos) (ag i):=⟨(pv i hN hv hd kt).imp fun σ H Q h=>by
 obtain⟨μ,ρ,st,r,h⟩:=h
 unfold ag at h
 cases e:ρ[i]? with
 |none=>rw[e]at h;exact h.elim
 |some ow=>
  cases ow with
  |none=>rw[e]at h;exact h.elim
  |some w=>
   rw[e]at h
   obtain⟨v,e1,e2⟩:=ky r.env e
   exact⟨v,e1,h μ v H (ae _) c9.refl r.sto e2⟩⟩
def eC(w:W):FE:=fun _ st=>.ok w st
abbrev eI(n:Int):FE:=eC (.int n)
theorem RW{w:W}(hc:PE X e (tC v))(hr:∀μ H,bb X.K μ H w v):SE X e (eC w):=⟨hc.imp fun σ H Q h=>by
 obtain⟨μ,ρ,st,r,h⟩:=h
 exact h μ v H (ae _) c9.refl r.sto (hr _ _)⟩
theorem iV{i:Int}:SE X (.Constant (.int i) j pos) (eC (.int i)):=RW Kc fun _ _=>.int
theorem K8{k:Bool}:SE X (.Constant (.bool k) j pos) (eC (.bl k)):=RW NO fun _ _=>.bl
theorem OF(h:x=tx l:=by decide +kernel):SE X (.Constant (.str x) j pos) (eC (.str l)):=RW Kd fun _ _=>by rw[h];exact .str
def e2(f:W->W->List ai->R W)(fa fb:FE):FE:=fun ρ st=>(fa ρ st).bind fun x st=>(fb ρ st).bind fun y st=>f x y st
def Cq(X:Cx)(μ:List Addr)(H:Hp)(Q:VK):R W->Prop
 |.ok w bv=>∀μ' v H',μ <+: μ'->c9 X.K H H'->fG X.K X.mg μ' bv H'->bb X.K μ' H' w v->Q v H'
 |_=>False
def qt:R α->Prop
 |.ex _ _=>False
 |_=>True
def RX(X:Cx)(f:W->W->List ai->R W):R2:=fun x y H Q=>∃μ st wx wy,fG X.K X.mg μ st H/\bb X.K μ H wx x/\bb X.K μ H wy y/\Cq X μ H Q (f wx wy st)
structure re(X:Cx)(g:Value->Value->Sem Value)(f:W->W->List ai->R W):Prop where
 h:mN X g (RX X f)
 n:∀x y st,qt (f x y st)
theorem rf{Q:VK}{r:R W}(h:RK X (qr X) μ σ H Q r)(n:qt r):Cq X μ H Q r:=by
 cases r with
 |ok a st=>exact h
 |ex c st=>exact n.elim
 |bad=>exact h
theorem zZ{f:W->W->List ai->R W}{Q:VK}(n:∀x y st,qt (f x y st))(h:tE X (e2 f fa fb) σ H Q):N3 (RX X f) (tE X fa) (tE X fb) σ H Q:=by
 obtain⟨μ,ρ,st,l,h⟩:=h
 refine⟨μ,ρ,st,l,RK.bind h l fun μ1 st1 x v H1 p1 x1 l1 q1 h1=>⟨μ1,ρ,st1,l1,RK.bind h1 l1 fun μ2 cH y u H2 p2 x2 l2 q2 h2=>?_⟩⟩
 exact⟨μ2,cH,x,y,l2.sto,q1.mono p2 x2,q2,rf h2 (n _ _ _)⟩
theorem RY{op:Operator}{f:W->W->List ai->R W}(ho:re X (binaryOp op) f)(ha:SE X a fa)(hb:SE X b fb):SE X (.BinOp a op b pos) (e2 f fa fb):=⟨(N5 ho.h ha.h hb.h).imp fun _ _ _ h=>zZ ho.n h⟩
theorem OG{f:W->W->List ai->R W}(ho:re X (compareOp op) f)(ha:SE X a fa)(hb:SE X b fb)(hm:behindInMarks op b=false:=by first|exact CF _|rfl):SE X (.Compare a [op] [b] pos) (e2 f fa fb):=⟨(Gw ho.h ha.h hb.h hm).imp fun _ _ _ h=>zZ ho.n h⟩
def f6(fa:FE):FT:=fun ρ st=>(fa ρ st).bind fun x st=>match x with
 |.bl k=>.ok k st
 |_=>.bad
theorem rg{Q:Bool->Hp->Prop}(h:tT X (f6 fa) σ H Q):tE X fa σ H fun x H1=>∃k,x=.bl k/\Q k H1:=by
 obtain⟨μ,ρ,st,l,h⟩:=h
 refine⟨μ,ρ,st,l,RK.bind h l fun μ1 st1 x v H1 p1 x1 l1 q1 h1=>?_⟩
 cases x with
 |bl k=>exact⟨k,q1.blE,h1 μ1 k H1 (ae _) c9.refl l1.sto rfl⟩
 |_=>exact h1.elim
theorem yC{f:W->W->List ai->R W}(ho:re X (compareOp op) f)(ha:SE X a fa)(hb:SE X b fb)(hm:behindInMarks op b=false:=by first|exact CF _|rfl):ST X (.Compare a [op] [b] pos) (f6 (e2 f fa fb)):=⟨(Gx ho.h ha.h hb.h hm).imp fun σ H Q h=>by
 have h':tE X (e2 f fa fb) σ H fun x H1=>∃k,x=.bl k/\Q k H1:=rg h
 exact zZ ho.n h'⟩
theorem K9(h:SE X e fe)(he:∀sU,isTrue e X.env sU=(do let v <- sU;standAt e.pos;holding [v] (truthy v)):=by intro _;rfl):ST X e (f6 fe):=⟨(Kg h.h he).imp fun σ H Q h=>rg h⟩
def K_(t u:FT):FT:=fun ρ st=>(t ρ st).bind fun k st=>if k then u ρ st else .ok false st
def sW(t u:FT):FT:=fun ρ st=>(t ρ st).bind fun k st=>if k then .ok true st else u ρ st
def qC(t:FT):FT:=fun ρ st=>(t ρ st).bind fun k st=>.ok (!k) st
theorem GW(ha:ST X a ft):SW X (.BoolOp .And [a] pos) ft:=⟨Gh ha.h⟩
theorem K'(ha:ST X a ft):SW X (.BoolOp .Or [a] pos) ft:=⟨Kh ha.h⟩
theorem C7(ha:ST X a ft)(hb:SW X (.BoolOp .And (b::rest) pos) fu):SW X (.BoolOp .And (a::b::rest) pos) (K_ ft fu):=⟨(Ki ha.h hb.h).imp fun σ H Q h=>by
 obtain⟨μ,ρ,st,l,h⟩:=h
 refine⟨μ,ρ,st,l,RK.bind h l fun μ1 st1 x v H1 p1 x1 l1 q1 h1=>?_⟩
 cases q1
 cases x with
 |true=>exact⟨μ1,ρ,st1,l1,h1⟩
 |false=>exact h1 μ1 false H1 (ae _) c9.refl l1.sto rfl⟩
theorem IJ(ha:ST X a ft)(hb:SW X (.BoolOp .Or (b::rest) pos) fu):SW X (.BoolOp .Or (a::b::rest) pos) (sW ft fu):=⟨(NQ ha.h hb.h).imp fun σ H Q h=>by
 obtain⟨μ,ρ,st,l,h⟩:=h
 refine⟨μ,ρ,st,l,RK.bind h l fun μ1 st1 x v H1 p1 x1 l1 q1 h1=>?_⟩
 cases q1
 cases x with
 |false=>exact⟨μ1,ρ,st1,l1,h1⟩
 |true=>exact h1 μ1 true H1 (ae _) c9.refl l1.sto rfl⟩
theorem OH(h:SW X e ft):ST X e ft:=⟨h.h.pt⟩
theorem La(ha:ST X a ft):ST X (.UnaryOp .Not a pos) (qC ft):=⟨(Kj ha.h).imp fun σ H Q h=>by
 obtain⟨μ,ρ,st,l,h⟩:=h
 refine⟨μ,ρ,st,l,RK.bind h l fun μ1 st1 x v H1 p1 x1 l1 q1 h1=>?_⟩
 cases q1
 exact h1 μ1 _ H1 (ae _) c9.refl l1.sto rfl⟩
def wJ(fa fb:FE):FE:=fun ρ st=>(fa ρ st).bind fun x st=>match x with
 |.bl true=>fb ρ st
 |.bl false=>.ok (.bl false) st
 |_=>.bad
def GX(fa:FE):FE:=fun ρ st=>(fa ρ st).bind fun x st=>match x with
 |.bl k=>.ok (.bl (!k)) st
 |_=>.bad
theorem OI{op:BoolOp}(h:SE X a fa):SE X (.BoolOp op [a] pos) fa:=⟨Kk h.h⟩
theorem OJ(ha:SE X a fa)(hb:SE X (.BoolOp .And (b::rest) pos) fb):SE X (.BoolOp .And (a::b::rest) pos) (wJ fa fb):=⟨(Kl ha.h hb.h).imp fun σ H Q h=>by
 obtain⟨μ,ρ,st,l,h⟩:=h
 refine⟨μ,ρ,st,l,RK.bind h l fun μ1 st1 x v H1 p1 x1 l1 q1 h1=>?_⟩
 cases x with
 |bl k=>
  refine⟨k,q1.blE,?_⟩
  cases k with
  |true=>exact⟨μ1,ρ,st1,l1,h1⟩
  |false=>exact h1 μ1 _ H1 (ae _) c9.refl l1.sto .bl
 |_=>exact h1.elim⟩
theorem OK(ha:SE X a fa):SE X (.UnaryOp .Not a pos) (GX fa):=⟨(Km ha.h).imp fun σ H Q h=>by
 obtain⟨μ,ρ,st,l,h⟩:=h
 refine⟨μ,ρ,st,l,RK.bind h l fun μ1 st1 x v H1 p1 x1 l1 q1 h1=>?_⟩
 cases x with
 |bl k=>exact⟨k,q1.blE,h1 μ1 _ H1 (ae _) c9.refl l1.sto .bl⟩
 |_=>exact h1.elim⟩
def W.isNon:W->Bool
 |.non=>true
 |_=>false
def yD(fa:FE):FE:=fun ρ st=>(fa ρ st).bind fun x st=>.ok (.bl x.isNon) st
def IK(fa:FE):FE:=fun ρ st=>(fa ρ st).bind fun x st=>.ok (.bl (!x.isNon)) st
theorem OL{w:W}(r:bb X.K μ H w v):decide (v=.non)=w.isNon:=by
 cases w with
 |non=>rw[r.nonE];rfl
 |bl b=>rw[r.blE];rfl
 |int b=>rw[r.intE];rfl
 |str b=>rw[r.strE];rfl
 |tup b=>obtain⟨p,vs,rfl,_⟩:=r.tupE;rfl
 |loc b=>obtain⟨p,_,rfl⟩:=r.locE;rfl
theorem IL{Q:VK}(h:tE X (yD fa) σ H Q):NP (tE X fa) σ H Q:=by
 obtain⟨μ,ρ,st,l,h⟩:=h
 refine⟨μ,ρ,st,l,RK.bind h l fun μ1 st1 x v H1 p1 x1 l1 q1 h1=>?_⟩
 show Q (.bl (decide (v=.non))) H1
 rw[OL q1]
 exact h1 μ1 _ H1 (ae _) c9.refl l1.sto .bl
theorem OM(ha:SE X a fa):SE X (.Compare a [.Is] [.Constant .none j iM] pos) (yD fa):=⟨(Ke (Cw ha.h)).imp fun _ _ _ h=>IL h⟩
theorem Lb(ha:SE X a fa):ST X (.Compare a [.Is] [.Constant .none j iM] pos) (f6 (yD fa)):=⟨(Kf (Cw ha.h)).imp fun _ _ _ h=>IL (rg h)⟩
def aB:FA:=fun _ st=>.ok [] st
def ah(fa:FE)(fs:FA):FA:=fun ρ st=>(fa ρ st).bind fun x st=>(fs ρ st).bind fun xs st=>.ok (x::xs) st
theorem b9:SA X [] aB:=⟨yp.imp fun σ H Q h=>by
 obtain⟨μ,ρ,st,l,h⟩:=h
 exact h μ [] H (ae _) c9.refl l.sto .nilI⟩
theorem a6(ha:SE X e fe)(hr:SA X es fs)(hs:starEach (e::es) X.env=(false,eval e X.env)::starEach es X.env:=by rfl):SA X (e::es) (ah fe fs):=⟨(qB ha.h hr.h hs).imp fun σ H Q h=>by
 obtain⟨μ,ρ,st,l,h⟩:=h
 refine⟨μ,ρ,st,l,RK.bind h l fun μ1 st1 x v H1 p1 x1 l1 q1 h1=>⟨μ1,ρ,st1,l1,RK.bind h1 l1 fun μ2 cH xs vs H2 p2 x2 l2 q2 h2=>?_⟩⟩
 exact h2 μ2 _ H2 (ae _) c9.refl l2.sto (.consI (q1.mono p2 x2) q2)⟩
def ON(zs:List (List Nat)):FA:=fun _ st=>.ok (zs.map W.str) st
def n9(ws:List W)(st:List ai):R W:=if ws.length<=jh then .ok (.tup ws) st else .bad
def mn(ws:List W)(st:List ai):R W:=if ws.length<=jh then .ok (.loc st.length) (st++[.lst ws])else .bad
def fH(fs:FA):FE:=fun ρ st=>(fs ρ st).bind fun ws st=>n9 ws st
def kX(fs:FA):FE:=fun ρ st=>(fs ρ st).bind fun ws st=>mn ws st
theorem fG.newLst{st:List ai}(S:fG K mg μ st H){p:Addr}(hp:H p=none)(r:RelWs K μ H ws vs):fG K mg (μ++[p]) (st++[.lst ws]) (dY H p (.lst vs)):=
 S.push hp ⟨vs,df,r.mono (ar _ _) (eG.same (cf hp _))⟩
theorem mq{st:List ai}(S:fG K mg μ st H){p:Addr}:bb K (μ++[p]) H' (.loc st.length) (.ref p):=.locI (by rw[S.len];simp)
theorem C8{st:List ai}{Q:VK}(S:fG X.K X.mg μ st H)(q:RelWs X.K μ H ws vs)(h:RK X (qr X) μ σ H Q (n9 ws st)):vs.length<=sizeLine/\∀p H2,H p=none->H2=dY H p (.tup vs)->Q (.ref p) H2:=by
 unfold n9 at h
 by_cases hz:ws.length<=jh
 ·rw[aw hz]at h
  refine⟨by rw[<- q.len];exact il hz,fun p H2 hp e=>?_⟩
  subst e
  have x:=eG.same (K:=X.K) (cf hp (.tup vs))
  exact h μ _ _ (ae _) x (S.same (cf hp _)) (.tupI eG.new (q.mono (ae _) x))
 ·rw[aD hz]at h;exact h.elim
theorem rh{st:List ai}{σ:St}{Q:VK}(S:fG X.K X.mg μ st H)(q:RelWs X.K μ H ws vs)(h:RK X (qr X) μ σ H Q (mn ws st)):vs.length<=sizeLine/\∀p H2,H p=none->H2=dY H p (.lst vs)->Q (.ref p) H2:=by
 unfold mn at h
 by_cases hz:ws.length<=jh
 ·rw[aw hz]at h
  refine⟨by rw[<- q.len];exact il hz,fun p H2 hp e=>?_⟩
  subst e
  exact h (μ++[p]) _ _ (ar _ _) (eG.same (cf hp _)) (S.newLst hp q) (mq S)
 ·rw[aD hz]at h;exact h.elim
theorem pY{k:Nat}(h:SA X es fs):SE X (.Tuple es k pos) (fH fs):=⟨(GR h.h).imp fun σ H Q h=>by
 obtain⟨μ,ρ,st,l,h⟩:=h
 exact⟨μ,ρ,st,l,RK.bind h l fun μ1 st1 x v H1 p1 x1 l1 q1 h1=>C8 l1.sto q1 h1⟩⟩
theorem z4(h:SA X es fs):SE X (.List es pos) (kX fs):=⟨(GS h.h).imp fun σ H Q h=>by
 obtain⟨μ,ρ,st,l,h⟩:=h
 exact⟨μ,ρ,st,l,RK.bind h l fun μ1 st1 x v H1 p1 x1 l1 q1 h1=>rh l1.sto q1 h1⟩⟩
end
section
theorem kY{st:List ai}{Q:VK}{i:Int}(S:fG X.K X.mg μ st H)(h:Cq X μ H Q (.ok (.int i) st)):Q (.int i) H:=h μ _ H (ae _) c9.refl S .int
theorem j4{st:List ai}{Q:VK}{i:Bool}(S:fG X.K X.mg μ st H)(h:Cq X μ H Q (.ok (.bl i) st)):Q (.bl i) H:=h μ _ H (ae _) c9.refl S .bl
theorem n_{st:List ai}{Q:VK}{i:List Nat}(S:fG X.K X.mg μ st H)(h:Cq X μ H Q (.ok (.str i) st)):Q (.str (tx i)) H:=h μ _ H (ae _) c9.refl S .str
theorem Lc{Q:VK}{r:R W}(h:Cq X μ H Q r):RK X (qr X) μ σ H Q r:=by
 cases r with
 |ok a st=>exact h
 |ex c st=>exact h.elim
 |bad=>exact h
def C9(C:Int->Int->Prop)[∀i j,Decidable (C i j)](f:Int->Int->Int):W->W->List ai->R W
 |.int i,.int j,st=>if C i j then .ok (.int (f i j)) st else .bad
 |_,_,_=>.bad
theorem Bp{C C':Int->Int->Prop}[∀i j,Decidable (C' i j)]{f:Int->Int->Int}(h:mN X g (rI C fun i j=>.int (f i j)))(hC:∀i j,C' i j->C i j):re X g (C9 C' f):=⟨h.imp fun x y H Q ⟨μ,st,wx,wy,S,rx,ry,q⟩=>by
 cases wx with
 |int i=>
  cases wy with
  |int j=>
   simp only[C9]at q
   by_cases c:C' i j
   ·rw[aw c]at q;exact⟨i,j,rx.intE,ry.intE,hC i j c,kY S q⟩
   ·rw[aD c]at q;exact q.elim
  |_=>exact q.elim
 |_=>cases wy<;>exact q.elim,fun x y st=>by
 unfold C9
 split
 ·split<;>trivial
 ·trivial⟩
def Bq(f:Int->Int->Bool):W->W->List ai->R W
 |.int i,.int j,st=>.ok (.bl (f i j)) st
 |_,_,_=>.bad
theorem C_{f:Int->Int->Bool}(h:mN X g (Gu fun i j=>.bl (f i j))):re X g (Bq f):=⟨h.imp fun x y H Q ⟨μ,st,wx,wy,S,rx,ry,q⟩=>by
 cases wx with
 |int i=>
  cases wy with
  |int j=>exact⟨i,j,rx.intE,ry.intE,j4 S q⟩
  |_=>exact q.elim
 |_=>cases wy<;>exact q.elim,fun x y st=>by
 unfold Bq
 split<;>trivial⟩
abbrev yE(i j:Int):Prop:=(-(2^64)<i/\i<2^64)\/(-(2^64)<j/\j<2^64)
abbrev Br:=C9 (fun _ _=>True) fun i j=>i-j
abbrev OO:=C9 yE fun i j=>i*j
abbrev fM:=C9 (fun _ j=>0<j) fun i j=>i%j
abbrev wK:=C9 (fun _ j=>0<j/\j<1073741824) fun i j=>i/j
abbrev OP:=C9 (fun i j=>0<=j/\j<=1000000/\i.natAbs<2^64) fun i j=>i^j.toNat
abbrev u5:=C9 (fun i j=>0<=j/\j<=1000000/\i.natAbs<2^64) fun i j=>i*2^j.toNat
theorem Ld{f:Int->Int->V}(h:mN X g (Gu f)):mN X g (rI (fun _ _=>True) f):=h.imp fun _ _ _ _ ⟨i,j,a,b,_,q⟩=>⟨i,j,a,b,q⟩
theorem OQ:re X (binaryOp .Sub) Br:=Bp (Ld Ky) fun _ _ _=>trivial
theorem OR:re X (binaryOp .Mult) OO:=Bp Kz fun _ _ h=>h
theorem OS:re X (binaryOp .Mod) fM:=Bp KA fun _ _ h=>h
theorem Le:re X (binaryOp .FloorDiv) wK:=Bp Gv fun _ _ h=>h
theorem OT:re X (binaryOp .Pow) OP:=Bp KB fun _ _ h=>h
theorem OU:re X (binaryOp .LShift) u5:=Bp CD fun _ _ h=>h
def eS:W->W->List ai->R W
 |.int i,.int j,st=>.ok (.int (i+j)) st
 |.str a,.str b,st=>if a.length+b.length<=jh then .ok (.str (a++b)) st else .bad
 |.tup a,.tup b,st=>n9 (a++b) st
 |.loc n,.loc m,st=>match st[n]?,st[m]? with
  |some (.lst a),some (.lst b)=>mn (a++b) st
  |_,_=>.bad
 |_,_,_=>.bad
theorem GY(ws:List W)(st:List ai):qt (n9 ws st):=by unfold n9;split<;>trivial
theorem GZ(ws:List W)(st:List ai):qt (mn ws st):=by unfold mn;split<;>trivial
theorem OV:re X (binaryOp .Add) eS:=⟨fun pins s σ H x y v u Q I rv ru ⟨μ,st,wx,wy,S,rx,ry,q⟩=>by
 cases wx with
 |int i=>
  cases wy with
  |int j=>exact Kx pins s σ H x y v u Q I rv ru ⟨i,j,rx.intE,ry.intE,kY S q⟩
  |_=>exact q.elim
 |str a=>
  cases wy with
  |str b=>
   simp only[eS]at q
   by_cases c:a.length+b.length<=jh
   ·rw[aw c]at q
    exact yo pins s σ H x y v u Q I rv ru ⟨_,_,rx.strE,ry.strE,by rw[iH,iH];exact il c,by rw[yw];exact n_ S q⟩
   ·rw[aD c]at q;exact q.elim
  |_=>exact q.elim
 |tup a=>
  cases wy with
  |tup b=>
   obtain⟨p1,vs1,rfl,h1,r1⟩:=rx.tupE
   obtain⟨p2,vs2,rfl,h2,r2⟩:=ry.tupE
   have q':Cq X μ H Q (n9 (a++b) st):=q
   unfold n9 at q'
   by_cases c:(a++b).length<=jh
   ·rw[aw c]at q'
    refine K5.h pins s σ H _ _ v u Q I rv ru ⟨p1,p2,vs1,vs2,rfl,rfl,h1,h2,by rw[<- r1.len,<- r2.len,<- aI];exact il c,fun p H2 e t=>?_⟩
    exact q' μ _ _ (ae _) (eG.same e) (S.same e) (.tupI t ((r1.app r2).mono (ae _) (eG.same e)))
   ·rw[aD c]at q';exact q'.elim
  |_=>exact q.elim
 |loc n=>
  cases wy with
  |loc m=>
   simp only[eS]at q
   cases e1:st[n]? with
   |none=>rw[e1]at q;exact q.elim
   |some c1=>
    cases e2:st[m]? with
    |none=>rw[e1,e2]at q;cases c1<;>exact q.elim
    |some c2=>
     cases c1 with
     |lst a=>
      cases c2 with
      |lst b=>
       rw[e1,e2]at q
       obtain⟨a1,g1,vs1,k1,r1⟩:=S.get e1
       obtain⟨a2,g2,vs2,k2,r2⟩:=S.get e2
       obtain⟨b1,f1,rfl⟩:=rx.locE
       obtain⟨b2,f2,rfl⟩:=ry.locE
       rw[g1]at f1;cases f1
       rw[g2]at f2;cases f2
       obtain⟨hz,qq⟩:=rh (σ:=σ) S (r1.app r2) (Lc q)
       exact GU pins s σ H _ _ v u Q I rv ru ⟨a1,a2,vs1,vs2,rfl,rfl,k1,k2,by rw[<- aI];exact hz,qq⟩
      |_=>rw[e1,e2]at q;exact q.elim
     |_=>rw[e1,e2]at q;exact q.elim
  |_=>exact q.elim
 |_=>cases wy<;>exact q.elim,fun x y st=>by
 unfold eS
 split
 ·trivial
 ·split<;>trivial
 ·exact GY _ _
 ·split
  ·exact GZ _ _
  ·trivial
 ·trivial⟩
abbrev G0:=Bq fun i j=>decide (i<j)
abbrev OW:=Bq fun i j=>decide (j<i)
abbrev Lf:=Bq fun i j=>decide (j<=i)
theorem w_lt:re X (compareOp .Lt) G0:=C_ N9
theorem Lg:re X (compareOp .Gt) OW:=C_ N_
theorem OX:re X (compareOp .GtE) Lf:=C_ Oa
end
mutual
def gY:W->W->Option Bool
 |.non,.non=>some true
 |.bl a,.bl b=>some (a==b)
 |.bl a,.int b=>some ((if a then 1 else 0)==b)
 |.int a,.bl b=>some (a==(if b then 1 else 0))
 |.int a,.int b=>some (a==b)
 |.str a,.str b=>some (a==b)
 |.tup a,.tup b=>eqWs a b
 |.loc _,_=>none
 |.non,.loc _=>none
 |.bl _,.loc _=>none
 |.int _,.loc _=>none
 |.str _,.loc _=>none
 |.tup _,.loc _=>none
 |.non,.bl _=>some false
 |.non,.int _=>some false
 |.non,.str _=>some false
 |.non,.tup _=>some false
 |.bl _,.non=>some false
 |.bl _,.str _=>some false
 |.bl _,.tup _=>some false
 |.int _,.non=>some false
 |.int _,.str _=>some false
 |.int _,.tup _=>some false
 |.str _,.non=>some false
 |.str _,.bl _=>some false
 |.str _,.int _=>some false
 |.str _,.tup _=>some false
 |.tup _,.non=>some false
 |.tup _,.bl _=>some false
 |.tup _,.int _=>some false
 |.tup _,.str _=>some false
def eqWs:List W->List W->Option Bool
 |[],[]=>some true
 |[],_::_=>some false
 |_::_,[]=>some false
 |x::xs,y::ys=>match gY x y,eqWs xs ys with
  |some a,some b=>some (a&&b)
  |_,_=>none
end
mutual
def W.dep:W->Nat
 |.tup ws=>depWs ws+1
 |_=>0
def depWs:List W->Nat
 |[]=>0
 |w::ws=>max w.dep (depWs ws)
end
theorem nI:∀(xs ys:List W) (b:Bool),eqWs xs ys=some b->∃e:Nat->Bool,(∀j (h1:j<xs.length) (h2:j<ys.length),gY xs[j] ys[j]=some (e j))/\((List.range (min xs.length ys.length)).all e&&xs.length==ys.length)=b
 |[],[],b,h=>by unfold eqWs at h;cases h;exact⟨fun _=>true,fun j h1=>absurd h1 (cp _),rfl⟩
 |[],y::ys,b,h=>by unfold eqWs at h;cases h;exact⟨fun _=>true,fun j h1=>absurd h1 (cp _),by simp⟩
 |x::xs,[],b,h=>by unfold eqWs at h;cases h;exact⟨fun _=>true,fun j _ h1=>absurd h1 (cp _),by simp⟩
 |x::xs,y::ys,b,h=>by
  unfold eqWs at h
  cases e1:gY x y with
  |none=>rw[e1]at h;simp at h
  |some a=>
   cases e2:eqWs xs ys with
   |none=>rw[e1,e2]at h;simp at h
   |some c=>
    rw[e1,e2]at h
    simp at h
    obtain⟨e,he,hb⟩:=nI xs ys c e2
    refine⟨fun j=>match j with|0=>a|j+1=>e j,fun j h1 h2=>?_,?_⟩
    ·cases j with
     |zero=>exact e1
     |succ j=>exact he j (hW h1) (hW h2)
    ·have m:min (x::xs).length (y::ys).length=min xs.length ys.length+1:=by simp only[bu];omega
     rw[m,hU,kj,List.all_map,<- h,<- hb]
     simp[dR,Bool.and_assoc]
theorem z5{a b:W}{x:V}{k:Bool}(hn:a.dep<=0)(ra:bb X.K μ H a x)(rb:bb X.K μ H b x)(he:gY a b=some k):k=true:=by
 cases a with
 |tup i=>unfold W.dep at hn;omega
 |non=>cases ra.nonE;cases b<;>first|(unfold gY at he;cases he;rfl)|cases rb.blE|cases rb.intE|cases rb.strE|(obtain⟨_,_,z,_⟩:=rb.tupE;cases z)|(unfold gY at he;cases he)
 |bl i=>cases ra.blE;cases b<;>first|(cases rb.blE;unfold gY at he;simp at he;exact he)|cases rb.nonE|cases rb.intE|cases rb.strE|(obtain⟨_,_,z,_⟩:=rb.tupE;cases z)|(unfold gY at he;cases he)
 |int i=>cases ra.intE;cases b<;>first|(cases rb.intE;unfold gY at he;simp at he;exact he)|cases rb.nonE|cases rb.blE|cases rb.strE|(obtain⟨_,_,z,_⟩:=rb.tupE;cases z)|(unfold gY at he;cases he)
 |str i=>cases ra.strE;cases b<;>first|(have z:=rb.strE;injection z with z;rw[CV.mp z]at he;unfold gY at he;simp at he;exact he)|cases rb.nonE|cases rb.blE|cases rb.intE|(obtain⟨_,_,z,_⟩:=rb.tupE;cases z)|(unfold gY at he;cases he)
 |loc i=>cases b<;>(unfold gY at he;cases he)
theorem Da(I:bj X pins σ H s):∀(n:Nat) (a b:W) (x:V) (k:Bool),a.dep<=n->bb X.K μ H a x->bb X.K μ H b x->gY a b=some k->k=true:=by
 intro n
 induction n with
 |zero=>exact fun a b x k hn ra rb he=>z5 hn ra rb he
 |succ n ih=>
  intro a b x k hn ra rb he
  cases a with
  |tup i=>
   obtain⟨p',Gd,rfl,hS',r'⟩:=ra.tupE
   cases b with
   |tup z=>
    obtain⟨p,vs,e,hS,r⟩:=rb.tupE
    cases e
    obtain rfl:=I.tuple_inj hS hS'
    have he':eqWs i z=some k:=by unfold gY at he;exact he
    have dn:depWs i<=n:=by unfold W.dep at hn;omega
    have key:∀(i z:List W) (vs:List V) (k:Bool),depWs i<=n->RelWs X.K μ H i vs->RelWs X.K μ H z vs->eqWs i z=some k->k=true:=by
     intro i
     induction i with
     |nil=>
      intro z vs k _ r' r he
      have e1:=r'.nilE
      subst e1
      cases z with
      |nil=>unfold eqWs at he;cases he;rfl
      |cons _ _=>have e2:=r.len;simp at e2
     |cons w i ih2=>
      intro z vs k dn r' r he
      obtain⟨x,xs,rfl,rx,rxs⟩:=r'.consE
      cases z with
      |nil=>have e2:=r.len;simp at e2
      |cons y z=>
       obtain⟨x2,xs2,e3,ry,rys⟩:=r.consE
       cases e3
       unfold eqWs at he
       cases e1:gY w y with
       |none=>rw[e1]at he;simp at he
       |some k1=>
        cases e2:eqWs i z with
        |none=>rw[e1,e2]at he;simp at he
        |some k2=>
         rw[e1,e2]at he
         simp at he
         unfold depWs at dn
         have q1:=ih w y x k1 (by omega) rx ry e1
         have q2:=ih2 z xs k2 (by omega) rxs rys e2
         rw[<- he,q1,q2];rfl
    exact key i z _ k dn r' r he'
   |non=>cases rb.nonE
   |bl z=>cases rb.blE
   |int z=>cases rb.intE
   |str z=>cases rb.strE
   |loc z=>unfold gY at he;cases he
  |_=>exact z5 (av _) ra rb he
theorem py:∀{ws:List W} {j:Nat} (h:j<ws.length),ws[j].dep<=depWs ws
 |w::ws,0,_=>by unfold depWs;exact Nat.le_max_left _ _
 |w::ws,j+1,h=>by unfold depWs;exact be (py (j:=j) (hW h)) (Nat.le_max_right _ _)
inductive Sh(s:Shared):W->Value->Prop
 |non:Sh s .non .none
 |bl (b:Bool):Sh s (.bl b) (.bool b)
 |int (i:Int) (t:Tok):Sh s (.int i) (.int i t)
 |str (l:List Nat) (t:Tok):Sh s (.str l) (.str (tx l) t)
 |tup (ws:List W) (p:Addr) (bw:List Value) (h:IsTup s.heap p bw.toArray):Sh s (.tup ws) (.ref p)
 |loc (n:Nat) (u:Value):Sh s (.loc n) u
section
theorem pZ(I:bj X pins σ H s){a:W}{x:V}(ra:bb X.K μ H a x)(ru:bF x u):Sh s a u:=by
 cases a with
 |non=>cases ra.nonE;cases ru;exact .non
 |bl i=>cases ra.blE;cases ru;exact .bl _
 |int i=>cases ra.intE;obtain⟨t,rfl⟩:=ru;exact .int _ _
 |str i=>cases ra.strE;obtain⟨t,rfl⟩:=ru;exact .str _ _
 |tup i=>obtain⟨p,vs,rfl,hS,_⟩:=ra.tupE;cases ru;obtain⟨bw,_,ht,_⟩:=I.tuple hS;exact .tup _ _ _ ht
 |loc i=>exact .loc _ _
open SeqAt.EqAt in
theorem z6{a b:W}{v:Value}{k:Bool}(ha:Sh s a u)(hb:Sh s b v)(hu:A.units<cLine)(ht:b.dep=0\/a.dep=0)(he:gY a b=some k):SeqAt.EqAt A s u v k:=by
 cases ha<;>cases hb<;>first
  |(unfold gY at he;cases he;done)
  |(unfold gY at he;cases he;with_reducible first|exact same _|exact bool_none _|exact bool_bool _ _|exact bool_int _ _ _|exact bool_str _ _ _|exact int_none _ _|exact int_bool _ _ _|exact int_int _ _ _ _|exact int_str _ _ _ _|exact str_none _ _|exact str_bool _ _ _|exact str_int _ _ _ _|exact none_bool _|exact none_int _ _|exact none_str _ _)
  |(unfold gY at he;cases he;(with_reducible first|refine' bool_tuple _ ?_ hu|refine' int_tuple _ _ ?_ hu|refine' str_tuple _ _ ?_ hu|refine' tuple_none ?_ hu|refine' tuple_bool _ ?_ hu|refine' tuple_int _ _ ?_ hu|refine' tuple_str _ _ ?_ hu|refine' none_tuple ?_ hu);rotate_left;assumption)
  |(unfold W.dep at ht;omega)
  |skip
 rename_i i t z r
 unfold gY at he;cases he
 have:=str_str (A:=A) (s:=s) (tx i) t (tx z) r
 rw[<- nA]at this
 exact this
open SeqAt.RcAt in
theorem G3{a b:W}{v:Value}{k:Bool}(ha:Sh s a u)(hb:Sh s b v)(hu:A.units<cLine)(ht:b.dep=0\/a.dep=0)(he:gY a b=some k):SeqAt.RcAt A s u v k:=by
 cases ha<;>cases hb<;>first
  |(unfold gY at he;cases he;done)
  |(unfold gY at he;cases he;with_reducible first|exact none_none|exact bool_none _|exact bool_bool _ _|exact bool_int _ _ _|exact bool_str _ _ _|exact int_none _ _|exact int_bool _ _ _|exact int_int _ _ _ _|exact int_str _ _ _ _|exact str_none _ _|exact str_bool _ _ _|exact str_int _ _ _ _|exact none_bool _|exact none_int _ _|exact none_str _ _)
  |(unfold gY at he;cases he;(with_reducible first|refine' bool_tuple _ ?_ hu|refine' int_tuple _ _ ?_ hu|refine' str_tuple _ _ ?_ hu|refine' tuple_none ?_ hu|refine' tuple_bool _ ?_ hu|refine' tuple_int _ _ ?_ hu|refine' tuple_str _ _ ?_ hu|refine' none_tuple ?_ hu);rotate_left;assumption)
  |(unfold W.dep at ht;omega)
  |skip
 rename_i i t z r
 unfold gY at he;cases he
 have:=str_str (A:=A) (s:=s) (tx i) t (tx z) r
 rw[<- nA]at this
 exact this
open SeqAt.RcNeAt in
theorem Bs         {a b:W} {v:Value} {k:Bool} (ha : Sh s a u) (hb : Sh s b v) (hu : A.units < cLine) (ht : b.dep = 0 \/ a.dep = 0) (he : gY  a b = some k) : SeqAt.RcNeAt A s u v (!k) := by
  cases ha <;> cases hb <;> first
    | (unfold gY  at he; cases he; done)
    | (unfold gY  at he; cases he; try simp only [dO           , jC            ]
       with_reducible first | exact none_none | exact bool_none _ | exact bool_bool _ _ | exact bool_int _ _ _ | exact bool_str _ _ _ | exact int_none _ _ | exact int_bool _ _ _ | exact int_int _ _ _ _ | exact int_str _ _ _ _ | exact str_none _ _ | exact str_bool _ _ _ | exact str_int _ _ _ _ | exact none_bool _ | exact none_int _ _ | exact none_str _ _)
    | (unfold gY  at he; cases he; try simp only [dO           , jC            ]
       (with_reducible first | refine' bool_tuple _ ?_ hu | refine' int_tuple _ _ ?_ hu | refine' str_tuple _ _ ?_ hu | refine' tuple_none ?_ hu | refine' tuple_bool _ ?_ hu | refine' tuple_int _ _ ?_ hu | refine' tuple_str _ _ ?_ hu | refine' none_tuple ?_ hu); rotate_left; assumption)
    | (unfold W.dep at ht; omega)
    | skip
  rename_i i t z r
  unfold gY  at he; cases he
  have := str_str (A := A) (s := s) (tx i) t (tx z) r
  rw [<- nA           ] at this
  exact this
theorem wL{i z:List W}{Gd:List V}{its':List Value}{e:Nat->Bool}{A:Around}(ih:∀(a b:W) (A:Around) (x y:V) (u v:Value) (k:Bool),a.dep<=m->bb X.K μ H a x->bb X.K μ H b y->bF x u->bF y v->A.units+m<cLine->gY a b=some k->SeqAt.EqAt A s u v k)
  (r':RelWs X.K μ H i Gd) (r:RelWs X.K μ H z vs) (w':b8 Gd its') (w:b8 vs bw) (hd:depWs i<=m) (hu:A.units+1+m<cLine) (h1:∀j (h1:j<i.length) (h2:j<z.length),gY i[j] z[j]=some (e j)):∀j (j1:j<its'.toArray.size) (j2:j<bw.toArray.size),SeqAt.EqAt A.in1 s its'.toArray[j] bw.toArray[j] (e j):=fun j j1 j2=>by
 have j1':j<i.length:=by rw[r'.len,w'.length];simpa using j1
 have j2':j<z.length:=by rw[r.len,w.length];simpa using j2
 obtain⟨x1,g1,q1⟩:=r'.get (ac j1')
 obtain⟨x2,g2,q2⟩:=r.get (ac j2')
 obtain⟨u1,f1,v1⟩:=w'.get g1
 obtain⟨u2,f2,v2⟩:=w.get g2
 have E:=ih i[j] z[j] A.in1 x1 x2 u1 u2 (e j) (be (py j1') hd) q1 q2 v1 v2 hu (h1 j j1' j2')
 have t1:its'.toArray[j]=u1:=by simpa using (aa.mp f1).2
 have t2:bw.toArray[j]=u2:=by simpa using (aa.mp f2).2
 rw[t1,t2];exact E
theorem Db(I:bj X pins σ H s):∀(n:Nat) (a b:W) (A:Around) (x y:V) (u v:Value) (k:Bool),a.dep<=n->bb X.K μ H a x->bb X.K μ H b y->bF x u->bF y v->A.units+n<cLine->gY a b=some k->SeqAt.EqAt A s u v k:=by
 intro n
 induction n with
 |zero=>exact fun a b A x y u v k hn ra rb ru rv hu he=>z6 (pZ I ra ru) (pZ I rb rv) hu (.inr (by omega)) he
 |succ m ih=>
  intro a b A x y u v k hn ra rb ru rv hu he
  by_cases hb:b.dep=0\/a.dep=0
  ·exact z6 (pZ I ra ru) (pZ I rb rv) (by omega) hb he
  ·cases b with
   |tup z=>
    cases a with
    |tup i=>
     obtain⟨p',Gd,rfl,hS',r'⟩:=id ra.tupE;cases ru;obtain⟨its',w',ht',_⟩:=I.tuple hS'
     obtain⟨p,vs,rfl,hS,r⟩:=id rb.tupE;cases rv;obtain⟨bw,w,ht,_⟩:=I.tuple hS
     by_cases hpp:p'=p
     ·subst hpp
      rw[Da I (m+1) (.tup i) (.tup z) (.ref p') k hn ra rb he]
      exact SeqAt.EqAt.same _
     ·obtain⟨e,h1,h2⟩:=nI i z k (by unfold gY at he;exact he)
      have R:=SeqAt.RcAt.tuples (A:=A) (e:=e) ht' ht (by omega) (wL ih r' r w' w (by unfold W.dep at hn;omega) (by omega) h1)
      rw[show its'.toArray.size=i.length by simp[<- w'.length,<- r'.len],show bw.toArray.size=z.length by simp[<- w.length,<- r.len],h2]at R
      exact SeqAt.EqAt.of_refs hpp R
    |_=>exact(hb (.inr rfl)).elim
   |_=>exact(hb (.inl rfl)).elim
theorem Dd(I:bj X pins σ H s){a b:W}{x:V}{v:Value}{k:Bool}(hn:b.dep=0\/a.dep<=n)(ra:bb X.K μ H a x)(rb:bb X.K μ H b y)(ru:bF x u)(rv:bF y v)(hu:A.units+n<cLine)(he:gY a b=some k):SeqAt.RcAt A s u v k/\SeqAt.RcNeAt A s u v (!k):=by
 by_cases hb:b.dep=0\/a.dep=0
 ·exact⟨G3 (pZ I ra ru) (pZ I rb rv) (by omega) hb he,Bs (pZ I ra ru) (pZ I rb rv) (by omega) hb he⟩
 cases b with
 |tup z=>
  cases a with
  |tup i=>
   obtain⟨p',Gd,rfl,hS',r'⟩:=ra.tupE;cases ru;obtain⟨its',w',ht',_⟩:=I.tuple hS'
   obtain⟨p,vs,rfl,hS,r⟩:=rb.tupE;cases rv;obtain⟨bw,w,ht,_⟩:=I.tuple hS
   obtain⟨e,h1,h2⟩:=nI i z k (by unfold gY at he;exact he)
   have hd:depWs i+1<=n:=hn.elim (fun z=>(hb (.inl z)).elim) id
   obtain⟨m,rfl⟩:∃m,n=m+1:=⟨n-1,by omega⟩
   have T:=wL (A:=A) (Db I m) r' r w' w (by omega) (by omega) h1
   have R:=SeqAt.RcAt.tuples (A:=A) (e:=e) ht' ht (by omega) T
   have R2:=SeqAt.RcNeAt.tuples (A:=A) (e:=e) ht' ht (by omega) T
   rw[show its'.toArray.size=i.length by simp[<- w'.length,<- r'.len],show bw.toArray.size=z.length by simp[<- w.length,<- r.len],h2]at R R2
   exact⟨R,R2⟩
  |_=>exact(hb (.inr rfl)).elim
 |_=>exact(hb (.inl rfl)).elim
end
def nT:W->W->List ai->R W:=fun x y st=>match gY x y with
 |some k=>if y.dep=0\/x.dep<=64 then .ok (.bl k) st else .bad
 |none=>.bad
theorem OY{k:Nat}(hr:f' k X.A):re X (compareOp .Eq) nT:=⟨fun pins s σ H x y v u Q I rv ru ⟨μ,st,wx,wy,S,rx,ry,q⟩=>by
 unfold nT at q
 cases e:gY wx wy with
 |none=>rw[e]at q;exact q.elim
 |some b=>
  rw[e]at q
  simp only at q
  by_cases c:wy.dep=0\/wx.dep<=64
  ·rw[aw c]at q
   have:=hr.units
   exact(Dd I c rx ry rv ru this e).1 X.prog X.w X.xe _ ⟨.bl b,H,I,rfl,j4 S q⟩
  ·rw[aD c]at q;exact q.elim,fun x y st=>by
 unfold nT
 split
 ·split<;>trivial
 ·trivial⟩
def t_:W->W->List ai->R W:=fun x y st=>match gY x y with
 |some k=>if y.dep=0\/x.dep<=64 then .ok (.bl (!k)) st else .bad
 |none=>.bad
theorem De{k:Nat}(hr:f' k X.A):re X (compareOp .NotEq) t_:=⟨fun pins s σ H x y v u Q I rv ru ⟨μ,st,wx,wy,S,rx,ry,q⟩=>by
 unfold t_ at q
 cases e:gY wx wy with
 |none=>rw[e]at q;exact q.elim
 |some b=>
  rw[e]at q
  simp only at q
  by_cases c:wy.dep=0\/wx.dep<=64
  ·rw[aw c]at q
   have:=hr.units
   exact(Dd I c rx ry rv ru this e).2 X.prog X.w X.xe _ ⟨.bl (!b),H,I,rfl,j4 S q⟩
  ·rw[aD c]at q;exact q.elim,fun x y st=>by
 unfold t_
 split
 ·split<;>trivial
 ·trivial⟩
def pz(x:W):List W->Option Bool
 |[]=>some false
 |y::ys=>match gY y x,pz x ys with
  |some a,some b=>some (a||b)
  |_,_=>none
def Bt(FQ:Bool)(x y:W)(st:List ai):R W:=match y with
 |.str l=>(match x with
  |.str [c]=>.ok (.bl (if FQ then !decide (c∈l)else decide (c∈l))) st
  |_=>.bad)
 |.tup ys=>(match pz x ys with
  |some k=>if depWs ys<=63 then .ok (.bl (if FQ then !k else k)) st else .bad
  |none=>.bad)
 |.loc n=>(match st[n]? with
  |some (.lst ys)=>(match pz x ys with
   |some k=>if depWs ys<=63 then .ok (.bl (if FQ then !k else k)) st else .bad
   |none=>.bad)
  |_=>.bad)
 |_=>.bad
theorem wM{x:W}:∀{ys:List W} {k:Bool},pz x ys=some k->(∀(j:Nat) w,ys[j]?=some w->∃b,gY w x=some b)/\(k=true↔∃(j:Nat) (w:W),ys[j]?=some w/\gY w x=some true)
 |[],k,h=>by
  unfold pz at h;cases h
  exact⟨fun j w e=>by simp at e,fun z=>(by cases z),fun⟨j,w,e,_⟩=>(by simp at e)⟩
 |y::ys,k,h=>by
  unfold pz at h
  cases e1:gY y x with
  |none=>rw[e1]at h;simp at h
  |some a=>
   cases e2:pz x ys with
   |none=>rw[e1,e2]at h;simp at h
   |some b=>
    rw[e1,e2]at h
    simp at h
    obtain⟨q1,q2⟩:=wM e2
    refine⟨fun j w e=>?_,fun z=>?_,fun⟨j,w,e,f⟩=>?_⟩
    ·cases j with
     |zero=>simp at e;subst e;exact⟨a,e1⟩
     |succ j=>exact q1 j w (by simpa using e)
    ·rw[<- h]at z
     cases a with
     |true=>exact⟨0,y,rfl,e1⟩
     |false=>
      obtain⟨j,w,p,q⟩:=q2.mp (by simpa using z)
      exact⟨j+1,w,by simpa using p,q⟩
    ·rw[<- h]
     cases j with
     |zero=>simp at e;subst e;rw[e1]at f;cases f;rfl
     |succ j=>rw[q2.mpr ⟨j,w,by simpa using e,f⟩];simp
theorem rj(I:bj X pins σ H s){wx:W}{x:V}{v:Value}(rx:bb X.K μ H wx x)(rv:bF x v)(n:Nat){A:Around}(hu:A.units+n<cLine)
  {ys:List W} {vs:List V} {us:List Value} {k:Bool} (hd:depWs ys<=n) (rs:RelWs X.K μ H ys vs) (jL:b8 vs us) (ha:pz wx ys=some k):∃e:Value->Bool,(∀u,u∈us.toArray->SeqAt.EqAt A s u v (e u))/\us.toArray.any e=k:=by
 classical
 obtain⟨q1,q2⟩:=wM ha
 have at':∀(j:Nat) (u:Value),us[j]?=some u->∃w b,ys[j]?=some w/\gY w wx=some b/\SeqAt.EqAt A s u v b:=fun j u e=>by
  have hj:j<ys.length:=by
   have h1:=(aa.mp e).1
   rw[rs.len,jL.length];exact h1
  obtain⟨b,hb⟩:=q1 j ys[j] (ac hj)
  obtain⟨y,g1,r1⟩:=rs.get (ac hj)
  obtain⟨u',f1,v1⟩:=jL.get g1
  rw[e]at f1;cases f1
  exact⟨_,b,ac hj,hb,Db I n ys[j] wx A y x u v b (be (py hj) hd) r1 rx v1 rv hu hb⟩
 refine⟨fun u=>decide (∃(j:Nat) (w:W),us[j]?=some u/\ys[j]?=some w/\gY w wx=some true),fun u hu=>?_,?_⟩
 ·by_cases c:∃(j:Nat) (w:W),us[j]?=some u/\ys[j]?=some w/\gY w wx=some true
  ·show SeqAt.EqAt A s u v (decide _)
   rw[bp c]
   obtain⟨j,w,e1,e2,e3⟩:=c
   obtain⟨w',b,f1,f2,f3⟩:=at' j u e1
   rw[e2]at f1;cases f1
   rw[e3]at f2;cases f2
   exact f3
  ·show SeqAt.EqAt A s u v (decide _)
   rw[a7 c]
   obtain⟨j,hj,e⟩:=List.mem_iff_getElem.mp (show u∈us by simpa using hu)
   have e':us[j]?=some u:=by rw[ac hj,e]
   obtain⟨w',b,f1,f2,f3⟩:=at' j u e'
   cases b with
   |false=>exact f3
   |true=>exact absurd ⟨j,w',e',f1,f2⟩ c
 ·rw[List.any_toArray]
  cases k with
  |true=>
   obtain⟨j,w,e1,e2⟩:=q2.mp rfl
   have hj:j<us.length:=by rw[<- jL.length,<- rs.len];exact(aa.mp e1).1
   exact kO.mpr ⟨us[j],gw hj,bp ⟨j,w,ac hj,e1,e2⟩⟩
  |false=>
   refine eX.mpr fun u _ c=>?_
   obtain⟨j,w,_,e1,e2⟩:=hX c
   have:=q2.mpr ⟨j,w,e1,e2⟩
   cases this
theorem z7{k:Nat}(hr:f' k X.A):re X (compareOp .NotIn) (Bt true):=⟨fun pins s σ H x y v u Q I rv ru ⟨μ,st,wx,wy,S,rx,ry,q⟩=>by
 have hu:=hr.units
 cases wy with
 |str l=>
  simp only[Bt]at q
  split at q
  ·exact u4 pins s σ H x y v u Q I rv ru ⟨_,_,rx.strE,ry.strE,j4 S q⟩
  ·exact q.elim
 |tup ys=>
  simp only[Bt]at q
  cases hk:pz wx ys with
  |none=>rw[hk]at q;exact q.elim
  |some kk=>
   rw[hk]at q
   simp only at q
   by_cases c:depWs ys<=63
   ·rw[aw c]at q
    obtain⟨p,vs,rfl,hS,r⟩:=ry.tupE
    cases ru
    obtain⟨bw,w,ht,_⟩:=I.tuple hS
    obtain⟨e,he,ha⟩:=rj (A:=X.A.in1) I rx rv 63 (by show X.A.units+1+63<cLine;omega) c r w hk
    exact SeqAt.notIn_tupleAt e ht he ⟨.bl _,H,I,rfl,by rw[ha];exact j4 S q⟩
   ·rw[aD c]at q;exact q.elim
 |loc n=>
  simp only[Bt]at q
  cases e1:st[n]? with
  |none=>rw[e1]at q;exact q.elim
  |some cc=>
   rw[e1]at q
   cases cc with
   |lst ys=>
    simp only at q
    cases hk:pz wx ys with
    |none=>rw[hk]at q;exact q.elim
    |some kk=>
     rw[hk]at q
     simp only at q
     by_cases c:depWs ys<=63
     ·rw[aw c]at q
      obtain⟨a1,g1,vs,k1,r⟩:=S.get e1
      obtain⟨b1,f1,rfl⟩:=ry.locE
      rw[g1]at f1;cases f1
      cases ru
      obtain⟨bw,w,ht,_⟩:=I.list (qk.of k1)
      obtain⟨e,he,ha⟩:=rj (A:=X.A.in1) I rx rv 63 (by show X.A.units+1+63<cLine;omega) c r w hk
      exact SeqAt.notIn_listAt e ht.isList he ⟨.bl _,H,I,rfl,by rw[ha];exact j4 S q⟩
     ·rw[aD c]at q;exact q.elim
   |_=>exact q.elim
 |_=>exact q.elim,fun x y st=>by
 unfold Bt
 repeat' split
 all_goals trivial⟩
section
variable{w:World}
theorem wN{t sl:Addr}{vl vu:Value}{lo hi:Option Int}(ht:IsTup s.heap t items)(hs:s.heap.IsSliceOf sl vl vu .none)(pl:IsPart vl lo)(pu:IsPart vu hi)
  (hw:HT.sIx items.size 0 lo=0/\HT.sIx items.size items.size hi=items.size) (h:Q (.ref t) s):wpAny (model prog w) A (getItem (.ref t) (.ref sl)) Q E s:=by
 obtain⟨os,hos,hcs,we⟩:=id hs
 have hTs:s.TypeIs (.ref sl) "slice":=⟨os,hos,hcs⟩
 unfold getItem
 try with_reducible refine cv ?_
 first|refine af (au ?_)|skip
 refine af (wpAny_sequenceKey ht.typeIs (by decide) ?_)
 refine af (cY (name:=Str.ofString "__getitem__") ht.typeIs dz
  (cZ dz ht.typeIs entry_tuple_getitem ?_ (args_tuple_getitem _ _)))
 show wpAny _ _ (Builtin.Tuple.tupleItemsOf (.ref t) >>= _) _ _ s
 refine af (tupleItemsOf_ ht ?_)
 refine af (oY hTs ?_)
 rw[aw (by decide)]
 refine af (HT.sliceApplied_gen hs pl pu ?_)
 have hyes:(((HT.sIx items.size 0 lo:Nat):Int)==0&&(1:Int)==1&&(HT.sIx items.size items.size hi-HT.sIx items.size 0 lo)==items.size)=true:=by
  rw[hw.1,hw.2];simp
 show wpAny _ _ (if (((HT.sIx items.size 0 lo:Nat):Int)==0&&(1:Int)==1&&(HT.sIx items.size items.size hi-HT.sIx items.size 0 lo)==items.size)=true then _ else _) _ _ s
 rw[aw hyes]
 unfold Builtin.Tuple.tupleIsExact
 obtain⟨ot,hot,Rg,nt,hdt⟩:=id ht
 refine af (af (oY (T:="tuple") ht.typeIs ?_))
 refine au ?_
 rw[aw (by decide)]
 exact af (gK (au ⟨_,rfl,au h⟩))
end
section
variable{a b o:Expr}{fa fb fc fe:FE}{fs:FA}
def lstOf(st:List ai)(n:Nat):Option (List W):=match st[n]? with
 |some (.lst ws)=>some ws
 |some (.ro ws)=>some ws
 |_=>none
theorem fG.lstOf{st:List ai}(S:fG K mg μ st H)(h:lstOf st n=some ws):∃a vs,μ[n]?=some a/\qk K H a vs/\RelWs K μ H ws vs:=by
 unfold L2.lstOf at h
 cases e:st[n]? with
 |none=>rw[e]at h;cases h
 |some cc=>
  rw[e]at h
  cases cc with
  |lst zs=>cases h;obtain⟨a,g,vs,k,r⟩:=S.get e;exact⟨a,vs,g,qk.of k,r⟩
  |ro zs=>cases h;obtain⟨a,g,vs,k,r⟩:=S.get e;exact⟨a,vs,g,k.sq,r⟩
  |exc zs=>cases h
  |dct zs=>cases h
  |rod zs=>cases h
  |dcx zs=>cases h
  |tab _ _ _=>cases h
  |pin _ _ _ _=>cases h
  |gone=>cases h
def pf(o:Option α)(k:α->R W):R W:=match o with
 |some a=>k a
 |none=>.bad
@[simp] theorem cA{α:Type}(a:α)(k:α->R W):pf (some a) k=k a:=rfl
def bJ(x y:W)(st:List ai):R W:=match x,y with
 |.tup ws,.int i=>pf (pW ws i) fun w=>.ok w st
 |.str l,.int i=>if l.length<=jh then pf (pW l i) (fun c=>.ok (.str [c]) st)else .bad
 |.loc n,.int i=>pf (lstOf st n) fun ws=>pf (pW ws i) fun w=>.ok w st
 |_,_=>.bad
theorem z8{i:Int}{w:W}(r:RelWs K μ H ws vs)(h:pW ws i=some w):∃v,pW vs i=some v/\bb K μ H w v:=by
 unfold pW at h ⊢
 rw[<- r.len]
 cases e:Ba ws.length i with
 |none=>rw[e]at h;cases h
 |some k=>rw[e]at h;exact r.get h
theorem RZ:F7 X (RX X bJ):=fun value slice pins s σ H x y v u Q I rv ru ⟨μ,st,wx,wy,S,rx,ry,q⟩ hs=>by
 refine KL value slice pins s σ H x y v u Q I rv ru ?_ hs
 cases wy with
 |int i=>
  cases wx with
  |tup ws=>
   simp only[bJ]at q
   cases e1:pW ws i with
   |none=>rw[e1]at q;exact q.elim
   |some w=>
    rw[e1]at q
    obtain⟨p,vs,rfl,hS,r⟩:=rx.tupE
    obtain⟨z,f,g⟩:=z8 r e1
    exact .inr (.inl ⟨p,vs,i,z,rfl,ry.intE,hS,f,q μ z H (ae _) c9.refl S g⟩)
  |str l=>
   simp only[bJ]at q
   by_cases c:l.length<=jh
   ·rw[aw c]at q
    cases e1:pW l i with
    |none=>rw[e1]at q;exact q.elim
    |some w=>
     rw[e1]at q
     exact .inr (.inr ⟨_,i,w,rx.strE,ry.intE,by rw[iH];exact il c,by rw[KS];exact e1,n_ S q⟩)
   ·rw[aD c]at q;exact q.elim
  |loc n=>
   simp only[bJ]at q
   cases e0:lstOf st n with
   |none=>rw[e0]at q;exact q.elim
   |some ws=>
    rw[e0]at q
    cases e1:pW ws i with
    |none=>rw[cA,e1]at q;exact q.elim
    |some w=>
     rw[cA,e1]at q
     obtain⟨a,vs,g,hS,r⟩:=S.lstOf e0
     obtain⟨b1,f1,rfl⟩:=rx.locE
     rw[g]at f1;cases f1
     obtain⟨z,f,g⟩:=z8 r e1
     exact .inl ⟨_,vs,i,z,rfl,ry.intE,hS,f,q μ z H (ae _) c9.refl S g⟩
  |_=>exact q.elim
 |_=>cases wx<;>exact q.elim
theorem nq{o:Option α}{k:α->R W}(h:∀a,qt (k a)):qt (pf o k):=by
 unfold pf
 split
 ·exact h _
 ·trivial
theorem OZ(x y:W)(st:List ai):qt (bJ x y st):=by
 unfold bJ
 split
 ·exact nq fun _=>trivial
 ·split
  ·exact nq fun _=>trivial
  ·trivial
 ·exact nq fun _=>nq fun _=>trivial
 ·trivial
theorem kA(ha:SE X a fa)(hb:SE X b fb)(hs:zP b:=by intro _ _;rfl):SE X (.Subscript a b pos) (e2 bJ fa fb):=⟨(Oh RZ ha.h hb.h hs).imp fun _ _ _ h=>zZ OZ h⟩
abbrev FO:=bY->List ai->R (Option Int)
abbrev R0:List Addr->Hp->Option Int->Option Int->Prop:=fun _ _ a b=>a=b
structure SO(X:Cx)(e:Option Expr)(f:FO):Prop where
 h:PO X e (tG X R0 f)
def uc:FO:=fun _ st=>.ok none st
def kB(fa:FE):FO:=fun ρ st=>(fa ρ st).bind fun x st=>match x with
 |.int i=>.ok (some i) st
 |_=>.bad
theorem PO.imp{e:Option Expr}{t t':TO}(h:PO X e t)(i:∀σ H Q,t' σ H Q->t σ H Q):PO X e t':=fun pins s σ H Q I q=>h pins s σ H Q I (i _ _ _ q)
theorem G4:SO X none uc:=⟨GA.imp fun σ H Q h=>by
 obtain⟨μ,ρ,st,l,h⟩:=h
 exact h μ none H (ae _) c9.refl l.sto rfl⟩
theorem G5(ha:SE X a fa):SO X (some a) (kB fa):=⟨(GB ha.h).imp fun σ H Q h=>by
 obtain⟨μ,ρ,st,l,h⟩:=h
 refine⟨μ,ρ,st,l,RK.bind h l fun μ1 st1 x v H1 p1 x1 l1 q1 h1=>?_⟩
 cases x with
 |int k=>exact⟨k,q1.intE,h1 μ1 _ H1 (ae _) c9.refl l1.sto rfl⟩
 |_=>exact h1.elim⟩
def j5(xs:List α)(lo hi:Option Int):List α:=(xs.drop (HT.sIx xs.length 0 lo)).take (HT.sIx xs.length xs.length hi-HT.sIx xs.length 0 lo)
def Bu(x:W)(lo hi:Option Int)(st:List ai):R W:=match x with
 |.tup ws=>.ok (.tup (j5 ws lo hi)) st
 |.str l=>if l.length<=jh then .ok (.str (j5 l lo hi)) st else .bad
 |.loc n=>pf (lstOf st n) fun ws=>.ok (.loc st.length) (st++[.lst (j5 ws lo hi)])
 |_=>.bad
theorem O0(x:W)(lo hi:Option Int)(st:List ai):qt (Bu x lo hi st):=by
 unfold Bu pf
 repeat' split
 all_goals trivial
def F_(fa:FE)(fl fh:FO):FE:=fun ρ st=>(fa ρ st).bind fun x st=>(fl ρ st).bind fun l st=>(fh ρ st).bind fun h st=>Bu x l h st
theorem R1:Of X (fun x lo hi H Q=>∃μ st wx,fG X.K X.mg μ st H/\bb X.K μ H wx x/\Cq X μ H Q (Bu wx lo hi st)):=by
 intro pins s σ H x v vl vu lo hi sl Q I rv hs pl pu ⟨μ,st,wx,S,rx,q⟩
 cases wx with
 |tup ws=>
  obtain⟨p,vs,rfl,hS,r⟩:=rx.tupE
  have hl:=r.len
  by_cases hw:HT.sIx vs.length 0 lo=0/\HT.sIx vs.length vs.length hi=vs.length
  ·cases rv
   obtain⟨bw,w,ht,hz⟩:=I.tuple hS
   have dH:bw.toArray.size=vs.length:=by rw[aE];exact w.length.symm
   refine⟨"tuple",_,dz.lookup,ht.typeIs,wN ht hs pl pu (by rw[dH];exact hw) ⟨.ref p,H,I,rfl,?_⟩⟩
   have e:j5 ws lo hi=ws:=by
    unfold j5
    rw[hl,hw.1,hw.2,List.drop_zero,Nat.sub_zero,<- hl,gy]
   have q':Cq X μ H Q (.ok (.tup (j5 ws lo hi)) st):=q
   rw[e]at q'
   exact q' μ _ H (ae _) c9.refl S rx
  ·refine KG pins s σ H _ v vl vu lo hi sl Q I rv hs pl pu ⟨p,vs,rfl,hS,hw,fun p2 hp2=>?_⟩
   have x:=eG.same (K:=X.K) (cf hp2 (.tup (qW vs lo hi)))
   have rc:RelWs X.K μ H (j5 ws lo hi) (qW vs lo hi):=by
    unfold j5 qW
    rw[hl]
    exact(r.drop _).take _
   exact q μ _ _ (ae _) x (S.same (cf hp2 _)) (.tupI eG.new (rc.mono (ae _) x))
 |str l=>
  simp only[Bu]at q
  by_cases c:l.length<=jh
  ·rw[aw c]at q
   exact KY pins s σ H _ v vl vu lo hi sl Q I rv hs pl pu ⟨l,rx.strE,il c,n_ S q⟩
  ·rw[aD c]at q;exact q.elim
 |loc n=>
  simp only[Bu]at q
  cases e0:lstOf st n with
  |none=>rw[e0]at q;exact q.elim
  |some ws=>
   rw[e0]at q
   obtain⟨a,vs,g,hS,r⟩:=S.lstOf e0
   obtain⟨b1,f1,rfl⟩:=rx.locE
   rw[g]at f1;cases f1
   have hl:=r.len
   refine GE pins s σ H _ v vl vu lo hi sl Q I rv hs pl pu ⟨_,vs,rfl,hS,fun p2 hp2=>?_⟩
   have rc:RelWs X.K μ H (j5 ws lo hi) (qW vs lo hi):=by
    unfold j5 qW
    rw[hl]
    exact(r.drop _).take _
   exact q (μ++[p2]) _ _ (ar _ _) (eG.same (cf hp2 _)) (S.newLst hp2 rc) (mq S)
 |_=>exact q.elim
theorem R3{lo hi:Option Expr}{fl fh:FO}(ha:SE X a fa)(hl:SO X lo fl)(hh:SO X hi fh):SE X (.Subscript a (.Slice lo hi none p2) pos) (F_ fa fl fh):=⟨(CK R1 ha.h hl.h hh.h).imp fun σ H Q h=>by
 obtain⟨μ,ρ,st,l,h⟩:=h
 refine⟨μ,ρ,st,l,RK.bind h l fun μ1 st1 x v H1 p1 x1 l1 q1 h1=>⟨μ1,ρ,st1,l1,RK.bind h1 l1 fun μ2 cH y u H2 p2 x2 l2 q2 h2=>⟨μ2,ρ,cH,l2,RK.bind h2 l2 fun μ3 iy z t H3 p3 x3 l3 q3 h3=>?_⟩⟩⟩
 cases q2;cases q3
 exact⟨μ3,iy,x,l3.sto,(q1.mono p2 x2).mono p3 x3,rf h3 (O0 _ _ _ _)⟩⟩
def SH(X:Cx)(F:List W->List ai->R W):List V->Hp->VK->Prop:=fun vs H Q=>∃μ st ws,fG X.K X.mg μ st H/\RelWs X.K μ H ws vs/\Cq X μ H Q (F ws st)
structure lN(X:Cx)(f:Value)(F:List W->List ai->R W):Prop where
 h:gZ X f (SH X F)
 n:∀ws st,qt (F ws st)
def bg(F:List W->List ai->R W)(fs:FA):FE:=fun ρ st=>(fs ρ st).bind fun ws st=>F ws st
theorem z9{Q:VK}(n:∀ws st,qt (F ws st))(h:tE X (bg F fs) σ H Q):RH (SH X F) (OE X fs) σ H Q:=by
 obtain⟨μ,ρ,st,l,h⟩:=h
 exact⟨μ,ρ,st,l,RK.bind h l fun μ1 st1 x v H1 p1 x1 l1 q1 h1=>⟨μ1,st1,x,l1.sto,q1,rf h1 (n _ _)⟩⟩
theorem iu(hc:lN X (.builtin id) F)(hm:X.mg x=none)(hv:bootBuiltins x=some (.builtin id))(ha:SA X (e::es) fs)(hg:Gl X x:=by rfl)(hn:x ≠ "__name__":=by decide)(yg:(x==("__debug__":Str))=false:=by decide)
  (he:starEach (e::es) X.env=(false,eval e X.env)::starEach es X.env:=by rfl) (oU:(backTo pos (starEach es X.env)).any (·.1)=false:=by rfl):SE X (.Call (.Name x p) (e::es) [] pos) (bg F fs):=⟨(wz hc.h hg hm hv ha.h hn yg he oU).imp fun _ _ _ h=>z9 hc.n h⟩
theorem iz{T:String}(hc:lN X (.type T) F)(hm:X.mg x=none)(hv:bootBuiltins x=some (.type T))(ha:SA X (e::es) fs)(hg:Gl X x:=by rfl)(hn:x ≠ "__name__":=by decide)(yg:(x==("__debug__":Str))=false:=by decide)
  (he:starEach (e::es) X.env=(false,eval e X.env)::starEach es X.env:=by rfl) (oU:(backTo pos (starEach es X.env)).any (·.1)=false:=by rfl):SE X (.Call (.Name x p) (e::es) [] pos) (bg F fs):=⟨(A' hc.h hg hm hv ha.h hn yg he oU).imp fun _ _ _ h=>z9 hc.n h⟩
theorem RelWs.two{a b:W}(r:RelWs K μ H [a,b] vs):∃x y,vs=[x,y]/\bb K μ H a x/\bb K μ H b y:=by
 obtain⟨x,xs,rfl,rx,rn⟩:=r.consE
 obtain⟨y,ys,rfl,ry,rm⟩:=rn.consE
 rw[rm.nilE];exact⟨x,y,rfl,rx,ry⟩
theorem RelWs.one{a:W}(r:RelWs K μ H [a] vs):∃x,vs=[x]/\bb K μ H a x:=by
 obtain⟨x,xs,rfl,rx,rn⟩:=r.consE
 rw[rn.nilE];exact⟨x,rfl,rx⟩
def cQ(ws:List W)(st:List ai):R W:=match ws with
 |[.tup xs]=>.ok (.int xs.length) st
 |[.str l]=>if l.length<=jh then .ok (.int l.length) st else .bad
 |[.loc n]=>pf (lstOf st n) fun xs=>.ok (.int xs.length) st
 |_=>.bad
theorem mv:lN X (.builtin "len") cQ:=⟨fun pins s σ H vs us Q I rv ⟨μ,st,ws,S,r,q⟩=>by
 unfold cQ at q
 split at q
 ·obtain⟨x,rfl,rx⟩:=r.one
  obtain⟨p,ys,rfl,hS,r'⟩:=rx.tupE
  exact nX pins s σ H _ us Q I rv ⟨p,ys,rfl,.inr hS,by rw[<- r'.len];exact kY S q⟩
 ·obtain⟨x,rfl,rx⟩:=r.one
  split at q
  ·rename_i c
   exact uW pins s σ H _ us Q I rv ⟨_,by rw[rx.strE],by rw[iH];exact il c,by rw[iH];exact kY S q⟩
  ·exact q.elim
 ·obtain⟨x,rfl,rx⟩:=r.one
  unfold pf at q
  split at q
  ·rename_i ys e0
   obtain⟨a,vs,g,hS,r'⟩:=S.lstOf e0
   obtain⟨b1,f1,rfl⟩:=rx.locE
   rw[g]at f1;cases f1
   exact nX pins s σ H _ us Q I rv ⟨_,vs,rfl,.inl hS,by rw[<- r'.len];exact kY S q⟩
  ·exact q.elim
 ·exact q.elim,fun ws st=>by
 unfold cQ pf
 repeat' split
 all_goals trivial⟩
def Df(ws:List W)(st:List ai):R W:=match ws with
 |[.int i,.int j]=>.ok (.int (if j>i then j else i)) st
 |_=>.bad
def yF(ws:List W)(st:List ai):R W:=match ws with
 |[.int i,.int j]=>.ok (.int (if j<i then j else i)) st
 |_=>.bad
theorem O1(hc:X.calm=true:=by rfl):lN X (.builtin "max") Df:=⟨fun pins s σ H vs us Q I rv ⟨μ,st,ws,S,r,q⟩=>by
 unfold Df at q
 split at q
 ·obtain⟨x,y,rfl,rx,ry⟩:=r.two
  exact A7 hc pins s σ H _ us Q I rv ⟨_,_,by rw[rx.intE,ry.intE],kY S q⟩
 ·exact q.elim,fun ws st=>by unfold Df;split<;>trivial⟩
theorem O2(hc:X.calm=true:=by rfl):lN X (.builtin "min") yF:=⟨fun pins s σ H vs us Q I rv ⟨μ,st,ws,S,r,q⟩=>by
 unfold yF at q
 split at q
 ·obtain⟨x,y,rfl,rx,ry⟩:=r.two
  exact A8 hc pins s σ H _ us Q I rv ⟨_,_,by rw[rx.intE,ry.intE],kY S q⟩
 ·exact q.elim,fun ws st=>by unfold yF;split<;>trivial⟩
def cO(ws:List W)(st:List ai):R W:=match ws with
 |[.tup xs]=>.ok (.tup xs) st
 |[.loc n]=>pf (lstOf st n) fun xs=>.ok (.tup xs) st
 |_=>.bad
theorem kZ:lN X (.type "tuple") cO:=⟨fun pins s σ H vs us Q I rv ⟨μ,st,ws,S,r,q⟩=>by
 unfold cO at q
 split at q
 ·obtain⟨x,rfl,rx⟩:=r.one
  obtain⟨p,ys,rfl,hS,r'⟩:=id rx.tupE
  exact wA pins s σ H _ us Q I rv ⟨p,ys,rfl,hS,q μ _ H (ae _) c9.refl S rx⟩
 ·obtain⟨x,rfl,rx⟩:=r.one
  unfold pf at q
  split at q
  ·rename_i ys e0
   obtain⟨a,vs,g,hS,r'⟩:=S.lstOf e0
   obtain⟨b1,f1,rfl⟩:=rx.locE
   rw[g]at f1;cases f1
   refine wG pins s σ H _ us Q I rv ⟨_,vs,rfl,hS,fun l H2 hl e=>?_⟩
   subst e
   have x:=eG.same (K:=X.K) (cf hl (.tup vs))
   exact q μ _ _ (ae _) x (S.same (cf hl _)) (.tupI eG.new (r'.mono (ae _) x))
  ·exact q.elim
 ·exact q.elim,fun ws st=>by
 unfold cO pf
 repeat' split
 all_goals trivial⟩
def mw(ws:List W)(st:List ai):R W:=match ws with
 |[.tup xs]=>.ok (.loc st.length) (st++[.lst xs])
 |[.loc n]=>pf (lstOf st n) fun xs=>.ok (.loc st.length) (st++[.lst xs])
 |_=>.bad
theorem Lh:lN X (.type "list") mw:=⟨fun pins s σ H vs us Q I rv ⟨μ,st,ws,S,r,q⟩=>by
 unfold mw at q
 split at q
 ·obtain⟨x,rfl,rx⟩:=r.one
  obtain⟨p,ys,rfl,hS,r'⟩:=id rx.tupE
  refine q9 pins s σ H _ us Q I rv ⟨p,ys,rfl,.inr hS,fun l H2 hl e=>?_⟩
  subst e
  exact q (μ++[l]) _ _ (ar _ _) (eG.same (cf hl _)) (S.newLst hl r') (mq S)
 ·obtain⟨x,rfl,rx⟩:=r.one
  unfold pf at q
  split at q
  ·rename_i ys e0
   obtain⟨a,vs,g,hS,r'⟩:=S.lstOf e0
   obtain⟨b1,f1,rfl⟩:=rx.locE
   rw[g]at f1;cases f1
   refine q9 pins s σ H _ us Q I rv ⟨_,vs,rfl,.inl hS,fun l H2 hl e=>?_⟩
   subst e
   exact q (μ++[l]) _ _ (ar _ _) (eG.same (cf hl _)) (S.newLst hl r') (mq S)
  ·exact q.elim
 ·exact q.elim,fun ws st=>by
 unfold mw pf
 repeat' split
 all_goals trivial⟩
end
section
variable{a b o:Expr}{fa fb fc fe:FE}{fs:FA}{ft:FT}{st1:Stmt}{sr sa sb:List Stmt}{g g':FS}
def aX(g g':FS):FS:=fun ρ st=>match g ρ st with
 |.nx ρ' bv=>g' ρ' bv
 |r=>r
def cP:FS:=fun ρ st=>.nx ρ st
theorem Li:SB X [] cP:=⟨Gi.imp fun D σ H h=>by
 obtain⟨μ,ρ,st,l,h⟩:=h
 exact h μ σ H (ae _) c9.refl l⟩
theorem j6(h1:SS X st1 g):SB X [st1] g:=⟨Gj h1.h⟩
theorem dg(h1:SS X st1 g)(h2:SB X sr g'):SB X (st1::sr) (aX g g'):=⟨(wq h1.h h2.h).imp fun D σ H h=>by
 obtain⟨μ,ρ,st,l,h⟩:=h
 refine⟨μ,ρ,st,l,?_⟩
 unfold aX at h
 cases e:g ρ st with
 |nx ρ' bv=>rw[e]at h;exact fun μ' σ' H' p x l'=>⟨μ',ρ',bv,l',SK.mono h p x⟩
 |rt w bv=>rw[e]at h;exact h
 |bk ρ' bv=>rw[e]at h;exact h
 |ct ρ' bv=>rw[e]at h;exact h
 |ex c ρ' bv=>rw[e]at h;exact h
 |bad=>rw[e]at h;exact h⟩
def R.stmt(r:R α)(ρ:bY)(k:α->List ai->RS):RS:=match r with
 |.ok a st=>k a st
 |.ex c st=>.ex c ρ st
 |.bad=>.bad
@[simp] theorem R.stmt_ok{α:Type}(a:α)(st:List ai)(ρ:bY)(k:α->List ai->RS):(R.ok a st).stmt ρ k=k a st:=rfl
theorem RK.stmt{h_:List Addr->Hp->α->β->Prop}{ρ:bY}{st:List ai}{D:uR}{r:R α}{k:α->List ai->RS}{T:β->Hp->Prop}
  (h:SK X μ H D (r.stmt ρ k)) (l:Rl X μ ρ st σ H)
  (hk:∀μ' bv x v H',μ <+: μ'->c9 X.K H H'->Rl X μ' ρ bv σ H'->h_ μ' H' x v->SK X μ' H' D (k x bv)->T v H'):RK X h_ μ σ H T r:=by
 cases r with
 |ok a bv=>exact fun μ' b H' p x s q=>hk μ' bv a b H' p x (l.to p x s) q (SK.mono h p x)
 |ex c bv=>exact XS.toE h l
 |bad=>exact h
def eJ(fe:FE):FS:=fun ρ st=>(fe ρ st).stmt ρ fun _ st=>.nx ρ st
theorem mQ(he:SE X e fe)(hs:swapsWith e none pos.line X.env=pure false:=by rfl):SS X (.Expr e pos) (eJ fe):=⟨(Gk he.h hs).imp fun D σ H h=>by
 obtain⟨μ,ρ,st,l,h⟩:=h
 exact⟨μ,ρ,st,l,RK.stmt h l fun μ1 st1 x v H1 p1 x1 l1 q1 h1=>h1 μ1 σ H1 (ae _) c9.refl l1⟩⟩
def cR(fe:FE):FS:=fun ρ st=>(fe ρ st).stmt ρ fun w st=>.rt w st
theorem pA(he:SE X e fe):SS X (.Return (some e) pos) (cR fe):=⟨(Kn he.h).imp fun D σ H h=>by
 obtain⟨μ,ρ,st,l,h⟩:=h
 exact⟨μ,ρ,st,l,RK.stmt h l fun μ1 st1 x v H1 p1 x1 l1 q1 h1=>h1 μ1 v H1 (ae _) c9.refl l1.sto q1⟩⟩
def i6(t:FT)(g g':FS):FS:=fun ρ st=>(t ρ st).stmt ρ fun k st=>if k then g ρ st else g' ρ st
theorem O3(hc:ST X c ft)(ha:SB X sa g)(hb:SB X sb g'):SS X (.If c sa sb pos) (i6 ft g g'):=⟨(NV hc.h ha.h hb.h).imp fun D σ H h=>by
 obtain⟨μ,ρ,st,l,h⟩:=h
 refine⟨μ,ρ,st,l,RK.stmt h l fun μ1 st1 x v H1 p1 x1 l1 q1 h1=>?_⟩
 cases q1
 cases x with
 |true=>exact⟨μ1,ρ,st1,l1,h1⟩
 |false=>exact⟨μ1,ρ,st1,l1,h1⟩⟩
abbrev FG:=W->bY->Option bY
abbrev IM:=List W->bY->Option bY
def O4(X:Cx)(f:FG):TG:=fun v σ H Q=>∃μ ρ st w ρ',Rl X μ ρ st σ H/\bb X.K μ H w v/\f w ρ=some ρ'/\∀σ',Rl X μ ρ' st σ' H->Q σ' H
def R4(X:Cx)(f:IM):Gm:=fun vs σ H Q=>∃μ ρ st ws ρ',Rl X μ ρ st σ H/\RelWs X.K μ H ws vs/\f ws ρ=some ρ'/\∀σ',Rl X μ ρ' st σ' H->Q σ' H
theorem PG.imp{t t':TG}(h:PG X e t)(i:∀v σ H Q,t' v σ H Q->t v σ H Q):PG X e t':=fun pins s σ H x u Q I r q=>h pins s σ H x u Q I r (i _ _ _ _ q)
theorem ID.imp{e:List Expr}{t t':Gm}(h:ID X e t)(i:∀v σ H Q,t' v σ H Q->t v σ H Q):ID X e t':=fun pins s σ H x u Q I r q=>h pins s σ H x u Q I r (i _ _ _ _ q)
structure SG(X:Cx)(e:Expr)(f:FG):Prop where
 h:PG X e (O4 X f)
structure Q5(X:Cx)(e:List Expr)(f:IM):Prop where
 h:ID X e (R4 X f)
def eZ(i:Nat):FG:=fun w ρ=>some (ρ.set i (some w))
theorem u6(hN:X.N.Nodup)(hi:X.N[i]?=some x)(hx:Co X.env.scope x)(hf:X.fn x=true\/X.env.scope.names.lookup x=some .local:=by first|exact .inl rfl|exact .inr rfl|assumption):SG X (.Name x pos) (eZ i):=⟨(Gp hN hi hx hf).imp fun v σ H Q h=>by
 obtain⟨μ,ρ,st,w,ρ',l,r,e,q⟩:=h
 cases e
 exact q _ ⟨n6 r i l.env,l.sto⟩⟩
def wO:IM:=fun ws ρ=>match ws with
 |[]=>some ρ
 |_=>none
def j7(f:FG)(fs:IM):IM:=fun ws ρ=>match ws with
 |w::ws=>(f w ρ).bind fun ρ'=>fs ws ρ'
 |[]=>none
theorem G6:Q5 X [] wO:=⟨Gq.imp fun vs σ H Q h=>by
 obtain⟨μ,ρ,st,ws,ρ',l,r,e,q⟩:=h
 cases ws with
 |nil=>cases e;exact⟨r.nilE,q σ l⟩
 |cons _ _=>cases e⟩
theorem Dg{f:FG}{fs:IM}(h1:SG X e f)(h2:Q5 X es fs)(hs:(assignEach (e::es) X.env).map (·.2)=assign e X.env::(assignEach es X.env).map (·.2):=by rfl):Q5 X (e::es) (j7 f fs):=⟨(Cy h1.h h2.h hs).imp fun vs σ H Q h=>by
 obtain⟨μ,ρ,st,ws,ρ',l,r,e,q⟩:=h
 cases ws with
 |nil=>cases e
 |cons w ws=>
  obtain⟨x,xs,rfl,rx,rs⟩:=r.consE
  simp only[j7]at e
  cases e1:f w ρ with
  |none=>rw[e1]at e;cases e
  |some ρ1=>
   rw[e1]at e
   exact⟨x,xs,rfl,μ,ρ,st,w,ρ1,l,rx,e1,fun σ1 l1=>⟨μ,ρ1,st,ws,ρ',l1,rs,e,q⟩⟩⟩
def Ny(n:Nat)(fs:IM):FG:=fun w ρ=>match w with
 |.tup ws=>if ws.length=n then fs ws ρ else none
 |_=>none
theorem Lj{k:Nat}{fs:IM}(hc:X.calm=true)(h:Q5 X es fs)(hn:(assignEach es X.env).length=n:=by rfl)(vX:(assignEach es X.env).findIdx? (·.1)=none:=by rfl):SG X (.Tuple es k pos) (Ny n fs):=⟨(Ko hc h.h hn vX).imp fun v σ H Q h=>by
 obtain⟨μ,ρ,st,w,ρ',l,r,e,q⟩:=h
 cases w with
 |tup ws=>
  obtain⟨p,vs,rfl,hS,rs⟩:=r.tupE
  simp only[Ny]at e
  by_cases c:ws.length=n
  ·rw[aw c]at e
   exact⟨p,vs,rfl,hS,by rw[<- rs.len];exact c,μ,ρ,st,ws,ρ',l,rs,e,q⟩
  ·rw[aD c]at e;cases e
 |_=>cases e⟩
def u7(fe:FE)(f:FG):FS:=fun ρ st=>(fe ρ st).stmt ρ fun w st=>match f w ρ with
 |some ρ'=>.nx ρ' st
 |none=>.bad
theorem O5{f:FG}{D:uR}(h:Nx X (u7 fe f) D σ H):Cz (tE X fe) (O4 X f) D σ H:=by
 obtain⟨μ,ρ,st,l,h⟩:=h
 refine⟨μ,ρ,st,l,RK.stmt h l fun μ1 st1 x v H1 p1 x1 l1 q1 h1=>?_⟩
 cases e1:f x ρ with
 |none=>rw[e1]at h1;exact h1.elim
 |some ρ'=>rw[e1]at h1;exact⟨μ1,ρ,st1,x,ρ',l1,q1,e1,fun σ' l'=>h1 μ1 σ' H1 (ae _) c9.refl l'⟩
theorem Lk{f:FG}(he:SE X e fe)(hg:SG X tg f)(hs:swapsWithSole [tg] e pos.line X.env=pure false:=by rfl)(hw:swappedStores [tg] e X.env=pure none:=by rfl)(h1:(assignEach [tg] X.env).map (·.2)=[assign tg X.env]:=by rfl):SS X (.Assign [tg] e pos) (u7 fe f):=⟨(CA he.h hg.h hs hw h1).imp fun D σ H h=>O5 h⟩
def bO(i:Nat)(fe:FE):FS:=fun ρ st=>(fe ρ st).stmt ρ fun w st=>.nx (ρ.set i (some w)) st
theorem Ll(hN:X.N.Nodup)(hi:X.N[i]?=some x)(hx:Co X.env.scope x)(he:SE X e fe)(hs:swapsWith e (some (.Name x iM)) pos.line X.env=pure false:=by rfl)(hf:X.fn x=true\/X.env.scope.names.lookup x=some .local:=by first|exact .inl rfl|exact .inr rfl|assumption) :
  SS X (.Assign [.Name x iM] e pos) (bO i fe):=⟨(Kq hN hi hx he.h hs hf).imp fun D σ H h=>by
 obtain⟨μ,ρ,st,l,h⟩:=h
 exact⟨μ,ρ,st,l,RK.stmt h l fun μ1 st1 x v H1 p1 x1 l1 q1 h1=>h1 μ1 _ H1 (ae _) c9.refl ⟨n6 q1 i l1.env,l1.sto⟩⟩⟩
def p5(x i v:W)(st:List ai):Option (List ai):=match x,i with
 |.loc n,.int k=>(match st[n]? with
  |some (.lst ws)=>(Ba ws.length k).map fun j=>st.set n (.lst (ws.set j v))
  |_=>none)
 |_,_=>none
def nJ(fo fi fe:FE)(f:W->W->W->List ai->Option (List ai)):FS:=fun ρ st=>(fe ρ st).stmt ρ fun v st=>(fo ρ st).stmt ρ fun x st=>(fi ρ st).stmt ρ fun i st=>match f x i v st with
 |some bv=>.nx ρ bv
 |none=>.bad
def Dh(X:Cx)(f:W->W->W->List ai->Option (List ai)):Gn:=fun o i v H Q=>∃μ st wo wi wv bv,fG X.K X.mg μ st H/\bb X.K μ H wo o/\bb X.K μ H wi i/\bb X.K μ H wv v/\f wo wi wv st=some bv/\∀H',c9 X.K H H'->fG X.K X.mg μ bv H'->Q H'
theorem Lm:A1 X (Dh X p5):=fun pins s σ H o i v ov iv u Q I r1 r2 r3 ⟨μ,st,wo,wi,wv,bv,S,ro,ri,rv,e,q⟩=>by
 cases wo with
 |loc n=>
  cases wi with
  |int k=>
   simp only[p5]at e
   cases e1:st[n]? with
   |none=>rw[e1]at e;cases e
   |some cc=>
    rw[e1]at e
    cases cc with
    |lst ws=>
     simp only at e
     cases e2:Ba ws.length k with
     |none=>rw[e2]at e;cases e
     |some jj=>
      rw[e2]at e
      cases e
      obtain⟨a1,g1,vs,k1,r⟩:=S.get e1
      obtain⟨b1,f1,rfl⟩:=ro.locE
      rw[g1]at f1;cases f1
      refine Bn pins s σ H _ i v ov iv u Q I r1 r2 r3 ⟨a1,vs,k,jj,rfl,ri.intE,k1,by rw[<- r.len];exact e2,fun H2 eH=>?_⟩
      subst eH
      exact q _ (eG.but fL k1) (S.set e1 g1 k1 (r.setI jj rv))
    |_=>cases e
  |_=>cases e
 |_=>cases wi<;>cases e
theorem yG{f:W->W->W->List ai->Option (List ai)}{i:Expr}{fi:FE}{fo:FE}(So:A1 X (Dh X f))(he:SE X e fe)(ho:SE X o fo)(hi:SE X i fi)
  (ha:∀v,assign (.Subscript o i iM) X.env v=(do
   let ov <- holding [v] (eval o X.env)
   let iv <- holding [v,ov] (eval i X.env)
   standAt iM
   holding [v,ov,iv] (setItem ov iv v)
   release [v,ov,iv] []):=by intro _;rfl)
  (hs:swapsWithSole [.Subscript o i iM] e pos.line X.env=pure false:=by rfl) (hw:swappedStores [.Subscript o i iM] e X.env=pure none:=by rfl) (h1:(assignEach [.Subscript o i iM] X.env).map (·.2)=[assign (.Subscript o i iM) X.env]:=by rfl) :
  SS X (.Assign [.Subscript o i iM] e pos) (nJ fo fi fe f):=⟨(CA he.h (Kp ho.h hi.h So ha) hs hw h1).imp fun D σ H h=>by
 obtain⟨μ,ρ,st,l,h⟩:=h
 refine⟨μ,ρ,st,l,RK.stmt h l fun μ1 st1 v vv H1 p1 x1 l1 q1 h1=>⟨μ1,ρ,st1,l1,RK.stmt h1 l1 fun μ2 cH x xv H2 p2 x2 l2 q2 h2=>⟨μ2,ρ,cH,l2,RK.stmt h2 l2 fun μ3 iy i iv H3 p3 x3 l3 q3 h3=>?_⟩⟩⟩
 cases e1:f x i v iy with
 |none=>rw[e1]at h3;exact h3.elim
 |some bv=>
  rw[e1]at h3
  exact⟨μ3,iy,x,i,v,bv,l3.sto,q2.mono p3 x3,q3,(q1.mono p2 x2).mono p3 x3,e1,fun H' xx S'=>h3 μ3 σ H' (ae _) xx (l3.to (ae _) xx S')⟩⟩
end
def iW(st:List ai):Option (Nat×List W)->Prop
 |none=>True
 |some (n,ws)=>lstOf st n=some ws
abbrev yH:=List W×Option (Nat×List W)
abbrev FI:=bY->List ai->R yH
def yI(X:Cx)(J:It)(k:yH)(μ:List Addr)(H:Hp):Prop:=
 ∀(i:Nat) μ' bv H',μ <+: μ'->c9 X.K H H'->fG X.K X.mg μ' bv H'->iW bv k.2 ->
  (∀w,k.1[i]?=some w->J.go i H'/\∀x H'',J.yld i H' x H''->c9 X.K H' H''/\fG X.K X.mg μ' bv H''/\bb X.K μ' H'' w x)/\(k.1.length<=i->J.stop i H')
abbrev O6(X:Cx):List Addr->Hp->yH->It->Prop:=fun μ H k J=>yI X J k μ H
structure SI(X:Cx)(tg it:Expr)(f:FI):Prop where
 h:PI X tg it (fun σ H R=>tG X (O6 X) f σ H R)
theorem PI.imp{it:Expr}{t t':TI}(h:PI X tg it t)(i:∀σ H Q,t' σ H Q->t σ H Q):PI X tg it t':=fun pins s σ H Q I q=>h pins s σ H Q I (i _ _ _ q)
open Classical in
def rp(f:FG)(body:FS)(ck:Option (Nat×List W)):List W->FS
 |[],ρ,st=>if iW st ck then .nx ρ st else .bad
 |w::ws,ρ,st=>if iW st ck then(match f w ρ with
  |none=>.bad
  |some ρ'=>(match body ρ' st with
   |.nx ρ2 cH=>rp f body ck ws ρ2 cH
   |.ct ρ2 cH=>rp f body ck ws ρ2 cH
   |.bk ρ2 cH=>.nx ρ2 cH
   |.rt w cH=>.rt w cH
   |.ex c ρ2 cH=>.ex c ρ2 cH
   |.bad=>.bad))else .bad
def fg(fi:FI)(f:FG)(body:FS):FS:=fun ρ st=>(fi ρ st).stmt ρ fun k st=>rp f body k.2 k.1 ρ st
section
variable{a b o:Expr}{fa fb fe:FE}{fs:FA}{ft:FT}{g:FS}{f:FG}{fi:FI}
theorem yJ(hi:SI X tg iter fi)(hg:SG X tg f)(hb:SB X body g)(hc:X.calm=true:=by rfl)(hp:PassesOwn (model X.prog X.w) X.A X.env X.xe:=by passes_own)(hs:∀x,foldedSetIterable iter X.env x=pure x:=by intro _;rfl):SS X (.For tg iter body [] pos) (fg fi f g):=⟨(Ks hp hc hi.h hg.h hb.h hs).imp fun D σ H h=>by
 obtain⟨μ,ρ,st,l,h⟩:=h
 refine⟨μ,ρ,st,l,RK.stmt h l fun μ1 st1 k J H1 p1 x1 l1 wk h1=>?_⟩
 refine⟨fun i m σ' H'=>i<=k.1.length/\m=k.1.length-i/\∃μ' ρ' bv,μ1 <+: μ'/\c9 X.K H1 H'/\Rl X μ' ρ' bv σ' H'/\SK X μ' H' D (rp f g k.2 (k.1.drop i) ρ' bv),
  ⟨_,cM _,rfl,μ1,ρ,st1,ae _,c9.refl,l1,h1⟩,?_⟩
 rintro i m σ' H' ⟨hi,rfl,μ',ρ',bv,pm,xm,lm,hm⟩
 by_cases jS:i<k.1.length
 ·rw[eL jS]at hm
  unfold rp at hm
  by_cases ck:iW bv k.2
  ·rw[aw ck]at hm
   obtain⟨go,yld⟩:=(wk i μ' bv H' pm xm lm.sto ck).1 _ (ac jS)
   cases hf:f k.1[i] ρ' with
   |none=>rw[hf]at hm;exact hm.elim
   |some ρ2=>
    rw[hf]at hm
    simp only at hm
    refine .inr ⟨go,fun σ2 H2=>∃μ2 ρ3 cH,μ' <+: μ2/\c9 X.K H' H2/\Rl X μ2 ρ3 cH σ2 H2/\SK X μ2 H2 D (rp f g k.2 (k.1.drop (i+1)) ρ3 cH),fun σ2 H2 ⟨μ2,ρ3,cH,q1,q2,q3,q4⟩=>
     ⟨_,by omega,jS,rfl,μ2,ρ3,cH,pm.trans q1,xm.trans q2,q3,q4⟩,fun x H2 hy=>?_⟩
    obtain⟨y1,y2,y3⟩:=yld x H2 hy
    refine⟨μ',ρ',bv,k.1[i],ρ2,lm.to (ae _) y1 y2,y3,hf,fun σ2 l2=>⟨μ',ρ2,bv,l2,?_⟩⟩
    cases e:g ρ2 bv with
    |nx ρ3 iy=>rw[e]at hm;exact fun μ4 σ4 H4 p4 x4 l4=>⟨μ4,ρ3,iy,p4,y1.trans x4,l4,SK.mono hm p4 (y1.trans x4)⟩
    |ct ρ3 iy=>rw[e]at hm;exact fun μ4 σ4 H4 p4 x4 l4=>⟨μ4,ρ3,iy,p4,y1.trans x4,l4,SK.mono hm p4 (y1.trans x4)⟩
    |bk ρ3 iy=>rw[e]at hm;exact fun μ4 σ4 H4 p4 x4 l4=>hm μ4 σ4 H4 p4 (y1.trans x4) l4
    |rt w iy=>rw[e]at hm;exact fun μ4 v4 H4 p4 x4=>hm μ4 v4 H4 p4 (y1.trans x4)
    |ex c ρ3 iy=>rw[e]at hm;exact XS.mono hm (ae _) y1
    |bad=>rw[e]at hm;exact hm
  ·rw[aD ck]at hm;exact hm.elim
 ·have hi':i=k.1.length:=by omega
  subst hi'
  rw[lG (av _)]at hm
  unfold rp at hm
  by_cases ck:iW bv k.2
  ·rw[aw ck]at hm
   exact .inl ⟨(wk _ μ' bv H' pm xm lm.sto ck).2 (av _),hm μ' σ' H' (ae _) c9.refl lm⟩
  ·rw[aD ck]at hm;exact hm.elim⟩
def fz(t:FT)(body:FS):Nat->FS
 |0,_,_=>.bad
 |n+1,ρ,st=>(t ρ st).stmt ρ fun k st=>if k then(match body ρ st with
   |.nx ρ2 cH=>fz t body n ρ2 cH
   |.ct ρ2 cH=>fz t body n ρ2 cH
   |.bk ρ2 cH=>.nx ρ2 cH
   |.rt w cH=>.rt w cH
   |.ex c ρ2 cH=>.ex c ρ2 cH
   |.bad=>.bad)else .nx ρ st
open Classical in
def k6(t:FT)(body:FS):FS:=fun ρ st=>if h:∃n,fz t body n ρ st≠.bad then fz t body h.choose ρ st else .bad
theorem my(t:FT)(g:FS):∀(n:Nat) (ρ:bY) (st:List ai),fz t g n ρ st≠.bad->fz t g (n+1) ρ st=fz t g n ρ st
 |0,_,_,h=>absurd rfl h
 |n+1,ρ,st,h=>by
  unfold fz at h ⊢
  cases e:t ρ st with
  |ex c st1=>rfl
  |bad=>rfl
  |ok k st1=>
   rw[e]at h
   simp only[R.stmt_ok]at h ⊢
   cases k with
   |false=>rfl
   |true=>
    simp only[d7]at h ⊢
    cases e2:g ρ st1 with
    |nx ρ2 cH=>rw[e2]at h;exact my t g n ρ2 cH h
    |ct ρ2 cH=>rw[e2]at h;exact my t g n ρ2 cH h
    |_=>rfl
theorem ud{t:FT}{n m:Nat}{ρ:bY}{st:List ai}(h:fz t g n ρ st≠.bad)(hm:n<=m):fz t g m ρ st=fz t g n ρ st:=by
 induction hm with
 |refl=>rfl
 |@step m _ ih=>rw[my t g m ρ st (by rw[ih];exact h),ih]
theorem Bv{t:FT}{ρ:bY}{st:List ai}{r:RS}(h:fz t g n ρ st=r)(hr:r≠.bad):k6 t g ρ st=r:=by
 have hx:∃n,fz t g n ρ st≠.bad:=⟨n,by rw[h];exact hr⟩
 unfold k6
 rw[lH hx]
 have c:=hx.choose_spec
 have a:=ud c (Nat.le_max_left hx.choose n)
 have b:=ud (n:=n) (m:=max hx.choose n) (by rw[h];exact hr) (Nat.le_max_right _ _)
 rw[<- a,b,h]
theorem wP{t:FT}{D:uR}:∀(n:Nat) (σ:St) (H:Hp) (μ:List Addr) (ρ:bY) (st:List ai),Rl X μ ρ st σ H->SK X μ H D (fz t g n ρ st)->CB (tT X t) (Nx X g) D σ H:=by
 intro n σ H μ ρ st l h
 refine⟨fun m σ' H'=>∃μ' ρ' bv,Rl X μ' ρ' bv σ' H'/\SK X μ' H' D (fz t g m ρ' bv),⟨n,μ,ρ,st,l,h⟩,?_⟩
 rintro m σ' H' ⟨μ',ρ',bv,l',h'⟩
 cases m with
 |zero=>exact h'.elim
 |succ m=>
  refine⟨μ',ρ',bv,l',RK.stmt h' l' fun μ1 st1 k v H1 p1 x1 l1 q1 h1=>?_⟩
  cases q1
  cases k with
  |false=>exact h1 μ1 σ' H1 (ae _) c9.refl l1
  |true=>
   refine⟨fun σ2 H2=>∃μ2 ρ2 cH,Rl X μ2 ρ2 cH σ2 H2/\SK X μ2 H2 D (fz t g m ρ2 cH),fun σ2 H2 z=>⟨m,ip m,z⟩,μ1,ρ',st1,l1,?_⟩
   simp only[d7]at h1
   cases e:g ρ' st1 with
   |nx ρ3 iy=>rw[e]at h1;exact fun μ4 σ4 H4 p4 x4 l4=>⟨μ4,ρ3,iy,l4,SK.mono h1 p4 x4⟩
   |ct ρ3 iy=>rw[e]at h1;exact fun μ4 σ4 H4 p4 x4 l4=>⟨μ4,ρ3,iy,l4,SK.mono h1 p4 x4⟩
   |bk ρ3 iy=>rw[e]at h1;exact h1
   |rt w iy=>rw[e]at h1;exact h1
   |ex c ρ3 iy=>rw[e]at h1;exact h1
   |bad=>rw[e]at h1;exact h1
theorem rq{t:FT}(hc:ST X c t)(hb:SB X body g)(hp:PassesOwn (model X.prog X.w) X.A X.env X.xe:=by passes_own):SS X (.While c body [] pos) (k6 t g):=⟨(CC hp hc.h hb.h).imp fun D σ H h=>by
 obtain⟨μ,ρ,st,l,h⟩:=h
 unfold k6 at h
 by_cases hx:∃n,fz t g n ρ st≠.bad
 ·rw[lH hx]at h;exact wP _ σ H μ ρ st l h
 ·rw[dif_neg hx]at h;exact h.elim⟩
def Di(fe:FE):FI:=fun ρ st=>(fe ρ st).bind fun x st=>match x with
 |.tup ws=>.ok (ws,none) st
 |_=>.bad
theorem Dj(he:SE X e fe):SI X tg e (Di fe):=⟨(Kr he.h).imp fun σ H R h=>by
 obtain⟨μ,ρ,st,l,h⟩:=h
 refine⟨μ,ρ,st,l,RK.bind h l fun μ1 st1 x v H1 p1 x1 l1 q1 h1=>?_⟩
 cases x with
 |tup ws=>
  obtain⟨p,vs,rfl,hS,r⟩:=q1.tupE
  refine⟨p,rfl,⟨vs,hS⟩,h1 μ1 _ H1 (ae _) c9.refl l1.sto fun i μ' bv H' pp xx S _=>⟨fun w hw=>?_,fun hl=>⟨vs,xx _ _ hS,by rw[<- r.len];exact hl⟩⟩⟩
  have r':=r.mono pp xx
  obtain⟨v,g1,g2⟩:=r'.get hw
  refine⟨⟨vs,v,xx _ _ hS,g1⟩,fun y H'' hy=>?_⟩
  obtain⟨rfl,hy⟩:=hy
  have:=hy vs (xx _ _ hS)
  rw[g1]at this;cases this
  exact⟨c9.refl,S,g2⟩
 |_=>exact h1.elim⟩
def IN(fe:FE):FI:=fun ρ st=>(fe ρ st).bind fun x st=>match x with
 |.loc n=>(match lstOf st n with
  |some ws=>.ok (ws,some (n,ws)) st
  |none=>.bad)
 |_=>.bad
theorem Ln(he:SE X e fe):SI X tg e (IN fe):=⟨(Gr he.h).imp fun σ H R h=>by
 obtain⟨μ,ρ,st,l,h⟩:=h
 refine⟨μ,ρ,st,l,RK.bind h l fun μ1 st1 x v H1 p1 x1 l1 q1 h1=>?_⟩
 cases x with
 |loc n=>
  obtain⟨a,ha,rfl⟩:=q1.locE
  simp only at h1
  cases e1:lstOf st1 n with
  |none=>rw[e1]at h1;exact h1.elim
  |some ws=>
   rw[e1]at h1
   obtain⟨a',vs0,g0,hS0,r0⟩:=l1.sto.lstOf e1
   rw[ha]at g0;cases g0
   refine⟨a,rfl,⟨vs0,hS0⟩,h1 μ1 _ H1 (ae _) c9.refl l1.sto fun i μ' bv H' pp xx S ck=>?_⟩
   obtain⟨a2,vs,g2,hS,r⟩:=S.lstOf (show lstOf bv n=some ws from ck)
   have:μ'[n]?=some a:=pre_get pp ha
   rw[g2]at this;cases this
   refine⟨fun w hw=>?_,fun hl=>⟨vs,hS,by rw[<- r.len];exact hl⟩⟩
   obtain⟨v,g1,g3⟩:=r.get hw
   refine⟨⟨vs,v,hS,g1⟩,fun y H'' hy=>?_⟩
   obtain⟨rfl,hy⟩:=hy
   have:=hy vs hS
   rw[g1]at this;cases this
   exact⟨c9.refl,S,g3⟩
 |_=>exact h1.elim⟩
def bA(lo:Int)(n:Nat):List W:=(List.range n).map fun(i:Nat)=>W.int (lo+i)
theorem bG(lo:Int)(n:Nat):(bA lo n).length=n:=by simp[bA]
theorem rA{lo:Int}:yI X (NX lo n) (bA lo n,none) μ H:=fun i μ' bv H' pp xx S _=>by
 refine⟨fun w hw=>?_,fun hl=>by rw[bG]at hl;exact hl⟩
 have hi:i<n:=by
  have:=(aa.mp hw).1
  rw[bG]at this;exact this
 refine⟨hi,fun y H'' hy=>?_⟩
 obtain⟨rfl,rfl⟩:=hy
 have e:w=.int (lo+i):=by
  unfold bA at hw
  rw[al,bZ hi]at hw
  exact(aM hw).symm
 subst e
 exact⟨c9.refl,S,.int⟩
def br(fs:FA):FI:=fun ρ st=>(fs ρ st).bind fun ws st=>match ws with
 |[.int j]=>if -(2^62)<=j/\j<2^62 then .ok (bA 0 j.toNat,none) st else .bad
 |_=>.bad
def og(fs:FA):FI:=fun ρ st=>(fs ρ st).bind fun ws st=>match ws with
 |[.int i,.int j]=>if -(2^62)<=i/\i<2^62/\-(2^62)<=j/\j<2^62 then .ok (bA i (j-i).toNat,none) st else .bad
 |_=>.bad
theorem mR(hm:X.mg "range"=none)(ha:SA X [a] fs)(hg:Gl X "range":=by rfl)(hs:starEach [a] X.env=[(false,eval a X.env)]:=by rfl):SI X tg (.Call (.Name "range" p) [a] [] pos) (br fs):=⟨(A4 hg hm ha.h hs).imp fun σ H R h=>by
 obtain⟨μ,ρ,st,l,h⟩:=h
 refine⟨μ,ρ,st,l,RK.bind h l fun μ1 st1 x v H1 p1 x1 l1 q1 h1=>?_⟩
 split at h1
 ·obtain⟨y,rfl,ry⟩:=q1.one
  split at h1
  ·rename_i c
   exact⟨_,by rw[ry.intE],c.1,c.2,h1 μ1 _ H1 (ae _) c9.refl l1.sto rA⟩
  ·exact h1.elim
 ·exact h1.elim⟩
theorem Bw(hm:X.mg "range"=none)(ha:SA X [a,b] fs)(hg:Gl X "range":=by rfl)(hs:starEach [a,b] X.env=[(false,eval a X.env),(false,eval b X.env)]:=by rfl)(AR:starEach [b] X.env=[(false,eval b X.env)]:=by rfl):SI X tg (.Call (.Name "range" p) [a,b] [] pos) (og fs):=⟨(A5 hg hm ha.h hs AR).imp fun σ H R h=>by
 obtain⟨μ,ρ,st,l,h⟩:=h
 refine⟨μ,ρ,st,l,RK.bind h l fun μ1 st1 x v H1 p1 x1 l1 q1 h1=>?_⟩
 split at h1
 ·obtain⟨y,z,rfl,ry,rz⟩:=q1.two
  split at h1
  ·rename_i c
   exact⟨_,_,by rw[ry.intE,rz.intE],c,h1 μ1 _ H1 (ae _) c9.refl l1.sto rA⟩
  ·exact h1.elim
 ·exact h1.elim⟩
end
mutual
def W.und(n:Nat):W->Bool
 |.loc m=>decide (m<n)
 |.tup ws=>undWs n ws
 |_=>true
def undWs(n:Nat):List W->Bool
 |[]=>true
 |w::ws=>w.und n&&undWs n ws
end
def ai.und(n:Nat):ai->Bool
 |.lst ws=>undWs n ws
 |.ro ws=>undWs n ws
 |.exc _=>true
 |.dct kvs=>undWs n (kvs.map fun p=>p.2)
 |.rod kvs=>undWs n (kvs.map fun p=>p.2)
 |.dcx kvs=>undWs n (kvs.map fun p=>p.2)
 |.tab _ _ _=>true
 |.pin _ _ _ w=>w.und n
 |.gone=>true
section
mutual
theorem bb.und:∀{w:W} {v:V},bb K μ H w v->w.und μ.length=true
 |.non,_,_=>by simp[W.und]
 |.bl _,_,_=>by simp[W.und]
 |.int _,_,_=>by simp[W.und]
 |.str _,_,_=>by simp[W.und]
 |.tup _,_,r=>by obtain⟨p,vs,_,_,c⟩:=r.tupE;unfold W.und;exact RelWs.und c
 |.loc _,_,r=>by obtain⟨a,e,_⟩:=r.locE;unfold W.und;exact bp (aa.mp e).1
theorem RelWs.und:∀{ws:List W} {vs:List V},RelWs K μ H ws vs->undWs μ.length ws=true
 |[],_,_=>by unfold undWs;rfl
 |_::_,_,r=>by obtain⟨x,xs,_,b,c⟩:=r.consE;unfold undWs;rw[bb.und b,RelWs.und c];rfl
end
mutual
theorem bb.take:∀{w:W} {v:V},bb K μ H w v->w.und n=true->bb K (μ.take n) H w v
 |.non,_,r,_=>by rw[r.nonE];exact .non
 |.bl _,_,r,_=>by rw[r.blE];exact .bl
 |.int _,_,r,_=>by rw[r.intE];exact .int
 |.str _,_,r,_=>by rw[r.strE];exact .str
 |.tup _,_,r,b=>by obtain⟨p,vs,rfl,h,c⟩:=r.tupE;unfold W.und at b;exact .tupI h (RelWs.takeN c b)
 |.loc _,_,r,b=>by obtain⟨a,e,rfl⟩:=r.locE;unfold W.und at b;exact .locI (by rw[aQ (hX b)];exact e)
theorem RelWs.takeN:∀{ws:List W} {vs:List V},RelWs K μ H ws vs->undWs n ws=true->RelWs K (μ.take n) H ws vs
 |[],_,r,_=>by rw[r.nilE];exact .nilI
 |_::_,_,r,b=>by
  obtain⟨x,xs,rfl,b1,c1⟩:=r.consE
  unfold undWs at b
  rw[bf]at b
  exact .consI (bb.take b1 b.1) (RelWs.takeN c1 b.2)
end
theorem KX.und_w(k:KX)(n:Nat):k.w.und n=true:=by
 have hi:∀ks:List Int,undWs n (ks.map W.int)=true:=fun ks=>by
  induction ks with
  |nil=>rfl
  |cons a l ih=>show(true&&undWs n (l.map W.int))=true;rw[ih];rfl
 cases k with
 |bo b=>rfl
 |fl ks=>unfold KX.w W.und;exact hi ks
 |pr i ks=>unfold KX.w W.und undWs;rw[show(W.int i).und n=true from rfl];unfold undWs;rw[show(W.tup (ks.map W.int)).und n=true by unfold W.und;exact hi ks];rfl
theorem wQ:∀{kvs:List (KX×W)} {es:List DictEntry},Paired (qp K μ H) kvs es->undWs μ.length (kvs.map fun p=>p.2)=true
 |_,_,.nil=>rfl
 |_,_,.cons r t=>by
  obtain⟨_,_,v,h,_⟩:=r
  show(_&&undWs _ _)=true
  rw[h.und,wQ t];rfl
theorem ue:∀{kvs:List (KX×W)} {es:List DictEntry},Paired (qp K μ H) kvs es->undWs n (kvs.map fun p=>p.2)=true->Paired (qp K (μ.take n) H) kvs es
 |_,_,.nil,_=>.nil
 |_,_,.cons r t,b=>by
  obtain⟨a,⟨u,c,d⟩,v,h,g⟩:=r
  have b:(_&&undWs n _)=true:=b
  rw[bf]at b
  exact .cons ⟨a,⟨u,bb.take c (KX.und_w _ n),d⟩,v,bb.take h b.1,g⟩ (ue t b.2)
theorem jP.und{c:ai}(r:jP K mg μ H c a):c.und μ.length=true:=by
 cases c with
 |lst ws=>obtain⟨vs,_,y⟩:=r;exact y.und
 |ro ws=>obtain⟨vs,_,y⟩:=r;exact y.und
 |exc c=>rfl
 |dct kvs=>obtain⟨vs,_,y⟩:=r;exact y.und
 |rod kvs=>obtain⟨vs,_,_,y⟩:=r;exact y.und
 |dcx kvs=>obtain⟨es,_,_,y,_⟩:=r;exact wQ y
 |tab _ _ _=>rfl
 |pin _ _ _ _=>obtain⟨_,_,_,v,y,_⟩:=r;exact y.und
 |gone=>rfl
theorem jP.take{c:ai}(r:jP K mg μ H c a)(b:c.und n=true):jP K mg (μ.take n) H c a:=by
 cases c with
 |lst ws=>obtain⟨vs,x,y⟩:=r;exact⟨vs,x,y.takeN b⟩
 |ro ws=>obtain⟨vs,x,y⟩:=r;exact⟨vs,x,y.takeN b⟩
 |exc c=>exact r
 |dct kvs=>obtain⟨vs,x,y⟩:=r;exact⟨vs,x,y.takeN b⟩
 |rod kvs=>obtain⟨vs,o,x,y⟩:=r;exact⟨vs,o,x,y.takeN b⟩
 |dcx kvs=>obtain⟨es,x,d,y,z⟩:=r;exact⟨es,x,d,ue y b,z⟩
 |tab _ _ _=>exact r
 |pin _ _ _ _=>obtain⟨ea,p,g,v,y,z⟩:=r;exact⟨ea,p,g,v,y.take b,z⟩
 |gone=>trivial
end
theorem dU.ex{w:World}{o:HO}(x:dU P w H h a o):∃ob,h.get? a=some ob:=by
 cases o with
 |lst xs=>obtain⟨_,_,_,_,e⟩:=x;exact⟨_,e⟩
 |tup xs=>obtain⟨_,_,_,o,e,_⟩:=x;exact⟨_,e⟩
 |dK kvs=>obtain⟨_,_,_,_,o,_,_,e,_⟩:=x;exact⟨_,e⟩
 |dT kvs=>obtain⟨_,_,_,_,o,_,_,e,_⟩:=x;exact⟨_,e⟩
 |set S n=>obtain⟨o,_,_,_,e,_⟩:=x;exact⟨_,e⟩
 |ins C dx fs=>obtain⟨_,_,_,e,_⟩:=x;exact⟨_,e⟩
 |own y=>obtain⟨_,e⟩:=x;exact⟨_,e⟩
 |xd fs=>obtain⟨_,⟨_,_,_,e,_⟩,_⟩:=x;exact⟨_,e⟩
 |rng lo hi=>obtain⟨_,_,_,e⟩:=x;exact⟨_,e⟩
 |frz ob u=>obtain⟨e,_⟩:=x;exact⟨_,e⟩
 |tbl ps=>exact⟨_,(show h.get? a=some _ from x)⟩
 |met f y=>exact⟨_,(show h.get? a=some _ from x)⟩
 |ext φ=>obtain⟨_,⟨_,e⟩,_⟩:=x;exact⟨_,e⟩
def IP(st bv:List ai)(ws:List W):Prop:=undWs st.length ws=true/\st.length<=bv.length/\∀(i:Nat),i<st.length->bv[i]?=st[i]?\/∃c,bv[i]?=some c/\c.und st.length=true
open Classical in
def g6(st bv:List ai)(ws:List W):List ai:=if IP st bv ws then bv.take st.length else bv
theorem iA{st:List ai}{ws:List W}{vs:List V}(S:fG K mg μ st H)(S':fG K mg μ' bv H')(p:μ <+: μ')(r:RelWs K μ' H' ws vs) :
  ∃μ2,μ <+: μ2/\fG K mg μ2 (g6 st bv ws) H'/\RelWs K μ2 H' ws vs:=by
 unfold g6
 by_cases k:IP st bv ws
 ·rw[aw k]
  obtain⟨k1,k2,k3⟩:=k
  have e:μ'.take st.length=μ:=by
   obtain⟨t,rfl⟩:=p
   rw[S.len,List.take_left]
  refine⟨μ'.take st.length,by rw[e];exact ae _,⟨fun i j a ci cj h1 h2 r1 r2 m1 m2=>?_,by rw[a9,a9,S'.len],fun i c a h1 h2=>?_⟩,r.takeN k1⟩
  ·have hi:i<st.length:=by have:=(aa.mp h1).1;rw[a9]at this;omega
   have hj:j<st.length:=by have:=(aa.mp h2).1;rw[a9]at this;omega
   rw[aQ hi]at h1 m1
   rw[aQ hj]at h2 m2
   exact S'.nd i j a ci cj h1 h2 r1 r2 m1 m2
  ·have hi:i<st.length:=by have:=(aa.mp h1).1;rw[a9]at this;omega
   rw[aQ hi]at h1 h2
   refine(S'.at' i c a h1 h2).take ?_
   rcases k3 i hi with q|⟨c',q,b⟩
   ·rw[h1]at q
    obtain⟨a0,g0,r0⟩:=S.get q.symm
    have:=r0.und
    rw[S.len];exact this
   ·rw[h1]at q;cases q;exact b
 ·rw[aD k]
  exact⟨μ',p,S',r⟩
def eA(N:Nat)(body:FS)(ws:List W)(st:List ai):R W:=match body (ws.map some++List.replicate (N-ws.length) none) st with
 |.rt w bv=>.ok w (g6 st bv [w])
 |.nx _ bv=>.ok .non (g6 st bv [])
 |.ex c _ bv=>.ex c (g6 st bv [])
 |_=>.bad
def ji(P:Program)(w:World):Cp:=fun outer H s E e s'=>∃x C t B H',e=.ref x/\E C none H'/\s'.os=s.os/\AllBare s'.gens/\Un (sV outer) [] H H' s.heap s'.heap/\jK P w H' s'.heap/\H' x=none/\Heap.FlyingW B outer x C (.ref t) s'.heap /\
 ∀b o,s'.heap.get? b=some o->(H' b≠none\/((∃o0,s.heap.get? b=some o0)/\b∉sV outer))->B.get? b=some o
def kT(K:Frag)(mg:Str->Option Value)(n:Nat)(F:List W->List ai->R W):Sp:=fun vs H Q E=>vs.length=n/\∃μ ws st,fG K mg μ st H/\RelWs K μ H ws vs/\(match F ws st with
 |.ok w bv=>∀μ' v H',μ <+: μ'->c9 K H H'->fG K mg μ' bv H'->bb K μ' H' w v->Q v H'
 |.ex c bv=>∀C μ' H',mg c=some C->μ <+: μ'->c9 K H H'->fG K mg μ' bv H'->E C none H'
 |.bad=>False)
theorem t9.noted{c:Str}{e:Value}{Q:Unit->Shared->Prop}{E:Value->Shared->Prop}{M:Model}{outer:List Env}(f:t9 X pins σ c H e s)(vX:X.stack=X.env::outer)(qA:X.env.frame=some X.env.locals)(hA:X.A.frames=some X.stack)
  (h:∀x C t B h',e=.ref x->X.mg c=some C->H x=none->Heap.FlyingW B X.stack x C (.ref t) h'->s.heap.UpToSlots h' ->
   (∀b o,s.heap.get? b=some o->(H b≠none\/((∃o0,X.s₀.heap.get? b=some o0)/\b∉X.fs/\b∉X.ex)\/((∃y,X.env.cells.lookup y=some b)/\b∉sV X.stack)\/∃p∈X.pn++pins,p.1=b)->B.get? b=some o)->Q () { s with heap:=h' }) :
  wpAny M X.A (leaving X.env e) Q E s:=by
 obtain⟨x,C,t,B,rfl,hC,hx,st,nx,ff,tr,cov⟩:=f.ex
 rw[vX]at ff hA
 rcases tr with tr|⟨oe,vs,he,rfl,_,hd,h1,h0⟩|⟨L,hL,tr⟩
 ·refine wpAny_leaving_nextW hA ff qA tr st nx fun h' hL=>?_
  obtain⟨k1,k2,k3,k4⟩:=hL
  exact h x C t B h' rfl hC hx ⟨k1,nx,by rw[vX];exact k2,k3⟩ k4 cov
 ·refine wpAny_leaving_firstW hA ff qA he st nx hd h1 h0 fun h' hL=>?_
  obtain⟨k1,k2,k3,k4⟩:=hL
  exact h x _ t B h' rfl hC hx ⟨k1,nx,by rw[vX];exact k2,k3⟩ k4 cov
 ·unfold leaving
  refine af (wpAny_noteFrame_againW hL tr (wpAny_landsW ⟨st,nx,ff,tr⟩ fun h' fl up=>?_))
  exact h x C t B h' rfl hC hx (by rw[vX];exact fl) up cov
theorem t9.leaves{c:Str}{e:Value}{E:XK}{E':Value->Shared->Prop}(f:t9 X pins σ c H e s)(vX:X.stack=X.env::X.outer)(qA:X.env.frame=some X.env.locals)(hA:X.A.frames=some X.stack)(M8:X.ex=[])
  (hE:∀C,X.mg c=some C->E C none H):wpAny M X.A (leaving X.env e) (fun _ s''=>ji X.prog X.w X.outer X.H₀ X.s₀ E e s'') E' s:=by
 refine f.noted vX qA hA fun x C t B h' he hC hx fl up cov=>?_
 have I:=f.inv
 have un:=I.base
 rw[M8]at un
 have fsE:X.fs=sV X.outer:=rfl
 obtain⟨f1,f2,f3,f4⟩:=fl
 rw[vX]at f3
 obtain⟨_,_,f3'⟩:=f3
 have frames:∀b∈sV X.outer,∀o,s.heap.get? b=some o->∃sl,h'.get? b=some { o with slots:=sl }:=fun b hb o ho=>by
  obtain⟨_,o',ho',hd⟩:=I.funs.mem hb
  rw[ho]at ho';cases ho'
  exact up b o ho hd
 have kept:∀b o,s.heap.get? b=some o->(∃o0,X.s₀.heap.get? b=some o0)->b∉sV X.outer->h'.get? b=some o:=fun b o ho h0 hb=>f1 b o (cov b o ho (.inr (.inl ⟨h0,hb,by rw[M8];simp⟩)))
 have keptH:∀b o,s.heap.get? b=some o->H b≠none->h'.get? b=some o:=fun b o ho h0=>f1 b o (cov b o ho (.inl h0))
 refine⟨x,C,t,B,H,he,hE C hC,I.os,I.bare,⟨fun b o q n hb hx=>?_,fun b o q n hb hx=>?_,fun b o q n hx=>un.free b o q n hx,fun b o q hx=>?_,un.tups,un.frzs,un.tbls⟩,fun b u hb=>?_,hx,⟨f1,f2,f3',f4⟩,fun b o ho hr=>?_⟩
 ·exact kept b o (un.keep b o q n hb hx) ⟨o,q⟩ hb
 ·obtain⟨sl,q1⟩:=un.slot b o q n hb hx
  obtain⟨Iv,q2⟩:=frames b hb _ q1
  exact⟨Iv,q2⟩
 ·obtain⟨o',q1⟩:=un.there b o q hx
  by_cases hb:b∈sV X.outer
  ·obtain⟨Iv,q2⟩:=frames b hb _ q1;exact⟨_,q2⟩
  ·exact⟨o',kept b o' q1 ⟨o,q⟩ hb⟩
 ·refine(I.hok b u hb).stay (fun c v hc q=>?_) (fun _ q=>q) fun _ _ q=>q
  refine keptH c v q ?_
  rcases hc with rfl|hc
  ·rw[hb];simp
  ·rw[hc];simp
 ·rcases hr with hr|⟨⟨o0,h0⟩,hb⟩
  ·cases hu:H b with
   |none=>exact absurd hu hr
   |some u=>
    have lt:=I.hok.lt hu
    obtain⟨ob,FN⟩:∃ob,s.heap.get? b=some ob:=by
     exact(I.hok b u hu).ex
    have:=keptH b ob FN hr
    rw[ho]at this;cases this
    exact cov b o FN (.inl hr)
  ·obtain⟨o',q1⟩:=un.there b o0 h0 (by simp)
   have:=kept b o' q1 ⟨o0,h0⟩ hb
   rw[ho]at this;cases this
   exact cov b o q1 (.inr (.inl ⟨⟨o0,h0⟩,hb,by rw[M8];simp⟩))
structure dS(P:Program)(w:World)(K:Frag)(mg:Str->Option Value)(base:Heap)(k:Nat)(x:Str)(n:Nat)(F:List W->List ai->R W):Prop where
 ex:∃(f:Addr) (fd:FuncData) (ps:List Str),mg x=some (.ref f)/\keepIn K (.ref f)=true/\ps.length=n/\ww K fd ps []/\e_ P w K mg base (ji P w) k f fd ps (kT K mg n F)
theorem dS.mono{w:World}{k:Nat}(h:dS P w K mg base j x n F)(hj:j<=k):dS P w K mg base k x n F:=by
 obtain⟨f,fd,ps,a,b,c,d,e⟩:=h.ex
 exact⟨f,fd,ps,a,b,c,d,e.mono hj⟩
def de(n:Nat)(F:List W->List ai->R W)(fs:FA):FE:=fun ρ st=>(fs ρ st).bind fun ws st=>if ws.length=n then F ws st else .bad
section
theorem O7{k:Nat}{Q:VK}{st:List ai}
  (Fn:e_ X.prog X.w X.K X.mg X.base (ji X.prog X.w) k f fd ps (kT X.K X.mg n F)) (hn:ps.length=n) (hr:f' k X.A) (hb:ww X.K fd ps []) (I:bj X pins σ H s) (S:fG X.K X.mg μ st H) (r:RelWs X.K μ H ws vs) (rv:b8 vs us) (hl:ws.length=n)
  (h:RK X (qr X) μ σ H Q (F ws st)):wpAny (model X.prog X.w) X.A (call (.ref f) us) (EP X pins σ Q) X.xe s:=by
 have hl':(us++([]:List Value)).length=ps.length:=by rw[cn,<- rv.length,<- r.len,hl,hn]
 cases e:F ws st with
 |bad=>rw[e]at h;exact h.elim
 |ok w bv=>
  rw[e]at h
  refine lI (hG (Fn.run X.A X.stack s H ⟨us,[]⟩ us vs Q (fun _ _ _=>False) hr I.env0 (by have:=hb s us I.kIn hl';rwa[cn]at this) rv ⟨by rw[<- r.len];exact hl,μ,ws,st,S,r,by rw[e];exact h⟩) fun r s' hq=>?_)
  cases r with
  |error e=>obtain⟨_,_,_,_,_,_,z,_⟩:=hq;exact z.elim
  |ok fl=>
   cases fl with
   |ret u=>exact I.after hq
   |next=>exact False.elim hq
   |brk=>exact False.elim hq
   |cont=>exact False.elim hq
 |ex c bv=>
  rw[e]at h
  refine lI (hG (Fn.run X.A X.stack s H ⟨us,[]⟩ us vs (fun _ _=>False) (fun C _ H'=>X.mg c=some C/\∃μ',μ <+: μ'/\c9 X.K H H'/\fG X.K X.mg μ' bv H') hr I.env0 (by have:=hb s us I.kIn hl';rwa[cn]at this) rv
   ⟨by rw[<- r.len];exact hl,μ,ws,st,S,r,by rw[e];exact fun C μ' H' hC p x S'=>⟨hC,μ',p,x,S'⟩⟩) fun r s' hq=>?_)
  cases r with
  |ok fl=>
   cases fl with
   |ret u=>obtain⟨_,_,_,_,_,_,_,z⟩:=hq;exact z.elim
   |next=>exact False.elim hq
   |brk=>exact False.elim hq
   |cont=>exact False.elim hq
  |error ev=>
   obtain⟨x,C,t,B,H',rfl,⟨hC,μ',p,xx,S'⟩,os,bare,un,hok,hx,fl,cov⟩:=hq
   have I':bj X pins σ H' s':=I.call' os un hok bare fun b hb=>absurd hb (by simp)
   refine h pins μ' H' (.ref x) s' p xx S' ⟨I',x,C,t,B,rfl,hC,hx,fl.1,fl.2.1,fl.2.2.1,.inl fl.2.2.2,fun b o ho hrel=>?_⟩
   refine cov b o ho ?_
   rcases hrel with q|⟨⟨o0,h0⟩,hb,hbx⟩|⟨⟨y,hy⟩,hb⟩|⟨pp,hp,rfl⟩
   ·exact .inl q
   ·refine .inr ⟨?_,fun z=>?_⟩
    ·obtain⟨o',q1⟩:=I.base.there b o0 h0 hbx
     exact⟨o',q1⟩
    ·rcases aJ.mp (I.stkSub b z)with z|z
     ·rw[z]at h0
      exact absurd (aW (aF h0) I.ok.above) (bq _)
     ·exact hb z
   ·obtain⟨v,ov,hov,_⟩:=I.cell y b hy
    exact .inr ⟨⟨_,hov⟩,hb⟩
   ·obtain⟨g1,g2,g3,g4,_⟩:=I.pin pp hp
    refine .inr ⟨⟨_,g1⟩,fun z=>?_⟩
    rcases aJ.mp (I.stkSub _ z)with z|z
    ·exact g3 z
    ·exact g4 z
variable{fs:FA}
theorem mz{k k':Nat}(Fn:dS X.prog X.w X.K X.mg X.base k x n F)(hr:f' k' X.A)(hk:k<=k')(ha:SA X (e::es) fs)(hg:Gl X x:=by rfl)(yg:(x==("__debug__":Str))=false:=by decide)
  (he:starEach (e::es) X.env=(false,eval e X.env)::starEach es X.env:=by rfl) (oU:(backTo pos (starEach es X.env)).any (·.1)=false:=by rfl):SE X (.Call (.Name x p) (e::es) [] pos) (de n F fs):=⟨by
 intro pins s σ H Q I h
 obtain⟨f,fd,ps,hm,hkp,hn,hb,Fo⟩:=(Fn.mono hk).ex
 refine eD (zL I hg hm ?_ yg)
 obtain⟨μ,ρ,st,l,h⟩:=h
 have h':OE X fs σ H fun vs H1=>∃μ1 st1 ws,Rl X μ1 ρ st1 σ H1/\RelWs X.K μ1 H1 ws vs/\RK X (qr X) μ1 σ H1 Q (if ws.length=n then F ws st1 else .bad):=
  ⟨μ,ρ,st,l,RK.bind h l fun μ1 st1 x v H1 p1 x1 l1 q1 h1=>⟨μ1,st1,x,l1,q1,h1⟩⟩
 refine PySem.W.callWith_K (h₀:=X.base) I.ok.mod.kin hkp (fI (ha.h pos pins s σ H _ I h') fun us s1 ⟨vs,H1,I1,r,μ1,st1,ws,l1,r1,q⟩=>⟨I1.kIn,?_⟩) he oU
 by_cases c:ws.length=n
 ·rw[aw c]at q
  exact O7 Fo hn hr hb I1 l1.sto r1 r c q
 ·rw[aD c]at q;exact q.elim⟩
end
theorem u8{w:World}{st:Stmt}{N:List Str}{k:Nat}{g:FS}(F:kS K x qual st f fd)(S:bR N ps (aV st))(hn:ps.length=n)
  (sT:∀(gq:Value) (A:Around) (outer:List Env) (s:Shared) (H:Hp) (E:XK),fd.code=gq->f' k (A.deeper (envOfC qual (aV st) s.heap.objs.size f gq)) ->
   SB (yq (ji P w) P w K mg base N qual (aV st) f gq A outer s H E) (dB st) g):e_ P w K mg base (ji P w) (k+1) f fd ps (kT K mg n (eA N.length g)):=by
 obtain⟨oc,od,kV,im,pm,an,gq,ct,JX,rfl,lk,kt⟩:=F.ex
 refine Od lk kt S (fun vs H Q E h=>by rw[hn];exact h.1) fun A outer s H vs Q E hr J1=>?_
 obtain⟨hl,μ,ws,Nt,Sr,r,h⟩:=J1
 refine⟨_,(sT gq A outer s H E rfl hr).h,μ,ws.map some++List.replicate (N.length-ws.length) none,Nt,⟨?_,Sr⟩,?_⟩
 ·unfold iU
  rw[<- r.len]
  have base:∀(ws:List W) (vs:List V) (m:Nat),RelWs K μ H ws vs->Paired (fun(o:Option W) (s:Option V)=>∀w,o=some w->∃v,s=some v/\bb K μ H w v) (ws.map some++List.replicate m none) (vs.map some++List.replicate m none):=by
   intro ws
   induction ws with
   |nil=>
    intro vs m r
    rw[r.nilE]
    induction m with
    |zero=>exact .nil
    |succ m ih=>exact .cons (fun w z=>nomatch z) ih
   |cons w ws ih=>
    intro vs m r
    obtain⟨y,ys,rfl,ry,rys⟩:=r.consE
    exact .cons (fun w' z=>⟨y,rfl,by cases z;exact ry⟩) (ih ys m rys)
  exact base ws vs _ r
 ·unfold eA at h
  cases e:g (ws.map some++List.replicate (N.length-ws.length) none) Nt with
  |rt w bv=>
   rw[e]at h
   intro μ' v H' p x S' jL
   obtain⟨μ2,p2,S2,r2⟩:=iA Sr S' p (.consI jL .nilI)
   obtain⟨_,e2,r3⟩:=r2.one
   cases e2
   exact h μ2 v H' p2 x S2 r3
  |nx ρ' bv=>
   rw[e]at h
   intro μ' σ' H' p x l'
   obtain⟨μ2,p2,S2,_⟩:=iA (ws:=[]) (vs:=[]) Sr l'.sto p .nilI
   exact h μ2 .non H' p2 x S2 .non
  |ex c ρ' bv=>
   rw[e]at h
   intro pins μ' σ' H' ev s' p x l' fl
   obtain⟨μ2,p2,S2,_⟩:=iA (ws:=[]) (vs:=[]) Sr l'.sto p .nilI
   exact fl.leaves rfl rfl fl.inv.ok.frames rfl fun C hC=>h C μ2 H' hC p2 x S2
  |bk ρ' bv=>rw[e]at h;exact h.elim
  |ct ρ' bv=>rw[e]at h;exact h.elim
  |bad=>rw[e]at h;exact h.elim
theorem dy{w:World}{st:Stmt}{N:List Str}{k:Nat}{g:FS}(F:kS K x qual st f fd)(S:bR N ps (aV st))(hn:ps.length=n)
  (sT:∀(gq:Value) (A:Around) (outer:List Env) (s:Shared) (H:Hp) (E:XK),f' k (A.deeper (envOfC qual (aV st) s.heap.objs.size f gq)) ->
   SB (yq (ji P w) P w K mg base N qual (aV st) f gq A outer s H E) (dB st) g):e_ P w K mg base (ji P w) (k+1) f fd ps (kT K mg n (eA N.length g)):=u8 F S hn fun gq A outer s H E _ hr=>sT gq A outer s H E hr
theorem qD{w:World}{k:Nat}{st:Stmt}{ps:List Str}
  (F:kS K x x st f fd) (hm:mg x=some (.ref f)) (hn:ps.length=n)
  (hb:∀(kV im pm:Value) (an:Option Addr) (gq ct:Value) (us:List Value),us.length=ps.length->bindArgs (fnOf x x (dA st) (dB st) (aV st) .none kV im pm an gq ct) ⟨us,[]⟩=pure (ps.zip us))
  (ok:e_ P w K mg base (ji P w) k f fd ps (kT K mg n G)):dS P w K mg base k x n G:=⟨f,fd,ps,hm,F.kp,hn,F.binds hb,ok⟩
section
variable{a b o:Expr}{fa fb fe fo:FE}{fs:FA}
structure Lo(X:Cx)(id:String)(F:W->List W->List ai->R W):Prop where
 h:F8 X id (fun x vs H Q=>∃μ st wx ws,fG X.K X.mg μ st H/\bb X.K μ H wx x/\RelWs X.K μ H ws vs/\Cq X μ H Q (F wx ws st))
 n:∀x ws st,qt (F x ws st)
def rB(st:List ai):W->Bool
 |.loc n=>(match st[n]? with|some (.lst _)=>true|_=>false)
 |_=>false
def Dk:W->Bool
 |.str _=>true
 |_=>false
theorem Dl{st:List ai}{w:W}(S:fG X.K X.mg μ st H)(r:bb X.K μ H w v)(h:rB st w=true):∃l ys,v=.ref l/\H l=some (.lst ys):=by
 cases w with
 |loc n=>
  obtain⟨a,ha,rfl⟩:=r.locE
  simp only[rB]at h
  cases e1:st[n]? with
  |none=>rw[e1]at h;cases h
  |some cc=>
   rw[e1]at h
   cases cc with
   |lst ws=>obtain⟨a1,g1,vs,k1,_⟩:=S.get e1;rw[ha]at g1;cases g1;exact⟨_,vs,rfl,k1⟩
   |_=>cases h
 |_=>cases h
def qu(F:W->List W->List ai->R W)(fo:FE)(fs:FA):FE:=fun ρ st=>(fo ρ st).bind fun x st=>if rB st x then(fs ρ st).bind fun ws st=>F x ws st else .bad
def O8(F:W->List W->List ai->R W)(fo:FE)(fs:FA):FE:=fun ρ st=>(fo ρ st).bind fun x st=>if Dk x then(fs ρ st).bind fun ws st=>F x ws st else .bad
theorem Bx{F:W->List W->List ai->R W}(slot:Slot "list" name id)(Ci:typeOf (.builtin id)=pure (.type "method_descriptor"))(hm:Lo X id F)(ho:SE X o fo)(ha:SA X (e::es) fs)
  (oT:attributeBase o name X.env (eval o X.env)=eval o X.env:=by rfl)
  (wa:((backTo cX (starEach (e::es) X.env)).all (fun x=>!x.1)&&(backToKw cX (keywordEach [] X.env)).all (fun x=>x.1.isSome)
   && decide ((e::es).length+([]:List Keyword).length+(if ([]:List Keyword).isEmpty then 0 else 1)<30))=true:=by rfl)
  (oV:(fq.endLine==cX.line)=true:=by rfl) (hs:starEach (e::es) X.env=(false,eval e X.env)::starEach es X.env:=by rfl) (ly:(backTo cX (starEach es X.env)).any (·.1)=false:=by rfl) :
  SE X (.Call (.Attribute o name fq) (e::es) [] cX) (qu F fo fs):=⟨(Ow slot Ci hm.h ho.h ha.h oT wa oV hs ly).imp fun σ H Q h=>by
 obtain⟨μ,ρ,st,l,h⟩:=h
 refine⟨μ,ρ,st,l,RK.bind h l fun μ1 st1 x v H1 p1 x1 l1 q1 h1=>?_⟩
 by_cases c:rB st1 x=true
 ·rw[aw c]at h1
  refine⟨Dl l1.sto q1 c,μ1,ρ,st1,l1,RK.bind h1 l1 fun μ2 cH ws vs H2 p2 x2 l2 q2 h2=>?_⟩
  exact⟨μ2,cH,x,ws,l2.sto,q1.mono p2 x2,q2,rf h2 (hm.n _ _ _)⟩
 ·rw[aD c]at h1;exact h1.elim⟩
theorem R5{F:W->List W->List ai->R W}(slot:Slot "str" name id)(Ci:typeOf (.builtin id)=pure (.type "method_descriptor"))(hm:Lo X id F)(ho:SE X o fo)(ha:SA X (e::es) fs)
  (oT:attributeBase o name X.env (eval o X.env)=eval o X.env:=by rfl)
  (wa:((backTo cX (starEach (e::es) X.env)).all (fun x=>!x.1)&&(backToKw cX (keywordEach [] X.env)).all (fun x=>x.1.isSome)
   && decide ((e::es).length+([]:List Keyword).length+(if ([]:List Keyword).isEmpty then 0 else 1)<30))=true:=by rfl)
  (oV:(fq.endLine==cX.line)=true:=by rfl) (hs:starEach (e::es) X.env=(false,eval e X.env)::starEach es X.env:=by rfl) (ly:(backTo cX (starEach es X.env)).any (·.1)=false:=by rfl) :
  SE X (.Call (.Attribute o name fq) (e::es) [] cX) (O8 F fo fs):=⟨(Ox slot Ci hm.h ho.h ha.h oT wa oV hs ly).imp fun σ H Q h=>by
 obtain⟨μ,ρ,st,l,h⟩:=h
 refine⟨μ,ρ,st,l,RK.bind h l fun μ1 st1 x v H1 p1 x1 l1 q1 h1=>?_⟩
 cases x with
 |str z=>
  rw[aw (show Dk (W.str z)=true from rfl)]at h1
  refine⟨⟨z,q1.strE⟩,μ1,ρ,st1,l1,RK.bind h1 l1 fun μ2 cH ws vs H2 p2 x2 l2 q2 h2=>?_⟩
  exact⟨μ2,cH,_,ws,l2.sto,q1.mono p2 x2,q2,rf h2 (hm.n _ _ _)⟩
 |_=>exact h1.elim⟩
def cS(x:W)(ws:List W)(st:List ai):R W:=match x,ws with
 |.loc n,[y]=>(match st[n]? with
  |some (.lst zs)=>if zs.length<jh then .ok .non (st.set n (.lst (zs++[y])))else .bad
  |_=>.bad)
 |_,_=>.bad
theorem mS:Lo X "list.append" cS:=⟨fun pins s σ H x vs v us Q I rv rus ⟨μ,st,wx,ws,S,rx,rs,q⟩=>by
 unfold cS at q
 split at q
 ·rename_i n y
  obtain⟨y1,rfl,ry⟩:=rs.one
  split at q
  ·rename_i zs e1
   split at q
   ·rename_i c
    obtain⟨a1,g1,vs,k1,r⟩:=S.get e1
    obtain⟨b1,f1,rfl⟩:=rx.locE
    rw[g1]at f1;cases f1
    refine yy pins s σ H _ _ v us Q I rv rus ⟨a1,vs,y1,rfl,rfl,k1,by rw[<- r.len];exact K6 (cV c),fun H2 e=>?_⟩
    subst e
    exact q μ _ _ (ae _) (eG.but fL k1) (S.set e1 g1 k1 (r.app (.consI ry .nilI))) .non
   ·exact q.elim
  ·exact q.elim
 ·exact q.elim,fun x ws st=>by
 unfold cS
 repeat' split
 all_goals trivial⟩
def oh(x:W)(ws:List W)(st:List ai):R W:=match x,ws with
 |.loc n,[.loc m]=>(match st[n]?,st[m]? with
  |some (.lst zs),some (.lst ys)=>if zs.length+ys.length<=jh then .ok .non (st.set n (.lst (zs++ys)))else .bad
  |_,_=>.bad)
 |_,_=>.bad
theorem uf:Lo X "list.extend" oh:=⟨fun pins s σ H x vs v us Q I rv rus ⟨μ,st,wx,ws,S,rx,rs,q⟩=>by
 unfold oh at q
 split at q
 ·rename_i n m
  obtain⟨y1,rfl,ry⟩:=rs.one
  split at q
  ·rename_i zs ys e1 e2
   split at q
   ·rename_i c
    obtain⟨a1,g1,vs1,k1,r1⟩:=S.get e1
    obtain⟨a2,g2,vs2,k2,r2⟩:=S.get e2
    obtain⟨b1,f1,rfl⟩:=rx.locE
    obtain⟨b2,f2,rfl⟩:=ry.locE
    rw[g1]at f1;cases f1
    rw[g2]at f2;cases f2
    refine Bc pins s σ H _ _ v us Q I rv rus ⟨a1,a2,vs1,vs2,rfl,rfl,k1,k2,by rw[<- r1.len,<- r2.len];exact il c,?_⟩
    exact q μ _ _ (ae _) (eG.but fL k1) (S.set e1 g1 k1 (r1.app r2)) .non
   ·exact q.elim
  ·exact q.elim
 ·exact q.elim,fun x ws st=>by
 unfold oh
 repeat' split
 all_goals trivial⟩
def lP:List W->Option (List (List Nat))
 |[]=>some []
 |.str l::ws=>(lP ws).map (l :: ·)
 |_=>none
theorem rC:∀{ws:List W} {ls:List (List Nat)} {vs:List V},lP ws=some ls->RelWs K μ H ws vs->vs=ls.map fun l=>V.str (tx l)
 |[],ls,vs,h,r=>by simp only[lP]at h;cases h;exact r.nilE
 |w::ws,ls,vs,h,r=>by
  obtain⟨x,xs,rfl,rx,rs⟩:=r.consE
  cases w with
  |str l=>
   simp only[lP]at h
   cases e:lP ws with
   |none=>rw[e]at h;cases h
   |some ls'=>rw[e]at h;cases h;rw[rx.strE,rC e rs];rfl
  |_=>simp only[lP]at h;cases h
theorem ug(ls:List (List Nat)):lP (ls.map W.str)=some ls:=by
 induction ls with
 |nil=>rfl
 |cons a r ih=>show(lP (r.map W.str)).map (a :: ·)=_;rw[ih];rfl
def rD(x:W)(ws:List W)(st:List ai):R W:=match x,ws with
 |.str sep,[.loc n]=>pf (lstOf st n) fun zs=>pf (lP zs) fun ls=>if (ls.map List.length).sum+ls.length*sep.length<=jh then .ok (.str (no sep ls)) st else .bad
 |_,_=>.bad
theorem G7:Lo X "str.join" rD:=⟨fun pins s σ H x vs v us Q I rv rus ⟨μ,st,wx,ws,S,rx,rs,q⟩=>by
 unfold rD at q
 split at q
 ·rename_i sep n
  obtain⟨y1,rfl,ry⟩:=rs.one
  cases e1:lstOf st n with
  |none=>rw[e1]at q;exact q.elim
  |some zs=>
   rw[e1,cA]at q
   cases e2:lP zs with
   |none=>rw[e2]at q;exact q.elim
   |some ls=>
    rw[e2,cA]at q
    split at q
    ·rename_i c
     obtain⟨a,vs,g,hS,r⟩:=S.lstOf e1
     obtain⟨b1,f1,rfl⟩:=ry.locE
     rw[g]at f1;cases f1
     have:=rC e2 r
     subst this
     exact GP pins s σ H _ _ v us Q I rv rus ⟨sep,_,ls,rx.strE,rfl,hS,be c (by decide),n_ S q⟩
    ·exact q.elim
 ·exact q.elim,fun x ws st=>by
 unfold rD
 split
 ·exact nq fun _=>nq fun _=>by split<;>trivial
 ·trivial⟩
end
def pB(cap:List (Option Nat))(ρ:bY):bY:=cap.map fun o=>o.bind fun j=>(ρ[j]?).join
theorem O9{ρ:bY}(r:Paired (fun(o:Option W) (s:Option V)=>∀w,o=some w->∃v,s=some v/\bb X.K μ H w v) ρ σ):∀cap:List (Option Nat),
  Paired (fun(o:Option W) (s:Option V)=>∀w,o=some w->∃v,s=some v/\bb X.K μ H w v) (pB cap ρ) (nj cap σ)
 |[]=>.nil
 |o::cap=>by
  refine .cons (fun w e=>?_) (O9 r cap)
  cases o with
  |none=>cases e
  |some j=>
   have e':(ρ[j]?).join=some w:=e
   have e2:ρ[j]?=some (some w):=by
    cases h:ρ[j]? with
    |none=>rw[h]at e';cases e'
    |some ow=>rw[h]at e';simp at e';rw[e']
   obtain⟨v,g1,g2⟩:=ky r e2
   exact⟨v,by show(σ[j]?).join=some v;rw[g1];rfl,g2⟩
open Classical in
def om(f:FG)(t:FT)(el:FE)(ck:Option (Nat×List W))(ρ0:bY):List W->List W->List ai->R (List W)
 |[],acc,st=>if iW st ck then .ok acc st else .bad
 |w::ws,acc,st=>if iW st ck then(match f w ρ0 with
  |none=>.bad
  |some ρ'=>(match t ρ' st with
   |.ok true st1=>(match el ρ' st1 with
    |.ok y cH=>om f t el ck ρ0 ws (acc++[y]) cH
    |_=>.bad)
   |.ok false st1=>om f t el ck ρ0 ws acc st1
   |_=>.bad))else .bad
def dX(cap:List (Option Nat))(fi:FI)(f:FG)(t:FT)(el:FE):FE:=fun ρ st=>(fi ρ st).bind fun k st=>if k.1.length<=jh then(om f t el k.2 (pB cap ρ) k.1 [] st).bind fun ys st=>mn ys st else .bad
def Q6(X:Cx)(h_:List Addr->Hp->α->β->Prop)(f:bY->List ai->R α)(σ:St)(H:Hp)(Q:β->Hp->Prop):Prop:=
 ∃μ ρ st a bv,Rl X μ ρ st σ H/\f ρ st=.ok a bv/\∀μ' b H',μ <+: μ'->c9 X.K H H'->fG X.K X.mg μ' bv H'->h_ μ' H' a b->Q b H'
def iI:FT:=fun _ st=>.ok true st
structure Lp(X:Cx)(es:List Expr)(f:FT):Prop where
 h:F9 X es (tT X f)
theorem F9.imp{e:List Expr}{t t':TT}(h:F9 X e t)(i:∀σ H Q,t' σ H Q->t σ H Q):F9 X e t':=fun pins s σ H Q I q=>h pins s σ H Q I (i _ _ _ q)
theorem oo:Lp X [] iI:=⟨GL.imp fun σ H Q h=>by
 obtain⟨μ,ρ,st,l,h⟩:=h
 exact h μ true H (ae _) c9.refl l.sto rfl⟩
theorem G8{t:FT}(hc:ST X c t):Lp X [c] t:=⟨GM hc.h⟩
theorem Dm{fi:FI}{f:FG}{t:FT}{el:FE}{Q:VK}(h:tE X (dX cap fi f t el) σ H Q) :
  t6 cap (fun σ H R=>tG X (O6 X) fi σ H R) (O4 X f) (Q6 X K7 t) (Q6 X (qr X) el) σ H Q:=by
 obtain⟨μ,ρ,st,l,h⟩:=h
 refine⟨μ,ρ,st,l,RK.bind h l fun μ1 st1 k J H1 p1 x1 l1 wk h1=>?_⟩
 by_cases hz:k.1.length<=jh
 ·rw[aw hz]at h1
  refine⟨fun i m ys H'=>i<=k.1.length/\m=k.1.length-i/\ys.length<=i/\∃μ' acc bv,μ1 <+: μ'/\c9 X.K H1 H'/\Rl X μ' ρ bv σ H'/\RelWs X.K μ' H' acc ys/\RK X (qr X) μ' σ H' Q ((om f t el k.2 (pB cap ρ) (k.1.drop i) acc bv).bind fun ys st=>mn ys st),
   ⟨_,cM _,rfl,av _,μ1,[],st1,ae _,c9.refl,l1,.nilI,h1⟩,?_⟩
  rintro i m ys H' ⟨hi,rfl,hy,μ',acc,bv,pm,xm,lm,ra,hm⟩
  by_cases jS:i<k.1.length
  ·rw[eL jS]at hm
   unfold om at hm
   by_cases ck:iW bv k.2
   ·rw[aw ck]at hm
    obtain⟨go,yld⟩:=(wk i μ' bv H' pm xm lm.sto ck).1 _ (ac jS)
    refine .inr ⟨go,fun x H2 hy2=>?_⟩
    obtain⟨y1,y2,y3⟩:=yld x H2 hy2
    cases hf:f k.1[i] (pB cap ρ)with
    |none=>rw[hf]at hm;exact hm.elim
    |some ρ2=>
     rw[hf]at hm
     simp only at hm
     have lb:Rl X μ' (pB cap ρ) bv (nj cap σ) H2:=⟨O9 (lm.to (ae _) y1 y2).env cap,y2⟩
     refine⟨μ',pB cap ρ,bv,k.1[i],ρ2,lb,y3,hf,fun σ2 l2=>?_⟩
     cases ht:t ρ2 bv with
     |bad=>rw[ht]at hm;exact hm.elim
     |ex c s=>rw[ht]at hm;exact hm.elim
     |ok kk cH=>
      rw[ht]at hm
      refine⟨μ',ρ2,bv,kk,cH,l2,ht,fun μ3 b3 H3 p3 x3 S3 q3=>?_⟩
      cases q3
      cases kk with
      |false=>
       exact⟨_,by omega,jS,rfl,by omega,μ3,acc,cH,pm.trans p3,xm.trans (y1.trans x3),lm.to p3 (y1.trans x3) S3,ra.mono p3 (y1.trans x3),RK.mono hm p3 (y1.trans x3)⟩
      |true=>
       rw[aw rfl]
       simp only at hm
       cases he:el ρ2 cH with
       |bad=>rw[he]at hm;exact hm.elim
       |ex c s=>rw[he]at hm;exact hm.elim
       |ok w iy=>
        rw[he]at hm
        refine⟨μ3,ρ2,cH,w,iy,l2.to p3 x3 S3,he,fun μ4 b4 H4 p4 x4 S4 q4=>?_⟩
        have pp:=p3.trans p4
        have xx:=y1.trans (x3.trans x4)
        exact⟨jA hy (aW jS (il hz)),_,by omega,jS,rfl,by simp;omega,μ4,acc++[w],iy,pm.trans pp,xm.trans xx,lm.to pp xx S4,(ra.mono pp xx).app (.consI q4 .nilI),RK.mono hm pp xx⟩
   ·rw[aD ck]at hm;exact hm.elim
  ·have hi':i=k.1.length:=by omega
   subst hi'
   rw[lG (av _)]at hm
   unfold om at hm
   by_cases ck:iW bv k.2
   ·rw[aw ck]at hm
    obtain⟨z1,z2⟩:=rh lm.sto ra hm
    exact .inl ⟨(wk _ μ' bv H' pm xm lm.sto ck).2 (av _),z1,fun p hp=>z2 p _ hp rfl⟩
   ·rw[aD ck]at hm;exact hm.elim
 ·rw[aD hz]at h1;exact h1.elim
section
variable{fi:FI}{f:FG}{t:FT}{el:FE}
theorem SJ{X X':Cx}{f:FE}(hK:X'.K=X.K)(hm:X'.mg=X.mg)(h:SE X' e f):QE X' e (Q6 X (qr X) f):=⟨h.h.imp fun σ H Q ⟨μ,ρ,st,a,bv,l,e,q⟩=>⟨μ,ρ,st,⟨by rw[hK];exact l.env,by rw[hK,hm];exact l.sto⟩,by rw[e];exact fun μ' b H' p x S r=>q μ' b H' p (by rw[<- hK];exact x) (by rw[<- hK,<- hm];exact S) (by show bb X.K μ' H' a b;rw[<- hK];exact r)⟩⟩
theorem SL{X X':Cx}{e:List Expr}{f:FT}(hK:X'.K=X.K)(hm:X'.mg=X.mg)(h:Lp X' e f):RT X' e (Q6 X K7 f):=⟨h.h.imp fun σ H Q ⟨μ,ρ,st,a,bv,l,e,q⟩=>⟨μ,ρ,st,⟨by rw[hK];exact l.env,by rw[hK,hm];exact l.sto⟩,by rw[e];exact fun μ' b H' p x S r=>q μ' b H' p (by rw[<- hK];exact x) (by rw[<- hK,<- hm];exact S) r⟩⟩
theorem SM{X X':Cx}(hK:X'.K=X.K)(hm:X'.mg=X.mg)(h:SG X' e f):QG X' e (O4 X f):=⟨h.h.imp fun v σ H Q ⟨μ,ρ,st,w,ρ',l,r,e,q⟩=>⟨μ,ρ,st,w,ρ',⟨by rw[hK];exact l.env,by rw[hK,hm];exact l.sto⟩,by rw[hK];exact r,e,fun σ' l'=>q σ' ⟨by rw[<- hK];exact l'.env,by rw[<- hK,<- hm];exact l'.sto⟩⟩⟩
theorem u9(hB:wI X.env.scope.names scope.names nm cap X.N=true)(fj:X.env.cells=cellsFrom m X.env.scope.names [])(hi:SI X tg iter fi)(hg:∀cl C s0 H0 fp,SG (bK X nm scope cl C s0 H0 fp) tg f)(ht:∀cl C s0 H0 fp,Lp (bK X nm scope cl C s0 H0 fp) kU t)
  (he:∀cl C s0 H0 fp,SE (bK X nm scope cl C s0 H0 fp) m7 el) (gS:X.calm=true:=by rfl) (gF:scope.kind=.function:=by rfl) (hs:∀x,foldedSetIterable iter X.env x=pure x:=by intro _;rfl) :
  SE X (.ListComp m7 [⟨tg,iter,kU,0⟩] scope pos) (dX cap fi f t el):=
 ⟨(K3 gS fj gF hB ⟨hi.h⟩ (fun cl C s0 H0 fp=>SM (X:=X) rfl rfl (hg cl C s0 H0 fp)) (fun cl C s0 H0 fp=>SL (X:=X) rfl rfl (ht cl C s0 H0 fp)) (fun cl C s0 H0 fp=>SJ (X:=X) rfl rfl (he cl C s0 H0 fp)) hs).h.imp fun _ _ _ h=>Dm h⟩
theorem rE{x0:Str}{p0 p1:Pos}(MZ:SG X (.Name x0 p0) (eZ i))(hB:wI X.env.scope.names scope.names nm cap X.N=true)(fj:X.env.cells=cellsFrom m X.env.scope.names [])(hi:SI X tg iter fi)(hg:∀cl C s0 H0 fp,SG (bK X nm scope cl C s0 H0 fp) tg f)(ht:∀cl C s0 H0 fp,Lp (bK X nm scope cl C s0 H0 fp) kU t)
  (he:∀cl C s0 H0 fp,SE (bK X nm scope cl C s0 H0 fp) m7 el) (gS:X.calm=true:=by rfl) (gF:scope.kind=.function:=by rfl) (hs:∀x,foldedSetIterable iter X.env x=pure x:=by intro _;rfl)
  (M9:swapsWith (.ListComp m7 [⟨tg,iter,kU,0⟩] scope pos) (some (.Name x0 p0)) p1.line X.env=pure true:=by first|rfl|kernel_rfl) :
  SS X (.Assign [.Name x0 p0] (.ListComp m7 [⟨tg,iter,kU,0⟩] scope pos) p1) (u7 (dX cap fi f t el) (eZ i)):=
 ⟨(yB ⟨MZ.h⟩ gS fj gF hB ⟨hi.h⟩ (fun cl C s0 H0 fp=>SM (X:=X) rfl rfl (hg cl C s0 H0 fp)) (fun cl C s0 H0 fp=>SL (X:=X) rfl rfl (ht cl C s0 H0 fp)) (fun cl C s0 H0 fp=>SJ (X:=X) rfl rfl (he cl C s0 H0 fp)) hs M9).h.imp fun D σ H h=>by
  obtain⟨μ,ρ,st,l,h⟩:=h
  have h':tE X (dX cap fi f t el) σ H fun x H1=>O4 X (eZ i) x σ H1 D.nx:=⟨μ,ρ,st,l,RK.stmt h l fun μ1 st1 x v H1 p1 x1 l1 q1 h1=>⟨μ1,ρ,st1,x,ρ.set i (some x),l1,q1,rfl,fun σ' l'=>h1 μ1 σ' H1 (ae _) c9.refl l'⟩⟩
  exact Dm h'⟩
end
section
variable{a b o:Expr}{fa fb fc fe fo:FE}{fs:FA}
theorem uh{lw:List V}(hr:∀μ H,RelWs X.K μ H ws lw):yI X (Q3 lw) (ws,none) μ H:=fun i μ' bv H' pp xx S _=>by
 have hl:ws.length=lw.length:=(hr μ H).len
 refine⟨fun w hw=>?_,fun h=>by show lw.length<=i;rw[<- hl];exact h⟩
 obtain⟨v,g1,g2⟩:=(hr μ' H').get hw
 refine⟨(aa.mp g1).1,fun y H'' hy=>?_⟩
 obtain⟨rfl,hy⟩:=hy
 rw[g1]at hy;cases hy
 exact⟨c9.refl,S,g2⟩
def yK(l:List Nat):List W:=l.map fun c=>.str [c]
theorem By(l:List Nat)(μ:List Addr)(H:Hp):RelWs X.K μ H (yK l) (nD l):=by
 induction l with
 |nil=>exact .nilI
 |cons a r ih=>exact .consI .str ih
def IQ(fe:FE):FI:=fun ρ st=>(fe ρ st).bind fun x st=>match x with
 |.str l=>.ok (yK l,none) st
 |_=>.bad
theorem Lq(he:SE X e fe):SI X tg e (IQ fe):=⟨(KU he.h).imp fun σ H R h=>by
 obtain⟨μ,ρ,st,l,h⟩:=h
 refine⟨μ,ρ,st,l,RK.bind h l fun μ1 st1 x v H1 p1 x1 l1 q1 h1=>?_⟩
 cases x with
 |str z=>exact⟨z,q1.strE,h1 μ1 _ H1 (ae _) c9.refl l1.sto (uh (By z))⟩
 |_=>exact h1.elim⟩
def cK(fe:FE):FI:=fun ρ st=>(fe ρ st).bind fun x st=>match x with
 |.tup ws=>.ok (ws,none) st
 |.loc n=>(match lstOf st n with
  |some ws=>.ok (ws,some (n,ws)) st
  |none=>.bad)
 |.str l=>.ok (yK l,none) st
 |_=>.bad
theorem u_(he:SE X e fe):SI X tg e (cK fe):=⟨fun pins s σ H Rr I h=>by
 obtain⟨μ,ρ,st,l,h⟩:=h
 cases e1:fe ρ st with
 |bad=>simp only[cK,e1,R.bind_bad]at h;exact h.elim
 |ex c st1=>
  refine(Dj (tg:=tg) he).h pins s σ H Rr I ⟨μ,ρ,st,l,?_⟩
  simp only[cK,Di,e1,R.bind_ex]at h ⊢;exact h
 |ok w st1=>
  cases w with
  |tup ws=>
   refine(Dj (tg:=tg) he).h pins s σ H Rr I ⟨μ,ρ,st,l,?_⟩
   simp only[cK,Di,e1,R.bind_ok]at h ⊢;exact h
  |loc n=>
   refine(Ln (tg:=tg) he).h pins s σ H Rr I ⟨μ,ρ,st,l,?_⟩
   simp only[cK,IN,e1,R.bind_ok]at h ⊢;exact h
  |str z=>
   refine(Lq (tg:=tg) he).h pins s σ H Rr I ⟨μ,ρ,st,l,?_⟩
   simp only[cK,IQ,e1,R.bind_ok]at h ⊢;exact h
  |_=>simp only[cK,e1,R.bind_ok]at h;exact h.elim⟩
def rF(ws:List W):List W:=(List.range ws.length).map fun(i:Nat)=>W.tup [.int i,ws.getD i .non]
theorem ui{w:W}(h:(rF ws)[i]?=some w):∃y,ws[i]?=some y/\w=.tup [.int i,y]:=by
 unfold rF at h
 rw[al]at h
 by_cases hi:i<ws.length
 ·rw[bZ hi]at h
  refine⟨ws[i],ac hi,?_⟩
  have:=(aM h).symm
  rw[this]
  show W.tup [W.int i,ws.getD i W.non]=_
  rw[az,ac hi];rfl
 ·rw[fX (by simpa using hi)]at h;cases h
theorem Bz(ws:List W):(rF ws).length=ws.length:=by simp[rF]
def vc(fs:FA):FI:=fun ρ st=>(fs ρ st).bind fun ws st=>match ws with
 |[.tup zs]=>.ok (rF zs,none) st
 |_=>.bad
theorem G9{FW:List Expr}{kk:Nat}{tp:Pos}(hm:X.mg "enumerate"=none)(ha:SA X [a] fs)(hg:Gl X "enumerate":=by rfl)(hs:starEach [a] X.env=[(false,eval a X.env)]:=by rfl) :
  SI X (.Tuple FW kk tp) (.Call (.Name "enumerate" p) [a] [] pos) (vc fs):=⟨(C4 hm ⟨ha.h⟩ hg hs).h.imp fun σ H R h=>by
 obtain⟨μ,ρ,st,l,h⟩:=h
 refine⟨μ,ρ,st,l,RK.bind h l fun μ1 st1 x v H1 p1 x1 l1 q1 h1=>?_⟩
 split at h1
 ·rename_i zs
  obtain⟨y,rfl,ry⟩:=q1.one
  obtain⟨p,vs,rfl,hS,r⟩:=ry.tupE
  refine⟨p,rfl,⟨vs,hS⟩,h1 μ1 _ H1 (ae _) c9.refl l1.sto fun i μ' bv H' pp xx S _=>⟨fun w hw=>?_,fun hl=>⟨vs,xx _ _ hS,by rw[Bz]at hl;rw[<- r.len];exact hl⟩⟩⟩
  obtain⟨y,hy,rfl⟩:=ui hw
  have r':=r.mono pp xx
  obtain⟨v,g1,g2⟩:=r'.get hy
  refine⟨⟨vs,v,xx _ _ hS,g1⟩,fun z H'' hz=>?_⟩
  obtain⟨q,hq,rfl,hH⟩:=hz
  have e:=hH vs v (xx _ _ hS) g1
  subst e
  have ex:=eG.same (K:=X.K) (cf hq (.tup [.int i,v]))
  exact⟨ex,S.same (cf hq _),.tupI eG.new (.consI .int (.consI (g2.mono (ae _) ex) .nilI))⟩
 ·exact h1.elim⟩
def BA(fa:FE):FE:=fun ρ st=>(fa ρ st).bind fun x st=>match x with
 |.int i=>.ok (.int (-i)) st
 |_=>.bad
theorem O_(ha:SE X a fa):SE X (.UnaryOp .USub a pos) (BA fa):=⟨(N6 KC ha.h).imp fun σ H Q h=>by
 obtain⟨μ,ρ,st,l,h⟩:=h
 refine⟨μ,ρ,st,l,RK.bind h l fun μ1 st1 x v H1 p1 x1 l1 q1 h1=>?_⟩
 cases x with
 |int k=>exact⟨k,q1.intE,h1 μ1 _ H1 (ae _) c9.refl l1.sto .int⟩
 |_=>exact h1.elim⟩
def R6(x y:W)(st:List ai):R W:=match x,y with
 |.int i,.int j=>.ok (.bl (decide (i<=j))) st
 |.str [c],.str [d]=>.ok (.bl (decide (c<=d))) st
 |_,_=>.bad
end
theorem vd:∀{l m:List Nat},l.Pairwise (· < ·)->m.Pairwise (· < ·)->(∀x,x∈l↔x∈m)->l=m
 |[],[],_,_,_=>rfl
 |[],b::m,_,_,h=>by have:=(h b).mpr (by simp);simp at this
 |a::l,[],_,_,h=>by have:=(h a).mp (by simp);simp at this
 |a::l,b::m,h1,h2,h=>by
  obtain⟨p1,p2⟩:=ca.mp h1
  obtain⟨q1,q2⟩:=ca.mp h2
  have e:a=b:=by
   rcases aJ.mp ((h a).mp (by simp))with z|z
   ·exact z
   ·rcases aJ.mp ((h b).mpr (by simp))with y|y
    ·exact y.symm
    ·have:=p1 b y;have:=q1 a z;omega
  subst e
  rw[vd p2 q2 fun x=>?_]
  constructor
  ·intro hx
   rcases aJ.mp ((h x).mp (aA _ hx))with z|z
   ·subst z;exact absurd (p1 x hx) (bq _)
   ·exact z
  ·intro hx
   rcases aJ.mp ((h x).mpr (aA _ hx))with z|z
   ·subst z;exact absurd (q1 x hx) (bq _)
   ·exact z
def yL(c:List Nat):List (List Nat)->List (List Nat)
 |[]=>[c]
 |d::r=>if c<d then c::d::r else d::yL c r
def kC(l:List (List Nat)):List (List Nat):=l.foldr yL []
theorem pD(c:List Nat):∀l:List (List Nat),(yL c l).Perm (c::l)
 |[]=>jD _
 |d::r=>by
  unfold yL
  split
  ·exact jD _
  ·exact((pD c r).cons d).trans (List.Perm.swap c d r)
theorem jk(l:List (List Nat)):(kC l).Perm l:=by
 induction l with
 |nil=>exact jD _
 |cons a r ih=>exact(pD a _).trans (ih.cons a)
def G_:List (List Nat)->Prop:=List.Pairwise fun a b=>¬ b<a
theorem z_(c:List Nat):∀{l:List (List Nat)},G_ l->G_ (yL c l)
 |[],_=>by simp[yL,G_]
 |d::r,h=>by
  obtain⟨h1,h2⟩:=ca.mp h
  unfold yL
  split
  ·rename_i hc
   refine ca.mpr ⟨fun x hx=>?_,h⟩
   rcases aJ.mp hx with rfl|hx
   ·exact fun z=>List.lt_irrefl _ (List.lt_trans z hc)
   ·exact fun z=>h1 x hx (List.lt_trans z hc)
  ·rename_i hc
   refine ca.mpr ⟨fun x hx=>?_,z_ c h2⟩
   rcases aJ.mp ((pD c r).mem_iff.mp hx)with rfl|hx
   ·exact hc
   ·exact h1 x hx
theorem wR(l:List (List Nat)):G_ (kC l):=by
 induction l with
 |nil=>exact List.Pairwise.nil
 |cons a r ih=>exact z_ a ih
theorem ve:∀{l m:List (List Nat)},G_ l->G_ m->l.Perm m->l=m
 |[],m,_,_,h=>(List.Perm.nil_eq h)
 |a::l,[],_,_,h=>(by have:=h.length_eq;simp at this)
 |a::l,b::m,h1,h2,h=>by
  obtain⟨p1,p2⟩:=ca.mp h1
  obtain⟨q1,q2⟩:=ca.mp h2
  have e:a=b:=by
   rcases aJ.mp (h.mem_iff.mp (by simp:a∈a::l))with z|z
   ·exact z
   ·rcases aJ.mp (h.mem_iff.mpr (by simp:b∈b::m))with y|y
    ·exact y.symm
    ·exact List.le_antisymm (show a<=b from p1 b y) (show b<=a from q1 a z)
  subst e
  rw[ve p2 q2 (List.perm_cons a |>.mp h)]
theorem rG:∀{zs:List (List Nat)},sortedS (zs.map tx)=true->G_ zs:=by
 have key:∀(zs:List (List Nat)) (p:List Nat),risingS (tx p) (zs.map tx)=true->G_ (p::zs):=by
  intro zs
  induction zs with
  |nil=>intro p _;simp[G_]
  |cons a r ih=>
   intro p h
   have h':(!ltCps a p&&risingS (tx a) (r.map tx))=true:=h
   rw[bf,hV,ltCps_eq,decide_eq_false_iff_not]at h'
   have u:=ih a h'.2
   refine ca.mpr ⟨fun x hx=>?_,u⟩
   rcases aJ.mp hx with rfl|hx
   ·exact h'.1
   ·have:=(ca.mp u).1 x hx
    exact List.not_lt.mpr (List.le_trans (List.not_lt.mp h'.1) (List.not_lt.mp this))
 intro zs h
 cases zs with
 |nil=>exact List.Pairwise.nil
 |cons a r=>exact key r a h
section
variable{a b o:Expr}{fa fb fc fe fo:FE}{fs:FA}
def mT(ws:List W)(st:List ai):R W:=match ws with
 |[.loc n]=>pf (lstOf st n) fun zs=>pf (lP zs) fun ls=>if ls.length<64 then .ok (.loc st.length) (st++[.lst ((kC ls).map W.str)])else .bad
 |_=>.bad
theorem wS(ls:List (List Nat)):RelWs K μ H (ls.map W.str) (ls.map fun l=>V.str (tx l)):=by
 induction ls with
 |nil=>exact .nilI
 |cons a r ih=>exact .consI .str ih
theorem wT:lN X (.builtin "sorted") mT:=⟨fun pins s σ H vs us Q I rv ⟨μ,st,ws,S,r,q⟩=>by
 unfold mT at q
 split at q
 ·rename_i n
  obtain⟨y,rfl,ry⟩:=r.one
  cases e1:lstOf st n with
  |none=>rw[e1]at q;exact q.elim
  |some zs=>
   rw[e1,cA]at q
   cases e2:lP zs with
   |none=>rw[e2]at q;exact q.elim
   |some ls=>
    rw[e2,cA]at q
    split at q
    ·rename_i c
     obtain⟨a,vs,g,hS,rz⟩:=S.lstOf e1
     obtain⟨b1,f1,rfl⟩:=ry.locE
     rw[g]at f1;cases f1
     have:=rC e2 rz
     subst this
     refine tj.h pins s σ H _ us Q I rv ⟨_,ls,rfl,hS,c,fun zs hp hs l H2 hl eH=>?_⟩
     subst eH
     have ez:zs=kC ls:=ve (rG hs) (wR ls) (hp.trans (jk ls).symm)
     subst ez
     exact q (μ++[l]) _ _ (ar _ _) (eG.same (cf hl _)) (S.newLst hl (wS _)) (mq S)
    ·exact q.elim
 ·exact q.elim,fun ws st=>by
 unfold mT
 split
 ·exact nq fun _=>nq fun _=>by split<;>trivial
 ·trivial⟩
theorem j8{m l:List Nat}(hm:m.Nodup)(h:∀c∈m,c∈l):m.length<=l.length:=by
 induction m generalizing l with
 |nil=>exact cM _
 |cons a r ih=>
  obtain⟨h1,h2⟩:=bx.mp hm
  have ha:a∈l:=h a (by simp)
  have:=ih h2 (l:=l.erase a) fun c hc=>by
   have:c≠a:=fun z=>h1 (z▸hc)
   exact(List.mem_erase_of_ne this).mpr (h c (aA _ hc))
  rw[List.length_erase_of_mem ha]at this
  have:0<l.length:=lJ ha
  simp;omega
end
def W.ty:W->Option String
 |.non=>some "NoneType" | .bl _=>some "bool" | .int _=>some "int" | .str _=>some "str" | .tup _=>some "tuple" | .loc _=>none
def Ha(t T:String):Bool:=(t==T)||(t == "bool" && T == "int")
theorem O'{K:Frag}{T:String}(h:C2 T){w:W}{t:String}(hw:w.ty=some t):PySem.W.kitOne K (.type t) (.type T)=some (Ha t T):=by
 cases w<;>simp only[W.ty]at hw<;>cases hw<;>(rcases h with rfl|rfl|rfl|rfl<;>rfl)
def iJ(T:String)(fa:FE):FE:=fun ρ st=>(fa ρ st).bind fun x st=>match x.ty with
 |some t=>.ok (.bl (Ha t T)) st
 |none=>.bad
section
variable{a b o:Expr}{fa fb fc fe fo:FE}{fs:FA}
theorem Aa{T:String}{xT:Str}(hm:X.mg "isinstance"=none)(hT:X.mg xT=none)(hv:bootBuiltins xT=some (.type T))(ha:SE X a fa)(hk:C2 T:=by first|exact .inl rfl|exact .inr (.inl rfl)|exact .inr (.inr (.inl rfl))|exact .inr (.inr (.inr rfl)))
  (hg:Gl X "isinstance":=by rfl) (TC:Gl X xT:=by rfl) (hn:xT ≠ "__name__":=by decide) (hd:(xT==("__debug__":Str))=false:=by decide)
  (he:starEach [a,.Name xT p2] X.env=(false,eval a X.env)::starEach [.Name xT p2] X.env:=by rfl) (Sf:starEach [.Name xT p2] X.env=(false,eval (.Name xT p2) X.env)::starEach [] X.env:=by rfl) (oU:(backTo pos (starEach [.Name xT p2] X.env)).any (·.1)=false:=by rfl) :
  SE X (.Call (.Name "isinstance" p) [a,.Name xT p2] [] pos) (iJ T fa):=by
 have C:gZ X (.builtin "isinstance") (fun xs H Q=>∃x μ st w t,xs=[x,.ty T]/\fG X.K X.mg μ st H/\bb X.K μ H w x/\w.ty=some t/\Q (.bl (Ha t T)) H):=by
  intro pins s σ H xs us Q I r h
  obtain⟨x,μ,st,w,t,rfl,S,rx,ht,q⟩:=h
  obtain⟨u,u2,rfl,r1,r2⟩:=b8.two r
  obtain rfl:u2=.type T:=r2
  have e:=O' (K:=X.K) hk ht
  cases w with
  |tup ws=>
   cases ht
   obtain⟨p,vs,rfl,hS,_⟩:=rx.tupE
   cases(show u=Value.ref p from r1)
   obtain⟨bw,_,hp,_⟩:=I.tuple hS
   obtain⟨o,h1,h2,_⟩:=hp
   exact kia_one PySem.W.kitx_tuple I.kIn ⟨o,h1,h2⟩ e (fun z=>nomatch z) fun tk=>⟨.bl _,H,I.tok tk,rfl,q⟩
  |non=>cases ht;cases rx.nonE;exact mO I r1 .non e fun tk=>⟨.bl _,H,I.tok tk,rfl,q⟩
  |bl b=>cases ht;cases rx.blE;exact mO I r1 (.bl _) e fun tk=>⟨.bl _,H,I.tok tk,rfl,q⟩
  |int b=>cases ht;cases rx.intE;exact mO I r1 (.int _) e fun tk=>⟨.bl _,H,I.tok tk,rfl,q⟩
  |str b=>cases ht;cases rx.strE;exact mO I r1 (.str _) e fun tk=>⟨.bl _,H,I.tok tk,rfl,q⟩
  |loc b=>cases ht
 refine⟨(wz C hg hm boot_isinstance (qB ha.h (qB (Gg TC hT hv (v:=.ty T) rfl hn hd) yp Sf) he) (by decide) (by decide) he oU).imp fun σ H Q h=>?_⟩
 obtain⟨μ,ρ,st,l,h⟩:=h
 refine⟨μ,ρ,st,l,RK.bind h l fun μ1 st1 x v H1 p1 x1 l1 q1 h1=>?_⟩
 cases ht:x.ty with
 |none=>rw[ht]at h1;exact h1.elim
 |some t=>
  rw[ht]at h1
  exact⟨v,μ1,st1,x,t,rfl,l1.sto,q1,ht,h1 μ1 _ H1 (ae _) c9.refl l1.sto .bl⟩
theorem Dn{w:World}{k:Nat}{st:Stmt}{ps:List Str}
  (F:kS K x x st f fd) (hm:mg x=some (.ref f)) (hn:ps.length=n)
  (hb:∀(kV im pm:Value) (an:Option Addr) (gq ct:Value) (us:List Value),us.length=ps.length->bindArgs (fnOf x x (dA st) (dB st) (aV st) .none kV im pm an gq ct) ⟨us,[]⟩=pure (ps.zip us)) :
  dS P w K mg base k x n (fun _ _=>.bad):=qD F hm hn hb ⟨fun vs H Q E h=>by rw[hn];exact h.1,fun _ _ _ _ _ _ _ _ _ _ _ _ _ h=>by obtain⟨_,_,_,_,_,_,z⟩:=h;exact z.elim⟩
end
section
end
open AutoSeq1 (wpAny_loadPart')
theorem wU(l:Addr)(items:Array Value)(n:Nat)(b:Addr)(gC:Array Value)(n2:Nat)(dd:Option Addr)(sl:Array (Option Value))(Si:¬(!items.isEmpty&&Builtin.List.listTooLong (items.size+gC.size))=true)(tQ:items.size<=sizeLine)(AR:items.size+gC.size<=sizeLine+1) :
  Meets (Builtin.«list.extend» ⟨[.ref l,.ref b],[]⟩) (fun _ R s=>s.heap.get? l=some { cls:=.type "list",dict:=none,data:=.seq items n,slots:=#[] }/\s.heap.get? b=some { cls:=.type "tuple",dict:=dd,data:=.seq gC n2,slots:=sl }
   /\ R (.ok (.ret Value.none)) { s with heap:=s.heap.update l (Obj.mapSeq fun x=>x++gC),toks:=s.toks }):=
 .of_wp fun prog w A R s h=>by
  have g1:=AutoSeq1.idx_int
  have g2:=ki
  have g3:=AutoSeq1.sub_list_list
  have g4:=AutoSeq1.sub_tuple_list
  have g5:=AutoSeq1.sub_list_tuple
  obtain⟨hp,gl,ds,tk,os⟩:=s
  obtain⟨ha,hb,q⟩:=h
  have fits:(items++gC).size<=sizeLine+1:=by
   rw[Array.size_append]
   exact AR
  wp_walk using (iR ha rfl (hz:=tQ) (_hz':=fits)),bE ha,bE hb
  exact⟨_,rfl,q⟩
def Do(K:Frag):V->List V->Hp->VK->Prop:=fun x vs H Q=>∃l b xs zs,x=.ref l/\vs=[.ref b]/\H l=some (.lst xs)/\eG K H b zs/\xs.length+zs.length<=sizeLine/\Q .non (dY H l (.lst (xs++zs)))
section
theorem yM:Q2 X "list.extend" (Do X.K):=by
 intro pins s σ H x vs v us Q I rx rv h
 obtain⟨l,b,xs,zs,rfl,rfl,hH,hB,hz,q⟩:=h
 cases rx
 obtain⟨u,rfl,ru⟩:=rv.one
 cases ru
 obtain⟨z,bw,n,r,hl,e⟩:=I.lstM hH
 obtain⟨its2,r2,⟨o,e2,hc,n2,hd⟩,z2⟩:=I.tuple hB
 have hl2:=r2.length
 have hsz:bw.toArray.size+its2.toArray.size<=sizeLine:=by rw[aE,aE];omega
 have hlong:¬ (!bw.toArray.isEmpty&&Builtin.List.listTooLong (bw.toArray.size+its2.toArray.size))=true:=by
  rw[wB hsz,Bool.and_false]
  exact bM
 obtain⟨cls,dd,data,sl⟩:=o
 dsimp only at hc hd
 subst hc hd
 refine lE F.slot_list_extend ⟨_,e,rfl⟩ F.entry_list_extend (F.args_list_extend_2 _ _)
  (wU l bw.toArray n b its2.toArray n2 dd sl hlong (by rw[aE];omega) (by omega)) ⟨e,e2,?_⟩
 refine⟨.non,_,I.lset (its':=bw++its2) hH e (by simp) (r.append r2) ?_,rfl,q⟩
 rw[aI]
 omega
def jl(x:W)(ws:List W)(st:List ai):R W:=match x,ws with
 |.loc n,[.tup ys]=>(match st[n]? with
  |some (.lst zs)=>if zs.length+ys.length<=jh then .ok .non (st.set n (.lst (zs++ys)))else .bad
  |_=>.bad)
 |_,_=>oh x ws st
theorem yN:Lo X "list.extend" jl:=⟨fun pins s σ H x vs v us Q I rv rus ⟨μ,st,wx,ws,S,rx,rs,q⟩=>by
 unfold jl at q
 split at q
 ·rename_i n ys
  obtain⟨y1,rfl,ry⟩:=rs.one
  split at q
  ·rename_i zs e1
   split at q
   ·rename_i c
    obtain⟨a1,g1,vs1,k1,r1⟩:=S.get e1
    obtain⟨b1,f1,rfl⟩:=rx.locE
    rw[g1]at f1;cases f1
    obtain⟨p,vs2,rfl,hS,r2⟩:=ry.tupE
    refine yM pins s σ H _ _ v us Q I rv rus ⟨a1,p,vs1,vs2,rfl,rfl,k1,hS,by rw[<- r1.len,<- r2.len];exact il c,?_⟩
    exact q μ _ _ (ae _) (eG.but fL k1) (S.set e1 g1 k1 (r1.app r2)) .non
   ·exact q.elim
  ·exact q.elim
 ·exact uf.h pins s σ H x vs v us Q I rv rus ⟨μ,st,wx,ws,S,rx,rs,q⟩,fun x ws st=>by
 unfold jl
 split
 ·repeat' split
  all_goals trivial
 ·exact(uf (X:=X)).n x ws st⟩
end
section
variable{a b o:Expr}{fa fb fe fo:FE}{fs:FA}
theorem Dp(xs:List α)(k:Nat)(y:α):((xs.toArray.extract 0 k).push y++xs.toArray.extract k).toList=xs.take k++y::xs.drop k:=by
 simp
 exact b_ (by simp)
def Hb:V->List V->Hp->VK->Prop:=fun x vs H Q=>∃(l:Addr) (xs:List V) (k:Nat) (y:V),x=.ref l/\vs=[.int k,y]/\H l=some (.lst xs)/\k<=xs.length/\xs.length+1<=sizeLine/\k<1000000/\Q .non (dY H l (.lst (xs.take k++y::xs.drop k)))
theorem BB:Q2 X "list.insert" Hb:=by
 intro pins s σ H x vs v us Q I rx rv h
 obtain⟨l,xs,k,y,rfl,rfl,hH,hk,hz,Gc,q⟩:=h
 cases rx
 obtain⟨u,u2,rfl,r1,r2⟩:=b8.two rv
 obtain⟨t,rfl⟩:=r1
 obtain⟨z,bw,n,r,hl,e⟩:=I.lstM hH
 have Ng:¬ (!Builtin.List.listFitsIndex (k:Int))=true:=by
  unfold Builtin.List.listFitsIndex
  simp;omega
 have hsz:bw.toArray.size<=sizeLine:=by rw[aE];omega
 obtain⟨q0,hq0⟩:∃q0:Int,q0=k:=⟨_,rfl⟩
 rw[<- hq0]at Ng ⊢
 have M:=AutoSeq1.list_insert_list_int_val_1 l bw.toArray n q0 t u2 Ng hsz
 refine lE F.slot_list_insert ⟨_,e,rfl⟩ F.entry_list_insert (F.args_list_insert_3 _ _ _) M ⟨e,?_⟩
 refine⟨.non,_,I.lset (its':=bw.take k++u2::bw.drop k) hH e ?_ ((r.take k).append (.cons r2 (r.drop k))) ?_,rfl,q⟩
 ·have h0:¬ (q0<0):=by omega
  have hm:min q0.toNat bw.toArray.size=k:=by rw[aE];omega
  simp only[aD h0,hm]
  apply Array.toList_inj.mp
  rw[Dp]
 ·rw[aI,a9,bu,d9]
  omega
def k_(x:W)(ws:List W)(st:List ai):R W:=match x,ws with
 |.loc n,[.int k,y]=>(match st[n]? with
  |some (.lst zs)=>if 0<=k/\k.toNat<=zs.length/\zs.length<jh/\k<1000000 then .ok .non (st.set n (.lst (zs.take k.toNat++y::zs.drop k.toNat)))else .bad
  |_=>.bad)
 |_,_=>.bad
theorem BC:Lo X "list.insert" k_:=⟨fun pins s σ H x vs v us Q I rv rus ⟨μ,st,wx,ws,S,rx,rs,q⟩=>by
 unfold k_ at q
 split at q
 ·rename_i n k y
  obtain⟨y1,y2,rfl,ry1,ry2⟩:=rs.two
  split at q
  ·rename_i zs e1
   split at q
   ·rename_i cc
    obtain⟨c1,c2,c3,c4⟩:=cc
    obtain⟨k,rfl⟩:=kP c1
    rw[aK]at c2 q
    obtain⟨a1,g1,vs1,k1,r1⟩:=S.get e1
    obtain⟨b1,f1,rfl⟩:=rx.locE
    rw[g1]at f1;cases f1
    have hl:=r1.len
    have hL:vs1.length+1<=sizeLine:=by rw[<- hl];exact il c3
    refine BB pins s σ H _ _ v us Q I rv rus ⟨a1,vs1,k,y2,rfl,by rw[ry1.intE],k1,by omega,hL,by omega,?_⟩
    exact q μ _ _ (ae _) (eG.but fL k1) (S.set e1 g1 k1 ((r1.take k).app (.consI ry2 (r1.drop k)))) .non
   ·exact q.elim
  ·exact q.elim
 ·exact q.elim,fun x ws st=>by
 unfold k_
 repeat' split
 all_goals trivial⟩
end
section
variable{w:World}{g:Array GenState}{d:Drawn}{t:Nat}{os:OsState}
 {nm q:Str} {C N:Addr} {bs bm:List Value} {TJ:Bool} {sn:List Str} {TR:List Value} {ab:Bool} {col:Option Bool} {dd:Option Addr} {k0 k1 k2 k3 k5:Option Value} {Te:String} {K:Frag}
end
section
variable{a:Expr}{fa:FE}
end
section
variable{a:Expr}{fa:FE}{k:Nat}
end
section
end
section
theorem rH(l:List α):∀(k:Nat) (acc:List α),List.foldl (fun x1 x2=>x1++x2) acc.toArray (List.replicate k l.toArray)=(acc++(List.replicate k l).flatten).toArray
 |0,acc=>by simp
 |k+1,acc=>by
  have e:acc.toArray++l.toArray=(acc++l).toArray:=by simp
  rw[List.replicate_succ,List.foldl_cons,e,rH l k (acc++l),List.replicate_succ,List.flatten_cons,aO]
theorem Lr(l:List Nat)(n:Int):Txt.mul (tx l) n=tx (List.replicate n.toNat l).flatten:=by
 unfold Txt.mul
 by_cases h:n<1
 ·rw[aw h,show n.toNat=0 by omega];rfl
 ·rw[aD h]
  split
  ·rename_i hc
   rw[fT,bT,bT,iH]at hc
   rcases hc with rfl|hc
   ·simp
   ·have:l=[]:=kQ.mp hc
    subst this
    simp
  ·have:=rH l n.toNat []
   rw[List.nil_append]at this
   show Str.mk _=Str.mk _
   congr 1
theorem Hc:mN X (binaryOp .Mult) (fun x y H Q=>∃(l:List Nat) (k:Int),x=.str (tx l)/\y=.int k/\-(2^62)<=k/\k<2^62/\l.length*k.toNat<=1000000/\Q (.str (tx (List.replicate k.toNat l).flatten)) H):=by
 intro pins s σ H x y v u Q I rx ry h
 obtain⟨l,k,rfl,rfl,h1,h2,h3,q⟩:=h
 obtain⟨t,rfl⟩:=rx
 obtain⟨t',rfl⟩:=ry
 refine SB.mul ⟨?_,?_,?_⟩ fun t2 tk=>⟨.str _,H,I.tok _,⟨t2,?_⟩,q⟩
 ·simp;omega
 ·intro hk hx
  rw[iH]
  intro hg
  have hk1:1<=k:=by omega
  have:k*((2^63-1)/k)<=2^63-1:=Int.mul_ediv_self_le (by omega)
  have h4:(2^63-1)<k*(l.length:Int):=by
   have:=Int.lt_mul_of_ediv_lt (a:=2^63-1) (b:=(l.length:Int)) (c:=k) (by omega) hg
   rw[Int.mul_comm];exact this
  have h5:k*(l.length:Int)=((l.length*k.toNat:Nat):Int):=by
   rw[lU,Int.toNat_of_nonneg (by omega),Int.mul_comm]
  rw[h5]at h4
  omega
 ·intro hk hx
  rw[iH]
  unfold Builtin.Str.tooLong
  rw[a7]
  have:(1000000:Nat)<=sizeLine:=by decide
  omega
 ·rw[Lr]
def ib:W->W->List ai->R W
 |.int i,.int j,st=>if yE i j then .ok (.int (i*j)) st else .bad
 |.str l,.int k,st=>if -(2^62)<=k/\k<2^62/\l.length*k.toNat<=jh then .ok (.str (List.replicate k.toNat l).flatten) st else .bad
 |_,_,_=>.bad
theorem Ls:re X (binaryOp .Mult) ib:=⟨fun pins s σ H x y v u Q I rv ru ⟨μ,st,wx,wy,S,rx,ry,q⟩=>by
 cases wx with
 |int i=>
  cases wy with
  |int j=>
   have q':Cq X μ H Q (OO (.int i) (.int j) st):=q
   exact OR.h pins s σ H x y v u Q I rv ru ⟨μ,st,.int i,.int j,S,rx,ry,q'⟩
  |_=>exact q.elim
 |str l=>
  cases wy with
  |int k=>
   simp only[ib]at q
   split at q
   ·rename_i cc
    exact Hc pins s σ H x y v u Q I rv ru ⟨l,k,rx.strE,ry.intE,cc.1,cc.2.1,cc.2.2,n_ S q⟩
   ·exact q.elim
  |_=>exact q.elim
 |_=>cases wy<;>exact q.elim,fun x y st=>by
 unfold ib
 repeat' split
 all_goals trivial⟩
end
section
variable{fs:FA}
end
section
variable{w:World}
theorem rJ:∀(l:List Nat) (vs:List Value),vs.length=l.length->(∀(j:Nat) (v:Value),vs[j]?=some v->∃c u,l[j]?=some c/\v=.str (tx [c]) u)->StrsAre vs (l.map fun c=>tx [c])
 |[],[],_,_=>.nil
 |c::l,v::vs,hl,h=>by
  obtain⟨d,u,e,rfl⟩:=h 0 v rfl
  cases e
  exact .cons _ _ (rJ l vs (Nat.succ.inj hl) fun j v hj=>h (j+1) v hj)
 |[],_::_,hl,_=>nomatch hl
 |_::_,[],hl,_=>nomatch hl
theorem wV{t:Tok}(few:l.length<64)(hh:A.handled=none)
  (q:∀(s1:Shared) (g1:Heap) (out:Array Value) (ss:List Str) (e:Nat),(∀b o,s.heap.get? b=some o->s1.heap.get? b=some o)->s1.gens=s.gens->s1.drawn=s.drawn->s1.os=s.os->(∀b o,s1.heap.get? b=some o->g1.get? b=some o)->g1.get? s1.heap.objs.size=some (seqObj "list" out e) ->
   StrsAre out.toList ss->ss.Perm (l.map fun c=>tx [c])->sortedS ss=true->Q (.ref s1.heap.objs.size) { s1 with heap:=g1 }):wpAny (model prog w) A (call (.builtin "sorted") [.str (tx l) t]) Q E s:=by
 have hn:(tx l).cps.size=l.length:=by simp[tx]
 apply jM kind_sorted plain_sorted entry_sorted (args_sorted1 _)
 show wpAny _ _ (checkCount "sorted" 1 1 _ >>= _) _ _ _
 refine af (au (af (wpAny_collect_str (by simpa using hh) _ _ (fun s1 acc kp eg ed eo ha=>?_) (by rw[jT];omega))))
 have vX:StrsAre acc.toList (l.map fun c=>tx [c]):=by
  refine rJ l _ (by rw[fy,ha.1,hn]) fun j v hj=>?_
  obtain⟨c,u,hc,e⟩:=ha.2 j v (by simpa using hj)
  exact⟨c,u,by simpa[tx]using hc,e⟩
 have hvl:acc.toList.length<64:=by rw[fy,ha.1,hn];exact few
 refine af (wpAny_newList ?_ (by rw[jT];omega))
 have oL:(s1.heap.push (seqObj "list" acc.toList.toArray 0)).get? s1.heap.objs.size=some (seqObj "list" acc.toList.toArray 0):=aS _ rfl
 refine af (cv (cZ slot_list_sort ⟨_,oL,rfl⟩ entry_list_sort (list_sort_treeK strKind_oneLt oL vX.keysOf (fun a b r e=>keyKind_strs (by rw[<- e];exact vX)) hvl fun st a1 a2=>⟨_,rfl,?_⟩) (args_list_sort _)))
 obtain⟨ss,h1,h2,h3⟩:=sorted_out_str vX a1 a2
 obtain⟨e,he⟩:=sortedHeap_at (out:=(arrOf st).map (·.2)) oL
 refine au ⟨_,rfl,q s1 _ _ ss e kp eg ed eo (fun b o hb=>?_) he h1 h2 h3⟩
 rw[sortedHeap_old (bt (aF hb)) (by rw[jB];exact f_ (aF hb))]
 exact ao _ hb
end
section
def pE(ws:List W)(st:List ai):R W:=match ws with
 |[.str l]=>if l.length<64 then .ok (.loc st.length) (st++[.lst ((kC (l.map fun c=>[c])).map W.str)])else .bad
 |[.loc n]=>mT [.loc n] st
 |_=>.bad
theorem Hd(hc:X.calm=true:=by rfl):lN X (.builtin "sorted") pE:=⟨fun pins s σ H vs us Q I rv ⟨μ,st,ws,S,r,q⟩=>by
 unfold pE at q
 split at q
 ·rename_i l
  split at q
  ·rename_i c
   obtain⟨y,rfl,ry⟩:=r.one
   have:=ry.strE;subst this
   obtain⟨u,rfl,ru⟩:=lL rv
   obtain⟨t,rfl⟩:=ru
   refine wV c (I.ok.hd hc) fun s1 g1 out ss e kp eg ed eo k1 gL vX hp hsr=>?_
   have es:s1={ s with heap:=s1.heap,toks:=s1.toks }:=by cases s1;cases s;cases eg;cases ed;cases eo;rfl
   generalize s1.heap=g0,s1.toks=tk at es kp k1 gL ⊢
   subst es
   have I2:bj X pins σ H { s with heap:=g0,toks:=tk }:=I.kept2 (d':=s.drawn) fun b o e=>kp b o e
   have qA:H g0.objs.size=none:=I2.hok.fresh (av _)
   have hmap:(ss.map fun z=>z.cps.toList).map tx=ss:=by
    rw[aL]
    have:(tx∘fun z:Str=>z.cps.toList)=id:=funext fun z=>zY z
    rw[this,jW]
   have hperm:(ss.map fun z=>z.cps.toList).Perm (l.map fun c=>[c]):=by
    have e:=hp.map fun z:Str=>z.cps.toList
    rw[aL]at e
    exact e
   have ez:(ss.map fun z=>z.cps.toList)=kC (l.map fun c=>[c]):=ve (rG (by rw[hmap];exact hsr)) (wR _) (hperm.trans (jk _).symm)
   have hvals:b8 ((kC (l.map fun c=>[c])).map fun l=>V.str (tx l)) out.toList:=by
    have e:=nF vX
    rw[<- hmap,ez,aL]at e
    exact e
   refine⟨.ref g0.objs.size,_,I2.laid (o:=.lst ((kC (l.map fun c=>[c])).map fun l=>V.str (tx l))) (t':=tk) k1 (av _) ⟨?_,out.toList,e,hvals,gL⟩,rfl,?_⟩
   ·rw[aj,(jk _).length_eq,aj]
    exact be (cV c) (by decide)
   ·exact q (μ++[g0.objs.size]) _ _ (ar _ _) (eG.same (cf qA _)) (S.newLst qA (wS _)) (mq S)
  ·exact q.elim
 ·exact wT.h pins s σ H _ us Q I rv ⟨μ,st,_,S,r,q⟩
 ·exact q.elim,fun ws st=>by
 unfold pE
 split
 ·split<;>trivial
 ·exact(wT (X:=X)).n _ _
 ·trivial⟩
end
def nr(a b k:Int):Nat:=if a<b then((b-a-1)/k+1).toNat else 0
theorem uj{a b k:Int}(hk:0<k):Builtin.Range.rangeSize a b k=(nr a b k:Int):=by
 unfold Builtin.Range.rangeSize nr
 rw[aw hk]
 split
 ·have:=Int.ediv_nonneg (a:=b-a-1) (b:=k) (by omega) (by omega)
  omega
 ·rfl
theorem He{a b k:Int}(hk:0<k)(h:a<b):(b-a-1)/k<=b-a-1:=Int.ediv_le_self _ (by omega)
theorem yO{a b k:Int}(h1:-(2^60)<=a)(h2:a<2^60)(h3:-(2^60)<=b)(h4:b<2^60)(hk:0<k)(Gc:k<=1000):Builtin.Range.small a b k=true:=by
 unfold Builtin.Range.small
 rw[uj hk]
 simp only[Builtin.Range.rangeFitsLong,bf,fT,decide_eq_true_eq,bT,aw hk]
 unfold nr
 split
 ·have:=He hk (by assumption)
  have:=Int.ediv_nonneg (a:=b-a-1) (b:=k) (by omega) (by omega)
  have:=Int.ediv_mul_le (a:=b-a-1) (b:=k) (by omega)
  omega
 ·omega
def uk(i k:Int)(n:Nat):List V:=(List.range n).map fun m:Nat=>V.int (i+m*k)
def Pa(ta:TA):TI:=fun σ H R=>ta σ H fun vs H1=>∃i j k:Int,vs=[.int i,.int j,.int k]/\(-(2^60)<=i/\i<2^60/\-(2^60)<=j/\j<2^60/\0<k/\k<=1000)/\R (Q3 (uk i k (nr i j k))) H1
theorem vf{tg a b:Expr}{ta:TA}{p pos:Pos}(hm:X.mg "range"=none)(ha:QA X [a,b,c] ta)(hg:Gl X "range":=by rfl)(hs:starEach [a,b,c] X.env=(false,eval a X.env)::starEach [b,c] X.env:=by rfl)
  (AR:(backTo pos (starEach [b,c] X.env)).any (·.1)=false:=by rfl):QI X tg (.Call (.Name "range" p) [a,b,c] [] pos) (Pa ta):=⟨by
 intro pins s σ H R I h
 refine Call_ (me I hg hm boot_range (c_ (fI (ha.h pos pins s σ H _ I h) fun us s1 ⟨vs,H1,I1,r1,q1⟩=>?_) hs AR))
 obtain⟨i,j,k,e,⟨b1,b2,b3,b4,b5,b6⟩,q⟩:=q1
 subst e
 cases r1 with
 |cons x1 r1=>cases r1 with
  |cons x2 r1=>cases r1 with
   |cons x3 r1=>
    cases r1
    obtain⟨t1,rfl⟩:=x1
    obtain⟨t2,rfl⟩:=x2
    obtain⟨t3,rfl⟩:=x3
    refine call_range_3 (by omega) ?_ (Or.inl (lB (by omega)))
    refine wpAny_pyIter_range (IsRange.new ..) (yO b1 b2 b3 b4 b5 b6) ?_
    generalize hN:nr i j k=n at q
    have hl:(uk i k n).length=n:=by unfold uk;simp
    have I2:bj X pins σ H1 { s1 with heap:=s1.heap.push { cls:=.type "range",data:=.fields #[.int i t1,.int j t2,.int k t3] },toks:=s1.toks }:=I1.kept fun b o e=>ao _ e
    refine⟨(s1.heap.push { cls:=.type "range",data:=.fields #[.int i t1,.int j t2,.int k t3] }).objs.size,[(s1.heap.push { cls:=.type "range",data:=.fields #[.int i t1,.int j t2,.int k t3] }).objs.size],_,_,H1,rfl,
     I2.kept (t':=s1.toks) fun b o e=>ao _ e,qZ (ty:="range_iterator") (fun A hA=>by rw[hl];exact Walks.range hA _ i k n) (fun m v hk hp=>?_) (fun k h st=>⟨_,_,st,rfl,rfl⟩) (by decide) (fun A k s Q E st h=>lA st h),⟨cM _,?_⟩,fun b hb=>?_,q⟩
    ·obtain⟨t,rfl⟩:=hp
     rw[hl]at hk
     refine⟨.int (i+m*k),?_,t,rfl⟩
     unfold uk
     rw[al,bZ hk]
     rfl
    ·have e1:i+((0:Nat):Int)*k=i:=by simp
     have e2:((n:Nat):Int)-((0:Nat):Int)=Builtin.Range.rangeSize i j k:=by rw[uj b5,hN];simp
     rw[e1,e2]
     exact aS _ rfl
    ·have e:b=(s1.heap.push { cls:=.type "range",data:=.fields #[.int i t1,.int j t2,.int k t3] }).objs.size:=by simpa using hb
     subst e
     exact I2.fpOk (av _) (I2.hok.fresh (av _))⟩
section
variable{a b:Expr}{fs:FA}
def p9(i k:Int)(n:Nat):List W:=(List.range n).map fun m:Nat=>W.int (i+m*k)
theorem Dq(i k:Int)(n:Nat)(μ:List Addr)(H:Hp):RelWs X.K μ H (p9 i k n) (uk i k n):=by
 unfold p9 uk
 induction (List.range n)with
 |nil=>exact .nilI
 |cons a r ih=>exact .consI .int ih
def vg(fs:FA):FI:=fun ρ st=>(fs ρ st).bind fun ws st=>match ws with
 |[.int i,.int j,.int k]=>if -(2^60)<=i/\i<2^60/\-(2^60)<=j/\j<2^60/\0<k/\k<=1000 then .ok (p9 i k (nr i j k),none) st else .bad
 |_=>.bad
theorem Hf(hm:X.mg "range"=none)(ha:SA X [a,b,c] fs)(hg:Gl X "range":=by rfl)(hs:starEach [a,b,c] X.env=(false,eval a X.env)::starEach [b,c] X.env:=by rfl)(oU:(backTo pos (starEach [b,c] X.env)).any (·.1)=false:=by rfl) :
  SI X tg (.Call (.Name "range" p) [a,b,c] [] pos) (vg fs):=⟨(vf hm ⟨ha.h⟩ hg hs oU).h.imp fun σ H R h=>by
 obtain⟨μ,ρ,st,l,h⟩:=h
 refine⟨μ,ρ,st,l,RK.bind h l fun μ1 st1 x v H1 p1 x1 l1 q1 h1=>?_⟩
 split at h1
 ·rename_i i j k
  obtain⟨y,ys,rfl,ry,r1⟩:=q1.consE
  obtain⟨z,zs,rfl,rz,r2⟩:=r1.consE
  obtain⟨w,rfl,jL⟩:=r2.one
  split at h1
  ·rename_i cc
   exact⟨_,_,_,by rw[ry.intE,rz.intE,jL.intE],cc,h1 μ1 _ H1 (ae _) c9.refl l1.sto (uh (Dq _ _ _))⟩
  ·exact h1.elim
 ·exact h1.elim⟩
end
section
variable{fi:FI}{f:FG}{t:FT}{el:FE}
end
section
variable{w:World}
variable{z P O i j:Addr}{xs ys:Array Value}{x y v:Value}
end
open AutoSeq1 (wpAny_loadPart')
section
variable{w:World}
end
section
variable{a b:Expr}{fs:FA}
end
open Builtin.Str (tooLong)
section
variable{w:World}
end
section
end
section
def fQ:List W->Option (List Int)
 |[]=>some []
 |.int z::ws=>(fQ ws).map (z :: ·)
 |_=>none
theorem mC:∀{ws:List W} {l:List Int} {vs:List V},fQ ws=some l->RelWs K μ H ws vs->vs=l.map V.int
 |[],l,vs,h,r=>by simp only[fQ]at h;cases h;exact r.nilE
 |w::ws,l,vs,h,r=>by
  obtain⟨x,xs,rfl,rx,rs⟩:=r.consE
  unfold fQ at h
  split at h
  ·rename_i e;cases e
  ·rename_i z QM e
   cases e
   cases e2:fQ ws with
   |none=>rw[e2]at h;cases h
   |some l'=>rw[e2]at h;cases h;rw[rx.intE,mC e2 rs];rfl
  ·cases h
end
section
end
abbrev Pc:=List W×List (Nat×List W)
abbrev To:=bY->List ai->R Pc
section
variable{fi:To}{f:FG}{t:FT}{el:FE}
end
section
variable{a b:Expr}{fs:FA}
end
section
end
section
variable{wi:TI}{g:TG}{te:Cx->TE}
end
section
variable{fi:FI}{f:FG}{el:FE}
end
theorem DK.key_inj{a b:DK}:a.key=b.key↔a=b:=by
 cases a<;>cases b<;>simp[DK.key,CV]
def DK.w:DK->W
 |.i z=>.int z
 |.s l=>.str l
def ie:W->Option DK
 |.int z=>some (.i z)
 |.str l=>some (.s l)
 |_=>none
theorem mU{w:W}{k:DK}(h:ie w=some k)(r:bb K μ H w v):v=kV k.key:=by
 cases w with
 |int z=>cases h;exact r.intE
 |str l=>cases h;exact r.strE
 |_=>cases h
theorem DK.w_rel(k:DK):bb K μ H k.w (kV k.key):=by
 cases k with
 |i z=>exact .int
 |s l=>exact .str
def iB(kvs:List (DK×W))(k:DK):Option W:=(kvs.find? fun p=>decide (p.1=k)).map fun p=>p.2
def rK(kvs:List (DK×W))(k:DK)(v:W):List (DK×W):=if (kvs.any fun p=>decide (p.1=k))=true then kvs.map fun p=>if p.1=k then(p.1,v)else p else kvs++[(k,v)]
def jm(kvs:List (DK×W))(k:DK):List (DK×W):=kvs.filter fun p=>decide (p.1≠k)
abbrev dV(kvs:List (DK×W))(vs:List V):List (fK×V):=(kvs.map fun p=>p.1.key).zip vs
section
theorem pF:∀{kvs:List (DK×W)} {vs:List V} (k:DK),RelWs K μ H (kvs.map fun p=>p.2) vs->(∃w v,iB kvs k=some w/\jg (dV kvs vs) k.key=some v/\bb K μ H w v)\/(iB kvs k=none/\jg (dV kvs vs) k.key=none)
 |[],vs,k,r=>.inr ⟨rfl,rfl⟩
 |p::kvs,vs,k,r=>by
  obtain⟨x,xs,rfl,a,b⟩:=RelWs.consE r
  have ih:=pF (kvs:=kvs) k b
  by_cases h:p.1=k
  ·refine .inl ⟨p.2,x,?_,?_,a⟩
   ·unfold iB;rw[bz];simp[h]
   ·show jg ((p.1.key,x)::dV kvs xs) k.key=some x
    exact mf (by rw[h])
  ·have e1:iB (p::kvs) k=iB kvs k:=by unfold iB;rw[bz];simp[h]
   have e2:jg (dV (p::kvs) (x::xs)) k.key=jg (dV kvs xs) k.key:=nY (p:=(p.1.key,x)) fun z=>h (DK.key_inj.mp z)
   rw[e1,e2];exact ih
theorem Dr:∀{kvs:List (DK×W)} {vs:List V} (k:DK),RelWs K μ H (kvs.map fun p=>p.2) vs->((dV kvs vs).any fun kv=>decide (kv.1=k.key))=(kvs.any fun p=>decide (p.1=k))
 |[],vs,k,r=>rfl
 |p::kvs,vs,k,r=>by
  obtain⟨x,xs,rfl,a,b⟩:=RelWs.consE r
  show(decide (p.1.key=k.key)||(dV kvs xs).any _)=(decide (p.1=k)||kvs.any _)
  rw[Dr k b]
  congr 1
  rw[decide_eq_decide];exact DK.key_inj
theorem Ds{k:DK}{w:W}:∀{kvs:List (DK×W)} {vs:List V},RelWs K μ H (kvs.map fun p=>p.2) vs->bb K μ H w v->∃us,(dV kvs vs).map (fun kv=>if kv.1=k.key then(kv.1,v)else kv)=dV (kvs.map fun p=>if p.1=k then(p.1,w)else p) us/\RelWs K μ H ((kvs.map fun p=>if p.1=k then(p.1,w)else p).map fun p=>p.2) us
 |[],vs,r,jL=>⟨[],rfl,.nilI⟩
 |p::kvs,vs,r,jL=>by
  obtain⟨x,xs,rfl,a,b⟩:=RelWs.consE r
  obtain⟨us,e,q⟩:=Ds (k:=k) b jL
  by_cases h:p.1=k
  ·refine⟨v::us,?_,?_⟩
   ·show(if p.1.key=k.key then(p.1.key,v)else(p.1.key,x))::(dV kvs xs).map _=_
    rw[aw (by rw[h]),e,aC,aw h];rfl
   ·rw[aC,aw h];exact .consI jL q
  ·refine⟨x::us,?_,?_⟩
   ·show(if p.1.key=k.key then(p.1.key,v)else(p.1.key,x))::(dV kvs xs).map _=_
    rw[aD (fun z=>h (DK.key_inj.mp z)),e,aC,aD h];rfl
   ·rw[aC,aD h];exact .consI a q
theorem Dt{kvs:List (DK×W)}{k:DK}{w:W}(r:RelWs K μ H (kvs.map fun p=>p.2) vs)(jL:bb K μ H w v):∃us,lY (dV kvs vs) k.key v=dV (rK kvs k w) us/\RelWs K μ H ((rK kvs k w).map fun p=>p.2) us:=by
 unfold lY rK
 rw[Dr k r]
 by_cases h:(kvs.any fun p=>decide (p.1=k))=true
 ·rw[aw h,aw h]
  exact Ds r jL
 ·rw[aD h,aD h]
  refine⟨vs++[v],?_,?_⟩
  ·unfold dV
   rw[cG,List.zip_append (by rw[aj,<- r.len,aj])];rfl
  ·rw[cG];exact r.app (.consI jL .nilI)
theorem Ab{k:DK}:∀{kvs:List (DK×W)} {vs:List V},RelWs K μ H (kvs.map fun p=>p.2) vs->∃us,lM (dV kvs vs) k.key=dV (jm kvs k) us/\RelWs K μ H ((jm kvs k).map fun p=>p.2) us
 |[],vs,r=>⟨[],rfl,.nilI⟩
 |p::kvs,vs,r=>by
  obtain⟨x,xs,rfl,a,b⟩:=RelWs.consE r
  obtain⟨us,e,q⟩:=Ab (k:=k) b
  by_cases h:p.1=k
  ·refine⟨us,?_,?_⟩
   ·have e1:jm (p::kvs) k=jm kvs k:=by unfold jm;rw[cJ];simp[h]
    rw[e1]
    exact(Bh (p:=(p.1.key,x)) (by rw[h])).trans e
   ·have e1:jm (p::kvs) k=jm kvs k:=by unfold jm;rw[cJ];simp[h]
    rw[e1];exact q
  ·have e1:jm (p::kvs) k=p::jm kvs k:=by unfold jm;rw[cJ];simp[h]
   refine⟨x::us,?_,?_⟩
   ·rw[e1]
    exact(Bi (p:=(p.1.key,x)) fun z=>h (DK.key_inj.mp z)).trans (cC (List.cons (p.1.key,x)) e)
   ·rw[e1];exact .consI a q
theorem pG{kvs:List (DK×W)}(r:RelWs K μ H (kvs.map fun p=>p.2) vs):(dV kvs vs).length=kvs.length:=by
 unfold dV;rw[List.length_zip,aj,<- r.len,aj,Nat.min_self]
theorem eG.butD{l:Addr}{xs:List (fK×V)}(e:Ov l H H')(hl:H l=some (.dK xs)):c9 K H H':=by
 have lx:∀{p:Addr} {o:HO},H p=some o->(∀zs,o≠.dK zs)->p≠l:=fun{p o} q hn z=>by subst z;rw[hl]at q;cases q;exact hn _ rfl
 refine⟨fun p ys h=>?_,fun b o u h=>e _ _ (lx h (fun _ z=>by cases z)) h⟩
 rcases h with(h|⟨o,h⟩)|h
 ·exact .inl (.inl (e _ _ (lx h (fun _ z=>by cases z)) h))
 ·exact .inl (.inr ⟨o,e _ _ (lx h (fun _ z=>by cases z)) h⟩)
 ·exact .inr h
end
theorem fG.setD{st:List ai}(S:fG K mg μ st H){kvs Nj:List (DK×W)}{xs:List (fK×V)}{us:List V}(hn:st[n]?=some (.dct kvs))(hm:μ[n]?=some a)(ha:H a=some (.dK xs))(hr:RelWs K μ H (Nj.map fun p=>p.2) us) :
  fG K mg μ (st.set n (.dct Nj)) (dY H a (.dK (dV Nj us))):=
 S.setG hn rfl hm ha (fun _ _ z=>by cases z) (fun _ z=>by cases z) (eG.butD fL ha) rfl ⟨us,df,hr.mono (ae _) (eG.butD fL ha)⟩
def ga(st:List ai):W->Option (Nat×List (DK×W))
 |.loc n=>(match st[n]? with
  |some (.dct kvs)=>some (n,kvs)
  |some (.rod kvs)=>some (n,kvs)
  |_=>none)
 |_=>none
def qv(st:List ai):W->Option (Nat×List (DK×W))
 |.loc n=>(match st[n]? with
  |some (.dct kvs)=>some (n,kvs)
  |_=>none)
 |_=>none
theorem jn{st:List ai}(S:fG K mg μ st H){x:W}{kvs:List (DK×W)}(h:ga st x=some (n,kvs))(r:bb K μ H x v) :
  ∃a vs,(st[n]?=some (.dct kvs)\/st[n]?=some (.rod kvs))/\μ[n]?=some a/\v=.ref a/\Rd H a (.dK (dV kvs vs))/\RelWs K μ H (kvs.map fun p=>p.2) vs:=by
 cases x with
 |loc m=>
  simp only[ga]at h
  cases e:st[m]? with
  |none=>rw[e]at h;cases h
  |some c=>
   rw[e]at h
   cases c with
   |dct z=>
    cases h
    obtain⟨a,g,vs,k,rr⟩:=S.get e
    obtain⟨b,f,rfl⟩:=r.locE
    rw[g]at f;cases f
    exact⟨a,vs,.inl e,g,rfl,.inl k,rr⟩
   |rod z=>
    cases h
    obtain⟨a,g,vs,o,k,rr⟩:=S.get e
    obtain⟨b,f,rfl⟩:=r.locE
    rw[g]at f;cases f
    exact⟨a,vs,.inr e,g,rfl,.inr ⟨o,k⟩,rr⟩
   |_=>cases h
 |_=>cases h
theorem qE{st:List ai}(S:fG K mg μ st H){x:W}{kvs:List (DK×W)}(h:qv st x=some (n,kvs))(r:bb K μ H x v) :
  ∃a vs,st[n]?=some (.dct kvs)/\μ[n]?=some a/\v=.ref a/\H a=some (.dK (dV kvs vs))/\RelWs K μ H (kvs.map fun p=>p.2) vs:=by
 cases x with
 |loc m=>
  simp only[qv]at h
  cases e:st[m]? with
  |none=>rw[e]at h;cases h
  |some c=>
   rw[e]at h
   cases c with
   |dct z=>
    cases h
    obtain⟨a,g,vs,k,rr⟩:=S.get e
    obtain⟨b,f,rfl⟩:=r.locE
    rw[g]at f;cases f
    exact⟨a,vs,e,g,rfl,k,rr⟩
   |_=>cases h
 |_=>cases h
theorem qo.r{kvs:List (fK×V)}{k:fK}(e:Rd H a (.dK kvs)):qo H a (kV k) (jg kvs k):=.inl ⟨kvs,k,e,rfl,rfl⟩
section
variable{a b d o i:Expr}{fa fb fc fe fo fi:FE}{fs:FA}
def vh(FQ:Bool)(x y:W)(st:List ai):R W:=match ga st y with
 |some (_,kvs)=>(match ie x with
  |some k=>.ok (.bl (if FQ then !(iB kvs k).isSome else(iB kvs k).isSome)) st
  |none=>.bad)
 |none=>Bt FQ x y st
theorem BD{kvs:List (DK×W)}{k:DK}(r:RelWs K μ H (kvs.map fun p=>p.2) vs):(jg (dV kvs vs) k.key).isSome=(iB kvs k).isSome:=by
 rcases pF k r with⟨w,v,e1,e2,_⟩|⟨e1,e2⟩<;>rw[e1,e2]<;>rfl
theorem wW(hr:f' kk X.A)(ho:re X (compareOp .NotIn) (Bt true)):re X (compareOp .NotIn) (vh true):=⟨fun pins s σ H x y v u Q I rv ru ⟨μ,st,wx,wy,S,rx,ry,q⟩=>by
 unfold vh at q
 cases e:ga st wy with
 |none=>rw[e]at q;exact ho.h pins s σ H x y v u Q I rv ru ⟨μ,st,wx,wy,S,rx,ry,q⟩
 |some nk=>
  obtain⟨n,kvs⟩:=nk
  rw[e]at q
  cases ek:ie wx with
  |none=>simp only[ek]at q;exact q.elim
  |some k=>
   simp only[ek]at q
   obtain⟨a,vs,_,_,rfl,ha,r⟩:=jn S e ry
   have:=mU ek rx
   subst this
   obtain rfl:u=Value.ref a:=ru
   refine GH (zR hr) I (qo.r ha) rv fun s' I'=>?_
   rw[BD r]
   exact⟨.bl _,H,I',rfl,j4 S q⟩,fun x y st=>by
 unfold vh
 split
 ·split<;>trivial
 ·exact ho.n x y st⟩
def kE(x y:W)(st:List ai):R W:=match ga st x,ie y with
 |some (_,kvs),some k=>pf (iB kvs k) fun w=>.ok w st
 |_,_=>.bad
theorem Du(hr:f' kk X.A)(ha:SE X a fa)(hb:SE X b fb)(hs:CN b:=by intro _ _;rfl):SE X (.Subscript a b pos) (e2 kE fa fb):=⟨(GI (zR hr) ha.h hb.h hs).imp fun σ H Q h=>by
 obtain⟨μ,ρ,st,l,h⟩:=h
 refine⟨μ,ρ,st,l,RK.bind h l fun μ1 st1 x v H1 p1 x1 l1 q1 h1=>⟨μ1,ρ,st1,l1,RK.bind h1 l1 fun μ2 cH y u H2 p2 x2 l2 q2 h2=>?_⟩⟩
 unfold kE at h2
 cases e1:ga cH x with
 |none=>rw[e1]at h2;exact h2.elim
 |some nk=>
  obtain⟨n,kvs⟩:=nk
  cases e2:ie y with
  |none=>rw[e1,e2]at h2;exact h2.elim
  |some k=>
   rw[e1,e2]at h2
   simp only at h2
   obtain⟨a,vs,_,_,rfl,ha,r⟩:=jn l2.sto e1 (q1.mono p2 x2)
   have:=mU e2 q2
   subst this
   rcases pF k r with⟨w,z,g1,g2,g3⟩|⟨g1,g2⟩
   ·rw[g1]at h2
    exact⟨a,z,rfl,by rw[<- g2];exact qo.r ha,h2 μ2 z H2 (ae _) c9.refl l2.sto g3⟩
   ·rw[g1]at h2;exact h2.elim⟩
def jo(x i v:W)(st:List ai):Option (List ai):=match qv st x,ie i with
 |some (n,kvs),some k=>if kvs.length<jh then some (st.set n (.dct (rK kvs k v)))else none
 |_,_=>none
theorem Dv(hr:f' kk X.A):A1 X (Dh X jo):=fun pins s σ H o i v ov iv u Q I r1 r2 r3 ⟨μ,st,wo,wi,wv,bv,S,ro,ri,rv,e,q⟩=>by
 unfold jo at e
 cases e1:qv st wo with
 |none=>rw[e1]at e;cases e
 |some nk=>
  obtain⟨n,kvs⟩:=nk
  cases e2:ie wi with
  |none=>rw[e1,e2]at e;cases e
  |some k=>
   rw[e1,e2]at e
   simp only at e
   split at e
   ·rename_i hl
    cases e
    obtain⟨a,vs,hn,hm,rfl,ha,r⟩:=qE S e1 ro
    have:=mU e2 ri
    subst this
    obtain rfl:ov=Value.ref a:=r1
    obtain⟨us,g1,g2⟩:=Dt (k:=k) r rv
    refine Bg (zR hr) I (GG.k ha (by rw[pG r];exact aW hl (by decide))) r2 r3 fun s' I'=>⟨_,I',?_⟩
    rw[g1]
    exact q _ (eG.butD fL ha) (S.setD hn hm ha g2)
   ·cases e
def rL(ws:List W)(st:List ai):R W:=match ws with
 |[x]=>(match ga st x with
  |some (_,kvs)=>.ok (.int kvs.length) st
  |none=>cQ ws st)
 |_=>cQ ws st
theorem Lu:lN X (.builtin "len") rL:=⟨fun pins s σ H vs us Q I rv ⟨μ,st,ws,S,r,q⟩=>by
 unfold rL at q
 split at q
 ·rename_i x
  split at q
  ·rename_i n kvs e
   obtain⟨y,rfl,ry⟩:=r.one
   obtain⟨a,vs,_,_,rfl,ha,rr⟩:=jn S e ry
   obtain⟨u,rfl,ru⟩:=lL rv
   obtain rfl:u=Value.ref a:=ru
   refine Op I ha fun t s' I'=>⟨.int kvs.length,H,I',⟨t,by rw[pG rr]⟩,?_⟩
   exact q μ _ H (ae _) c9.refl S .int
  ·exact mv.h pins s σ H _ us Q I rv ⟨μ,st,_,S,r,q⟩
 ·exact mv.h pins s σ H _ us Q I rv ⟨μ,st,_,S,r,q⟩,fun ws st=>by
 unfold rL
 split
 ·split
  ·trivial
  ·exact(mv (X:=X)).n _ _
 ·exact(mv (X:=X)).n _ _⟩
def oq:FE:=fun _ st=>.ok (.loc st.length) (st++[.dct []])
theorem Dw:SE X (.Dict [] [] pos) oq:=⟨CO.imp fun σ H Q h=>by
 obtain⟨μ,ρ,st,l,h⟩:=h
 intro p hp
 have hs:m9 H (dY H p (.dK [])):=cf hp _
 exact h (μ++[p]) (.ref p) _ (ar _ _) (eG.same hs) (l.sto.push (c:=.dct []) hp ⟨[],df,.nilI⟩) (mq l.sto)⟩
abbrev FP:=bY->List ai->R (List (W×W))
def Ac:FP:=fun _ st=>.ok [] st
def vi(fk fv:FE)(fr:FP):FP:=fun ρ st=>(fk ρ st).bind fun k st=>(fv ρ st).bind fun v st=>(fr ρ st).bind fun ps st=>.ok ((k,v)::ps) st
abbrev R7(X:Cx):List Addr->Hp->List (W×W)->List (V×V)->Prop:=fun μ H ws vs=>RelWs X.K μ H (ws.map fun p=>p.1) (vs.map fun p=>p.1)/\RelWs X.K μ H (ws.map fun p=>p.2) (vs.map fun p=>p.2)
structure Q7(X:Cx)(pos:Pos)(keys:List (Option Expr))(jx:List Expr)(f:FP):Prop where
 h:∃zv,Os X pos keys jx zv/\∀σ H Q,tG X (R7 X) f σ H Q->u0 zv σ H Q
theorem Lv:Q7 X pos [] [] Ac:=⟨[],GJ,fun σ H Q h=>by
 obtain⟨μ,ρ,st,l,h⟩:=h
 exact h μ [] H (ae _) c9.refl l.sto ⟨.nilI,.nilI⟩⟩
theorem Hg{k v:Expr}{fk fv:FE}{fr:FP}{vs:List Expr}(hk:SE X k fk)(hv:SE X v fv)(hr:Q7 X pos ks vs fr):Q7 X pos (some k::ks) (v::vs) (vi fk fv fr):=by
 obtain⟨zv,h1,h2⟩:=hr.h
 refine⟨(tE X fk,tE X fv)::zv,CP hk.h hv.h h1,fun σ H Q h=>?_⟩
 obtain⟨μ,ρ,st,l,h⟩:=h
 refine⟨μ,ρ,st,l,RK.bind h l fun μ1 st1 x1 v1 H1 p1 e1 l1 q1 h1=>⟨μ1,ρ,st1,l1,RK.bind h1 l1 fun μ2 cH x2 v2 H2 p2 e2 l2 q2 h2'=>h2 _ _ _ ⟨μ2,ρ,cH,l2,RK.bind h2' l2 fun μ3 iy x3 v3 H3 p3 e3 l3 q3 h3=>?_⟩⟩⟩
 exact h3 μ3 _ H3 (ae _) c9.refl l3.sto ⟨.consI (q1.mono (p2.trans p3) (e2.trans e3)) q3.1,.consI (q2.mono p3 e3) q3.2⟩
def keysOf:List (W×W)->Option (List (DK×W))
 |[]=>some []
 |(k,v)::r=>match ie k,keysOf r with
  |some k,some r=>some ((k,v)::r)
  |_,_=>none
theorem ul:∀{ps:List (W×W)} {kvs:List (DK×W)} {vs:List (V×V)},keysOf ps=some kvs->RelWs K μ H (ps.map fun p=>p.1) (vs.map fun p=>p.1)->RelWs K μ H (ps.map fun p=>p.2) (vs.map fun p=>p.2) ->
  ∃us,vs=(dV kvs us).map (fun kv=>(kV kv.1,kv.2))/\RelWs K μ H (kvs.map fun p=>p.2) us
 |[],kvs,vs,h,r1,r2=>by
  cases h
  have:vs=[]:=by simpa using r1.nilE
  subst this
  exact⟨[],rfl,.nilI⟩
 |(k,v)::r,kvs,vs,h,r1,r2=>by
  unfold keysOf at h
  cases e1:ie k with
  |none=>rw[e1]at h;cases h
  |some k'=>
   cases e2:keysOf r with
   |none=>rw[e1,e2]at h;cases h
   |some r'=>
    rw[e1,e2]at h
    cases h
    cases vs with
    |nil=>obtain⟨_,_,z,_⟩:=r1.consE;cases z
    |cons q vs=>
     obtain⟨x,xs,z,a1,b1⟩:=r1.consE
     cases z
     obtain⟨x,xs,z,a2,b2⟩:=r2.consE
     cases z
     obtain⟨us,f1,f2⟩:=ul e2 b1 b2
     refine⟨q.2::us,?_,.consI a2 f2⟩
     obtain⟨q1,q2⟩:=q
     show(q1,q2)::vs=(kV k'.key,q2)::_
     rw[f1,show q1=kV k'.key from mU e1 a1]
     rfl
def yP(acc kvs:List (DK×W)):List (DK×W):=kvs.foldl (fun acc p=>rK acc p.1 p.2) acc
theorem wX:∀{kvs acc:List (DK×W)} {vs us:List V},RelWs K μ H (kvs.map fun p=>p.2) vs->RelWs K μ H (acc.map fun p=>p.2) us->∃zs,mj (dV acc us) (dV kvs vs)=dV (yP acc kvs) zs/\RelWs K μ H ((yP acc kvs).map fun p=>p.2) zs
 |[],acc,vs,us,r1,r2=>⟨us,rfl,r2⟩
 |p::kvs,acc,vs,us,r1,r2=>by
  obtain⟨x,xs,rfl,a,b⟩:=RelWs.consE r1
  obtain⟨zs,e,q⟩:=Dt (k:=p.1) r2 a
  obtain⟨ys,e2,q2⟩:=wX b q
  refine⟨ys,?_,q2⟩
  show mj (lY (dV acc us) p.1.key x) (dV kvs xs)=_
  rw[e,e2];rfl
def Ad(f:FP):FE:=fun ρ st=>(f ρ (st++[.dct []])).bind fun ps cH=>match cH[st.length]?,keysOf ps with
 |some (.dct []),some kvs=>if kvs.length<=15 then .ok (.loc st.length) (cH.set st.length (.dct (yP [] kvs)))else .bad
 |_,_=>.bad
theorem Lw{keys:List (Option Expr)}{jx:List Expr}{f:FP}(h:Q7 X pos keys jx f)(lZ:keys.all (·.isSome)=true:=by rfl)(hl:keys.length=jx.length:=by rfl)(h0:keys≠[]:=by intro z;cases z)(Sg:keys.length<=15:=by decide) :
  SE X (.Dict keys jx pos) (Ad f):=by
 obtain⟨zv,h1,h2⟩:=h.h
 refine⟨(GK h1 lZ hl h0 Sg).imp fun σ H Q hh=>?_⟩
 obtain⟨μ,ρ,st,l,hh⟩:=hh
 intro p hp
 have hs:m9 H (dY H p (.dK [])):=cf hp _
 have S0:fG X.K X.mg (μ++[p]) (st++[.dct []]) (dY H p (.dK [])):=l.sto.push (c:=.dct []) hp ⟨[],df,.nilI⟩
 have l0:Rl X (μ++[p]) ρ (st++[.dct []]) σ (dY H p (.dK [])):=l.to (ar _ _) (eG.same hs) S0
 refine h2 σ _ _ ⟨μ++[p],ρ,st++[.dct []],l0,RK.bind (RK.mono hh (ar _ _) (eG.same hs)) l0 fun μ2 cH ps vs H2 p2 e2 l2 q2 h2'=>?_⟩
 have hm:μ2[st.length]?=some p:=L2.pre_get p2 (by rw[l.sto.len];simp)
 split at h2'
 ·rename_i kvs ec ek
  split at h2'
  ·rename_i hle
   obtain⟨us,f1,f2⟩:=ul ek q2.1 q2.2
   have hd:H2 p=some (.dK []):=by
    obtain⟨a,g,vs0,k,_⟩:=l2.sto.get ec
    rw[hm]at g;cases g
    exact k
   obtain⟨zs,g1,g2⟩:=wX (acc:=[]) (us:=[]) f2 .nilI
   have dH:(dV kvs us).length=kvs.length:=pG f2
   refine⟨hd,dV kvs us,f1,by rw[dH];exact hle,?_⟩
   rw[show mj ([]:List (fK×V)) (dV kvs us)=_ from g1]
   exact h2' μ2 (.ref p) _ (ae _) (eG.butD fL hd) (l2.sto.setD ec hm hd g2) (.locI hm)
  ·exact h2'.elim
 ·exact h2'.elim
def Ae(fo fk:FE):FE:=fun ρ st=>(fo ρ st).bind fun x st=>match qv st x with
 |some _=>(fk ρ st).bind fun y st=>(match qv st x,ie y with
  |some (n,kvs),some k=>pf (iB kvs k) fun w=>.ok w (st.set n (.dct (jm kvs k)))
  |_,_=>.bad)
 |none=>.bad
theorem Lx(ho:SE X o fo)(he:SE X e fe)(m:M1 X o "pop" fq e cX:=by exact⟨by rfl,by rfl,by rfl,by rfl⟩):SE X (.Call (.Attribute o "pop" fq) [e] [] cX) (Ae fo fe):=⟨(CU ho.h he.h m).imp fun σ H Q h=>by
 obtain⟨μ,ρ,st,l,h⟩:=h
 refine⟨μ,ρ,st,l,RK.bind h l fun μ1 st1 x v H1 p1 x1 l1 q1 h1=>?_⟩
 cases e0:qv st1 x with
 |none=>rw[e0]at h1;exact h1.elim
 |some nk0=>
  obtain⟨n0,kvs0⟩:=nk0
  rw[e0]at h1
  simp only at h1
  obtain⟨a0,vs0,_,hm0,rfl,ha0,_⟩:=qE l1.sto e0 q1
  refine⟨a0,rfl,.inl ⟨_,.inl ha0⟩,μ1,ρ,st1,l1,RK.bind h1 l1 fun μ2 cH y u H2 p2 x2 l2 q2 h2=>?_⟩
  cases e1:qv cH x with
  |none=>rw[e1]at h2;exact h2.elim
  |some nk=>
   obtain⟨n,kvs⟩:=nk
   cases e2:ie y with
   |none=>rw[e1,e2]at h2;exact h2.elim
   |some k=>
    rw[e1,e2]at h2
    simp only at h2
    obtain⟨a,vs,hn,hm,ea,ha,r⟩:=qE l2.sto e1 (q1.mono p2 x2)
    cases ea
    have:=mU e2 q2
    subst this
    rcases pF k r with⟨w,z,g1,g2,g3⟩|⟨g1,g2⟩
    ·rw[g1]at h2
     obtain⟨us,f1,f2⟩:=Ab (k:=k) r
     refine⟨_,k.key,z,ha,rfl,g2,?_⟩
     rw[f1]
     exact h2 μ2 z _ (ae _) (eG.butD fL ha) (l2.sto.setD hn hm ha f2) (g3.mono (ae _) (eG.butD fL ha))
    ·rw[g1]at h2;exact h2.elim⟩
end
def qw(h:Heap)(mg:Str->Option Value):Prop:=∃bm o,mg "__builtins__"=some (.ref bm)/\bm≠builtinsNs/\h.get? bm=some o/\o.cls=.type "module"/\o.dict=some builtinsNs/\o.data=.plain
structure IR(ts:List Addr)(H:Hp):Prop where
 all:∀b,H b=none\/(∃o xs,H b=some (.frz o (.lst xs)))\/(b∈ts/\H b=some (.tbl #[]))
 tab:∀T∈ts,H T=some (.tbl #[])
theorem BE{P:Program}{w:World}{mb:Str->Option Value}{CX:Cp}{k:Nat}{fa:Addr}{fd:FuncData}{sp:Sp}{s₁:Shared}{vs:List Value}{ts:List Addr}
  (KX:K.In s₁.heap) (FZ:s₁.heap.Ns mainGlobals mg) (hb:s₁.heap.Ns builtinsNs mb) (TF:∀x:Str,x ≠ "__name__"->mb x=bootBuiltins x) (Sq:s₁.heap.NoLimit) (hg:s₁.gens=#[])
  (ha:s₁.heap.get? a=some { cls:=.type "list",data:=.seq vs.toArray }) (hi:IntsAre vs ns) (hl:ns.length<=sizeLine) (hr:f' k callerA)
  (ht:∀T∈ts,s₁.heap.get? T=some { cls:=.none,data:=.fields #[] }) (Sc:∀T∈ts,K.lookup T=none) (Rg:∀T∈ts,isCodeTable s₁.heap T)
  (TK:qw s₁.heap mg) (F:∀base:Heap,K.In base->base.Ns mainGlobals mg->qw base mg->e_ P w K mg base CX k fa fd [x] sp) (QJ:∀(s:Shared) (u:Value),BindsTo s fd ⟨[u],[]⟩ [(x,u)])
  (J1:∀H:Hp,IR ts H->qk K H a (ns.map V.int)->sp [.ref a] H (fun v _=>v=.bl true) fun _ _ _=>False)
  (Tz:∀H e s',CX [] H s₁ (fun _ _ _=>False) e s'->False) :
  codeAny (model P w) callerA (.call (.ref fa) ⟨[.ref a],[]⟩) (fun r s'=>r=.ok (.ret (.bool true))/\OldK s₁.heap s'.heap/\s'.os=s₁.os/\AllBare s'.gens) s₁:=by
 have rv:=tY hi
 have lenV:=hi.length
 have hta:∀T∈ts,T≠a:=fun T hT z=>by
  have:=ht T hT
  rw[z,ha]at this
  have h2:=cC Obj.cls (aM this)
  cases h2
 have core:∀H:Hp,IR ts H->qk K H a (ns.map V.int)->jK P w H s₁.heap->(∀b,H b≠none->b=a\/b∈ts)->(H a≠none->K.lookup a=none) ->
   codeAny (model P w) callerA (.call (.ref fa) ⟨[.ref a],[]⟩) (fun r s'=>r=.ok (.ret (.bool true))/\OldK s₁.heap s'.heap/\s'.os=s₁.os/\AllBare s'.gens) s₁:=by
  intro H hO hS hok hA hK
  have base_of:∀{b:Addr} {o:Obj},s₁.heap.get? b=some o->H b=none->(sY s₁.heap H).get? b=some o:=fun e n=>Cv e n
  have noA:∀{b:Addr} {o:Obj} {es:Array DictEntry} {ep:Nat},s₁.heap.get? b=some o->o.data=.dict es ep->H b=none:=fun{b o es ep} e d=>by
   cases q:H b with
   |none=>rfl
   |some u=>
    rcases hA b (by rw[q];simp)with e'|e'
    ·subst e'
     rw[ha]at e;cases e
     have d':Data.seq vs.toArray _=Data.dict es ep:=d
     cases d'
    ·rw[ht b e']at e;cases e
     have d':Data.fields _=Data.dict es ep:=d
     cases d'
  have nsK:∀{b:Addr} {m:Str->Option Value},s₁.heap.Ns b m->(sY s₁.heap H).Ns b m:=fun{b m} ⟨o,es,ep,e,d,r⟩=>⟨o,es,ep,base_of e (noA e d),d,r⟩
  have hKb:K.In (sY s₁.heap H):=fun b o e=>base_of (KX b o e) (by
   cases q:H b with
   |none=>rfl
   |some u=>
    rcases hA b (by rw[q];simp)with e'|e'
    ·subst e'
     rw[hK (by rw[q];simp)]at e;cases e
    ·rw[Sc b e']at e;cases e)
  have hbk':qw (sY s₁.heap H) mg:=by
   obtain⟨bm,o,b1,b2,b3,b4,b5,b6⟩:=TK
   refine⟨bm,o,b1,b2,base_of b3 ?_,b4,b5,b6⟩
   cases q:H bm with
   |none=>rfl
   |some u=>
    rcases hA bm (by rw[q];simp)with e'|e'
    ·subst e'
     rw[ha]at b3;cases b3;exact absurd b4 (by simp)
    ·rw[ht bm e']at b3;cases b3;cases b4
  have hM:Mod K mg (sY s₁.heap H):=⟨hKb,nsK FZ,⟨mb,nsK hb,TF⟩,let ⟨mc,h1,h2⟩:=Sq;⟨mc,nsK h1,h2⟩⟩
  have e0:wu P w K mg (sY s₁.heap H) callerA [] s₁ H:=⟨rfl,hM,fun b o e=>Ge e,Nat.le_of_eq (AY _ _),trivial,fun b hb=>absurd (show b∈([]:List Addr)from hb) (by simp),hok,.of_eq hg⟩
  refine hG ((F _ hKb (nsK FZ) hbk').run callerA [] s₁ H ⟨[.ref a],[]⟩ [.ref a] [.ref a] _ _ hr e0 (QJ s₁ (.ref a)) (.cons rfl .nil) (J1 H hO hS)) fun r s' h=>?_
  cases r with
  |error e=>exact(Tz H e s' h).elim
  |ok fl=>
   cases fl with
   |next=>exact False.elim h
   |brk=>exact False.elim h
   |cont=>exact False.elim h
   |ret u=>
    obtain⟨v,H',os,bare,un,hok',r',q⟩:=h
    have q':v=.bl true:=q
    subst q'
    obtain rfl:u=Value.bool true:=r'
    have was:∀b o,s₁.heap.get? b=some o->asItWas s₁.heap s'.heap b o/\∃o',s'.heap.get? b=some o':=fun b o e=>by
     cases q:H b with
     |none=>
      have:=un.keep b o e q (by intro z;exact absurd (show b∈([]:List Addr)from z) (by simp)) (by simp)
      exact⟨.inl this,_,this⟩
     |some u=>
      rcases hO.all b with z|⟨ob,xs,z⟩|⟨hbt,z⟩
      ·rw[q]at z;cases z
      ·have z2:=un.frzs b ob _ z
       obtain⟨e1,_⟩:=hok b _ z
       obtain⟨e2,_⟩:=hok' b _ z2
       rw[e]at e1;cases e1
       exact⟨.inl e2,_,e2⟩
      ·obtain⟨jw,z2⟩:=un.tbls b _ z
       have e2:s'.heap.get? b=some { cls:=.none,data:=.fields (#[]++jw) }:=hok' b _ z2
       rw[ht b hbt]at e
       cases e
       exact⟨.inr (.inl ⟨Rg b hbt,rfl,#[],jw,rfl,e2⟩),_,e2⟩
    exact⟨rfl,⟨fun b o e=>(was b o e).1,fun b o e=>(was b o e).2⟩,os,bare⟩
 have tb:∀(f:Hp),(∀T∈ts,f T=some (.tbl #[]))->∀T∈ts,dU P w f s₁.heap T (.tbl #[]):=fun f _ T hT=>ht T hT
 have dec:∀b:Addr,b∈ts\/b∉ts:=fun b=>Classical.em _
 open Classical in
 cases hk:K.lookup a with
 |some o=>
  have e:=KX a o hk
  rw[ha]at e
  cases e
  refine core (fun b=>if b∈ts then some (.tbl #[])else none) ⟨fun b=>?_,fun T hT=>aw hT⟩ (.inr ⟨_,vs.toArray,_,hk,rfl,rfl,rfl,by rw[aE,lenV];exact hl,by simpa using rv⟩) (fun b u z=>?_) (fun b z=>?_) (fun z=>?_)
  ·by_cases hb:b∈ts
   ·exact .inr (.inr ⟨hb,aw hb⟩)
   ·exact .inl (aD hb)
  ·by_cases hb:b∈ts
   ·have z':=(aw hb).symm.trans z
    cases z'
    exact ht b hb
   ·have z':=(aD hb).symm.trans z
    cases z'
  ·by_cases hb:b∈ts
   ·exact .inr hb
   ·exact absurd (aD hb) z
  ·exact absurd (aD (fun q=>hta a q rfl)) z
 |none=>
  refine core (fun b=>if b=a then some (.frz { cls:=.type "list",data:=.seq vs.toArray } (.lst (ns.map V.int)))else if b∈ts then some (.tbl #[])else none) ⟨fun b=>?_,fun T hT=>(aD (hta T hT)).trans (aw hT)⟩ (.inl (.inr ⟨{ cls:=.type "list",data:=.seq vs.toArray },aw rfl⟩)) (fun b u z=>?_) (fun b z=>?_) (fun _=>hk)
  ·by_cases hb:b=a
   ·exact .inr (.inl ⟨_,_,aw hb⟩)
   ·by_cases hb2:b∈ts
    ·exact .inr (.inr ⟨hb2,(aD hb).trans (aw hb2)⟩)
    ·exact .inl ((aD hb).trans (aD hb2))
  ·by_cases hb:b=a
   ·have z':=(aw hb).symm.trans z
    cases z'
    subst hb
    exact⟨ha,by rw[aj];exact hl,vs,_,rv,ha⟩
   ·by_cases hb2:b∈ts
    ·have z':=((aD hb).trans (aw hb2)).symm.trans z
     cases z'
     exact ht b hb2
    ·have z':=((aD hb).trans (aD hb2)).symm.trans z
     cases z'
  ·by_cases hb:b=a
   ·exact .inl hb
   ·by_cases hb2:b∈ts
    ·exact .inr hb2
    ·exact absurd ((aD hb).trans (aD hb2)) z
def Dx(tc:List ai)(F:List W->List ai->R W):Prop:=∀ns:List Int,ns.length<=63->∃bv,F [.loc 0] (.ro (ns.map W.int)::tc)=.ok (.bl true) bv
def qx(L:List (Addr×Pos×Str)):List ai:=L.map fun t=>.tab t.1 t.2.1 t.2.2
theorem walkT{l:PySem.W.OpenLaw}{k:Nat}{q:Program}{AS:List Str}{XP:(Str->Option Value)->Heap->Prop}{d:DefRec}{K:Params->Frag}{x:Str}{G:List W->List ai->R W}(L:List (Addr×Pos×Str))(hL:(L.map fun t=>t.1).Nodup)(hn:l.most=some 63)(Se:d.params.defaults=[])(hr:f' k callerA)
  (hY:∀(w:World) (h:Heap),YP w h->(K w.params).In h) (hT:∀(w:World) (h:Heap),YP w h->∀T∈L.map (fun t=>t.1),h.get? T=some { cls:=.none,data:=.fields #[] })
  (Sc:∀(w:World),∀T∈L.map (fun t=>t.1),(K w.params).lookup T=none) (Rg:∀(w:World),∀T∈L.map (fun t=>t.1),∃c,codeHdIn (K w.params) c T=true)
  (F:∀(w:World) (mg:Str->Option Value) (fa:Addr) (h:Heap),(K w.params).In h->h.Ns mainGlobals mg->mg d.name=some (.ref fa) ->
   ∃fd:FuncData,(∀(s:Shared) (u:Value),BindsTo s fd ⟨[u],[]⟩ [(x,u)])/\∀base:Heap,(K w.params).In base->base.Ns mainGlobals mg->qw base mg->e_ l.prog w (K w.params) mg base (ji l.prog w) k fa fd [x] (kT (K w.params) mg 1 G))
  (ok:Dx (qx L) G):PySem.W.WalkO q AS XP YP l.row.toRowW d [] (fun f vs=>PySem.call f vs):=by
 refine Att.attach_call hn Se fun w s₀ s₁ mg mb fa o pm cd im a vs ns G' Y ho hd kt hmg hobj hints dH hg=>?_
 have KX:=hY w _ Y
 obtain⟨fd,hb,hF⟩:=F w mg fa _ KX G'.T.g hmg
 refine BE (ts:=L.map fun t=>t.1) (CX:=ji l.prog w) (sp:=kT (K w.params) mg 1 G) KX G'.T.g G'.T.b G'.T.builtins G'.T.nolimit hg hobj hints (be dH (by decide)) hr (hT w _ Y) (Sc w) (fun T hT'=>?_) G'.T.bmain hF hb (fun H hO hS=>?_) fun H e s' z=>?_
 ·obtain⟨c,hc⟩:=Rg w T hT'
  obtain⟨o,vs,_,_,_,_,_,_,_,e1,e2,e3,e4,_⟩:=PySem.W.codeHd_of_K KX hc
  exact⟨c,o,vs,e1,e2,e3,e4⟩
 ·obtain⟨bv,e⟩:=ok ns dH
  have sO:Q4 (K w.params) H a (ns.map V.int):=by
   rcases hS with(z|⟨o,z⟩)|z
   ·rcases hO.all a with y|⟨o,xs,y⟩|⟨_,y⟩
    ·rw[z]at y;cases y
    ·rw[z]at y;cases y
    ·rw[z]at y;cases y
   ·exact .inl ⟨o,z⟩
   ·exact .inr z
  have hta:∀T∈L.map (fun t=>t.1),T≠a:=fun T hT' z=>by
   have:=hT w _ Y T hT'
   rw[z,hobj]at this
   have h2:=cC Obj.cls (aM this)
   cases h2
  have hri:∀μ:List Addr,RelWs (K w.params) μ H (ns.map W.int) (ns.map V.int):=fun μ=>by
   clear hS sO e dH hints
   induction ns with
   |nil=>exact .nilI
   |cons n r ih=>exact .consI .int ih
  refine⟨rfl,a::L.map (fun t=>t.1),[.loc 0],.ro (ns.map W.int)::qx L,⟨fun i j b ci cj c1 c2 r1 r2 m1 m2=>?_,by simp[qx],fun i c b c1 c2=>?_⟩,.consI (.locI rfl) .nilI,?_⟩
  ·cases i with
   |zero=>cases c1;cases r1
   |succ i=>
    cases j with
    |zero=>cases c2;cases r2
    |succ j=>
     simp only[gW]at m1 m2
     rw[(List.getElem?_inj (aa.mp m1).1 hL).mp (m1.trans m2.symm)]
  ·cases i with
   |zero=>cases c1;cases c2;exact⟨_,sO,hri _⟩
   |succ i=>
    simp only[gW]at c1 c2
    unfold qx at c1
    rw[al]at c1 c2
    cases e1:L[i]? with
    |none=>rw[e1]at c1;cases c1
    |some t=>
     rw[e1]at c1 c2
     cases c1;cases c2
     exact⟨rfl,#[],hO.tab _ (am.mpr ⟨t,ak e1,rfl⟩),trivial,.inl rfl⟩
  ·rw[e]
   intro μ' v H' _ _ _ rv
   exact rv.blE
 ·obtain⟨_,_,_,_,_,_,z,_⟩:=z
  exact z
structure Dy(en dn:Str)(pr:Arguments)(b:Expr)(sc:Scope):Prop where
 co:sc.isCoroutine=false
 gen:sc.isGenerator=false
 kind:sc.kind=.function
 cell:∀x∈sc.names,x.2≠.cell
 ke:sc.names.lookup en=some .local
 kd:sc.names.lookup dn=some .free
 bind:∀(nm q:Str) (cl:List (Str×Addr)) (pm gq ct v:Value),bindArgs (PySem.W.kla_fn nm q pr b sc cl pm gq ct) ⟨[v],[]⟩=pure [(en,v)]
 nd:(dn==("__classdict__":Str))=false
 d1:(en==("__debug__":Str))=false
 d2:(dn==("__debug__":Str))=false
section
theorem wY{c0:Addr}{en dn nm q:Str}{pr:Arguments}{p3 p4:Pos}{pm ct:Value}{kvs:List (fK×V)}{k:fK}
  (T:Dy en dn pr (.Subscript (.Name dn p2) (.Name en p3) p4) sc) (I:bj X pins σ H s)
  (hf:s.heap.get? f=some (kla_obj nm q pr (.Subscript (.Name dn p2) (.Name en p3) p4) sc [(dn,c0)] pm cd ct)) (kt:s.heap.CodeRec (.ref cd) q)
  (Iq:s.heap.IsCell c0 (some (.ref a))) (ha:H a=some (.dK kvs)) (hv:jg kvs k=some v) (ru:bF (kV k) u) (uN:A.depth<recursionLimit) (hu:A.units+8<cLine)
  (h:∀z h' t,(∀b o,s.heap.get? b=some o->h'.get? b=some o)->bj X pins σ H { s with heap:=h',toks:=t }->bF v z->Q z { s with heap:=h',toks:=t }) :
  wpAny (model X.prog X.w) A (call (.ref f) [u]) Q E s:=by
 refine lI ?_
 refine PySem.W.kla_callFunE uN hf rfl T.co T.gen rfl kt ?_
 rw[T.bind]
 refine au (wpAny_newFunctionEnv T.cell (fun y hy=>?_) (fun h₁ FZ hsb=>?_) T.kind)
 ·have:y=(en,u):=by simpa using hy
  rw[this];exact T.ke
 ·have hk1:∀b o,s.heap.get? b=some o->h₁.get? b=some o:=fun b o e=>hsb.extBut b o (bt (aF e)) (ao _ e)
  have I1:bj X pins σ H { s with heap:=h₁,toks:=s.toks+[(en,u)].length }:=I.kept hk1
  refine⟨I1.nolimit,PySem.W.kla_codeExpr ?_⟩
  obtain⟨z0,hd,vs,h_,dd⟩:=mi I1.hok (.inl ha)
  refine uZ PySem.F.slot_dict_getitem.lookup (fun _ _=>rfl) (lz ?_ T.d2)
  refine wpAny_loadName_free (c:=c0) (v:=.ref a) T.kind ?_ ?_ (Iq.keeps hk1) ?_ T.nd
  ·show List.lookup dn sc.names=some .free
   exact T.kd
  ·show List.lookup dn [(dn,c0)]=some c0
   simp[List.lookup]
  refine lz ?_ T.d1
  refine wpAny_loadName_local (v:=u) T.kind ?_ FZ ?_ ?_
  ·show List.lookup en sc.names=some .local
   exact T.ke
  ·simp[List.lookup]
  obtain⟨z,hz,rz⟩:=m8.some_of (v:=v) (o:=valueAt vs k) (by rw[<- hv];exact h_.val k)
  refine⟨dd.typeIs,kN (pX ru) dd.mapOf hz ?_⟩
  exact h z h₁ _ hk1 (I1.tok _) rz
def jp(kf:Nat->List Int):Nat->Nat
 |0=>0
 |j+1=>if HT.lexLt (kf (j+1)) (kf (jp kf j))=true then j+1 else jp kf j
theorem vj(kf:Nat->List Int):∀j,jp kf j<=j
 |0=>av _
 |j+1=>by unfold jp;have:=vj kf j;split<;>omega
theorem Af{w:World}{k:fK}{v:Value}(h:(dM P w).is k v=true):bF (kV k) v:=by
 rcases d8 h with⟨i,t,rfl,rfl⟩|⟨x,t,rfl,rfl⟩
 ·exact⟨t,rfl⟩
 ·exact⟨t,rfl⟩
structure mD(X:Cx)(pins:List (Addr×Obj))(σ:St)(H:Hp)(s:Shared)(f c0 cd a it:Addr)(fo:Obj)(q:Str)(vs:List (fK×Value))(ep j:Nat):Prop where
 inv:bj X pins σ H s
 fn:s.heap.get? f=some fo
 code:s.heap.CodeRec (.ref cd) q
 cell:s.heap.IsCell c0 (some (.ref a))
 dict:s.heap.DictAt (dM X.prog X.w) a vs ep
 iter:s.heap.IsKeyIter it a j vs.length ep
theorem mD.go{c0:Addr}{fo:Obj}{q:Str}{vs:List (fK×Value)}{ep j':Nat}{b0:Addr}(M:mD X pins σ H s f c0 cd a it fo q vs ep j)(I:bj X pins σ H { s with heap:=h',toks:=t' })
  (k:∀b o,b≠b0->s.heap.get? b=some o->h'.get? b=some o) (n1:f≠b0) (n2:cd≠b0) (n3:c0≠b0) (n4:a≠b0) (hi:h'.IsKeyIter it a j' vs.length ep):mD X pins σ H { s with heap:=h',toks:=t' } f c0 cd a it fo q vs ep j':=by
 obtain⟨c2,oc,ws,tt,e2,hoc,hd,hv⟩:=M.code
 cases e2
 refine⟨I,k f _ n1 M.fn,⟨_,oc,ws,tt,rfl,k _ _ n2 hoc,hd,hv⟩,?_,M.dict.at' fun o e=>k a o n4 e,hi⟩
 obtain⟨o,ho,hd⟩:=M.cell
 exact⟨o,k c0 o n3 ho,hd⟩
theorem Dz{c0 ls:Addr}{en dn nm q:Str}{pr:Arguments}{p3 p4:Pos}{pm ct:Value}{kvs:List (fK×V)}{vs:List (fK×Value)}{ep:Nat}{kf:Nat->List Int}{tv:Nat->Addr}{R:Result->Shared->Prop}{g0:Array GenState}{d0:Drawn}{qR:OsState}
  (T:Dy en dn pr (.Subscript (.Name dn p2) (.Name en p3) p4) sc) (hh:A.handled=none) (uN:A.depth<recursionLimit) (hu:A.units+16<cLine) (ha:H a=some (.dK kvs)) (h_:KV kvs vs) (kr:(kvs.map (·.1)).Nodup)
  (zx:∀(i:Nat) (k:fK) (x:V),kvs[i]?=some (k,x)->x=.ref (tv i)/\eG X.K H (tv i) ((kf i).map V.int))
  (wf:nV X pins H it) (wg:nV X pins H ls) (Nn:it≠ls) (nf:f≠it/\f≠ls) (NK:cd≠it/\cd≠ls) (NJ:c0≠it/\c0≠ls)
  (hR:∀v h t k x,kvs[jp kf (kvs.length-1)]?=some (k,x)->bF (kV k) v->bj X pins σ H ⟨h,g0,d0,t,qR⟩->R (.ok (.ret v)) ⟨h,g0,d0,t,qR⟩) :
  ∀(r j:Nat) (h:Heap) (t:Nat) (vb:Value) (c:Nat),kvs.length-(j+1)=r->j+1<=kvs.length->mD X pins σ H ⟨h,g0,d0,t,qR⟩ f c0 cd a it (kla_obj nm q pr (.Subscript (.Name dn p2) (.Name en p3) p4) sc [(dn,c0)] pm cd ct) q vs ep (j+1) ->
   h.get? ls=some (seqObj "list" #[vb,.ref (tv (jp kf j))] c)->(∀k x,kvs[jp kf j]?=some (k,x)->bF (kV k) vb) ->
   codeAny (model X.prog X.w) A (.builtin "min.loop" ⟨[.ref it,.ref f,.ref ls],[]⟩) R ⟨h,g0,d0,t,qR⟩:=by
 have hname:(toString "min"++toString ".loop":String)="min.loop":=by decide
 have hna:a≠it/\a≠ls:=⟨fun z=>(by rw[z,wf.1]at ha;cases ha),fun z=>(by rw[z,wg.1]at ha;cases ha)⟩
 have dH:kvs.length=vs.length:=h_.length
 intro r
 induction r with
 |zero=>
  intro j h t vb c hr hj M hls hvb
  have hin:j+1=kvs.length:=by omega
  refine lV PySem.F.entry_min_loop ?_
  rw[iG PySem.F.plain_min_loop _]
  show wpAny _ A.in1 (seqItems? (.ref ls) >>= _) _ _ _
  refine af (fF hls rfl ?_)
  show wpAny _ A.in1 (tryCatch (pyNext (.ref it)) _ >>= _) _ _ _
  refine af (gi (wpAny_pyNext_dict_end hh M.iter M.dict (by rw[fX];omega) fun h1 hk1=>?_))
  have I1:bj X pins σ H ⟨h1,g0,d0,t,qR⟩:=M.inv.turned (it:=it) (fun b o hb e=>hk1 b o hb e) wf.1 wf.2.1 wf.2.2.2.1 wf.2.2.2.2.1 wf.2.2.2.2.2
  have hls1:=hk1 ls _ (Ne.symm Nn) hls
  show wpAny _ A.in1 (updateSeq ls (fun _=>#[]) >>= _) _ _ _
  refine af ?_
  refine iR hls1 rfl (af (jX (au ?_)))
  have sb:=cy h1 ls (Obj.mapSeq fun _=>(#[]:Array Value))
  obtain⟨⟨k,x⟩,hx⟩:∃p,kvs[jp kf j]?=some p:=⟨_,ac (by have:=vj kf j;omega)⟩
  refine hR vb _ _ k x (by rw[show kvs.length-1=j by omega];exact hx) (hvb k x hx) ?_
  exact I1.turned (it:=ls) (fun b o hb e=>sb.extBut b o hb e) wg.1 wg.2.1 wg.2.2.2.1 wg.2.2.2.2.1 wg.2.2.2.2.2
 |succ r ih=>
  intro j h t vb c hr hj M hls hvb
  have jS:j+1<kvs.length:=by omega
  obtain⟨⟨k,x⟩,hx⟩:∃p,kvs[j+1]?=some p:=⟨_,ac jS⟩
  obtain⟨⟨k',y⟩,hy⟩:∃p,vs[j+1]?=some p:=⟨_,ac (by omega)⟩
  have ek:k=k':=by
   have:=cC (fun l:List fK=>l[j+1]?) h_.keys
   simp only[al,hx,hy]at this
   exact aM this
  subst ek
  obtain⟨rfl,hS⟩:=zx (j+1) k x hx
  refine lV PySem.F.entry_min_loop ?_
  rw[iG PySem.F.plain_min_loop _]
  show wpAny _ A.in1 (seqItems? (.ref ls) >>= _) _ _ _
  refine af (fF hls rfl ?_)
  show wpAny _ A.in1 (tryCatch (pyNext (.ref it)) _ >>= _) _ _ _
  refine af (gi (lK M.iter M.dict hy fun v h1 hv hit1 tQ=>?_))
  have rv:bF (kV k) v:=Af hv
  have I1:bj X pins σ H ⟨h1,g0,d0,t,qR⟩:=M.inv.turned (it:=it) (fun b o hb e=>tQ.extBut b o hb e) wf.1 wf.2.1 wf.2.2.2.1 wf.2.2.2.2.1 wf.2.2.2.2.2
  have M1:mD X pins σ H ⟨h1,g0,d0,t,qR⟩ f c0 cd a it _ q vs ep (j+1+1):=M.go (s:=⟨h,g0,d0,t,qR⟩) (b0:=it) I1 (fun b o hb e=>tQ.extBut b o hb e) nf.1 NK.1 NJ.1 hna.1 hit1
  have hls1:=tQ.extBut ls _ (Ne.symm Nn) hls
  have hvk:jg kvs k=some (.ref (tv (j+1))):=by
   unfold jg
   have hm:(k,V.ref (tv (j+1)))∈kvs:=ak hx
   cases hf:kvs.find? (fun kv=>decide (kv.1=k))with
   |none=>
    have:=jE.mp hf _ hm
    simp at this
   |some p=>
    have h1:=List.find?_some hf
    have h2:=List.mem_of_find?_eq_some hf
    have e1:p.1=k:=by simpa using h1
    obtain⟨i1,hi1⟩:=aU h2
    have e2:i1=j+1:=by
     refine(List.getElem?_inj (l:=kvs.map (·.1)) (by rw[aj];exact(aa.mp hi1).1) kr).mp ?_
     rw[al,al,hi1,hx]
     show some p.1=some k
     rw[e1]
    subst e2
    rw[hx]at hi1;cases hi1;rfl
  show wpAny _ A.in1 (tryCatch (holding [v] (call (.ref f) [v])) _ >>= _) _ _ _
  refine af (gi (cv (wY T M1.inv M1.fn M1.code M1.cell ha hvk rv uN (by show A.units+1+8<cLine;omega) fun z h2 t2 Gc I2 rz=>?_)))
  obtain rfl:z=Value.ref (tv (j+1)):=rz
  have M2:mD X pins σ H ⟨h2,g0,d0,t2,qR⟩ f c0 cd a it _ q vs ep (j+1+1):=M1.go (s:=⟨h1,g0,d0,t,qR⟩) (b0:=h1.objs.size) I2 (fun b o _ e=>Gc b o e)
   (fun q=>by have:=aF M1.fn;rw[q]at this;exact bq _ this) (fun q=>by obtain⟨_,_,_,_,e2,ho,_⟩:=M1.code;cases e2;have:=aF ho;rw[q]at this;exact bq _ this) (fun q=>by have:=M1.cell.lt;rw[q]at this;exact bq _ this)
   (fun q=>by obtain⟨o,_,ho,_⟩:=M1.dict;have:=aF ho;rw[q]at this;exact bq _ this) (by obtain⟨o,ho,r1,r2⟩:=hit1;exact⟨o,Gc _ _ ho,r1,r2⟩)
  have hls2:=Gc ls _ hls1
  obtain⟨⟨kb,xb⟩,hxb⟩:∃p,kvs[jp kf j]?=some p:=⟨_,ac (by have:=vj kf j;omega)⟩
  obtain⟨rfl,hSb⟩:=zx (jp kf j) kb xb hxb
  obtain⟨bw,r1,p1,_⟩:=I2.tuple hS
  obtain⟨its2,r2,p2,_⟩:=I2.tuple hSb
  have i1:IntsAre bw.toArray.toList (kf (j+1)):=kW r1
  have i2:IntsAre its2.toArray.toList (kf (jp kf j)):=kW r2
  show wpAny _ A.in1 (tryCatch (holding [v,.ref (tv (j+1))] (richCompare .Lt (.ref (tv (j+1))) (.ref (tv (jp kf j))) >>= _)) _ >>= _) _ _ _
  refine af (gi (cv (af ?_)))
  refine HT.lt_tupInts p1 p2 i1 i2 (by show A.units+1<cLine;omega) ?_
  refine af (cv (dP ?_))
  refine af (jX (au ?_))
  by_cases hb:HT.lexLt (kf (j+1)) (kf (jp kf j))=true
  ·have em:jp kf (j+1)=j+1:=by show(if _ then _ else _)=_;rw[aw hb]
   have sb:=cy h2 ls (Obj.mapSeq fun _=>#[v,Value.ref (tv (j+1))])
   obtain⟨c2,hc2⟩:∃c2,(h2.update ls (Obj.mapSeq fun _=>#[v,Value.ref (tv (j+1))])).get? ls=some (seqObj "list" #[v,.ref (tv (j+1))] c2):=⟨_,get?_update_seq hls2 fun _=>#[v,Value.ref (tv (j+1))]⟩
   simp only[hb,d7]
   refine af ?_
   refine iR hls2 rfl (af (jX ?_))
   rw[hname]
   have I3:bj X pins σ H ⟨h2.update ls (Obj.mapSeq fun _=>#[v,Value.ref (tv (j+1))]),g0,d0,t2,qR⟩:=I2.turned (it:=ls) (fun b o hb e=>sb.extBut b o hb e) wg.1 wg.2.1 wg.2.2.2.1 wg.2.2.2.2.1 wg.2.2.2.2.2
   have M3:mD X pins σ H ⟨h2.update ls (Obj.mapSeq fun _=>#[v,Value.ref (tv (j+1))]),g0,d0,t2,qR⟩ f c0 cd a it _ q vs ep (j+1+1):=
    M2.go (s:=⟨h2,g0,d0,t2,qR⟩) (b0:=ls) I3 (fun b o hb e=>sb.extBut b o hb e) nf.2 NK.2 NJ.2 hna.2 (by obtain⟨o,ho,r1,r2⟩:=M2.iter;exact⟨o,sb.extBut _ _ Nn ho,r1,r2⟩)
   exact au ⟨ko PySem.F.plain_min_loop _,ih (j+1) _ _ v c2 (by omega) jS M3 (by rw[em];exact hc2) fun k2 x2 e2=>by rw[em,hx]at e2;cases e2;exact rv⟩
  ·have em:jp kf (j+1)=jp kf j:=by show(if _ then _ else _)=_;rw[aD hb]
   simp only[hb,ce,fD]
   refine af (jX ?_)
   rw[hname]
   exact au ⟨ko PySem.F.plain_min_loop _,ih (j+1) _ _ vb c (by omega) jS M2 (by rw[em];exact hls2) fun k2 x2 e2=>by rw[em]at e2;exact hvb k2 x2 e2⟩
theorem DA{c0:Addr}{en dn nm q:Str}{pr:Arguments}{p3 p4:Pos}{pm ct:Value}{kvs:List (fK×V)}{kf:Nat->List Int}{tv:Nat->Addr}
  (T:Dy en dn pr (.Subscript (.Name dn p2) (.Name en p3) p4) sc) (hh:A.handled=none) (uN:A.depth<recursionLimit) (hu:A.units+16<cLine) (I:bj X pins σ H s) (ha:H a=some (.dK kvs))
  (hf:s.heap.get? f=some (kla_obj nm q pr (.Subscript (.Name dn p2) (.Name en p3) p4) sc [(dn,c0)] pm cd ct)) (kt:s.heap.CodeRec (.ref cd) q) (Iq:s.heap.IsCell c0 (some (.ref a))) (lx:0<kvs.length)
  (zx:∀(i:Nat) (k:fK) (x:V),kvs[i]?=some (k,x)->x=.ref (tv i)/\eG X.K H (tv i) ((kf i).map V.int))
  (hQ:∀v h t k x,kvs[jp kf (kvs.length-1)]?=some (k,x)->bF (kV k) v->bj X pins σ H { s with heap:=h,toks:=t }->Q v { s with heap:=h,toks:=t }) :
  wpAny (model X.prog X.w) A (call (.builtin "min") [.ref a] [(Str.ofString "key",.ref f)]) Q E s:=by
 have hname:(toString "min"++toString ".loop":String)="min.loop":=by decide
 obtain⟨hz,hsys,vs,h_,o,es,ep,hdo⟩:=mi I.hok (.inl ha)
 have dd:s.heap.DictAt (dM X.prog X.w) a vs ep:=⟨o,es,hdo⟩
 have kr:(kvs.map (·.1)).Nodup:=by rw[h_.keys];exact hdo.2.2.2.2.2
 have dH:kvs.length=vs.length:=h_.length
 obtain⟨h0,g0,d0,t0,qR⟩:=s
 refine kmk_tree PySem.F.kind_min PySem.F.plain_min PySem.F.entry_min (kmk_min_key _ _) ?_
 show wpAny _ A.in1 (Builtin.Builtins.bindParams "min" ["key","default"] 0 ⟨[],[(Str.ofString "key",.ref f)]⟩ >>= _) _ _ _
 refine af (wpAny_of_eq (show Builtin.Builtins.bindParams "min" ["key","default"] 0 ⟨[],[(Str.ofString "key",.ref f)]⟩=pure [some (.ref f),none]from rfl) ?_)
 refine af (au ?_)
 refine af (wpAny_pyIter_dict hsys dd ?_)
 refine af (wpAny_newList ?_ (cM _))
 rw[hname]
 dsimp only
 generalize hG1:h0.push { cls:=.type "dict_keyiterator",data:=.fields #[.ref a,.int 0 0,.int vs.length 0,.int ep 0] }=G1
 have sz1:G1.objs.size=h0.objs.size+1:=by rw[<- hG1,jB]
 have k1:∀b o,h0.get? b=some o->(G1.push { cls:=.type "list",data:=.seq ([]:List Value).toArray }).get? b=some o:=fun b o e=>ao _ (hG1▸ao _ e)
 have git:(G1.push { cls:=.type "list",data:=.seq ([]:List Value).toArray }).get? h0.objs.size=some { cls:=.type "dict_keyiterator",data:=.fields #[.ref a,.int 0 0,.int vs.length 0,.int ep 0] }:=ao _ (hG1▸aS _ rfl)
 have gls:(G1.push { cls:=.type "list",data:=.seq ([]:List Value).toArray }).get? G1.objs.size=some (seqObj "list" #[] 0):=aS _ rfl
 generalize hG2:G1.push { cls:=.type "list",data:=.seq ([]:List Value).toArray }=G2 at k1 git gls
 have I2:bj X pins σ H ⟨G2,g0,d0,t0,qR⟩:=I.kept k1
 have Nn:h0.objs.size≠G1.objs.size:=by omega
 have wf:nV X pins H h0.objs.size:=I.fpOk (av _) I.fresh
 have wg:nV X pins H G1.objs.size:=I.fpOk (by show h0.objs.size<=_;omega) (I.hok.fresh (by show h0.objs.size<=_;omega))
 have old:∀b o,h0.get? b=some o->b≠h0.objs.size/\b≠G1.objs.size:=fun b o e=>⟨bt (aF e),bt (by rw[sz1];exact f_ (aF e))⟩
 obtain⟨c2,oc,ws,tt,e2,hoc,hdc,hvc⟩:=id kt
 cases e2
 obtain⟨oc0,hoc0,hdc0⟩:=id Iq
 have M0:mD X pins σ H ⟨G2,g0,d0,t0,qR⟩ f c0 cd a h0.objs.size (kla_obj nm q pr (.Subscript (.Name dn p2) (.Name en p3) p4) sc [(dn,c0)] pm cd ct) q vs ep 0:=
  ⟨I2,k1 _ _ hf,⟨_,oc,ws,tt,rfl,k1 _ _ hoc,hdc,hvc⟩,Iq.keeps k1,dd.at' fun o e=>k1 a o e,⟨_,git,rfl,rfl⟩⟩
 refine au ⟨ko PySem.F.plain_min_loop _,?_⟩
 obtain⟨⟨k,x⟩,hx⟩:∃p,kvs[0]?=some p:=⟨_,ac lx⟩
 obtain⟨⟨k',y⟩,hy⟩:∃p,vs[0]?=some p:=⟨_,ac (by omega)⟩
 have ek:k=k':=by
  have:=cC (fun l:List fK=>l[0]?) h_.keys
  simp only[al,hx,hy]at this
  exact aM this
 subst ek
 obtain⟨rfl,hS⟩:=zx 0 k x hx
 have hvk:jg kvs k=some (.ref (tv 0)):=by
  cases kvs with
  |nil=>cases hx
  |cons p r=>
   have:p=(k,.ref (tv 0)):=aM hx
   subst this
   exact mf rfl
 refine lV PySem.F.entry_min_loop ?_
 rw[iG PySem.F.plain_min_loop _]
 show wpAny _ A.in1 (seqItems? (.ref G1.objs.size) >>= _) _ _ _
 refine af (fF gls rfl ?_)
 show wpAny _ A.in1 (tryCatch (pyNext (.ref h0.objs.size)) _ >>= _) _ _ _
 refine af (gi (lK M0.iter M0.dict hy fun v h1 hv hit1 tQ=>?_))
 have rv:bF (kV k) v:=Af hv
 have I1:bj X pins σ H ⟨h1,g0,d0,t0,qR⟩:=M0.inv.turned (it:=h0.objs.size) (fun b o hb e=>tQ.extBut b o hb e) wf.1 wf.2.1 wf.2.2.2.1 wf.2.2.2.2.1 wf.2.2.2.2.2
 have nf:=old f _ hf
 have NK:=old cd _ hoc
 have NJ:=old c0 _ hoc0
 have na:=old a _ hdo.1
 have M1:mD X pins σ H ⟨h1,g0,d0,t0,qR⟩ f c0 cd a h0.objs.size _ q vs ep (0+1):=M0.go (s:=⟨G2,g0,d0,t0,qR⟩) (b0:=h0.objs.size) I1 (fun b o hb e=>tQ.extBut b o hb e) nf.1 NK.1 NJ.1 na.1 hit1
 have hls1:=tQ.extBut _ _ (Ne.symm Nn) gls
 show wpAny _ A.in1 (tryCatch (holding [v] (call (.ref f) [v])) _ >>= _) _ _ _
 refine af (gi (cv (wY T M1.inv M1.fn M1.code M1.cell ha hvk rv uN (by show A.units+1+8<cLine;omega) fun z h2 t2 Gc I2' rz=>?_)))
 obtain rfl:z=Value.ref (tv 0):=rz
 have M2:mD X pins σ H ⟨h2,g0,d0,t2,qR⟩ f c0 cd a h0.objs.size _ q vs ep (0+1):=M1.go (s:=⟨h1,g0,d0,t0,qR⟩) (b0:=h1.objs.size) I2' (fun b o _ e=>Gc b o e)
  (fun q=>by have:=aF M1.fn;rw[q]at this;exact bq _ this) (fun q=>by obtain⟨_,_,_,_,e2,ho,_⟩:=M1.code;cases e2;have:=aF ho;rw[q]at this;exact bq _ this) (fun q=>by have:=M1.cell.lt;rw[q]at this;exact bq _ this)
  (fun q=>by obtain⟨o,_,ho,_⟩:=M1.dict;have:=aF ho;rw[q]at this;exact bq _ this) (by obtain⟨o,ho,r1,r2⟩:=hit1;exact⟨o,Gc _ _ ho,r1,r2⟩)
 have hls2:=Gc _ _ hls1
 have sb:=cy h2 G1.objs.size (Obj.mapSeq fun _=>#[v,Value.ref (tv 0)])
 obtain⟨c3,hc3⟩:∃c3,(h2.update G1.objs.size (Obj.mapSeq fun _=>#[v,Value.ref (tv 0)])).get? G1.objs.size=some (seqObj "list" #[v,.ref (tv 0)] c3):=⟨_,get?_update_seq hls2 fun _=>#[v,Value.ref (tv 0)]⟩
 show wpAny _ A.in1 (updateSeq G1.objs.size (fun _=>#[v,Value.ref (tv 0)]) >>= _) _ _ _
 refine af ?_
 refine iR hls2 rfl ?_
 rw[hname]
 have I3:bj X pins σ H ⟨h2.update G1.objs.size (Obj.mapSeq fun _=>#[v,Value.ref (tv 0)]),g0,d0,t2,qR⟩:=I2'.turned (it:=G1.objs.size) (fun b o hb e=>sb.extBut b o hb e) wg.1 wg.2.1 wg.2.2.2.1 wg.2.2.2.2.1 wg.2.2.2.2.2
 have M3:mD X pins σ H ⟨h2.update G1.objs.size (Obj.mapSeq fun _=>#[v,Value.ref (tv 0)]),g0,d0,t2,qR⟩ f c0 cd a h0.objs.size _ q vs ep (0+1):=
  M2.go (s:=⟨h2,g0,d0,t2,qR⟩) (b0:=G1.objs.size) I3 (fun b o hb e=>sb.extBut b o hb e) nf.2 NK.2 NJ.2 na.2 (by obtain⟨o,ho,r1,r2⟩:=M2.iter;exact⟨o,sb.extBut _ _ Nn ho,r1,r2⟩)
 exact au ⟨ko PySem.F.plain_min_loop _,Dz T hh uN hu ha h_ kr zx wf wg Nn nf NK NJ (fun v h t k x e1 e2 e3=>hQ v h t k x e1 e2 e3) _ 0 _ _ v c3 rfl (by omega) M3 hc3 fun k2 x2 e2=>by rw[show jp kf 0=0 from rfl,hx]at e2;cases e2;exact rv⟩
end
abbrev DB(ns:List (Str×NameKind)):Scope:=⟨.function,ns,false,false,[]⟩
def Pd(K:Frag)(fd:FuncData)(P:Addr):Prop:=∃c,fd.code=.ref c/\codeHdIn K c P=true/\K.lookup P=none
theorem vk{a b:Int}{t u:Tok}{c:Value}(l:List Value)(h:TriplesOk l):TriplesOk (l++[.int a t,.int b u,c]):=by
 fun_induction TriplesOk l with
 |case1=>exact trivial
 |case2 _ _ _ _ _ rest ih=>exact ih h
 |case3=>exact h.elim
section
variable{st:List ai}
abbrev rM(H:Hp)(P cd:Addr)(q:Str)(ps:Array Value)(pos:Pos):Hp:=dY (dY H cd (ia cd q)) P (.tbl (ps++#[rawInt pos.line,rawInt pos.col,.ref cd]))
theorem qF{P:Addr}{q:Str}{ps:Array Value}(n1:b≠P)(n2:b≠cd):rM H P cd q ps pos b=H b:=by
 show dY (dY H cd _) P _ b=_
 rw[bX n1,bX n2]
theorem DC{P:Addr}{q:Str}{ps:Array Value}:rM H P cd q ps pos P=some (.tbl (ps++#[rawInt pos.line,rawInt pos.col,.ref cd])):=df
theorem vm{P:Addr}{q:Str}{ps:Array Value}(h:P≠cd):rM H P cd q ps pos cd=some (ia cd q):=by
 show dY (dY H cd _) P _ cd=_
 rw[bX (Ne.symm h),df]
theorem eG.butT{l:Addr}{xs:Array Value}(e:Ov l H H')(hl:H l=some (.tbl xs)):c9 K H H':=by
 have lx:∀{p:Addr} {o:HO},H p=some o->(∀zs,o≠.tbl zs)->p≠l:=fun{p o} q hn z=>by subst z;rw[hl]at q;cases q;exact hn _ rfl
 refine⟨fun p ys h=>?_,fun b o u h=>e _ _ (lx h (fun _ z=>by cases z)) h⟩
 rcases h with(h|⟨o,h⟩)|h
 ·exact .inl (.inl (e _ _ (lx h (fun _ z=>by cases z)) h))
 ·exact .inl (.inr ⟨o,e _ _ (lx h (fun _ z=>by cases z)) h⟩)
 ·exact .inr h
theorem DD{l:List α}{x:α}(h:l[i]?=some x):l.set i x=l:=by
 refine jY fun j=>?_
 by_cases e:i=j
 ·subst e;rw[bi (aa.mp h).1,h]
 ·rw[bH e]
theorem fG.tabbed{P:Addr}{q:Str}{ps:Array Value}(S:fG K mg μ st H)(hi:st[i]?=some (.tab P pos q))(hP:H P=some (.tbl ps))(kt:H cd=none)(ht:TriplesOk ps.toList)(hn:codeAmong pos ps.toList=none) :
  fG K mg μ st (rM H P cd q ps pos)/\c9 K H (rM H P cd q ps pos):=by
 have hs:m9 H (dY H cd (ia cd q)):=cf kt _
 have lx:P≠cd:=fun z=>by rw[z,kt]at hP;cases hP
 have hP1:dY H cd (ia cd q) P=some (.tbl ps):=hs _ _ hP
 have hx:c9 K (dY H cd (ia cd q)) (rM H P cd q ps pos):=eG.butT fL hP1
 obtain⟨a,hm,ea,_⟩:=S.get hi
 subst ea
 have:=(S.same hs).setG (c':=.tab a pos q) hi rfl hm hP1 (fun _ _ z=>by cases z) (fun _ z=>by cases z) hx rfl ⟨rfl,_,df,?_,.inr ⟨cd,?_,?_⟩⟩
 ·rw[DD hi]at this
  exact⟨this,(eG.same hs).trans hx⟩
 ·rw[Array.toList_append];exact vk _ ht
 ·rw[Array.toList_append];exact codeAmong_snoc _ ht hn
 ·exact vm lx
end
section
theorem bj.tabbed{t':Nat}{P:Addr}{q:Str}{ps:Array Value}(I:bj X pins σ H s)(hP:H P=some (.tbl ps))(zG:s.heap.objs.size<=cd)(hx:∀b o,b≠P->s.heap.get? b=some o->h'.get? b=some o)
  (zK:h'.CodeRec (.ref cd) q) (NH:h'.get? P=some { cls:=.none,data:=.fields (ps++#[rawInt pos.line,rawInt pos.col,.ref cd]) }):bj X pins σ (rM H P cd q ps pos) { s with heap:=h',toks:=t' }:=by
 have kt:H cd=none:=I.hok.fresh zG
 have lx:P≠cd:=fun z=>by rw[z,kt]at hP;cases hP
 have notP:∀b,H b=none->b≠P:=fun b n z=>by rw[z,hP]at n;cases n
 have old:∀b o,s.heap.get? b=some o->b≠cd:=fun b o e=>bt (aW (aF e) zG)
 have keepH:∀b u,H b=some u->b≠P->rM H P cd q ps pos b=some u:=fun b u e n=>by
  rw[qF n (fun z=>by rw[z,kt]at e;cases e)];exact e
 have Hcd:rM H P cd q ps pos cd=some (ia cd q):=vm lx
 refine I.call' (ch:=[]) rfl ⟨fun b o e n hb pi=>hx b o (notP b n) e,fun b o e n hb pi=>⟨o.slots,hx b o (notP b n) e⟩,fun b o e n pi=>?_,fun b o e pi=>?_,fun b xs e=>?_,fun b o u e=>?_,fun b ps' e=>?_⟩ (fun b u e=>?_) I.bare fun b hb=>absurd hb (by simp)
 ·rw[qF (notP b n) (old b o e)];exact n
 ·by_cases hb:b=P
  ·subst hb;exact⟨_,NH⟩
  ·exact⟨o,hx b o hb e⟩
 ·exact keepH b _ e fun z=>by rw[z,hP]at e;cases e
 ·exact keepH b _ e fun z=>by rw[z,hP]at e;cases e
 ·by_cases hb:b=P
  ·subst hb
   rw[hP]at e;cases e
   exact⟨_,DC⟩
  ·exact⟨#[],by rw[keepH b _ e hb];simp⟩
 ·by_cases hb:b=P
  ·subst hb
   rw[DC]at e;cases e
   exact NH
  ·by_cases hb2:b=cd
   ·subst hb2
    rw[Hcd]at e;cases e
    obtain⟨c2,oc,vs,t,e2,hoc,hd,hv⟩:=zK
    cases e2
    refine⟨⟨oc,vs,t,hoc,hd,hv⟩,⟨oc,hoc⟩,fun h1 h2 p k=>?_⟩
    obtain⟨o,vs,t,ho,r⟩:=p
    exact⟨o,vs,t,k o ho,r⟩
   ·rw[qF hb hb2]at e
    refine(I.hok b u e).stay (fun c v hc q'=>hx c v (fun z=>?_) q') (fun c q'=>keepH c _ q' fun z=>by rw[z,hP]at q';cases q') fun c xs q'=>keepH c _ q' fun z=>by rw[z,hP]at q';cases q'
    rcases hc with rfl|hc
    ·exact hb z
    ·rw[z,hP]at hc;cases hc
theorem DE{P c:Addr}{pr:Arguments}{b:Expr}{tP:Pos}{q:Str}{ps:Array Value}(MY:defaultsOf pr X.env=([],[]))(hq:X.env.qual++"<lambda>"=q)(kL:X.env.code=.ref c)(IB:codeHdIn X.K c P=true)(S7:X.K.lookup P=none)(hB:qw X.base X.mg)
  (jd:closureFor sc X.env=pure cl) (I:bj X pins σ H s) (hP:H P=some (.tbl ps)) (ht:TriplesOk ps.toList) (Nh:codeAmong tP ps.toList=none\/∃cd,codeAmong tP ps.toList=some (.ref cd)/\H cd=some (ia cd q))
  (h:∀f cd ct pm h' t H',((codeAmong tP ps.toList=none/\H cd=none/\H'=rM H P cd q ps tP)\/H'=H)->bj X pins σ H' { s with heap:=h',toks:=t }->h'.get? f=some (kla_obj "<lambda>" q pr b sc cl pm cd ct)->h'.CodeRec (.ref cd) q ->
   (∀b o,b≠P->s.heap.get? b=some o->h'.get? b=some o)->Q (.ref f) { s with heap:=h',toks:=t }) :
  wpAny (model X.prog X.w) X.A (eval (.Lambda pr b sc tP) X.env) Q E s:=by
 subst hq
 have hPo:s.heap.get? P=some { cls:=.none,data:=.fields ps }:=I.hok P _ hP
 have hgs:s.heap.Ns mainGlobals X.mg:=I.mod.glob.keeps I.bk
 have hgP:mainGlobals≠P:=fun z=>by
  obtain⟨o,es,ep,e,hd,_⟩:=hgs
  rw[z,hPo]at e;cases e;cases hd
 obtain⟨bm,ob,b1,b2,b4,b5,b6,b7⟩:=hB
 have b4':=I.bk _ _ b4
 have hbP:bm≠P:=fun z=>by rw[z,hPo]at b4';cases b4';cases b5
 have b3:bm≠mainGlobals:=fun z=>by
  obtain⟨o,es,ep,e,hd,_⟩:=hgs
  rw[z,e]at b4';cases b4';rw[b7]at hd;cases hd
 have hb:s.heap.BuiltinsAt X.mg P:=⟨bm,ob,b1,b2,b3,hbP,b4',b5,b6,b7⟩
 have CH:=PySem.W.codeHd_of_K I.kIn IB
 refine PySem.W.kla_eval MY ?_
 rcases Nh with hn|⟨cd,hhit,hH⟩
 ·refine PySem.W.kla_makeFunction (mg:=X.mg) jd I.ok.glob hgs kL CH hPo ht hn hgP hb fun cd ct h' tk hx zG jS zK NH=>?_
  have pi:∀b o,b≠P->s.heap.get? b=some o->h'.get? b=some o:=fun b o hb e=>hx b o hb e
  have hrec2:(h'.push (kla_obj "<lambda>" (X.env.qual++"<lambda>") pr b sc cl ((X.mg "__name__").getD .none) cd ct)).CodeRec (.ref cd) (X.env.qual++"<lambda>"):=by
   obtain⟨c2,oc,vs,t,e2,hoc,hd,hv⟩:=zK
   exact⟨c2,oc,vs,t,e2,ao _ hoc,hd,hv⟩
  exact h _ cd ct _ _ tk _ (.inl ⟨hn,I.hok.fresh zG,rfl⟩) (I.tabbed hP zG (fun b o hb e=>ao _ (pi b o hb e)) hrec2 (ao _ NH)) (aS _ rfl) hrec2 fun b o hb e=>ao _ (pi b o hb e)
 ·refine PySem.W.kla_makeFunctionHit (mg:=X.mg) jd I.ok.glob hgs kL CH hPo ht hhit hb fun ct h' tk hk hsz=>?_
  obtain⟨⟨oc,vs,t,hoc,hd,hv⟩,_⟩:=I.hok cd _ hH
  exact h _ cd ct _ _ tk _ (.inr rfl) (I.kept fun b o e=>ao _ (hk b o e)) (aS _ rfl) ⟨cd,oc,vs,t,rfl,ao _ (hk _ _ hoc),hd,hv⟩ fun b o _ e=>ao _ (hk b o e)
end
def yQ:W->Option (List Int)
 |.tup ws=>fQ ws
 |_=>none
def i7:List (DK×W)->Option (List (List Int))
 |[]=>some []
 |p::r=>match yQ p.2,i7 r with
  |some a,some b=>some (a::b)
  |_,_=>none
def p_(st:List ai)(j:Nat)(P:Addr)(pos:Pos)(q:Str):Prop:=st[j]?=some (.tab P pos q)
open Classical in
def rN(i j:Nat)(P:Addr)(pos:Pos)(q:Str):FE:=fun ρ st=>match ρ[i]? with
 |some (some x)=>(match qv st x with
  |some (_,kvs)=>(match i7 kvs with
   |some ks=>if p_ st j P pos q then pf (kvs[jp (fun a=>ks.getD a []) (kvs.length-1)]?) fun p=>.ok p.1.w st else .bad
   |none=>.bad)
  |none=>.bad)
 |_=>.bad
theorem rO:∀{kvs:List (DK×W)} {ks:List (List Int)} {vs:List V},i7 kvs=some ks->RelWs K μ H (kvs.map fun p=>p.2) vs->∃ts:List Addr,vs=ts.map V.ref/\∀(i:Nat) (t:Addr),ts[i]?=some t->eG K H t ((ks.getD i []).map V.int)
 |[],ks,vs,h,r=>by
  have:=r.nilE
  subst this
  exact⟨[],rfl,fun i t e=>by simp at e⟩
 |p::r,ks,vs,h,rr=>by
  unfold i7 at h
  cases e1:yQ p.2 with
  |none=>rw[e1]at h;cases h
  |some a=>
   cases e2:i7 r with
   |none=>rw[e1,e2]at h;cases h
   |some b=>
    rw[e1,e2]at h;cases h
    obtain⟨x,xs,rfl,q1,q2⟩:=RelWs.consE rr
    obtain⟨ts,rfl,ht⟩:=rO e2 q2
    obtain⟨k,w⟩:=p
    cases w with
    |tup ws=>
     obtain⟨t,us,rfl,hS,r1⟩:=bb.tupE q1
     have:=mC (show fQ ws=some a from e1) r1
     subst this
     refine⟨t::ts,rfl,fun i t' e=>?_⟩
     cases i with
     |zero=>cases e;exact hS
     |succ i=>exact ht i t' (by simpa using e)
    |_=>cases e1
theorem DF{kvs:List (DK×W)}{ts:List Addr}(r:RelWs K μ H (kvs.map fun p=>p.2) (ts.map V.ref)){k:fK}{x:V}(h:(dV kvs (ts.map V.ref))[i]?=some (k,x)) :
  ∃p t,kvs[i]?=some p/\k=p.1.key/\ts[i]?=some t/\x=.ref t:=by
 unfold dV at h
 rw[jN]at h
 obtain⟨h1,h2⟩:=h
 rw[al]at h1 h2
 obtain⟨p,e1,e2⟩:=aY.mp h1
 obtain⟨t,e3,e4⟩:=aY.mp h2
 exact⟨p,t,e1,e2.symm,e3,e4.symm⟩
section
variable{en dn q:Str}{pr:Arguments}{p1 p3 p4 tP QU:Pos}{c P:Addr}
theorem Hh(hr:f' kk X.A)(T:Dy en dn pr (.Subscript (.Name dn p2) (.Name en p3) p4) sc)(kL:X.env.code=.ref c)(IB:codeHdIn X.K c P=true)(S7:X.K.lookup P=none)(hB:qw X.base X.mg)(hm:X.mg "min"=none)
  (fj:X.env.cells=cellsFrom m X.env.scope.names []) (hN:X.N[i]?=some dn:=by rfl) (hk:X.env.scope.names.lookup dn=some .cell:=by rfl) (Sn:∀env:Env,cI env sc.names []=[(dn,(env.cells.lookup dn).getD 0)]:=by intro _;rfl) (qA:∀x∈sc.names,x.2=.free->x.1=dn:=by decide)
  (hq:X.env.qual++"<lambda>"=q:=by rfl) (MY:defaultsOf pr X.env=([],[]):=by rfl) (gS:X.calm=true:=by rfl) (hg:Gl X "min":=by rfl) (Ri:(dn==("__debug__":Str))=false:=by decide) (Cs:(dn==("__classdict__":Str))=false:=by decide)
  (he:starEach [.Name dn p1] X.env=(false,eval (.Name dn p1) X.env)::starEach [] X.env:=by rfl) :
  SE X (.Call (.Name "min" p) [.Name dn p1] [⟨some "key",.Lambda pr (.Subscript (.Name dn p2) (.Name en p3) p4) sc tP,QU⟩] pos) (rN i j P tP q):=⟨fun pins s σ H Q I h=>by
 obtain⟨μ,ρ,st,l,h⟩:=h
 unfold rN at h
 cases e1:ρ[i]? with
 |none=>rw[e1]at h;exact h.elim
 |some ox=>
  cases ox with
  |none=>rw[e1]at h;exact h.elim
  |some x=>
   rw[e1]at h
   simp only at h
   cases e2:qv st x with
   |none=>rw[e2]at h;exact h.elim
   |some nk=>
    obtain⟨n,kvs⟩:=nk
    rw[e2]at h
    simp only at h
    cases e3:i7 kvs with
    |none=>rw[e3]at h;exact h.elim
    |some ks=>
     rw[e3]at h
     simp only at h
     by_cases e4:p_ st j P tP q
     ·rw[aw e4]at h
      cases e5:kvs[jp (fun a=>ks.getD a []) (kvs.length-1)]? with
      |none=>rw[e5]at h;exact h.elim
      |some pk=>
       rw[e5]at h
       simp only[cA]at h
       obtain⟨v,hσ,rx⟩:=ky l.env e1
       obtain⟨a,vs,hn,hmu,rfl,ha,rr⟩:=qE l.sto e2 rx
       obtain⟨ts,rfl,hts⟩:=rO e3 rr
       have hc:∃c0,X.env.cells.lookup dn=some c0:=by rw[fj];exact jf hk
       obtain⟨c0,Iq⟩:=hc
       obtain⟨aP,hP0,eP,ps,hP,ht,Nh⟩:=l.sto.get e4
       subst eP
       refine eD (me I hg hm (by rfl) ?_ (by decide) (by decide))
       refine callWith_builtin_kwB (by rfl) (by rfl) (evalArgs_kw2 (by rfl) ?_ he)
       refine fI ((qB (pv i hN (.inr (.inl hk)) Ri Cs) yp) pos pins s σ H (fun vs H1=>vs=[.ref a]/\H1=H) I ⟨_,hσ,rfl,rfl⟩) fun us s1 tQ=>?_
       obtain⟨vs1,H1,I1,r1,rfl,rfl⟩:=tQ
       obtain⟨u1,rfl,ru1⟩:=lL r1
       obtain rfl:u1=Value.ref a:=ru1
       obtain⟨mm,FZ,hlk⟩:=id I1.loc
       obtain⟨u,ru,lk⟩:=hlk i dn (.ref a) hN hσ (.inr (.inl hk))
       obtain rfl:u=Value.ref a:=ru
       have fR:s1.heap.IsCell c0 (some (.ref a)):=by
        rcases lk with⟨kl,_⟩|⟨_,c1,hc1,hcc⟩
        ·have:X.env.scope.names.lookup dn=some .local:=kl
         rw[hk]at this;cases this
        ·rw[Iq]at hc1;cases hc1;exact hcc
       have jd:closureFor sc X.env=pure [(dn,c0)]:=by
        rw[zX (fun x hx hf=>by rw[qA x hx hf];exact⟨c0,Iq⟩),Sn,Iq];rfl
       show wpAny _ _ (evalAll ((do let v <- eval (.Lambda pr (.Subscript (.Name dn p2) (.Name en p3) p4) sc tP) X.env;standAt pos;pure v)::[])) _ _ s1
       refine wpAny_evalAll_cons (af (DE MY hq kL IB S7 hB jd I1 hP ht Nh fun f cd ct pm h' t H' hH I2 hf zK hx=>af (kh (au (wpAny_evalAll_nil ?_)))))
       have hS':fG X.K X.mg μ st H'/\c9 X.K H1 H':=by
        rcases hH with⟨g1,g2,rfl⟩|rfl
        ·exact l.sto.tabbed e4 hP g2 ht g1
        ·exact⟨l.sto,c9.refl⟩
       obtain⟨S',X'⟩:=hS'
       have lT:H' a=some (.dK (dV kvs (ts.map V.ref))):=by
        rcases hH with⟨g1,g2,rfl⟩|rfl
        ·rw[qF (fun z=>by rw[z,hP]at ha;cases ha) (fun z=>by rw[z,g2]at ha;cases ha)];exact ha
        ·exact ha
       have hcell':h'.IsCell c0 (some (.ref a)):=by
        obtain⟨o,ho,hd⟩:=fR
        exact⟨o,hx c0 o (fun z=>by have:=I1.freeC _ _ Iq;rw[z,hP]at this;cases this) ho,hd⟩
       have dH:(dV kvs (ts.map V.ref)).length=kvs.length:=pG rr
       have Cm:0<kvs.length:=by
        cases kvs with
        |nil=>simp at e5
        |cons _ _=>simp
       have zx:∀(i:Nat) (k:fK) (x:V),(dV kvs (ts.map V.ref))[i]?=some (k,x)->x=.ref (ts.getD i 0)/\eG X.K H' (ts.getD i 0) ((ks.getD i []).map V.int):=fun i k x e=>by
        obtain⟨p',t',f1,f2,f3,f4⟩:=DF rr e
        have:ts.getD i 0=t':=by rw[az,f3];rfl
        rw[this]
        exact⟨f4,X' _ _ (hts i t' f3)⟩
       refine DA (pins:=pins) (H:=H') (kvs:=dV kvs (ts.map V.ref)) (kf:=fun a=>ks.getD a []) (tv:=fun a=>ts.getD a 0) T (I.ok.hd gS) (by have:=hr.dp;omega) (by have:=hr.un;omega) I2 lT hf zK hcell' (by rw[dH];exact Cm) zx fun v h2 t2 k x ek rk I3=>?_
       rw[dH]at ek
       obtain⟨p',t',f1,f2,_,_⟩:=DF rr ek
       rw[e5]at f1;cases f1
       subst f2
       exact⟨_,H',I3,rk,h μ _ H' (ae _) X' S' (DK.w_rel _)⟩
     ·rw[aD e4]at h;exact h.elim⟩
end
def BF(x y:W)(st:List ai):R W:=match x,y with
 |.int i,.int j=>.ok (.bl (decide (i<j))) st
 |.tup a,.tup b=>(match fQ a,fQ b with
  |some ns,some ms=>.ok (.bl (HT.lexLt ns ms)) st
  |_,_=>.bad)
 |_,_=>.bad
theorem IS{k:Nat}(hr:f' k X.A):re X (compareOp .Lt) BF:=⟨fun pins s σ H x y v u Q I rv ru ⟨μ,st,wx,wy,S,rx,ry,q⟩=>by
 cases wx with
 |int i=>
  cases wy with
  |int j=>exact w_lt.h pins s σ H x y v u Q I rv ru ⟨μ,st,.int i,.int j,S,rx,ry,q⟩
  |_=>exact q.elim
 |tup a=>
  cases wy with
  |tup b=>
   simp only[BF]at q
   cases e1:fQ a with
   |none=>rw[e1]at q;exact q.elim
   |some ns=>
    cases e2:fQ b with
    |none=>rw[e1,e2]at q;exact q.elim
    |some ms=>
     rw[e1,e2]at q
     obtain⟨p,vs,rfl,hS,r⟩:=rx.tupE
     obtain⟨p2,vs2,rfl,hS2,r2⟩:=ry.tupE
     have:=mC e1 r;subst this
     have:=mC e2 r2;subst this
     exact KH (by have:=hr.un;omega) pins s σ H _ _ v u Q I rv ru ⟨p,p2,ns,ms,rfl,rfl,hS,hS2,j4 S q⟩
  |_=>exact q.elim
 |_=>cases wy<;>exact q.elim,fun x y st=>by
 unfold BF
 split
 ·trivial
 ·split<;>trivial
 ·trivial⟩
section
variable{o f:Expr}{fo fk fd fe:FE}
def rP(fo fk fd:FE):FE:=fun ρ st=>(fo ρ st).bind fun x st=>match ga st x with
 |some _=>(fk ρ st).bind fun y st=>(fd ρ st).bind fun z st=>(match ga st x,ie y with
  |some (_,kvs),some k=>.ok ((iB kvs k).getD z) st
  |_,_=>.bad)
 |none=>.bad
theorem Hi(hr:f' kk X.A)(ho:SE X o fo)(he:SE X e fe)(hf:SE X f fd)(m:M2 X o "get" fq e f cX:=by exact⟨by rfl,by rfl,by rfl,by rfl⟩):SE X (.Call (.Attribute o "get" fq) [e,f] [] cX) (rP fo fe fd):=⟨(CS (zR hr) ho.h he.h hf.h m).imp fun σ H Q h=>by
 obtain⟨μ,ρ,st,l,h⟩:=h
 refine⟨μ,ρ,st,l,RK.bind h l fun μ1 st1 x v H1 p1 x1 l1 q1 h1=>?_⟩
 cases e0:ga st1 x with
 |none=>rw[e0]at h1;exact h1.elim
 |some nk0=>
  obtain⟨n0,kvs0⟩:=nk0
  rw[e0]at h1
  simp only at h1
  obtain⟨a0,vs0,_,hm0,rfl,ha0,_⟩:=jn l1.sto e0 q1
  refine⟨a0,rfl,.inl ⟨_,ha0⟩,μ1,ρ,st1,l1,RK.bind h1 l1 fun μ2 cH y u H2 p2 x2 l2 q2 h2=>⟨μ2,ρ,cH,l2,RK.bind h2 l2 fun μ3 iy d t H3 p3 x3 l3 q3 h3=>?_⟩⟩
  cases e1:ga iy x with
  |none=>rw[e1]at h3;exact h3.elim
  |some nk=>
   obtain⟨n,kvs⟩:=nk
   cases e2:ie y with
   |none=>rw[e1,e2]at h3;exact h3.elim
   |some k=>
    rw[e1,e2]at h3
    simp only at h3
    obtain⟨a,vs,_,hm,ea,ha,r⟩:=jn l3.sto e1 ((q1.mono p2 x2).mono p3 x3)
    cases ea
    have:=mU e2 q2
    subst this
    rcases pF k r with⟨w,z,g1,g2,g3⟩|⟨g1,g2⟩
    ·rw[g1]at h3
     exact⟨some z,by rw[<- g2];exact qo.r ha,h3 μ3 z H3 (ae _) c9.refl l3.sto g3⟩
    ·rw[g1]at h3
     exact⟨none,by rw[<- g2];exact qo.r ha,h3 μ3 t H3 (ae _) c9.refl l3.sto q3⟩⟩
end
section
variable{y:Str}{a b:Expr}{fs:FA}
end
inductive DefIn(K:Frag)(x:Str)(st:Stmt):Prop
 |mk {ad:Addr} {od an:Option Addr} {sl:Array (Option Value)} {oc kV dc pm cd ct:Value} (a:nsIn K mainGlobals x=some (some (.ref ad)))
   (l:K.lookup ad=some ⟨oc,od,.func (fnOf x x (dA st) (dB st) (aV st) .none kV dc pm an cd ct),sl⟩) (c:codeIn K cd x=true) (k:keepIn K (.ref ad)=true):DefIn K x st
theorem DefIn.fn{st:Stmt}(d:DefIn K x st)(X:K.In h)(G:h.Ns mainGlobals mg):∃f fd,kS K x x st f fd/\mg x=some (.ref f):=by
 obtain⟨a,l,c,k⟩:=d
 exact⟨_,_,uY (st:=st) l c k,mg_of X G a⟩
theorem SN:∀{l:List Value},l.length=1->∃a,l=[a]
 |[a],_=>⟨a,rfl⟩
theorem Q8:∀{l:List Value},l.length=2->∃a b,l=[a,b]
 |[a,b],_=>⟨a,b,rfl⟩
theorem Q9:∀{l:List Value},l.length=3->∃a b c,l=[a,b,c]
 |[a,b,c],_=>⟨a,b,c,rfl⟩
theorem SQ:∀{l:List Value},l.length=4->∃a b c d,l=[a,b,c,d]
 |[a,b,c,d],_=>⟨a,b,c,d,rfl⟩
theorem SR:∀{l:List Value},l.length=5->∃a b c d e,l=[a,b,c,d,e]
 |[a,b,c,d,e],_=>⟨a,b,c,d,e,rfl⟩
theorem SU:∀{l:List Value},l.length=6->∃a b c d e f,l=[a,b,c,d,e,f]
 |[a,b,c,d,e,f],_=>⟨a,b,c,d,e,f,rfl⟩
section
variable{P:Program}{w:World}{K:Frag}{mg:Str->Option Value}{base:Heap}{k n:Nat}{x:Str}{st:Stmt}{f:Addr}{fd:FuncData}{ps:List Str}{G:List W->List ai->R W}
theorem DG(F:kS K x x st f fd)(hm:mg x=some (.ref f))(ok:e_ P w K mg base (ji P w) k f fd ps (kT K mg n G))(hn:ps.length=n:=by rfl)
  (hb:∀(kV im pm:Value) (an:Option Addr) (gq ct:Value) (us:List Value),us.length=ps.length->bindArgs (fnOf x x (dA st) (dB st) (aV st) .none kV im pm an gq ct) ⟨us,[]⟩=pure (ps.zip us):=by(intro _ _ _ _ _ _ _ q;first|(obtain⟨_,rfl⟩:=SN q;rfl)|(obtain⟨_,_,rfl⟩:=Q8 q;rfl)|(obtain⟨_,_,_,rfl⟩:=Q9 q;rfl)|(obtain⟨_,_,_,_,rfl⟩:=SQ q;rfl)|(obtain⟨_,_,_,_,_,rfl⟩:=SR q;rfl)|(obtain⟨_,_,_,_,_,_,rfl⟩:=SU q;rfl))):dS P w K mg base k x n G:=qD F hm hn hb ok
theorem Ly{h:Heap}(d:DefIn K x st)(X:K.In h)(Gs:h.Ns mainGlobals mg)(ok:∀{f:Addr} {fd:FuncData},kS K x x st f fd->e_ P w K mg base (ji P w) k f fd ps (kT K mg n G))(hn:ps.length=n:=by rfl)
  (hb:∀(kV im pm:Value) (an:Option Addr) (gq ct:Value) (us:List Value),us.length=ps.length->bindArgs (fnOf x x (dA st) (dB st) (aV st) .none kV im pm an gq ct) ⟨us,[]⟩=pure (ps.zip us):=by(intro _ _ _ _ _ _ _ q;first|(obtain⟨_,rfl⟩:=SN q;rfl)|(obtain⟨_,_,rfl⟩:=Q8 q;rfl)|(obtain⟨_,_,_,rfl⟩:=Q9 q;rfl)|(obtain⟨_,_,_,_,rfl⟩:=SQ q;rfl)|(obtain⟨_,_,_,_,_,rfl⟩:=SR q;rfl)|(obtain⟨_,_,_,_,_,_,rfl⟩:=SU q;rfl))):dS P w K mg base k x n G:=let ⟨_,_,F,m⟩:=d.fn X Gs;qD F m hn hb (ok F)
end
def Nz:List Str->Bool
 |[]=>true
 |x::r=>!(r.any fun y=>y==x)&&Nz r
theorem vn:∀{l:List Str},Nz l=true->l.Nodup
 |[],_=>.nil
 |x::r,h=>by
  simp only[Nz,bf,hV,eX,bT]at h
  exact bx.mpr ⟨fun m=>h.1 x m rfl,vn h.2⟩
section
variable{fe:FE}{sp:Scope}
theorem nU{N:List Str}(a:sp.kind=.function:=by rfl)(b:sp.isCoroutine=false:=by rfl)(c:sp.isGenerator=false:=by rfl)(d:N.Nodup:=by decide +kernel)(f:N.take ps.length=ps:=by rfl)(g:∀x∈ps,sp.names.lookup x=some .local\/sp.names.lookup x=some .cell:=by decide +kernel)(h:∀y∈sp.names,y.2≠.free:=by decide +kernel):bR N ps sp:=⟨a,b,c,d,f,g,h⟩
theorem sS(i:Nat){iM:Pos}(sc:bR X.N ps sp)(he:SE X e fe)(hi:X.N[i]?=some x:=by rfl)(hx:Co X.env.scope x:=by first|exact .inl rfl|exact .inr rfl)(hs:swapsWith e (some (.Name x iM)) pos.line X.env=pure false:=by rfl)(hf:X.fn x=true\/X.env.scope.names.lookup x=some .local:=by first|exact .inl rfl|exact .inr rfl|assumption) :
  SS X (.Assign [.Name x iM] e pos) (bO i fe):=Ll sc.nd hi hx he hs hf
theorem sG(i:Nat)(sc:bR X.N ps sp)(hi:X.N[i]?=some x:=by rfl)(hx:Co X.env.scope x:=by first|exact .inl rfl|exact .inr rfl)(hf:X.fn x=true\/X.env.scope.names.lookup x=some .local:=by first|exact .inl rfl|exact .inr rfl|assumption):SG X (.Name x pos) (eZ i):=u6 sc.nd hi hx hf
theorem sC{cl:List (Str×Addr)}{C s0 H0 fp}(i:Nat)(hN:nm.Nodup:=by decide +kernel)(hi:nm[i]?=some x:=by rfl)(hx:Co (bK X nm scope cl C s0 H0 fp).env.scope x:=by first|exact .inl rfl|exact .inr rfl)(hf:(bK X nm scope cl C s0 H0 fp).fn x=true\/(bK X nm scope cl C s0 H0 fp).env.scope.names.lookup x=some .local:=by first|exact .inl rfl|exact .inr rfl|assumption) :
  SG (bK X nm scope cl C s0 H0 fp) (.Name x pos) (eZ i):=u6 (X:=bK X nm scope cl C s0 H0 fp) hN hi hx hf
theorem Tp{cl:List (Str×Addr)}{C s0 H0 fp}(i:Nat)(hN:Nz nm=true:=by first|rfl|kernel_rfl)(hi:nm[i]?=some x:=by rfl)(hx:Co (bK X nm scope cl C s0 H0 fp).env.scope x:=by first|exact .inl rfl|exact .inr rfl)(hf:(bK X nm scope cl C s0 H0 fp).fn x=true\/(bK X nm scope cl C s0 H0 fp).env.scope.names.lookup x=some .local:=by first|exact .inl rfl|exact .inr rfl|assumption) :
  SG (bK X nm scope cl C s0 H0 fp) (.Name x pos) (eZ i):=u6 (X:=bK X nm scope cl C s0 H0 fp) (vn hN) hi hx hf
end
def Hj:Expr->List Str
 |.Name x _=>[x]
 |.Tuple es _ _=>es.filterMap fun e=>match e with
  |.Name x _=>some x
  |_=>none
 |_=>[]
def LA(N:List Str):List Str->List (Option Nat)->List Str
 |_,[]=>[]
 |ts,some j::r=>N.getD j "" :: LA N ts r
 |ts,none::r=>ts.headD "" :: LA N ts.tail r
abbrev IT(X:Cx)(tg:Expr)(cap:List (Option Nat)):List Str:=LA X.N (Hj tg) cap
section
variable{fi:FI}{f:FG}{t:FT}{el:FE}
theorem Ag(fj:X.env.cells=cellsFrom m X.env.scope.names [])(hi:SI X tg iter fi)(hg:∀cl C s0 H0 fp,SG (bK X (IT X tg cap) scope cl C s0 H0 fp) tg f)(ht:∀cl C s0 H0 fp,Lp (bK X (IT X tg cap) scope cl C s0 H0 fp) kU t)
  (he:∀cl C s0 H0 fp,SE (bK X (IT X tg cap) scope cl C s0 H0 fp) m7 el) (hB:wI X.env.scope.names scope.names (IT X tg cap) cap X.N=true:=by first|rfl|kernel_rfl) (gS:X.calm=true:=by rfl) (gF:scope.kind=.function:=by rfl) (hs:∀x,foldedSetIterable iter X.env x=pure x:=by intro _;rfl) :
  SE X (.ListComp m7 [⟨tg,iter,kU,0⟩] scope pos) (dX cap fi f t el):=u9 hB fj hi hg ht he gS gF hs
theorem qc{x0:Str}{p0 p1:Pos}(MZ:SG X (.Name x0 p0) (eZ i))(fj:X.env.cells=cellsFrom m X.env.scope.names [])(hi:SI X tg iter fi)(hg:∀cl C s0 H0 fp,SG (bK X (IT X tg cap) scope cl C s0 H0 fp) tg f)(ht:∀cl C s0 H0 fp,Lp (bK X (IT X tg cap) scope cl C s0 H0 fp) kU t)
  (he:∀cl C s0 H0 fp,SE (bK X (IT X tg cap) scope cl C s0 H0 fp) m7 el) (hB:wI X.env.scope.names scope.names (IT X tg cap) cap X.N=true:=by first|rfl|kernel_rfl) (M9:swapsWith (.ListComp m7 [⟨tg,iter,kU,0⟩] scope pos) (some (.Name x0 p0)) p1.line X.env=pure true:=by first|rfl|kernel_rfl) (gS:X.calm=true:=by rfl) (gF:scope.kind=.function:=by rfl) (hs:∀x,foldedSetIterable iter X.env x=pure x:=by intro _;rfl) :
  SS X (.Assign [.Name x0 p0] (.ListComp m7 [⟨tg,iter,kU,0⟩] scope pos) p1) (u7 (dX cap fi f t el) (eZ i)):=rE MZ hB fj hi hg ht he gS gF hs M9
end
end L2
variable{ρ:L2.bY}{fa fb fe fo el:L2.FE}{fi:L2.FI}
namespace HT
open PySem PyProof.Rows
section
open PySem.SeqAt
open PySem.AutoSeq1 (wpAny_loadPart')
open PySem.MeetsSeq PySem.MeetsSeq2 PySem.MeetsSeq3
end
end HT
namespace L2
open PySem PySem.Spec PyProof.Rows
section
end
end L2
namespace PK
open PySem
section
variable{w:World}{K1 K2:Type}[DecidableEq K1][DecidableEq K2](knd:KeyKind prog w K1)(hk:HeapKind prog w K2)
def Is(h:Heap)(k:K1×K2)(a:Addr):Prop:=∃o v b n,h.get? a=some o/\o.cls=.type "tuple"/\o.data=.seq #[v,.ref b] n/\knd.is k.1 v=true/\hk.is h k.2 b
def hash(k:K1×K2):Int:=reduceHash (Builtin.Tuple.tupleHashOf [knd.hash k.1,hk.hash k.2])
variable{knd hk}
theorem Is.typeIs{k:K1×K2}(x:Is knd hk s.heap k a):s.TypeIs (.ref a) "tuple":=let ⟨o,_,_,_,ho,hc,_⟩:=x;⟨o,ho,hc⟩
theorem Is.inj{x y:K1×K2}(hx:Is knd hk h x a)(hy:Is knd hk h y a):x=y:=by
 obtain⟨o,v,b,n,ho,_,hd,h1,h2⟩:=hx
 obtain⟨o',v',b',n',ho',_,hd',h1',h2'⟩:=hy
 obtain rfl:o=o':=aM (ho.symm.trans ho')
 rw[hd]at hd'
 injection hd' with e _
 have e:=cC Array.toList e
 simp only[List.cons.injEq,Value.ref.injEq,and_true]at e
 obtain⟨rfl,rfl⟩:=e
 exact Prod.ext (knd.inj _ _ _ h1 h1') (hk.inj h2 h2')
theorem Is.keeps{k:K1×K2}{d:Addr}{es ep}(x:Is knd hk h k a)(ho:h.get? d=some o)(hd:o.data=.dict es ep)(hs:Heap.SameBut d h h'):Is knd hk h' k a:=by
 obtain⟨o',v,b,n,ho',hc,hd',h1,h2⟩:=x
 have lx:a≠d:=by
  rintro rfl
  obtain rfl:o'=o:=aM (ho'.symm.trans ho)
  rw[hd]at hd';exact nomatch hd'
 exact⟨o',v,b,n,(hs.2 a lx).trans ho',hc,hd',h1,hk.keeps h2 ho hd hs⟩
theorem pyHash{k:K1×K2}{Q:Int->Shared->Prop}(hu:A.units<cLine)(hr:hk.room A.in1)(hx:Is knd hk s.heap k a)(h:Q (hash knd hk k) { s with toks:=s.toks+(1+hk.draws k.2+1) }) :
  wpAny (model prog w) A (PySem.pyHash (.ref a)) Q E s:=by
 have hT:=hx.typeIs
 obtain⟨o,v,b,n,ho,_,hd,h1,h2⟩:=hx
 unfold PySem.pyHash
 first|unfold pyHashByItsType|skip
 first|refine af (wpAny_cRoomFor_or (.inr hu) ?_)|skip
 refine af (eQ hT F.slot_tuple_hash.lookup ?_)
 show wpAny _ _ (if (some (Value.builtin "tuple.__hash__")==some Value.none)=true then _ else _) Q E s
 rw[aD (by rw[beq_builtin_none];exact bM)]
 refine af (eQ hT F.slot_tuple_hash.lookup ?_)
 show wpAny _ _ (callSpecialIfBoundUnlessNone? (.ref a) "__hash__" _ >>= _) Q E s
 refine af (fY hT F.slot_tuple_hash (cZ F.slot_tuple_hash hT F.entry_tuple_hash ?_ (F.args_tuple_hash_1 _)))
 show wpAny _ _ (Builtin.Tuple.tupleItemsOf (.ref a) >>= _) _ _ s
 refine af (jF ho hd ?_)
 refine af ?_
 rw[<- jG]
 refine gv _
  (fun rest (c:Array Int) s'=>(rest=[v,.ref b]/\c.toList=[]/\s'=s)\/(rest=[.ref b]/\c.toList=[knd.hash k.1]/\s'={ s with toks:=s.toks+1 })\/(rest=[]/\c.toList=[knd.hash k.1,hk.hash k.2]/\s'={ s with toks:=s.toks+1+hk.draws k.2 }))
  _ ?_ ?_ _ _ (.inl ⟨rfl,rfl,rfl⟩)
 ·rintro x rest c s' (⟨e,hc,rfl⟩|⟨e,hc,rfl⟩|⟨e,_⟩)
  ·injection e with e1 e2
   subst e1;subst e2
   refine af (knd.pyHash h1 ?_)
   first
    |exact au (.inr (.inl ⟨rfl,by simp[hc],rfl⟩))
    |exact af (au (au (.inr (.inl ⟨rfl,by simp[hc],rfl⟩))))
  ·injection e with e1 e2
   subst e1;subst e2
   refine af (hk.pyHash (k:=k.2) hr h2 ?_)
   first
    |exact au (.inr (.inr ⟨rfl,by simp[hc],rfl⟩))
    |exact af (au (au (.inr (.inr ⟨rfl,by simp[hc],rfl⟩))))
  ·cases e
 ·rintro c s' (⟨e,_⟩|⟨e,_⟩|⟨_,hc,rfl⟩)
  ·cases e
  ·cases e
  show wpAny _ _ (retInt (Builtin.Tuple.tupleHashOf c.toList)) _ _ _
  rw[hc]
  refine lW ?_
  show wpAny _ _ (if (decide (-(2:Int)^63<=Builtin.Tuple.tupleHashOf [knd.hash k.1,hk.hash k.2])&&decide (Builtin.Tuple.tupleHashOf [knd.hash k.1,hk.hash k.2]<2^63))=true then _ else _) Q E _
  unfold hash reduceHash at h
  by_cases hr:(decide (-(2:Int)^63<=Builtin.Tuple.tupleHashOf [knd.hash k.1,hk.hash k.2])&&decide (Builtin.Tuple.tupleHashOf [knd.hash k.1,hk.hash k.2]<2^63))=true
  ·rw[aw hr]
   rw[aw hr]at h
   exact au (by simpa[Nat.add_assoc]using h)
  ·rw[aD hr]
   rw[aD hr]at h
   exact af (gK (au (by simpa[Nat.add_assoc]using h)))
theorem Hk{x y:K1×K2}{P:Fin->Shared->Prop}(hr:hk.room A)(hx:Is knd hk s.heap x a)(hy:Is knd hk s.heap y b)(h:P (.done (.ret (.bool (decide (x=y))))) s) :
  wpAny (model prog w) A (Builtin.«tuple.__eq__» ⟨[.ref a,.ref b],[]⟩) P E s:=by
 have hTb:=hy.typeIs
 obtain⟨oa,v,c,na,hoa,_,hda,h1,h2⟩:=hx
 obtain⟨ob,u,d,nb,FN,_,yg,g1,g2⟩:=hy
 show wpAny _ _ (isInstance (.ref b) (.type "tuple") >>= _) _ _ s
 refine af (iq hTb ij ?_)
 simp only[dO,ce,fD]
 refine af (jF hoa hda ?_)
 refine af (jF FN yg ?_)
 refine af ?_
 refine gv _
  (fun rest r s'=>r.1=none/\s'=s/\((rest=[(v,u),(.ref c,.ref d)])\/(rest=[(.ref c,.ref d)]/\x.1=y.1)\/(rest=[]/\x=y)))
  _ ?_ ?_ _ _ ⟨rfl,rfl,.inl rfl⟩
 ·rintro⟨p,q⟩ rest r s' ⟨hr0,rfl,e|⟨e,e0⟩|⟨e,_⟩⟩
  ·injection e with e1 e2
   injection e1 with e3 e4
   subst e3;subst e4;subst e2
   refine af (knd.eqBool (a:=x.1) (b:=y.1) h1 g1 ?_)
   by_cases z:x.1=y.1
   ·rw[bp z]
    simp only[dO,ce,fD]
    exact au ⟨rfl,rfl,.inr (.inl ⟨by first|rfl|trivial,z⟩)⟩
   ·rw[a7 z]
    simp only[jC,d7]
    have hf:decide (x=y)=false:=a7 fun e=>z (by rw[e])
    rw[hf]at h
    exact af (au (au (au h)))
  ·injection e with e1 e2
   injection e1 with e3 e4
   subst e3;subst e4;subst e2
   refine af (hk.eqBool (x:=x.2) (y:=y.2) hr h2 g2 ?_)
   by_cases z:x.2=y.2
   ·rw[bp z]
    simp only[dO,ce,fD]
    exact au ⟨rfl,rfl,.inr (.inr ⟨by first|rfl|trivial,Prod.ext e0 z⟩)⟩
   ·rw[a7 z]
    simp only[jC,d7]
    have hf:decide (x=y)=false:=a7 fun e=>z (by rw[e])
    rw[hf]at h
    exact af (au (au (au h)))
  ·cases e
 ·rintro⟨r1,r2⟩ s' ⟨hr0,rfl,e|⟨e,_⟩|⟨_,e⟩⟩
  ·cases e
  ·cases e
  simp only at hr0
  subst hr0
  refine au ?_
  rw[bp e]at h
  exact h
theorem eqBool{x y:K1×K2}{a b:Addr}{Q:Bool->Shared->Prop}(hu:A.units<cLine)(hr:hk.room A.in1)(hx:Is knd hk s.heap x a)(hy:Is knd hk s.heap y b)(h:Q (decide (x=y)) s) :
  wpAny (model prog w) A (PySem.eqBool (.ref a) (.ref b)) Q E s:=by
 unfold PySem.eqBool
 try with_reducible refine cv ?_
 show wpAny _ _ (if (Value.ref a==Value.ref b)=true then _ else _) Q E s
 by_cases hab:(Value.ref a==Value.ref b)=true
 ·rw[aw hab]
  have e:a=b:=by have:=je hab;injection this
  subst e
  obtain rfl:=hx.inj hy
  exact af (gK (au (by simpa using h)))
 ·rw[aD hab]
  exact af (wpAny_richCompare_same_room (op:=.Eq) hx.typeIs hy.typeIs F.slot_tuple_eq
   (cZ F.slot_tuple_eq hx.typeIs F.entry_tuple_eq (Hk hr hx hy ⟨_,rfl,(fun e=>nomatch e),dP h⟩) (F.args_tuple_eq_2 _ _)) hu)
theorem quiet{k:K1×K2}{Q:Bool->Shared->Prop}(hq:∀{b:Addr} {Q:Bool->Shared->Prop},hk.is s.heap k.2 b->Q true s->wpAny (model prog w) A (eqIsQuiet 7 (.ref b)) Q E s)(hx:Is knd hk s.heap k a)(h:Q true s):wpAny (model prog w) A (eqIsQuiet 8 (.ref a)) Q E s:=by
 have hT:=hx.typeIs
 obtain⟨o,v,b,n,ho,_,hd,h1,h2⟩:=hx
 unfold eqIsQuiet
 refine af (eQ hT F.slot_tuple_eq.lookup ?_)
 show wpAny _ _ (isInstance (.ref a) (.type "tuple") >>= _) _ _ s
 refine af (iq hT ij ?_)
 simp only[dO,ce,fD]
 refine af (fF ho hd ?_)
 refine af ?_
 show wpAny _ _ (forIn #[v,Value.ref b] _ _) _ _ s
 rw[<- jG]
 refine gv _ (fun rest r s'=>r.1=none/\s'=s/\(rest=[v,.ref b]\/rest=[.ref b]\/rest=[])) _ ?_ ?_ _ _ ⟨rfl,rfl,.inl rfl⟩
 ·rintro x rest r s' ⟨hr,rfl,e|e|e⟩
  ·injection e with e1 e2
   subst e1;subst e2
   rw[eqIsQuiet_byValue _ (knd.byValue _ _ h1)]
   refine af (au ?_)
   simp only[dO,ce,fD]
   exact au ⟨rfl,rfl,.inr (.inl (by first|rfl|trivial))⟩
  ·injection e with e1 e2
   subst e1;subst e2
   refine af (hq h2 ?_)
   simp only[dO,ce,fD]
   exact au ⟨rfl,rfl,.inr (.inr (by first|rfl|trivial))⟩
  ·cases e
 ·rintro⟨r1,r2⟩ s' ⟨hr,rfl,_⟩
  simp only at hr
  subst hr
  exact au h
end
theorem BG{w:World}{K:Type}[DecidableEq K]{knd:KeyKind prog w K}(f:Nat){ks:List K}{Q:Bool->Shared->Prop}(hk:IsTupleKey knd s.heap ks a)(h:Q true s):wpAny (model prog w) A (eqIsQuiet (f+1) (.ref a)) Q E s:=by
 have hT:=hk.typeIs
 obtain⟨o,items,n,ho,_,hd,hi⟩:=hk
 unfold eqIsQuiet
 refine af (eQ hT F.slot_tuple_eq.lookup ?_)
 show wpAny _ _ (isInstance (.ref a) (.type "tuple") >>= _) _ _ s
 refine af (iq hT ij ?_)
 simp only[dO,ce,fD]
 refine af (fF ho hd ?_)
 refine af ?_
 show wpAny _ _ (forIn items _ _) _ _ s
 rw[<- jG]
 refine gv _ (fun rest r s'=>r.1=none/\s'=s/\∀v∈rest,carriedByValue v=true) _ ?_ ?_ _ _ ⟨rfl,rfl,hi.byValue⟩
 ·rintro v rest r s' ⟨hr,rfl,lZ⟩
  rw[eqIsQuiet_byValue _ (lZ v aN)]
  refine af (au ?_)
  simp only[dO,ce,fD]
  exact au ⟨rfl,rfl,fun u hu'=>lZ u (aA _ hu')⟩
 ·rintro⟨r1,r2⟩ s' ⟨hr,rfl,_⟩
  simp only at hr
  subst hr
  exact au h
def kind{w:World}{K1 K:Type}[DecidableEq K1][DecidableEq K](knd:KeyKind prog w K1)(kd:KeyKind prog w K):HeapKind prog w (K1×List K) where
 is:=Is knd (tupleKind kd)
 hash:=hash knd (tupleKind kd)
 draws:=fun k=>1+(k.2.length+1)+1
 room:=fun A=>A.units+1<cLine
 inj:=fun hx hy=>hx.inj hy
 keeps:=fun x ho hd hs=>x.keeps ho hd hs
 pyHash:=fun hu hk h=>pyHash (Nat.lt_of_succ_lt hu) hu hk h
 eqBool:=fun hu hx hy h=>eqBool (Nat.lt_of_succ_lt hu) hu hx hy h
 quiet:=fun hk h=>quiet (fun hb hq=>BG 6 hb hq) hk h
section
variable{w:World}{K:Type}[DecidableEq K]{knd:HeapKind prog w K}
theorem yR{d:Addr}{xs:List (K×Addr×Value)}{k:K}{dflt:Value}(hu:knd.room A)(qz:knd.is s.heap k a)(hm:s.heap.DictOfH knd d xs)
  (zu:∀p,atKey xs k=some p->Q p.2 { s with toks:=s.toks+knd.draws k })
  (pU:atKey xs k=none->∀h',h'.DictOfH knd d (xs++[(k,a,dflt)])->Heap.SameBut d s.heap h'->Q dflt { s with heap:=h',toks:=s.toks+knd.draws k })
  (hsz:xs.length<=sizeLine):wpAny (model prog w) A (dictSetDefault d (.ref a) dflt) Q E s:=by
 obtain⟨o,es,ep,ho,hc,hd,he,yl,hn⟩:=hm
 unfold dictSetDefault
 try with_reducible refine cv ?_
 refine af (knd.pyHash hu qz ?_)
 refine af (wpAny_dictFind_heap (s:={ s with toks:=s.toks+knd.draws k }) hu qz ho hd he yl hn ?_ ?_)
 ·intro hno
  have hnot:k∉xs.map (·.1):=not_mem_keys_of_get hno
  refine af (gK (af (wpAny_updateDictKeys (hz:=by have e:=size_of_entries he;omega) (s:={ s with toks:=s.toks+knd.draws k }) ho hd (au (pU (atKey_none_of_get hno) _ ⟨_,_,ep+1,fV _ ho (Obj.isFreed_of_dict (gj hd _)),
   hc.mapDictKeys _,gj hd _,?_,?_,?_⟩ (cy ..))))))
  ·simp[he,entryOfKey]
  ·intro x hx
   rcases aH.mp hx with hx|hx
   ·exact knd.keeps (yl x hx) ho hd (cy ..)
   ·simp only[bd]at hx
    subst hx
    exact knd.keeps qz ho hd (cy ..)
  ·rw[cG,cN]
   refine⟨hn,by simp,?_⟩
   intro x hx y hy
   simp only[aC,dk,bd]at hy
   subst hy
   exact fun e=>hnot (e▸hx)
 ·intro j p hj
  refine af (jZ (s:={ s with toks:=s.toks+knd.draws k }) ho hd ?_)
  rw[entry_at he j,hj]
  exact af (gK (au (zu p (atKey_of_get hn hj))))
theorem meets_setdefault(d a:Addr)(hd:(d==sysModules)=false)(dflt:Value) :
  MeetsIn prog w (Builtin.«dict.setdefault» ⟨[.ref d,.ref a,dflt],[]⟩) (fun A R s=>knd.room A.in1/\∃k xs,knd.is s.heap k a/\s.heap.DictOfH knd d xs/\xs.length<=sizeLine /\
   (∀p,atKey xs k=some p->R (.ok (.ret p.2)) { s with toks:=s.toks+knd.draws k }) /\
   (atKey xs k=none->∀h',h'.DictOfH knd d (xs++[(k,a,dflt)])->Heap.SameBut d s.heap h'->R (.ok (.ret dflt)) { s with heap:=h',toks:=s.toks+knd.draws k })):=
 .of_wp fun A R s ⟨hu,k,xs,qz,hm,hz,h1,h2⟩=>by
  unfold Builtin.«dict.setdefault»
  refine af ?_
  unfold Builtin.Dict.keyAndDefault
  refine af (l_ hm.typeIs ?_)
  show wpAny _ _ (pure (d,Value.ref a,some dflt)) _ _ s
  refine au ?_
  show wpAny _ _ (if (d==sysModules)=true then _ else(dictSetDefault d (.ref a) dflt >>= _)) _ _ s
  rw[aD (by rw[hd];exact bM)]
  exact af (yR hu qz hm (fun p hp=>au ⟨p.2,rfl,h1 p hp⟩) (fun hn h' hm' hs'=>au ⟨dflt,rfl,h2 hn h' hm' hs'⟩) hz)
end
end PK
namespace L2
open PySem PySem.Spec PyProof.Rows
section
variable{w:World}{es:List DictEntry}
theorem Pe(ok:jK P w H h)(e:H a=some (Nw a es)):DX a es h:=(show dU P w H h a (.ext (DX a es))from ok a _ e).1
theorem DH(d:DX a es h):dU P w H h a (Nw a es):=by
 refine⟨d,?_,fun h1 h2 ⟨o,ep,e,x,y⟩ k=>⟨o,ep,k o e,x,y⟩⟩
 obtain⟨o,ep,e,_⟩:=d
 exact⟨o,e⟩
theorem LB(ok:jK P w H h)(e:H a=some (.dK [])):DX a [] h/\(a==sysModules)=false:=by
 obtain⟨_,hd,vs,h_,dd⟩:=zS ok e
 cases h_
 obtain⟨o,es,ep,h1,h2,h3,_,h4,_⟩:=dd
 refine⟨⟨o,ep,h1,h2,?_⟩,hd⟩
 rw[h3]
 have:es.toList=[]:=by
  cases hh:es.toList with
  |nil=>rfl
  |cons x l=>rw[hh]at h4;cases h4
 rw[show es=[].toArray from by apply Array.ext';rw[this]]
theorem Hl(d:DX a es h)(q:Str):Nw a es≠ia a q:=fun z=>by
 injection z with z
 have:=congrFun z h
 have c:∃o vs t,h.get? a=some o/\o.data=.fields vs/\vs[1]?=some (.str q t):=this▸d
 obtain⟨o,ep,e,_,y⟩:=d
 obtain⟨o',vs,t,e',y',_⟩:=c
 rw[e]at e';cases e'
 rw[y]at y';cases y'
end
section
variable{K:Type}[DecidableEq K]{knd:HeapKind X.prog X.w K}{xs:List (K×Addr×Value)}{k:K}
abbrev yS(knd:HeapKind X.prog X.w K)(xs:List (K×Addr×Value)):List DictEntry:=xs.map (entryOfKey knd)
theorem IU(d:DX a (yS knd xs) s.heap)(yl:∀x∈xs,knd.is s.heap x.1 x.2.1)(hn:(xs.map (·.1)).Nodup):s.heap.DictOfH knd a xs:=by
 obtain⟨o,ep,h1,h2,h3⟩:=d
 exact⟨o,_,ep,h1,h2,h3,by simp,yl,hn⟩
theorem Hm{ys:List (K×Addr×Value)}(d:h'.DictOfH knd a ys):DX a (yS knd ys) h':=by
 obtain⟨o,es,ep,h1,h2,h3,h4,_⟩:=d
 refine⟨o,ep,h1,h2,?_⟩
 rw[h3,show es=(yS knd ys).toArray from by apply Array.ext';rw[h4]]
structure XD(knd:HeapKind X.prog X.w K)(H:Hp)(s:Shared)(a:Addr)(xs:List (K×Addr×Value)):Prop where
 d:DX a (yS knd xs) s.heap
 is:∀x∈xs,knd.is s.heap x.1 x.2.1
 nd:(xs.map (·.1)).Nodup
 sm:(a==sysModules)=false
 z:xs.length<=sizeLine
 mu:Ka (H a)
theorem Pf(hu:knd.room A.in1)(I:bj X pins σ H s)(x:XD knd H s a xs)(hk:knd.is s.heap k b){p:Addr×Value}(hp:atKey xs k=some p)(h:∀s',bj X pins σ H s'->Q p.2 s'):wpAny (model X.prog X.w) A (getItem (.ref a) (.ref b)) Q E s:=
 wpAny_getItem_heap hu hk (IU x.d x.is x.nd) hp (h _ (I.tok _))
end
theorem rQ:∀{ws:List W} {l:List Int},fQ ws=some l->ws=l.map W.int
 |[],l,h=>by simp only[fQ]at h;cases h;rfl
 |w::ws,l,h=>by
  cases w with
  |int z=>
   unfold fQ at h
   cases e:fQ ws with
   |none=>rw[e]at h;cases h
   |some r=>
    rw[e]at h
    cases h
    rw[rQ e];rfl
  |_=>unfold fQ at h;cases h
def pH:W->Option KX
 |.bl b=>some (.bo b)
 |.tup ws=>(match fQ ws,ws with
  |some ks,_=>some (.fl ks)
  |none,[.int i,.tup vs]=>(fQ vs).map (KX.pr i)
  |_,_=>none)
 |_=>none
theorem DI{w:W}{k:KX}(h:pH w=some k):w=k.w:=by
 cases w with
 |bl b=>cases h;rfl
 |tup ws=>
  simp only[pH]at h
  cases e:fQ ws with
  |some ks=>rw[e]at h;cases h;show _=W.tup _;rw[rQ e]
  |none=>
   rw[e]at h
   split at h
   ·rename_i z
    cases z
   ·rename_i i vs e2
    cases e3:fQ vs with
    |none=>rw[e3]at h;cases h
    |some ks=>rw[e3]at h;cases h;show _=W.tup [_,.tup _];rw[rQ e3]
   ·cases h
 |_=>cases h
structure HV(X:Cx)(K:Type)[DecidableEq K] where
 knd:HeapKind X.prog X.w K
 em:K->KX
 inj:∀{a b:K},em a=em b->a=b
 hash:∀k,(em k).hash=knd.hash k
 is:∀{pins:List (Addr×Obj)} {σ:St} {H:Hp} {s:Shared} {μ:List Addr} {k:K} {v:V} {u:Value},bj X pins σ H s->bb X.K μ H (em k).w v->bF v u->∃b,u=.ref b/\knd.is s.heap k b
 room:∀{A:Around},A.units+2<cLine->knd.room A.in1
theorem items_int{w:World}:∀{ks:List Int} {bw:List Value},b8 (ks.map V.int) bw->ItemsAre (intKind P w) ks bw
 |[],_,r=>by cases r;exact .nil
 |k::ks,_,r=>by
  cases r with
  |cons h t=>
   obtain⟨q,rfl⟩:=h
   exact .cons (by simp[intKind,Value.isInt]) (items_int t)
theorem DJ:∀{ks:List Int} {vs:List V},RelWs K μ H (ks.map W.int) vs->vs=ks.map V.int
 |[],vs,r=>r.nilE
 |k::ks,vs,r=>by
  obtain⟨x,xs,rfl,a,b⟩:=r.consE
  rw[a.intE,DJ b];rfl
theorem DL{ks:List Int}(I:bj X pins σ H s)(r:bb X.K μ H (.tup (ks.map W.int)) v)(ru:bF v u):∃b,u=.ref b/\IsTupleKey (intKind X.prog X.w) s.heap ks b:=by
 obtain⟨p,vs,rfl,hS,q⟩:=r.tupE
 cases ru
 rw[DJ q]at hS
 obtain⟨bw,r,⟨o,ho,hc,n,hd⟩,_⟩:=I.tuple hS
 exact⟨p,rfl,o,bw.toArray,n,ho,hc,hd,items_int r⟩
def Q_(X:Cx):HV X (List Int) where
 knd:=tupleKind (intKind X.prog X.w)
 em:=KX.fl
 inj:=fun h=>by injection h
 hash:=fun k=>rfl
 is:=fun I r ru=>DL I r ru
 room:=fun{A} h=>by show A.units+1<cLine;omega
def Ra(X:Cx):HV X (Int×List Int) where
 knd:=PK.kind (intKind X.prog X.w) (intKind X.prog X.w)
 em:=fun k=>.pr k.1 k.2
 inj:=fun{a b} h=>by injection h with h1 h2;exact Prod.ext h1 h2
 hash:=fun k=>rfl
 is:=fun{pins σ H s μ k v u} I r ru=>by
  obtain⟨p,vs,rfl,hS,q⟩:=bb.tupE r
  cases ru
  obtain⟨x,xs,rfl,a,b⟩:=q.consE
  obtain⟨y,ys,rfl,c,d⟩:=b.consE
  have:=d.nilE;subst this
  cases a.intE
  obtain⟨bw,r',⟨o,ho,hc,n,hd⟩,_⟩:=I.tuple hS
  obtain⟨u1,us,rfl,r1,r2⟩:∃u1 us,bw=u1::us/\bF (.int k.1) u1/\b8 [y] us:=by cases r' with|cons h t=>exact⟨_,_,rfl,h,t⟩
  obtain⟨u2,rfl,r3⟩:∃u2,us=[u2]/\bF y u2:=by
   cases r2 with
   |cons h t=>cases t;exact⟨_,rfl,h⟩
  obtain⟨b,rfl,hb⟩:=DL I c r3
  obtain⟨t,rfl⟩:=r1
  exact⟨p,rfl,o,_,b,n,ho,hc,hd,by simp[intKind,Value.isInt],hb⟩
 room:=fun{A} h=>by show A.units+1+1<cLine;omega
def iC(kvs:List (KX×W))(k:KX):Option W:=(kvs.find? fun p=>decide (p.1=k)).map fun p=>p.2
def rR(kvs:List (KX×W))(k:KX)(v:W):List (KX×W):=if (iC kvs k).isSome=true then kvs.map fun p=>if p.1=k then(p.1,v)else p else kvs++[(k,v)]
section
variable{K:Type}[DecidableEq K](G:HV X K)
def Vw(μ:List Addr)(H:Hp):List (KX×W)->List (K×Addr×Value)->Prop:=Paired fun p x=>p.1=G.em x.1/\bb X.K μ H p.1.w (.ref x.2.1)/\∃v,bb X.K μ H p.2 v/\bF v x.2.2
theorem rS(h:bF v (.ref b)):v=.ref b:=by
 cases v with
 |ref a=>cases h;rfl
 |non=>cases h
 |bl _=>cases h
 |ty _=>cases h
 |int _=>obtain⟨_,h⟩:=h;cases h
 |str _=>obtain⟨_,h⟩:=h;cases h
 |byt _=>obtain⟨_,h⟩:=h;cases h
 |flt _=>obtain⟨_,h⟩:=h;cases h
theorem Ah(I:bj X pins σ H s):∀{kvs:List (KX×W)} {es:List DictEntry},Paired (qp X.K μ H) kvs es->(∀p∈kvs,∃k,p.1=G.em k)->∃xs,es=yS G.knd xs/\Vw G μ H kvs xs/\∀x∈xs,G.knd.is s.heap x.1 x.2.1
 |_,_,.nil,_=>⟨[],rfl,.nil,fun x hx=>by cases hx⟩
 |_,_,.cons (a:=p) (b:=e) r t,hk=>by
  obtain⟨xs,e1,vw,yl⟩:=Ah I t fun p hp=>hk p (aA _ hp)
  obtain⟨k,hpk⟩:=hk p (aN ..)
  obtain⟨hh,⟨v,rk,rv⟩,u,ru,jL⟩:=r
  obtain⟨b,hb,hi⟩:=G.is (k:=k) I (by rw[<- hpk];exact rk) rv
  have ev:v=.ref b:=rS (by rw[<- hb];exact rv)
  subst ev
  refine⟨(k,b,e.val)::xs,?_,.cons ⟨hpk,rk,u,ru,jL⟩ vw,fun x hx=>?_⟩
  ·rw[e1]
   show e::_=entryOfKey G.knd (k,b,e.val)::_
   congr 1
   obtain⟨eh,ek,ev⟩:=e
   simp only at hh hb
   subst hb
   rw[hh,hpk,G.hash];rfl
  ·rcases aJ.mp hx with rfl|hx
   ·exact hi
   ·exact yl x hx
variable{G}
theorem ou:∀{kvs:List (KX×W)} {xs:List (K×Addr×Value)} (k:K),Vw G μ H kvs xs->(∃w p v,iC kvs (G.em k)=some w/\atKey xs k=some p/\bb X.K μ H w v/\bF v p.2)\/(iC kvs (G.em k)=none/\atKey xs k=none)
 |_,_,k,.nil=>.inr ⟨rfl,rfl⟩
 |_,_,k,.cons (a:=p) (b:=x) (l₁:=kvs) (l₂:=xs) ⟨h1,_,v,h3,h4⟩ t=>by
  by_cases e:x.1=k
  ·refine .inl ⟨p.2,x.2,v,?_,?_,h3,h4⟩
   ·unfold iC;rw[bz];simp[h1,e]
   ·unfold atKey;rw[bz];simp[e]
  ·have e2:p.1≠G.em k:=fun z=>e (G.inj (h1.symm.trans z))
   have a1:iC (p::kvs) (G.em k)=iC kvs (G.em k):=by unfold iC;rw[bz];simp[e2]
   have a2:atKey (x::xs) k=atKey xs k:=by unfold atKey;rw[bz];simp[e]
   rw[a1,a2]
   exact ou k t
theorem um:∀{kvs:List (KX×W)} {xs:List (K×Addr×Value)},Vw G μ H kvs xs->kvs.map (fun p=>p.1)=(xs.map (·.1)).map G.em
 |_,_,.nil=>rfl
 |_,_,.cons ⟨h1,_⟩ t=>by
  simp only[aC]
  rw[h1,um t]
theorem uo:∀{kvs:List (KX×W)} {xs:List (K×Addr×Value)},Vw G μ H kvs xs->Paired (qp X.K μ H) kvs (yS G.knd xs)
 |_,_,.nil=>.nil
 |_,_,.cons ⟨h1,h2,h3⟩ t=>.cons ⟨by rw[h1,G.hash];rfl,⟨_,h2,rfl⟩,h3⟩ (uo t)
theorem wZ{k:K}{w:W}(jL:bb X.K μ H w v)(ru:bF v u):∀{kvs:List (KX×W)} {xs:List (K×Addr×Value)},Vw G μ H kvs xs->Vw G μ H (kvs.map fun p=>if p.1=G.em k then(p.1,w)else p) (xs.map (putAt k u))
 |_,_,.nil=>.nil
 |_,_,.cons (a:=p) (b:=x) ⟨h1,h2,h3⟩ t=>by
  refine .cons ?_ (wZ jL ru t)
  by_cases e:x.1=k
  ·simp only[]
   rw[aw (by rw[h1,e])]
   unfold putAt
   rw[aw e]
   exact⟨h1,h2,v,jL,ru⟩
  ·simp only[]
   rw[aD fun z=>e (G.inj (h1.symm.trans z))]
   unfold putAt
   rw[aD e]
   exact⟨h1,h2,h3⟩
theorem DM{k:K}{w:W}{xs:List (K×Addr×Value)}(vw:Vw G μ H kvs xs)(rk:bb X.K μ H (G.em k).w (.ref b))(jL:bb X.K μ H w v)(ru:bF v u):Vw G μ H (rR kvs (G.em k) w) (storedH xs k b u):=by
 unfold rR storedH
 rcases ou (G:=G) k vw with⟨w',p,v',e1,e2,_⟩|⟨e1,e2⟩
 ·rw[e1,e2]
  exact wZ jL ru vw
 ·rw[e1,e2]
  simp only[Option.isSome_none,ce,fD]
  exact Paired.snoc vw ⟨rfl,rk,v,jL,ru⟩
end
def KX.tag:KX->Nat
 |.bo _=>0
 |.fl _=>1
 |.pr _ _=>2
def Ai(kvs:List (KX×W))(k:KX):Bool:=decide (k.tag≠0)&&kvs.all fun p=>p.1.tag==k.tag
def iX(st:List ai):W->Option (Nat×List (KX×W))
 |.loc n=>(match st[n]? with
  |some (.dcx kvs)=>some (n,kvs)
  |some (.dct [])=>some (n,[])
  |_=>none)
 |_=>none
section
variable{st:List ai}
structure Dc(X:Cx)(μ:List Addr)(H:Hp)(s:Shared)(st:List ai)(n:Nat)(kvs:List (KX×W))(a:Addr)(es:List DictEntry):Prop where
 m:μ[n]?=some a
 c:∃c,st[n]?=some c/\c.isRo=false
 o:∃o,H a=some o/\(∀q u,o≠.frz q u)/\∀q,o≠ia a q
 d:DX a es s.heap
 sm:(a==sysModules)=false
 p:Paired (qp X.K μ H) kvs es
 nd:(kvs.map fun p=>p.1).Nodup
 mu:Ka (H a)
 sq:∀es',c9 X.K H (dY H a (Nw a es'))
theorem eG.butE{l:Addr}(e:Ov l H H')(hl:H l=some (.ext φ)):c9 K H H':=by
 have lx:∀{p:Addr} {o:HO},H p=some o->(∀zs,o≠.ext zs)->p≠l:=fun{p o} q hn z=>by subst z;rw[hl]at q;cases q;exact hn _ rfl
 refine⟨fun p ys h=>?_,fun b o u h=>e _ _ (lx h (fun _ z=>by cases z)) h⟩
 rcases h with(h|⟨o,h⟩)|h
 ·exact .inl (.inl (e _ _ (lx h (fun _ z=>by cases z)) h))
 ·exact .inl (.inr ⟨o,e _ _ (lx h (fun _ z=>by cases z)) h⟩)
 ·exact .inr h
theorem oz(I:bj X pins σ H s)(S:fG X.K X.mg μ st H){x:W}(h:iX st x=some (n,kvs))(r:bb X.K μ H x v):∃a es,v=.ref a/\Dc X μ H s st n kvs a es:=by
 cases x with
 |loc m=>
  simp only[iX]at h
  cases e:st[m]? with
  |none=>rw[e]at h;cases h
  |some c=>
   rw[e]at h
   cases c with
   |dcx z=>
    cases h
    obtain⟨a,g,es,k,hd,p,nd⟩:=S.get e
    obtain⟨b,f,rfl⟩:=r.locE
    rw[g]at f;cases f
    have d:=Pe I.hok k
    exact⟨a,es,rfl,g,⟨_,e,rfl⟩,⟨_,k,(fun _ _ z=>by cases z),Hl d⟩,d,hd,p,nd,by rw[k];trivial,fun es'=>eG.butE fL k⟩
   |dct z=>
    cases z with
    |cons _ _=>cases h
    |nil=>
     cases h
     obtain⟨a,g,vs,k,rr⟩:=S.get e
     obtain⟨b,f,rfl⟩:=r.locE
     rw[g]at f;cases f
     have k:H a=some (.dK []):=k
     obtain⟨d,hd⟩:=LB I.hok k
     exact⟨a,[],rfl,g,⟨_,e,rfl⟩,⟨_,k,(fun _ _ z=>by cases z),fun _ z=>by cases z⟩,d,hd,.nil,jH,by rw[k];trivial,fun es'=>eG.butD fL k⟩
   |_=>cases h
 |_=>cases h
theorem Aj{K:Type}[DecidableEq K](G:HV X K){es:List DictEntry}(I:bj X pins σ H s)(D:Dc X μ H s st n kvs a es)(hk:∀p∈kvs,∃k,p.1=G.em k)(hl:kvs.length<=sizeLine):∃xs,XD G.knd H s a xs/\Vw G μ H kvs xs:=by
 obtain⟨xs,e,vw,yl⟩:=Ah G I D.p hk
 have hn:(xs.map (·.1)).Nodup:=by
  have:=D.nd
  rw[um vw]at this
  exact(eY.mp this).imp fun h e=>h (cC _ e)
 exact⟨xs,⟨by rw[<- e];exact D.d,yl,hn,D.sm,by rw[<- Paired.length vw];exact hl,D.mu⟩,vw⟩
theorem DN{k:KX}(h:Ai kvs k=true):(∃ks,k=.fl ks/\∀p∈kvs,∃q,p.1=(Q_ X).em q)\/∃i ks,k=.pr i ks/\∀p∈kvs,∃q,p.1=(Ra X).em q:=by
 unfold Ai at h
 rw[bf,d_]at h
 obtain⟨h0,h1⟩:=h
 cases k with
 |bo b=>simp[KX.tag]at h0
 |fl ks=>
  refine .inl ⟨ks,rfl,fun p hp=>?_⟩
  have:=h1 p hp
  cases e:p.1 with
  |fl q=>exact⟨q,rfl⟩
  |bo _=>rw[e]at this;simp[KX.tag]at this
  |pr _ _=>rw[e]at this;simp[KX.tag]at this
 |pr i ks=>
  refine .inr ⟨i,ks,rfl,fun p hp=>?_⟩
  have:=h1 p hp
  cases e:p.1 with
  |pr j q=>exact⟨(j,q),rfl⟩
  |bo _=>rw[e]at this;simp[KX.tag]at this
  |fl _=>rw[e]at this;simp[KX.tag]at this
def DO(kvs:List (KX×W))(k:KX):Bool:=Ai kvs k&&decide (kvs.length<jh)
theorem IV{Pr:Prop}{es:List DictEntry}{k:KX}(I:bj X pins σ H s)(D:Dc X μ H s st n kvs a es)(h:DO kvs k=true)(rk:bb X.K μ H k.w v)(ru:bF v u)
  (hh:∀(K:Type) [DecidableEq K] (G:HV X K) (q:K) (b:Addr) (xs:List (K×Addr×Value)),k=G.em q->v=.ref b->u=.ref b->G.knd.is s.heap q b->XD G.knd H s a xs->Vw G μ H kvs xs->Pr):Pr:=by
 unfold DO at h
 rw[bf,bQ]at h
 have hl:kvs.length<=sizeLine:=il (cV h.2)
 rcases DN (X:=X) h.1 with⟨ks,rfl,hk⟩|⟨i,ks,rfl,hk⟩
 ·obtain⟨xs,xd,vw⟩:=Aj (Q_ X) I D hk hl
  obtain⟨b,rfl,hb⟩:=(Q_ X).is (k:=ks) I rk ru
  exact hh _ (Q_ X) ks b xs rfl (rS ru) rfl hb xd vw
 ·obtain⟨xs,xd,vw⟩:=Aj (Ra X) I D hk hl
  obtain⟨b,rfl,hb⟩:=(Ra X).is (k:=(i,ks)) I rk ru
  exact hh _ (Ra X) (i,ks) b xs rfl (rS ru) rfl hb xd vw
end
theorem BH{k:KX}(h:iC kvs k=none):k∉kvs.map fun p=>p.1:=fun z=>by
 obtain⟨p,hp,e⟩:=am.mp z
 unfold iC at h
 rw[Option.map_eq_none_iff,jE]at h
 exact h p hp (bp e)
theorem Ak(k:KX)(v:W)(h:(kvs.map fun p=>p.1).Nodup):((rR kvs k v).map fun p=>p.1).Nodup:=by
 unfold rR
 by_cases z:(iC kvs k).isSome=true
 ·rw[aw z,aL]
  have:((fun p:KX×W=>p.1)∘fun p:KX×W=>if p.1=k then(p.1,v)else p)=fun p=>p.1:=by
   funext p
   show(if p.1=k then(p.1,v)else p).1=p.1
   split<;>rfl
  rw[this];exact h
 ·rw[aD z,cG,cN]
  have hn:iC kvs k=none:=by
   cases e:iC kvs k with
   |none=>rfl
   |some _=>rw[e]at z;exact(z rfl).elim
  refine⟨h,by simp,fun a ha b hb=>?_⟩
  have:b=k:=by simpa using hb
  subst this
  exact fun e=>BH hn (e▸ha)
section
theorem Dc.put{K:Type}[DecidableEq K]{G:HV X K}{st:List ai}{es:List DictEntry}(D:Dc X μ H s st n kvs a es)(S:fG X.K X.mg μ st H)
  {xs:List (K×Addr×Value)} {z:K} {b:Addr} {wv:W} {v:V} {u:Value} (vw:Vw G μ H kvs xs) (rk:bb X.K μ H (G.em z).w (.ref b)) (rv:bb X.K μ H wv v) (ru:bF v u) :
  fG X.K X.mg μ (st.set n (.dcx (rR kvs (G.em z) wv))) (dY H a (Nw a (yS G.knd (storedH xs z b u)))):=by
 obtain⟨c,hc,sO⟩:=D.c
 obtain⟨o,ho,hf,hg⟩:=D.o
 exact S.setG hc sO D.m ho hf hg (D.sq _) rfl ⟨_,df,D.sm,Paired.imp' (fun _ _ q=>q.mono (ae _) (D.sq _)) (uo (DM vw rk rv ru)),Ak _ _ D.nd⟩
def PX(X:Cx)(x y:V)(H:Hp)(Q:VK):Prop:=∃a,x=.ref a/\∀(pins:List (Addr×Obj)) (σ:St) (s:Shared) (u:Value) (E:Value->Shared->Prop) (Qv:Value->Shared->Prop),bj X pins σ H s->bF y u ->
 (∀v w' s',bj X pins σ H s'->bF v w'->Q v H->Qv w' s')->s.TypeIs (.ref a) "dict"/\wpAny (model X.prog X.w) X.A (getItem (.ref a) u) Qv E s
def Pg(X:Cx)(td ty:TE):TE:=fun σ H Q=>td σ H fun x H1=>ty σ H1 fun y H2=>PX X x y H2 Q
theorem Ho{o i:Expr}{td ty:TE}(ho:PE X o td)(hi:PE X i ty)(hs:CN i):PE X (.Subscript o i pos) (Pg X td ty):=by
 intro pins s σ H Q I h
 refine uZ PySem.F.slot_dict_getitem.lookup hs (fI (ho pins s σ H _ I h) fun u s1 ⟨x,H1,I1,rx,q1⟩=>fI (hi pins s1 σ H1 _ I1 q1) fun iv s2 ⟨y,H2,I2,ry,a,ex,g⟩=>?_)
 subst ex
 obtain rfl:u=Value.ref a:=rx
 exact g pins σ s2 iv _ _ I2 ry fun v w' s3 I3 jL q2=>⟨v,H2,I3,jL,q2⟩
theorem mV{st:List ai}{es:List DictEntry}(D:Dc X μ H s st n kvs a es):s.TypeIs (.ref a) "dict":=by
 obtain⟨o,ep,h1,h2,_⟩:=D.d
 exact⟨o,h1,h2.1⟩
def Tq(X:Cx)(id:String)(x y z:V)(H:Hp)(Q:VK):Prop:=∃a,x=.ref a/\∀(pins:List (Addr×Obj)) (σ:St) (s:Shared) (u r:Value) (E:Value->Shared->Prop) (Qv:Value->Shared->Prop),bj X pins σ H s->bF y u->bF z r ->
 (∀v w' H' s',bj X pins σ H' s'->bF v w'->Q v H'->Qv w' s')->wpAny (model X.prog X.w) X.A (call (.builtin id) [.ref a,u,r]) Qv E s
def SV(X:Cx)(x:V)(H:Hp):Prop:=∃a,x=.ref a/\∀(pins:List (Addr×Obj)) (σ:St) (s:Shared),bj X pins σ H s->s.TypeIs (.ref a) "dict"/\∀b,Value.ref a=.ref b->∃ob,s.heap.get? b=some ob/\ob.dict=none
def LC(X:Cx)(id:String)(td ty tx:TE):TE:=fun σ H Q=>td σ H fun x H1=>SV X x H1/\ty σ H1 fun y H2=>tx σ H2 fun z H3=>Tq X id x y z H3 Q
theorem DP{o f:Expr}{td ty tx:TE}(ho:PE X o td)(he:PE X e ty)(hf:PE X f tx)(m:M2 X o "setdefault" fq e f cX):PE X (.Call (.Attribute o "setdefault" fq) [e,f] [] cX) (LC X "dict.setdefault" td ty tx):=by
 intro pins s σ H Q I h
 refine jV m.base m.few m.line PySem.F.plainAttrs_dict PySem.F.slot_dict_setdefault PySem.F.type_dict_setdefault (fI (ho pins s σ H _ I h) fun u s1 ⟨x,H1,I1,rx,⟨a,ex,d⟩,q1⟩=>?_)
 subst ex
 obtain rfl:u=Value.ref a:=rx
 obtain⟨t1,t2⟩:=d pins σ s1 I1
 refine⟨t1,t2,?_⟩
 rw[m.trees]
 refine fO rfl (gf (eB (fI (he pins s1 σ H1 _ I1 q1) fun iv s2 ⟨y,H2,I2,ry,q2⟩=>
  eB (fI (hf pins s2 σ H2 _ I2 q2) fun fv s3 ⟨z,H3,I3,rz,a',ea,g⟩=>g9 ?_))))
 cases ea
 exact g pins σ s3 iv fv _ _ I3 ry rz fun v w' H' s4 I4 jL q3=>⟨v,H',I4,jL,q3⟩
theorem yT{st:List ai}{x:W}{nk:Nat×List (KX×W)}(S:fG X.K X.mg μ st H)(e:iX st x=some nk)(r:bb X.K μ H x v):SV X v H:=by
 have⟨a,ea,_⟩:∃a,v=.ref a/\True:=by
  cases x with
  |loc m=>obtain⟨a,_,e⟩:=r.locE;exact⟨a,e,trivial⟩
  |_=>simp only[iX]at e;cases e
 subst ea
 refine⟨a,rfl,fun pins σ s I=>?_⟩
 obtain⟨a',es,ea,D⟩:=oz I S (n:=nk.1) (kvs:=nk.2) e r
 cases ea
 refine⟨mV D,fun b hb=>?_⟩
 cases hb
 obtain⟨o,ep,h1,h2,_⟩:=D.d
 exact⟨o,h1,h2.2.1⟩
end
end L2
namespace PK
open PySem
section
variable{w:World}
theorem BI{b:Bool}{Q:Int->Shared->Prop}(h:Q (hashInt (if b then 1 else 0)) { s with toks:=s.toks+1 }):wpAny (model prog w) A (PySem.pyHash (.bool b)) Q E s:=by
 have hr:=rawHash_range (if b then 1 else 0)
 unfold PySem.pyHash
 have hv:[Value.bool b].any Value.onHeap=false:=rfl
 refine af ?_
 rw[cRoomFor,aD (by rw[hv];exact bM)];refine au ?_
 refine af (eQ (typeIs_bool s b) F.slot_bool_hash.lookup ?_)
 show wpAny _ _ (if (some (Value.builtin "int.__hash__")==some Value.none)=true then _ else _) Q E s
 rw[aD (by rw[beq_builtin_none];exact bM)]
 refine af (eQ (typeIs_bool s b) F.slot_bool_hash.lookup ?_)
 show wpAny _ _ (callSpecialIfBoundUnlessNone? (.bool b) "__hash__" _ >>= _) Q E s
 refine af (fY (typeIs_bool s b) F.slot_bool_hash
  (cZ F.slot_bool_hash (typeIs_bool s b) entry_int_hash
   (show wpAny _ _ (do ret (<- mkInt (rawHash (if b then 1 else 0)))) _ _ s from lW ?_) (args_int_hash _)))
 show wpAny _ _ (if (decide (-(2:Int)^63<=rawHash (if b then 1 else 0))&&decide (rawHash (if b then 1 else 0)<2^63))=true then _ else _) Q E _
 rw[aw (by rw[bp hr.1,bp hr.2];rfl)]
 exact au h
end
def isBool:Bool->Value->Bool
 |b,.bool c=>b==c
 |_,_=>false
theorem gr           {b:Bool} {v:Value} (h : isBool b v = true) : v = .bool b := by
  cases v with
  | bool c => have : b = c := by simpa [isBool] using h
              rw [this]
  | _ => cases h
def boolKind(prog:Program)(w:World):KeyKind prog w Bool where
 is:=isBool
 hash:=fun b=>hashInt (if b then 1 else 0)
 inj:=fun v a b ha hb=>by
  have h1:=gr ha
  have h2:=gr hb
  rw[h1]at h2
  injection h2
 byValue:=fun k v h=>by rw[gr h];rfl
 pyHash:=fun hv h=>by rw[gr hv];exact BI h
 eqBool:=fun{A E s a b u v Q} hu hv h=>by
  rw[gr hu,gr hv]
  have:decide (a=b)=(a==b):=by cases a<;>cases b<;>rfl
  rw[this]at h
  exact SeqAt.EqAt.bool_bool a b _ _ _ _ h
 «strs»:=fun k x t v h=>by cases h
end PK
namespace L2
open PySem PySem.Spec PyProof.Rows
section
variable{w:World}{K:Type}[DecidableEq K]{knd:KeyKind prog w K}{es:List DictEntry}{k:K}{key dflt:Value}
theorem Hq(qz:knd.is k key=true)(d:DX a es s.heap)(hk:KeysOf knd es.toArray)
  (zu:∀e,(es.find? fun e=>knd.is k e.key)=some e->Q e.val { s with toks:=s.toks+1 })
  (pU:(es.find? fun e=>knd.is k e.key)=none->∀h',DX a (es++[⟨knd.hash k,key,dflt⟩]) h'->Heap.SameBut a s.heap h'->Q dflt { s with heap:=h',toks:=s.toks+1 })
  (hz:es.length<=sizeLine):wpAny (model prog w) A (dictSetDefault a key dflt) Q E s:=by
 obtain⟨o,ep,ho,hc,hd⟩:=d
 unfold dictSetDefault
 try with_reducible refine cv ?_
 refine af (knd.pyHash qz ?_)
 refine af (wpAny_dictFind_of (s:={ s with toks:=s.toks+1 }) qz ho hd hk ?_)
 have ef:(es.toArray.find? fun e=>knd.is k e.key)=es.find? fun e=>knd.is k e.key:=by simp
 cases hi:es.toArray.findIdx? fun e=>knd.is k e.key with
 |some i=>
  refine af (jZ (s:={ s with toks:=s.toks+1 }) ho hd ?_)
  have jS:i<es.toArray.size:=(Array.findIdx?_eq_some_iff_findIdx_eq.mp hi).1
  rw[Array.getElem?_eq_getElem jS]
  have hfi:(es.find? fun e=>knd.is k e.key)=some es.toArray[i]:=by
   have h1:es.findIdx? (fun e=>knd.is k e.key)=some i:=by rw[<- ma];exact hi
   obtain⟨h2,h3,h4⟩:=List.findIdx?_eq_some_iff_getElem.mp h1
   rw[List.find?_eq_some_iff_getElem]
   exact⟨h3,i,h2,by simp,fun j hj=>by simpa using h4 j hj⟩
  exact af (gK (au (zu _ hfi)))
 |none=>
  have yk:(es.find? fun e=>knd.is k e.key)=none:=by
   have h1:es.findIdx? (fun e=>knd.is k e.key)=none:=by rw[<- ma];exact hi
   rw[jE]
   intro x hx
   have:=jO.mp h1 x hx
   simpa using this
  refine af (gK (af (wpAny_updateDictKeys (hz:=by simpa using hz) (s:={ s with toks:=s.toks+1 }) ho hd (au (pU yk _ ⟨_,ep+1,fV _ ho (Obj.isFreed_of_dict (gj hd _)),hc.mapDictKeys _,?_⟩ (cy ..))))))
  rw[gj hd]
  congr 1
  simp
theorem yU(qz:knd.is k key=true)(hd:(a==sysModules)=false) :
  MeetsIn prog w (Builtin.«dict.setdefault» ⟨[.ref a,key,dflt],[]⟩) (fun _ R s=>∃es,DX a es s.heap/\KeysOf knd es.toArray/\es.length<=sizeLine /\
   (∀e,(es.find? fun e=>knd.is k e.key)=some e->R (.ok (.ret e.val)) { s with toks:=s.toks+1 }) /\
   ((es.find? fun e=>knd.is k e.key)=none->∀h',DX a (es++[⟨knd.hash k,key,dflt⟩]) h'->Heap.SameBut a s.heap h'->R (.ok (.ret dflt)) { s with heap:=h',toks:=s.toks+1 })):=
 .of_wp fun A R s ⟨es,d,hk,hz,h1,h2⟩=>by
  have ht:s.TypeIs (.ref a) "dict":=let ⟨o,ep,e,c,_⟩:=d;⟨o,e,c.1⟩
  unfold Builtin.«dict.setdefault»
  refine af ?_
  unfold Builtin.Dict.keyAndDefault
  refine af (l_ ht ?_)
  show wpAny _ _ (pure (a,key,some dflt)) _ _ s
  refine au ?_
  show wpAny _ _ (if (a==sysModules)=true then _ else(dictSetDefault a key dflt >>= _)) _ _ s
  rw[aD (by rw[hd];exact bM)]
  exact af (Hq qz d hk (fun e he=>au ⟨e.val,rfl,h1 e he⟩) (fun hn h' d' hs=>au ⟨dflt,rfl,h2 hn h' d' hs⟩) hz)
end
section
def DQ(kvs:List (KX×W))(k:KX):Bool:=decide (k.tag=0)&&(kvs.all fun p=>p.1.tag==0)&&decide (kvs.length<jh)
theorem yV:∀{kvs:List (KX×W)} {es:List DictEntry},Paired (qp X.K μ H) kvs es->(kvs.all fun p=>p.1.tag==0)=true->∀e∈es,∃b,(PK.boolKind X.prog X.w).is b e.key=true/\e.hash=(PK.boolKind X.prog X.w).hash b
 |_,_,.nil,_=>fun e he=>by cases he
 |_,_,.cons (a:=p) (b:=e) r t,h=>fun e' he=>by
  rw[kj,bf]at h
  rcases aJ.mp he with rfl|he
  ·obtain⟨hh,⟨v,rk,rv⟩,_⟩:=r
   obtain⟨pk,pw⟩:=p
   cases pk with
   |bo b=>
    cases bb.blE rk
    have hk:_=Value.bool b:=rv
    exact⟨b,by rw[hk];simp[PK.boolKind,PK.isBool],hh⟩
   |fl _=>simp[KX.tag]at h
   |pr _ _=>simp[KX.tag]at h
  ·exact yV t h.2 e' he
theorem vo(b:Bool):∀{kvs:List (KX×W)} {es:List DictEntry},Paired (qp X.K μ H) kvs es->(kvs.all fun p=>p.1.tag==0)=true ->
  (∃w e v,iC kvs (.bo b)=some w/\(es.find? fun e=>(PK.boolKind X.prog X.w).is b e.key)=some e/\bb X.K μ H w v/\bF v e.val)\/(iC kvs (.bo b)=none/\(es.find? fun e=>(PK.boolKind X.prog X.w).is b e.key)=none)
 |_,_,.nil,_=>.inr ⟨rfl,rfl⟩
 |_,_,.cons (a:=p) (b:=e) (l₁:=kvs) (l₂:=es) r t,h=>by
  rw[kj,bf]at h
  obtain⟨hh,⟨v,rk,rv⟩,u,ru,jL⟩:=r
  obtain⟨pk,pw⟩:=p
  cases pk with
  |bo c=>
   cases bb.blE rk
   have hek:e.key=.bool c:=rv
   by_cases z:c=b
   ·subst z
    refine .inl ⟨pw,e,u,?_,?_,ru,jL⟩
    ·unfold iC;rw[bz];simp
    ·rw[bz,hek];simp[PK.boolKind,PK.isBool]
   ·have a1:iC ((KX.bo c,pw)::kvs) (.bo b)=iC kvs (.bo b):=by unfold iC;rw[bz];simp[z]
    have a2:((e::es).find? fun e=>(PK.boolKind X.prog X.w).is b e.key)=es.find? fun e=>(PK.boolKind X.prog X.w).is b e.key:=by
     rw[bz,hek,show(PK.boolKind X.prog X.w).is b (.bool c)=false by simp[PK.boolKind,PK.isBool,Ne.symm z]]
    rw[a1,a2]
    exact vo b t h.2
  |fl _=>simp[KX.tag]at h
  |pr _ _=>simp[KX.tag]at h
end
section
variable{w:World}{es:List DictEntry}
theorem vp(hd:(a==sysModules)=false):MeetsIn prog w (Builtin.«dict.__len__» ⟨[.ref a],[]⟩) (fun _ R s=>∃es,DX a es s.heap/\R (.ok (.ret (.int es.length s.toks))) { s with toks:=s.toks+1 }):=
 .of_wp fun A R s ⟨es,⟨o,ep,ho,hc,hdat⟩,h⟩=>by
  show wpAny _ _ (dictSize a >>= _) _ _ s
  unfold dictSize
  refine af (af (jZ ho hdat (au ?_)))
  show wpAny _ _ (Builtin.Dict.pendingCount a >>= _) _ _ s
  refine af (wpAny_pendingCount_other hd ?_)
  refine lW ?_
  rw[i9,aE];exact h
theorem w6(hd:(a==sysModules)=false)(d:DX a es s.heap)(Ng:(es.length:Int)<2^63)(h:Q (.int es.length (s.toks+1)) { s with toks:=s.toks+1+1 }):wpAny (model prog w) A (call (.builtin "len") [.ref a]) Q E s:=by
 have ht:s.TypeIs (.ref a) "dict":=let ⟨o,ep,e,c,_⟩:=d;⟨o,e,c.1⟩
 refine jM kind_len plain_len entry_len (args_len1 _) ?_
 unfold Builtin.«len»
 refine af (m:=oneArg "len" _) (au ?_)
 refine af (m:=callSpecial? (.ref a) (Str.ofString "__len__")) (cY (name:=Str.ofString "__len__") ht F.slot_dict_len
  (hJ F.slot_dict_len ht F.entry_dict_len (F.args_dict_len_1 _) (vp hd) ⟨es,d,?_⟩))
 show wpAny _ _ _ _ _ { s with toks:=s.toks+1 }
 refine af (cv (au ?_))
 refine af (jX ?_)
 show wpAny _ _ (if ((es.length:Nat):Int)<0 then _ else _) _ _ _
 rw[aD (by omega)]
 show wpAny _ _ (if ((es.length:Nat):Int)≥2^63 then _ else _) _ _ _
 rw[aD (by omega)]
 exact af (wpAny_mkInt (au ⟨_,rfl,h⟩))
end
section
theorem Ph{st:List ai}{es:List DictEntry}(D:Dc X μ H s st n kvs a es)(h:(kvs.all fun p=>p.1.tag==0)=true):s.heap.MapOf (PK.boolKind X.prog X.w) a (findBy (PK.boolKind X.prog X.w).is es.toArray):=by
 obtain⟨o,ep,h1,h2,h3⟩:=D.d
 exact⟨o,_,ep,h1,h2,h3,fun e he=>yV D.p h e (by simpa using he),fun _=>rfl⟩
theorem IW{k:KX}(h:DQ kvs k=true):(∃b,k=.bo b)/\(kvs.all fun p=>p.1.tag==0)=true/\kvs.length<=sizeLine:=by
 unfold DQ at h
 rw[bf,bf,bQ,bQ]at h
 refine⟨?_,h.1.2,il (cV h.2)⟩
 cases k with
 |bo b=>exact⟨b,rfl⟩
 |fl _=>simp[KX.tag]at h
 |pr _ _=>simp[KX.tag]at h
def DR(x y:W)(st:List ai):R W:=match iX st x,pH y with
 |some (_,kvs),some k=>if (DO kvs k||DQ kvs k)=true then pf (iC kvs k) fun w=>.ok w st else .bad
 |_,_=>.bad
theorem Pi{a b:Expr}{pos:Pos}(hr:f' kk X.A)(ha:SE X a fa)(hb:SE X b fb)(hs:CN b:=by intro _ _;rfl):SE X (.Subscript a b pos) (e2 DR fa fb):=⟨(Ho ha.h hb.h hs).imp fun σ H Q h=>by
 obtain⟨μ,ρ,st,l,h⟩:=h
 refine⟨μ,ρ,st,l,RK.bind h l fun μ1 st1 x v H1 p1 x1 l1 q1 h1=>⟨μ1,ρ,st1,l1,RK.bind h1 l1 fun μ2 cH y u H2 p2 x2 l2 q2 h2=>?_⟩⟩
 unfold DR at h2
 cases e1:iX cH x with
 |none=>rw[e1]at h2;exact h2.elim
 |some nk=>
  obtain⟨n,kvs⟩:=nk
  cases e2:pH y with
  |none=>rw[e1,e2]at h2;exact h2.elim
  |some k=>
   rw[e1,e2]at h2
   simp only at h2
   by_cases hx:(DO kvs k||DQ kvs k)=true
   ·rw[aw hx]at h2
    have:=DI e2
    subst this
    obtain⟨a,ea,_⟩:=yT l2.sto e1 (q1.mono p2 x2)
    refine⟨a,ea,fun pins σ s iv E Qv I ry hq=>?_⟩
    obtain⟨a',es,ea',D⟩:=oz I l2.sto e1 (q1.mono p2 x2)
    rw[ea]at ea'
    cases ea'
    refine⟨mV D,?_⟩
    rw[fT]at hx
    rcases hx with hx|hx
    ·refine IV I D hx q2 ry fun K inst G z b xs hk hv hb yl xd vw=>?_
     subst hk;subst hb
     rcases ou z vw with⟨w,p,v',g1,g2,g3,g4⟩|⟨g1,g2⟩
     ·rw[g1]at h2
      exact Pf (G.room (by have:=hr.units;omega)) I xd yl g2 fun s' I'=>hq v' _ s' I' g4 (h2 μ2 v' H2 (ae _) c9.refl l2.sto g3)
     ·rw[g1]at h2;exact h2.elim
    ·obtain⟨⟨b,rfl⟩,lZ,_⟩:=IW hx
     cases bb.blE q2
     obtain rfl:iv=Value.bool b:=ry
     rcases vo b D.p lZ with⟨w,e,v',g1,g2,g3,g4⟩|⟨g1,g2⟩
     ·rw[g1]at h2
      refine kN (knd:=PK.boolKind X.prog X.w) (k:=b) (by simp[PK.boolKind,PK.isBool]) (Ph D lZ) (v:=e.val) ?_ (hq v' _ _ (I.tok _) g4 (h2 μ2 v' H2 (ae _) c9.refl l2.sto g3))
      unfold findBy
      rw[show(es.toArray.find? fun e=>(PK.boolKind X.prog X.w).is b e.key)=es.find? fun e=>(PK.boolKind X.prog X.w).is b e.key by simp,g2];rfl
     ·rw[g1]at h2;exact h2.elim
   ·rw[aD hx]at h2;exact h2.elim⟩
def vq(fo fk fd:FE):FE:=fun ρ st=>(fo ρ st).bind fun x st=>match iX st x with
 |some _=>(fk ρ st).bind fun y st=>(fd ρ st).bind fun z st=>(match iX st x,pH y with
  |some (n,kvs),some k=>if (DO kvs k||DQ kvs k)=true then(match iC kvs k with
   |some w=>.ok w st
   |none=>.ok z (st.set n (.dcx (rR kvs k z))))else .bad
  |_,_=>.bad)
 |none=>.bad
theorem Hr{o f:Expr}{fd:FE}(hr:f' kk X.A)(ho:SE X o fo)(he:SE X e fe)(hf:SE X f fd)(m:M2 X o "setdefault" fq e f cX:=by exact⟨by rfl,by rfl,by rfl,by rfl⟩):SE X (.Call (.Attribute o "setdefault" fq) [e,f] [] cX) (vq fo fe fd):=⟨(DP ho.h he.h hf.h m).imp fun σ H Q h=>by
 obtain⟨μ,ρ,st,l,h⟩:=h
 refine⟨μ,ρ,st,l,RK.bind h l fun μ1 st1 x v H1 p1 x1 l1 q1 h1=>?_⟩
 cases e0:iX st1 x with
 |none=>rw[e0]at h1;exact h1.elim
 |some nk0=>
  rw[e0]at h1
  simp only at h1
  obtain⟨a0,ea0,_⟩:=yT l1.sto e0 q1
  refine⟨yT l1.sto e0 q1,μ1,ρ,st1,l1,RK.bind h1 l1 fun μ2 cH y u H2 p2 x2 l2 q2 h2=>⟨μ2,ρ,cH,l2,RK.bind h2 l2 fun μ3 iy dW t H3 p3 x3 l3 q3 h3=>?_⟩⟩
  cases e1:iX iy x with
  |none=>rw[e1]at h3;exact h3.elim
  |some nk=>
   obtain⟨n,kvs⟩:=nk
   cases e2:pH y with
   |none=>rw[e1,e2]at h3;exact h3.elim
   |some k=>
    rw[e1,e2]at h3
    simp only at h3
    by_cases hx:(DO kvs k||DQ kvs k)=true
    ·rw[aw hx]at h3
     have:=DI e2
     subst this
     refine⟨a0,ea0,fun pins σ s iv r E Qv I ry rz hq=>?_⟩
     obtain⟨a',es,ea,D⟩:=oz I l3.sto e1 ((q1.mono p2 x2).mono p3 x3)
     rw[ea0]at ea
     cases ea
     rw[fT]at hx
     rcases hx with hx|hx
     ·refine IV I D hx (q2.mono p3 x3) ry fun K inst G z b xs hk hv hb yl xd vw=>?_
      subst hk;subst hb
      refine hJ PySem.F.slot_dict_setdefault (mV D) PySem.F.entry_dict_setdefault (PySem.F.args_dict_setdefault_3 _ _ _) (PK.meets_setdefault (knd:=G.knd) a0 b xd.sm r) ⟨G.room (by have:=hr.units;omega),z,xs,yl,IU xd.d xd.is xd.nd,xd.z,?_,?_⟩
      ·intro p hp
       rcases ou z vw with⟨w,p',v',g1,g2,g3,g4⟩|⟨g1,g2⟩
       ·rw[g1]at h3
        rw[g2]at hp;cases hp
        exact hq v' _ _ _ (I.tok _) g4 (h3 μ3 v' H3 (ae _) c9.refl l3.sto g3)
       ·rw[g2]at hp;cases hp
      ·intro hn h' dd hs
       rcases ou z vw with⟨w,p',v',g1,g2,g3,g4⟩|⟨g1,g2⟩
       ·rw[g2]at hn;cases hn
       ·rw[g1]at h3
        have d:=Hm dd
        have I':=mP (t':=s.toks+G.knd.draws z) I xd.mu hs (let ⟨q,_,hq,_⟩:=d;⟨q,hq⟩) (DH d)
        rw[<- storedH_new g2 b r]at I'
        exact hq t _ _ _ I' rz (h3 μ3 t _ (ae _) (D.sq _) (D.put l3.sto vw (by have:=q2.mono p3 x3;rw[hv]at this;exact this) q3 rz) (q3.mono (ae _) (D.sq _)))
     ·obtain⟨⟨b,rfl⟩,lZ,dH⟩:=IW hx
      cases bb.blE q2
      obtain rfl:iv=Value.bool b:=ry
      refine hJ PySem.F.slot_dict_setdefault (mV D) PySem.F.entry_dict_setdefault (PySem.F.args_dict_setdefault_3 _ _ _) (yU (knd:=PK.boolKind X.prog X.w) (k:=b) (by simp[PK.boolKind,PK.isBool]) D.sm) ⟨es,D.d,fun e he=>yV D.p lZ e (by simpa using he),by rw[<- Paired.length D.p];exact dH,?_,?_⟩
      ·intro e he
       rcases vo b D.p lZ with⟨w,e',v',g1,g2,g3,g4⟩|⟨g1,g2⟩
       ·rw[g1]at h3
        rw[g2]at he;cases he
        exact hq v' _ _ _ (I.tok _) g4 (h3 μ3 v' H3 (ae _) c9.refl l3.sto g3)
       ·rw[g2]at he;cases he
      ·intro hn h' d hs
       rcases vo b D.p lZ with⟨w,e',v',g1,g2,g3,g4⟩|⟨g1,g2⟩
       ·rw[g2]at hn;cases hn
       ·rw[g1]at h3
        have I':=mP (t':=s.toks+1) I D.mu hs (let ⟨q,_,hq,_⟩:=d;⟨q,hq⟩) (DH d)
        obtain⟨c,hc,sO⟩:=D.c
        obtain⟨o,ho,hf,hg⟩:=D.o
        have ep:rR kvs (.bo b) dW=kvs++[(.bo b,dW)]:=by unfold rR;rw[g1];rfl
        have S':=l3.sto.setG (c':=.dcx (rR kvs (.bo b) dW)) hc sO D.m ho hf hg (D.sq (es++[⟨(PK.boolKind X.prog X.w).hash b,.bool b,r⟩])) rfl ⟨_,df,D.sm,by
         rw[ep]
         exact Paired.snoc (Paired.imp' (fun _ _ q=>q.mono (ae _) (D.sq _)) D.p) ⟨rfl,⟨_,.bl,rfl⟩,_,q3.mono (ae _) (D.sq _),rz⟩,Ak _ _ D.nd⟩
        exact hq t _ _ _ I' rz (h3 μ3 t _ (ae _) (D.sq _) S' (q3.mono (ae _) (D.sq _)))
    ·rw[aD hx]at h3;exact h3.elim⟩
def uq(ws:List W)(st:List ai):R W:=match ws with
 |[x]=>(match iX st x with
  |some (_,kvs)=>if kvs.length<=jh then .ok (.int kvs.length) st else .bad
  |none=>cQ ws st)
 |_=>cQ ws st
theorem LD:lN X (.builtin "len") uq:=⟨fun pins s σ H vs us Q I rv ⟨μ,st,ws,S,r,q⟩=>by
 unfold uq at q
 split at q
 ·rename_i x
  split at q
  ·rename_i n kvs e
   split at q
   ·rename_i hl
    obtain⟨y,rfl,ry⟩:=r.one
    obtain⟨a,es,rfl,D⟩:=oz I S e ry
    obtain⟨u,rfl,ru⟩:=lL rv
    obtain rfl:u=Value.ref a:=ru
    have hle:es.length=kvs.length:=(Paired.length D.p).symm
    refine w6 D.sm D.d (by rw[hle];have:kvs.length<=1000000:=hl;omega) ?_
    refine⟨.int kvs.length,H,I.tok _,⟨_,by rw[hle]⟩,?_⟩
    exact q μ _ H (ae _) c9.refl S .int
   ·exact q.elim
  ·exact mv.h pins s σ H _ us Q I rv ⟨μ,st,_,S,r,q⟩
 ·exact mv.h pins s σ H _ us Q I rv ⟨μ,st,_,S,r,q⟩,fun ws st=>by
 unfold uq
 split
 ·split
  ·split<;>trivial
  ·exact(mv (X:=X)).n _ st
 ·exact(mv (X:=X)).n _ st⟩
end
open AutoSeq1 (wpAny_loadPart')
section
variable{w:World}
end
section
end
section
variable{a:Expr}{fs:FA}
end
section
theorem qe:∀{ys:List Int} {bw:List Value},b8 (ys.map V.int) bw->IntsAre bw ys
 |[],_,r=>by cases r;exact .nil
 |y::ys,_,r=>by
  cases r with
  |cons r rr=>
   obtain⟨t,rfl⟩:=r
   exact .cons _ _ (qe rr)
theorem rT:∀{bw:List Value} {ns:List Int},IntsAre bw ns->b8 (ns.map V.int) bw
 |_,_,.nil=>.nil
 |_,_,.cons y t r=>.cons ⟨t,rfl⟩ (rT r)
theorem BJ(l:List Int):RelWs K μ H (l.map W.int) (l.map V.int):=by
 induction l with
 |nil=>exact .nilI
 |cons a r ih=>exact .consI .int ih
def lc(ws:List W)(st:List ai):R W:=match ws with
 |[.loc n]=>pf (lstOf st n) fun zs=>pf (fQ zs) fun l=>if l.length<64 then .ok (.loc st.length) (st++[.lst ((sortI l).map W.int)])else .bad
 |_=>.bad
theorem Al:lN X (.builtin "sorted") lc:=⟨fun pins s σ H vs us Q I rv ⟨μ,st,ws,S,r,q⟩=>by
 unfold lc at q
 split at q
 ·rename_i n
  obtain⟨y,rfl,ry⟩:=r.one
  cases e1:lstOf st n with
  |none=>rw[e1]at q;exact q.elim
  |some zs=>
   rw[e1,cA]at q
   cases e2:fQ zs with
   |none=>rw[e2]at q;exact q.elim
   |some l=>
    rw[e2,cA]at q
    split at q
    ·rename_i c
     obtain⟨a,vs,g,hS,rz⟩:=S.lstOf e1
     obtain⟨b1,f1,rfl⟩:=ry.locE
     rw[g]at f1;cases f1
     have ev:=mC e2 rz
     subst ev
     obtain⟨u,rfl,ru⟩:=lL rv
     cases ru
     obtain⟨bw,rv',pl,hz⟩:=I.list hS
     have hl:=rv'.length
     rw[aj]at hl
     refine sorted_ints (ns:=l) pl.isList (qe (by simpa using rv')) (by omega) fun out Ni h1 h2 h3=>?_
     have en:=PySem.W.eq_sortI h2 h3
     subst en
     obtain⟨ep,hat⟩:=sortedAll_at s.heap bw out
     have qA:H (s.heap.objs.size+1)=none:=I.hok.fresh (gU _)
     refine⟨.ref (s.heap.objs.size+1),_,I.laid (o:=.lst ((sortI l).map V.int)) (t':=s.toks) (fun b o e=>sortedAll_old e) (gU _) ?_,rfl,q (μ++[s.heap.objs.size+1]) _ _ (ar _ _) (eG.same (cf qA _)) (S.newLst qA (BJ _)) (mq S)⟩
     refine⟨?_,out.toList,ep,rT h1,hat⟩
     rw[aj,h2.length_eq]
     exact be (cV c) (by decide)
    ·exact q.elim
 ·exact q.elim,fun ws st=>by
 unfold lc
 split
 ·exact nq fun _=>nq fun _=>by split<;>trivial
 ·trivial⟩
end
section
end
section
end
section
end
theorem vt{w:World}(e:h.get? a=some o):dU P w H h a (kw a o):=⟨e,⟨o,e⟩,fun h1 h2 p k=>k o p⟩
theorem BK{u:Option Value}(e:h.get? a=some o)(hd:o.data=.cell u)(q:Str):kw a o≠ia a q:=fun z=>by
 have:=congrFun (HO.ext.inj z) h
 have t:∃o' vs t,h.get? a=some o'/\o'.data=.fields vs/\vs[1]?=some (.str q t):=cast this e
 obtain⟨o',vs,_,e1,e2,_⟩:=t
 rw[e]at e1;cases e1;rw[hd]at e2;cases e2
def drp(H:Hp)(c:Addr):Hp:=fun b=>if b=c then none else H b
theorem j9{c:Addr}(h:b≠c):drp H c b=H b:=by unfold drp;rw[aD h]
theorem oA{c:Addr}:drp H c c=none:=by unfold drp;rw[aw rfl]
section
variable{st:List ai}{w:World}
theorem c9.drp{c:Addr}(hl:H c=some (.ext φ)):c9 K H (drp H c):=by
 have lx:∀{p:Addr} {o:HO},H p=some o->(∀z,o≠.ext z)->p≠c:=fun{p o} q hn z=>by subst z;rw[hl]at q;cases q;exact hn _ rfl
 refine⟨fun p ys h=>?_,fun b o u h=>by rw[j9 (lx h (fun _ z=>by cases z))];exact h⟩
 rcases h with(h|⟨o,h⟩)|h
 ·exact .inl (.inl (by rw[j9 (lx h (fun _ z=>by cases z))];exact h))
 ·exact .inl (.inr ⟨o,by rw[j9 (lx h (fun _ z=>by cases z))];exact h⟩)
 ·exact .inr h
theorem jK.drp{c:Addr}(hok:jK P w H h)(hl:H c=some (.ext φ)):jK P w (drp H c) h:=fun b u e=>by
 by_cases hb:b=c
 ·subst hb;rw[oA]at e;cases e
 ·rw[j9 hb]at e
  refine(hok b u e).stay (fun _ _ _ q=>q) (fun x q=>?_) fun x xs q=>?_
  ·rw[j9 (by rintro rfl;rw[hl]at q;cases q)];exact q
  ·rw[j9 (by rintro rfl;rw[hl]at q;cases q)];exact q
theorem jK.put{c:Addr}(hok:jK P w H h)(hc:H c=none)(e:h.get? c=some o):jK P w (dY H c (kw c o)) h:=fun b u q=>by
 by_cases hb:b=c
 ·subst hb;rw[df]at q;cases q;exact vt e
 ·rw[bX hb]at q
  refine(hok b u q).stay (fun _ _ _ z=>z) (fun x z=>?_) fun x xs z=>?_
  ·rw[bX (by rintro rfl;rw[hc]at z;cases z)];exact z
  ·rw[bX (by rintro rfl;rw[hc]at z;cases z)];exact z
theorem lf{l:List α}{x d:α}(e:(l.set j x)[i]?=some d):(i=j/\d=x/\j<l.length)\/(i≠j/\l[i]?=some d):=by
 by_cases q:j=i
 ·subst q
  have hl:j<l.length:=by have:=(aa.mp e).1;simpa using this
  rw[bi hl]at e
  exact .inl ⟨rfl,(aM e).symm,hl⟩
 ·rw[bH q]at e;exact .inr ⟨Ne.symm q,e⟩
theorem fG.hide{k:Bool}{c:Addr}{x:W}{u:Option Value}(S:fG K mg μ st H)(hj:st[j]?=some (.pin k c o x))(e:h.get? c=some o)(hd:o.data=.cell u):fG K mg μ (st.set j .gone) (L2.drp H c):=by
 obtain⟨a,hm,rfl,hc,_⟩:=S.get hj
 have xt:c9 K H (L2.drp H a):=c9.drp hc
 refine⟨fun i i' b ci cj h1 h2 r1 r2 m1 m2=>?_,by simp[S.len],fun i d b h1 h2=>?_⟩
 ·rcases lf h1 with⟨rfl,rfl,_⟩|⟨_,h1⟩
  ·cases r1
  ·rcases lf h2 with⟨rfl,rfl,_⟩|⟨_,h2⟩
   ·cases r2
   ·exact S.nd i i' b ci cj h1 h2 r1 r2 m1 m2
 ·rcases lf h1 with⟨rfl,rfl,_⟩|⟨hij,h1⟩
  ·trivial
  ·have r:=S.at' i d b h1 h2
   by_cases hrd:d.isRo=true
   ·cases d with
    |ro zs=>
     obtain⟨us,p,q⟩:=r
     refine⟨us,?_,q.mono (ae _) xt⟩
     rcases p with⟨o2,p⟩|p
     ·exact .inl ⟨o2,xt.z _ _ _ p⟩
     ·exact .inr p
    |gone=>trivial
    |lst _=>cases hrd
    |exc _=>cases hrd
    |dct _=>cases hrd
    |rod _=>cases hrd
    |dcx _=>cases hrd
    |tab _ _ _=>cases hrd
    |pin _ _ _ _=>cases hrd
   ·have hb:b≠a:=by
     rintro rfl
     exact hij (S.nd i j b d _ h1 hj (by simpa using hrd) rfl h2 hm)
    refine r.keep (ae _) xt (fun o' ho=>by rw[j9 hb];exact ho) fun b' q z=>?_
    rw[j9 (by rintro rfl;rw[hc]at z;exact BK e hd _ (aM z))];exact z
theorem fG.take'{c:Addr}{x:W}(S:fG K mg μ st H)(hj:st[j]?=some .gone)(hm:μ[j]?=some c)(hc:H c=none)(rx:bb K μ H x v)(hd:∃u,o.data=.cell (some u)/\bF v u):fG K mg μ (st.set j (.pin true c o x)) (dY H c (kw c o)):=by
 have hs:m9 H (dY H c (kw c o)):=cf hc _
 have S':=S.same hs
 refine⟨fun i i' b ci cj h1 h2 r1 r2 m1 m2=>?_,by simp[S.len],fun i d b h1 h2=>?_⟩
 ·rcases lf h1 with⟨y1,y2,_⟩|⟨hi,g1⟩
  ·rcases lf h2 with⟨z1,_,_⟩|⟨hi2,g2⟩
   ·rw[y1,z1]
   ·rw[y1,hm]at m1;cases m1
    obtain⟨o',z⟩:=(S.at' i' cj c g2 m2).ro_ne r2
    rw[hc]at z;cases z
  ·rcases lf h2 with⟨z1,_,_⟩|⟨_,g2⟩
   ·rw[z1,hm]at m2;cases m2
    obtain⟨o',z⟩:=(S.at' i ci c g1 m1).ro_ne r1
    rw[hc]at z;cases z
   ·exact S.nd i i' b ci cj g1 g2 r1 r2 m1 m2
 ·rcases lf h1 with⟨rfl,rfl,_⟩|⟨_,h1⟩
  ·rw[hm]at h2;cases h2
   exact⟨rfl,df,(fun z=>by cases z),v,rx.mono (ae _) (eG.same hs),fun _=>hd⟩
  ·exact S'.at' i d b h1 h2
abbrev iD:=Nat×Addr×Obj×W
def oB:List Nat->List ai->Option (List iD×List ai)
 |[],st=>some ([],st)
 |j::js,st=>match st[j]? with
  |some (.pin true c o x)=>(match oB js (st.set j .gone)with
   |some (l,bv)=>some ((j,c,o,x)::l,bv)
   |none=>none)
  |_=>none
def lg:List iD->Hp->Hp
 |[],H=>H
 |x::l,H=>lg l (drp H x.2.1)
theorem g7:∀{l:List iD} {H:Hp} {b:Addr},(∀x∈l,x.2.1≠b)->lg l H b=H b
 |[],_,_,_=>rfl
 |x::l,H,b,n=>by
  show lg l (drp H x.2.1) b=_
  rw[g7 fun y hy=>n y (aA _ hy),j9 (Ne.symm (n x aN))]
theorem qG{l:List iD}(h:∃x∈l,x.2.1=b):lg l H b=none:=by
 induction l generalizing H with
 |nil=>obtain⟨y,hy,_⟩:=h;exact absurd hy (by simp)
 |cons x l ih=>
  unfold lg
  by_cases q:∃z∈l,z.2.1=b
  ·exact ih q
  ·rw[g7 fun z hz e'=>q ⟨z,hz,e'⟩]
   obtain⟨y,hy,e⟩:=h
   rcases aJ.mp hy with r|r
   ·rw[<- e,r];exact oA
   ·exact absurd ⟨y,r,e⟩ q
def w9(K:Frag)(μ:List Addr)(H:Hp)(h:Heap)(x:iD):Prop:=μ[x.1]?=some x.2.1/\h.get? x.2.1=some x.2.2.1/\∃u v,x.2.2.1.data=.cell (some u)/\bF v u/\bb K μ H x.2.2.2 v
theorem rV:∀{js:List Nat} {st bv:List ai} {H:Hp} {l:List iD},fG K mg μ st H->jK P w H h->oB js st=some (l,bv) ->
  fG K mg μ bv (lg l H)/\jK P w (lg l H) h/\c9 K H (lg l H)/\(∀x∈l,w9 K μ (lg l H) h x/\H x.2.1=some (kw x.2.1 x.2.2.1))/\(l.map fun x=>x.2.1).Nodup
 |[],st,bv,H,l,S,hok,e=>by cases e;exact⟨S,hok,c9.refl,fun _ z=>absurd z (by simp),jH⟩
 |j::js,st,bv,H,l,S,hok,e=>by
  unfold oB at e
  split at e
  ·rename_i c o x hj
   split at e
   ·rename_i l1 st1 h1
    cases e
    obtain⟨a,hm,rfl,hc,_,v,rx,g⟩:=S.get hj
    obtain⟨u,hu,ru⟩:=g rfl
    obtain⟨ge,_⟩:=hok _ _ hc
    have x1:c9 K H (L2.drp H a):=c9.drp hc
    obtain⟨r1,r2,r3,r4,r5⟩:=rV (S.hide hj ge hu) (hok.drp hc) h1
    refine⟨r1,r2,x1.trans r3,fun y hy=>?_,bx.mpr ⟨fun z=>?_,r5⟩⟩
    ·rcases aJ.mp hy with rfl|hy
     ·exact⟨⟨hm,ge,u,v,hu,ru,rx.mono (ae _) (x1.trans r3)⟩,hc⟩
     ·obtain⟨q1,q2⟩:=r4 y hy
      refine⟨q1,?_⟩
      by_cases hb:y.2.1=a
      ·rw[hb,oA]at q2;cases q2
      ·rw[j9 hb]at q2;exact q2
    ·obtain⟨y,hy,e2⟩:=am.mp z
     have:=(r4 y hy).2
     rw[show y.2.1=a from e2,oA]at this;cases this
   ·cases e
  ·cases e
def yW:List iD->List ai->Option (List ai)
 |[],st=>some st
 |(j,c,o,x)::l,st=>match st[j]? with
  |some .gone=>yW l (st.set j (.pin true c o x))
  |_=>none
def nK:List iD->Hp->Hp
 |[],H=>H
 |x::l,H=>nK l (dY H x.2.1 (kw x.2.1 x.2.2.1))
theorem fA:∀{l:List iD} {H:Hp} {b:Addr},(∀x∈l,x.2.1≠b)->nK l H b=H b
 |[],_,_,_=>rfl
 |x::l,H,b,n=>by
  show nK l (dY H x.2.1 _) b=_
  rw[fA fun y hy=>n y (aA _ hy),bX (Ne.symm (n x aN))]
theorem Am:∀{l:List iD} {st bv:List ai} {H:Hp},fG K mg μ st H->jK P w H h->(∀x∈l,w9 K μ H h x/\H x.2.1=none)->(l.map fun x=>x.2.1).Nodup->yW l st=some bv ->
  fG K mg μ bv (nK l H)/\jK P w (nK l H) h/\c9 K H (nK l H)
 |[],st,bv,H,S,hok,_,_,e=>by cases e;exact⟨S,hok,c9.refl⟩
 |(j,c,o,x)::l,st,bv,H,S,hok,ha,nd,e=>by
  unfold yW at e
  split at e
  ·rename_i hj
   obtain⟨⟨m,g,u,v,d,ru,rx⟩,hn⟩:=ha _ aN
   have hs:m9 H (dY H c (kw c o)):=cf hn _
   have x1:c9 K H (dY H c (kw c o)):=eG.same hs
   have lT:∀y∈l,w9 K μ (dY H c (kw c o)) h y/\dY H c (kw c o) y.2.1=none:=fun y hy=>by
    obtain⟨⟨m',g',u',v',d',ru',rx'⟩,hn'⟩:=ha y (aA _ hy)
    refine⟨⟨m',g',u',v',d',ru',rx'.mono (ae _) x1⟩,?_⟩
    rw[bX fun z=>(bx.mp nd).1 (am.mpr ⟨y,hy,z⟩)];exact hn'
   obtain⟨r1,r2,r3⟩:=Am (l:=l) (S.take' hj m hn rx ⟨u,d,ru⟩) (hok.put hn g) lT (bx.mp nd).2 e
   exact⟨r1,r2,x1.trans r3⟩
  ·cases e
def gO:List iD->List ai:=fun l=>l.map fun x=>.pin true x.2.1 x.2.2.1 x.2.2.2
theorem w_:∀{l:List iD} {st:List ai} {μ:List Addr} {H:Hp},fG K mg μ st H->jK P w H h->(∀x∈l,H x.2.1=none/\h.get? x.2.1=some x.2.2.1/\∃u v,x.2.2.1.data=.cell (some u)/\bF v u/\bb K μ H x.2.2.2 v)->(l.map fun x=>x.2.1).Nodup ->
  fG K mg (μ++l.map fun x=>x.2.1) (st++gO l) (nK l H)/\jK P w (nK l H) h/\c9 K H (nK l H)
 |[],st,μ,H,S,hok,_,_=>by simp only[gO,dk,cn];exact⟨S,hok,c9.refl⟩
 |(j,c,o,x)::l,st,μ,H,S,hok,ha,nd=>by
  obtain⟨hn,g,u,v,d,ru,rx⟩:=ha _ aN
  have hs:m9 H (dY H c (kw c o)):=cf hn _
  have x1:c9 K H (dY H c (kw c o)):=eG.same hs
  have S1:fG K mg (μ++[c]) (st++[.pin true c o x]) (dY H c (kw c o)):=S.push hn ⟨rfl,df,(fun z=>by cases z),v,rx.mono (ar _ _) x1,fun _=>⟨u,d,ru⟩⟩
  obtain⟨r1,r2,r3⟩:=w_ (l:=l) S1 (hok.put hn g) (fun y hy=>by
   obtain⟨hn',g',u',v',d',ru',rx'⟩:=ha y (aA _ hy)
   refine⟨?_,g',u',v',d',ru',rx'.mono (ar _ _) x1⟩
   rw[bX fun z=>(bx.mp nd).1 (am.mpr ⟨y,hy,z⟩)];exact hn') (bx.mp nd).2
  rw[aO,aO]at r1
  exact⟨r1,r2,x1.trans r3⟩
end
section
theorem BL{P c:Addr}{q:Str}{pr:Arguments}{fl:Nat}{ps:Array Value}(kL:X.env.code=.ref c)(IB:codeHdIn X.K c P=true)(hB:qw X.base X.mg)
  (jd:closureFor sc X.env=pure cl) (I:bj X pins σ H s) (hP:H P=some (.tbl ps)) (ht:TriplesOk ps.toList) (Nh:codeAmong pos ps.toList=none\/∃cd,codeAmong pos ps.toList=some (.ref cd)/\H cd=some (ia cd q))
  (h:∀f cd im ct h' t H',((codeAmong pos ps.toList=none/\H cd=none/\H'=rM H P cd q ps pos)\/H'=H)->H' f=none->H' cd=some (ia cd q) ->
   bj X pins σ (dY H' f (kw f (fnMade name q pr body sc cl im ((X.mg "__name__").getD .none) cd ct))) { s with heap:=h',toks:=t }->Q (.ref f) { s with heap:=h',toks:=t }) :
  wpAny (model X.prog X.w) X.A (makeFunction name q pr (.stmts body) sc X.env [] [] [] pos fl) Q E s:=by
 have hPo:s.heap.get? P=some { cls:=.none,data:=.fields ps }:=I.hok P _ hP
 have hgs:s.heap.Ns mainGlobals X.mg:=I.mod.glob.keeps I.bk
 have hgP:mainGlobals≠P:=fun z=>by
  obtain⟨o,es,ep,e,hd,_⟩:=hgs
  rw[z,hPo]at e;cases e;cases hd
 obtain⟨bm,ob,b1,b2,b4,b5,b6,b7⟩:=hB
 have b4':=I.bk _ _ b4
 have hbP:bm≠P:=fun z=>by rw[z,hPo]at b4';cases b4';cases b5
 have b3:bm≠mainGlobals:=fun z=>by
  obtain⟨o,es,ep,e,hd,_⟩:=hgs
  rw[z,e]at b4';cases b4';rw[b7]at hd;cases hd
 have hb:s.heap.BuiltinsAt X.mg P:=⟨bm,ob,b1,b2,b3,hbP,b4',b5,b6,b7⟩
 have CH:=PySem.W.codeHd_of_K I.kIn IB
 rcases Nh with hn|⟨cd,hhit,hH⟩
 ·refine PySem.W.makeFunction_K (mg:=X.mg) jd I.ok.glob hgs kL CH hPo ht hn hgP hb fun cd ct im h' tk hx zG jS zK NH=>?_
  have hcdn:H cd=none:=I.hok.fresh zG
  have hPc:P≠cd:=fun z=>by rw[z,hcdn]at hP;cases hP
  have I1:=I.tabbed (t':=tk) hP zG (fun b o hb e=>hx b o hb e) zK NH
  have I2:=bj.laid (t':=tk) (o:=kw h'.objs.size (fnMade name q pr body sc cl im ((X.mg "__name__").getD .none) cd ct)) I1 (fun b u e=>ao _ e) (av _) (vt (aS _ rfl))
  exact h _ cd im ct _ tk _ (.inl ⟨hn,hcdn,rfl⟩) (I1.hok.fresh (av _)) (vm hPc) I2
 ·refine PySem.W.makeFunction_hit (mg:=X.mg) jd I.ok.glob hgs kL CH hPo ht hhit hb fun ct im h' tk hk hsz=>?_
  have I1:=I.kept (t':=tk) hk
  have I2:=bj.laid (t':=tk) (o:=kw h'.objs.size (fnMade name q pr body sc cl im ((X.mg "__name__").getD .none) cd ct)) I1 (fun b u e=>ao _ e) (av _) (vt (aS _ rfl))
  exact h _ cd im ct _ tk _ (.inr rfl) (I1.hok.fresh (av _)) hH I2
end
def LF(name q:Str)(pr:Arguments)(body:List Stmt)(sc:Scope)(xs:List Str)(o:Obj):Prop:=∃cl im pm cd ct,cl.map (·.1)=xs/\(cl.map (·.2)).Nodup/\o=fnMade name q pr body sc cl im pm cd ct
def LG(X:Cx)(name q:Str)(pr:Arguments)(body:List Stmt)(sc:Scope)(o:Obj):Prop:=∃im cd ct,o=fnMade name q pr body sc (cI X.env sc.names []) im ((X.mg "__name__").getD .none) cd ct
open Classical in
def Hs(ok:α->Prop)(f:α->RS):RS:=if h:∃r,∀a,ok a->f a=r then h.choose else .bad
def An(st:List ai):RS->RS
 |.rt w bv=>.rt w (g6 st bv [w])
 |_=>.bad
open Classical in
def ur(ok:Obj->Prop)(j:Nat)(P:Addr)(pos:Pos)(q:Str)(i:Nat)(g:Addr->Obj->FS):FS:=fun ρ st=>if p_ st j P pos q then
  Hs (fun p:Addr×Obj=>ok p.2) (fun p=>An st (g p.1 p.2 (ρ.set i (some (.loc st.length))) (st++[.pin false p.1 p.2 .non])))else .bad
theorem Ht{ok:α->Prop}{f:α->RS}{r:RS}(a0:α)(h0:ok a0)(h:∀a,ok a->f a=r):Hs ok f=r:=by
 have e:∃r,∀a,ok a->f a=r:=⟨r,h⟩
 unfold Hs
 rw[lH e,<- e.choose_spec a0 h0,h a0 h0]
section
variable{q:Str}{pr:Arguments}{rest:List Stmt}{P c:Addr}{xs:List Str}{g:Addr->Obj->FS}
def Pj(X:Cx)(name q:Str)(pr:Arguments)(body:List Stmt)(sc:Scope)(xs:List Str)(j:Nat)(P:Addr)(pos:Pos)(i:Nat):TS:=fun D σ H=>∃μ ρ st,Rl X μ ρ st σ H/\p_ st j P pos q /\
 ∀f o H',LG X name q pr body sc o->LF name q pr body sc xs o->c9 X.K H H'->fG X.K X.mg (μ++[f]) (st++[.pin false f o .non]) H'->D.nx (σ.set i (some (.ref f))) H'
theorem Hu(kL:X.env.code=.ref c)(IB:codeHdIn X.K c P=true)(hB:qw X.base X.mg)(fj:X.env.cells=cellsFrom m X.env.scope.names [])(qA:∀x∈sc.names,x.2=.free->X.env.scope.names.lookup x.1=some .cell)
  (NI:(cI X.env sc.names []).map (·.1)=xs) (kr:xs.Nodup) (hq:qualnameIn X.env name name=q) (hN:X.N.Nodup) (hi:X.N[i]?=some name) (hx:Co X.env.scope name) (hf:X.fn name=true\/X.env.scope.names.lookup name=some .local)
  (QO:pr.defaults=[]:=by rfl) (Ss:pr.kw_defaults=[]:=by rfl) (ha:annTrees pr none X.env=[]:=by rfl) :
  PS X (.FunctionDef name pr body [] none [] sc none name pos) (Pj X name q pr body sc xs j P pos i):=fun pins s σ H D I h=>by
 obtain⟨μ,ρ,st,l,e4,h⟩:=h
 obtain⟨aP,hP0,eP,ps,hP,ht,Nh⟩:=l.sto.get e4
 subst eP
 have has:∀x∈sc.names,x.2=.free->∃c,X.env.cells.lookup x.1=some c:=fun x hx hf=>by rw[fj];exact jf (qA x hx hf)
 have jd:closureFor sc X.env=pure (cI X.env sc.names []):=zX has
 refine PySem.W.nestDef_K QO Ss ha ?_
 rw[hq]
 refine BL (P:=aP) kL IB hB jd I hP ht Nh fun f cd im ct h' t H' hH yk kt I2=>?_
 refine qS I2 hN hi hx (v:=.ref f) rfl (fun s' I3=>?_) hf
 have ok:LG X name q pr body sc (fnMade name q pr body sc (cI X.env sc.names []) im ((X.mg "__name__").getD .none) cd ct):=⟨im,cd,ct,rfl⟩
 have hcl':∀y∈cI X.env sc.names [],X.env.cells.lookup y.1=some y.2:=ku sc.names [] has (by simp)
 have nd2:((cI X.env sc.names []).map (·.2)).Nodup:=by
  have nd1:((cI X.env sc.names []).map (·.1)).Nodup:=by rw[NI];exact kr
  have gen:∀l:List (Str×Addr),(∀y∈l,X.env.cells.lookup y.1=some y.2)->(l.map (·.1)).Nodup->(l.map (·.2)).Nodup:=by
   intro l
   induction l with
   |nil=>intro _ _;exact jH
   |cons y l ih=>
    intro a b
    rw[aC,bx]at b ⊢
    refine⟨fun z=>b.1 ?_,ih (fun y hy=>a y (aA _ hy)) b.2⟩
    obtain⟨y',ye,e⟩:=am.mp z
    have:=I.ok.inj _ _ _ (a y aN) (by rw[<- e];exact a y' (aA _ ye))
    rw[this]
    exact am.mpr ⟨y',ye,rfl⟩
  exact gen _ hcl' nd1
 have hS':fG X.K X.mg μ st H'/\c9 X.K H H':=by
  rcases hH with⟨g1,g2,rfl⟩|rfl
  ·exact l.sto.tabbed e4 hP g2 ht g1
  ·exact⟨l.sto,c9.refl⟩
 obtain⟨S',X'⟩:=hS'
 have hs:m9 H' (dY H' f (kw f (fnMade name q pr body sc (cI X.env sc.names []) im ((X.mg "__name__").getD .none) cd ct))):=cf yk _
 refine⟨_,_,I3,h f _ _ ok ⟨_,im,_,cd,ct,NI,nd2,rfl⟩ (X'.trans (eG.same hs)) (S'.push yk ⟨rfl,df,fun _=>⟨_,cd,rfl,rfl,?_⟩,.non,.non,fun z=>by cases z⟩)⟩
 rw[bX (by rintro rfl;rw[yk]at kt;cases kt)];exact kt
theorem Hv(hd:PS X (.FunctionDef name pr body [] none [] sc none name pos) (Pj X name q pr body sc xs j P pos i))(sP:∀f o,LG X name q pr body sc o->SB X rest (g f o)) :
  SB X (.FunctionDef name pr body [] none [] sc none name pos::rest) (ur (LF name q pr body sc xs) j P pos q i g):=⟨(wq hd (u:=fun D σ H=>∃f o,LG X name q pr body sc o/\Nx X (g f o) D σ H) (fun pins s σ H D I h=>by
  obtain⟨f,o,ok,h⟩:=h
  exact(sP f o ok).h pins s σ H D I h)).imp fun D σ H h=>by
 obtain⟨μ,ρ,st,l,h⟩:=h
 unfold ur at h
 by_cases e4:p_ st j P pos q
 ·rw[aw e4]at h
  refine⟨μ,ρ,st,l,e4,fun f o H' on ok x S=>⟨f,o,on,μ++[f],ρ.set i (some (.loc st.length)),st++[.pin false f o .non],⟨n6 (.locI (by rw[l.sto.len];simp)) i (pq (ar _ _) x l.env),S⟩,?_⟩⟩
  unfold Hs at h
  by_cases he:∃r,∀p:Addr×Obj,LF name q pr body sc xs p.2->An st (g p.1 p.2 (ρ.set i (some (.loc st.length))) (st++[.pin false p.1 p.2 .non]))=r
  ·rw[lH he]at h
   have hr:=he.choose_spec (f,o) ok
   rw[<- hr]at h
   simp only at h
   cases e:g f o (ρ.set i (some (.loc st.length))) (st++[.pin false f o .non])with
   |rt w cH=>
    rw[e]at h
    intro μ' v H2 p x2 S2 r2
    obtain⟨μ2,p2,S3,r3⟩:=iA l.sto S2 ((ar _ _).trans p) (.consI r2 .nilI)
    obtain⟨_,e2,r4⟩:=r3.one
    cases e2
    exact h μ2 v H2 p2 (x.trans x2) S3 r4
   |nx _ _=>rw[e]at h;exact h.elim
   |bk _ _=>rw[e]at h;exact h.elim
   |ct _ _=>rw[e]at h;exact h.elim
   |ex _ _ _=>rw[e]at h;exact h.elim
   |bad=>rw[e]at h;exact h.elim
  ·rw[dif_neg he]at h;exact h.elim
 ·rw[aD e4]at h;exact h.elim⟩
end
structure yX(N ps xs:List Str)(sc:Scope):Prop where
 kind:sc.kind=.function
 co:sc.isCoroutine=false
 gen:sc.isGenerator=false
 nd:N.Nodup
 pre:N.take ps.length=ps
 mid:(N.drop ps.length).take xs.length=xs
 par:∀x∈ps,sc.names.lookup x=some .local
 nocell:∀y∈sc.names,y.2≠.cell
 fre:∀y∈sc.names,y.2=.free->y.1∈xs
 xfr:∀x∈xs,sc.names.lookup x=some .free
abbrev BM(q:Str)(sc:Scope)(L f:Addr)(cd:Value)(cl:List (Str×Addr)):Env:=PySem.W.envX q sc L f cd cl
def pI(CX:Cp)(P:Program)(w:World)(K:Frag)(mg:Str->Option Value)(base:Heap)(N:List Str)(qual:Str)(scope:Scope)(f:Addr)(cd:Value)(cl:List (Str×Addr))(A:Around)(outer:List Env)(s:Shared)(H:Hp)(E:XK):Cx where
 prog:=P
 w:=w
 K:=K
 mg:=mg
 base:=base
 A:=A.deeper (BM qual scope s.heap.objs.size f cd cl)
 N:=N
 s₀:=s
 H₀:=H
 env:=BM qual scope s.heap.objs.size f cd cl
 outer:=outer
 stack:=BM qual scope s.heap.objs.size f cd cl::outer
 ex:=[]
 calm:=true
 fn:=fun _=>false
 pn:=[]
 xe:=fun e s'=>wpAny (model P w) (A.deeper (BM qual scope s.heap.objs.size f cd cl)) (leaving (BM qual scope s.heap.objs.size f cd cl) e) (fun _ s''=>CX outer H s E e s'') (fun e' s''=>CX outer H s E e' s'') s'
theorem mW:∀{l:List (Str×α)} {x:Str} {a:α},(l.map (·.1)).Nodup->(x,a)∈l->l.lookup x=some a
 |[],_,_,_,h=>absurd h (by simp)
 |(y,b)::l,x,a,nd,h=>by
  rw[aC,bx]at nd
  rcases aJ.mp h with e|h2
  ·cases e;simp[fE]
  ·have:(x==y)=false:=by
    rw[a8];intro z;exact nd.1 (am.mpr ⟨_,h2,z⟩)
   rw[fE,this];exact mW nd.2 h2
theorem nL{R:α->β->Prop}:∀{l:List α} {m:List β} {i:Nat} {a:α},Paired R l m->l[i]?=some a->∃b,m[i]?=some b/\R a b
 |_,_,_,_,.nil,e=>by simp at e
 |_,_,0,_,.cons r _,e=>by simp at e;subst e;exact⟨_,rfl,r⟩
 |_,_,i+1,_,.cons _ t,e=>by simpa using nL (i:=i) t (by simpa using e)
theorem Ao:∀{l:List (Str×Addr)} {x y:Str} {c:Addr},(l.map (·.2)).Nodup->(x,c)∈l->(y,c)∈l->x=y
 |[],_,_,_,_,h,_=>absurd h (by simp)
 |(z,b)::l,x,y,c,nd,h1,h2=>by
  rw[aC,bx]at nd
  rcases aJ.mp h1 with e|h1
  ·rcases aJ.mp h2 with e2|h2
   ·cases e;cases e2;rfl
   ·cases e;exact absurd (am.mpr ⟨_,h2,rfl⟩) nd.1
  ·rcases aJ.mp h2 with e2|h2
   ·cases e2;exact absurd (am.mpr ⟨_,h1,rfl⟩) nd.1
   ·exact Ao nd.2 h1 h2
section
variable{w:World}
theorem DS{CX:Cp}{N xs:List Str}{cd:Value}{outer:List Env}{h₁:Heap}{tk:Nat}{E:XK}{yh:List Value}{qQ:List V}
  (S:yX N ps xs scope) (hd:A.handled=none) (e0:wu P w K mg base A outer s H) (hl:vs.length=ps.length) (r:b8 vs us) (rc:b8 qQ yh) (hx:cl.map (·.1)=xs) (hn:(cl.map (·.2)).Nodup)
  (hc:Paired (fun(y:Str×Addr) (u:Value)=>s.heap.IsCell y.2 (some u)/\H y.2=none) cl yh)
  (FZ:h₁.Ns s.heap.objs.size (fun x=>(ps.zip us).reverse.lookup x)) (hk:∀b o,s.heap.get? b=some o->h₁.get? b=some o) :
  bj (pI CX P w K mg base N qual scope f cd cl A outer s H E) [] (iU N (vs++qQ)) H { s with heap:=h₁,toks:=tk }:=by
 have oU:ps.length<=N.length:=by have:=cC List.length S.pre;rw[a9]at this;omega
 have hxl:xs.length<=N.length-ps.length:=by have:=cC List.length S.mid;rw[a9,d9]at this;omega
 have jd:qQ.length=xs.length:=by rw[rc.length,<- hc.length,<- hx,aj]
 have ndx:xs.Nodup:=by rw[<- S.mid];exact(S.nd.sublist (List.drop_sublist _ _)).sublist (f9 _ _)
 have ndP:ps.Nodup:=by rw[<- S.pre];exact S.nd.sublist (f9 _ _)
 have look:∀x∈xs,∃c,cl.lookup x=some c:=fun x pi=>by
  rw[<- hx]at pi
  obtain⟨y,hy,rfl⟩:=am.mp pi
  exact⟨y.2,mW (by rw[hx];exact ndx) hy⟩
 have cellOf:∀x c,cl.lookup x=some c->∃u,s.heap.IsCell c (some u)/\H c=none:=fun x c e=>by
  have hm:=PySem.mem_of_lookup e
  obtain⟨i,hi⟩:=aU hm
  obtain⟨u,_,q⟩:=nL hc hi
  exact⟨u,q⟩
 have noA:∀b:Addr,b∉(pI CX P w K mg base N qual scope f cd cl A outer s H E).ex:=fun b z=>absurd (show b∈([]:List Addr)from z) (by simp)
 refine⟨⟨e0.mod,S.kind,rfl,rfl,av _,fun y z c h1 h2=>?_,fun y hy=>?_,fun y c z _=>?_,fun _=>hd,Around.frames_deeper e0.frames,.inr ⟨rfl,rfl⟩,fun b z=>absurd z (noA b),e0.bs,e0.bsz,fun b _ _=>noA b,fun b z=>absurd z (noA b),e0.funs,e0.frf⟩,
  rfl,e0.bare,Un.kept hk,⟨_,FZ,fun i y v h1 h2 h3=>?_⟩,fun y c h=>?_,e0.hok.fresh (av _),fun y c h=>?_,fun p hp=>absurd (show p∈([]:List (Addr×Obj))from hp) (by simp),e0.hok.kept hk,?_⟩
 ·exact Ao hn (PySem.mem_of_lookup (show cl.lookup y=some c from h1)) (PySem.mem_of_lookup (show cl.lookup z=some c from h2))
 ·have hy:scope.names.lookup y=some .cell\/scope.names.lookup y=some .free:=hy
  rcases hy with hy|hy
  ·exact absurd rfl (S.nocell _ (PySem.mem_of_lookup hy))
  ·exact look y (S.fre _ (PySem.mem_of_lookup hy) rfl)
 ·cases z
 ·have h1:N[i]?=some y:=h1
  have hi:i<(vs++qQ).length:=by
   unfold iU at h2
   by_cases hi:i<(vs++qQ).length
   ·exact hi
   ·rw[bP (by simpa using hi)]at h2
    rw[gT]at h2
    split at h2<;>cases h2
  have ha:(vs++qQ)[i]?=some v:=by
   unfold iU at h2
   rw[aq (by simpa using hi),al]at h2
   cases e:(vs++qQ)[i]? with
   |none=>rw[e]at h2;cases h2
   |some a=>rw[e]at h2;cases h2;rfl
  obtain⟨u,hu,rv⟩:=(r.append rc).get ha
  refine⟨u,rv,?_⟩
  by_cases hip:i<ps.length
  ·have hp:ps[i]?=some y:=by rw[<- S.pre,aQ hip];exact h1
   have hu':us[i]?=some u:=by rw[aq (by rw[<- r.length,hl];exact hip)]at hu;exact hu
   refine .inl ⟨S.par y (ak hp),?_⟩
   have hz:(ps.zip us)[i]?=some (y,u):=by rw[jN];exact⟨hp,hu'⟩
   refine mW ?_ (List.mem_reverse.mpr (ak hz))
   rw[List.map_reverse]
   have:(ps.zip us).map (·.1)=ps:=List.map_fst_zip (by rw[<- r.length,hl];exact av _)
   rw[this]
   exact List.pairwise_reverse.mpr (ndP.imp fun h=>Ne.symm h)
  ·have pi:xs[i-ps.length]?=some y:=by
    rw[<- S.mid,aQ (by rw[aI,hl,jd]at hi;omega),List.getElem?_drop]
    rw[show ps.length+(i-ps.length)=i by omega];exact h1
   have hu':yh[i-ps.length]?=some u:=by rw[bP (by rw[<- r.length,hl];omega),<- r.length,hl]at hu;exact hu
   rw[<- hx,al]at pi
   obtain⟨yc,ey,e2⟩:=aY.mp pi
   obtain⟨u',eu,q1,q2⟩:=nL hc ey
   rw[hu']at eu;cases eu
   have hin:y∈xs:=by rw[<- hx,<- e2];exact am.mpr ⟨yc,ak ey,rfl⟩
   refine .inr ⟨.inr (S.xfr y hin),yc.2,?_,q1.keeps hk⟩
   exact mW (l:=cl) (by rw[hx];exact ndx) (by rw[<- e2];exact ak ey)
 ·obtain⟨u,q,_⟩:=cellOf y c h;exact⟨_,q.keeps hk⟩
 ·obtain⟨u,_,q⟩:=cellOf y c h;exact q
 ·unfold iU
  show _=N.length
  rw[aI,aj,l8,aI,hl,jd]
  omega
def kF(o:Obj):List (Str×Addr):=match o.data with
 |.func fd=>fd.closure
 |_=>[]
structure nM(P:Program)(w:World)(K:Frag)(mg:Str->Option Value)(base:Heap)(k n m:Nat)(ok:Obj->Prop)(F:List W->List ai->R W):Prop where
 run:∀(A:Around) (outer:List Env) (s:Shared) (H:Hp) (f:Addr) (o:Obj) (fd:FuncData) (us yh:List Value) (vs qQ:List V) (Q:VK) (E:XK),f' k A->wu P w K mg base A outer s H->s.heap.get? f=some o->ok o->o.data=.func fd->s.heap.CodeRec fd.code fd.qualname ->
  b8 vs us->b8 qQ yh->us.length=n->Paired (fun(y:Str×Addr) (u:Value)=>s.heap.IsCell y.2 (some u)/\H y.2=none) (kF o) yh->kT K mg (n+m) F (vs++qQ) H Q E ->
  codeAny (model P w) A (.call (.ref f) ⟨us,[]⟩) (CR (ji P w) outer P w H s Q E) s
theorem nM.mono{k:Nat}{ok:Obj->Prop}(h:nM P w K mg base j n m ok F)(hj:j<=k):nM P w K mg base k n m ok F:=
 ⟨fun A outer s H f o fd us yh vs qQ Q E hr=>h.run A outer s H f o fd us yh vs qQ Q E (hr.mono hj)⟩
theorem Hw{pr:Arguments}{N xs:List Str}{k:Nat}{g:FS}(S:yX N ps xs scope)(hn:ps.length=n)(hm:xs.length=m)
  (hb:∀(cl:List (Str×Addr)) (im pm:Value) (cd:Addr) (ct:Value) (us:List Value),us.length=ps.length->bindArgs (PySem.W.fnX name qual pr body scope cl .none .none im pm none (.ref cd) ct) ⟨us,[]⟩=pure (ps.zip us))
  (sT:∀(f:Addr) (cd:Value) (cl:List (Str×Addr)) (A:Around) (outer:List Env) (s:Shared) (H:Hp) (E:XK),f' k (A.deeper (BM qual scope s.heap.objs.size f cd cl)) ->
   SB (pI (ji P w) P w K mg base N qual scope f cd cl A outer s H E) body g):nM P w K mg base (k+1) n m (LF name qual pr body scope xs) (eA N.length g):=⟨fun A outer s H f o fd us yh vs qQ Q E hr e0 ho ok hd kt r rc hul hc J1=>by
 obtain⟨cl,im,pm,cd,ct,hx,kr,rfl⟩:=ok
 cases hd
 have KX:K.In s.heap:=e0.mod.kin.keeps fun b o e=>(e0.bs b o e).1
 have lim:s.heap.NoLimit:=e0.mod.nolimit.keeps fun b o e=>(e0.bs b o e).1
 have hl:vs.length=ps.length:=by rw[r.length,hul,hn]
 refine codeAny_call_def (fd:=PySem.W.fnX name qual pr body scope cl .none .none im pm none (.ref cd) ct) (body:=body) (binds:=ps.zip us) hr.depth ho rfl lim kt rfl (.of_eq (hb cl im pm cd ct us (by rw[hul,hn]))) S.nocell (fun y hy=>S.par _ (iP hy).1) (fun h₁ FZ hk=>?_) S.co S.gen S.kind
 have I:bj (pI (ji P w) P w K mg base N qual scope f (.ref cd) cl A outer s H E) [] (iU N (vs++qQ)) H { s with heap:=h₁,toks:=s.toks+(ps.zip us).length }:=DS S hr.hd e0 hl r rc hx kr hc FZ hk
 obtain⟨hl2,μ,ws,Nt,Sr,rw0,h⟩:=J1
 have hq:Nx (pI (ji P w) P w K mg base N qual scope f (.ref cd) cl A outer s H E) g { nx:=fun _ H'=>Q .non H',rt:=Q } (iU N (vs++qQ)) H:=by
  refine⟨μ,ws.map some++List.replicate (N.length-ws.length) none,Nt,⟨?_,Sr⟩,?_⟩
  ·unfold iU
   rw[<- rw0.len]
   have base:∀(ws:List W) (vs:List V) (m:Nat),RelWs K μ H ws vs->Paired (fun(o:Option W) (s:Option V)=>∀w,o=some w->∃v,s=some v/\bb K μ H w v) (ws.map some++List.replicate m none) (vs.map some++List.replicate m none):=by
    intro ws
    induction ws with
    |nil=>
     intro vs m r
     rw[r.nilE]
     induction m with
     |zero=>exact .nil
     |succ m ih=>exact .cons (fun w z=>nomatch z) ih
    |cons w ws ih=>
     intro vs m r
     obtain⟨y,ys,rfl,ry,rys⟩:=r.consE
     exact .cons (fun w' z=>⟨y,rfl,by cases z;exact ry⟩) (ih ys m rys)
   exact base ws _ _ rw0
  ·unfold eA at h
   cases e:g (ws.map some++List.replicate (N.length-ws.length) none) Nt with
   |rt w bv=>
    rw[e]at h
    intro μ' v H' p x S' jL
    obtain⟨μ2,p2,S2,r2⟩:=iA Sr S' p (.consI jL .nilI)
    obtain⟨_,e2,r3⟩:=r2.one
    cases e2
    exact h μ2 v H' p2 x S2 r3
   |nx ρ' bv=>
    rw[e]at h
    intro μ' σ' H' p x l'
    obtain⟨μ2,p2,S2,_⟩:=iA (ws:=[]) (vs:=[]) Sr l'.sto p .nilI
    exact h μ2 .non H' p2 x S2 .non
   |ex c ρ' bv=>
    rw[e]at h
    intro pins μ' σ' H' ev s' p x l' fl
    obtain⟨μ2,p2,S2,_⟩:=iA (ws:=[]) (vs:=[]) Sr l'.sto p .nilI
    exact fl.leaves rfl rfl fl.inv.ok.frames rfl fun C hC=>h C μ2 H' hC p2 x S2
   |bk ρ' bv=>rw[e]at h;exact h.elim
   |ct ρ' bv=>rw[e]at h;exact h.elim
   |bad=>rw[e]at h;exact h.elim
 refine dJ ((sT f (.ref cd) cl A outer s H E (hr.deeper _)).h [] _ (iU N (vs++qQ)) H _ I hq) (fun fl s' hs=>?_) fun e s' hs=>hs
 have fin:∀{σ':St} {H':Hp} {v:V} {u:Value},bj (pI (ji P w) P w K mg base N qual scope f (.ref cd) cl A outer s H E) [] σ' H' s'->bF v u->Q v H'->CE outer P w H s Q u s':=
  fun{σ' H' v u} J rv q=>⟨v,H',J.os,J.bare,J.base,J.hok,rv,q⟩
 cases fl with
 |ret u=>
  obtain⟨v,σ',H',J,rv,q⟩:=hs
  exact fin J rv q
 |next=>
  obtain⟨σ',H',J,q⟩:=hs
  exact fin (v:=V.non) (u:=Value.none) J rfl q
 |brk=>
  obtain⟨_,_,_,q⟩:=hs
  exact False.elim q
 |cont=>
  obtain⟨_,_,_,q⟩:=hs
  exact False.elim q⟩
end
def lQ(c:Addr):ai->Bool
 |.pin true a _ _=>a==c
 |_=>false
open Classical in
def rW(ok:Obj->Prop)(F:List W->List ai->R W)(m:Nat)(ws:List W)(st:List ai):R W:=match st[m]? with
 |some (.pin false _ o _)=>if ok o then(match oB ((kF o).map fun y=>(st.findIdx? (lQ y.2)).getD 0) st with
   |some (l,st1)=>if (l.map fun x=>x.2.1)=(kF o).map (·.2)then(match F (ws++l.map fun x=>x.2.2.2) st1 with
     |.ok w cH=>(match yW l cH with
      |some iy=>.ok w iy
      |none=>.bad)
     |_=>.bad)else .bad
   |none=>.bad)else .bad
 |_=>.bad
def nN(i n:Nat)(ok:Obj->Prop)(F:List W->List ai->R W)(fs:FA):FE:=fun ρ st=>match ρ[i]? with
 |some (some (.loc m))=>(match st[m]? with
  |some (.pin false _ _ _)=>(fs ρ st).bind fun ws st1=>if ws.length=n then rW ok F m ws st1 else .bad
  |_=>.bad)
 |_=>.bad
theorem jb{l:List iD}(h:H b=none):lg l H b=none:=by
 by_cases q:∃x∈l,x.2.1=b
 ·exact qG q
 ·rw[g7 fun x hx e=>q ⟨x,hx,e⟩];exact h
theorem xa:∀{l:List iD},(∀x∈l,w9 K μ H h x)->∃qQ yh,b8 qQ yh/\RelWs K μ H (l.map fun x=>x.2.2.2) qQ/\Paired (fun(x:iD) (u:Value)=>h.IsCell x.2.1 (some u)) l yh
 |[],_=>⟨[],[],.nil,.nilI,.nil⟩
 |x::l,ha=>by
  obtain⟨qQ,yh,a,b,c⟩:=xa (l:=l) fun y hy=>ha y (aA _ hy)
  obtain⟨_,g,u,v,d,ru,rx⟩:=ha x aN
  exact⟨v::qQ,u::yh,.cons ru a,.consI rx b,.cons ⟨_,g,d⟩ c⟩
theorem ut{R:Addr->α->Prop}:∀{l:List iD} {cl:List (Str×Addr)} {m:List α},(l.map fun x=>x.2.1)=cl.map (·.2)->Paired (fun(x:iD) u=>R x.2.1 u) l m->Paired (fun(y:Str×Addr) u=>R y.2 u) cl m
 |[],[],_,_,.nil=>.nil
 |[],_::_,_,e,_=>by simp at e
 |_::_,[],_,e,_=>by simp at e
 |x::l,y::cl,_,e,.cons r t=>by
  simp only[aC,List.cons.injEq]at e
  exact .cons (by rw[<- e.1];exact r) (ut e.2 t)
theorem xc{R T:α->β->Prop}:∀{l:List α} {m:List β},Paired R l m->(∀a∈l,∀b,T a b)->Paired (fun a b=>R a b/\T a b) l m
 |_,_,.nil,_=>.nil
 |_,_,.cons r t,h=>.cons ⟨r,h _ aN _⟩ (xc t fun a ha=>h a (aA _ ha))
section
variable{fs:FA}
theorem Hy(i:Nat){k k':Nat}{ok:Obj->Prop}(Nk:nM X.prog X.w X.K X.mg X.base k n m ok F)(hm:∀o,ok o->(kF o).length=m)(hr:f' k' X.A)(hk:k<=k')(ha:SA X (e::es) fs)
  (hN:X.N[i]?=some x:=by rfl) (hv:Nv X.env.scope x:=by first|exact Or.inl rfl|exact Or.inr (Or.inl rfl)|exact Or.inr (Or.inr rfl)) (yg:(x==("__debug__":Str))=false:=by decide)
  (kt:(x==("__classdict__":Str))=false:=by decide) (he:starEach (e::es) X.env=(false,eval e X.env)::starEach es X.env:=by rfl) (oU:(backTo pos (starEach es X.env)).any (·.1)=false:=by rfl) :
  SE X (.Call (.Name x p) (e::es) [] pos) (nN i n ok F fs):=⟨by
 intro pins s σ H Q I h
 obtain⟨μ,ρ,st,l,h⟩:=h
 unfold nN at h
 split at h
 ·rename_i mm e1
  split at h
  ·rename_i f0 o0 w0 e2
   obtain⟨v,hσ,rx⟩:=ky l.env e1
   obtain⟨f,hmu,rfl⟩:=rx.locE
   obtain⟨a0,hmu0,ea,hH0,hf0,_⟩:=l.sto.get e2
   rw[hmu]at hmu0;cases hmu0
   subst ea
   refine eD (fI ((pv i hN hv yg kt) pins s σ H (fun v H1=>v=.ref f/\H1=H) I ⟨_,hσ,rfl,rfl⟩) fun u s1 tQ=>?_)
   obtain⟨v1,H1,I1,ru,rfl,rfl⟩:=tQ
   obtain rfl:u=Value.ref f:=ru
   have fnAt:∀{H2:Hp} {h2:Heap} {o:Obj},jK X.prog X.w H2 h2->H2 f=some (kw f o)->(∃fd cd,o.data=.func fd/\fd.code=.ref cd/\H2 cd=some (ia cd fd.qualname))->PySem.W.FnAt f h2:=fun{H2 h2 o} hok q r=>by
    obtain⟨g,_⟩:=hok _ _ q
    obtain⟨fd,_,d,_⟩:=r
    obtain⟨c1,c2,c3,c4⟩:=o
    cases d
    exact⟨c1,c2,fd,c4,g⟩
   have h':OE X fs σ H1 fun vs H2=>∃μ1 st1 ws,Rl X μ1 ρ st1 σ H2/\μ <+: μ1/\RelWs X.K μ1 H2 ws vs/\RK X (qr X) μ1 σ H2 Q (if ws.length=n then rW ok F mm ws st1 else .bad):=
    ⟨μ,ρ,st,l,RK.bind h l fun μ1 st1 x v H1 p1 x1 l1 q1 h1=>⟨μ1,st1,x,l1,p1,q1,h1⟩⟩
   refine PySem.W.callWith_F (q:=f) (fnAt I1.hok hH0 (hf0 rfl)) (fI (ha.h pos pins s1 σ H1 _ I1 h') fun us s2 ⟨vs,H2,I2,r,μ1,st1,ws,l1,p1,r1,q⟩=>?_) he oU
   by_cases c:ws.length=n
   ·rw[aw c]at q
    unfold rW at q
    split at q
    ·rename_i f1 o1 w1 e3
     obtain⟨a1,hmu1,ea1,hH1,hf1,_⟩:=l1.sto.get e3
     rw[pre_get p1 hmu]at hmu1;cases hmu1
     subst ea1
     have yk:=hf1 rfl
     refine⟨fnAt I2.hok hH1 yk,?_⟩
     obtain⟨go,_⟩:=I2.hok _ _ hH1
     obtain⟨fd,cd,hd,kL,hHc⟩:=yk
     obtain⟨⟨oc,vsc,tc,hoc,hdc,hvc⟩,_⟩:=I2.hok _ _ hHc
     by_cases hok:ok o1
     ·rw[aw hok]at q
      split at q
      ·rename_i lv cH e4
       by_cases had:(lv.map fun x=>x.2.1)=(kF o1).map (·.2)
       ·rw[aw had]at q
        split at q
        ·rename_i wv iy e5
         split at q
         ·rename_i Qt e6
          obtain⟨S1,hok1,x1,la,nd⟩:=rV l1.sto I2.hok e4
          have inH:∀y∈lv,H2 y.2.1≠none:=fun y hy=>by rw[(la y hy).2];simp
          have out:∀{b:Addr},H2 b=none->∀y∈lv,y.2.1≠b:=fun{b} n y hy z=>inH y hy (by rw[z];exact n)
          have outT:∀{b:Addr} {u:HO},H2 b=some u->(∀φ,u≠.ext φ)->∀y∈lv,y.2.1≠b:=fun{b u} n ne y hy z=>by have:=(la y hy).2;rw[z,n]at this;cases this;exact ne _ rfl
          obtain⟨qQ,yh,rc,rwc,pc⟩:=xa fun y hy=>(la y hy).1
          have e0:=I2.env0
          have e0':wu X.prog X.w X.K X.mg X.base X.A X.stack s2 (lg lv H2):=⟨e0.frames,e0.mod,fun b o q=>⟨(e0.bs b o q).1,jb (e0.bs b o q).2⟩,e0.bsz,e0.funs,fun b hb=>jb (e0.frf b hb),hok1,e0.bare⟩
          have jd:Paired (fun(y:Str×Addr) (u:Value)=>s2.heap.IsCell y.2 (some u)/\lg lv H2 y.2=none) (kF o1) yh:=
           ut (R:=fun a u=>s2.heap.IsCell a (some u)/\lg lv H2 a=none) had (xc pc fun y hy _=>qG ⟨y,hy,rfl⟩)
          have dH:(ws++lv.map fun x=>x.2.2.2).length=n+m:=by
           rw[aI,c,aj]
           have:=cC List.length had
           rw[aj,aj,hm o1 hok]at this
           rw[this]
          have rall:RelWs X.K μ1 (lg lv H2) (ws++lv.map fun x=>x.2.2.2) (vs++qQ):=(RelWs.pr.mpr (Paired.imp' (fun _ _ z=>z.mono (ae _) x1) (RelWs.pr.mp r1))).app rwc
          refine lI (hG ((Nk.mono hk).run X.A X.stack s2 (lg lv H2) f o1 fd us yh vs qQ (fun v H'=>∃μ',μ1 <+: μ'/\c9 X.K (lg lv H2) H'/\fG X.K X.mg μ' iy H'/\bb X.K μ' H' wv v) (fun _ _ _=>False) hr e0' go hok hd ⟨cd,oc,vsc,tc,kL,hoc,hdc,hvc⟩ r rc (by rw[<- r.length,<- r1.len,c]) jd
           ⟨by rw[<- rall.len];exact dH,μ1,_,cH,S1,rall,by rw[e5];exact fun μ' v H' a b c d=>⟨μ',a,b,c,d⟩⟩) fun rr s' hq=>?_)
          cases rr with
          |error ev=>obtain⟨_,_,_,_,_,_,z,_⟩:=hq;exact z.elim
          |ok fl=>
           cases fl with
           |next=>exact False.elim hq
           |brk=>exact False.elim hq
           |cont=>exact False.elim hq
           |ret u=>
            obtain⟨v,H',os,bare,un,hok',rv,μ',pm,xm,Sm,rm⟩:=hq
            have hla:∀y∈lv,w9 X.K μ' H' s'.heap y/\H' y.2.1=none:=fun y hy=>by
             obtain⟨⟨g1,g2,u1,v1,g3,g4,g5⟩,_⟩:=la y hy
             have hn:lg lv H2 y.2.1=none:=qG ⟨y,hy,rfl⟩
             exact⟨⟨pre_get pm g1,un.keep _ _ g2 hn (fun z=>inH y hy (I2.stkFree _ z)) (by simp),u1,v1,g3,g4,g5.mono pm xm⟩,un.free _ _ g2 hn (by simp)⟩
            obtain⟨Sp,hokp,xp⟩:=Am Sm hok' hla nd e6
            have un':Un (sV X.stack) [] H2 (nK lv H') s2.heap s'.heap:=by
             refine⟨fun b o q n hb hx=>un.keep b o q (jb n) hb hx,fun b o q n hb hx=>un.slot b o q (jb n) hb hx,fun b o q n hx=>?_,un.there,fun b xs q=>?_,fun b o u q=>?_,fun b ps q=>?_⟩
             ·rw[fA (out n)];exact un.free b o q (jb n) hx
             ·have ot:=outT q (fun _ z=>by cases z)
              rw[fA ot];exact un.tups b xs (by rw[g7 ot];exact q)
             ·have ot:=outT q (fun _ z=>by cases z)
              rw[fA ot];exact un.frzs b o u (by rw[g7 ot];exact q)
             ·have ot:=outT q (fun _ z=>by cases z)
              rw[fA ot];exact un.tbls b ps (by rw[g7 ot];exact q)
            have I3:bj X pins σ (nK lv H') s':=I2.call' os un' hokp bare fun b hb=>absurd hb (by simp)
            exact⟨v,_,I3,rv,q μ' v _ pm (x1.trans (xm.trans xp)) Sp (rm.mono (ae _) xp)⟩
         ·exact q.elim
        ·exact q.elim
       ·rw[aD had]at q;exact q.elim
      ·exact q.elim
     ·rw[aD hok]at q;exact q.elim
    ·exact q.elim
   ·rw[aD c]at q;exact q.elim
  ·exact h.elim
 ·exact h.elim⟩
end
open Classical in
def uu(ok:α->Prop)(f:α->R W):R W:=if h:∃r,∀a,ok a->f a=r then h.choose else .bad
theorem DT{ok:α->Prop}{f:α->R W}{r:R W}(a0:α)(h0:ok a0)(h:∀a,ok a->f a=r):uu ok f=r:=by
 have e:∃r,∀a,ok a->f a=r:=⟨r,h⟩
 unfold uu
 rw[lH e,<- e.choose_spec a0 h0,h a0 h0]
def kG:List (Str×Addr)->List Obj->List W->List iD
 |y::cl,o::os,w::ws=>(0,y.2,o,w)::kG cl os ws
 |_,_,_=>[]
def uv:List Nat->bY->Option (List W)
 |[],_=>some []
 |i::is,ρ=>match ρ[i]? with
  |some (some w)=>(match uv is ρ with
   |some ws=>some (w::ws)
   |none=>none)
  |_=>none
theorem DU{ok:α->Prop}{f:α->R W}(a:α)(h:ok a):uu ok f=f a\/uu ok f=.bad:=by
 unfold uu
 by_cases e:∃r,∀a,ok a->f a=r
 ·rw[lH e];exact .inl (e.choose_spec a h).symm
 ·rw[dif_neg e];exact .inr rfl
open Classical in
def Ap(F:List W->List ai->R W)(C:List (Str×Addr))(cws ws:List W)(st1:List ai)(os:List Obj):R W:=match F ws (st1++gO (kG C os cws))with
  |.ok w cH=>(match oB (List.range' st1.length C.length) cH with
   |some (l',iy)=>if (l'.map fun x=>(x.2.1,x.2.2.1))=(kG C os cws).map fun x=>(x.2.1,x.2.2.1)then .ok w (g6 st1 iy [w])else .bad
   |none=>.bad)
  |_=>.bad
def BN(F:List W->List ai->R W)(o:Obj)(cws ws:List W)(st1:List ai):R W:=uu (fun os:List Obj=>os.length=(kF o).length) (Ap F (kF o) cws ws st1)
def uw(n:Nat)(F:List W->List ai->R W)(o:Obj)(is:List Nat)(fs:FA):FE:=fun ρ st=>(fs ρ st).bind fun ws st1=>if ws.length=n then(match uv is ρ with
  |some cws=>BN F o cws ws st1
  |none=>.bad)else .bad
section
variable{st:List ai}
theorem DV(I:bj X pins σ H s)(l:Rl X μ ρ st σ H):∀{cl:List (Str×Addr)} {is:List Nat} {cws:List W},(∀y∈cl,X.env.cells.lookup y.1=some y.2/\X.env.scope.names.lookup y.1=some .cell)->Paired (fun(i:Nat) (y:Str×Addr)=>X.N[i]?=some y.1) is cl->uv is ρ=some cws ->
  ∃os:List Obj,os.length=cl.length/\((kG cl os cws).map fun x=>x.2.1)=cl.map (·.2)/\∀x∈kG cl os cws,H x.2.1=none/\s.heap.get? x.2.1=some x.2.2.1/\∃u v,x.2.2.1.data=.cell (some u)/\bF v u/\bb X.K μ H x.2.2.2 v
 |[],[],cws,_,.nil,e=>by cases e;exact⟨[],rfl,rfl,fun _ h=>absurd h (by simp[kG])⟩
 |y::cl,i::is,cws,ha,.cons hi t,e=>by
  unfold uv at e
  split at e
  ·rename_i w e1
   split at e
   ·rename_i ws e2
    cases e
    obtain⟨os,q1,q2,q3⟩:=DV I l (fun y hy=>ha y (aA _ hy)) t e2
    obtain⟨v,hσ,rx⟩:=ky l.env e1
    obtain⟨hc,hk⟩:=ha y aN
    obtain⟨mm,FZ,hlk⟩:=id I.loc
    obtain⟨u,ru,lk⟩:=hlk i y.1 v hi hσ (.inr (.inl hk))
    obtain⟨o,ho,hd⟩:s.heap.IsCell y.2 (some u):=by
     rcases lk with⟨kl,_⟩|⟨_,c1,hc1,hcc⟩
     ·have:X.env.scope.names.lookup y.1=some .local:=kl
      rw[hk]at this;cases this
     ·rw[hc]at hc1;cases hc1;exact hcc
    refine⟨o::os,by simp[q1],by simp only[kG,aC,q2],fun x hx=>?_⟩
    rcases aJ.mp (show x∈(0,y.2,o,w)::kG cl os ws from hx)with rfl|hx
    ·exact⟨I.freeC _ _ hc,ho,u,v,hd,ru,rx⟩
    ·exact q3 x hx
   ·cases e
  ·cases e
variable{fs:FA}
theorem LH{k k':Nat}{qn:Str}{pr:Arguments}{is:List Nat}(Fn:dS X.prog X.w X.K X.mg X.base k x n F)(hr:f' k' X.A)(hk:k<=k')(ok:LG X name qn pr body sc o)(ha:SA X (e::es) fs)
  (fj:X.env.cells=cellsFrom m X.env.scope.names []) (qA:∀x∈sc.names,x.2=.free->X.env.scope.names.lookup x.1=some .cell) (kr:((cI X.env sc.names []).map (·.1)).Nodup) (yl:Paired (fun(i:Nat) (y:Str×Addr)=>X.N[i]?=some y.1) is (cI X.env sc.names []))
  (Sk:∀y∈cI X.env sc.names [],X.env.scope.names.lookup y.1=some .cell) (yk:∀x,X.fn x=true)
  (hg:Gl X x:=by rfl) (yg:(x==("__debug__":Str))=false:=by decide)
  (he:starEach (e::es) X.env=(false,eval e X.env)::starEach es X.env:=by rfl) (oU:(backTo pos (starEach es X.env)).any (·.1)=false:=by rfl):SE X (.Call (.Name x p) (e::es) [] pos) (uw n F o is fs):=⟨by
 intro pins s σ H Q I h
 obtain⟨f,fd,ps,hm,hkp,hn,hb,Fo⟩:=(Fn.mono hk).ex
 obtain⟨im,cd,ct,rfl⟩:=ok
 refine eD (zL I hg hm ?_ yg)
 obtain⟨μ,ρ,st,l,h⟩:=h
 have h':OE X fs σ H fun vs H1=>∃μ1 st1 ws,Rl X μ1 ρ st1 σ H1/\RelWs X.K μ1 H1 ws vs/\RK X (qr X) μ1 σ H1 Q (if ws.length=n then(match uv is ρ with
  |some cws=>BN F (fnMade name qn pr body sc (cI X.env sc.names []) im ((X.mg "__name__").getD .none) cd ct) cws ws st1
  |none=>.bad)else .bad):=
  ⟨μ,ρ,st,l,RK.bind h l fun μ1 st1 x v H1 p1 x1 l1 q1 h1=>⟨μ1,st1,x,l1,q1,h1⟩⟩
 refine PySem.W.callWith_K (h₀:=X.base) I.ok.mod.kin hkp (fI (ha.h pos pins s σ H _ I h') fun us s1 ⟨vs,H1,I1,r,μ1,st1,ws,l1,r1,q⟩=>⟨I1.kIn,?_⟩) he oU
 by_cases c:ws.length=n
 ·rw[aw c]at q
  split at q
  ·rename_i cws ec
   have has:∀x∈sc.names,x.2=.free->∃c,X.env.cells.lookup x.1=some c:=fun x hx hf=>by rw[fj];exact jf (qA x hx hf)
   have hcl':∀y∈cI X.env sc.names [],X.env.cells.lookup y.1=some y.2:=ku sc.names [] has (by simp)
   obtain⟨os,ol,oa,ol2⟩:=DV I1 l1 (fun y hy=>⟨hcl' y hy,Sk y hy⟩) yl ec
   unfold BN at q
   generalize hC:cI X.env sc.names []=C at *
   have hclo:kF (fnMade name qn pr body sc C im ((X.mg "__name__").getD .none) cd ct)=C:=rfl
   rw[hclo]at q
   rcases DU (ok:=fun os:List Obj=>os.length=C.length) (f:=Ap F C cws ws st1) os ol with M8|M8
   ·rw[M8]at q
    unfold Ap at q
    have ndc:((kG C os cws).map fun x=>x.2.1).Nodup:=by
     rw[oa]
     have gen:∀l:List (Str×Addr),(∀y∈l,X.env.cells.lookup y.1=some y.2)->(l.map (·.1)).Nodup->(l.map (·.2)).Nodup:=by
      intro l
      induction l with
      |nil=>intro _ _;exact jH
      |cons y l ih=>
       intro a b
       rw[aC,bx]at b ⊢
       refine⟨fun z=>b.1 ?_,ih (fun y hy=>a y (aA _ hy)) b.2⟩
       obtain⟨y',ye,e⟩:=am.mp z
       have:=I.ok.inj _ _ _ (a y aN) (by rw[<- e];exact a y' (aA _ ye))
       rw[this]
       exact am.mpr ⟨y',ye,rfl⟩
     exact gen _ hcl' kr
    split at q
    ·rename_i wv cH e5
     split at q
     ·rename_i l' iy e6
      split at q
      ·rename_i hll
       obtain⟨S1,hok1,x1⟩:=w_ l1.sto I1.hok ol2 ndc
       generalize hL:kG C os cws=L at *
       have isCell:∀y∈L,∃z,X.env.cells.lookup z=some y.2.1:=fun y hy=>by
        have:y.2.1∈C.map (·.2):=by rw[<- oa];exact am.mpr ⟨y,hy,rfl⟩
        obtain⟨z,hz,e⟩:=am.mp this
        exact⟨z.1,by rw[<- e];exact hcl' z hz⟩
       have big:∀y∈L,X.s₀.heap.objs.size<=y.2.1:=fun y hy=>by
        obtain⟨z,hz⟩:=isCell y hy
        exact I1.ok.cab z _ (yk z) hz
       have noStk:∀y∈L,y.2.1∉sV X.stack:=fun y hy z=>by
        rcases aJ.mp (I1.stkSub _ z)with e|hb
        ·obtain⟨z',hz⟩:=isCell y hy
         exact I1.cne z' _ hz e
        ·obtain⟨_,ob,FN,_⟩:=I1.ok.funs.mem hb
         exact absurd (aW (aF FN) (big y hy)) (bq _)
       have e0:=I1.env0
       have e0':wu X.prog X.w X.K X.mg X.base X.A X.stack s1 (nK L H1):=⟨e0.frames,e0.mod,fun b o q=>⟨(e0.bs b o q).1,by
        rw[fA fun y hy z=>?_]
        ·exact(e0.bs b o q).2
        ·have:=aF (I1.ok.bs b o q).1
         rw[<- z]at this
         exact absurd (aW this (big y hy)) (bq _)⟩,e0.bsz,e0.funs,fun b hb=>by rw[fA fun y hy z=>noStk y hy (by rw[z];exact hb)];exact e0.frf b hb,hok1,e0.bare⟩
       have hl':(us++([]:List Value)).length=ps.length:=by rw[cn,<- r.length,<- r1.len,c,hn]
       have rall:RelWs X.K (μ1++L.map fun x=>x.2.1) (nK L H1) ws vs:=RelWs.pr.mpr (Paired.imp' (fun _ _ z=>z.mono (ar _ _) x1) (RelWs.pr.mp r1))
       refine lI (hG (Fo.run X.A X.stack s1 (nK L H1) ⟨us,[]⟩ us vs (fun v H'=>∃μ',(μ1++L.map fun x=>x.2.1) <+: μ'/\c9 X.K (nK L H1) H'/\fG X.K X.mg μ' cH H'/\bb X.K μ' H' wv v) (fun _ _ _=>False) hr e0' (by have:=hb s1 us I1.kIn hl';rwa[cn]at this) r
        ⟨by rw[<- r1.len];exact c,_,ws,_,S1,rall,by rw[e5];exact fun μ' v H' a b c d=>⟨μ',a,b,c,d⟩⟩) fun rr s' hq=>?_)
       cases rr with
       |error ev=>obtain⟨_,_,_,_,_,_,z,_⟩:=hq;exact z.elim
       |ok fl=>
        cases fl with
        |next=>exact False.elim hq
        |brk=>exact False.elim hq
        |cont=>exact False.elim hq
        |ret u=>
         obtain⟨v,H',os',bare,un,hok',rv,μ',pm,xm,Sm,rm⟩:=hq
         obtain⟨Sh,hokh,xh,la,ndl⟩:=rV Sm hok' e6
         have pm1:μ1 <+: μ':=(ar _ _).trans pm
         obtain⟨μ2,p2,S2,r2⟩:=iA l1.sto Sh pm1 (.consI (rm.mono (ae _) xh) .nilI)
         obtain⟨_,ee,r3⟩:=r2.one
         cases ee
         have both1:∀y∈L,∃z∈l',z.2.1=y.2.1/\z.2.2.1=y.2.2.1:=fun y hy=>by
          have:(y.2.1,y.2.2.1)∈l'.map fun x=>(x.2.1,x.2.2.1):=by rw[hll];exact am.mpr ⟨y,hy,rfl⟩
          obtain⟨z,hz,e⟩:=am.mp this
          exact⟨z,hz,(mL e).1,(mL e).2⟩
         have both2:∀z∈l',∃y∈L,y.2.1=z.2.1:=fun z hz=>by
          have:(z.2.1,z.2.2.1)∈L.map fun x=>(x.2.1,x.2.2.1):=by rw[<- hll];exact am.mpr ⟨z,hz,rfl⟩
          obtain⟨y,hy,e⟩:=am.mp this
          exact⟨y,hy,(mL e).1⟩
         have inL:∀{b:Addr} {u:HO},H1 b=some u->∀y∈L,y.2.1≠b:=fun{b u} e y hy z=>by have:=(ol2 y hy).1;rw[z,e]at this;cases this
         have outT:∀{b:Addr} {u:HO},H' b=some u->(∀φ,u≠.ext φ)->∀y∈l',y.2.1≠b:=fun{b u} n ne y hy z=>by have:=(la y hy).2;rw[z,n]at this;cases this;exact ne _ rfl
         have un':Un (sV X.stack) [] H1 (lg l' H') s1.heap s'.heap:=by
          refine⟨fun b o q n hb hx=>?_,fun b o q n hb hx=>?_,fun b o q n hx=>?_,un.there,fun b xs q=>?_,fun b o u q=>?_,fun b ps q=>?_⟩
          ·by_cases hbL:∃y∈L,y.2.1=b
           ·obtain⟨y,hy,rfl⟩:=hbL
            obtain⟨z,hz,z1,z2⟩:=both1 y hy
            have g1:=(ol2 y hy).2.1
            rw[q]at g1;cases g1
            have g2:=(la z hz).1.2.1
            rw[z1,z2]at g2
            exact g2
           ·exact un.keep b o q (by rw[fA fun y hy z=>hbL ⟨y,hy,z⟩];exact n) hb hx
          ·exact un.slot b o q (by rw[fA fun y hy z=>noStk y hy (by rw[z];exact hb)];exact n) hb hx
          ·by_cases hbL:∃y∈L,y.2.1=b
           ·obtain⟨y,hy,rfl⟩:=hbL
            obtain⟨z,hz,z1,_⟩:=both1 y hy
            exact qG ⟨z,hz,z1⟩
           ·exact jb (un.free b o q (by rw[fA fun y hy z=>hbL ⟨y,hy,z⟩];exact n) hx)
          ·have t:=un.tups b xs (by rw[fA (inL q)];exact q)
           rw[g7 (outT t (fun _ z=>by cases z))];exact t
          ·have t:=un.frzs b o u (by rw[fA (inL q)];exact q)
           rw[g7 (outT t (fun _ z=>by cases z))];exact t
          ·obtain⟨jw,t⟩:=un.tbls b ps (by rw[fA (inL q)];exact q)
           exact⟨jw,by rw[g7 (outT t (fun _ z=>by cases z))];exact t⟩
         have I3:bj X pins σ (lg l' H') s':=I1.call' os' un' hokh bare fun b hb=>absurd hb (by simp)
         exact⟨v,_,I3,rv,q μ2 v _ p2 (x1.trans (xm.trans xh)) S2 r3⟩
      ·exact q.elim
     ·exact q.elim
    ·exact q.elim
   ·rw[M8]at q;exact q.elim
  ·exact q.elim
 ·rw[aD c]at q;exact q.elim⟩
end
theorem qf:∀{ns:List (Str×NameKind)} {cs:List (Str×Addr)} {y:Str×Addr},y∈cI env ns cs->y∈cs\/∃x∈ns,x.1=y.1/\x.2=.free
 |[],cs,y,h=>.inl h
 |(n,k)::r,cs,y,h=>by
  unfold cI at h
  rcases qf h with h|⟨x,hx,e⟩
  ·by_cases hk:(k==NameKind.free)=true
   ·rw[aw hk]at h
    rcases aJ.mp h with rfl|h
    ·exact .inr ⟨(n,k),aN,rfl,je hk⟩
    ·exact .inl h
   ·rw[aD hk]at h;exact .inl h
  ·exact .inr ⟨x,aA _ hx,e⟩
theorem Hz{q:Str}{pr:Arguments}{xs:List Str}(h:xs.length=m)(o:Obj)(ok:LF name q pr body sc xs o):(kF o).length=m:=by
 obtain⟨cl,im,pm,cd,ct,hx,_,rfl⟩:=ok
 rw[<- h,<- hx,aj];rfl
def R8(a b:List (Str×NameKind)):Bool:=b.all fun x=>!(x.2==.free)||a.lookup x.1==some .cell
theorem yY{a b:List (Str×NameKind)}(h:R8 a b=true):∀x∈b,x.2=.free->a.lookup x.1=some .cell:=fun x hx e=>by
 have:=d_.mp h x hx
 rw[e]at this
 have t:(!(NameKind.free==NameKind.free)||a.lookup x.1==some .cell)=true:=this
 simpa using t
abbrev Rb(name q:Str)(st:Stmt)(xs:List Str):Obj->Prop:=LF name q (dA st) (dB st) (aV st) xs
section
variable{q:Str}{st:Stmt}{rest:List Stmt}{P c:Addr}{xs:List Str}{g:Addr->Obj->FS}
theorem DW(kL:X.env.code=.ref c)(IB:codeHdIn X.K c P=true)(hB:qw X.base X.mg)(fj:X.env.cells=cellsFrom m X.env.scope.names [])(hN:X.N.Nodup)
  (sP:∀f o,LG X name q (dA st) (dB st) (aV st) o->SB X rest (g f o))
  (QX:st=.FunctionDef name (dA st) (dB st) [] none [] (aV st) none name pos:=by rfl)
  (qA:R8 X.env.scope.names (aV st).names=true:=by first|rfl|kernel_rfl) (NI:(cI X.env (aV st).names []).map (·.1)=xs:=by rfl) (kr:Nz xs=true:=by first|rfl|kernel_rfl) (hq:qualnameIn X.env name name=q:=by rfl)
  (hi:X.N[i]?=some name:=by rfl) (hx:Co X.env.scope name:=by first|exact Or.inl rfl|exact Or.inr rfl) (hf:X.fn name=true\/X.env.scope.names.lookup name=some .local:=by exact .inl rfl)
  (QO:(dA st).defaults=[]:=by rfl) (Ss:(dA st).kw_defaults=[]:=by rfl) (ha:annTrees (dA st) none X.env=[]:=by rfl) :
  SB X (st::rest) (ur (Rb name q st xs) j P pos q i g):=by
 have h1:=Hv (j:=j) (P:=P) (pos:=pos) (i:=i) (Hu (j:=j) (pos:=pos) kL IB hB fj (yY qA) NI (vn kr) hq hN hi hx hf QO Ss ha) sP
 rw[QX]
 exact h1
variable{fs:FA}
theorem HA{k k':Nat}{is:List Nat}(Fn:dS X.prog X.w X.K X.mg X.base k x n F)(hr:f' k' X.A)(hk:k<=k')(ok:LG X name q (dA st) (dB st) (aV st) o)(ha:SA X (e::es) fs)
  (fj:X.env.cells=cellsFrom m X.env.scope.names []) (yl:Paired (fun(i:Nat) (y:Str×Addr)=>X.N[i]?=some y.1) is (cI X.env (aV st).names []))
  (qA:R8 X.env.scope.names (aV st).names=true:=by first|rfl|kernel_rfl) (NI:(cI X.env (aV st).names []).map (·.1)=xs:=by rfl) (kr:Nz xs=true:=by first|rfl|kernel_rfl) (yk:∀x,X.fn x=true:=by exact fun _=>rfl)
  (hg:Gl X x:=by rfl) (yg:(x==("__debug__":Str))=false:=by decide)
  (he:starEach (e::es) X.env=(false,eval e X.env)::starEach es X.env:=by rfl) (oU:(backTo pos (starEach es X.env)).any (·.1)=false:=by rfl):SE X (.Call (.Name x p) (e::es) [] pos) (uw n F o is fs):=
 LH Fn hr hk ok ha fj (yY qA) (by rw[NI];exact vn kr) yl (fun y hy=>by
  rcases qf hy with h|⟨z,hz,e1,e2⟩
  ·exact absurd h (by simp)
  ·rw[<- e1];exact yY qA z hz e2) yk hg yg he oU
end
section
variable{a:Expr}
end
end L2
namespace L2
open PySem PySem.Spec PyProof.Rows PySem.W
def xf(kb:List (DK×W)):List (DK×W)->Option Bool
 |[]=>some true
 |(k,w)::r=>match w,iB kb k with
  |.int _,none=>some false
  |.int i,some (.int j)=>(xf kb r).map fun b=>(i==j)&&b
  |_,_=>none
def yZ(x y:W)(st:List ai):R W:=match ga st x,ga st y with
 |some (_,ka),some (_,kb)=>if ka.length=kb.length then(match xf kb ka with
  |some b=>.ok (.bl (!b)) st
  |none=>.bad)else .ok (.bl true) st
 |_,_=>t_ x y st
section
theorem DY{kb:List (DK×W)}{vb:List V}{ub:List (fK×Value)}(rb:RelWs K μ H (kb.map fun p=>p.2) vb)(qb:KV (dV kb vb) ub) :
  ∀(ka:List (DK×W)) {va:List V} {ua:List (fK×Value)} {b:Bool},RelWs K μ H (ka.map fun p=>p.2) va->KV (dV ka va) ua->xf kb ka=some b->PySem.W.KeqHits A s ub ua b:=by
 intro ka
 induction ka with
 |nil=>
  intro va ua b r q h
  cases q
  cases h
  exact .nil
 |cons p ka ih=>
  intro va ua b r q h
  obtain⟨k,w⟩:=p
  obtain⟨x,xs,rfl,r1,r2⟩:=RelWs.consE r
  unfold KV at q
  cases q with
  |@cons _ q0 _ qs h0 t0=>
   obtain⟨q1,q2⟩:=q0
   obtain⟨e1,e2⟩:=h0
   cases e1
   unfold xf at h
   have hv:=qb.val k.key
   cases w with
   |int i=>
    have:=r1.intE
    subst this
    obtain⟨t,rfl⟩:=e2
    rcases pF k rb with⟨w',v',g1,g2,g3⟩|⟨g1,g2⟩
    ·rw[g1]at h
     rw[g2]at hv
     cases w' with
     |int j=>
      simp only[aY]at h
      obtain⟨b',h1,rfl⟩:=h
      have:=g3.intE
      subst this
      obtain⟨y,hy,ry⟩:=m8.some_of hv
      obtain⟨u,rfl⟩:=ry
      exact .hit hy (SeqAt.EqAt.int_int i t j u) (ih r2 t0 h1)
     |_=>cases h
    ·rw[g1]at h
     rw[g2]at hv
     cases h
     refine .miss (show valueAt ub k.key=none from ?_)
     cases e:valueAt ub k.key with
     |none=>rfl
     |some y=>rw[e]at hv;exact hv.elim
   |_=>cases h
theorem Pk(hr:f' kk X.A):re X (compareOp .NotEq) yZ:=⟨fun pins s σ H x y v u Q I rv ru ⟨μ,st,wx,wy,S,rx,ry,q⟩=>by
 unfold yZ at q
 cases e1:ga st wx with
 |none=>rw[e1]at q;exact(De hr).h pins s σ H x y v u Q I rv ru ⟨μ,st,wx,wy,S,rx,ry,q⟩
 |some na=>
  cases e2:ga st wy with
  |none=>rw[e1,e2]at q;exact(De hr).h pins s σ H x y v u Q I rv ru ⟨μ,st,wx,wy,S,rx,ry,q⟩
  |some nb=>
   obtain⟨n,ka⟩:=na
   obtain⟨m,kb⟩:=nb
   rw[e1,e2]at q
   simp only at q
   obtain⟨a,va,_,_,rfl,ha,ra⟩:=jn S e1 rx
   obtain⟨b,vb,_,_,rfl,hb,rb⟩:=jn S e2 ry
   obtain rfl:v=Value.ref a:=rv
   obtain rfl:u=Value.ref b:=ru
   obtain⟨_,sa,ua,qa,da⟩:=mi I.hok ha
   obtain⟨_,sb,ub,qb,db⟩:=mi I.hok hb
   have la:ua.length=ka.length:=by rw[<- qa.length,pG ra]
   have lb:ub.length=kb.length:=by rw[<- qb.length,pG rb]
   have hu:X.A.units<cLine:=by have:=hr.units;omega
   by_cases hl:ka.length=kb.length
   ·rw[aw hl]at q
    cases ec:xf kb ka with
    |none=>rw[ec]at q;exact q.elim
    |some r=>
     rw[ec]at q
     refine PySem.W.keq_ne sa sb da db hu (fun _=>DY rb qb ka ra qa ec) ?_
     rw[la,lb,hl,dL,nz]
     exact⟨.bl (!r),H,I,rfl,j4 S q⟩
   ·rw[aD hl]at q
    refine PySem.W.keq_ne (r:=true) sa sb da db hu (fun z=>absurd (by rw[<- la,<- lb];exact z) hl) ?_
    rw[la,lb,a8.mpr hl]
    exact⟨.bl true,H,I,rfl,j4 S q⟩,fun x y st=>by
 unfold yZ
 split
 ·split
  ·split<;>trivial
  ·trivial
 ·exact(De hr).n x y st⟩
end
end L2
namespace L2
open PySem PySem.Spec PyProof.Rows
section
end
abbrev lO(n:Nat):Option W:=some (.loc n)
abbrev iO(z:Int):Option W:=some (.int z)
section
end
section
end
theorem dh(st x:List ai)(k:Nat):(st++x)[st.length+k]?=x[k]?:=by rw[bP (by omega)];congr 1;omega
theorem cB(st x:List ai):(st++x)[st.length]?=x[0]?:=dh st x 0
theorem jq(st x:List ai)(k:Nat)(c:ai):(st++x).set (st.length+k) c=st++x.set k c:=by rw[fZ _ _ (by omega)];congr 2;omega
theorem eN(st x:List ai)(c:ai):(st++x).set st.length c=st++x.set 0 c:=jq st x 0 c
theorem ay{st x:List ai}{c:ai}(h:st[n]?=some c):(st++x)[n]?=some c:=by
 rw[aq (aa.mp h).1];exact h
theorem y0(st:List ai)(ws:List W):g6 st st ws=st:=by unfold g6;split<;>simp
theorem BO{st x:List ai}(h:undWs st.length ws=true):g6 st (st++x) ws=st:=by
 unfold g6
 rw[aw ⟨h,by simp,fun i hi=>.inl (aq hi)⟩]
 simp
theorem BP{st:List ai}(h:undWs st.length ws=false):g6 st bv ws=bv:=by
 unfold g6
 rw[aD fun k=>by have:=k.1;rw[h]at this;cases this]
theorem qH{body:FS}{st:List ai}{w:W}(h:body (ws.map some++List.replicate (N-ws.length) none) st=.rt w bv):eA N body ws st=.ok w (g6 st bv [w]):=by
 unfold eA;rw[h]
theorem mX{body:FS}{st:List ai}{w:W}(h:body (ws.map some++List.replicate (N-ws.length) none) st=.rt w st):eA N body ws st=.ok w st:=by
 rw[qH h,y0]
theorem xg{body:FS}{st x:List ai}{w:W}(h:body (ws.map some++List.replicate (N-ws.length) none) st=.rt w (st++x))(hu:undWs st.length [w]=true):eA N body ws st=.ok w st:=by
 rw[qH h,BO hu]
theorem xk{N:Nat}{body:FS}{ws:List W}{st x:List ai}{k:Nat}(h:body (ws.map some++List.replicate (N-ws.length) none) st=.rt (.loc (st.length+k)) (st++x)):eA N body ws st=.ok (.loc (st.length+k)) (st++x):=by
 rw[qH h,BP (by simp[undWs,W.und])]
theorem y6{g g':FS}{ρ':bY}{st:List ai}(h:g ρ st=.nx ρ' bv):aX g g' ρ st=g' ρ' bv:=by unfold aX;rw[h]
theorem Aq{f:FG}{body:FS}{st:List ai}{k:yH}(h:fi ρ st=.ok k bv):fg fi f body ρ st=rp f body k.2 k.1 ρ bv:=by unfold fg;rw[h];rfl
theorem rX{f:FG}{body:FS}{ck:Option (Nat×List W)}(I:Nat->bY->List ai->Prop):∀{ws:List W} {ρ:bY} {st:List ai} (i0:Nat),I i0 ρ st->(∀i ρ st,I i ρ st->iW st ck) ->
  (∀i w ρ st,ws[i]?=some w->I (i0+i) ρ st->∃ρ' ρ2 cH,f w ρ=some ρ'/\body ρ' st=.nx ρ2 cH/\I (i0+i+1) ρ2 cH) ->
  ∃ρ2 cH,rp f body ck ws ρ st=.nx ρ2 cH/\I (i0+ws.length) ρ2 cH
 |[],ρ,st,i0,h0,hc,hs=>⟨ρ,st,by unfold rp;rw[aw (hc _ _ _ h0)],h0⟩
 |w::ws,ρ,st,i0,h0,hc,hs=>by
  obtain⟨ρ',ρ2,cH,e1,e2,h1⟩:=hs 0 w ρ st rfl h0
  obtain⟨ρ3,iy,e3,h3⟩:=rX I (ws:=ws) (ρ:=ρ2) (st:=cH) (i0+1) h1 hc fun i w ρ st hw hI=>by
   obtain⟨a,b,c,d,e,g⟩:=hs (i+1) w ρ st (by simpa using hw) (by rw[show i0+(i+1)=i0+1+i by omega];exact hI)
   exact⟨a,b,c,d,e,by rw[show i0+1+i+1=i0+(i+1)+1 by omega];exact g⟩
  refine⟨ρ3,iy,?_,by rw[bu,show i0+(ws.length+1)=i0+1+ws.length by omega];exact h3⟩
  unfold rp
  rw[aw (hc _ _ _ h0),e1]
  simp only[e2]
  exact e3
theorem BQ{t:FT}{g:FS}(I:Nat->bY->List ai->Prop):∀(n:Nat) {ρ:bY} {st:List ai},I n ρ st ->
  (∀n ρ st,I n ρ st->t ρ st=.ok false st\/(t ρ st=.ok true st/\∃ρ2 cH m,g ρ st=.nx ρ2 cH/\m<n/\I m ρ2 cH)) ->
  ∃m ρ2 cH,k6 t g ρ st=.nx ρ2 cH/\I m ρ2 cH/\t ρ2 cH=.ok false cH:=by
 intro n ρ st h hs
 have key:∀(k n:Nat) (ρ:bY) (st:List ai),n<k->I n ρ st->∃m ρ2 cH,fz t g k ρ st=.nx ρ2 cH/\I m ρ2 cH/\t ρ2 cH=.ok false cH:=by
  intro k
  induction k with
  |zero=>intro n _ _ h;exact absurd h (cp _)
  |succ k ih=>
   intro n ρ st hk hI
   rcases hs n ρ st hI with e|⟨e,ρ2,cH,m,e2,hm,h2⟩
   ·exact⟨n,ρ,st,by unfold fz;rw[e];rfl,hI,e⟩
   ·obtain⟨m',ρ3,iy,e3,h3⟩:=ih m ρ2 cH (by omega) h2
    exact⟨m',ρ3,iy,by unfold fz;rw[e];simp only[R.stmt_ok,d7,e2];exact e3,h3⟩
 obtain⟨m,ρ2,cH,e,h2⟩:=key (n+1) n ρ st (ip n) h
 exact⟨m,ρ2,cH,Bv e (by simp),h2⟩
section
variable{ρ':bY}{st cH iy Qt:List ai}{fi:FE}{fs:FA}{t u:FT}{x y z w v:W}{xs zs:List W}{a b k:Bool}{g g':FS}
theorem gP(h:ρ[i]?=some (some w)):ag i ρ st=.ok w st:=by unfold ag;rw[h]
theorem dN:eC w ρ st=.ok w st:=rfl
theorem bS{f:W->W->List ai->R W}(h1:fa ρ st=.ok x st1)(h2:fb ρ st1=.ok y cH)(h3:f x y cH=.ok z iy):e2 f fa fb ρ st=.ok z iy:=by unfold e2;rw[h1];simp only[R.bind_ok];rw[h2];exact h3
theorem bB:aB ρ st=.ok [] st:=rfl
theorem ax(h1:fa ρ st=.ok x st1)(h2:fs ρ st1=.ok xs cH):ah fa fs ρ st=.ok (x::xs) cH:=by unfold ah;rw[h1];simp only[R.bind_ok];rw[h2];rfl
theorem LI:ON ls ρ st=.ok (ls.map W.str) st:=rfl
theorem iE(h1:fs ρ st=.ok ws st1)(h2:ws.length<=jh):fH fs ρ st=.ok (.tup ws) st1:=by unfold fH;rw[h1];simp only[R.bind_ok,n9];rw[aw h2]
theorem Ar(h1:fs ρ st=.ok ws st1)(h2:ws.length<=jh):kX fs ρ st=.ok (.loc st1.length) (st1++[.lst ws]):=by unfold kX;rw[h1];simp only[R.bind_ok,mn];rw[aw h2]
theorem bh(h1:fs ρ st=.ok ws st1)(h2:F ws st1=.ok w cH):bg F fs ρ st=.ok w cH:=by unfold bg;rw[h1];exact h2
theorem cL(h1:fs ρ st=.ok ws st1)(h2:F ws st1=.ok w cH)(hn:ws.length=n):de n F fs ρ st=.ok w cH:=by unfold de;rw[h1];simp only[R.bind_ok];rw[aw hn];exact h2
theorem cE(h:fa ρ st=.ok (.bl k) st1):f6 fa ρ st=.ok k st1:=by unfold f6;rw[h];rfl
theorem oD(h1:t ρ st=.ok true st1)(h2:u ρ st1=.ok k cH):K_ t u ρ st=.ok k cH:=by unfold K_;rw[h1];exact h2
theorem vx(h1:t ρ st=.ok false st1):K_ t u ρ st=.ok false st1:=by unfold K_;rw[h1];rfl
theorem dZ(h1:t ρ st=.ok false st1)(h2:u ρ st1=.ok k cH):sW t u ρ st=.ok k cH:=by unfold sW;rw[h1];exact h2
theorem vy(h1:t ρ st=.ok true st1):sW t u ρ st=.ok true st1:=by unfold sW;rw[h1];rfl
theorem gQ(h1:t ρ st=.ok a st1)(h2:(!a)=k):qC t ρ st=.ok k st1:=by unfold qC;rw[h1,<- h2];rfl
theorem oE(h1:fa ρ st=.ok (.bl true) st1)(h2:fb ρ st1=.ok w cH):wJ fa fb ρ st=.ok w cH:=by unfold wJ;rw[h1];exact h2
theorem Pl(h1:fa ρ st=.ok (.bl a) st1)(h2:(!a)=k):GX fa ρ st=.ok (.bl k) st1:=by unfold GX;rw[h1,<- h2];rfl
theorem m_{F:W->List W->List ai->R W}(h1:fo ρ st=.ok x st1)(hl:rB st1 x=true)(h2:fs ρ st1=.ok ws cH)(h3:F x ws cH=.ok w iy):qu F fo fs ρ st=.ok w iy:=by unfold qu;rw[h1];simp only[R.bind_ok];rw[aw hl,h2];exact h3
theorem Pm{F:W->List W->List ai->R W}(h1:fo ρ st=.ok x st1)(hl:Dk x=true)(h2:fs ρ st1=.ok ws cH)(h3:F x ws cH=.ok w iy):O8 F fo fs ρ st=.ok w iy:=by unfold O8;rw[h1];simp only[R.bind_ok];rw[aw hl,h2];exact h3
theorem eU(h:st[n]?=some (.lst ws)):rB st (.loc n)=true:=by simp only[rB,h]
theorem IX(h:fa ρ st=.ok (.int q) st1):BA fa ρ st=.ok (.int (-q)) st1:=by unfold BA;rw[h];rfl
theorem jr{T c:String}(h:fa ρ st=.ok x st1)(hx:x.ty=some c)(hk:Ha c T=k):iJ T fa ρ st=.ok (.bl k) st1:=by unfold iJ;rw[h];simp only[R.bind_ok,hx,hk]
theorem Pn(h:fa ρ st=.ok x st1)(hk:x.isNon=k):yD fa ρ st=.ok (.bl k) st1:=by unfold yD;rw[h,<- hk];rfl
theorem LJ(h:fa ρ st=.ok x st1)(hk:(!x.isNon)=k):IK fa ρ st=.ok (.bl k) st1:=by unfold IK;rw[h,<- hk];rfl
theorem Po:uc ρ st=.ok none st:=rfl
theorem xn(h:fa ρ st=.ok (.int q) st1):kB fa ρ st=.ok (some q) st1:=by unfold kB;rw[h];rfl
theorem DZ{fl fh:FO}{l h:Option Int}(h1:fa ρ st=.ok x st1)(h2:fl ρ st1=.ok l cH)(h3:fh ρ cH=.ok h iy)(h4:Bu x l h iy=.ok w Qt):F_ fa fl fh ρ st=.ok w Qt:=by unfold F_;rw[h1];simp only[R.bind_ok];rw[h2];simp only[R.bind_ok];rw[h3];exact h4
theorem bU(h:fe ρ st=.ok w st1):bO i fe ρ st=.nx (ρ.set i (some w)) st1:=by unfold bO;rw[h];rfl
theorem fC(h:fe ρ st=.ok w st1):eJ fe ρ st=.nx ρ st1:=by unfold eJ;rw[h];rfl
theorem nu(h:fe ρ st=.ok w st1):cR fe ρ st=.rt w st1:=by unfold cR;rw[h];rfl
theorem mE{f:W->W->W->List ai->Option (List ai)}(h1:fe ρ st=.ok v st1)(h2:fo ρ st1=.ok x cH)(h3:fi ρ cH=.ok y iy)(h4:f x y v iy=some Qt):nJ fo fi fe f ρ st=.nx ρ Qt:=by
 unfold nJ;rw[h1];simp only[R.stmt_ok];rw[h2];simp only[R.stmt_ok];rw[h3];simp only[R.stmt_ok];rw[h4]
theorem rY{r:RS}(h1:t ρ st=.ok true st1)(h2:g ρ st1=r):i6 t g g' ρ st=r:=by unfold i6;rw[h1];exact h2
theorem rZ{r:RS}(h1:t ρ st=.ok false st1)(h2:g' ρ st1=r):i6 t g g' ρ st=r:=by unfold i6;rw[h1];exact h2
theorem y7:cP ρ st=.nx ρ st:=rfl
theorem IY{r:RS}(h:g ρ st=.nx ρ' st1)(h2:g' ρ' st1=r):aX g g' ρ st=r:=by rw[y6 h];exact h2
theorem D0(h:g ρ st=.rt w st1):aX g g' ρ st=.rt w st1:=by unfold aX;rw[h]
theorem gA{p:Int}:eS (.int p) (.int q) st=.ok (.int (p+q)) st:=rfl
theorem D1{p q:List Nat}(h:p.length+q.length<=jh):eS (.str p) (.str q) st=.ok (.str (p++q)) st:=by simp only[eS];rw[aw h]
theorem D2(h1:st[n]?=some (.lst ws))(h2:st[m]?=some (.lst xs))(h:(ws++xs).length<=jh):eS (.loc n) (.loc m) st=.ok (.loc st.length) (st++[.lst (ws++xs)]):=by
 unfold eS;simp only[h1,h2,mn];rw[aw h]
theorem lh{C:Int->Int->Prop}[∀i j,Decidable (C i j)]{f:Int->Int->Int}{p:Int}(h:C p q):C9 C f (.int p) (.int q) st=.ok (.int (f p q)) st:=by simp only[C9];rw[aw h]
theorem r6{p:Int}(h:yE p q):ib (.int p) (.int q) st=.ok (.int (p*q)) st:=by simp only[ib];rw[aw h]
theorem r_{f:Int->Int->Bool}{p:Int}(h:f p q=k):Bq f (.int p) (.int q) st=.ok (.bl k) st:=by rw[<- h];rfl
theorem As{p:Int}(h:decide (p<=q)=k):R6 (.int p) (.int q) st=.ok (.bl k) st:=by rw[<- h];rfl
theorem oF{p:Int}(h:(p==q)=k):nT (.int p) (.int q) st=.ok (.bl k) st:=by rw[<- h];rfl
theorem sd{p:Int}(h:(!(p==q))=k):t_ (.int p) (.int q) st=.ok (.bl k) st:=by rw[<- h];rfl
theorem Pp{p q:List Nat}(h:(p==q)=k):nT (.str p) (.str q) st=.ok (.bl k) st:=by rw[<- h];rfl
theorem jt(h:pW ws q=some w):bJ (.tup ws) (.int q) st=.ok w st:=by unfold bJ;simp only[h,cA]
theorem kv(h:ρ[i]?=some (some w):=by rfl):ag i ρ st=.ok w st:=gP h
theorem ox(h:pW ws q=some w:=by rfl):bJ (.tup ws) (.int q) st=.ok w st:=jt h
theorem kn(h:ρ[i]?=some (some w):=by rfl):ah (ag i) aB ρ st=.ok [w] st:=ax (gP h) bB
theorem kx{q:Int}(h:ρ[i]?=some (some (.tup ws)):=by rfl)(h2:pW ws q=some w:=by rfl):e2 bJ (ag i) (eC (.int q)) ρ st=.ok w st:=bS (gP h) dN (jt h2)
theorem IZ{c:Nat}(hl:l.length<=jh)(h:pW l q=some c):bJ (.str l) (.int q) st=.ok (.str [c]) st:=by unfold bJ;simp only[h,cA];rw[aw hl]
theorem lR(hl:lstOf st n=some ws)(h:pW ws q=some w):bJ (.loc n) (.int q) st=.ok w st:=by unfold bJ;simp only[hl,h,cA]
theorem lj:cQ [.tup ws] st=.ok (.int ws.length) st:=rfl
theorem vz(h:l.length<=jh):cQ [.str l] st=.ok (.int l.length) st:=by unfold cQ;simp only;rw[aw h]
theorem g8(hl:lstOf st n=some ws):cQ [.loc n] st=.ok (.int ws.length) st:=by unfold cQ;simp only[hl,cA]
theorem aR(h:st[n]?=some (.lst ws)):lstOf st n=some ws:=by unfold lstOf;rw[h]
theorem qI(h:st[n]?=some (.ro ws)):lstOf st n=some ws:=by unfold lstOf;rw[h]
theorem ux(h:st[n]?=some (.lst ws))(hl:ws.length<jh):cS (.loc n) [y] st=.ok .non (st.set n (.lst (ws++[y]))):=by unfold cS;simp only[h];rw[aw hl]
theorem LK(h:st[n]?=some (.lst ws))(hi:Ba ws.length q=some j):p5 (.loc n) (.int q) v st=some (st.set n (.lst (ws.set j v))):=by unfold p5;simp only[h,hi];rfl
theorem LM{sep:List Nat}(h:lstOf st n=some (ls.map W.str))(hl:(ls.map List.length).sum+ls.length*sep.length<=jh):rD (.str sep) [.loc n] st=.ok (.str (no sep ls)) st:=by
 unfold rD;simp only[h,cA,ug];rw[aw hl]
theorem At{l h:Option Int}(hl:lstOf st n=some ws):Bu (.loc n) l h st=.ok (.loc st.length) (st++[.lst (j5 ws l h)]):=by unfold Bu;simp only[hl,cA]
theorem Pq{l h:Option Int}{z:List Nat}(hl:z.length<=jh):Bu (.str z) l h st=.ok (.str (j5 z l h)) st:=by unfold Bu;simp only;rw[aw hl]
theorem Ps{l h:Option Int}:Bu (.tup ws) l h st=.ok (.tup (j5 ws l h)) st:=rfl
theorem gG(h:fe ρ st=.ok (.tup ws) st1):cK fe ρ st=.ok (ws,none) st1:=by unfold cK;rw[h];rfl
theorem gs(h:fe ρ st=.ok (.loc n) st1)(hl:lstOf st1 n=some ws):cK fe ρ st=.ok (ws,some (n,ws)) st1:=by unfold cK;rw[h];simp only[R.bind_ok,hl]
theorem dD(h:fs ρ st=.ok [.int q] st1)(hq:-(2^62)<=q/\q<2^62):br fs ρ st=.ok (bA 0 q.toNat,none) st1:=by unfold br;rw[h];simp only[R.bind_ok];rw[aw hq]
theorem d6{l:List α}{q:Nat}{x:α}(h:l[q]?=some x):pW l (q:Int)=some x:=by
 have hq:q<l.length:=(aa.mp h).1
 unfold pW Ba
 rw[aw (by omega),aw (by omega)]
 simpa using h
def gD(P:RS->Prop)(r:RS):Prop:=P r
def F'(I:bY->List ai->Prop):RS->Prop:=fun r=>∃ρ st,r=.nx ρ st/\I ρ st
def qJ(I:W->List ai->Prop):RS->Prop:=fun r=>∃w st,r=.rt w st/\I w st
variable{P:RS->Prop}{rest:FS}
theorem dF{r r':RS}(h:r=r')(h2:P r'):gD P r:=by rw[h];exact h2
theorem aG(h:g ρ st=.nx ρ' st1)(h2:gD P (g' ρ' st1)):gD P (aX g g' ρ st):=by rw[y6 h];exact h2
theorem oG(h1:t ρ st=.ok true st1)(h2:gD P (g ρ st1)):gD P (i6 t g g' ρ st):=by rw[rY h1 rfl];exact h2
theorem kH(h1:t ρ st=.ok false st1)(h2:gD P (g' ρ st1)):gD P (i6 t g g' ρ st):=by rw[rZ h1 rfl];exact h2
theorem gu(h1:t ρ st=.ok true st1)(h2:gD P (aX g rest ρ st1)):gD P (aX (i6 t g g') rest ρ st):=by
 unfold aX at h2 ⊢;rw[rY h1 rfl];exact h2
theorem bN(h1:t ρ st=.ok false st1)(h2:gD P (aX g' rest ρ st1)):gD P (aX (i6 t g g') rest ρ st):=by
 unfold aX at h2 ⊢;rw[rZ h1 rfl];exact h2
theorem mY{h:FS}(h2:gD P (aX g (aX g' h) ρ st)):gD P (aX (aX g g') h ρ st):=by
 unfold aX at h2 ⊢
 cases e:g ρ st<;>simp only[e]at h2 ⊢ <;> exact h2
theorem bV(h2:gD P (rest ρ st)):gD P (aX cP rest ρ st):=h2
theorem dC(h:fe ρ st=.ok w st1)(h2:P (.rt w st1)):gD P (cR fe ρ st):=by rw[nu h];exact h2
theorem fJ(h:fe ρ st=.ok w st1)(h2:P (.rt w st1)):gD P (aX (cR fe) rest ρ st):=by rw[D0 (nu h)];exact h2
theorem cU{fi:FI}{f:FG}{body:FS}{k:yH}(I:Nat->bY->List ai->Prop)(h:fi ρ st=.ok k st1)(h0:I 0 ρ st1)(hc:∀i ρ st,I i ρ st->iW st k.2)
  (hs:∀i w ρ st,k.1[i]?=some w->I i ρ st->∃ρ',f w ρ=some ρ'/\gD (F' (I (i+1))) (body ρ' st)) (he:∀ρ st,I k.1.length ρ st->gD P (rest ρ st)):gD P (aX (fg fi f body) rest ρ st):=by
 obtain⟨ρ2,cH,e,h2⟩:=rX (f:=f) (body:=body) (ck:=k.2) I (ws:=k.1) (ρ:=ρ) (st:=st1) 0 h0 hc fun i w ρ st hw hI=>by
  rw[fP]at hI ⊢
  obtain⟨ρ',e1,ρ2,cH,e2,h2⟩:=hs i w ρ st hw hI
  exact⟨ρ',ρ2,cH,e1,e2,h2⟩
 rw[fP]at h2
 exact aG (by rw[Aq h];exact e) (he _ _ h2)
theorem pJ{body:FS}(I:Nat->bY->List ai->Prop)(n:Nat)(h0:I n ρ st)
  (hs:∀n ρ st,I n ρ st->t ρ st=.ok false st\/(t ρ st=.ok true st/\gD (F' fun ρ2 cH=>∃m,m<n/\I m ρ2 cH) (body ρ st))) (he:∀m ρ st,I m ρ st->t ρ st=.ok false st->gD P (rest ρ st)):gD P (aX (k6 t body) rest ρ st):=by
 obtain⟨m,ρ2,cH,e,h2,h3⟩:=BQ (t:=t) (g:=body) I n h0 fun n ρ st hI=>by
  rcases hs n ρ st hI with e|⟨e,ρ2,cH,e2,m,hm,h2⟩
  ·exact .inl e
  ·exact .inr ⟨e,ρ2,cH,m,e2,hm,h2⟩
 exact aG e (he _ _ _ h2 h3)
theorem lp{body:FS}{Q:W->Prop}(h:gD (qJ fun w bv=>(∃x,bv=st++x)/\undWs st.length [w]=true/\Q w) (body (ws.map some++List.replicate (N-ws.length) none) st)):∃w,Q w/\eA N body ws st=.ok w st:=by
 obtain⟨w,bv,e,⟨x,rfl⟩,hu,q⟩:=h
 exact⟨w,q,xg e hu⟩
theorem j_{N:Nat}{body:FS}(h:gD (qJ fun w' bv=>w'=w/\∃x,bv=st++x) (body (ws.map some++List.replicate (N-ws.length) none) st))(hu:undWs st.length [w]=true):eA N body ws st=.ok w st:=by
 obtain⟨w,bv,e,rfl,x,rfl⟩:=h
 exact xg e hu
theorem iw{body:FS}{Q:Nat->List ai->Prop}(h:gD (qJ fun w bv=>∃j x,w=.loc (st.length+j)/\bv=st++x/\Q j x) (body (ws.map some++List.replicate (N-ws.length) none) st)):∃j x,Q j x/\eA N body ws st=.ok (.loc (st.length+j)) (st++x):=by
 obtain⟨w,bv,e,j,x,rfl,rfl,q⟩:=h
 exact⟨j,x,q,xk e⟩
theorem fU{q:Nat}{lo:Int}(h:(bA lo q)[i]?=some w):i<q/\w=.int (lo+i):=by
 unfold bA at h
 obtain⟨h1,h2⟩:=aa.mp h
 simp only[aj,dm]at h1
 exact⟨h1,by rw[<- h2];simp⟩
theorem qK{l:List α}{q:Nat}(h:q<=l.length):j5 l none (some (q:Int))=l.take q:=by
 unfold j5;rw[HT.sIx_none,HT.sIx_nat,iS h];simp
theorem vA{l:List α}{q:Nat}(h:q<=l.length):j5 l (some (q:Int)) none=l.drop q:=by
 unfold j5;rw[HT.sIx_none,HT.sIx_nat,iS h];rw[b_ (by simp)]
theorem fN{q:Int}{n:Nat}(h:0<n):∃m:Nat,m<n/\q%(n:Int)=m:=by
 have h0:0<=q%(n:Int):=gI _ (by omega)
 have h1:q%(n:Int)<n:=jI _ (by omega)
 exact⟨(q%(n:Int)).toNat,by omega,by omega⟩
end
section
variable{st:List ai}{t u:FT}{a b k:Bool}{P:RS->Prop}{g g' rest:FS}{w:W}
theorem LN(h1:t ρ st=.ok a st)(h2:u ρ st=.ok b st):K_ t u ρ st=.ok (a&&b) st:=by cases a;exact vx h1;exact oD h1 h2
theorem LO(h1:t ρ st=.ok a st)(h2:u ρ st=.ok b st):sW t u ρ st=.ok (a||b) st:=by cases a;exact dZ h1 h2;exact vy h1
theorem LP(h1:t ρ st=.ok a st):qC t ρ st=.ok (!a) st:=gQ h1 rfl
theorem kI{N:Nat}{body:FS}(h:gD (qJ fun w' bv=>w'=w/\bv=st) (body (ws.map some++List.replicate (N-ws.length) none) st)):eA N body ws st=.ok w st:=by
 obtain⟨w,bv,e,rfl,rfl⟩:=h
 exact mX e
end
end L2
open L2
local macro_rules | `(tactic| walk_at "ev1") => `(tactic| first
 | (with_reducible apply gP) <;> rfl
 | (with_reducible apply jt) <;> rfl
 | with_reducible first
  | exact dN | exact bB | exact LI | exact Po | exact gA | exact lj | exact y7 | exact Ps
  | apply bS | apply ax | apply iE | apply Ar | apply bh | apply cL | apply cE | apply gQ | apply Pl
  | apply m_ | apply Pm | apply IX | apply jr | apply Pn | apply LJ | apply xn | apply DZ | apply bU | apply fC | apply nu | apply mE
  | apply lh | apply r6 | apply r_ | apply As | apply oF | apply sd | apply Pp | apply D1
 | decide
 | (show List.length _ <= jh; exact cz rfl)
 | (show @Eq Nat _ _; exact rfl)
 | (show @Eq Bool _ _; exact rfl)
 | (show @Eq (Option String) _ _; exact rfl)
 | (show @Eq _ _ _; with_reducible assumption))
local macro_rules | `(tactic| walk_at "evs") => `(tactic| repeat' walk_at "ev1")
local macro_rules | `(tactic| walk_at "tst") => `(tactic| first
 | (walk_at "evs"; done)
 | (apply vx; (focus walk_at "tst"); done)
 | (apply oD; (focus walk_at "tst"); (focus walk_at "tst"); done)
 | (apply vy; (focus walk_at "tst"); done)
 | (apply dZ; (focus walk_at "tst"); (focus walk_at "tst"); done))
local macro_rules | `(tactic| walk_at "go1") => `(tactic| first
 | apply bV
 | (apply fJ; (focus (walk_at "evs"; done)))
 | (apply dC; (focus (walk_at "evs"; done)))
 | (apply gu; (focus walk_at "tst"))
 | (apply bN; (focus walk_at "tst"))
 | (apply oG; (focus walk_at "tst"))
 | (apply kH; (focus walk_at "tst"))
 | (apply aG; (focus (walk_at "evs"; done))))
local macro_rules | `(tactic| walk_at "go") => `(tactic| repeat walk_at "go1")
local macro_rules | `(tactic| walk_at "tb") => `(tactic| repeat' (first | with_reducible apply LN | with_reducible apply LO | with_reducible apply LP | walk_at "ev1"))
local macro_rules | `(tactic| walk_at "len") => `(tactic| (simp only [aI, bu, dw]; show _ <= 1000000; omega))
namespace L2
open PySem PySem.Spec PyProof.Rows
section
variable{ρ' ρ2:bY}{st cH:List ai}{fs:FA}{g gh rest:FS}{w:W}{c:Str}{cs:List Str}{P:RS->Prop}{b:Bool}
theorem Pt{p q:Bool}(h:(p==q)=b):nT (.bl p) (.bl q) st=.ok (.bl b) st:=by rw[<- h];rfl
theorem D3{zs:List W}{k:Nat}{y:W}(h:st[n]?=some (.lst zs))(hk:k<=zs.length)(hl:zs.length<jh)(Gc:k<1000000):k_ (.loc n) [.int k,y] st=.ok .non (st.set n (.lst (zs.take k++y::zs.drop k))):=by
 unfold k_;simp only[h,aK];rw[aw ⟨by omega,hk,hl,by omega⟩]
theorem qL(I:bY->List ai->Prop)(h:gD (F' I) (g ρ st))(h2:∀ρ st,I ρ st->gD P (rest ρ st)):gD P (aX g rest ρ st):=by
 obtain⟨ρ',bv,e,hi⟩:=h
 exact aG e (h2 _ _ hi)
end
section
variable{st:List ai}{f:FG}{t:FT}
theorem xo{ρ0:bY}(hc:iW st ck)(T:W->Bool)(Y:W->W):∀(ws acc:List W),(∀w∈ws,∃ρ',f w ρ0=some ρ'/\t ρ' st=.ok (T w) st/\(T w=true->el ρ' st=.ok (Y w) st)) ->
  om f t el ck ρ0 ws acc st=.ok (acc++(ws.filter T).map Y) st
 |[],acc,_=>by unfold om;rw[aw hc];simp
 |w::ws,acc,h=>by
  obtain⟨ρ',e1,e2,e3⟩:=h w (by simp)
  have ih:=fun acc=>xo hc T Y ws acc fun w' hw'=>h w' (by simp[hw'])
  unfold om
  rw[aw hc,e1]
  simp only[e2]
  cases hT:T w with
  |true=>
   simp only[e3 hT]
   rw[ih]
   simp[cJ,hT]
  |false=>
   simp only
   rw[ih]
   simp[cJ,hT]
theorem D4(T:W->Bool)(Y:W->W)(h:fi ρ st=.ok (ws,ck) st1)(hl:ws.length<=jh)(hc:iW st1 ck)
  (hs:∀w∈ws,∃ρ',f w (pB cap ρ)=some ρ'/\t ρ' st1=.ok (T w) st1/\(T w=true->el ρ' st1=.ok (Y w) st1)):dX cap fi f t el ρ st=.ok (.loc st1.length) (st1++[.lst ((ws.filter T).map Y)]):=by
 unfold dX
 rw[h]
 simp only[R.bind_ok]
 rw[aw hl,xo hc T Y ws [] hs]
 simp only[R.bind_ok,List.nil_append,mn]
 rw[aw]
 rw[aj]
 exact be (ii _ _) hl
theorem f7(Y:W->W)(h:fi ρ st=.ok (ws,ck) st1)(hl:ws.length<=jh)(hc:iW st1 ck)
  (hs:∀w∈ws,∃ρ',f w (pB cap ρ)=some ρ'/\el ρ' st1=.ok (Y w) st1):dX cap fi f iI el ρ st=.ok (.loc st1.length) (st1++[.lst (ws.map Y)]):=by
 have:=D4 (fi:=fi) (f:=f) (t:=iI) (el:=el) (cap:=cap) (fun _=>true) Y h hl hc fun w hw=>by
  obtain⟨ρ',e1,e2⟩:=hs w hw
  exact⟨ρ',e1,rfl,fun _=>e2⟩
 rw[List.filter_eq_self.mpr (fun _ _=>rfl)]at this
 exact this
theorem pK{q:Nat}{lo:Int}{w:W}(h:w∈bA lo q):∃i:Nat,i<q/\w=.int (lo+i):=by
 unfold bA at h
 obtain⟨i,hi,rfl⟩:=am.mp h
 exact⟨i,a_.mp hi,rfl⟩
theorem eK(h:lstOf st n=some ws):cO [.loc n] st=.ok (.tup ws) st:=by unfold cO;simp only[h,cA]
theorem LQ{l:List α}(hj:j<=l.length)(hi:i<=j):j5 l (some (i:Int)) (some (j:Int))=(l.drop i).take (j-i):=by
 unfold j5;rw[HT.sIx_nat,HT.sIx_nat,iS hj,iS (by omega)]
end
def qg:Nat->List iD->List iD
 |_,[]=>[]
 |n,(_,c,o,w)::l=>(n,c,o,w)::qg (n+1) l
def Au(l:List iD):List ai:=l.map fun _=>.gone
theorem Av(a b:List α)(x y:α):(a++x::b).set a.length y=a++y::b:=by
 rw[fZ _ _ (av _),pb];rfl
theorem Aw(a b:List α)(x:α):(a++x::b)[a.length]?=some x:=by rw[bP (av _),pb];rfl
theorem nO:∀(l:List iD) (a b:List ai),oB (List.range' a.length l.length) (a++(gO l++b))=some (qg a.length l,a++(Au l++b))
 |[],a,b=>rfl
 |(j,c,o,w)::l,a,b=>by
  show oB (List.range' a.length (l.length+1)) (a++(.pin true c o w::(gO l++b)))=_
  rw[List.range'_succ]
  unfold oB
  rw[Aw,Av]
  have ih:=nO l (a++[.gone]) b
  rw[aI,aO,aO]at ih
  have ih:oB (List.range' (a.length+1) l.length) (a++(.gone::(gO l++b)))=some (qg (a.length+1) l,a++(.gone::(Au l++b))):=ih
  simp only[ih]
  rfl
theorem uy:∀(l:List iD) (a b:List ai),yW (qg a.length l) (a++(Au l++b))=some (a++(gO l++b))
 |[],a,b=>rfl
 |(j,c,o,w)::l,a,b=>by
  show yW ((a.length,c,o,w)::qg (a.length+1) l) (a++(.gone::(Au l++b)))=_
  unfold yW
  rw[Aw,Av]
  have ih:=uy l (a++[.pin true c o w]) b
  rw[aI,aO,aO]at ih
  exact ih
theorem mZ(f:Addr×Obj×W->α):∀(n:Nat) (l:List iD),((qg n l).map fun x=>f x.2)=l.map fun x=>f x.2
 |_,[]=>rfl
 |n,(j,c,o,w)::l=>by show f (c,o,w)::_=f (c,o,w)::_;rw[mZ f (n+1) l]
def dq(st:List ai):Prop:=∀d∈st,∀c,lQ c d=false
theorem uz:∀(l:List iD) (a b:List ai),(∀d∈a,∀x∈l,lQ x.2.1 d=false)->(l.map fun x=>x.2.1).Nodup->(l.map fun x=>(((a++(gO l++b))).findIdx? (lQ x.2.1)).getD 0)=List.range' a.length l.length
 |[],a,b,_,_=>rfl
 |(j,c,o,w)::l,a,b,hn,nd=>by
  rw[aC,bx]at nd
  show((a++(.pin true c o w::(gO l++b))).findIdx? (lQ c)).getD 0::(l.map fun x=>((a++(.pin true c o w::(gO l++b))).findIdx? (lQ x.2.1)).getD 0)=List.range' a.length (l.length+1)
  rw[List.range'_succ]
  have h1:(a++(.pin true c o w::(gO l++b))).findIdx? (lQ c)=some a.length:=by
   rw[List.findIdx?_append,jO.mpr fun x hx=>by simp[hn x hx (j,c,o,w) aN]]
   rw[List.findIdx?_cons,show lQ c (.pin true c o w)=true from dL _];simp
  rw[h1]
  have ih:=uz l (a++[.pin true c o w]) b (fun d hd x hx=>by
   rcases aH.mp hd with hd|hd
   ·exact hn d hd x (aA _ hx)
   ·rw[bd.mp hd]
    show(c==x.2.1)=false
    rw[a8];intro z;exact nd.1 (am.mpr ⟨x,hx,z.symm⟩)) nd.2
  rw[aI,aO]at ih
  have ih:(l.map fun x=>((a++(.pin true c o w::(gO l++b))).findIdx? (lQ x.2.1)).getD 0)=List.range' (a.length+1) l.length:=ih
  rw[ih];rfl
theorem uA{st x:List ai}(h:undWs st.length ws=true):g6 st (st++x) ws=st:=by
 unfold g6
 rw[aw ⟨h,by simp,fun i hi=>.inl (by rw[aq hi])⟩]
 simp
theorem D5{os:List Obj}(h1:os.length=C.length)(h2:cws.length=C.length):(kG C os cws).length=C.length:=by
 induction C generalizing os cws with
 |nil=>cases os with
  |nil=>cases cws with
   |nil=>rfl
   |cons w ws=>simp at h2
  |cons o os=>simp at h1
 |cons y C ih=>cases os with
  |nil=>simp at h1
  |cons o os=>cases cws with
   |nil=>simp at h2
   |cons w ws=>
    have e:=ih (os:=os) (cws:=ws) (by simpa using h1) (by simpa using h2)
    show(kG C os ws).length+1=C.length+1
    rw[e]
theorem LR{C:List (Str×Addr)}{os:List Obj}{cws:List W}(h1:os.length=C.length)(h2:cws.length=C.length):((kG C os cws).map fun x=>x.2.1)=C.map (·.2):=by
 induction C generalizing os cws with
 |nil=>cases os with
  |nil=>cases cws with
   |nil=>rfl
   |cons w ws=>simp at h2
  |cons o os=>simp at h1
 |cons y C ih=>cases os with
  |nil=>simp at h1
  |cons o os=>cases cws with
   |nil=>simp at h2
   |cons w ws=>
    have e:=ih (os:=os) (cws:=ws) (by simpa using h1) (by simpa using h2)
    show y.2::((kG C os ws).map fun x=>x.2.1)=y.2::C.map (·.2)
    rw[e]
theorem LS{C:List (Str×Addr)}{os:List Obj}{cws:List W}(h1:os.length=C.length)(h2:cws.length=C.length):((kG C os cws).map fun x=>x.2.2.2)=cws:=by
 induction C generalizing os cws with
 |nil=>cases os with
  |nil=>cases cws with
   |nil=>rfl
   |cons w ws=>simp at h2
  |cons o os=>simp at h1
 |cons y C ih=>cases os with
  |nil=>simp at h1
  |cons o os=>cases cws with
   |nil=>simp at h2
   |cons w ws=>
    have e:=ih (os:=os) (cws:=ws) (by simpa using h1) (by simpa using h2)
    show w::((kG C os ws).map fun x=>x.2.2.2)=w::ws
    rw[e]
theorem HB{st:List ai}{w:W}(hl:cws.length=(kF o).length)(hu:undWs st.length [w]=true)
  (hF:∀os:List Obj,os.length=(kF o).length->F ws (st++(gO (kG (kF o) os cws)++[]))=.ok w (st++(gO (kG (kF o) os cws)++[]))):BN F o cws ws st=.ok w st:=by
 unfold BN
 refine DT (List.replicate (kF o).length { cls:=.none,data:=.cell none }) (by simp) fun os ho=>?_
 have e:=hF os ho
 unfold Ap
 rw[cn]at e
 rw[e]
 simp only
 have h:=nO (kG (kF o) os cws) st []
 rw[D5 ho hl,cn,cn]at h
 rw[h]
 simp only
 rw[aw (mZ (fun y=>(y.1,y.2.1)) _ _),uA hu]
theorem LU(name q:Str)(pr:Arguments)(body:List Stmt)(sc:Scope)(xs:List Str):∃o,LF name q pr body sc xs o:=by
 refine⟨_,xs.zip (List.range xs.length),.none,.none,0,.none,?_,?_,rfl⟩
 ·exact List.map_fst_zip (by simp)
 ·rw[List.map_snd_zip (by simp)];exact List.nodup_range
theorem D6{q:Str}{st:Stmt}{xs:List Str}{P:Addr}{g:Addr->Obj->FS}{s:List ai}{w:W}(ht:p_ s j P pos q)(hu:undWs s.length [w]=true)
  (h:∀f o,Rb name q st xs o->∃x,g f o (ρ.set i (some (.loc s.length))) (s++[.pin false f o .non])=.rt w (s++x)):ur (Rb name q st xs) j P pos q i g ρ s=.rt w s:=by
 obtain⟨o0,h0⟩:=LU name q (dA st) (dB st) (aV st) xs
 unfold ur
 rw[aw ht]
 refine Ht (0,o0) h0 fun p hp=>?_
 obtain⟨x,e⟩:=h p.1 p.2 hp
 rw[e]
 show RS.rt w (g6 s (s++x) [w])=_
 rw[uA hu]
theorem HC{m:Nat}{ok:Obj->Prop}{fs:FA}{st:List ai}{w0 v:W}(hi:ρ[i]?=some (some (.loc m)))(hm:st[m]?=some (.pin false f o w0))(ha:fs ρ st=.ok ws st1)(hl:ws.length=n)(h:rW ok F m ws st1=.ok v st1) :
  nN i n ok F fs ρ st=.ok v st1:=by
 unfold nN
 rw[hi];simp only
 rw[hm];simp only
 rw[ha];simp only[R.bind_ok]
 rw[aw hl,h]
theorem LV{is:List Nat}{fs:FA}{st:List ai}{w:W}(ha:fs ρ st=.ok ws st1)(hl:ws.length=n)(hc:uv is ρ=some cws)(h:BN F o cws ws st1=.ok w st1):uw n F o is fs ρ st=.ok w st1:=by
 unfold uw
 rw[ha];simp only[R.bind_ok]
 rw[aw hl,hc];simp only
 rw[h]
end L2
namespace P
open PySem L2
open PyProof.Rows (boot_sorted boot_set boot_ord boot_all boot_enumerate boot_int boot_str boot_bool boot_list boot_tuple boot_isinstance boot_max boot_min)
def top(i:Nat):Stmt:=PySem.Challenge.pw_trunksay_k26_least_is_one_value.main.body.getD i (.Pass ⟨0,0,0,0⟩)
abbrev LW:Stmt:=top 1
abbrev y8:List Str:=["letters","rooms","lead","table","letter","leads","left"]
abbrev Pu:List Str:=["letters","rooms","lead"]
theorem xq:bR y8 Pu (aV LW):=nU
abbrev LX:Stmt:=top 3
abbrev vB:List Str:=["newest"]
abbrev Pv:List Str:=["newest"]
theorem I0:bR vB Pv (aV LX):=nU
abbrev LY:Stmt:=top 4
abbrev y9:List Str:=["rooms","keys","numbers","blocks","room"]
abbrev Pw:List Str:=["rooms","keys"]
theorem I_:bR y9 Pw (aV LY):=nU
abbrev LZ:Stmt:=top 5
abbrev tu:List Str:=["machine","rooms","keys","room"]
abbrev Px:List Str:=["machine","rooms"]
theorem Ja:bR tu Px (aV LZ):=nU
abbrev L0:Stmt:=top 6
abbrev y_:List Str:=["machine","rooms","blocks","views","room","view","leads"]
abbrev Py:List Str:=["machine","rooms","blocks"]
theorem Jb:bR y_ Py (aV L0):=nU
abbrev L3:Stmt:=top 7
abbrev se:List Str:=["rooms","blocks","views","keys","room"]
abbrev Pz:List Str:=["rooms","blocks","views"]
theorem Jc:bR se Pz (aV L3):=nU
abbrev L4:Stmt:=top 9
abbrev zb:List Str:=["machine","rows","told","best","left","right","size","letter","leads","room","way"]
abbrev PB:List Str:=["machine","rows","told","best"]
theorem Jd:bR zb PB (aV L4):=nU
abbrev BR:Stmt:=top 10
abbrev xu:List Str:=["machine","rows","told","best","room","way"]
abbrev PD:List Str:=["machine"]
theorem uB:bR xu PD (aV BR):=nU
abbrev L5:Stmt:=top 12
abbrev tw:List Str:=["machine","rooms","blocks","finer"]
abbrev PF:List Str:=["machine","rooms"]
theorem xy:bR tw PF (aV L5):=nU
abbrev L6:Stmt:=top 13
abbrev zc:List Str:=["rooms","blocks","heads","room"]
abbrev PH:List Str:=["rooms","blocks"]
theorem Je:bR zc PH (aV L6):=nU
abbrev sf:Stmt:=top 14
abbrev zd:List Str:=["machine","rooms","blocks","heads","good","lead","paper"]
abbrev Jf:List Str:=["machine"]
theorem nP:bR zd Jf (aV sf):=nU
abbrev D7:Stmt:=top 16
abbrev xz:List Str:=["_law_machine_here","_law_names_here","_law_good","_law_truth","_law_rows","_law_row","_law_room"]
abbrev Jg:List Str:=["_law_machine_here","_law_names_here"]
theorem D8:bR xz Jg (aV D7):=nU
abbrev D9:Stmt:=top 17
abbrev vC:List Str:=["_law_cell_here","_law_k","_law_salt","_law_first"]
abbrev Jh:List Str:=["_law_cell_here","_law_k","_law_salt"]
theorem D_:bR vC Jh (aV D9):=nU
abbrev Ea:Stmt:=top 18
abbrev vE:List Str:=["_law_cell_here","_law_many","_law_salt","_law_found","_law_rest","_law_k"]
abbrev Ji:List Str:=["_law_cell_here","_law_many","_law_salt"]
theorem Ec:bR vE Ji (aV Ea):=nU
abbrev Ed:Stmt:=top 19
abbrev xA:List Str:=["_law_script","_law_k"]
abbrev Jj:List Str:=["_law_script","_law_k"]
theorem Ee:bR xA Jj (aV Ed):=nU
abbrev Ef:Stmt:=top 20
abbrev vF:List Str:=["_law_d","_law_shapes"]
abbrev Jk:List Str:=["_law_d"]
theorem Eg:bR vF Jk (aV Ef):=nU
abbrev Eh:Stmt:=top 21
abbrev vG:List Str:=["_law_pool_here","_law_many"]
abbrev Jl:List Str:=["_law_pool_here","_law_many"]
theorem Ei:bR vG Jl (aV Eh):=nU
abbrev Ej:Stmt:=top 22
abbrev tz:List Str:=["_law_script","_law_at","_law_many","_law_salt","_law_found","_law_k"]
abbrev Jm:List Str:=["_law_script","_law_at","_law_many","_law_salt"]
theorem Ek:bR tz Jm (aV Ej):=nU
abbrev El:Stmt:=top 23
abbrev vH:List Str:=["_law_way","_law_l","_law_r"]
abbrev Jn:List Str:=["_law_way","_law_l","_law_r"]
theorem Em:bR vH Jn (aV El):=nU
abbrev En:Stmt:=top 24
abbrev tD:List Str:=["_law_names_here","_law_many","_law_draws_here","_law_table","_law_letter","_law_more","_law_rows","_law_l","_law_only"]
abbrev Jo:List Str:=["_law_names_here","_law_many","_law_draws_here"]
theorem Eo:bR tD Jo (aV En):=nU
abbrev Ep:Stmt:=top 25
abbrev sg:List Str:=["_law_machine_here","_law_spot","_law_many","_law_table","_law_at","_law_rows","_law_row"]
abbrev Jp:List Str:=["_law_machine_here","_law_spot"]
theorem Er:bR sg Jp (aV Ep):=nU
abbrev Es:Stmt:=top 26
abbrev vI:List Str:=["_law_machine_here","_law_owner_here","_law_draws_here","_law_many","_law_at","_law_table","_law_rows","_law_made","_law_x","_law_row","_law_y","_law_due","_law_some"]
abbrev Jq:List Str:=["_law_machine_here","_law_owner_here","_law_draws_here"]
theorem Et:bR vI Jq (aV Es):=nU
abbrev Eu:Stmt:=top 27
abbrev vJ:List Str:=["_law_many","_law_extra","_law_draws_here","_law_row","_law_k","_law_room"]
abbrev Jr:List Str:=["_law_many","_law_extra","_law_draws_here"]
theorem Ev:bR vJ Jr (aV Eu):=nU
abbrev Ew:Stmt:=top 28
abbrev si:List Str:=["_law_names_here","_law_many","_law_top","_law_draws_here","_law_good","_law_table","_law_at","_law_letter","_law_rows","_law_l"]
abbrev Js:List Str:=["_law_names_here","_law_many","_law_top","_law_draws_here"]
theorem Ex:bR si Js (aV Ew):=nU
abbrev Ey:Stmt:=top 29
abbrev ze:List Str:=["_law_script","_law_at","_law_pool_here","_law_head","_law_count","_law_many","_law_names_here","_law_draws_here","_law_machine_here","_law_top"]
abbrev Jt:List Str:=["_law_script","_law_at","_law_pool_here"]
theorem Ez:bR ze Jt (aV Ey):=nU
abbrev EA:Stmt:=top 30
abbrev xB:List Str:=["_law_cell_here","_law_many","_law_salt","_law_rest","_law_found","_law_d","_law_at"]
abbrev Ju:List Str:=["_law_cell_here","_law_many","_law_salt"]
theorem EB:bR xB Ju (aV EA):=nU
abbrev EC:Stmt:=top 31
abbrev zf:List Str:=["_law_machine_here","_law_met_here","_law_at","_law_other","_law_rows","_law_led"]
abbrev Jv:List Str:=["_law_machine_here"]
theorem ED:bR zf Jv (aV EC):=nU
abbrev EE:Stmt:=top 32
abbrev xC:List Str:=["_law_found","_law_due","_law_k"]
abbrev EF:List Str:=["_law_found","_law_due"]
theorem EG:bR xC EF (aV EE):=nU
abbrev EH:Stmt:=top 33
abbrev xD:List Str:=["_law_told","_law_names_here","_law_row","_law_number"]
abbrev Jw:List Str:=["_law_told","_law_names_here"]
theorem EI:bR xD Jw (aV EH):=nU
abbrev oH:Stmt:=top 34
abbrev PJ:List Str:=["_law_script","_law_machine_here","_law_many","_law_head","_law_owner_here","_law_second","_law_met_here","_law_room","_law_third","_law_told","_law_again","_law_made","_law_tie","_law_a","_law_c","_law_due","_law_itself","_law_other"]
abbrev EJ:List Str:=["_law_script"]
theorem EK:bR PJ EJ (aV oH):=nU
structure Bl(mg:Str->Option Value):Prop where
 bool:mg "bool"=Option.none
 enumerate:mg "enumerate"=Option.none
 int:mg "int"=Option.none
 isinstance:mg "isinstance"=Option.none
 len:mg "len"=Option.none
 list:mg "list"=Option.none
 max:mg "max"=Option.none
 min:mg "min"=Option.none
 range:mg "range"=Option.none
 sorted:mg "sorted"=Option.none
 str:mg "str"=Option.none
 tuple:mg "tuple"=Option.none
def tabL:List (Addr×Pos×Str):=[(59,⟨54,29,54,52⟩,"firsts_of.<locals>.<lambda>"),(80,⟨80,4,81,68⟩,"least_of.<locals>.lead")]
section
variable{w:World}
local macro_rules | `(tactic| walk_at "w1") => `(tactic| first | exact bC _ | refine a6 ?_ ?_ | exact iV | exact b9 | refine dg ?_ ?_ | refine kA ?_ ?_ | refine j6 ?_ | refine sS _ ‹_› ?_ | refine RY (by first | exact OV | exact OQ | exact Ls | exact OS | exact Le | exact OT | exact OU) ?_ ?_ | refine mz ‹_› ‹_› (by omega) ?_ | refine pA ?_ | refine pY ?_ | exact sG _ ‹_› | refine iu LD ‹Bl _›.len pd ?_ | refine iu mv ‹Bl _›.len pd ?_ | refine iu O1 ‹Bl _›.max boot_max ?_ | refine iu O2 ‹Bl _›.min boot_min ?_ | refine iu Al ‹Bl _›.sorted mM ?_ | refine iu Hd ‹Bl _›.sorted mM ?_ | refine yC (by first | exact OY ‹_› | exact De ‹_› | exact z7 ‹_› | exact IS ‹_› | exact w_lt | exact Lg | exact OX | exact wW ‹_› (z7 ‹_›)) ?_ ?_ | refine OG (by first | exact OY ‹_› | exact De ‹_› | exact z7 ‹_› | exact IS ‹_› | exact w_lt | exact Lg | exact OX | exact wW ‹_› (z7 ‹_›)) ?_ ?_ | refine O3 ?_ ?_ ?_ | exact Li | refine yJ ?_ ?_ ?_ | refine Dg ?_ ?_ | exact G6 | refine Lj rfl ?_ | refine mQ ?_ | refine Du ‹_› ?_ ?_ | refine Pi ‹_› ?_ ?_ | refine z4 ?_ | exact K8 | exact OF | refine iz kZ ‹Bl _›.tuple gk ?_ | refine iz Lh ‹Bl _›.list boot_list ?_ | refine Bx PySem.F.slot_list_append PySem.F.type_list_append mS ?_ ?_ | refine Bx PySem.F.slot_list_extend PySem.F.type_list_extend yN ?_ ?_ | refine R5 PySem.F.slot_str_join PySem.F.type_str_join G7 ?_ ?_ | refine Bx PySem.F.slot_list_insert PySem.F.type_list_insert BC ?_ ?_ | refine mR ‹Bl _›.range ?_ | refine Bw ‹Bl _›.range ?_ | refine Hf ‹Bl _›.range ?_ | refine G9 ‹Bl _›.enumerate ?_ | refine Ag rfl ?_ (fun _ _ _ _ _ => ?_) (fun _ _ _ _ _ => ?_) (fun _ _ _ _ _ => ?_) | refine qc (sG _ ‹_›) rfl ?_ (fun _ _ _ _ _ => ?_) (fun _ _ _ _ _ => ?_) (fun _ _ _ _ _ => ?_) | refine Ag (m := 0) rfl ?_ (fun _ _ _ _ _ => ?_) (fun _ _ _ _ _ => ?_) (fun _ _ _ _ _ => ?_) | refine qc (sG _ ‹_›) (m := 0) rfl ?_ (fun _ _ _ _ _ => ?_) (fun _ _ _ _ _ => ?_) (fun _ _ _ _ _ => ?_) | exact Tp _ | exact oo | refine G8 ?_ | refine u_ ?_ | refine Lb ?_ | refine OM ?_ | refine La ?_ | refine OH (C7 ?_ ?_) | refine OH (IJ ?_ ?_) | refine C7 ?_ ?_ | refine IJ ?_ ?_ | refine GW ?_ | refine K' ?_ | refine K9 ?_ | refine OK ?_ | refine O_ ?_ | refine OJ ?_ ?_ | refine OI ?_ | refine G5 ?_ | exact G4 | refine R3 ?_ ?_ ?_ | refine yG (Dv ‹_›) ?_ ?_ ?_ | refine yG Lm ?_ ?_ ?_ | refine rq ?_ ?_ | refine Lk ?_ ?_ | exact Dw | refine Hi ‹_› ?_ ?_ ?_ | refine Hr ‹_› ?_ ?_ ?_ | refine Aa ‹Bl _›.isinstance ‹Bl _›.bool boot_bool ?_ | refine Aa ‹Bl _›.isinstance ‹Bl _›.int boot_int ?_ | refine Aa ‹Bl _›.isinstance ‹Bl _›.str boot_str ?_ | refine Aa ‹Bl _›.isinstance ‹Bl _›.tuple gk ?_)
local macro_rules | `(tactic| walk_at "w") => `(tactic| repeat' walk_at "w1")
abbrev dG:Stmt:=(dB sf).getD 4 (.Pass ⟨0,0,0,0⟩)
abbrev cx:Obj->Prop:=Rb "lead" "least_of.<locals>.lead" dG ["machine","heads","blocks"]
theorem oI:yX ["letter","left","right","machine","heads","blocks"] ["letter","left","right"] ["machine","heads","blocks"] (aV dG):=⟨rfl,rfl,rfl,by decide +kernel,rfl,rfl,by decide +kernel,by decide +kernel,by decide +kernel,by decide +kernel⟩
def ju:FS:=(cR (e2 kE (ag 5) (e2 bJ (e2 bJ (e2 bJ (e2 bJ (ag 3) (eI 2)) (ag 0)) (e2 bJ (ag 4) (ag 1))) (e2 bJ (ag 4) (ag 2)))))
def cW:List W->List ai->R W:=eA 6 ju
theorem ng  :nM P w K mg base 1 3 3 cx cW:=
 Hw (k:=0) oI rfl rfl (fun _ _ _ _ _ us hl=>match us,hl with|[_,_,_],_=>rfl) fun f cd cl A outer s H E hr=>(j6 (pA (Du hr (bC 5) (kA (kA (kA (kA (bC 3) iV) (bC 0)) (kA (bC 4) (bC 1))) (kA (bC 4) (bC 2))))))
def PL:FS:=(aX (bO 3 (kX aB)) (aX (fg (br (ah (ag 0) aB)) (eZ 4) (aX (bO 5 (kX aB)) (aX (fg (br (ah (ag 1) aB)) (eZ 6) (eJ (qu cS (ag 5) (ah (bg cO (ah (dX [none,some 2,some 4,some 6] (br (ah (ag 1) aB)) (eZ 0) iI (nN 1 3 cx cW (ah (ag 2) (ah (ag 3) (ah (ag 0) aB))))) aB)) aB)))) (eJ (qu cS (ag 3) (ah (bg cO (ah (ag 5) aB)) aB)))))) (cR (bg cO (ah (ag 3) aB)))))
def EL:List W->List ai->R W:=eA 7 PL
theorem PM(F:kS K "table_by" "table_by" LW f fd)(B:Bl mg)(io:nM P w K mg base 1 3 3 cx cW) :e_ P w K mg base (ji P w) 2 f fd Pu (kT K mg 3 EL):=
 dy (k:=1) F xq rfl fun gq A outer s H E hr=>(dg (sS 3 xq (z4 b9)) (dg (yJ (mR B.range (a6 (bC 0) b9)) (sG 4 xq) (dg (sS 5 xq (z4 b9)) (dg (yJ (mR B.range (a6 (bC 1) b9)) (sG 6 xq) (j6 (mQ (Bx PySem.F.slot_list_append PySem.F.type_list_append mS (bC 5) (a6 (iz kZ B.tuple gk (a6 (u9 (nm:=["right","lead","letter","left"]) (cap:=[none,some 2,some 4,some 6]) (by first|rfl|kernel_rfl) rfl (mR B.range (a6 (bC 1) b9)) (fun _ _ _ _ _=>(sC 0)) (fun _ _ _ _ _=>oo) (fun _ _ _ _ _=>(Hy 1 io (Hz rfl) hr (by omega) (a6 (bC 2) (a6 (bC 3) (a6 (bC 0) b9)))))) b9)) b9))))) (j6 (mQ (Bx PySem.F.slot_list_append PySem.F.type_list_append mS (bC 3) (a6 (iz kZ B.tuple gk (a6 (bC 5) b9)) b9))))))) (j6 (pA (iz kZ B.tuple gk (a6 (bC 3) b9))))))
def PN:FS:=(cR (e2 eS (dX [none,some 0] (br (ah (e2 eS (ag 0) (eI 1)) aB)) (eZ 0) iI (fH (ah (ag 1) (ah (ag 0) aB)))) (dX [none,some 0] (br (ah (ag 0) aB)) (eZ 0) iI (fH (ah (ag 0) (ah (ag 1) aB))))))
def EM:List W->List ai->R W:=eA 1 PN
theorem PP(F:kS K "pairs_with" "pairs_with" LX f fd)(B:Bl mg) :e_ P w K mg base (ji P w) 1 f fd Pv (kT K mg 1 EM):=
 dy (k:=0) F I0 rfl fun gq A outer s H E hr=>by have sc:=I0;walk_at "w"
def PQ:FS:=(aX (bO 2 oq) (aX (bO 3 oq) (aX (fg (cK (ag 0)) (eZ 4) (aX (eJ (vq (ag 2) (e2 kE (ag 1) (ag 4)) (bg uq (ah (ag 2) aB)))) (nJ (ag 3) (ag 4) (e2 DR (ag 2) (e2 kE (ag 1) (ag 4))) jo))) (cR (ag 3)))))
def BS:List W->List ai->R W:=eA 5 PQ
theorem PR(F:kS K "numbered" "numbered" LY f fd)(B:Bl mg) :e_ P w K mg base (ji P w) 1 f fd Pw (kT K mg 2 BS):=
 dy (k:=0) F I_ rfl fun gq A outer s H E hr=>by have sc:=I_;walk_at "w"
def PU:FS:=(aX (bO 2 oq) (aX (fg (cK (ag 1)) (eZ 3) (nJ (ag 2) (ag 3) (e2 bJ (e2 bJ (ag 0) (eI 1)) (ag 3)) jo)) (cR (de 2 BS (ah (ag 1) (ah (ag 2) aB))))))
def HD:List W->List ai->R W:=eA 4 PU
theorem PV(F:kS K "good_blocks" "good_blocks" LZ f fd) (Iu:dS P w K mg base 1 "numbered" 2 BS):e_ P w K mg base (ji P w) 2 f fd Px (kT K mg 2 HD):=
 dy (k:=1) F Ja rfl fun gq A outer s H E hr=>by have sc:=Ja;walk_at "w"
def PY:FS:=(aX (bO 3 oq) (aX (fg (cK (ag 1)) (eZ 4) (aX (bO 5 (kX aB)) (aX (fg (cK (e2 bJ (ag 0) (eI 2))) (eZ 6) (aX (eJ (qu jl (ag 5) (ah (dX [none,some 2,some 6,some 4] (cK (ag 1)) (eZ 0) iI (e2 kE (ag 1) (e2 bJ (e2 bJ (ag 2) (ag 3)) (ag 0)))) aB))) (eJ (qu jl (ag 5) (ah (dX [none,some 2,some 4,some 6] (cK (ag 1)) (eZ 0) iI (e2 kE (ag 1) (e2 bJ (e2 bJ (ag 3) (ag 0)) (ag 2)))) aB))))) (nJ (ag 3) (ag 4) (bg cO (ah (ag 5) aB)) jo)))) (cR (ag 3))))
def BU:List W->List ai->R W:=eA 7 PY
theorem PZ(F:kS K "views_of" "views_of" L0 f fd)(B:Bl mg) :e_ P w K mg base (ji P w) 1 f fd Py (kT K mg 3 BU):=
 dy (k:=0) F Jb rfl fun gq A outer s H E hr=>by have sc:=Jb;walk_at "w"
def P0:FS:=(aX (bO 3 oq) (aX (fg (cK (ag 0)) (eZ 4) (nJ (ag 3) (ag 4) (fH (ah (e2 kE (ag 1) (ag 4)) (ah (e2 kE (ag 2) (ag 4)) aB))) jo)) (cR (de 2 BS (ah (ag 0) (ah (ag 3) aB))))))
def BV:List W->List ai->R W:=eA 5 P0
theorem P1(F:kS K "split_blocks" "split_blocks" L3 f fd) (Iu:dS P w K mg base 1 "numbered" 2 BS):e_ P w K mg base (ji P w) 2 f fd Pz (kT K mg 3 BV):=
 dy (k:=1) F Jc rfl fun gq A outer s H E hr=>by have sc:=Jc;walk_at "w"
def P2:FS:=(fg (cK (de 1 EM (ah (e2 Br (bg cQ (ah (ag 1) aB)) (eI 1)) aB))) (Ny 2 (j7 (eZ 4) (j7 (eZ 5) wO))) (aX (bO 6 (e2 eS (e2 eS (e2 bJ (e2 bJ (ag 1) (ag 4)) (eI 1)) (e2 bJ (e2 bJ (ag 1) (ag 5)) (eI 1))) (eI 1))) (fg (vc (ah (e2 bJ (ag 0) (eI 2)) aB)) (Ny 2 (j7 (eZ 7) (j7 (eZ 8) wO))) (aX (bO 9 (e2 bJ (e2 bJ (ag 8) (e2 bJ (e2 bJ (ag 1) (ag 4)) (eI 0))) (e2 bJ (e2 bJ (ag 1) (ag 5)) (eI 0)))) (aX (bO 10 (fH (ah (ag 6) (ah (ag 4) (ah (ag 5) (ah (ag 7) aB)))))) (i6 (K_ (f6 (e2 (vh true) (ag 9) (ag 2))) (sW (f6 (e2 (vh true) (ag 9) (ag 3))) (f6 (e2 BF (ag 10) (e2 kE (ag 3) (ag 9)))))) (nJ (ag 3) (ag 9) (ag 10) jo) cP))))))
def EN:List W->List ai->R W:=eA 11 P2
theorem P3(F:kS K "put_ways" "put_ways" L4 f fd)(B:Bl mg)(Qy:dS P w K mg base 1 "pairs_with" 1 EM):e_ P w K mg base (ji P w) 2 f fd PB (kT K mg 4 EN):=
 dy (k:=1) F Jd rfl fun gq A outer s H E hr=>by have sc:=Jd;walk_at "w"
theorem tF(p2 p3 p4:Pos):Dy "each" "best" ⟨[],[⟨"each",none,⟨54,36,54,40⟩⟩],none,[],[],none,[]⟩ (.Subscript (.Name "best" p2) (.Name "each" p3) p4) (DB [("each",.local),("best",.free)]):=⟨rfl,rfl,rfl,by decide,rfl,rfl,fun _ _ _ _ _ _ _=>rfl,by decide,by decide,by decide⟩
def P4:FS:=(aX (bO 1 (kX (ah (fH (ah (eI 0) (ah (eI 0) (ah (fH aB) aB)))) aB))) (aX (bO 2 (Ad (vi (eI 0) (eC (.bl true)) Ac))) (aX (bO 3 oq) (aX (eJ (de 4 EN (ah (ag 0) (ah (ag 1) (ah (ag 2) (ah (ag 3) aB)))))) (aX (k6 (f6 (e2 OW (bg rL (ah (ag 3) aB)) (eI 0))) (aX (bO 4 (rN 3 1 59 ⟨54,29,54,52⟩ "firsts_of.<locals>.<lambda>")) (aX (bO 5 (Ae (ag 3) (ag 4))) (aX (eJ (qu cS (ag 1) (ah (fH (ah (ag 4) (ah (e2 bJ (ag 5) (eI 0)) (ah (fH (ah (e2 bJ (e2 bJ (ag 1) (e2 bJ (ag 5) (eI 1))) (eI 0)) (ah (e2 bJ (e2 bJ (ag 1) (e2 bJ (ag 5) (eI 2))) (eI 0)) (ah (e2 bJ (ag 5) (eI 3)) aB)))) aB)))) aB))) (aX (nJ (ag 2) (ag 4) (eC (.bl true)) jo) (eJ (de 4 EN (ah (ag 0) (ah (ag 1) (ah (ag 2) (ah (ag 3) aB))))))))))) (cR (bg cO (ah (ag 1) aB))))))))
def BW:List W->List ai->R W:=eA 6 P4
theorem P5(F:kS K "firsts_of" "firsts_of" BR f fd)(Tc:Pd K fd 59)(Bk:qw base mg)(B:Bl mg)(Iw:dS P w K mg base 2 "put_ways" 4 EN):e_ P w K mg base (ji P w) 3 f fd PD (kT K mg 1 BW):=
 Tc.elim fun cT hT=>u8 (k:=2) F uB rfl fun gq A outer s H E kt hr=>(dg (sS 1 uB (z4 (a6 (pY (a6 iV (a6 iV (a6 (pY b9) b9)))) b9))) (dg (sS 2 uB (Lw (Hg iV K8 Lv))) (dg (sS 3 uB Dw) (dg (mQ (mz Iw hr (by omega) (a6 (bC 0) (a6 (bC 1) (a6 (bC 2) (a6 (bC 3) b9)))))) (dg (rq (yC Lg (iu Lu B.len pd (a6 (bC 3) b9)) iV) (dg (sS 4 uB (Hh (i:=3) (j:=1) hr (tF _ _ _) (kt.symm.trans hT.1) hT.2.1 hT.2.2 Bk B.min rfl)) (dg (sS 5 uB (Lx (bC 3) (bC 4))) (dg (mQ (Bx PySem.F.slot_list_append PySem.F.type_list_append mS (bC 1) (a6 (pY (a6 (bC 4) (a6 (kA (bC 5) iV) (a6 (pY (a6 (kA (kA (bC 1) (kA (bC 5) iV)) iV) (a6 (kA (kA (bC 1) (kA (bC 5) iV)) iV) (a6 (kA (bC 5) iV) b9)))) b9)))) b9))) (dg (yG (Dv hr) K8 (bC 2) (bC 4)) (j6 (mQ (mz Iw hr (by omega) (a6 (bC 0) (a6 (bC 1) (a6 (bC 2) (a6 (bC 3) b9)))))))))))) (j6 (pA (iz kZ B.tuple gk (a6 (bC 1) b9)))))))))
def P6:FS:=(aX (bO 2 (de 2 HD (ah (ag 0) (ah (ag 1) aB)))) (aX (bO 3 (de 3 BV (ah (ag 1) (ah (ag 2) (ah (de 3 BU (ah (ag 0) (ah (ag 1) (ah (ag 2) aB)))) aB))))) (aX (k6 (f6 (e2 yZ (ag 3) (ag 2))) (aX (bO 2 (ag 3)) (bO 3 (de 3 BV (ah (ag 1) (ah (ag 2) (ah (de 3 BU (ah (ag 0) (ah (ag 1) (ah (ag 2) aB)))) aB))))))) (cR (ag 2)))))
def HE:List W->List ai->R W:=eA 4 P6
theorem P7(F:kS K "last_blocks" "last_blocks" L5 f fd) (Np:dS P w K mg base 2 "good_blocks" 2 HD)(Iz:dS P w K mg base 2 "split_blocks" 3 BV)(Ir:dS P w K mg base 1 "views_of" 3 BU):e_ P w K mg base (ji P w) 3 f fd PF (kT K mg 2 HE):=
 dy (k:=2) F xy rfl fun gq A outer s H E hr=>(dg (sS 2 xy (mz Np hr (by omega) (a6 (bC 0) (a6 (bC 1) b9)))) (dg (sS 3 xy (mz Iz hr (by omega) (a6 (bC 1) (a6 (bC 2) (a6 (mz Ir hr (by omega) (a6 (bC 0) (a6 (bC 1) (a6 (bC 2) b9)))) b9))))) (dg (rq (yC (Pk hr) (bC 3) (bC 2)) (dg (sS 2 xy (bC 3)) (j6 (sS 3 xy (mz Iz hr (by omega) (a6 (bC 1) (a6 (bC 2) (a6 (mz Ir hr (by omega) (a6 (bC 0) (a6 (bC 1) (a6 (bC 2) b9)))) b9)))))))) (j6 (pA (bC 2))))))
def P8:FS:=(aX (bO 2 (kX aB)) (aX (fg (cK (ag 0)) (eZ 3) (i6 (f6 (e2 nT (e2 kE (ag 1) (ag 3)) (bg cQ (ah (ag 2) aB)))) (eJ (qu cS (ag 2) (ah (ag 3) aB))) cP)) (cR (ag 2))))
def HF:List W->List ai->R W:=eA 4 P8
theorem P9(F:kS K "heads_of" "heads_of" L6 f fd)(B:Bl mg) :e_ P w K mg base (ji P w) 1 f fd PH (kT K mg 2 HF):=
 dy (k:=0) F Je rfl fun gq A outer s H E hr=>by have sc:=Je;walk_at "w"
def Jx:FS:=(aX (u7 (dX [none] (cK (de 1 BW (ah (ag 0) aB))) (eZ 0) iI (e2 bJ (ag 0) (eI 0))) (eZ 1)) (aX (bO 2 (de 2 HE (ah (ag 0) (ah (ag 1) aB)))) (aX (bO 3 (de 2 HF (ah (ag 1) (ah (ag 2) aB)))) (aX (bO 4 (bg cO (ah (dX [none,some 0] (cK (ag 3)) (eZ 0) iI (e2 bJ (e2 bJ (ag 1) (eI 1)) (ag 0))) aB))) (ur cx 2 80 ⟨80,4,81,68⟩ "least_of.<locals>.lead" 5 fun f o=>(aX (bO 6 (bg cO (ah (dX [none,some 2] (cK (bg lc (ah (ag 1) aB))) (eZ 0) iI (fH (ah (ag 0) (ah (e2 kE (ag 1) (ag 0)) aB)))) aB))) (cR (fH (ah (fH (ah (e2 bJ (ag 0) (eI 0)) (ah (ag 4) (ah (uw 3 EL o [0,3,2] (ah (bg cQ (ah (e2 bJ (ag 0) (eI 2)) aB)) (ah (bg cQ (ah (ag 3) aB)) (ah (ag 5) aB)))) aB)))) (ah (ag 6) aB))))))))))
def qh:List W->List ai->R W:=eA 7 Jx
theorem L7(F:kS K "least_of" "least_of" sf f fd)(Tc:Pd K fd 80)(Bk:qw base mg)(B:Bl mg)(Nl:dS P w K mg base 3 "firsts_of" 1 BW)(M6:dS P w K mg base 1 "heads_of" 2 HF)(Nq:dS P w K mg base 3 "last_blocks" 2 HE)(Nm:dS P w K mg base 2 "table_by" 3 EL):e_ P w K mg base (ji P w) 4 f fd Jf (kT K mg 1 qh):=
 Tc.elim fun cT hT=>u8 (k:=3) F nP rfl fun gq A outer s H E kt hr=>(dg (rE (sG 1 nP) (nm:=["row"]) (cap:=[none]) (by first|rfl|kernel_rfl) rfl (u_ (mz Nl hr (by omega) (a6 (bC 0) b9))) (fun _ _ _ _ _=>(sC 0)) (fun _ _ _ _ _=>oo) (fun _ _ _ _ _=>(kA (bC 0) iV))) (dg (sS 2 nP (mz Nq hr (by omega) (a6 (bC 0) (a6 (bC 1) b9)))) (dg (sS 3 nP (mz M6 hr (by omega) (a6 (bC 1) (a6 (bC 2) b9)))) (dg (sS 4 nP (iz kZ B.tuple gk (a6 (u9 (nm:=["room","machine"]) (cap:=[none,some 0]) (by first|rfl|kernel_rfl) rfl (u_ (bC 3)) (fun _ _ _ _ _=>(sC 0)) (fun _ _ _ _ _=>oo) (fun _ _ _ _ _=>(kA (kA (bC 1) iV) (bC 0)))) b9))) (DW (st:=dG) (kt.symm.trans hT.1) hT.2.1 Bk rfl nP.nd (fun f o okN=>(dg (sS 6 nP (iz kZ B.tuple gk (a6 (u9 (nm:=["room","blocks"]) (cap:=[none,some 2]) (by first|rfl|kernel_rfl) rfl (u_ (iu Al B.sorted mM (a6 (bC 1) b9))) (fun _ _ _ _ _=>(sC 0)) (fun _ _ _ _ _=>oo) (fun _ _ _ _ _=>(pY (a6 (bC 0) (a6 (Du hr (bC 1) (bC 0)) b9))))) b9))) (j6 (pA (pY (a6 (pY (a6 (kA (bC 0) iV) (a6 (bC 4) (a6 (HA (st:=dG) (xs:=["machine","heads","blocks"]) Nm hr (by omega) okN (a6 (iu mv B.len pd (a6 (kA (bC 0) iV) b9)) (a6 (iu mv B.len pd (a6 (bC 3) b9)) (a6 (bC 5) b9))) rfl (.cons rfl (.cons rfl (.cons rfl (.nil))))) b9)))) (a6 (bC 6) b9))))))))))))
def Jy:FS:=(aX (i6 (sW (qC (f6 (iJ "tuple" (ag 0)))) (f6 (e2 t_ (bg cQ (ah (ag 0) aB)) (eI 3)))) (cR (eC (.bl false))) cP) (aX (i6 (sW (qC (f6 (iJ "str" (e2 bJ (ag 0) (eI 0))))) (f6 (e2 t_ (e2 bJ (ag 0) (eI 0)) (ag 1)))) (cR (eC (.bl false))) cP) (aX (bO 2 (e2 bJ (ag 0) (eI 1))) (aX (i6 (sW (qC (f6 (iJ "tuple" (ag 2)))) (sW (f6 (e2 nT (bg cQ (ah (ag 2) aB)) (eI 0))) (qC (f6 (iJ "tuple" (e2 bJ (ag 0) (eI 2))))))) (cR (eC (.bl false))) cP) (aX (fg (cK (ag 2)) (eZ 3) (i6 (qC (f6 (iJ "bool" (ag 3)))) (cR (eC (.bl false))) cP)) (aX (i6 (f6 (e2 t_ (bg cQ (ah (e2 bJ (ag 0) (eI 2)) aB)) (e2 u5 (eI 1) (bg cQ (ah (ag 1) aB))))) (cR (eC (.bl false))) cP) (aX (fg (cK (e2 bJ (ag 0) (eI 2))) (eZ 4) (aX (i6 (sW (qC (f6 (iJ "tuple" (ag 4)))) (f6 (e2 t_ (bg cQ (ah (ag 4) aB)) (bg cQ (ah (ag 2) aB))))) (cR (eC (.bl false))) cP) (fg (cK (ag 4)) (eZ 5) (aX (i6 (sW (qC (f6 (iJ "tuple" (ag 5)))) (f6 (e2 t_ (bg cQ (ah (ag 5) aB)) (bg cQ (ah (ag 2) aB))))) (cR (eC (.bl false))) cP) (fg (cK (ag 5)) (eZ 6) (i6 (sW (qC (f6 (iJ "int" (ag 6)))) (sW (f6 (iJ "bool" (ag 6))) (sW (f6 (e2 G0 (ag 6) (eI 0))) (f6 (e2 Lf (ag 6) (bg cQ (ah (ag 2) aB))))))) (cR (eC (.bl false))) cP)))))) (cR (eC (.bl true))))))))))
def Ax:List W->List ai->R W:=eA 7 Jy
theorem L8(F:kS K "_law_fits" "_law_fits" D7 f fd)(B:Bl mg) :e_ P w K mg base (ji P w) 1 f fd Jg (kT K mg 2 Ax):=
 dy (k:=0) F D8 rfl fun gq A outer s H E hr=>by have sc:=D8;walk_at "w"
def P_:FS:=(aX (bO 3 (e2 fM (e2 ib (e2 eS (e2 eS (e2 eS (ag 0) (e2 ib (e2 ib (eI 7) (ag 1)) (ag 1))) (e2 ib (eI 13) (ag 1))) (ag 2)) (eI 69621)) (eI 2147483647))) (cR (e2 fM (e2 ib (e2 fM (e2 eS (e2 eS (e2 ib (ag 3) (e2 eS (e2 wK (ag 3) (eI 1009)) (eI 3))) (e2 ib (eI 31) (ag 1))) (ag 2)) (eI 2147483629)) (eI 48271)) (eI 1000000007))))
def xE:List W->List ai->R W:=eA 4 P_
theorem L9(F:kS K "_law_mixed" "_law_mixed" D9 f fd)  :e_ P w K mg base (ji P w) 1 f fd Jh (kT K mg 3 xE):=
 dy (k:=0) F D_ rfl fun gq A outer s H E hr=>by have sc:=D_;walk_at "w"
def Jz:FS:=(aX (bO 3 (kX aB)) (aX (bO 4 (eI 0)) (aX (i6 (f6 (e2 Lf (ag 0) (e2 OP (eI 10) (eI 18)))) (bO 4 (ag 0)) cP) (aX (fg (br (ah (ag 1) aB)) (eZ 5) (i6 (f6 (e2 OW (ag 4) (eI 0))) (aX (eJ (qu cS (ag 3) (ah (e2 fM (ag 4) (eI 64)) aB))) (bO 4 (e2 wK (ag 4) (eI 64)))) (eJ (qu cS (ag 3) (ah (de 3 xE (ah (ag 0) (ah (ag 5) (ah (ag 2) aB)))) aB))))) (cR (ag 3))))))
def lS:List W->List ai->R W:=eA 6 Jz
theorem L_(F:kS K "_law_draws" "_law_draws" Ea f fd)(B:Bl mg)(JW:dS P w K mg base 1 "_law_mixed" 3 xE):e_ P w K mg base (ji P w) 2 f fd Ji (kT K mg 3 lS):=
 dy (k:=1) F Ec rfl fun gq A outer s H E hr=>by have sc:=Ec;walk_at "w"
def P':FS:=(aX (i6 (f6 (e2 nT (bg cQ (ah (ag 0) aB)) (eI 0))) (cR (eI 0)) cP) (cR (e2 bJ (ag 0) (e2 fM (ag 1) (bg cQ (ah (ag 0) aB))))))
def nv:List W->List ai->R W:=eA 2 P'
theorem L'(F:kS K "_law_cell" "_law_cell" Ed f fd)(B:Bl mg) :e_ P w K mg base (ji P w) 1 f fd Jj (kT K mg 2 nv):=
 dy (k:=0) F Ee rfl fun gq A outer s H E hr=>by have sc:=Ee;walk_at "w"
def JA:FS:=(aX (bO 1 (fH (ah (fH (ah (eI 0) (ah (eI 1) aB))) (ah (fH (ah (eI 0) (ah (eI 5) aB))) (ah (fH (ah (eI 0) (ah (eI 9) aB))) (ah (fH (ah (eI 1) (ah (eI 2) aB))) (ah (fH (ah (eI 1) (ah (eI 4) aB))) (ah (fH (ah (eI 1) (ah (eI 6) aB))) (ah (fH (ah (eI 2) (ah (eI 1) aB))) (ah (fH (ah (eI 2) (ah (eI 3) aB))) (ah (fH (ah (eI 2) (ah (eI 5) aB))) (ah (fH (ah (eI 3) (ah (eI 2) aB))) (ah (fH (ah (eI 3) (ah (eI 4) aB))) (ah (fH (ah (eI 5) (ah (eI 2) aB))) aB)))))))))))))) (cR (e2 bJ (ag 1) (e2 fM (ag 0) (eI 12)))))
def Ay:List W->List ai->R W:=eA 2 JA
theorem Ma(F:kS K "_law_shape" "_law_shape" Ef f fd)  :e_ P w K mg base (ji P w) 1 f fd Jk (kT K mg 1 Ay):=
 dy (k:=0) F Eg rfl fun gq A outer s H E hr=>by have sc:=Eg;walk_at "w"
def JB:FS:=(cR (O8 rD (eC (.str [])) (ah (bg pE (ah (dX [none,some 0] (br (ah (ag 1) aB)) (eZ 0) iI (e2 bJ (ag 1) (ag 0))) aB)) aB)))
def Az:List W->List ai->R W:=eA 2 JB
theorem Mb(F:kS K "_law_names" "_law_names" Eh f fd)(B:Bl mg) :e_ P w K mg base (ji P w) 1 f fd Jl (kT K mg 2 Az):=
 dy (k:=0) F Ei rfl fun gq A outer s H E hr=>by have sc:=Ei;walk_at "w"
def JC:FS:=(aX (bO 4 (kX aB)) (aX (fg (vg (ah (eI 0) (ah (ag 2) (ah (eI 50) aB)))) (eZ 5) (bO 4 (e2 eS (ag 4) (de 3 lS (ah (de 2 nv (ah (ag 0) (ah (e2 eS (ag 1) (e2 wK (ag 5) (eI 50))) aB))) (ah (bg yF (ah (eI 50) (ah (e2 Br (ag 2) (ag 5)) aB))) (ah (e2 eS (ag 3) (e2 ib (eI 1009) (ag 5))) aB))))))) (cR (ag 4))))
def sj:List W->List ai->R W:=eA 6 JC
theorem Md(F:kS K "_law_blocks" "_law_blocks" Ej f fd)(B:Bl mg)(uO:dS P w K mg base 1 "_law_cell" 2 nv)(qj:dS P w K mg base 2 "_law_draws" 3 lS):e_ P w K mg base (ji P w) 3 f fd Jm (kT K mg 4 sj):=
 dy (k:=2) F Ek rfl fun gq A outer s H E hr=>by have sc:=Ek;walk_at "w"
def Qa:FS:=(aX (i6 (f6 (e2 nT (ag 0) (eI 0))) (cR (e2 eS (ag 1) (ag 2))) cP) (aX (i6 (f6 (e2 nT (ag 0) (eI 1))) (cR (bg Df (ah (ag 1) (ah (ag 2) aB)))) cP) (aX (i6 (f6 (e2 nT (ag 0) (eI 2))) (cR (ag 1)) cP) (cR (ag 2)))))
def xF:List W->List ai->R W:=eA 3 Qa
theorem Me(F:kS K "_law_grown" "_law_grown" El f fd)(B:Bl mg) :e_ P w K mg base (ji P w) 1 f fd Jn (kT K mg 3 xF):=
 dy (k:=0) F Em rfl fun gq A outer s H E hr=>by have sc:=Em;walk_at "w"
def JD:FS:=(aX (bO 3 (kX aB)) (aX (fg (br (ah (e2 u5 (eI 1) (bg cQ (ah (ag 0) aB))) aB)) (eZ 4) (aX (bO 5 (e2 eS (e2 fM (ag 4) (eI 2)) (e2 fM (e2 bJ (ag 2) (eI 1)) (eI 2)))) (aX (i6 (f6 (e2 nT (bg cQ (ah (ag 0) aB)) (eI 0))) (bO 5 (eI 1)) cP) (aX (bO 6 (kX aB)) (aX (fg (br (ah (ag 1) aB)) (eZ 7) (eJ (qu cS (ag 6) (ah (bg cO (ah (dX [none,some 1,some 5,some 7,some 2] (br (ah (ag 1) aB)) (eZ 0) iI (bg yF (ah (e2 Br (ag 1) (eI 1)) (ah (e2 eS (de 3 xF (ah (e2 fM (e2 bJ (ag 4) (eI 0)) (eI 4)) (ah (ag 3) (ah (ag 0) aB)))) (ag 2)) aB)))) aB)) aB)))) (eJ (qu cS (ag 3) (ah (bg cO (ah (ag 6) aB)) aB)))))))) (aX (bO 8 (e2 Br (ag 1) (eI 1))) (aX (i6 (f6 (e2 nT (e2 fM (e2 bJ (ag 2) (eI 2)) (eI 2)) (eI 1))) (bO 8 (e2 fM (e2 bJ (ag 2) (eI 3)) (ag 1))) cP) (cR (fH (ah (ag 0) (ah (bg cO (ah (dX [none,some 8] (br (ah (ag 1) aB)) (eZ 0) iI (e2 nT (ag 0) (ag 1))) aB)) (ah (bg cO (ah (ag 3) aB)) aB)))))))))
def AA:List W->List ai->R W:=eA 9 JD
theorem Mf(F:kS K "_law_graded" "_law_graded" En f fd)(B:Bl mg)(J0:dS P w K mg base 1 "_law_grown" 3 xF):e_ P w K mg base (ji P w) 2 f fd Jo (kT K mg 3 AA):=
 dy (k:=1) F Eo rfl fun gq A outer s H E hr=>by have sc:=Eo;walk_at "w"
def JE:FS:=(aX (bO 2 (bg cQ (ah (e2 bJ (ag 0) (eI 1)) aB))) (aX (bO 3 (bg mw (ah (e2 bJ (ag 0) (eI 2)) aB))) (aX (bO 4 (e2 fM (e2 bJ (ag 1) (eI 0)) (bg cQ (ah (ag 3) aB)))) (aX (bO 5 (bg mw (ah (e2 bJ (ag 3) (ag 4)) aB))) (aX (bO 6 (bg mw (ah (e2 bJ (ag 5) (e2 fM (e2 bJ (ag 1) (eI 1)) (ag 2))) aB))) (aX (nJ (ag 6) (e2 fM (e2 bJ (ag 1) (eI 2)) (ag 2)) (e2 fM (e2 bJ (ag 1) (eI 3)) (ag 2)) p5) (aX (nJ (ag 5) (e2 fM (e2 bJ (ag 1) (eI 1)) (ag 2)) (bg cO (ah (ag 6) aB)) p5) (aX (nJ (ag 3) (ag 4) (bg cO (ah (ag 5) aB)) p5) (cR (fH (ah (e2 bJ (ag 0) (eI 0)) (ah (e2 bJ (ag 0) (eI 1)) (ah (bg cO (ah (ag 3) aB)) aB)))))))))))))
def AB:List W->List ai->R W:=eA 7 JE
theorem Mg(F:kS K "_law_spotted" "_law_spotted" Ep f fd)(B:Bl mg) :e_ P w K mg base (ji P w) 1 f fd Jp (kT K mg 2 AB):=
 dy (k:=0) F Er rfl fun gq A outer s H E hr=>by have sc:=Er;walk_at "w"
def JF:FS:=(aX (bO 3 (bg cQ (ah (ag 1) aB))) (aX (bO 4 (eI 0)) (aX (bO 5 (kX aB)) (aX (fg (cK (e2 bJ (ag 0) (eI 2))) (eZ 6) (aX (bO 7 (kX aB)) (aX (fg (br (ah (ag 3) aB)) (eZ 8) (aX (bO 9 (kX aB)) (aX (fg (br (ah (ag 3) aB)) (eZ 10) (aX (bO 11 (e2 bJ (e2 bJ (ag 6) (e2 bJ (ag 1) (ag 8))) (e2 bJ (ag 1) (ag 10)))) (aX (u7 (dX [none,some 11,some 1] (br (ah (ag 3) aB)) (eZ 0) (f6 (e2 nT (e2 bJ (ag 2) (ag 0)) (ag 1))) (ag 0)) (eZ 12)) (aX (eJ (qu cS (ag 9) (ah (e2 bJ (ag 12) (e2 fM (e2 bJ (ag 2) (e2 fM (ag 4) (bg cQ (ah (ag 2) aB)))) (bg cQ (ah (ag 12) aB)))) aB))) (bO 4 (e2 eS (ag 4) (eI 1))))))) (eJ (qu cS (ag 7) (ah (bg cO (ah (ag 9) aB)) aB)))))) (eJ (qu cS (ag 5) (ah (bg cO (ah (ag 7) aB)) aB)))))) (cR (fH (ah (e2 bJ (ag 0) (eI 0)) (ah (bg cO (ah (dX [none,some 0] (cK (ag 1)) (eZ 0) iI (e2 bJ (e2 bJ (ag 1) (eI 1)) (ag 0))) aB)) (ah (bg cO (ah (ag 5) aB)) aB)))))))))
def sk:List W->List ai->R W:=eA 13 JF
theorem Mh(F:kS K "_law_blown" "_law_blown" Es f fd)(B:Bl mg) :e_ P w K mg base (ji P w) 1 f fd Jq (kT K mg 3 sk):=
 dy (k:=0) F Et rfl fun gq A outer s H E hr=>by have sc:=Et;walk_at "w"
def JG:FS:=(aX (bO 3 (kX (ah (eI 0) aB))) (aX (fg (og (ah (eI 1) (ah (e2 eS (ag 0) (ag 1)) aB))) (eZ 4) (aX (bO 5 (ag 4)) (aX (i6 (f6 (e2 Lf (ag 4) (ag 0))) (bO 5 (e2 fM (e2 bJ (ag 2) (e2 eS (e2 ib (eI 2) (ag 4)) (eI 1))) (ag 0))) cP) (eJ (qu k_ (ag 3) (ah (e2 eS (eI 1) (e2 fM (e2 bJ (ag 2) (e2 ib (eI 2) (ag 4))) (bg cQ (ah (ag 3) aB)))) (ah (ag 5) aB))))))) (cR (ag 3))))
def su:List W->List ai->R W:=eA 6 JG
theorem Mi(F:kS K "_law_owner" "_law_owner" Eu f fd)(B:Bl mg) :e_ P w K mg base (ji P w) 1 f fd Jr (kT K mg 3 su):=
 dy (k:=0) F Ev rfl fun gq A outer s H E hr=>by have sc:=Ev;walk_at "w"
def JH:FS:=(aX (bO 4 (bg cO (ah (dX [none,some 3] (br (ah (ag 1) aB)) (eZ 0) iI (e2 nT (e2 fM (e2 bJ (ag 1) (ag 0)) (eI 2)) (eI 1))) aB))) (aX (bO 5 (kX aB)) (aX (bO 6 (ag 1)) (aX (fg (br (ah (e2 u5 (eI 1) (bg cQ (ah (ag 0) aB))) aB)) (eZ 7) (aX (bO 8 (kX aB)) (aX (fg (br (ah (ag 1) aB)) (eZ 9) (aX (eJ (qu cS (ag 8) (ah (bg cO (ah (dX [none,some 2,some 3,some 6] (br (ah (ag 1) aB)) (eZ 0) iI (e2 fM (e2 bJ (ag 2) (e2 eS (ag 3) (ag 0))) (ag 1))) aB)) aB))) (bO 6 (e2 eS (ag 6) (ag 1))))) (eJ (qu cS (ag 5) (ah (bg cO (ah (ag 8) aB)) aB)))))) (cR (fH (ah (ag 0) (ah (ag 4) (ah (bg cO (ah (ag 5) aB)) aB)))))))))
def AC:List W->List ai->R W:=eA 10 JH
theorem Mj(F:kS K "_law_machine" "_law_machine" Ew f fd)(B:Bl mg) :e_ P w K mg base (ji P w) 1 f fd Js (kT K mg 4 AC):=
 dy (k:=0) F Ex rfl fun gq A outer s H E hr=>by have sc:=Ex;walk_at "w"
def JI:FS:=(aX (bO 3 (de 3 lS (ah (de 2 nv (ah (ag 0) (ah (ag 1) aB))) (ah (eI 10) (ah (eI 1000003) aB))))) (aX (u7 (de 1 Ay (ah (e2 bJ (ag 3) (eI 0)) aB)) (Ny 2 (j7 (eZ 4) (j7 (eZ 5) wO)))) (aX (bO 6 (de 2 Az (ah (ag 2) (ah (ag 4) aB)))) (aX (bO 7 (de 4 sj (ah (ag 0) (ah (e2 eS (ag 1) (eI 1)) (ah (e2 eS (e2 eS (ag 5) (e2 ib (e2 ib (ag 5) (ag 5)) (e2 u5 (eI 1) (ag 4)))) (eI 40)) (ah (eI 3000017) aB)))))) (aX (i6 (f6 (e2 nT (e2 fM (e2 bJ (ag 3) (eI 3)) (eI 3)) (eI 0))) (aX (bO 8 (de 3 AA (ah (ag 6) (ah (ag 5) (ah (ag 7) aB))))) (aX (i6 (f6 (e2 nT (e2 fM (e2 bJ (ag 3) (eI 4)) (eI 3)) (eI 0))) (bO 8 (de 2 AB (ah (ag 8) (ah (F_ (ag 7) (kB (eI 4)) (kB (eI 8))) aB)))) cP) (cR (de 3 sk (ah (ag 8) (ah (de 3 su (ah (ag 5) (ah (eI 0) (ah (F_ (ag 7) (kB (eI 8)) (kB (eI 30))) aB)))) (ah (ag 7) aB))))))) cP) (aX (bO 9 (ag 5)) (aX (i6 (f6 (e2 nT (e2 fM (e2 bJ (ag 3) (eI 1)) (eI 3)) (eI 0))) (bO 9 (e2 eS (eI 1) (e2 fM (e2 bJ (ag 3) (eI 2)) (ag 5)))) cP) (cR (de 4 AC (ah (ag 6) (ah (ag 5) (ah (ag 9) (ah (ag 7) aB)))))))))))))
def AD:List W->List ai->R W:=eA 10 JI
theorem Mk(F:kS K "_law_any" "_law_any" Ey f fd) (AT:dS P w K mg base 3 "_law_blocks" 4 sj)(AV:dS P w K mg base 1 "_law_blown" 3 sk)(uO:dS P w K mg base 1 "_law_cell" 2 nv)(qj:dS P w K mg base 2 "_law_draws" 3 lS)(JS:dS P w K mg base 2 "_law_graded" 3 AA)(J3:dS P w K mg base 1 "_law_machine" 4 AC)(J4:dS P w K mg base 1 "_law_names" 2 Az)(AU:dS P w K mg base 1 "_law_owner" 3 su)(J6:dS P w K mg base 1 "_law_shape" 1 Ay)(JY:dS P w K mg base 1 "_law_spotted" 2 AB):e_ P w K mg base (ji P w) 4 f fd Jt (kT K mg 3 AD):=
 dy (k:=3) F Ez rfl fun gq A outer s H E hr=>by have sc:=Ez;walk_at "w"
def JJ:FS:=(aX (bO 3 (eC (.str [65,66,67,68,69,70,71,72,73,74,75,76,77,78,79,80,81,82,83,84,85,86,87,88,89,90,97,98,99,100,101,102,103,104,105,106,107,108,109,110,111,112,113,114,115,116,117,118,119,120,121,122]))) (aX (bO 4 (eC (.str []))) (aX (fg (cK (de 3 lS (ah (ag 0) (ah (ag 1) (ah (ag 2) aB))))) (eZ 5) (aX (bO 6 (e2 fM (ag 5) (bg cQ (ah (ag 3) aB)))) (aX (bO 4 (e2 eS (ag 4) (e2 bJ (ag 3) (ag 6)))) (bO 3 (e2 eS (F_ (ag 3) uc (kB (ag 6))) (F_ (ag 3) (kB (e2 eS (ag 6) (eI 1))) uc)))))) (cR (ag 4)))))
def AE:List W->List ai->R W:=eA 7 JJ
theorem Ml(F:kS K "_law_pool" "_law_pool" EA f fd)(B:Bl mg)(qj:dS P w K mg base 2 "_law_draws" 3 lS):e_ P w K mg base (ji P w) 3 f fd Ju (kT K mg 3 AE):=
 dy (k:=2) F EB rfl fun gq A outer s H E hr=>by have sc:=EB;walk_at "w"
def JK:FS:=(aX (bO 1 (kX (ah (eI 0) aB))) (aX (bO 2 (eI 0)) (aX (k6 (f6 (e2 G0 (ag 2) (bg cQ (ah (ag 1) aB)))) (aX (fg (cK (bg mw (ah (F_ (ag 1) uc (kB (e2 eS (ag 2) (eI 1)))) aB))) (eZ 3) (fg (cK (e2 bJ (ag 0) (eI 2))) (eZ 4) (fg (cK (fH (ah (e2 bJ (e2 bJ (ag 4) (e2 bJ (ag 1) (ag 2))) (ag 3)) (ah (e2 bJ (e2 bJ (ag 4) (ag 3)) (e2 bJ (ag 1) (ag 2))) aB)))) (eZ 5) (i6 (f6 (e2 (Bt true) (ag 5) (ag 1))) (eJ (qu cS (ag 1) (ah (ag 5) aB))) cP)))) (bO 2 (e2 eS (ag 2) (eI 1))))) (cR (ag 1)))))
def uC:List W->List ai->R W:=eA 6 JK
theorem Mm(F:kS K "_law_met" "_law_met" EC f fd)(B:Bl mg) :e_ P w K mg base (ji P w) 1 f fd Jv (kT K mg 1 uC):=
 dy (k:=0) F ED rfl fun gq A outer s H E hr=>by have sc:=ED;walk_at "w"
def xG(QP:List W->List ai->R W):FS:=(aX (i6 (f6 (iJ "tuple" (ag 1))) (aX (i6 (sW (qC (f6 (iJ "tuple" (ag 0)))) (f6 (e2 t_ (bg cQ (ah (ag 0) aB)) (bg cQ (ah (ag 1) aB))))) (cR (eC (.bl false))) cP) (aX (fg (br (ah (bg cQ (ah (ag 1) aB)) aB)) (eZ 2) (i6 (qC (f6 (de 2 QP (ah (e2 bJ (ag 0) (ag 2)) (ah (e2 bJ (ag 1) (ag 2)) aB))))) (cR (eC (.bl false))) cP)) (cR (eC (.bl true))))) cP) (aX (i6 (f6 (yD (ag 1))) (cR (yD (ag 0))) cP) (aX (i6 (f6 (iJ "bool" (ag 1))) (cR (wJ (iJ "bool" (ag 0)) (e2 nT (ag 0) (ag 1)))) cP) (aX (i6 (f6 (iJ "int" (ag 1))) (cR (wJ (iJ "int" (ag 0)) (wJ (GX (iJ "bool" (ag 0))) (e2 nT (ag 0) (ag 1))))) cP) (cR (wJ (iJ "str" (ag 0)) (e2 nT (ag 0) (ag 1))))))))
def gR:Nat->List W->List ai->R W
 |0=>fun _ _=>.bad
 |k+1=>eA 3 (xG (gR k))
theorem AF{F4:Addr}{MX:FuncData}(uQ:kS K "_law_same" "_law_same" EE F4 MX)(x6:mg "_law_same"=some (.ref F4))(B:Bl mg) :∀k:Nat,dS P w K mg base (0+k) "_law_same" 2 (gR k)
 |0=>Dn (ps:=EF) uQ x6 rfl (fun _ _ _ _ _ _ us hl=>match us,hl with|[_,_],_=>rfl)
 |k+1=>by
  have FX:=AF uQ x6 B  k
  exact qD (ps:=EF) uQ x6 rfl (fun _ _ _ _ _ _ us hl=>match us,hl with|[_,_],_=>rfl) (dy (k:=0+k) uQ EG rfl fun gq A outer s H E hr=>by have sc:=EG;walk_at "w")
def JL:FS:=(aX (i6 (sW (qC (f6 (iJ "tuple" (ag 0)))) (sW (f6 (e2 t_ (bg cQ (ah (ag 0) aB)) (eI 2))) (qC (f6 (iJ "tuple" (e2 bJ (ag 0) (eI 1))))))) (cR (eC (.bl false))) cP) (aX (i6 (qC (f6 (de 2 Ax (ah (e2 bJ (ag 0) (eI 0)) (ah (ag 1) aB))))) (cR (eC (.bl false))) cP) (aX (fg (cK (e2 bJ (ag 0) (eI 1))) (eZ 2) (aX (i6 (sW (qC (f6 (iJ "tuple" (ag 2)))) (f6 (e2 t_ (bg cQ (ah (ag 2) aB)) (eI 2)))) (cR (eC (.bl false))) cP) (fg (cK (ag 2)) (eZ 3) (i6 (sW (qC (f6 (iJ "int" (ag 3)))) (f6 (iJ "bool" (ag 3)))) (cR (eC (.bl false))) cP)))) (cR (eC (.bl true))))))
def uD:List W->List ai->R W:=eA 4 JL
theorem Mn(F:kS K "_law_pair" "_law_pair" EH f fd)(B:Bl mg)(J5:dS P w K mg base 1 "_law_fits" 2 Ax):e_ P w K mg base (ji P w) 2 f fd Jw (kT K mg 2 uD):=
 dy (k:=1) F EI rfl fun gq A outer s H E hr=>by have sc:=EI;walk_at "w"
def JM:FS:=(aX (bO 1 (de 3 AD (ah (ag 0) (ah (eI 1) (ah (de 3 AE (ah (de 2 nv (ah (ag 0) (ah (eI 0) aB))) (ah (eI 6) (ah (eI 2000003) aB)))) aB))))) (aX (bO 2 (bg cQ (ah (e2 bJ (ag 1) (eI 1)) aB))) (aX (bO 3 (de 3 lS (ah (de 2 nv (ah (ag 0) (ah (eI 10) aB))) (ah (eI 30) (ah (eI 4000037) aB))))) (aX (bO 4 (de 3 su (ah (ag 2) (ah (e2 fM (e2 bJ (ag 3) (eI 0)) (eI 4)) (ah (F_ (ag 3) (kB (eI 1)) (kB (eI 30))) aB))))) (aX (bO 5 (de 3 sk (ah (ag 1) (ah (ag 4) (ah (de 4 sj (ah (ag 0) (ah (eI 11) (ah (eI 100) (ah (eI 5000011) aB))))) aB))))) (aX (bO 6 (de 1 uC (ah (ag 1) aB))) (aX (bO 7 (e2 bJ (ag 6) (e2 fM (e2 bJ (de 3 lS (ah (de 2 nv (ah (ag 0) (ah (eI 14) aB))) (ah (eI 1) (ah (eI 6000011) aB)))) (eI 0)) (bg cQ (ah (ag 6) aB))))) (aX (bO 8 (fH (ah (e2 bJ (ag 1) (eI 0)) (ah (bg cO (ah (dX [none,some 7,some 1] (br (ah (ag 2) aB)) (eZ 0) iI (e2 t_ (e2 bJ (e2 bJ (ag 2) (eI 1)) (ag 0)) (e2 nT (ag 0) (ag 1)))) aB)) (ah (e2 bJ (ag 1) (eI 2)) aB))))) (aX (bO 9 (de 1 qh (ah (ag 1) aB))) (aX (bO 10 (de 1 qh (ah (ag 5) aB))) (aX (i6 (sW (qC (f6 (de 2 uD (ah (ag 9) (ah (e2 bJ (ag 1) (eI 0)) aB))))) (qC (f6 (de 2 uD (ah (ag 10) (ah (e2 bJ (ag 1) (eI 0)) aB)))))) (cR (eC (.bl false))) cP) (aX (bO 11 (e2 bJ (ag 9) (eI 0))) (aX (i6 (qC (f6 (de 2 (gR 40) (ah (e2 bJ (ag 10) (eI 0)) (ah (ag 11) aB))))) (cR (eC (.bl false))) cP) (aX (bO 12 oq) (aX (fg (cK (e2 bJ (ag 9) (eI 1))) (Ny 2 (j7 (eZ 13) (j7 (eZ 14) wO))) (nJ (ag 12) (ag 13) (ag 14) jo)) (aX (bO 15 (bg cO (ah (dX [none,some 12,some 4] (cK (bg lc (ah (de 1 uC (ah (ag 5) aB)) aB))) (eZ 0) iI (fH (ah (ag 0) (ah (rP (ag 1) (e2 bJ (ag 2) (ag 0)) (BA (eI 1))) aB)))) aB))) (aX (i6 (qC (f6 (de 2 (gR 40) (ah (e2 bJ (ag 10) (eI 1)) (ah (ag 15) aB))))) (cR (eC (.bl false))) cP) (aX (bO 16 (bg cO (ah (dX [none] (br (ah (bg cQ (ah (e2 bJ (ag 11) (eI 1)) aB)) aB)) (eZ 0) iI (fH (ah (ag 0) (ah (ag 0) aB)))) aB))) (aX (i6 (qC (f6 (de 2 (gR 40) (ah (de 1 qh (ah (ag 11) aB)) (ah (fH (ah (ag 11) (ah (ag 16) aB))) aB))))) (cR (eC (.bl false))) cP) (aX (bO 17 (de 1 qh (ah (ag 8) aB))) (cR (wJ (de 2 uD (ah (ag 17) (ah (e2 bJ (ag 1) (eI 0)) aB))) (e2 t_ (e2 bJ (ag 17) (eI 0)) (ag 11))))))))))))))))))))))))
def f_q29:List W->List ai->R W:=eA 18 JM
theorem Mo(F:kS K "law" "law" oH f fd)(B:Bl mg)(JV:dS P w K mg base 4 "_law_any" 3 AD)(AT:dS P w K mg base 3 "_law_blocks" 4 sj)(AV:dS P w K mg base 1 "_law_blown" 3 sk)(uO:dS P w K mg base 1 "_law_cell" 2 nv)(qj:dS P w K mg base 2 "_law_draws" 3 lS)(JU:dS P w K mg base 1 "_law_met" 1 uC)(AU:dS P w K mg base 1 "_law_owner" 3 su)(J2:dS P w K mg base 2 "_law_pair" 2 uD)(JZ:dS P w K mg base 3 "_law_pool" 3 AE)(FX:dS P w K mg base 40 "_law_same" 2 (gR 40))(JR:dS P w K mg base 4 "least_of" 1 qh):e_ P w K mg base (ji P w) 41 f fd EJ (kT K mg 1 f_q29):=
 dy (k:=40) F EK rfl fun gq A outer s H E hr=>by have sc:=EK;walk_at "w"
end
theorem Mp(ns:List α)(hl:0<ns.length)(k:Int):∃c∈ns,pW ns (k%((ns.length:Nat):Int))=some c:=by
 have h0:0<=k%((ns.length:Nat):Int):=gI _ (by omega)
 have h1:k%((ns.length:Nat):Int)<ns.length:=jI _ (by omega)
 obtain⟨m,hm⟩:=kP h0
 rw[hm]at h1 ⊢
 have h2:m<ns.length:=by omega
 exact⟨ns[m],gw _,d6 (by simp[h2])⟩
theorem oJ{st:List ai}(h:st[n]?=some (.ro (ns.map W.int)))(k:Int):∃c,nv [.loc n,.int k] st=.ok (.int c) st:=by
 by_cases hn:ns=[]
 ·subst hn
  refine⟨0,?_⟩
  apply mX;apply D0;apply rY
  ·(repeat' (first|with_reducible exact g8 (qI h)|walk_at "ev1"))
  ·(walk_at "evs")
 ·have hl:0<ns.length:=List.length_pos_iff.mpr hn
  obtain⟨c,hc,e⟩:=Mp (ns.map W.int) (by simpa using hl) k
  obtain⟨c,_,rfl⟩:=am.mp hc
  refine⟨c,?_⟩
  apply mX;apply IY
  ·apply rZ
   ·(repeat' (first|with_reducible exact g8 (qI h)|walk_at "ev1"))
    rw[a8,aj];omega
   ·(walk_at "evs")
  ·(repeat' (first|with_reducible exact g8 (qI h)|with_reducible exact lR (qI h) e|walk_at "ev1"))
   rw[aj];omega
theorem EO(c k s:Int)(hk:-(2^64)<k/\k<2^64)(st:List ai):∃r,0<=r/\xE [.int c,.int k,.int s] st=.ok (.int r) st:=by
 have big:∀q:Int,0<=q%2147483647/\q%2147483647<2147483647:=fun q=>⟨gI _ (by decide),jI _ (by decide)⟩
 refine⟨(((c+7*k*k+13*k+s)*69621%2147483647*((c+7*k*k+13*k+s)*69621%2147483647/1009+3)+31*k+s)%2147483629*48271)%1000000007,gI _ (by decide),?_⟩
 apply mX;apply IY
 ·(walk_at "evs")<;>first|exact .inl (by decide)|exact .inr (by decide)|exact .inr hk
 ·(walk_at "evs")<;>first|exact .inl (by decide)|exact .inr (by decide)|exact .inl (by have:=big ((c+7*k*k+13*k+s)*69621);omega)
theorem mF(c s:Int)(m:Nat)(hm:m<=1000)(st:List ai):∃ds:List Int,ds.length=m/\(∀d∈ds,0<=d)/\lS [.int c,.int m,.int s] st=.ok (.loc st.length) (st++[.lst (ds.map W.int)]):=by
 suffices hh:gD (qJ fun w bv=>∃j x,w=.loc (st.length+j)/\bv=st++x/\j=0/\∃ds:List Int,x=[.lst (ds.map W.int)]/\ds.length=m/\∀d∈ds,0<=d) (Jz ([W.int c,.int m,.int s].map some++List.replicate (6-3) none) st) by
  obtain⟨j,x,⟨rfl,ds,rfl,h1,h2⟩,e⟩:=iw hh
  exact⟨ds,h1,h2,e⟩
 apply aG
 ·(walk_at "evs")
 apply aG
 ·(walk_at "evs")
 have main:∀r0:Int,gD (qJ fun w bv=>∃j x,w=.loc (st.length+j)/\bv=st++x/\j=0/\∃ds:List Int,x=[.lst (ds.map W.int)]/\ds.length=m/\∀d∈ds,0<=d)
   (aX (fg (br (ah (ag 1) aB)) (eZ 5) (i6 (f6 (e2 OW (ag 4) (eI 0))) (aX (eJ (qu cS (ag 3) (ah (e2 fM (ag 4) (eI 64)) aB))) (bO 4 (e2 wK (ag 4) (eI 64)))) (eJ (qu cS (ag 3) (ah (de 3 xE (ah (ag 0) (ah (ag 5) (ah (ag 2) aB)))) aB))))) (cR (ag 3))
   [iO c,iO m,iO s,lO st.length,iO r0,none] (st++[.lst []])):=by
  intro r0
  refine cU (fun i ρ bv=>∃(r:Int) (o:Option W) (ds:List Int),ρ=[iO c,iO m,iO s,lO st.length,iO r,o]/\bv=st++[.lst (ds.map W.int)]/\ds.length=i/\∀d∈ds,0<=d) (dD (by(walk_at "evs");rfl) (by omega))
   ⟨r0,none,[],rfl,rfl,rfl,by simp⟩ (fun _ _ _ _=>trivial) ?_ ?_
  ·rintro i w ρ bv hw ⟨r,o,ds,rfl,rfl,hd,h⟩
   obtain⟨hi,rfl⟩:=fU hw
   refine⟨_,rfl,?_⟩
   have fR:(st++[ai.lst (ds.map W.int)])[st.length]?=some (.lst (ds.map W.int)):=by rw[cB];rfl
   have hsh:(ds.map W.int).length<jh:=by rw[aj,hd];show i<1000000;omega
   by_cases hr:0<r
   ·apply oG
    ·(walk_at "evs");simpa using hr
    apply aG
    ·(repeat' (first|with_reducible exact eU fR|with_reducible exact ux fR hsh|walk_at "ev1"))
    rw[eN]
    apply dF
    ·(walk_at "evs")
    ·refine⟨_,_,rfl,r/64,_,ds++[r%64],rfl,by simp,by simp[hd],fun d hd'=>?_⟩
     rcases aH.mp hd' with hd'|hd'
     ·exact h d hd'
     ·rw[bd.mp hd'];exact gI _ (by decide)
   ·obtain⟨q,hq,e⟩:=EO c (0+i) s (by omega) (st++[ai.lst (ds.map W.int)])
    apply kH
    ·(walk_at "evs");simpa using hr
    apply dF
    ·(repeat' (first|with_reducible exact eU fR|with_reducible exact ux fR hsh|with_reducible exact e|walk_at "ev1"))
    ·refine⟨_,_,rfl,r,_,ds++[q],rfl,by rw[eN];simp,by simp[hd],fun d hd'=>?_⟩
     rcases aH.mp hd' with hd'|hd'
     ·exact h d hd'
     ·rw[bd.mp hd'];exact hq
  ·rintro ρ bv ⟨r,o,ds,rfl,rfl,hd,h⟩
   apply dC
   ·(walk_at "evs")
   ·exact⟨_,_,rfl,0,_,rfl,rfl,rfl,ds,rfl,by rw[hd];simpa using bG 0 m,h⟩
 by_cases hc:(10:Int)^18<=c
 ·apply aG
  ·apply rY
   ·(walk_at "evs")<;>simpa using hc
   ·(walk_at "evs")
  ·exact main c
 ·apply aG
  ·apply rZ
   ·(walk_at "evs")<;>simpa using hc
   ·(walk_at "evs")
  ·exact main 0
abbrev LL:List Nat:=[65,66,67,68,69,70,71,72,73,74,75,76,77,78,79,80,81,82,83,84,85,86,87,88,89,90,97,98,99,100,101,102,103,104,105,106,107,108,109,110,111,112,113,114,115,116,117,118,119,120,121,122]
theorem HG(c s:Int)(m:Nat)(hm:m<=52)(st:List ai):∃l:List Nat,l.length=m/\l.Nodup/\(∀d∈l,d∈LL)/\AE [.int c,.int m,.int s] st=.ok (.str l) st:=by
 suffices hh:gD (qJ fun w bv=>(∃x,bv=st++x)/\undWs st.length [w]=true/\∃l:List Nat,w=.str l/\l.length=m/\l.Nodup/\∀d∈l,d∈LL) (JJ ([W.int c,.int m,.int s].map some++List.replicate (7-3) none) st) by
  obtain⟨w,⟨l,rfl,h1,h2,h3⟩,e⟩:=lp hh
  exact⟨l,h1,h2,h3,e⟩
 obtain⟨ds,h1,h2,e⟩:=mF c s m (by omega) st
 apply aG
 ·(walk_at "evs")
 apply aG
 ·(walk_at "evs")
 have fR:lstOf (st++[ai.lst (ds.map W.int)]) st.length=some (ds.map W.int):=aR (by rw[cB];rfl)
 refine cU (fun i ρ bv=>∃(r f:List Nat) (o o2:Option W),ρ=[iO c,iO m,iO s,some (.str r),some (.str f),o,o2]/\bv=st++[.lst (ds.map W.int)]/\f.length=i/\r.length+i=52/\(f++r).Perm LL) (gs (by(repeat' (first|with_reducible exact e|walk_at "ev1"))) fR)
  ⟨LL,[],none,none,rfl,rfl,rfl,rfl,.refl _⟩ (fun i ρ bv h=>?_) ?_ ?_
 ·obtain⟨r,f,o,o2,rfl,rfl,_⟩:=h
  exact fR
 ·rintro i w ρ bv hw ⟨r,f,o,o2,rfl,rfl,hf,hr,hfl⟩
  obtain⟨d,hd,rfl⟩:∃d,ds[i]?=some d/\w=.int d:=by
   simp only[al,aY]at hw
   obtain⟨d,h1,rfl⟩:=hw
   exact⟨d,h1,rfl⟩
  have hi:i<m:=by rw[<- h1];exact(aa.mp hd).1
  obtain⟨q,hq,eq⟩:=fN (q:=d) (n:=r.length) (by omega)
  have hL:r.length<=jh:=by show _<=1000000;omega
  have hLf:f.length<=jh:=by show _<=1000000;omega
  have hat:pW r (d%(r.length:Int))=some r[q]:=by rw[eq];exact d6 (by simp[hq])
  refine⟨_,rfl,?_⟩
  apply aG
  ·(repeat' (first|with_reducible exact vz hL|walk_at "ev1"))
   show 0<(r.length:Int);omega
  apply aG
  ·have ha:f.length+[r[q]].length<=jh:=by show _+1<=1000000;omega
   (repeat' (first|with_reducible exact IZ hL hat|with_reducible exact D1 ha|walk_at "ev1"))
  apply dF
  ·(repeat' (first|with_reducible exact Pq hL|walk_at "ev1"))
   rw[eq,qK (by omega),show((q:Int)+1)=((q+1:Nat):Int)from rfl,vA (by omega),a9,d9]
   show _<=1000000;omega
  ·refine⟨_,_,rfl,_,_,_,_,rfl,rfl,by simp[hf],?_,?_⟩
   ·rw[eq,qK (by omega),show((q:Int)+1)=((q+1:Nat):Int)from rfl,vA (by omega),aI,a9,d9]
    omega
   ·rw[eq,qK (by omega),show((q:Int)+1)=((q+1:Nat):Int)from rfl,vA (by omega)]
    refine List.Perm.trans ?_ hfl
    rw[aO]
    refine List.Perm.append_left f ?_
    have e:r=r.take q++r[q]::r.drop (q+1):=by rw[<- eL hq,md]
    have e2:(r[q]::(r.take q++r.drop (q+1))).Perm r:=(List.perm_middle.symm).trans (by rw[<- e])
    exact e2
 ·rintro ρ bv ⟨r,f,o,o2,rfl,rfl,hf,hr,hfl⟩
  apply dC
  ·(walk_at "evs")
  ·exact⟨_,_,rfl,⟨_,rfl⟩,rfl,f,rfl,by rw[hf];simpa using h1,(cN.mp (hfl.nodup_iff.mpr (by decide))).1,fun d hd=>hfl.mem_iff.mp (cF _ hd)⟩
theorem gH{st s:List ai}{p:Nat}{c:ai}(h:st <+: s)(hp:st.length<=p):st <+: s.set p c:=by
 obtain⟨x,rfl⟩:=h
 rw[show p=st.length+(p-st.length) by omega,jq]
 exact ar _ _
theorem jQ{st s y:List ai}(h:st <+: s):st <+: s++y:=h.trans (ar _ _)
theorem pre_get{st s:List ai}{c:ai}(h:st <+: s)(e:st[i]?=some c):s[i]?=some c:=by
 obtain⟨x,rfl⟩:=h
 exact ay e
theorem iK{s:List ai}{p:Nat}{c d:ai}(h:s[p]?=some d):(s.set p c)[p]?=some c:=by
 rw[bi (aa.mp h).1]
theorem zg{s:List ai}{p q:Nat}{c:ai}(h:p≠q):(s.set p c)[q]?=s[q]?:=bH h
theorem Mq{s:List ai}{p:Nat}{c:ai}(h:s[p]?=some c):p<s.length:=(aa.mp h).1
theorem bn{s:List ai}{c:ai}:(s++[c])[s.length]?=some c:=by rw[cB];rfl
def iL(l:List Int):List W:=l.map W.int
theorem eV{s:List ai}{p i:Nat}{ds:List Int}{d:Int}(h:s[p]?=some (.lst (iL ds)))(e:ds[i]?=some d):bJ (.loc p) (.int i) s=.ok (.int d) s:=lR (aR h) (d6 (by rw[iL,al,e];rfl))
theorem EQ(d:Int)(st:List ai):∃c n:Nat,c<=5/\1<=n/\n<=9/\n*n*2^c<=200/\Ay [.int d] st=.ok (.tup [.int c,.int n]) st:=by
 suffices hh:gD (qJ fun w bv=>(∃x,bv=st++x)/\undWs st.length [w]=true/\∃c n:Nat,w=.tup [.int c,.int n]/\c<=5/\1<=n/\n<=9/\n*n*2^c<=200) (JA ([W.int d].map some++List.replicate (2-1) none) st) by
  obtain⟨w,⟨c,n,rfl,h1,h2,h3,h4⟩,e⟩:=lp hh
  exact⟨c,n,h1,h2,h3,h4,e⟩
 apply aG
 ·(walk_at "evs")
 have hd:d%12=0\/d%12=1\/d%12=2\/d%12=3\/d%12=4\/d%12=5\/d%12=6\/d%12=7\/d%12=8\/d%12=9\/d%12=10\/d%12=11:=by
  obtain⟨m,hm,em⟩:=fN (q:=d) (n:=12) (by decide)
  rw[show d%12=_ from em]
  clear em
  revert m
  decide
 have hm:e2 fM (ag 0) (eI 12) (([W.int d].map some++List.replicate (2-1) none).set 1 (some (.tup [.tup [.int 0,.int 1],.tup [.int 0,.int 5],.tup [.int 0,.int 9],.tup [.int 1,.int 2],.tup [.int 1,.int 4],.tup [.int 1,.int 6],.tup [.int 2,.int 1],.tup [.int 2,.int 3],.tup [.int 2,.int 5],.tup [.int 3,.int 2],.tup [.int 3,.int 4],.tup [.int 5,.int 2]]))) st=.ok (.int (d%12)) st:=bS kv dN (lh (by decide))
 have fin:∀(c n:Nat),c<=5->1<=n->n<=9->n*n*2^c<=200->pW [W.tup [.int 0,.int 1],.tup [.int 0,.int 5],.tup [.int 0,.int 9],.tup [.int 1,.int 2],.tup [.int 1,.int 4],.tup [.int 1,.int 6],.tup [.int 2,.int 1],.tup [.int 2,.int 3],.tup [.int 2,.int 5],.tup [.int 3,.int 2],.tup [.int 3,.int 4],.tup [.int 5,.int 2]] (d%12)=some (.tup [.int c,.int n]) ->
   gD (qJ fun w bv=>(∃x,bv=st++x)/\undWs st.length [w]=true/\∃c n:Nat,w=.tup [.int c,.int n]/\c<=5/\1<=n/\n<=9/\n*n*2^c<=200) (cR (e2 bJ (ag 1) (e2 fM (ag 0) (eI 12))) (([W.int d].map some++List.replicate (2-1) none).set 1 (some (.tup [.tup [.int 0,.int 1],.tup [.int 0,.int 5],.tup [.int 0,.int 9],.tup [.int 1,.int 2],.tup [.int 1,.int 4],.tup [.int 1,.int 6],.tup [.int 2,.int 1],.tup [.int 2,.int 3],.tup [.int 2,.int 5],.tup [.int 3,.int 2],.tup [.int 3,.int 4],.tup [.int 5,.int 2]]))) st):=fun c n h1 h2 h3 h4 e=>by
  apply dC
  ·exact bS kv hm (jt e)
  ·exact⟨_,_,rfl,⟨[],by simp⟩,rfl,c,n,rfl,h1,h2,h3,h4⟩
 rcases hd with h|h|h|h|h|h|h|h|h|h|h|h
 ·exact fin 0 1 (by decide) (by decide) (by decide) (by decide) (by rw[h];rfl)
 ·exact fin 0 5 (by decide) (by decide) (by decide) (by decide) (by rw[h];rfl)
 ·exact fin 0 9 (by decide) (by decide) (by decide) (by decide) (by rw[h];rfl)
 ·exact fin 1 2 (by decide) (by decide) (by decide) (by decide) (by rw[h];rfl)
 ·exact fin 1 4 (by decide) (by decide) (by decide) (by decide) (by rw[h];rfl)
 ·exact fin 1 6 (by decide) (by decide) (by decide) (by decide) (by rw[h];rfl)
 ·exact fin 2 1 (by decide) (by decide) (by decide) (by decide) (by rw[h];rfl)
 ·exact fin 2 3 (by decide) (by decide) (by decide) (by decide) (by rw[h];rfl)
 ·exact fin 2 5 (by decide) (by decide) (by decide) (by decide) (by rw[h];rfl)
 ·exact fin 3 2 (by decide) (by decide) (by decide) (by decide) (by rw[h];rfl)
 ·exact fin 3 4 (by decide) (by decide) (by decide) (by decide) (by rw[h];rfl)
 ·exact fin 5 2 (by decide) (by decide) (by decide) (by decide) (by rw[h];rfl)
theorem ER{st:List ai}(h:lstOf st n=some (ls.map W.str))(hl:ls.length<64):pE [.loc n] st=.ok (.loc st.length) (st++[.lst ((kC ls).map W.str)]):=by
 show mT [.loc n] st=_
 unfold mT
 simp only[h,cA,ug]
 rw[aw hl]
theorem xH{a b:List (List Nat)}(h:a.Perm b):(a.map List.length).sum=(b.map List.length).sum:=by
 induction h with
 |nil=>rfl
 |cons x _ ih=>simp only[aC,nB,ih]
 |swap x y l=>simp only[aC,nB];omega
 |trans _ _ ih1 ih2=>rw[ih1,ih2]
theorem xI(l:List Nat):(((l.map fun c=>[c])).map List.length).sum=l.length:=by
 induction l with
 |nil=>rfl
 |cons a r ih=>simp only[aC,nB,bu,ih,dw];omega
def BX(l:List Nat):List Nat:=no [] (kC (l.map fun c=>[c]))
theorem HH(l:List Nat):(BX l).length=l.length:=by
 unfold BX;rw[t8,List.length_flatten,xH (jk _),xI]
theorem HI{st s1:List ai}(h:fe ρ st=.ok (.loc n) s1)(hc:lstOf s1 n=some ((l.map fun c=>[c]).map W.str))(hl:l.length<64) :
  O8 rD (eC (.str [])) (ah (bg pE (ah fe aB)) aB) ρ st=.ok (.str (BX l)) (s1++[.lst ((kC (l.map fun c=>[c])).map W.str)]):=by
 have hs:=ER hc (by simpa using hl)
 have hcell2:lstOf (s1++[ai.lst ((kC (l.map fun c=>[c])).map W.str)]) s1.length=some ((kC (l.map fun c=>[c])).map W.str):=aR bn
 have hj:=LM (sep:=[]) hcell2 (by rw[xH (jk _),xI];show _<=1000000;simp;omega)
 exact Pm dN rfl (ax (bh (ax h bB) hs) bB) hj
theorem ES(gb:List Nat)(c:Nat)(hp:gb.length<=50)(hc:c<=gb.length)(st:List ai):Az [.str gb,.int c] st=.ok (.str (BX (gb.take c))) st:=by
 have hL:gb.length<=jh:=by show _<=1000000;omega
 have hcm:dX [none,some 0] (br (ah (ag 1) aB)) (eZ 0) iI (e2 bJ (ag 1) (ag 0)) [some (.str gb),iO c] st=.ok (.loc st.length) (st++[.lst (((gb.take c).map fun c=>[c]).map W.str)]):=by
  have:=f7 (fi:=br (ah (ag 1) aB)) (f:=eZ 0) (el:=e2 bJ (ag 1) (ag 0)) (cap:=[none,some 0]) (ρ:=[some (.str gb),iO c]) (st:=st) (st1:=st) (ws:=bA 0 c) (ck:=none) (fun w=>match w with|.int i=>.str [gb.getD i.toNat 0]|_=>.non)
   (by
    have:=dD (fs:=ah (ag 1) aB) (ρ:=[some (.str gb),iO c]) (st:=st) (st1:=st) (q:=(c:Int)) kn (by omega)
    rw[aK]at this
    exact this) (by rw[bG];show _<=1000000;omega) trivial ?_
  ·have e:(bA 0 c).map (fun w=>match w with|.int i=>W.str [gb.getD i.toNat 0]|_=>.non)=((gb.take c).map fun c=>[c]).map W.str:=by
    refine List.ext_getElem (by simp[bG];omega) fun i h1 h2=>?_
    have hi:i<c:=by simpa[bG]using h1
    rw[c8,c8,c8,List.getElem_take]
    unfold bA
    rw[c8,List.getElem_range]
    show W.str [gb.getD ((0:Int)+(i:Int)).toNat 0]=_
    rw[show((0:Int)+(i:Int)).toNat=i by omega,az,ac (by omega)];rfl
   rw[this,e]
  ·intro w hw
   obtain⟨i,hi,rfl⟩:=pK hw
   refine⟨[iO (0+(i:Int)),some (.str gb)],rfl,bS kv kv ?_⟩
   rw[show((0:Int)+(i:Int))=(i:Int) by omega]
   have e2:pW gb (i:Int)=some (gb.getD i 0):=d6 (by rw[az,ac (by omega)];rfl)
   rw[IZ hL e2]
   simp
 have dH:(gb.take c).length=c:=by rw[a9];omega
 have hj:=HI hcm (aR bn) (by omega)
 refine j_ (N:=2) (ws:=[.str gb,.int c]) (body:=JB) ?_ rfl
 apply dC
 ·exact hj
 ·exact⟨_,_,rfl,rfl,_,by rw[aO]⟩
theorem Mr{fs:FA}{st st1:List ai}{i j k:Int}(h:fs ρ st=.ok [.int i,.int j,.int k] st1)(hq:-(2^60)<=i/\i<2^60/\-(2^60)<=j/\j<2^60/\0<k/\k<=1000):vg fs ρ st=.ok (p9 i k (nr i j k),none) st1:=by
 unfold vg;rw[h];simp only[R.bind_ok];rw[aw hq]
theorem ET{i k:Int}{w:W}(h:(p9 i k n)[m]?=some w):m<n/\w=.int (i+m*k):=by
 unfold p9 at h
 obtain⟨h1,h2⟩:=aa.mp h
 simp only[aj,dm]at h1
 exact⟨h1,by rw[<- h2];simp⟩
theorem BY(i k:Int)(n:Nat):(p9 i k n).length=n:=by simp[p9]
theorem xJ{st s y:List ai}(h:st <+: s):(s++y).drop st.length=s.drop st.length++y:=by
 obtain⟨x,rfl⟩:=h
 simp
theorem sv{n0:Nat}{st:List ai}(h0:st[n0]?=some (.ro (ns.map W.int)))(a:Int)(kg:Nat)(zz:Int)(hm:kg<=1000) :
  ∃(j:Nat) (x:List ai) (ds:List Int),ds.length=kg/\(∀d∈ds,0<=d)/\x[j]?=some (.lst (iL ds))/\(∀d∈x,∃l,d=ai.lst l)/\sj [.loc n0,.int a,.int kg,.int zz] st=.ok (.loc (st.length+j)) (st++x):=by
 suffices hh:gD (qJ fun w bv=>∃j x,w=.loc (st.length+j)/\bv=st++x/\∃ds:List Int,ds.length=kg/\(∀d∈ds,0<=d)/\x[j]?=some (.lst (iL ds))/\∀d∈x,∃l,d=ai.lst l) (JC ([W.loc n0,.int a,.int kg,.int zz].map some++List.replicate (6-4) none) st) by
  obtain⟨j,x,⟨ds,h1,h2,h3,h4⟩,e⟩:=iw hh
  exact⟨j,x,ds,h1,h2,h3,h4,e⟩
 apply aG
 ·(walk_at "evs")
 refine cU (fun i ρ s=>∃(p:Nat) (ds:List Int) (o5:Option W),ρ=[lO n0,iO a,iO kg,iO zz,lO p,o5]/\st <+: s/\st.length<=p/\s[p]?=some (.lst (iL ds))/\ds.length=min kg (50*i)/\(∀d∈ds,0<=d)/\∀d∈s.drop st.length,∃l,d=ai.lst l) (Mr (i:=0) (j:=kg) (k:=50) (st1:=st++[ai.lst []]) (by(walk_at "evs")) (by omega))
  ⟨st.length,[],none,rfl,ar _ _,av _,bn,by simp,by simp,fun d hd=>by simp at hd;exact⟨_,hd⟩⟩ (fun _ _ _ _=>trivial) ?_ ?_
 ·rintro i w ρ s hw ⟨p,ds,o5,rfl,hp,oU,hc,hl,Cm,hll⟩
  obtain⟨hi,rfl⟩:=ET hw
  refine⟨_,rfl,?_⟩
  have jS:(50:Int)*i<kg:=by
   unfold nr at hi
   split at hi
   ·omega
   ·omega
  obtain⟨c,ec⟩:=oJ (pre_get hp h0) (a+(0+(i:Int)*50)/50)
  obtain⟨mm,hmm,emm⟩:∃mm:Nat,mm=min 50 (kg-50*i)/\yF [.int 50,.int ((kg:Int)-(0+(i:Int)*50))] s=.ok (.int mm) s:=by
   refine⟨min 50 (kg-50*i),rfl,?_⟩
   show R.ok (W.int (if (kg:Int)-(0+(i:Int)*50)<50 then(kg:Int)-(0+(i:Int)*50)else 50)) s=_
   congr 2
   split<;>omega
  obtain⟨es,hes,hep,ee⟩:=mF c (zz+1009*(0+(i:Int)*50)) mm (by omega) s
  have ad:=D2 (st:=s++[ai.lst (es.map W.int)]) (pre_get (ar _ _) hc) bn (by simp[iL];show _<=1000000;omega)
  have cm:yE 1009 (0+(i:Int)*50):=.inl (by decide)
  apply dF
  ·(walk_at "evs")
   all_goals first|exact cm|exact(by decide)
  ·refine⟨_,_,rfl,_,ds++es,_,rfl,jQ (jQ hp),?_,?_,?_,?_,fun d hd=>?_⟩
   ·have:=Mq hc;simp;omega
   ·rw[bn];simp[iL]
   ·rw[aI];omega
   ·intro d hd
    rcases aH.mp hd with z|z
    ·exact Cm d z
    ·exact hep d z
   ·rw[xJ (jQ hp),xJ hp]at hd
    rcases aH.mp hd with z|z
    ·rcases aH.mp z with z|z
     ·exact hll d z
     ·exact⟨_,bd.mp z⟩
    ·exact⟨_,bd.mp z⟩
 ·rintro ρ s ⟨p,ds,o5,rfl,⟨x,rfl⟩,oU,hc,hl,Cm,hll⟩
  rw[BY]at hl
  have hmn:kg<=50*nr 0 kg 50:=by
   unfold nr
   split
   ·omega
   ·omega
  apply dC
  ·(walk_at "evs")
  ·refine⟨_,_,rfl,p-st.length,x,by rw[show st.length+(p-st.length)=p by omega],rfl,ds,by omega,Cm,?_,fun d hd=>hll d (by rw[List.drop_left];exact hd)⟩
   rw[bP oU]at hc
   exact hc
theorem EU(g l r:Nat)(st:List ai):∃k:Nat,xF [.int g,.int l,.int r] st=.ok (.int k) st:=by
 by_cases h0:g=0
 ·subst h0
  refine⟨l+r,?_⟩
  apply kI
  apply gu
  ·(walk_at "evs")
  apply fJ
  ·(walk_at "evs")
  ·exact⟨_,_,rfl,rfl,rfl⟩
 ·have t0:((g:Int)==0)=false:=by rw[a8];omega
  by_cases h1:g=1
  ·subst h1
   refine⟨if r>l then r else l,?_⟩
   have mx:Df [.int l,.int r] st=.ok (.int ((if r>l then r else l:Nat):Int)) st:=by
    show R.ok (W.int (if (r:Int)>(l:Int)then(r:Int)else(l:Int))) st=_
    congr 2
    split<;>split<;>omega
   apply kI
   apply bN
   ·(walk_at "evs")
   apply bV
   apply gu
   ·(walk_at "evs")
   apply fJ
   ·(walk_at "evs")
   ·exact⟨_,_,rfl,rfl,rfl⟩
  ·have t1:((g:Int)==1)=false:=by rw[a8];omega
   by_cases h2:g=2
   ·subst h2
    refine⟨l,?_⟩
    apply kI
    apply bN
    ·(walk_at "evs")
    apply bV
    apply bN
    ·(walk_at "evs")
    apply bV
    apply gu
    ·(walk_at "evs")
    apply fJ
    ·(walk_at "evs")
    ·exact⟨_,_,rfl,rfl,rfl⟩
   ·have t2:((g:Int)==2)=false:=by rw[a8];omega
    refine⟨r,?_⟩
    apply kI
    apply bN
    ·(walk_at "evs")
    apply bV
    apply bN
    ·(walk_at "evs")
    apply bV
    apply bN
    ·(walk_at "evs")
    apply bV
    apply dC
    ·(walk_at "evs")
    ·exact⟨_,_,rfl,rfl,rfl⟩
theorem BZ{n0:Nat}{st:List ai}(h0:st[n0]?=some (.ro (ns.map W.int)))(a:Int)(kg:Nat)(zz:Int)(hm:kg<=1000) :
  ∃(j:Nat) (x:List ai) (ds:List Int),ds.length=kg/\(∀d∈ds,0<=d)/\x[j]?=some (.lst (iL ds))/\sj [.loc n0,.int a,.int kg,.int zz] st=.ok (.loc (st.length+j)) (st++x):=by
 obtain⟨j,x,ds,h1,h2,h3,_,e⟩:=sv h0 a kg zz hm
 exact⟨j,x,ds,h1,h2,h3,e⟩
section
variable{st:List ai}{fs:FA}
theorem HJ(V:β->W)(Pb:Nat->β->Prop)(hr:fs ρ st=.ok [.int n] st)(hn:n<=100000)(h:∀i:Nat,i<n->∃b,Pb i b/\el ((pB cap ρ).set 0 (iO i)) st=.ok (V b) st) :
  ∃r:List β,r.length=n/\(∀i b,r[i]?=some b->Pb i b)/\dX cap (br fs) (eZ 0) iI el ρ st=.ok (.loc st.length) (st++[.lst (r.map V)]):=by
 let f:Fin n->β:=fun i=>Classical.choose (h i i.2)
 have hf:∀i:Fin n,Pb i (f i)/\el ((pB cap ρ).set 0 (iO (i:Nat))) st=.ok (V (f i)) st:=fun i=>Classical.choose_spec (h i i.2)
 let Y:W->W:=fun w=>match w with
  |.int z=>if hz:z.toNat<n then V (f ⟨z.toNat,hz⟩)else .non
  |_=>.non
 have ir:br fs ρ st=.ok (bA 0 n,none) st:=by
  have:=dD hr (by omega)
  rw[aK]at this
  exact this
 have hc:=f7 (fi:=br fs) (f:=eZ 0) (el:=el) (cap:=cap) (ρ:=ρ) Y ir (by rw[bG];show _<=1000000;omega) trivial fun w hw=>by
  obtain⟨i,hi,rfl⟩:=pK hw
  refine⟨_,rfl,?_⟩
  rw[show((0:Int)+(i:Int))=(i:Int) by omega]
  show _=R.ok (if hz:(i:Int).toNat<n then V (f ⟨(i:Int).toNat,hz⟩)else .non) st
  rw[lH (show(i:Int).toNat<n by omega)]
  exact(hf ⟨i,hi⟩).2
 refine⟨List.ofFn f,by simp,fun i b hb=>?_,?_⟩
 ·obtain⟨h1,h2⟩:=aa.mp hb
  rw[List.getElem_ofFn]at h2
  rw[<- h2]
  exact(hf ⟨i,by simpa using h1⟩).1
 ·rw[hc]
  have e:(bA 0 n).map Y=(List.ofFn f).map V:=by
   refine List.ext_getElem (by simp[bG]) fun i h1 h2=>?_
   have hi:i<n:=by simpa[bG]using h1
   rw[c8,c8,List.getElem_ofFn]
   unfold bA
   rw[c8,List.getElem_range,show((0:Int)+(i:Int))=(i:Int) by omega]
   show(if hz:(i:Int).toNat<n then V (f ⟨(i:Int).toNat,hz⟩)else .non)=_
   rw[lH (show(i:Int).toNat<n by omega)]
  rw[e]
theorem vK(V:β->W)(Pb:Nat->β->Prop)(hr:fs ρ st=.ok [.int n] st)(hn:n<=100000)(h:∀i:Nat,i<n->∃b,Pb i b/\el ((pB cap ρ).set 0 (iO i)) st=.ok (V b) st) :
  ∃r:List β,r.length=n/\(∀i b,r[i]?=some b->Pb i b)/\bg cO (ah (dX cap (br fs) (eZ 0) iI el) aB) ρ st=.ok (.tup (r.map V)) (st++[.lst (r.map V)]):=by
 obtain⟨r,h1,h2,e⟩:=HJ (cap:=cap) (el:=el) V Pb hr hn h
 exact⟨r,h1,h2,bh (ax e bB) (eK (aR bn))⟩
end
structure Mc where
 nm:List Nat
 gd:List Bool
 tb:List (List (List Nat))
def gE(r:List Nat):W:=.tup (r.map fun k=>W.int (k:Nat))
def dE(t:List (List Nat)):W:=.tup (t.map gE)
def Mc.w(M:Mc):W:=.tup [.str M.nm,.tup (M.gd.map W.bl),.tup (M.tb.map dE)]
def Rc(n:Nat)(t:List (List Nat)):Prop:=t.length=n/\∀r∈t,r.length=n/\∀k∈r,k<n
structure nQ(M:Mc)(n:Nat):Prop where
 gd:M.gd.length=n
 tb:M.tb.length=2^M.nm.length
 t:∀t∈M.tb,Rc n t
theorem HK(r:List Nat)(n:Nat):(gE r).und n=true:=by
 unfold gE W.und
 induction r with
 |nil=>rfl
 |cons x r ih=>simp only[aC,undWs,ih,cw];rfl
theorem HL(t:List (List Nat))(n:Nat):(dE t).und n=true:=by
 unfold dE W.und
 induction t with
 |nil=>rfl
 |cons x r ih=>simp only[aC,undWs,ih,cw];exact HK x n
theorem EV(t:List (List (List Nat)))(n:Nat):undWs n (t.map dE)=true:=by
 induction t with
 |nil=>rfl
 |cons x r ih=>simp only[aC,undWs,ih,cw];exact HL x n
theorem HM(t:List Bool)(n:Nat):undWs n (t.map W.bl)=true:=by
 induction t with
 |nil=>rfl
 |cons x r ih=>simp only[aC,undWs,ih,cw];rfl
theorem nR(M:Mc)(n:Nat):M.w.und n=true:=by
 unfold Mc.w
 simp[W.und,undWs,EV,HM]
theorem wH{c:Nat}{st:List ai}(h:c<=100):u5 (.int 1) (.int c) st=.ok (.int ((2^c:Nat):Int)) st:=by
 have:=lh (C:=fun i j=>0<=j/\j<=1000000/\i.natAbs<2^64) (f:=fun i j=>i*2^j.toNat) (p:=1) (q:=(c:Int)) (st:=st) ⟨by omega,by omega,by decide⟩
 rw[show u5 (.int 1) (.int c) st=_ from this]
 simp
theorem lq{s:List ai}{p:Nat}{y:W}(h:s[p]?=some (.lst ws))(hl:ws.length<1000000):cS (.loc p) [y] s=.ok .non (s.set p (.lst (ws++[y]))):=ux h hl
theorem B5(nm:List Nat)(n dl:Nat)(ds:List Int)(st:List ai)(sX:nm.length<=6)(hn:1<=n)(yd:n<=9)(hd:st[dl]?=some (.lst (iL ds)))(we:4<=ds.length)(Cm:∀d∈ds,0<=d) :
  ∃M:Mc,M.nm=nm/\nQ M n/\AA [.str nm,.int n,.loc dl] st=.ok M.w st:=by
 suffices hh:gD (qJ fun w bv=>(∃x,bv=st++x)/\undWs st.length [w]=true/\∃M:Mc,w=M.w/\M.nm=nm/\nQ M n) (JD ([W.str nm,.int n,.loc dl].map some++List.replicate (9-3) none) st) by
  obtain⟨w,⟨M,rfl,h1,h2⟩,e⟩:=lp hh
  exact⟨M,h1,h2,e⟩
 obtain⟨d0,d1,d2,d3,dr,rfl⟩:∃a b c d r,ds=a::b::c::d::r:=by
  match ds,we with
  |a::b::c::d::r,_=>exact⟨_,_,_,_,_,rfl⟩
 have dH:∀s:List ai,cQ [.str nm] s=.ok (.int nm.length) s:=fun s=>vz (by show _<=1000000;omega)
 have p2:2^nm.length<=64:=gp (by omega) sX
 obtain⟨N,hN⟩:∃N,N=2^nm.length:=⟨_,rfl⟩
 have sh:∀s:List ai,u5 (.int 1) (.int nm.length) s=.ok (.int N) s:=fun s=>by rw[hN];exact wH (by omega)
 rw[<- hN]at p2
 have ix0:∀s:List ai,st <+: s->bJ (.loc dl) (.int 0) s=.ok (.int d0) s:=fun s h=>eV (i:=0) (pre_get h hd) rfl
 have ix1:∀s:List ai,st <+: s->bJ (.loc dl) (.int 1) s=.ok (.int d1) s:=fun s h=>eV (i:=1) (pre_get h hd) rfl
 have ix2:∀s:List ai,st <+: s->bJ (.loc dl) (.int 2) s=.ok (.int d2) s:=fun s h=>eV (i:=2) (pre_get h hd) rfl
 have ix3:∀s:List ai,st <+: s->bJ (.loc dl) (.int 3) s=.ok (.int d3) s:=fun s h=>eV (i:=3) (pre_get h hd) rfl
 apply aG
 ·(walk_at "evs")
 refine cU (fun i ρ s=>∃(tb:List (List (List Nat))) (o4 o5 o6 o7:Option W),ρ=[some (.str nm),iO n,lO dl,lO st.length,o4,o5,o6,o7,none]/\st <+: s/\s[st.length]?=some (.lst (tb.map dE))/\tb.length=i/\∀t∈tb,Rc n t)
  (dD (q:=(N:Int)) (st1:=st++[ai.lst []]) (ax (bS dN (bh kn (dH _)) (sh _)) bB) (by omega))
  ⟨[],none,none,none,none,rfl,ar _ _,bn,rfl,by simp⟩ (fun _ _ _ _=>trivial) ?_ ?_
 ·rintro i w ρ s hw ⟨tb,o4,o5,o6,o7,rfl,hp,hc,hl,ht⟩
  obtain⟨hi,rfl⟩:=fU hw
  refine⟨_,rfl,?_⟩
  have hl1:=dH s
  have i1:=ix1 s hp
  apply aG
  ·(walk_at "evs")
  refine qL (fun ρ s'=>∃(m:Nat) (o4:Option W),ρ=[some (.str nm),iO n,lO dl,lO st.length,o4,iO m,o6,o7,none]/\s'=s) ?_ ?_
  ·by_cases h0:nm.length=0
   ·have t0:((nm.length:Int)==0)=true:=by rw[bT];omega
    apply oG
    ·(walk_at "evs")
    apply dF
    ·(walk_at "evs")
    ·exact⟨_,_,rfl,1,_,rfl,rfl⟩
   ·have t0:((nm.length:Int)==0)=false:=by rw[a8];omega
    apply kH
    ·(walk_at "evs")
    apply dF
    ·(walk_at "evs")
    ·exact⟨_,_,rfl,((0+(i:Int))%2+d1%2).toNat,_,by rw[Int.toNat_of_nonneg (by omega)];rfl,rfl⟩
  rintro ρ s' ⟨m,o4,rfl,rfl⟩
  apply aG
  ·(walk_at "evs")
  refine cU (fun j ρ z=>∃(fm:List (List Nat)) (o7:Option W),ρ=[some (.str nm),iO n,lO dl,lO st.length,o4,iO m,lO s'.length,o7,none]/\s' <+: z/\z[s'.length]?=some (.lst (fm.map gE))/\fm.length=j/\∀r∈fm,r.length=n/\∀k∈r,k<n)
   (dD (q:=(n:Int)) (st1:=s'++[ai.lst []]) (by(walk_at "evs")) (by omega)) ⟨[],_,rfl,ar _ _,bn,rfl,by simp⟩ (fun _ _ _ _=>trivial) ?_ ?_
  ·rintro j w ρ z hw ⟨fm,o7,rfl,hz,hcz,hrl,hr⟩
   obtain⟨hj,rfl⟩:=fU hw
   refine⟨_,rfl,?_⟩
   obtain⟨g,hg,eg⟩:=fN (q:=d0) (n:=4) (by omega)
   have eg:d0%4=(g:Int):=eg
   obtain⟨r,hrn,hrb,er⟩:=vK (cap:=[none,some 1,some 5,some 7,some 2]) (ρ:=[some (.str nm),iO n,lO dl,lO st.length,o4,iO m,lO s'.length,iO (0+(j:Int)),none]) (st:=z) (fs:=ah (ag 1) aB) (n:=n)
    (el:=bg yF (ah (e2 Br (ag 1) (eI 1)) (ah (e2 eS (de 3 xF (ah (e2 fM (e2 bJ (ag 4) (eI 0)) (eI 4)) (ah (ag 3) (ah (ag 0) aB)))) (ag 2)) aB))) (fun k:Nat=>W.int (k:Nat)) (fun _ k=>k<n) kn (by omega) fun q hq=>by
     obtain⟨k,ek⟩:=EU g j q z
     rw[<- eg,show(j:Int)=0+(j:Int) by omega]at ek
     refine⟨min (n-1) (k+m),by omega,?_⟩
     refine bh (ax (bS kv dN (lh trivial)) (ax (bS (cL (ax (bS (bS kv dN (ix0 z (hp.trans hz))) dN (lh (by decide))) (ax kv kn)) ek rfl) kv gA) bB)) ?_
     show R.ok (W.int (if (k:Int)+(m:Int)<(n:Int)-1 then(k:Int)+(m:Int)else(n:Int)-1)) z=_
     congr 2
     split<;>omega
   have ap:=lq (y:=gE r) (pre_get (s:=z++[.lst (r.map fun k:Nat=>W.int k)]) (ar _ _) hcz) (by rw[aj];omega)
   apply dF
   ·exact fC (m_ kv (eU hcz) (ax er bB) ap)
   ·refine⟨_,_,rfl,fm++[r],_,rfl,gH (jQ hz) (av _),?_,by simp[hrl],?_⟩
    ·rw[iK (pre_get (ar _ _) hcz)];simp
    ·intro x hx
     rcases aH.mp hx with y|y
     ·exact hr x y
     ·simp at y;subst y
      refine⟨hrn,fun k hk=>?_⟩
      obtain⟨q,hq⟩:=aU hk
      exact hrb q k hq
  ·rintro ρ z ⟨fm,o7,rfl,hz,hcz,hrl,hr⟩
   have hrl:fm.length=n:=by rw[hrl];simp[bG]
   have hcp:=pre_get hz hc
   have ap:=lq (y:=dE fm) hcp (by rw[aj,hl];omega)
   apply dF
   ·exact fC (m_ kv (eU hcp) (ax (bh kn (eK (aR hcz))) bB) ap)
   ·refine⟨_,_,rfl,tb++[fm],_,_,_,_,rfl,gH (hp.trans hz) (av _),?_,by simp[hl],?_⟩
    ·rw[iK hcp];simp
    ·intro x hx
     rcases aH.mp hx with y|y
     ·exact ht x y
     ·simp at y;subst y
      exact⟨hrl,hr⟩
 ·rintro ρ s ⟨tb,o4,o5,o6,o7,rfl,hp,hc,hl,ht⟩
  have hl:tb.length=N:=by rw[hl];simp[bG]
  have i2:=ix2 s hp
  have i3:=ix3 s hp
  apply aG
  ·(walk_at "evs")
  refine qL (fun ρ s'=>∃k:Int,ρ=[some (.str nm),iO n,lO dl,lO st.length,o4,o5,o6,o7,iO k]/\s'=s) ?_ ?_
  ·by_cases h1:d2%2=1
   ·have t1:(d2%2==1)=true:=bT.mpr h1
    have pn:(0:Int)<(n:Int):=by omega
    apply oG
    ·(walk_at "evs")
    apply dF
    ·(walk_at "evs")
     all_goals exact pn
    ·exact⟨_,_,rfl,_,rfl,rfl⟩
   ·have t1:(d2%2==1)=false:=a8.mpr h1
    apply kH
    ·(walk_at "evs")
    apply dF
    ·(walk_at "evs")
    ·exact⟨_,_,rfl,_,rfl,rfl⟩
  rintro ρ s' ⟨k,rfl,rfl⟩
  obtain⟨gd,hgl,_,eg⟩:=vK (cap:=[none,some 8]) (ρ:=[some (.str nm),iO n,lO dl,lO st.length,o4,o5,o6,o7,iO k]) (st:=s') (fs:=ah (ag 1) aB) (n:=n)
   (el:=e2 nT (ag 0) (ag 1)) W.bl (fun _ _=>True) kn (by omega) fun q hq=>⟨_,trivial,bS kv kv (oF rfl)⟩
  obtain⟨x,rfl⟩:=hp
  apply dC
  ·exact iE (ax kv (ax eg (ax (bh kn (eK (aR (pre_get (ar _ _) hc)))) bB))) (cz rfl)
  ·exact⟨_,_,rfl,⟨_,by rw[aO]⟩,by simp only[undWs,cw];exact nR ⟨nm,gd,tb⟩ _,⟨nm,gd,tb⟩,rfl,rfl,hgl,by rw[hl,hN],ht⟩
theorem Ms{q:Nat}(h:q<n):Ba n (q:Int)=some q:=by
 unfold Ba
 rw[aw (by omega),aw (by omega)];simp
theorem zh{s:List ai}{p q:Nat}{v:W}(h:s[p]?=some (.lst ws))(hq:q<ws.length):p5 (.loc p) (.int q) v s=some (s.set p (.lst (ws.set q v))):=LK h (Ms hq)
theorem EW{fs:FA}{st:List ai}{i j:Int}(h:fs ρ st=.ok [.int i,.int j] st1)(hq:-(2^62)<=i/\i<2^62/\-(2^62)<=j/\j<2^62):og fs ρ st=.ok (bA i (j-i).toNat,none) st1:=by
 unfold og;rw[h];simp only[R.bind_ok];rw[aw hq]
theorem zk{s:List ai}:mw [.tup ws] s=.ok (.loc s.length) (s++[.lst ws]):=rfl
theorem vL{l:List α}{x y:α}(h:y∈l.set i x):y∈l\/y=x:=List.mem_or_eq_of_mem_set h
theorem zl(M:Mc)(n sl:Nat)(ds:List Int)(st:List ai)(hM:nQ M n)(hn:1<=n)(yd:n<=9)(hd:st[sl]?=some (.lst (iL ds)))(we:ds.length=4) :
  ∃M':Mc,M'.nm=M.nm/\nQ M' n/\AB [M.w,.loc sl] st=.ok M'.w st:=by
 obtain⟨d0,d1,d2,d3,rfl⟩:∃a b c d,ds=[a,b,c,d]:=by
  match ds,we with
  |[a,b,c,d],_=>exact⟨_,_,_,_,rfl⟩
 have hT:0<M.tb.length:=by rw[hM.tb];exact Nat.pow_pos (by omega)
 obtain⟨a,ha,ea⟩:=fN (q:=d0) (n:=M.tb.length) hT
 obtain⟨b,hb,eb⟩:=fN (q:=d1) (n:=n) (by omega)
 obtain⟨c,hc,ec⟩:=fN (q:=d2) (n:=n) (by omega)
 obtain⟨v,hv,ev⟩:=fN (q:=d3) (n:=n) (by omega)
 have pT:(0:Int)<(M.tb.length:Int):=by omega
 have pn:(0:Int)<(n:Int):=by omega
 obtain⟨fm,hrows⟩:∃r,M.tb[a]?=some r:=⟨_,ac ha⟩
 obtain⟨r1,r2⟩:=hM.t fm (ak hrows)
 obtain⟨row,Ch⟩:∃r,fm[b]?=some r:=⟨_,ac (by omega)⟩
 obtain⟨q1,q2⟩:=r2 row (ak Ch)
 have g0:bJ M.w (.int 0) st=.ok (.str M.nm) st:=rfl
 have g1:∀s,bJ M.w (.int 1) s=.ok (.tup (M.gd.map W.bl)) s:=fun _=>rfl
 have g2:∀s,bJ M.w (.int 2) s=.ok (.tup (M.tb.map dE)) s:=fun _=>rfl
 generalize hs3:st++[ai.lst (M.tb.map dE)]=s3
 have c3:s3[st.length]?=some (.lst (M.tb.map dE)):=by rw[<- hs3];exact bn
 have h3:st <+: s3:=by rw[<- hs3];exact ar _ _
 generalize hs5:s3++[ai.lst (fm.map gE)]=s5
 have c5:s5[s3.length]?=some (.lst (fm.map gE)):=by rw[<- hs5];exact bn
 have h5:s3 <+: s5:=by rw[<- hs5];exact ar _ _
 generalize hs6:s5++[ai.lst (row.map fun k:Nat=>W.int k)]=s6
 have c6:s6[s5.length]?=some (.lst (row.map fun k:Nat=>W.int k)):=by rw[<- hs6];exact bn
 have h6:s5 <+: s6:=by rw[<- hs6];exact ar _ _
 have l3:st.length<s3.length:=by rw[<- hs3];simp
 have l5:s3.length<s5.length:=by rw[<- hs5];simp
 have l6:s5.length<s6.length:=by rw[<- hs6];simp
 have dx:∀(s:List ai) (i:Nat) (d:Int),st <+: s->[d0,d1,d2,d3][i]?=some d->bJ (.loc sl) (.int i) s=.ok (.int d) s:=fun s i d h e=>eV (pre_get h hd) e
 have ix4:∀s:List ai,st <+: s->bJ (.loc sl) (.int 0) s=.ok (.int d0) s:=fun s h=>dx s 0 d0 h rfl
 have ix1:∀s:List ai,st <+: s->bJ (.loc sl) (.int 1) s=.ok (.int d1) s:=fun s h=>dx s 1 d1 h rfl
 have ix2:∀s:List ai,st <+: s->bJ (.loc sl) (.int 2) s=.ok (.int d2) s:=fun s h=>dx s 2 d2 h rfl
 have ix3:∀s:List ai,st <+: s->bJ (.loc sl) (.int 3) s=.ok (.int d3) s:=fun s h=>dx s 3 d3 h rfl
 have p6:=zh (v:=.int v) c6 (q:=c) (by rw[aj];omega)
 generalize hs7:s6.set s5.length (.lst ((row.map fun k:Nat=>W.int k).set c (.int v)))=s7 at p6
 have k7:st <+: s7:=by rw[<- hs7];exact gH (h3.trans (h5.trans h6)) (by omega)
 have e6:s7[s5.length]?=some (.lst ((row.set c v).map fun k:Nat=>W.int k)):=by rw[<- hs7,iK c6];simp[pe]
 have e5:s7[s3.length]?=some (.lst (fm.map gE)):=by rw[<- hs7,zg (by omega)];exact pre_get h6 c5
 have e3:s7[st.length]?=some (.lst (M.tb.map dE)):=by rw[<- hs7,zg (by omega)];exact pre_get (h5.trans h6) c3
 have p7:=zh (v:=gE (row.set c v)) e5 (q:=b) (by rw[aj];omega)
 generalize hs8:s7.set s3.length (.lst ((fm.map gE).set b (gE (row.set c v))))=s8 at p7
 have k8:st <+: s8:=by rw[<- hs8];exact gH k7 (by omega)
 have f5:s8[s3.length]?=some (.lst ((fm.set b (row.set c v)).map gE)):=by rw[<- hs8,iK e5];simp[pe]
 have f3:s8[st.length]?=some (.lst (M.tb.map dE)):=by rw[<- hs8,zg (by omega)];exact e3
 have p8:=zh (v:=dE (fm.set b (row.set c v))) f3 (q:=a) (by rw[aj];omega)
 generalize hs9:s8.set st.length (.lst ((M.tb.map dE).set a (dE (fm.set b (row.set c v)))))=s9 at p8
 have k9:st <+: s9:=by rw[<- hs9];exact gH k8 (by omega)
 have z3:s9[st.length]?=some (.lst ((M.tb.set a (fm.set b (row.set c v))).map dE)):=by rw[<- hs9,iK f3];simp[pe]
 refine⟨⟨M.nm,M.gd,M.tb.set a (fm.set b (row.set c v))⟩,rfl,⟨hM.gd,by rw[<- hM.tb];simp,?_⟩,?_⟩
 ·intro t ht
  rcases vL ht with h|rfl
  ·exact hM.t t h
  ·refine⟨by simpa using r1,fun r hr=>?_⟩
   rcases vL hr with h|rfl
   ·exact r2 r h
   ·refine⟨by simpa using q1,fun k hk=>?_⟩
    rcases vL hk with h|rfl
    ·exact q2 k h
    ·exact hv
 ·refine j_ (N:=7) (ws:=[M.w,.loc sl]) (body:=JE) ?_ (by simp only[undWs,cw];exact nR _ _)
  apply aG
  ·exact bU (bh (ax (bS kv dN (g1 st)) bB) lj)
  rw[aj,hM.gd]
  apply aG
  ·exact bU (bh (ax (bS kv dN (g2 st)) bB) zk)
  rw[hs3]
  apply aG
  ·refine bU (bS (bS kv dN (ix4 s3 h3)) (bh kn (g8 (aR c3))) (lh ?_))
   rw[aj];exact pT
  rw[aj,ea]
  apply aG
  ·exact bU (bh (ax (bS kv kv (lR (aR c3) (d6 (by rw[al,hrows];rfl)))) bB) zk)
  rw[hs5]
  apply aG
  ·have iv:bJ (.loc s3.length) (.int (d1%(n:Int))) s5=.ok (.tup (row.map fun k:Nat=>W.int k)) s5:=by
    rw[eb]
    exact lR (aR c5) (d6 (by rw[al,Ch];rfl))
   exact bU (bh (ax (bS kv (bS (bS kv dN (ix1 s5 (h3.trans h5))) kv (lh pn)) iv) bB) zk)
  rw[hs6]
  apply aG
  ·rw[<- ec,<- ev]at p6
   exact mE (bS (bS kv dN (ix3 s6 (h3.trans (h5.trans h6)))) kv (lh pn)) kv (bS (bS kv dN (ix2 s6 (h3.trans (h5.trans h6)))) kv (lh pn)) p6
  apply aG
  ·rw[<- eb]at p7
   exact mE (bh kn (eK (aR e6))) kv (bS (bS kv dN (ix1 s7 k7)) kv (lh pn)) p7
  apply aG
  ·exact mE (bh kn (eK (aR f5))) kv kv p8
  obtain⟨x,rfl⟩:=k9
  apply dC
  ·exact iE (ax (bS kv dN rfl) (ax (bS kv dN (g1 _)) (ax (bh kn (eK (aR z3))) bB))) (cz rfl)
  ·exact⟨_,_,rfl,rfl,x,rfl⟩
def nW(l:List Nat):List W:=l.map fun k=>W.int (k:Nat)
theorem xK{s:List ai}{p:Nat}{k:Nat}(h:s[p]?=some (.lst (nW l)))(e:l[i]?=some k):bJ (.loc p) (.int i) s=.ok (.int k) s:=lR (aR h) (d6 (by rw[nW,al,e];rfl))
theorem Mu{s:List ai}{k:Nat}(e:l[i]?=some k):bJ (gE l) (.int i) s=.ok (.int k) s:=jt (d6 (by rw[al,e];rfl))
theorem Mv{s:List ai}{r:List Nat}(e:t[i]?=some r):bJ (dE t) (.int i) s=.ok (gE r) s:=jt (d6 (by rw[al,e];rfl))
def SX(n:Nat)(zs:List Nat):Prop:=zs.length=n/\∀r,r∈zs↔r<n
abbrev R9:FS:=(eJ (qu k_ (ag 3) (ah (e2 eS (eI 1) (e2 fM (e2 bJ (ag 2) (e2 ib (eI 2) (ag 4))) (bg cQ (ah (ag 3) aB)))) (ah (ag 5) aB))))
theorem uE(n k dl:Nat)(ds:List Int)(st:List ai)(hn:1<=n)(yd:n+k<=100)(hd:st[dl]?=some (.lst (iL ds)))(we:2*(n+k)<=ds.length) :
  ∃zs:List Nat,zs.length=n+k/\(∀r,r∈zs↔r<n)/\zs[0]?=some 0/\su [.int n,.int k,.loc dl] st=.ok (.loc st.length) (st++[.lst (nW zs)]):=by
 suffices hh:gD (qJ fun w bv=>∃j x,w=.loc (st.length+j)/\bv=st++x/\j=0/\∃zs:List Nat,(zs.length=n+k/\(∀r,r∈zs↔r<n)/\zs[0]?=some 0)/\x=[.lst (nW zs)]) (JG ([W.int n,.int k,.loc dl].map some++List.replicate (6-3) none) st) by
  obtain⟨j,x,⟨rfl,zs,⟨h1,h2,h3⟩,rfl⟩,e⟩:=iw hh
  exact⟨zs,h1,h2,h3,e⟩
 apply aG
 ·(walk_at "evs")
 refine cU (fun i ρ s=>∃(zs:List Nat) (o4 o5:Option W),ρ=[iO n,iO k,lO dl,lO st.length,o4,o5]/\s=st++[.lst (nW zs)]/\zs.length=i+1/\(∀r,r∈zs↔r<i+1/\r<n)/\zs[0]?=some 0)
  (EW (i:=1) (j:=(n:Int)+(k:Int)) (st1:=st++[ai.lst [.int 0]]) (by(walk_at "evs")) (by omega))
  ⟨[0],none,none,rfl,rfl,rfl,by simp;omega,rfl⟩ (fun _ _ _ _=>trivial) ?_ ?_
 ·rintro i w ρ s hw ⟨zs,o4,o5,rfl,rfl,hl,hm,h0⟩
  obtain⟨hi,rfl⟩:=fU hw
  refine⟨_,rfl,?_⟩
  have hc:(st++[ai.lst (nW zs)])[st.length]?=some (.lst (nW zs)):=bn
  apply aG
  ·(walk_at "evs")
  obtain⟨d,hdd⟩:∃d,ds[2*(1+i)]?=some d:=⟨_,ac (by omega)⟩
  have id:=eV (s:=st++[ai.lst (nW zs)]) (ay hd) hdd
  rw[show((2*(1+i):Nat):Int)=2*(1+(i:Int)) by omega]at id
  have cm:yE 2 (1+(i:Int)):=.inl (by decide)
  have put:∀v:Nat,(1+i<n->v=1+i)->(n<=1+i->v<n)->gD (F' fun ρ s=>∃(zs:List Nat) (o4 o5:Option W),ρ=[iO n,iO k,lO dl,lO st.length,o4,o5]/\s=st++[.lst (nW zs)]/\zs.length=i+1+1/\(∀r,r∈zs↔r<i+1+1/\r<n)/\zs[0]?=some 0) (R9 [iO n,iO k,lO dl,lO st.length,iO (1+(i:Int)),iO (v:Nat)] (st++[.lst (nW zs)])):=fun v v1 v2=>by
   obtain⟨q,hq,eq⟩:=fN (q:=d) (n:=zs.length) (by omega)
   have ll:=g8 (aR hc)
   rw[show(nW zs).length=zs.length by simp[nW]]at ll
   have pl:(0:Int)<(zs.length:Int):=by omega
   have ins:=D3 (y:=.int (v:Nat)) hc (k:=1+q) (by simp[nW];omega) (by simp[nW];show _<1000000;omega) (by omega)
   rw[eN,show((1+q:Nat):Int)=1+d%(zs.length:Int) by omega]at ins
   apply dF
   ·exact fC (m_ kv (eU hc) (ax (bS dN (bS (bS kv (bS dN kv (r6 cm)) id) (bh kn ll) (lh pl)) gA) kn) ins)
   ·refine⟨_,_,rfl,zs.take (1+q)++v::zs.drop (1+q),_,_,rfl,?_,?_,?_,?_⟩
    ·simp[nW,nC,List.map_drop]
    ·simp;omega
    ·intro r
     rw[aH,aJ]
     have:=hm r
     have h2:r∈zs↔r∈zs.take (1+q)\/r∈zs.drop (1+q):=by
      rw[<- aH,md]
     constructor
     ·rintro(h|h|h)
      ·have:=this.mp (h2.mpr (.inl h));omega
      ·omega
      ·have:=this.mp (h2.mpr (.inr h));omega
     ·intro h
      by_cases e:r=v
      ·exact .inr (.inl e)
      ·rcases h2.mp (this.mpr (by omega))with h|h
       ·exact .inl h
       ·exact .inr (.inr h)
    ·rw[aq (by rw[a9];omega),aQ (by omega)];exact h0
  by_cases hb:n<=1+i
  ·have t1:decide ((n:Int)<=1+(i:Int))=true:=bp (by omega)
   obtain⟨d2,Cs⟩:∃d,ds[2*(1+i)+1]?=some d:=⟨_,ac (by omega)⟩
   have id2:=eV (s:=st++[ai.lst (nW zs)]) (ay hd) Cs
   rw[show((2*(1+i)+1:Nat):Int)=2*(1+(i:Int))+1 by omega]at id2
   obtain⟨v,hv,ev⟩:=fN (q:=d2) (n:=n) (by omega)
   have pn:(0:Int)<(n:Int):=by omega
   have zG:Lf (.int (1+(i:Int))) (.int (n:Nat)) (st++[.lst (nW zs)])=.ok (.bl true) (st++[.lst (nW zs)]):=As t1
   refine gu (cE (bS kv kv zG)) ?_
   refine aG (bU (bS (bS kv (bS (bS dN kv (r6 cm)) dN gA) id2) kv (lh pn))) ?_
   have:=put v (fun z=>by omega) fun _=>hv
   rw[<- ev]at this
   exact this
  ·have t0:decide ((n:Int)<=1+(i:Int))=false:=a7 (by omega)
   have zG:Lf (.int (1+(i:Int))) (.int (n:Nat)) (st++[.lst (nW zs)])=.ok (.bl false) (st++[.lst (nW zs)]):=As t0
   refine bN (cE (bS kv kv zG)) (bV ?_)
   have:=put (1+i) (fun _=>rfl) fun z=>by omega
   rw[show((1+i:Nat):Int)=1+(i:Int) by omega]at this
   exact this
 ·rintro ρ s ⟨zs,o4,o5,rfl,rfl,hl,hm,h0⟩
  rw[show(bA 1 ((n:Int)+(k:Int)-1).toNat,(none:Option (Nat×List W))).fst.length=n+k-1 by simp[bG];omega]at hl hm
  apply dC
  ·(walk_at "evs")
  ·exact⟨_,_,rfl,0,_,rfl,rfl,rfl,zs,⟨by omega,fun r=>by rw[hm r];omega,h0⟩,rfl⟩
theorem EX(n dl:Nat)(ds:List Int)(st:List ai)(hn:1<=n)(yd:n<=100)(hd:st[dl]?=some (.lst (iL ds)))(we:2*n<=ds.length) :
  ∃zs,SX n zs/\su [.int n,.int 0,.loc dl] st=.ok (.loc st.length) (st++[.lst (nW zs)]):=by
 obtain⟨zs,h1,h2,_,e⟩:=uE n 0 dl ds st hn yd hd we
 exact⟨zs,⟨h1,h2⟩,e⟩
theorem HN{cap:List (Option Nat)}{st:List ai}{t:FT}{fs:FA}(Pb:Nat->Bool)(hr:fs ρ st=.ok [.int n] st)(hn:n<=100000)(h0:0<cap.length)(h:∀i:Nat,i<n->t ((pB cap ρ).set 0 (iO i)) st=.ok (Pb i) st) :
  dX cap (br fs) (eZ 0) t (ag 0) ρ st=.ok (.loc st.length) (st++[.lst (nW ((List.range n).filter Pb))]):=by
 have ir:br fs ρ st=.ok (bA 0 n,none) st:=by
  have:=dD hr (by omega)
  rw[aK]at this
  exact this
 rw[D4 (fi:=br fs) (f:=eZ 0) (t:=t) (el:=ag 0) (cap:=cap) (ρ:=ρ) (fun w=>match w with|.int z=>Pb z.toNat|_=>false) id ir (by rw[bG];show _<=1000000;omega) trivial fun w hw=>by
  obtain⟨i,hi,rfl⟩:=pK hw
  rw[show((0:Int)+(i:Int))=(i:Int) by omega]
  exact⟨_,rfl,h i hi,fun _=>gP (by rw[bi (by simp[pB];exact h0)];rfl)⟩]
 congr 4
 unfold bA nW
 rw[List.filter_map,aL]
 have e:((fun w=>match w with|W.int z=>Pb z.toNat|_=>false)∘fun k:Nat=>W.int (0+(k:Int)))=Pb:=by
  funext k
  show Pb (0+(k:Int)).toNat=Pb k
  congr 1;omega
 rw[e]
 refine aZ fun k _=>?_
 show W.int (0+(k:Int))=_
 rw[gz]
theorem EY{f:FG}{ρ':bY}{st:List ai}{w:W}(h:fe ρ st=.ok w st1)(h2:f w ρ=some ρ'):u7 fe f ρ st=.nx ρ' st1:=by
 unfold u7;rw[h];simp only[R.stmt_ok];rw[h2]
abbrev R_(tb:List (List (List Nat)))(a x y:Nat):Nat:=((tb.getD a []).getD x []).getD y 0
def Qb(zs:List Nat)(M:Mc)(a:Nat)(t:List (List Nat)):Prop:=∀(x y:Nat) (row:List Nat) (c:Nat),t[x]?=some row->row[y]?=some c->zs.getD c 0=R_ M.tb a (zs.getD x 0) (zs.getD y 0)
def Tr(zs:List Nat)(M:Mc)(a x:Nat)(row:List Nat):Prop:=∀(y c:Nat),row[y]?=some c->zs.getD c 0=R_ M.tb a (zs.getD x 0) (zs.getD y 0)
theorem m5{l:List α}{x d:α}(h:l[i]?=some x):l.getD i d=x:=by rw[az,h];rfl
theorem sw{l:List α}{z x:α}(h:(l++[z])[i]?=some x):l[i]?=some x\/(i=l.length/\x=z):=by
 rcases cD i l.length with u|u
 ·rw[aq u]at h;exact .inl h
 ·have:i=l.length:=by have:=(aa.mp h).1;rw[aI,fW]at this;omega
  subst this
  rw[bD]at h
  exact .inr ⟨rfl,(aM h).symm⟩
theorem uF(M:Mc)(n n2 ow dl:Nat)(zs:List Nat)(ds:List Int)(st:List ai)(hM:nQ M n)(yd:n<=200)(Tw:n2<=200)(hz:zs.length=n2)(hm:∀r,r∈zs↔r<n)(hc:st[ow]?=some (.lst (nW zs)))(hd:st[dl]?=some (.lst (iL ds)))(we:0<ds.length)(QB:ds.length<=1000)(sX:M.nm.length<=10) :
  ∃M':Mc,M'.nm=M.nm/\nQ M' n2/\(M'.gd=zs.map fun r=>M.gd.getD r false)/\(∀(a:Nat) (t:List (List Nat)),M'.tb[a]?=some t->Qb zs M a t)/\sk [M.w,.loc ow,.loc dl] st=.ok M'.w st:=by
 suffices hh:gD (qJ fun w bv=>(∃x,bv=st++x)/\undWs st.length [w]=true/\∃M':Mc,w=M'.w/\M'.nm=M.nm/\nQ M' n2/\(M'.gd=zs.map fun r=>M.gd.getD r false)/\∀(a:Nat) (t:List (List Nat)),M'.tb[a]?=some t->Qb zs M a t) (JF ([M.w,.loc ow,.loc dl].map some++List.replicate (13-3) none) st) by
  obtain⟨w,⟨M',rfl,h1,h2,h3,h4⟩,e⟩:=lp hh
  exact⟨M',h1,h2,h3,h4,e⟩
 have p2:M.tb.length<=1024:=by rw[hM.tb];exact be (gp (by omega) sX) (by decide)
 have ll:=g8 (aR hc)
 rw[show(nW zs).length=n2 by simp[nW,hz]]at ll
 have g2:bJ M.w (.int 2) (st++[ai.lst []])=.ok (.tup (M.tb.map dE)) (st++[ai.lst []]):=rfl
 apply aG
 ·(walk_at "evs")
 apply aG
 ·(walk_at "evs")
 apply aG
 ·(walk_at "evs")
 refine cU (fun i ρ s=>∃(tb:List (List (List Nat))) (a:Nat) (o6 o7 o8 o9 tK Ct Ck:Option W),ρ=[some M.w,lO ow,lO dl,iO n2,iO a,lO st.length,o6,o7,o8,o9,tK,Ct,Ck]/\st <+: s/\s[st.length]?=some (.lst (tb.map dE))/\tb.length=i/\(∀t∈tb,Rc n2 t)/\∀(a:Nat) (t:List (List Nat)),tb[a]?=some t->Qb zs M a t)
  (gG (st1:=st++[ai.lst []]) (bS kv dN g2))
  ⟨[],0,none,none,none,none,none,none,none,rfl,ar _ _,bn,rfl,by simp,fun a t h=>by cases h⟩ (fun _ _ _ _=>trivial) ?_ ?_
 ·rintro i w ρ s hw ⟨tb,a,o6,o7,o8,o9,tK,Ct,Ck,rfl,hp,hcT,hl,ht,hbl⟩
  obtain⟨t,hti,rfl⟩:∃t,M.tb[i]?=some t/\w=dE t:=by
   simp only[al,aY]at hw
   obtain⟨t,h1,rfl⟩:=hw
   exact⟨t,h1,rfl⟩
  obtain⟨t1,t2⟩:=hM.t t (ak hti)
  have hi:i<M.tb.length:=(aa.mp hti).1
  refine⟨_,rfl,?_⟩
  apply aG
  ·(walk_at "evs")
  refine cU (fun j ρ z=>∃(fm:List (List Nat)) (a:Nat) (o8 o9 tK Ct Ck:Option W),ρ=[some M.w,lO ow,lO dl,iO n2,iO a,lO st.length,some (dE t),lO s.length,o8,o9,tK,Ct,Ck]/\s <+: z/\z[s.length]?=some (.lst (fm.map gE))/\fm.length=j/\(∀r∈fm,r.length=n2/\∀k∈r,k<n2)/\Qb zs M i fm)
   (dD (q:=(n2:Int)) (st1:=s++[ai.lst []]) (by(walk_at "evs")) (by omega)) ⟨[],a,_,_,_,_,_,rfl,ar _ _,bn,rfl,by simp,fun x y row c h=>by cases h⟩ (fun _ _ _ _=>trivial) ?_ ?_
  ·rintro x w ρ s1 hw ⟨fm,a,o8,o9,tK,Ct,Ck,rfl,h1,hc1,hrl,hr,hbr⟩
   obtain⟨hx,rfl⟩:=fU hw
   rw[aK]at hx
   refine⟨_,rfl,?_⟩
   apply aG
   ·(walk_at "evs")
   obtain⟨ox,hox⟩:∃k,zs[x]?=some k:=⟨_,ac (by omega)⟩
   have hox':ox<n:=(hm ox).mp (ak hox)
   obtain⟨rx,hrx⟩:∃r,t[ox]?=some r:=⟨_,ac (by omega)⟩
   obtain⟨rx1,rx2⟩:=t2 rx (ak hrx)
   refine cU (fun j ρ z=>∃(row:List Nat) (a:Nat) (tK Ct Ck:Option W),ρ=[some M.w,lO ow,lO dl,iO n2,iO a,lO st.length,some (dE t),lO s.length,iO (0+(x:Int)),lO s1.length,tK,Ct,Ck]/\s1 <+: z/\z[s1.length]?=some (.lst (nW row))/\row.length=j/\(∀k∈row,k<n2)/\Tr zs M i x row)
    (dD (q:=(n2:Int)) (st1:=s1++[ai.lst []]) (by(walk_at "evs")) (by omega)) ⟨[],a,_,_,_,rfl,ar _ _,bn,rfl,by simp,fun y c h=>by cases h⟩ (fun _ _ _ _=>trivial) ?_ ?_
   ·rintro y w ρ z hw ⟨row,a,tK,Ct,Ck,rfl,h2,hc2,Cu,hr2,hbw⟩
    obtain⟨hy,rfl⟩:=fU hw
    rw[aK]at hy
    refine⟨_,rfl,?_⟩
    have hz0:st <+: z:=hp.trans (h1.trans h2)
    obtain⟨oy,hoy⟩:∃k,zs[y]?=some k:=⟨_,ac (by omega)⟩
    have hoy':oy<n:=(hm oy).mp (ak hoy)
    obtain⟨NG,hdue⟩:∃k,rx[oy]?=some k:=⟨_,ac (by omega)⟩
    have hdue':=rx2 NG (ak hdue)
    have wx:bJ (.loc ow) (.int (0+(x:Int))) z=.ok (.int ox) z:=by rw[gz];exact xK (pre_get hz0 hc) hox
    have wy:bJ (.loc ow) (.int (0+(y:Int))) z=.ok (.int oy) z:=by rw[gz];exact xK (pre_get hz0 hc) hoy
    apply aG
    ·exact bU (bS (bS kv (bS kv kv wx) (Mv hrx)) (bS kv kv wy) (Mu hdue))
    have hcomp:=HN (cap:=[none,some 11,some 1]) (ρ:=[some M.w,lO ow,lO dl,iO n2,iO a,lO st.length,some (dE t),lO s.length,iO (0+(x:Int)),lO s1.length,iO (0+(y:Int)),iO NG,Ck]) (st:=z) (t:=f6 (e2 nT (e2 bJ (ag 2) (ag 0)) (ag 1))) (fs:=ah (ag 3) aB) (n:=n2) (fun i=>((zs.getD i 0:Nat):Int)==(NG:Int)) kn (by omega) (by simp) fun q hq=>by
     have:zs[q]?=some (zs.getD q 0):=by rw[az,ac (by omega)];rfl
     exact cE (bS (bS kv kv (xK (pre_get hz0 hc) this)) kv (oF rfl))
    generalize hso:(List.range n2).filter (fun i=>((zs.getD i 0:Nat):Int)==(NG:Int))=some' at hcomp
    have hsn:0<some'.length:=by
     obtain⟨q,hq⟩:=aU ((hm NG).mpr hdue')
     have hqn:q<n2:=by have:=(aa.mp hq).1;omega
     refine lJ (a:=q) ?_
     rw[<- hso]
     exact du.mpr ⟨a_.mpr hqn,by rw[az,hq];simp⟩
    have hsm:∀k∈some',k<n2/\zs.getD k 0=NG:=fun k hk=>by
     rw[<- hso]at hk
     exact⟨a_.mp (du.mp hk).1,by have:=(du.mp hk).2;rw[bT]at this;omega⟩
    have hsl:some'.length<=n2:=by rw[<- hso];exact be (ii _ _) (by simp)
    apply aG
    ·exact EY hcomp rfl
    obtain⟨q,hq,eq⟩:=fN (q:=(a:Int)) (n:=ds.length) (by omega)
    obtain⟨d,hdd⟩:∃d,ds[q]?=some d:=⟨_,ac hq⟩
    obtain⟨k,hk,ek⟩:=fN (q:=d) (n:=some'.length) hsn
    obtain⟨c,hcc⟩:∃c,some'[k]?=some c:=⟨_,ac hk⟩
    have hz3:st <+: z++[ai.lst (nW some')]:=jQ hz0
    have ld:=g8 (aR (pre_get hz3 hd))
    rw[show(iL ds).length=ds.length by simp[iL]]at ld
    have ls:=g8 (st:=z++[ai.lst (nW some')]) (n:=z.length) (aR bn)
    rw[show(nW some').length=some'.length by simp[nW]]at ls
    have id:=eV (pre_get hz3 hd) hdd
    rw[<- eq]at id
    have ic:=xK (s:=z++[ai.lst (nW some')]) (p:=z.length) bn hcc
    rw[<- ek]at ic
    have pl:(0:Int)<(ds.length:Int):=by omega
    have ps:(0:Int)<(some'.length:Int):=by omega
    have hc3:(z++[ai.lst (nW some')])[s1.length]?=some (.lst (nW row)):=ay hc2
    have ap:=lq (y:=.int c) hc3 (by simp[nW];omega)
    apply aG
    ·exact fC (m_ kv (eU hc3) (ax (bS kv (bS (bS kv (bS kv (bh kn ld) (lh pl)) id) (bh kn ls) (lh ps)) ic) bB) ap)
    apply dF
    ·exact bU (bS kv dN gA)
    ·refine⟨_,_,rfl,row++[c],a+1,_,_,_,rfl,gH (jQ h2) (av _),?_,by simp[Cu],?_,fun y' c' h=>?_⟩
     ·rw[iK hc3];simp[nW]
     ·intro k' hk'
      rcases aH.mp hk' with u|u
      ·exact hr2 k' u
      ·simp at u;subst u;exact(hsm _ (ak hcc)).1
     ·rcases sw h with u|⟨rfl,rfl⟩
      ·exact hbw _ _ u
      ·rw[Cu,(hsm _ (ak hcc)).2,m5 hox,m5 hoy]
       unfold R_;rw[m5 hti,m5 hrx,m5 hdue]
   ·rintro ρ z ⟨row,a,tK,Ct,Ck,rfl,h2,hc2,Cu,hr2,hbw⟩
    have Cu:row.length=n2:=by rw[Cu];simp[bG]
    have hc3:=pre_get h2 hc1
    have ap:=lq (y:=gE row) hc3 (by rw[aj,hrl];omega)
    apply dF
    ·exact fC (m_ kv (eU hc3) (ax (bh kn (eK (aR hc2))) bB) ap)
    ·refine⟨_,_,rfl,fm++[row],a,_,_,_,_,_,rfl,gH (h1.trans h2) (av _),?_,by simp[hrl],?_,fun x' y' row' c' h h'=>?_⟩
     ·rw[iK hc3];simp
     ·intro r hr'
      rcases aH.mp hr' with u|u
      ·exact hr r u
      ·simp at u;subst u;exact⟨Cu,hr2⟩
     ·rcases sw h with u|⟨rfl,rfl⟩
      ·exact hbr _ _ _ _ u h'
      ·rw[hrl];exact hbw _ _ h'
  ·rintro ρ z ⟨fm,a,o8,o9,tK,Ct,Ck,rfl,h1,hc1,hrl,hr,hbr⟩
   have hrl:fm.length=n2:=by rw[hrl];simp[bG]
   have hc3:=pre_get h1 hcT
   have ap:=lq (y:=dE fm) hc3 (by rw[aj,hl];omega)
   apply dF
   ·exact fC (m_ kv (eU hc3) (ax (bh kn (eK (aR hc1))) bB) ap)
   ·refine⟨_,_,rfl,tb++[fm],a,_,_,_,_,_,_,_,rfl,gH (hp.trans h1) (av _),?_,by simp[hl],?_,fun a' t' h=>?_⟩
    ·rw[iK hc3];simp
    ·intro r hr'
     rcases aH.mp hr' with u|u
     ·exact ht r u
     ·simp at u;subst u;exact⟨hrl,hr⟩
    ·rcases sw h with u|⟨rfl,rfl⟩
     ·exact hbl _ _ u
     ·rw[hl];exact hbr
 ·rintro ρ s ⟨tb,a,o6,o7,o8,o9,tK,Ct,Ck,rfl,hp,hcT,hl,ht,hbl⟩
  have hl:tb.length=M.tb.length:=by rw[hl];simp
  have hc':=pre_get hp hc
  have cg:=f7 (cap:=[none,some 0]) (ρ:=[some M.w,lO ow,lO dl,iO n2,iO a,lO st.length,o6,o7,o8,o9,tK,Ct,Ck]) (st:=s) (st1:=s) (f:=eZ 0) (el:=e2 bJ (e2 bJ (ag 1) (eI 1)) (ag 0)) (fun w=>match w with|.int z=>W.bl (M.gd.getD z.toNat false)|_=>.non)
   (gs (fe:=ag 1) kv (aR hc')) (by simp[nW];show _<=1000000;omega) (aR hc') fun w hw=>by
    obtain⟨r,hr,rfl⟩:=am.mp hw
    have hrn:=(hm r).mp hr
    have hg:M.gd[r]?=some (M.gd.getD r false):=by rw[az,ac (by rw[hM.gd];exact hrn)];rfl
    have g1:bJ M.w (.int 1) s=.ok (.tup (M.gd.map W.bl)) s:=rfl
    exact⟨_,rfl,bS (bS kv dN g1) kv (jt (d6 (by rw[al,hg];rfl)))⟩
  rw[show(nW zs).map (fun w=>match w with|.int z=>W.bl (M.gd.getD z.toNat false)|_=>.non)=(zs.map fun r=>M.gd.getD r false).map W.bl by
   unfold nW;rw[aL,aL];refine aZ fun k _=>?_;show W.bl (M.gd.getD (k:Int).toNat false)=_;rw[aK];rfl]at cg
  obtain⟨x,rfl⟩:=hp
  apply dC
  ·exact iE (ax (bS kv dN rfl) (ax (bh (ax cg bB) (eK (aR bn))) (ax (bh kn (eK (aR (ay hcT)))) bB))) (cz rfl)
  ·exact⟨_,_,rfl,⟨_,by rw[aO]⟩,by simp only[undWs,cw];exact nR ⟨M.nm,zs.map fun r=>M.gd.getD r false,tb⟩ _,⟨M.nm,zs.map fun r=>M.gd.getD r false,tb⟩,rfl,rfl,⟨by simp[hz],by rw[hl,hM.tb],ht⟩,rfl,hbl⟩
theorem EZ(M:Mc)(n ow dl:Nat)(zs:List Nat)(ds:List Int)(st:List ai)(hM:nQ M n)(yd:n<=200)(ho:SX n zs)(hc:st[ow]?=some (.lst (nW zs)))(hd:st[dl]?=some (.lst (iL ds)))(we:0<ds.length)(QB:ds.length<=1000)(sX:M.nm.length<=10) :
  ∃M':Mc,M'.nm=M.nm/\nQ M' n/\sk [M.w,.loc ow,.loc dl] st=.ok M'.w st:=by
 obtain⟨M',h1,h2,_,_,e⟩:=uF M n n ow dl zs ds st hM yd yd ho.1 ho.2 hc hd we QB sX
 exact⟨M',h1,h2,e⟩
theorem zm(nm:List Nat)(n top dl:Nat)(ds:List Int)(st:List ai)(sX:nm.length<=6)(hn:1<=n)(yd:n<=9)(S_:1<=top)(TL:top<=n)(hd:st[dl]?=some (.lst (iL ds)))(we:n+2^nm.length*(n*n)<=ds.length) :
  ∃M:Mc,M.nm=nm/\nQ M n/\AC [.str nm,.int n,.int top,.loc dl] st=.ok M.w st:=by
 suffices hh:gD (qJ fun w bv=>(∃x,bv=st++x)/\undWs st.length [w]=true/\∃M:Mc,w=M.w/\M.nm=nm/\nQ M n) (JH ([W.str nm,.int n,.int top,.loc dl].map some++List.replicate (10-4) none) st) by
  obtain⟨w,⟨M,rfl,h1,h2⟩,e⟩:=lp hh
  exact⟨M,h1,h2,e⟩
 have dH:∀s:List ai,cQ [.str nm] s=.ok (.int nm.length) s:=fun s=>vz (by show _<=1000000;omega)
 have p2:2^nm.length<=64:=gp (by omega) sX
 obtain⟨N,hN⟩:∃N,N=2^nm.length:=⟨_,rfl⟩
 have sh:∀s:List ai,u5 (.int 1) (.int nm.length) s=.ok (.int N) s:=fun s=>by rw[hN];exact wH (by omega)
 rw[<- hN]at p2 we
 have hdn:n<=ds.length:=by omega
 obtain⟨gd,hgl,_,eg⟩:=vK (cap:=[none,some 3]) (ρ:=[some (.str nm),iO n,iO top,lO dl,none,none,none,none,none,none]) (st:=st) (fs:=ah (ag 1) aB) (n:=n)
  (el:=e2 nT (e2 fM (e2 bJ (ag 1) (ag 0)) (eI 2)) (eI 1)) W.bl (fun _ _=>True) kn (by omega) fun q hq=>by
   obtain⟨d,hdd⟩:∃d,ds[q]?=some d:=⟨_,ac (by omega)⟩
   exact⟨_,trivial,bS (bS (bS kv kv (eV hd hdd)) dN (lh (by decide))) dN (oF rfl)⟩
 apply aG
 ·exact bU eg
 generalize Si:st++[ai.lst (gd.map W.bl)]=s0
 have hst0:st <+: s0:=by rw[<- Si];exact ar _ _
 apply aG
 ·(walk_at "evs")
 apply aG
 ·(walk_at "evs")
 refine cU (fun i ρ s=>∃(tb:List (List (List Nat))) (a:Nat) (o7 o8 o9:Option W),ρ=[some (.str nm),iO n,iO top,lO dl,some (.tup (gd.map W.bl)),lO s0.length,iO a,o7,o8,o9]/\s0 <+: s/\s[s0.length]?=some (.lst (tb.map dE))/\tb.length=i/\(∀t∈tb,Rc n t)/\a+(N-i)*(n*n)<=ds.length)
  (dD (q:=(N:Int)) (st1:=s0++[ai.lst []]) (ax (bS dN (bh kn (dH _)) (sh _)) bB) (by omega))
  ⟨[],n,none,none,none,rfl,ar _ _,bn,rfl,by simp,by simpa using we⟩ (fun _ _ _ _=>trivial) ?_ ?_
 ·rintro i w ρ s hw ⟨tb,a,o7,o8,o9,rfl,hp,hc,hl,ht,hal⟩
  obtain⟨hi,rfl⟩:=fU hw
  rw[aK]at hi
  refine⟨_,rfl,?_⟩
  rw[show N-i=(N-(i+1))+1 by omega,Nat.succ_mul]at hal
  apply aG
  ·(walk_at "evs")
  refine cU (fun j ρ z=>∃(fm:List (List Nat)) (a:Nat) (o9:Option W),ρ=[some (.str nm),iO n,iO top,lO dl,some (.tup (gd.map W.bl)),lO s0.length,iO a,iO (0+(i:Int)),lO s.length,o9]/\s <+: z/\z[s.length]?=some (.lst (fm.map gE))/\fm.length=j/\(∀r∈fm,r.length=n/\∀k∈r,k<n)/\a+((N-(i+1))*(n*n)+(n-j)*n)<=ds.length)
   (dD (q:=(n:Int)) (st1:=s++[ai.lst []]) (by(walk_at "evs")) (by omega)) ⟨[],a,_,rfl,ar _ _,bn,rfl,by simp,by simpa using hal⟩ (fun _ _ _ _=>trivial) ?_ ?_
  ·rintro j w ρ z hw ⟨fm,a,o9,rfl,hz,hcz,hrl,hr,hal⟩
   obtain⟨hj,rfl⟩:=fU hw
   rw[aK]at hj
   refine⟨_,rfl,?_⟩
   rw[show n-j=(n-(j+1))+1 by omega,Nat.succ_mul]at hal
   have pt:(0:Int)<(top:Int):=by omega
   obtain⟨r,hrn,hrb,er⟩:=vK (cap:=[none,some 2,some 3,some 6]) (ρ:=[some (.str nm),iO n,iO top,lO dl,some (.tup (gd.map W.bl)),lO s0.length,iO a,iO (0+(i:Int)),lO s.length,iO (0+(j:Int))]) (st:=z) (fs:=ah (ag 1) aB) (n:=n)
    (el:=e2 fM (e2 bJ (ag 2) (e2 eS (ag 3) (ag 0))) (ag 1)) (fun k:Nat=>W.int (k:Nat)) (fun _ k=>k<n) kn (by omega) fun q hq=>by
     obtain⟨d,hdd⟩:∃d,ds[a+q]?=some d:=⟨_,ac (by omega)⟩
     obtain⟨k,hk,ek⟩:=fN (q:=d) (n:=top) (by omega)
     refine⟨k,by omega,?_⟩
     rw[<- ek]
     exact bS (bS kv (bS kv kv gA) (eV (pre_get (hst0.trans (hp.trans hz)) hd) hdd)) kv (lh pt)
   have ap:=lq (y:=gE r) (pre_get (s:=z++[.lst (r.map fun k:Nat=>W.int k)]) (ar _ _) hcz) (by rw[aj];omega)
   apply aG
   ·exact fC (m_ kv (eU hcz) (ax er bB) ap)
   apply dF
   ·exact bU (bS kv kv gA)
   ·refine⟨_,_,rfl,fm++[r],a+n,_,rfl,gH (jQ hz) (av _),?_,by simp[hrl],?_,by omega⟩
    ·rw[iK (pre_get (ar _ _) hcz)];simp
    ·intro x hx
     rcases aH.mp hx with y|y
     ·exact hr x y
     ·simp at y;subst y
      refine⟨hrn,fun k hk=>?_⟩
      obtain⟨q,hq⟩:=aU hk
      exact hrb q k hq
  ·rintro ρ z ⟨fm,a,o9,rfl,hz,hcz,hrl,hr,hal⟩
   have hrl:fm.length=n:=by rw[hrl];simp[bG]
   have hcp:=pre_get hz hc
   have ap:=lq (y:=dE fm) hcp (by rw[aj,hl];omega)
   apply dF
   ·exact fC (m_ kv (eU hcp) (ax (bh kn (eK (aR hcz))) bB) ap)
   ·refine⟨_,_,rfl,tb++[fm],a,_,_,_,rfl,gH (hp.trans hz) (av _),?_,by simp[hl],?_,by omega⟩
    ·rw[iK hcp];simp
    ·intro x hx
     rcases aH.mp hx with y|y
     ·exact ht x y
     ·simp at y;subst y
      exact⟨hrl,hr⟩
 ·rintro ρ s ⟨tb,a,o7,o8,o9,rfl,hp,hc,hl,ht,hal⟩
  have hl:tb.length=N:=by rw[hl];simp[bG]
  obtain⟨x,rfl⟩:=hst0.trans hp
  apply dC
  ·exact iE (ax kv (ax kv (ax (bh kn (eK (aR hc))) bB))) (cz rfl)
  ·exact⟨_,_,rfl,⟨_,rfl⟩,by simp only[undWs,cw];exact nR ⟨nm,gd,tb⟩ _,⟨nm,gd,tb⟩,rfl,rfl,hgl,by rw[hl,hN],ht⟩
theorem vM{ds:List Int}(hj:j<=ds.length)(hi:i<=j):j5 (iL ds) (some (i:Int)) (some (j:Int))=iL ((ds.drop i).take (j-i)):=by
 rw[LQ (by simpa[iL]using hj) hi]
 simp[iL,nC,List.map_drop]
theorem Mw{n0:Nat}{st:List ai}(h0:st[n0]?=some (.ro (ns.map W.int)))(a:Int)(gb:List Nat)(TM:5<=gb.length)(hp:gb.length<=50) :
  ∃(M:Mc) (n:Nat),nQ M n/\1<=n/\n<=9/\M.nm.length<=5/\n*n*2^M.nm.length<=200/\M.nm=BX (gb.take M.nm.length)/\AD [.loc n0,.int a,.str gb] st=.ok M.w st:=by
 suffices hh:gD (qJ fun w bv=>(∃x,bv=st++x)/\undWs st.length [w]=true/\∃(M:Mc) (n:Nat),w=M.w/\nQ M n/\1<=n/\n<=9/\M.nm.length<=5/\n*n*2^M.nm.length<=200/\M.nm=BX (gb.take M.nm.length)) (JI ([W.loc n0,.int a,.str gb].map some++List.replicate (10-3) none) st) by
  obtain⟨w,⟨M,n,rfl,h1,h2,h3,h4,h5,h6⟩,e⟩:=lp hh
  exact⟨M,n,h1,h2,h3,h4,h5,h6,e⟩
 obtain⟨c0,e0⟩:=oJ h0 a
 obtain⟨hs,hhl,hhp,e1⟩:=mF c0 1000003 10 (by omega) st
 have e1:lS [.int c0,.int 10,.int 1000003] st=_:=e1
 obtain⟨d0,d1,d2,d3,d4,dr,rfl⟩:∃a b c d e r,hs=a::b::c::d::e::r:=by
  match hs,hhl with
  |a::b::c::d::e::r,_=>exact⟨_,_,_,_,_,_,rfl⟩
 apply aG
 ·(walk_at "evs")
 generalize tQ:st++[ai.lst ((d0::d1::d2::d3::d4::dr).map W.int)]=s1
 have k1:st <+: s1:=by rw[<- tQ];exact ar _ _
 have hc1:s1[st.length]?=some (.lst (iL (d0::d1::d2::d3::d4::dr))):=by rw[<- tQ];exact bn
 clear e0 e1 tQ
 have i0:∀s:List ai,s1 <+: s->bJ (.loc st.length) (.int 0) s=.ok (.int d0) s:=fun s h=>eV (i:=0) (pre_get h hc1) rfl
 have i1:∀s:List ai,s1 <+: s->bJ (.loc st.length) (.int 1) s=.ok (.int d1) s:=fun s h=>eV (i:=1) (pre_get h hc1) rfl
 have i2:∀s:List ai,s1 <+: s->bJ (.loc st.length) (.int 2) s=.ok (.int d2) s:=fun s h=>eV (i:=2) (pre_get h hc1) rfl
 have i3:∀s:List ai,s1 <+: s->bJ (.loc st.length) (.int 3) s=.ok (.int d3) s:=fun s h=>eV (i:=3) (pre_get h hc1) rfl
 have i4:∀s:List ai,s1 <+: s->bJ (.loc st.length) (.int 4) s=.ok (.int d4) s:=fun s h=>eV (i:=4) (pre_get h hc1) rfl
 obtain⟨c,n,hc5,hn1,yd,hcn,es⟩:=EQ d0 s1
 apply aG
 ·exact EY (cL (ax (bS kv dN (i0 s1 (ae _))) bB) es rfl) rfl
 have en:=ES gb c hp (by omega) s1
 have sX:(BX (gb.take c)).length=c:=by rw[HH,a9];omega
 have hnm2:BX (gb.take c)=BX (gb.take (BX (gb.take c)).length):=by rw[sX]
 generalize BX (gb.take c)=nm at en sX hnm2
 apply aG
 ·exact bU (cL (ax kv kn) en rfl)
 obtain⟨T,hT⟩:∃T,T=n+n*n*2^c+40:=⟨_,rfl⟩
 have hnn:n*n<=81:=Nat.mul_le_mul yd yd
 obtain⟨j,x,ds,hdl,hdp,hxj,eb⟩:=BZ (pre_get k1 h0) (a+1) T 3000017 (by omega)
 have eT:(n:Int)+(n:Int)*(n:Int)*((2^c:Nat):Int)+40=(T:Int):=by rw[hT];simp only[Int.natCast_add,lU];rfl
 have cm1:yE (n:Int) (n:Int):=.inl ⟨by omega,by omega⟩
 have cm2:yE ((n:Int)*(n:Int)) ((2^c:Nat):Int):=.inl (by rw[<- lU];omega)
 rw[<- eT]at eb
 apply aG
 ·exact bU (cL (ax kv (ax (bS kv dN gA) (ax (bS (bS kv (bS (bS kv kv (r6 cm1)) (bS dN kv (wH (by omega))) (r6 cm2)) gA) dN gA) (ax dN bB)))) eb rfl)
 clear eb en es
 generalize AR:s1++x=s2
 have k2:s1 <+: s2:=by rw[<- AR];exact ar _ _
 have kt:s2[s1.length+j]?=some (.lst (iL ds)):=by rw[<- AR,dh];exact hxj
 generalize hdlo:s1.length+j=dl at kt
 have kk2:st <+: s2:=k1.trans k2
 have hT2:n+2^nm.length*(n*n)+40<=ds.length:=by rw[sX,Nat.mul_comm,hdl,hT];omega
 have h3:=i3 s2 k2
 have hnc:n*n*2^nm.length<=200:=by rw[sX];exact hcn
 generalize n*n*2^c=q1 at hcn hT
 by_cases w3:d3%3=0
 ·have t3:(d3%3==0)=true:=bT.mpr w3
  obtain⟨M,eM,hM,egr⟩:=B5 nm n dl ds s2 (by omega) hn1 yd kt (by omega) hdp
  apply gu
  ·(walk_at "evs")
  apply mY
  apply aG
  ·exact bU (cL (ax kv (ax kv kn)) egr rfl)
  apply mY
  refine qL (fun ρ s=>∃M':Mc,M'.nm=nm/\nQ M' n/\ρ=[lO n0,iO a,some (.str gb),lO st.length,iO c,iO n,some (.str nm),lO dl,some M'.w,none]/\s2 <+: s) ?_ ?_
  ·have h4:=i4 s2 k2
   by_cases w4:d4%3=0
   ·have t4:(d4%3==0)=true:=bT.mpr w4
    have sl:=At (st:=s2) (n:=dl) (l:=some 4) (h:=some 8) (aR kt)
    rw[show(some (4:Int))=some ((4:Nat):Int)from rfl,show(some (8:Int))=some ((8:Nat):Int)from rfl,vM (by omega) (by omega)]at sl
    obtain⟨M',eM',hM',esp⟩:=zl M n s2.length ((ds.drop 4).take (8-4)) (s2++[.lst (iL ((ds.drop 4).take (8-4)))]) hM hn1 (by omega) bn (by simp;omega)
    apply oG
    ·(walk_at "evs")
    apply dF
    ·exact bU (cL (ax kv (ax (DZ kv (xn dN) (xn dN) sl) bB)) esp rfl)
    ·exact⟨_,_,rfl,M',by rw[eM',eM],hM',rfl,ar _ _⟩
   ·have t4:(d4%3==0)=false:=a8.mpr w4
    apply kH
    ·(walk_at "evs")
    apply dF
    ·(walk_at "evs")
    ·exact⟨_,_,rfl,M,eM,hM,rfl,ae _⟩
  rintro ρ s3 ⟨M',eM',hM',rfl,k3⟩
  have sl:=At (st:=s3) (n:=dl) (l:=some 8) (h:=some 30) (aR (pre_get k3 kt))
  rw[show(some (8:Int))=some ((8:Nat):Int)from rfl,show(some (30:Int))=some ((30:Nat):Int)from rfl,vM (by omega) (by omega)]at sl
  obtain⟨zs,hzs,eo⟩:=EX n s3.length ((ds.drop 8).take (30-8)) (s3++[.lst (iL ((ds.drop 8).take (30-8)))]) hn1 (by omega) bn (by simp;omega)
  obtain⟨M2,eM2,Iy,ebl⟩:=EZ M' n _ dl zs ds (s3++[.lst (iL ((ds.drop 8).take (30-8)))]++[.lst (nW zs)]) hM' (by omega) hzs bn (ay (ay (pre_get k3 kt))) (by omega) (by omega) (by rw[eM',sX];omega)
  obtain⟨y,rfl⟩:=kk2.trans k3
  apply fJ
  ·exact cL (ax kv (ax (cL (ax kv (ax dN (ax (DZ kv (xn dN) (xn dN) sl) bB))) eo rfl) kn)) ebl rfl
  ·exact⟨_,_,rfl,⟨_,by rw[aO,aO]⟩,by simp only[undWs,cw];exact nR _ _,M2,n,rfl,Iy,hn1,yd,by rw[eM2,eM',sX];exact hc5,by rw[eM2,eM'];exact hnc,by rw[eM2,eM'];exact hnm2⟩
 ·have t3:(d3%3==0)=false:=a8.mpr w3
  apply bN
  ·(walk_at "evs")
  apply bV
  apply aG
  ·(walk_at "evs")
  have h1:=i1 s2 k2
  have h2:=i2 s2 k2
  have pn:(0:Int)<(n:Int):=by omega
  refine qL (fun ρ s=>∃top:Nat,1<=top/\top<=n/\ρ=[lO n0,iO a,some (.str gb),lO st.length,iO c,iO n,some (.str nm),lO dl,none,iO top]/\s=s2) ?_ ?_
  ·by_cases w1:d1%3=0
   ·have t1:(d1%3==0)=true:=bT.mpr w1
    obtain⟨q,hq,eq⟩:=fN (q:=d2) (n:=n) (by omega)
    apply oG
    ·(walk_at "evs")
    apply dF
    ·exact bU (bS dN (bS (bS kv dN h2) kv (lh pn)) gA)
    ·rw[eq];exact⟨_,_,rfl,1+q,by omega,by omega,rfl,rfl⟩
   ·have t1:(d1%3==0)=false:=a8.mpr w1
    apply kH
    ·(walk_at "evs")
    apply dF
    ·(walk_at "evs")
    ·exact⟨_,_,rfl,n,hn1,av _,rfl,rfl⟩
  rintro ρ s3 ⟨top,S_,NF,rfl,rfl⟩
  obtain⟨M,eM,hM,em⟩:=zm nm n top dl ds s3 (by omega) hn1 yd S_ NF kt (by omega)
  obtain⟨y,rfl⟩:=kk2
  apply dC
  ·exact cL (ax kv (ax kv (ax kv kn))) em rfl
  ·exact⟨_,_,rfl,⟨_,rfl⟩,by simp only[undWs,cw];exact nR _ _,M,n,rfl,hM,hn1,yd,by rw[eM,sX];exact hc5,by rw[eM];exact hnc,by rw[eM];exact hnm2⟩
structure Wy where
 s:Nat
 l:Nat
 r:Nat
 a:Nat
def Wy.z(p:Wy):List Int:=[(p.s:Int),(p.l:Int),(p.r:Int),(p.a:Int)]
def Wy.lt(p q:Wy):Prop:=p.s<q.s\/p.s=q.s/\(p.l<q.l\/p.l=q.l/\(p.r<q.r\/p.r=q.r/\p.a<q.a))
theorem Wy.lex(p q:Wy):HT.lexLt p.z q.z=true↔p.lt q:=by
 obtain⟨a,b,c,d⟩:=p
 obtain⟨e,f,g,h⟩:=q
 simp only[Wy.z,Wy.lt,HT.lexLt_cons,HT.lexLt_nil_nil]
 by_cases h1:(a:Int)=e
 ·rw[aw h1]
  by_cases h2:(b:Int)=f
  ·rw[aw h2]
   by_cases h3:(c:Int)=g
   ·rw[aw h3]
    by_cases h4:(d:Int)=h
    ·rw[aw h4];constructor
     ·intro z;cases z
     ·intro z;omega
    ·rw[aD h4,bQ];omega
   ·rw[aD h3,bQ];omega
  ·rw[aD h2,bQ];omega
 ·rw[aD h1,bQ];omega
theorem Mx{a b c:Nat}{A B C:Prop}(t:A->B->C)(h1:a<b\/a=b/\A)(h2:b<c\/b=c/\B):a<c\/a=c/\C:=by
 rcases h1 with z|⟨rfl,p⟩
 ·rcases h2 with y|⟨rfl,_⟩
  ·exact .inl (o_ z y)
  ·exact .inl z
 ·rcases h2 with y|⟨rfl,q⟩
  ·exact .inl y
  ·exact .inr ⟨rfl,t p q⟩
theorem Wy.trans{p q r:Wy}(h1:p.lt q)(h2:q.lt r):p.lt r:=Mx (Mx (Mx o_)) h1 h2
theorem Wy.irr(p:Wy):¬ p.lt p:=fun h=>by
 rcases h with z|⟨_,z|⟨_,z|⟨_,z⟩⟩⟩<;>exact bq _ z
theorem Wy.tri{p q:Wy}(h1:¬ p.lt q)(h2:¬ q.lt p):p=q:=by
 obtain⟨a,b,c,d⟩:=p
 obtain⟨e,f,g,h⟩:=q
 obtain rfl:a=e:=fS (c7 fun z=>h2 (.inl z)) (c7 fun z=>h1 (.inl z))
 obtain rfl:b=f:=fS (c7 fun z=>h2 (.inr ⟨rfl,.inl z⟩)) (c7 fun z=>h1 (.inr ⟨rfl,.inl z⟩))
 obtain rfl:c=g:=fS (c7 fun z=>h2 (.inr ⟨rfl,.inr ⟨rfl,.inl z⟩⟩)) (c7 fun z=>h1 (.inr ⟨rfl,.inr ⟨rfl,.inl z⟩⟩))
 obtain rfl:d=h:=fS (c7 fun z=>h2 (.inr ⟨rfl,.inr ⟨rfl,.inr ⟨rfl,z⟩⟩⟩)) (c7 fun z=>h1 (.inr ⟨rfl,.inr ⟨rfl,.inr ⟨rfl,z⟩⟩⟩))
 rfl
theorem Wy.ge{p q r:Wy}(h:p.lt q)(n:¬ r.lt q):p.lt r:=by
 by_cases z:q.lt r
 ·exact Wy.trans h z
 ·exact Wy.tri z n▸h
theorem Wy.gt{p q r:Wy}(n:¬ q.lt p)(h:q.lt r):p.lt r:=by
 by_cases z:p.lt q
 ·exact Wy.trans z h
 ·exact Wy.tri z n▸h
abbrev Ro:=Nat×Wy
abbrev My(T:Nat->Nat->Nat->Nat)(L:Nat)(E:List Ro)(p:Ro):Prop:=∃el er:Ro,E[p.2.l]?=some el/\E[p.2.r]?=some er/\p.2.a<L/\T p.2.a el.1 er.1=p.1/\p.2.s=el.2.s+er.2.s+1
structure gX(T:Nat->Nat->Nat->Nat)(L N:Nat)(E:List Ro):Prop where
 zero:∃r,E=(0,⟨0,0,0,0⟩)::r
 lt:∀e∈E,e.1<N
 nd:(E.map Prod.fst).Nodup
 row:∀(i:Nat) (e:Ro),E[i]?=some e->0<i->e.2.l<i/\e.2.r<i/\My T L E e
 rise:∀(i:Nat) (e f:Ro),E[i]?=some e->E[i+1]?=some f->e.2.lt f.2
structure xL(T:Nat->Nat->Nat->Nat)(L N:Nat)(E B:List Ro):Prop where
 nd:(B.map Prod.fst).Nodup
 ok:∀p∈B,My T L E p/\p.1∉E.map Prod.fst/\p.1<N
 up:∀p∈B,∀e,E[E.length-1]?=some e->e.2.lt p.2
abbrev nh(l r a:Nat)(el er:Ro):Wy:=⟨el.2.s+er.2.s+1,l,r,a⟩
def Ga(T:Nat->Nat->Nat->Nat)(E B:List Ro)(l r a:Nat):Prop:=∀el er,E[l]?=some el->E[r]?=some er->(∃(i:Nat) (e:Ro),E[i]?=some e/\e.1=T a el.1 er.1/\¬ (nh l r a el er).lt e.2)\/∃p∈B,p.1=T a el.1 er.1/\¬ (nh l r a el er).lt p.2
section
variable{E B:List Ro}
theorem gX.mono(h:gX T L N E):∀(k i:Nat) (e f:Ro),E[i]?=some e->E[i+k]?=some f->e.2.s<=f.2.s
 |0,i,e,f,h1,h2=>by rw[i9,h1]at h2;cases h2;exact av _
 |k+1,i,e,f,h1,h2=>by
  have hk:i+k<E.length:=by have:=(aa.mp h2).1;omega
  have e1:E[i+k]?=some E[i+k]:=ac hk
  have a:=h.mono k i e _ h1 e1
  have b:=h.rise (i+k) _ f e1 (by rw[<- h2];congr 1)
  unfold Wy.lt at b
  omega
theorem gX.top(h:gX T L N E){e f:Ro}(h1:E[i]?=some e)(h2:E[E.length-1]?=some f):e.2.s<=f.2.s:=by
 have hi:=(aa.mp h1).1
 exact h.mono (E.length-1-i) i e f h1 (by rw[show i+(E.length-1-i)=E.length-1 by omega];exact h2)
theorem gX.len(h:gX T L N E):E.length<=N:=by
 have:=j8 (l:=List.range N) h.nd fun c hc=>by
  obtain⟨e,he,rfl⟩:=am.mp hc
  exact a_.mpr (h.lt e he)
 simpa using this
theorem gX.len0(h:gX T L N E):0<E.length:=by obtain⟨r,e⟩:=h.zero;rw[e];simp
theorem xL.len(h:xL T L N E B):B.length<=N:=by
 have:=j8 (l:=List.range N) h.nd fun c hc=>by
  obtain⟨e,he,rfl⟩:=am.mp hc
  exact a_.mpr (h.ok e he).2.2
 simpa using this
theorem AG(h:(B.map Prod.fst).Nodup):∀{p q:Ro},p∈B->q∈B->p.1=q.1->p=q:=by
 induction B with
 |nil=>intro p q hp;cases hp
 |cons b B ih=>
  intro p q hp hq e
  simp only[aC,bx]at h
  rcases aJ.mp hp with rfl|hp'<;>rcases aJ.mp hq with rfl|hq'
  ·rfl
  ·exact(h.1 (am.mpr ⟨q,hq',e.symm⟩)).elim
  ·exact(h.1 (am.mpr ⟨p,hp',e⟩)).elim
  ·exact ih h.2 hp' hq' e
theorem My.app{x:List Ro}{p:Ro}(h:My T L E p):My T L (E++x) p:=by
 obtain⟨el,er,h1,h2,h3⟩:=h
 exact⟨el,er,by rw[aq (aa.mp h1).1];exact h1,by rw[aq (aa.mp h2).1];exact h2,h3⟩
def pL(B:List Ro)(p:Ro):List Ro:=if p.1∈B.map Prod.fst then B.map fun q=>if q.1=p.1 then p else q else B++[p]
theorem xM{p q:Ro}(h:q∈pL B p):q=p\/q∈B/\q.1≠p.1:=by
 unfold pL at h
 split at h
 ·obtain⟨x,hx,e⟩:=am.mp h
  split at e
  ·exact .inl e.symm
  ·rename_i hn;subst e;exact .inr ⟨hx,hn⟩
 ·rename_i hn
  rcases aH.mp h with h|h
  ·exact .inr ⟨h,fun e=>hn (am.mpr ⟨q,h,e⟩)⟩
  ·exact .inl (bd.mp h)
theorem xN{p:Ro}:p∈pL B p:=by
 unfold pL
 split
 ·rename_i h
  obtain⟨x,hx,e⟩:=am.mp h
  exact am.mpr ⟨x,hx,by rw[aw e]⟩
 ·exact aH.mpr (.inr (bd.mpr rfl))
theorem E0{p q:Ro}(h:q∈B)(hn:q.1≠p.1):q∈pL B p:=by
 unfold pL
 split
 ·exact am.mpr ⟨q,h,by rw[aD hn]⟩
 ·exact aH.mpr (.inl h)
theorem HP{p:Ro}(h:(B.map Prod.fst).Nodup):((pL B p).map Prod.fst).Nodup:=by
 unfold pL
 split
 ·rw[aL]
  have e:B.map (Prod.fst∘fun q:Ro=>if q.1=p.1 then p else q)=B.map Prod.fst:=by
   refine aZ fun q _=>?_
   show(if q.1=p.1 then p else q).1=q.1
   split
   ·rename_i e;exact e.symm
   ·rfl
  rw[e];exact h
 ·rename_i hn
  rw[cG,cN]
  refine⟨h,by simp,fun a ha b hb=>?_⟩
  simp only[aC,dk,bd]at hb
  subst hb
  exact fun z=>hn (z▸ha)
def E5(E B:List Ro)(p:Ro)(B':List Ro):Prop:=(p.1∈E.map Prod.fst/\B'=B)\/(p.1∉E.map Prod.fst/\(∃q∈B,q.1=p.1/\¬ p.2.lt q.2)/\B'=B)\/(p.1∉E.map Prod.fst/\(∀q∈B,q.1=p.1->p.2.lt q.2)/\B'=pL B p)
theorem E6(h:gX T L N E)(b:xL T L N E B){B':List Ro}{p:Ro}(hw:My T L E p)(hN:p.1<N)(pU:p.2.l=E.length-1\/p.2.r=E.length-1)(o:E5 E B p B'):xL T L N E B':=by
 rcases o with⟨_,rfl⟩|⟨_,_,rfl⟩|⟨h1,h2,rfl⟩
 ·exact b
 ·exact b
 ·refine⟨HP b.nd,fun q hq=>?_,fun q hq e he=>?_⟩
  ·rcases xM hq with rfl|⟨hq,_⟩
   ·exact⟨hw,h1,hN⟩
   ·exact b.ok q hq
  ·rcases xM hq with rfl|⟨hq,_⟩
   ·obtain⟨el,er,e1,e2,_,_,e5⟩:=hw
    rcases pU with z|z
    ·rw[z,he]at e1;cases e1
     unfold Wy.lt;omega
    ·rw[z,he]at e2;cases e2
     unfold Wy.lt;omega
   ·exact b.up q hq e he
theorem HQ{l r a:Nat}{B':List Ro}{p:Ro}(o:E5 E B p B')(b:(B.map Prod.fst).Nodup)(c:Ga T E B l r a):Ga T E B' l r a:=by
 rcases o with⟨_,rfl⟩|⟨_,_,rfl⟩|⟨h1,h2,rfl⟩
 ·exact c
 ·exact c
 ·intro el er e1 e2
  rcases c el er e1 e2 with x|⟨q,hq,e,n⟩
  ·exact .inl x
  ·by_cases z:q.1=p.1
   ·have:=h2 q hq z
    exact .inr ⟨p,xN,z▸e,fun y=>n (Wy.trans y this)⟩
   ·exact .inr ⟨q,E0 hq z,e,n⟩
theorem E7(h:gX T L N E){l r a:Nat}{B':List Ro}{el er:Ro}(e1:E[l]?=some el)(e2:E[r]?=some er)(pU:l=E.length-1\/r=E.length-1)(o:E5 E B (T a el.1 er.1,nh l r a el er) B'):Ga T E B' l r a:=by
 intro el' er' f1 f2
 rw[e1]at f1;rw[e2]at f2
 cases f1;cases f2
 rcases o with⟨h1,rfl⟩|⟨_,⟨q,hq,e,n⟩,rfl⟩|⟨h1,h2,rfl⟩
 ·obtain⟨x,hx,e⟩:=am.mp h1
  obtain⟨i,hi⟩:=aU hx
  refine .inl ⟨i,x,hi,e,fun z=>?_⟩
  rcases pU with y|y
  ·have:=h.top hi (by rw[<- y];exact e1)
   unfold Wy.lt at z;simp only at z;omega
  ·have:=h.top hi (by rw[<- y];exact e2)
   unfold Wy.lt at z;simp only at z;omega
 ·exact .inr ⟨q,hq,e,n⟩
 ·exact .inr ⟨_,xN,rfl,fun z=>by unfold Wy.lt at z;simp only at z;omega⟩
theorem B6(h:gX T L N E)(b:xL T L N E B){p:Ro}(hp:p∈B):gX T L N (E++[p]):=by
 obtain⟨w,hn,hN⟩:=b.ok p hp
 obtain⟨r,hr⟩:=h.zero
 refine⟨⟨r++[p],by rw[hr];rfl⟩,fun e he=>?_,?_,fun i e he hi=>?_,fun i e f h1 h2=>?_⟩
 ·rcases aH.mp he with he|he
  ·exact h.lt e he
  ·rw[bd.mp he];exact hN
 ·rw[cG,cN]
  refine⟨h.nd,by simp,fun a ha c hc=>?_⟩
  simp only[aC,dk,bd]at hc
  subst hc
  exact fun z=>hn (z▸ha)
 ·by_cases hl:i<E.length
  ·rw[aq hl]at he
   obtain⟨a,c,d⟩:=h.row i e he hi
   exact⟨a,c,d.app⟩
  ·have:i=E.length:=by have:=(aa.mp he).1;simp at this;omega
   subst this
   rw[bD]at he;cases he
   obtain⟨el,er,e1,e2,e3⟩:=w
   exact⟨(aa.mp e1).1,(aa.mp e2).1,My.app ⟨el,er,e1,e2,e3⟩⟩
 ·by_cases hl:i+1<E.length
  ·rw[aq hl]at h2
   rw[aq (by omega)]at h1
   exact h.rise i e f h1 h2
  ·have:i+1=E.length:=by have:=(aa.mp h2).1;simp at this;omega
   rw[this,bD]at h2;cases h2
   rw[aq (by omega)]at h1
   exact b.up p hp e (by rw[<- h1];congr 1;omega)
theorem B8(h:gX T L N E)(b:xL T L N E B){p:Ro}(hp:p∈B)(M7:∀q∈B,¬ q.2.lt p.2):xL T L N (E++[p]) (B.filter fun q=>decide (q.1≠p.1)):=by
 refine⟨(List.Nodup.sublist (List.filter_sublist.map _) b.nd),fun q hq=>?_,fun q hq e he=>?_⟩
 ·obtain⟨hq,lx⟩:=du.mp hq
  obtain⟨w,hn,hN⟩:=b.ok q hq
  refine⟨w.app,?_,hN⟩
  rw[cG,aH]
  rintro(z|z)
  ·exact hn z
  ·simp only[aC,dk,bd]at z
   exact hX lx z
 ·obtain⟨hq,lx⟩:=du.mp hq
  have he:(E++[p])[E.length]?=some e:=by rw[<- he];congr 1;simp
  rw[bD]at he;cases he
  have h1:=M7 q hq
  obtain⟨el,er,a1,a2,a3,a4,a5⟩:=(b.ok q hq).1
  obtain⟨fl,fr,c1,c2,c3,c4,c5⟩:=(b.ok p hp).1
  obtain⟨q1,⟨s,l,r,a⟩⟩:=q
  obtain⟨p1,⟨s',l',r',a'⟩⟩:=p
  simp only at a1 a2 a3 a4 a5 c1 c2 c3 c4 c5
  by_cases z:l=l'/\r=r'/\a=a'
  ·obtain⟨rfl,rfl,rfl⟩:=z
   rw[a1]at c1;rw[a2]at c2
   cases c1;cases c2
   exact(hX lx (a4.symm.trans c4)).elim
  ·by_cases y:Wy.lt ⟨s',l',r',a'⟩ ⟨s,l,r,a⟩
   ·exact y
   ·have:=Wy.tri h1 y
    cases this
    exact(z ⟨rfl,rfl,rfl⟩).elim
theorem E8{l r a:Nat}{p:Ro}(hp:p∈B)(nd:(B.map Prod.fst).Nodup)(hl:l<E.length)(hr:r<E.length)(c:Ga T E B l r a):Ga T (E++[p]) (B.filter fun q=>decide (q.1≠p.1)) l r a:=by
 intro el er e1 e2
 rw[aq hl]at e1
 rw[aq hr]at e2
 rcases c el er e1 e2 with⟨i,e,f1,f2,f3⟩|⟨q,hq,f2,f3⟩
 ·exact .inl ⟨i,e,by rw[aq (aa.mp f1).1];exact f1,f2,f3⟩
 ·by_cases z:q.1=p.1
  ·obtain rfl:=AG nd hq hp z
   exact .inl ⟨E.length,q,bD,f2,f3⟩
  ·exact .inr ⟨q,du.mpr ⟨hq,bp z⟩,f2,f3⟩
end
def dI(f:α->Nat)(g:α->W)(l:List α):List (DK×W):=l.map fun a=>(DK.i (f a:Nat),g a)
section
variable{f:α->Nat}{g:α->W}{l:List α}
theorem zn(q:Nat)(a:α):decide ((DK.i (f a:Nat))=DK.i (q:Nat))=decide (f a=q):=by
 rw[iT,bQ,bQ]
 constructor
 ·intro h;injection h with h;omega
 ·intro h;rw[h]
theorem E9(q:Nat):iB (dI f g l) (.i q)=(l.find? fun a=>decide (f a=q)).map g:=by
 unfold iB dI
 rw[List.find?_map]
 simp only[dR,zn,Option.map_map]
theorem AH(q:Nat):(iB (dI f g l) (.i q)).isSome=decide (q∈l.map f):=by
 rw[E9,jU,iT,List.find?_isSome,bQ,am]
 simp
theorem E_{a:α}(h:(l.map f).Nodup)(ha:a∈l):iB (dI f g l) (.i (f a:Nat))=some (g a):=by
 rw[E9]
 induction l with
 |nil=>cases ha
 |cons b l ih=>
  simp only[aC,bx]at h
  rw[bz]
  rcases aJ.mp ha with rfl|lT
  ·simp
  ·have:f b≠f a:=fun z=>h.1 (z▸am.mpr ⟨a,lT,rfl⟩)
   rw[show decide (f b=f a)=false from a7 this]
   exact ih h.2 lT
theorem vN{a:α}(h:f a∉l.map f):rK (dI f g l) (.i (f a:Nat)) (g a)=dI f g (l++[a]):=by
 unfold rK
 rw[aD]
 ·unfold dI;rw[cG];rfl
 ·intro z
  unfold dI at z
  rw[List.any_map,kO]at z
  obtain⟨x,hx,e⟩:=z
  simp only[dR,zn,bQ]at e
  exact h (am.mpr ⟨x,hx,e⟩)
theorem HR(q:Nat):jm (dI f g l) (.i q)=dI f g (l.filter fun a=>decide (f a≠q)):=by
 unfold jm dI
 rw[List.filter_map]
 congr 1
 refine List.filter_congr fun a _=>?_
 show decide ((DK.i (f a:Nat))≠DK.i (q:Nat))=decide (f a≠q)
 rw[decide_not,zn,decide_not]
theorem mG:(dI f g l).length=l.length:=by simp[dI]
end
def vO(w:Wy):W:=.tup (w.z.map W.int)
abbrev bW(B:List Ro):List (DK×W):=dI (fun p:Ro=>p.1) (fun p=>vO p.2) B
abbrev tW(E:List Ro):List (DK×W):=dI (fun p:Ro=>p.1) (fun _=>W.bl true) E
theorem Mz(B:List Ro)(p:Ro):rK (bW B) (.i (p.1:Nat)) (vO p.2)=bW (pL B p):=by
 by_cases h:p.1∈B.map Prod.fst
 ·unfold pL
  rw[aw h]
  unfold rK
  rw[aw]
  ·unfold bW dI
   rw[aL,aL]
   refine aZ fun q _=>?_
   show(if DK.i (q.1:Nat)=DK.i (p.1:Nat)then _ else _)=_
   by_cases e:q.1=p.1
   ·rw[aw (by rw[e])]
    show _=(DK.i ((if q.1=p.1 then p else q).1:Nat),vO (if q.1=p.1 then p else q).2)
    rw[aw e];show(DK.i (q.1:Nat),_)=_;rw[e]
   ·rw[aD (by intro z;injection z with z;omega)]
    show _=(DK.i ((if q.1=p.1 then p else q).1:Nat),vO (if q.1=p.1 then p else q).2)
    rw[aD e]
  ·unfold bW dI
   rw[List.any_map,kO]
   obtain⟨x,hx,e⟩:=am.mp h
   exact⟨x,hx,by simp only[dR,bQ];rw[e]⟩
 ·unfold pL
  rw[aD h]
  exact vN (f:=fun p:Ro=>p.1) (g:=fun p=>vO p.2) (a:=p) h
theorem sA:∀B:List Ro,i7 (bW B)=some (B.map fun p=>p.2.z)
 |[]=>rfl
 |p::B=>by
  show(match yQ (vO p.2),i7 (bW B)with|some a,some b=>some (a::b)|_,_=>none)=_
  rw[sA B];rfl
theorem xO(B:List Ro):∀j,j<B.length->∃p,B[jp (fun a=>(B.map fun p=>p.2.z).getD a []) j]?=some p/\∀i q,i<=j->B[i]?=some q->¬ q.2.lt p.2
 |0,h=>⟨B[0],ac h,fun i q hi hq=>by
   obtain rfl:i=0:=by omega
   rw[ac h]at hq;cases hq
   exact Wy.irr _⟩
 |j+1,h=>by
  obtain⟨p,hp,hm⟩:=xO B j (by omega)
  have hj:B[j+1]?=some B[j+1]:=ac h
  have kz:∀(i:Nat) (q:Ro),B[i]?=some q->(B.map fun p=>p.2.z).getD i []=q.2.z:=fun i q e=>by
   rw[az,al,e];rfl
  unfold jp
  simp only[kz _ _ hj,kz _ _ hp]
  split
  ·rename_i z
   rw[Wy.lex]at z
   refine⟨B[j+1],hj,fun i q hi hq=>?_⟩
   rcases cD i (j+1)with y|y
   ·have:=hm i q (by omega) hq
    exact fun y=>this (Wy.trans y z)
   ·obtain rfl:i=j+1:=by omega
    rw[hj]at hq;cases hq
    exact Wy.irr _
  ·rename_i z
   refine⟨p,hp,fun i q hi hq=>?_⟩
   rcases cD i (j+1)with y|y
   ·exact hm i q (by omega) hq
   ·obtain rfl:i=j+1:=by omega
    rw[hj]at hq;cases hq
    intro y;exact z ((Wy.lex _ _).mpr y)
section
variable{st:List ai}{kvs:List (DK×W)}
theorem fw(h:st[n]?=some (.dct kvs)):ga st (.loc n)=some (n,kvs):=by simp only[ga,h]
theorem vP(h:st[n]?=some (.dct kvs)):qv st (.loc n)=some (n,kvs):=by simp only[qv,h]
theorem AI{q:Nat}{FQ b:Bool}(h:ga st (.loc n)=some (n,kvs))(hb:(if FQ then !(iB kvs (.i q)).isSome else(iB kvs (.i q)).isSome)=b):vh FQ (.int q) (.loc n) st=.ok (.bl b) st:=by
 rw[<- hb];simp only[vh,h,ie]
theorem oK{q:Nat}{w:W}(h:ga st (.loc n)=some (n,kvs))(hb:iB kvs (.i q)=some w):kE (.loc n) (.int q) st=.ok w st:=by
 simp only[kE,h,ie,hb,cA]
theorem vQ{q:Nat}{v:W}(h:st[n]?=some (.dct kvs))(hl:kvs.length<jh):jo (.loc n) (.int q) v st=some (st.set n (.dct (rK kvs (.i q) v))):=by
 simp only[jo,vP h,ie];rw[aw hl]
theorem zo(h:ga st (.loc n)=some (n,kvs)):rL [.loc n] st=.ok (.int kvs.length) st:=by
 simp only[rL,h]
theorem MA{fk:FE}{q:Nat}{w:W}(h1:fo ρ st=.ok (.loc n) st)(h2:fk ρ st=.ok (.int q) st)(h:st[n]?=some (.dct kvs))(hg:iB kvs (.i q)=some w):Ae fo fk ρ st=.ok w (st.set n (.dct (jm kvs (.i q)))):=by
 unfold Ae
 rw[h1];simp only[R.bind_ok,vP h]
 rw[h2];simp only[R.bind_ok,vP h,ie,hg,cA]
theorem HS{T:Addr}{q:Str}{ks:List (List Int)}{p:DK×W}(h0:ρ[i]?=some (lO n))(h:st[n]?=some (.dct kvs))(hk:i7 kvs=some ks)(ht:st[j]?=some (.tab T pos q))(hp:kvs[jp (fun a=>ks.getD a []) (kvs.length-1)]?=some p) :
  rN i j T pos q ρ st=.ok p.1.w st:=by
 unfold rN
 rw[h0];simp only[vP h,hk]
 rw[aw (show p_ st j T pos q from ht),hp];rfl
theorem Qc{w v:Wy}{b:Bool}(h:HT.lexLt w.z v.z=b):BF (vO w) (vO v) st=.ok (.bl b) st:=by
 rw[<- h];rfl
theorem HU{body:FS}{c:Nat}{d:ai}(hc:c<st.length)(hd:d.und st.length=true)(h:gD (F' fun _ bv=>∃x,bv=st.set c d++x) (body (ws.map some++List.replicate (N-ws.length) none) st)):eA N body ws st=.ok .non (st.set c d):=by
 obtain⟨ρ',bv,e,x,rfl⟩:=h
 unfold eA
 rw[e]
 show R.ok W.non (g6 st (st.set c d++x) [.non])=_
 unfold g6
 rw[aw]
 ·congr 1
  rw[List.take_append_of_le_length (by simp),b_ (by simp)]
 ·refine⟨rfl,by simp,fun i hi=>?_⟩
  rw[aq (by simpa using hi)]
  by_cases z:c=i
  ·subst z
   exact .inr ⟨d,by rw[bi hi],hd⟩
  ·exact .inl (by rw[bH z])
end
theorem oM{st:List ai}{P:RS->Prop}{f:FG}{body:FS}{k:yH}(I:Nat->bY->List ai->Prop)(h:fi ρ st=.ok k st1)(h0:I 0 ρ st1)(hc:∀i ρ st,I i ρ st->iW st k.2)
  (hs:∀i w ρ st,k.1[i]?=some w->I i ρ st->∃ρ',f w ρ=some ρ'/\gD (F' (I (i+1))) (body ρ' st)) (he:∀ρ st,I k.1.length ρ st->P (.nx ρ st)):gD P (fg fi f body ρ st):=by
 obtain⟨ρ2,cH,e,h2⟩:=rX (f:=f) (body:=body) (ck:=k.2) I (ws:=k.1) (ρ:=ρ) (st:=st1) 0 h0 hc fun i w ρ st hw hI=>by
  rw[fP]at hI ⊢
  obtain⟨ρ',e1,ρ2,cH,e2,h2⟩:=hs i w ρ st hw hI
  exact⟨ρ',ρ2,cH,e1,e2,h2⟩
 rw[fP]at h2
 rw[Aq h,e];exact he _ _ h2
def wb(n:Nat):List (Nat×Nat):=(List.range (n+1)).map (fun o=>(n,o))++(List.range n).map (fun o=>(o,n))
def MB(p:Nat×Nat):W:=.tup [.int (p.1:Nat),.int (p.2:Nat)]
theorem sB(q:Nat)(F:W->β):(bA 0 q).map F=(List.range q).map fun i=>F (.int (i:Nat)):=by
 unfold bA
 rw[aL]
 refine aZ fun i _=>?_
 show F (.int (0+(i:Int)))=_
 rw[gz]
theorem Fa(n:Nat)(hn:n<=1000)(st:List ai):∃x y,EM [.int n] st=.ok (.loc (st.length+2)) (st++[.lst x,.lst y,.lst ((wb n).map MB)]):=by
 refine⟨List.map (fun w=>W.tup [.int n,w]) (bA 0 ((n:Int)+1).toNat),List.map (fun w=>W.tup [w,.int n]) (bA 0 (n:Int).toNat),xk (N:=1) (body:=PN) (ws:=[.int n]) (k:=2) ?_⟩
 refine nu ?_
 refine bS (f7 (fun w=>.tup [.int n,w]) (dD (ax (bS kv dN gA) bB) (by omega)) ?_ trivial ?_) (f7 (fun w=>.tup [w,.int n]) (dD kn (by omega)) ?_ trivial ?_) ?_
 ·rw[bA,aj,dm];show _<=1000000;omega
 ·intro w hw
  exact⟨_,rfl,(by(walk_at "evs"))⟩
 ·rw[bA,aj,dm];show _<=1000000;omega
 ·intro w hw
  exact⟨_,rfl,(by(walk_at "evs"))⟩
 ·have ea:(wb n).map MB=List.map (fun w=>W.tup [.int n,w]) (bA 0 ((n:Int)+1).toNat)++List.map (fun w=>W.tup [w,.int n]) (bA 0 (n:Int).toNat):=by
   rw[sB,sB,wb,cG,aL,aL]
   rfl
  rw[D2 (ws:=List.map (fun w=>W.tup [.int n,w]) (bA 0 ((n:Int)+1).toNat)) (xs:=List.map (fun w=>W.tup [w,.int n]) (bA 0 (n:Int).toNat)) (ay (by rw[cB];rfl)) (by rw[cB];rfl),ea]
  ·simp
  ·simp[bA];show _<=1000000;omega
theorem MC{p:Nat×Nat}(h:(wb n)[i]?=some p):p.1<=n/\p.2<=n/\(p.1=n\/p.2=n):=by
 have:=ak h
 unfold wb at this
 rcases aH.mp this with h|h
 ·obtain⟨o,ho,rfl⟩:=am.mp h
  have:=a_.mp ho
  exact⟨av _,by simp only;omega,.inl rfl⟩
 ·obtain⟨o,ho,rfl⟩:=am.mp h
  have:=a_.mp ho
  exact⟨by simp only;omega,av _,.inr rfl⟩
theorem HW{n l r:Nat}(hl:l<=n)(hr:r<=n)(h:l=n\/r=n):∃i:Nat,i<(wb n).length/\(wb n)[i]?=some (l,r):=by
 have:(l,r)∈wb n:=by
  unfold wb
  rw[aH]
  by_cases z:l=n
  ·subst z
   exact .inl (am.mpr ⟨r,a_.mpr (by omega),rfl⟩)
  ·have:r=n:=by omega
   subst this
   exact .inr (am.mpr ⟨l,a_.mpr (by omega),rfl⟩)
 obtain⟨i,hi⟩:=aU this
 exact⟨i,(aa.mp hi).1,hi⟩
def uG(E:List Ro)(i:Nat)(e:Ro)(w:W):Prop:=(i=0/\w=.tup [.int (e.1:Nat),.int (e.2.s:Nat),.tup []])\/(0<i/\∃el er:Ro,E[e.2.l]?=some el/\E[e.2.r]?=some er/\w=.tup [.int (e.1:Nat),.int (e.2.s:Nat),.tup [.int (el.1:Nat),.int (er.1:Nat),.int (e.2.a:Nat)]])
structure Rows(E:List Ro)(R:List W):Prop where
 len:R.length=E.length
 at':∀(i:Nat) (e:Ro),E[i]?=some e->∃w,R[i]?=some w/\uG E i e w
theorem uG.sh{E:List Ro}{e:Ro}{w:W}(h:uG E i e w):∃t,w=.tup [.int (e.1:Nat),.int (e.2.s:Nat),t]:=by
 rcases h with⟨_,rfl⟩|⟨_,_,_,_,_,rfl⟩<;>exact⟨_,rfl⟩
theorem uG.app{E x:List Ro}{e:Ro}{w:W}(h:uG E i e w):uG (E++x) i e w:=by
 rcases h with h|⟨h0,el,er,h1,h2,h3⟩
 ·exact .inl h
 ·exact .inr ⟨h0,el,er,by rw[aq (aa.mp h1).1];exact h1,by rw[aq (aa.mp h2).1];exact h2,h3⟩
def bL(M:Mc)(a l r:Nat):Nat:=((M.tb.getD a []).getD l []).getD r 0
section
variable{M:Mc}
theorem sD(hM:nQ M N){a:Nat}(ht:M.tb[a]?=some t){l r:Nat}(hl:l<N)(hr:r<N):∃row,t[l]?=some row/\row[r]?=some (bL M a l r)/\bL M a l r<N:=by
 obtain⟨t1,t2⟩:=hM.t t (ak ht)
 have hl':l<t.length:=by omega
 have e1:t[l]?=some t[l]:=ac hl'
 obtain⟨r1,r2⟩:=t2 t[l] (gw hl')
 have hr':r<t[l].length:=by omega
 have e2:t[l][r]?=some t[l][r]:=ac hr'
 have e3:bL M a l r=t[l][r]:=by
  unfold bL
  rw[az,az,az,ht]
  simp only[Option.getD_some,e1,e2]
 exact⟨t[l],e1,by rw[e2,e3],by rw[e3];exact r2 _ (gw hr')⟩
theorem uH{l:Nat}{row:List Nat}{st:List ai}(h:t[l]?=some row):bJ (dE t) (.int (l:Nat)) st=.ok (gE row) st:=by
 unfold dE;exact jt (d6 (by rw[al,h];rfl))
theorem uI{row:List Nat}{r k:Nat}{st:List ai}(h:row[r]?=some k):bJ (gE row) (.int (r:Nat)) st=.ok (.int (k:Nat)) st:=by
 unfold gE;exact jt (d6 (by rw[al,h];rfl))
end
structure Go(T:Nat->Nat->Nat->Nat)(L N:Nat)(E B:List Ro)(D:Nat->Nat->Nat->Prop):Prop where
 best:xL T L N E B
 cov:∀l r a,D l r a->Ga T E B l r a
theorem Go.imp{E B:List Ro}{D D':Nat->Nat->Nat->Prop}(g:Go T L N E B D)(h:∀l r a,D' l r a->D l r a):Go T L N E B D':=⟨g.best,fun l r a d=>g.cov l r a (h l r a d)⟩
theorem Go.one{E B B':List Ro}{D:Nat->Nat->Nat->Prop}(h:gX T L N E)(g:Go T L N E B D){l r a:Nat}{el er:Ro}(e1:E[l]?=some el)(e2:E[r]?=some er)(ha:a<L)(hN:T a el.1 er.1<N)
  (pU:l=E.length-1\/r=E.length-1) (o:E5 E B (T a el.1 er.1,nh l r a el er) B'):Go T L N E B' (fun l' r' a'=>D l' r' a'\/l'=l/\r'=r/\a'=a):=
 ⟨E6 h g.best ⟨el,er,e1,e2,ha,rfl,rfl⟩ hN pU o,fun l' r' a' d=>by
  rcases d with d|⟨rfl,rfl,rfl⟩
  ·exact HQ o g.best.nd (g.cov _ _ _ d)
  ·exact E7 h e1 e2 pU o⟩
theorem xP(n:Nat):∀l:List Int,undWs n (l.map W.int)=true
 |[]=>rfl
 |_::l=>by simp only[aC,undWs,xP n l,cw];rfl
theorem MD(n:Nat)(B:List Ro):(ai.dct (bW B)).und n=true:=by
 show undWs n ((bW B).map fun p=>p.2)=true
 unfold bW dI
 rw[aL]
 induction B with
 |nil=>rfl
 |cons b B ih=>
  simp only[aC,undWs,ih,cw]
  show(vO b.2).und n=true
  unfold vO W.und
  exact xP n _
section
variable{M:Mc}{E B:List Ro}{R:List W}{st:List ai}{ra rb rc:Nat}
theorem AJ(hM:nQ M N)(hN:N<=100)(Ch:st[ra]?=some (.lst R))(QT:st[rb]?=some (.dct (tW E)))(FU:st[rc]?=some (.dct (bW B)))(n1:rc≠ra)(n2:rc≠rb)(hR:Rows E R)(h:gX (bL M) M.tb.length N E)
  (g:Go (bL M) M.tb.length N E B fun l r a=>l<E.length-1/\r<E.length-1/\a<M.tb.length) :
  ∃B',Go (bL M) M.tb.length N E B' (fun l r a=>l<E.length/\r<E.length/\a<M.tb.length)/\EN [M.w,.loc ra,.loc rb,.loc rc] st=.ok .non (st.set rc (.dct (bW B'))):=by
 have hE:=h.len
 have hE0:=h.len0
 suffices hh:gD (F' fun _ bv=>∃B',Go (bL M) M.tb.length N E B' (fun l r a=>l<E.length/\r<E.length/\a<M.tb.length)/\∃x,bv=st.set rc (.dct (bW B'))++x) (P2 ([M.w,W.loc ra,.loc rb,.loc rc].map some++List.replicate (11-4) none) st) by
  obtain⟨ρ',bv,e,B',hg,hx⟩:=hh
  exact⟨B',hg,HU (aa.mp FU).1 (MD _ _) ⟨ρ',bv,e,hx⟩⟩
 obtain⟨x,y,ep⟩:=Fa (E.length-1) (by omega) st
 have hc:=(aa.mp FU).1
 have elen:((R.length:Int)-1)=((E.length-1:Nat):Int):=by rw[hR.len];omega
 generalize tQ:st++[ai.lst x,.lst y,.lst ((wb (E.length-1)).map MB)]=s1 at ep
 have oU:s1[st.length+2]?=some (.lst ((wb (E.length-1)).map MB)):=by rw[<- tQ,dh];rfl
 have p1:st <+: s1:=by rw[<- tQ];exact ar _ _
 have hq:∀(B':List Ro) (i:Nat) (c:ai),i≠rc->s1[i]?=some c->(s1.set rc (.dct (bW B')))[i]?=some c:=fun B' i c hi e=>by rw[bH (Ne.symm hi)];exact e
 have hq':∀(B':List Ro),(s1.set rc (.dct (bW B')))[rc]?=some (.dct (bW B')):=fun B'=>bi (aW hc p1.length_le)
 have x5:s1.set rc (.dct (bW B))=s1:=by
  refine jY fun i=>?_
  by_cases z:rc=i
  ·subst z;rw[hq',pre_get p1 FU]
  ·rw[bH z]
 refine oM (fun i ρ s=>∃(B':List Ro) (o4 o5 o6 o7 o8 o9 tK:Option W),ρ=[some M.w,lO ra,lO rb,lO rc,o4,o5,o6,o7,o8,o9,tK]/\s=s1.set rc (.dct (bW B')) /\
   Go (bL M) M.tb.length N E B' fun l r a=>(l<E.length-1/\r<E.length-1\/∃j,j<i/\(wb (E.length-1))[j]?=some (l,r))/\a<M.tb.length) (k:=((wb (E.length-1)).map MB,some (st.length+2,(wb (E.length-1)).map MB))) (st1:=s1)
  (gs (cL (ax (bS (bh kn (g8 (aR Ch))) dN rfl) bB) (by show EM [W.int ((R.length:Int)-1)] st=_;rw[elen];exact ep) rfl) (aR oU))
  ⟨B,_,_,_,_,_,_,_,rfl,x5.symm,g.imp fun l r a d=>?_⟩ ?_ ?_ ?_
 ·obtain⟨d|⟨j,z,_⟩,da⟩:=d
  ·exact⟨d.1,d.2,da⟩
  ·exact absurd z (cp _)
 ·rintro i ρ s ⟨B',o4,o5,o6,o7,o8,o9,tK,rfl,rfl,gg⟩
  exact aR (hq B' _ _ (by omega) oU)
 ·rintro i w ρ s hw ⟨B0,o4,o5,o6,o7,o8,o9,tK,rfl,rfl,gg⟩
  rw[al]at hw
  cases hp:(wb (E.length-1))[i]? with
  |none=>rw[hp]at hw;cases hw
  |some p=>
   obtain⟨l,r⟩:=p
   rw[hp]at hw
   cases hw
   obtain⟨hl,hr,pU⟩:=MC hp
   simp only at hl hr pU
   have hl':l<E.length:=by omega
   have hr':r<E.length:=by omega
   obtain⟨el,hel⟩:∃el,E[l]?=some el:=⟨_,ac hl'⟩
   obtain⟨er,her⟩:∃er,E[r]?=some er:=⟨_,ac hr'⟩
   obtain⟨wl,Cu,rl⟩:=hR.at' l el hel
   obtain⟨wr,hwr,rr⟩:=hR.at' r er her
   obtain⟨tl,rfl⟩:=rl.sh
   obtain⟨tr,rfl⟩:=rr.sh
   clear rl rr
   have hlN:el.1<N:=h.lt el (ak hel)
   have ND:er.1<N:=h.lt er (ak her)
   have xl:∀B',bJ (.loc ra) (.int (l:Nat)) (s1.set rc (.dct (bW B')))=.ok _ _:=fun B'=>lR (aR (hq B' _ _ (Ne.symm n1) (pre_get p1 Ch))) (d6 Cu)
   have xr:∀B',bJ (.loc ra) (.int (r:Nat)) (s1.set rc (.dct (bW B')))=.ok _ _:=fun B'=>lR (aR (hq B' _ _ (Ne.symm n1) (pre_get p1 Ch))) (d6 hwr)
   refine⟨_,rfl,?_⟩
   apply aG
   ·exact bU (bS (bS (bS (bS kv kv (xl B0)) dN ox) (bS (bS kv kv (xr B0)) dN ox) gA) dN gA)
   refine oM (fun k ρ s=>∃(B':List Ro) (o7 o8 o9 tK:Option W),ρ=[some M.w,lO ra,lO rb,lO rc,iO (l:Nat),iO (r:Nat),iO ((el.2.s:Int)+(er.2.s:Int)+1),o7,o8,o9,tK]/\s=s1.set rc (.dct (bW B')) /\
     Go (bL M) M.tb.length N E B' fun l' r' a'=>((l'<E.length-1/\r'<E.length-1\/∃j,j<i/\(wb (E.length-1))[j]?=some (l',r'))/\a'<M.tb.length)\/l'=l/\r'=r/\a'<k) (k:=(rF (M.tb.map dE),none)) (st1:=s1.set rc (.dct (bW B0)))
    (by show vc (ah (e2 bJ (ag 0) (eI 2)) aB) _ _=_;unfold vc;rfl) ⟨B0,_,_,_,_,rfl,rfl,gg.imp fun l' r' a' d=>?_⟩ (fun _ _ _ _=>trivial) ?_ ?_
   ·rcases d with d|⟨_,_,d⟩
    ·exact d
    ·exact absurd d (cp _)
   ·rintro k w ρ s hw ⟨B1,o7,o8,o9,tK,rfl,rfl,gg⟩
    obtain⟨y,hy,rfl⟩:=ui hw
    rw[al]at hy
    cases ht:M.tb[k]? with
    |none=>rw[ht]at hy;cases hy
    |some t=>
     rw[ht]at hy
     cases hy
     have hk:k<M.tb.length:=(aa.mp ht).1
     obtain⟨row,t1e,t2e,t3e⟩:=sD hM ht hlN ND
     refine⟨_,rfl,?_⟩
     apply aG
     ·exact bU (bS (bS kv (bS (bS kv kv (xl B1)) dN ox) (uH t1e)) (bS (bS kv kv (xr B1)) dN ox) (uI t2e))
     apply aG
     ·exact bU (iE (ax kv (ax kv (ax kv kn))) (cz rfl))
     have ew:W.tup [.int ((el.2.s:Int)+(er.2.s:Int)+1),.int (l:Nat),.int (r:Nat),.int (k:Nat)]=vO (nh l r k el er):=by
      unfold vO Wy.z
      simp only[aC,dk,Int.natCast_add];rfl
     have hto:ga (s1.set rc (.dct (bW B1))) (.loc rb)=some (rb,tW E):=fw (hq B1 _ _ (Ne.symm n2) (pre_get p1 QT))
     have hbo:ga (s1.set rc (.dct (bW B1))) (.loc rc)=some (rc,bW B1):=fw (hq' B1)
     have fin:∀B',E5 E B1 (bL M k el.1 er.1,nh l r k el er) B'->Go (bL M) M.tb.length N E B' fun l' r' a'=>((l'<E.length-1/\r'<E.length-1\/∃j,j<i/\(wb (E.length-1))[j]?=some (l',r'))/\a'<M.tb.length)\/l'=l/\r'=r/\a'<k+1:=fun B' o=>
      (Go.one h gg hel her hk t3e pU o).imp fun l' r' a' d=>by
       rcases d with d|⟨rfl,rfl,d⟩
       ·exact .inl (.inl d)
       ·rcases cD a' k with z|z
        ·exact .inl (.inr ⟨rfl,rfl,z⟩)
        ·exact .inr ⟨rfl,rfl,by omega⟩
     have put:∀ρ:bY,ρ[3]?=some (lO rc)->ρ[9]?=some (iO (bL M k el.1 er.1:Nat))->ρ[10]?=some (some (vO (nh l r k el er)))->nJ (ag 3) (ag 9) (ag 10) jo ρ (s1.set rc (.dct (bW B1)))=.nx ρ (s1.set rc (.dct (bW (pL B1 (bL M k el.1 er.1,nh l r k el er))))):=fun ρ r3 r9 r10=>by
      refine mE (gP r10) (gP r3) (gP r9) ?_
      rw[vQ (hq' B1) (by rw[mG];have:=gg.best.len;show _<1000000;omega),List.set_set,Mz B1 (bL M k el.1 er.1,nh l r k el er)]
     rw[ew]
     by_cases c1:bL M k el.1 er.1∈E.map Prod.fst
     ·refine kH (vx (cE (bS kv kv (AI (b:=false) hto (by rw[AH];simp only[d7];rw[bp c1];rfl))))) ?_
      exact⟨_,_,rfl,B1,_,_,_,_,rfl,rfl,fin B1 (.inl ⟨c1,rfl⟩)⟩
     ·have t1:∀ρ:bY,ρ[9]?=some (iO (bL M k el.1 er.1:Nat))->ρ[2]?=some (lO rb)->f6 (e2 (vh true) (ag 9) (ag 2)) ρ (s1.set rc (.dct (bW B1)))=.ok true _:=fun ρ r9 r2=>
       cE (bS (gP r9) (gP r2) (AI (b:=true) hto (by rw[AH];simp only[d7];rw[a7 c1];rfl)))
      by_cases c2:bL M k el.1 er.1∈B1.map Prod.fst
      ·obtain⟨q,hqB,hq1⟩:=am.mp c2
       have t2:∀ρ:bY,ρ[9]?=some (iO (bL M k el.1 er.1:Nat))->ρ[3]?=some (lO rc)->f6 (e2 (vh true) (ag 9) (ag 3)) ρ (s1.set rc (.dct (bW B1)))=.ok false _:=fun ρ r9 r2=>
        cE (bS (gP r9) (gP r2) (AI (b:=false) hbo (by rw[AH];simp only[d7];rw[bp c2];rfl)))
       have gt:iB (bW B1) (.i (bL M k el.1 er.1:Nat))=some (vO q.2):=by
        rw[<- hq1];exact E_ (f:=fun p:Ro=>p.1) (g:=fun p=>vO p.2) gg.best.nd hqB
       have t3:∀(b:Bool) (ρ:bY),HT.lexLt (nh l r k el er).z q.2.z=b->ρ[9]?=some (iO (bL M k el.1 er.1:Nat))->ρ[3]?=some (lO rc)->ρ[10]?=some (some (vO (nh l r k el er)))->f6 (e2 BF (ag 10) (e2 kE (ag 3) (ag 9))) ρ (s1.set rc (.dct (bW B1)))=.ok b _:=fun b ρ hb r9 r3 r10=>
        cE (bS (gP r10) (bS (gP r3) (gP r9) (oK hbo gt)) (Qc hb))
       cases hb:HT.lexLt (nh l r k el er).z q.2.z with
       |true=>
        refine oG (oD (t1 _ rfl rfl) (dZ (t2 _ rfl rfl) (t3 true _ hb rfl rfl rfl))) ?_
        exact⟨_,_,put _ rfl rfl rfl,_,_,_,_,_,rfl,rfl,fin _ (.inr (.inr ⟨c1,fun q' hq' e'=>by
         obtain rfl:=AG gg.best.nd hqB hq' (hq1.trans e'.symm)
         exact(Wy.lex _ _).mp hb,rfl⟩))⟩
       |false=>
        refine kH (oD (t1 _ rfl rfl) (dZ (t2 _ rfl rfl) (t3 false _ hb rfl rfl rfl))) ?_
        exact⟨_,_,rfl,B1,_,_,_,_,rfl,rfl,fin B1 (.inr (.inl ⟨c1,⟨q,hqB,hq1,fun z=>by rw[(Wy.lex _ _).mpr z]at hb;cases hb⟩,rfl⟩))⟩
      ·refine oG (oD (t1 _ rfl rfl) (vy (cE (bS kv kv (AI (b:=true) hbo (by rw[AH];simp only[d7];rw[a7 c2];rfl)))))) ?_
       exact⟨_,_,put _ rfl rfl rfl,_,_,_,_,_,rfl,rfl,fin _ (.inr (.inr ⟨c1,fun q' hq' e'=>(c2 (am.mpr ⟨q',hq',e'⟩)).elim,rfl⟩))⟩
   ·rintro ρ s ⟨B1,o7,o8,o9,tK,rfl,rfl,gg⟩
    refine⟨_,_,rfl,B1,_,_,_,_,_,_,_,rfl,rfl,gg.imp fun l' r' a' d=>?_⟩
    obtain⟨d|⟨j,hj,d⟩,da⟩:=d
    ·exact .inl ⟨.inl d,da⟩
    ·rcases cD j i with z|z
     ·exact .inl ⟨.inr ⟨j,z,d⟩,da⟩
     ·obtain rfl:j=i:=by omega
      rw[hp]at d;cases d
      exact .inr ⟨rfl,rfl,by simpa[rF]using da⟩
 ·rintro ρ s ⟨B',o4,o5,o6,o7,o8,o9,tK,rfl,rfl,gg⟩
  refine⟨_,_,rfl,B',gg.imp fun l r a d=>?_,[ai.lst x,.lst y,.lst ((wb (E.length-1)).map MB)],by rw[<- tQ,List.set_append_left _ _ hc]⟩
  obtain⟨dl,dr,da⟩:=d
  refine⟨?_,da⟩
  by_cases z:l<E.length-1/\r<E.length-1
  ·exact .inl z
  ·obtain⟨j,hj,e⟩:=HW (n:=E.length-1) (l:=l) (r:=r) (by omega) (by omega) (by omega)
   exact .inr ⟨j,by simpa using hj,e⟩
end
theorem HX{st:List ai}{z:Int}{v:W}:Ad (vi (eC (.int z)) (eC v) Ac) ρ st=.ok (.loc st.length) (st++[.dct [(.i z,v)]]):=by
 unfold Ad
 have e1:vi (eC (.int z)) (eC v) Ac ρ (st++[.dct []])=.ok [(.int z,v)] (st++[.dct []]):=rfl
 rw[e1]
 simp only[R.bind_ok,cB,eN]
 rfl
theorem ME{st:List ai}:oq ρ st=.ok (.loc st.length) (st++[.dct []]):=rfl
theorem Fb{E:List Ro}{R:List W}(h:Rows E R)(n:Nat):undWs n R=true:=by
 have lZ:∀w∈R,w.und n=true:=fun w hw=>by
  obtain⟨i,hi⟩:=aU hw
  have hl:=(aa.mp hi).1
  obtain⟨w',hw',ro⟩:=h.at' i (E[i]'(by rw[<- h.len];exact hl)) (ac (by rw[<- h.len];exact hl))
  rw[hi]at hw';cases hw'
  rcases ro with⟨_,rfl⟩|⟨_,_,_,_,_,rfl⟩<;>simp[W.und,undWs]
 clear h
 induction R with
 |nil=>rfl
 |cons w R ih=>
  simp only[undWs,bf]
  exact⟨lZ w (aN ..),ih fun w hw=>lZ w (aA _ hw)⟩
theorem Rows.next{E:List Ro}{R:List W}(h:Rows E R)(h0:0<E.length){p el er:Ro}(e1:E[p.2.l]?=some el)(e2:E[p.2.r]?=some er):Rows (E++[p]) (R++[.tup [.int (p.1:Nat),.int (p.2.s:Nat),.tup [.int (el.1:Nat),.int (er.1:Nat),.int (p.2.a:Nat)]]]):=
 ⟨by simp[h.len],fun i e he=>by
  by_cases hl:i<E.length
  ·rw[aq hl]at he
   obtain⟨w,hw,ro⟩:=h.at' i e he
   exact⟨w,by rw[aq (by rw[h.len];exact hl)];exact hw,ro.app⟩
  ·have:i=E.length:=by have:=(aa.mp he).1;simp at this;omega
   subst this
   rw[bD]at he;cases he
   exact⟨_,by rw[<- h.len,bD],.inr ⟨h0,el,er,by rw[aq (aa.mp e1).1];exact e1,by rw[aq (aa.mp e2).1];exact e2,rfl⟩⟩⟩
section
variable{M:Mc}{st:List ai}
theorem B9(hM:nQ M N)(Rh:1<=N)(hN:N<=100)(ht:st[1]?=some (.tab 59 ⟨54,29,54,52⟩ "firsts_of.<locals>.<lambda>")) :
  ∃(E:List Ro) (R:List W),gX (bL M) M.tb.length N E/\Rows E R/\(∀l r a,l<E.length->r<E.length->a<M.tb.length->Ga (bL M) E [] l r a)/\BW [M.w] st=.ok (.tup R) st:=by
 suffices hh:gD (qJ fun w bv=>(∃x,bv=st++x)/\undWs st.length [w]=true/\∃(E:List Ro) (R:List W),w=.tup R/\gX (bL M) M.tb.length N E/\Rows E R/\∀l r a,l<E.length->r<E.length->a<M.tb.length->Ga (bL M) E [] l r a) (P4 ([M.w].map some++List.replicate (6-1) none) st) by
  obtain⟨w,⟨E,R,rfl,h1,h2,h3⟩,e⟩:=lp hh
  exact⟨E,R,h1,h2,h3,e⟩
 apply aG
 ·(walk_at "evs")
 apply aG
 ·exact bU HX
 apply aG
 ·exact bU ME
 have jS:1<st.length:=(aa.mp ht).1
 rw[show(st++[ai.lst [W.tup [.int 0,.int 0,.tup []]]]++[ai.dct [(DK.i 0,W.bl true)]]).length=st.length+2 by simp,show(st++[ai.lst [W.tup [.int 0,.int 0,.tup []]]]).length=st.length+1 by simp,
  show st++[ai.lst [W.tup [.int 0,.int 0,.tup []]]]++[ai.dct [(DK.i 0,W.bl true)]]++[ai.dct []]=st++[ai.lst [W.tup [.int 0,.int 0,.tup []]],.dct (tW [(0,⟨0,0,0,0⟩)]),.dct (bW [])] by simp only[aO];rfl]
 have hT0:gX (bL M) M.tb.length N [(0,⟨0,0,0,0⟩)]:=by
  refine⟨⟨[],rfl⟩,fun e he=>?_,by simp,fun i e he hi=>?_,fun i e f h1 h2=>?_⟩
  ·rw[bd.mp he];exact Rh
  ·have:=(aa.mp he).1;simp at this;omega
  ·have:=(aa.mp h2).1;simp at this
 have hR0:Rows [(0,⟨0,0,0,0⟩)] [W.tup [.int 0,.int 0,.tup []]]:=⟨rfl,fun i e he=>by
  have:i=0:=by have:=(aa.mp he).1;simp at this;omega
  subst this
  cases he
  exact⟨_,rfl,.inl ⟨rfl,rfl⟩⟩⟩
 have g0:Go (bL M) M.tb.length N [(0,⟨0,0,0,0⟩)] [] fun l r a=>l<[((0:Nat),(⟨0,0,0,0⟩:Wy))].length-1/\r<[((0:Nat),(⟨0,0,0,0⟩:Wy))].length-1/\a<M.tb.length:=
  ⟨⟨by simp,fun p hp=>by simp at hp,fun p hp=>by simp at hp⟩,fun l r a d=>absurd d.1 (by simp)⟩
 obtain⟨B1,g1,ew⟩:=AJ (st:=st++[ai.lst [W.tup [.int 0,.int 0,.tup []]],.dct (tW [(0,⟨0,0,0,0⟩)]),.dct (bW [])]) (ra:=st.length) (rb:=st.length+1) (rc:=st.length+2) hM hN (by rw[cB];rfl) (by rw[dh];rfl) (by rw[dh];rfl) (by omega) (by omega) hR0 hT0 g0
 rw[jq]at ew
 apply aG
 ·exact fC (cL (ax kv (ax kv (ax kv kn))) ew rfl)
 clear ew g0
 refine pJ (fun m ρ s=>∃(E B:List Ro) (R:List W) (o4 o5:Option W),m=N-E.length/\ρ=[some M.w,lO st.length,lO (st.length+1),lO (st.length+2),o4,o5]/\s=st++[.lst R,.dct (tW E),.dct (bW B)] /\
   Rows E R/\gX (bL M) M.tb.length N E/\Go (bL M) M.tb.length N E B fun l r a=>l<E.length/\r<E.length/\a<M.tb.length) _ ⟨_,B1,_,_,_,rfl,rfl,rfl,hR0,hT0,g1⟩ ?_ ?_
 ·rintro m ρ s ⟨E,B,R,o4,o5,rfl,rfl,rfl,hR,hT,g⟩
  have hb:(st++[ai.lst R,.dct (tW E),.dct (bW B)])[st.length+2]?=some (.dct (bW B)):=by rw[dh];rfl
  cases B with
  |nil=>exact .inl (cE (bS (bh kn (zo (fw hb))) dN (r_ rfl)))
  |cons b B=>
   refine .inr ⟨cE (bS (bh kn (zo (fw hb))) dN (r_ (by rw[mG];exact bp (by simp only[bu];omega)))),?_⟩
   obtain⟨p,hp,M7⟩:=xO (b::B) B.length (by simp)
   have hpB:p∈b::B:=ak hp
   have hmin':∀q∈b::B,¬ q.2.lt p.2:=fun q hq=>by
    obtain⟨i,hi⟩:=aU hq
    exact M7 i q (by have:=(aa.mp hi).1;simp at this;omega) hi
   apply aG
   ·refine bU (HS (p:=(DK.i (p.1:Nat),vO p.2)) rfl hb (sA _) (ay ht) ?_)
    rw[mG,show(b::B).length-1=B.length from rfl]
    show((b::B).map _)[_]?=_
    rw[al,hp];rfl
   apply aG
   ·exact bU (MA (n:=st.length+2) (q:=p.1) kv kv hb (E_ (f:=fun p:Ro=>p.1) (g:=fun p=>vO p.2) g.best.nd hpB))
   rw[jq,HR]
   obtain⟨⟨el,er,w1,w2,w3,w4,w5⟩,pn,pN⟩:=g.best.ok p hpB
   obtain⟨vl,hvl,rl⟩:=hR.at' _ _ w1
   obtain⟨vr,hvr,rr⟩:=hR.at' _ _ w2
   obtain⟨tl,rfl⟩:=rl.sh
   obtain⟨tr,rfl⟩:=rr.sh
   clear rl rr
   have hT2:=B6 hT g.best hpB
   have b2:=B8 hT g.best hpB hmin'
   have hR2:=hR.next hT.len0 w1 w2
   have hel:E.length<N:=by have:=hT2.len;simp at this;omega
   generalize hB2:List.filter (fun q:Ro=>decide (q.1≠p.1)) (b::B)=B2 at b2
   have g2:Go (bL M) M.tb.length N (E++[p]) B2 fun l r a=>l<(E++[p]).length-1/\r<(E++[p]).length-1/\a<M.tb.length:=⟨b2,fun l r a d=>by
    rw[<- hB2]
    simp only[aI,bu,dw]at d
    exact E8 hpB g.best.nd (by omega) (by omega) (g.cov l r a ⟨by omega,by omega,d.2.2⟩)⟩
   show gD _ (aX _ _ _ (st++[ai.lst R,.dct (tW E),.dct (bW B2)]))
   have hr0:(st++[ai.lst R,.dct (tW E),.dct (bW B2)])[st.length]?=some (.lst R):=by rw[cB];rfl
   have xl:bJ (.loc st.length) (.int (p.2.l:Nat)) (st++[ai.lst R,.dct (tW E),.dct (bW B2)])=.ok _ _:=lR (aR hr0) (d6 hvl)
   have xr:bJ (.loc st.length) (.int (p.2.r:Nat)) (st++[ai.lst R,.dct (tW E),.dct (bW B2)])=.ok _ _:=lR (aR hr0) (d6 hvr)
   have xw:∀(i:Int) (w:W) (s:List ai),pW (p.2.z.map W.int) i=some w->bJ (vO p.2) (.int i) s=.ok w s:=fun i w s e=>jt e
   apply aG
   ·exact fC (m_ kv (eU hr0) (ax (iE (ax kv (ax (bS kv dN (xw 0 _ _ rfl)) (ax (iE (ax (bS (bS kv (bS kv dN (xw 1 _ _ rfl)) xl) dN ox) (ax (bS (bS kv (bS kv dN (xw 2 _ _ rfl)) xr) dN ox) (ax (bS kv dN (xw 3 _ _ rfl)) bB))) (cz rfl)) bB))) (cz rfl)) bB) (ux hr0 (by rw[hR.len];show _<1000000;omega)))
   rw[eN]
   show gD _ (aX _ _ _ (st++[ai.lst (R++[_]),.dct (tW E),.dct (bW B2)]))
   apply aG
   ·refine mE dN kv kv (vQ (kvs:=tW E) (q:=p.1) (by rw[dh];rfl) (by rw[mG];show _<1000000;omega))
   rw[jq,show rK (tW E) (.i (p.1:Nat)) (W.bl true)=tW (E++[p])from vN (f:=fun p:Ro=>p.1) (g:=fun _=>W.bl true) (a:=p) pn]
   show gD _ (eJ _ _ (st++[ai.lst (R++[_]),.dct (tW (E++[p])),.dct (bW B2)]))
   obtain⟨B3,g3,e3⟩:=AJ (st:=st++[ai.lst (R++[W.tup [.int (p.1:Nat),.int (p.2.s:Nat),.tup [.int (el.1:Nat),.int (er.1:Nat),.int (p.2.a:Nat)]]]),.dct (tW (E++[p])),.dct (bW B2)]) (ra:=st.length) (rb:=st.length+1) (rc:=st.length+2) hM hN (by rw[cB];rfl) (by rw[dh];rfl) (by rw[dh];rfl) (by omega) (by omega) hR2 hT2 g2
   rw[jq]at e3
   exact⟨_,_,fC (cL (ax kv (ax kv (ax kv kn))) e3 rfl),N-(E++[p]).length,by simp only[aI,bu,dw];omega,E++[p],B3,_,_,_,rfl,rfl,rfl,hR2,hT2,g3⟩
 ·rintro m ρ s ⟨E,B,R,o4,o5,rfl,rfl,rfl,hR,hT,g⟩ hf
  have hb:(st++[ai.lst R,.dct (tW E),.dct (bW B)])[st.length+2]?=some (.dct (bW B)):=by rw[dh];rfl
  have hB:B=[]:=by
   cases B with
   |nil=>rfl
   |cons b B=>
    have t:f6 (e2 OW (bg rL (ah (ag 3) aB)) (eI 0)) [some M.w,lO st.length,lO (st.length+1),lO (st.length+2),o4,o5] (st++[ai.lst R,.dct (tW E),.dct (bW (b::B))])=.ok true _:=
     cE (bS (bh kn (zo (fw hb))) dN (r_ (by rw[mG];exact bp (by simp only[bu];omega))))
    rw[t]at hf
    cases hf
  subst hB
  refine dC (bh kn (eK (aR (by rw[cB];rfl)))) ⟨_,_,rfl,⟨_,rfl⟩,?_,E,R,rfl,hT,hR,fun l r a h1 h2 h3=>g.cov l r a ⟨h1,h2,h3⟩⟩
  simp only[undWs,cw]
  unfold W.und
  exact Fb hR _
end
theorem Qd{l:List Ro}(h:(l.map Prod.fst).Nodup){e f:Ro}(hi:l[i]?=some e)(hj:l[j]?=some f)(jS:i<j):e.1≠f.1:=by
 obtain⟨a1,a2⟩:=aa.mp hi
 obtain⟨b1,b2⟩:=aa.mp hj
 have:=List.pairwise_iff_getElem.mp h i j (by simpa using a1) (by simpa using b1) jS
 rw[c8,c8,a2,b2]at this
 exact this
structure lu(T:Nat->Nat->Nat->Nat)(L N:Nat)(E:List Ro):Prop where
 told:gX T L N E
 cov:∀l r a,l<E.length->r<E.length->a<L->Ga T E [] l r a
section
variable{E E':List Ro}
theorem gX.up(h:gX T L N E):∀(k i:Nat) (e f:Ro),E[i]?=some e->E[i+k]?=some f->¬ f.2.lt e.2
 |0,i,e,f,h1,h2=>by rw[i9,h1]at h2;cases h2;exact Wy.irr _
 |k+1,i,e,f,h1,h2=>by
  have hk:i+k<E.length:=by have:=(aa.mp h2).1;omega
  have e1:E[i+k]?=some E[i+k]:=ac hk
  have a:=h.up k i e _ h1 e1
  have b:=h.rise (i+k) _ f e1 (by rw[<- h2];congr 1)
  exact fun z=>a (Wy.trans b z)
theorem lu.least(h:lu T L N E)(hi:0<i){l r a:Nat}{el er:Ro}(h1:E[l]?=some el)(h2:E[r]?=some er)(hl:l<i)(hr:r<i)(ha:a<L)(hn:T a el.1 er.1∉(E.take i).map Prod.fst) :
  ∃e,E[i]?=some e/\¬ (nh l r a el er).lt e.2:=by
 rcases h.cov l r a (aa.mp h1).1 (aa.mp h2).1 ha el er h1 h2 with⟨m,f,hm,e1,e2⟩|⟨p,hp,_⟩
 ·have hmi:i<=m:=by
   rcases cD m i with z|z
   ·exact(hn (e1▸am.mpr ⟨f,ak (i:=m) (by rw[aQ z];exact hm),rfl⟩)).elim
   ·exact z
  have hil:i<E.length:=by have:=(aa.mp hm).1;omega
  have he:E[i]?=some E[i]:=ac hil
  have:=h.told.up (m-i) i _ f he (by rw[show i+(m-i)=m by omega];exact hm)
  exact⟨_,he,fun z=>e2 (Wy.ge z this)⟩
 ·cases hp
theorem Fc(h:gX T L N E){e:Ro}(he:E[i]?=some e):e.1∉(E.take i).map Prod.fst:=fun z=>by
 obtain⟨f,hf,e1⟩:=am.mp z
 obtain⟨j,hj⟩:=aU hf
 have hji:j<i:=by have:=(aa.mp hj).1;rw[a9]at this;omega
 rw[aQ hji]at hj
 exact Qd h.nd hj he hji e1
theorem pM(h:lu T L N E)(h':lu T L N E')(e0:E.take i=E'.take i){e:Ro}(hi:0<i)(he:E[i]?=some e):∃e',E'[i]?=some e'/\¬ e.2.lt e'.2:=by
 obtain⟨hl,hr,el,er,h1,h2,ha,hT,hs⟩:=h.told.row i e he hi
 have t1:E'[e.2.l]?=some el:=by rw[<- h1,<- aQ hl,<- e0,aQ hl]
 have t2:E'[e.2.r]?=some er:=by rw[<- h2,<- aQ hr,<- e0,aQ hr]
 obtain⟨e',h3,h4⟩:=h'.least hi t1 t2 hl hr ha (by rw[hT,<- e0];exact Fc h.told he)
 refine⟨e',h3,fun z=>h4 ?_⟩
 rw[show nh e.2.l e.2.r e.2.a el er=e.2 by rw[nh,<- hs]]
 exact z
theorem lu.uniq(h:lu T L N E)(h':lu T L N E'):E=E':=by
 have key:∀n,E.take n=E'.take n:=by
  intro n
  induction n with
  |zero=>simp
  |succ n ih=>
   rw[hZ,hZ,ih]
   congr 2
   cases n with
   |zero=>
    obtain⟨r,hr⟩:=h.told.zero
    obtain⟨r',hr'⟩:=h'.told.zero
    rw[hr,hr'];rfl
   |succ n=>
    cases e1:E[n+1]? with
    |none=>
     cases e2:E'[n+1]? with
     |none=>rfl
     |some e'=>
      obtain⟨e,h3,_⟩:=pM h' h ih.symm (by omega) e2
      rw[e1]at h3;cases h3
    |some e=>
     obtain⟨e',h3,h4⟩:=pM h h' ih (by omega) e1
     obtain⟨e'',h5,h6⟩:=pM h' h ih.symm (by omega) h3
     rw[e1]at h5;cases h5
     obtain⟨hl,hr,el,er,a1,a2,_,a4,a5⟩:=h.told.row _ _ e1 (by omega)
     obtain⟨hl',hr',el',er',b1,b2,_,b4,b5⟩:=h'.told.row _ _ h3 (by omega)
     rw[h3]
     have hw:=Wy.tri h4 h6
     obtain⟨q,w⟩:=e
     obtain⟨q',w'⟩:=e'
     obtain rfl:w=w':=hw
     simp only at a1 a2 a4 b1 b2 b4 hl hr
     rw[<- aQ hl,ih,aQ hl,b1]at a1
     rw[<- aQ hr,ih,aQ hr,b2]at a2
     cases a1;cases a2
     rw[<- a4,<- b4]
 have:=key (max E.length E'.length)
 rw[b_ (by omega),b_ (by omega)]at this
 exact this
end
abbrev zW:Wy:=⟨0,0,0,0⟩
structure xQ(T:Nat->Nat->Nat->Nat)(L N:Nat)(E:List Ro)(B h:Nat->Nat)(hd:Nat->Ro)(m:Nat):Prop where
 full:lu T L N E
 at':∀j,j<m->E[h j]?=some (hd j)/\B (hd j).1=j
 fst:∀i e,E[i]?=some e->B e.1<m/\h (B e.1)<=i
 up:∀j k,j<k->k<m->h j<h k
 cg:∀a x x' y y',a<L->x∈E.map Prod.fst->x'∈E.map Prod.fst->y∈E.map Prod.fst->y'∈E.map Prod.fst->B x=B x'->B y=B y'->B (T a x y)=B (T a x' y')
section
variable{E:List Ro}{h:Nat->Nat}{hd:Nat->Ro}
def bI(E:List Ro)(B:Nat->Nat)(i:Nat):Nat:=B (E.getD i (0,zW)).1
def Qe(E:List Ro)(B:Nat->Nat)(hd:Nat->Ro)(j:Nat):Wy:=⟨(hd j).2.s,bI E B (hd j).2.l,bI E B (hd j).2.r,(hd j).2.a⟩
def qy(E:List Ro)(B:Nat->Nat)(hd:Nat->Ro)(m:Nat):List Ro:=(List.range m).map fun j=>(j,Qe E B hd j)
def MF(T:Nat->Nat->Nat->Nat)(B:Nat->Nat)(hd:Nat->Ro)(a l r:Nat):Nat:=B (T a (hd l).1 (hd r).1)
theorem uJ{e:Ro}(he:E[i]?=some e):bI E B i=B e.1:=by unfold bI;rw[az,he];rfl
theorem xQ.mem(q:xQ T L N E B h hd m){e:Ro}(he:E[i]?=some e):e.1∈E.map Prod.fst:=am.mpr ⟨e,ak he,rfl⟩
theorem gX.lt'(t:gX T L N E){k:Nat}{e f:Ro}(he:E[i]?=some e)(hf:E[k]?=some f)(Td:i<k):e.2.lt f.2:=by
 have hk:i+1<E.length:=by have:=(aa.mp hf).1;omega
 have e1:E[i+1]?=some E[i+1]:=ac hk
 have a:=t.rise i e _ he e1
 have b:=t.up (k-(i+1)) (i+1) _ f e1 (by rw[show i+1+(k-(i+1))=k by omega];exact hf)
 exact Wy.ge a b
theorem gX.le'(t:gX T L N E){k:Nat}{e f:Ro}(he:E[i]?=some e)(hf:E[k]?=some f)(Td:i<=k):¬ f.2.lt e.2:=t.up (k-i) i e f he (by rw[show i+(k-i)=k by omega];exact hf)
theorem gX.sz(t:gX T L N E){k:Nat}{e f:Ro}(he:E[i]?=some e)(hf:E[k]?=some f)(Td:i<=k):e.2.s<=f.2.s:=t.mono (k-i) i e f he (by rw[show i+(k-i)=k by omega];exact hf)
theorem xQ.lt_iff(q:xQ T L N E B h hd m){k:Nat}(hj:j<m)(hk:k<m):h j<h k↔j<k:=by
 constructor
 ·intro z
  rcases j0 j k with y|y|y
  ·exact y
  ·subst y;omega
  ·have:=q.up k j y hj;omega
 ·exact fun z=>q.up j k z hk
theorem xQ.eq_iff(q:xQ T L N E B h hd m){k:Nat}(hj:j<m)(hk:k<m):h j=h k↔j=k:=by
 have a:=q.lt_iff hj hk
 have b:=q.lt_iff hk hj
 omega
theorem xQ.heads(q:xQ T L N E B h hd m)(hj:j<m)(h0:0<h j):h (bI E B (hd j).2.l)=(hd j).2.l/\h (bI E B (hd j).2.r)=(hd j).2.r/\(hd j).2.l<h j/\(hd j).2.r<h j:=by
 obtain⟨a1,a2⟩:=q.at' j hj
 obtain⟨hl,hr,el,er,e1,e2,ea,eT,es⟩:=q.full.told.row (h j) (hd j) a1 h0
 obtain⟨l1,l2⟩:=q.fst _ el e1
 obtain⟨r1,r2⟩:=q.fst _ er e2
 rw[uJ e1,uJ e2]
 have use:∀(x y:Nat) (ex ey:Ro),E[x]?=some ex->E[y]?=some ey->B ex.1=B el.1->B ey.1=B er.1->(nh x y (hd j).2.a ex ey).lt (hd j).2->False:=fun x y ex ey g1 g2 b1 b2 hw=>by
  rcases q.full.cov x y (hd j).2.a (aa.mp g1).1 (aa.mp g2).1 ea ex ey g1 g2 with⟨i,f,f1,f2,f3⟩|⟨p,hp,_⟩
  ·have hB:B f.1=j:=by
    rw[f2,q.cg _ _ _ _ _ ea (q.mem g1) (q.mem e1) (q.mem g2) (q.mem e2) b1 b2,eT,a2]
   have:=(q.fst i f f1).2
   rw[hB]at this
   exact q.full.told.le' a1 f1 this (Wy.gt f3 hw)
  ·cases hp
 refine⟨?_,?_,hl,hr⟩
 ·rcases cD (h (B el.1)) (hd j).2.l with z|z
  ·obtain⟨p1,p2⟩:=q.at' _ l1
   have ps:=q.full.told.sz p1 e1 (cV z)
   refine(use _ _ _ _ p1 e2 p2 rfl ?_).elim
   show(_:Nat)<_\/_
   rcases cD ((hd (B el.1)).2.s+er.2.s+1) (hd j).2.s with y|y
   ·exact .inl y
   ·exact .inr ⟨by show(hd (B el.1)).2.s+er.2.s+1=_;omega,.inl z⟩
  ·omega
 ·rcases cD (h (B er.1)) (hd j).2.r with z|z
  ·obtain⟨p1,p2⟩:=q.at' _ r1
   have ps:=q.full.told.sz p1 e2 (cV z)
   refine(use _ _ _ _ e1 p1 rfl p2 ?_).elim
   show(_:Nat)<_\/_
   rcases cD (el.2.s+(hd (B er.1)).2.s+1) (hd j).2.s with y|y
   ·exact .inl y
   ·exact .inr ⟨by show el.2.s+(hd (B er.1)).2.s+1=_;omega,.inr ⟨rfl,.inl z⟩⟩
  ·omega
theorem xQ.zero(q:xQ T L N E B h hd m):0<m/\h 0=0/\hd 0=(0,zW):=by
 obtain⟨r,hr⟩:=q.full.told.zero
 have e0:E[0]?=some (0,zW):=by rw[hr];rfl
 obtain⟨b1,b2⟩:=q.fst 0 _ e0
 have hb:B 0=0:=by
  rcases gN (B 0)with z|z
  ·exact z
  ·have:=q.up 0 (B 0) z b1
   have:h (B 0)<=0:=b2
   omega
 have b1:B 0<m:=b1
 have b2:h (B 0)<=0:=b2
 rw[hb]at b1 b2
 have h00:h 0=0:=by omega
 refine⟨b1,h00,?_⟩
 have:=(q.at' 0 b1).1
 rw[h00,e0]at this
 exact(aM this).symm
theorem xQ.lr(q:xQ T L N E B h hd m)(hj:j<m):h (bI E B (hd j).2.l)=(hd j).2.l/\h (bI E B (hd j).2.r)=(hd j).2.r/\bI E B (hd j).2.l<m/\bI E B (hd j).2.r<m:=by
 obtain⟨z1,z2,z3⟩:=q.zero
 rcases gN (h j)with z|z
 ·have:j=0:=(q.eq_iff hj z1).mp (by omega)
  subst this
  rw[z3]
  have e0:E[0]?=some (0,zW):=by have:=(q.at' 0 z1).1;rw[z2,z3]at this;exact this
  have hb:bI E B 0=0:=by rw[uJ e0];have:=(q.at' 0 z1).2;rw[z3]at this;exact this
  show h (bI E B 0)=0/\h (bI E B 0)=0/\bI E B 0<m/\bI E B 0<m
  rw[hb]
  exact⟨z2,z2,z1,z1⟩
 ·obtain⟨a,b,c,d⟩:=q.heads hj z
  obtain⟨_,_,el,er,e1,e2,_⟩:=q.full.told.row (h j) (hd j) (q.at' j hj).1 z
  refine⟨a,b,?_,?_⟩
  ·rw[uJ e1];exact(q.fst _ el e1).1
  ·rw[uJ e2];exact(q.fst _ er e2).1
theorem xQ.wy_lt(q:xQ T L N E B h hd m)(hj:j<m){s l r a:Nat}(hl:l<m)(hr:r<m):(Wy.mk s l r a).lt (Qe E B hd j)↔(Wy.mk s (h l) (h r) a).lt (hd j).2:=by
 obtain⟨a1,a2,a3,a4⟩:=q.lr hj
 have x1:=q.lt_iff hl a3
 have x2:=q.eq_iff hl a3
 have x3:=q.lt_iff hr a4
 have x4:=q.eq_iff hr a4
 rw[a1]at x1 x2
 rw[a2]at x3 x4
 show(s<(hd j).2.s\/s=(hd j).2.s/\(l<bI E B (hd j).2.l\/l=bI E B (hd j).2.l/\(r<bI E B (hd j).2.r\/r=bI E B (hd j).2.r/\a<(hd j).2.a)))↔(s<(hd j).2.s\/s=(hd j).2.s/\(h l<(hd j).2.l\/h l=(hd j).2.l/\(h r<(hd j).2.r\/h r=(hd j).2.r/\a<(hd j).2.a)))
 rw[x1,x2,x3,x4]
theorem vR(hj:j<m):(qy E B hd m)[j]?=some (j,Qe E B hd j):=by unfold qy;rw[al,bZ hj];rfl
theorem sE{e:Ro}(he:(qy E B hd m)[i]?=some e):i<m/\e=(i,Qe E B hd i):=by
 have hi:i<m:=by have:=(aa.mp he).1;simpa[qy]using this
 rw[vR hi]at he
 exact⟨hi,(aM he).symm⟩
theorem xQ.ok(q:xQ T L N E B h hd m):lu (MF T B hd) L m (qy E B hd m):=by
 obtain⟨z1,z2,z3⟩:=q.zero
 refine⟨⟨?_,?_,?_,?_,?_⟩,?_⟩
 ·obtain⟨k,rfl⟩:∃k,m=k+1:=⟨m-1,by omega⟩
  have e0:E[0]?=some (0,zW):=by have:=(q.at' 0 z1).1;rw[z2,z3]at this;exact this
  have hb:bI E B 0=0:=by rw[uJ e0];have:=(q.at' 0 z1).2;rw[z3]at this;exact this
  refine⟨((List.range k).map Nat.succ).map fun j=>(j,Qe E B hd j),?_⟩
  unfold qy
  rw[hU,aC]
  congr 1
  show(0,Wy.mk (hd 0).2.s (bI E B (hd 0).2.l) (bI E B (hd 0).2.r) (hd 0).2.a)=_
  rw[z3]
  show(0,Wy.mk 0 (bI E B 0) (bI E B 0) 0)=_
  rw[hb]
 ·intro e he
  obtain⟨j,hj,rfl⟩:=am.mp he
  exact a_.mp hj
 ·unfold qy
  rw[aL]
  show((List.range m).map fun j=>j).Nodup
  rw[List.map_id']
  exact List.nodup_range
 ·intro i e he hi
  obtain⟨him,rfl⟩:=sE he
  have hh:0<h i:=by have:=q.up 0 i hi him;omega
  obtain⟨a1,a2,a3,a4⟩:=q.heads him hh
  obtain⟨_,_,b3,b4⟩:=q.lr him
  obtain⟨_,_,el,er,e1,e2,ea,eT,es⟩:=q.full.told.row (h i) (hd i) (q.at' i him).1 hh
  have l1:bI E B (hd i).2.l<i:=(q.lt_iff b3 him).mp (by omega)
  have r1:bI E B (hd i).2.r<i:=(q.lt_iff b4 him).mp (by omega)
  have hel:hd (bI E B (hd i).2.l)=el:=by
   have:=(q.at' _ b3).1
   rw[a1,e1]at this;exact(aM this).symm
  have her:hd (bI E B (hd i).2.r)=er:=by
   have:=(q.at' _ b4).1
   rw[a2,e2]at this;exact(aM this).symm
  refine⟨l1,r1,_,_,vR b3,vR b4,ea,?_,?_⟩
  ·show B (T (hd i).2.a (hd (bI E B (hd i).2.l)).1 (hd (bI E B (hd i).2.r)).1)=i
   rw[hel,her,eT];exact(q.at' i him).2
  ·show(hd i).2.s=(hd (bI E B (hd i).2.l)).2.s+(hd (bI E B (hd i).2.r)).2.s+1
   rw[hel,her];exact es
 ·intro i e f he hf
  obtain⟨him,rfl⟩:=sE he
  obtain⟨hfm,rfl⟩:=sE hf
  have:=q.full.told.lt' (q.at' i him).1 (q.at' _ hfm).1 (q.up i (i+1) (by omega) hfm)
  obtain⟨a1,a2,a3,a4⟩:=q.lr him
  refine(q.wy_lt hfm a3 a4).mpr ?_
  rw[a1,a2]
  exact this
 ·intro l r a hl hr ha el er h1 h2
  obtain⟨hlm,rfl⟩:=sE h1
  obtain⟨hrm,rfl⟩:=sE h2
  left
  obtain⟨p1,p2⟩:=q.at' l hlm
  obtain⟨r1,r2⟩:=q.at' r hrm
  rcases q.full.cov (h l) (h r) a (aa.mp p1).1 (aa.mp r1).1 ha _ _ p1 r1 with⟨i,f,f1,f2,f3⟩|⟨p,hp,_⟩
  ·obtain⟨k1,k2⟩:=q.fst i f f1
   have hk:MF T B hd a l r=B f.1:=by unfold MF;rw[f2]
   refine⟨B f.1,_,vR k1,hk.symm,fun z=>?_⟩
   have z:=(q.wy_lt k1 hlm hrm).mp z
   have:=q.full.told.le' (q.at' _ k1).1 f1 k2
   exact f3 (Wy.ge z this)
  ·cases hp
end
section
variable(T:Nat->Nat->Nat->Nat)(L:Nat)(g:Nat->Bool)(rs:List Nat)
def pO:List (Nat×Nat×Nat):=(List.range L).flatMap fun a=>rs.map (fun t=>(a,0,t))++rs.map (fun t=>(a,1,t))
def led(p:Nat×Nat×Nat)(x:Nat):Nat:=if p.2.1=0 then T p.1 x p.2.2 else T p.1 p.2.2 x
def ap:Nat->Nat->Nat->Bool
 |0,a,b=>g a != g b
 |s+1,a,b=>ap s a b||(pO L rs).any fun p=>ap s (led T p a) (led T p b)
def kJ:List Nat->List (Nat×Nat)
 |[]=>[]
 |x::r=>r.map (fun y=>(x,y))++kJ r
def tH:Nat->Nat->Nat->Bool
 |0,_,_=>true
 |s+1,a,b=>!ap T L g rs s a b
def HY(s:Nat):List (Nat×Nat):=(kJ rs).filter fun p=>tH T L g rs s p.1 p.2&&ap T L g rs s p.1 p.2
end
section
variable{g:Nat->Bool}
theorem zp:∀(s a:Nat),ap T L g rs s a a=false
 |0,a=>by simp[ap]
 |s+1,a=>by
  unfold ap
  rw[zp s a,Bool.false_or,eX]
  intro p _;rw[zp s];simp
theorem qM:∀(s a b:Nat),ap T L g rs s a b=ap T L g rs s b a
 |0,a,b=>by simp only[ap];cases g a<;>cases g b<;>rfl
 |s+1,a,b=>by
  unfold ap
  rw[qM s a b]
  congr 1
  refine cC _ (funext fun p=>?_)
  exact qM s _ _
theorem mH{s a b:Nat}(h:ap T L g rs (s+1) a b=false):ap T L g rs s a b=false/\∀p∈pO L rs,ap T L g rs s (led T p a) (led T p b)=false:=by
 unfold ap at h
 rw[Bool.or_eq_false_iff,eX]at h
 exact⟨h.1,fun p hp=>by have:=h.2 p hp;simpa using this⟩
theorem xR{s a b:Nat}(h:ap T L g rs s a b=false)(h2:∀p∈pO L rs,ap T L g rs s (led T p a) (led T p b)=false):ap T L g rs (s+1) a b=false:=by
 unfold ap
 rw[Bool.or_eq_false_iff,eX]
 exact⟨h,fun p hp=>by rw[h2 p hp];simp⟩
theorem Fd{a b:Nat}:∀(d k:Nat),ap T L g rs (k+d) a b=false->ap T L g rs k a b=false
 |0,_,h=>h
 |d+1,k,h=>Fd d k (mH h).1
theorem R'{s a b k:Nat}(h:tH T L g rs s a b=true)(hk:k<s):ap T L g rs k a b=false:=by
 cases s with
 |zero=>omega
 |succ s=>
  have h':ap T L g rs s a b=false:=by simpa[tH]using h
  exact Fd (s-k) k (by rw[show k+(s-k)=s by omega];exact h')
theorem Sa{s a b:Nat}(h:∀k,k<s->ap T L g rs k a b=false):tH T L g rs s a b=true:=by
 cases s with
 |zero=>rfl
 |succ s=>simp only[tH];rw[h s (by omega)];rfl
def Re(T:Nat->Nat->Nat->Nat)(L:Nat)(g:Nat->Bool)(rs:List Nat)(s:Nat):Nat:=((kJ rs).filter fun p=>tH T L g rs s p.1 p.2).length
theorem Fe(s a b:Nat):tH T L g rs (s+1) a b=(tH T L g rs s a b&&!ap T L g rs s a b):=by
 cases s with
 |zero=>simp[tH]
 |succ s=>
  show(!ap T L g rs (s+1) a b)=((!ap T L g rs s a b)&&!ap T L g rs (s+1) a b)
  cases e:ap T L g rs (s+1) a b with
  |true=>simp
  |false=>rw[(mH e).1];rfl
theorem oN(p q:α->Bool):∀l:List α,(l.filter p).length=(l.filter fun x=>p x&&q x).length+(l.filter fun x=>p x&&!q x).length
 |[]=>rfl
 |x::l=>by
  have:=oN p q l
  simp only[cJ]
  cases p x<;>cases q x<;>simp<;>omega
theorem Qf{s:Nat}(h:HY T L g rs s≠[]):Re T L g rs (s+1)<Re T L g rs s:=by
 have e:=oN (fun p:Nat×Nat=>tH T L g rs s p.1 p.2) (fun p=>ap T L g rs s p.1 p.2) (kJ rs)
 have h1:0<(HY T L g rs s).length:=List.length_pos_iff.mpr h
 unfold HY at h1
 unfold Re
 simp only[Fe]
 omega
theorem HZ:∀l:List Nat,(kJ l).length<=l.length*l.length
 |[]=>av _
 |x::r=>by
  have:=HZ r
  simp only[kJ,aI,aj,bu,Nat.add_mul,Nat.mul_add];omega
theorem MG:∀{l:List Nat},l.Pairwise (· < ·)->∀{a b:Nat},(a,b)∈kJ l↔a∈l/\b∈l/\a<b
 |[],_,a,b=>by simp[kJ]
 |x::r,h,a,b=>by
  obtain⟨h1,h2⟩:=ca.mp h
  simp only[kJ,aH,am,MG h2,aJ]
  constructor
  ·rintro(⟨y,hy,e⟩|⟨q1,q2,q3⟩)
   ·cases e;exact⟨.inl rfl,.inr hy,h1 _ hy⟩
   ·exact⟨.inr q1,.inr q2,q3⟩
  ·rintro⟨q1,q2,q3⟩
   rcases q1 with rfl|q1
   ·rcases q2 with rfl|q2
    ·omega
    ·exact .inl ⟨b,q2,rfl⟩
   ·rcases q2 with rfl|q2
    ·have:=h1 _ q1;omega
    ·exact .inr ⟨q1,q2,q3⟩
theorem H9(L:Nat)(rs:List Nat):(pO L rs).length=L*(2*rs.length):=by
 unfold pO
 rw[List.length_flatMap]
 simp only[aI,aj]
 rw[List.map_const',dm,List.sum_replicate_nat]
 congr 1;omega
theorem Ff(L:Nat)(rs:List Nat):pO (L+1) rs=pO L rs++(rs.map (fun t=>(L,0,t))++rs.map (fun t=>(L,1,t))):=by
 unfold pO;rw[List.range_succ,List.flatMap_append];simp
end
section
variable{g:Nat->Bool}
theorem Fg:∀(s a b c:Nat),ap T L g rs s a b=false->ap T L g rs s b c=false->ap T L g rs s a c=false
 |0,a,b,c,h1,h2=>by
  simp only[ap,bne_eq_false_iff_eq]at h1 h2 ⊢
  rw[h1,h2]
 |s+1,a,b,c,h1,h2=>by
  obtain⟨x1,x2⟩:=mH h1
  obtain⟨y1,y2⟩:=mH h2
  exact xR (Fg s a b c x1 y1) fun p hp=>Fg s _ _ _ (x2 p hp) (y2 p hp)
theorem m6{p:Nat×Nat×Nat}:p∈pO L rs↔p.1<L/\(p.2.1=0\/p.2.1=1)/\p.2.2∈rs:=by
 obtain⟨a,d,t⟩:=p
 unfold pO
 simp only[List.mem_flatMap,a_,aH,am,Prod.mk.injEq]
 constructor
 ·rintro⟨x,hx,⟨y,hy,rfl,rfl,rfl⟩|⟨y,hy,rfl,rfl,rfl⟩⟩
  ·exact⟨hx,.inl rfl,hy⟩
  ·exact⟨hx,.inr rfl,hy⟩
 ·rintro⟨h1,rfl|rfl,h3⟩
  ·exact⟨a,h1,.inl ⟨t,h3,rfl,rfl,rfl⟩⟩
  ·exact⟨a,h1,.inr ⟨t,h3,rfl,rfl,rfl⟩⟩
end
section
variable{g:Nat->Bool}{hd:Nat->Nat}
end
def iY:Nat->List KX->List (KX×W)
 |_,[]=>[]
 |n,k::ks=>(k,.int (n:Nat))::iY (n+1) ks
theorem kK:∀(ks:List KX) (n:Nat),(iY n ks).length=ks.length
 |[],_=>rfl
 |k::ks,n=>by simp only[iY,bu,kK ks]
theorem uK(k:KX):∀(ks:List KX) (n:Nat),iY n (ks++[k])=iY n ks++[(k,.int ((n+ks.length:Nat):Int))]
 |[],n=>rfl
 |x::ks,n=>by
  simp only[List.cons_append,iY,uK k ks,bu]
  rw[show n+1+ks.length=n+(ks.length+1) by omega]
theorem B_(p:KX×W)(l:List (KX×W))(k:KX):iC (p::l) k=if p.1=k then some p.2 else iC l k:=by
 unfold iC
 rw[bz]
 by_cases h:p.1=k
 ·rw[aw h];simp[h]
 ·rw[aD h];simp[h]
theorem jc(k:KX):∀(ks:List KX) (n:Nat),iC (iY n ks) k=if k∈ks then some (.int ((n+ks.idxOf k:Nat):Int))else none
 |[],n=>rfl
 |x::ks,n=>by
  simp only[iY]
  rw[B_]
  by_cases h:x=k
  ·subst h;simp
  ·rw[aD h,jc k ks]
   have e:(x::ks).idxOf k=ks.idxOf k+1:=by rw[List.idxOf_cons,show(x==k)=false from a8.mpr h];rfl
   rw[e]
   by_cases h2:k∈ks
   ·rw[aw h2,aw (aA _ h2)];rw[show n+1+ks.idxOf k=n+(ks.idxOf k+1) by omega]
   ·rw[aD h2,aD (by simp[h2];exact fun z=>h z.symm)]
theorem oO:∀l:List Int,fQ (l.map W.int)=some l
 |[]=>rfl
 |z::l=>by simp only[aC,fQ,oO l,lX]
theorem H_(l:List Int):pH (.tup (l.map W.int))=some (.fl l):=by simp only[pH,oO]
theorem Ia(i:Int)(l:List Int):pH (.tup [.int i,.tup (l.map W.int)])=some (.pr i l):=by
 simp only[pH,fQ,Option.map_none,oO,lX]
theorem qN(k:KX):pH k.w=some k:=by
 cases k with
 |bo b=>rfl
 |fl l=>exact H_ l
 |pr i l=>exact Ia i l
theorem MH{k:KX}(h:∀p∈kvs,p.1.tag=k.tag)(hl:kvs.length<jh):(DO kvs k||DQ kvs k)=true:=by
 unfold DO DQ Ai
 have a:(kvs.all fun p=>p.1.tag==k.tag)=true:=by rw[d_];intro p hp;rw[h p hp];simp
 by_cases z:k.tag=0
 ·have b:(kvs.all fun p=>p.1.tag==0)=true:=by rw[d_];intro p hp;rw[h p hp,z];simp
  rw[b];simp[z];exact hl
 ·rw[a];simp[z];exact hl
theorem sF:∀{ks:List KX} {n:Nat} {p:KX×W},p∈iY n ks->p.1∈ks
 |k::ks,n,p,h=>by
  rcases aJ.mp h with rfl|h
  ·exact aN
  ·exact aA _ (sF h)
section
variable{st:List ai}{fk fd:FE}{y z:W}{k:KX}
theorem AK(h1:fo ρ st=.ok (.loc n) st)(hd:iX st (.loc n)=some (n,kvs))(h2:fk ρ st=.ok y st)(hk:pH y=some k)(h3:fd ρ st=.ok z st)(ok:(DO kvs k||DQ kvs k)=true) :
  vq fo fk fd ρ st=match iC kvs k with|some w=>.ok w st|none=>.ok z (st.set n (.dcx (rR kvs k z))):=by
 unfold vq
 rw[h1];simp only[R.bind_ok,hd]
 rw[h2];simp only[R.bind_ok]
 rw[h3];simp only[R.bind_ok,hd,hk,ok,d7]
 all_goals rfl
theorem JN{w:W}(hd:iX st (.loc n)=some (n,kvs))(hk:pH y=some k)(ok:(DO kvs k||DQ kvs k)=true)(hg:iC kvs k=some w):DR (.loc n) y st=.ok w st:=by
 unfold DR
 simp only[hd,hk,ok,d7,hg,cA]
theorem Fh(hd:iX st (.loc n)=some (n,kvs))(hl:kvs.length<=jh):uq [.loc n] st=.ok (.int kvs.length) st:=by
 unfold uq;simp only[hd];rw[aw hl]
end
def sH:List KX->ai
 |[]=>.dct []
 |k::ks=>.dcx (iY 0 (k::ks))
theorem AL{st:List ai}{ks:List KX}(h:st[n]?=some (sH ks)):iX st (.loc n)=some (n,iY 0 ks):=by
 unfold iX
 simp only[h]
 cases ks<;>rfl
theorem Fi{ks:List KX}{a b:KX}(ha:a∈ks)(h:ks.idxOf a=ks.idxOf b):a=b:=by
 have hl:=ja ha
 have e1:ks[ks.idxOf a]?=some a:=by rw[ac hl];simp
 have hl2:ks.idxOf b<ks.length:=by omega
 have e2:ks[ks.idxOf b]?=some b:=by rw[ac hl2];simp
 rw[h,e2]at e1;cases e1;rfl
abbrev h9(B:Nat->Nat)(l:List Nat):List (DK×W):=dI (fun a:Nat=>a) (fun a=>W.int (B a:Nat)) l
theorem eW{a b:List ai}(h:dq a)(h2:dq b):dq (a++b):=fun d hd=>by
 rcases aH.mp hd with z|z
 ·exact h d z
 ·exact h2 d z
theorem tI{a:ai}{b:List ai}(h:∀c,lQ c a=false)(h2:dq b):dq (a::b):=fun d hd=>by
 rcases aJ.mp hd with z|z
 ·rw[z];exact h
 ·exact h2 d z
theorem wc:dq []:=fun d hd=>by cases hd
theorem Qg(ks:List KX):dq [sH ks]:=tI (fun c=>by cases ks<;>rfl) wc
def kD(kf:Nat->KX)(l:List Nat):List KX:=l.foldl (fun ks a=>if kf a∈ks then ks else ks++[kf a]) []
theorem vS(kf:Nat->KX)(l:List Nat)(a:Nat):kD kf (l++[a])=if kf a∈kD kf l then kD kf l else kD kf l++[kf a]:=by unfold kD;rw[List.foldl_append];rfl
theorem qi{st:List ai}{r q:Nat}{kvs:List (DK×W)}{kf:Nat->KX}{tg:Nat}(hr:st[r]?=some (.lst (rs.map fun a=>W.int (a:Nat))))(hq:st[q]?=some (.dct kvs))(hk:∀a∈rs,iB kvs (.i (a:Nat))=some (kf a).w)(ht:∀a∈rs,(kf a).tag=tg)(kr:rs.Nodup)(hl:rs.length<=1000) :
  ∃(B:Nat->Nat) (c:ai),(∀a∈rs,∀b∈rs,(B a=B b↔kf a=kf b))/\(B=fun a=>(kD kf rs).idxOf (kf a))/\dq [c]/\BS [.loc r,.loc q] st=.ok (.loc (st.length+1)) (st++[c,.dct (h9 B rs)]):=by
 suffices hh:gD (qJ fun w bv=>∃j x,w=.loc (st.length+j)/\bv=st++x/\∃(B:Nat->Nat) (c:ai),(∀a∈rs,∀b∈rs,(B a=B b↔kf a=kf b))/\(B=fun a=>(kD kf rs).idxOf (kf a))/\dq [c]/\j=1/\x=[c,.dct (h9 B rs)]) (PQ ([W.loc r,.loc q].map some++List.replicate (5-2) none) st) by
  obtain⟨j,x,⟨B,c,h1,hB,hp,rfl,rfl⟩,e⟩:=iw hh
  exact⟨B,c,h1,hB,hp,e⟩
 have hrl:=(aa.mp hr).1
 have hql:=(aa.mp hq).1
 apply aG
 ·exact bU rfl
 apply aG
 ·exact bU rfl
 refine cU (k:=(rs.map fun a=>W.int (a:Nat),some (r,rs.map fun a=>W.int (a:Nat)))) (fun i ρ s=>∃(ks:List KX) (o4:Option W),ks=kD kf (rs.take i)/\ks.Nodup/\ks.length<=i/\(∀k∈ks,k.tag=tg)/\(∀a∈rs.take i,kf a∈ks) /\
   ρ=[lO r,lO q,lO st.length,lO (st.length+1),o4]/\s=st++[sH ks,.dct (h9 (fun a=>ks.idxOf (kf a)) (rs.take i))]) (gs kv (aR (ay (ay hr)))) ?_ ?_ ?_ ?_
 ·refine⟨[],none,by simp[kD],.nil,cM _,fun _ h=>(by cases h),fun a h=>(by simp at h),?_,?_⟩
  ·simp
  ·simp[sH,dI]
 ·rintro i ρ s ⟨ks,o4,_,_,_,_,_,rfl,rfl⟩
  exact aR (ay hr)
 ·rintro i w ρ s hw ⟨ks,o4,h0,h1,h2,h3,h4,rfl,rfl⟩
  rw[al]at hw
  obtain⟨a,ha,rfl⟩:=aY.mp hw
  have hi:i<rs.length:=(aa.mp ha).1
  have ham:a∈rs:=ak ha
  have ya:rs.take (i+1)=rs.take i++[a]:=by rw[hZ,ha];rfl
  have hant:a∉rs.take i:=fun z=>by
   have:(rs.take (i+1)).Nodup:=kr.sublist (f9 _ _)
   rw[ya,cN]at this
   exact this.2.2 a z a (by simp) rfl
  refine⟨_,rfl,?_⟩
  generalize hs:st++[sH ks,.dct (h9 (fun a=>ks.idxOf (kf a)) (rs.take i))]=s
  have c2:s[st.length]?=some (sH ks):=by rw[<- hs,cB];rfl
  have c3:s[st.length+1]?=some (.dct (h9 (fun a=>ks.idxOf (kf a)) (rs.take i))):=by rw[<- hs,dh];rfl
  have cq:s[q]?=some (.dct kvs):=by rw[<- hs];exact ay hq
  have hd:=AL c2
  have ix:∀{s':List ai},s'[q]?=some (.dct kvs)->kE (.loc q) (.int (a:Nat)) s'=.ok (kf a).w s':=fun z=>oK (fw z) (hk a ham)
  have okk:∀F5:List KX,(∀k∈F5,k.tag=tg)->F5.length<=i+1->(DO (iY 0 F5) (kf a)||DQ (iY 0 F5) (kf a))=true:=fun F5 z1 z2=>MH (fun p hp=>by rw[z1 _ (sF hp),ht a ham]) (by rw[kK];show _<1000000;omega)
  have hb:∀f:Nat->W,(f a)=(fun x=>f x) a:=fun f=>rfl
  have put:∀(F5:List KX) (s':List ai),s'[st.length+1]?=some (.dct (h9 (fun a=>F5.idxOf (kf a)) (rs.take i)))->jo (.loc (st.length+1)) (.int (a:Nat)) (.int (F5.idxOf (kf a):Nat)) s'=some (s'.set (st.length+1) (.dct (h9 (fun a=>F5.idxOf (kf a)) (rs.take (i+1))))):=fun F5 s' z=>by
   rw[vQ z (by rw[mG,a9];show _<1000000;omega),ya]
   congr 3
   exact vN (f:=fun a:Nat=>a) (g:=fun a=>W.int (F5.idxOf (kf a):Nat)) (a:=a) (by simpa using hant)
  by_cases hm:kf a∈ks
  ·apply aG
   ·refine fC (w:=.int ((0+ks.idxOf (kf a):Nat):Int)) (st1:=s) ?_
    rw[AK kv hd (bS kv kv (ix cq)) (qN _) (bh kn (Fh hd (by rw[kK];show _<=1000000;omega))) (okk ks h3 (by omega)),jc,aw hm]
   refine⟨_,_,mE (bS kv (bS kv kv (ix cq)) (JN hd (qN _) (okk ks h3 (by omega)) (by rw[jc,aw hm]))) kv kv (by rw[fP];exact put ks s c3),ks,_,by rw[ya,vS,<- h0,aw hm],h1,by omega,h3,fun b hb=>?_,rfl,?_⟩
   ·rw[ya]at hb
    rcases aH.mp hb with z|z
    ·exact h4 b z
    ·simp at z;subst z;exact hm
   ·rw[<- hs,fZ _ _ (by omega),show st.length+1-st.length=1 by omega];rfl
  ·have vX:s.set st.length (.dcx (iY 0 (ks++[kf a])))=st++[sH (ks++[kf a]),.dct (h9 (fun a=>ks.idxOf (kf a)) (rs.take i))]:=by
    rw[<- hs,fZ _ _ (by omega),pb]
    have:sH (ks++[kf a])=.dcx (iY 0 (ks++[kf a])):=by cases ks<;>rfl
    rw[this];rfl
   apply aG
   ·refine fC (w:=.int (ks.length:Nat)) (st1:=s.set st.length (.dcx (iY 0 (ks++[kf a])))) ?_
    rw[AK kv hd (bS kv kv (ix cq)) (qN _) (bh kn (Fh hd (by rw[kK];show _<=1000000;omega))) (okk ks h3 (by omega)),jc,aD hm]
    simp only[kK]
    congr 3
    unfold rR
    rw[jc,aD hm,uK,fP];rfl
   rw[vX]
   have bks:h9 (fun b=>ks.idxOf (kf b)) (rs.take i)=h9 (fun b=>(ks++[kf a]).idxOf (kf b)) (rs.take i):=by
    unfold h9 dI
    refine aZ fun b hb=>?_
    show(DK.i (b:Nat),W.int ((ks.idxOf (kf b):Nat):Int))=(DK.i (b:Nat),W.int (((ks++[kf a]).idxOf (kf b):Nat):Int))
    rw[j3,aw (h4 b hb)]
   rw[bks]
   have h3':∀k∈ks++[kf a],k.tag=tg:=fun k hk=>by
    rcases aH.mp hk with z|z
    ·exact h3 k z
    ·simp at z;subst z;exact ht a ham
   have hm':kf a∈ks++[kf a]:=by simp
   generalize hs':st++[sH (ks++[kf a]),.dct (h9 (fun b=>(ks++[kf a]).idxOf (kf b)) (rs.take i))]=s'
   have c2':s'[st.length]?=some (sH (ks++[kf a])):=by rw[<- hs',cB];rfl
   have c3':s'[st.length+1]?=some (.dct (h9 (fun b=>(ks++[kf a]).idxOf (kf b)) (rs.take i))):=by rw[<- hs',dh];rfl
   have cq':s'[q]?=some (.dct kvs):=by rw[<- hs'];exact ay hq
   have hd':=AL c2'
   refine⟨_,_,mE (bS kv (bS kv kv (ix cq')) (JN hd' (qN _) (okk (ks++[kf a]) h3' (by simp;omega)) (by rw[jc,aw hm']))) kv kv (by rw[fP];exact put (ks++[kf a]) s' c3'),ks++[kf a],_,by rw[ya,vS,<- h0,aD hm],?_,by simp;omega,h3',fun b hb=>?_,rfl,?_⟩
   ·rw[cN]
    exact⟨h1,by simp,fun x hx y hy z=>by simp at hy;subst hy;subst z;exact hm hx⟩
   ·rw[ya]at hb
    rcases aH.mp hb with z|z
    ·exact cF _ (h4 b z)
    ·simp at z;subst z;exact hm'
   ·rw[<- hs',jq];rfl
 ·rintro ρ s ⟨ks,o4,h0,h1,h2,h3,h4,rfl,rfl⟩
  rw[aj,gy]at h4 h0 ⊢
  refine⟨_,_,nu kv,1,_,rfl,rfl,fun a=>ks.idxOf (kf a),sH ks,fun a ha b hb=>⟨fun z=>Fi (h4 a ha) z,fun z=>by simp only[z]⟩,by rw[h0],Qg ks,rfl,rfl⟩
structure pP(rs:List Nat)(B:Nat->Nat)(m:Nat)(h:Nat->Nat):Prop where
 hd:∀j,j<m->∃x,rs[h j]?=some x/\B x=j
 fst:∀i a,rs[i]?=some a->B a<m/\h (B a)<=i
 up:∀j k,j<k->k<m->h j<h k
theorem vT{ks:List KX}{k:KX}(h:k∈ks):ks.idxOf k<ks.length:=ja h
theorem Fj(kf:Nat->KX):∀(n:Nat) (l:List Nat),l.length=n->(∀a∈l,kf a∈kD kf l)/\∃h,pP l (fun a=>(kD kf l).idxOf (kf a)) (kD kf l).length h:=by
 intro n
 induction n with
 |zero=>
  intro l hl
  obtain rfl:=kQ.mp hl
  exact⟨fun a h=>(by cases h),fun _=>0,fun j h=>absurd h (cp _),fun i a h=>(by cases h),fun j k _ h=>absurd h (cp _)⟩
 |succ n ih=>
  intro l0 hl0
  obtain e0|⟨l,x,e0⟩:=List.eq_nil_or_concat l0
  ·rw[e0]at hl0;cases hl0
  rw[List.concat_eq_append]at e0
  subst e0
  have hln:l.length=n:=by rw[aI,fW]at hl0;omega
  obtain⟨hm,h,c⟩:=ih l hln
  have jS:∀j,j<(kD kf l).length->h j<l.length:=fun j hj=>by
   obtain⟨y,hy,_⟩:=c.hd j hj
   exact(aa.mp hy).1
  have atx:∀{i a},(l++[x])[i]?=some a->(i<l.length/\l[i]?=some a)\/(i=l.length/\a=x):=fun{i a} e=>by
   rcases cD i l.length with z|z
   ·rw[aq z]at e;exact .inl ⟨z,e⟩
   ·have:i=l.length:=by have:=(aa.mp e).1;rw[aI,fW]at this;omega
    subst this
    rw[bD]at e
    exact .inr ⟨rfl,(aM e).symm⟩
  rw[vS]
  by_cases hx:kf x∈kD kf l
  ·rw[aw hx]
   refine⟨fun a ha=>?_,h,fun j hj=>?_,fun i a e=>?_,c.up⟩
   ·rcases aH.mp ha with z|z
    ·exact hm a z
    ·rw[bd.mp z];exact hx
   ·obtain⟨y,h1,h2⟩:=c.hd j hj
    exact⟨y,by rw[aq (jS j hj)];exact h1,h2⟩
   ·rcases atx e with⟨_,e⟩|⟨rfl,rfl⟩
    ·exact c.fst i a e
    ·exact⟨vT hx,cV (jS _ (vT hx))⟩
  ·rw[aD hx]
   have old:∀{k:KX},k∈kD kf l->(kD kf l++[kf x]).idxOf k=(kD kf l).idxOf k:=fun{k} hk=>by rw[j3,aw hk]
   have new:(kD kf l++[kf x]).idxOf (kf x)=(kD kf l).length:=by rw[j3,aD hx];simp
   have len:(kD kf l++[kf x]).length=(kD kf l).length+1:=by simp
   refine⟨fun a ha=>?_,fun j=>if j<(kD kf l).length then h j else l.length,fun j hj=>?_,fun i a e=>?_,fun j k hjk hk=>?_⟩
   ·rcases aH.mp ha with z|z
    ·exact cF _ (hm a z)
    ·rw[bd.mp z];simp
   ·by_cases z:j<(kD kf l).length
    ·obtain⟨y,h1,h2⟩:=c.hd j z
     have hy:kf y∈kD kf l:=hm y (ak h1)
     refine⟨y,?_,?_⟩
     ·show(l++[x])[if j<(kD kf l).length then h j else l.length]?=some y
      rw[aw z,aq (jS j z)];exact h1
     ·show(kD kf l++[kf x]).idxOf (kf y)=j
      rw[old hy];exact h2
    ·have:j=(kD kf l).length:=by rw[len]at hj;omega
     refine⟨x,?_,?_⟩
     ·show(l++[x])[if j<(kD kf l).length then h j else l.length]?=some x
      rw[aD z,bD]
     ·show(kD kf l++[kf x]).idxOf (kf x)=j
      rw[new,this]
   ·show(kD kf l++[kf x]).idxOf (kf a)<_/\(if (kD kf l++[kf x]).idxOf (kf a)<(kD kf l).length then h ((kD kf l++[kf x]).idxOf (kf a))else l.length)<=i
    rcases atx e with⟨_,e⟩|⟨rfl,rfl⟩
    ·have hy:kf a∈kD kf l:=hm a (ak e)
     rw[old hy,aw (vT hy),len]
     have:=c.fst i a e
     exact⟨f_ this.1,this.2⟩
    ·rw[new,aD (bq _),len]
     exact⟨ip _,av _⟩
   ·show(if j<(kD kf l).length then h j else l.length)<(if k<(kD kf l).length then h k else l.length)
    rw[len]at hk
    have hj:j<(kD kf l).length:=by omega
    rw[aw hj]
    by_cases z:k<(kD kf l).length
    ·rw[aw z];exact c.up j k hjk z
    ·rw[aD z];exact jS j hj
theorem Fk{m':Nat}{h h':Nat->Nat}(c:pP rs B m h)(c':pP rs B' m' h')(e:∀a∈rs,∀b∈rs,(B a=B b↔B' a=B' b)):∀a∈rs,B a=B' a:=by
 have same:∀a∈rs,h (B a)=h' (B' a):=by
  have half:∀{B B':Nat->Nat} {m m':Nat} {h h':Nat->Nat},pP rs B m h->pP rs B' m' h'->(∀a∈rs,∀b∈rs,(B a=B b↔B' a=B' b))->∀a∈rs,h' (B' a)<=h (B a):=fun{B B' m m' h h'} c c' e a ha=>by
   obtain⟨i,hi⟩:=aU ha
   obtain⟨x,h1,h2⟩:=c.hd (B a) (c.fst i a hi).1
   have:=(c'.fst _ x h1).2
   rw[(e x (ak h1) a ha).mp h2]at this
   exact this
  exact fun a ha=>fS (half c' c (fun a ha b hb=>(e a ha b hb).symm) a ha) (half c c' e a ha)
 have inj:∀{B:Nat->Nat} {m:Nat} {h:Nat->Nat},pP rs B m h->∀{j k},j<m->k<m->h j=h k->j=k:=fun{B m h} c {j k} hj hk z=>by
  rcases j0 j k with y|y|y
  ·have:=c.up j k y hk;omega
  ·exact y
  ·have:=c.up k j y hj;omega
 have key:∀j,j<m->j<m'/\h j=h' j:=by
  intro j
  induction j using Nat.strongRecOn with
  |_ j ih=>
   intro hj
   obtain⟨x,x1,x2⟩:=c.hd j hj
   have hx:=ak x1
   have sx:=same x hx
   rw[x2]at sx
   have km:=(c'.fst _ x x1).1
   rcases j0 (B' x) j with z|z|z
   ·obtain⟨_,i2⟩:=ih (B' x) z (by omega)
    have:=inj c (by omega) hj (i2.trans sx.symm)
    omega
   ·rw[z]at sx km
    exact⟨km,sx⟩
   ·obtain⟨y,y1,y2⟩:=c'.hd j (by omega)
    have hy:=ak y1
    have sy:=same y hy
    rw[y2]at sy
    have u:=c'.up j (B' x) z km
    have bm:=(c.fst _ y y1).1
    have lt:B y<j:=by
     rcases cD (B y) j with w|w
     ·exact w
     ·rcases jJ w with w|w
      ·rw[<- w]at sy;omega
      ·have:=c.up j (B y) w bm;omega
    obtain⟨q1,q2⟩:=ih (B y) lt bm
    have:=inj c' q1 (by omega:j<m') (q2.symm.trans sy)
    omega
 intro a ha
 obtain⟨i,hi⟩:=aU ha
 obtain⟨k1,k2⟩:=key (B a) (c.fst i a hi).1
 exact inj c' k1 (c'.fst i a hi).1 (k2.symm.trans (same a ha))
abbrev cu(rs:List Nat):List W:=rs.map fun a=>W.int (a:Nat)
abbrev vD(V:Nat->W)(l:List Nat):List (DK×W):=dI (fun a:Nat=>a) V l
theorem jv{V:Nat->W}{a:Nat}(hn:l.Nodup)(h:a∈l):iB (vD V l) (.i (a:Nat))=some (V a):=E_ (f:=fun a:Nat=>a) (g:=V) (by simpa using hn) h
theorem pQ{a:Nat}(kr:rs.Nodup)(ha:rs[i]?=some a):i<rs.length/\a∈rs/\rs.take (i+1)=rs.take i++[a]/\a∉rs.take i:=by
 have ya:rs.take (i+1)=rs.take i++[a]:=by rw[hZ,ha];rfl
 refine⟨(aa.mp ha).1,ak ha,ya,fun z=>?_⟩
 have:(rs.take (i+1)).Nodup:=kr.sublist (f9 _ _)
 rw[ya,cN]at this
 exact this.2.2 a z a (by simp) rfl
theorem zq{V:Nat->W}{a:Nat}{s:List ai}(kr:rs.Nodup)(ha:rs[i]?=some a)(hl:rs.length<=1000)(hs:s[n]?=some (.dct (vD V (rs.take i)))):jo (.loc n) (.int (a:Nat)) (V a) s=some (s.set n (.dct (vD V (rs.take (i+1))))):=by
 obtain⟨_,_,ya,hant⟩:=pQ kr ha
 rw[vQ hs (by rw[mG,a9];show _<1000000;omega),ya]
 congr 3
 exact vN (f:=fun a:Nat=>a) (g:=V) (a:=a) (by simpa using hant)
theorem xS{st:List ai}{r rv dv iv:Nat}{V:Nat->W}{e:FE}{P:RS->Prop}{rest:FS}(hr:st[r]?=some (.lst (cu rs)))(kr:rs.Nodup)(hl:rs.length<=1000)
  (Tu:∀o,(ρ.set iv o)[rv]?=some (lO r)) (TB:∀o,(ρ.set iv o)[dv]?=some (lO st.length)) (Ta:iv<ρ.length)
  (he:∀a∈rs,∀c,e (ρ.set iv (iO (a:Nat))) (st++[c])=.ok (V a) (st++[c]))
  (sP:∀o,gD P (rest (ρ.set iv o) (st++[.dct (vD V rs)]))) :
  gD P (aX (fg (cK (ag rv)) (eZ iv) (nJ (ag dv) (ag iv) e jo)) rest ρ (st++[.dct []])):=by
 have h0:ρ=ρ.set iv ρ[iv]:=by simp
 refine cU (k:=(cu rs,some (r,cu rs))) (fun i ρ' s=>∃o,ρ'=ρ.set iv o/\s=st++[.dct (vD V (rs.take i))]) (gs (gP (by have:=Tu ρ[iv];rwa[<- h0]at this)) (aR (ay hr))) ⟨_,h0,rfl⟩ ?_ ?_ ?_
 ·rintro i ρ' s ⟨o,rfl,rfl⟩
  exact aR (ay hr)
 ·rintro i w ρ' s hw ⟨o,rfl,rfl⟩
  rw[al]at hw
  obtain⟨a,ha,rfl⟩:=aY.mp hw
  obtain⟨hi,ham,_,_⟩:=pQ kr ha
  refine⟨ρ.set iv (iO (a:Nat)),?_,?_⟩
  ·show eZ iv _ _=_
   unfold eZ
   simp[Ta]
  ·refine⟨_,_,mE (he a ham _) (gP (TB _)) (gP (by rw[bi Ta])) (zq kr ha hl bn),_,rfl,?_⟩
   rw[eN];rfl
 ·rintro ρ' s ⟨o,rfl,rfl⟩
  rw[aj,gy]
  exact sP o
def gM(M:Mc)(a:Nat):Bool:=M.gd.getD a false
theorem Ib{M:Mc}{st:List ai}{r:Nat}(hM:nQ M N)(hr:st[r]?=some (.lst (cu rs)))(ND:∀a∈rs,a<N)(kr:rs.Nodup)(hl:rs.length<=1000) :
  ∃(B:Nat->Nat) (x:List ai),(∀a∈rs,∀b∈rs,(B a=B b↔gM M a=gM M b))/\(∃m h,pP rs B m h)/\dq x/\x[2]?=some (.dct (h9 B rs))/\HD [M.w,.loc r] st=.ok (.loc (st.length+2)) (st++x):=by
 suffices hh:gD (qJ fun w bv=>∃j x,w=.loc (st.length+j)/\bv=st++x/\j=2/\∃(B:Nat->Nat),(∀a∈rs,∀b∈rs,(B a=B b↔gM M a=gM M b))/\(∃m h,pP rs B m h)/\dq x/\x[2]?=some (.dct (h9 B rs))) (PU ([M.w,.loc r].map some++List.replicate (4-2) none) st) by
  obtain⟨j,x,⟨rfl,B,h1,hc,hp,h2⟩,e⟩:=iw hh
  exact⟨B,x,h1,hc,hp,h2,e⟩
 apply aG
 ·exact bU rfl
 refine xS (V:=fun a=>W.bl (gM M a)) hr kr hl (fun o=>rfl) (fun o=>rfl) (by simp) (fun a ha c=>?_) fun o=>?_
 ·refine bS kx kv (jt (d6 ?_))
  rw[al,ac (by rw[hM.gd];exact ND a ha)]
  simp[gM,az,ac (show a<M.gd.length by rw[hM.gd];exact ND a ha)]
 ·obtain⟨B,c,hB,hk,hp,e⟩:=qi (st:=st++[.dct (vD (fun a=>W.bl (gM M a)) rs)]) (r:=r) (q:=st.length) (rs:=rs) (kf:=fun a=>.bo (gM M a)) (tg:=0) (ay hr) bn (fun a ha=>jv kr ha) (fun _ _=>rfl) kr hl
  refine⟨_,_,nu (cL (ax kv kn) e rfl),2,[.dct (vD (fun a=>W.bl (gM M a)) rs),c,.dct (h9 B rs)],by simp,by simp,rfl,B,fun a ha b hb=>?_,by rw[hk];exact⟨_,(Fj _ _ rs rfl).2⟩,tI (fun _=>rfl) (eW hp (tI (fun _=>rfl) wc)),rfl⟩
  rw[hB a ha b hb]
  simp
theorem Fl{st:List ai}{r b v:Nat}{vw:Nat->List Int}(hr:st[r]?=some (.lst (cu rs)))(hb:st[b]?=some (.dct (h9 B rs)))(hv:st[v]?=some (.dct (vD (fun a=>.tup ((vw a).map W.int)) rs)))(kr:rs.Nodup)(hl:rs.length<=1000) :
  ∃(B':Nat->Nat) (x:List ai),(∀a∈rs,∀b∈rs,(B' a=B' b↔B a=B b/\vw a=vw b))/\(∃m h,pP rs B' m h)/\dq x/\x[2]?=some (.dct (h9 B' rs))/\BV [.loc r,.loc b,.loc v] st=.ok (.loc (st.length+2)) (st++x):=by
 suffices hh:gD (qJ fun w bv=>∃j x,w=.loc (st.length+j)/\bv=st++x/\j=2/\∃(B':Nat->Nat),(∀a∈rs,∀b∈rs,(B' a=B' b↔B a=B b/\vw a=vw b))/\(∃m h,pP rs B' m h)/\dq x/\x[2]?=some (.dct (h9 B' rs))) (P0 ([W.loc r,.loc b,.loc v].map some++List.replicate (5-3) none) st) by
  obtain⟨j,x,⟨rfl,B,h1,hc,hp,h2⟩,e⟩:=iw hh
  exact⟨B,x,h1,hc,hp,h2,e⟩
 apply aG
 ·exact bU rfl
 refine xS (V:=fun a=>(KX.pr (B a:Nat) (vw a)).w) hr kr hl (fun o=>rfl) (fun o=>rfl) (by simp) (fun a ha c=>?_) fun o=>?_
 ·exact iE (ax (bS kv kv (oK (fw (ay hb)) (jv kr ha))) (ax (bS kv kv (oK (fw (ay hv)) (jv kr ha))) bB)) (by show 2<=1000000;decide)
 ·obtain⟨B',c,hB,hk,hp,e⟩:=qi (st:=st++[.dct (vD (fun a=>(KX.pr (B a:Nat) (vw a)).w) rs)]) (r:=r) (q:=st.length) (rs:=rs) (kf:=fun a=>.pr (B a:Nat) (vw a)) (tg:=2) (ay hr) bn (fun a ha=>jv kr ha) (fun _ _=>rfl) kr hl
  refine⟨_,_,nu (cL (ax kv kn) e rfl),2,[.dct (vD (fun a=>(KX.pr (B a:Nat) (vw a)).w) rs),c,.dct (h9 B' rs)],by simp,by simp,rfl,B',fun a ha b hb=>?_,by rw[hk];exact⟨_,(Fj _ _ rs rfl).2⟩,tI (fun _=>rfl) (eW hp (tI (fun _=>rfl) wc)),rfl⟩
  rw[hB a ha b hb,KX.pr.injEq]
  exact⟨fun z=>⟨by omega,z.2⟩,fun z=>⟨by rw[z.1],z.2⟩⟩
theorem Fm{st:List ai}{zs ys:List W}(h:st[n]?=some (.lst zs))(h2:st[m]?=some (.lst ys))(hl:zs.length+ys.length<=1000000):jl (.loc n) [.loc m] st=.ok .non (st.set n (.lst (zs++ys))):=by
 unfold jl oh
 simp only[h,h2,aR h2,cA]
 rw[aw hl]
def Fp:W->Nat
 |.int z=>z.toNat
 |_=>0
theorem sI(a:Nat):Fp (.int (a:Nat))=a:=by show((a:Int)).toNat=a;omega
theorem Fq(rs:List Nat)(f:Nat->W):(cu rs).map (fun w=>f (Fp w))=rs.map f:=by
 unfold cu;rw[aL];exact aZ fun a _=>by show f (Fp (.int (a:Nat)))=f a;rw[sI]
theorem Fs{w:W}(h:w∈cu rs):∃a∈rs,w=.int (a:Nat):=by
 obtain⟨a,ha,rfl⟩:=am.mp h;exact⟨a,ha,rfl⟩
def xU(M:Mc)(rs:List Nat)(B:Nat->Nat)(a:Nat):List Int:=(pO M.tb.length rs).map fun p=>((B (led (bL M) p a):Nat):Int)
structure Rm(M:Mc)(N:Nat)(rs:List Nat):Prop where
 ok:nQ M N
 lt:∀a∈rs,a<N
 nd:rs.Nodup
 len:rs.length<=100
 sz:M.tb.length*(2*rs.length)<=10000
 cl:∀k,k<M.tb.length->∀a∈rs,∀b∈rs,bL M k a b∈rs
theorem Ft{M:Mc}{st:List ai}{r b:Nat}(hM:Rm M N rs)(hr:st[r]?=some (.lst (cu rs)))(hb:st[b]?=some (.dct (h9 B rs))) :
  ∃x:List ai,dq x/\x[0]?=some (.dct (vD (fun a=>.tup ((xU M rs B a).map W.int)) rs))/\BU [M.w,.loc r,.loc b] st=.ok (.loc st.length) (st++x):=by
 suffices hh:gD (qJ fun w bv=>∃j x,w=.loc (st.length+j)/\bv=st++x/\j=0/\dq x/\x[0]?=some (.dct (vD (fun a=>.tup ((xU M rs B a).map W.int)) rs))) (PY ([M.w,.loc r,.loc b].map some++List.replicate (7-3) none) st) by
  obtain⟨j,x,⟨rfl,hp,h1⟩,e⟩:=iw hh
  exact⟨x,hp,h1,e⟩
 have dH:=hM.len
 apply aG
 ·exact bU rfl
 refine cU (k:=(cu rs,some (r,cu rs))) (fun i ρ s=>∃x o4 o5 o6,dq x/\ρ=[some M.w,lO r,lO b,lO st.length,o4,o5,o6]/\s=st++.dct (vD (fun a=>.tup ((xU M rs B a).map W.int)) (rs.take i))::x) (gs kv (aR (ay hr))) ⟨[],none,none,none,wc,rfl,rfl⟩ ?_ ?_ ?_
 ·rintro i ρ' s ⟨x,o4,o5,o6,_,rfl,rfl⟩
  exact aR (ay hr)
 ·rintro i w ρ' s hw ⟨x,o4,o5,o6,npx,rfl,rfl⟩
  rw[al]at hw
  obtain⟨a,ha,rfl⟩:=aY.mp hw
  obtain⟨hi,ham,_,_⟩:=pQ hM.nd ha
  refine⟨_,rfl,?_⟩
  have c3:(st++.dct (vD (fun a=>.tup ((xU M rs B a).map W.int)) (rs.take i))::x)[st.length]?=some (.dct (vD (fun a=>.tup ((xU M rs B a).map W.int)) (rs.take i))):=by rw[cB];rfl
  have cr:(st++.dct (vD (fun a=>.tup ((xU M rs B a).map W.int)) (rs.take i))::x)[r]?=some (.lst (cu rs)):=ay hr
  have cb:(st++.dct (vD (fun a=>.tup ((xU M rs B a).map W.int)) (rs.take i))::x)[b]?=some (.dct (h9 B rs)):=ay hb
  have hss:∀(y:List ai) (c:ai),dq y->∃x',dq x'/\(st++.dct (vD (fun a=>.tup ((xU M rs B a).map W.int)) (rs.take i))::x++y).set st.length c=st++c::x':=fun y c npy=>⟨x++y,eW npx npy,by rw[aO,eN];rfl⟩
  generalize st++.dct (vD (fun a=>.tup ((xU M rs B a).map W.int)) (rs.take i))::x=s0 at c3 cr cb hss
  apply aG
  ·exact bU (Ar bB (cM _))
  refine cU (k:=(M.tb.map dE,none)) (fun k ρ s=>∃y o6,dq y/\ρ=[some M.w,lO r,lO b,lO st.length,iO (a:Nat),lO s0.length,o6]/\s=s0++.lst ((pO k rs).map fun p=>W.int (B (led (bL M) p a):Nat))::y) (gG kx) ⟨[],_,wc,rfl,rfl⟩ (fun _ _ _ _=>trivial) ?_ ?_
  ·rintro k w ρ' s hw ⟨y,o6,npy,rfl,rfl⟩
   rw[al]at hw
   obtain⟨t,ht,rfl⟩:=aY.mp hw
   have hk:k<M.tb.length:=(aa.mp ht).1
   refine⟨_,rfl,?_⟩
   have oU:(pO k rs).length<=10000:=by
    rw[H9]
    refine be (Nat.mul_le_mul_right _ (cV hk)) hM.sz
   have c5:(s0++.lst ((pO k rs).map fun p=>W.int (B (led (bL M) p a):Nat))::y)[s0.length]?=some (.lst ((pO k rs).map fun p=>W.int (B (led (bL M) p a):Nat))):=by rw[cB];rfl
   have cr':(s0++.lst ((pO k rs).map fun p=>W.int (B (led (bL M) p a):Nat))::y)[r]?=some (.lst (cu rs)):=ay cr
   have cb':(s0++.lst ((pO k rs).map fun p=>W.int (B (led (bL M) p a):Nat))::y)[b]?=some (.dct (h9 B rs)):=ay cb
   apply aG
   ·refine fC (m_ kv (eU c5) (ax (f7 (fun w=>W.int (B (bL M k a (Fp w)):Nat)) (gs kv (aR cr')) (by rw[aj];show _<=1000000;omega) (aR cr') fun w hw=>?_) bB) (Fm (ay c5) bn (by rw[aj,aj,aj];omega)))
    obtain⟨z,hz,rfl⟩:=Fs hw
    obtain⟨row,e1,e2,_⟩:=sD hM.ok ht (hM.lt a ham) (hM.lt z hz)
    rw[sI]
    exact⟨_,rfl,bS kv (bS (bS kv kv (uH e1)) kv (uI e2)) (oK (fw cb') (jv hM.nd (hM.cl k hk a ham z hz)))⟩
   rw[aO,eN,Fq rs fun t=>W.int (B (bL M k a t):Nat)]
   generalize hy:(y++[.lst (rs.map fun t=>W.int (B (bL M k a t):Nat))]:List ai)=y1
   generalize hL1:((pO k rs).map fun p=>W.int (B (led (bL M) p a):Nat))++(rs.map fun t=>W.int (B (bL M k a t):Nat))=L1
   have hl1:L1.length<=20000:=by rw[<- hL1];simp;omega
   show gD _ (eJ _ _ (s0++.lst L1::(y++[_])))
   rw[hy]
   have c5':(s0++.lst L1::y1)[s0.length]?=some (.lst L1):=by rw[cB];rfl
   have cr2:(s0++.lst L1::y1)[r]?=some (.lst (cu rs)):=ay cr
   have cb2:(s0++.lst L1::y1)[b]?=some (.dct (h9 B rs)):=ay cb
   refine⟨_,_,fC (m_ kv (eU c5') (ax (f7 (fun w=>W.int (B (bL M k (Fp w) a):Nat)) (gs kv (aR cr2)) (by rw[aj];show _<=1000000;omega) (aR cr2) fun w hw=>?_) bB) (Fm (ay c5') bn (by rw[aj,aj];omega))),y1++[.lst (rs.map fun t=>W.int (B (bL M k t a):Nat))],_,eW (by rw[<- hy];exact eW npy (tI (fun _=>rfl) wc)) (tI (fun _=>rfl) wc),rfl,?_⟩
   ·obtain⟨z,hz,rfl⟩:=Fs hw
    obtain⟨row,e1,e2,_⟩:=sD hM.ok ht (hM.lt z hz) (hM.lt a ham)
    rw[sI]
    exact⟨_,rfl,bS kv (bS (bS kv kv (uH e1)) kv (uI e2)) (oK (fw cb2) (jv hM.nd (hM.cl k hk z hz a ham)))⟩
   ·rw[aO,eN,Fq rs fun t=>W.int (B (bL M k t a):Nat)]
    show s0++.lst (L1++_)::(y1++_)=s0++.lst _::_
    congr 3
    rw[Ff,<- hL1]
    simp[led,aL,dR]
  ·rintro ρ' s ⟨y,o6,npy,rfl,rfl⟩
   rw[aj]
   have c5:(s0++.lst ((pO M.tb.length rs).map fun p=>W.int (B (led (bL M) p a):Nat))::y)[s0.length]?=some (.lst ((pO M.tb.length rs).map fun p=>W.int (B (led (bL M) p a):Nat))):=by rw[cB];rfl
   have ev:W.tup ((pO M.tb.length rs).map fun p=>W.int (B (led (bL M) p a):Nat))=.tup ((xU M rs B a).map W.int):=by
    unfold xU;rw[aL];rfl
   obtain⟨x',npx',hx⟩:=hss (.lst ((pO M.tb.length rs).map fun p=>W.int (B (led (bL M) p a):Nat))::y) (.dct (vD (fun a=>.tup ((xU M rs B a).map W.int)) (rs.take (i+1)))) (tI (fun _=>rfl) npy)
   refine⟨_,_,mE (bh kn (eK (aR c5))) kv kv (by rw[ev];exact zq (V:=fun a=>.tup ((xU M rs B a).map W.int)) hM.nd ha (by omega) (ay c3)),x',_,_,_,npx',rfl,hx⟩
 ·rintro ρ' s ⟨x,o4,o5,o6,npx,rfl,rfl⟩
  rw[aj,gy]
  exact⟨_,_,nu kv,0,_,rfl,rfl,rfl,tI (fun _=>rfl) npx,rfl⟩
theorem Ic{p:Nat×Nat×Nat}(h:p∈pO L rs):p.1<L/\p.2.2∈rs:=by
 unfold pO at h
 rw[List.mem_flatMap]at h
 obtain⟨a,ha,h⟩:=h
 have:=a_.mp ha
 rcases aH.mp h with h|h<;>(obtain⟨t,ht,rfl⟩:=am.mp h;exact⟨this,ht⟩)
section
variable{M:Mc}{s:Nat}
theorem Rm.led(hM:Rm M N rs){p:Nat×Nat×Nat}(hp:p∈pO M.tb.length rs){a:Nat}(ha:a∈rs):led (bL M) p a∈rs:=by
 obtain⟨h1,h2⟩:=Ic hp
 unfold P.led
 split
 ·exact hM.cl _ h1 _ ha _ h2
 ·exact hM.cl _ h1 _ h2 _ ha
abbrev Ca(M:Mc)(rs:List Nat)(s a b:Nat):Bool:=ap (bL M) M.tb.length (gM M) rs s a b
abbrev MI(M:Mc)(rs:List Nat)(s:Nat):List (Nat×Nat):=HY (bL M) M.tb.length (gM M) rs s
def Cr(M:Mc)(rs:List Nat)(s:Nat)(B:Nat->Nat):Prop:=∀a∈rs,∀b∈rs,(B a=B b↔Ca M rs s a b=false)
theorem Qh(h:∀a∈rs,∀b∈rs,(B a=B b↔gM M a=gM M b)):Cr M rs 0 B:=fun a ha b hb=>by
 rw[h a ha b hb];unfold Ca ap;simp
theorem Qi(hM:Rm M N rs)(h:Cr M rs s B)(h':∀a∈rs,∀b∈rs,(B' a=B' b↔B a=B b/\xU M rs B a=xU M rs B b)):Cr M rs (s+1) B':=fun a ha b hb=>by
 rw[h' a ha b hb,h a ha b hb]
 unfold xU
 rw[List.map_inj_left]
 constructor
 ·rintro⟨z1,z2⟩
  exact xR z1 fun p hp=>(h _ (hM.led hp ha) _ (hM.led hp hb)).mp (by have:=z2 p hp;omega)
 ·intro z
  obtain⟨z1,z2⟩:=mH z
  exact⟨z1,fun p hp=>by rw[(h _ (hM.led hp ha) _ (hM.led hp hb)).mpr (z2 p hp)]⟩
end
theorem Fu{f:bY->List ai->R Bool}{st a b:List ai}(h1:f ρ st=.ok false a)(h2:f ρ st=.ok true b):False:=by
 rw[h1]at h2;cases h2
theorem AM:∀{l:List Nat} {a b:Nat},a∈l->b∈l->a≠b->(a,b)∈kJ l\/(b,a)∈kJ l
 |[],_,_,h,_,_=>by cases h
 |x::r,a,b,ha,hb,hab=>by
  unfold kJ
  rcases aJ.mp ha with z1|z1
  ·rcases aJ.mp hb with z2|z2
   ·exact absurd (z1.trans z2.symm) hab
   ·exact .inl (cF _ (am.mpr ⟨b,z2,by rw[z1]⟩))
  ·rcases aJ.mp hb with z2|z2
   ·exact .inr (cF _ (am.mpr ⟨a,z1,by rw[z2]⟩))
   ·rcases AM z1 z2 hab with z|z
    ·exact .inl (aT _ z)
    ·exact .inr (aT _ z)
theorem Fv{B B':Nat->Nat}(kr:rs.Nodup):∀l:List Nat,(∀a∈l,a∈rs)->xf (h9 B rs) (h9 B' l)=some (l.all fun a=>B' a==B a)
 |[],_=>rfl
 |a::l,h=>by
  have hg:iB (h9 B rs) (.i (a:Nat))=some (.int (B a:Nat)):=jv (V:=fun a=>W.int (B a:Nat)) kr (h a (by simp))
  have ih:=Fv (B:=B) (B':=B') kr l fun b hb=>h b (by simp[hb])
  show xf (h9 B rs) ((DK.i (a:Nat),W.int (B' a:Nat))::h9 B' l)=_
  unfold xf
  simp only[hg,ih,lX,kj]
  congr 2
  rw[iT,bT,bT]
  omega
theorem Qj{st:List ai}{p q:Nat}(kr:rs.Nodup)(hp:st[p]?=some (.dct (h9 B' rs)))(hq:st[q]?=some (.dct (h9 B rs))):yZ (.loc p) (.loc q) st=.ok (.bl (!(rs.all fun a=>B' a==B a))) st:=by
 unfold yZ
 rw[fw hp,fw hq]
 simp only[mG,d7]
 rw[Fv kr rs fun _ h=>h]
section
variable{M:Mc}
structure oP(M:Mc)(rs:List Nat)(B:Nat->Nat):Prop where
 can:∃m h,pP rs B m h
 ok:∃s,Cr M rs s B/\Cr M rs (s+1) B
theorem MJ{s:Nat}(c:∃m h,pP rs B m h)(c':∃m h,pP rs B' m h)(h:Cr M rs s B)(h':Cr M rs (s+1) B')(hn:MI M rs (s+1)=[]):∀a∈rs,B a=B' a:=by
 obtain⟨m,hh,c⟩:=c
 obtain⟨m',hh',c'⟩:=c'
 refine Fk c c' fun a ha b hb=>?_
 rw[h a ha b hb,h' a ha b hb]
 have pr:∀a b,(a,b)∈kJ rs->Ca M rs s a b=false->Ca M rs (s+1) a b=false:=fun a b hp z=>by
  cases e:Ca M rs (s+1) a b with
  |false=>rfl
  |true=>
   have:(a,b)∈MI M rs (s+1):=du.mpr ⟨hp,by show((!Ca M rs s a b)&&Ca M rs (s+1) a b)=true;rw[z,e];rfl⟩
   rw[hn]at this;cases this
 constructor
 ·intro z
  by_cases hab:a=b
  ·subst hab;exact zp _ _
  ·rcases AM ha hb hab with y|y
   ·exact pr a b y z
   ·have:=pr b a y (by show ap _ _ _ _ _ _ _=_;rw[qM];exact z)
    show ap _ _ _ _ _ _ _=_
    rw[qM];exact this
 ·exact fun z=>(mH z).1
theorem sJ(hM:Rm M N rs){st:List ai}{r b:Nat}{s:Nat}(hr:st[r]?=some (.lst (cu rs)))(hb:st[b]?=some (.dct (h9 B rs)))(h:Cr M rs s B){fv fr:FE}(e1:fv ρ st=.ok M.w st)(e2:fr ρ st=.ok (.loc r) st)(e3:fb ρ st=.ok (.loc b) st) :
  ∃(B':Nat->Nat) (p:Nat) (y:List ai),Cr M rs (s+1) B'/\(∃m h,pP rs B' m h)/\dq y/\y[p]?=some (.dct (h9 B' rs)) /\
   de 3 BV (ah fr (ah fb (ah (de 3 BU (ah fv (ah fr (ah fb aB)))) aB))) ρ st=.ok (.loc (st.length+p)) (st++y):=by
 have hl:=hM.len
 obtain⟨x,npx,x0,ev⟩:=Ft hM hr hb
 have hv:(st++x)[st.length]?=some (.dct (vD (fun a=>.tup ((xU M rs B a).map W.int)) rs)):=by rw[cB];exact x0
 obtain⟨B',y,hB,can,npy,y2,es⟩:=Fl (st:=st++x) (ay hr) (ay hb) hv hM.nd (by omega)
 refine⟨B',x.length+2,x++y,Qi hM h fun a ha b hb=>hB a ha b hb,can,eW npx npy,?_,?_⟩
 ·rw[dh];exact y2
 ·rw[<- aO,show st.length+(x.length+2)=(st++x).length+2 by rw[aI];omega]
  exact cL (ax e2 (ax e3 (ax (cL (ax e1 (ax e2 (ax e3 bB))) ev rfl) bB))) es rfl
theorem Ie(hM:Rm M N rs){st:List ai}{r:Nat}(hr:st[r]?=some (.lst (cu rs))):∃(B:Nat->Nat) (j:Nat) (x:List ai),oP M rs B/\dq x/\x[j]?=some (.dct (h9 B rs))/\HE [M.w,.loc r] st=.ok (.loc (st.length+j)) (st++x):=by
 have hl:=hM.len
 suffices hh:gD (qJ fun w bv=>∃j x,w=.loc (st.length+j)/\bv=st++x/\dq x/\∃B,oP M rs B/\x[j]?=some (.dct (h9 B rs))) (P6 ([M.w,.loc r].map some++List.replicate (4-2) none) st) by
  obtain⟨j,x,⟨np,B,h1,h2⟩,e⟩:=iw hh
  exact⟨B,j,x,h1,np,h2,e⟩
 obtain⟨B,x,hB,can,npx,x2,eg⟩:=Ib hM.ok hr hM.lt hM.nd (by omega)
 refine aG (bU (cL (ax kv kn) eg rfl)) ?_
 have b0:Cr M rs 0 B:=Qh hB
 have hb:(st++x)[st.length+2]?=some (.dct (h9 B rs)):=by rw[dh];exact x2
 obtain⟨B',p,y,b1,can',npy,hp,es⟩:=sJ hM (st:=st++x) (r:=r) (b:=st.length+2) (ay hr) hb b0 (fv:=ag 0) (fr:=ag 1) (fb:=ag 2) (ρ:=[some M.w,lO r,lO (st.length+2),none]) kv kv kv
 refine aG (bU es) ?_
 have tq':∀{S:List ai} {B B':Nat->Nat} {u v:Nat},S[v]?=some (.dct (h9 B' rs))->S[u]?=some (.dct (h9 B rs))->f6 (e2 yZ (ag 3) (ag 2)) [some M.w,lO r,lO u,lO v] S=.ok (!(rs.all fun a=>B' a==B a)) S:=fun h h'=>cE (bS kv kv (Qj hM.nd h h'))
 refine pJ (fun n ρ s=>∃(B B':Nat->Nat) (k j p:Nat) (x:List ai),n=Re (bL M) M.tb.length (gM M) rs (k+1)/\Cr M rs k B/\Cr M rs (k+1) B'/\(∃m h,pP rs B m h)/\(∃m h,pP rs B' m h)/\dq x/\x[j]?=some (.dct (h9 B rs))/\x[p]?=some (.dct (h9 B' rs)) /\
   ρ=[some M.w,lO r,lO (st.length+j),lO (st.length+p)]/\s=st++x) _ ⟨B,B',0,2,x.length+p,x++y,rfl,b0,b1,can,can',eW npx npy,?_,?_,?_,?_⟩ ?_ ?_
 ·rw[aq (aa.mp x2).1];exact x2
 ·rw[dh];exact hp
 ·rw[show st.length+(x.length+p)=(st++x).length+p by rw[aI];omega];rfl
 ·rw[aO]
 ·rintro n ρ s ⟨B,B',k,j,p,x,rfl,b0,b1,can,can',npx,xj,xp,rfl,rfl⟩
  have hj:(st++x)[st.length+j]?=some (.dct (h9 B rs)):=by rw[dh];exact xj
  have hp:(st++x)[st.length+p]?=some (.dct (h9 B' rs)):=by rw[dh];exact xp
  have tt:=tq' hp hj
  cases e:rs.all fun a=>B' a==B a with
  |true=>rw[e]at tt;exact .inl tt
  |false=>
   rw[e]at tt
   refine .inr ⟨tt,?_⟩
   have lx:MI M rs (k+1)≠[]:=fun z=>by
    have:=MJ can can' b0 b1 z
    rw[List.all_eq_false]at e
    obtain⟨a,ha,h2⟩:=e
    exact h2 (by rw[this a ha];exact dL _)
   refine aG (bU kv) ?_
   obtain⟨B2,p2,y,b2,can2,npy,hp2,es⟩:=sJ hM (st:=st++x) (r:=r) (b:=st.length+p) (ay hr) hp b1 (fv:=ag 0) (fr:=ag 1) (fb:=ag 2) (ρ:=[some M.w,lO r,lO (st.length+p),lO (st.length+p)]) kv kv kv
   refine dF (bU es) ⟨_,_,rfl,_,Qf lx,B',B2,k+1,p,x.length+p2,x++y,rfl,b1,b2,can',can2,eW npx npy,?_,?_,?_,?_⟩
   ·rw[aq (aa.mp xp).1];exact xp
   ·rw[dh];exact hp2
   ·rw[show st.length+(x.length+p2)=(st++x).length+p2 by rw[aI];omega];rfl
   ·rw[aO]
 ·rintro n ρ s ⟨B,B',k,j,p,x,rfl,b0,b1,can,can',npx,xj,xp,rfl,rfl⟩ hno
  have hj:(st++x)[st.length+j]?=some (.dct (h9 B rs)):=by rw[dh];exact xj
  have hp:(st++x)[st.length+p]?=some (.dct (h9 B' rs)):=by rw[dh];exact xp
  have tt:=tq' hp hj
  cases e:rs.all fun a=>B' a==B a with
  |false=>rw[e]at tt;exact(Fu hno tt).elim
  |true=>
   rw[d_]at e
   refine dC kv ⟨_,_,rfl,j,x,rfl,rfl,npx,B,⟨can,k,b0,fun a ha b hb=>?_⟩,xj⟩
   rw[<- b1 a ha b hb,bT.mp (e a ha),bT.mp (e b hb)]
end
section
variable{h:Nat->Nat}
def nS(rs:List Nat)(h:Nat->Nat)(j:Nat):Nat:=rs.getD (h j) 0
def pR(rs:List Nat)(h:Nat->Nat)(m:Nat):List Nat:=(List.range m).map (nS rs h)
theorem Fw{x:Nat}(e:rs[h j]?=some x):nS rs h j=x:=by unfold nS;rw[az,e];rfl
theorem pP.at'(c:pP rs B m h){j:Nat}(hj:j<m):rs[h j]?=some (nS rs h j)/\nS rs h j∈rs/\B (nS rs h j)=j:=by
 obtain⟨x,h1,h2⟩:=c.hd j hj
 rw[Fw h1]
 exact⟨h1,ak h1,h2⟩
theorem pP.m_le(c:pP rs B m h)(hl:rs.length<=1000):∀j,j<m->j<=h j:=by
 intro j
 induction j with
 |zero=>intro _;exact cM _
 |succ j ih=>
  intro hj
  have:=ih (by omega)
  have:=c.up j (j+1) (by omega) hj
  omega
theorem pP.len(c:pP rs B m h)(hl:rs.length<=1000):m<=rs.length:=by
 rcases gN m with z|z
 ·omega
 ·have:=c.m_le hl (m-1) (by omega)
  have:=(aa.mp (c.at' (j:=m-1) (by omega)).1).1
  omega
theorem Fx(c:pP rs B m h)(kr:rs.Nodup)(hl:rs.length<=1000){st:List ai}{r b:Nat}(hr:st[r]?=some (.lst (cu rs)))(hb:st[b]?=some (.dct (h9 B rs))):HF [.loc r,.loc b] st=.ok (.loc st.length) (st++[.lst (cu (pR rs h m))]):=by
 suffices hh:gD (qJ fun w bv=>∃j x,w=.loc (st.length+j)/\bv=st++x/\j=0/\x=[.lst (cu (pR rs h m))]) (P8 ([W.loc r,.loc b].map some++List.replicate (4-2) none) st) by
  obtain⟨j,x,⟨rfl,rfl⟩,e⟩:=iw hh
  exact e
 have hml:=c.len hl
 refine aG (bU (Ar bB (cM _))) ?_
 refine cU (k:=(cu rs,some (r,cu rs))) (fun i ρ s=>∃(n:Nat) (o3:Option W),n<=m/\(∀j,j<n->h j<i)/\(∀j,n<=j->j<m->i<=h j)/\ρ=[lO r,lO b,lO st.length,o3]/\s=st++[.lst (cu (pR rs h n))]) (gs kv (aR (ay hr))) ⟨0,none,cM _,fun j z=>absurd z (cp _),fun j _ _=>cM _,rfl,rfl⟩ ?_ ?_ ?_
 ·rintro i ρ s ⟨n,o3,_,_,_,rfl,rfl⟩
  exact aR (ay hr)
 ·rintro i w ρ s hw ⟨n,o3,hn,h1,h2,rfl,rfl⟩
  rw[al]at hw
  obtain⟨a,ha,rfl⟩:=aY.mp hw
  obtain⟨f1,f2⟩:=c.fst i a ha
  have ham:a∈rs:=ak ha
  refine⟨_,rfl,?_⟩
  have hc:(st++[ai.lst (cu (pR rs h n))])[st.length]?=some (.lst (cu (pR rs h n))):=by rw[cB];rfl
  have ln:cQ [.loc st.length] (st++[ai.lst (cu (pR rs h n))])=.ok (.int (n:Nat)) (st++[ai.lst (cu (pR rs h n))]):=by
   rw[g8 (aR hc)];simp[pR]
  have ix:kE (.loc b) (.int (a:Nat)) (st++[ai.lst (cu (pR rs h n))])=.ok (.int (B a:Nat)) (st++[ai.lst (cu (pR rs h n))]):=oK (fw (ay hb)) (jv (V:=fun a=>W.int (B a:Nat)) kr ham)
  by_cases e:B a=n
  ·refine oG (cE (bS (bS kv kv ix) (bh kn ln) (oF (by rw[bT];omega)))) ?_
   have hi:h n=i:=by
    have:=h2 n (av _) (by omega)
    rw[e]at f2;omega
   have hd:nS rs h n=a:=Fw (by rw[hi];exact ha)
   refine dF (fC (m_ kv (eU hc) kn (ux hc (by simp[pR];show _<1000000;omega)))) ⟨_,_,rfl,n+1,_,by omega,fun j hj=>?_,fun j hj hjm=>?_,rfl,?_⟩
   ·rcases cD j n with z|z
    ·have:=h1 j z;omega
    ·have:j=n:=by omega
     rw[this,hi];omega
   ·have:=c.up n j (by omega) hjm;omega
   ·rw[eN]
    simp[pR,List.range_succ,hd]
  ·refine kH (cE (bS (bS kv kv ix) (bh kn ln) (oF (by rw[a8];omega)))) ⟨_,_,rfl,n,_,hn,fun j hj=>by have:=h1 j hj;omega,fun j hj hjm=>?_,rfl,rfl⟩
   have h3:=h2 j hj hjm
   rcases cD i (h j)with z|z
   ·exact z
   ·exfalso
    have hij:h j=i:=by omega
    have ba:B a=j:=by
     obtain⟨g1,_,g3⟩:=c.at' hjm
     rw[hij,ha]at g1
     cases g1;exact g3
    rcases jJ hj with y|y
    ·omega
    ·have:=c.up n j y hjm
     have:=h2 n (av _) (by omega)
     omega
 ·rintro ρ s ⟨n,o3,hn,h1,h2,rfl,rfl⟩
  rw[aj]at h2
  have:n=m:=by
   rcases jJ hn with z|z
   ·exact z
   ·have a1:=h2 n (av _) z
    have a2:=(aa.mp (c.at' z).1).1
    omega
  subst this
  exact dC kv ⟨_,_,rfl,0,_,rfl,rfl,rfl,rfl⟩
end
section
variable{M:Mc}{h:Nat->Nat}
theorem oP.cg(l:oP M rs B)(hM:Rm M N rs){a x x' y y':Nat}(ha:a<M.tb.length)(hx:x∈rs)(pi:x'∈rs)(hy:y∈rs)(ye:y'∈rs)(e1:B x=B x')(e2:B y=B y'):B (bL M a x y)=B (bL M a x' y'):=by
 obtain⟨s,b0,b1⟩:=l.ok
 have h1:=(mH ((b1 x hx x' pi).mp e1)).2 (a,0,y) (m6.mpr ⟨ha,.inl rfl,hy⟩)
 have h2:=(mH ((b1 y hy y' ye).mp e2)).2 (a,1,x') (m6.mpr ⟨ha,.inr rfl,pi⟩)
 have h1:Ca M rs s (bL M a x y) (bL M a x' y)=false:=h1
 have h2:Ca M rs s (bL M a x' y) (bL M a x' y')=false:=h2
 exact(b0 _ (hM.cl a ha x hx y hy) _ (hM.cl a ha x' pi y' ye)).mpr (Fg s _ _ _ h1 h2)
theorem oP.st(l:oP M rs B)(hM:Rm M N rs):∀(k:Nat) (a b:Nat),a∈rs->b∈rs->B a=B b->Ca M rs k a b=false:=by
 obtain⟨s,b0,b1⟩:=l.ok
 intro k
 induction k with
 |zero=>intro a b ha hb e;exact Fd s 0 (by rw[fP];exact(b0 a ha b hb).mp e)
 |succ k ih=>
  intro a b ha hb e
  refine xR (ih a b ha hb e) fun p hp=>?_
  refine ih _ _ (hM.led hp ha) (hM.led hp hb) ?_
  exact(b0 _ (hM.led hp ha) _ (hM.led hp hb)).mpr ((mH ((b1 a ha b hb).mp e)).2 p hp)
theorem oP.quo{E:List Ro}(f:lu (bL M) M.tb.length N E)(l:oP M (E.map Prod.fst) B)(hM:Rm M N (E.map Prod.fst))(c:pP (E.map Prod.fst) B m h):xQ (bL M) M.tb.length N E B h (fun j=>E.getD (h j) (0,zW)) m:=by
 have at':∀j,j<m->E[h j]?=some (E.getD (h j) (0,zW))/\(E.getD (h j) (0,zW)).1=nS (E.map Prod.fst) h j:=fun j hj=>by
  obtain⟨h1,_,_⟩:=c.at' hj
  rw[al]at h1
  obtain⟨e,he,h2⟩:=aY.mp h1
  rw[az,he]
  exact⟨rfl,h2⟩
 refine⟨f,fun j hj=>⟨(at' j hj).1,?_⟩,fun i e he=>?_,c.up,fun a x x' y y' ha hx pi hy ye e1 e2=>l.cg hM ha hx pi hy ye e1 e2⟩
 ·show B (E.getD (h j) (0,zW)).1=j
  rw[(at' j hj).2];exact(c.at' hj).2.2
 ·exact c.fst i e.1 (by rw[al,he];rfl)
def uL(M:Mc)(rs:List Nat)(B h:Nat->Nat)(m:Nat):Mc:=⟨M.nm,(List.range m).map fun j=>gM M (nS rs h j),(List.range M.tb.length).map fun a=>(List.range m).map fun l=>(List.range m).map fun r=>B (bL M a (nS rs h l) (nS rs h r))⟩
theorem MK(hM:Rm M N rs)(c:pP rs B m h):nQ (uL M rs B h m) m:=by
 refine⟨by simp[uL],by simp[uL,hM.ok.tb],fun t ht=>?_⟩
 simp only[uL,am]at ht
 obtain⟨a,ha,rfl⟩:=ht
 have ha:=a_.mp ha
 refine⟨by simp,fun r hr=>?_⟩
 obtain⟨l,hl,rfl⟩:=am.mp hr
 refine⟨by simp,fun v hv=>?_⟩
 obtain⟨q,hq,rfl⟩:=am.mp hv
 obtain⟨i,hi⟩:=aU (hM.cl a ha _ (c.at' (a_.mp hl)).2.1 _ (c.at' (a_.mp hq)).2.1)
 exact(c.fst i _ hi).1
theorem qO{a l r:Nat}(ha:a<M.tb.length)(hl:l<m)(hr:r<m):bL (uL M rs B h m) a l r=B (bL M a (nS rs h l) (nS rs h r)):=by
 have gm:∀{α:Type} (f:Nat->α) (n i:Nat) (d:α),i<n->((List.range n).map f).getD i d=f i:=fun f n i d hi=>by
  rw[az,al,bZ hi];rfl
 show((((List.range M.tb.length).map fun a=>(List.range m).map fun l=>(List.range m).map fun r=>B (bL M a (nS rs h l) (nS rs h r))).getD a []).getD l []).getD r 0=_
 rw[gm _ _ _ _ ha,gm _ _ _ _ hl,gm _ _ _ _ hr]
end
section
variable{M:Mc}{h:Nat->Nat}
theorem Ig(hM:Rm M N rs)(c:pP rs B m h){st:List ai}{p q:Nat}(hp:st[p]?=some (.lst (cu (pR rs h m))))(hq:st[q]?=some (.dct (h9 B rs))){a l r:Nat}(ha:a<M.tb.length)(hl:l<m)(hr:r<m) :
  cW [.int (a:Int),.int (l:Int),.int (r:Int),M.w,.loc p,.loc q] st=.ok (.int (B (bL M a (nS rs h l) (nS rs h r)):Nat)) st:=by
 have ht:=ac ha
 obtain⟨_,l1,_⟩:=c.at' hl
 obtain⟨_,r1,_⟩:=c.at' hr
 obtain⟨row,e1,e2',_⟩:=sD hM.ok ht (hM.lt _ l1) (hM.lt _ r1)
 have ixh:∀{j:Nat},j<m->bJ (.loc p) (.int (j:Int)) st=.ok (.int (nS rs h j:Nat)) st:=fun{j} hj=>lR (aR hp) (d6 (by unfold pR cu;rw[al,al,bZ hj];rfl))
 have g2:bJ M.w (.int 2) st=.ok (.tup (M.tb.map dE)) st:=rfl
 have it:bJ (.tup (M.tb.map dE)) (.int (a:Int)) st=.ok (dE M.tb[a]) st:=jt (d6 (by rw[al,ht];rfl))
 have ixd:kE (.loc q) (.int (bL M a (nS rs h l) (nS rs h r):Nat)) st=.ok (.int (B (bL M a (nS rs h l) (nS rs h r)):Nat)) st:=oK (fw hq) (jv (V:=fun a=>W.int (B a:Nat)) hM.nd (hM.cl a ha _ l1 _ r1))
 refine kI (N:=6) (ws:=[.int (a:Int),.int (l:Int),.int (r:Int),M.w,.loc p,.loc q]) (body:=ju) ?_
 exact dC (bS kv (bS (bS (bS (bS kv dN g2) kv it) (bS kv kv (ixh hl)) (uH e1)) (bS kv kv (ixh hr)) (uI e2')) ixd) ⟨_,_,rfl,rfl,rfl⟩
end
section
variable{M:Mc}{st:List ai}
end
structure Cb(M:Mc)(N:Nat)(rs:List Nat):Prop where
 up:rs.Pairwise (· < ·)
 zero:0∈rs
 lt:∀a∈rs,a<N
 cl:∀k,k<M.tb.length->∀a∈rs,∀b∈rs,bL M k a b∈rs
 least:∀C:Nat->Prop,C 0->(∀k,k<M.tb.length->∀a b,C a->C b->C (bL M k a b))->∀a∈rs,C a
theorem Fy(h:rs.Pairwise (· < ·)):rs.Nodup:=h.imp fun z=>bt z
abbrev zI(l:List Nat):List Int:=l.map fun a=>((a:Nat):Int)
theorem ML{l':List Nat}(h:zI l=zI l'):l=l':=by
 have:=cC (List.map Int.toNat) h
 simpa[zI,aL,dR]using this
theorem vd{l':List Nat}(h:l.Pairwise (· < ·))(h':l'.Pairwise (· < ·))(hm:∀a,a∈l↔a∈l'):l=l':=by
 have hp:l.Perm l':=(List.perm_ext_iff_of_nodup (Fy h) (Fy h')).mpr hm
 have p1:(zI l).Pairwise (· <= ·):=eY.mpr (h.imp fun z=>by omega)
 have p2:(zI l').Pairwise (· <= ·):=eY.mpr (h'.imp fun z=>by omega)
 exact ML ((PySem.W.eq_sortI (hp.map _) p1).trans (PySem.W.eq_sortI (jD _) p2).symm)
theorem Cb.one{M:Mc}{QN:List Nat}(h:Cb M N rs)(h':Cb M N QN):rs=QN:=
 vd h.up h'.up fun a=>⟨fun z=>h.least (· ∈ QN) h'.zero (fun k hk a b=>fun x y=>h'.cl k hk a x b y) a z,fun z=>h'.least (· ∈ rs) h.zero (fun k hk a b=>fun x y=>h.cl k hk a x b y) a z⟩
theorem JO(hn:l.Nodup):∃rs,sortI (zI l)=zI rs/\rs.Perm l/\rs.Pairwise (· < ·):=by
 have hp:=PySem.W.sortI_perm (zI l)
 have e:zI ((sortI (zI l)).map Int.toNat)=sortI (zI l):=by
  unfold zI
  rw[aL]
  conv=>rhs;rw[<- jW (sortI _)]
  refine aZ fun z hz=>?_
  obtain⟨a,_,rfl⟩:=am.mp (hp.mem_iff.mp hz)
  show((((a:Int)).toNat:Nat):Int)=(a:Int)
  omega
 have hq:((sortI (zI l)).map Int.toNat).Perm l:=by
  have:=hp.map Int.toNat
  rw[show(zI l).map Int.toNat=l by simp[zI,aL,dR]]at this
  exact this
 refine⟨(sortI (zI l)).map Int.toNat,e.symm,hq,?_⟩
 have h1:=PySem.W.sortI_rises (zI l)
 rw[<- e]at h1
 have h2:=eY.mp h1
 have h3:((sortI (zI l)).map Int.toNat).Nodup:=hq.nodup_iff.mpr hn
 exact(List.pairwise_and_iff.mpr ⟨h2,h3⟩).imp fun{a b} z=>by have:=z.1;have:=z.2;omega
theorem AN{st:List ai}{n:Nat}{l rs:List Nat}(h:st[n]?=some (.lst (cu l)))(hl:l.length<64)(hs:sortI (zI l)=zI rs):lc [.loc n] st=.ok (.loc st.length) (st++[.lst (cu rs)]):=by
 unfold lc
 simp only[aR h,cA]
 rw[show cu l=(zI l).map W.int by unfold cu zI;rw[aL];rfl,oO,cA,aw (by simpa[zI]using hl),hs]
 unfold zI cu
 rw[aL];rfl
theorem JP{M:Mc}{E:List Ro}(t:gX (bL M) M.tb.length N E)(cov:∀l r a,l<E.length->r<E.length->a<M.tb.length->Ga (bL M) E [] l r a)(hp:rs.Perm (E.map Prod.fst))(hu:rs.Pairwise (· < ·)):Cb M N rs:=by
 have hm:∀a,a∈rs↔∃e∈E,e.1=a:=fun a=>by rw[hp.mem_iff,am]
 refine⟨hu,?_,fun a ha=>?_,fun k hk a ha b hb=>?_,fun C c0 cc a ha=>?_⟩
 ·obtain⟨r,e⟩:=t.zero
  exact(hm 0).mpr ⟨_,by rw[e];exact aN,rfl⟩
 ·obtain⟨e,he,rfl⟩:=(hm a).mp ha
  exact t.lt e he
 ·obtain⟨e,he,rfl⟩:=(hm a).mp ha
  obtain⟨f,hf,rfl⟩:=(hm b).mp hb
  obtain⟨i,hi⟩:=aU he
  obtain⟨j,hj⟩:=aU hf
  rcases cov i j k (aa.mp hi).1 (aa.mp hj).1 hk e f hi hj with⟨m,g,hg,e1,_⟩|⟨p,hp,_⟩
  ·exact(hm _).mpr ⟨g,ak hg,e1⟩
  ·cases hp
 ·have key:∀(n i:Nat) (e:Ro),i<n->E[i]?=some e->C e.1:=by
   intro n
   induction n with
   |zero=>intro i e h;omega
   |succ n ih=>
    intro i e hi he
    rcases gN i with z|z
    ·subst z
     obtain⟨r,e0⟩:=t.zero
     rw[e0]at he;cases he;exact c0
    ·obtain⟨h1,h2,el,er,h3,h4,h5,h6,_⟩:=t.row i e he z
     rw[<- h6]
     exact cc _ h5 _ _ (ih _ el (by omega) h3) (ih _ er (by omega) h4)
  obtain⟨e,he,rfl⟩:=(hm a).mp ha
  obtain⟨i,hi⟩:=aU he
  exact key (i+1) i e (by omega) hi
theorem AO:∀{ws:List W},(∀w∈ws,w.und n=true)->undWs n ws=true
 |[],_=>rfl
 |w::ws,h=>by simp only[undWs,h w aN,nz];exact AO fun v hv=>h v (aA _ hv)
def MM(E:W->W->W->W)(R:Nat)(x l:W):W:=.tup ((bA 0 R).map (E x l))
def NA(E:W->W->W->W)(R:Nat)(x:W):W:=.tup ((bA 0 R).map (MM E R x))
def Fz(E:W->W->W->W)(L R:Nat):W:=.tup ((bA 0 L).map (NA E R))
theorem uM{l:List α}{x:α}(h:l[i]?=some x):l.take (i+1)=l.take i++[x]:=by rw[List.take_succ,h];rfl
theorem qP{f:W->W}:∀{l:List W},(∀x∈l,(f x).und n=true)->undWs n (l.map f)=true
 |[],_=>rfl
 |x::l,h=>by
  show((f x).und n&&undWs n (l.map f))=true
  rw[h x aN,qP fun y hy=>h y (aA _ hy)];rfl
theorem AQ{E:W->W->W->W}{R:Nat}(hu:∀x l r,(E x l r).und n=true):(Fz E L R).und n=true:=by
 unfold Fz W.und
 refine qP fun x _=>?_
 unfold NA W.und
 refine qP fun l _=>?_
 unfold MM W.und
 exact qP fun r _=>hu x l r
theorem FB{E:W->W->W->W}{R:Nat}{st:List ai}{w0:W}(hL:L<=64)(hR:R<=64)(hm:st[m]?=some (.pin false f o w0))(hu:∀x l r,(E x l r).und st.length=true)
  (hc:∀s,st <+: s->∀x∈bA 0 L,∀l∈bA 0 R,∀r∈bA 0 R,rW cx cW m [x,l,r] s=.ok (E x l r) s):EL [.int L,.int R,.loc m] st=.ok (Fz E L R) st:=by
 refine j_ (N:=7) (ws:=[.int L,.int R,.loc m]) (body:=PL) ?_ (by show(_&&true)=true;rw[AQ hu];rfl)
 apply aG
 ·(walk_at "evs")
 refine cU (fun i ρ s=>∃o4 o5 o6:Option W,ρ=[iO L,iO R,lO m,lO st.length,o4,o5,o6]/\st <+: s/\s[st.length]?=some (.lst (((bA 0 L).take i).map (NA E R))))
  (dD (q:=(L:Int)) (st1:=st++[ai.lst []]) kn (by omega)) ⟨none,none,none,rfl,ar _ _,by rw[bn];rfl⟩ (fun _ _ _ _=>trivial) ?_ ?_
 ·rintro i w ρ s hw ⟨o4,o5,o6,rfl,hp,fR⟩
  rw[aK]at hw
  have hwm:w∈bA 0 L:=ak hw
  have hi:i<L:=by have:=(aa.mp hw).1;rw[bG]at this;exact this
  refine⟨_,rfl,?_⟩
  apply aG
  ·(walk_at "evs")
  refine cU (fun j ρ z=>∃o6:Option W,ρ=[iO L,iO R,lO m,lO st.length,some w,lO s.length,o6]/\s <+: z/\z[s.length]?=some (.lst (((bA 0 R).take j).map (MM E R w))))
   (dD (q:=(R:Int)) (st1:=s++[ai.lst []]) kn (by omega)) ⟨_,rfl,ar _ _,by rw[bn];rfl⟩ (fun _ _ _ _=>trivial) ?_ ?_
  ·rintro j v ρ z hv ⟨o6,rfl,hz,hcz⟩
   rw[aK]at hv
   have hvm:v∈bA 0 R:=ak hv
   have hj:j<R:=by have:=(aa.mp hv).1;rw[bG]at this;exact this
   refine⟨_,rfl,?_⟩
   have hmz:z[m]?=some (.pin false f o w0):=pre_get (hp.trans hz) hm
   have ec:=f7 (cap:=[none,some 2,some 4,some 6]) (fi:=br (ah (ag 1) aB)) (f:=eZ 0) (el:=nN 1 3 cx cW (ah (ag 2) (ah (ag 3) (ah (ag 0) aB)))) (ρ:=[iO L,iO R,lO m,lO st.length,some w,lO s.length,some v]) (st:=z) (st1:=z)
    (ws:=bA 0 (R:Int).toNat) (ck:=none) (E w v) (dD (q:=(R:Int)) kn (by omega)) (by rw[bG,aK];show R<=1000000;omega) trivial fun r hr=>by
     rw[aK]at hr
     exact⟨_,rfl,HC (m:=m) rfl hmz (ax kv (ax kv kn)) rfl (hc z (hp.trans hz) w hwm v hvm r hr)⟩
   rw[aK]at ec
   have et:bg cO (ah (dX [none,some 2,some 4,some 6] (br (ah (ag 1) aB)) (eZ 0) iI (nN 1 3 cx cW (ah (ag 2) (ah (ag 3) (ah (ag 0) aB))))) aB) [iO L,iO R,lO m,lO st.length,some w,lO s.length,some v] z=.ok (MM E R w v) (z++[.lst ((bA 0 R).map (E w v))]):=
    bh (ax ec bB) (eK (aR bn))
   have ap:=lq (y:=MM E R w v) (pre_get (s:=z++[.lst ((bA 0 R).map (E w v))]) (ar _ _) hcz) (by rw[aj,a9];omega)
   apply dF
   ·exact fC (m_ kv (eU hcz) (ax et bB) ap)
   ·refine⟨_,_,rfl,_,rfl,gH (jQ hz) (av _),?_⟩
    rw[iK (pre_get (ar _ _) hcz),uM hv,cG];rfl
  ·rintro ρ z ⟨o6,rfl,hz,hcz⟩
   rw[aK,bG,b_ (by rw[bG];exact av _)]at hcz
   have hcp:=pre_get hz fR
   have ap:=lq (y:=NA E R w) hcp (by rw[aj,a9];omega)
   apply dF
   ·exact fC (m_ kv (eU hcp) (ax (bh kn (eK (aR hcz))) bB) ap)
   ·refine⟨_,_,rfl,_,_,_,rfl,gH (hp.trans hz) (av _),?_⟩
    rw[iK hcp,uM hw,cG];rfl
 ·rintro ρ s ⟨o4,o5,o6,rfl,hp,fR⟩
  rw[aK,bG,b_ (by rw[bG];exact av _)]at fR
  obtain⟨x,rfl⟩:=hp
  apply dC
  ·exact bh kn (eK (aR fR))
  ·exact⟨_,_,rfl,rfl,_,rfl⟩
def SY:W->W
 |.tup (x::_)=>x
 |w=>w
abbrev MN:ai:=.tab 59 ⟨54,29,54,52⟩ "firsts_of.<locals>.<lambda>"
abbrev Ih:ai:=.tab 80 ⟨80,4,81,68⟩ "least_of.<locals>.lead"
def mI(B:Nat->Nat)(rs:List Nat):W:=.tup (rs.map fun a=>W.tup [.int (a:Nat),.int (B a:Nat)])
structure iZ(M:Mc)(N:Nat)(E:List Ro)(B h:Nat->Nat)(m:Nat)(rs:List Nat):Prop where
 full:lu (bL M) M.tb.length N E
 rm:Rm M N (E.map Prod.fst)
 last:oP M (E.map Prod.fst) B
 can:pP (E.map Prod.fst) B m h
 perm:rs.Perm (E.map Prod.fst)
 up:rs.Pairwise (· < ·)
def kc(M:Mc)(E:List Ro)(B h:Nat->Nat)(m:Nat)(rs:List Nat):W:=.tup [(uL M (E.map Prod.fst) B h m).w,mI B rs]
theorem Cc{ok:Obj->Prop}{a b:List ai}{l:List iD}{w0 v:W}(hm:(a++(gO l++b))[m]?=some (.pin false f o w0))(ho:ok o)(hc:(kF o).map (·.2)=l.map fun x=>x.2.1)(nd:(l.map fun x=>x.2.1).Nodup)(hn:dq a)
  (hF:∀s,F (ws++l.map fun x=>x.2.2.2) (a++s)=.ok v (a++s)):rW ok F m ws (a++(gO l++b))=.ok v (a++(gO l++b)):=by
 have e1:((kF o).map fun y=>((a++(gO l++b)).findIdx? (lQ y.2)).getD 0)=List.range' a.length l.length:=by
  rw[<- uz l a b (fun d hd x _=>hn d hd _) nd]
  have:∀(g:Addr->Nat),(kF o).map (fun y=>g y.2)=l.map fun x=>g x.2.1:=fun g=>by
   have:=cC (List.map g) hc
   rw[aL,aL]at this;exact this
  exact this fun c=>((a++(gO l++b)).findIdx? (lQ c)).getD 0
 unfold rW
 rw[hm]
 simp only
 rw[aw ho,e1,nO]
 simp only
 have e2:((qg a.length l).map fun x=>x.2.1)=l.map fun x=>x.2.1:=mZ (fun y=>y.1) _ _
 have e3:((qg a.length l).map fun x=>x.2.2.2)=l.map fun x=>x.2.2.2:=mZ (fun y=>y.2.2) _ _
 rw[aw (by rw[e2,hc]),e3,hF]
 simp only[uy]
def Eb(M:Mc)(F:List Nat)(B h:Nat->Nat):W->W->W->W
 |.int x,.int l,.int r=>.int (B (bL M x.toNat (nS F h l.toNat) (nS F h r.toNat)):Nat)
 |_,_,_=>.non
theorem FC(M:Mc)(F:List Nat)(B h:Nat->Nat)(x l r:W)(n:Nat):(Eb M F B h x l r).und n=true:=by
 unfold Eb
 split<;>rfl
theorem oQ{f:W->W}{g:Nat->W}(h:∀i:Nat,f (.int (i:Int))=g i):(bA 0 n).map f=(List.range n).map g:=by
 unfold bA
 rw[aL]
 refine aZ fun i _=>?_
 show f (.int (0+(i:Int)))=_
 rw[gz];exact h i
theorem MO(M:Mc)(F:List Nat)(B h:Nat->Nat)(m:Nat):Fz (Eb M F B h) M.tb.length m=.tup ((uL M F B h m).tb.map dE):=by
 unfold Fz uL
 simp only[aL]
 congr 1
 refine oQ fun a=>?_
 show NA _ _ _=dE _
 unfold NA dE
 congr 1
 rw[aL]
 refine oQ fun l=>?_
 show MM _ _ _ _=gE _
 unfold MM gE
 congr 1
 rw[aL]
 exact oQ fun r=>rfl
theorem Ii(B:Nat->Nat)(rs:List Nat)(n:Nat):(mI B rs).und n=true:=by
 unfold mI W.und
 exact AO fun w hw=>by obtain⟨a,_,rfl⟩:=am.mp hw;rfl
theorem Ij(M:Mc)(E:List Ro)(B h:Nat->Nat)(m:Nat)(rs:List Nat)(n:Nat):undWs n [kc M E B h m rs]=true:=by
 unfold kc
 simp only[undWs,W.und,nR,Ii,cw]
theorem vU{w:W}(h:w∈bA 0 n):∃i:Nat,i<n/\w=.int (i:Int):=by
 obtain⟨i,hi⟩:=aU h
 obtain⟨h1,rfl⟩:=fU hi
 exact⟨i,h1,by rw[gz]⟩
def Gb:W->Nat
 |.int z=>z.toNat
 |_=>0
theorem oR{M:Mc}{st:List ai}(hM:nQ M N)(Rh:1<=N)(hN:N<=50)(hsz:M.tb.length*(2*N)<=10000)(hL:M.tb.length<=64)(Rk:dq st)(ht:st[1]?=some MN)(NF:st[2]?=some Ih) :
  ∃E B h m rs,iZ M N E B h m rs/\qh [M.w] st=.ok (kc M E B h m rs) st:=by
 obtain⟨E,R,t,hR,cov,ef⟩:=B9 hM Rh (by omega) ht
 obtain⟨rs,hsrt,hperm,hup⟩:=JO t.nd
 have hrs:=JP t cov hperm hup
 have hlE:=t.len
 obtain⟨F,hF⟩:∃F,F=E.map Prod.fst:=⟨_,rfl⟩
 have hFl:F.length=E.length:=by rw[hF,aj]
 have hmem:∀{a},a∈F↔a∈rs:=fun{a}=>by rw[hF];exact hperm.mem_iff.symm
 have hRm:Rm M N F:=⟨hM,fun a ha=>hrs.lt a (hmem.mp ha),by rw[hF];exact t.nd,by omega,be (Nat.mul_le_mul_left _ (by omega)) hsz,fun k hk a ha b hb=>hmem.mpr (hrs.cl k hk a (hmem.mp ha) b (hmem.mp hb))⟩
 have hRE:R.map SY=cu F:=by
  rw[hF]
  refine jY fun i=>?_
  rw[al,al,al]
  cases he:E[i]? with
  |none=>
   rw[fX (by rw[hR.len];exact List.getElem?_eq_none_iff.mp he)];rfl
  |some e=>
   obtain⟨w,hw,sO⟩:=hR.at' i e he
   obtain⟨tt,rfl⟩:=sO.sh
   rw[hw];rfl
 have ec:=f7 (cap:=[none]) (fi:=cK (de 1 BW (ah (ag 0) aB))) (f:=eZ 0) (el:=e2 bJ (ag 0) (eI 0)) (ρ:=[M.w].map some++List.replicate (7-1) none) (st:=st) (st1:=st) SY (gG (cL kn ef rfl)) (by rw[hR.len];show _<=1000000;omega) trivial fun w hw=>by
  obtain⟨i,hi⟩:=aU hw
  have hiE:i<E.length:=by rw[<- hR.len];exact(aa.mp hi).1
  obtain⟨w',hw',sO⟩:=hR.at' i _ (ac hiE)
  rw[hi]at hw';cases hw'
  obtain⟨tt,rfl⟩:=sO.sh
  exact⟨_,rfl,bS kv dN ox⟩
 rw[hRE]at ec
 have c1:(st++[ai.lst (cu F)])[st.length]?=some (.lst (cu F)):=bn
 obtain⟨B,j,x,hLB,npx,hxj,el⟩:=Ie hRm c1
 obtain⟨m,h,c⟩:=hLB.can
 have hml:=c.len (by omega)
 refine⟨E,B,h,m,rs,⟨⟨t,cov⟩,hF▸hRm,hF▸hLB,hF▸c,hperm,hup⟩,?_⟩
 unfold kc
 rw[<- hF]
 have hund:∀n,undWs n [W.tup [(uL M F B h m).w,mI B rs]]=true:=fun n=>by have:=Ij M E B h m rs n;unfold kc at this;rw[<- hF]at this;exact this
 refine j_ (N:=7) (ws:=[M.w]) (body:=Jx) ?_ (hund _)
 refine aG (EY ec rfl) ?_
 generalize hS1:st++[ai.lst (cu F)]=S1 at c1 el
 have np1:dq S1:=by rw[<- hS1];exact eW Rk (tI (fun _=>rfl) wc)
 refine aG (bU (cL (ax kv kn) el rfl)) ?_
 have c2:(S1++x)[S1.length+j]?=some (.dct (h9 B F)):=by rw[dh];exact hxj
 have e3:=Fx c hRm.nd (by omega) (ay c1) c2
 refine aG (bU (cL (ax kv kn) e3 rfl)) ?_
 have hd3:(S1++x++[ai.lst (cu (pR F h m))])[(S1++x).length]?=some (.lst (cu (pR F h m))):=bn
 have hhl:(pR F h m).length=m:=by simp[pR]
 have hhm:∀a∈pR F h m,a∈F:=fun a ha=>by
  obtain⟨k,hk,rfl⟩:=am.mp ha
  exact(c.at' (a_.mp hk)).2.1
 have ec4:=f7 (cap:=[none,some 0]) (fi:=cK (ag 3)) (f:=eZ 0) (el:=e2 bJ (e2 bJ (ag 1) (eI 1)) (ag 0)) (ρ:=[some M.w,lO st.length,lO (S1.length+j),some (.loc (S1++x).length),none,none,none]) (st:=S1++x++[ai.lst (cu (pR F h m))]) (st1:=S1++x++[ai.lst (cu (pR F h m))]) (fun w=>.bl (gM M (Gb w))) (gs kv (aR hd3)) (by rw[aj,hhl];show _<=1000000;omega) (aR hd3) fun w hw=>by
  obtain⟨a,ha,rfl⟩:=am.mp hw
  have jS:a<M.gd.length:=by rw[hM.gd];exact hRm.lt a (hhm a ha)
  exact⟨_,rfl,bS kx kv (jt (d6 (by
   rw[al,ac jS]
   show some (W.bl M.gd[a])=some (W.bl (gM M ((a:Nat):Int).toNat))
   rw[aK];unfold gM;rw[az,ac jS];rfl)))⟩
 have eg:(cu (pR F h m)).map (fun w=>W.bl (gM M (Gb w)))=(uL M F B h m).gd.map W.bl:=by
  unfold cu pR uL
  simp only[aL]
  refine aZ fun k _=>?_
  show W.bl (gM M (((nS F h k:Nat):Int).toNat))=W.bl (gM M (nS F h k))
  rw[aK]
 rw[eg]at ec4
 refine aG (bU (bh (ax ec4 bB) (eK (aR bn)))) ?_
 obtain⟨S4,hS4⟩:∃S4:List ai,S1++x++[ai.lst (cu (pR F h m))]++[ai.lst ((uL M F B h m).gd.map W.bl)]=S4:=⟨_,rfl⟩
 rw[hS4]
 have c4:∀{i:Nat} {d:ai},S1[i]?=some d->S4[i]?=some d:=fun e=>by rw[<- hS4];exact ay (ay (ay e))
 have hd4:S4[(S1++x).length]?=some (.lst (cu (pR F h m))):=by rw[<- hS4];exact ay hd3
 have bk4:S4[S1.length+j]?=some (.dct (h9 B F)):=by rw[<- hS4];exact ay (ay c2)
 have np4:dq S4:=by rw[<- hS4];exact eW (eW (eW np1 npx) (tI (fun _=>rfl) wc)) (tI (fun _=>rfl) wc)
 obtain⟨y4,hy4⟩:∃y,S4=st++y:=⟨_,by rw[<- hS4,<- hS1,aO,aO,aO]⟩
 have hr4:=c4 c1
 have ht4:=c4 (i:=2) (d:=Ih) (by rw[<- hS1];exact ay NF)
 generalize hp:(S1++x).length=p at hd4
 generalize hq:S1.length+j=q at bk4
 refine dF (D6 (w:=W.tup [(uL M F B h m).w,mI B rs]) (show p_ S4 2 80 ⟨80,4,81,68⟩ "least_of.<locals>.lead" from ht4) (hund _) fun f o ok=>⟨[.pin false f o .non]++[.lst (cu rs)]++[.lst (rs.map fun a=>W.tup [.int (a:Nat),.int (B a:Nat)])],?_⟩) ⟨_,_,rfl,rfl,y4,hy4⟩
 obtain⟨cl,im,pm,cd,ct,hx,kr,rfl⟩:=ok
 generalize ho:fnMade "lead" "least_of.<locals>.lead" (dA dG) (dB dG) (aV dG) cl im pm cd ct=o
 have hok:cx o:=⟨cl,im,pm,cd,ct,hx,kr,ho.symm⟩
 have hclo:kF o=cl:=by rw[<- ho];rfl
 have jd:cl.length=3:=by have:=cC List.length hx;rw[aj]at this;exact this
 have BX:=AN (st:=S4++[.pin false f o .non]) (n:=st.length) (l:=F) (rs:=rs) (ay hr4) (by omega) (by rw[hF];exact hsrt)
 have cs:(S4++[.pin false f o .non]++[ai.lst (cu rs)])[(S4++[ai.pin false f o .non]).length]?=some (.lst (cu rs)):=bn
 have hrl:rs.length=E.length:=by rw[hperm.length_eq,aj]
 have ec6:=f7 (cap:=[none,some 2]) (fi:=cK (bg lc (ah (ag 1) aB))) (f:=eZ 0) (el:=fH (ah (ag 0) (ah (e2 kE (ag 1) (ag 0)) aB))) (ρ:=[some M.w,lO st.length,lO q,lO p,some (.tup ((uL M F B h m).gd.map W.bl)),lO S4.length,none]) (st:=S4++[.pin false f o .non]) (st1:=S4++[.pin false f o .non]++[ai.lst (cu rs)]) (fun w=>W.tup [w,.int (B (Gb w):Nat)]) (gs (bh kn BX) (aR cs)) (by rw[aj];show _<=1000000;omega) (aR cs) fun w hw=>by
  obtain⟨a,ha,rfl⟩:=am.mp hw
  have ix:kE (.loc q) (.int (a:Nat)) (S4++[.pin false f o .non]++[ai.lst (cu rs)])=.ok (.int (B a:Nat)) (S4++[.pin false f o .non]++[ai.lst (cu rs)]):=oK (fw (ay (ay bk4))) (jv (V:=fun a=>W.int (B a:Nat)) hRm.nd (hmem.mpr ha))
  refine⟨_,rfl,?_⟩
  show _=L2.R.ok (W.tup [.int (a:Nat),.int (B ((a:Nat):Int).toNat:Nat)]) _
  rw[aK]
  exact iE (ax kv (ax (bS kv kv ix) bB)) (by show 2<=1000000;decide)
 have eq6:(cu rs).map (fun w=>W.tup [w,.int (B (Gb w):Nat)])=rs.map fun a=>W.tup [.int (a:Nat),.int (B a:Nat)]:=by
  unfold cu
  rw[aL]
  refine aZ fun a _=>?_
  show W.tup [.int (a:Nat),.int (B ((a:Nat):Int).toNat:Nat)]=_
  rw[aK]
 rw[eq6]at ec6
 refine(y6 (bU (bh (ax ec6 bB) (eK (aR bn))))).trans ?_
 obtain⟨S6,hS6⟩:∃S6:List ai,S4++[ai.pin false f o .non]++[ai.lst (cu rs)]++[ai.lst (rs.map fun a=>W.tup [.int (a:Nat),.int (B a:Nat)])]=S6:=⟨_,rfl⟩
 have hm6:S6[S4.length]?=some (.pin false f o .non):=by rw[<- hS6];exact ay (ay bn)
 have hd6:S6[p]?=some (.lst (cu (pR F h m))):=by rw[<- hS6];exact ay (ay (ay hd4))
 have bk6:S6[q]?=some (.dct (h9 B F)):=by rw[<- hS6];exact ay (ay (ay bk4))
 have np6:dq S6:=by rw[<- hS6];exact eW (eW (eW np4 (tI (fun _=>rfl) wc)) (tI (fun _=>rfl) wc)) (tI (fun _=>rfl) wc)
 rw[<- aO,<- aO,hS6]
 have Q8:cQ [.tup (M.tb.map dE)] S6=.ok (.int (M.tb.length:Nat)) S6:=by rw[lj,aj]
 have Q9:cQ [.loc p] S6=.ok (.int (m:Nat)) S6:=by rw[g8 (aR hd6)];simp[pR]
 refine nu ?_
 have e7:uw 3 EL o [0,3,2] (ah (bg cQ (ah (e2 bJ (ag 0) (eI 2)) aB)) (ah (bg cQ (ah (ag 3) aB)) (ah (ag 5) aB))) [some M.w,lO st.length,lO q,lO p,some (.tup ((uL M F B h m).gd.map W.bl)),lO S4.length,some (mI B rs)] S6=.ok (.tup ((uL M F B h m).tb.map dE)) S6:=by
  rw[<- MO]
  refine LV (ws:=[.int (M.tb.length:Nat),.int (m:Nat),.loc S4.length]) (cws:=[M.w,.loc p,.loc q]) (ax (bh (ax kx bB) Q8) (ax (bh kn Q9) kn)) rfl rfl ?_
  refine HB (by rw[hclo,jd];rfl) (by show(_&&true)=true;rw[AQ fun x l r=>FC _ _ _ _ x l r _];rfl) fun os hos=>?_
  rw[hclo]at hos ⊢
  have hz1:=LR (C:=cl) (os:=os) (cws:=[M.w,.loc p,.loc q]) hos (by rw[jd];rfl)
  have hz2:=LS (C:=cl) (os:=os) (cws:=[M.w,.loc p,.loc q]) hos (by rw[jd];rfl)
  generalize kG cl os [M.w,.loc p,.loc q]=Lz at hz1 hz2
  have hmz:∀y,(S6++(gO Lz++y))[S4.length]?=some (.pin false f o .non):=fun y=>ay hm6
  refine FB (E:=Eb M F B h) hL (by omega) (hmz _) (fun x l r=>FC _ _ _ _ x l r _) fun s hs x pi l hl' r hr'=>?_
  obtain⟨y,rfl⟩:=hs
  rw[cn,aO]
  obtain⟨xi,hxi,rfl⟩:=vU pi
  obtain⟨li,hli,rfl⟩:=vU hl'
  obtain⟨ri,hri,rfl⟩:=vU hr'
  refine Cc (hmz y) hok (by rw[hclo,hz1]) (by rw[hz1];exact kr) np6 fun s=>?_
  rw[hz2]
  exact Ig hRm c (ay hd6) (ay bk6) hxi hli hri
 exact iE (ax (iE (ax kx (ax kv (ax e7 bB))) (by show 3<=1000000;decide)) kn) (by show 2<=1000000;decide)
theorem MP(g:FS)(ρ:bY)(st:List ai):aX g cP ρ st=g ρ st:=by
 unfold aX
 cases g ρ st<;>rfl
theorem sK{f:FG}{body:FS}{k:yH}{st:List ai}{Q:RS->Prop}(I:Nat->bY->List ai->Prop)(h:fi ρ st=.ok k st1)(h0:I 0 ρ st1)(hc:∀i ρ st,I i ρ st->iW st k.2)
  (hs:∀i w ρ st,k.1[i]?=some w->I i ρ st->∃ρ',f w ρ=some ρ'/\gD (F' (I (i+1))) (body ρ' st)) (he:∀ρ st,I k.1.length ρ st->Q (.nx ρ st)):gD Q (fg fi f body ρ st):=by
 rw[<- MP (fg fi f body)]
 exact cU (rest:=cP) I h h0 hc hs fun ρ st hI=>dF (r':=.nx ρ st) y7 (he ρ st hI)
theorem Ik{M:Mc}(hM:nQ M n)(hn:1<=n)(Tw:n<=1000)(hl:M.nm.length<=20)(st:List ai):Ax [M.w,.str M.nm] st=.ok (.bl true) st:=by
 have g0:bJ M.w (.int 0) st=.ok (.str M.nm) st:=rfl
 have g1:bJ M.w (.int 1) st=.ok (.tup (M.gd.map W.bl)) st:=rfl
 have g2:bJ M.w (.int 2) st=.ok (.tup (M.tb.map dE)) st:=rfl
 have ln:cQ [.tup (M.gd.map W.bl)] st=.ok (.int (n:Nat)) st:=by rw[lj,aj,hM.gd]
 have tl:cQ [.tup (M.tb.map dE)] st=.ok (.int ((2^M.nm.length:Nat):Int)) st:=by rw[lj,aj,hM.tb]
 have lx:t_ (.str M.nm) (.str M.nm) st=.ok (.bl false) st:=by
  show R.ok (W.bl (!(M.nm==M.nm))) st=_
  rw[dL];rfl
 have n0:((n:Int)==0)=false:=by rw[a8];omega
 have nn:(!((n:Int)==(n:Int)))=false:=by rw[dL];rfl
 refine j_ (N:=7) (ws:=[M.w,.str M.nm]) (body:=Jy) ?_ rfl
 refine bN (dZ (gQ (cE (jr kv rfl rfl)) rfl) (cE (bS (bh kn (w:=.int 3) rfl) dN (sd rfl)))) (bV ?_)
 refine bN (dZ (gQ (cE (jr (bS kv dN g0) rfl rfl)) rfl) (cE (bS (bS kv dN g0) kv lx))) (bV ?_)
 refine aG (bU (bS kv dN g1)) ?_
 refine bN (dZ (gQ (cE (jr kv rfl rfl)) rfl) (dZ (cE (bS (bh kn ln) dN (oF n0))) (gQ (cE (jr (bS kv dN g2) rfl rfl)) rfl))) (bV ?_)
 refine cU (fun i ρ s=>∃o3,ρ=[some M.w,some (.str M.nm),some (.tup (M.gd.map W.bl)),o3,none,none,none]/\s=st) (gG kv) ⟨none,rfl,rfl⟩ (fun _ _ _ _=>trivial) ?_ ?_
 ·rintro i w ρ s hw ⟨o3,rfl,rfl⟩
  obtain⟨b,_,rfl⟩:=am.mp (ak hw)
  exact⟨_,rfl,kH (gQ (cE (jr kv rfl rfl)) rfl) ⟨_,_,rfl,_,rfl,rfl⟩⟩
 rintro ρ s ⟨o3,rfl,rfl⟩
 refine bN (cE (bS (bh (ax (bS kv dN g2) bB) tl) (bS dN (bh kn (vz (by show _<=1000000;omega))) (wH (by omega))) (sd (k:=false) (by rw[dL];rfl)))) (bV ?_)
 refine cU (fun i ρ s'=>∃o4 o5 o6,ρ=[some M.w,some (.str M.nm),some (.tup (M.gd.map W.bl)),o3,o4,o5,o6]/\s'=s) (gG (bS kv dN g2)) ⟨none,none,none,rfl,rfl⟩ (fun _ _ _ _=>trivial) ?_ ?_
 ·rintro i w ρ s' hw ⟨o4,o5,o6,rfl,rfl⟩
  obtain⟨t,ht,rfl⟩:=am.mp (ak hw)
  obtain⟨t1,t2⟩:=hM.t t ht
  have tn:cQ [dE t] s'=.ok (.int (n:Nat)) s':=by unfold dE;rw[lj,aj,t1]
  refine⟨_,rfl,bN (dZ (gQ (cE (jr kv rfl rfl)) rfl) (cE (bS (bh kn tn) (bh kn ln) (sd nn)))) (bV ?_)⟩
  refine sK (fun i ρ s=>∃o5 o6,ρ=[some M.w,some (.str M.nm),some (.tup (M.gd.map W.bl)),o3,some (dE t),o5,o6]/\s=s') (gG (ws:=t.map gE) kv) ⟨_,_,rfl,rfl⟩ (fun _ _ _ _=>trivial) ?_ ?_
  ·rintro i w ρ s hw ⟨o5,o6,rfl,rfl⟩
   obtain⟨r,hr,rfl⟩:=am.mp (ak hw)
   obtain⟨r1,r2⟩:=t2 r hr
   have rn:cQ [gE r] s=.ok (.int (n:Nat)) s:=by unfold gE;rw[lj,aj,r1]
   refine⟨_,rfl,bN (dZ (gQ (cE (jr kv rfl rfl)) rfl) (cE (bS (bh kn rn) (bh kn ln) (sd nn)))) (bV ?_)⟩
   refine sK (fun i ρ s'=>∃o6,ρ=[some M.w,some (.str M.nm),some (.tup (M.gd.map W.bl)),o3,some (dE t),some (gE r),o6]/\s'=s) (gG (ws:=r.map fun k=>W.int (k:Nat)) kv) ⟨_,rfl,rfl⟩ (fun _ _ _ _=>trivial) ?_ ?_
   ·rintro i w ρ s' hw ⟨o6,rfl,rfl⟩
    obtain⟨v,hv,rfl⟩:=am.mp (ak hw)
    have hv':=r2 v hv
    have c1:decide ((v:Int)<0)=false:=a7 (by omega)
    have c2:decide ((n:Int)<=(v:Int))=false:=a7 (by omega)
    have zG:Lf (.int ((v:Nat):Int)) (.int ((n:Nat):Int)) s'=.ok (.bl false) s':=As c2
    exact⟨_,rfl,kH (dZ (gQ (cE (jr kv rfl rfl)) rfl) (dZ (cE (jr kv rfl rfl)) (dZ (cE (bS kv dN (r_ c1))) (cE (bS kv (bh kn ln) zG))))) ⟨_,_,rfl,_,rfl,rfl⟩⟩
   ·rintro ρ s' ⟨o6,rfl,rfl⟩
    exact⟨_,_,rfl,_,_,rfl,rfl⟩
  ·rintro ρ s ⟨o5,o6,rfl,rfl⟩
   exact⟨_,_,rfl,_,_,_,rfl,rfl⟩
 ·rintro ρ s' ⟨o4,o5,o6,rfl,rfl⟩
  exact dC dN ⟨_,_,rfl,rfl,[],by simp⟩
section
variable{T':Nat->Nat->Nat->Nat}{g g':Nat->Bool}{E:List Ro}
theorem lu.congr(h:lu T L N E)(hT:∀a x y,a<L->x<N->y<N->T a x y=T' a x y):lu T' L N E:=by
 refine⟨⟨h.told.zero,h.told.lt,h.told.nd,fun i e he hi=>?_,h.told.rise⟩,fun l r a hl hr ha el er h1 h2=>?_⟩
 ·obtain⟨q1,q2,el,er,q3,q4,q5,q6,q7⟩:=h.told.row i e he hi
  exact⟨q1,q2,el,er,q3,q4,q5,by rw[<- hT _ _ _ q5 (h.told.lt _ (ak q3)) (h.told.lt _ (ak q4))];exact q6,q7⟩
 ·rcases h.cov l r a hl hr ha el er h1 h2 with⟨i,e,q1,q2,q3⟩|⟨p,hp,_⟩
  ·exact .inl ⟨i,e,q1,by rw[<- hT _ _ _ ha (h.told.lt _ (ak h1)) (h.told.lt _ (ak h2))];exact q2,q3⟩
  ·cases hp
end
section
variable{M:Mc}{E:List Ro}{h:Nat->Nat}
abbrev NB(E:List Ro)(h:Nat->Nat)(j:Nat):Ro:=E.getD (h j) (0,zW)
abbrev mB(M:Mc)(E:List Ro)(B h:Nat->Nat)(m:Nat):Mc:=uL M (E.map Prod.fst) B h m
theorem pS:(mB M E B h m).tb.length=M.tb.length:=by simp[uL]
theorem iZ.m_le(l:iZ M N E B h m rs):m<=N/\1<=m:=by
 have h1:=l.rm.len
 have h2:=l.can.len (by omega)
 have h3:=l.full.told.len
 rw[aj]at h2
 have h4:=l.full.told.len0
 obtain⟨r,e⟩:=l.full.told.zero
 have:=(l.can.fst 0 0 (by rw[e];rfl)).1
 omega
theorem iZ.at'(l:iZ M N E B h m rs){j:Nat}(hj:j<m):(NB E h j).1=nS (E.map Prod.fst) h j:=by
 obtain⟨h1,_,_⟩:=l.can.at' hj
 rw[al]at h1
 obtain⟨e,he,h2⟩:=aY.mp h1
 unfold NB
 rw[az,he]
 exact h2
theorem iZ.fullB(l:iZ M N E B h m rs):lu (bL (mB M E B h m)) (mB M E B h m).tb.length m (qy E B (NB E h) m):=by
 rw[pS]
 refine(l.last.quo l.full l.rm l.can).ok.congr fun a x y ha hx hy=>?_
 rw[qO ha hx hy,<- l.at' hx,<- l.at' hy];rfl
theorem vV:(qy E B (NB E h) m).map Prod.fst=List.range m:=by
 unfold qy
 rw[aL]
 exact(aZ fun _ _=>rfl).trans (jW _)
theorem iZ.okB(l:iZ M N E B h m rs):nQ (mB M E B h m) m:=MK l.rm l.can
theorem iZ.gB(l:iZ M N E B h m rs)(hj:j<m):gM (mB M E B h m) j=gM M (nS (E.map Prod.fst) h j):=by
 show((List.range m).map fun j=>gM M (nS (E.map Prod.fst) h j)).getD j false=_
 rw[az,al,bZ hj];rfl
end
theorem FD(z:Nat):∀l:List Nat,pz (.int (z:Nat)) (cu l)=some (decide (z∈l))
 |[]=>rfl
 |a::l=>by
  have ih:=FD z l
  by_cases h:a=z
  ·subst h
   simp[pz,gY,ih]
  ·have h2:¬ z=a:=fun e=>h e.symm
   have h3:¬ ((a:Int)=(z:Int)):=by omega
   simp[pz,gY,ih,h2,h3]
theorem FF:∀l:List Nat,depWs (cu l)<=63
 |[]=>by decide
 |a::l=>by
  have:=FF l
  simp only[cu,aC,depWs,W.dep]at this ⊢
  omega
theorem Ql{S:List ai}{z:Nat}(h:S[n]?=some (.lst (cu l))):Bt true (.int (z:Nat)) (.loc n) S=.ok (.bl (!decide (z∈l))) S:=by
 unfold Bt
 simp only[h,FD,FF,d7]
theorem zr{l':List Nat}{a:Nat}(h:l <+: l')(e:l[i]?=some a):l'[i]?=some a:=by
 obtain⟨t,rfl⟩:=h
 rw[aq (aa.mp e).1];exact e
structure Mt(M:Mc)(N:Nat)(mt:List Nat):Prop where
 zero:∃r,mt=0::r
 nd:mt.Nodup
 lt:∀a∈mt,a<N
 least:∀C:Nat->Prop,C 0->(∀k,k<M.tb.length->∀a b,C a->C b->C (bL M k a b))->∀a∈mt,C a
theorem Mt.len{M:Mc}(h:Mt M N mt):mt.length<=N:=by
 have:=j8 h.nd (l:=List.range N) fun c hc=>a_.mpr (h.lt c hc)
 rwa[dm]at this
def tJ(mt:List Nat)(z:Nat):List Nat:=if z∈mt then mt else mt++[z]
theorem mJ(mt:List Nat)(z:Nat):mt <+: tJ mt z:=by unfold tJ;split;exact ae _;exact ar _ _
theorem xV(mt:List Nat)(z:Nat):z∈tJ mt z:=by
 unfold tJ;split
 ·assumption
 ·simp
theorem Mt.ext{M:Mc}(h:Mt M N mt){k a b:Nat}(hk:k<M.tb.length)(ha:a∈mt)(hb:b∈mt)(hN:bL M k a b<N):Mt M N (tJ mt (bL M k a b)):=by
 unfold tJ
 split
 ·exact h
 ·rename_i hn
  obtain⟨r,hr⟩:=h.zero
  refine⟨⟨r++[bL M k a b],by rw[hr];rfl⟩,?_,fun c hc=>?_,fun C c0 cc c hc=>?_⟩
  ·rw[cN]
   exact⟨h.nd,by simp,fun x hx y hy z=>by simp at hy;subst hy;subst z;exact hn hx⟩
  ·rcases aH.mp hc with z|z
   ·exact h.lt c z
   ·simp at z;subst z;exact hN
  ·rcases aH.mp hc with z|z
   ·exact h.least C c0 cc c z
   ·simp at z;subst z;exact cc k hk a b (h.least C c0 cc a ha) (h.least C c0 cc b hb)
section
variable{M:Mc}{st:List ai}
abbrev SZ:FS:=(fg (cK (fH (ah (e2 bJ (e2 bJ (ag 4) (e2 bJ (ag 1) (ag 2))) (ag 3)) (ah (e2 bJ (e2 bJ (ag 4) (ag 3)) (e2 bJ (ag 1) (ag 2))) aB)))) (eZ 5) (i6 (f6 (e2 (Bt true) (ag 5) (ag 1))) (eJ (qu cS (ag 1) (ah (ag 5) aB))) cP))
abbrev Ts:FS:=(fg (cK (e2 bJ (ag 0) (eI 2))) (eZ 4) SZ)
theorem Qm(hM:nQ M N)(hN:N<=1000){x:List ai}(hm:Mt M N mt){k q c o:Nat}(ht:M.tb[k]?=some t)(hc:mt[q]?=some c)(ho:o∈mt)(o5:Option W) :
  gD (F' fun ρ S=>∃mt' o5,mt <+: mt'/\Mt M N mt'/\bL M k c o∈mt'/\bL M k o c∈mt'/\ρ=[some M.w,lO st.length,iO (q:Nat),iO (o:Nat),some (dE t),o5]/\S=st++.lst (cu mt')::x)
   (SZ [some M.w,lO st.length,iO (q:Nat),iO (o:Nat),some (dE t),o5] (st++.lst (cu mt)::x)):=by
 have hk:k<M.tb.length:=(aa.mp ht).1
 have hcm:c∈mt:=ak hc
 obtain⟨r1,a1,a2,a3⟩:=sD hM ht (hm.lt c hcm) (hm.lt o ho)
 obtain⟨r2,b1,b2,b3⟩:=sD hM ht (hm.lt o ho) (hm.lt c hcm)
 have cm:(st++.lst (cu mt)::x)[st.length]?=some (.lst (cu mt)):=by rw[cB];rfl
 have ic:bJ (.loc st.length) (.int (q:Nat)) (st++.lst (cu mt)::x)=.ok (.int (c:Nat)) (st++.lst (cu mt)::x):=lR (aR cm) (d6 (by rw[al,hc];rfl))
 have one:∀{m1:List Nat} {z:Nat} (o5:Option W),m1.length<=1000->(i6 (f6 (e2 (Bt true) (ag 5) (ag 1))) (eJ (qu cS (ag 1) (ah (ag 5) aB))) cP) [some M.w,lO st.length,iO (q:Nat),iO (o:Nat),some (dE t),iO (z:Nat)] (st++.lst (cu m1)::x)=.nx [some M.w,lO st.length,iO (q:Nat),iO (o:Nat),some (dE t),iO (z:Nat)] (st++.lst (cu (tJ m1 z))::x):=fun{m1 z} _ hl=>by
  have c1:(st++.lst (cu m1)::x)[st.length]?=some (.lst (cu m1)):=by rw[cB];rfl
  have tsx:=cE (bS (f:=Bt true) (fa:=ag 5) (fb:=ag 1) (ρ:=[some M.w,lO st.length,iO (q:Nat),iO (o:Nat),some (dE t),iO (z:Nat)]) kv kv (Ql (z:=z) c1))
  unfold tJ
  by_cases h:z∈m1
  ·rw[bp h]at tsx
   rw[aw h]
   exact rZ tsx y7
  ·rw[a7 h]at tsx
   rw[aD h]
   refine rY tsx ?_
   rw[fC (m_ (F:=cS) (gP (i:=1) rfl) (eU c1) (ax (fa:=ag 5) kv bB) (ux c1 (by rw[aj];show _<1000000;omega))),eN]
   simp[cu]
 have e1:=hm.len
 have m1:=hm.ext hk hcm ho a3
 have e2':=m1.len
 have m2:=m1.ext hk ((mJ _ _).subset ho) ((mJ _ _).subset hcm) b3
 refine oM (k:=([W.int (bL M k c o:Nat),W.int (bL M k o c:Nat)],none)) (fun j ρ S=>∃o5,ρ=[some M.w,lO st.length,iO (q:Nat),iO (o:Nat),some (dE t),o5]/\S=st++.lst (cu (([bL M k c o,bL M k o c].take j).foldl tJ mt))::x) (gG (iE (ax (bS (bS kv (bS kv kv ic) (uH a1)) kv (uI a2)) (ax (bS (bS kv kv (uH b1)) (bS kv kv ic) (uI b2)) bB)) (by show 2<=1000000;decide))) ⟨o5,rfl,rfl⟩ (fun _ _ _ _=>trivial) ?_ ?_
 ·rintro j w ρ S hw ⟨o5,rfl,rfl⟩
  refine⟨_,rfl,?_⟩
  match j,hw with
  |0,hw=>
   cases hw
   exact⟨_,_,one (m1:=mt) none (by omega),_,rfl,rfl⟩
  |1,hw=>
   cases hw
   exact⟨_,_,one (m1:=tJ mt (bL M k c o)) none (by omega),_,rfl,rfl⟩
 ·rintro ρ S ⟨o5,rfl,rfl⟩
  exact⟨_,_,rfl,_,o5,(mJ _ _).trans (mJ _ _),m2,(mJ _ _).subset (xV _ _),xV _ _,rfl,rfl⟩
theorem Qn(hM:nQ M N)(hN:N<=1000){x:List ai}(hm:Mt M N mt){q c o:Nat}(hc:mt[q]?=some c)(ho:o∈mt)(o4 o5:Option W) :
  gD (F' fun ρ S=>∃mt' o4 o5,mt <+: mt'/\Mt M N mt'/\(∀k,k<M.tb.length->bL M k c o∈mt'/\bL M k o c∈mt')/\ρ=[some M.w,lO st.length,iO (q:Nat),iO (o:Nat),o4,o5]/\S=st++.lst (cu mt')::x)
   (Ts [some M.w,lO st.length,iO (q:Nat),iO (o:Nat),o4,o5] (st++.lst (cu mt)::x)):=by
 refine oM (k:=(M.tb.map dE,none)) (fun i ρ S=>∃mt' o4 o5,mt <+: mt'/\Mt M N mt'/\(∀k,k<i->bL M k c o∈mt'/\bL M k o c∈mt')/\ρ=[some M.w,lO st.length,iO (q:Nat),iO (o:Nat),o4,o5]/\S=st++.lst (cu mt')::x) (gG kx) ⟨mt,o4,o5,ae _,hm,fun k hk=>absurd hk (cp _),rfl,rfl⟩ (fun _ _ _ _=>trivial) ?_ ?_
 ·rintro i w ρ S hw ⟨mt',o4,o5,hp,hm',jd,rfl,rfl⟩
  rw[al]at hw
  obtain⟨t,ht,rfl⟩:=aY.mp hw
  refine⟨_,rfl,?_⟩
  obtain⟨ρ2,S2,e,mt2,o5',p2,m2,z1,z2,rfl,rfl⟩:=Qm (st:=st) (x:=x) hM hN hm' ht (zr hp hc) (hp.subset ho) o5
  refine⟨_,_,e,mt2,_,_,hp.trans p2,m2,fun k hk=>?_,rfl,rfl⟩
  rcases kq.mp hk with z|z
  ·exact⟨p2.subset (jd k z).1,p2.subset (jd k z).2⟩
  ·subst z;exact⟨z1,z2⟩
 ·rintro ρ S ⟨mt',o4,o5,hp,hm',jd,rfl,rfl⟩
  rw[aj]at jd
  exact⟨_,_,rfl,mt',o4,o5,hp,hm',jd,rfl,rfl⟩
theorem FH(hM:nQ M N)(Rh:1<=N)(hN:N<=1000):∃mt y,dq y/\Mt M N mt/\(∀k,k<M.tb.length->∀a∈mt,∀b∈mt,bL M k a b∈mt)/\uC [M.w] st=.ok (.loc st.length) (st++.lst (cu mt)::y):=by
 suffices hh:gD (qJ fun w bv=>∃j x,w=.loc (st.length+j)/\bv=st++x/\j=0/\∃mt y,dq y/\Mt M N mt/\(∀k,k<M.tb.length->∀a∈mt,∀b∈mt,bL M k a b∈mt)/\x=.lst (cu mt)::y) (JK ([M.w].map some++List.replicate (6-1) none) st) by
  obtain⟨j,x,⟨rfl,mt,y,hy,h1,h2,rfl⟩,e⟩:=iw hh
  exact⟨mt,y,hy,h1,h2,e⟩
 apply aG
 ·exact bU (Ar (ax dN bB) (by show 1<=1000000;decide))
 apply aG
 ·exact bU dN
 have m0:Mt M N [0]:=⟨⟨[],rfl⟩,by simp,fun a ha=>by simp at ha;omega,fun C c0 _ a ha=>by simp at ha;subst ha;exact c0⟩
 refine pJ (fun n ρ S=>∃q mt x o3 o4 o5,dq x/\n+q=N/\q<=mt.length/\Mt M N mt/\(∀i j a b,i<q->j<q->mt[i]?=some a->mt[j]?=some b->∀k,k<M.tb.length->bL M k a b∈mt)/\ρ=[some M.w,lO st.length,iO (q:Nat),o3,o4,o5]/\S=st++.lst (cu mt)::x) N ⟨0,[0],[],none,none,none,wc,by omega,by simp,m0,fun i j a b hi=>absurd hi (cp _),rfl,rfl⟩ ?_ ?_
 ·rintro n ρ S ⟨q,mt,x,o3,o4,o5,npx,hnq,hq,hm,jd,rfl,rfl⟩
  have hlm:=hm.len
  have cm:(st++.lst (cu mt)::x)[st.length]?=some (.lst (cu mt)):=by rw[cB];rfl
  have ln:=g8 (aR cm)
  rw[aj]at ln
  have tsx:f6 (e2 G0 (ag 2) (bg cQ (ah (ag 1) aB))) [some M.w,lO st.length,iO (q:Nat),o3,o4,o5] (st++.lst (cu mt)::x)=.ok (decide (q<mt.length)) (st++.lst (cu mt)::x):=cE (bS kv (bh kn ln) (r_ (by rw[iT];simp)))
  by_cases jS:q<mt.length
  ·refine .inr ⟨by rw[tsx,bp jS],?_⟩
   obtain⟨c,hc⟩:∃c,mt[q]?=some c:=⟨_,ac jS⟩
   have hcut:j5 (cu mt) none (some ((q:Int)+1))=cu (mt.take (q+1)):=by
    rw[show((q:Int)+1)=((q+1:Nat):Int) by omega,qK (by rw[aj];omega)]
    unfold cu;rw[nC]
   have sl:Bu (.loc st.length) none (some ((q:Int)+1)) (st++.lst (cu mt)::x)=.ok (.loc (st++.lst (cu mt)::x).length) ((st++.lst (cu mt)::x)++[.lst (cu (mt.take (q+1)))]):=by
    rw[At (aR cm),hcut]
   have ls:mw [.loc (st++.lst (cu mt)::x).length] ((st++.lst (cu mt)::x)++[.lst (cu (mt.take (q+1)))])=.ok (.loc ((st++.lst (cu mt)::x)++[ai.lst (cu (mt.take (q+1)))]).length) ((st++.lst (cu mt)::x)++[.lst (cu (mt.take (q+1)))]++[.lst (cu (mt.take (q+1)))]):=by
    unfold mw;simp only[aR bn,cA]
   have hx1:((st++.lst (cu mt)::x)++[.lst (cu (mt.take (q+1)))]++[.lst (cu (mt.take (q+1)))]:List ai)=st++.lst (cu mt)::(x++[.lst (cu (mt.take (q+1)))]++[.lst (cu (mt.take (q+1)))]):=by simp
   have hloc:((st++.lst (cu mt)::x)++[ai.lst (cu (mt.take (q+1)))]).length=st.length+(x.length+2):=by simp
   have Cg:∀mt':List Nat,(st++.lst (cu mt')::(x++[.lst (cu (mt.take (q+1)))]++[.lst (cu (mt.take (q+1)))]))[st.length+(x.length+2)]?=some (.lst (cu (mt.take (q+1)))):=fun mt'=>by
    rw[dh,gW,bP (by simp)];simp
   have ei:cK (bg mw (ah (F_ (ag 1) uc (kB (e2 eS (ag 2) (eI 1)))) aB)) [some M.w,lO st.length,iO (q:Nat),o3,o4,o5] (st++.lst (cu mt)::x)=.ok (cu (mt.take (q+1)),some (st.length+(x.length+2),cu (mt.take (q+1)))) (st++.lst (cu mt)::(x++[.lst (cu (mt.take (q+1)))]++[.lst (cu (mt.take (q+1)))])):=by
    rw[<- hx1,<- hloc]
    refine gs (bh (ax (DZ kv Po (xn (bS kv dN gA)) sl) bB) ls) (aR bn)
   have npx1:dq (x++[.lst (cu (mt.take (q+1)))]++[.lst (cu (mt.take (q+1)))]):=eW (eW npx (tI (fun _=>rfl) wc)) (tI (fun _=>rfl) wc)
   generalize x++[.lst (cu (mt.take (q+1)))]++[.lst (cu (mt.take (q+1)))]=x1 at Cg ei npx1
   refine cU (fun i ρ S=>∃mt' o3 o4 o5,mt <+: mt'/\Mt M N mt'/\(∀i' o,i'<i->mt[i']?=some o->i'<q+1->∀k,k<M.tb.length->bL M k c o∈mt'/\bL M k o c∈mt')/\ρ=[some M.w,lO st.length,iO (q:Nat),o3,o4,o5]/\S=st++.lst (cu mt')::x1) ei ⟨mt,o3,o4,o5,ae _,hm,fun i' o hi=>absurd hi (cp _),rfl,rfl⟩ ?_ ?_ ?_
   ·rintro i ρ S ⟨mt',o3,o4,o5,_,_,_,rfl,rfl⟩
    exact aR (Cg mt')
   ·rintro i w ρ S hw ⟨mt',o3,o4,o5,hp,hm',hc',rfl,rfl⟩
    rw[al]at hw
    obtain⟨o,ho,rfl⟩:=aY.mp hw
    have ho':mt[i]?=some o:=by
     rw[List.getElem?_take]at ho
     split at ho
     ·exact ho
     ·cases ho
    refine⟨_,rfl,?_⟩
    obtain⟨ρ2,S2,e,mt2,o4',o5',p2,m2,z,rfl,rfl⟩:=Qn (st:=st) (x:=x1) hM hN hm' (zr hp hc) (hp.subset (ak ho')) o4 o5
    refine⟨_,_,e,mt2,_,_,_,hp.trans p2,m2,fun i' o' hi' he' hq' k hk=>?_,rfl,rfl⟩
    rcases kq.mp hi' with y|y
    ·exact⟨p2.subset (hc' i' o' y he' hq' k hk).1,p2.subset (hc' i' o' y he' hq' k hk).2⟩
    ·subst y;rw[ho']at he';cases he';exact z k hk
   ·rintro ρ S ⟨mt',o3,o4,o5,hp,hm',hc',rfl,rfl⟩
    have htl:(cu (mt.take (q+1))).length=q+1:=by rw[aj,a9];omega
    rw[htl]at hc'
    have hlm':=hm'.len
    refine⟨_,_,bU (bS kv dN gA),n-1,by omega,q+1,mt',x1,o3,o4,o5,npx1,by omega,?_,hm',fun i j a b hi hj ha hb k hk=>?_,by rw[show((q+1:Nat):Int)=(q:Int)+1 by omega];rfl,rfl⟩
    ·have:=hp.length_le;omega
    ·have old:∀{i a:Nat},i<q+1->mt'[i]?=some a->mt[i]?=some a:=fun{i a} hi he=>by
      have hl:i<mt.length:=by omega
      have:=zr hp (ac hl)
      rw[he]at this;rw[ac hl,this]
     have lT:=old hi ha
     have sL:=old hj hb
     by_cases zi:i=q
     ·subst zi
      rw[hc]at lT;cases lT
      exact(hc' j b hj sL hj k hk).1
     ·by_cases zj:j=q
      ·subst zj
       rw[hc]at sL;cases sL
       exact(hc' i a hi lT hi k hk).2
      ·exact hp.subset (jd i j a b (by omega) (by omega) lT sL k hk)
  ·exact .inl (by rw[tsx,a7 jS])
 ·rintro n ρ S ⟨q,mt,x,o3,o4,o5,npx,hnq,hq,hm,jd,rfl,rfl⟩ hf
  have cm:(st++.lst (cu mt)::x)[st.length]?=some (.lst (cu mt)):=by rw[cB];rfl
  have ln:=g8 (aR cm)
  rw[aj]at ln
  have zG:mt.length<=q:=by
   rcases cD q mt.length with z|z
   ·exact(Fu hf (cE (bS kv (bh kn ln) (r_ (bp (by omega)))))).elim
   ·exact z
  refine⟨_,_,nu kv,0,_,rfl,rfl,rfl,mt,x,npx,hm,fun k hk a ha b hb=>?_,rfl⟩
  obtain⟨i,hi⟩:=aU ha
  obtain⟨j,hj⟩:=aU hb
  exact jd i j a b (by have:=(aa.mp hi).1;omega) (by have:=(aa.mp hj).1;omega) hi hj k hk
end
section
variable{T':Nat->Nat->Nat->Nat}{N':Nat}{E:List Ro}
theorem lu.image(h:lu T L N E)(φ:Nat->Nat)(h0:φ 0=0)(jS:∀x,x<N->φ x<N')(Su:∀x y,x<N->y<N->φ x=φ y->x=y)(hT:∀a x y,a<L->x<N->y<N->T' a (φ x) (φ y)=φ (T a x y)):lu T' L N' (E.map fun e=>(φ e.1,e.2)):=by
 have lt:=h.told.lt
 have at':∀{i:Nat} {e':Ro},(E.map fun e=>(φ e.1,e.2))[i]?=some e'->∃e,E[i]?=some e/\e'=(φ e.1,e.2):=fun{i e'} q=>by
  rw[al]at q
  obtain⟨e,h1,h2⟩:=aY.mp q
  exact⟨e,h1,h2.symm⟩
 have to:∀{i:Nat} {e:Ro},E[i]?=some e->(E.map fun e=>(φ e.1,e.2))[i]?=some (φ e.1,e.2):=fun q=>by rw[al,q];rfl
 refine⟨⟨?_,fun e he=>?_,?_,fun i e he hi=>?_,fun i e f he hf=>?_⟩,fun l r a hl hr ha el er h1 h2=>?_⟩
 ·obtain⟨r,e⟩:=h.told.zero
  exact⟨r.map fun e=>(φ e.1,e.2),by rw[e,aC,h0]⟩
 ·obtain⟨f,hf,rfl⟩:=am.mp he
  exact jS _ (lt f hf)
 ·rw[aL]
  refine eY.mpr ((eY.mp h.told.nd).imp_of_mem fun{a b} ha hb lx z=>lx (Su _ _ (lt _ ha) (lt _ hb) z))
 ·obtain⟨f,hf,rfl⟩:=at' he
  obtain⟨q1,q2,el,er,q3,q4,q5,q6,q7⟩:=h.told.row i f hf hi
  refine⟨q1,q2,_,_,to q3,to q4,q5,?_,q7⟩
  show T' _ (φ el.1) (φ er.1)=φ f.1
  rw[hT _ _ _ q5 (lt _ (ak q3)) (lt _ (ak q4))]
  exact cC φ q6
 ·obtain⟨e1,k1,rfl⟩:=at' he
  obtain⟨e2,k2,rfl⟩:=at' hf
  exact h.told.rise i e1 e2 k1 k2
 ·obtain⟨e1,k1,rfl⟩:=at' h1
  obtain⟨e2,k2,rfl⟩:=at' h2
  rcases h.cov l r a (by simpa using hl) (by simpa using hr) ha e1 e2 k1 k2 with⟨i,e,q1,q2,q3⟩|⟨p,hp,_⟩
  ·refine .inl ⟨i,_,to q1,?_,q3⟩
   show φ e.1=T' a (φ e1.1) (φ e2.1)
   rw[hT _ _ _ ha (lt _ (ak k1)) (lt _ (ak k2)),q2]
  ·cases hp
end
section
variable{M:Mc}{E:List Ro}{h:Nat->Nat}
abbrev fs(E:List Ro):List Nat:=E.map Prod.fst
theorem iZ.rso(l:iZ M N E B h m rs):Cb M N rs:=JP l.full.told l.full.cov l.perm l.up
theorem iZ.mem(l:iZ M N E B h m rs){a:Nat}:a∈fs E↔a∈rs:=l.perm.mem_iff.symm
theorem iZ.z(l:iZ M N E B h m rs):0∈fs E:=l.mem.mpr l.rso.zero
theorem iZ.least(l:iZ M N E B h m rs)(C:Nat->Prop)(c0:C 0)(cc:∀k,k<M.tb.length->∀a b,a∈fs E->b∈fs E->C a->C b->C (bL M k a b)):∀a∈fs E,C a:=fun a ha=>
 (l.rso.least (fun a=>a∈fs E/\C a) ⟨l.z,c0⟩ (fun k hk a b x y=>⟨l.rm.cl k hk a x.1 b y.1,cc k hk a b x.1 y.1 x.2 y.2⟩) a (l.mem.mp ha)).2
theorem iZ.blt(l:iZ M N E B h m rs){a:Nat}(ha:a∈fs E):B a<m:=by
 obtain⟨i,hi⟩:=aU ha
 exact(l.can.fst i a hi).1
theorem iZ.b0(l:iZ M N E B h m rs):B 0=0:=by
 have q:=l.last.quo l.full l.rm l.can
 obtain⟨z1,z2,z3⟩:=q.zero
 have:=(q.at' 0 z1).2
 rw[z3]at this
 exact this
theorem iZ.eq_iff(l:iZ M N E B h m rs){a b:Nat}(ha:a∈fs E)(hb:b∈fs E):B a=B b↔∀s,Ca M (fs E) s a b=false:=by
 refine⟨fun e s=>l.last.st l.rm s a b ha hb e,fun z=>?_⟩
 obtain⟨s,b0,_⟩:=l.last.ok
 exact(b0 a ha b hb).mpr (z s)
theorem iZ.good(l:iZ M N E B h m rs){a b:Nat}(ha:a∈fs E)(hb:b∈fs E)(e:B a=B b):gM M a=gM M b:=by
 have:=(l.eq_iff ha hb).mp e 0
 have h2:(gM M a != gM M b)=false:=this
 exact bne_eq_false_iff_eq.mp h2
end
structure zt(M2 M1:Mc)(F2 F1:List Nat)(S:Nat->Nat->Prop):Prop where
 zero:S 0 0
 step:∀k a b a' b',k<M1.tb.length->a∈F2->b∈F2->a'∈F1->b'∈F1->S a a'->S b b'->S (bL M2 k a b) (bL M1 k a' b')
 good:∀a a',a∈F2->a'∈F1->S a a'->gM M2 a=gM M1 a'
 nm:M2.nm=M1.nm
 len:M2.tb.length=M1.tb.length
section
variable{M2 M1:Mc}{N2 N1 m2 m1:Nat}{E2 E1:List Ro}{B2 h2 B1 h1:Nat->Nat}{ph uP:List Nat}{S:Nat->Nat->Prop}
theorem zt.to(q:zt M2 M1 (fs E2) (fs E1) S)(l2:iZ M2 N2 E2 B2 h2 m2 ph)(l1:iZ M1 N1 E1 B1 h1 m1 uP):∀a∈fs E2,∃a',a'∈fs E1/\S a a':=
 l2.least (fun a=>∃a',a'∈fs E1/\S a a') ⟨0,l1.z,q.zero⟩ fun k hk a b ha hb x y=>by
  obtain⟨a',x1,x2⟩:=x
  obtain⟨b',y1,y2⟩:=y
  rw[q.len]at hk
  exact⟨_,l1.rm.cl k hk a' x1 b' y1,q.step k a b a' b' hk ha hb x1 y1 x2 y2⟩
theorem zt.fro(q:zt M2 M1 (fs E2) (fs E1) S)(l2:iZ M2 N2 E2 B2 h2 m2 ph)(l1:iZ M1 N1 E1 B1 h1 m1 uP):∀a'∈fs E1,∃a,a∈fs E2/\S a a':=
 l1.least (fun a'=>∃a,a∈fs E2/\S a a') ⟨0,l2.z,q.zero⟩ fun k hk a' b' ha hb x y=>by
  obtain⟨a,x1,x2⟩:=x
  obtain⟨b,y1,y2⟩:=y
  exact⟨_,l2.rm.cl k (by rw[q.len];exact hk) a x1 b y1,q.step k a b a' b' hk x1 y1 ha hb x2 y2⟩
theorem zt.led(q:zt M2 M1 (fs E2) (fs E1) S){p p':Nat×Nat×Nat}(e1:p.1=p'.1)(e2:p.2.1=p'.2.1)(hk:p'.1<M1.tb.length)(t2:p.2.2∈fs E2)(t1:p'.2.2∈fs E1)(ts:S p.2.2 p'.2.2){a a':Nat}(ha:a∈fs E2)(lT:a'∈fs E1)(hs:S a a'):S (led (bL M2) p a) (led (bL M1) p' a'):=by
 obtain⟨k,d,t⟩:=p
 obtain⟨k',d',t'⟩:=p'
 simp only at e1 e2 hk t2 t1 ts
 subst e1;subst e2
 unfold P.led
 by_cases z:d=0
 ·simp only[z,d7]
  exact q.step _ _ _ _ _ hk ha t2 lT t1 hs ts
 ·simp only[z,fD]
  exact q.step _ _ _ _ _ hk t2 ha t1 lT ts hs
theorem zt.ap(q:zt M2 M1 (fs E2) (fs E1) S)(l2:iZ M2 N2 E2 B2 h2 m2 ph)(l1:iZ M1 N1 E1 B1 h1 m1 uP):∀(s a b a' b':Nat),a∈fs E2->b∈fs E2->a'∈fs E1->b'∈fs E1->S a a'->S b b'->(Ca M2 (fs E2) s a b=false↔Ca M1 (fs E1) s a' b'=false)
 |0,a,b,a',b',ha,hb,lT,sL,sa,sb=>by
  show(gM M2 a != gM M2 b)=false↔(gM M1 a' != gM M1 b')=false
  rw[q.good a a' ha lT sa,q.good b b' hb sL sb]
 |s+1,a,b,a',b',ha,hb,lT,sL,sa,sb=>by
  have ih:=q.ap l2 l1 s
  constructor
  ·intro z
   obtain⟨z1,z2⟩:=mH z
   refine xR ((ih a b a' b' ha hb lT sL sa sb).mp z1) fun p' hp'=>?_
   obtain⟨p1,p2,p3⟩:=m6.mp hp'
   obtain⟨t,t1,t2⟩:=q.fro l2 l1 _ p3
   have hp:(p'.1,p'.2.1,t)∈pO M2.tb.length (fs E2):=m6.mpr ⟨by rw[q.len];exact p1,p2,t1⟩
   exact(ih _ _ _ _ (l2.rm.led hp ha) (l2.rm.led hp hb) (l1.rm.led hp' lT) (l1.rm.led hp' sL) (q.led (p:=(p'.1,p'.2.1,t)) (p':=p') rfl rfl p1 t1 p3 t2 ha lT sa) (q.led (p:=(p'.1,p'.2.1,t)) (p':=p') rfl rfl p1 t1 p3 t2 hb sL sb)).mp (z2 _ hp)
  ·intro z
   obtain⟨z1,z2⟩:=mH z
   refine xR ((ih a b a' b' ha hb lT sL sa sb).mpr z1) fun p hp=>?_
   obtain⟨p1,p2,p3⟩:=m6.mp hp
   obtain⟨t,t1,t2⟩:=q.to l2 l1 _ p3
   have p1':p.1<M1.tb.length:=by rw[<- q.len];exact p1
   have hp':(p.1,p.2.1,t)∈pO M1.tb.length (fs E1):=m6.mpr ⟨p1',p2,t1⟩
   exact(ih _ _ _ _ (l2.rm.led hp ha) (l2.rm.led hp hb) (l1.rm.led hp' lT) (l1.rm.led hp' sL) (q.led (p:=p) (p':=(p.1,p.2.1,t)) rfl rfl p1' p3 t1 t2 ha lT sa) (q.led (p:=p) (p':=(p.1,p.2.1,t)) rfl rfl p1' p3 t1 t2 hb sL sb)).mpr (z2 _ hp')
theorem zt.eqB(q:zt M2 M1 (fs E2) (fs E1) S)(l2:iZ M2 N2 E2 B2 h2 m2 ph)(l1:iZ M1 N1 E1 B1 h1 m1 uP){a b a' b':Nat}(ha:a∈fs E2)(hb:b∈fs E2)(lT:a'∈fs E1)(sL:b'∈fs E1)(sa:S a a')(sb:S b b'):B2 a=B2 b↔B1 a'=B1 b':=by
 rw[l2.eq_iff ha hb,l1.eq_iff lT sL]
 exact⟨fun z s=>(q.ap l2 l1 s a b a' b' ha hb lT sL sa sb).mp (z s),fun z s=>(q.ap l2 l1 s a b a' b' ha hb lT sL sa sb).mpr (z s)⟩
theorem zt.one(q:zt M2 M1 (fs E2) (fs E1) S)(l2:iZ M2 N2 E2 B2 h2 m2 ph)(l1:iZ M1 N1 E1 B1 h1 m1 uP) :
  (∀a a',a∈fs E2->a'∈fs E1->S a a'->B2 a=B1 a')/\m2=m1/\mB M2 E2 B2 h2 m2=mB M1 E1 B1 h1 m1:=by
 have ch:∀j,∃c,j<m2->c∈fs E1/\S (nS (fs E2) h2 j) c:=fun j=>by
  by_cases hj:j<m2
  ·obtain⟨c,c1,c2⟩:=q.to l2 l1 _ (l2.can.at' hj).2.1
   exact⟨c,fun _=>⟨c1,c2⟩⟩
  ·exact⟨0,fun z=>absurd z hj⟩
 obtain⟨c,hc⟩:=Classical.skolem.mp ch
 obtain⟨φ,hφ⟩:∃φ:Nat->Nat,∀j,φ j=B1 (c j):=⟨fun j=>B1 (c j),fun _=>rfl⟩
 have key:∀a a',a∈fs E2->a'∈fs E1->S a a'->φ (B2 a)=B1 a':=fun a a' ha lT sa=>by
  have hl:=l2.blt ha
  obtain⟨_,g1,g2⟩:=l2.can.at' hl
  obtain⟨c1,c2⟩:=hc _ hl
  rw[hφ]
  exact(q.eqB l2 l1 g1 ha c1 lT c2 sa).mp g2
 have len1:M1.tb.length=M2.tb.length:=q.len.symm
 have fB:lu (bL (mB M1 E1 B1 h1 m1)) M1.tb.length m1 ((qy E2 B2 (NB E2 h2) m2).map fun e=>(φ e.1,e.2)):=by
  have f2:=l2.fullB
  rw[pS,q.len]at f2
  refine f2.image φ ?_ ?_ ?_ ?_
  ·have:=key 0 0 l2.z l1.z q.zero
   rw[l2.b0,l1.b0]at this;exact this
  ·intro x hx
   rw[hφ];exact l1.blt (hc x hx).1
  ·intro x y hx hy z
   rw[hφ,hφ]at z
   have:=(q.eqB l2 l1 (l2.can.at' hx).2.1 (l2.can.at' hy).2.1 (hc x hx).1 (hc y hy).1 (hc x hx).2 (hc y hy).2).mpr z
   rw[(l2.can.at' hx).2.2,(l2.can.at' hy).2.2]at this
   exact this
  ·intro k x y hk hx hy
   obtain⟨x1,x2⟩:=hc x hx
   obtain⟨y1,y2⟩:=hc y hy
   have pi:φ x<m1:=by rw[hφ];exact l1.blt x1
   have ye:φ y<m1:=by rw[hφ];exact l1.blt y1
   rw[qO hk pi ye,qO (by rw[q.len];exact hk) hx hy,key _ _ (l2.rm.cl k (by rw[q.len];exact hk) _ (l2.can.at' hx).2.1 _ (l2.can.at' hy).2.1) (l1.rm.cl k hk _ x1 _ y1) (q.step k _ _ _ _ hk (l2.can.at' hx).2.1 (l2.can.at' hy).2.1 x1 y1 x2 y2)]
   refine l1.last.cg l1.rm hk (l1.can.at' pi).2.1 x1 (l1.can.at' ye).2.1 y1 ?_ ?_
   ·rw[(l1.can.at' pi).2.2,hφ]
   ·rw[(l1.can.at' ye).2.2,hφ]
 have f1:=l1.fullB
 rw[pS]at f1
 have ee:=cC (List.map Prod.fst) (fB.uniq f1)
 rw[vV,aL]at ee
 have e3:(qy E2 B2 (NB E2 h2) m2).map (Prod.fst∘fun e=>(φ e.1,e.2))=(List.range m2).map φ:=by
  rw[<- vV (E:=E2) (B:=B2) (h:=h2) (m:=m2),aL];rfl
 rw[e3]at ee
 have hm:m2=m1:=by have:=cC List.length ee;simpa using this
 have hid:∀j,j<m2->φ j=j:=fun j hj=>by
  have:=cC (fun l:List Nat=>l[j]?) ee
  simp only[al,bZ hj,bZ (hm▸hj)]at this
  exact aM this
 have hB:∀a a',a∈fs E2->a'∈fs E1->S a a'->B2 a=B1 a':=fun a a' ha lT sa=>by
  rw[<- key a a' ha lT sa,hid _ (l2.blt ha)]
 refine⟨hB,hm,?_⟩
 subst hm
 have bc:∀j,j<m2->B1 (c j)=B1 (nS (fs E1) h1 j):=fun j hj=>by
  rw[(l1.can.at' hj).2.2,<- hφ,hid j hj]
 unfold mB uL
 rw[Mc.mk.injEq]
 refine⟨q.nm,aZ fun j hj=>?_,?_⟩
 ·have hj:=a_.mp hj
  rw[q.good _ _ (l2.can.at' hj).2.1 (hc j hj).1 (hc j hj).2]
  exact l1.good (hc j hj).1 (l1.can.at' hj).2.1 (bc j hj)
 ·rw[q.len]
  refine aZ fun k hk=>aZ fun x hx=>aZ fun y hy=>?_
  have hk:=a_.mp hk
  have hx:=a_.mp hx
  have hy:=a_.mp hy
  obtain⟨x1,x2⟩:=hc x hx
  obtain⟨y1,y2⟩:=hc y hy
  rw[hB _ _ (l2.rm.cl k (by rw[q.len];exact hk) _ (l2.can.at' hx).2.1 _ (l2.can.at' hy).2.1) (l1.rm.cl k hk _ x1 _ y1) (q.step k _ _ _ _ hk (l2.can.at' hx).2.1 (l2.can.at' hy).2.1 x1 y1 x2 y2)]
  exact l1.last.cg l1.rm hk x1 (l1.can.at' hx).2.1 y1 (l1.can.at' hy).2.1 (bc x hx) (bc y hy)
end
theorem FJ(l:List Nat)(k:Nat)(st:List ai):gR (k+1) [.str l,.str l] st=.ok (.bl true) st:=by
 refine j_ (N:=3) (ws:=[.str l,.str l]) (body:=xG (gR k)) ?_ rfl
 (walk_at "go")
 apply dC
 ·apply oE
  ·(walk_at "evs")
  ·(walk_at "evs")
 ·exact⟨_,_,rfl,by simp,[],by simp⟩
theorem iF{k:Nat}{st:List ai}(hl:ws.length<=1000)(h:∀w∈ws,gR k [w,w] st=.ok (.bl true) st):gR (k+1) [.tup ws,.tup ws] st=.ok (.bl true) st:=by
 refine j_ (N:=3) (ws:=[.tup ws,.tup ws]) (body:=xG (gR k)) ?_ rfl
 apply gu
 ·(walk_at "evs")
 apply mY
 apply bN
 ·apply dZ
  ·(walk_at "evs")
  ·(walk_at "evs")
   simp
 apply bV
 apply mY
 refine cU (fun i ρ bv=>∃o,ρ=[some (.tup ws),some (.tup ws),o]/\bv=st) (dD (by(walk_at "evs")) (by omega)) ⟨none,rfl,rfl⟩ (fun _ _ _ _=>trivial) ?_ ?_
 ·rintro i w ρ bv hw ⟨o,rfl,rfl⟩
  obtain⟨hi,rfl⟩:=fU hw
  refine⟨_,rfl,?_⟩
  have hi':i<ws.length:=by simpa using hi
  have hat:bJ (.tup ws) (.int (0+(i:Int))) bv=.ok ws[i] bv:=jt (by rw[gz];exact d6 (by simp[hi']))
  have hs:=h ws[i] (gw _)
  apply kH
  ·(walk_at "evs")
  apply dF
  ·(walk_at "evs")
  ·exact⟨_,_,rfl,_,rfl,rfl⟩
 ·rintro ρ bv ⟨o,rfl,rfl⟩
  apply fJ
  ·(walk_at "evs")
  ·exact⟨_,_,rfl,rfl,[],by simp⟩
theorem Cd(b:Bool)(k:Nat)(st:List ai):gR (k+1) [.bl b,.bl b] st=.ok (.bl true) st:=by
 have hb:nT (.bl b) (.bl b) st=.ok (.bl true) st:=Pt (by simp)
 refine j_ (N:=3) (ws:=[.bl b,.bl b]) (body:=xG (gR k)) ?_ rfl
 apply bN
 ·(walk_at "evs")
 apply bV
 apply bN
 ·(walk_at "evs")
 apply bV
 apply gu
 ·(walk_at "evs")
 apply fJ
 ·apply oE
  ·(walk_at "evs")
  ·(walk_at "evs")
 ·exact⟨_,_,rfl,rfl,[],by simp⟩
theorem xW(z:Int)(k:Nat)(st:List ai):gR (k+1) [.int z,.int z] st=.ok (.bl true) st:=by
 have hb:nT (.int z) (.int z) st=.ok (.bl true) st:=oF (by simp)
 refine j_ (N:=3) (ws:=[.int z,.int z]) (body:=xG (gR k)) ?_ rfl
 apply bN
 ·(walk_at "evs")
 apply bV
 apply bN
 ·(walk_at "evs")
 apply bV
 apply bN
 ·(walk_at "evs")
 apply bV
 apply gu
 ·(walk_at "evs")
 apply fJ
 ·apply oE
  ·(walk_at "evs")
  ·apply oE
   ·(walk_at "evs")
   ·(walk_at "evs")
 ·exact⟨_,_,rfl,by simp,[],by simp⟩
def Sm(w:W):Prop:=∀st,gR 40 [w,w] st=.ok (.bl true) st
theorem Il(M:Mc)(k:Nat)(h1:M.gd.length<=1000)(h2:M.tb.length<=1000)(h3:∀t∈M.tb,t.length<=1000/\∀r∈t,r.length<=1000)(st:List ai):gR (k+5) [M.w,M.w] st=.ok (.bl true) st:=
 iF (k:=k+4) (by simp) fun w hw=>by
  simp at hw
  rcases hw with rfl|rfl|rfl
  ·exact FJ _ _ _
  ·refine iF (k:=k+3) (by simpa using h1) fun w hw=>?_
   obtain⟨b,_,rfl⟩:=am.mp hw
   exact Cd _ _ _
  ·refine iF (k:=k+3) (by simpa using h2) fun w hw=>?_
   obtain⟨t,ht,rfl⟩:=am.mp hw
   obtain⟨t1,t2⟩:=h3 t ht
   refine iF (k:=k+2) (by simpa using t1) fun w hw=>?_
   obtain⟨r,hr,rfl⟩:=am.mp hw
   refine iF (k:=k+1) (by simpa using t2 r hr) fun w hw=>?_
   obtain⟨z,_,rfl⟩:=am.mp hw
   exact xW _ _ _
theorem MQ{x:List ai}(h:∀d∈x,∃l,d=ai.lst l):dq x:=fun d hd c=>by obtain⟨l,rfl⟩:=h d hd;rfl
section
variable{M:Mc}{E:List Ro}{h:Nat->Nat}
theorem iZ.hom(l:iZ M N E B h m rs){k a b:Nat}(hk:k<M.tb.length)(ha:a∈fs E)(hb:b∈fs E):bL (mB M E B h m) k (B a) (B b)=B (bL M k a b):=by
 rw[qO hk (l.blt ha) (l.blt hb)]
 exact l.last.cg l.rm hk (l.can.at' (l.blt ha)).2.1 ha (l.can.at' (l.blt hb)).2.1 hb (l.can.at' (l.blt ha)).2.2 (l.can.at' (l.blt hb)).2.2
theorem iZ.gdB(l:iZ M N E B h m rs){a:Nat}(ha:a∈fs E):gM (mB M E B h m) (B a)=gM M a:=by
 rw[l.gB (l.blt ha)]
 exact l.good (l.can.at' (l.blt ha)).2.1 ha (l.can.at' (l.blt ha)).2.2
theorem iZ.self(l:iZ M N E B h m rs)(F:List Nat):zt (mB M E B h m) M F (fs E) (fun i a=>i=B a):=by
 refine⟨l.b0.symm,fun k a b a' b' hk _ _ lT sL ea eb=>?_,fun a a' _ lT ea=>?_,rfl,pS⟩
 ·subst ea;subst eb;exact l.hom hk lT sL
 ·subst ea;exact l.gdB lT
variable{m3:Nat}{E3:List Ro}{B3 h3:Nat->Nat}{Rj:List Nat}
theorem iZ.twice(l:iZ M N E B h m rs)(l3:iZ (mB M E B h m) m E3 B3 h3 m3 Rj):kc (mB M E B h m) E3 B3 h3 m3 Rj=.tup [(mB M E B h m).w,mI (fun j=>j) (List.range m)]:=by
 obtain⟨hB,hm,hq⟩:=(l.self (fs E3)).one l3 l
 have eE:fs E3=List.range m:=by
  have:=l3.full.uniq l.fullB
  rw[this];exact vV
 have er:Rj=List.range m:=vd l3.up List.pairwise_lt_range fun a=>by rw[<- l3.mem,eE]
 unfold kc
 rw[show uL (mB M E B h m) (E3.map Prod.fst) B3 h3 m3=mB M E B h m from hq,er]
 congr 3
 unfold mI
 congr 1
 refine aZ fun i hi=>?_
 have hi':=a_.mp hi
 have e:=(l.can.at' hi').2.2
 have:=hB i _ (by rw[eE];exact hi) (l.can.at' hi').2.1 e.symm
 rw[this,e]
variable{N4 m4:Nat}{E4:List Ro}{B4 h4:Nat->Nat}{Sj:List Nat}
def wd(M:Mc)(n r:Nat):Mc:=⟨M.nm,(List.range n).map fun k=>!(gM M k==((k:Int)==(r:Int))),M.tb⟩
theorem MR{r:Nat}(hM:nQ M N):nQ (wd M N r) N:=⟨by simp[wd],hM.tb,hM.t⟩
theorem iZ.three(l:iZ M N E B h m rs){r:Nat}(l4:iZ (wd M N r) N E4 B4 h4 m4 Sj)(hr:r∈fs E):mB (wd M N r) E4 B4 h4 m4≠mB M E B h m:=by
 intro z
 have eE:E4=E:=l4.full.uniq l.full
 subst eE
 have hC:∀a∈fs E4,B4 a=B a:=l.least (fun a=>B4 a=B a) (by rw[l4.b0,l.b0]) fun k hk a b ha hb x y=>by
  have e1:=l4.hom (k:=k) hk ha hb
  have e2:=l.hom hk ha hb
  rw[z,x,y,e2]at e1
  exact e1.symm
 have g1:=l4.gdB hr
 have g2:=l.gdB hr
 rw[z,hC r hr,g2]at g1
 have ND:=l.rm.lt r hr
 have:gM (wd M N r) r=!(gM M r):=by
  show((List.range N).map fun k=>!(gM M k==((k:Int)==(r:Int)))).getD r false=_
  rw[az,al,bZ ND]
  show(!(gM M r==((r:Int)==(r:Int))))=_
  rw[dL];cases gM M r<;>rfl
 rw[this]at g1
 revert g1
 generalize gM M r=b
 cases b<;>intro z<;>cases z
end
theorem Ce{M M2:Mc}{n2:Nat}{zs:List Nat}{F2 F1:List Nat}(Iy:nQ M2 n2)(hz:zs.length=n2)(h0:zs[0]?=some 0)(hM:nQ M n)(hg:M2.gd=zs.map fun r=>M.gd.getD r false)(ht:∀(a:Nat) (t:List (List Nat)),M2.tb[a]?=some t->Qb zs M a t)(sX:M2.nm=M.nm)(jS:∀a∈F2,a<n2) :
  zt M2 M F2 F1 (fun a a'=>a'=zs.getD a 0):=by
 have hl:M2.tb.length=M.tb.length:=by rw[Iy.tb,hM.tb,sX]
 refine⟨(m5 h0).symm,fun k a b a' b' hk ha hb _ _ ea eb=>?_,fun a a' ha _ ea=>?_,sX,hl⟩
 ·subst ea;subst eb
  have ya:M2.tb[k]?=some (M2.tb[k]'(by omega)):=ac (by omega)
  obtain⟨row,e1,e2,_⟩:=sD Iy ya (jS a ha) (jS b hb)
  exact(ht k _ ya a b row _ e1 e2).symm
 ·subst ea
  have hza:zs[a]?=some (zs.getD a 0):=by rw[az,ac (by rw[hz];exact jS a ha)];rfl
  unfold gM
  rw[hg,az,al,hza];rfl
theorem mK(f:α->W)(hf:∀a b,∃c,gY (f a) (f b)=some c/\(c=true->a=b)):∀l l':List α,∃c,eqWs (l.map f) (l'.map f)=some c/\(c=true->l=l')
 |[],[]=>⟨true,by simp[eqWs],fun _=>rfl⟩
 |[],_::_=>⟨false,by simp[eqWs],fun z=>by cases z⟩
 |_::_,[]=>⟨false,by simp[eqWs],fun z=>by cases z⟩
 |a::l,b::l'=>by
  obtain⟨c,h1,h2⟩:=hf a b
  obtain⟨d,h3,h4⟩:=mK f hf l l'
  refine⟨c&&d,by simp only[aC,eqWs,h1,h3],fun z=>?_⟩
  rw[bf]at z
  rw[h2 z.1,h4 z.2]
theorem Im(a b:List Nat):∃c,gY (gE a) (gE b)=some c/\(c=true->a=b):=by
 unfold gE
 simp only[gY]
 exact mK (fun k:Nat=>W.int (k:Nat)) (fun a b=>⟨((a:Int)==(b:Int)),by simp only[gY],fun z=>by rw[bT]at z;omega⟩) a b
theorem Io(a b:List (List Nat)):∃c,gY (dE a) (dE b)=some c/\(c=true->a=b):=by
 unfold dE
 simp only[gY]
 exact mK _ Im a b
theorem MS(M M':Mc):∃c,gY M.w M'.w=some c/\(c=true->M=M'):=by
 obtain⟨c1,h1,k1⟩:=mK W.bl (fun a b=>⟨(a==b),by simp only[gY],fun z=>by rw[bT]at z;exact z⟩) M.gd M'.gd
 obtain⟨c2,h2,k2⟩:=mK dE Io M.tb M'.tb
 refine⟨(M.nm==M'.nm)&&(c1&&(c2&&true)),by unfold Mc.w;simp only[gY,eqWs,h1,h2],fun z=>?_⟩
 simp only[bf,bT,and_true]at z
 obtain⟨n,g,t⟩:=M
 obtain⟨n',g',t'⟩:=M'
 rw[Mc.mk.injEq]
 exact⟨z.1,k1 z.2.1,k2 z.2.2⟩
theorem oS{f:α->W}{d:Nat}(h:∀a,(f a).dep<=d):∀l:List α,depWs (l.map f)<=d
 |[]=>cM _
 |a::l=>by
  have:=oS h l
  have:=h a
  simp only[aC,depWs]
  omega
theorem MT(M:Mc):M.w.dep<=64:=by
 have r:∀a,(gE a).dep<=1:=fun a=>by
  have:=oS (f:=fun k:Nat=>W.int (k:Nat)) (d:=0) (fun _=>by simp[W.dep]) a
  unfold gE;simp only[W.dep];omega
 have t:∀a,(dE a).dep<=2:=fun a=>by
  have:=oS r a
  unfold dE;simp only[W.dep];omega
 have g:=oS (f:=W.bl) (d:=0) (fun _=>by simp[W.dep]) M.gd
 have tb:=oS t M.tb
 unfold Mc.w
 simp only[W.dep,depWs]
 omega
theorem Qo{M M':Mc}(h:M≠M')(st:List ai):t_ M.w M'.w st=.ok (.bl true) st:=by
 obtain⟨c,h1,h2⟩:=MS M M'
 have:c=false:=by
  cases c with
  |false=>rfl
  |true=>exact absurd (h2 rfl) h
 subst this
 unfold t_
 simp only[h1]
 rw[aw (.inr (MT M))];rfl
theorem vW{M:Mc}{E:List Ro}{h:Nat->Nat}(l:iZ M N E B h m rs)(hN:N<=50)(sX:M.nm.length<=20)(st:List ai):uD [kc M E B h m rs,.str M.nm] st=.ok (.bl true) st:=by
 obtain⟨hmN,hm1⟩:=l.m_le
 have g0:bJ (kc M E B h m rs) (.int 0) st=.ok (mB M E B h m).w st:=rfl
 have g1:bJ (kc M E B h m rs) (.int 1) st=.ok (mI B rs) st:=rfl
 have ef:=Ik l.okB hm1 (by omega) sX st
 refine j_ (N:=4) (ws:=[kc M E B h m rs,.str M.nm]) (body:=JL) ?_ rfl
 refine bN (dZ (gQ (cE (jr kv rfl rfl)) rfl) (dZ (cE (bS (bh kn (w:=.int 2) rfl) dN (sd rfl))) (gQ (cE (jr (bS kv dN g1) rfl rfl)) rfl))) (bV ?_)
 refine bN (gQ (a:=true) (cE (cL (ax (bS kv dN g0) kn) ef rfl)) rfl) (bV ?_)
 refine cU (fun i ρ s=>∃o2 o3,ρ=[some (kc M E B h m rs),some (.str M.nm),o2,o3]/\s=st) (gG (bS kv dN g1)) ⟨none,none,rfl,rfl⟩ (fun _ _ _ _=>trivial) ?_ ?_
 ·rintro i w ρ s hw ⟨o2,o3,rfl,rfl⟩
  obtain⟨a,_,rfl⟩:=am.mp (ak hw)
  refine⟨_,rfl,bN (dZ (gQ (cE (jr kv rfl rfl)) rfl) (cE (bS (bh kn (w:=.int 2) rfl) dN (sd rfl)))) (bV ?_)⟩
  refine sK (fun i ρ s'=>∃o3,ρ=[some (kc M E B h m rs),some (.str M.nm),some (.tup [.int (a:Nat),.int (B a:Nat)]),o3]/\s'=s) (gG (ws:=[.int (a:Nat),.int (B a:Nat)]) kv) ⟨_,rfl,rfl⟩ (fun _ _ _ _=>trivial) ?_ ?_
  ·rintro i w ρ s' hw ⟨o3,rfl,rfl⟩
   obtain⟨z,rfl⟩:∃z,w=.int z:=by
    have:=ak hw
    simp at this
    rcases this with rfl|rfl<;>exact⟨_,rfl⟩
   exact⟨_,rfl,kH (dZ (gQ (cE (jr kv rfl rfl)) rfl) (cE (jr kv rfl rfl))) ⟨_,_,rfl,_,rfl,rfl⟩⟩
  ·rintro ρ s' ⟨o3,rfl,rfl⟩
   exact⟨_,_,rfl,_,_,rfl,rfl⟩
 ·rintro ρ s ⟨o2,o3,rfl,rfl⟩
  exact dC dN ⟨_,_,rfl,rfl,[],by simp⟩
theorem xX(B:Nat->Nat)(rs:List Nat)(hl:rs.length<=1000)(k:Nat)(st:List ai):gR (k+3) [mI B rs,mI B rs] st=.ok (.bl true) st:=by
 refine iF (k:=k+2) (by simpa using hl) fun w hw=>?_
 obtain⟨a,_,rfl⟩:=am.mp hw
 refine iF (k:=k+1) (by simp) fun w hw=>?_
 simp at hw
 rcases hw with rfl|rfl<;>exact xW _ _ _
theorem xY{M:Mc}(hM:nQ M n)(hn:n<=100)(hL:M.tb.length<=64)(k:Nat)(st:List ai):gR (k+5) [M.w,M.w] st=.ok (.bl true) st:=by
 refine Il M k (by rw[hM.gd];omega) (by omega) (fun t ht=>?_) st
 obtain⟨t1,t2⟩:=hM.t t ht
 exact⟨by omega,fun r hr=>by rw[(t2 r hr).1];omega⟩
theorem Ip{fo fk fd:FE}{st:List ai}{q:Nat}{kvs:List (DK×W)}{z:W}(h1:fo ρ st=.ok (.loc n) st)(h2:fk ρ st=.ok (.int (q:Nat)) st)(h3:fd ρ st=.ok z st)(h:ga st (.loc n)=some (n,kvs)):rP fo fk fd ρ st=.ok ((iB kvs (.i q)).getD z) st:=by
 unfold rP
 rw[h1];simp only[R.bind_ok,h]
 rw[h2];simp only[R.bind_ok]
 rw[h3];simp only[R.bind_ok,h,ie]
theorem Tt(ns:List Int):dq (.ro (ns.map W.int)::qx tabL):=fun d hd c=>by
 simp only[qx,tabL,List.map,aJ,kR,or_false]at hd
 rcases hd with rfl|rfl|rfl<;>rfl
theorem JQ{l:List W}:dq [ai.lst l]:=tI (fun _=>rfl) wc
theorem law_ok:Dx (qx tabL) f_q29:=by
 intro ns FZ
 suffices hh:gD (qJ fun w bv=>w=.bl true) (JM ([W.loc 0].map some++List.replicate (18-1) none) (.ro (ns.map W.int)::qx tabL)) by
  obtain⟨w,bv,e,rfl⟩:=hh
  exact⟨_,qH e⟩
 have h0:(ai.ro (ns.map W.int)::qx tabL)[0]?=some (.ro (ns.map W.int)):=rfl
 have ht:(ai.ro (ns.map W.int)::qx tabL)[1]?=some MN:=rfl
 have NF:(ai.ro (ns.map W.int)::qx tabL)[2]?=some Ih:=rfl
 have Rk:=Tt ns
 generalize Si:(ai.ro (ns.map W.int)::qx tabL:List ai)=s0 at h0 ht NF Rk
 obtain⟨c0,e0⟩:=oJ h0 0
 obtain⟨gb,oU,hpd,_,e1⟩:=HG c0 2000003 6 (by omega) s0
 obtain⟨M,n,hM,hn1,yd,sX,hsz,_,ea⟩:=Mw h0 1 gb (by omega) (by omega)
 have hL:M.tb.length<=64:=by rw[hM.tb];exact be (gp (by omega) (show M.nm.length<=6 by omega)) (by decide)
 have sz:∀{k:Nat},k<=12->M.tb.length*(2*k)<=10000:=fun{k} hk=>be (Nat.mul_le_mul hL (show 2*k<=24 by omega)) (by decide)
 refine aG (bU (cL (ax kv (ax dN (ax (cL (ax (cL (ax kv (ax dN bB)) e0 rfl) (ax dN (ax dN bB))) e1 rfl) bB))) ea rfl)) ?_
 have g1:∀s:List ai,bJ M.w (.int 1) s=.ok (.tup (M.gd.map W.bl)) s:=fun _=>rfl
 have ln:∀s:List ai,cQ [.tup (M.gd.map W.bl)] s=.ok (.int (n:Nat)) s:=fun _=>by rw[lj,aj,hM.gd]
 refine aG (bU (bh (ax (bS kv dN (g1 _)) bB) (ln _))) ?_
 obtain⟨c2,e2'⟩:=oJ h0 10
 obtain⟨hs,hhl,_,e3⟩:=mF c2 4000037 30 (by omega) s0
 refine aG (bU (cL (ax (cL (ax kv (ax dN bB)) e2' rfl) (ax dN (ax dN bB))) e3 rfl)) ?_
 have cs1:(s0++[ai.lst (iL hs)])[s0.length]?=some (.lst (iL hs)):=bn
 obtain⟨d0,QO⟩:∃d,hs[0]?=some d:=⟨_,ac (by omega)⟩
 have i0:bJ (.loc s0.length) (.int 0) (s0++[ai.lst (iL hs)])=.ok (.int d0) (s0++[ai.lst (iL hs)]):=eV (i:=0) cs1 QO
 obtain⟨q,hq,eq⟩:=fN (q:=d0) (n:=4) (by omega)
 have mo:fM (.int d0) (.int 4) (s0++[ai.lst (iL hs)])=.ok (.int (q:Nat)) (s0++[ai.lst (iL hs)]):=by
  have:d0%4=(q:Int):=eq
  rw[<- this];exact lh (by decide)
 have sl:=At (st:=s0++[ai.lst (iL hs)]) (n:=s0.length) (l:=some 1) (h:=some 30) (aR cs1)
 rw[show(some (1:Int))=some ((1:Nat):Int)from rfl,show(some (30:Int))=some ((30:Nat):Int)from rfl,vM (by omega) (by omega)]at sl
 obtain⟨zs,hzl,hzm,hz0,eo⟩:=uE n q _ ((hs.drop 1).take (30-1)) (s0++[ai.lst (iL hs)]++[ai.lst (iL ((hs.drop 1).take (30-1)))]) hn1 (by omega) bn (by simp;omega)
 refine aG (bU (cL (ax kv (ax (bS (bS kv dN i0) dN mo) (ax (DZ kv (xn dN) (xn dN) sl) bB))) eo rfl)) ?_
 have h3:(s0++[ai.lst (iL hs)]++[ai.lst (iL ((hs.drop 1).take (30-1)))]++[ai.lst (nW zs)])[0]?=some (.ro (ns.map W.int)):=ay (ay (ay h0))
 have ht3:(s0++[ai.lst (iL hs)]++[ai.lst (iL ((hs.drop 1).take (30-1)))]++[ai.lst (nW zs)])[1]?=some MN:=ay (ay (ay ht))
 have ht23:(s0++[ai.lst (iL hs)]++[ai.lst (iL ((hs.drop 1).take (30-1)))]++[ai.lst (nW zs)])[2]?=some Ih:=ay (ay (ay NF))
 have np3:dq (s0++[ai.lst (iL hs)]++[ai.lst (iL ((hs.drop 1).take (30-1)))]++[ai.lst (nW zs)]):=eW (eW (eW Rk JQ) JQ) JQ
 have ow3:(s0++[ai.lst (iL hs)]++[ai.lst (iL ((hs.drop 1).take (30-1)))]++[ai.lst (nW zs)])[(s0++[ai.lst (iL hs)]++[ai.lst (iL ((hs.drop 1).take (30-1)))]).length]?=some (.lst (nW zs)):=bn
 generalize (s0++[ai.lst (iL hs)]++[ai.lst (iL ((hs.drop 1).take (30-1)))]).length=ow at ow3 ⊢
 generalize (s0++[ai.lst (iL hs)]++[ai.lst (iL ((hs.drop 1).take (30-1)))]++[ai.lst (nW zs)]:List ai)=S3 at h3 ht3 ht23 np3 ow3 ⊢
 obtain⟨j,x,ds,hdl,_,hxj,hxl,eb⟩:=sv h3 11 100 5000011 (by omega)
 obtain⟨M2,em2,Iy,hg2,ht2',ebl⟩:=uF M n (n+q) ow (S3.length+j) zs ds (S3++x) hM (by omega) (by omega) hzl hzm (ay ow3) (by rw[dh];exact hxj) (by omega) (by omega) (by omega)
 refine aG (bU (cL (ax kv (ax kv (ax (cL (ax kv (ax dN (ax dN (ax dN bB)))) eb rfl) bB))) ebl rfl)) ?_
 have h4:=ay (x:=x) h3
 have ht4:=ay (x:=x) ht3
 have ht24:=ay (x:=x) ht23
 have np4:=eW np3 (MQ hxl)
 have ow4:=ay (x:=x) ow3
 generalize S3++x=S4 at h4 ht4 ht24 np4 ow4 ⊢
 obtain⟨mt,y,npy,hmt,jd,em⟩:=FH (st:=S4) hM hn1 (by omega)
 refine aG (bU (cL kn em rfl)) ?_
 have hml:=hmt.len
 have hm0:0<mt.length:=by obtain⟨r,e⟩:=hmt.zero;rw[e];simp
 have cm:(S4++ai.lst (cu mt)::y)[S4.length]?=some (.lst (cu mt)):=by rw[cB];rfl
 have h5:=ay (x:=ai.lst (cu mt)::y) h4
 have ht5:=ay (x:=ai.lst (cu mt)::y) ht4
 have ht25:=ay (x:=ai.lst (cu mt)::y) ht24
 have np5:dq (S4++ai.lst (cu mt)::y):=eW np4 (tI (fun _=>rfl) npy)
 have ow5:=ay (x:=ai.lst (cu mt)::y) ow4
 generalize S4++ai.lst (cu mt)::y=S5 at cm h5 ht5 ht25 np5 ow5 ⊢
 obtain⟨c3,e4⟩:=oJ h5 14
 obtain⟨hs5,hl5,_,e5⟩:=mF c3 6000011 1 (by omega) S5
 obtain⟨d5,hd5⟩:∃d,hs5[0]?=some d:=⟨_,ac (by omega)⟩
 have i5:bJ (.loc S5.length) (.int 0) (S5++[ai.lst (hs5.map W.int)])=.ok (.int d5) (S5++[ai.lst (hs5.map W.int)]):=eV (i:=0) bn hd5
 obtain⟨q5,hq5,eq5⟩:=fN (q:=d5) (n:=mt.length) hm0
 obtain⟨r,hr⟩:∃r,mt[q5]?=some r:=⟨_,ac hq5⟩
 have cm6:=ay (x:=[ai.lst (hs5.map W.int)]) cm
 have lnm:=g8 (aR cm6)
 rw[aj]at lnm
 have mo5:fM (.int d5) (.int (mt.length:Nat)) (S5++[ai.lst (hs5.map W.int)])=.ok (.int (q5:Nat)) (S5++[ai.lst (hs5.map W.int)]):=by
  have:d5%(mt.length:Int)=(q5:Int):=eq5
  have pl:(0:Int)<(mt.length:Int):=by omega
  rw[<- this];exact lh pl
 have ir:bJ (.loc S4.length) (.int (q5:Nat)) (S5++[ai.lst (hs5.map W.int)])=.ok (.int (r:Nat)) (S5++[ai.lst (hs5.map W.int)]):=lR (aR cm6) (d6 (by rw[al,hr];rfl))
 refine aG (bU (bS kv (bS (bS (cL (ax (cL (ax kv (ax dN bB)) e4 rfl) (ax dN (ax dN bB))) e5 rfl) dN i5) (bh kn lnm) mo5) ir)) ?_
 have ht6:=ay (x:=[ai.lst (hs5.map W.int)]) ht5
 have ht26:=ay (x:=[ai.lst (hs5.map W.int)]) ht25
 have np6:=eW np5 (JQ (l:=hs5.map W.int))
 have ow6:=ay (x:=[ai.lst (hs5.map W.int)]) ow5
 generalize S5++[ai.lst (hs5.map W.int)]=S6 at ht6 ht26 np6 ow6 ⊢
 have ir1:br (ah (ag 2) aB) [lO 0,some M.w,iO (n:Nat),lO s0.length,lO ow,some M2.w,lO S4.length,iO (r:Nat),none,none,none,none,none,none,none,none,none,none] S6=.ok (bA 0 n,none) S6:=by
  have:=dD (fs:=ah (ag 2) aB) (ρ:=[lO 0,some M.w,iO (n:Nat),lO s0.length,lO ow,some M2.w,lO S4.length,iO (r:Nat),none,none,none,none,none,none,none,none,none,none]) (st:=S6) (q:=(n:Int)) kn (by omega)
  rw[aK]at this;exact this
 have e8:=f7 (cap:=[none,some 7,some 1]) (f:=eZ 0) (el:=e2 t_ (e2 bJ (e2 bJ (ag 2) (eI 1)) (ag 0)) (e2 nT (ag 0) (ag 1))) (fun w=>.bl (!(gM M (Gb w)==((Gb w:Int)==(r:Int))))) ir1 (by rw[bG];show _<=1000000;omega) trivial fun w hw=>by
  obtain⟨i,hi,rfl⟩:=vU hw
  have jS:i<M.gd.length:=by rw[hM.gd];exact hi
  have ig:bJ (.tup (M.gd.map W.bl)) (.int (i:Int)) S6=.ok (.bl (gM M i)) S6:=jt (d6 (by
   rw[al,ac jS]
   unfold gM;rw[az,ac jS];rfl))
  refine⟨_,rfl,bS (bS (bS kv dN (g1 _)) kv ig) (bS kv kv (oF rfl)) ?_⟩
  show t_ (.bl (gM M i)) (.bl ((i:Int)==(r:Int))) S6=.ok (.bl (!(gM M ((i:Int).toNat)==(((i:Int).toNat:Int)==(r:Int))))) S6
  rw[aK]
  cases gM M i<;>cases((i:Int)==(r:Int))<;>rfl
 have eg:(bA 0 n).map (fun w=>W.bl (!(gM M (Gb w)==((Gb w:Int)==(r:Int)))))=(wd M n r).gd.map W.bl:=by
  unfold wd
  rw[aL]
  exact oQ fun i=>rfl
 rw[eg]at e8
 refine aG (bU (iE (ax kx (ax (bh (ax e8 bB) (eK (aR bn))) (ax kx bB))) (by show 3<=1000000;decide))) ?_
 have ht7:=ay (x:=[ai.lst ((wd M n r).gd.map W.bl)]) ht6
 have ht27:=ay (x:=[ai.lst ((wd M n r).gd.map W.bl)]) ht26
 have np7:=eW np6 (JQ (l:=(wd M n r).gd.map W.bl))
 have ow7:=ay (x:=[ai.lst ((wd M n r).gd.map W.bl)]) ow6
 generalize S6++[ai.lst ((wd M n r).gd.map W.bl)]=S at ht7 ht27 np7 ow7 ⊢
 have hL2:M2.tb.length=M.tb.length:=by rw[Iy.tb,hM.tb,em2]
 obtain⟨E1,B1,h1,m1,uP,l1,el1⟩:=oR hM hn1 (by omega) (sz (by omega)) hL np7 ht7 ht27
 obtain⟨E2,B2,h2,m2,ph,l2,el2⟩:=oR Iy (by omega) (by omega) (by rw[hL2];exact sz (by omega)) (by omega) np7 ht7 ht27
 refine aG (bU (cL kn el1 rfl)) (aG (bU (cL kn el2 rfl)) ?_)
 have q2:zt M2 M (fs E2) (fs E1) (fun a a'=>a'=zs.getD a 0):=Ce Iy hzl hz0 hM hg2 ht2' em2 l2.rm.lt
 obtain⟨hB,hm,hq2⟩:=q2.one l2 l1
 have gn:∀s:List ai,bJ M.w (.int 0) s=.ok (.str M.nm) s:=fun _=>rfl
 have p1:=vW l1 (by omega) (by omega) S
 have p2:=vW l2 (by omega) (by rw[em2];omega) S
 rw[em2]at p2
 refine bN (dZ (gQ (a:=true) (cE (cL (ax kv (ax (bS kv dN (gn _)) bB)) p1 rfl)) rfl) (gQ (a:=true) (cE (cL (ax kv (ax (bS kv dN (gn _)) bB)) p2 rfl)) rfl)) (bV ?_)
 obtain⟨hmN,hm1⟩:=l1.m_le
 have a0:∀s:List ai,bJ (kc M E1 B1 h1 m1 uP) (.int 0) s=.ok (mB M E1 B1 h1 m1).w s:=fun _=>rfl
 have b0:∀s:List ai,bJ (kc M2 E2 B2 h2 m2 ph) (.int 0) s=.ok (mB M E1 B1 h1 m1).w s:=fun s=>by rw[<- hq2];rfl
 refine aG (bU (bS kv dN (a0 _))) ?_
 have hLB:(mB M E1 B1 h1 m1).tb.length<=64:=by rw[pS];exact hL
 have sm:=fun s=>xY l1.okB (by omega) hLB 35 s
 refine bN (gQ (a:=true) (cE (cL (ax (bS kv dN (b0 _)) kn) (sm _) rfl)) rfl) (bV ?_)
 refine aG (bU rfl) ?_
 have hnd1:uP.Nodup:=Fy l1.up
 have hrl1:uP.length<=9:=by rw[l1.perm.length_eq,aj];have:=l1.full.told.len;omega
 refine cU (k:=(uP.map fun a=>W.tup [.int (a:Nat),.int (B1 a:Nat)],none)) (fun i ρ s=>∃o13 o14,ρ=[lO 0,some M.w,iO (n:Nat),lO s0.length,lO ow,some M2.w,lO S4.length,iO (r:Nat),some (wd M n r).w,some (kc M E1 B1 h1 m1 uP),some (kc M2 E2 B2 h2 m2 ph),some (mB M E1 B1 h1 m1).w,lO S.length,o13,o14,none,none,none]/\s=S++[.dct (h9 B1 (uP.take i))]) (gG kx) ⟨_,_,rfl,rfl⟩ (fun _ _ _ _=>trivial) ?_ ?_
 ·rintro i w ρ s hw ⟨o13,o14,rfl,rfl⟩
  rw[al]at hw
  obtain⟨a,ha,rfl⟩:=aY.mp hw
  refine⟨_,rfl,_,_,mE kv kv kv (zq (V:=fun a=>W.int (B1 a:Nat)) hnd1 ha (by omega) bn),_,_,rfl,?_⟩
  rw[eN];rfl
 rintro ρ s ⟨o13,o14,rfl,rfl⟩
 rw[aj,gy]
 have td:(S++[ai.dct (h9 B1 uP)])[S.length]?=some (.dct (h9 B1 uP)):=bn
 have ht8:=ay (x:=[ai.dct (h9 B1 uP)]) ht7
 have ht28:=ay (x:=[ai.dct (h9 B1 uP)]) ht27
 have np8:dq (S++[ai.dct (h9 B1 uP)]):=eW np7 (tI (fun _=>rfl) wc)
 have ow8:=ay (x:=[ai.dct (h9 B1 uP)]) ow7
 generalize hTd:S.length=td' at td ⊢
 generalize S++[ai.dct (h9 B1 uP)]=S8 at td ht8 ht28 np8 ow8 ⊢
 obtain⟨mt2,y2,npy2,hmt2,hcl2,em2'⟩:=FH (st:=S8) Iy (by omega) (by omega)
 obtain⟨QN,hs',hp',hu'⟩:=JO hmt2.nd
 have hrs':Cb M2 (n+q) QN:=⟨hu',hp'.mem_iff.mpr (by obtain⟨r,e⟩:=hmt2.zero;rw[e];exact aN),fun a ha=>hmt2.lt a (hp'.mem_iff.mp ha),fun k hk a ha b hb=>hp'.mem_iff.mpr (hcl2 k hk a (hp'.mem_iff.mp ha) b (hp'.mem_iff.mp hb)),fun C c0 cc a ha=>hmt2.least C c0 cc a (hp'.mem_iff.mp ha)⟩
 obtain rfl:=l2.rso.one hrs'
 have hml2:=hmt2.len
 have hrl2:ph.length<=12:=by rw[l2.perm.length_eq,aj];have:=l2.full.told.len;omega
 have es:=AN (st:=S8++.lst (cu mt2)::y2) (n:=S8.length) (l:=mt2) (by rw[cB];rfl) (by omega) hs'
 have cs9:(S8++.lst (cu mt2)::y2++[ai.lst (cu ph)])[(S8++.lst (cu mt2)::y2).length]?=some (.lst (cu ph)):=bn
 have ow9:=ay (x:=[ai.lst (cu ph)]) (ay (x:=.lst (cu mt2)::y2) ow8)
 have td9:=ay (x:=[ai.lst (cu ph)]) (ay (x:=.lst (cu mt2)::y2) td)
 have e15:=f7 (cap:=[none,some 12,some 4]) (fi:=cK (bg lc (ah (de 1 uC (ah (ag 5) aB)) aB))) (f:=eZ 0) (el:=fH (ah (ag 0) (ah (rP (ag 1) (e2 bJ (ag 2) (ag 0)) (BA (eI 1))) aB))) (ρ:=[lO 0,some M.w,iO (n:Nat),lO s0.length,lO ow,some M2.w,lO S4.length,iO (r:Nat),some (wd M n r).w,some (kc M E1 B1 h1 m1 uP),some (kc M2 E2 B2 h2 m2 ph),some (mB M E1 B1 h1 m1).w,lO td',o13,o14,none,none,none]) (st:=S8) (fun w=>W.tup [w,.int (B2 (Gb w):Nat)]) (gs (bh (ax (cL kn em2' rfl) bB) es) (aR cs9)) (by rw[aj];show _<=1000000;omega) (aR cs9) fun w hw=>by
  obtain⟨a,ha,rfl⟩:=am.mp hw
  have haE:=l2.mem.mpr ha
  have haz:zs[a]?=some (zs.getD a 0):=by rw[az,ac (by rw[hzl];exact l2.rm.lt a haE)];rfl
  obtain⟨a',lT,za⟩:=q2.to l2 l1 a haE
  have hb:=hB a a' haE lT za
  subst za
  have gt:=jv (V:=fun a=>W.int (B1 a:Nat)) hnd1 (l1.mem.mp lT)
  refine⟨_,rfl,?_⟩
  show _=L2.R.ok (W.tup [.int (a:Nat),.int (B2 ((a:Nat):Int).toNat:Nat)]) _
  rw[aK,hb]
  have eg:=Ip (fo:=ag 1) (fk:=e2 bJ (ag 2) (ag 0)) (fd:=BA (eI 1)) (ρ:=[iO (a:Nat),lO td',lO ow]) (st:=S8++.lst (cu mt2)::y2++[ai.lst (cu ph)]) kv (bS kv kv (xK ow9 haz)) (IX dN) (fw td9)
  rw[gt]at eg
  exact iE (ax kv (ax eg bB)) (by show 2<=1000000;decide)
 have eq15:(cu ph).map (fun w=>W.tup [w,.int (B2 (Gb w):Nat)])=ph.map fun a=>W.tup [.int (a:Nat),.int (B2 a:Nat)]:=by
  unfold cu
  rw[aL]
  refine aZ fun a _=>?_
  show W.tup [.int (a:Nat),.int (B2 ((a:Nat):Int).toNat:Nat)]=_
  rw[aK]
 rw[eq15]at e15
 refine aG (bU (bh (ax e15 bB) (eK (aR bn)))) ?_
 have np9:=eW (eW (eW np8 (tI (a:=.lst (cu mt2)) (fun _=>rfl) npy2)) (JQ (l:=cu ph))) (JQ (l:=ph.map fun a=>W.tup [.int (a:Nat),.int (B2 a:Nat)]))
 have ht9:=ay (x:=[ai.lst (ph.map fun a=>W.tup [.int (a:Nat),.int (B2 a:Nat)])]) (ay (x:=[ai.lst (cu ph)]) (ay (x:=.lst (cu mt2)::y2) ht8))
 have ht29:=ay (x:=[ai.lst (ph.map fun a=>W.tup [.int (a:Nat),.int (B2 a:Nat)])]) (ay (x:=[ai.lst (cu ph)]) (ay (x:=.lst (cu mt2)::y2) ht28))
 generalize S8++.lst (cu mt2)::y2++[ai.lst (cu ph)]++[ai.lst (ph.map fun a=>W.tup [.int (a:Nat),.int (B2 a:Nat)])]=S9 at np9 ht9 ht29 ⊢
 have b1:∀s:List ai,bJ (kc M2 E2 B2 h2 m2 ph) (.int 1) s=.ok (mI B2 ph) s:=fun _=>rfl
 refine bN (gQ (a:=true) (cE (cL (ax (bS kv dN (b1 _)) kn) (xX B2 ph (by omega) 37 _) rfl)) rfl) (bV ?_)
 have mg1:∀s:List ai,bJ (mB M E1 B1 h1 m1).w (.int 1) s=.ok (.tup ((mB M E1 B1 h1 m1).gd.map W.bl)) s:=fun _=>rfl
 have mln:∀s:List ai,cQ [.tup ((mB M E1 B1 h1 m1).gd.map W.bl)] s=.ok (.int (m1:Nat)) s:=fun _=>by rw[lj,aj,l1.okB.gd]
 have ir2:∀ρ:bY,ρ[11]?=some (some (mB M E1 B1 h1 m1).w)->br (ah (bg cQ (ah (e2 bJ (ag 11) (eI 1)) aB)) aB) ρ S9=.ok (bA 0 m1,none) S9:=fun ρ hρ=>by
  have:=dD (fs:=ah (bg cQ (ah (e2 bJ (ag 11) (eI 1)) aB)) aB) (ρ:=ρ) (st:=S9) (q:=(m1:Int)) (ax (bh (ax (bS (gP hρ) dN (mg1 _)) bB) (mln _)) bB) (by omega)
  rw[aK]at this;exact this
 have e16:∀ρ:bY,ρ[11]?=some (some (mB M E1 B1 h1 m1).w)->dX [none] (br (ah (bg cQ (ah (e2 bJ (ag 11) (eI 1)) aB)) aB)) (eZ 0) iI (fH (ah (ag 0) (ah (ag 0) aB))) ρ S9=.ok (.loc S9.length) (S9++[.lst ((bA 0 m1).map fun w=>W.tup [w,w])]):=fun ρ hρ=>
  f7 (fun w=>W.tup [w,w]) (ir2 ρ hρ) (by rw[bG];show _<=1000000;omega) trivial fun w hw=>⟨_,rfl,iE (ax kv kn) (by show 2<=1000000;decide)⟩
 have eq16:W.tup ((bA 0 m1).map fun w=>W.tup [w,w])=mI (fun j=>j) (List.range m1):=by
  unfold mI
  exact cC W.tup (oQ fun i=>rfl)
 refine aG (bU (bh (ax (e16 _ rfl) bB) (eK (aR bn)))) ?_
 rw[eq16]
 have np10:=eW np9 (JQ (l:=(bA 0 m1).map fun w=>W.tup [w,w]))
 have ht10:=ay (x:=[ai.lst ((bA 0 m1).map fun w=>W.tup [w,w])]) ht9
 have ht210:=ay (x:=[ai.lst ((bA 0 m1).map fun w=>W.tup [w,w])]) ht29
 generalize S9++[ai.lst ((bA 0 m1).map fun w=>W.tup [w,w])]=S10 at np10 ht10 ht210 ⊢
 obtain⟨E3,B3,h3',m3,Rj,l3,el3⟩:=oR l1.okB hm1 (by omega) (by rw[pS];exact sz (by omega)) hLB np10 ht10 ht210
 rw[l1.twice l3]at el3
 have s3:gR 40 [.tup [(mB M E1 B1 h1 m1).w,mI (fun j=>j) (List.range m1)],.tup [(mB M E1 B1 h1 m1).w,mI (fun j=>j) (List.range m1)]] S10=.ok (.bl true) S10:=iF (k:=39) (by simp) fun w hw=>by
  rcases aJ.mp hw with rfl|hw
  ·exact xY l1.okB (by omega) hLB 34 S10
  ·rw[bd.mp hw];exact xX (fun j=>j) _ (by rw[dm];omega) 36 S10
 refine bN (gQ (a:=true) (cE (cL (ax (cL kn el3 rfl) (ax (iE (ws:=[(mB M E1 B1 h1 m1).w,mI (fun j=>j) (List.range m1)]) (ax kv kn) (by show 2<=1000000;decide)) bB)) s3 rfl)) rfl) (bV ?_)
 obtain⟨E4,B4,h4',m4,Sj,l4,el4⟩:=oR (MR (r:=r) hM) hn1 (by omega) (sz (by omega)) hL np10 ht10 ht210
 refine aG (bU (cL kn el4 rfl)) ?_
 have hrE:r∈fs E1:=hmt.least (· ∈ fs E1) l1.z (fun k hk a b ha hb=>l1.rm.cl k hk a ha b hb) r (ak hr)
 have p4:=vW l4 (by omega) (show(wd M n r).nm.length<=20 from be sX (by decide)) S10
 have gn4:bJ M.w (.int 0) S10=.ok (.str (wd M n r).nm) S10:=rfl
 have c40:bJ (kc (wd M n r) E4 B4 h4' m4 Sj) (.int 0) S10=.ok (mB (wd M n r) E4 B4 h4' m4).w S10:=rfl
 exact dC (oE (cL (ax kv (ax (bS kv dN gn4) bB)) p4 rfl) (bS (bS kv dN c40) kv (Qo (l1.three l4 hrE) S10))) ⟨_,_,rfl,rfl⟩
theorem all_mk{l:PySem.W.OpenLaw}{w:World}{fa:Addr}(X:K.In h)(G:h.Ns mainGlobals mg)(Tv:mg "law"=some (.ref fa))
  {FK zC zH:Addr} {Qr QW MV No Nb FR:Option Addr} {Qp MW Nr:Array (Option Value)} {QH QL Qs Qu QQ Nu Nc M5 Nf M_ Na FV FY FM zF F0:Value} {i8 jR:Addr}
  (zA:DefIn K "table_by" LW)
  (v0:DefIn K "pairs_with" LX)
  (zy:DefIn K "numbered" LY)
  (tL:DefIn K "good_blocks" LZ)
  (zB:DefIn K "views_of" L0)
  (sN:DefIn K "split_blocks" L3)
  (zJ:DefIn K "put_ways" L4)
  (tN:DefIn K "last_blocks" L5)
  (zD:DefIn K "heads_of" L6)
  (yf:DefIn K "_law_fits" D7)
  (v_:DefIn K "_law_mixed" D9)
  (v8:DefIn K "_law_draws" Ea)
  (yi:DefIn K "_law_cell" Ed)
  (v7:DefIn K "_law_shape" Ef)
  (v5:DefIn K "_law_names" Eh)
  (tM:DefIn K "_law_blocks" Ej)
  (v9:DefIn K "_law_grown" El)
  (tO:DefIn K "_law_graded" En)
  (sM:DefIn K "_law_spotted" Ep)
  (vZ:DefIn K "_law_blown" Es)
  (v6:DefIn K "_law_owner" Eu)
  (sQ:DefIn K "_law_machine" Ew)
  (zE:DefIn K "_law_any" Ey)
  (x_:DefIn K "_law_pool" EA)
  (zw:DefIn K "_law_met" EC)
  (x9:DefIn K "_law_same" EE)
  (yb:DefIn K "_law_pair" EH)
  (Sl:nsIn K mainGlobals "firsts_of"=some (some (.ref FK)))
  (Sy:K.lookup FK=some ⟨QH,Qr,.func (fnOf "firsts_of" "firsts_of" (dA BR) (dB BR) (aV BR) .none QL Qs Qu QW (.ref i8) QQ),Qp⟩)
  (FL:codeIn K (.ref i8) "firsts_of"=true)
  (Sb:keepIn K (.ref FK)=true)
  (tc_firsts_of:codeHdIn K i8 59=true)
  (tk_firsts_of:K.lookup 59=none)
  (QY:nsIn K mainGlobals "least_of"=some (some (.ref zC)))
  (Qq:K.lookup zC=some ⟨Nu,MV,.func (fnOf "least_of" "least_of" (dA sf) (dB sf) (aV sf) .none Nc M5 Nf No (.ref jR) M_),MW⟩)
  (Cn:codeIn K (.ref jR) "least_of"=true)
  (QC:keepIn K (.ref zC)=true)
  (tc_least_of:codeHdIn K jR 80=true)
  (tk_least_of:K.lookup 80=none)
  (JT:nsIn K mainGlobals "law"=some (some (.ref zH)))
  (QV:K.lookup zH=some ⟨Na,Nb,.func (fnOf "law" "law" (dA oH) (dB oH) (aV oH) .none FV FY FM FR zF F0),Nr⟩)
  (Cf:codeIn K zF "law"=true)
  (Qz:keepIn K (.ref zH)=true)
  (MU:nsIn K mainGlobals "bool"=some none)
  (xZ:nsIn K mainGlobals "enumerate"=some none)
  (QK:nsIn K mainGlobals "int"=some none)
  (vY:nsIn K mainGlobals "isinstance"=some none)
  (QD:nsIn K mainGlobals "len"=some none)
  (Nd:nsIn K mainGlobals "list"=some none)
  (QZ:nsIn K mainGlobals "max"=some none)
  (QR:nsIn K mainGlobals "min"=some none)
  (IA:nsIn K mainGlobals "range"=some none)
  (F3:nsIn K mainGlobals "sorted"=some none)
  (Qx:nsIn K mainGlobals "str"=some none)
  (IC:nsIn K mainGlobals "tuple"=some none) :
  ∃fd:FuncData,(∀(s:Shared) (v:Value),BindsTo s fd ⟨[v],[]⟩ [("_law_script",v)])/\∀base:Heap,K.In base->base.Ns mainGlobals mg->qw base mg->e_ l.prog w K mg base (ji l.prog w) 41 fa fd EJ (kT K mg 1 f_q29):=by
 have e:=Tv.symm.trans (mg_of X G JT)
 cases e
 have F_q7:=uY (st:=BR) Sy FL Sb
 have m_q7:=mg_of X G Sl
 have F_q10:=uY (st:=sf) Qq Cn QC
 have m_q10:=mg_of X G QY
 obtain⟨_,_,uQ,x6⟩:=x9.fn X G
 have F_q29:=uY (st:=oH) QV Cf Qz
 have m_q29:=mg_of X G JT
 have B:Bl mg:=⟨mg_none_of X G MU,mg_none_of X G xZ,mg_none_of X G QK,mg_none_of X G vY,mg_none_of X G QD,mg_none_of X G Nd,mg_none_of X G QZ,mg_none_of X G QR,mg_none_of X G IA,mg_none_of X G F3,mg_none_of X G Qx,mg_none_of X G IC⟩
 refine⟨fnOf "law" "law" (dA oH) (dB oH) (aV oH) .none FV FY FM FR zF F0,fun s v=>.of_eq rfl,fun base _ _ Bk=>?_⟩
 have qd:=@Ly l.prog w K mg base
 have io:=ng (P:=l.prog) (w:=w) (K:=K) (mg:=mg) (base:=base)  
 have Nm:=qd zA X G fun F=>PM F B io 
 have Qy:=qd v0 X G fun F=>PP F B  
 have Iu:=qd zy X G fun F=>PR F B  
 have Np:=qd tL X G fun F=>PV F   Iu
 have Ir:=qd zB X G fun F=>PZ F B  
 have Iz:=qd sN X G fun F=>P1 F   Iu
 have Iw:=qd zJ X G fun F=>P3 F B  Qy
 have Nl:dS l.prog w K mg base 3 "firsts_of" 1 BW:=DG F_q7 m_q7 (P5 F_q7 ⟨i8,rfl,tc_firsts_of,tk_firsts_of⟩ Bk B  Iw)
 have Nq:=qd tN X G fun F=>P7 F   Np Iz Ir
 have M6:=qd zD X G fun F=>P9 F B  
 have JR:dS l.prog w K mg base 4 "least_of" 1 qh:=DG F_q10 m_q10 (L7 F_q10 ⟨jR,rfl,tc_least_of,tk_least_of⟩ Bk B  Nl M6 Nq Nm)
 have J5:=qd yf X G fun F=>L8 F B  
 have JW:=qd v_ X G fun F=>L9 F   
 have qj:=qd v8 X G fun F=>L_ F B  JW
 have uO:=qd yi X G fun F=>L' F B  
 have J6:=qd v7 X G fun F=>Ma F   
 have J4:=qd v5 X G fun F=>Mb F B  
 have AT:=qd tM X G fun F=>Md F B  uO qj
 have J0:=qd v9 X G fun F=>Me F B  
 have JS:=qd tO X G fun F=>Mf F B  J0
 have JY:=qd sM X G fun F=>Mg F B  
 have AV:=qd vZ X G fun F=>Mh F B  
 have AU:=qd v6 X G fun F=>Mi F B  
 have J3:=qd sQ X G fun F=>Mj F B  
 have JV:=qd zE X G fun F=>Mk F   AT AV uO qj JS J3 J4 AU J6 JY
 have JZ:=qd x_ X G fun F=>Ml F B  qj
 have JU:=qd zw X G fun F=>Mm F B  
 have FX:=AF (P:=l.prog) (w:=w) (base:=base) uQ x6 B  40
 have J2:=qd yb X G fun F=>Mn F B  J5
 exact Mo F_q29 B  JV AT AV uO qj JU AU J2 JZ FX JR
end P
end
namespace PySem.W.Fast
def tw13309705406324056574:=0
def tw5585223504834156019:=0
def tw12864878611137713361:=0
def tw1921799479139860141:=0
def tw12081844161412898317:=0
def tw5819850790253386059:=0
def tw17503368687418798251:=0
def tw8329459532671681574:=0
def tw7095277000628078530:=0
def tw13186582735408301250:=0
def tw965614877152566945:=0
def tw14640242604863042586:=0
def tw2006882979183538639:=0
def tw8676688141528918583:=0
def tw2517131558469328109:=0
def tw16902783167487722189:=0
def tw5534143584788679660:=0
def tw12633521762131536553:=0
def tw17302203934338647424:=0
def tw10643396597267010980:=0
def tw4415498754931183310:=0
def tw3884860241016070667:=0
def tw5494558129452874405:=0
def tw1674446928633790276:=0
def tw5438364247127057017:=0
def tw12207280571242013039:=0
def tw6777263917998377954:=0
def tw16678647181763601800:=0
def tw11138938088164069111:=0
def tw5825052787328853541:=0
def tw8006691035223512802:=0
def tw11994391577720029039:=0
def tw12384293272489555447:=0
def tw1083197374872787079:=0
def tw17535521644550847555:=0
def tw8298257103876352904:=0
def tw10986538796696573399:=0
def tw5590165384993735743:=0
def tw6765969243929985794:=0
def tw5533098084815230205:=0
def tw9131860040654911324:=0
def tw5510353543300862390:=0
def tw6956751938247238591:=0
def tw4513525393199526452:=0
def tw14979941436882602631:=0
def tw10522361352337057482:=0
def tw4255621181408098563:=0
def tw14048519288892666209:=0
def tw12252309815358392227:=0
def tw1740349102812070374:=0
def tw16432114981464949478:=0
def tw14834692001867008398:=0
def tw15870554103979765811:=0
def tw5172411602822739519:=0
def tw14138401642462327919:=0
def tw11017599828430348232:=0
def tw15666070089045844599:=0
def tw15295498890754815294:=0
def tw4948859677534797755:=0
def tw759852281727672343:=0
def tw6978421157446333543:=0
def tw15487653917620270730:=0
def tw1134880747811593176:=0
def tw3062326498524483176:=0
def tw18184605962371892931:=0
def tw6308789531404389253:=0
def tw13658321756224861822:=0
def tw8825012813725255358:=0
def tw2882403372948426160:=0
def tw5563728898595973675:=0
def tw3325806338498732960:=0
def tw6083364349846786660:=0
def tw9478245421777368435:=0
def tw15793300459445423897:=0
def tw18371279480546981255:=0
def tw17649049593401631432:=0
def tw7278989704332197011:=0
def tw10062688723124552222:=0
def tw18359881932883745490:=0
def tw2286057943541822273:=0
def tw11978573892184718441:=0
def tw3805768163063627132:=0
def tw2459614511428137521:=0
def tw1919877635927951834:=0
def tw1584219507612580506:=0
def tw352582677778106360:=0
def tw12954591568503685617:=0
def tw15100753958297892210:=0
def tw11425057039013971684:=0
def tw4795163475650439449:=0
def tw3101940232424527937:=0
def tw11607624013305117488:=0
def tw14161009400576897111:=0
def tw16568107250000773339:=0
def tw8063265671286570235:=0
def tw4969683230065471836:=0
def tw16925247464453165984:=0
def tw1055079180882347181:=0
def tw17429883503803448774:=0
def tw3191459803450174834:=0
def tw10637611468732612956:=0
def tw9825525397480322734:=0
def tw17587504627670801804:=0
def tw825039148148031470:=0
def tw15175733587811111836:=0
def tw6954689359659296745:=0
def tw12925178561790861728:=0
def tw17904472733082528077:=0
def tw13278091926019103534:=0
def tw3749408736460014882:=0
def tw16860482246226130690:=0
def tw14632032833931718239:=0
def tw8425383476866599395:=0
def tw17671028627727988011:=0
def tw12836924219182960195:=0
def tw15256785334348920088:=0
def tw2937258169067516781:=0
def tw11614653329382097226:=0
def tw714838318267873759:=0
def tw5781666585569862303:=0
def tw9139108016661957896:=0
def tw3144164378825466324:=0
def tw14209223313799321247:=0
def tw659413406133126971:=0
def tw8400575775646946328:=0
def tw16639029303107531579:=0
def tw17329636295467131763:=0
def tw17885407775903548927:=0
def tw18307955295524484779:=0
def tw12013659574906069086:=0
def tw13319034660842155237:=0
def tw9967803424628018744:=0
def tw9939224314767783706:=0
def tw886842660466158584:=0
def tw8816445470346557965:=0
def tw8646526843221724348:=0
def tw8467027790361145733:=0
def tw7819905569598152930:=0
def tw7608807412133931383:=0
def tw7248636679172420813:=0
def tw665162613044502253:=0
def tw6565361870674103699:=0
def tw6438610001631415086:=0
def tw6423635155566881014:=0
def tw6146353757544842288:=0
def tw5682052547977310917:=0
def tw5605075845856764468:=0
def tw5589195460214981497:=0
def tw5526905629146190095:=0
def tw4854127275393934139:=0
def tw412224727455409711:=0
def tw3297788180292021737:=0
def tw3098095366534432278:=0
def tw2853398562923128276:=0
def tw2755740673663101795:=0
def tw18340705224673698228:=0
def tw17963373522590515952:=0
def tw17855387556613914621:=0
def tw16957338978268998638:=0
def tw15267185137994752000:=0
def tw15147825807218901615:=0
def tw14848761778861487422:=0
def tw14372834898385734978:=0
def tw1419742027531820988:=0
def tw13922113513658744214:=0
def tw13496938591897151414:=0
def tw1331410898480155077:=0
def tw13295316301935231237:=0
def tw13057130136442302712:=0
def tw12950917625168529842:=0
def tw12619288383163830541:=0
def tw12282106741556604779:=0
def tw12044050096662170979:=0
def tw11873107086888617736:=0
def tw11794283501040765198:=0
def tw11788285512050182033:=0
def tw11396941925083243611:=0
def tw1115015954484167953:=0
def tw10962938754534434952:=0
def tw1047064650266523252:=0
def tw10198168951346992638:=0
def tw10040653034708977334:=0
end PySem.W.Fast
open PySem PySem.W PyProof.Rows
set_option maxRecDepth 100000 in
set_option maxHeartbeats 0 in
theorem PySem.Challenge.cw_trunksay_k26_least_is_one_value_holds : PySem.Challenge.rw_trunksay_k26_least_is_one_value.Holds := by
 w_on; o_law; k_head; (case hw => w_witness2)
 k_fill
 refine L2.walkT (l := PySem.Challenge.rw_trunksay_k26_least_is_one_value) (k := 41) (x := "_law_script") (G := P.f_q29) P.tabL (by decide) rfl rfl ⟨rfl, by decide, by decide⟩ (fun w h Y => PySem.W.km_in_of Y) (fun w h Y T hT => PySem.W.km_tabs_of Y T hT) (fun w T hT => ?KT) (fun w T hT => ?CT) ?F P.law_ok
 case KT =>
  simp only [P.tabL, aC, dk, aJ, kR, or_false] at hT
  rcases hT with rfl | rfl
  ·kernel_rfl
  ·kernel_rfl
 case CT =>
  simp only [P.tabL, aC, dk, aJ, kR, or_false] at hT
  rcases hT with rfl | rfl
  ·exact ⟨63, by kernel_rfl⟩
  ·exact ⟨82, by kernel_rfl⟩
 case F =>
  intro w mg fa h KX G hmg
  refine' P.all_mk KX G hmg ?_ ?_ ?_ ?_ ?_ ?_ ?_ ?_ ?_ ?_ ?_ ?_ ?_ ?_ ?_ ?_ ?_ ?_ ?_ ?_ ?_ ?_ ?_ ?_ ?_ ?_ ?_ ?_ ?_ ?_ ?_ ?tc_firsts_of ?tk_firsts_of ?_ ?_ ?_ ?_ ?tc_least_of ?tk_least_of ?_ ?_ ?_ ?_ ?_ ?_ ?_ ?_ ?_ ?_ ?_ ?_ ?_ ?_ ?_ ?_
  any_goals (refine' L2.DefIn.mk ?a ?l ?c ?k; (case a => k_is); (case l => k_is); (case c => k_is); (case k => k_is))
  any_goals k_is
  (case tc_firsts_of => kernel_rfl)
  (case tk_firsts_of => kernel_rfl)
  (case tc_least_of => kernel_rfl)
  (case tk_least_of => kernel_rfl)
