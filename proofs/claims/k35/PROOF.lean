import PyProof.Rows.All
import Wide.All
import OpenK.AllK
import Wide.FinOn
import Lean
import PyProof.EqAt
import PyProof.EqKinds
import PyProof.TupleCall
import PyProof.StrLawsIn
import PyProof.StationsW
import PyProof.NeData
import OpenK.KOwn
import PyProof.NsDelKeeps
import PyProof.ExcArgsOwn
import PyProof.ExcAttrAll.ValueError
import PyProof.IsiH_tuple
import KE.KIsAll
import PyProof.CollectStr
import PyProof.ZipIter
import PyProof.Rows.ZipGen
import PyProof.JoinWalk
import PyProof.CollectIter
import PyProof.EnumMake
import PyProof.SumAny
import PyProof.DictTruth
import KE.KDictList
import KE.KNest
import KE.KEqDict
import PyProof.ListRange
import KE.KEqSeq
import PyProof.Rows.SetFrom
import PyProof.ListMulRoad
import PyProof.AttrMissHeap
import PyProof.ListNew
import PySem.Challenge.RW_trunksay_k35_looker_right
set_option Elab.async false
set_option linter.all false
set_option genSizeOf false
set_option maxRecDepth 100000
def aa:=@PySem.wpAny_bind
def ac:=@List.prefix_refl
def ae:=@PySem.wpAny_pure
def ag:=@List.prefix_append
def aj:=@PySem.Heap.get?_push_of_some
def ak:=@List.getElem?_map
def am:=@List.length_map
def ao:=@List.getElem?_eq_some_iff
def aq:=@PySem.Heap.get?_push_size
def ar:=@List.getElem?_eq_getElem
def au:=@Nat.le_refl
def av:=@if_pos
def ax:=@PySem.Heap.lt_size
def ay:=@Nat.le_of_ble_eq_true
def az:=@if_neg
def aB:=@Int.toNat_natCast
def aC:=@List.getD_eq_getElem?_getD
def aD:=@List.mem_cons_of_mem
def aF:=@List.length_append
def aG:=@List.mem_cons
def aH:=@decide_eq_false
def aI:=@List.map_cons
def aJ:=@List.mem_map
def aK:=@Nat.lt_of_lt_of_le
def aM:=@List.map_map
def aN:=@Nat.ne_of_lt
def aO:=@List.size_toArray
def aS:=@List.mem_cons_self
def aV:=@decide_eq_true
def aX:=@List.mem_append_right
def aY:=@List.mem_of_getElem?
def a8:=@List.append_assoc
def a9:=@Option.some.inj
def a_:=@List.getElem?_append_left
def ba:=@List.mem_singleton
def bc:=@List.length_take
def bd:=@Nat.le_trans
def be:=@Option.map_eq_some_iff
def bf:=@List.getElem?_range
def bg:=@PySem.Heap.size_push
def bp:=@PySem.wpAny_call_entry
def br:=@List.mem_append
def bt:=@PySem.wpAny_callSpecial?_slot
def bv:=@PySem.wpAny_setField_rec
def bw:=@List.getElem?_append_right
def bx:=@beq_eq_false_iff_ne
def bA:=@Bool.and_eq_true
def bB:=@PySem.wpAny_seqItems
def bC:=@PySem.wpAny_loadPart'
def bF:=@List.nodup_cons
def bG:=@List.map_append
def bI:=@List.mem_range
def bJ:=@PySem.wpAny_newObj_type
def bK:=@Bool.false_ne_true
def bM:=@List.pairwise_cons
def bO:=@List.map_congr_left
def bP:=@List.getElem?_set_self
def bS:=@PySem.wpAny_field
def bZ:=@Bool.false_eq_true
def b0:=@List.replicate_succ
def ce:=@List.find?_cons
def cq:=@List.getElem?_eq_none
def cu:=@Int.zero_add
def cw:=@Nat.lt_irrefl
def cx:=@PySem.wpAny_holding
def cB:=@List.getElem?_set_ne
def cI:=@List.getElem?_take_of_lt
def cJ:=@List.length_drop
def cK:=@List.length_cons
def cL:=@List.not_mem_nil
def cM:=@PyProof.Rows.callWith_type1
def cN:=@List.flatten_cons
def cQ:=@Nat.zero_le
def cR:=@PySem.Around.under_plainId
def cS:=@decide_eq_true_iff
def cU:=@Nat.pow_le_pow_right
def cV:=@Nat.mul_le_mul
def cW:=@List.append_nil
def cX:=@Int.natCast_mul
def cZ:=@List.drop_eq_getElem_cons
def da:=@Array.length_toList
def db:=@Nat.lt_succ_of_lt
def de:=@PySem.Heap.get?_update_self
def dk:=@List.nil_append
def dm:=@Int.natCast_add
def dw:=@PySem.wpAny_Call_Name_kw
def dy:=@List.lookup_append
def dz:=@List.getElem?_replicate
def dB:=@PySem.wpAny_isInstance
def dH:=@Nat.le_of_lt
def dJ:=@PySem.wpAny_mono
def dL:=@PySem.wpAny_truthy_bool
def dM:=@PySem.Heap.get?_update_other
def dN:=@PySem.isSubtype_type
def dO:=@List.filterMap_cons
def dP:=@PySem.Heap.SameBut.update
def dX:=@PySem.codeAny_builtin
def dY:=@PyProof.Rows.slot_tuple_getitem
def d7:=@List.lookup_cons
def d8:=@Nat.lt_succ_self
def d_:=@List.getElem_mem
def eB:=@Nat.ne_of_gt
def eD:=@Bool.not_true
def eE:=@PySem.wpAny_onRaise
def eL:=@if_false
def eN:=@List.eq_nil_of_length_eq_zero
def eR:=@List.mem_filter
def eS:=@List.range_succ
def eU:=@PySem.F.slot_zip_next
def eV:=@PyProof.Rows.boot_tuple
def eY:=@congrArg
def eZ:=@List.length_reverse
def e_:=@PyProof.Rows.F.plain_set_update_loop
def fg:=@Nat.add_left_cancel
def fy:=@List.take_of_length_le
def fD:=@PySem.wpAny_attempt
def fE:=@List.all_eq_true
def fH:=@PySem.wpAny_pyIter_tuple
def fI:=@Nat.lt_of_le_of_lt
def fJ:=@PySem.F.slot_tuple_iterator_next
def fK:=@PySem.wpAny_rule
def fL:=@List.length_singleton
def fQ:=@Nat.add_mul_mod_self_left
def fS:=@PySem.wpAny_passesOwn
def fT:=@List.forIn_cons
def fX:=@List.mem_append_left
def fY:=@Nat.add_zero
def fZ:=@Bool.not_eq_true'
def f6:=@PySem.wpAny_setState_of
def f7:=@List.nodup_append
def ga:=@PySem.plainId_quiet
def gb:=@Bool.and_true
def gf:=@PySem.wpAny_setEntries_of
def gq:=@PySem.wpAny_pyIter_zip
def gz:=@PySem.wpAny_typeNameOfWhole_keyiter
def gF:=@if_true
def gG:=@Nat.mul_comm
def gH:=@PySem.codeAny_mono
def gI:=@Nat.not_lt
def gJ:=@beq_iff_eq
def gK:=@List.drop_of_length_le
def gN:=@Nat.pow_succ
def gQ:=@List.of_mem_zip
def gR:=@List.length_nil
def gT:=@PySem.wpAny_specialOf
def gW:=@PySem.builtinLookup_eq_fast
def gX:=@Array.getElem?_toList
def hU:=@List.ext_getElem?
def hV:=@List.reverse_cons
def ij:=@PySem.call_meets
def ik:=@List.nodup_nil
def im:=@List.Perm.refl
def io:=@Nat.mod_lt
def ip:=@PySem.wpAny_letGo
def iA:=@PySem.wpAny_execs_cons
def iB:=@PySem.wpAny_typeOf
def iC:=@List.map_nil
def iD:=@List.take_length
def iE:=@Nat.mod_eq_of_lt
def iG:=@PySem.wpAny_letOwnedTupleGo_zip
def iJ:=@PyProof.Rows.F.entry_set_update_loop
def iQ:=@or_false
def iW:=@Int.emod_nonneg
def iZ:=@PySem.Calls.spliced_cons
def i3:=@PySem.Obj.data_mapFields
def i8:=@Nat.le_succ
def jm:=@PySem.wpAny_pyIter_list
def jn:=@PySem.Calls.spliced_nil
def jo:=@List.range_succ_eq_map
def jp:=@Nat.lt_or_ge
def jq:=@PySem.wpAny_fieldsOf
def jr:=@PySem.isSubtype_stop
def jt:=@Nat.lt_of_succ_lt_succ
def ju:=@List.length_pos_of_mem
def jv:=@PySem.F.args_zip_next_1
def jw:=@PySem.boot_len
def jB:=@PySem.codeAny_call_function
def jC:=@List.getElem?_reverse
def jD:=@PySem.isSubtype_tuple_tuple
def jE:=@List.length_filter_le
def jF:=@List.take_append_drop
def jL:=@PyProof.Rows.callWith_builtin1
def jM:=@LawfulBEq.eq_of_beq
def jN:=@Array.eq_empty_of_size_eq_zero
def jO:=@List.zipIdx_cons
def jP:=@PySem.F.entry_zip_next
def jQ:=@PySem.wpAny_forIn_list
def jR:=@List.getElem_map
def jS:=@Int.natCast_emod
def j_:=@PySem.sizeLine_eq
def j':=@List.map_id
def kb:=@PySem.wpAny_updateSeq_pair
def kc:=@List.getElem?_of_mem
def ke:=@Nat.mul_one
def ko:=@PySem.wpAny_execs_nil
def kq:=@PySem.F.slot_int_rmul
def kr:=@PySem.pushCells_keeps
def kt:=@PySem.F.args_tuple_iterator_next_1
def ku:=@PySem.typeLookup_type
def kw:=@PySem.wpAny_updateSeq
def kx:=@Nat.not_lt_zero
def kA:=@List.zipIdx_nil
def kB:=@PySem.F.slot_dict_keyiterator_next
def kF:=@PySem.Value.isStrOf_shape
def kG:=@List.getElem_of_mem
def kM:=@PySem.F.entry_tuple_iterator_next
def kN:=@Array.getD_eq_getD_getElem?
def kO:=@Nat.sub_self
def lq:=@PySem.wpAny_Constant_int
def lr:=@PySem.Calls.Name_function_global
def lu:=@List.mem_filterMap
def lw:=@Int.fdiv_eq_ediv_of_nonneg
def lx:=@PySem.wpAny_newFunctionEnv_cells
def ly:=@PySem.wpAny_setField
def lz:=@Bool.not_false
def lA:=@List.forIn_nil
def lB:=@PySem.wpAny_tupleItemsOf
def lD:=@Array.forIn_toList
def lE:=@Int.emod_lt_of_pos
def lH:=@PySem.wpAny_binaryOp_repeat_ref
def lI:=@List.findIdx?_eq_none_iff
def lJ:=@Array.getElem?_eq_getElem
def lK:=@PySem.Calls.call_function_entry
def lT:=@List.any_eq_false
def lU:=@List.take_sublist
def lV:=@List.length_range
def lW:=@PySem.wpAny_of_eq
def lX:=@PySem.wpAny_pyIter_slot
def lY:=@Function.comp_def
def lZ:=@PySem.Heap.get?_push_ne
def l6:=@List.pairwise_map
def mi:=@PySem.evalPart_none
def mj:=@PySem.wpAny_getItem_list_slice
def ml:=@List.length_erase_of_mem
def mo:=@List.sum_cons
def mJ:=@PySem.noFill_tuple_add
def mK:=@beq_self_eq_true
def mL:=@PySem.wpAny_getItem_str_slice
def mM:=@PySem.wpAny_askSetting
def mO:=@List.length_eq_zero_iff
def mP:=@List.getElem?_cons_succ
def mQ:=@Int.eq_ofNat_of_zero_le
def mR:=@List.filter_cons_of_pos
def mS:=@List.filter_cons_of_neg
def mT:=@Nat.div_eq_of_lt
def nu:=@PySem.wpAny_pyNext_list_item
def nv:=@PyProof.Rows.Subscript_
def nw:=@PyProof.Rows.subscriptTail_builtinR
def ny:=@PySem.typeIs_str
def nz:=@PySem.typeIs_int
def nA:=@Nat.lt_trans
def nC:=@List.drop_eq_nil_of_le
def nD:=@PySem.wpAny_call
def nE:=@PySem.wpAny_nextOf_list_item
def nF:=@Nat.zero_add
def nP:=@List.foldl_cons
def nQ:=@Bool.or_eq_true
def nR:=@PySem.codeAny_of_tree
def nS:=@PySem.wpAny_ite_split
def nV:=@PySem.wpAny_pyNext_list_end
def nX:=@List.length_replicate
def nY:=@List.filterMap_append
def nZ:=@PySem.Obj.isFreed_of_fields
def n6:=@List.Perm.append_left
def n_:=@PySem.wpAny_notOrdered_dict
def og:=@PySem.wpAny_isOneOf_keyiter
def oh:=@List.set_append_right
def oi:=@List.pairwise_reverse
def oN:=@PySem.wpAny_newTuple
def pI:=@PySem.wpAny_standAt
def pJ:=@PySem.seq_tuple_add
def pK:=@List.any_cons
def pL:=@PySem.wpAny_handled
def pM:=@PySem.SeqAt.str_beq
def pN:=@List.map_take
def qV:=@PySem.name_of_addr
def qW:=@PySem.codeAny_func
def qX:=@PySem.concat_meets
def qY:=@Nat.succ_mul
def qZ:=@dif_pos
def q9:=@Int.mul_comm
def rZ:=@PySem.putSet_of
def r9:=@PyProof.Rows.boot_bool
set_option compiler.extract_closed false
noncomputable section
variable{us its:List PySem.Value}{a b it C S:PySem.Addr}{o:PySem.Obj}{P prog:PySem.Program}{h h' base:PySem.Heap}{α β:Type}{af:List (PySem.Addr×PySem.Obj)}{s:PySem.Shared}{g':Array PySem.GenState}{t' N i j n m ep kk q:Nat}{ch fp μ μ':List PySem.Addr}{x name cD:PySem.Str}{M:PySem.Model}{A:PySem.Around}{E Q Qv Q₁:PySem.Value->PySem.Shared->Prop}{u:PySem.Value}{e c tg b9 km:PySem.Expr}{pos p kL p2 gp:PySem.Pos}{K:PySem.W.Frag}{es jb oM:List PySem.Expr}{g:PySem.Value->PySem.Value->PySem.Sem PySem.Value}{body:List PySem.Stmt}{op:PySem.CmpOp}{mA mg:PySem.Str->Option PySem.Value}{fd:PySem.FuncData}{ps nm:List PySem.Str}{ks ls rows mt:List (List Nat)}{kindOf:PySem.Str->Option PySem.NameKind}{sc scope:PySem.Scope}{T:String}{l own:List Nat}{XP:(PySem.Str->Option PySem.Value)->PySem.Heap->Prop}{YP:PySem.World->PySem.Heap->Prop}{env:PySem.Env}{cl:List (PySem.Str×PySem.Addr)}{cap:List (Option Nat)}{use:Option (PySem.Value->PySem.Sem Unit)}{φ:PySem.Heap->Prop}{tj:PySem.Obj->Prop}
open PySem.W (Frag)
open PySem.W (hideAll kia_one fnOf codeIn keepIn excIn codeHdIn nsIn mg_of fnMade mg_none_of)
namespace L2
open PySem PySem.Spec PyProof.Rows
abbrev i9:=Sum Int Str
def vj:i9->Value->Bool
 |.inl k,v=>Value.isInt k v
 |.inr x,v=>Value.isStrOf x v
def Tb(w:World):i9->Int
 |.inl k=>hashInt k
 |.inr x=>hashStr w x
theorem fU:∀{k:i9} {v:Value},vj k v=true->(∃i t,k=Sum.inl i/\v=Value.int i t)\/(∃x t,k=Sum.inr x/\v=Value.str x t)
 |.inl i,v,h=>by
  obtain⟨t,e⟩:=Value.isInt_shape (k:=i) (v:=v) h
  exact .inl ⟨i,t,rfl,e⟩
 |.inr x,v,h=>by
  obtain⟨t,e⟩:=kF (x:=x) (v:=v) h
  exact .inr ⟨x,t,rfl,e⟩
theorem Cn(i:Int)(t:Tok):vj (.inl i) (.int i t)=true:=by simp[vj,Value.isInt]
theorem Co(x:Str)(t:Tok):vj (.inr x) (.str x t)=true:=by simp[vj,Value.isStrOf]
theorem Mg(a b:Int):decide ((Sum.inl a:i9)=Sum.inl b)=(a==b):=by
 by_cases e:a=b
 ·subst e;simp
 ·have h:¬ (Sum.inl a:i9)=Sum.inl b:=fun q=>e (Sum.inl.inj q)
  rw[aH h]
  exact(bx.mpr e).symm
theorem Mh(a b:Str):decide ((Sum.inr a:i9)=Sum.inr b)=decide (a=b):=by
 by_cases e:a=b
 ·subst e;simp
 ·have h:¬ (Sum.inr a:i9)=Sum.inr b:=fun q=>e (Sum.inr.inj q)
  rw[aH h,aH e]
theorem Mi(a:Int)(b:Str):decide ((Sum.inl a:i9)=Sum.inr b)=false:=aH (fun q=>nomatch q)
theorem Mj(a:Str)(b:Int):decide ((Sum.inr a:i9)=Sum.inl b)=false:=aH (fun q=>nomatch q)
def gB(prog:Program)(w:World):PySem.KeyKind prog w i9 where
 is:=vj
 hash:=Tb w
 inj:=fun v a b ha hb=>by
  rcases fU ha with⟨i,t,rfl,rfl⟩|⟨x,t,rfl,rfl⟩
  ·rcases fU hb with⟨j,u,rfl,e⟩|⟨y,u,rfl,e⟩
   ·injection e with e1 _;rw[e1]
   ·exact nomatch e
  ·rcases fU hb with⟨j,u,rfl,e⟩|⟨y,u,rfl,e⟩
   ·exact nomatch e
   ·injection e with e1 _;rw[e1]
 byValue:=fun k v h=>by
  rcases fU h with⟨i,t,rfl,rfl⟩|⟨x,t,rfl,rfl⟩<;>rfl
 pyHash:=fun hv h=>by
  rcases fU hv with⟨i,t,rfl,rfl⟩|⟨x,t,rfl,rfl⟩
  ·exact wpAny_pyHash_int h
  ·exact wpAny_pyHash_str h
 eqBool:=fun hu hv h=>by
  rcases fU hu with⟨i,t,rfl,rfl⟩|⟨x,t,rfl,rfl⟩
  ·rcases fU hv with⟨j,u,rfl,rfl⟩|⟨y,u,rfl,rfl⟩
   ·rw[Mg]at h;exact wpAny_eqBool_int h
   ·rw[Mi]at h;exact SeqAt.EqAt.int_str i t y u _ _ _ _ h
  ·rcases fU hv with⟨j,u,rfl,rfl⟩|⟨y,u,rfl,rfl⟩
   ·rw[Mj]at h;exact SeqAt.EqAt.str_int x t j u _ _ _ _ h
   ·rw[Mh]at h;exact wpAny_eqBool_str h
 «strs»:=fun k x t v h=>by
  rcases fU h with⟨i,u,rfl,e⟩|⟨y,u,rfl,e⟩
  ·exact nomatch e
  ·injection e with e1 _
   subst e1
   cases v<;>rfl
theorem xW(prog:Program)(w:World)(i:Int)(t:Tok):(gB prog w).is (.inl i) (.int i t)=true:=Cn i t
theorem xX(prog:Program)(w:World)(x:Str)(t:Tok):(gB prog w).is (.inr x) (.str x t)=true:=Co x t
inductive V where
 |non|bl (b:Bool)|int (i:Int)|str (x:Str)|byt (b:Array UInt8)|flt (b:UInt64)|ref (a:Addr)|ty (n:String)
 deriving DecidableEq
def cf:V->Value->Prop
 |.non,u=>u=Value.none
 |.bl b,u=>u=Value.bool b
 |.int i,u=>∃t,u=Value.int i t
 |.str x,u=>∃t,u=Value.str x t
 |.byt b,u=>∃t,u=Value.bytes b t
 |.flt b,u=>∃t,u=Value.float b t
 |.ref a,u=>u=Value.ref a
 |.ty n,u=>u=Value.type n
abbrev cA:List V->List Value->Prop:=Paired cf
theorem cA.length{xs:List V}(r:cA xs us):xs.length=us.length:=Paired.length r
theorem cA.get:∀{xs:List V} {us:List Value} {i:Nat} {x:V},cA xs us->xs[i]?=some x->∃u,us[i]?=some u/\cf x u
 |_,_,_,_,.nil,e=>by simp at e
 |_,_,0,_,.cons r _,e=>by simp at e;subst e;exact⟨_,rfl,r⟩
 |_,_,i+1,x,.cons _ t,e=>by
  obtain⟨u,h1,h2⟩:=cA.get (i:=i) (x:=x) t (by simpa using e)
  exact⟨u,by simpa using h1,h2⟩
theorem cA.append:∀{xs ys:List V} {us ws:List Value},cA xs us->cA ys ws->cA (xs++ys) (us++ws)
 |_,_,_,_,.nil,s=>s
 |_,_,_,_,.cons r t,s=>.cons r (cA.append t s)
theorem cA.take:∀{xs:List V} {us:List Value} (n:Nat),cA xs us->cA (xs.take n) (us.take n)
 |_,_,0,_=>.nil
 |_,_,_+1,.nil=>.nil
 |_,_,n+1,.cons r t=>.cons r (cA.take n t)
theorem cA.drop:∀{xs:List V} {us:List Value} (n:Nat),cA xs us->cA (xs.drop n) (us.drop n)
 |_,_,0,r=>r
 |_,_,_+1,.nil=>.nil
 |_,_,n+1,.cons _ t=>cA.drop n t
def tz:Option V->Option Value->Prop
 |some v,some u=>cf v u
 |none,none=>True
 |_,_=>False
def KV{κ:Type}:List (κ×V)->List (κ×Value)->Prop:=Paired fun(p:κ×V) (q:κ×Value)=>p.1=q.1/\cf p.2 q.2
def kV:i9->V
 |.inl i=>.int i
 |.inr x=>.str x
inductive HO where
 /-- a list -/
 |lst (xs:List V)
 /-- a tuple (never changes) -/
 |tup (xs:List V)
 /-- a dict whose keys are ints and texts;one whose keys are tuples of ints and texts (the empty one is both) -/
 |dK (kvs:List (i9×V))|dT (kvs:List (List i9×V))
 /-- a set of ints: its members,its size -/
 |set (S:Int->Bool) (n:Nat)
 /-- an instance of the class at C,its dict at dx,its attributes -/
 |ins (C dx:Addr) (fs:List (Str×V))
 /-- the dict of the instance at x -/
 |own (x:Addr)
 /-- the dict of an exception -/
 |xd (fs:List (Str×V))
 /-- a bound method,f of x -/
 |met (f x:Addr)
 /-- a range object lo,lo+1,.. below hi -/
 |rng (lo hi:Int)
 /-- a thing that is known to the object (the script;a dict while a loop walks it): read,never written while it is so -/
 |frz (o:Obj) (u:HO)
 /-- a code object's table -/
 |tbl (ps:Array Value)
 /-- any other thing,by what is true of its one object (a def of UK own: SetO a S n:=HO.ext fun h=>..) -/
 |ext (φ:Heap->Prop)
abbrev Hp:=Addr->Option HO
def eJ(H:Hp)(a:Addr)(o:HO):Hp:=fun b=>if b=a then some o else H b
theorem cO{H:Hp}{o:HO}:eJ H a o a=some o:=by unfold eJ;rw[av rfl]
theorem bY{H:Hp}{o:HO}(h:b≠a):eJ H a o b=H b:=by unfold eJ;rw[az h]
theorem Pk{H:Hp}{o u:HO}(h:H a=some o)(h':H b=some u)(d:o≠u):a≠b:=by
 intro e;subst e;rw[h]at h';exact d (a9 h')
theorem fF{H:Hp}{o:HO}(h:H a=some o)(h':H b=none):a≠b:=by
 intro e;subst e;rw[h]at h';cases h'
section
variable(P:Program)(w:World)
def eO(H:Hp)(h:Heap)(a:Addr):HO->Prop
 |.lst xs=>xs.length<=sizeLine/\∃(its:List Value) (n:Nat),cA xs its/\h.get? a=some { cls:=.type "list",data:=.seq its.toArray n }
 |.tup xs=>xs.length<=sizeLine/\∃its:List Value,cA xs its/\IsTup h a its.toArray
 |.dK kvs=>kvs.length<=sizeLine/\(a==sysModules)=false/\∃vs,KV kvs vs/\h.DictOf (gB P w) a vs
 |.dT kvs=>kvs.length<=sizeLine/\(a==sysModules)=false/\∃xs:List (List i9×Addr×Value),
   Paired (fun(p:List i9×V) (q:List i9×Addr×Value)=>p.1=q.1/\H q.2.1=some (.tup (p.1.map kV))/\cf p.2 q.2.2) kvs xs /\
   ∃o es ep,h.get? a=some o/\o.ExactDict/\o.data=.dict es ep/\es.toList=xs.map (entryOfKey (tupleKind (gB P w)))/\(xs.map (·.1)).Nodup
 |.set S n=>h.SetOf (intKind P w) a S n
 |.ins C dx fs=>H dx=some (.own a)/\fs.length<=1000/\dx≠a/\h.get? a=some (PySem.W.instObj C dx) /\
   ∃mA,h.Ns1 dx mA/\(∀f,tz (fs.lookup f) (mA f))/\PySem.Within mA (fs.map (·.1))
 |.own _=>∃o,h.get? a=some o
 |.xd fs=>∃mA,h.Ns1 a mA/\∀f,tz (fs.lookup f) (mA f)
 |.rng lo hi=>∃t u v,h.get? a=some { cls:=.type "range",data:=.fields #[.int lo t,.int hi u,.int 1 v] }
 |.frz o u=>h.get? a=some o/\eO H h a u
 |.tbl ps=>h.get? a=some { cls:=.none,data:=.fields ps }
 |.met f x=>h.get? a=some (PySem.W.methodObj (.ref f) (.ref x))
 |.ext φ=>φ h/\(∃o,h.get? a=some o)/\∀h1 h2:Heap,φ h1->(∀o,h1.get? a=some o->h2.get? a=some o)->φ h2
def kP(H:Hp)(h:Heap):Prop:=∀a o,H a=some o->eO P w H h a o
end
section
variable{w:World}{H H':Hp}{o:HO}
theorem eO.lt(x:eO P w H h a o):a<h.objs.size:=by
 cases o with
 |lst xs=>obtain⟨_,_,_,_,e⟩:=x;exact ax e
 |tup xs=>obtain⟨_,_,_,p⟩:=x;exact p.lt
 |dK kvs=>obtain⟨_,_,_,_,o,_,_,e,_⟩:=x;exact ax e
 |dT kvs=>obtain⟨_,_,_,_,o,_,_,e,_⟩:=x;exact ax e
 |set S n=>obtain⟨o,_,_,_,e,_⟩:=x;exact ax e
 |ins C dx fs=>obtain⟨_,_,_,e,_⟩:=x;exact ax e
 |own y=>obtain⟨_,e⟩:=x;exact ax e
 |xd fs=>obtain⟨_,⟨_,_,_,e,_⟩,_⟩:=x;exact ax e
 |rng lo hi=>obtain⟨_,_,_,e⟩:=x;exact ax e
 |frz ob u=>obtain⟨e,_⟩:=x;exact ax e
 |tbl ps=>exact ax (show h.get? a=some _ from x)
 |met f y=>exact ax (show h.get? a=some _ from x)
 |ext φ=>obtain⟨_,⟨_,e⟩,_⟩:=x;exact ax e
theorem Paired.mapP{F G:α->β->Prop}:∀{l₁:List α} {l₂:List β},Paired F l₁ l₂->(∀a b,F a b->G a b)->Paired G l₁ l₂
 |_,_,.nil,_=>.nil
 |_,_,.cons r t,f=>.cons (f _ _ r) (Paired.mapP t f)
theorem Paired.imp'{F G:α->β->Prop}(f:∀a b,F a b->G a b){l₁:List α}{l₂:List β}(r:Paired F l₁ l₂):Paired G l₁ l₂:=Paired.mapP r f
theorem eO.stay(x:eO P w H h a o)(k:∀b u,(b=a\/H b=some (.own a))->h.get? b=some u->h'.get? b=some u)
  (ho:∀b,H b=some (.own a)->H' b=some (.own a)) (ht:∀b xs,H b=some (.tup xs)->H' b=some (.tup xs)):eO P w H' h' a o:=by
 induction o with
 |lst xs=>obtain⟨z,its,n,r,e⟩:=x;exact⟨z,its,n,r,k _ _ (.inl rfl) e⟩
 |tup xs=>obtain⟨z,its,r,ob,e,c⟩:=x;exact⟨z,its,r,ob,k _ _ (.inl rfl) e,c⟩
 |dK kvs=>obtain⟨z,y,vs,r,ob,es,ep,e,c⟩:=x;exact⟨z,y,vs,r,ob,es,ep,k _ _ (.inl rfl) e,c⟩
 |dT kvs=>
  obtain⟨z,y,xs,r,ob,es,ep,e,c⟩:=x
  exact⟨z,y,xs,Paired.mapP r fun p q z=>⟨z.1,ht _ _ z.2.1,z.2.2⟩,ob,es,ep,k _ _ (.inl rfl) e,c⟩
 |set S n=>obtain⟨ob,es,ep,t,e,c⟩:=x;exact⟨ob,es,ep,t,k _ _ (.inl rfl) e,c⟩
 |ins C dx fs=>
  obtain⟨d,z,ne,e,mA,⟨od,es,ep,e2,c⟩,r⟩:=x
  exact⟨ho _ d,z,ne,k _ _ (.inl rfl) e,mA,⟨od,es,ep,k _ _ (.inr d) e2,c⟩,r⟩
 |own y=>obtain⟨ob,e⟩:=x;exact⟨ob,k _ _ (.inl rfl) e⟩
 |xd fs=>obtain⟨mA,⟨od,es,ep,e,c⟩,r⟩:=x;exact⟨mA,⟨od,es,ep,k _ _ (.inl rfl) e,c⟩,r⟩
 |rng lo hi=>obtain⟨t,u,v,e⟩:=x;exact⟨t,u,v,k _ _ (.inl rfl) e⟩
 |frz ob u ih=>obtain⟨e,q⟩:=x;exact⟨k _ _ (.inl rfl) e,ih q⟩
 |tbl ps=>
  have e:h.get? a=some { cls:=.none,data:=.fields ps }:=x
  show h'.get? a=some { cls:=.none,data:=.fields ps }
  exact k a _ (.inl rfl) e
 |met f y=>
  have e:h.get? a=some (PySem.W.methodObj (.ref f) (.ref y)):=x
  show h'.get? a=some (PySem.W.methodObj (.ref f) (.ref y))
  exact k a _ (.inl rfl) e
 |ext φ=>obtain⟨p,⟨o,e⟩,st⟩:=x;exact⟨st _ _ p fun o q=>k _ _ (.inl rfl) q,⟨o,k _ _ (.inl rfl) e⟩,st⟩
theorem kP.lt(x:kP P w H h)(e:H a=some o):a<h.objs.size:=(x a o e).lt
theorem kP.fresh(x:kP P w H h)(e:h.objs.size<=a):H a=none:=by
 cases q:H a with
 |none=>rfl
 |some u=>exact absurd (aK (x.lt q) e) (cw _)
theorem kP.kept(x:kP P w H h)(k:∀b u,h.get? b=some u->h'.get? b=some u):kP P w H h':=fun a o e=>
 (x a o e).stay (fun b u _ q=>k b u q) (fun _ q=>q) fun _ _ q=>q
theorem kP.laid(x:kP P w H h)(k:∀b u,h.get? b=some u->h'.get? b=some u)(hp:h.objs.size<=a)(new:eO P w (eJ H a o) h' a o):kP P w (eJ H a o) h':=fun b u e=>by
 have hn:=x.fresh hp
 by_cases hb:b=a
 ·subst hb;rw[cO]at e;cases e;exact new
 ·rw[bY hb]at e
  exact(x b u e).stay (fun c v _ q=>k c v q) (fun c q=>by rw[bY (fF q hn)];exact q) fun c xs q=>by rw[bY (fF q hn)];exact q
end
def Rd(H:Hp)(a:Addr)(u:HO):Prop:=H a=some u\/∃o,H a=some (.frz o u)
theorem Rd.ok{w:World}{H:Hp}{u:HO}(r:Rd H a u)(x:kP P w H h):eO P w H h a u:=by
 rcases r with r|⟨o,r⟩
 ·exact x a u r
 ·obtain⟨_,q⟩:=x a _ r
  exact q
def Mk:Option HO->Prop
 |some (.lst _)=>True
 |some (.dK _)=>True
 |some (.dT _)=>True
 |some (.set _ _)=>True
 |some (.ins _ _ _)=>True
 |some (.ext _)=>True
 |_=>False
section
variable{w:World}{H:Hp}{x e:Addr}{o':HO}
theorem kP.write(ok:kP P w H h)(mu:Mk (H x))(he:e=x\/H e=some (.own x))(k:∀b u,b≠e->h.get? b=some u->h'.get? b=some u)(Pg:∃u,h'.get? e=some u)
  (new:eO P w (eJ H x o') h' x o'):kP P w (eJ H x o') h':=fun b u q=>by
 have nown:∀c y,H c=some (.own y)->c≠x:=fun c y r z=>by subst z;rw[r]at mu;exact mu
 have ntup:∀c xs,H c=some (.tup xs)->c≠x:=fun c xs r z=>by subst z;rw[r]at mu;exact mu
 by_cases hb:b=x
 ·subst hb;rw[cO]at q;cases q;exact new
 ·rw[bY hb]at q
  by_cases hbe:b=e
  ·have q':H b=some (.own x):=by
    rcases he with z|z
    ·exact absurd (hbe.trans z) hb
    ·rw[hbe];exact z
   rw[q]at q';cases q'
   obtain⟨v,hv⟩:=Pg
   exact⟨v,by rw[hbe];exact hv⟩
  ·refine(ok b u q).stay (fun c v hc r=>k c v ?_ r) (fun c r=>by rw[bY (nown c b r)];exact r) fun c xs r=>by rw[bY (ntup c xs r)];exact r
   rcases hc with rfl|hc
   ·exact hbe
   ·rintro rfl
    rcases he with z|z
    ·exact nown c b hc z
    ·rw[hc]at z;cases z;exact hb rfl
end
structure Un(fs ex:List Addr)(H H':Hp)(h h':Heap):Prop where
 keep:∀b o,h.get? b=some o->H b=none->b∉fs->b∉ex->h'.get? b=some o
 slot:∀b o,h.get? b=some o->H b=none->b∈fs->b∉ex->∃sl,h'.get? b=some { o with slots:=sl }
 free:∀b o,h.get? b=some o->H b=none->b∉ex->H' b=none
 there:∀b o,h.get? b=some o->b∉ex->∃o',h'.get? b=some o'
 tups:∀b xs,H b=some (.tup xs)->H' b=some (.tup xs)
 frzs:∀b o u,H b=some (.frz o u)->H' b=some (.frz o u)
 tbls:∀b ps,H b=some (.tbl ps)->∃qQ,H' b=some (.tbl (ps++qQ))
section
variable{fs U0 ex U':List Addr}{H H1 H2:Hp}{h1 h2:Heap}{x e:Addr}{o:HO}
theorem Un.any(u:Un fs ex H H1 h h1){ob:Obj}(q:h.get? b=some ob)(n:H b=none)(hx:b∉ex):∃sl,h1.get? b=some { ob with slots:=sl }:=by
 by_cases hb:b∈fs
 ·exact u.slot b ob q n hb hx
 ·exact⟨ob.slots,u.keep b ob q n hb hx⟩
theorem Un.kept(k:∀b u,h.get? b=some u->h'.get? b=some u):Un fs ex H H h h':=
 ⟨fun b ob q _ _ _=>k b ob q,fun b ob q _ _ _=>⟨ob.slots,k b ob q⟩,fun _ _ _ n _=>n,fun b ob q _=>⟨ob,k b ob q⟩,fun _ _ q=>q,fun _ _ _ q=>q,fun _ ps q=>⟨#[],by rw[q];simp⟩⟩
theorem Un.refl:Un fs ex H H h h:=Un.kept fun _ _ q=>q
theorem Un.laid(k:∀b u,h.get? b=some u->h'.get? b=some u)(hp:h.objs.size<=a)(hn:H a=none):Un fs ex H (eJ H a o) h h' where
 keep:=fun b u q _ _ _=>k b u q
 slot:=fun b u q _ _ _=>⟨u.slots,k b u q⟩
 free:=fun b u q n _=>by rw[bY (aN (aK (ax q) hp))];exact n
 there:=fun b u q _=>⟨u,k b u q⟩
 tups:=fun b xs q=>by rw[bY (fF q hn)];exact q
 frzs:=fun b u xs q=>by rw[bY (fF q hn)];exact q
 tbls:=fun b ps q=>⟨#[],by rw[bY (fF q hn),q];simp⟩
theorem Un.write(mu:Mk (H x))(he:e=x\/H e=some (.own x))(k:∀b u,b≠e->h.get? b=some u->h'.get? b=some u)(Pg:∃u,h'.get? e=some u):Un fs ex H (eJ H x o) h h':=by
 have hx:∀b,H b=none->b≠x:=fun b n z=>by subst z;rw[n]at mu;exact mu
 have hb:∀b,H b=none->b≠e:=fun b n z=>by
  subst z
  rcases he with r|r
  ·exact hx b n r
  ·rw[n]at r;cases r
 have hm:∀b u,H b=some u->¬ Mk (some u)->b≠x:=fun b u q nm z=>by subst z;rw[q]at mu;exact nm mu
 refine⟨fun b u q n _ _=>k b u (hb b n) q,fun b u q n _ _=>⟨u.slots,k b u (hb b n) q⟩,fun b u q n _=>by rw[bY (hx b n)];exact n,fun b u q _=>?_,
  fun b xs q=>by rw[bY (hm b _ q fun z=>z)];exact q,fun b u xs q=>by rw[bY (hm b _ q fun z=>z)];exact q,fun b ps q=>⟨#[],by rw[bY (hm b _ q fun z=>z),q];simp⟩⟩
 by_cases hbe:b=e
 ·subst hbe;exact Pg
 ·exact⟨u,k b u hbe q⟩
end
def Sw(h:Heap)(H:Hp):List Addr:=(List.range h.objs.size).filter fun a=>(H a).isSome
def uX(h:Heap)(H:Hp):Heap:=hideAll h (Sw h H)
theorem Cp(h:Heap)(H:Hp):(uX h H).objs.size=h.objs.size:=PySem.W.hideAll_size _ _
theorem D9{H:Hp}(e:h.get? b=some o)(n:H b=none):(uX h H).get? b=some o:=
 PySem.W.hideAll_get _ e fun hm=>by
  have q:(H b).isSome=true:=(eR.mp hm).2
  rw[n]at q;simp at q
theorem HF{H:Hp}(e:(uX h H).get? b=some o):h.get? b=some o/\H b=none:=by
 have e':h.get? b=some o:=PySem.W.of_hideAll (Sw h H) e
 refine⟨e',?_⟩
 cases q:H b with
 |none=>rfl
 |some x=>
  have hm:b∈Sw h H:=eR.mpr ⟨bI.mpr (ax e'),by simp[q]⟩
  have z:(uX h H).get? b=none:=PySem.W.hideAll_none (Sw h H) hm
  rw[z]at e;cases e
def HG(g h:Heap)(L:Addr):List (Addr×Obj):=(List.range h.objs.size).filterMap fun a=>if a=L\/(g.get? a).isSome=true then none else(h.get? a).map fun o=>(a,o)
def dQ(g h:Heap)(L d:Addr):List (Addr×Obj):=(HG g h L).filter fun p=>decide (p.1≠d)
structure Mod(K:Frag)(mg:Str->Option Value)(base:Heap):Prop where
 kin:K.In base
 glob:base.Ns mainGlobals mg
 blt:∃mb,base.Ns builtinsNs mb/\∀x:Str,x ≠ "__name__"->mb x=bootBuiltins x
 nolimit:base.NoLimit
structure Cx where
 prog:Program
 w:World
 K:Frag
 mg:Str->Option Value
 base:Heap
 A:Around
 N:List Str
 s₀:Shared
 H₀:Hp
 env:Env
 outer:List Env
 stack:List Env
 ex:List Addr
 fn:Str->Bool
 calm:Bool
 pn:List (Addr×Obj)
 xe:Value->Shared->Prop
def r_(l:List Env):List Addr:=l.filterMap (·.frame)
abbrev Cx.fs(X:Cx):List Addr:=r_ X.outer
def Kv(sc:Scope)(x:Str):Prop:=sc.names.lookup x=some .local\/sc.names.lookup x=some .cell\/sc.names.lookup x=some .free
def Cq(sc:Scope)(x:Str):Prop:=sc.names.lookup x=some .local\/sc.names.lookup x=some .cell
def Td(env:Env)(h:Heap)(m:Str->Option Value)(x:Str)(u:Value):Prop:=
 (env.kindOf x=some .local/\m x=some u)\/((env.kindOf x=some .cell\/env.kindOf x=some .free)/\∃c,env.cells.lookup x=some c/\h.IsCell c (some u))
structure Cx.Ok(X:Cx):Prop where
 mod:Mod X.K X.mg X.base
 kind:X.env.scope.kind=.function
 glob:X.env.globals=mainGlobals
 blt:X.env.builtins=builtinsNs
 above:X.s₀.heap.objs.size<=X.env.locals
 inj:∀x y c,X.env.cells.lookup x=some c->X.env.cells.lookup y=some c->x=y
 has:∀x,(X.env.kindOf x=some .cell\/X.env.kindOf x=some .free)->∃c,X.env.cells.lookup x=some c
 cab:∀x c,X.fn x=true->X.env.cells.lookup x=some c->X.s₀.heap.objs.size<=c
 hd:X.calm=true->X.A.handled=none
 frames:X.A.frames=some X.stack
 stk:X.stack=X.outer\/(X.stack=X.env::X.outer/\X.env.frame=some X.env.locals)
 exf:∀b∈X.ex,b≠X.env.locals/\∀x c,X.env.cells.lookup x=some c->c≠b
 bs:∀b o,X.base.get? b=some o->X.s₀.heap.get? b=some o/\X.H₀ b=none
 bsz:X.base.objs.size<=X.s₀.heap.objs.size
 noex:∀b o,X.base.get? b=some o->b∉X.ex
 exfs:∀b∈X.ex,b∉X.fs
 funs:X.s₀.heap.FunFrames X.base X.outer
 frf:∀b∈X.fs,X.H₀ b=none
structure bE(X:Cx)(af:List (Addr×Obj))(σ:List (Option V))(H:Hp)(s:Shared):Prop where
 ok:X.Ok
 os:s.os=X.s₀.os
 bare:AllBare s.gens
 base:Un X.fs X.ex X.H₀ H X.s₀.heap s.heap
 loc:∃m,s.heap.Ns X.env.locals m/\∀(i:Nat) (x:Str) (v:V),X.N[i]?=some x->σ[i]?=some (some v)->Kv X.env.scope x->∃u,cf v u/\Td X.env s.heap m x u
 cell:∀x c,X.env.cells.lookup x=some c->∃v,s.heap.IsCell c v
 free:H X.env.locals=none
 freeC:∀x c,X.env.cells.lookup x=some c->H c=none
 pin:∀p∈X.pn++af,s.heap.get? p.1=some p.2/\H p.1=none/\p.1≠X.env.locals/\p.1∉X.fs/\∀v,p.2.data≠.cell v
 hok:kP X.prog X.w H s.heap
 len:σ.length=X.N.length
section
variable{X:Cx}{σ:List (Option V)}{H H':Hp}
theorem Cx.Ok.nofr(ok:X.Ok)(e:X.base.get? b=some o):b∉X.fs:=fun hb=>by
 have:=(ok.funs.mem hb).1
 rw[e]at this;cases this
theorem bE.bs(I:bE X af σ H s):∀b o,X.base.get? b=some o->s.heap.get? b=some o/\H b=none:=fun b o e=>
 ⟨I.base.keep b o (I.ok.bs b o e).1 (I.ok.bs b o e).2 (I.ok.nofr e) (I.ok.noex b o e),I.base.free b o (I.ok.bs b o e).1 (I.ok.bs b o e).2 (I.ok.noex b o e)⟩
theorem bE.bk(I:bE X af σ H s):∀b o,X.base.get? b=some o->s.heap.get? b=some o:=fun b o e=>(I.bs b o e).1
theorem bE.mod(I:bE X af σ H s):Mod X.K X.mg X.base:=I.ok.mod
theorem bE.kIn(I:bE X af σ H s):X.K.In s.heap:=I.ok.mod.kin.keeps I.bk
theorem bE.lt(I:bE X af σ H s):X.env.locals<s.heap.objs.size:=let ⟨_,hn,_⟩:=I.loc;hn.lt
theorem bE.sz(I:bE X af σ H s):X.s₀.heap.objs.size<=s.heap.objs.size:=bd I.ok.above (dH I.lt)
theorem bE.nofs(I:bE X af σ H s)(h:s.heap.objs.size<=a):a∉X.fs:=fun hb=>by
 obtain⟨_,o,ho,_⟩:=I.ok.funs.mem hb
 exact absurd (aK (ax ho) (bd I.sz h)) (cw _)
theorem bE.cne(I:bE X af σ H s):∀x c,X.env.cells.lookup x=some c->c≠X.env.locals:=fun x c e z=>by
 obtain⟨v,o,ho,hd⟩:=I.cell x c e
 obtain⟨m,⟨o',es,ep,uR,hd',_⟩,_⟩:=I.loc
 rw[z,uR]at ho;cases ho;rw[hd']at hd;cases hd
theorem bE.funs(I:bE X af σ H s):s.heap.FunFrames X.base X.outer:=by
 have all:∀(l:List Env),(∀b∈r_ l,b∈X.fs)->X.s₀.heap.FunFrames X.base l->s.heap.FunFrames X.base l:=by
  intro l
  induction l with
  |nil=>intro _ _;trivial
  |cons env r ih=>
   intro hs hl
   obtain⟨hk,⟨L,o,hf,hn,ho,hd⟩,hr⟩:=hl
   have hL:L∈X.fs:=hs L (by unfold r_;rw[dO,hf];exact aS)
   obtain⟨sl,e⟩:=I.base.slot L o ho (I.ok.frf L hL) hL fun z=>I.ok.exfs L z hL
   exact⟨hk,⟨L,_,hf,hn,e,hd⟩,ih (fun b hb=>hs b (by unfold r_;rw[dO,hf];exact aD _ hb)) hr⟩
 exact all X.outer (fun _ hb=>hb) I.ok.funs
theorem bE.stack(I:bE X af σ H s):s.heap.FunFrames X.base X.stack:=by
 rcases I.ok.stk with e|⟨e,hf⟩
 ·rw[e];exact I.funs
 ·rw[e]
  obtain⟨m,hn,_⟩:=I.loc
  refine .cons (by rw[I.ok.kind];decide) hf hn ?_ I.funs
  exact Heap.get?_none_of_le (bd I.ok.bsz I.ok.above)
theorem bE.stkSub(I:bE X af σ H s):∀b∈r_ X.stack,b∈X.env.locals::X.fs:=fun b hb=>by
 rcases I.ok.stk with e|⟨e,hf⟩
 ·rw[e]at hb;exact aD _ hb
 ·rw[e]at hb
  unfold r_ at hb
  rw[dO,hf]at hb
  exact hb
theorem bE.stkFree(I:bE X af σ H s):∀b∈r_ X.stack,H b=none:=fun b hb=>by
 rcases aG.mp (I.stkSub b hb)with e|hb
 ·rw[e];exact I.free
 ·obtain⟨_,o,ho,_⟩:=I.ok.funs.mem hb
  exact I.base.free b o ho (I.ok.frf b hb) fun z=>I.ok.exfs b z hb
theorem bE.step{g':Array GenState}{t':Nat}{d':Drawn}{ch:List Addr}(I:bE X af σ H s)
  (HE:∀b∈ch,(b∈X.ex\/X.s₀.heap.objs.size<=b)/\b≠X.env.locals/\(∀x c,X.env.cells.lookup x=some c->c≠b)/\∀p∈X.pn++af,p.1≠b)
  (keep:∀b o,b≠X.env.locals->b∉X.fs->b∉ch->s.heap.get? b=some o->H b=none->h'.get? b=some o)
  (slot:∀b o,b≠X.env.locals->b∈X.fs->b∉ch->s.heap.get? b=some o->H b=none->∃sl,h'.get? b=some { o with slots:=sl }) (free:∀b o,b∉ch->s.heap.get? b=some o->H b=none->H' b=none)
  (there:∀b o,b∉ch->s.heap.get? b=some o->∃o',h'.get? b=some o')
  (tups:∀b xs,H b=some (.tup xs)->H' b=some (.tup xs)) (frzs:∀b o u,H b=some (.frz o u)->H' b=some (.frz o u)) (tbls:∀b ps,H b=some (.tbl ps)->∃qQ,H' b=some (.tbl (ps++qQ)))
  (ns:∀m,s.heap.Ns X.env.locals m->h'.Ns X.env.locals m) (hok:kP X.prog X.w H' h') (hg:AllBare g') :
  bE X af σ H' { s with heap:=h',gens:=g',drawn:=d',toks:=t' }:=by
 have neL:∀b o,X.s₀.heap.get? b=some o->b≠X.env.locals:=fun b o e=>aN (aK (ax e) I.ok.above)
 have neC:∀b o,X.s₀.heap.get? b=some o->b∉X.ex->b∉ch:=fun b o e hx hb=>by
  rcases(HE b hb).1 with z|z
  ·exact hx z
  ·exact absurd (aK (ax e) z) (cw _)
 have cellK:∀x c,X.env.cells.lookup x=some c->∀v,s.heap.IsCell c v->h'.IsCell c v:=fun x c e v ⟨o,ho,hd⟩=>by
  have nch:c∉ch:=fun z=>(HE c z).2.2.1 x c e rfl
  by_cases hc:c∈X.fs
  ·obtain⟨sl,q⟩:=slot c o (I.cne x c e) hc nch ho (I.freeC x c e)
   exact⟨_,q,hd⟩
  ·exact⟨o,keep c o (I.cne x c e) hc nch ho (I.freeC x c e),hd⟩
 refine⟨I.ok,I.os,hg,⟨fun b o e n hb hx=>?_,fun b o e n hb hx=>?_,fun b o e n hx=>?_,fun b o e hx=>?_,fun b xs e=>tups b xs (I.base.tups b xs e),fun b o xs e=>frzs b o xs (I.base.frzs b o xs e),fun b ps e=>?_⟩,?_,fun x c e=>?_,?_,fun x c e=>?_,fun p hp=>?_,hok,I.len⟩
 ·exact keep b o (neL b o e) hb (neC b o e hx) (I.base.keep b o e n hb hx) (I.base.free b o e n hx)
 ·obtain⟨sl,e1⟩:=I.base.slot b o e n hb hx
  obtain⟨sl',e2⟩:=slot b _ (neL b o e) hb (neC b o e hx) e1 (I.base.free b o e n hx)
  exact⟨sl',e2⟩
 ·obtain⟨o',e1⟩:=I.base.there b o e hx
  exact free b o' (neC b o e hx) e1 (I.base.free b o e n hx)
 ·obtain⟨o',e1⟩:=I.base.there b o e hx
  exact there b o' (neC b o e hx) e1
 ·obtain⟨m1,e1⟩:=I.base.tbls b ps e
  obtain⟨m2,e2⟩:=tbls b _ e1
  exact⟨m1++m2,by rw[e2,Array.append_assoc]⟩
 ·obtain⟨m,hn,hl⟩:=I.loc
  refine⟨m,ns m hn,fun i x v e1 e2 e3=>?_⟩
  obtain⟨u,r,l⟩:=hl i x v e1 e2 e3
  refine⟨u,r,?_⟩
  rcases l with l|⟨k,c,e,z⟩
  ·exact .inl l
  ·exact .inr ⟨k,c,e,cellK x c e _ z⟩
 ·obtain⟨v,z⟩:=I.cell x c e
  exact⟨v,cellK x c e v z⟩
 ·obtain⟨m,⟨o,_,_,ho,_⟩,_⟩:=I.loc
  exact free _ o (fun z=>(HE _ z).2.1 rfl) ho I.free
 ·obtain⟨v,o,ho,hd⟩:=I.cell x c e
  exact free c o (fun z=>(HE c z).2.2.1 x c e rfl) ho (I.freeC x c e)
 ·obtain⟨e,n,ne,nf,d⟩:=I.pin p hp
  have nch:p.1∉ch:=fun z=>(HE p.1 z).2.2.2 p hp rfl
  exact⟨keep p.1 p.2 ne nf nch e n,free p.1 p.2 nch e n,ne,nf,d⟩
theorem bE.un{t':Nat}(I:bE X af σ H s)(u:Un X.fs [] H H' s.heap h')(hok:kP X.prog X.w H' h'):bE X af σ H' { s with heap:=h',toks:=t' }:=by
 obtain⟨m,⟨o,es,ep,ho,r⟩,_⟩:=id I.loc
 obtain⟨sl,hL⟩:=u.any ho I.free (by simp)
 exact I.step (g':=s.gens) (d':=s.drawn) (ch:=[]) (fun _ z=>nomatch z) (fun b o _ hb _ e n=>u.keep b o e n hb (by simp)) (fun b o _ hb _ e n=>u.slot b o e n hb (by simp)) (fun b o _ e n=>u.free b o e n (by simp)) (fun b o _ e=>u.there b o e (by simp)) u.tups u.frzs u.tbls (fun m' hm=>by
  obtain⟨o',es',ep',uR,r'⟩:=hm
  rw[ho]at uR;cases uR
  exact⟨_,es',ep',hL,r'⟩) hok I.bare
theorem bE.call{g':Array GenState}{t':Nat}{d':Drawn}{ch:List Addr}(I:bE X af σ H s)(u:Un (r_ X.stack) ch H H' s.heap h')(hok:kP X.prog X.w H' h')(hg:AllBare g')
  (HE:∀b∈ch,(b∈X.ex\/X.s₀.heap.objs.size<=b)/\b≠X.env.locals/\(∀x c,X.env.cells.lookup x=some c->c≠b)/\∀p∈X.pn++af,p.1≠b) :
  bE X af σ H' { s with heap:=h',gens:=g',drawn:=d',toks:=t' }:=by
 obtain⟨m,⟨o,es,ep,ho,r⟩,_⟩:=id I.loc
 obtain⟨sl,hL⟩:=u.any ho I.free fun z=>(HE _ z).2.1 rfl
 exact I.step (ch:=ch) HE (fun b o hL hb hc e n=>u.keep b o e n (fun z=>(aG.mp (I.stkSub b z)).elim hL hb) hc) (fun b o _ _ hc e n=>u.any e n hc) (fun b o hc e n=>u.free b o e n hc) (fun b o hc e=>u.there b o e hc) u.tups u.frzs u.tbls (fun m' hm=>by
  obtain⟨o',es',ep',uR,r'⟩:=hm
  rw[ho]at uR;cases uR
  exact⟨_,es',ep',hL,r'⟩) hok hg
theorem bE.turned{t':Nat}{it:Addr}(I:bE X af σ H s)(k:∀b o,b≠it->s.heap.get? b=some o->h'.get? b=some o)(hn:H it=none)(hL:it≠X.env.locals)
  (h1:it∈X.ex\/X.s₀.heap.objs.size<=it) (h2:∀x c,X.env.cells.lookup x=some c->c≠it) (h3:∀p∈X.pn++af,p.1≠it):bE X af σ H { s with heap:=h',toks:=t' }:=by
 have nit:∀b u,H b=some u->b≠it:=fun b u e z=>by rw[z,hn]at e;cases e
 refine I.step (g':=s.gens) (d':=s.drawn) (ch:=[it]) (fun b hb=>?_) (fun b o _ _ hc e _=>k b o (fun z=>hc (by simp[z])) e) (fun b o _ _ hc e _=>⟨o.slots,k b o (fun z=>hc (by simp[z])) e⟩) (fun _ _ _ _ n=>n)
  (fun b o hc e=>⟨o,k b o (fun z=>hc (by simp[z])) e⟩) (fun _ _ e=>e) (fun _ _ _ e=>e) (fun b ps e=>⟨#[],by rw[e];simp⟩) (fun m hm=>?_) (fun b u e=>?_) I.bare
 ·have e:b=it:=by simpa using hb
  subst e
  exact⟨h1,hL,h2,h3⟩
 ·obtain⟨o,es,ep,ho,r⟩:=hm
  exact⟨o,es,ep,k _ o (Ne.symm hL) ho,r⟩
 ·refine(I.hok b u e).stay (fun c v hc q=>k c v ?_ q) (fun _ q=>q) fun _ _ q=>q
  rcases hc with z|z
  ·rw[z];exact nit b u e
  ·exact nit c _ z
theorem bE.tok(I:bE X af σ H s)(t:Nat):bE X af σ H { s with toks:=t }:=I.un (h':=s.heap) (t':=t) Un.refl I.hok
theorem bE.kept{t':Nat}(I:bE X af σ H s)(k:∀b u,s.heap.get? b=some u->h'.get? b=some u):bE X af σ H { s with heap:=h',toks:=t' }:=I.un (Un.kept k) (I.hok.kept k)
theorem bE.laid{a:Addr}{o:HO}{t':Nat}(I:bE X af σ H s)(k:∀b u,s.heap.get? b=some u->h'.get? b=some u)(hp:s.heap.objs.size<=a)(new:eO X.prog X.w (eJ H a o) h' a o) :
  bE X af σ (eJ H a o) { s with heap:=h',toks:=t' }:=I.un (Un.laid k hp (I.hok.fresh hp)) (I.hok.laid k hp new)
theorem bE.write{x e:Addr}{o:HO}(I:bE X af σ H s)(mu:Mk (H x))(he:e=x\/H e=some (.own x))(k:∀b u,b≠e->s.heap.get? b=some u->h'.get? b=some u)(Pg:∃u,h'.get? e=some u)
  (new:eO X.prog X.w (eJ H x o) h' x o):bE X af σ (eJ H x o) { s with heap:=h',toks:=t' }:=I.un (Un.write mu he k Pg) (I.hok.write mu he k Pg new)
theorem bE.pins_of{pins':List (Addr×Obj)}(I:bE X af σ H s)(h:∀p∈pins',s.heap.get? p.1=some p.2/\H p.1=none/\p.1≠X.env.locals/\p.1∉X.fs/\∀v,p.2.data≠.cell v):bE X pins' σ H s:=
 ⟨I.ok,I.os,I.bare,I.base,I.loc,I.cell,I.free,I.freeC,fun p hp=>(br.mp hp).elim (fun z=>I.pin p (fX _ z)) (h p),I.hok,I.len⟩
theorem xY{N:List Str}(hN:N.Nodup)(a:N[i]?=some x)(b:N[j]?=some x):i=j:=by
 obtain⟨h1,e1⟩:=ao.mp a
 obtain⟨h2,e2⟩:=ao.mp b
 exact(List.getElem_inj hN).mp (e1.trans e2.symm)
theorem Cr{M:Model}{A:Around}{E:Value->Shared->Prop}{v:V}{Q:Unit->Shared->Prop}(I:bE X af σ H s)(hN:X.N.Nodup)(hi:X.N[i]?=some x)(hx:Cq X.env.scope x)(r:cf v u)
  (h:∀s',bE X af (σ.set i (some v)) H s'->(∃a,Heap.SameBut a s.heap s'.heap/\(a=X.env.locals\/X.env.cells.lookup x=some a))->Q () s') (hf:X.fn x=true\/X.env.scope.names.lookup x=some .local:=by first|exact .inl rfl|exact .inr rfl|assumption):wpAny M A (storeName X.env x u) Q E s:=by
 obtain⟨m,hn,hl⟩:=id I.loc
 have hcls:(X.env.scope.kind==.class||(X.env.scope.kind==.module&&X.env.locals != X.env.globals))=false:=by rw[I.ok.kind];rfl
 have hiσ:i<σ.length:=by rw[I.len];exact(ao.mp hi).1
 have cne:=I.cne
 have tracked:∀{a:Addr} {h':Heap},(∃o,s.heap.get? a=some o/\H a=none)->Heap.SameBut a s.heap h'->kP X.prog X.w H h':=fun{a h'} ha hs b ob e=>by
  obtain⟨_,_,hfree⟩:=ha
  refine(I.hok b ob e).stay (fun c w' hc q=>(hs.2 c ?_).trans q) (fun _ q=>q) fun _ _ q=>q
  rintro rfl
  rcases hc with rfl|hc
  ·rw[hfree]at e;cases e
  ·rw[hfree]at hc;cases hc
 rcases hx with hk|hk
 ·refine wpAny_storeName_local hk hn (fun h' hn' hs=>?_) hcls
  obtain⟨oL,_,_,hoL,_⟩:=id hn
  refine h _ ⟨I.ok,I.os,I.bare,⟨fun b o e n hb hx=>?_,fun b o e n hb hx=>?_,I.base.free,fun b o e hx=>?_,I.base.tups,I.base.frzs,I.base.tbls⟩,⟨_,hn',fun j y v' e1 e2 e3=>?_⟩,fun y c e=>?_,I.free,I.freeC,fun p hp=>?_,tracked ⟨oL,hoL,I.free⟩ hs,by simpa using I.len⟩ ⟨_,hs,.inl rfl⟩
  ·exact(hs.2 b (aN (aK (ax e) I.ok.above))).trans (I.base.keep b o e n hb hx)
  ·obtain⟨sl,e1⟩:=I.base.slot b o e n hb hx
   exact⟨sl,(hs.2 b (aN (aK (ax e) I.ok.above))).trans e1⟩
  ·obtain⟨o',e1⟩:=I.base.there b o e hx
   exact⟨o',(hs.2 b (aN (aK (ax e) I.ok.above))).trans e1⟩
  ·by_cases hj:j=i
   ·subst hj
    rw[hi]at e1;cases e1
    rw[bP hiσ]at e2
    cases e2
    exact⟨u,r,.inl ⟨hk,by simp⟩⟩
   ·rw[cB (Ne.symm hj)]at e2
    obtain⟨u',r',q⟩:=hl j y v' e1 e2 e3
    refine⟨u',r',?_⟩
    rcases q with⟨k,e⟩|⟨k,c,e,z⟩
    ·refine .inl ⟨k,?_⟩
     have:y≠x:=fun e=>hj (xY hN e1 (e▸hi))
     simp[this,e]
    ·exact .inr ⟨k,c,e,z.sameBut hs (cne y c e)⟩
  ·obtain⟨w',z⟩:=I.cell y c e
   exact⟨w',z.sameBut hs (cne y c e)⟩
  ·obtain⟨e,n,ne,nf,d⟩:=I.pin p hp
   exact⟨(hs.2 p.1 ne).trans e,n,ne,nf,d⟩
 ·have D5:X.fn x=true:=by
   rcases hf with z|z
   ·exact z
   ·rw[z]at hk;cases hk
  obtain⟨c,hc⟩:=I.ok.has x (.inl hk)
  obtain⟨w',z⟩:=I.cell x c hc
  refine wpAny_storeName_cell I.ok.kind hk hc z (fun h' hc' hs=>?_)
  obtain⟨oc,hoc,hocd⟩:=id z
  refine h { s with heap:=h' } ⟨I.ok,I.os,I.bare,⟨fun b o e n hb hx=>?_,fun b o e n hb hx=>?_,I.base.free,fun b o e hx=>?_,I.base.tups,I.base.frzs,I.base.tbls⟩,⟨m,hn.sameBut hs (Ne.symm (cne x c hc)),fun j y v' e1 e2 e3=>?_⟩,fun y c' e=>?_,I.free,I.freeC,fun p hp=>?_,tracked ⟨oc,hoc,I.freeC x c hc⟩ hs,by simpa using I.len⟩ ⟨c,hs,.inr hc⟩
  ·exact(hs.2 b (aN (aK (ax e) (I.ok.cab x c D5 hc)))).trans (I.base.keep b o e n hb hx)
  ·obtain⟨sl,e1⟩:=I.base.slot b o e n hb hx
   exact⟨sl,(hs.2 b (aN (aK (ax e) (I.ok.cab x c D5 hc)))).trans e1⟩
  ·obtain⟨o',e1⟩:=I.base.there b o e hx
   exact⟨o',(hs.2 b (aN (aK (ax e) (I.ok.cab x c D5 hc)))).trans e1⟩
  ·by_cases hj:j=i
   ·subst hj
    rw[hi]at e1;cases e1
    rw[bP hiσ]at e2
    cases e2
    exact⟨u,r,.inr ⟨.inl hk,c,hc,hc'⟩⟩
   ·rw[cB (Ne.symm hj)]at e2
    obtain⟨u',r',q⟩:=hl j y v' e1 e2 e3
    refine⟨u',r',?_⟩
    rcases q with q|⟨k,c',e,z'⟩
    ·exact .inl q
    ·refine .inr ⟨k,c',e,z'.sameBut hs ?_⟩
     rintro rfl
     exact hj (xY hN e1 (I.ok.inj _ _ _ e hc▸hi))
  ·by_cases hcc:c'=c
   ·subst hcc;exact⟨_,hc'⟩
   ·obtain⟨w2,z2⟩:=I.cell y c' e
    exact⟨w2,z2.sameBut hs hcc⟩
  ·obtain⟨e,n,ne,nf,d⟩:=I.pin p hp
   refine⟨(hs.2 p.1 ?_).trans e,n,ne,nf,d⟩
   intro q
   rw[q,hoc]at e
   have q':oc=p.2:=a9 e
   exact d w' (by rw[<- q'];exact hocd)
theorem tD{M:Model}{A:Around}{E:Value->Shared->Prop}{v:V}{Q:Unit->Shared->Prop}(I:bE X af σ H s)(hN:X.N.Nodup)(hi:X.N[i]?=some x)(hx:Cq X.env.scope x)(r:cf v u)
  (h:∀s',bE X af (σ.set i (some v)) H s'->Q () s') (hf:X.fn x=true\/X.env.scope.names.lookup x=some .local:=by first|exact .inl rfl|exact .inr rfl|assumption):wpAny M A (storeName X.env x u) Q E s:=
 Cr I hN hi hx r (fun s' I' _=>h s' I') hf
theorem bE.call'{s':Shared}{ch:List Addr}(I:bE X af σ H s)(ho:s'.os=s.os)(u:Un (r_ X.stack) ch H H' s.heap s'.heap)(hok:kP X.prog X.w H' s'.heap)(hg:AllBare s'.gens)
  (HE:∀b∈ch,(b∈X.ex\/X.s₀.heap.objs.size<=b)/\b≠X.env.locals/\(∀x c,X.env.cells.lookup x=some c->c≠b)/\∀p∈X.pn++af,p.1≠b):bE X af σ H' s':=by
 obtain⟨h',g',d',t',o'⟩:=s'
 have e:o'=s.os:=ho
 subst e
 exact I.call (g':=g') (t':=t') (d':=d') u hok hg HE
end
abbrev XK:=Value->Option Addr->Hp->Prop
abbrev St:=List (Option V)
abbrev VK:=V->Hp->Prop
abbrev TE:=St->Hp->VK->Prop
abbrev TT:=St->Hp->(Bool->Hp->Prop)->Prop
abbrev TA:=St->Hp->(List V->Hp->Prop)->Prop
structure wc where
 nx:St->Hp->Prop
 rt:VK
 bk:St->Hp->Prop:=fun _ _=>False
 ct:St->Hp->Prop:=fun _ _=>False
abbrev TS:=wc->St->Hp->Prop
def EP(X:Cx)(af:List (Addr×Obj))(σ:St)(Q:VK)(u:Value)(s':Shared):Prop:=∃v H',bE X af σ H' s'/\cf v u/\Q v H'
def TP(X:Cx)(af:List (Addr×Obj))(σ:St)(Q:Bool->Hp->Prop)(b:Bool)(s':Shared):Prop:=∃H',bE X af σ H' s'/\Q b H'
def AP(X:Cx)(af:List (Addr×Obj))(σ:St)(Q:List V->Hp->Prop)(us:List Value)(s':Shared):Prop:=∃vs H',bE X af σ H' s'/\cA vs us/\Q vs H'
def SP(X:Cx)(af:List (Addr×Obj))(D:wc)(f:Flow)(s':Shared):Prop:=
 match f with
 |.next=>∃σ' H',bE X af σ' H' s'/\D.nx σ' H'
 |.brk=>∃σ' H',bE X af σ' H' s'/\D.bk σ' H'
 |.cont=>∃σ' H',bE X af σ' H' s'/\D.ct σ' H'
 |.ret u=>∃v σ' H',bE X af σ' H' s'/\cf v u/\D.rt v H'
def PE(X:Cx)(e:Expr)(t:TE):Prop:=
 ∀(af:List (Addr×Obj)) (s:Shared) (σ:St) (H:Hp) (Q:VK),bE X af σ H s->t σ H Q->wpAny (model X.prog X.w) X.A (eval e X.env) (EP X af σ Q) X.xe s
def PT(X:Cx)(e:Expr)(t:TT):Prop:=
 ∀(af:List (Addr×Obj)) (s:Shared) (σ:St) (H:Hp) (Q:Bool->Hp->Prop),bE X af σ H s->t σ H Q->wpAny (model X.prog X.w) X.A (isTrue e X.env (eval e X.env)) (TP X af σ Q) X.xe s
def PW(X:Cx)(e:Expr)(t:TT):Prop:=
 ∀(uL:Sem Value) (af:List (Addr×Obj)) (s:Shared) (σ:St) (H:Hp) (Q:Bool->Hp->Prop),bE X af σ H s->t σ H Q->wpAny (model X.prog X.w) X.A (isTrue e X.env uL) (TP X af σ Q) X.xe s
theorem PW.pt{X:Cx}{t:TT}(h:PW X e t):PT X e t:=h _
def PA(X:Cx)(es:List Expr)(t:TA):Prop:=
 ∀(pos:Pos) (af:List (Addr×Obj)) (s:Shared) (σ:St) (H:Hp) (Q:List V->Hp->Prop),bE X af σ H s->t σ H Q->wpAny (model X.prog X.w) X.A (spliced (backTo pos (starEach es X.env))) (AP X af σ Q) X.xe s
def PS(X:Cx)(st:Stmt)(t:TS):Prop:=
 ∀(af:List (Addr×Obj)) (s:Shared) (σ:St) (H:Hp) (D:wc),bE X af σ H s->t D σ H->wpAny (model X.prog X.w) X.A (exec st X.env) (SP X af D) X.xe s
def Cs(X:Cx)(st:List Stmt)(t:TS):Prop:=
 ∀(af:List (Addr×Obj)) (s:Shared) (σ:St) (H:Hp) (D:wc),bE X af σ H s->t D σ H->wpAny (model X.prog X.w) X.A (execs st X.env) (SP X af D) X.xe s
theorem hW{t:Sem α}{Q Q':α->Shared->Prop}(h:wpAny M A t Q E s)(hQ:∀a s,Q a s->Q' a s):wpAny M A t Q' E s:=dJ h hQ fun _ _ x=>x
section
variable{X:Cx}
def Pl(i:Nat):TE:=fun σ H Q=>∃v,σ[i]?=some (some v)/\Q v H
def tC(v:V):TE:=fun _ H Q=>Q v H
theorem Ml{pos:Pos}(hN:X.N[i]?=some x)(hv:Kv X.env.scope x)(hd:(x==("__debug__":Str))=false:=by decide)(om:(x==("__classdict__":Str))=false:=by decide):PE X (.Name x pos) (Pl i):=by
 intro af s σ H Q I h
 obtain⟨v,e,h⟩:=h
 obtain⟨m,hn,hl⟩:=I.loc
 obtain⟨u,r,l⟩:=hl i x v hN e hv
 have lj:EP X af σ Q u s:=⟨v,H,I,r,h⟩
 rcases l with⟨hk,hm⟩|⟨hk,c,hc,iP⟩
 ·exact wpAny_Name (wpAny_loadName_local I.ok.kind hk hn hm lj) hd
 ·rcases hk with hk|hk
  ·exact wpAny_Name (wpAny_loadName_cell I.ok.kind hk hc iP lj) hd
  ·exact wpAny_Name (wpAny_loadName_free I.ok.kind hk hc iP lj om) hd
theorem Mm{i j pos}:PE X (.Constant (.int i) j pos) (tC (.int i)):=fun _ _ _ H _ I h=>lq ⟨.int i,H,I.tok _,⟨_,rfl⟩,h⟩
theorem Pm{b j pos}:PE X (.Constant (.bool b) j pos) (tC (.bl b)):=fun _ _ _ H _ I h=>Constant_bool ⟨.bl b,H,I,rfl,h⟩
theorem D_{x j pos}:PE X (.Constant (.str x) j pos) (tC (.str x)):=fun _ _ _ H _ I h=>Calls.Constant_str ⟨.str x,H,I.tok _,⟨_,rfl⟩,h⟩
def Gl(X:Cx)(x:Str):Prop:=X.env.kindOf x=some .globalImplicit
theorem qg{E:Value->Shared->Prop}{σ:St}{H:Hp}{pos:Pos}(I:bE X af σ H s)(hg:Gl X x)(hm:X.mg x=some u)(h:Q u s)
  (hd:(x==("__debug__":Str))=false:=by decide):wpAny (model X.prog X.w) X.A (eval (.Name x pos) X.env) Q E s:=
 lr I.ok.kind hg (Calls.loadGlobal_global (by rw[I.ok.glob];exact I.mod.glob.keeps I.bk) hm h) hd
theorem mV{E:Value->Shared->Prop}{σ:St}{H:Hp}{pos:Pos}(I:bE X af σ H s)(hg:Gl X x)(hm:X.mg x=none)(hv:bootBuiltins x=some u)(h:Q u s)
  (hn:x ≠ "__name__":=by decide) (hd:(x==("__debug__":Str))=false:=by decide):wpAny (model X.prog X.w) X.A (eval (.Name x pos) X.env) Q E s:=by
 obtain⟨mb,h1,h2⟩:=I.mod.blt
 exact lr I.ok.kind hg (Calls.loadGlobal_builtin (by rw[I.ok.glob];exact I.mod.glob.keeps I.bk) hm (by rw[I.ok.blt];exact h1.keeps I.bk) ((h2 x hn).trans hv) h) hd
theorem HH{v:V}{pos:Pos}(hg:Gl X x)(hm:X.mg x=some u)(r:cf v u)(hd:(x==("__debug__":Str))=false:=by decide):PE X (.Name x pos) (tC v):=
 fun _ _ _ H _ I h=>qg I hg hm ⟨v,H,I,r,h⟩ hd
theorem HI{v:V}{pos:Pos}(hg:Gl X x)(hm:X.mg x=none)(hv:bootBuiltins x=some u)(r:cf v u)(hn:x ≠ "__name__":=by decide)(hd:(x==("__debug__":Str))=false:=by decide):PE X (.Name x pos) (tC v):=
 fun _ _ _ H _ I h=>mV I hg hm hv ⟨v,H,I,r,h⟩ hn hd
variable{a b:Expr}{ta tb:TE}
def tB(t:TE):TT:=fun σ H Q=>t σ H fun x H1=>∃c,x=.bl c/\Q c H1
theorem Mn{t:TE}(h:PE X e t)(he:∀uL,isTrue e X.env uL=(do let v <- uL;standAt e.pos;holding [v] (truthy v)):=by intro _;rfl):PT X e (tB t):=by
 intro af s σ H Q I hw
 refine isTrue_plain (hW (h af s σ H _ I hw) fun v s1 ⟨x,H1,I1,r1,q1⟩=>?_) (he _)
 obtain⟨d,rfl,q⟩:=q1
 cases r1
 exact dL ⟨H1,I1,q⟩
variable{tA Uh:TT}{dQ:List Expr}
def UL(t u:TT):TT:=fun σ H Q=>t σ H fun c H1=>if c=true then Q true H1 else u σ H1 Q
def Te(t:TT):TT:=fun σ H Q=>t σ H fun c H1=>Q (!c) H1
theorem Mo(ha:PT X a tA):PW X (.BoolOp .Or [a] pos) tA:=by
 intro wh af s σ H Q I h
 refine isTrue_or (hW (ha af s σ H Q I h) fun c s1 e=>?_)
 cases c with
 |false=>exact isTrue_or_nil e
 |true=>exact e
theorem Pn(ha:PT X a tA)(hb:PW X (.BoolOp .Or (b::dQ) pos) Uh):PW X (.BoolOp .Or (a::b::dQ) pos) (UL tA Uh):=by
 intro wh af s σ H Q I h
 refine isTrue_or (hW (ha af s σ H _ I h) fun c s1 ⟨H1,I1,q1⟩=>?_)
 cases c with
 |true=>exact⟨H1,I1,q1⟩
 |false=>exact hb wh af s1 σ H1 Q I1 q1
theorem Mp(ha:PT X a tA):PT X (.UnaryOp .Not a pos) (Te tA):=by
 intro af s σ H Q I h
 exact isTrue_not (ha af s σ H (fun c H1=>Q (!c) H1) I h)
def Po(ta tb:TE):TE:=fun σ H Q=>ta σ H fun x H1=>∃c,x=.bl c/\if c=true then tb σ H1 Q else Q (.bl false) H1
def Tf(ta tb:TE):TE:=fun σ H Q=>ta σ H fun x H1=>∃c,x=.bl c/\if c=true then Q (.bl true) H1 else tb σ H1 Q
def Pp(ta:TE):TE:=fun σ H Q=>ta σ H fun x H1=>∃c,x=.bl c/\Q (.bl (!c)) H1
theorem Mq{op}{t:TE}(h:PE X a t):PE X (.BoolOp op [a] pos) t:=fun af s σ H Q I hw=>BoolOp_one (h af s σ H Q I hw)
theorem Mr(ha:PE X a ta)(hb:PE X (.BoolOp .And (b::dQ) pos) tb):PE X (.BoolOp .And (a::b::dQ) pos) (Po ta tb):=by
 intro af s σ H Q I h
 refine BoolOp_and (hW (ha af s σ H _ I h) fun v s1 ⟨x,H1,I1,r1,q1⟩=>?_)
 obtain⟨c,rfl,q1⟩:=q1
 cases r1
 refine dL ?_
 cases c with
 |true=>exact hb af s1 σ H1 Q I1 q1
 |false=>exact⟨.bl false,H1,I1,rfl,q1⟩
theorem Pq(ha:PE X a ta)(hb:PE X (.BoolOp .Or (b::dQ) pos) tb):PE X (.BoolOp .Or (a::b::dQ) pos) (Tf ta tb):=by
 intro af s σ H Q I h
 refine BoolOp_or (hW (ha af s σ H _ I h) fun v s1 ⟨x,H1,I1,r1,q1⟩=>?_)
 obtain⟨c,rfl,q1⟩:=q1
 cases r1
 refine dL ?_
 cases c with
 |false=>exact hb af s1 σ H1 Q I1 q1
 |true=>exact⟨.bl true,H1,I1,rfl,q1⟩
theorem Mt(ha:PE X a ta):PE X (.UnaryOp .Not a pos) (Pp ta):=by
 intro af s σ H Q I h
 refine UnaryOp_ (hW (ha af s σ H _ I h) fun v s1 ⟨x,H1,I1,r1,q1⟩=>?_)
 obtain⟨c,rfl,q1⟩:=q1
 cases r1
 exact not_of (dL ⟨.bl (!c),H1,I1,rfl,q1⟩)
def UM(t:TT)(ta tb:TE):TE:=fun σ H Q=>t σ H fun c H1=>if c=true then ta σ H1 Q else tb σ H1 Q
theorem D'(hc:PT X c tA)(ha:PE X a ta)(hb:PE X b tb):PE X (.IfExp c a b pos) (UM tA ta tb):=by
 intro af s σ H Q I h
 refine wpAny_IfExp (hW (hc af s σ H _ I h) fun d s1 ⟨H1,I1,q1⟩=>?_)
 cases d with
 |true=>exact ha af s1 σ H1 Q I1 q1
 |false=>exact hb af s1 σ H1 Q I1 q1
end
def nG(K:Frag)(H:Hp)(a:Addr)(xs:List V):Prop:=
 Rd H a (.lst xs) \/
  ∃(o:Obj) (its:Array Value) (n:Nat),K.lookup a=some o/\o.cls=.type "list"/\o.dict=none/\o.data=.seq its n/\its.size<=sizeLine/\cA xs its.toList
def fj(K:Frag)(H:Hp)(a:Addr)(xs:List V):Prop:=
 Rd H a (.tup xs) \/
  ∃(o:Obj) (its:Array Value) (n:Nat),K.lookup a=some o/\o.cls=.type "tuple"/\o.data=.seq its n/\its.size<=sizeLine/\cA xs its.toList
def Tg:Value->Option V
 |.none=>some .non
 |.bool b=>some (.bl b)
 |.int i _=>some (.int i)
 |.str x _=>some (.str x)
 |.bytes b _=>some (.byt b)
 |.float b _=>some (.flt b)
 |.ref a=>some (.ref a)
 |.type n=>some (.ty n)
 |_=>none
theorem cf.abs{x:V}(r:cf x u):Tg u=some x:=by
 cases x with
 |non=>cases r;rfl
 |bl _=>cases r;rfl
 |int _=>obtain⟨t,rfl⟩:=r;rfl
 |str _=>obtain⟨t,rfl⟩:=r;rfl
 |byt _=>obtain⟨t,rfl⟩:=r;rfl
 |flt _=>obtain⟨t,rfl⟩:=r;rfl
 |ref _=>cases r;rfl
 |ty _=>cases r;rfl
theorem cf.inj{x y:V}(r:cf x u)(q:cf y u):x=y:=a9 (r.abs.symm.trans q.abs)
theorem cA.inj:∀{xs ys:List V} {us:List Value},cA xs us->cA ys us->xs=ys
 |_,_,_,.nil,.nil=>rfl
 |_,_,_,.cons r t,.cons r' t'=>by rw[r.inj r',cA.inj t t']
section
variable{X:Cx}{σ:St}{H:Hp}{xs ys:List V}
theorem nG.of(h:H a=some (.lst xs)):nG K H a xs:=.inl (.inl h)
theorem fj.of(h:H a=some (.tup xs)):fj K H a xs:=.inl (.inl h)
theorem bE.list(I:bE X af σ H s)(h:nG X.K H a xs):∃its:List Value,cA xs its/\PlainL s.heap a its.toArray/\xs.length<=sizeLine:=by
 rcases h with h|⟨o,its,n,hk,hc,hd,hs,hz,r⟩
 ·obtain⟨z,its,n,r,e⟩:=h.ok I.hok
  exact⟨its,r,⟨_,n,e,rfl,rfl,rfl⟩,z⟩
 ·refine⟨its.toList,r,⟨o,n,I.kIn a o hk,hc,hd,by simpa using hs⟩,?_⟩
  have e:=r.length
  simp only[da]at e
  omega
theorem bE.tuple(I:bE X af σ H s)(h:fj X.K H a xs):∃its:List Value,cA xs its/\IsTup s.heap a its.toArray/\xs.length<=sizeLine:=by
 rcases h with h|⟨o,its,n,hk,hc,hs,hz,r⟩
 ·obtain⟨z,its,r,p⟩:=h.ok I.hok
  exact⟨its,r,p,z⟩
 ·refine⟨its.toList,r,⟨o,I.kIn a o hk,hc,n,by simpa using hs⟩,?_⟩
  have e:=r.length
  simp only[da]at e
  omega
theorem bE.list_inj(I:bE X af σ H s)(h:nG X.K H a xs)(h':nG X.K H a ys):xs=ys:=by
 obtain⟨its,r,⟨o,n,e,_,_,d⟩,_⟩:=I.list h
 obtain⟨its',r',⟨o',n',e',_,_,d'⟩,_⟩:=I.list h'
 rw[e]at e';cases e'
 rw[d]at d'
 injection d' with d1 _
 have:its=its':=by simpa using eY Array.toList d1
 subst this
 exact r.inj r'
theorem bE.tuple_inj(I:bE X af σ H s)(h:fj X.K H a xs)(h':fj X.K H a ys):xs=ys:=by
 obtain⟨its,r,⟨o,e,_,n,d⟩,_⟩:=I.tuple h
 obtain⟨its',r',⟨o',e',_,n',d'⟩,_⟩:=I.tuple h'
 rw[e]at e';cases e'
 rw[d]at d'
 injection d' with d1 _
 have:its=its':=by simpa using eY Array.toList d1
 subst this
 exact r.inj r'
end
section
variable{X:Cx}{σ:St}{H:Hp}
end
section
variable{X:Cx}{st:Stmt}{dQ:List Stmt}{t u:TS}{te:TE}
def Ps:TS:=fun D σ H=>D.nx σ H
def Ti(t u:TS):TS:=fun D σ H=>t { D with nx:=u D } σ H
theorem HJ:Cs X [] Ps:=fun _ _ σ H _ I h=>ko ⟨σ,H,I,h⟩
theorem Ea(h1:PS X st t)(h2:Cs X dQ u):Cs X (st::dQ) (Ti t u):=by
 intro af s σ H D I h
 refine iA (hW (h1 af s σ H { D with nx:=u D } I h) fun f s1 q=>?_)
 cases f with
 |next=>
  obtain⟨σ',H',I',q⟩:=q
  exact h2 af s1 σ' H' D I' q
 |ret v=>exact q
 |brk=>exact q
 |cont=>exact q
theorem HK(h1:PS X st t):Cs X [st] t:=by
 intro af s σ H D I h
 refine iA (hW (h1 af s σ H D I h) fun f s1 q=>?_)
 cases f with
 |next=>exact ko q
 |ret v=>exact q
 |brk=>exact q
 |cont=>exact q
theorem bE.quiet{σ:St}{H:Hp}(I:bE X af σ H s):interactive X.env=false:=by simp[interactive,I.ok.kind]
def Pu(te:TE):TS:=fun D σ H=>te σ H fun _ H1=>D.nx σ H1
theorem HL(he:PE X e te)(hs:swapsWith e none pos.line X.env=pure false:=by rfl):PS X (.Expr e pos) (Pu te):=by
 intro af s σ H D I h
 exact wpAny_Expr_any (hW (he af s σ H _ I h) fun v s1 ⟨x,H1,I1,r1,q1⟩=>⟨σ,H1,I1,q1⟩) I.quiet hs
def Tj(te:TE):TS:=fun D σ H=>te σ H D.rt
theorem Mu(he:PE X e te):PS X (.Return (some e) pos) (Tj te):=by
 intro af s σ H D I h
 exact wpAny_Return_some (hW (he af s σ H _ I h) fun v s1 ⟨x,H1,I1,r1,q1⟩=>⟨x,σ,H1,I1,r1,q1⟩)
def Tk(c:TT)(t u:TS):TS:=fun D σ H=>c σ H fun b H1=>if b=true then t D σ H1 else u D σ H1
theorem Pv{a b:List Stmt}{tc:TT}(hc:PT X c tc)(ha:Cs X a t)(hb:Cs X b u):PS X (.If c a b pos) (Tk tc t u):=by
 intro af s σ H D I h
 refine wpAny_If (hW (hc af s σ H _ I h) fun d s1 ⟨H1,I1,q1⟩=>?_)
 cases d with
 |true=>exact ha af s1 σ H1 D I1 q1
 |false=>exact hb af s1 σ H1 D I1 q1
end
abbrev TG:=V->St->Hp->(St->Hp->Prop)->Prop
abbrev HM:=List V->St->Hp->(St->Hp->Prop)->Prop
def PG(X:Cx)(OZ:Expr)(t:TG):Prop:=
 ∀(af:List (Addr×Obj)) (s:Shared) (σ:St) (H:Hp) (v:V) (u:Value) (Q:St->Hp->Prop),bE X af σ H s->cf v u->t v σ H Q ->
  wpAny (model X.prog X.w) X.A (assign OZ X.env u) (fun _ s'=>∃σ' H',bE X af σ' H' s'/\Q σ' H') X.xe s
def Kw(X:Cx)(ts:List Expr)(t:HM):Prop:=
 ∀(af:List (Addr×Obj)) (s:Shared) (σ:St) (H:Hp) (vs:List V) (us:List Value) (Q:St->Hp->Prop),bE X af σ H s->cA vs us->t vs σ H Q ->
  wpAny (model X.prog X.w) X.A (assignInOrder ((assignEach ts X.env).map (·.2)) us) (fun _ s'=>∃σ' H',bE X af σ' H' s'/\Q σ' H') X.xe s
abbrev HN:=V->V->V->Hp->(Hp->Prop)->Prop
def HP(X:Cx)(t:HN):Prop:=
 ∀(af:List (Addr×Obj)) (s:Shared) (σ:St) (H:Hp) (o i v:V) (ov iv u:Value) (Q:Hp->Prop),bE X af σ H s->cf o ov->cf i iv->cf v u->t o i v H Q ->
  wpAny (model X.prog X.w) X.A (setItem ov iv u) (fun _ s'=>∃H',bE X af σ H' s'/\Q H') X.xe s
section
variable{X:Cx}
def Kx(i:Nat):TG:=fun v σ H Q=>Q (σ.set i (some v)) H
theorem HQ(hN:X.N.Nodup)(hi:X.N[i]?=some x)(hx:Cq X.env.scope x)(hf:X.fn x=true\/X.env.scope.names.lookup x=some .local:=by first|exact .inl rfl|exact .inr rfl|assumption):PG X (.Name x pos) (Kx i):=by
 intro af s σ H v u Q I r h
 exact wpAny_assign_Name (tD I hN hi hx r (fun s' I'=>⟨_,H,I',h⟩) hf)
def Tl:HM:=fun vs σ H Q=>vs=[]/\Q σ H
def Pw(t:TG)(u:HM):HM:=fun vs σ H Q=>∃v r,vs=v::r/\t v σ H fun σ' H'=>u r σ' H' Q
theorem HR:Kw X [] Tl:=by
 intro af s σ H vs us Q I r h
 obtain⟨e,h⟩:=h
 subst e
 cases r
 exact assignInOrder_nil ⟨σ,H,I,h⟩
theorem Eb{t:TG}{u:HM}(h1:PG X e t)(h2:Kw X es u)
  (hs:(assignEach (e::es) X.env).map (·.2)=assign e X.env::(assignEach es X.env).map (·.2):=by rfl):Kw X (e::es) (Pw t u):=by
 intro af s σ H vs us Q I r h
 obtain⟨v,vr,e1,h⟩:=h
 subst e1
 cases r with
 |cons r rr=>
  rw[hs]
  refine assignInOrder_cons (hW (h1 af s σ H _ _ _ I r h) fun _ s1 ⟨σ1,H1,I1,q1⟩=>?_)
  exact h2 af s1 σ1 H1 _ _ Q I1 rr q1
def Tn(K:Frag)(n:Nat)(t:HM):TG:=fun v σ H Q=>∃a xs,v=.ref a/\fj K H a xs/\xs.length=n/\t xs σ H Q
theorem Mv{k:Nat}{t:HM}(hc:X.calm=true)(h:Kw X es t)
  (hn:(assignEach es X.env).length=n:=by rfl) (uO:(assignEach es X.env).findIdx? (·.1)=none:=by rfl):PG X (.Tuple es k pos) (Tn X.K n t):=by
 intro af s σ H v u Q I r hw
 obtain⟨a,xs,e1,hq,hl,hw⟩:=hw
 subst e1
 cases r
 obtain⟨its,rv,ht,hz⟩:=I.tuple hq
 refine assign_Tuple_tuple (I.ok.hd hc) ht (by simp[hn,<- hl,rv.length]) uO fun h' hx=>?_
 have I1:bE X af σ H { s with heap:=h' }:=I.kept (t':=s.toks) fun b o e=>hx b o (aN (ax e)) e
 exact h af _ σ H xs _ Q I1 (by simpa using rv) hw
def To(to ti:TE)(t:HN):TG:=fun v σ H Q=>to σ H fun o H1=>ti σ H1 fun i H2=>t o i v H2 fun H3=>Q σ H3
theorem Mw{o i:Expr}{to ti:TE}{t:HN}(ho:PE X o to)(hi:PE X i ti)(hs:HP X t)
  (ha:∀v,assign (.Subscript o i pos) X.env v=(do
   let ov <- holding [v] (eval o X.env)
   let iv <- holding [v,ov] (eval i X.env)
   standAt pos
   holding [v,ov,iv] (setItem ov iv v)
   release [v,ov,iv] []):=by intro _;rfl):PG X (.Subscript o i pos) (To to ti t):=by
 intro af s σ H v u Q I r h
 rw[ha]
 refine aa (cx (hW (ho af s σ H _ I h) fun ov s1 ⟨x,H1,I1,r1,q1⟩=>?_))
 refine aa (cx (hW (hi af s1 σ H1 _ I1 q1) fun iv s2 ⟨y,H2,I2,r2,q2⟩=>?_))
 refine aa (pI (aa (cx (hW (hs af s2 σ H2 x y v ov iv u _ I2 r1 r2 r q2) fun _ s3 ⟨H3,I3,q3⟩=>?_))))
 exact wpAny_release ⟨σ,H3,I3,q3⟩
def Ec(te:TE)(g:TG):TS:=fun D σ H=>te σ H fun x H1=>g x σ H1 D.nx
theorem Ed{te:TE}{g:TG}(he:PE X e te)(hg:PG X tg g)(hs:swapsWithSole [tg] e pos.line X.env=pure false:=by rfl)(hw:swappedStores [tg] e X.env=pure none:=by rfl)
  (h1:(assignEach [tg] X.env).map (·.2)=[assign tg X.env]:=by rfl):PS X (.Assign [tg] e pos) (Ec te g):=by
 intro af s σ H D I h
 refine wpAny_Assign_stores (hW (he af s σ H _ I h) fun v s1 ⟨x,H1,I1,r1,q1⟩=>?_) hs hw
 rw[h1]
 exact hW (hg af s1 σ H1 x v _ I1 r1 q1) fun _ s2 q=>q
theorem Mx{te:TE}{nq:Pos}(hN:X.N.Nodup)(hi:X.N[i]?=some x)(hx:Cq X.env.scope x)(he:PE X e te)(hs:swapsWith e (some (.Name x nq)) pos.line X.env=pure false:=by rfl)(hf:X.fn x=true\/X.env.scope.names.lookup x=some .local:=by first|exact .inl rfl|exact .inr rfl|assumption) :
  PS X (.Assign [.Name x nq] e pos) (Ec te (Kx i)):=by
 intro af s σ H D I h
 refine wpAny_Assign_Name (hW (he af s σ H _ I h) fun v s1 ⟨y,H1,I1,r1,q1⟩=>?_) hs
 exact tD I1 hN hi hx r1 (fun s2 I2=>⟨_,H1,I2,q1⟩) hf
end
section
variable{X:Cx}
def Ee(c:TT)(tb:TS):TS:=fun D σ H=>∃W:Nat->St->Hp->Prop,(∃m,W m σ H)/\∀m σ H,W m σ H ->
 c σ H fun b H1=>if b=true then ∃N:St->Hp->Prop,(∀σ' H',N σ' H'->∃m',m'<m/\W m' σ' H')/\tb { D with nx:=N,ct:=N,bk:=D.nx } σ H1 else D.nx σ H1
theorem Ef{tc:TT}{tb:TS}(hp:PassesOwn (model X.prog X.w) X.A X.env X.xe)(hc:PT X c tc)(hb:Cs X body tb):PS X (.While c body [] pos) (Ee tc tb):=by
 intro af s σ H D I h
 obtain⟨W,⟨m0,w0⟩,turn⟩:=h
 refine wpAny_While (codeAny_whileLoop (fun n s'=>∃σ' H',bE X af σ' H' s'/\W n σ' H') ?_ m0 ⟨σ,H,I,w0⟩)
 rintro n s1 ⟨σ1,H1,I1,w1⟩
 refine fS hp (hW (hc af s1 σ1 H1 _ I1 (turn n σ1 H1 w1)) fun b s2 ⟨H2,I2,q2⟩=>?_)
 cases b with
 |true=>
  obtain⟨N,hN,q2⟩:=q2
  rw[av rfl]
  refine fS hp (hW (hb af s2 σ1 H2 _ I2 q2) fun f s3 q3=>?_)
  cases f with
  |next=>
   obtain⟨σ3,H3,I3,n3⟩:=q3
   obtain⟨m',hm,w3⟩:=hN σ3 H3 n3
   exact⟨m',hm,σ3,H3,I3,w3⟩
  |cont=>
   obtain⟨σ3,H3,I3,n3⟩:=q3
   obtain⟨m',hm,w3⟩:=hN σ3 H3 n3
   exact⟨m',hm,σ3,H3,I3,w3⟩
  |brk=>exact q3
  |ret v=>exact q3
 |false=>
  rw[az bK]
  exact ko ⟨σ1,H2,I2,q2⟩
end
structure It where
 go:Nat->Hp->Prop
 yld:Nat->Hp->V->Hp->Prop
 stop:Nat->Hp->Prop
def tF(X:Cx)(af:List (Addr×Obj))(H:Hp)(b:Addr):Prop:=
 H b=none/\b≠X.env.locals/\b∉X.fs/\(b∈X.ex\/X.s₀.heap.objs.size<=b)/\(∀x c,X.env.cells.lookup x=some c->c≠b)/\∀p∈X.pn++af,p.1≠b
theorem bE.fpOk{X:Cx}{σ:St}{H H':Hp}(I:bE X af σ H s)(hb:s.heap.objs.size<=b)(hn:H' b=none):tF X af H' b:=by
 refine⟨hn,eB (aK I.lt hb),I.nofs hb,.inr (bd I.sz hb),fun x c e z=>?_,fun p hp z=>?_⟩
 ·obtain⟨v,q⟩:=I.cell x c e
  exact absurd (aK q.lt (by rw[z];exact hb)) (cw _)
 ·exact absurd (aK (ax (I.pin p hp).1) (by rw[z];exact hb)) (cw _)
structure we(P:Program)(w:World)(K:Frag)(tg:Expr)(J:It)(fp:List Addr)(it:Addr)(tn:Nat->Heap->Prop):Prop where
 mem:it∈fp
 obj:∀i h,tn i h->∀b∈fp,∃o,h.get? b=some o/\∀v,o.data≠.cell v
 keep:∀i h h',tn i h->(∀b∈fp,∀o,h.get? b=some o->h'.get? b=some o)->tn i h'
 item:∀(X:Cx),X.prog=P->X.w=w->X.K=K->X.calm=true->∀(i:Nat) (af:List (Addr×Obj)) (s:Shared) (σ:St) (H:Hp) (E:Value->Shared->Prop),bE X af σ H s->(∀b∈fp,tF X af H b)->tn i s.heap->J.go i H ->
  wpAny (model P w) X.A (pyNext (.ref it)) (fun r s1=>∃u,r=some u /\
   wpAny (model P w) X.A (letOwnedTupleGo tg (.ref it) u) (fun _ s2=>∃x H',bE X af σ H' s2/\cf x u/\J.yld i H x H'/\tn (i+1) s2.heap/\∀b∈fp,H' b=none) E s1) E s
 done:∀(X:Cx),X.prog=P->X.w=w->X.K=K->X.calm=true->∀(i:Nat) (af:List (Addr×Obj)) (s:Shared) (σ:St) (H:Hp) (E:Value->Shared->Prop),bE X af σ H s->(∀b∈fp,tF X af H b)->tn i s.heap->J.stop i H ->
  wpAny (model P w) X.A (pyNext (.ref it)) (fun r s1=>r=none/\bE X af σ H s1) E s
 self:∀(A:Around) (i:Nat) (s:Shared) (Q:Value->Shared->Prop) (E:Value->Shared->Prop),tn i s.heap->Q (.ref it) s->wpAny (model P w) A (pyIter (.ref it)) Q E s
abbrev TI:=St->Hp->(It->Hp->Prop)->Prop
def Sx(X:Cx)(af:List (Addr×Obj))(σ:St)(tg:Expr)(R:It->Hp->Prop)(Uk:Value)(s2:Shared):Prop:=
 ∃(it:Addr) (fp:List Addr) (tn:Nat->Heap->Prop) (J:It) (H':Hp),Uk=.ref it/\bE X af σ H' s2/\we X.prog X.w X.K tg J fp it tn/\tn 0 s2.heap/\(∀b∈fp,tF X af H' b)/\R J H'
def PI(X:Cx)(tg b9:Expr)(wi:TI):Prop:=
 ∀(af:List (Addr×Obj)) (s:Shared) (σ:St) (H:Hp) (R:It->Hp->Prop),bE X af σ H s->wi σ H R ->
  wpAny (model X.prog X.w) X.A (eval b9 X.env) (fun v s1=>wpAny (model X.prog X.w) X.A (pyIter v) (Sx X af σ tg R) X.xe s1) X.xe s
theorem xZ      {E:Value -> Shared -> Prop} {s:Shared}     {n:String} {vs:Array Value} {Q:Unit -> Shared -> Prop} (ho : s.heap.get? it = some o) (hc : o.cls = .type n) (hd : o.data = .fields vs)
    (hn : ["enumerate", "zip", "dict_itemiterator", "dict_reverseitemiterator", "odict_iterator", "itertools.zip_longest", "itertools.pairwise"].contains n = false) (hQ : Q () s) : wpAny M A (letOwnedTupleGo tg (.ref it) u) Q E s := by
  unfold letOwnedTupleGo
  cases tg <;> first
    | exact ae         hQ
    | (cases u <;> first
        | exact ae         hQ
        | (refine aa         (wpAny_load ho ?_)
           rw [hc, hd]
           show wpAny M A (if (["enumerate", "zip", "dict_itemiterator", "dict_reverseitemiterator", "odict_iterator", "itertools.zip_longest", "itertools.pairwise"].contains n && vs[0]? == some (rawInt _)) = true then _ else _) Q E s
           rw [az     (by intro h; rw [hn, Bool.false_and] at h; cases h)]
           exact ae         hQ))
def Um(K:Frag)(a:Addr):It:=
 ⟨fun i H=>∃xs x,nG K H a xs/\xs[i]?=some x,fun i H x H'=>H'=H/\∀xs,nG K H a xs->xs[i]?=some x,fun i H=>∃xs,nG K H a xs/\xs.length<=i⟩
def Uo(K:Frag)(a:Addr):It:=
 ⟨fun i H=>∃xs x,fj K H a xs/\xs[i]?=some x,fun i H x H'=>H'=H/\∀xs,fj K H a xs->xs[i]?=some x,fun i H=>∃xs,fj K H a xs/\xs.length<=i⟩
def Sy(lo:Int)(n:Nat):It:=⟨fun i _=>i<n,fun i H x H'=>H'=H/\x=.int (lo+i),fun i _=>n<=i⟩
theorem Ct{w:World}(a it:Addr):we P w K tg (Um K a) [it] it (fun i h=>h.IsListIter it a i) where
 mem:=by simp
 obj:=fun i h st b hb=>by
  have e:b=it:=by simpa using hb
  subst e
  obtain⟨o,e,c,d⟩:=st
  exact⟨o,e,fun v z=>by rw[d]at z;cases z⟩
 keep:=fun i h h' st k=>st.at fun o e=>k it (by simp) o e
 item:=by
  intro X hP hw hK hc i af s σ H E I hf st hg
  subst hP hw hK
  obtain⟨xs,x,hq,hx⟩:=hg
  obtain⟨its,rv,p,hz⟩:=I.list hq
  obtain⟨u,hu,ru⟩:=rv.get hx
  obtain⟨f0,f1,f2,f3,f4,f5⟩:=hf it (by simp)
  refine nu st p.isList (x:=u) (by simpa using hu) fun h' bD sb=>?_
  have I1:bE X af σ H { s with heap:=h' }:=I.turned (t':=s.toks) (fun b o hb e=>(sb.2 b hb).trans e) f0 f1 f3 f4 f5
  obtain⟨o,e,c,d⟩:=id bD
  exact⟨u,rfl,xZ (s:={ s with heap:=h' }) e c d (by decide) ⟨x,H,I1,ru,⟨rfl,fun ys hy=>by rw[I.list_inj hy hq];exact hx⟩,bD,fun b hb=>(hf b hb).1⟩⟩
 done:=by
  intro X hP hw hK hc i af s σ H E I hf st hg
  subst hP hw hK
  obtain⟨xs,hq,hx⟩:=hg
  obtain⟨its,rv,p,hz⟩:=I.list hq
  obtain⟨f0,f1,f2,f3,f4,f5⟩:=hf it (by simp)
  have hl:=rv.length
  exact nV (I.ok.hd hc) st p.isList (by simp;omega) fun h' eb=>⟨rfl,I.turned (t':=s.toks) (fun b o hb e=>eb b o hb e) f0 f1 f3 f4 f5⟩
 self:=fun _ _ _ _ _ st h=>wpAny_pyIter_listiter st h
theorem z_{w:World}(a it:Addr):we P w K tg (Uo K a) [it] it (fun i h=>h.IsTupleIter it a i) where
 mem:=by simp
 obj:=fun i h st b hb=>by
  have e:b=it:=by simpa using hb
  subst e
  obtain⟨o,e,c,d⟩:=st
  exact⟨o,e,fun v z=>by rw[d]at z;cases z⟩
 keep:=fun i h h' st k=>st.at fun o e=>k it (by simp) o e
 item:=by
  intro X hP hw hK hc i af s σ H E I hf st hg
  subst hP hw hK
  obtain⟨xs,x,hq,hx⟩:=hg
  obtain⟨its,rv,p,hz⟩:=I.tuple hq
  obtain⟨u,hu,ru⟩:=rv.get hx
  obtain⟨f0,f1,f2,f3,f4,f5⟩:=hf it (by simp)
  refine wpAny_pyNext_tuple_item st (show s.heap.IsTuple a its.toArray from p) (x:=u) (by simpa using hu) fun h' bD sb=>?_
  have I1:bE X af σ H { s with heap:=h' }:=I.turned (t':=s.toks) (fun b o hb e=>(sb.2 b hb).trans e) f0 f1 f3 f4 f5
  obtain⟨o,e,c,d⟩:=id bD
  exact⟨u,rfl,xZ (s:={ s with heap:=h' }) e c d (by decide) ⟨x,H,I1,ru,⟨rfl,fun ys hy=>by rw[I.tuple_inj hy hq];exact hx⟩,bD,fun b hb=>(hf b hb).1⟩⟩
 done:=by
  intro X hP hw hK hc i af s σ H E I hf st hg
  subst hP hw hK
  obtain⟨xs,hq,hx⟩:=hg
  obtain⟨its,rv,p,hz⟩:=I.tuple hq
  obtain⟨f0,f1,f2,f3,f4,f5⟩:=hf it (by simp)
  have hl:=rv.length
  exact wpAny_pyNext_tuple_end (I.ok.hd hc) st (show s.heap.IsTuple a its.toArray from p) (by simp;omega) fun h' eb=>⟨rfl,I.turned (t':=s.toks) (fun b o hb e=>eb b o hb e) f0 f1 f3 f4 f5⟩
 self:=fun _ _ _ _ _ st h=>wpAny_pyIter_tupleiter st h
theorem Aa{w:World}(it:Addr)(lo:Int)(n:Nat):we P w K tg (Sy lo n) [it] it (fun i h=>IsRangeIter h it (lo+(i:Nat)*1) ((n:Int)-(i:Nat)) 1) where
 mem:=by simp
 obj:=fun i h st b hb=>by
  have e:b=it:=by simpa using hb
  subst e
  exact⟨_,st,fun v z=>by
   have z':Data.fields _=Data.cell v:=z
   cases z'⟩
 keep:=fun i h h' st k=>k it (by simp) _ st
 item:=by
  intro X hP hw hK hc i af s σ H E I hf st hg
  subst hP hw hK
  obtain⟨f0,f1,f2,f3,f4,f5⟩:=hf it (by simp)
  have W:=Walks.range (prog:=X.prog) (w:=X.w) (I.ok.hd hc) it lo 1 n
  refine W.item i s _ _ hg st fun v h' tk hv bD kk=>?_
  obtain⟨t,rfl⟩:=hv
  have I1:bE X af σ H { s with heap:=h',toks:=tk }:=I.turned (fun b o hb e=>kk b o (by simpa using hb) e) f0 f1 f3 f4 f5
  refine⟨_,rfl,xZ (s:={ s with heap:=h',toks:=tk }) (n:="range_iterator") bD rfl rfl (by decide) ⟨.int (lo+i),H,I1,⟨t,?_⟩,⟨rfl,rfl⟩,bD,fun b hb=>(hf b hb).1⟩⟩
  rw[Int.mul_one]
 done:=by
  intro X hP hw hK hc i af s σ H E I hf st hg
  subst hP hw hK
  obtain⟨f0,f1,f2,f3,f4,f5⟩:=hf it (by simp)
  exact wpAny_pyNext_range_end (I.ok.hd hc) st (by have:n<=i:=hg;omega) fun h' eb=>⟨rfl,I.turned (t':=s.toks) (fun b o hb e=>eb b o hb e) f0 f1 f3 f4 f5⟩
 self:=fun _ _ _ _ _ st h=>wpAny_pyIter_rangeiter st h
section
variable{X:Cx}
def Px(K:Frag)(tl:TE):TI:=fun σ H R=>tl σ H fun x H1=>∃a,x=.ref a/\(∃xs,nG K H1 a xs)/\R (Um K a) H1
def Tp(K:Frag)(tl:TE):TI:=fun σ H R=>tl σ H fun x H1=>∃a,x=.ref a/\(∃xs,fj K H1 a xs)/\R (Uo K a) H1
theorem HS{l:Expr}{tl:TE}(hl:PE X l tl):PI X tg l (Px X.K tl):=by
 intro af s σ H R I h
 refine hW (hl af s σ H _ I h) fun v s1 ⟨x,H1,I1,r1,q1⟩=>?_
 obtain⟨a,e,⟨xs,hq⟩,q⟩:=q1
 subst e
 cases r1
 obtain⟨its,rv,p,hz⟩:=I1.list hq
 refine jm p.isList ?_
 refine⟨s1.heap.objs.size,[s1.heap.objs.size],_,_,H1,rfl,I1.kept (t':=s1.toks) fun b o e=>aj _ e,Ct a _,⟨_,aq _ rfl,rfl,rfl⟩,fun b hb=>?_,q⟩
 have e:b=s1.heap.objs.size:=by simpa using hb
 subst e
 exact I1.fpOk (au _) (I1.hok.fresh (au _))
theorem My{l:Expr}{tl:TE}(hl:PE X l tl):PI X tg l (Tp X.K tl):=by
 intro af s σ H R I h
 refine hW (hl af s σ H _ I h) fun v s1 ⟨x,H1,I1,r1,q1⟩=>?_
 obtain⟨a,e,⟨xs,hq⟩,q⟩:=q1
 subst e
 cases r1
 obtain⟨its,rv,p,hz⟩:=I1.tuple hq
 refine fH (show s1.heap.IsTuple a its.toArray from p) ?_
 refine⟨s1.heap.objs.size,[s1.heap.objs.size],_,_,H1,rfl,I1.kept (t':=s1.toks) fun b o e=>aj _ e,z_ a _,⟨_,aq _ rfl,rfl,rfl⟩,fun b hb=>?_,q⟩
 have e:b=s1.heap.objs.size:=by simpa using hb
 subst e
 exact I1.fpOk (au _) (I1.hok.fresh (au _))
theorem Eg{σ:St}{H:Hp}{R:It->Hp->Prop}{lo hi:Int}{t u v:Tok}{tk:Nat}(I:bE X af σ H s)(h1:-(2^62)<=lo)(h2:lo<2^62)(h3:-(2^62)<=hi)(h4:hi<2^62)
  (q:R (Sy lo (hi-lo).toNat) H):wpAny (model X.prog X.w) X.A (pyIter (.ref s.heap.objs.size)) (Sx X af σ tg R) E { s with heap:=s.heap.push { cls:=.type "range",data:=.fields #[.int lo t,.int hi u,.int 1 v] },toks:=tk }:=by
 refine wpAny_pyIter_range (IsRange.new ..) (small_one h1 h2 h3 h4) ?_
 have I1:bE X af σ H { s with heap:=s.heap.push { cls:=.type "range",data:=.fields #[.int lo t,.int hi u,.int 1 v] },toks:=tk }:=I.kept fun b o e=>aj _ e
 refine⟨(s.heap.push { cls:=.type "range",data:=.fields #[.int lo t,.int hi u,.int 1 v] }).objs.size,[(s.heap.push { cls:=.type "range",data:=.fields #[.int lo t,.int hi u,.int 1 v] }).objs.size],_,_,H,rfl,
  I1.kept (t':=tk) fun b o e=>aj _ e,Aa _ lo (hi-lo).toNat,?_,fun b hb=>?_,q⟩
 ·have e1:lo+((0:Nat):Int)*1=lo:=by simp
  have e2:(((hi-lo).toNat:Nat):Int)-((0:Nat):Int)=Builtin.Range.rangeSize lo hi 1:=by rw[rangeSize_one];split<;>omega
  show IsRangeIter _ _ (lo+((0:Nat):Int)*1) ((((hi-lo).toNat:Nat):Int)-((0:Nat):Int)) 1
  rw[e1,e2]
  exact aq _ rfl
 ·have e:b=(s.heap.push { cls:=.type "range",data:=.fields #[.int lo t,.int hi u,.int 1 v] }).objs.size:=by simpa using hb
  subst e
  exact I1.fpOk (au _) (I1.hok.fresh (au _))
def Py(ta:TA):TI:=fun σ H R=>ta σ H fun vs H1=>∃j:Int,vs=[.int j]/\-(2^62)<=j/\j<2^62/\R (Sy 0 j.toNat) H1
theorem Cu{a:Expr}{ta:TA}{p pos:Pos}(hg:Gl X "range")(hm:X.mg "range"=none)(ha:PA X [a] ta)(hs:starEach [a] X.env=[(false,eval a X.env)]:=by rfl):PI X tg (.Call (.Name "range" p) [a] [] pos) (Py ta):=by
 intro af s σ H R I h
 refine Call_ (mV I hg hm boot_range (cM (hW (ha pos af s σ H _ I h) fun us s1 ⟨vs,H1,I1,r1,q1⟩=>?_) hs rfl))
 obtain⟨j,e,q1,q2,q⟩:=q1
 subst e
 cases r1 with
 |cons r rr=>
  cases rr
  obtain⟨t,rfl⟩:=r
  exact call_range_1 (Eg I1 (by omega) (by omega) q1 q2 (by simpa using q))
def Tq(wi:TI)(g:TG)(tb:TS):TS:=fun D σ H=>wi σ H fun J H1=>∃W:Nat->Nat->St->Hp->Prop,(∃m,W 0 m σ H1)/\∀i m σ H,W i m σ H ->
 (J.stop i H/\D.nx σ H)\/(J.go i H/\∃N:St->Hp->Prop,(∀σ' H',N σ' H'->∃m',m'<m/\W (i+1) m' σ' H')/\∀x H',J.yld i H x H'->g x σ H' fun σ2 H2=>tb { D with nx:=N,ct:=N,bk:=D.nx } σ2 H2)
def wf(fp:List Addr)(h:Heap):List (Addr×Obj):=fp.filterMap fun b=>(h.get? b).map fun o=>(b,o)
theorem jG(hb:b∈fp)(e:h.get? b=some o):(b,o)∈wf fp h:=lu.mpr ⟨b,hb,by rw[e];rfl⟩
theorem Cv{p:Addr×Obj}(hp:p∈wf fp h):p.1∈fp/\h.get? p.1=some p.2:=by
 obtain⟨b,hb,e⟩:=lu.mp hp
 cases q:h.get? b with
 |none=>rw[q]at e;cases e
 |some o=>
  rw[q]at e
  have e':(b,o)=p:=a9 e
  subst e'
  exact⟨hb,q⟩
theorem bE.pinned{σ:St}{H:Hp}(I:bE X af σ H s)(hf:∀b∈fp,tF X af H b)(ho:∀b∈fp,∃o,s.heap.get? b=some o/\∀v,o.data≠.cell v):bE X (af++wf fp s.heap) σ H s:=
 I.pins_of fun p hp=>(br.mp hp).elim (fun z=>I.pin p (aX _ z)) fun z=>by
  obtain⟨hb,e⟩:=Cv z
  obtain⟨f0,f1,f2,_⟩:=hf p.1 hb
  obtain⟨o,e',d⟩:=ho p.1 hb
  rw[e]at e';cases e'
  exact⟨e,f0,f1,f2,d⟩
theorem bE.unpinned{pl:List (Addr×Obj)}{σ:St}{H:Hp}(I:bE X (af++pl) σ H s):bE X af σ H s:=I.pins_of fun p hp=>I.pin p (aX _ (fX _ hp))
theorem Mz{wi:TI}{g:TG}{tb:TS}{pos:Pos}(hp:PassesOwn (model X.prog X.w) X.A X.env X.xe)(hc:X.calm=true)(hi:PI X tg b9 wi)(hg:PG X tg g)(hb:Cs X body tb)
  (hs:∀x,foldedSetIterable b9 X.env x=pure x:=by intro _;rfl):PS X (.For tg b9 body [] pos) (Tq wi g tb):=by
 intro af s σ H D I h
 refine wpAny_For (hW (hi af s σ H _ I h) fun v s1 h1=>hW h1 fun Uk s2 h2=>?_) hs
 obtain⟨it,fp,tn,J,H2,e,I2,T,st2,f2,W,⟨m0,w0⟩,turn⟩:=h2
 subst e
 have stat:∀{H':Hp},(∀b∈fp,H' b=none)->∀b∈fp,tF X af H' b:=fun hn b hb=>⟨hn b hb,(f2 b hb).2⟩
 refine codeAny_forLoop_any (fun n s'=>∃i σ' H',bE X af σ' H' s'/\tn i s'.heap/\(∀b∈fp,H' b=none)/\W i n σ' H') ?_ m0 ⟨0,σ,H2,I2,st2,fun b hb=>(f2 b hb).1,w0⟩
 rintro n s3 ⟨i,σ3,H3,I3,gD,fr3,w3⟩
 rcases turn i n σ3 H3 w3 with⟨stop,qn⟩|⟨go,N,hN,step⟩
 ·refine fS hp (hW (T.done X rfl rfl rfl hc i af s3 σ3 H3 X.xe I3 (stat fr3) gD stop) fun r s4 ⟨hr,I4⟩=>?_)
  subst hr
  exact ko ⟨σ3,H3,I4,qn⟩
 ·refine fS hp (hW (T.item X rfl rfl rfl hc i af s3 σ3 H3 X.xe I3 (stat fr3) gD go) fun r s4 ⟨u,hr,h4⟩=>?_)
  subst hr
  refine fS hp (hW h4 fun _ s5 ⟨x,H5,I5,r5,y5,xV,fr5⟩=>?_)
  have I5':=I5.pinned (stat fr5) (T.obj _ _ xV)
  refine fS hp (hW (hg _ s5 σ3 H5 x u _ I5' r5 (step x H5 y5)) fun _ s6 ⟨σ6,H6,I6,q6⟩=>?_)
  refine fS hp (hW (hb _ s6 σ6 H6 _ I6 q6) fun f s7 q7=>?_)
  have again:∀{σ7:St} {H7:Hp},bE X (af++wf fp s5.heap) σ7 H7 s7->N σ7 H7->∃m,m<n/\∃i σ' H',bE X af σ' H' s7/\tn i s7.heap/\(∀b∈fp,H' b=none)/\W i m σ' H':=fun{σ7 H7} I7 n7=>by
   obtain⟨m',hm,w7⟩:=hN σ7 H7 n7
   refine⟨m',hm,i+1,σ7,H7,I7.unpinned,T.keep _ _ _ xV fun b hb o e=>(I7.pin (b,o) (aX _ (aX _ (jG hb e)))).1,fun b hb=>?_,w7⟩
   obtain⟨o,e,d⟩:=T.obj _ _ xV b hb
   exact(I7.pin (b,o) (aX _ (aX _ (jG hb e)))).2.1
  cases f with
  |next=>obtain⟨σ7,H7,I7,n7⟩:=q7;exact again I7 n7
  |cont=>obtain⟨σ7,H7,I7,n7⟩:=q7;exact again I7 n7
  |brk=>obtain⟨σ7,H7,I7,q7⟩:=q7;exact⟨σ7,H7,I7.unpinned,q7⟩
  |ret v=>obtain⟨x7,σ7,H7,I7,r7,q7⟩:=q7;exact⟨x7,σ7,H7,I7.unpinned,r7,q7⟩
end
abbrev R2:=V->V->Hp->VK->Prop
def l7(X:Cx)(f:Value->Value->Sem Value)(r:R2):Prop:=
 ∀(af:List (Addr×Obj)) (s:Shared) (σ:St) (H:Hp) (x y:V) (v u:Value) (Q:VK),bE X af σ H s->cf x v->cf y u->r x y H Q ->
  wpAny (model X.prog X.w) X.A (f v u) (EP X af σ Q) X.xe s
def Ts(X:Cx)(f:Value->Sem Value)(r:V->Hp->VK->Prop):Prop:=
 ∀(af:List (Addr×Obj)) (s:Shared) (σ:St) (H:Hp) (x:V) (v:Value) (Q:VK),bE X af σ H s->cf x v->r x H Q ->
  wpAny (model X.prog X.w) X.A (f v) (EP X af σ Q) X.xe s
def kC(X:Cx)(f:Value)(r:List V->Hp->VK->Prop):Prop:=
 ∀(af:List (Addr×Obj)) (s:Shared) (σ:St) (H:Hp) (xs:List V) (us:List Value) (Q:VK),bE X af σ H s->cA xs us->r xs H Q ->
  wpAny (model X.prog X.w) X.A (call f us) (EP X af σ Q) X.xe s
def Pz(r:R2)(ta tb:TE):TE:=fun σ H Q=>ta σ H fun x H1=>tb σ H1 fun y H2=>r x y H2 Q
def UN(r:V->Hp->VK->Prop)(ta:TE):TE:=fun σ H Q=>ta σ H fun x H1=>r x H1 Q
def rI(C:Int->Int->Prop)(g:Int->Int->V):R2:=fun x y H Q=>∃i j,x=.int i/\y=.int j/\C i j/\Q (g i j) H
def Eh(g:Int->Int->V):R2:=fun x y H Q=>∃i j,x=.int i/\y=.int j/\Q (g i j) H
def rU(g:Int->V):V->Hp->VK->Prop:=fun x H Q=>∃i,x=.int i/\Q (g i) H
section
variable{X:Cx}{a b:Expr}{ta tb tc:TE}
theorem MA(ha:PE X a ta)(hb:PE X b tb){σ:St}{H:Hp}{R:V->V->Hp->Prop}(I:bE X af σ H s)
  (h:ta σ H fun x H1=>tb σ H1 fun y H2=>R x y H2) {Q:Value->Shared->Prop} {f:Value->Value->Sem Value}
  (hf:∀v u s2 x y H2,bE X af σ H2 s2->cf x v->cf y u->R x y H2->wpAny (model X.prog X.w) X.A (f v u) Q X.xe s2) :
  wpAny (model X.prog X.w) X.A (eval a X.env) (fun v s₁=>wpAny (model X.prog X.w) X.A (eval b X.env) (fun u s₂=>wpAny (model X.prog X.w) X.A (f v u) Q X.xe s₂) X.xe s₁) X.xe s:=by
 refine hW (ha af s σ H _ I h) fun v s1 ⟨x,H1,I1,r1,q1⟩=>?_
 refine hW (hb af s1 σ H1 _ I1 q1) fun u s2 ⟨y,H2,I2,r2,q2⟩=>?_
 exact hf v u s2 x y H2 I2 r1 r2 q2
theorem PB{op:Operator}{r:R2}(ho:l7 X (binaryOp op) r)(ha:PE X a ta)(hb:PE X b tb):PE X (.BinOp a op b pos) (Pz r ta tb):=by
 intro af s σ H Q I h
 exact wpAny_BinOp (MA ha hb I h fun v u s2 x y H2 I2 rx ry q=>ho af s2 σ H2 x y v u Q I2 rx ry q)
theorem PC{op:UnaryOp}{r:V->Hp->VK->Prop}(ho:Ts X (unaryOp op) r)(ha:PE X a ta):PE X (.UnaryOp op a pos) (UN r ta):=by
 intro af s σ H Q I h
 exact UnaryOp_ (hW (ha af s σ H _ I h) fun v s1 ⟨x,H1,I1,r1,q1⟩=>ho af s1 σ H1 x v Q I1 r1 q1)
theorem O9{f:Value->Value->Sem Value}{C:Int->Int->Prop}{g:Int->Int->Int}
  (rule:∀(i j:Int) (t u:Tok) (s:Shared) (Q:Value->Shared->Prop) (E:Value->Shared->Prop),C i j->Q (.int (g i j) s.toks) { s with toks:=s.toks+1 }->wpAny (model X.prog X.w) X.A (f (.int i t) (.int j u)) Q E s) :
  l7 X f (rI C fun i j=>.int (g i j)):=by
 intro af s σ H x y v u Q I rx ry h
 obtain⟨i,j,rfl,rfl,hc,q⟩:=h
 obtain⟨t,rfl⟩:=rx
 obtain⟨t',rfl⟩:=ry
 exact rule i j t t' s _ _ hc ⟨.int (g i j),H,I.tok _,⟨_,rfl⟩,q⟩
theorem MB{f:Value->Value->Sem Value}{g:Int->Int->Int}
  (rule:∀(i j:Int) (t u:Tok) (s:Shared) (Q:Value->Shared->Prop) (E:Value->Shared->Prop),Q (.int (g i j) s.toks) { s with toks:=s.toks+1 }->wpAny (model X.prog X.w) X.A (f (.int i t) (.int j u)) Q E s) :
  l7 X f (Eh fun i j=>.int (g i j)):=by
 intro af s σ H x y v u Q I rx ry h
 obtain⟨i,j,rfl,rfl,q⟩:=h
 obtain⟨t,rfl⟩:=rx
 obtain⟨t',rfl⟩:=ry
 exact rule i j t t' s _ _ ⟨.int (g i j),H,I.tok _,⟨_,rfl⟩,q⟩
theorem HU{f:Value->Value->Sem Value}{g:Int->Int->Bool}
  (rule:∀(i j:Int) (t u:Tok) (s:Shared) (Q:Value->Shared->Prop) (E:Value->Shared->Prop),Q (.bool (g i j)) s->wpAny (model X.prog X.w) X.A (f (.int i t) (.int j u)) Q E s) :
  l7 X f (Eh fun i j=>.bl (g i j)):=by
 intro af s σ H x y v u Q I rx ry h
 obtain⟨i,j,rfl,rfl,q⟩:=h
 obtain⟨t,rfl⟩:=rx
 obtain⟨t',rfl⟩:=ry
 exact rule i j t t' s _ _ ⟨.bl (g i j),H,I,rfl,q⟩
def Tt(i j:Int):Prop:=0<j/\j<1073741824
def MC(i j:Int):Prop:=0<=j/\j<=1000000/\i.natAbs<2^64
def MD(i j:Int):Prop:=(-(2^64)<i/\i<2^64)\/(-(2^64)<j/\j<2^64)
theorem MD.ok{i j:Int}(h:MD i j):IntMulOk i j:=by
 rcases h with⟨h1,h2⟩|⟨h1,h2⟩
 ·exact .of_left (intBits_le_64 h1 h2)
 ·exact .of_right (intBits_le_64 h1 h2)
theorem Ab(k:Nat):(0:Int)<=2^k:=by
 rw[two_pow_cast]
 exact Int.natCast_nonneg _
theorem ME:l7 X (binaryOp .Add) (Eh fun i j=>.int (i+j)):=MB fun _ _ _ _ _ _ _ q=>add_int q
theorem MF:l7 X (binaryOp .Sub) (Eh fun i j=>.int (i-j)):=MB fun _ _ _ _ _ _ _ q=>sub_int q
theorem MG:l7 X (binaryOp .Mult) (rI MD fun i j=>.int (i*j)):=O9 fun _ _ _ _ _ _ _ hc q=>mul_int q hc.ok
theorem HW:l7 X (binaryOp .FloorDiv) (rI Tt fun i j=>.int (i/j)):=O9 fun i j _ _ _ _ _ hc q=>by
 have h1:(0:Int)<j:=hc.1
 have h2:j<1073741824:=hc.2
 exact floordiv_int (by omega) (by rw[lw i (by omega)];exact q) (.inl (PyProof.noPylong_small (by omega)))
theorem MH:l7 X (binaryOp .Mod) (rI (fun _ j=>0<j) fun i j=>.int (i%j)):=O9 fun i j _ _ _ _ _ hc q=>by
 have h1:(0:Int)<j:=hc
 exact mod_int' (by omega) (by rw[Int.fmod_eq_emod_of_nonneg i (by omega)];exact q)
theorem MI:l7 X (binaryOp .Pow) (rI MC fun i j=>.int (i^j.toNat)):=O9 fun _ _ _ _ _ _ _ hc q=>pow_int_small hc.1 hc.2.1 hc.2.2 q
theorem Ei:l7 X (binaryOp .LShift) (rI MC fun i j=>.int (i*2^j.toNat)):=O9 fun _ _ _ _ _ _ _ hc q=>lshift_int_small hc.1 hc.2.1 hc.2.2 q
theorem MJ:l7 X (binaryOp .RShift) (rI (fun _ j=>0<=j) fun i j=>.int (i/2^j.toNat)):=O9 fun i j _ _ _ _ _ hc q=>
 rshift_int hc (by rw[lw i (Ab _)];exact q)
theorem MK:l7 X (binaryOp .BitAnd) (Eh fun i j=>.int (Builtin.bitAnd i j)):=MB fun _ _ _ _ _ _ _ q=>and_int q
theorem UO{f:Value->Sem Value}{g:Int->Int}
  (rule:∀(i:Int) (t:Tok) (s:Shared) (Q:Value->Shared->Prop) (E:Value->Shared->Prop),Q (.int (g i) s.toks) { s with toks:=s.toks+1 }->wpAny (model X.prog X.w) X.A (f (.int i t)) Q E s) :
  Ts X f (rU fun i=>.int (g i)):=by
 intro af s σ H x v Q I rx h
 obtain⟨i,rfl,q⟩:=h
 obtain⟨t,rfl⟩:=rx
 exact rule i t s _ _ ⟨.int (g i),H,I.tok _,⟨_,rfl⟩,q⟩
theorem ML:Ts X (unaryOp .USub) (rU fun i=>.int (-i)):=UO fun _ _ _ _ _ q=>neg_int q
end
section
variable{X:Cx}{a b:Expr}{ta tb tc:TE}
theorem Ej{σ:St}{H:Hp}{Q:VK}{k k':Bool}(I:bE X af σ H s)(q:Q (.bl k) H)(e:k=k'):EP X af σ Q (.bool k') s:=by
 subst e
 exact⟨.bl k,H,I,rfl,q⟩
theorem PD:l7 X (compareOp .Lt) (Eh fun i j=>.bl (decide (i<j))):=HU fun _ _ _ _ _ _ _ q=>lt_int q
theorem PF:l7 X (compareOp .LtE) (Eh fun i j=>.bl (decide (i<=j))):=HU fun _ _ _ _ _ _ _ q=>le_int q
theorem PH:l7 X (compareOp .Gt) (Eh fun i j=>.bl (decide (j<i))):=HU fun _ _ _ _ _ _ _ q=>gt_int q
theorem PJ:l7 X (compareOp .GtE) (Eh fun i j=>.bl (decide (j<=i))):=HU fun _ _ _ _ _ _ _ q=>ge_int q
theorem Cw:l7 X (compareOp .In) (fun x y H Q=>∃i j,x=.str i/\y=.str j/\Q (.bl (!(Builtin.Str.occurrences j i 0 j.length 1).isEmpty)) H):=by
 intro af s σ H x y v u Q I rx ry h
 obtain⟨i,j,rfl,rfl,q⟩:=h
 obtain⟨t,rfl⟩:=rx
 obtain⟨t',rfl⟩:=ry
 exact in_str (Ej I q rfl)
theorem wg:l7 X (compareOp .NotIn) (fun x y H Q=>∃i j,x=.str i/\y=.str j/\Q (.bl (!(!(Builtin.Str.occurrences j i 0 j.length 1).isEmpty))) H):=by
 intro af s σ H x y v u Q I rx ry h
 obtain⟨i,j,rfl,rfl,q⟩:=h
 obtain⟨t,rfl⟩:=rx
 obtain⟨t',rfl⟩:=ry
 exact notIn_str (Ej I q rfl)
theorem Ek(b:Expr)(h:op≠.In:=by decide)(h2:op≠.NotIn:=by decide):behindInMarks op b=false:=by
 have e1:(op==CmpOp.In)=false:=by cases op<;>first|rfl|exact absurd rfl h
 have e2:(op==CmpOp.NotIn)=false:=by cases op<;>first|rfl|exact absurd rfl h2
 cases b<;>simp[behindInMarks,e1,e2]
theorem HX{r:R2}(ho:l7 X (compareOp op) r)(ha:PE X a ta)(hb:PE X b tb)(hm:behindInMarks op b=false):PE X (.Compare a [op] [b] pos) (Pz r ta tb):=by
 intro af s σ H Q I h
 exact wpAny_Compare1 (MA ha hb I h fun v u s2 x y H2 I2 rx ry q=>ho af s2 σ H2 x y v u Q I2 rx ry q) hm
def PL(t:TE):TT:=fun σ H Q=>t σ H fun x H'=>∃k,x=.bl k/\Q k H'
theorem HY{r:R2}(ho:l7 X (compareOp op) r)(ha:PE X a ta)(hb:PE X b tb)(hm:behindInMarks op b=false):PT X (.Compare a [op] [b] pos) (PL (Pz r ta tb)):=by
 intro af s σ H Q I h
 refine wpAny_isTrue_Compare1 (hW (ha af s σ H _ I h) fun v s1 ⟨x,H1,I1,r1,q1⟩=>hW (hb af s1 σ H1 _ I1 q1) fun u s2 ⟨y,H2,I2,r2,q2⟩=>
  hW (ho af s2 σ H2 x y v u _ I2 r1 r2 q2) fun c s3 ⟨z,H3,I3,r3,k,e,q3⟩=>?_) hm
 subst e
 cases r3
 exact dL ⟨H3,I3,q3⟩
def El(r r':R2)(ta tb tc:TE):TE:=fun σ H Q=>ta σ H fun x H1=>tb σ H1 fun y H2=>r x y H2 fun z H3=>∃k,z=.bl k /\
 (if k=true then tc σ H3 fun w' H4=>r' y w' H4 Q else Q (.bl false) H3)
theorem Em{O8:CmpOp}{r r':R2}(ho:l7 X (compareOp op) r)(uR:l7 X (compareOp O8) r')(ha:PE X a ta)(hb:PE X b tb)(hc:PE X c tc)
  (hm:lastMarks [op,O8] [b,c]=false:=by with_unfolding_all rfl):PE X (.Compare a [op,O8] [b,c] pos) (El r r' ta tb tc):=by
 intro af s σ H Q I h
 refine Compare_chain (hW (ha af s σ H _ I h) fun v s1 ⟨x,H1,I1,r1,q1⟩=>chain_link (hW (hb af s1 σ H1 _ I1 q1) fun u s2 ⟨y,H2,I2,r2,q2⟩=>
  hW (ho af s2 σ H2 x y v u _ I2 r1 r2 q2) fun d s3 ⟨z,H3,I3,r3,k,e,q3⟩=>?_)) hm
 subst e
 cases r3
 refine dL ?_
 cases k with
 |false=>exact ite_ff ⟨.bl false,H3,I3,rfl,q3⟩
 |true=>exact ite_tt (chain_last (hW (hc af s3 σ H3 _ I3 q3) fun w' s4 ⟨z',H4,I4,r4,q4⟩=>uR af s4 σ H4 y z' u w' Q I4 r2 r4 q4))
theorem tH:(sizeLine:Nat)<2^63:=by rw[j_];decide
theorem Ac:l7 X (binaryOp .Add) (fun x y H Q=>∃i j,x=.str i/\y=.str j/\i.length+j.length<=sizeLine/\Q (.str (i++j)) H):=by
 intro af s σ H x y v u Q I rx ry h
 obtain⟨i,j,rfl,rfl,hz,q⟩:=h
 obtain⟨t,rfl⟩:=rx
 obtain⟨t',rfl⟩:=ry
 exact add_str (fun t' tk=>⟨.str (i++j),H,I.tok _,⟨_,rfl⟩,q⟩) hz
theorem pq{x:V}(r:cA [x] us):∃u,us=[u]/\cf x u:=by
 cases r with
 |cons r1 r2=>cases r2;exact⟨_,rfl,r1⟩
theorem PM{x y:V}(r:cA [x,y] us):∃u w',us=[u,w']/\cf x u/\cf y w':=by
 cases r with
 |cons r1 r2=>
  cases r2 with
  |cons r3 r4=>cases r4;exact⟨_,_,rfl,r1,r3⟩
theorem Cy(hc:X.calm=true):kC X (.builtin "max") (fun xs H Q=>∃i j,xs=[.int i,.int j]/\Q (.int (if j>i then j else i)) H):=by
 intro af s σ H xs us Q I r h
 obtain⟨i,j,rfl,q⟩:=h
 obtain⟨u,w',rfl,⟨t,rfl⟩,⟨t',rfl⟩⟩:=PM r
 refine max_two_ints (I.ok.hd hc) fun h' tk k=>⟨_,H,I.kept k,?_,q⟩
 by_cases hj:j>i
 ·rw[av hj,av hj];exact⟨_,rfl⟩
 ·rw[az hj,az hj];exact⟨_,rfl⟩
theorem vk:kC X (.type "int") (fun xs H Q=>(∃i,xs=[.int i]/\Q (.int i) H)\/∃k,xs=[.bl k]/\Q (.int (if k then 1 else 0)) H):=by
 intro af s σ H xs us Q I r h
 rcases h with⟨i,rfl,q⟩|⟨k,rfl,q⟩
 ·obtain⟨u,rfl,t,rfl⟩:=pq r
  exact call_int_int ⟨.int i,H,I,⟨_,rfl⟩,q⟩
 ·obtain⟨u,rfl,r1⟩:=pq r
  cases r1
  exact call_int_bool ⟨.int (if k then 1 else 0),H,I.tok _,⟨_,rfl⟩,q⟩
end
structure MM(h:Heap)(x dx C:Addr)(mA:Str->Option Value):Prop where
 obj:h.get? x=some (PySem.W.instObj C dx)
 ns:h.Ns1 dx mA
 ne:dx≠x
theorem Cz{dx:Addr}(n:h.Ns1 dx mA):∃od,h.get? dx=some od/\∀name,PySem.W.lookIn name od=some (mA name):=by
 obtain⟨o,es,ep,ho,hd,hk,_,hm⟩:=n
 refine⟨o,ho,fun name=>?_⟩
 have e:=hm name
 unfold nsFind findBy at e
 rw[<- Array.find?_toList]at e
 unfold PySem.W.lookIn
 rw[hd]
 dsimp only
 split
 ·rename_i y q
  rw[q]at e
  exact eY some e
 ·rename_i q
  rw[q]at e
  have a:es.toList.any (·.refKey)=false:=by
   rw[lT]
   intro y hy
   obtain⟨z,t,hkey⟩:=hk y (Array.mem_toList_iff.mp hy)
   simp[DictEntry.refKey,hkey]
  have a':¬ es.toList.any (·.refKey)=true:=by rw[a];exact bK
  rw[az a']
  exact eY some e
theorem MM.look{x dx:Addr}(I:MM h x dx C mA):∃od,PySem.W.InstAt h x (PySem.W.instObj C dx) C (some od)/\∀name,PySem.W.lookIn name od=some (mA name):=
 let ⟨od,ho,hl⟩:=Cz I.ns
 ⟨od,⟨I.obj,rfl,rfl,ho⟩,hl⟩
section
variable{w:World}{x dx f:Addr}{v:Value}
end
theorem tz.some_of{v:V}{o:Option Value}(r:tz (some v) o):∃u,o=some u/\cf v u:=by
 cases o with
 |none=>exact(show False from r).elim
 |some u=>exact⟨u,rfl,r⟩
section
variable{w:World}{H H':Hp}{dx:Addr}{fs U0:List (Str×V)}
theorem HZ(hok:kP P w H h)(e:H a=some (.ins C dx fs)):∃mA,MM h a dx C mA/\(∀f,tz (fs.lookup f) (mA f))/\PySem.Within mA (fs.map (·.1))/\fs.length<=1000/\H dx=some (.own a):=by
 obtain⟨d,z,ne,ob,mA,n,r,q⟩:=(show eO P w H h a (.ins C dx fs)from hok a _ e)
 exact⟨mA,⟨ob,n,ne⟩,r,q,z,d⟩
end
structure O_(K:Frag)(C:Addr):Prop where
 pg:PySem.W.plainGet K C Str.empty=true
 hd:PySem.W.hasDictIn K C=true
 po:PySem.W.plainOver K C=true
 sa:PySem.W.findIn K (.ref C) "__setattr__"=some (some (.builtin "object.__setattr__"))
theorem O_.get(c:O_ K C)(f:Str):PySem.W.plainGet K C f=true:=c.pg
section
variable{X:Cx}{σ:St}{H:Hp}{dx:Addr}{fs:List (Str×V)}{f:Str}{v:V}
end
section
variable{X:Cx}{o value:Expr}{f:Str}{nq Ud:Pos}{ta tv:TE}
end
section
variable{X:Cx}{σ:St}{H:Hp}{c:Value}{b:Bool}
inductive sH(K:Frag)(H:Hp):V->Value->Prop where
 |non:sH K H .non (.type "NoneType")
 |bl (x:Bool):sH K H (.bl x) (.type "bool")
 |int (i:Int):sH K H (.int i) (.type "int")
 |str (x:Str):sH K H (.str x) (.type "str")
 |flt (x:UInt64):sH K H (.flt x) (.type "float")
 |lst {a:Addr} {xs:List V} (e:H a=some (.lst xs)):sH K H (.ref a) (.type "list")
 |frz {a:Addr} {o:Obj} {xs:List V} (e:H a=some (.frz o (.lst xs))):sH K H (.ref a) (.type "list")
 |tup {a:Addr} {xs:List V} (e:H a=some (.tup xs)):sH K H (.ref a) (.type "tuple")
 |dK {a:Addr} {kvs:List (i9×V)} (e:H a=some (.dK kvs)):sH K H (.ref a) (.type "dict")
 |dT {a:Addr} {kvs:List (List i9×V)} (e:H a=some (.dT kvs)):sH K H (.ref a) (.type "dict")
 |ins {a C dx:Addr} {fs:List (Str×V)} (e:H a=some (.ins C dx fs)) (cl:O_ K C) (ha:PySem.W.findIn K (.ref C) "__class__"=some (some (.builtin "object.__class__")))
   (hn:PySem.W.specialIn K (.builtin "object.__class__") "__get__"=some (some (.builtin "getset_descriptor.__get__"))) (UC:PySem.W.takesIn K (.builtin "object.__class__")=some true)
   (hm:PySem.W.mroIn K C (.type "object")=some true):sH K H (.ref a) (.ref C)
theorem oO{x:V}{t:Value}(I:bE X af σ H s)(rx:cf x u)(ty:sH X.K H x t)(e:PySem.W.kitOne X.K t c=some b)(h:∀tk,Q (.bool b) { s with toks:=tk }) :
  wpAny (model X.prog X.w) A (call (.builtin "isinstance") [u,c]) Q E s:=by
 cases ty with
 |non=>cases(show u=Value.none from rx);exact kia_one PySem.W.kitx_none I.kIn True.intro e (fun z=>nomatch z) h
 |bl y=>cases(show u=Value.bool y from rx);exact kia_one PySem.W.kitx_bool I.kIn True.intro e (fun z=>nomatch z) h
 |int i=>obtain⟨t,q⟩:=(show ∃t,u=Value.int i t from rx);cases q;exact kia_one PySem.W.kitx_int I.kIn True.intro e (fun z=>nomatch z) h
 |str y=>obtain⟨t,q⟩:=(show ∃t,u=Value.str y t from rx);cases q;exact kia_one PySem.W.kitx_str I.kIn True.intro e (fun z=>nomatch z) h
 |flt y=>obtain⟨t,q⟩:=(show ∃t,u=Value.float y t from rx);cases q;exact kia_one PySem.W.kitx_float I.kIn True.intro e (fun z=>nomatch z) h
 |@lst a xs ea=>
  cases(show u=Value.ref a from rx)
  obtain⟨_,_,n,_,h1⟩:=(show eO X.prog X.w H s.heap a (.lst xs)from I.hok a _ ea)
  exact kia_one PySem.W.kitx_list I.kIn ⟨_,h1,rfl⟩ e (fun z=>nomatch z) h
 |@frz a ob xs ea=>
  cases(show u=Value.ref a from rx)
  obtain⟨_,_,_,n,_,h1⟩:=(show eO X.prog X.w H s.heap a (.frz ob (.lst xs))from I.hok a _ ea)
  exact kia_one PySem.W.kitx_list I.kIn ⟨_,h1,rfl⟩ e (fun z=>nomatch z) h
 |@tup a xs ea=>
  cases(show u=Value.ref a from rx)
  obtain⟨_,_,_,p⟩:=(show eO X.prog X.w H s.heap a (.tup xs)from I.hok a _ ea)
  obtain⟨o,h1,h2,_⟩:=p
  exact kia_one PySem.W.kitx_tuple I.kIn ⟨o,h1,h2⟩ e (fun z=>nomatch z) h
 |@dK a kvs ea=>
  cases(show u=Value.ref a from rx)
  obtain⟨_,_,vs,_,p⟩:=(show eO X.prog X.w H s.heap a (.dK kvs)from I.hok a _ ea)
  obtain⟨o,es,ep,h1,h2,_⟩:=p
  exact kia_one PySem.W.kitx_dict I.kIn ⟨o,h1,h2.1⟩ e (fun z=>nomatch z) h
 |@dT a kvs ea=>
  cases(show u=Value.ref a from rx)
  obtain⟨_,_,xs,_,o,es,ep,h1,h2,_⟩:=(show eO X.prog X.w H s.heap a (.dT kvs)from I.hok a _ ea)
  exact kia_one PySem.W.kitx_dict I.kIn ⟨o,h1,h2.1⟩ e (fun z=>nomatch z) h
 |@ins a C dx fs ea cl ha hn UC hm=>
  cases(show u=Value.ref a from rx)
  obtain⟨mA,O,_⟩:=HZ I.hok ea
  obtain⟨od,J,_⟩:=O.look
  exact kia_one (PySem.W.kitx_own (cl.get _) cl.hd ha hn UC hm) I.kIn J e (fun z=>nomatch z) h
end
structure hX(k:Nat)(A:Around):Prop where
 hd:A.handled=none
 dp:A.depth+2*k+5<recursionLimit
 un:A.units+16*k+200<cLine
theorem hX.mono{k:Nat}(r:hX k A)(h:j<=k):hX j A:=⟨r.hd,by have:=r.dp;omega,by have:=r.un;omega⟩
theorem hX.deeper{k:Nat}(r:hX (k+1) A)(env:Env):hX k (A.deeper env):=
 ⟨r.hd,by have:=r.dp;show A.depth+1+2*k+5<_;omega,by have:=r.un;show A.units+3+16*k+200<_;omega⟩
theorem hX.depth{k:Nat}(r:hX k A):A.depth<recursionLimit:=by have:=r.dp;omega
theorem hX.units{k:Nat}(r:hX k A):A.units+64<cLine:=by have:=r.un;omega
def PN:TA:=fun _ H Q=>Q [] H
def Ba(ta:TE)(tr:TA):TA:=fun σ H Q=>ta σ H fun x H1=>tr σ H1 fun xs H2=>Q (x::xs) H2
section
variable{X:Cx}{te:TE}{t:TA}
theorem wj:PA X [] PN:=fun _ _ _ _ H Q I h=>jn ⟨[],H,I,.nil,h⟩
theorem mW(ha:PE X e te)(hr:PA X es t)(hs:starEach (e::es) X.env=(false,eval e X.env)::starEach es X.env:=by rfl):PA X (e::es) (Ba te t):=by
 intro pos af s σ H Q I h
 rw[hs]
 show wpAny _ _ (spliced ((false,eval e X.env)::backTo pos (starEach es X.env))) _ _ s
 refine iZ (hW (ha af s σ H _ I h) fun u s1 ⟨x,H1,I1,r1,q1⟩=>?_)
 exact hW (hr pos af s1 σ H1 _ I1 q1) fun us s2 ⟨xs,H2,I2,r2,q2⟩=>⟨x::xs,H2,I2,.cons r1 r2,q2⟩
end
abbrev Sp:=List V->Hp->VK->XK->Prop
abbrev DZ:=List Env->Hp->Shared->XK->Value->Shared->Prop
structure Ad(P:Program)(w:World)(K:Frag)(mg:Str->Option Value)(base:Heap)(A:Around)(outer:List Env)(s:Shared)(H:Hp):Prop where
 frames:A.frames=some outer
 mod:Mod K mg base
 bs:∀b o,base.get? b=some o->s.heap.get? b=some o/\H b=none
 bsz:base.objs.size<=s.heap.objs.size
 funs:s.heap.FunFrames base outer
 frf:∀b∈r_ outer,H b=none
 hok:kP P w H s.heap
 bare:AllBare s.gens
def CE(outer:List Env)(P:Program)(w:World)(H:Hp)(s:Shared)(Q:VK)(u:Value)(s':Shared):Prop:=
 ∃v H',s'.os=s.os/\AllBare s'.gens/\Un (r_ outer) [] H H' s.heap s'.heap/\kP P w H' s'.heap/\cf v u/\Q v H'
def CR(CX:DZ)(outer:List Env)(P:Program)(w:World)(H:Hp)(s:Shared)(Q:VK)(E:XK)(r:Result)(s':Shared):Prop:=
 match r with
 |.ok (.ret u)=>CE outer P w H s Q u s'
 |.ok _=>False
 |.error e=>CX outer H s E e s'
structure fV(P:Program)(w:World)(K:Frag)(mg:Str->Option Value)(base:Heap)(CX:DZ)(k:Nat)(f:Addr)(fd:FuncData)(ps:List Str)(sp:Sp):Prop where
 len:∀vs H Q E,sp vs H Q E->vs.length=ps.length
 run:∀(A:Around) (outer:List Env) (s:Shared) (H:Hp) (args:Args) (us:List Value) (vs:List V) (Q:VK) (E:XK),hX k A->Ad P w K mg base A outer s H->BindsTo s fd args (ps.zip us)->cA vs us->sp vs H Q E ->
  codeAny (model P w) A (.call (.ref f) args) (CR CX outer P w H s Q E) s
theorem fV.mono{w:World}{CX:DZ}{k:Nat}{f:Addr}{sp:Sp}(F:fV P w K mg base CX j f fd ps sp)(h:j<=k) :
  fV P w K mg base CX k f fd ps sp:=⟨F.len,fun A outer s H args us vs Q E hr=>F.run A outer s H args us vs Q E (hr.mono h)⟩
section
variable{X:Cx}{σ:St}{H:Hp}{s':Shared}
theorem bE.env0(I:bE X af σ H s):Ad X.prog X.w X.K X.mg X.base X.A X.stack s H:=
 ⟨I.ok.frames,I.ok.mod,I.bs,bd I.ok.bsz I.sz,I.stack,I.stkFree,I.hok,I.bare⟩
theorem bE.after{Q:VK}(I:bE X af σ H s)(h:CE X.stack X.prog X.w H s Q u s'):EP X af σ Q u s':=by
 obtain⟨v,H',os,bare,un,hok,r,q⟩:=h
 obtain⟨hh,g,d,t,os'⟩:=s'
 obtain rfl:os'=s.os:=os
 exact⟨v,H',I.call (h':=hh) (g':=g) (d':=d) (t':=t) (ch:=[]) un hok bare (fun b z=>absurd z (by simp)),r,q⟩
end
def vm(K:Frag)(fd:FuncData)(ps:List Str)(ds:List Value):Prop:=
 ∀(s:Shared) (us:List Value),K.In s.heap->(us++ds).length=ps.length->BindsTo s fd ⟨us,[]⟩ (ps.zip (us++ds))
theorem vm.all(h:∀us:List Value,us.length=ps.length->bindArgs fd ⟨us,[]⟩=pure (ps.zip us)):vm K fd ps []:=fun s us _ hl=>by
 rw[cW]at hl ⊢
 exact .of_eq (h us hl)
section
variable{X:Cx}{CX:DZ}{k:Nat}{f:Addr}{sp:Sp}{U_:List V}{ds:List Value}{E:XK}{m:Str}{o:Expr}{ta:TE}{t:TA}
end
def PK(X:Cx)(UJ:List Keyword)(t:TA):Prop:=
 ∀(pos:Pos) (af:List (Addr×Obj)) (s:Shared) (σ:St) (H:Hp) (Q:List V->Hp->Prop),bE X af σ H s->t σ H Q->wpAny (model X.prog X.w) X.A (evalAll ((backToKw pos (keywordEach UJ X.env)).map (·.2))) (AP X af σ Q) X.xe s
section
variable{X:Cx}{CX:DZ}{k:Nat}{f:Addr}{ks:List Str}{sp:Sp}{E:XK}{m:Str}{Uf:Pos}{o:Expr}{UJ:List Keyword}{te ta:TE}{t tk:TA}{nm:Option Str}
variable{g:List Value->List Value->List Value}{gV:List V->List V->List V}
end
structure b_(N P:List Str)(sc:Scope):Prop where
 kind:sc.kind=.function
 co:sc.isCoroutine=false
 gen:sc.isGenerator=false
 nd:N.Nodup
 pre:N.take P.length=P
 par:∀x∈P,sc.names.lookup x=some .local\/sc.names.lookup x=some .cell
 nofree:∀y∈sc.names,y.2≠.free
theorem vn:∀{binds:List (Str×Value)} {m:Str->Option Value},(∀v,(x,v)∉binds)->bindL kindOf binds m x=m x
 |[],_,_=>rfl
 |(n,v)::r,m,h=>by
  unfold bindL
  rw[vn fun w hw=>h w (aD _ hw)]
  split
  ·have:x≠n:=by rintro rfl;exact h v aS
   simp[this]
  ·rfl
theorem vo:∀{binds:List (Str×Value)} {m:Str->Option Value},(∀v,(x,v)∉binds)->bindC kindOf binds m x=m x
 |[],_,_=>rfl
 |(n,v)::r,m,h=>by
  unfold bindC
  rw[vo fun w hw=>h w (aD _ hw)]
  split
  ·rfl
  ·have:x≠n:=by rintro rfl;exact h v aS
   simp[this]
theorem rd{v:Value}:∀{P:List Str} {vs:List Value} {i:Nat} {m:Str->Option Value},P.Nodup->P[i]?=some x->vs[i]?=some v->kindOf x=some .local ->
  bindL kindOf (P.zip vs) m x=some v
 |[],_,_,_,_,h,_,_=>by simp at h
 |_::_,[],_,_,_,_,h,_=>by simp at h
 |p::P,w::vs,0,m,nd,h1,h2,hk=>by
  simp at h1 h2;subst h1;subst h2
  show bindL kindOf ((p,w)::P.zip vs) m p=_
  unfold bindL
  rw[vn fun v hv=>(bF.mp nd).1 (gQ hv).1,av hk]
  simp
 |p::P,w::vs,i+1,m,nd,h1,h2,hk=>by
  show bindL kindOf ((p,w)::P.zip vs) m x=_
  unfold bindL
  exact rd (i:=i) (bF.mp nd).2 (by simpa using h1) (by simpa using h2) hk
theorem re{v:Value}:∀{P:List Str} {vs:List Value} {i:Nat} {m:Str->Option Value},P.Nodup->P[i]?=some x->vs[i]?=some v->kindOf x≠some .local ->
  bindC kindOf (P.zip vs) m x=some v
 |[],_,_,_,_,h,_,_=>by simp at h
 |_::_,[],_,_,_,_,h,_=>by simp at h
 |p::P,w::vs,0,m,nd,h1,h2,hk=>by
  simp at h1 h2;subst h1;subst h2
  show bindC kindOf ((p,w)::P.zip vs) m p=_
  unfold bindC
  rw[vo fun v hv=>(bF.mp nd).1 (gQ hv).1,az hk]
  simp
 |p::P,w::vs,i+1,m,nd,h1,h2,hk=>by
  show bindC kindOf ((p,w)::P.zip vs) m x=_
  unfold bindC
  exact re (i:=i) (bF.mp nd).2 (by simpa using h1) (by simpa using h2) hk
def i4(N:List Str)(vs:List V):St:=vs.map some++List.replicate (N.length-vs.length) none
def mX(CX:DZ)(P:Program)(w:World)(K:Frag)(mg:Str->Option Value)(base:Heap)(N:List Str)(cD:Str)(scope:Scope)(f:Addr)(cd:Value)(A:Around)(outer:List Env)(s:Shared)(H:Hp)(E:XK):Cx where
 prog:=P
 w:=w
 K:=K
 mg:=mg
 base:=base
 A:=A.deeper (envOfC cD scope s.heap.objs.size f cd)
 N:=N
 s₀:=s
 H₀:=H
 env:=envOfC cD scope s.heap.objs.size f cd
 outer:=outer
 stack:=envOfC cD scope s.heap.objs.size f cd::outer
 ex:=[]
 calm:=true
 fn:=fun _=>true
 pn:=[]
 xe:=fun e s'=>wpAny (model P w) (A.deeper (envOfC cD scope s.heap.objs.size f cd)) (leaving (envOfC cD scope s.heap.objs.size f cd) e) (fun _ s''=>CX outer H s E e s'') (fun e' s''=>CX outer H s E e' s'') s'
theorem hZ{n:Nat}(h:sc.names.lookup x=some .cell):∃c,(cellsFrom n sc.names []).lookup x=some c:=by
 have q:=PySem.W.cellsFrom_some sc.names n [] (.inl h)
 exact Option.isSome_iff_exists.mp q
theorem vp{CX:DZ}{w:World}{N:List Str}{f:Addr}{cd:Value}{outer:List Env}{s1:Shared}{H:Hp}{E:XK}{vs:List V}
  (S:b_ N ps scope) (hd:A.handled=none) (e0:Ad P w K mg base A outer s H) (hl:vs.length=ps.length) (r:cA vs us)
  (x:InCallC s s.heap.objs.size (bindL (envOfC cD scope s.heap.objs.size f cd).kindOf (ps.zip us) fun _=>none) (cellsFrom (s.heap.objs.size+1) scope.names []) (bindC (envOfC cD scope s.heap.objs.size f cd).kindOf (ps.zip us) fun _=>none) s1) :
  bE (mX CX P w K mg base N cD scope f cd A outer s H E) [] (i4 N vs) H s1:=by
 have mI:ps.length<=N.length:=by have:=eY List.length S.pre;rw[bc]at this;omega
 obtain⟨h1,tk,rfl,hk⟩:=x.done
 have noA:∀b:Addr,b∉(mX CX P w K mg base N cD scope f cd A outer s H E).ex:=fun b z=>absurd (show b∈([]:List Addr)from z) (by simp)
 refine⟨⟨e0.mod,S.kind,rfl,rfl,au _,fun y z c h1 h2=>?_,fun y hy=>?_,fun y c _ h=>?_,fun _=>hd,Around.frames_deeper e0.frames,.inr ⟨rfl,rfl⟩,fun b z=>absurd z (noA b),e0.bs,e0.bsz,fun b _ _=>noA b,fun b z=>absurd z (noA b),e0.funs,e0.frf⟩,
  rfl,e0.bare,Un.kept hk,⟨_,x.toInCall.ns,fun i y v h1 h2 h3=>?_⟩,fun y c h=>⟨_,x.cell y c h⟩,e0.hok.fresh (au _),fun y c h=>?_,fun p hp=>absurd (show p∈([]:List (Addr×Obj))from hp) (by simp),e0.hok.kept hk,?_⟩
 ·exact qV x.apart (PySem.mem_of_lookup h1) (PySem.mem_of_lookup h2)
 ·have hy:scope.names.lookup y=some .cell\/scope.names.lookup y=some .free:=hy
  rcases hy with hy|hy
  ·exact hZ hy
  ·exact absurd rfl (S.nofree _ (PySem.mem_of_lookup hy))
 ·exact dH (x.above y c (PySem.mem_of_lookup h))
 ·have hi:i<vs.length:=by
   unfold i4 at h2
   by_cases hi:i<vs.length
   ·exact hi
   ·rw[bw (by simpa using hi)]at h2
    rw[dz]at h2
    split at h2<;>cases h2
  have ha:vs[i]?=some v:=by
   unfold i4 at h2
   rw[a_ (by simpa using hi),ak]at h2
   cases e:vs[i]? with
   |none=>rw[e]at h2;cases h2
   |some a=>rw[e]at h2;cases h2;rfl
  obtain⟨u,hu,rv⟩:=r.get ha
  have hp:ps[i]?=some y:=by
   rw[<- S.pre,cI (by omega)];exact h1
  have ndP:ps.Nodup:=by rw[<- S.pre];exact S.nd.sublist (lU _ _)
  refine⟨u,rv,?_⟩
  rcases S.par y (aY hp)with k|k
  ·exact .inl ⟨k,rd ndP hp hu k⟩
  ·obtain⟨c,e⟩:=hZ (n:=s.heap.objs.size+1) k
   refine .inr ⟨.inl k,c,e,?_⟩
   have q:=x.cell y c e
   rw[re ndP hp hu (by show scope.names.lookup y≠_;rw[k];decide)]at q
   exact q
 ·exact e0.hok.fresh (dH (x.above y c (PySem.mem_of_lookup h)))
 ·unfold i4
  show _=N.length
  rw[aF,am,nX]
  omega
theorem PP{CX:DZ}{w:World}{k:Nat}{f:Addr}{params:Arguments}{dV kV j9 pm gu ct oc:Value}{an od:Option Addr}
  {Kl:Array (Option Value)} {N ps:List Str} {sp:Sp} (lk:K.lookup f=some ⟨oc,od,.func (fnOf name cD params body scope dV kV j9 pm an gu ct),Kl⟩) (om:codeIn K gu cD=true) (S:b_ N ps scope)
  (len:∀vs H Q E,sp vs H Q E->vs.length=ps.length)
  (qT:∀(A:Around) (outer:List Env) (s:Shared) (H:Hp) (vs:List V) (Q:VK) (E:XK),hX k (A.deeper (envOfC cD scope s.heap.objs.size f gu))->sp vs H Q E ->
   ∃t,Cs (mX CX P w K mg base N cD scope f gu A outer s H E) body t/\t { nx:=fun _ H'=>Q .non H',rt:=Q } (i4 N vs) H) :
  fV P w K mg base CX (k+1) f (fnOf name cD params body scope dV kV j9 pm an gu ct) ps sp:=by
 refine⟨len,fun A outer s H args us vs Q E hr e0 hb r Hv=>?_⟩
 have hl:=len _ _ _ _ Hv
 have KX:K.In s.heap:=e0.mod.kin.keeps fun b o e=>(e0.bs b o e).1
 have lim:s.heap.NoLimit:=e0.mod.nolimit.keeps fun b o e=>(e0.bs b o e).1
 have ef:∀y∈ps.zip us,scope.names.lookup y.1=some .local\/(scope.names.lookup y.1=some .cell/\((cellsFrom (s.heap.objs.size+1) scope.names []).lookup y.1).isSome=true):=fun⟨n,v⟩ hy=>by
  rcases S.par n (gQ hy).1 with q|q
  ·exact .inl q
  ·exact .inr ⟨q,PySem.W.cellsFrom_some _ _ _ (.inl q)⟩
 refine jB hr.depth (KX _ _ lk) rfl S.co S.gen rfl (PySem.W.codeRec_of KX om) (hb _ _ _ _ ?_)
 refine lx S.kind ef fun env he s1 x=>?_
 subst he
 refine⟨lim.keeps x.toInCall.keep,qW ?_⟩
 obtain⟨t,ht,hq⟩:=qT A outer s H vs Q E (hr.deeper _) Hv
 have I:bE (mX CX P w K mg base N cD scope f gu A outer s H E) [] (i4 N vs) H s1:=vp S hr.hd e0 hl r x
 refine dJ (ht [] s1 (i4 N vs) H _ I hq) (fun fl s' hs=>?_) fun e s' hs=>hs
 have lj:∀{σ':St} {H':Hp} {v:V} {u:Value},bE (mX CX P w K mg base N cD scope f gu A outer s H E) [] σ' H' s'->cf v u->Q v H'->CE outer P w H s Q u s':=
  fun{σ' H' v u} J rv q=>⟨v,H',J.os,J.bare,J.base,J.hok,rv,q⟩
 cases fl with
 |ret u=>
  obtain⟨v,σ',H',J,rv,q⟩:=hs
  exact lj J rv q
 |next=>
  obtain⟨σ',H',J,q⟩:=hs
  exact lj (v:=V.non) (u:=Value.none) J rfl q
 |brk=>
  obtain⟨_,_,_,q⟩:=hs
  exact False.elim q
 |cont=>
  obtain⟨_,_,_,q⟩:=hs
  exact False.elim q
section
variable{X:Cx}{t:TA}{id:String}{r:List V->Hp->VK->Prop}
def Tu(r:List V->Hp->VK->Prop)(t:TA):TE:=fun σ H Q=>t σ H fun vs H1=>r vs H1 Q
theorem x6(hc:kC X (.builtin id) r)(hg:Gl X x)(hm:X.mg x=none)(hv:bootBuiltins x=some (.builtin id))(ha:PA X (e::es) t)(hn:x ≠ "__name__":=by decide)(vf:(x==("__debug__":Str))=false:=by decide)
  (he:starEach (e::es) X.env=(false,eval e X.env)::starEach es X.env:=by rfl) (mI:(backTo pos (starEach es X.env)).any (·.1)=false:=by rfl):PE X (.Call (.Name x p) (e::es) [] pos) (Tu r t):=by
 intro af s σ H Q I h
 refine dw (mV I hg hm hv ?_ hn vf)
 exact jL (hW (ha pos af s σ H _ I h) fun us s1 ⟨vs,H1,I1,r1,q1⟩=>hc af s1 σ H1 vs us Q I1 r1 q1) he mI
theorem CA(hc:kC X (.type T) r)(hg:Gl X x)(hm:X.mg x=none)(hv:bootBuiltins x=some (.type T))(ha:PA X (e::es) t)(hn:x ≠ "__name__":=by decide)(vf:(x==("__debug__":Str))=false:=by decide)
  (he:starEach (e::es) X.env=(false,eval e X.env)::starEach es X.env:=by rfl) (mI:(backTo pos (starEach es X.env)).any (·.1)=false:=by rfl):PE X (.Call (.Name x p) (e::es) [] pos) (Tu r t):=by
 intro af s σ H Q I h
 refine dw (mV I hg hm hv ?_ hn vf)
 exact cM (hW (ha pos af s σ H _ I h) fun us s1 ⟨vs,H1,I1,r1,q1⟩=>hc af s1 σ H1 vs us Q I1 r1 q1) he mI
end
end L2
variable{xs:List (List L2.i9×PySem.Addr×PySem.Value)}{H H':L2.Hp}{X:L2.Cx}{v y:L2.V}{σ:L2.St}{te:L2.TE}{tc:L2.TT}{wi:L2.TI}{vs:List L2.V}
namespace HT
open PySem PyProof.Rows
section
open PySem.SeqAt
open PySem.AutoSeq1 (wpAny_loadPart')
open PySem.MeetsSeq PySem.MeetsSeq2 PySem.MeetsSeq3
end
section
variable{w:World}
theorem cat_tup{t:Addr}{vs ws:List Value}(ht:IsTup s.heap t vs.toArray)(hb:IsTup s.heap b ws.toArray)(hv:vs≠[])
  (h1:ws=[]->Q (.ref t) s) (h2:ws≠[]->Q (.ref s.heap.objs.size) { s with heap:=s.heap.push { cls:=.type "tuple",data:=.seq (vs++ws).toArray } })
  (hsz:vs.length+ws.length<=sizeLine):wpAny (model prog w) A (binaryOp .Add (.ref t) (.ref b)) Q E s:=by
 obtain⟨⟨cls,dd,data,sl⟩,ho,hc,n,hd⟩:=id ht
 obtain⟨⟨cls2,dd2,data2,sl2⟩,ho2,hc2,n2,hd2⟩:=id hb
 simp only at hc hd hc2 hd2
 subst hc hd hc2 hd2
 have e:vs.toArray++ws.toArray=(vs++ws).toArray:=by simp
 by_cases hw:ws=[]
 ·exact qX ⟨_,ho,rfl⟩ ⟨_,ho2,rfl⟩ mJ pJ PySem.F.slot_tuple_add PySem.F.entry_tuple_add (PySem.F.args_tuple_add_2 _ _)
   (tuple_addW1 t b vs.toArray ws.toArray n n2 dd dd2 sl sl2 (by simpa using hv) (by simp[hw])) ⟨ho,ho2,h1 hw⟩
 ·refine qX ⟨_,ho,rfl⟩ ⟨_,ho2,rfl⟩ mJ pJ PySem.F.slot_tuple_add PySem.F.entry_tuple_add (PySem.F.args_tuple_add_2 _ _)
   (tuple_addW2 t b vs.toArray ws.toArray n n2 dd dd2 sl sl2 (by simpa using hv) (by simpa using hw) (by rw[aO,aO];exact hsz)) ⟨ho,ho2,?_⟩
  rw[e]
  exact h2 hw
def sIx(n d:Nat):Option Int->Nat
 |none=>d
 |some v=>if v<0 then(v+(n:Int)).toNat else min v.toNat n
theorem sIx_none(n d:Nat):sIx n d none=d:=rfl
theorem sIx_nat(n d k:Nat):sIx n d (some (k:Int))=min k n:=by
 show(if (k:Int)<0 then((k:Int)+(n:Int)).toNat else min (k:Int).toNat n)=min k n
 rw[az (by omega),aB]
theorem sIx_le(n d:Nat)(hd:d<=n)(o:Option Int):sIx n d o<=n:=by
 cases o with
 |none=>exact hd
 |some v=>
  show(if v<0 then(v+(n:Int)).toNat else min v.toNat n)<=n
  by_cases hv:v<0
  ·rw[av hv];omega
  ·rw[az hv];exact Nat.min_le_right _ _
theorem Bb(v:Int)(n d:Nat):(if v<0 then max (v+(n:Int)) 0 else min v (n:Int))=((sIx n d (some v):Nat):Int):=by
 show(if v<0 then max (v+(n:Int)) 0 else min v (n:Int))=(((if v<0 then(v+(n:Int)).toNat else min v.toNat n):Nat):Int)
 by_cases hv:v<0
 ·simp only[av hv];omega
 ·simp only[az hv];omega
theorem Ae(lo hi:Option Int)(n:Nat):Builtin.Slice.sliceAdjust lo hi 1 (n:Int)=(((sIx n 0 lo:Nat):Int),((sIx n n hi:Nat):Int)):=by
 have h1:¬ ((1:Int)<0):=by omega
 unfold Builtin.Slice.sliceAdjust
 simp only[h1,eL]
 refine Prod.ext ?_ ?_
 ·cases lo with
  |none=>rfl
  |some v=>exact Bb v n 0
 ·cases hi with
  |none=>rfl
  |some v=>exact Bb v n n
theorem Af(i j:Nat):Builtin.Slice.slicePlaces (i:Int) (j:Int) 1=j-i:=by
 unfold Builtin.Slice.slicePlaces
 have h1:(1:Int)>0:=by omega
 simp only[h1,gF,Int.ediv_one]
 split<;>omega
theorem tI{v:Value}{o:Option Int}{Q:Option Int->Shared->Prop}(p:IsPart v o)(h:Q o s):wpAny (model prog w) A (Builtin.Slice.slicePartIndex v) Q E s:=by
 cases p with
 |none=>exact slicePart_none h
 |int i t=>exact slicePart_int h
theorem sliceApplied_gen{sl:Addr}{vl vu:Value}{lo hi:Option Int}{Q:Int×Int×Nat->Shared->Prop}(hs:s.heap.IsSliceOf sl vl vu .none)(pl:IsPart vl lo)(pu:IsPart vu hi)
  (h:Q (((sIx n 0 lo:Nat):Int),1,sIx n n hi-sIx n 0 lo) s):wpAny (model prog w) A (Builtin.Slice.sliceApplied (.ref sl) (pure (n:Int))) Q E s:=by
 obtain⟨os,hos,hcs,Mf⟩:=id hs
 unfold Builtin.Slice.sliceApplied Builtin.Slice.sliceFields
 refine aa (aa (bS hos Mf (x:=vl) rfl (aa (bS hos Mf (x:=vu) rfl (aa (bS hos Mf (x:=.none) rfl (ae ?_)))))))
 refine aa (slicePart_none ?_)
 show wpAny _ _ (if ((1:Int)==0)=true then _ else _) _ _ s
 rw[az (by decide)]
 refine aa (tI pl (aa (tI pu (aa (ae ?_)))))
 show wpAny _ _ (match Builtin.Slice.sliceAdjust lo hi 1 (n:Int)with|(lo,hi)=>pure (lo,(1:Int),Builtin.Slice.slicePlaces lo hi 1)) _ _ s
 rw[Ae lo hi n]
 show wpAny _ _ (pure (((sIx n 0 lo:Nat):Int),(1:Int),Builtin.Slice.slicePlaces ((sIx n 0 lo:Nat):Int) ((sIx n n hi:Nat):Int) 1)) _ _ s
 rw[Af]
 exact ae h
theorem En(xs:Array Value)(i k:Nat):((List.range k).filterMap fun(m:Nat)=>xs[((i:Int)+(m:Int)*1).toNat]?).toArray=((xs.toList.drop i).take k).toArray:=by
 have e:(fun(m:Nat)=>xs[((i:Int)+(m:Int)*1).toNat]?)=fun m=>xs[i+m]?:=by
  funext m
  have:((i:Int)+(m:Int)*1).toNat=i+m:=by omega
  rw[this]
 rw[e]
 have:=pick_run xs i k
 rw[List.filterMap_map]at this
 have e2:((fun x=>xs[x]?)∘fun x=>i+x)=fun m=>xs[i+m]?:=rfl
 rw[e2]at this
 rw[this]
theorem getItem_tuple_cut{t sl:Addr}{items:Array Value}{vl vu:Value}{lo hi:Option Int}(ht:IsTup s.heap t items)(hs:s.heap.IsSliceOf sl vl vu .none)(pl:IsPart vl lo)(pu:IsPart vu hi)
  (hw:¬ (sIx items.size 0 lo=0/\sIx items.size items.size hi=items.size))
  (h:Q (.ref s.heap.objs.size) { s with heap:=s.heap.push { cls:=.type "tuple",data:=.seq ((items.toList.drop (sIx items.size 0 lo)).take (sIx items.size items.size hi-sIx items.size 0 lo)).toArray } })
  (hsz:items.size<=sizeLine):wpAny (model prog w) A (getItem (.ref t) (.ref sl)) Q E s:=by
 have htake:sizeOk (.seq ((items.toList.drop (sIx items.size 0 lo)).take (sIx items.size items.size hi-sIx items.size 0 lo)).toArray):=by
  show((items.toList.drop (sIx items.size 0 lo)).take (sIx items.size items.size hi-sIx items.size 0 lo)).toArray.size<=sizeLine
  rw[aO,bc,cJ,da]
  omega
 have hj:sIx items.size items.size hi<=items.size:=sIx_le _ _ (au _) hi
 obtain⟨os,hos,hcs,Mf⟩:=id hs
 have hTs:s.TypeIs (.ref sl) "slice":=⟨os,hos,hcs⟩
 unfold getItem
 try with_reducible refine cx ?_
 first|refine aa (ae ?_)|skip
 refine aa (wpAny_sequenceKey ht.typeIs (by decide) ?_)
 refine aa (bt (name:=Str.ofString "__getitem__") ht.typeIs dY
  (bp dY ht.typeIs entry_tuple_getitem ?_ (args_tuple_getitem _ _)))
 show wpAny _ _ (Builtin.Tuple.tupleItemsOf (.ref t) >>= _) _ _ s
 refine aa (tupleItemsOf_ ht ?_)
 refine aa (iB hTs ?_)
 rw[av (by decide)]
 refine aa (sliceApplied_gen hs pl pu ?_)
 have hno:¬ ((((sIx items.size 0 lo:Nat):Int)==0&&(1:Int)==1&&(sIx items.size items.size hi-sIx items.size 0 lo)==items.size)=true):=by
  intro q
  rw[bA,bA]at q
  have q1:((sIx items.size 0 lo:Nat):Int)=0:=jM q.1.1
  have q2:sIx items.size items.size hi-sIx items.size 0 lo=items.size:=jM q.2
  exact hw ⟨by omega,by omega⟩
 show wpAny _ _ (if (((sIx items.size 0 lo:Nat):Int)==0&&(1:Int)==1&&(sIx items.size items.size hi-sIx items.size 0 lo)==items.size)=true then _ else _) _ _ s
 rw[az hno,En]
 first
  |exact aa (m:=Builtin.Tuple.tupleExact _) (bJ (ae ⟨_,rfl,ae h⟩) htake)
  |exact aa (m:=Builtin.Tuple.tupleExact _) (bJ (aa (ae (ae ⟨_,rfl,ae h⟩))) htake)
  |exact aa (aa (m:=Builtin.Tuple.tupleExact _) (bJ (ae (ae ⟨_,rfl,ae h⟩)) htake))
  |exact aa (aa (m:=Builtin.Tuple.tupleExact _) (bJ (ae ⟨_,rfl,ae h⟩) htake))
end
end HT
namespace L2
open PySem PySem.Spec PyProof.Rows
abbrev TO:=St->Hp->(Option Int->Hp->Prop)->Prop
def PO(X:Cx)(e:Option Expr)(t:TO):Prop:=
 ∀(af:List (Addr×Obj)) (s:Shared) (σ:St) (H:Hp) (Q:Option Int->Hp->Prop),bE X af σ H s->t σ H Q ->
  wpAny (model X.prog X.w) X.A (evalPart e X.env) (fun u s'=>∃o H',bE X af σ H' s'/\IsPart u o/\Q o H') X.xe s
def H9:TO:=fun _ H Q=>Q none H
def PQ(t:TE):TO:=fun σ H Q=>t σ H fun x H1=>∃i,x=.int i/\Q (some i) H1
section
variable{lo hi:Option Expr}{tl th:TO}
theorem H_:PO X none H9:=by
 intro af s σ H Q I h
 rw[mi]
 exact ae ⟨none,H,I,.none,h⟩
theorem Ia(h:PE X e te):PO X (some e) (PQ te):=by
 intro af s σ H Q I hw
 rw[evalPart_some]
 refine hW (h af s σ H _ I hw) fun u s1 ⟨x,H1,I1,r1,q1⟩=>?_
 obtain⟨i,rfl,q⟩:=q1
 obtain⟨t,rfl⟩:=r1
 exact⟨some i,H1,I1,.int i t,q⟩
def PR(X:Cx)(r:V->Option Int->Option Int->Hp->VK->Prop):Prop:=
 ∀(af:List (Addr×Obj)) (s:Shared) (σ:St) (H:Hp) (x:V) (v vl vu:Value) (lo hi:Option Int) (sl:Addr) (Q:VK),bE X af σ H s->cf x v->s.heap.IsSliceOf sl vl vu .none->IsPart vl lo->IsPart vu hi->r x lo hi H Q ->
  ∃T id,typeLookup (.type T) "__getitem__"=pure (some (.builtin id))/\s.TypeIs v T/\wpAny (model X.prog X.w) X.A (getItem v (.ref sl)) (EP X af σ Q) X.xe s
def UP(r:V->Option Int->Option Int->Hp->VK->Prop)(te:TE)(tl th:TO):TE:=fun σ H Q=>te σ H fun x H1=>tl σ H1 fun l H2=>th σ H2 fun u H3=>r x l u H3 Q
theorem Eo{r:V->Option Int->Option Int->Hp->VK->Prop}(hr:PR X r)(he:PE X e te)(hl:PO X lo tl)(hu:PO X hi th):PE X (.Subscript e (.Slice lo hi none p2) pos) (UP r te tl th):=by
 intro af s σ H Q I h
 refine nv (hW (he af s σ H _ I h) fun v s1 ⟨x,H1,I1,r1,q1⟩=>?_)
 refine wpAny_Slice (hW (hl af s1 σ H1 _ I1 q1) fun vl s2 ⟨l,H2,I2,pl,q2⟩=>hW (hu af s2 σ H2 _ I2 q2) fun vu s3 ⟨u,H3,I3,pu,q3⟩=>?_)
 rw[mi]
 refine ae ?_
 have I4:bE X af σ H3 { s3 with heap:=s3.heap.push { cls:=.type "slice",data:=.fields #[vl,vu,.none] } }:=I3.kept (t':=s3.toks) fun b ob q=>aj _ q
 obtain⟨T,id,hT,ht,hg⟩:=hr af { s3 with heap:=s3.heap.push { cls:=.type "slice",data:=.fields #[vl,vu,.none] } } σ H3 x v vl vu l u s3.heap.objs.size Q I4 r1 (Heap.IsSliceOf.new ..) pl pu q3
 show wpAny (model X.prog X.w) X.A (subscriptTail e (.Slice lo hi none p2) v (.ref s3.heap.objs.size)) (EP X af σ Q) X.xe { s3 with heap:=s3.heap.push { cls:=.type "slice",data:=.fields #[vl,vu,.none] } }
 exact tail_any (ops:=[.ref s3.heap.objs.size,v]) ht hT hg (by with_unfolding_all rfl)
def tJ(xs:List V)(lo hi:Option Int):List V:=(xs.drop (HT.sIx xs.length 0 lo)).take (HT.sIx xs.length xs.length hi-HT.sIx xs.length 0 lo)
theorem se(xs:List V)(lo hi:Option Int):(tJ xs lo hi).length<=xs.length:=by
 unfold tJ
 rw[bc,cJ]
 omega
def Tv(K:Frag):V->Option Int->Option Int->Hp->VK->Prop:=fun x lo hi H Q=>∃a xs,x=.ref a/\fj K H a xs /\
 ¬ (HT.sIx xs.length 0 lo=0/\HT.sIx xs.length xs.length hi=xs.length)/\∀p,H p=none->Q (.ref p) (eJ H p (.tup (tJ xs lo hi)))
theorem MN:PR X (Tv X.K):=by
 intro af s σ H x v vl vu lo hi sl Q I rx hs pl pu h
 obtain⟨a,xs,rfl,hx,hw,q⟩:=h
 cases rx
 obtain⟨its,r,ht,hz⟩:=I.tuple hx
 have c_:its.toArray.size=xs.length:=by rw[aO];exact r.length.symm
 refine⟨"tuple",_,dY.lookup,ht.typeIs,?_⟩
 refine HT.getItem_tuple_cut ht hs pl pu (by rw[c_];exact hw) ?_ (by rw[c_];exact hz)
 rw[c_]
 refine⟨.ref s.heap.objs.size,_,I.laid (t':=s.toks) (o:=.tup (tJ xs lo hi)) (fun b ob q=>aj _ q) (au _) ?_,rfl,q _ (I.hok.fresh (au _))⟩
 exact⟨bd (se xs lo hi) hz,_,(r.drop (HT.sIx xs.length 0 lo)).take (HT.sIx xs.length xs.length hi-HT.sIx xs.length 0 lo),IsTup.new _ _⟩
def PU(K:Frag):R2:=fun x y H Q=>∃a b xs ys,x=.ref a/\y=.ref b/\fj K H a xs/\fj K H b ys/\xs≠[]/\xs.length+ys.length<=sizeLine /\
 (ys=[]->Q (.ref a) H)/\(ys≠[]->∀p,H p=none->Q (.ref p) (eJ H p (.tup (xs++ys))))
theorem cA.nil_iff{xs:List V}(r:cA xs us):us=[]↔xs=[]:=by
 cases r with
 |nil=>simp
 |cons _ _=>simp
theorem Ib:l7 X (binaryOp .Add) (PU X.K):=by
 intro af s σ H x y v u Q I rx ry h
 obtain⟨a,b,xs,ys,rfl,rfl,ha,hb,hx,hz,q1,q2⟩:=h
 cases rx
 cases ry
 obtain⟨its,r1,p1,_⟩:=I.tuple ha
 obtain⟨its2,r2,p2,_⟩:=I.tuple hb
 refine HT.cat_tup p1 p2 (fun z=>hx (r1.nil_iff.mp z)) (fun z=>⟨.ref a,H,I,rfl,q1 (r2.nil_iff.mp z)⟩) (fun z=>?_) (by rw[<- r1.length,<- r2.length];exact hz)
 refine⟨.ref s.heap.objs.size,_,I.laid (t':=s.toks) (o:=.tup (xs++ys)) (fun b ob q=>aj _ q) (au _) ?_,rfl,q2 (fun w=>z (r2.nil_iff.mpr w)) _ (I.hok.fresh (au _))⟩
 exact⟨by rw[aF];exact hz,_,r1.append r2,IsTup.new _ _⟩
theorem x9:kC X (.type "tuple") (fun xs H Q=>∃a ys,xs=[.ref a]/\fj X.K H a ys/\Q (.ref a) H):=by
 intro af s σ H xs us Q I r h
 obtain⟨a,ys,rfl,ha,q⟩:=h
 obtain⟨u,rfl,ru⟩:=pq r
 cases ru
 obtain⟨its,_,p1,_⟩:=I.tuple ha
 exact call_tuple_same (items:=its.toArray) p1 ⟨.ref a,H,I,rfl,q⟩
end
def Ky(n:Nat)(i:Int):Option Nat:=if 0<=i then(if i<n then some i.toNat else none)else if -(n:Int)<=i then some (i+n).toNat else none
def sW(xs:List α)(i:Int):Option α:=(Ky xs.length i).bind fun j=>xs[j]?
theorem Ic{i:Int}(h:Ky n i=some j):seqIndex? i n=some j/\j<n/\-(n:Int)<=i/\i<n:=by
 unfold Ky at h
 by_cases h0:0<=i
 ·rw[av h0]at h
  by_cases h1:i<n
  ·rw[av h1]at h
   have e:i.toNat=j:=a9 h
   exact⟨by rw[seqIndex_of h0 h1,e],by omega,by omega,h1⟩
  ·rw[az h1]at h;cases h
 ·rw[az h0]at h
  by_cases h1:-(n:Int)<=i
  ·rw[av h1]at h
   have e:(i+n).toNat=j:=a9 h
   exact⟨by rw[seqIndex_neg (by omega) h1,e],by omega,h1,by omega⟩
  ·rw[az h1]at h;cases h
theorem wl{xs:List α}{i:Int}{v:α}(h:sW xs i=some v):∃j,seqIndex? i xs.length=some j/\xs[j]?=some v/\j<xs.length/\-(xs.length:Int)<=i/\i<xs.length:=by
 unfold sW at h
 cases e:Ky xs.length i with
 |none=>rw[e]at h;cases h
 |some j=>
  rw[e]at h
  obtain⟨h1,h2,h3,h4⟩:=Ic e
  exact⟨j,h1,h,h2,h3,h4⟩
def Bc(b:Expr):Prop:=∀o i,subscripted b false o i=operate [o,i] (getItem o i)
def HA(X:Cx)(r:R2):Prop:=
 ∀(value slice:Expr) (af:List (Addr×Obj)) (s:Shared) (σ:St) (H:Hp) (x y:V) (v u:Value) (Q:VK),bE X af σ H s->cf x v->cf y u->r x y H Q ->
  subscripted slice false v u=operate [v,u] (getItem v u)->wpAny (model X.prog X.w) X.A (subscriptTail value slice v u) (EP X af σ Q) X.xe s
def HB(X:Cx)(id:String)(r:V->List V->Hp->VK->Prop):Prop:=
 ∀(af:List (Addr×Obj)) (s:Shared) (σ:St) (H:Hp) (x:V) (xs:List V) (v:Value) (us:List Value) (Q:VK),bE X af σ H s->cf x v->cA xs us->r x xs H Q ->
  wpAny (model X.prog X.w) X.A (call (.builtin id) (v::us)) (EP X af σ Q) X.xe s
section
variable{a b:Expr}{ta tb:TE}
theorem HA.or{r r':R2}(h:HA X r)(h':HA X r'):HA X (fun x y H Q=>r x y H Q\/r' x y H Q):=by
 intro value slice af s σ H x y v u Q I rx ry q hs
 rcases q with q|q
 ·exact h value slice af s σ H x y v u Q I rx ry q hs
 ·exact h' value slice af s σ H x y v u Q I rx ry q hs
theorem PV{r:R2}(hr:HA X r)(ha:PE X a ta)(hb:PE X b tb)(hs:Bc b):PE X (.Subscript a b pos) (Pz r ta tb):=by
 intro af s σ H Q I h
 exact nv (MA ha hb I h fun v u s2 x y H2 I2 rx ry q=>hr a b af s2 σ H2 x y v u Q I2 rx ry q (hs _ _))
def PX(K:Frag):R2:=fun x y H Q=>∃p xs i v,x=.ref p/\y=.int i/\nG K H p xs/\sW xs i=some v/\Q v H
def PY(K:Frag):R2:=fun x y H Q=>∃p xs i v,x=.ref p/\y=.int i/\fj K H p xs/\sW xs i=some v/\Q v H
def PZ:R2:=fun x y H Q=>∃z i c,x=.str z/\y=.int i/\z.length<=sizeLine/\sW z.cps.toList i=some c/\Q (.str ⟨#[c]⟩) H
theorem Ie:HA X (PX X.K):=by
 intro value slice af s σ H x y v u Q I rx ry h hs
 obtain⟨p,xs,i,z,rfl,rfl,hq,he,q⟩:=h
 cases rx
 obtain⟨t,rfl⟩:=ry
 obtain⟨its,r,pl,hz⟩:=I.list hq
 obtain⟨j,h1,h2,h3,h4,h5⟩:=wl he
 obtain⟨w,ew,jW⟩:=r.get h2
 have hl:=r.length
 have hn:=tH
 have lj:EP X af σ Q w s:=⟨z,H,I,jW,q⟩
 by_cases h0:0<=i
 ·have hj:i.toNat=j:=by
   rw[seqIndex_of h0 h5]at h1
   exact a9 h1
  exact item_listR pl.isList h0 (by omega) (by rw[hj];simpa using ew) lj hs
 ·have hj:(i+(its.toArray.size:Int)).toNat=j:=by
   rw[seqIndex_neg (by omega) h4]at h1
   rw[aO,<- hl]
   exact a9 h1
  exact nw (x:=w) pl.isList.typeIs slot_list_getitem.lookup
   (wpAny_getItem_list_neg (Q:=fun r s'=>r=w/\EP X af σ Q r s') pl.isList (by omega) (by rw[aO]<;>omega) (by omega) (by rw[hj];simpa using ew) ⟨rfl,lj⟩) hs
theorem MO:HA X (PY X.K):=by
 intro value slice af s σ H x y v u Q I rx ry h hs
 obtain⟨p,xs,i,z,rfl,rfl,hq,he,q⟩:=h
 cases rx
 obtain⟨t,rfl⟩:=ry
 obtain⟨its,r,pl,hz⟩:=I.tuple hq
 obtain⟨j,h1,h2,h3,h4,h5⟩:=wl he
 obtain⟨w,ew,jW⟩:=r.get h2
 have hl:=r.length
 have hn:=tH
 have lj:EP X af σ Q w s:=⟨z,H,I,jW,q⟩
 exact nw (x:=w) pl.typeIs slot_tuple_getitem.lookup
  (getItem_tuple (j:=j) (Q:=fun r s'=>r=w/\EP X af σ Q r s') pl (by omega) (by omega) (by rw[aO,<- hl];exact h1) (by simpa using ew) ⟨rfl,lj⟩) hs
theorem MP:HA X PZ:=by
 intro value slice af s σ H x y v u Q I rx ry h hs
 obtain⟨z,i,c,rfl,rfl,hz,he,q⟩:=h
 obtain⟨t,rfl⟩:=rx
 obtain⟨t',rfl⟩:=ry
 obtain⟨j,h1,h2,h3,h4,h5⟩:=wl he
 have hl:z.cps.toList.length=z.length:=by simp[Str.length]
 rw[hl]at h1 h4 h5
 have hn:=tH
 exact tail_any (ny s z t) slot_str_getitem.lookup (getItem_str (c:=c) (by
  have e1:decide (i < -(2^63:Int))=false:=aH (by omega)
  have e2:decide (i≥2^63)=false:=aH (by omega)
  rw[e1,e2,Bool.or_false]) (by rw[h1];simpa using h2) ⟨.str ⟨#[c]⟩,H,I.tok _,⟨_,rfl⟩,q⟩) hs
def UQ(K:Frag):R2:=fun x y H Q=>PX K x y H Q\/PY K x y H Q\/PZ x y H Q
theorem MQ:HA X (UQ X.K):=Ie.or (MO.or MP)
theorem wm(lo hi:Option Int)(n:Nat):(sliceBounds lo hi none n).1=((HT.sIx n 0 lo:Nat):Int)/\(sliceBounds lo hi none n).2.1=((HT.sIx n n hi:Nat):Int)/\(sliceBounds lo hi none n).2.2=1:=by
 refine⟨?_,?_,rfl⟩
 ·cases lo with
  |none=>simp[sliceBounds,HT.sIx]
  |some i=>
   simp only[sliceBounds,HT.sIx,Option.getD_none,show(1:Int)>0 by decide,gF]
   by_cases h:i<0
   ·simp only[h,gF]<;>omega
   ·simp only[h,eL]<;>omega
 ·cases hi with
  |none=>simp[sliceBounds,HT.sIx]
  |some i=>
   simp only[sliceBounds,HT.sIx,Option.getD_none,show(1:Int)>0 by decide,gF]
   by_cases h:i<0
   ·simp only[h,gF]<;>omega
   ·simp only[h,eL]<;>omega
theorem uY(its:List Value)(lo hi:Option Int):slicePick its.toArray lo hi none=((its.drop (HT.sIx its.length 0 lo)).take (HT.sIx its.length its.length hi-HT.sIx its.length 0 lo)).toArray:=by
 obtain⟨h1,h2,h3⟩:=wm lo hi its.toArray.size
 unfold slicePick
 rw[h1,h2,h3]
 simp only[sliceRange_one,pick_run,aO]<;>rfl
def Tw(K:Frag):V->Option Int->Option Int->Hp->VK->Prop:=fun x lo hi H Q=>∃a xs,x=.ref a/\nG K H a xs/\∀p,H p=none->Q (.ref p) (eJ H p (.lst (tJ xs lo hi)))
theorem Ig:PR X (Tw X.K):=by
 intro af s σ H x v vl vu lo hi sl Q I rx hs pl pu h
 obtain⟨a,xs,rfl,hx,q⟩:=h
 cases rx
 obtain⟨its,r,ht,hz⟩:=I.list hx
 have c_:=r.length
 refine⟨"list",_,slot_list_getitem.lookup,ht.isList.typeIs,?_⟩
 refine mj ht.isList hs pl pu .none (by simp) ?_ (by rw[aO]<;>omega)
 rw[uY,<- c_]
 refine⟨.ref s.heap.objs.size,_,I.laid (t':=s.toks) (o:=.lst (tJ xs lo hi)) (fun b ob q=>aj _ q) (au _) ?_,rfl,q _ (I.hok.fresh (au _))⟩
 exact⟨bd (se xs lo hi) hz,_,0,(r.drop (HT.sIx xs.length 0 lo)).take (HT.sIx xs.length xs.length hi-HT.sIx xs.length 0 lo),aq _ rfl⟩
theorem qh:kC X (.builtin "len") (fun xs H Q=>∃p ys,xs=[.ref p]/\(nG X.K H p ys\/fj X.K H p ys)/\Q (.int ys.length) H):=by
 intro af s σ H xs us Q I r h
 obtain⟨p,ys,rfl,hq,q⟩:=h
 obtain⟨u,rfl,rx⟩:=pq r
 cases rx
 have hn:=tH
 rcases hq with hq|hq
 ·obtain⟨its,r',pl,hz⟩:=I.list hq
  have c_:=r'.length
  exact Calls.call_len_list pl.isList (by simp only[aO]<;>omega) ⟨.int ys.length,H,I.tok _,⟨s.toks+1,by rw[aO,c_]⟩,q⟩
 ·obtain⟨its,r',pl,hz⟩:=I.tuple hq
  have c_:=r'.length
  exact len_tuple pl (by simp only[aO]<;>omega) ⟨.int ys.length,H,I.tok _,⟨s.toks+1,by rw[aO,c_]⟩,q⟩
theorem wn:kC X (.builtin "len") (fun xs H Q=>∃z,xs=[.str z]/\z.length<=sizeLine/\Q (.int z.length) H):=by
 intro af s σ H xs us Q I r h
 obtain⟨z,rfl,hz,q⟩:=h
 obtain⟨u,rfl,t,rfl⟩:=pq r
 have hn:=tH
 exact len_str (by omega) ⟨.int z.length,H,I.tok _,⟨_,rfl⟩,q⟩
theorem uZ:kC X (.type "tuple") (fun xs H Q=>∃p ys,xs=[.ref p]/\((nG X.K H p ys/\∀l,H l=none->Q (.ref l) (eJ H l (.tup ys)))\/(fj X.K H p ys/\Q (.ref p) H))):=by
 intro af s σ H xs us Q I r h
 obtain⟨p,ys,rfl,h⟩:=h
 obtain⟨u,rfl,rx⟩:=pq r
 cases rx
 rcases h with⟨hq,q⟩|⟨hq,q⟩
 ·obtain⟨its,r',pl,hz⟩:=I.list hq
  have c_:=r'.length
  refine call_tuple_list pl.isList (fun h' kp=>?_) (by simp only[aO]<;>omega)
  have I1:bE X af σ H { s with heap:=h' }:=I.kept (t':=s.toks) kp
  have I2:bE X af σ (eJ H h'.objs.size (.tup ys)) { s with heap:=h'.push { cls:=.type "tuple",data:=.seq its.toArray } }:=
   I1.laid (t':=s.toks) (fun b o e=>aj _ e) (au _) (show eO X.prog X.w _ _ _ (.tup ys)from⟨hz,its,r',IsTup.new _ _⟩)
  exact⟨.ref h'.objs.size,_,I2,rfl,q _ (I1.hok.fresh (au _))⟩
 ·obtain⟨its,r',pl,hz⟩:=I.tuple hq
  exact call_tuple_same pl ⟨.ref p,H,I,rfl,q⟩
def Sz(K:Frag)(T:String)(x:V)(H:Hp):Prop:=match x with
 |.str _=>T="str"
 |.int _=>T="int"
 |.ref p=>(T="list"/\∃xs,nG K H p xs)\/(T="tuple"/\∃o,K.lookup p=some o/\o.cls=.type "tuple"/\o.dict=none) \/
   (T="dict"/\((∃kvs,H p=some (.dK kvs))\/∃kvs,H p=some (.dT kvs)))\/(T="set"/\∃S n,H p=some (.set S n))
 |_=>False
theorem MR{x:V}{v:Value}(I:bE X af σ H s)(r:cf x v)(ty:Sz X.K T x H) :
  s.TypeIs v T/\∀a,v=.ref a->∃ob,s.heap.get? a=some ob/\ob.dict=none:=by
 cases x with
 |str z=>
  obtain⟨t,rfl⟩:=r
  cases(show T="str" from ty)
  exact⟨ny s z t,fun _ e=>nomatch e⟩
 |int i=>
  obtain⟨t,rfl⟩:=r
  cases(show T="int" from ty)
  exact⟨nz s i t,fun _ e=>nomatch e⟩
 |ref p=>
  cases r
  rcases ty with⟨rfl,xs,hq⟩|⟨rfl,o,hk,hc,hd⟩|⟨rfl,hk⟩|⟨rfl,S,n,hk⟩
  ·obtain⟨its,_,pl,_⟩:=I.list hq
   refine⟨pl.isList.typeIs,fun a e=>?_⟩
   cases e
   obtain⟨o,n,e,c,hd,_⟩:=pl
   exact⟨o,e,hd⟩
  ·refine⟨⟨o,I.kIn p o hk,hc⟩,fun a e=>?_⟩
   cases e
   exact⟨o,I.kIn _ o hk,hd⟩
  ·have z:∃o,s.heap.get? p=some o/\o.ExactDict:=by
    rcases hk with⟨kvs,hk⟩|⟨kvs,hk⟩
    ·obtain⟨_,_,_,_,o,_,_,e,ex,_⟩:=I.hok p _ hk
     exact⟨o,e,ex⟩
    ·obtain⟨_,_,_,_,o,_,_,e,ex,_⟩:=I.hok p _ hk
     exact⟨o,e,ex⟩
   obtain⟨o,e,ex⟩:=z
   refine⟨⟨o,e,ex.1⟩,fun a e2=>?_⟩
   cases e2
   exact⟨o,e,ex.2.1⟩
  ·obtain⟨o,_,_,_,e,ex,_⟩:=I.hok p _ hk
   refine⟨⟨o,e,ex.1⟩,fun a e2=>?_⟩
   cases e2
   exact⟨o,e,ex.2.1⟩
 |_=>exact False.elim ty
variable{o:Expr}{to:TE}{t:TA}{id:String}{r:V->List V->Hp->VK->Prop}
end
def Tx(X:Cx)(id:String)(r:V->List V->Hp->VK->Prop):Prop:=
 ∀(af:List (Addr×Obj)) (s:Shared) (σ:St) (H:Hp) (x:V) (xs:List V) (v:Value) (us:List Value) (Q:VK),bE X af σ H s->cf x v->cA xs us->r x xs H Q ->
  wpAny (model X.prog X.w) X.A (call (.builtin id) (v::us)) (EP X af σ Q) X.xe s
theorem cA.one:∀{x:V} {us:List Value},cA [x] us->∃u,us=[u]/\cf x u
 |_,_,.cons r .nil=>⟨_,rfl,r⟩
theorem cA.two:∀{x y:V} {us:List Value},cA [x,y] us->∃u v,us=[u,v]/\cf x u/\cf y v
 |_,_,_,.cons r (.cons q .nil)=>⟨_,_,rfl,r,q⟩
theorem cA.rep{xs:List V}(h:cA xs us):∀k:Nat,cA (List.replicate k xs).flatten (List.replicate k us).flatten
 |0=>.nil
 |k+1=>by
  rw[b0,b0,cN,cN]
  exact cA.append h (cA.rep h k)
theorem oP(its:List Value):∀(k:Nat) (acc:List Value),
  List.foldl (fun x1 x2=>x1++x2) acc.toArray (List.replicate k its.toArray)=(acc++(List.replicate k its).flatten).toArray
 |0,acc=>by simp
 |k+1,acc=>by
  have e:acc.toArray++its.toArray=(acc++its).toArray:=by simp
  have e2:(acc++its)++(List.replicate k its).flatten=acc++(List.replicate (k+1) its).flatten:=by
   rw[b0,cN,a8]
  rw[<- e2,<- oP its k (acc++its),<- e,b0,nP]
section
variable{l:Addr}{xs ys zs:List V}
theorem bE.lset{its':List Value}{f:Array Value->Array Value}{t':Nat}(I:bE X af σ H s)(hH:H l=some (.lst xs))
  (e:s.heap.get? l=some { cls:=.type "list",data:=.seq its.toArray n }) (hf:f its.toArray=its'.toArray) (hv:cA ys its') (hz:ys.length<=sizeLine) :
  bE X af σ (eJ H l (.lst ys)) { s with heap:=s.heap.update l (Obj.mapSeq f),toks:=t' }:=by
 have q:=PySem.IsL.update e f
 rw[hf]at q
 refine I.write (x:=l) (e:=l) (by rw[hH];exact trivial) (.inl rfl) (fun b' u hb hu=>(dM s.heap (Obj.mapSeq f) (Ne.symm hb)).trans hu) ⟨_,q⟩ ?_
 exact⟨hz,its',_,hv,q⟩
theorem bE.lnew{t':Nat}(I:bE X af σ H s)(hv:cA ys its)(hz:ys.length<=sizeLine) :
  bE X af σ (eJ H s.heap.objs.size (.lst ys)) { s with heap:=s.heap.push { cls:=.type "list",data:=.seq its.toArray },toks:=t' }:=
 I.laid (fun _ _ q=>aj _ q) (au _) ⟨hz,its,0,hv,aq _ rfl⟩
theorem bE.fresh(I:bE X af σ H s):H s.heap.objs.size=none:=I.hok.fresh (au _)
theorem bE.lstM(I:bE X af σ H s)(hH:H l=some (.lst xs)):xs.length<=sizeLine/\∃(its:List Value) (n:Nat),cA xs its/\xs.length=its.length/\s.heap.get? l=some { cls:=.type "list",data:=.seq its.toArray n }:=by
 obtain⟨z,its,n,r,e⟩:=I.hok l _ hH
 exact⟨z,its,n,r,r.length,e⟩
theorem tK(h:n<=sizeLine):Builtin.List.listTooLong n=false:=by
 unfold Builtin.List.listTooLong
 exact aH (by omega)
end
section
def Bd:V->List V->Hp->VK->Prop:=fun x vs H Q=>∃l xs y,x=.ref l/\vs=[y]/\H l=some (.lst xs)/\xs.length<sizeLine/\Q .non (eJ H l (.lst (xs++[y])))
theorem CB:Tx X "list.append" Bd:=by
 intro af s σ H x vs v us Q I rx rv h
 obtain⟨l,xs,y,rfl,rfl,hH,hz,q⟩:=h
 cases rx
 obtain⟨u,rfl,ru⟩:=rv.one
 obtain⟨z,its,n,r,hl,e⟩:=I.lstM hH
 refine ij F.slot_list_append ⟨_,e,rfl⟩ F.entry_list_append (F.args_list_append_2 _ _) (PySem.list_append l its.toArray n u (by rw[aO];omega)) ⟨e,?_⟩
 refine⟨.non,_,I.lset (its':=its++[u]) hH e (by simp) (r.append (.cons ru .nil)) ?_,rfl,q⟩
 rw[aF,fL]
 omega
def Ih:V->List V->Hp->VK->Prop:=fun x vs H Q=>∃l b xs zs,x=.ref l/\vs=[.ref b]/\H l=some (.lst xs)/\H b=some (.lst zs)/\xs.length+zs.length<=sizeLine/\Q .non (eJ H l (.lst (xs++zs)))
theorem CC:Tx X "list.extend" Ih:=by
 intro af s σ H x vs v us Q I rx rv h
 obtain⟨l,b,xs,zs,rfl,rfl,hH,hB,hz,q⟩:=h
 cases rx
 obtain⟨u,rfl,ru⟩:=rv.one
 cases ru
 obtain⟨z,its,n,r,hl,e⟩:=I.lstM hH
 obtain⟨z2,its2,n2,r2,hl2,e2⟩:=I.lstM hB
 have hsz:its.toArray.size+its2.toArray.size<=sizeLine:=by rw[aO,aO];omega
 have hlong:¬ (!its.toArray.isEmpty&&Builtin.List.listTooLong (its.toArray.size+its2.toArray.size))=true:=by
  rw[tK hsz,Bool.and_false]
  exact bK
 refine ij F.slot_list_extend ⟨_,e,rfl⟩ F.entry_list_extend (F.args_list_extend_2 _ _)
  (AutoSeq1.list_extend_list_list_0 l its.toArray n b its2.toArray n2 hlong (by rw[aO];omega) (by omega)) ⟨e,e2,?_⟩
 refine⟨.non,_,I.lset (its':=its++its2) hH e (by simp) (r.append r2) ?_,rfl,q⟩
 rw[aF]
 omega
def Tz:R2:=fun x y H Q=>∃l b xs zs,x=.ref l/\y=.ref b/\H l=some (.lst xs)/\H b=some (.lst zs)/\xs.length+zs.length<=sizeLine/\∀p,H p=none->Q (.ref p) (eJ H p (.lst (xs++zs)))
theorem MS:l7 X (binaryOp .Add) Tz:=by
 intro af s σ H x y v u Q I rx ry h
 obtain⟨l,b,xs,zs,rfl,rfl,hH,hB,hz,q⟩:=h
 cases rx
 cases ry
 obtain⟨z,its,n,r,hl,e⟩:=I.lstM hH
 obtain⟨z2,its2,n2,r2,hl2,e2⟩:=I.lstM hB
 refine PySem.P.add_list e e2 ?_ (by rw[aO,aO];omega)
 have ea:its.toArray++its2.toArray=(its++its2).toArray:=by simp
 rw[ea]
 exact⟨.ref _,_,I.lnew (t':=s.toks) (r.append r2) (by rw[aF];omega),rfl,q _ I.fresh⟩
def TB:R2:=fun x y H Q=>∃l k xs,x=.ref l/\y=.int k/\H l=some (.lst xs)/\-(2^63)<=k/\k<2^63/\xs.length*k.toNat<=sizeLine /\
 ∀p,H p=none->Q (.ref p) (eJ H p (.lst (List.replicate k.toNat xs).flatten))
theorem wp(xs:List α)(k:Nat):(List.replicate k xs).flatten.length=k*xs.length:=by
 induction k with
 |zero=>simp
 |succ k ih=>rw[b0,cN,aF,ih,qY,Nat.add_comm]
theorem MT:l7 X (binaryOp .Mult) TB:=by
 intro af s σ H x y v u Q I rx ry h
 obtain⟨l,k,xs,rfl,rfl,hH,h1,h2,hz,q⟩:=h
 cases rx
 obtain⟨t,rfl⟩:=ry
 obtain⟨z,its,n,r,hl,e⟩:=I.lstM hH
 have c_:its.toArray.size*k.toNat<=sizeLine:=by rw[aO,<- hl];exact hz
 have qb:¬ its.toArray.size*k.toNat>(2^63-1)/8:=by
  have:(sizeLine:Nat)<=(2^63-1)/8:=by decide
  omega
 have hfit:¬ (!Builtin.List.listFitsIndex k)=true:=by
  rw[fitsIndex_both h1 h2]
  exact bK
 have hlong:¬ Builtin.List.listTooLong (its.toArray.size*k.toNat)=true:=by
  rw[tK c_]
  exact bK
 have hnew:List.foldl (fun x1 x2=>x1++x2) #[] (List.replicate (if its.toArray.isEmpty=true then 0 else k.toNat) its.toArray)=(List.replicate k.toNat its).flatten.toArray:=by
  have f0:∀m:Nat,List.foldl (fun x1 x2=>x1++x2) #[] (List.replicate m its.toArray)=(List.replicate m its).flatten.toArray:=fun m=>by
   have:=oP its m []
   rw[dk]at this
   exact this
  rw[f0]
  cases its with
  |nil=>simp
  |cons a r'=>rw[az (by simp)]
 refine lH (T:="list") (U:="int") (by decide) ⟨_,e,rfl⟩ (fun s'=>nz s' k t) noFill_list_mul F.fills_int_mul kq repeat_list F.slot_int_index.lookup
  (ij kq (nz s k t) F.entry_int_rmul (F.args_int_rmul_2 _ _) (int___rmul___int_list k t l its.toArray n)
   ⟨e,rfl,⟨_,e,rfl⟩,ij F.slot_list_mul ⟨_,e,rfl⟩ F.entry_list_mul (F.args_list_mul_2 _ _) (AutoListH.list___mul___list_int_3 l its.toArray n k t hfit qb hlong) ⟨e,?_⟩⟩)
 rw[hnew]
 exact⟨.ref _,_,I.lnew (t':=s.toks) (r.rep k.toNat) (by rw[wp,gG];exact hz),rfl,q _ I.fresh⟩
end
section
variable{w:World}
end
section
end
end L2
namespace Att
open PySem PySem.W PySem.Calls PyProof.Rows
theorem sI{P:Params}:∀(ns:List Int) (vs:List Value),WellAll P h vs (ns.map WData.int)->IntsAre vs ns:=by
 intro ns
 induction ns with
 |nil=>
  intro vs w
  rw[iC]at w
  cases w
  exact .nil
 |cons n ns ih=>
  intro vs w
  rw[aI]at w
  cases w with
  |cons a b=>
   cases a
   exact .cons _ _ (ih _ b)
theorem CD{l:OpenLaw}(hn:l.most=some n){P:Params}{args:List WData}{no:List Value}
  (zN:l.row.toRowW.claim.pre args=true) (Ua:WellAll P h no args) :
  ∃a vs ns,no=[Value.ref a]/\args=[WData.list (ns.map WData.int)]/\h.get? a=some { cls:=.type "list",data:=.seq vs.toArray }/\IntsAre vs ns/\ns.length<=n:=by
 have hsh:WShape.hasAll [] args [.list .int]=true:=(pre_splitW zN).1
 have hc:l.pre.holds [] { args:=args }=true:=(pre_splitW zN).2
 obtain⟨d,r,rfl,h1,h2⟩:=hasAllW_cons hsh
 obtain rfl:=hasAllW_nil h2
 obtain⟨xs,rfl,h3⟩:=hasW_list h1
 obtain⟨ns,rfl⟩:=items_int h3
 have c_:ns.length<=n:=by
  unfold OpenLaw.pre at hc
  have h4:(WTm.not (.lt (.lit (.int (n:Int))) (.len (.arg 0)))).holds [] { args:=[.list (ns.map .int)] }=true:=by
   have h4:=(holds_andW hc).1
   rw[hn]at h4
   exact h4
  have h5:=condW_of h4 (w_not (w_lt w_lit (w_len_list (w_arg rfl))))
  rw[am]at h5
  refine Nat.le_of_not_lt fun q=>?_
  have q':(n:Int)<((ns.length:Nat):Int):=by omega
  first
   |(rw[aV q']at h5;exact absurd h5 (by decide))
   |(simp at h5;omega)
 cases Ua with
 |cons w1 w2=>
  cases w2
  cases w1 with
  |list ho hall=>exact⟨_,_,ns,rfl,rfl,ho,sI ns _ hall,c_⟩
theorem CF(l:OpenLaw)(args:List WData):l.row.toRowW.claim.post args (.bool true) args=true:=
 postW_of (r:=l.row.toRowW) (X:=(true==true))
  (show WShape.has [] (.bool true) .bool=true by first|rfl|decide|simp[WShape.has,WShape.arms,WShape.armsAll])
  (show(WTm.eq .res (.lit (.bool true))).value [] { args:=args,res:=some (.bool true),after:=args }=some (.bool (true==true))from w_eq_bool (w_res rfl) w_lit) rfl
theorem attach_call{l:OpenLaw}{q:Program}{Cj:List Str}{d:DefRec}
  (hn:l.most=some n) (T7:d.params.defaults=[])
  (call:∀(w:World) (s₀ s₁:Shared) (mg mb:Str->Option Value) (fa:Addr) (o:Obj) (pm cd j9:Value) (a:Addr) (vs:List Value) (ns:List Int),
   Ground q Cj [] XP w s₀ mg mb s₁.heap->YP w s₁.heap ->
   s₁.heap.get? fa=some o->o.data=.func (docDef d.name d.params d.body d.scope pm cd j9)->s₁.heap.CodeRec cd d.name->mg d.name=some (.ref fa) ->
   s₁.heap.get? a=some { cls:=.type "list",data:=.seq vs.toArray }->IntsAre vs ns->ns.length<=n->s₁.gens=#[] ->
   codeAny (model l.prog w) callerA (.call (.ref fa) ⟨[.ref a],[]⟩) (fun r s'=>r=.ok (.ret (.bool true))/\OldK s₁.heap s'.heap/\s'.os=s₁.os/\AllBare s'.gens) s₁) :
  WalkO q Cj XP YP l.row.toRowW d [] (fun f vs=>PySem.call f vs):=by
 intro w s₀ s₁ mg mb G Y fa o pm cd j9 dV kV ho hd om hD hmg hg args no as zN hlay hrd Ua hlo
 obtain rfl:dV=.none:=Dflts.none hD T7
 obtain rfl:kV=.none:=Dflts.noKw hD
 obtain⟨a,vs,ns,rfl,rfl,hobj,hints,c_⟩:=CD hn zN Ua
 refine enter_call (gH (call w s₀ s₁ mg mb fa o pm cd j9 a vs ns G Y ho (fd_plain hd) om hmg hobj hints c_ hg) fun r s' hq=>?_)
 obtain⟨rfl,h2,h3,h4⟩:=hq
 exact⟨.inl ⟨.bool true,.bool true,[],rfl,fun _=>rfl,.bool true,CF l _,fun _=>⟨List.Pairwise.nil,fun _ hm=>(nomatch hm)⟩⟩,h2,h3,h4⟩
section
variable{w:World}
end
end Att
namespace L2
open PySem PySem.Spec PyProof.Rows
theorem vq:∀{vs:List Value} {ns:List Int},IntsAre vs ns->cA (ns.map V.int) vs
 |_,_,.nil=>.nil
 |_,_,.cons n t h=>.cons ⟨t,rfl⟩ (vq h)
def fm(s:Stmt):Arguments:=match s with
 |.FunctionDef _ a _ _ _ _ _ _ _ _=>a
 |_=>{ posonlyargs:=[],args:=[],vararg:=none,kwonlyargs:=[],kw_defaults:=[],kwarg:=none,defaults:=[] }
def dZ(s:Stmt):List Stmt:=match s with
 |.FunctionDef _ _ b _ _ _ _ _ _ _=>b
 |_=>[]
def aL(s:Stmt):Scope:=match s with
 |.FunctionDef _ _ _ _ _ _ sc _ _ _=>sc
 |_=>{ kind:=.function,names:=[],isGenerator:=false,isCoroutine:=false }
structure nH(K:Frag)(x cD:Str)(st:Stmt)(f:Addr)(fd:FuncData):Prop where
 ex:∃(oc:Value) (od:Option Addr) (kV j9 pm:Value) (an:Option Addr) (gu ct:Value) (Kl:Array (Option Value)),
  fd=fnOf x cD (fm st) (dZ st) (aL st) .none kV j9 pm an gu ct/\K.lookup f=some ⟨oc,od,.func fd,Kl⟩/\codeIn K gu cD=true
 kp:keepIn K (.ref f)=true
section
variable{w:World}
theorem nH.binds{st:Stmt}{f:Addr}(F:nH K x cD st f fd)
  (h:∀(kV j9 pm:Value) (an:Option Addr) (gu ct:Value) (us:List Value),us.length=ps.length->bindArgs (fnOf x cD (fm st) (dZ st) (aL st) .none kV j9 pm an gu ct) ⟨us,[]⟩=pure (ps.zip us)):vm K fd ps []:=by
 obtain⟨oc,od,kV,j9,pm,an,gu,ct,Kl,rfl,lk,om⟩:=F.ex
 exact .all (h kV j9 pm an gu ct)
theorem Ag{st:Stmt}{f:Addr}{oc:Value}{od an:Option Addr}{Kl:Array (Option Value)}{kV j9 pm gu ct:Value}(l:K.lookup f=some ⟨oc,od,.func (fnOf x cD (fm st) (dZ st) (aL st) .none kV j9 pm an gu ct),Kl⟩)
  (c:codeIn K gu cD=true) (k:keepIn K (.ref f)=true):nH K x cD st f (fnOf x cD (fm st) (dZ st) (aL st) .none kV j9 pm an gu ct):=⟨⟨oc,od,kV,j9,pm,an,gu,ct,Kl,rfl,l,c⟩,k⟩
end
theorem Kz{k:Nat}(hr:hX k A):A.units+1<cLine:=fI (Nat.add_le_add_left (by decide:1<=64) _) hr.units
section
theorem pv(i:Nat){pos:Pos}(hN:X.N[i]?=some x:=by rfl)(hv:Kv X.env.scope x:=by first|exact Or.inl rfl|exact Or.inr (Or.inl rfl)|exact Or.inr (Or.inr rfl))(hd:(x==("__debug__":Str))=false:=by decide)
  (om:(x==("__classdict__":Str))=false:=by decide):PE X (.Name x pos) (Pl i):=Ml hN hv hd om
end
def o_(H H':Hp):Prop:=∀b o,H b=some o->H' b=some o
theorem o_.refl(H:Hp):o_ H H:=fun _ _ h=>h
section
variable{κ:Type}[DecidableEq κ]
def pb(kvs:List (κ×V))(k:κ):Option V:=(kvs.find? fun kv=>decide (kv.1=k)).map (·.2)
def pd(kvs:List (κ×V))(k:κ)(v:V):List (κ×V):=
 if (kvs.any fun kv=>decide (kv.1=k))=true then kvs.map (fun kv=>if kv.1=k then(kv.1,v)else kv)else kvs++[(k,v)]
theorem qi{p:κ×V}{r:List (κ×V)}{k:κ}(e:p.1=k):pb (p::r) k=some p.2:=by simp[pb,ce,e]
theorem qj{p:κ×V}{r:List (κ×V)}{k:κ}(e:¬ p.1=k):pb (p::r) k=pb r k:=by simp[pb,ce,e]
theorem x_(k:κ):∀kvs:List (κ×V),(kvs.any fun kv=>decide (kv.1=k))=(pb kvs k).isSome
 |[]=>rfl
 |p::r=>by
  rw[pK]
  by_cases e:p.1=k
  ·simp only[qi e,aV e,Bool.true_or,Option.isSome_some]
  ·rw[qj e,aH e,Bool.false_or];exact x_ k r
theorem sf(kvs:List (κ×V))(k:κ)(v:V):(pd kvs k v).length<=kvs.length+1:=by
 unfold pd
 split
 ·rw[am];omega
 ·rw[aF,cK,gR];omega
theorem tz.isSome_eq{o:Option V}{u:Option Value}(r:tz o u):o.isSome=u.isSome:=by
 cases o with
 |none=>cases u with
  |none=>rfl
  |some _=>exact(show False from r).elim
 |some _=>cases u with
  |none=>exact(show False from r).elim
  |some _=>rfl
theorem KV.val{kvs:List (κ×V)}{vs:List (κ×Value)}(r:KV kvs vs)(k:κ):tz (pb kvs k) (valueAt vs k):=by
 unfold KV at r
 induction r with
 |nil=>exact True.intro
 |@cons p q ps qs h t ih=>
  obtain⟨h1,h2⟩:=h
  by_cases e:p.1=k
  ·have e':q.1=k:=h1.symm.trans e
   have b:valueAt (q::qs) k=some q.2:=by simp[valueAt,ce,e']
   rw[qi e,b];exact h2
  ·have e':¬ q.1=k:=fun z=>e (h1.trans z)
   have b:valueAt (q::qs) k=valueAt qs k:=by simp[valueAt,ce,e']
   rw[qj e,b];exact ih
theorem KV.any{kvs:List (κ×V)}{vs:List (κ×Value)}(r:KV kvs vs)(k:κ):(kvs.any fun kv=>decide (kv.1=k))=vs.any fun kv=>decide (kv.1=k):=by
 unfold KV at r
 induction r with
 |nil=>rfl
 |cons h t ih=>rw[pK,pK,ih,h.1]
theorem KV.repl{kvs:List (κ×V)}{vs:List (κ×Value)}(r:KV kvs vs)(k:κ)(ry:cf y u) :
  KV (kvs.map fun kv=>if kv.1=k then(kv.1,y)else kv) (vs.map fun kv=>if kv.1=k then(kv.1,u)else kv):=by
 unfold KV at r ⊢
 induction r with
 |nil=>exact .nil
 |@cons p q ps qs h t ih=>
  rw[aI,aI]
  refine .cons ?_ ih
  obtain⟨h1,h2⟩:=h
  by_cases e:p.1=k
  ·rw[av e,av (h1.symm.trans e)];exact⟨h1,ry⟩
  ·rw[az e,az (fun z=>e (h1.trans z))];exact⟨h1,h2⟩
theorem KV.put{kvs:List (κ×V)}{vs:List (κ×Value)}(r:KV kvs vs)(k:κ)(ry:cf y u):KV (pd kvs k y) (stored vs k u):=by
 unfold pd stored
 rw[r.any k]
 by_cases e:(vs.any fun kv=>decide (kv.1=k))=true
 ·rw[av e,av e];exact r.repl k ry
 ·rw[az e,az e];exact Paired.snoc r ⟨rfl,ry⟩
theorem KV.length{kvs:List (κ×V)}{vs:List (κ×Value)}(r:KV kvs vs):kvs.length=vs.length:=Paired.length r
end
theorem Be{w:World}{k:i9}(r:cf (kV k) u):(gB P w).is k u=true:=by
 cases k with
 |inl i=>obtain⟨t,e⟩:=(show ∃t,u=Value.int i t from r);subst e;exact xW P w i t
 |inr x=>obtain⟨t,e⟩:=(show ∃t,u=Value.str x t from r);subst e;exact xX P w x t
theorem vt{w:World}:∀{ks:List i9} {us:List Value},cA (ks.map kV) us->ItemsAre (gB P w) ks us
 |[],_,r=>by rw[iC]at r;cases r;exact .nil
 |k::ks,_,r=>by
  rw[aI]at r
  cases r with
  |cons h t=>exact .cons (Be h) (vt t)
abbrev KT(H:Hp):List (List i9×V)->List (List i9×Addr×Value)->Prop:=Paired fun p q=>p.1=q.1/\H q.2.1=some (.tup (p.1.map kV))/\cf p.2 q.2.2
theorem KT.val{kvs:List (List i9×V)}(r:KT H kvs xs)(k:List i9):tz (pb kvs k) ((atKey xs k).map (·.2)):=by
 induction r with
 |nil=>exact True.intro
 |@cons p q ps qs h t ih=>
  obtain⟨h1,_,h2⟩:=h
  by_cases e:p.1=k
  ·have e':q.1=k:=h1.symm.trans e
   have b:atKey (q::qs) k=some q.2:=by simp[atKey,ce,e']
   rw[qi e,b];exact h2
  ·have e':¬ q.1=k:=fun z=>e (h1.trans z)
   have b:atKey (q::qs) k=atKey qs k:=by simp[atKey,ce,e']
   rw[qj e,b];exact ih
theorem KT.repl{kvs:List (List i9×V)}(r:KT H kvs xs)(k:List i9)(ry:cf y u) :
  KT H (kvs.map fun kv=>if kv.1=k then(kv.1,y)else kv) (xs.map (putAt k u)):=by
 induction r with
 |nil=>exact .nil
 |@cons p q ps qs h t ih=>
  rw[aI,aI]
  refine .cons ?_ ih
  obtain⟨h1,h2,h3⟩:=h
  unfold putAt
  by_cases e:p.1=k
  ·rw[av e,av (h1.symm.trans e)];exact⟨h1,h2,ry⟩
  ·rw[az e,az (fun z=>e (h1.trans z))];exact⟨h1,h2,h3⟩
theorem KT.put{kvs:List (List i9×V)}(r:KT H kvs xs)(k:List i9)(hb:H b=some (.tup (k.map kV)))(ry:cf y u) :
  KT H (pd kvs k y) (storedH xs k b u):=by
 have e:(kvs.any fun kv=>decide (kv.1=k))=(atKey xs k).isSome:=by
  rw[x_,(r.val k).isSome_eq,Option.isSome_map]
 unfold pd storedH
 rw[e]
 by_cases q:(atKey xs k).isSome=true
 ·rw[av q,av q];exact r.repl k ry
 ·rw[az q,az q];exact Paired.snoc r ⟨rfl,hb,ry⟩
theorem KT.keeps{kvs:List (List i9×V)}(r:KT H kvs xs)(ht:∀b ys,H b=some (.tup ys)->H' b=some (.tup ys)):KT H' kvs xs:=
 Paired.mapP r fun _ _ z=>⟨z.1,ht _ _ z.2.1,z.2.2⟩
section
variable{w:World}
theorem KA{u:HO}(ok:kP P w H h)(e:Rd H a u):eO P w H h a u:=e.ok ok
theorem Ep{kvs:List (i9×V)}(ok:kP P w H h)(e:Rd H a (.dK kvs)):kvs.length<=sizeLine/\(a==sysModules)=false/\∃vs,KV kvs vs/\h.DictOf (gB P w) a vs:=
 show eO P w H h a (.dK kvs)from KA ok e
theorem KB{kvs:List (i9×V)}(ok:kP P w H h)(e:H a=some (.dK kvs)):kvs.length<=sizeLine/\(a==sysModules)=false/\∃vs,KV kvs vs/\h.DictOf (gB P w) a vs:=Ep ok (.inl e)
theorem Ah{ks:List i9}(ok:kP P w H h)(e:H a=some (.tup (ks.map kV))):(tupleKind (gB P w)).is h ks a:=by
 obtain⟨_,its,r,o,h1,h2,n,h3⟩:=(show eO P w H h a (.tup (ks.map kV))from ok a _ e)
 exact⟨o,its.toArray,n,h1,h2,h3,by simpa using vt r⟩
theorem Er{kvs:List (List i9×V)}(ok:kP P w H h)(e:Rd H a (.dT kvs)):kvs.length<=sizeLine/\(a==sysModules)=false /\
  ∃xs,KT H kvs xs/\h.DictOfH (tupleKind (gB P w)) a xs:=by
 obtain⟨z,y,xs,r,o,es,ep,h1,h2,h3,h4,h5⟩:=(show eO P w H h a (.dT kvs)from KA ok e)
 refine⟨z,y,xs,r,o,es,ep,h1,h2,h3,h4,fun x hx=>?_,h5⟩
 have all:∀{l:List (List i9×V)} {m:List (List i9×Addr×Value)},KT H l m->∀x∈m,(tupleKind (gB P w)).is h x.1 x.2.1:=by
  intro l m q
  induction q with
  |nil=>intro x hx;exact nomatch hx
  |@cons p q ps qs hq t ih=>
   intro x hx
   rcases aG.mp hx with e|hx
   ·subst e
    exact Ah ok (by rw[<- hq.1];exact hq.2.1)
   ·exact ih x hx
 exact all r x hx
theorem P0{kvs:List (List i9×V)}(ok:kP P w H h)(e:H a=some (.dT kvs)):kvs.length<=sizeLine/\(a==sysModules)=false /\
  ∃xs,KT H kvs xs/\h.DictOfH (tupleKind (gB P w)) a xs:=Er ok (.inl e)
end
def CG(H:Hp)(a:Addr)(y:V)(r:Option V):Prop:=
 (∃kvs k,Rd H a (.dK kvs)/\y=kV k/\r=pb kvs k)\/∃kvs k b,Rd H a (.dT kvs)/\y=.ref b/\H b=some (.tup (k.map kV))/\r=pb kvs k
def Ii(H:Hp)(a:Addr)(y v:V)(H':Hp):Prop:=
 (∃kvs k,H a=some (.dK kvs)/\y=kV k/\kvs.length<sizeLine/\H'=eJ H a (.dK (pd kvs k v))) \/
 ∃kvs k b,H a=some (.dT kvs)/\y=.ref b/\H b=some (.tup (k.map kV))/\kvs.length<sizeLine/\H'=eJ H a (.dT (pd kvs k v))
theorem Ii.k{kvs:List (i9×V)}{k:i9}(e:H a=some (.dK kvs))(hl:kvs.length<sizeLine):Ii H a (kV k) v (eJ H a (.dK (pd kvs k v))):=.inl ⟨kvs,k,e,rfl,hl,rfl⟩
section
variable{r:Value}{o:Option V}
theorem bE.big(I:bE X af σ H s):sysModules<s.heap.objs.size:=by
 have h:mainGlobals<s.heap.objs.size:=(I.mod.glob.keeps I.bk).lt
 exact nA (by decide) h
theorem CI(hu:A.units+1<cLine)(I:bE X af σ H s)(g:CG H a y (some v))(ry:cf y u)(h:∀w' s',bE X af σ H s'->cf v w'->Q w' s') :
  wpAny (model X.prog X.w) A (getItem (.ref a) u) Q E s:=by
 rcases g with⟨kvs,k,e,ey,l⟩|⟨kvs,k,b,e,ey,eb,l⟩
 ·subst ey
  obtain⟨z,hd,vs,rel,dd⟩:=Ep I.hok e
  obtain⟨w',hw,jW⟩:=tz.some_of (v:=v) (o:=valueAt vs k) (by rw[l];exact rel.val k)
  exact wpAny_getItem_of (Be ry) dd.mapOf hw (h w' _ (I.tok _) jW)
 ·subst ey
  cases(show u=Value.ref b from ry)
  obtain⟨z,hd,xs,rel,dd⟩:=Er I.hok e
  obtain⟨w',hw,jW⟩:=tz.some_of (v:=v) (o:=(atKey xs k).map (·.2)) (by rw[l];exact rel.val k)
  obtain⟨p,hp,hp2⟩:=be.mp hw
  refine wpAny_getItem_heap (tupleKind_room_in1 hu) (Ah I.hok eb) dd hp ?_
  rw[hp2]
  exact h w' _ (I.tok _) jW
theorem wq{ob:HO}(I:bE X af σ H s)(mu:Mk (H a))(hs:Heap.SameBut a s.heap h')(he:∃q,h'.get? a=some q)(new:eO X.prog X.w (eJ H a ob) h' a ob) :
  bE X af σ (eJ H a ob) { s with heap:=h',toks:=t' }:=
 I.write (x:=a) (e:=a) mu (.inl rfl) (fun b q hb z=>(hs.2 b hb).trans z) he new
theorem Es{w:World}{kvs:List (i9×V)}{vs:List (i9×Value)}(z:kvs.length<=sizeLine)(hd:(a==sysModules)=false)(rel:KV kvs vs)(dd:h'.DictOf (gB P w) a vs) :
  eO P w H' h' a (.dK kvs):=⟨z,hd,vs,rel,dd⟩
theorem CJ{Q:Unit->Shared->Prop}(hu:A.units+1<cLine)(I:bE X af σ H s)(g:Ii H a y v H')(ry:cf y u)(rv:cf v r)(h:∀s',bE X af σ H' s'->Q () s') :
  wpAny (model X.prog X.w) A (setItem (.ref a) u r) Q E s:=by
 rcases g with⟨kvs,k,e,ey,l,eH⟩|⟨kvs,k,b,e,ey,eb,l,eH⟩
 ·subst ey eH
  obtain⟨z,hd,vs,rel,dd⟩:=KB I.hok e
  have hz:vs.length<=sizeLine:=by rw[<- rel.length];exact z
  have hl:(pd kvs k v).length<=sizeLine:=by have:=sf kvs k v;omega
  refine wpAny_setItem_pairs (hsz:=hz) (Be ry) dd fun h' dd' hs=>h _ ?_
  have he:∃q,h'.get? a=some q:=let ⟨q,_,_,hq,_⟩:=dd';⟨q,hq⟩
  exact wq I (by rw[e];exact True.intro) hs he (Es hl hd (rel.put k rv) dd')
 ·subst ey eH
  cases(show u=Value.ref b from ry)
  obtain⟨z,hd,xs,rel,dd⟩:=P0 I.hok e
  have hz:xs.length<=sizeLine:=by rw[<- Paired.length rel];exact z
  have hl:(pd kvs k v).length<=sizeLine:=by have:=sf kvs k v;omega
  refine wpAny_setItem_heap (hsz:=hz) (tupleKind_room_in1 hu) (Ah I.hok eb) dd fun h' dd' hs=>h _ ?_
  obtain⟨q,es,ep,hq,h2,h3,h4,_,h5⟩:=dd'
  refine wq I (by rw[e];exact True.intro) hs ⟨q,hq⟩ ⟨hl,hd,_,(rel.put k eb rv).keeps fun c ys ec=>?_,q,es,ep,hq,h2,h3,h4,h5⟩
  rw[bY (Pk ec e (fun z=>nomatch z))]
  exact ec
end
section
variable{kvs:List (i9×V)}{k:i9}
end
def MU(i:Expr):Prop:=∀ov iv,subscripted i false ov iv=operate [ov,iv] (getItem ov iv)
theorem Ij{w:World}{value slice:Expr}{id:String}
  (hl:typeLookup (.type T) "__getitem__"=pure (some (.builtin id))) (hs:MU slice)
  (h:wpAny (model prog w) A (eval value env) (fun o s₁=>wpAny (model prog w) A (eval slice env) (fun i s₂=>s₂.TypeIs o T/\wpAny (model prog w) A (getItem o i) Q E s₂) E s₁) E s) :
  wpAny (model prog w) A (eval (.Subscript value slice pos) env) Q E s:=by
 refine nv (dJ h (fun o s₁ h₁=>dJ h₁ (fun i s₂ h₂=>?_) fun _ _ x=>x) fun _ _ x=>x)
 obtain⟨hT,h₂⟩:=h₂
 unfold subscriptTail
 refine aa ?_
 rw[getitemInPython_of_ne hT.not_modules]
 refine aa (gT hT hl ?_)
 have lj:wpAny (model prog w) A (subscripted slice false o i) (fun r s₃=>wpAny (model prog w) A (letTemporaryGo value o r >>= fun _=>pure r) Q E s₃) E s₂:=by
  rw[hs o i]
  exact wpAny_operating (dJ h₂ (fun r s₃ h₃=>aa (wpAny_letTemporaryGo (ae h₃))) fun _ _ x=>x)
 first
  |exact ae (aa lj)
  |exact aa (ae (aa lj))
  |exact aa lj
theorem ya{o:Option V}(I:bE X af σ H s)(g:CG H a y o):s.TypeIs (.ref a) "dict":=by
 rcases g with⟨kvs,k,e,_,_⟩|⟨kvs,k,b,e,_,_,_⟩
 ·obtain⟨_,_,vs,_,dd⟩:=Ep I.hok e
  exact dd.typeIs
 ·obtain⟨_,_,xs,_,dd⟩:=Er I.hok e
  exact dd.typeIs
def P1(td ty:TE):TE:=fun σ H Q=>td σ H fun x H1=>ty σ H1 fun y H2=>∃a v,x=.ref a/\CG H2 a y (some v)/\Q v H2
section
variable{o i value:Expr}{nq Ud:Pos}{td ty tv:TE}
theorem Ik(hu:X.A.units+1<cLine)(ho:PE X o td)(hi:PE X i ty)(hs:MU i):PE X (.Subscript o i pos) (P1 td ty):=by
 intro af s σ H Q I h
 refine Ij PySem.F.slot_dict_getitem.lookup hs (hW (ho af s σ H _ I h) fun u s1 ⟨x,H1,I1,rx,q1⟩=>hW (hi af s1 σ H1 _ I1 q1) fun iv s2 ⟨y,H2,I2,ry,a,v,ex,g,q2⟩=>?_)
 subst ex
 obtain rfl:u=Value.ref a:=rx
 exact⟨ya I2 g,CI hu I2 g ry fun w' s3 I3 jW=>⟨v,H2,I3,jW,q2⟩⟩
end
theorem Et{w:World}(h:Heap)(hb:sysModules<h.objs.size):eO P w H (h.push { cls:=.type "dict",data:=.dict #[] }) h.objs.size (.dK []):=
 ⟨cQ _,bx.mpr (Ne.symm (aN hb)),[],.nil,Heap.DictOf.new h⟩
def MV:TE:=fun _ H Q=>∀p,H p=none->Q (.ref p) (eJ H p (.dK []))
section
theorem Eu:PE X (.Dict [] [] pos) MV:=fun af s σ H Q I h=>
 wpAny_Dict_empty ⟨.ref s.heap.objs.size,_,I.laid (a:=s.heap.objs.size) (o:=.dK []) (t':=s.toks) (fun _ _ q=>aj _ q) (au _) (Et s.heap I.big),rfl,h _ (I.hok.fresh (au _))⟩
end
def tL(kvs qQ:List (i9×V)):List (i9×V):=qQ.foldl (fun acc kv=>pd acc kv.1 kv.2) kvs
theorem KV.merge:∀{qQ:List (i9×V)} {rs:List (i9×Value)} {kvs:List (i9×V)} {vs:List (i9×Value)},KV qQ rs->KV kvs vs->KV (tL kvs qQ) (merged vs rs):=by
 intro qQ rs kvs vs r
 unfold KV at r
 induction r generalizing kvs vs with
 |nil=>intro q;exact q
 |@cons p q ps qs h t ih=>
  intro r0
  have e:KV (pd kvs p.1 p.2) (stored vs q.1 q.2):=by
   have:=r0.put p.1 h.2
   rw[<- h.1];exact this
  exact ih e
section
variable{d:V}{r:Value}{o:Option V}
end
section
variable{o f:Expr}{td ty tx:TE}
end
section
variable{kvs:List (i9×V)}
end
section
end
section
end
section
variable{κ:Type}[DecidableEq κ]
end
end L2
set_option maxHeartbeats 4000000
namespace L2
open PySem PySem.Spec PyProof.Rows
abbrev bV(X:Cx)(nm:List Str)(scope:Scope)(cl:List (Str×Addr))(C:Addr)(s0:Shared)(H0:Hp)(fp:List Addr):Cx:=
 { X with N:=nm,s₀:=s0,H₀:=H0,env:=compEnvC scope cl C X.env,outer:=X.stack,stack:=X.stack,ex:=fp,fn:=fun _=>false,pn:=[],xe:=fun _ _=>False }
def Ev(X:Cx)(jb:List Expr)(t:TT):Prop:=
 ∀(af:List (Addr×Obj)) (s:Shared) (σ:St) (H:Hp) (Q:Bool->Hp->Prop),bE X af σ H s->t σ H Q ->
  wpAny (model X.prog X.w) X.A (forIn jb true fun c r=>if r=true then do let ok <- isTrue c X.env (eval c X.env);pure (ForInStep.yield ok)else pure (ForInStep.yield r)) (TP X af σ Q) X.xe s
def TC:TT:=fun _ H Q=>Q true H
theorem Il:Ev X [] TC:=fun _ _ _ H _ I h=>wpAny_tests_nil ⟨H,I,h⟩
theorem Im{t:TT}(hc:PT X c t):Ev X [c] t:=fun af s σ H Q I h=>wpAny_tests_one (hc af s σ H Q I h)
def oo(cap:List (Option Nat))(σ:St):St:=cap.map fun o=>o.bind fun j=>(σ[j]?).join
def pw(cap:List (Option Nat))(wi:TI)(g:TG)(tc:TT)(te:TE):TE:=fun σ H Q=>wi σ H fun J H1=>∃W:Nat->Nat->List V->Hp->Prop,(∃m,W 0 m [] H1)/\∀i m ys H2,W i m ys H2 ->
 (J.stop i H2/\ys.length<=sizeLine/\∀p,H2 p=none->Q (.ref p) (eJ H2 p (.lst ys))) \/
 (J.go i H2/\∀x H3,J.yld i H2 x H3->g x (oo cap σ) H3 fun σ2 H4=>tc σ2 H4 fun b H5=>if b=true then te σ2 H5 fun y H6=>ys.length<sizeLine/\∃m',m'<m/\W (i+1) m' (ys++[y]) H6 else ∃m',m'<m/\W (i+1) m' ys H5)
theorem Un.cellK{fs ex:List Addr}(u:Un fs ex H H' h h'){c:Addr}{v:Option Value}(x:h.IsCell c v)(n:H c=none)(he:c∉ex):h'.IsCell c v:=by
 obtain⟨o,ho,hd⟩:=x
 obtain⟨sl,q⟩:=u.any ho n he
 exact⟨_,q,hd⟩
structure tM(X:Cx)(scope:Scope)(cl:List (Str×Addr))(x:Str):Prop where
 vis:Kv X.env.scope x
 nl:X.env.scope.names.lookup x≠some .local
 cl:cl.lookup x=X.env.cells.lookup x
 kd:(relabel scope X.env).names.lookup x=some .cell\/(relabel scope X.env).names.lookup x=some .free
theorem jT:∀(names:List (Str×NameKind)) (n:Nat) (acc:List (Str×Addr)) {y:Str} {c:Addr},(y,c)∈cellsFrom n names acc->(y,NameKind.cell)∈names\/(y,c)∈acc
 |[],_,_,_,_,h=>.inr h
 |(x,k)::r,n,acc,y,c,h=>by
  have h:(y,c)∈(if k==.cell then cellsFrom (n+1) r ((x,n)::acc)else cellsFrom n r acc):=h
  split at h
  ·rename_i hk
   rcases jT r _ _ h with q|q
   ·exact .inl (aD _ q)
   ·rcases aG.mp q with e|q
    ·cases e
     exact .inl (by rw[jM hk];exact aS)
    ·exact .inr q
  ·rcases jT r _ _ h with q|q
   ·exact .inl (aD _ q)
   ·exact .inr q
theorem dU:∀{l:List (Str×β)} {x:Str} {b:β},l.lookup x=some b->(x,b)∈l
 |[],_,_,h=>by simp at h
 |(y,c)::r,x,b,h=>by
  rw[d7]at h
  cases hx:x==y with
  |true=>rw[hx]at h;have:=jM hx;subst this;cases h;exact aS
  |false=>rw[hx]at h;exact aD _ (dU h)
theorem iK:∀(names:List (Str×NameKind)) (n:Nat) (acc:List (Str×Addr)),cellsFrom n names acc=cellsFrom n names []++acc
 |[],_,_=>rfl
 |(x,k)::r,n,acc=>by
  show(if k==.cell then cellsFrom (n+1) r ((x,n)::acc)else cellsFrom n r acc)=(if k==.cell then cellsFrom (n+1) r [(x,n)]else cellsFrom n r [])++acc
  split
  ·rw[iK r (n+1) ((x,n)::acc),iK r (n+1) [(x,n)],a8];rfl
  ·exact iK r n acc
abbrev cH(X:Cx)(nm:List Str)(scope:Scope)(cl:List (Str×Addr))(C:Addr)(s0:Shared)(H0:Hp)(fp:List Addr):Cx:=
 { bV X nm scope cl C s0 H0 fp with fn:=fun y=>scope.names.lookup y==some .cell }
theorem Io{M:Model}{A:Around}{E:Value->Shared->Prop}{globals:Addr}{Q:Env->Shared->Prop}
  (hQ:∀h':Heap,h'.Ns s.heap.objs.size (fun x=>([]:List (Str×Value)).reverse.lookup x)->(∀b o,s.heap.get? b=some o->h'.get? b=some o)->CellsOk h' (s.heap.objs.size+1) (cellsFrom (s.heap.objs.size+1) scope.names []) ->
   Q (newEnv scope s.heap.objs.size globals (cellsFrom (s.heap.objs.size+1) scope.names []++cl) cD none .none (some env) builtinsNs) { s with heap:=h' }) :
  wpAny M A (newFunctionEnv scope globals cl [] cD none .none (some env)) Q E s:=by
 simp only[newFunctionEnv,Option.isSome_some,gF]
 refine aa (wpAny_alloc ?_)
 refine aa (wpAny_layCells _ (fun name kind cells=>by cases hkc:kind==NameKind.cell<;>simp[hkc]) _ _ _ _ ?_)
 have ok:=cellsFrom_ok scope.names (s.heap.push { cls:=.type "dict",data:=.dict #[] }) (s.heap.objs.size+1) [] ⟨fun _ _ hm=>(nomatch hm),List.Pairwise.nil⟩ (by rw[bg];exact au _)
 rw[bg]at ok
 rw[show({ s with heap:=s.heap.push { cls:=.type "dict",data:=.dict #[] } }:Shared).heap.objs.size=s.heap.objs.size+1 from bg ..,iK _ _ cl]
 exact aa (ae (ae (hQ _ ((Heap.Ns.new s.heap (.type "dict")).keeps (kr _ _)) (fun b o e=>kr _ _ b o (aj _ e)) ok)))
section
variable{g:TG}
theorem wt{prog:Program}{w:World}{A:Around}{E:Value->Shared->Prop}{l:Addr}{u:Value}{Q:Value->Shared->Prop}
  (e:s.heap.get? l=some { cls:=.type "list",data:=.seq its.toArray n }) (hz:its.length<sizeLine)
  (h:∀(h':Heap) (n' tk:Nat),h'.get? l=some { cls:=.type "list",data:=.seq (its++[u]).toArray n' }->(∀b o,b≠l->s.heap.get? b=some o->h'.get? b=some o)->Q .none { s with heap:=h',toks:=tk }) :
  wpAny (model prog w) A (call (.builtin "list.append") [.ref l,u]) Q E s:=by
 refine ij F.slot_list_append ⟨_,e,rfl⟩ F.entry_list_append (F.args_list_append_2 _ _) (PySem.list_append l its.toArray n u (by rw[aO];omega)) ⟨e,?_⟩
 have q:=PySem.IsL.update e (fun a=>a.push u)
 have q2:(s.heap.update l (Obj.mapSeq fun x=>x.push u)).get? l=some { cls:=.type "list",data:=.seq (its++[u]).toArray (if ((its.toArray.push u).size==its.toArray.size)=true then n else n+1) }:=by
  rw[show(s.heap.update l (Obj.mapSeq fun x=>x.push u)).get? l=_ from q];simp
 exact h _ _ s.toks q2 fun b o hb ho=>(dM s.heap (Obj.mapSeq _) (Ne.symm hb)).trans ho
structure yb(X:Cx)(af:List (Addr×Obj))(H:Hp)(s:Shared)(C:Addr)(m:Str->Option Value):Prop where
 ns:s.heap.Ns C m
 fr:H C=none
 nl:C≠X.env.locals
 nf:C∉X.fs
 hi:X.s₀.heap.objs.size<=C
 nc:∀x c,X.env.cells.lookup x=some c->c≠C
 np:∀p∈X.pn++af,p.1≠C
theorem yb.off{m:Str->Option Value}(B:yb X af H s C m)(I:bE X af σ H s)(hs:Heap.SameBut C s.heap h'):bE X af σ H { s with heap:=h' }:=I.turned (t':=s.toks) (it:=C) (fun b o hb e=>hs.extBut b o hb e) B.fr B.nl (.inr B.hi) B.nc B.np
theorem Ew{L3:List (Addr×Obj)}{σ2:St}{H1:Hp}{s2:Shared}
  (qb:∀(i j:Nat),cap[i]?=some (some j)->∃x,nm[i]?=some x/\X.N[j]?=some x/\tM X scope cl x) (c_:cap.length=nm.length)
  (I2:bE X af σ H1 s2) (So:∀b∈fp,∀x c,X.env.cells.lookup x=some c->c≠b)
  (I:bE (cH X nm scope cl C s2 H1 fp) L3 σ2 H s):bE (cH X nm scope cl C s2 H1 fp) L3 (oo cap σ) H s:=by
 refine⟨I.ok,I.os,I.bare,I.base,?_,I.cell,I.free,I.freeC,I.pin,I.hok,by show(oo cap σ).length=nm.length;unfold oo;rw[am];exact c_⟩
 obtain⟨m,hn,_⟩:=I.loc
 refine⟨m,hn,fun i x v e1 e2 e3=>?_⟩
 unfold oo at e2
 rw[ak]at e2
 cases hc:cap[i]? with
 |none=>rw[hc]at e2;cases e2
 |some oj=>
  cases oj with
  |none=>rw[hc]at e2;cases e2
  |some j=>
   rw[hc]at e2
   have e2':(σ[j]?).join=some v:=by simpa using e2
   have e2:σ[j]?=some (some v):=by
    cases hs:σ[j]? with
    |none=>rw[hs]at e2';cases e2'
    |some ov=>rw[hs]at e2';simp at e2';rw[e2']
   obtain⟨x',f1,f2,k⟩:=qb i j hc
   have hx:x'=x:=by
    have z:nm[i]?=some x:=e1
    rw[f1]at z;exact a9 z
   subst hx
   obtain⟨m2,_,hl2⟩:=I2.loc
   obtain⟨u,r,l⟩:=hl2 j x' v f2 e2 k.vis
   refine⟨u,r,?_⟩
   rcases l with⟨kl,_⟩|⟨_,c,hcc,iP⟩
   ·exact absurd kl k.nl
   ·refine .inr ⟨k.kd,c,by rw[<- hcc];exact k.cl,?_⟩
    exact I.base.cellK iP (I2.freeC _ _ hcc) fun z=>So c z _ _ hcc rfl
theorem tN{Qk:VK}(fC:X.calm=true)(uS:closureFor scope X.env=pure cl)(mh:∀x c,cl.lookup x=some c->X.env.cells.lookup x=some c)
  (ef:scope.kind=.function) (qe:∀x∈scope.names,x.2=.local->scope.names.lookup x.1=some .local) (R9:∀y∈scope.names,y.2=.cell->cl.lookup y.1=none)
  (A5:∀x,scope.names.lookup x≠some .cell->((relabel scope X.env).names.lookup x=some .cell\/(relabel scope X.env).names.lookup x=some .free)->∃c,cl.lookup x=some c)
  (qb:∀(i j:Nat),cap[i]?=some (some j)->∃x,nm[i]?=some x/\X.N[j]?=some x/\tM X scope cl x/\(x,NameKind.cell)∉scope.names) (c_:cap.length=nm.length)
  (hi:PI X tg b9 wi) (hg:∀k C s0 H0 fp,PG (cH X nm scope (cellsFrom k scope.names []++cl) C s0 H0 fp) tg g) (ht:∀k C s0 H0 fp,Ev (cH X nm scope (cellsFrom k scope.names []++cl) C s0 H0 fp) jb tc)
  (he:∀k C s0 H0 fp,PE (cH X nm scope (cellsFrom k scope.names []++cl) C s0 H0 fp) km te) (hs:∀x,foldedSetIterable b9 X.env x=pure x)
  (I:bE X af σ H s) (h:pw cap wi g tc te σ H Qk) (lj:∀(s4:Shared) (C D:Addr) (m4:Str->Option Value) (Hn:Hp),bE X af σ Hn s4->yb X af Hn s4 C m4->Qk (.ref D) Hn->compPost (model X.prog X.w) X.A X.xe use Qv (.ref D) C (.ok .next) s4) :
  wpAny (model X.prog X.w) X.A (comprehension (.ListComp km [⟨tg,b9,jb,0⟩] scope pos) scope X.env (firstIterPos [⟨tg,b9,jb,0⟩] pos) (newList []) (firstAsync [⟨tg,b9,jb,0⟩]) (firstIter [⟨tg,b9,jb,0⟩] X.env) use) Qv X.xe s:=by
 refine wpAny_comprehension_free (use:=use) rfl hs uS ef qe (hW (hi af s σ H _ I h) fun v s1 h1=>hW h1 fun Uk s2 h2=>?_)
 obtain⟨it,fp,tn,J,H1,e,I2,T,st2,f2,W,⟨m0,w0⟩,turn⟩:=h2
 subst e
 have hfpn:∀b∈fp,b<s2.heap.objs.size:=fun b hb=>let ⟨o,ho,_⟩:=T.obj _ _ st2 b hb;ax ho
 have hfpc:∀b∈fp,∀x c,X.env.cells.lookup x=some c->c≠b:=fun b hb=>(f2 b hb).2.2.2.2.1
 refine bJ (Io (fun h₁ hns₁ hsb₁ cok=>?_))
 dsimp only at hns₁ hsb₁ cok ⊢
 generalize hH2:s2.heap.push { cls:=.type "list",dict:=none,data:=.seq ([]:List Value).toArray }=G2 at hns₁ hsb₁ cok ⊢
 have hC:G2.objs.size=s2.heap.objs.size+1:=by rw[<- hH2,bg]
 have hDC:s2.heap.objs.size≠G2.objs.size:=by rw[hC];exact aN (d8 _)
 have old:∀b o,s2.heap.get? b=some o->h₁.get? b=some o:=fun b o e=>hsb₁ b o (hH2▸aj _ e)
 have hacc:h₁.get? s2.heap.objs.size=some { cls:=.type "list",data:=.seq ([]:List Value).toArray }:=hsb₁ _ _ (hH2▸aq _ rfl)
 have both:∀y c,(cellsFrom (G2.objs.size+1) scope.names []++cl).lookup y=some c->(cellsFrom (G2.objs.size+1) scope.names []).lookup y=some c\/cl.lookup y=some c:=fun y c e=>by
  rw[dy]at e
  cases h:(cellsFrom (G2.objs.size+1) scope.names []).lookup y with
  |none=>rw[h]at e;exact .inr e
  |some b=>rw[h]at e;exact .inl e
 have ownhi:∀y c,(cellsFrom (G2.objs.size+1) scope.names []).lookup y=some c->h₁.IsCell c none/\G2.objs.size+1<=c:=fun y c e=>cok.empty y c (PySem.mem_of_lookup e)
 have cllow:∀y c,cl.lookup y=some c->c<s2.heap.objs.size:=fun y c e=>by obtain⟨v,hv⟩:=I2.cell y c (mh _ _ e);exact hv.lt
 have hcap0:=qb
 have qb:∀(i j:Nat),cap[i]?=some (some j)->∃x,nm[i]?=some x/\X.N[j]?=some x/\tM X scope (cellsFrom (G2.objs.size+1) scope.names []++cl) x:=fun i j e=>by
  obtain⟨x,q1,q2,k,q3⟩:=hcap0 i j e
  refine⟨x,q1,q2,k.vis,k.nl,?_,k.kd⟩
  rw[dy]
  cases h:(cellsFrom (G2.objs.size+1) scope.names []).lookup x with
  |none=>exact k.cl
  |some c=>
   rcases jT _ _ _ (PySem.mem_of_lookup h)with z|z
   ·exact absurd z q3
   ·cases z
 have okB:(cH X nm scope (cellsFrom (G2.objs.size+1) scope.names []++cl) G2.objs.size s2 H1 fp).Ok:=by
  refine⟨I2.ok.mod,ef,I2.ok.glob,I2.ok.blt,by show s2.heap.objs.size<=G2.objs.size;omega,fun x y c h1 h2=>?_,fun x hx=>?_,fun x c h0 hc=>?_,fun hc=>I2.ok.hd fC,I2.ok.frames,.inl rfl,?_,?_,?_,?_,?_,?_,?_⟩
  ·rcases both x c h1 with q1|q1<;>rcases both y c h2 with q2|q2
   ·exact qV cok.apart (PySem.mem_of_lookup q1) (PySem.mem_of_lookup q2)
   ·exact absurd (cllow y c q2) (gI.mpr (bd (by omega) (ownhi x c q1).2))
   ·exact absurd (cllow x c q1) (gI.mpr (bd (by omega) (ownhi y c q2).2))
   ·exact I2.ok.inj x y c (mh _ _ q1) (mh _ _ q2)
  ·show ∃c,(cellsFrom (G2.objs.size+1) scope.names []++cl).lookup x=some c
   rw[dy]
   by_cases hq:scope.names.lookup x=some .cell
   ·obtain⟨c,e⟩:=hZ (n:=G2.objs.size+1) hq
    exact⟨c,by rw[e];rfl⟩
   ·obtain⟨c,e⟩:=A5 x hq hx
    cases h:(cellsFrom (G2.objs.size+1) scope.names []).lookup x with
    |none=>exact⟨c,e⟩
    |some b=>exact⟨b,rfl⟩
  ·have hq:scope.names.lookup x=some .cell:=by simpa using h0
   obtain⟨b,e⟩:=hZ (n:=G2.objs.size+1) hq
   have hc:(cellsFrom (G2.objs.size+1) scope.names []++cl).lookup x=some c:=hc
   rw[dy,e]at hc
   cases hc
   have:=(ownhi x _ e).2
   show s2.heap.objs.size<=_
   omega
  ·intro b hb
   exact⟨aN (aK (hfpn b hb) (by show _<=G2.objs.size;omega)),fun x c hx=>(both x c hx).elim (fun q=>eB (aK (hfpn b hb) (bd (by omega) (ownhi x c q).2))) fun q=>hfpc b hb x c (mh _ _ q)⟩
  ·exact fun b o hb=>I2.bs b o hb
  ·exact bd I2.ok.bsz I2.sz
  ·intro b o hb z
   rcases(f2 b z).2.2.2.1 with q|q
   ·exact I2.ok.noex b o hb q
   ·exact absurd (ax (I2.ok.bs b o hb).1) (gI.mpr q)
  ·intro b hb z
   rcases aG.mp (I2.stkSub b z)with q|q
   ·exact(f2 b hb).2.1 q
   ·exact(f2 b hb).2.2.1 q
  ·exact I2.stack
  ·exact I2.stkFree
 have I4:bE (cH X nm scope (cellsFrom (G2.objs.size+1) scope.names []++cl) G2.objs.size s2 H1 fp) [] (oo cap σ) H1 { s2 with heap:=h₁ }:=by
  refine Ew qb c_ I2 hfpc (σ2:=List.replicate nm.length none) ⟨okB,rfl,I2.bare,Un.kept old,⟨_,hns₁,fun i x v _ e2=>?_⟩,fun x c hx=>?_,?_,fun x c hx=>(both x c hx).elim (fun q=>I2.hok.fresh (by have:=(ownhi x c q).2;omega)) fun q=>I2.freeC x c (mh _ _ q),fun p hp=>absurd hp (by simp),I2.hok.kept old,by simp⟩
  ·rw[dz]at e2;split at e2<;>cases e2
  ·rcases both x c hx with q|q
   ·exact⟨none,(ownhi x c q).1⟩
   ·obtain⟨v,hv⟩:=I2.cell x c (mh _ _ q)
    exact⟨v,hv.keeps old⟩
  ·exact I2.hok.fresh (by show _<=G2.objs.size;omega)
 have hsz0:∀{Hx:Hp} {sx:Shared} {px:List (Addr×Obj)} {σx:St},bE (cH X nm scope (cellsFrom (G2.objs.size+1) scope.names []++cl) G2.objs.size s2 H1 fp) px σx Hx sx->Hx s2.heap.objs.size=none->∀{oa:Obj},sx.heap.get? s2.heap.objs.size=some oa->(∀v,oa.data≠.cell v) ->
   bE (cH X nm scope (cellsFrom (G2.objs.size+1) scope.names []++cl) G2.objs.size s2 H1 fp) [(s2.heap.objs.size,oa)] σx Hx sx:=fun{Hx sx px σx} Ix hn {oa} ho hd=>Ix.pins_of fun p hp=>by
  have e:p=(s2.heap.objs.size,oa):=by simpa using hp
  subst e
  exact⟨ho,hn,hDC,fun z=>by
   obtain⟨_,o,q,_⟩:=I2.stack.mem z
   exact absurd (ax q) (cw _),hd⟩
 have hfpB:∀{Hx:Hp} {oa:Obj},(∀b∈fp,Hx b=none)->∀b∈fp,tF (cH X nm scope (cellsFrom (G2.objs.size+1) scope.names []++cl) G2.objs.size s2 H1 fp) [(s2.heap.objs.size,oa)] Hx b:=fun{Hx oa} hn b hb=>
  ⟨hn b hb,(okB.exf b hb).1,okB.exfs b hb,.inl hb,(okB.exf b hb).2,fun p hp=>by
   have e:p=(s2.heap.objs.size,oa):=by simpa using hp
   subst e
   exact eB (hfpn b hb)⟩
 have hcalmB:(cH X nm scope (cellsFrom (G2.objs.size+1) scope.names []++cl) G2.objs.size s2 H1 fp).calm=true:=fC
 have loop:∀sx:Shared,sx={ s2 with heap:=h₁ } ->
   codeAny (model X.prog X.w) X.A (.compLoop (.ListComp km [⟨tg,b9,jb,0⟩] scope pos) 0 (.ref it) (.ref s2.heap.objs.size) (compEnvC scope (cellsFrom (G2.objs.size+1) scope.names []++cl) G2.objs.size X.env))
    (compPost (model X.prog X.w) X.A X.xe use Qv (.ref s2.heap.objs.size) G2.objs.size) sx:=by
  rintro sx rfl
  refine codeAny_loop rfl (fun n s'=>∃i ys H',bE (cH X nm scope (cellsFrom (G2.objs.size+1) scope.names []++cl) G2.objs.size s2 H1 fp) [] (oo cap σ) H' s'/\tn i s'.heap/\(∀b∈fp,H' b=none)/\H' s2.heap.objs.size=none /\
   (∃its k,cA ys its/\s'.heap.get? s2.heap.objs.size=some { cls:=.type "list",data:=.seq its.toArray k })/\W i n ys H') ?_ m0
   ⟨0,[],H1,I4,T.keep _ _ _ st2 (fun b _ o e=>old b o e),fun b hb=>(f2 b hb).1,I2.fresh,⟨[],0,.nil,hacc⟩,w0⟩
  rintro n s3 ⟨i,ys,H3,I3,gD,fr3,na3,⟨its,ka,rv,ea⟩,w3⟩
  show wpAny _ X.A ((compTurn (.ListComp km [⟨tg,b9,jb,0⟩] scope pos) 0 (.ref it) (.ref s2.heap.objs.size) (compEnvC scope (cellsFrom (G2.objs.size+1) scope.names []++cl) G2.objs.size X.env)).onRaise (fun x=>do noteFrame x (compEnvC scope (cellsFrom (G2.objs.size+1) scope.names []++cl) G2.objs.size X.env);theTreesLotGoes x)) _ _ s3
  refine wpAny_noted ?_
  rw[compTurn_list]
  refine aa (pI ?_)
  have I3p:=hsz0 I3 na3 ea (fun v z=>by cases z)
  rcases turn i n ys H3 w3 with⟨stop,hz,qn⟩|⟨go,step⟩
  ·refine aa (dJ (T.done (cH X nm scope (cellsFrom (G2.objs.size+1) scope.names []++cl) G2.objs.size s2 H1 fp) rfl rfl rfl hcalmB i _ s3 _ H3 (fun _ _=>False) I3p (hfpB fr3) gD stop) (fun r s4 hr=>?_) fun _ _ z=>z.elim)
   obtain⟨hr,I4'⟩:=hr
   subst hr
   refine ae ?_
   obtain⟨m4,hn4,_⟩:=id I4'.loc
   have pa:=I4'.pin (s2.heap.objs.size,{ cls:=.type "list",data:=.seq its.toArray ka }) (by simp)
   have ne:∀b o,s2.heap.get? b=some o->b≠s2.heap.objs.size/\b≠G2.objs.size:=fun b o e=>⟨aN (ax e),aN (by rw[hC];exact db (ax e))⟩
   have I5:bE X af σ (eJ H3 s2.heap.objs.size (.lst ys)) s4:=by
    refine I2.call' (ch:=fp) I4'.os ⟨fun b o e n hb hx=>?_,fun b o e n hb hx=>?_,fun b o e n hx=>?_,fun b o e hx=>?_,fun b xs e=>?_,fun b o u e=>?_,fun b ps e=>?_⟩ ?_ I4'.bare fun b hb=>?_
    ·exact I4'.base.keep b o e n hb hx
    ·exact I4'.base.slot b o e n hb hx
    ·rw[bY (ne b o e).1];exact I4'.base.free b o e n hx
    ·exact I4'.base.there b o e hx
    ·have q:=I4'.base.tups b xs e
     rw[bY (fF q na3)];exact q
    ·have q:=I4'.base.frzs b o u e
     rw[bY (fF q na3)];exact q
    ·obtain⟨mr,q⟩:=I4'.base.tbls b ps e
     exact⟨mr,by rw[bY (fF q na3)];exact q⟩
    ·intro b o e
     by_cases hb:b=s2.heap.objs.size
     ·subst hb
      rw[cO]at e;cases e
      exact⟨hz,its,ka,rv,pa.1⟩
     ·rw[bY hb]at e
      exact(I4'.hok b o e).stay (fun c u hc q=>q) (fun c q=>by rw[bY (fF q na3)];exact q) fun c xs q=>by rw[bY (fF q na3)];exact q
    ·obtain⟨_,g1,_,g3,g4,g5⟩:=f2 b hb
     exact⟨g3,g1,g4,g5⟩
   have lC:s2.heap.objs.size<=G2.objs.size:=by rw[hC];exact i8 _
   exact lj s4 G2.objs.size _ m4 _ I5 ⟨hn4,by rw[bY (Ne.symm hDC)];exact I4'.free,eB (aK I2.lt lC),I2.nofs lC,bd I2.sz lC,fun x c hx z=>(by
    obtain⟨v,o,ho,_⟩:=I2.cell x c hx
    exact absurd (ax ho) (by rw[z];exact gI.mpr lC)),fun p hp z=>(by
    have:=(I2.pin p hp).1
    exact absurd (ax this) (by rw[z];exact gI.mpr lC))⟩ (qn _ na3)
  ·refine aa (dJ (T.item (cH X nm scope (cellsFrom (G2.objs.size+1) scope.names []++cl) G2.objs.size s2 H1 fp) rfl rfl rfl hcalmB i _ s3 _ H3 (fun _ _=>False) I3p (hfpB fr3) gD go) (fun r s4 hr=>?_) fun _ _ z=>z.elim)
   obtain⟨u,hr,h4⟩:=hr
   subst hr
   dsimp only
   refine aa (dJ h4 (fun _ s5 h5=>?_) fun _ _ z=>z.elim)
   obtain⟨x,H5,I5,r5,y5,xV,fr5⟩:=h5
   have I5':=I5.pinned (hfpB fr5) (T.obj _ _ xV)
   refine aa (dJ (hg _ _ _ _ _ _ s5 _ H5 x u _ I5' r5 (step x H5 y5)) (fun _ s6 h6=>?_) fun _ _ z=>z.elim)
   obtain⟨σ6,H6,I6,q6⟩:=h6
   refine aa (dJ (ht _ _ _ _ _ _ s6 σ6 H6 _ I6 q6) (fun ok s7 h7=>?_) fun _ _ z=>z.elim)
   obtain⟨H7,I7,q7⟩:=h7
   have back:∀{H8:Hp} {s8:Shared} {OW:List V} {its':List Value} {k':Nat},bE (cH X nm scope (cellsFrom (G2.objs.size+1) scope.names []++cl) G2.objs.size s2 H1 fp) [] σ6 H8 s8->(∀b∈fp,∀o,s5.heap.get? b=some o->s8.heap.get? b=some o)->(∀b∈fp,H8 b=none)->H8 s2.heap.objs.size=none ->
     cA OW its'->s8.heap.get? s2.heap.objs.size=some { cls:=.type "list",data:=.seq its'.toArray k' }->(∃m',m'<n/\W (i+1) m' OW H8) ->
     ∃m,m<n/\∃i ys H',bE (cH X nm scope (cellsFrom (G2.objs.size+1) scope.names []++cl) G2.objs.size s2 H1 fp) [] (oo cap σ) H' s8/\tn i s8.heap/\(∀b∈fp,H' b=none)/\H' s2.heap.objs.size=none /\
      (∃its k,cA ys its/\s8.heap.get? s2.heap.objs.size=some { cls:=.type "list",data:=.seq its.toArray k })/\W i m ys H':=
    fun{H8 s8 OW its' k'} I8 kf f8 n8 rv8 e8 ⟨m',hm,w8⟩=>⟨m',hm,i+1,OW,H8,Ew qb c_ I2 hfpc I8,T.keep _ _ _ xV kf,f8,n8,⟨its',k',rv8,e8⟩,w8⟩
   cases ok with
   |false=>
    refine ae ⟨rfl,?_⟩
    have q7':∃m',m'<n/\W (i+1) m' ys H7:=by simpa using q7
    have pa:=I7.pin (s2.heap.objs.size,{ cls:=.type "list",data:=.seq its.toArray ka }) (by simp)
    refine back (I7.pins_of fun p hp=>absurd hp (by simp)) (fun b hb o e=>?_) (fun b hb=>?_) pa.2.1 rv pa.1 q7'
    ·exact(I7.pin (b,o) (aX _ (aX _ (jG hb e)))).1
    ·obtain⟨o,e,d⟩:=T.obj _ _ xV b hb
     exact(I7.pin (b,o) (aX _ (aX _ (jG hb e)))).2.1
   |true=>
    rw[av rfl]at q7
    refine aa (aa (dJ (he _ _ _ _ _ _ s7 σ6 H7 _ I7 q7) (fun xv s8 h8=>?_) fun _ _ z=>z.elim))
    obtain⟨y,H8,I8,r8,hzy,q8⟩:=h8
    have pa:=I8.pin (s2.heap.objs.size,{ cls:=.type "list",data:=.seq its.toArray ka }) (by simp)
    refine aa (wt pa.1 (by rw[<- rv.length];exact hzy) fun h' k' tk e9 sb=>?_)
    refine ae (ae ⟨rfl,?_⟩)
    have I9:bE (cH X nm scope (cellsFrom (G2.objs.size+1) scope.names []++cl) G2.objs.size s2 H1 fp) [] σ6 H8 { s8 with heap:=h',toks:=tk }:=
     (bE.pins_of (pins':=[]) I8 fun p hp=>absurd hp (by simp)).turned (it:=s2.heap.objs.size) (fun b o hb e=>sb b o hb e) pa.2.1 hDC (.inr (au _)) (fun x c hx z=>by
      rcases both x c hx with q|q
      ·exact gI.mpr (ownhi x c q).2 (by rw[z];omega)
      ·exact cw _ (by have:=cllow x c q;rw[z]at this;exact this)) (fun p hp=>absurd hp (by simp))
    refine back I9 (fun b hb o e=>?_) (fun b hb=>?_) pa.2.1 (rv.append (.cons r8 .nil)) e9 q8
    ·exact sb b o (aN (hfpn b hb)) (I8.pin (b,o) (aX _ (aX _ (jG hb e)))).1
    ·obtain⟨o,e,d⟩:=T.obj _ _ xV b hb
     exact(I8.pin (b,o) (aX _ (aX _ (jG hb e)))).2.1
 exact codeAny_compStart_list (loop _ rfl) (T.self _ _ _ _ _ (T.keep _ _ _ st2 fun b _ o e=>old b o e) (loop _ rfl))
theorem qk:∀(names:List (Str×NameKind)) (n:Nat),(∀y∈names,y.2≠.cell)->cellsFrom n names []=[]
 |[],_,_=>rfl
 |(x,k)::r,n,h=>by
  show(if k==.cell then cellsFrom (n+1) r [(x,n)]else cellsFrom n r [])=[]
  rw[az (by have:=h (x,k) (by simp);simpa using this)]
  exact qk r n fun y hy=>h y (by simp[hy])
theorem vx{Qk:VK}(fC:X.calm=true)(uS:closureFor scope X.env=pure cl)(mh:∀x c,cl.lookup x=some c->X.env.cells.lookup x=some c)
  (ef:scope.kind=.function) (qe:∀x∈scope.names,x.2=.local->scope.names.lookup x.1=some .local) (iP:∀y∈scope.names,y.2≠.cell)
  (A5:∀x,((relabel scope X.env).names.lookup x=some .cell\/(relabel scope X.env).names.lookup x=some .free)->∃c,cl.lookup x=some c)
  (qb:∀(i j:Nat),cap[i]?=some (some j)->∃x,nm[i]?=some x/\X.N[j]?=some x/\tM X scope cl x) (c_:cap.length=nm.length)
  (hi:PI X tg b9 wi) (hg:∀C s0 H0 fp,PG (bV X nm scope cl C s0 H0 fp) tg g) (ht:∀C s0 H0 fp,Ev (bV X nm scope cl C s0 H0 fp) jb tc)
  (he:∀C s0 H0 fp,PE (bV X nm scope cl C s0 H0 fp) km te) (hs:∀x,foldedSetIterable b9 X.env x=pure x)
  (I:bE X af σ H s) (h:pw cap wi g tc te σ H Qk) (lj:∀(s4:Shared) (C D:Addr) (m4:Str->Option Value) (Hn:Hp),bE X af σ Hn s4->yb X af Hn s4 C m4->Qk (.ref D) Hn->compPost (model X.prog X.w) X.A X.xe use Qv (.ref D) C (.ok .next) s4) :
  wpAny (model X.prog X.w) X.A (comprehension (.ListComp km [⟨tg,b9,jb,0⟩] scope pos) scope X.env (firstIterPos [⟨tg,b9,jb,0⟩] pos) (newList []) (firstAsync [⟨tg,b9,jb,0⟩]) (firstIter [⟨tg,b9,jb,0⟩] X.env) use) Qv X.xe s:=by
 have nc:∀k,cellsFrom k scope.names []++cl=cl:=fun k=>by rw[qk _ _ iP];rfl
 have nx:∀C s0 H0 fp,cH X nm scope cl C s0 H0 fp=bV X nm scope cl C s0 H0 fp:=fun C s0 H0 fp=>by
  have:(fun y=>scope.names.lookup y==some .cell)=fun _=>false:=funext fun y=>by
   rw[bx]
   exact fun e=>iP _ (dU e) rfl
  unfold cH bV
  rw[this]
 exact tN fC uS mh ef qe (fun y hy h=>absurd h (iP y hy)) (fun x _ h=>A5 x h) (fun i j h=>let ⟨x,a,b,d⟩:=qb i j h;⟨x,a,b,d,fun z=>iP _ z rfl⟩) c_ hi
  (fun k C s0 H0 fp=>by rw[nc,nx];exact hg C s0 H0 fp) (fun k C s0 H0 fp=>by rw[nc,nx];exact ht C s0 H0 fp) (fun k C s0 H0 fp=>by rw[nc,nx];exact he C s0 H0 fp) hs I h lj
theorem Bf(fC:X.calm=true)(uS:closureFor scope X.env=pure cl)(mh:∀x c,cl.lookup x=some c->X.env.cells.lookup x=some c)
  (ef:scope.kind=.function) (qe:∀x∈scope.names,x.2=.local->scope.names.lookup x.1=some .local) (iP:∀y∈scope.names,y.2≠.cell)
  (A5:∀x,((relabel scope X.env).names.lookup x=some .cell\/(relabel scope X.env).names.lookup x=some .free)->∃c,cl.lookup x=some c)
  (qb:∀(i j:Nat),cap[i]?=some (some j)->∃x,nm[i]?=some x/\X.N[j]?=some x/\tM X scope cl x) (c_:cap.length=nm.length)
  (hi:PI X tg b9 wi) (hg:∀C s0 H0 fp,PG (bV X nm scope cl C s0 H0 fp) tg g) (ht:∀C s0 H0 fp,Ev (bV X nm scope cl C s0 H0 fp) jb tc)
  (he:∀C s0 H0 fp,PE (bV X nm scope cl C s0 H0 fp) km te) (hs:∀x,foldedSetIterable b9 X.env x=pure x:=by intro _;rfl) :
  PE X (.ListComp km [⟨tg,b9,jb,0⟩] scope pos) (pw cap wi g tc te):=by
 intro af s σ H Q I h
 rw[eval_ListComp]
 exact vx fC uS mh ef qe iP A5 qb c_ hi hg ht he hs I h fun s4 C D m4 Hn I4 B q=>⟨m4,B.ns,fun h' hs'=>⟨.ref D,Hn,B.off I4 hs',rfl,q⟩⟩
end
def tx(l:List Nat):Str:=⟨l.toArray⟩
theorem MW(l:List Nat):(tx l).cps.toList=l:=rfl
theorem jc(l:List Nat):(tx l).length=l.length:=by show l.toArray.size=_;simp
theorem Ai(a b:List Nat):tx a++tx b=tx (a++b):=by
 show(⟨a.toArray++b.toArray⟩:Str)=⟨(a++b).toArray⟩
 simp
theorem Ex{a b:List Nat}:tx a=tx b↔a=b:=⟨fun h=>by have:=eY (fun z:Str=>z.cps.toList) h;exact this,fun h=>by rw[h]⟩
def TD(no:List V):It:=⟨fun i _=>i<no.length,fun i H x H'=>H'=H/\no[i]?=some x,fun i _=>no.length<=i⟩
theorem Aj{w:World}{no:List V}{Pr:Nat->Value->Prop}{S:Nat->Heap->Prop}{ty:String}
  (W:∀A:Around,A.handled=none->Walks P w A it [it] [it] no.length Pr S) (hv:∀i v,i<no.length->Pr i v->∃x,no[i]?=some x/\cf x v)
  (DT:∀i h,S i h->∃o vs,h.get? it=some o/\o.cls=.type ty/\o.data=.fields vs)
  (DW:["enumerate","zip","dict_itemiterator","dict_reverseitemiterator","odict_iterator","itertools.zip_longest","itertools.pairwise"].contains ty=false)
  (Hw:∀(A:Around) (i:Nat) (s:Shared) (Q:Value->Shared->Prop) (E:Value->Shared->Prop),S i s.heap->Q (.ref it) s->wpAny (model P w) A (pyIter (.ref it)) Q E s) :
  we P w K tg (TD no) [it] it (fun i h=>i<=no.length/\S i h) where
 mem:=by simp
 obj:=fun i h st b hb=>by
  have e:b=it:=by simpa using hb
  subst e
  obtain⟨o,vs,e,c,d⟩:=DT i h st.2
  exact⟨o,e,fun v z=>by rw[d]at z;cases z⟩
 keep:=fun i h h' st k=>⟨st.1,(W { depth:=0,handled:=none,frames:=none } rfl).frame i h h' st.2 k⟩
 item:=by
  intro X hP hw hK hc i af s σ H E I hf st hg
  subst hP hw hK
  obtain⟨f0,f1,f2,f3,f4,f5⟩:=hf it (by simp)
  refine(W X.A (I.ok.hd hc)).item i s _ _ hg st.2 fun v h' tk hp bD kk=>?_
  have I1:bE X af σ H { s with heap:=h',toks:=tk }:=I.turned (fun b o hb e=>kk b o (by simpa using hb) e) f0 f1 f3 f4 f5
  obtain⟨x,hx,rx⟩:=hv i v hg hp
  obtain⟨o,vs,e,c,d⟩:=DT _ _ bD
  exact⟨v,rfl,xZ (s:={ s with heap:=h',toks:=tk }) e c d DW ⟨x,H,I1,rx,⟨rfl,hx⟩,⟨hg,bD⟩,fun b hb=>(hf b hb).1⟩⟩
 done:=by
  intro X hP hw hK hc i af s σ H E I hf st hg
  subst hP hw hK
  obtain⟨f0,f1,f2,f3,f4,f5⟩:=hf it (by simp)
  have e:i=no.length:=Nat.le_antisymm st.1 hg
  refine(W X.A (I.ok.hd hc)).done s _ _ (e▸st.2) fun h' tk kk=>⟨rfl,I.turned (fun b o hb e=>kk b o (by simpa using hb) e) f0 f1 f3 f4 f5⟩
 self:=fun A i s Q E st h=>Hw A i s Q E st.2 h
section
def jH(l:List Nat):List V:=l.map fun c=>.str (tx [c])
def TF(tl:TE):TI:=fun σ H R=>tl σ H fun x H1=>∃l,x=.str (tx l)/\R (TD (jH l)) H1
theorem CK(i:Nat)(v:Value)(hi:i<(jH l).length)(h:SignAt (tx l) i v):∃x,(jH l)[i]?=some x/\cf x v:=by
 obtain⟨c,u,hc,e⟩:=h
 refine⟨.str (tx [c]),?_,u,e⟩
 unfold jH
 rw[ak]
 have:l[i]?=some c:=by simpa[tx]using hc
 rw[this];rfl
theorem MX{l:Expr}{tl:TE}(hl:PE X l tl):PI X tg l (TF tl):=by
 intro af s σ H R I h
 refine hW (hl af s σ H _ I h) fun v s1 ⟨x,H1,I1,r1,q1⟩=>?_
 obtain⟨l,e,q⟩:=q1
 subst e
 obtain⟨t,rfl⟩:=r1
 have hn:(tx l).cps.size=(jH l).length:=by unfold jH;simp[tx]
 have lj:∀(ob:Obj) (S:Nat->Heap->Prop) (ty:String),(∀A:Around,A.handled=none->Walks X.prog X.w A s1.heap.objs.size [s1.heap.objs.size] [s1.heap.objs.size] (tx l).cps.size (SignAt (tx l)) S)->S 0 (s1.heap.push ob) ->
   (∀i h,S i h->∃o vs,h.get? s1.heap.objs.size=some o/\o.cls=.type ty/\o.data=.fields vs) ->
   ["enumerate","zip","dict_itemiterator","dict_reverseitemiterator","odict_iterator","itertools.zip_longest","itertools.pairwise"].contains ty=false ->
   (∀(A:Around) (i:Nat) (s:Shared) (Q:Value->Shared->Prop) (E:Value->Shared->Prop),S i s.heap->Q (.ref s1.heap.objs.size) s->wpAny (model X.prog X.w) A (pyIter (.ref s1.heap.objs.size)) Q E s) ->
   Sx X af σ tg R (.ref s1.heap.objs.size) { s1 with heap:=s1.heap.push ob }:=fun ob S ty W h0 DT DW Hw=>by
  rw[hn]at W
  refine⟨s1.heap.objs.size,[s1.heap.objs.size],_,_,H1,rfl,I1.kept (t':=s1.toks) fun b o e=>aj _ e,Aj W (fun i v hi hp=>CK i v hi hp) DT DW Hw,⟨cQ _,h0⟩,fun b hb=>?_,q⟩
  have e:b=s1.heap.objs.size:=by simpa using hb
  subst e
  exact I1.fpOk (au _) I1.fresh
 cases ha:(tx l).cps.all (· < 128)
 ·exact wpAny_pyIter_wide ha (lj _ _ _ (fun A hA=>Walks.strWide hA _ (tx l) t) ⟨_,aq _ rfl,rfl,rfl⟩ (fun i h st=>by obtain⟨o,a,b,c⟩:=st;exact⟨o,_,a,b,c⟩) (by decide) fun A i s Q E st h=>wpAny_pyIter_striter_wide st h)
 ·exact wpAny_pyIter_ascii ha (lj _ _ _ (fun A hA=>Walks.strAscii hA _ (tx l) t) ⟨_,aq _ rfl,rfl,rfl⟩ (fun i h st=>by obtain⟨o,a,b,c⟩:=st;exact⟨o,_,a,b,c⟩) (by decide) fun A i s Q E st h=>wpAny_pyIter_striter_ascii st h)
def CL(l:List Nat)(lo hi:Option Int):List Nat:=(l.drop (HT.sIx l.length 0 lo)).take (HT.sIx l.length l.length hi-HT.sIx l.length 0 lo)
theorem yd(l:List Nat)(lo hi:Option Int):(CL l lo hi).length<=l.length:=by unfold CL;rw[bc,cJ];omega
theorem Ak(l:List Nat)(i k:Nat):((List.range k).map fun(m:Nat)=>i+m).filterMap (fun j=>l[j]?)=(l.drop i).take k:=by
 induction k generalizing i with
 |zero=>simp
 |succ k ih=>
  rw[jo,aI,aM]
  have e:((fun m=>i+m)∘Nat.succ)=fun m=>(i+1)+m:=by funext m;simp[Function.comp];omega
  rw[e]
  by_cases h:i<l.length
  ·rw[dO]
   simp only[fY,ar h]
   rw[ih (i+1),cZ h,List.take_succ_cons]
  ·rw[dO]
   have h':l.length<=i:=by omega
   simp only[fY,cq h']
   rw[ih (i+1),nC h',nC (by omega)]
   simp
theorem KC(v:Int)(n d:Nat):(if (1:Int)>0 then max 0 (min (if v<0 then v+(n:Int)else v) (n:Int))else max (-1) (min (if v<0 then v+(n:Int)else v) ((n:Int)-1)))=((HT.sIx n d (some v):Nat):Int):=by
 rw[av (by omega)]
 show _=(((if v<0 then(v+(n:Int)).toNat else min v.toNat n):Nat):Int)
 by_cases hv:v<0
 ·simp only[av hv];omega
 ·simp only[az hv];omega
theorem MY(lo hi:Option Int)(n:Nat):Builtin.Str.strSliceIndices lo hi 1 n=(List.range (HT.sIx n n hi-HT.sIx n 0 lo)).map fun(m:Nat)=>HT.sIx n 0 lo+m:=by
 have key:∀a b:Nat,sliceRange (a:Int) (b:Int) 1=(List.range (b-a)).map fun(m:Nat)=>a+m:=fun a b=>by
  unfold sliceRange
  have e:(if (1:Int)>0 then(if (a:Int)<(b:Int)then((b:Int)-a+1-1)/1 else 0)else(if (a:Int)>b then((a:Int)-b-1-1)/(-1)else 0)).toNat=b-a:=by
   rw[av (by omega)]
   by_cases h:(a:Int)<b
   ·rw[av h];omega
   ·rw[az h];omega
  dsimp only
  rw[e]
  refine bO fun k _=>?_
  omega
 unfold Builtin.Str.strSliceIndices
 rw[<- key]
 dsimp only
 congr 1
 ·cases lo with
  |none=>rfl
  |some v=>exact KC v n 0
 ·cases hi with
  |none=>rfl
  |some v=>exact KC v n n
theorem Ey(l:List Nat)(lo hi:Option Int):Txt.slice (tx l) lo hi=tx (CL l lo hi):=by
 unfold Txt.slice
 rw[MY,jc]
 split
 ·rename_i h
  simp only[mK,Bool.true_and,gJ,am,lV]at h
  unfold CL
  have h1:=HT.sIx_le l.length l.length (au _) hi
  have h2:=HT.sIx_le l.length 0 (cQ _) lo
  by_cases hz:l.length=0
  ·have:l=[]:=eN hz
   subst this;simp
  ·have e0:HT.sIx l.length 0 lo=0:=by omega
   rw[e0,List.drop_zero,fy (by omega)]
 ·unfold CL tx
  have:∀j:Nat,(l.toArray)[j]?=l[j]?:=fun j=>by simp
  simp only[this]
  rw[Ak]
def TH:V->Option Int->Option Int->Hp->VK->Prop:=fun x lo hi H Q=>∃l,x=.str (tx l)/\l.length<=sizeLine/\Q (.str (tx (CL l lo hi))) H
theorem Bg{v:Value}{o:Option Int}(p:IsPart v o):∃q:Option (Int×Tok),v=partValue q/\q.map (·.1)=o:=by
 cases p with
 |none=>exact⟨none,rfl,rfl⟩
 |int i t=>exact⟨some (i,t),rfl,rfl⟩
theorem MZ:PR X TH:=by
 intro af s σ H x v vl vu lo hi sl Q I rx hs pl pu h
 obtain⟨l,e,hz,q⟩:=h
 subst e
 obtain⟨t,rfl⟩:=rx
 obtain⟨pl',rfl,rfl⟩:=Bg pl
 obtain⟨pu',rfl,rfl⟩:=Bg pu
 refine⟨"str",_,F.slot_str_getitem.lookup,ny _ _ _,?_⟩
 refine mL (l:=pl') (u:=pu') (st:=none) hs rfl (post_val_or_str ?_)
 have e:=Ey l (pl'.map (·.1)) (pu'.map (·.1))
 unfold Txt.slice at e
 show(if ((1:Int)==1&&(Builtin.Str.strSliceIndices (pl'.map (·.1)) (pu'.map (·.1)) 1 (tx l).length).length==(tx l).length)=true then tx l else⟨((Builtin.Str.strSliceIndices (pl'.map (·.1)) (pu'.map (·.1)) 1 (tx l).length).filterMap ((tx l).cps[·]?)).toArray⟩:Str).length<=sizeLine /\
  ∀t' k,EP X af σ Q (.str (if ((1:Int)==1&&(Builtin.Str.strSliceIndices (pl'.map (·.1)) (pu'.map (·.1)) 1 (tx l).length).length==(tx l).length)=true then tx l else⟨((Builtin.Str.strSliceIndices (pl'.map (·.1)) (pu'.map (·.1)) 1 (tx l).length).filterMap ((tx l).cps[·]?)).toArray⟩:Str) t') { s with toks:=k }
 rw[e,jc]
 exact⟨bd (yd l _ _) hz,fun t' k=>⟨.str _,H,I.tok k,⟨t',rfl⟩,q⟩⟩
def P2(te:TE):TE:=fun σ H Q=>te σ H fun x H1=>∃l,x=.str (tx l)/\l.length<=sizeLine/\Q (.str (tx l.reverse)) H1
theorem Ez(l:List Nat):(Builtin.Str.strSliceIndices none none (-1) l.length).filterMap (fun j=>l[j]?)=l.reverse:=by
 unfold Builtin.Str.strSliceIndices sliceRange
 have h1:¬ ((-1:Int)>0):=by decide
 simp only[h1,eL]
 have e:(if (l.length:Int)-1 > -1 then((l.length:Int)-1 - -1 - -1-1)/(- -1)else 0).toNat=l.length:=by
  by_cases h:(l.length:Int)-1 > -1
  ·rw[av h];simp
  ·rw[az h];omega
 rw[e]
 apply hU
 intro i
 have mp:∀k:Nat,k<=l.length->((List.range k).map fun(k:Nat)=>((l.length:Int)-1+-1*(k:Int)).toNat).filterMap (fun j=>l[j]?)=l.reverse.take k:=by
  intro k
  induction k with
  |zero=>intro _;simp
  |succ k ih=>
   intro hk
   rw[eS,bG,nY,ih (by omega),List.map_singleton]
   have e2:((l.length:Int)-1+-1*(k:Int)).toNat=l.length-1-k:=by omega
   rw[e2,dO]
   have hlt:l.length-1-k<l.length:=by omega
   rw[ar hlt,List.filterMap_nil]
   have hr:k<l.reverse.length:=by simp;omega
   rw[List.take_add_one,ar hr,List.getElem_reverse]
   rfl
 rw[mp l.length (au _),fy (by simp)]
theorem Ip{one:Expr}{p3:Pos}{p4:Pos}(he:PE X e te):PE X (.Subscript e (.Slice none none (some (.UnaryOp .USub (.Constant (.int 1) j p4) p3)) p2) pos) (P2 te):=by
 intro af s σ H Q I h
 refine nv (hW (he af s σ H _ I h) fun v s1 ⟨x,H1,I1,r1,q1⟩=>?_)
 obtain⟨l,e,hz,q⟩:=q1
 subst e
 obtain⟨t,rfl⟩:=r1
 refine wpAny_Slice ?_
 rw[mi]
 refine ae (ae ?_)
 show wpAny (model X.prog X.w) X.A (eval (.UnaryOp .USub (.Constant (.int 1) j p4) p3) X.env) _ _ s1
 refine UnaryOp_ (lq (neg_int ?_))
 have I4:∀(ob:Obj) (tk:Nat),bE X af σ H1 { s1 with heap:=s1.heap.push ob,toks:=tk }:=fun ob tk=>I1.kept fun b o q=>aj _ q
 dsimp only
 refine tail_any (ops:=[.ref s1.heap.objs.size,.str (tx l) t]) (ny _ _ _) F.slot_str_getitem.lookup ?_ (by with_unfolding_all rfl)
 refine mL (l:=none) (u:=none) (st:=some (-1,_)) ⟨_,aq _ rfl,rfl,rfl⟩ (by rfl) (post_val_or_str ?_)
 have hn:¬ ((((some ((-1:Int),s1.toks+1):Option (Int×Tok)).map (·.1)).getD 1==1&&(slicePicked (tx l) none none (some (-1,s1.toks+1))).length==(tx l).length)=true):=by
  intro z;simp at z
 rw[az hn]
 have e:(⟨((slicePicked (tx l) none none (some (-1,s1.toks+1))).filterMap ((tx l).cps[·]?)).toArray⟩:Str)=tx l.reverse:=by
  unfold slicePicked
  rw[jc]
  have:∀j:Nat,((tx l).cps)[j]?=l[j]?:=fun j=>by simp[tx]
  simp only[this]
  show(⟨((Builtin.Str.strSliceIndices none none (-1) l.length).filterMap (fun j=>l[j]?)).toArray⟩:Str)=_
  rw[Ez];rfl
 rw[e,jc,eZ]
 exact⟨hz,fun t' k=>⟨.str _,H1,I4 _ k,⟨t',rfl⟩,q⟩⟩
theorem EA(c:Nat)(l:List Nat):(!(Builtin.Str.occurrences (tx l) (tx [c]) 0 (tx l).length 1).isEmpty)=decide (c∈l):=StrLaws.found_one (tx l) c
def P3(xU:Bool):R2:=fun x y H Q=>∃c l,x=.str (tx [c])/\y=.str (tx l)/\Q (.bl (if xU then !decide (c∈l)else decide (c∈l))) H
theorem CM:l7 X (compareOp .In) (P3 false):=by
 intro af s σ H x y v u Q I rx ry h
 obtain⟨c,l,rfl,rfl,q⟩:=h
 exact Cw af s σ H _ _ v u Q I rx ry ⟨_,_,rfl,rfl,by rw[EA];exact q⟩
theorem wu:l7 X (compareOp .NotIn) (P3 true):=by
 intro af s σ H x y v u Q I rx ry h
 obtain⟨c,l,rfl,rfl,q⟩:=h
 exact wg af s σ H _ _ v u Q I rx ry ⟨_,_,rfl,rfl,by rw[EA];exact q⟩
theorem CN:l7 X (compareOp .LtE) (fun x y H Q=>∃c d,x=.str (tx [c])/\y=.str (tx [d])/\Q (.bl (decide (c<=d))) H):=by
 intro af s σ H x y v u Q I rx ry h
 obtain⟨c,d,rfl,rfl,q⟩:=h
 obtain⟨t,rfl⟩:=rx
 obtain⟨t',rfl⟩:=ry
 refine PySem.P.le_str ⟨.bl _,H,I,?_,q⟩
 show Value.bool _=Value.bool _
 congr 1
 show(!decide ([d]<[c]))=decide (c<=d)
 by_cases om:c<=d
 ·rw[aV om,aH];rfl
  intro z
  cases z with
  |rel z=>omega
  |cons z=>cases z
 ·rw[aH om,aV];rfl
  exact .rel (by omega)
theorem pO:∀{ys:List (List Nat)} {its:List Value},cA (ys.map fun l=>V.str (tx l)) its->StrsAre its (ys.map tx)
 |[],_,r=>by cases r;exact .nil
 |y::ys,_,r=>by
  cases r with
  |cons r rr=>
   obtain⟨t,rfl⟩:=r
   exact .cons _ _ (pO rr)
theorem mY:∀{its:List Value} {ss:List Str},StrsAre its ss->cA (ss.map fun z=>V.str z) its
 |_,_,.nil=>.nil
 |_,_,.cons y t r=>.cons ⟨t,rfl⟩ (mY r)
def nI(sep:List Nat):List (List Nat)->List Nat
 |[]=>[]
 |[x]=>x
 |x::y::r=>x++sep++nI sep (y::r)
theorem kQ:∀ys:List (List Nat),nI [] ys=ys.flatten
 |[]=>rfl
 |[x]=>by simp[nI]
 |x::y::r=>by rw[nI,kQ (y::r)];simp
theorem Iq(sep:List Nat):∀ys:List (List Nat),Txt.join (tx sep) (ys.map tx)=tx (nI sep ys):=fun ys=>by
 show Builtin.Str.glued (tx sep) (ys.map tx)=_
 rw[StrLaws.glued_eq_join]
 induction ys with
 |nil=>rfl
 |cons x r ih=>
  cases r with
  |nil=>rfl
  |cons y r=>
   show tx x++tx sep++Str.join (tx sep) ((y::r).map tx)=tx (x++sep++nI sep (y::r))
   rw[ih,Ai,Ai]
def P4(K:Frag):V->List V->Hp->VK->Prop:=fun x vs H Q=>∃(sep:List Nat) (a:Addr) (ys:List (List Nat)),x=.str (tx sep)/\vs=[.ref a]/\nG K H a (ys.map fun l=>V.str (tx l))/\(ys.map List.length).sum+ys.length*sep.length<=16777216/\Q (.str (tx (nI sep ys))) H
theorem Ir:HB X "str.join" (P4 X.K):=by
 intro af s σ H x vs v us Q I rx rv h
 obtain⟨sep,a,ys,rfl,rfl,hS,hz,q⟩:=h
 obtain⟨t,rfl⟩:=rx
 obtain⟨u,rfl,ru⟩:=rv.one
 cases ru
 obtain⟨its,r,p,_⟩:=I.list hS
 refine join_list p.isList (pO (by simpa using r)) ?_ fun t' k=>?_
 ·rw[aM,jc,am]
  have e:((fun z:Str=>z.length)∘tx)=List.length:=by funext l;exact jc l
  rw[e];exact hz
 ·rw[Iq]
  exact⟨.str _,H,I.tok k,⟨t',rfl⟩,q⟩
end
inductive D where
 |non|bl (b:Bool)|int (i:Int)|str (l:List Nat)|tnil|tcons (d r:D)
 deriving DecidableEq
structure dg(K:Frag)(H H':Hp):Prop where
 t:∀p xs,fj K H p xs->fj K H' p xs
 z:∀b o u,H b=some (.frz o u)->H' b=some (.frz o u)
instance {K:Frag} {H H':Hp}:CoeFun (dg K H H') (fun _=>∀p xs,fj K H p xs->fj K H' p xs):=⟨dg.t⟩
theorem fj.same{K:Frag}(e:o_ H H'):dg K H H':=⟨fun p xs h=>by
 rcases h with(h|⟨o,h⟩)|h
 ·exact .inl (.inl (e _ _ h))
 ·exact .inl (.inr ⟨o,e _ _ h⟩)
 ·exact .inr h,fun b o u h=>e _ _ h⟩
theorem cn{p:Addr}(h:H p=none)(o:HO):o_ H (eJ H p o):=fun b u q=>by rw[bY (fF q h)];exact q
def P5(l:Addr)(H H':Hp):Prop:=∀b o,b≠l->H b=some o->H' b=some o
theorem jd{l:Addr}{o:HO}:P5 l H (eJ H l o):=fun b u h q=>by rw[bY h];exact q
theorem fj.but{l:Addr}{xs:List V}(e:P5 l H H')(hl:H l=some (.lst xs)):dg K H H':=by
 have hne:∀{p:Addr} {o:HO},H p=some o->(∀zs,o≠.lst zs)->p≠l:=fun{p o} q hn z=>by subst z;rw[hl]at q;cases q;exact hn _ rfl
 refine⟨fun p ys h=>?_,fun b o u h=>e _ _ (hne h (fun _ z=>by cases z)) h⟩
 rcases h with(h|⟨o,h⟩)|h
 ·exact .inl (.inl (e _ _ (hne h (fun _ z=>by cases z)) h))
 ·exact .inl (.inr ⟨o,e _ _ (hne h (fun _ z=>by cases z)) h⟩)
 ·exact .inr h
theorem dg.refl:dg K H H:=⟨fun _ _ h=>h,fun _ _ _ h=>h⟩
theorem dg.trans{H1 H2:Hp}(a:dg K H H1)(b:dg K H1 H2):dg K H H2:=⟨fun p xs h=>b p xs (a p xs h),fun c o u h=>b.z c o u (a.z c o u h)⟩
theorem fj.new{p:Addr}{xs:List V}:fj K (eJ H p (.tup xs)) p xs:=fj.of cO
theorem P6{pos:Pos}(h:∃u,X.mg x=some u/\cf v u)(hg:Gl X x:=by rfl)(hd:(x==("__debug__":Str))=false:=by decide):PE X (.Name x pos) (tC v):=by
 obtain⟨u,a,b⟩:=h
 exact HH hg a b hd
section
variable{o:Expr}{to:TE}{t:TA}{id:String}{r:V->List V->Hp->VK->Prop}
def UR(r:V->List V->Hp->VK->Prop)(to:TE)(t:TA):TE:=fun σ H Q=>to σ H fun x H1=>(∃l ys,x=.ref l/\H1 l=some (.lst ys))/\t σ H1 fun xs H2=>r x xs H2 Q
def US(r:V->List V->Hp->VK->Prop)(to:TE)(t:TA):TE:=fun σ H Q=>to σ H fun x H1=>(∃l,x=.str (tx l))/\t σ H1 fun xs H2=>r x xs H2 Q
theorem EB{x:V}(h:∃l ys,x=.ref l/\H l=some (.lst ys)):Sz K "list" x H:=by
 obtain⟨l,ys,rfl,h⟩:=h
 exact .inl ⟨rfl,_,.of h⟩
theorem Iu{x:V}(h:∃l,x=.str (tx l)):Sz K "str" x H:=by
 obtain⟨l,rfl⟩:=h
 exact rfl
theorem EC{ty:V->Hp->Prop}(Ul:∀x H,ty x H->Sz X.K T x H)(pa:PlainAttrs T)(slot:Slot T name id)(DW:typeOf (.builtin id)=pure (.type "method_descriptor"))(hm:HB X id r)(ho:PE X o to)(ha:PA X (e::es) t)
  (qU:attributeBase o name X.env (eval o X.env)=eval o X.env)
  (uU:((backTo gp (starEach (e::es) X.env)).all (fun x=>!x.1)&&(backToKw gp (keywordEach [] X.env)).all (fun x=>x.1.isSome)
   && decide ((e::es).length+([]:List Keyword).length+(if ([]:List Keyword).isEmpty then 0 else 1)<30))=true)
  (qR:(kL.endLine==gp.line)=true) (hs:starEach (e::es) X.env=(false,eval e X.env)::starEach es X.env) (nr:(backTo gp (starEach es X.env)).any (·.1)=false) :
  PE X (.Call (.Attribute o name kL) (e::es) [] gp) (fun σ H Q=>to σ H fun x H1=>ty x H1/\t σ H1 fun xs H2=>r x xs H2 Q):=by
 intro af s σ H Q I h
 refine wpAny_Call_method_late qU uU qR rfl (hW (ho af s σ H _ I h) fun v s1 ⟨x,H1,I1,r1,ty,q1⟩=>?_)
 obtain⟨h1,h2⟩:=MR I1 r1 (Ul _ _ ty)
 refine⟨T,id,pa,slot,DW,h1,h2,?_⟩
 have hA:=ha gp af s1 σ H1 _ I1 q1
 rw[hs]at hA ⊢
 refine Calls.callWith_builtin (by show(false||(backTo gp (starEach es X.env)).any (·.1))=false;rw[nr]<;>rfl) (Calls.evalArgs_plain ?_)
 exact hW hA fun us s2 ⟨vs,H2,I2,r2,q2⟩=>hm af s2 σ H2 x vs v us Q I2 r1 r2 q2
theorem P8(slot:Slot "list" name id)(DW:typeOf (.builtin id)=pure (.type "method_descriptor"))(hm:HB X id r)(ho:PE X o to)(ha:PA X (e::es) t)
  (qU:attributeBase o name X.env (eval o X.env)=eval o X.env:=by rfl)
  (uU:((backTo gp (starEach (e::es) X.env)).all (fun x=>!x.1)&&(backToKw gp (keywordEach [] X.env)).all (fun x=>x.1.isSome)
   && decide ((e::es).length+([]:List Keyword).length+(if ([]:List Keyword).isEmpty then 0 else 1)<30))=true:=by rfl)
  (qR:(kL.endLine==gp.line)=true:=by rfl) (hs:starEach (e::es) X.env=(false,eval e X.env)::starEach es X.env:=by rfl) (nr:(backTo gp (starEach es X.env)).any (·.1)=false:=by rfl) :
  PE X (.Call (.Attribute o name kL) (e::es) [] gp) (UR r to t):=EC (ty:=fun x H1=>∃l ys,x=.ref l/\H1 l=some (.lst ys)) (fun _ _ h=>EB h) F.plainAttrs_list slot DW hm ho ha qU uU qR hs nr
theorem P9(slot:Slot "str" name id)(DW:typeOf (.builtin id)=pure (.type "method_descriptor"))(hm:HB X id r)(ho:PE X o to)(ha:PA X (e::es) t)
  (qU:attributeBase o name X.env (eval o X.env)=eval o X.env:=by rfl)
  (uU:((backTo gp (starEach (e::es) X.env)).all (fun x=>!x.1)&&(backToKw gp (keywordEach [] X.env)).all (fun x=>x.1.isSome)
   && decide ((e::es).length+([]:List Keyword).length+(if ([]:List Keyword).isEmpty then 0 else 1)<30))=true:=by rfl)
  (qR:(kL.endLine==gp.line)=true:=by rfl) (hs:starEach (e::es) X.env=(false,eval e X.env)::starEach es X.env:=by rfl) (nr:(backTo gp (starEach es X.env)).any (·.1)=false:=by rfl) :
  PE X (.Call (.Attribute o name kL) (e::es) [] gp) (US r to t):=EC (ty:=fun x H1=>∃l,x=.str (tx l)) (fun _ _ h=>Iu h) F.plainAttrs_str slot DW hm ho ha qU uU qR hs nr
end
section
variable{t:TA}
def P_(t:TA):TE:=fun σ H Q=>t σ H fun xs H1=>xs.length<=sizeLine/\∀p H2,H1 p=none->H2=eJ H1 p (.tup xs)->Q (.ref p) H2
def P'(t:TA):TE:=fun σ H Q=>t σ H fun xs H1=>xs.length<=sizeLine/\∀p H2,H1 p=none->H2=eJ H1 p (.lst xs)->Q (.ref p) H2
theorem Iv{x1}(h:PA X es t):PE X (.Tuple es x1 pos) (P_ t):=by
 intro af s σ H Q I hq
 refine wpAny_Tuple_spliced (hW (h pos af s σ H _ I hq) fun us s1 ⟨xs,H1,I1,r,z,q⟩=>⟨by rw[<- r.length];exact z,?_⟩)
 have hf:H1 s1.heap.objs.size=none:=I1.hok.fresh (au _)
 refine⟨.ref s1.heap.objs.size,eJ H1 s1.heap.objs.size (.tup xs),I1.laid (t':=s1.toks) (fun b u e=>aj _ e) (au _) ?_,rfl,q _ _ hf rfl⟩
 exact⟨z,us,r,⟨_,aq _ rfl,rfl,_,rfl⟩⟩
theorem Iw(h:PA X es t):PE X (.List es pos) (P' t):=by
 intro af s σ H Q I hq
 refine wpAny_List_spliced (hW (h pos af s σ H _ I hq) fun us s1 ⟨xs,H1,I1,r,z,q⟩=>⟨by rw[<- r.length];exact z,?_⟩)
 have hf:H1 s1.heap.objs.size=none:=I1.hok.fresh (au _)
 refine⟨.ref s1.heap.objs.size,eJ H1 s1.heap.objs.size (.lst xs),I1.laid (t':=s1.toks) (fun b u e=>aj _ e) (au _) ?_,rfl,q _ _ hf rfl⟩
 exact⟨z,us,0,r,aq _ rfl⟩
theorem HB.imp{id:String}{r r':V->List V->Hp->VK->Prop}(h:HB X id r)(i:∀x xs H Q,r' x xs H Q->r x xs H Q):HB X id r':=fun af s σ H x xs v us Q I rx rv q=>h af s σ H x xs v us Q I rx rv (i _ _ _ _ q)
theorem kC.imp{f:Value}{r r':List V->Hp->VK->Prop}(h:kC X f r)(i:∀xs H Q,r' xs H Q->r xs H Q):kC X f r':=fun af s σ H xs us Q I rv q=>h af s σ H xs us Q I rv (i _ _ _ q)
theorem l7.imp{f:Value->Value->Sem Value}{r r':R2}(h:l7 X f r)(i:∀x y H Q,r' x y H Q->r x y H Q):l7 X f r':=fun af s σ H x y v u Q I rx ry q=>h af s σ H x y v u Q I rx ry (i _ _ _ _ q)
def ED:V->List V->Hp->VK->Prop:=fun x vs H Q=>∃l xs y,x=.ref l/\vs=[y]/\H l=some (.lst xs)/\xs.length<sizeLine/\∀H2,H2=eJ H l (.lst (xs++[y]))->Q .non H2
theorem Al:HB X "list.append" ED:=HB.imp (r:=Bd) CB fun _ _ _ _ ⟨l,xs,y,a,b,c,d,q⟩=>⟨l,xs,y,a,b,c,d,q _ rfl⟩
def EE(K:Frag):List V->Hp->VK->Prop:=fun xs H Q=>∃p ys,xs=[.ref p]/\nG K H p ys/\∀l H2,H l=none->H2=eJ H l (.tup ys)->Q (.ref l) H2
theorem yf:kC X (.type "tuple") (EE X.K):=kC.imp uZ fun _ _ _ ⟨p,ys,a,b,q⟩=>⟨p,ys,a,.inl ⟨b,fun l hl=>q l _ hl rfl⟩⟩
def Qa:R2:=fun x y H Q=>∃l b xs zs,x=.ref l/\y=.ref b/\H l=some (.lst xs)/\H b=some (.lst zs)/\xs.length+zs.length<=sizeLine/\∀p H2,H p=none->H2=eJ H p (.lst (xs++zs))->Q (.ref p) H2
theorem Iy:l7 X (binaryOp .Add) Qa:=l7.imp MS fun _ _ _ _ ⟨l,b,xs,zs,h1,h2,h3,h4,h5,q⟩=>⟨l,b,xs,zs,h1,h2,h3,h4,h5,fun p hp=>q p _ hp rfl⟩
end
def EF(T:String):Prop:=T="tuple"\/T="bool"\/T="int"\/T="str"
end L2
namespace L2
end L2
namespace L2
open PySem PySem.Spec PyProof.Rows
inductive CS:List Expr->List Str->Prop where
 |nil:CS [] []
 |cons {x:Str} {j:Nat} {p:Pos} {r:List Expr} {zs:List Str}:CS r zs->CS (.Constant (.str x) j p::r) (x::zs)
def Qb(zs:List Str):TA:=fun _ H Q=>Q (zs.map V.str) H
theorem Iz{X:Cx}{zs:List Str}(h:CS es zs):PA X es (Qb zs):=by
 induction h with
 |nil=>exact wj
 |@cons x j p r zs _ ih=>
  intro pos af s σ H Q I hq
  exact mW (X:=X) (D_ (X:=X) (x:=x) (j:=j) (pos:=p)) ih (by rfl) pos af s σ H Q I hq
structure QE(X:Cx)(e:Expr)(t:TE):Prop where
 h:PE X e t
structure QA(X:Cx)(es:List Expr)(t:TA):Prop where
 h:PA X es t
structure QS(X:Cx)(s:Stmt)(t:TS):Prop where
 h:PS X s t
structure QG(X:Cx)(e:Expr)(t:TG):Prop where
 h:PG X e t
structure QI(X:Cx)(tg it:Expr)(t:TI):Prop where
 h:PI X tg it t
structure Qc(X:Cx)(es:List Expr)(t:TT):Prop where
 h:Ev X es t
structure Up(X:Cx)(f:Value->Value->Sem Value)(r:R2):Prop where
 h:l7 X f r
structure KD(X:Cx)(f:Value)(r:List V->Hp->VK->Prop):Prop where
 h:kC X f r
section
variable{a b o:Expr}{ta tb tc to:TE}{t u:TA}{tA Uh:TT}{dQ:List Expr}
theorem Bh:Up X (binaryOp .LShift) (rI MC fun i j=>.int (i*2^j.toNat)):=⟨Ei⟩
variable{st:Stmt}{sr:List Stmt}{ts us:TS}{g:TG}
end
section
variable{g:TG}{tb:TS}{tA:TT}
end
def cv(env:Env):List (Str×NameKind)->List (Str×Addr)->List (Str×Addr)
 |[],cs=>cs
 |(n,k)::r,cs=>cv env r (if k==.free then(n,(env.cells.lookup n).getD 0)::cs else cs)
theorem EG(h:∀x∈scope.names,x.2=.free->∃c,env.cells.lookup x.1=some c):closureFor scope env=pure (cv env scope.names []):=by
 unfold closureFor
 have key:∀(ns:List (Str×NameKind)) (cs:List (Str×Addr)),(∀x∈ns,x.2=.free->∃c,env.cells.lookup x.1=some c) ->
   (forIn ns cs fun(x:Str×NameKind) (r:List (Str×Addr))=>if (x.2==NameKind.free)=true then(do let a <- cellOf env x.1;pure (ForInStep.yield ((x.1,a)::r)))else(pure (ForInStep.yield r):Sem _))=pure (cv env ns cs):=by
  intro ns
  induction ns with
  |nil=>intro cs _;rfl
  |cons y r ih=>
   intro cs hc
   obtain⟨n,k⟩:=y
   rw[fT]
   have ihr:=fun cs=>ih cs fun x hx=>hc x (aD _ hx)
   by_cases hk:(k==NameKind.free)=true
   ·obtain⟨c,e⟩:=hc (n,k) aS (jM hk)
    have e2:cellOf env n=pure c:=by unfold cellOf;rw[e]
    show((if (k==NameKind.free)=true then _ else _) >>= _)=pure (cv env r (if (k==NameKind.free)=true then _ else _))
    rw[av hk,av hk,e2]
    simp only[pure_bind]
    have e3:(env.cells.lookup n).getD 0=c:=by rw[show env.cells.lookup n=some c from e];rfl
    rw[e3]
    exact ihr _
   ·show((if (k==NameKind.free)=true then _ else _) >>= _)=pure (cv env r (if (k==NameKind.free)=true then _ else _))
    rw[az hk,az hk]
    simp only[pure_bind]
    exact ihr _
 have:=key scope.names [] h
 dsimp only
 rw[this];simp only[pure_bind]
theorem mq:∀(ns:List (Str×NameKind)) (cs:List (Str×Addr)),(∀x∈ns,x.2=.free->∃c,env.cells.lookup x.1=some c)->(∀y∈cs,env.cells.lookup y.1=some y.2)->∀y∈cv env ns cs,env.cells.lookup y.1=some y.2
 |[],cs,_,h=>h
 |(n,k)::r,cs,hf,h=>by
  refine mq r _ (fun x hx=>hf x (aD _ hx)) ?_
  by_cases hk:(k==NameKind.free)=true
  ·rw[av hk]
   intro y hy
   rcases aG.mp hy with rfl|hy
   ·obtain⟨c,e⟩:=hf (n,k) aS (jM hk)
    show env.cells.lookup n=some ((env.cells.lookup n).getD 0)
    rw[show env.cells.lookup n=some c from e];rfl
   ·exact h y hy
  ·rw[az hk];exact h
theorem tO:∀(ns:List (Str×NameKind)) (cs:List (Str×Addr)) (y:Str×Addr),y∈cs->y∈cv env ns cs
 |[],_,_,h=>h
 |(n,k)::r,cs,y,h=>by
  refine tO r _ y ?_
  split
  ·exact aD _ h
  ·exact h
theorem pP{env:Env}:∀(ns:List (Str×NameKind)) (cs:List (Str×Addr)) (x:Str),(x,NameKind.free)∈ns->∃c,(x,c)∈cv env ns cs
 |[],_,_,h=>by simp at h
 |(n,k)::r,cs,x,h=>by
  rcases aG.mp h with e|h
  ·obtain⟨e1,e2⟩:=Prod.mk.inj e
   subst e1;subst e2
   exact⟨_,tO r _ (x,_) (by rw[av (by rfl:(NameKind.free==NameKind.free)=true)];exact aS)⟩
  ·exact pP r _ x h
theorem pQ:∀{l:List (Str×β)} {x:Str} {b:β},(x,b)∈l->∃c,l.lookup x=some c
 |(y,c)::r,x,b,h=>by
  rw[d7]
  cases hx:x==y with
  |true=>exact⟨c,rfl⟩
  |false=>
   rcases aG.mp h with e|h
   ·cases e;simp at hx
   ·exact pQ h
theorem oq{env:Env}{g:Str×NameKind->Bool}:∀{names:List (Str×NameKind)} {x:Str},names.lookup x=some .free ->
  (names.map fun y=>if g y then(y.1,NameKind.cell)else y).lookup x=some .cell\/(names.map fun y=>if g y then(y.1,NameKind.cell)else y).lookup x=some .free
 |[],_,h=>by simp at h
 |(n,k)::r,x,h=>by
  rw[d7]at h
  rw[aI]
  have e1:∀y:Str×NameKind,(if g y then(y.1,NameKind.cell)else y).1=y.1:=fun y=>by split<;>rfl
  have e2:∀(y:Str×NameKind) (l:List (Str×NameKind)),(y::l).lookup x=if (x==y.1)=true then some y.2 else l.lookup x:=fun y l=>by
   obtain⟨a,b⟩:=y
   rw[d7]
   cases x==a<;>rfl
  rw[e2,e1]
  cases hx:x==n with
  |true=>
   rw[hx]at h
   cases h
   rw[av rfl]
   by_cases hg:g (n,.free)=true
   ·rw[av hg];exact .inl rfl
   ·rw[az hg];exact .inr rfl
  |false=>
   rw[hx]at h
   rw[az (by exact bK)]
   exact oq (env:=env) h
def tP(dn:List (Str×NameKind))(sn:List (Str×NameKind))(nm:List Str)(cap:List (Option Nat))(N:List Str):Bool:=
 (sn.all fun x=>!(x.2==.local)||sn.lookup x.1==some .local)&&(sn.all fun y=>!(y.2==.cell))&&(sn.all fun x=>!(x.2==.free)||dn.lookup x.1==some .cell)&&(cap.length==nm.length) &&
 ((List.range cap.length).all fun i=>match cap[i]? with
  |some (some j)=>(match nm[i]?,N[j]? with
   |some x,some y=>x==y&&dn.lookup x==some .cell&&sn.lookup x==some .free
   |_,_=>false)
  |_=>true)
structure TJ(X:Cx)(scope:Scope)(nm:List Str)(cap:List (Option Nat)):Prop where
 clos:closureFor scope X.env=pure (cv X.env scope.names [])
 cl:∀x c,(cv X.env scope.names []).lookup x=some c->X.env.cells.lookup x=some c
 nms:∀x∈scope.names,x.2=.local->scope.names.lookup x.1=some .local
 cell:∀y∈scope.names,y.2≠.cell
 has:∀x,((relabel scope X.env).names.lookup x=some .cell\/(relabel scope X.env).names.lookup x=some .free)->∃c,(cv X.env scope.names []).lookup x=some c
 cp:∀(i j:Nat),cap[i]?=some (some j)->∃x,nm[i]?=some x/\X.N[j]?=some x/\tM X scope (cv X.env scope.names []) x
 len:cap.length=nm.length
theorem M0{nm:List Str}{cap:List (Option Nat)}(hf:∀x,X.env.scope.names.lookup x=some .cell->∃c,X.env.cells.lookup x=some c)(hB:tP X.env.scope.names scope.names nm cap X.N=true):TJ X scope nm cap:=by
 simp only[tP,bA,fE,nQ,fZ,gJ,bx]at hB
 obtain⟨⟨⟨⟨b1,b2⟩,b3⟩,b4⟩,b5⟩:=hB
 have has:∀x∈scope.names,x.2=.free->∃c,X.env.cells.lookup x.1=some c:=fun x hx hk=>by
  rcases b3 x hx with z|z
  ·exact absurd hk z
  ·exact hf _ z
 have mh:∀x c,(cv X.env scope.names []).lookup x=some c->X.env.cells.lookup x=some c:=fun x c h=>mq scope.names [] has (by simp) (x,c) (dU h)
 have hin:∀x,(x,NameKind.free)∈scope.names->∃c,(cv X.env scope.names []).lookup x=some c:=fun x h=>let ⟨_,q⟩:=pP (env:=X.env) scope.names [] x h;pQ q
 have hmap:(relabel scope X.env).names=scope.names.map fun y=>if (y.2==.free&&X.env.scope.kind==.function&&X.env.kindOf y.1==some .cell)then(y.1,NameKind.cell)else y:=by
  show scope.names.map _=_
  refine bO fun y _=>?_
  obtain⟨a,b⟩:=y
  rfl
 have fr:∀x,((relabel scope X.env).names.lookup x=some .cell\/(relabel scope X.env).names.lookup x=some .free)->(x,NameKind.free)∈scope.names:=fun x h=>by
  have h':∃k,(x,k)∈(relabel scope X.env).names/\(k=.cell\/k=.free):=by
   rcases h with h|h
   ·exact⟨_,dU h,.inl rfl⟩
   ·exact⟨_,dU h,.inr rfl⟩
  obtain⟨k,hm,hk⟩:=h'
  rw[hmap]at hm
  obtain⟨y,hy,e⟩:=aJ.mp hm
  obtain⟨a,b⟩:=y
  by_cases hb:b=.free
  ·subst hb
   have:a=x:=by split at e<;>(cases e;rfl)
   subst this;exact hy
  ·rw[az (by simp[hb])]at e
   cases e
   rcases hk with rfl|rfl
   ·exact absurd rfl (b2 _ hy)
   ·exact absurd rfl hb
 refine⟨EG has,mh,fun x hx hk=>(b1 x hx).resolve_left fun z=>z hk,fun y hy=>b2 y hy,fun x hx=>hin x (fr x hx),fun i j e=>?_,b4⟩
 have hi':i<cap.length:=(ao.mp e).1
 have q:=b5 i (bI.mpr hi')
 rw[e]at q
 dsimp only at q
 cases hx:nm[i]? with
 |none=>rw[hx]at q;simp at q
 |some x=>
  cases hy:X.N[j]? with
  |none=>rw[hx,hy]at q;simp at q
  |some y=>
   rw[hx,hy]at q
   simp only[bA,gJ]at q
   obtain⟨⟨rfl,q1⟩,q2⟩:=q
   refine⟨x,rfl,rfl,.inr (.inl q1),(by rw[q1];decide),?_,?_⟩
   ·obtain⟨c,hc⟩:=hin x (dU q2)
    rw[hc,mh _ _ hc]
   ·rw[hmap];exact oq (env:=X.env) q2
theorem M1{pos:Pos}{g:TG}(fC:X.calm=true)
  (gE:X.env.cells=cellsFrom m X.env.scope.names []) (ef:scope.kind=.function) (hB:tP X.env.scope.names scope.names nm cap X.N=true)
  (hi:QI X tg b9 wi) (hg:∀cl C s0 H0 fp,QG (bV X nm scope cl C s0 H0 fp) tg g) (ht:∀cl C s0 H0 fp,Qc (bV X nm scope cl C s0 H0 fp) jb tc)
  (he:∀cl C s0 H0 fp,QE (bV X nm scope cl C s0 H0 fp) km te) (hs:∀x,foldedSetIterable b9 X.env x=pure x:=by intro _;rfl) :
  QE X (.ListComp km [⟨tg,b9,jb,0⟩] scope pos) (pw cap wi g tc te):=by
 have F:=M0 (nm:=nm) (cap:=cap) (fun x z=>by rw[gE];exact hZ z) hB
 exact⟨Bf fC F.clos F.cl ef F.nms F.cell F.has F.cp F.len hi.h (fun C s0 H0 fp=>(hg _ C s0 H0 fp).h) (fun C s0 H0 fp=>(ht _ C s0 H0 fp).h) (fun C s0 H0 fp=>(he _ C s0 H0 fp).h) hs⟩
def IA(K:Frag):List V->Hp->VK->Prop:=fun xs H Q=>∃(p:Addr) (ys:List (List Nat)),xs=[.ref p]/\nG K H p (ys.map fun l=>V.str (tx l))/\ys.length<64 /\
 ∀zs:List (List Nat),zs.Perm ys->sortedS (zs.map tx)=true->∀l H2,H l=none->H2=eJ H l (.lst (zs.map fun l=>V.str (tx l)))->Q (.ref l) H2
theorem Bi(z:Str):tx z.cps.toList=z:=by cases z;rfl
theorem u3:KD X (.builtin "sorted") (IA X.K):=⟨by
 intro af s σ H xs us Q I r h
 obtain⟨p,ys,rfl,hS,h64,q⟩:=h
 obtain⟨u,rfl,ru⟩:=pq r
 cases ru
 obtain⟨its,rv,pl,hz⟩:=I.list hS
 have hl:=rv.length
 rw[am]at hl
 refine sorted_strs (ss:=ys.map tx) pl.isList (pO (by simpa using rv)) (by omega) fun out ss' h1 h2 h3=>?_
 obtain⟨ep,hat⟩:=sortedAll_at s.heap its out
 have sF:H (s.heap.objs.size+1)=none:=I.hok.fresh (i8 _)
 have hmap:(ss'.map fun z=>z.cps.toList).map tx=ss':=by
  rw[aM]
  have:(tx∘fun z:Str=>z.cps.toList)=id:=funext fun z=>Bi z
  rw[this,j']
 have hperm:(ss'.map fun z=>z.cps.toList).Perm ys:=by
  have e:=h2.map fun z:Str=>z.cps.toList
  rw[aM]at e
  have:((fun z:Str=>z.cps.toList)∘tx)=id:=funext fun l=>by simp[tx]
  rw[this,j']at e
  exact e
 have hvals:cA ((ss'.map fun z=>z.cps.toList).map fun l=>V.str (tx l)) out.toList:=by
  have e:=mY h1
  rw[<- hmap,aM]at e
  exact e
 refine⟨.ref (s.heap.objs.size+1),_,I.laid (t':=s.toks) (fun b o e=>sortedAll_old e) (i8 _) ?_,rfl,q _ hperm (by rw[hmap];exact h3) _ _ sF rfl⟩
 refine⟨?_,out.toList,ep,hvals,hat⟩
 rw[am,hperm.length_eq]
 exact bd (dH h64) (by decide)⟩
section
variable{w:World}
theorem gU{t:Addr}{its:Array Value}{x:Value}(st:s.heap.IsTupleIter it t i)(ht:s.heap.IsTuple t its)(hx:its[i]?=some x)
  (q:∀g,g.IsTupleIter it t (i+1)->Heap.SameBut it s.heap g->Q x { s with heap:=g }):wpAny (model prog w) A (Builtin.SmallTypes.nextOf (.ref it)) Q E s:=by
 obtain⟨ob,e1,e2,e3⟩:=id st
 obtain⟨ot,g1,_,nt,g3⟩:=ht
 have T:=st.typeIs
 unfold Builtin.SmallTypes.nextOf
 refine aa (bt (name:=Str.ofString "__next__") T fJ (bp fJ T kM ?_ (kt _)))
 show wpAny _ _ (field (.ref it) 0 >>= _) _ _ s
 refine aa (bS e1 e3 (x:=.ref t) rfl ?_)
 dsimp only
 rw[az (show ¬ ((Value.ref t==Value.none)=true)from bK)]
 refine aa (bS e1 e3 (x:=.int i 0) rfl ?_)
 dsimp only
 refine aa (bB g1 g3 ?_)
 simp only[aB,hx]
 refine aa (ly e1 e3 (by simp) (ae ⟨x,rfl,ae (q _ ?_ (dP ..))⟩))
 exact⟨_,de _ e1 (nZ (i3 e3 _)),(Obj.cls_mapFields ..).trans e2,by rw[i3 e3];simp[rawInt]⟩
theorem kH{t:Addr}{its:Array Value}(hh:A.handled=none)(st:s.heap.IsTupleIter it t i)(ht:s.heap.IsTuple t its)(hx:its[i]?=none)
  (q:∀g e,Heap.ExtBut it s.heap g->(∃o,g.get? e=some o/\o.cls=.type "StopIteration")->E (.ref e) { s with heap:=g }):wpAny (model prog w) A (Builtin.SmallTypes.nextOf (.ref it)) Q E s:=by
 obtain⟨ob,e1,e2,e3⟩:=id st
 obtain⟨ot,g1,_,nt,g3⟩:=ht
 have T:=st.typeIs
 unfold Builtin.SmallTypes.nextOf
 refine aa (bt (name:=Str.ofString "__next__") T fJ (bp fJ T kM ?_ (kt _)))
 show wpAny _ _ (field (.ref it) 0 >>= _) _ _ s
 refine aa (bS e1 e3 (x:=.ref t) rfl ?_)
 dsimp only
 rw[az (show ¬ ((Value.ref t==Value.none)=true)from bK)]
 refine aa (bS e1 e3 (x:=.int i 0) rfl ?_)
 dsimp only
 refine aa (bB g1 g3 ?_)
 simp only[aB,hx]
 refine aa (fK (aa (ly e1 e3 (by simp) (aa ?_))))
 simp only[newExc,newTuple]
 refine aa (bJ (aa (m:=firstArgMember _ _) (lW (a:=Value.none) (by first|rfl|(simp only[firstArgMember];rfl)) (bJ ?_ (by size_fits)))) (by size_fits))
 simp only[raiseNew]
 refine aa (pL ?_)
 rw[show A.in1.handled=none from hh]
 exact aa (ae (wpAny_throw (q _ _ (((dP ..).extBut.push _).push _) ⟨_,aq _ rfl,rfl⟩)))
end
open AutoSeq1 (wpAny_loadPart')
open AutoSeq1 (wpAny_loadPart')
abbrev oQ(t:Addr):Obj:={ cls:=.type "tuple_iterator",data:=.fields #[.ref t,.int 0 0] }
section
variable{w:World}
end
section
end
section
variable{g:TG}{H1:Hp}{Q:VK}
end
theorem vy:∀(p:Nat) (m:List Nat),risingS (tx [p]) (m.map fun c=>tx [c])=true->(∀c∈m,p<=c)/\m.Pairwise (· <= ·)
 |p,[],_=>⟨fun c h=>by simp at h,.nil⟩
 |p,c::r,h=>by
  have h':(!ltCps (tx [c]).cps.toList (tx [p]).cps.toList&&risingS (tx [c]) (r.map fun c=>tx [c]))=true:=h
  rw[bA]at h'
  obtain⟨a,b⟩:=h'
  obtain⟨b1,b2⟩:=vy c r b
  have hpc:p<=c:=by
   rw[ltCps_eq]at a
   have a':(!decide ([c]<[p]))=true:=a
   have:=of_decide_eq_false (fZ _▸a')
   rcases jp c p with z|z
   ·exact absurd (List.Lex.rel z) this
   ·exact z
  refine⟨fun x hx=>?_,bM.mpr ⟨b1,b2⟩⟩
  rcases aG.mp hx with rfl|hx
  ·exact hpc
  ·exact bd hpc (b1 x hx)
theorem yg:∀(m:List Nat),sortedS ((m.map fun c=>[c]).map tx)=true->m.Pairwise (· <= ·)
 |[],_=>.nil
 |c::r,h=>by
  have h':risingS (tx [c]) ((r.map fun c=>[c]).map tx)=true:=h
  rw[aM]at h'
  obtain⟨a,b⟩:=vy c r h'
  exact bM.mpr ⟨a,b⟩
theorem eK:Slot "set_iterator" "__next__" "set_iterator.__next__":=.of (owner:="set_iterator") (n:="__next__") (by rw[ku,gW];kernel_rfl) (by decide +kernel) (by decide +kernel) (by decide +kernel) (by first|exact .inl (by decide +kernel)|exact .inr (by decide +kernel)) (by rw[dN];kernel_rfl)
theorem lL:entryFor table "set_iterator.__next__"=some Builtin.«set_iterator.__next__»:=entryFor_of_tree (by kernel_rfl)
theorem lM(a:Value):argsOk "set_iterator.__next__" ⟨[a],[]⟩:=by unfold argsOk;kernel_rfl
theorem yh:entryFor table "set.__iter__"=some Builtin.«frozenset.__iter__»:=entryFor_alias (id':="frozenset.__iter__") (by kernel_rfl) (by first|rfl|decide +kernel|(unfold String.splitOn;simp +decide [String.splitOnAux])) (by decide +kernel) (by kernel_rfl)
def sJ(w:World):Bool:=w.params.followText "set-order"
def Bj(w:World)(n:Nat)(t:SetTable):Prop:=(sJ w=true\/t.led=true)/\(n=0\/t.plain=false)
theorem CO(t:SetTable)(es:Array (Int×Value))(h:Int)(x:Value):(layNew t es h x).2.1.led=t.led/\(t.plain=false->(layNew t es h x).2.1.plain=false):=by
 unfold layNew
 split
 ·dsimp only
  unfold SetTable.orStandIn
  split
  ·exact⟨rfl,fun z=>z⟩
  ·exact⟨rfl,fun _=>rfl⟩
 ·exact⟨rfl,fun _=>rfl⟩
theorem ww{t t':SetTable}{hs:Array Int}{o:Array Nat}(h:t.relaid hs n=some (t',o)):t'.led=t.led/\t'.plain=t.plain:=by
 unfold SetTable.relaid SetTable.laid at h
 cases hc:SetTable.layClean (SetTable.sizeAbove n-1) hs with
 |none=>rw[hc]at h;cases h
 |some ow=>
  rw[hc]at h
  have h':=a9 h
  obtain⟨a,_⟩:=Prod.mk.inj h'
  subst a
  exact⟨rfl,rfl⟩
theorem yi(t:SetTable)(es:Array (Int×Value))(n:Nat):(relayAll t es n).2.1.led=t.led/\(t.plain=false->(relayAll t es n).2.1.plain=false):=by
 unfold relayAll
 split
 ·rename_i t' o he
  obtain⟨a,b⟩:=ww he
  dsimp only
  split
  ·exact⟨a,fun z=>b.trans z⟩
  ·exact⟨rfl,fun _=>rfl⟩
 ·exact⟨rfl,fun _=>rfl⟩
section
variable{w:World}
def yj(prog:Program)(w:World)(h:Heap)(a:Addr)(ks:List Str):Prop:=
 ∃o es ep t,h.get? a=some o/\o.ExactSet/\o.data=.set es ep t/\ElemsOf (PySem.strKind prog w) es.toList/\(es.toList.map fun e=>strOf e.2).Perm ks/\es.size<scanBound/\t.fits es.size=true/\Bj w es.size t
theorem yk{l:List (Int×Value)}(h:ElemsOf (PySem.strKind prog w) l):∀e∈l,∃t,e.2=.str (strOf e.2) t:=fun e he=>by
 obtain⟨⟨k,hk,_⟩,_⟩:=h e he
 obtain⟨t,ht⟩:=kF hk
 exact⟨t,by rw[ht];rfl⟩
theorem vz{k:Str}{e:Int×Value}{l:List (Int×Value)}(h:ElemsOf (PySem.strKind prog w) l)(he:e∈l):(PySem.strKind prog w).is k e.2=true↔k=strOf e.2:=by
 obtain⟨t,ht⟩:=yk h e he
 constructor
 ·intro z
  obtain⟨u,hu⟩:=kF z
  rw[hu];rfl
 ·intro z
  show Value.isStrOf k e.2=true
  rw[ht,z]
  show Value.isStrOf (strOf e.2) (.str (strOf e.2) t)=true
  unfold Value.isStrOf;simp
theorem yj.keep{ks:List Str}(z:yj prog w h a ks)(k:∀o,h.get? a=some o->h'.get? a=some o):yj prog w h' a ks:=let ⟨o,es,ep,t,ho,r⟩:=z;⟨o,es,ep,t,k o ho,r⟩
theorem IB{ks:List Str}{tk:Tok}{Q:Bool->Shared->Prop}(z:yj prog w s.heap a ks)(UD:ks.length+1<scanBound)
  (q:∀b g,Heap.SameBut a s.heap g->yj prog w g a (if x∈ks then ks else ks++[x])->Q b { s with heap:=g }):wpAny (model prog w) A (setAddHashed a (.str x tk) ((PySem.strKind prog w).hash x)) Q E s:=by
 obtain⟨o,es,ep,t,ho,xS,hd,hel,hp,hb,hf,D4⟩:=z
 have c_:es.size=ks.length:=by have:=hp.length_eq;simpa using this
 have hkey:(PySem.strKind prog w).is x (.str x tk)=true:=by show Value.isStrOf x (.str x tk)=true;unfold Value.isStrOf;simp
 have hsc:(Value.str x tk).scannable=true:=rfl
 unfold setAddHashed setAddHashedIn
 refine cx (aa (f6 ho hd hf ?_))
 dsimp only
 rw[byScan_of hsc hb hel,av rfl]
 unfold setAddByScan
 refine aa (aa (fK (aa (wpAny_setScan_of hkey ho hd hf hel ?_))))
 cases hr:List.findIdx? (fun e=>(PySem.strKind prog w).is x e.2) es.toList with
 |some j=>
  obtain⟨hj,hpj,_⟩:=List.findIdx?_eq_some_iff_getElem.mp hr
  have hin:x∈ks:=hp.mem_iff.mp (aJ.mpr ⟨es.toList[j],d_ hj,((vz hel (d_ hj)).mp hpj).symm⟩)
  refine ae (ae ?_)
  have e1:=q false s.heap (Heap.SameBut.refl a s.heap) (by rw[av hin];exact⟨o,es,ep,t,ho,xS,hd,hel,hp,hb,hf,D4⟩)
  exact e1
 |none=>
  have hin:¬ x∈ks:=fun hx=>by
   obtain⟨e,he,hxe⟩:=aJ.mp (hp.mem_iff.mpr hx)
   have y:=lI.mp hr e he
   rw[(vz hel he).mpr hxe.symm]at y
   cases y
  have q':=fun b g h1 h2=>q b g h1 (by rw[az hin];exact h2)
  dsimp only
  have lp:=layNew_perm t es ((PySem.strKind prog w).hash x) (.str x tk)
  have lf:=layNew_fits t es ((PySem.strKind prog w).hash x) (.str x tk)
  have lm:=CO t es ((PySem.strKind prog w).hash x) (.str x tk)
  generalize layNew t es ((PySem.strKind prog w).hash x) (.str x tk)=L at lp lf lm ⊢
  obtain⟨es1,t1,wd,gv⟩:=L
  dsimp only at lp lf lm ⊢
  rw[Array.toList_push]at lp
  have el1:ElemsOf (PySem.strKind prog w) es1.toList:=(hel.push hkey hsc).perm lp
  have sz1:es1.size=es.size+1:=by have:=lp.length_eq;simpa using this
  have b1:es1.size<scanBound:=by omega
  have p1:(es1.toList.map fun e=>strOf e.2).Perm (ks++[x]):=by
   have y:=lp.map fun e:Int×Value=>strOf e.2
   rw[bG]at y
   exact y.trans (hp.append_right _)
  have gw:∀(b:Bool) {s₁:Shared} {Q':Unit->Shared->Prop},Q' () s₁->wpAny (model prog w) A (match b with|true=>rule "set.scan.the-table-gave-way" | false=>pure ()) Q' E s₁:=fun b _ _ y=>by cases b<;>first|exact ae y|exact fK y
  refine aa (gw _ ?_)
  have lj:∀t2:SetTable,t2.fits es1.size=true->t2.led=t.led->t2.plain=false->wpAny (model prog w) A (do
    storeSet a es1 t2
    if (!wd&&t2.tooFull)=true then do
      (match (relayAll t2 es1 (SetTable.grown es1.size)).2.2 with|true=>rule "set.scan.the-table-gave-way" | false=>pure ())
      storeSet a (relayAll t2 es1 (SetTable.grown es1.size)).1 (relayAll t2 es1 (SetTable.grown es1.size)).2.1
      pure (some true)
     else pure (some true)) (fun r s'=>wpAny (model prog w) A (match r with|some added=>pure added|none=>setAddHashedIn a (.str x tk) ((PySem.strKind prog w).hash x) 99999) Q E s') E s:=by
   intro t2 f2 l2 n2
   have to2:Bj w es1.size t2:=⟨by rw[l2];exact D4.1,.inr n2⟩
   refine aa (wpAny_storeSet_of ho hd ?_ (fits_of_scanBound b1))
   have g1:(s.heap.update a (Obj.putSet es1 t2)).get? a=some { o with data:=.set es1 (ep+1) t2 }:=by
    have y:=de (Obj.putSet es1 t2) ho (by rw[rZ es1 t2 hd];rfl)
    rw[rZ es1 t2 hd]at y;exact y
   have sb:=dP s.heap a (Obj.putSet es1 t2)
   split
   ·have rp:=relayAll_perm t2 es1 (SetTable.grown es1.size)
    have rf:=relayAll_fits t2 es1 (SetTable.grown es1.size)
    have rm:=yi t2 es1 (SetTable.grown es1.size)
    generalize relayAll t2 es1 (SetTable.grown es1.size)=R at rp rf rm ⊢
    obtain⟨es2,t3,gv2⟩:=R
    dsimp only at rp rf rm ⊢
    have sz2:es2.size=es1.size:=by have:=rp.length_eq;simpa using this
    refine aa (gw _ (aa (wpAny_storeSet_of g1 rfl (ae (ae ?_)) (fits_of_scanBound (by omega)))))
    have g2:((s.heap.update a (Obj.putSet es1 t2)).update a (Obj.putSet es2 t3)).get? a=some { o with data:=.set es2 (ep+1+1) t3 }:=by
     have y:=de (Obj.putSet es2 t3) g1 (by rw[rZ es2 t3 rfl];rfl)
     rw[rZ es2 t3 rfl]at y;exact y
    refine q' true _ (sb.trans (dP _ a _)) ⟨_,es2,_,t3,g2,xS,rfl,el1.perm rp,?_,by omega,rf,?_⟩
    ·exact(rp.map fun e:Int×Value=>strOf e.2).trans p1
    ·exact⟨by rw[rm.1,l2];exact D4.1,.inr (rm.2 n2)⟩
   ·exact ae (ae (q' true _ sb ⟨_,es1,_,t2,g1,xS,rfl,el1,p1,b1,f2,to2⟩))
  by_cases mI:t1.plain=true
  ·rw[av mI,hashByValue_scannable 8 hsc]
   refine aa (ae ?_)
   exact lj { t1 with plain:=false } (SetTable.fits_plain_off lf) lm.1 rfl
  ·rw[az mI]
   refine aa (ae ?_)
   exact lj t1 lf lm.1 (by simpa using mI)
end
section
variable{w:World}{R:Result->Shared->Prop}{I:Addr}{wr:List Addr}{P:Nat->Value->Prop}{St:Nat->Heap->Prop}
def KF(prog:Program)(w:World)(val:Nat->Str)(h:Heap)(a:Addr)(i:Nat):Prop:=∃ks,yj prog w h a ks/\ks.Nodup/\(∀x,x∈ks↔∃j,j<i/\val j=x)/\ks.length<=i
theorem EH(W:Walks prog w A.in1 I fp wr n P St)(S:Addr)(UE:S∉fp)(val:Nat->Str)(zT:∀i v,P i v->∃t,v=.str (val i) t)(hb:n+1<scanBound) :
  ∀(k i:Nat) (s:Shared),n-i=k->i<=n->St i s.heap->KF prog w val s.heap S i ->
   (∀g tk,KF prog w val g S n->(∀b o,b≠S->b∉wr->s.heap.get? b=some o->g.get? b=some o)->R (.ok (.ret .none)) { s with heap:=g,toks:=tk }) ->
   codeAny (model prog w) A (.builtin "set.update.loop" ⟨[.ref S,.ref I],[]⟩) R s:=by
 have hSw:S∉wr:=fun h=>UE (W.sub _ h)
 intro k
 induction k with
 |zero=>
  intro i s hk hi st hM hR
  obtain rfl:i=n:=by omega
  refine dX iJ ?_
  rw[cR e_ _]
  show wpAny _ A.in1 (pyNext (.ref I) >>= _) _ _ s
  refine aa (W.done s _ _ st fun g tk kp=>ae (hR g tk ?_ fun b o _ hb e=>kp b o hb e))
  obtain⟨ks,z,r⟩:=hM
  exact⟨ks,z.keep fun o e=>kp S o hSw e,r⟩
 |succ k ih=>
  intro i s hk hi st hM hR
  have hlt:i<n:=by omega
  refine dX iJ ?_
  rw[cR e_ _]
  show wpAny _ A.in1 (pyNext (.ref I) >>= _) _ _ s
  refine aa (W.item i s _ _ hlt st fun v g tk hP bD kp=>?_)
  obtain⟨t,rfl⟩:=zT i v hP
  obtain⟨ks,z,nd,mem,len⟩:=hM
  have z':yj prog w g S ks:=z.keep fun o e=>kp S o hSw e
  refine aa (cx ?_)
  unfold setAdd
  refine cx (aa ((PySem.strKind prog w).pyHash (k:=val i) (show Value.isStrOf (val i) (.str (val i) t)=true by unfold Value.isStrOf;simp) ?_))
  refine IB (s:={ s with heap:=g,toks:=tk+1 }) z' (by omega) fun _ g2 sb z2=>?_
  refine ae ⟨ga e_ _,ih (i+1) _ (by omega) hlt (W.frame _ _ _ bD fun b hb o e=>?_) ?_ fun g3 tk3 hM3 kp3=>?_⟩
  ·rw[sb.2 b (fun h:b=S=>UE (by rw[<- h];exact hb))];exact e
  ·refine⟨_,z2,?_,fun x=>?_,?_⟩
   ·by_cases hx:val i∈ks
    ·rw[av hx];exact nd
    ·rw[az hx];exact f7.mpr ⟨nd,by simp,fun a ha b hb=>by rw[ba]at hb;subst hb;exact fun e=>hx (e▸ha)⟩
   ·by_cases hx:val i∈ks
    ·rw[av hx,mem x]
     constructor
     ·rintro⟨j,hj,e⟩;exact⟨j,by omega,e⟩
     ·rintro⟨j,hj,e⟩
      by_cases hji:j=i
      ·subst hji;subst e;exact(mem _).mp hx
      ·exact⟨j,by omega,e⟩
    ·rw[az hx,br,mem x,ba]
     constructor
     ·rintro(⟨j,hj,e⟩|e)
      ·exact⟨j,by omega,e⟩
      ·exact⟨i,by omega,e.symm⟩
     ·rintro⟨j,hj,e⟩
      by_cases hji:j=i
      ·subst hji;exact .inr e.symm
      ·exact .inl ⟨j,by omega,e⟩
   ·by_cases hx:val i∈ks
    ·rw[av hx];omega
    ·rw[az hx,aF,fL];omega
  ·exact hR g3 tk3 hM3 fun b o hb hw e=>kp3 b o hb hw ((sb.2 b hb).trans (kp b o hw e))
end
section
variable{w:World}
abbrev dD(w:World):Obj:={ cls:=.type "set",dict:=none,data:=.set #[] 0 (.fresh 0 0 (!sJ w)) }
theorem yl(a:Value)(h:Q₁ (.ref s.heap.objs.size) { s with heap:=s.heap.push (dD w) }) :
  codeAny (model prog w) A (.call (.builtin "set.__new__") ⟨[.type "set",a],[]⟩) (wants Q₁ E) s:=by
 refine nR ?_
 show wpAny _ A.in1 (do checkBuiltinCall "set.__new__" ⟨[.type "set",a],[]⟩;again (.builtin "set.__new__" ⟨[.type "set",a],[]⟩)) _ _ s
 refine aa (lW (PySem.F.newCall_set_1 a) (ae ⟨ga PySem.F.plain_set_new _,dX PySem.F.entry_set_new ?_⟩))
 rw[cR PySem.F.plain_set_new _]
 unfold Builtin.«set.__new__» Builtin.Frozenset.newClass
 have sb:=sub_set_self
 obtain⟨hp,g,d,tk,os⟩:=s
 dsimp only
 wp_walk
 refine mM (ae ?_)
 dsimp only
 simp only[newObj]
 exact aa (wpAny_alloc (ae (ae h)))
set_option maxHeartbeats 8000000 in
theorem l8{v:Value}{T:String}{Ta:Obj}{fp:Addr->List Addr}{n:Nat}{P:Nat->Value->Prop}{St:Addr->Nat->Heap->Prop}{val:Nat->Str}{Q:Value->Shared->Prop}(hT:Shared.TypeIs { s with heap:=s.heap.push (dD w) } v T)
  (n1:isSubtype (.type T) (.type "set")=pure false) (n2:isSubtype (.type T) (.type "frozenset")=pure false) (n3:(Value.type T==Value.type "dict")=false)
  (pk:∀(A:Around) (E:Value->Shared->Prop) (Q:Value->Shared->Prop),Q (.ref (s.heap.objs.size+1)) { s with heap:=(s.heap.push (dD w)).push Ta }->wpAny (model prog w) A (pyIter v) Q E { s with heap:=s.heap.push (dD w) })
  (W:∀(A:Around) (it:Addr),A.handled=none->it=s.heap.objs.size+1->Walks prog w A it (fp it) [it] n P (St it)) (So:s.heap.objs.size∉fp (s.heap.objs.size+1)) (st:St (s.heap.objs.size+1) 0 ((s.heap.push (dD w)).push Ta)) (zT:∀i v,P i v->∃t,v=.str (val i) t)
  (hh:A.handled=none) (hb:n+1<scanBound)
  (q:∀g tk,KF prog w val g s.heap.objs.size n->(∀b o,s.heap.get? b=some o->g.get? b=some o)->Q (.ref s.heap.objs.size) { s with heap:=g,toks:=tk }) :
  wpAny (model prog w) A (call (.type "set") [v]) Q E s:=by
 obtain⟨c,tl,hmro⟩:=PySem.F.called_set.mro
 have hmade:=PySem.F.called_set.made
 have ve:=PySem.F.called_set.sub
 refine nD (nR ?_)
 show wpAny _ _ (callAny (.type "set") _) _ _ _
 refine ae ⟨Code.quiet_builtin _ (by decide +kernel),dX PySem.F.entry_type_call ?_⟩
 rw[Around.under_plain (weight_type_call_type "set" [v] []) rfl]
 have h1:=PySem.F.called_set.notType
 have h2:=PySem.F.called_set.canCreate
 have Se:=PySem.F.typeCall_set_1 v
 repeat(any_goals (first|assumption|wp_step))
 refine gH (yl v (E:=E) (Q₁:=fun obj s₁=>obj=.ref s.heap.objs.size/\s₁={ s with heap:=s.heap.push (dD w) }) ⟨rfl,rfl⟩) fun r s₁ hr=>?_
 cases r with
 |error e=>exact hr
 |ok fl=>
  cases fl with
  |ret obj=>
   obtain⟨rfl,rfl⟩:=hr
   have gS:(s.heap.push (dD w)).get? s.heap.objs.size=some (dD w):=aq _ rfl
   have tS:Shared.TypeIs { s with heap:=s.heap.push (dD w) } (.ref s.heap.objs.size) "set":=⟨_,gS,rfl⟩
   have hli:=PySem.F.called_set.init.lookup
   have hbi:=PySem.F.called_set.init.bind (.ref s.heap.objs.size)
   repeat(any_goals (first|assumption|wp_step))
   refine gH (codeAny_call_builtin (R:=wants (fun r s₂=>r=.none/\∃g tk,s₂={ s with heap:=g,toks:=tk }/\KF prog w val g s.heap.objs.size n/\(∀b o,s.heap.get? b=some o->g.get? b=some o)) E) PySem.F.called_set.init.plain PySem.F.entry_set_init (check_set_init_1 tS ?_)) fun r₂ s₂ hr₂=>?_
   ·unfold Builtin.«set.__init__» noKeywords Builtin.Frozenset.updateFrom
    generalize hPI:pyIter=PI
    wp_walk
    subst hPI
    refine pk _ _ _ (aa (wpAny_runValue ?_))
    have g0:((s.heap.push (dD w)).push Ta).get? s.heap.objs.size=some (dD w):=aj _ gS
    have m0:KF prog w val ((s.heap.push (dD w)).push Ta) s.heap.objs.size 0:=⟨[],⟨_,#[],0,_,g0,⟨rfl,rfl,rfl⟩,rfl,fun e he=>by simp at he,by simp,by unfold scanBound;decide,rfl,?_⟩,ik,fun x=>by simp,au _⟩
    ·refine EH (W _ _ (by simpa using hh) rfl) s.heap.objs.size So val zT hb (n-0) 0 _ rfl (cQ _) st m0 fun g tk hM kp=>?_
     refine ae (ae ⟨rfl,g,tk,rfl,hM,fun b o e=>kp b o (aN (ax e)) (fun hbm=>?_) (aj _ (aj _ e))⟩)
     rw[ba]at hbm
     exact absurd (ax e) (by rw[hbm];exact gI.mpr (i8 _))
    ·refine⟨?_,.inl rfl⟩
     show sJ w=true\/(!sJ w)=true
     cases sJ w<;>simp
   ·cases r₂ with
    |error e=>exact hr₂
    |ok fl₂=>
     cases fl₂ with
     |ret r=>
      obtain⟨rfl,g,tk,rfl,hM,kp⟩:=hr₂
      repeat(any_goals (first|assumption|wp_step))
      exact q g tk hM kp
     |_=>exact hr₂.elim
  |_=>exact hr.elim
end
theorem pR:∀{l:List α} {i:Nat} (h:i<l.length),(l[i]::l.eraseIdx i).Perm l
 |x::r,0,_=>im _
 |x::r,i+1,h=>(List.Perm.swap x (r[i]'(by simpa using h)) (r.eraseIdx i)).trans ((pR (l:=r) (i:=i) (by simpa using h)).cons x)
section
theorem u4{U6:Source}{Q:Nat->Shared->Prop}(hn:n≠0)(h:∀i,i<n->∀d,Q i { s with drawn:=d }):wpAny M A (choose U6 n) Q E s:=fun _ _ _=>⟨hn,h _ (io _ (Nat.pos_of_ne_zero hn)) _⟩
theorem ym:∀(n:Nat) (xs:List α) (s:Shared) (Q:List α->Shared->Prop),xs.length=n->(∀ys,ys.Perm xs->∀d,Q ys { s with drawn:=d })->wpAny M A (drawOrder n xs) Q E s
 |0,xs,s,Q,hl,h=>by
  have e:xs=[]:=eN hl
  subst e
  unfold drawOrder
  exact ae (h [] (im _) s.drawn)
 |n+1,[],s,Q,hl,h=>by simp at hl
 |n+1,x::r,s,Q,hl,h=>by
  unfold drawOrder
  refine aa (u4 (by simp) fun i hi d=>?_)
  have e:(x::r)[i]?=some (x::r)[i]:=ar hi
  rw[e]
  dsimp only
  refine aa (ym n ((x::r).eraseIdx i) _ _ (by rw[List.length_eraseIdx,av hi];simp at hl ⊢;omega) fun ys hp d'=>ae (h _ ?_ d'))
  exact(List.Perm.cons _ hp).trans (pR hi)
theorem Bm(next:Nat->Nat):∀(Ku k:Nat) (zQ:List α) (out:Array α),zQ.length=Ku->(pickOrder.go next Ku k zQ out).toList.Perm (out.toList++zQ)
 |0,k,zQ,out,h=>by
  have e:zQ=[]:=eN h
  subst e
  unfold pickOrder.go
  simp
 |Ku+1,k,zQ,out,h=>by
  have hlt:next k%zQ.length<zQ.length:=io _ (by omega)
  unfold pickOrder.go
  rw[ar hlt]
  dsimp only
  refine(Bm next Ku (k+1) _ _ (by rw[List.length_eraseIdx,av hlt];omega)).trans ?_
  rw[Array.toList_push,a8]
  exact n6 _ (pR hlt)
theorem CP(next:Nat->Nat)(xs:Array α):(pickOrder next xs).toList.Perm xs.toList:=by
 unfold pickOrder
 have:=Bm next xs.size 0 xs.toList #[] (by simp)
 simpa using this
end
abbrev py(f:Value)(i:Int)(S:Addr)(n ep:Nat):Obj:={ cls:=.type "set_iterator",dict:=none,data:=.fields #[f,rawInt i,.ref S,rawInt n,rawInt ep],slots:=#[] }
section
variable{w:World}
theorem tQ{Q:Fin->Shared->Prop}(hh:A.handled=none)(q:∀g e,(∀b o,s.heap.get? b=some o->g.get? b=some o)->(∃o,g.get? e=some o/\o.cls=.type "StopIteration")->E (.ref e) { s with heap:=g }) :
  wpAny (model prog w) A (do let x <- newExc (.type "StopIteration") [];raiseNew x) Q E s:=by
 refine aa ?_
 simp only[newExc,newTuple]
 refine aa (bJ (aa (m:=firstArgMember _ _) (lW (a:=Value.none) (by first|rfl|(simp only[firstArgMember];rfl)) (bJ ?_ (by size_fits)))) (by size_fits))
 simp only[raiseNew]
 refine aa (pL ?_)
 rw[hh]
 exact aa (ae (wpAny_throw (q _ _ (fun b o e=>aj _ (aj _ e)) ⟨_,aq _ rfl,rfl⟩)))
structure jz(w:World)(h:Heap)(S:Addr)(es:Array (Int×Value))(ep:Nat)(t:SetTable):Prop where
 ex:∃o,h.get? S=some o/\o.ExactSet/\o.data=.set es ep t
 fits:t.fits es.size=true
theorem jz.keep{es:Array (Int×Value)}{t:SetTable}(z:jz w h S es ep t)(k:∀o,h.get? S=some o->h'.get? S=some o):jz w h' S es ep t:=⟨let ⟨o,ho,r⟩:=z.ex;⟨o,k o ho,r⟩,z.fits⟩
theorem CQ{p:Addr}{k:Nat}{es:Array (Int×Value)}{t:SetTable}{pv:Array Value}{pn:Nat}{x:Int×Value}{Q:Option Value->Shared->Prop}(pk:s.heap.get? it=some (py (.ref p) i S n ep))(hS:jz w s.heap S es ep t)(hn:es.size=n)
  (hp:∃o,s.heap.get? p=some o/\o.cls=.type "tuple"/\o.data=.seq pv pn) (hk:pv[i]?=some (rawInt k)) (hx:es[k]?=some x)
  (q:∀g,g.get? it=some (py (.ref p) ((i:Int)+1) S n ep)->Heap.SameBut it s.heap g->Q (some x.2) { s with heap:=g }):wpAny (model prog w) A (pyNext (.ref it)) Q E s:=by
 obtain⟨o,ho,xS,hd⟩:=hS.ex
 obtain⟨op,hop,hcp,hdp⟩:=hp
 have T:Shared.TypeIs s (.ref it) "set_iterator":=⟨_,pk,rfl⟩
 unfold pyNext
 refine aa (fD (bt (name:=Str.ofString "__next__") T eK (bp eK T lL ?_ (lM _))))
 show wpAny _ _ (fieldsOf (.ref it) >>= _) _ _ s
 refine aa (jq pk rfl ?_)
 dsimp only
 refine aa (gf ho hd hS.fits ?_)
 rw[az (by rw[hn];simp)]
 refine aa (bB hop hdp ?_)
 simp only[aB,hk]
 unfold setNextDrawn
 refine aa (aa (f6 ho hd hS.fits ?_))
 dsimp only
 rw[az (by simp),aB,hx]
 refine ae (aa (bv pk (by simp) fun g e1 e2=>ae ⟨_,rfl,ae (q g (by simpa using e1) e2)⟩))
theorem u5{p:Addr}{es:Array (Int×Value)}{t:SetTable}{pv:Array Value}{pn:Nat}{Q:Option Value->Shared->Prop}(hh:A.handled=none)(pk:s.heap.get? it=some (py (.ref p) i S n ep))(hS:jz w s.heap S es ep t)(hn:es.size=n)
  (hp:∃o,s.heap.get? p=some o/\o.cls=.type "tuple"/\o.data=.seq pv pn) (hk:pv[i]?=none)
  (q:∀g,(∀b o,b≠it->s.heap.get? b=some o->g.get? b=some o)->Q none { s with heap:=g }):wpAny (model prog w) A (pyNext (.ref it)) Q E s:=by
 obtain⟨o,ho,xS,hd⟩:=hS.ex
 obtain⟨op,hop,hcp,hdp⟩:=hp
 have T:Shared.TypeIs s (.ref it) "set_iterator":=⟨_,pk,rfl⟩
 unfold pyNext
 refine aa (fD (bt (name:=Str.ofString "__next__") T eK (bp eK T lL ?_ (lM _))))
 show wpAny _ _ (fieldsOf (.ref it) >>= _) _ _ s
 refine aa (jq pk rfl ?_)
 dsimp only
 refine aa (gf ho hd hS.fits ?_)
 rw[az (by rw[hn];simp)]
 refine aa (bB hop hdp ?_)
 simp only[aB,hk]
 refine aa (bv pk (by simp) fun g e1 e2=>aa (bv e1 (by simp) fun g2 e3 e4=>tQ (s:={ s with heap:=g2 }) (show A.in1.handled=none from hh) fun g3 e kp hx=>?_))
 obtain⟨ox,hox,hcx⟩:=hx
 refine aa (dB (T:="StopIteration") (b:=true) ⟨ox,hox,hcx⟩ jr (ae (q g3 fun b o hb e=>kp b o ?_)))
 exact e4.extBut b o hb (e2.extBut b o hb e)
theorem EI{sl sl':Nat}{es:Array (Int×Value)}{t:SetTable}{x:Value}{Q:Option Value->Shared->Prop}(pk:s.heap.get? it=some (py (rawInt sl) i S n ep))(hS:jz w s.heap S es ep t)(hn:es.size=n)
  (hx:∀(Q':Option (Value×Nat)->Shared->Prop) (E':Value->Shared->Prop),Q' (some (x,sl')) s->wpAny (model prog w) A.in1 (setNext S sl i ep) Q' E' s)
  (q:∀g,g.get? it=some (py (rawInt sl') ((i:Int)+1) S n ep)->Heap.SameBut it s.heap g->Q (some x) { s with heap:=g }):wpAny (model prog w) A (pyNext (.ref it)) Q E s:=by
 obtain⟨o,ho,xS,hd⟩:=hS.ex
 have T:Shared.TypeIs s (.ref it) "set_iterator":=⟨_,pk,rfl⟩
 unfold pyNext
 refine aa (fD (bt (name:=Str.ofString "__next__") T eK (bp eK T lL ?_ (lM _))))
 show wpAny _ _ (fieldsOf (.ref it) >>= _) _ _ s
 refine aa (jq pk rfl ?_)
 dsimp only
 refine aa (gf ho hd hS.fits ?_)
 rw[az (by rw[hn];simp)]
 show wpAny _ _ (setNext S (sl:Int).toNat (i:Int).toNat (ep:Int).toNat >>= _) _ _ s
 simp only[aB]
 refine aa (hx _ _ ?_)
 dsimp only
 refine aa (bv pk (by simp) fun g e1 e2=>aa (bv e1 (by simp) fun g2 e3 e4=>ae ⟨_,rfl,ae (q g2 (by simpa using e3) (e2.trans e4))⟩))
theorem wz{sl:Nat}{es:Array (Int×Value)}{t:SetTable}{Q:Option Value->Shared->Prop}(hh:A.handled=none)(pk:s.heap.get? it=some (py (rawInt sl) i S n ep))(hS:jz w s.heap S es ep t)(hn:es.size=n)
  (hx:∀(Q':Option (Value×Nat)->Shared->Prop) (E':Value->Shared->Prop),Q' none s->wpAny (model prog w) A.in1 (setNext S sl i ep) Q' E' s)
  (q:∀g,(∀b o,b≠it->s.heap.get? b=some o->g.get? b=some o)->Q none { s with heap:=g }):wpAny (model prog w) A (pyNext (.ref it)) Q E s:=by
 obtain⟨o,ho,xS,hd⟩:=hS.ex
 have T:Shared.TypeIs s (.ref it) "set_iterator":=⟨_,pk,rfl⟩
 unfold pyNext
 refine aa (fD (bt (name:=Str.ofString "__next__") T eK (bp eK T lL ?_ (lM _))))
 show wpAny _ _ (fieldsOf (.ref it) >>= _) _ _ s
 refine aa (jq pk rfl ?_)
 dsimp only
 refine aa (gf ho hd hS.fits ?_)
 rw[az (by rw[hn];simp)]
 show wpAny _ _ (setNext S (sl:Int).toNat (i:Int).toNat (ep:Int).toNat >>= _) _ _ s
 simp only[aB]
 refine aa (hx _ _ ?_)
 dsimp only
 refine aa (bv pk (by simp) fun g e1 e2=>tQ (s:={ s with heap:=g }) (show A.in1.handled=none from hh) fun g3 e kp hx=>?_)
 obtain⟨ox,hox,hcx⟩:=hx
 exact aa (dB (T:="StopIteration") (b:=true) ⟨ox,hox,hcx⟩ jr (ae (q g3 fun b o hb e=>kp b o (e2.extBut b o hb e))))
end
theorem sg:Slot "set_iterator" "__iter__" "set_iterator.__iter__":=.of (owner:="set_iterator") (n:="__iter__") (by rw[ku,gW];kernel_rfl) (by decide +kernel) (by decide +kernel) (by decide +kernel) (by first|exact .inl (by decide +kernel)|exact .inr (by decide +kernel)) (by rw[dN];kernel_rfl)
theorem yn(a:Value):argsOk "set_iterator.__iter__" ⟨[a],[]⟩:=by unfold argsOk;kernel_rfl
theorem yo:entryFor table "set_iterator.__iter__"=some Builtin.«dict_keyiterator.__iter__»:=entryFor_alias (id':="dict_keyiterator.__iter__") (by kernel_rfl) (by first|rfl|decide +kernel|(unfold String.splitOn;simp +decide [String.splitOnAux])) (by decide +kernel) (by kernel_rfl)
section
variable{w:World}
theorem yp{f:Value}{i:Int}(pk:s.heap.get? it=some (py f i S n ep))(q:Q (.ref it) s):wpAny (model prog w) A (pyIter (.ref it)) Q E s:=by
 have T:Shared.TypeIs s (.ref it) "set_iterator":=⟨_,pk,rfl⟩
 exact lX T sg (bp sg T yo (ae ⟨_,rfl,"set_iterator",_,T,eK.lookup,q⟩) (yn _))
theorem Am(hh:A.handled=none){p:Addr}{ep:Nat}{es:Array (Int×Value)}{t:SetTable}{pl:List Nat}(mI:pl.Perm (List.range n))(hn:es.size=n)(h1:it≠S)(h2:it≠p) :
  Walks prog w A it [it,p,S] [it] n (fun i v=>∃k x,pl[i]?=some k/\es[k]?=some x/\v=x.2) (fun i h=>i<=n/\h.get? it=some (py (.ref p) i S n ep)/\(∃o,h.get? p=some o/\o.cls=.type "tuple"/\∃e,o.data=.seq (pl.map fun k:Nat=>rawInt k).toArray e)/\jz w h S es ep t) where
 sub:=fun b hb=>by simp at hb;simp[hb]
 frame:=fun i h h' st k=>⟨st.1,k it (by simp) _ st.2.1,(let ⟨o,ho,r⟩:=st.2.2.1;⟨o,k p (by simp) o ho,r⟩),st.2.2.2.keep fun o ho=>k S (by simp) o ho⟩
 item:=fun i s Q E hi st q=>by
  obtain⟨_,pk,⟨op,hop,hcp,e,hdp⟩,hS⟩:=st
  have hl:pl.length=n:=by have:=mI.length_eq;simpa using this
  have hk:pl[i]?=some pl[i]:=ar (by omega)
  have R_:pl[i]<es.size:=by rw[hn];exact bI.mp (mI.mem_iff.mp (d_ (by omega)))
  refine CQ pk hS hn ⟨op,hop,hcp,hdp⟩ (k:=pl[i]) (x:=es[pl[i]]) (by simp[hk]) (by simp[R_]) fun g a b=>q _ g s.toks ⟨pl[i],es[pl[i]],hk,by simp[R_],rfl⟩ ⟨hi,?_,⟨op,b.extBut p op (Ne.symm h2) hop,hcp,e,hdp⟩,hS.keep fun o ho=>b.extBut S o (Ne.symm h1) ho⟩ fun c o hc ho=>b.extBut c o (fun z=>hc (by simp[z])) ho
  rw[a];rfl
 done:=fun s Q E st q=>by
  obtain⟨_,pk,⟨op,hop,hcp,e,hdp⟩,hS⟩:=st
  have hl:pl.length=n:=by have:=mI.length_eq;simpa using this
  exact u5 hh pk hS hn ⟨op,hop,hcp,hdp⟩ (by simp[hl]) fun g kp=>q g s.toks fun c o hc ho=>kp c o (fun z=>hc (by simp[z])) ho
 self:=fun i s Q E st q=>yp st.2.1 q
theorem CU(hh:A.handled=none){ep:Nat}{es:Array (Int×Value)}{t:SetTable}{vs:List Value}{sl:Nat->Nat}(hv:vs.length=n)(hn:es.size=n)(h1:it≠S)
  (hx:∀(s:Shared) (i:Nat),jz w s.heap S es ep t->i<=n->∀(A:Around) (Q':Option (Value×Nat)->Shared->Prop) (E':Value->Shared->Prop),Q' ((vs[i]?).map fun v=>(v,sl (i+1))) s->wpAny (model prog w) A (setNext S (sl i) i ep) Q' E' s) :
  Walks prog w A it [it,S] [it] n (fun i v=>vs[i]?=some v) (fun i h=>i<=n/\h.get? it=some (py (rawInt (sl i)) i S n ep)/\jz w h S es ep t) where
 sub:=fun b hb=>by simp at hb;simp[hb]
 frame:=fun i h h' st k=>⟨st.1,k it (by simp) _ st.2.1,st.2.2.keep fun o ho=>k S (by simp) o ho⟩
 item:=fun i s Q E hi st q=>by
  obtain⟨_,pk,hS⟩:=st
  have hk:vs[i]?=some vs[i]:=ar (by omega)
  refine EI (x:=vs[i]) (sl':=sl (i+1)) pk hS hn (fun Q' E' y=>hx s i hS (dH hi) _ Q' E' (by rw[hk];exact y)) fun g a b=>q _ g s.toks hk ⟨hi,?_,hS.keep fun o ho=>b.extBut S o (Ne.symm h1) ho⟩ fun c o hc ho=>b.extBut c o (fun z=>hc (by simp[z])) ho
  rw[a];rfl
 done:=fun s Q E st q=>by
  obtain⟨_,pk,hS⟩:=st
  have hk:vs[n]?=none:=cq (by omega)
  exact wz hh pk hS hn (fun Q' E' y=>hx s n hS (au _) _ Q' E' (by rw[hk];exact y)) fun g kp=>q g s.toks fun c o hc ho=>kp c o (fun z=>hc (by simp[z])) ho
 self:=fun i s Q E st q=>yp st.2.1 q
end
section
variable{w:World}
theorem oR{Q:Bool->Shared->Prop}(q:Q (sJ w) s):wpAny (model prog w) A setsByText Q E s:=by
 unfold setsByText
 exact aa (mM (ae q))
theorem CV{es:Array (Int×Value)}{t:SetTable}{Q:Option (Value×Nat)->Shared->Prop}(hb:sJ w=true)(hS:jz w s.heap S es ep t)
  (q:Q ((((pickOrder (w.params.setOrder S ep) es).toList.map (·.2))[i]?).map fun v=>(v,0)) s):wpAny (model prog w) A (setNext S 0 i ep) Q E s:=by
 obtain⟨o,ho,xS,hd⟩:=hS.ex
 unfold setNext
 refine aa (f6 ho hd hS.fits ?_)
 dsimp only
 refine aa (oR ?_)
 rw[hb,av rfl,az (by simp)]
 unfold setWalk
 refine aa (aa (f6 ho hd hS.fits ?_))
 dsimp only
 refine aa (oR ?_)
 rw[hb,av rfl]
 refine aa (mM (ae (ae ?_)))
 have e:((pickOrder (w.params.setOrder S ep) es)[i]?).map (fun e=>(e.2,0))=(((pickOrder (w.params.setOrder S ep) es).toList.map (·.2))[i]?).map fun v=>(v,0):=by
  rw[ak,gX,Option.map_map];rfl
 show Q (((pickOrder (w.params.setOrder S ep) es)[i]?).map fun e=>(e.2,0)) s
 rw[e];exact q
theorem vA(p:Nat):SetTable.below #[p] 0=0/\SetTable.below #[p] (p+1)=1:=by
 unfold SetTable.below
 constructor
 ·simp[SetTable.below.go]
 ·simp[SetTable.below.go]
theorem EJ{es:Array (Int×Value)}{t:SetTable}{Q:Option (Value×Nat)->Shared->Prop}(hb:sJ w=false)(hS:jz w s.heap S es ep t)(OR:t.led=true)(h1:es.size<=1)(hi:i<=es.size)
  (q:Q (((es.toList.map (·.2))[i]?).map fun v=>(v,if i+1=0 then 0 else t.place.getD 0 0+1)) s):wpAny (model prog w) A (setNext S (if i=0 then 0 else t.place.getD 0 0+1) i ep) Q E s:=by
 obtain⟨o,ho,xS,hd⟩:=hS.ex
 have hf:=hS.fits
 have tu:t.place.size=es.size:=by
  unfold SetTable.fits at hf
  simp only[bA,gJ]at hf
  exact hf.1
 unfold setNext
 refine aa (f6 ho hd hS.fits ?_)
 dsimp only
 refine aa (oR ?_)
 rw[hb,az bK]
 show wpAny _ _ (if (!t.plain&&decide (es.size>1))=true then _ else _) _ _ _
 rw[az (by simp;omega)]
 show wpAny _ _ ((if (!t.led&&!es.isEmpty)=true then _ else pure ()) >>= _) _ _ _
 rw[az (by simp[OR])]
 refine aa (ae (ae ?_))
 by_cases hz:es.size=0
 ·have e1:es=#[]:=jN hz
  subst e1
  simpa using q
 ·have tf:es.size=1:=by omega
  obtain⟨x,rfl⟩:∃x,es=#[x]:=by
   obtain⟨l⟩:=es
   match l,tf with
   |[x],_=>exact⟨x,rfl⟩
  obtain⟨p,hp⟩:∃p,t.place=#[p]:=by
   generalize t.place=pl at tu
   obtain⟨l⟩:=pl
   match l,tu with
   |[x],_=>exact⟨x,rfl⟩
  rw[hp]at q ⊢
  rcases(show i=0\/i=1 by simp at hi;omega)with rfl|rfl
  ·simp[vA]at q ⊢;exact q
  ·simp[vA]at q ⊢;exact q
end
theorem wA[Inhabited β](f:Nat->β)(xs:List α)(g:α->β)(n:Nat)(hn:xs.length=n)(hf:∀i x,xs[i]?=some x->f i=g x):(List.range n).map f=xs.map g:=by
 apply hU
 intro i
 rw[ak,ak]
 by_cases h:i<n
 ·rw[bf h,ar (by omega)]
  exact eY some (hf i _ (ar (by omega)))
 ·rw[cq (by simp;omega),cq (by omega)];rfl
section
variable{w:World}
theorem EK{es:Array (Int×Value)}{t:SetTable}(hS:jz w s.heap S es ep t)(D4:Bj w es.size t)(hsz:es.size<=sizeLine)
  (q:∀(g:Heap) (d:Drawn) (it:Addr) (fp:List Addr) (P:Nat->Value->Prop) (St:Nat->Heap->Prop),(∀A:Around,A.handled=none->Walks prog w A it fp [it] es.size P St)->St 0 g->s.heap.objs.size<=it->(∀b∈fp,b=S\/s.heap.objs.size<=b)->(∀b∈fp,b<g.objs.size)->(∀b o,s.heap.get? b=some o->g.get? b=some o) ->
   (∀acc,ItemsOf P acc es.size->acc.toList.Perm (es.toList.map (·.2)))->Q (.ref it) { s with heap:=g,drawn:=d }):wpAny (model prog w) A (pyIter (.ref S)) Q E s:=by
 obtain⟨o,ho,xS,hd⟩:=hS.ex
 have T:Shared.TypeIs s (.ref S) "set":=⟨o,ho,xS.1⟩
 have hSlt:=ax ho
 refine lX T PySem.F.slot_set_iter (bp PySem.F.slot_set_iter T yh ?_ (PySem.F.args_set_iter_1 _))
 show wpAny _ _ (Builtin.Frozenset.sizeOf S >>= _) _ _ s
 unfold Builtin.Frozenset.sizeOf
 refine aa (aa (gf ho hd hS.fits (ae ?_)))
 unfold setDrawn
 refine aa (aa (f6 ho hd hS.fits ?_))
 dsimp only
 refine aa (oR (ae ?_))
 by_cases hdr:(!sJ w&&(!t.plain&&decide (es.size>1)))=true
 ·show wpAny _ _ (if (!sJ w&&(!t.plain&&decide (es.size>1)))=true then _ else _) _ _ _
  rw[av hdr]
  refine aa (ym es.size (List.range es.size) _ _ (by simp) fun pl hp d=>?_)
  have hl:pl.length=es.size:=by have:=hp.length_eq;simpa using this
  refine aa (oN ?_ (by rw[am,hl];exact hsz))
  have hS1:jz w (s.heap.push { cls:=.type "tuple",data:=.seq (pl.map fun i:Nat=>rawInt i).toArray }) S es ep t:=hS.keep fun o e=>aj _ e
  obtain⟨o1,ho1,_,hd1⟩:=hS1.ex
  refine aa (wpAny_setEpoch_of (s:={ s with heap:=s.heap.push { cls:=.type "tuple",data:=.seq (pl.map fun i:Nat=>rawInt i).toArray },drawn:=d }) ho1 hd1 hS.fits ?_)
  refine aa (bJ (ae ⟨_,rfl,"set_iterator",_,⟨_,aq _ rfl,rfl⟩,eK.lookup,?_⟩))
  have z:(s.heap.push { cls:=.type "tuple",data:=.seq (pl.map fun i:Nat=>rawInt i).toArray }).objs.size=s.heap.objs.size+1:=bg ..
  refine q _ d _ [_,s.heap.objs.size,S] _ _ (fun A hA=>Am (p:=s.heap.objs.size) (t:=t) (ep:=ep) hA hp rfl ?_ ?_) ⟨cQ _,aq _ rfl,⟨_,aj _ (aq _ rfl),rfl,0,rfl⟩,hS1.keep fun o e=>aj _ e⟩ ?_ (fun b hb=>?_) (fun b hb=>?_) (fun b o e=>aj _ (aj _ e)) fun acc hacc=>?_
  ·rw[z];exact eB (db hSlt)
  ·rw[z];exact Nat.succ_ne_self _
  ·rw[z];exact i8 _
  ·simp only[aG,cL,iQ]at hb
   rcases hb with rfl|rfl|rfl
   ·rw[z];exact .inr (i8 _)
   ·exact .inr (au _)
   ·exact .inl rfl
  ·simp only[aG,cL,iQ]at hb
   have z2:∀o2,((s.heap.push { cls:=.type "tuple",data:=.seq (pl.map fun i:Nat=>rawInt i).toArray }).push o2).objs.size=s.heap.objs.size+2:=fun o2=>by rw[bg,z]
   rw[z2]
   rcases hb with rfl|rfl|rfl
   ·rw[z];exact d8 _
   ·exact db (d8 _)
   ·exact db (db hSlt)
  ·have e:acc.toList=pl.map fun k=>(es.getD k (0,.none)).2:=by
    apply hU
    intro i
    rw[ak]
    by_cases hi:i<es.size
    ·have hia:i<acc.size:=by rw[hacc.1];exact hi
     have ha:acc[i]?=some (acc[i]'hia):=lJ hia
     obtain⟨k,x,h1,h2,h3⟩:=hacc.2 i _ ha
     rw[gX,ha,h1]
     have:es.getD k (0,.none)=x:=by rw[kN,h2];rfl
     rw[h3]
     show some x.2=some (es.getD k (0,.none)).2
     rw[this]
    ·rw[cq (by rw[da,hacc.1];omega),cq (by omega)];rfl
   rw[e]
   refine(hp.map _).trans (List.Perm.of_eq ?_)
   exact wA _ es.toList (·.2) es.size (by simp) fun i x hx=>by
    have hx':es[i]?=some x:=by rw[<- gX];exact hx
    rw[kN,hx'];rfl
 ·show wpAny _ _ (if (!sJ w&&(!t.plain&&decide (es.size>1)))=true then _ else _) _ _ _
  rw[az hdr]
  refine aa (ae (aa (wpAny_setEpoch_of ho hd hS.fits ?_)))
  refine aa (bJ (ae ⟨_,rfl,"set_iterator",_,⟨_,aq _ rfl,rfl⟩,eK.lookup,?_⟩))
  have lj:∀(vs:List Value) (sl:Nat->Nat),sl 0=0->vs.Perm (es.toList.map (·.2))->(∀(s:Shared) (i:Nat),jz w s.heap S es ep t->i<=es.size->∀(A:Around) (Q':Option (Value×Nat)->Shared->Prop) (E':Value->Shared->Prop),Q' ((vs[i]?).map fun v=>(v,sl (i+1))) s->wpAny (model prog w) A (setNext S (sl i) i ep) Q' E' s) ->
    Q (.ref s.heap.objs.size) { s with heap:=s.heap.push (py (rawInt 0) 0 S es.size ep) }:=fun vs sl h0 hp hx=>by
   have hl:vs.length=es.size:=by have:=hp.length_eq;simpa using this
   refine q _ s.drawn s.heap.objs.size [s.heap.objs.size,S] _ _ (fun A hA=>CU (t:=t) (ep:=ep) (vs:=vs) (sl:=sl) hA hl rfl (eB hSlt) hx) ⟨cQ _,?_,hS.keep fun o e=>aj _ e⟩ (au _) (fun b hb=>?_) (fun b hb=>?_) (fun b o e=>aj _ e) fun acc hacc=>?_
   ·rw[h0];exact aq _ rfl
   ·simp only[aG,cL,iQ]at hb
    rcases hb with rfl|rfl
    ·exact .inr (au _)
    ·exact .inl rfl
   ·simp only[aG,cL,iQ]at hb
    rw[bg]
    rcases hb with rfl|rfl
    ·exact d8 _
    ·exact db hSlt
   ·have e:acc.toList=vs:=by
     apply hU
     intro i
     by_cases hi:i<es.size
     ·have hia:i<acc.size:=by rw[hacc.1];exact hi
      have ha:acc[i]?=some (acc[i]'hia):=lJ hia
      rw[gX,ha,hacc.2 i _ ha]
     ·rw[cq (by rw[da,hacc.1];omega),cq (by omega)]
    rw[e];exact hp
  cases hb:sJ w with
  |true=>exact lj ((pickOrder (w.params.setOrder S ep) es).toList.map (·.2)) (fun _=>0) rfl ((CP _ _).map _) fun s i hS' hi A Q' E' y=>CV hb hS' y
  |false=>
   have h1:es.size<=1:=by
    rcases D4.2 with z|z
    ·omega
    ·rw[hb,z]at hdr;simp at hdr;omega
   have OR:t.led=true:=D4.1.resolve_left (by rw[hb];exact bK)
   exact lj (es.toList.map (·.2)) (fun i=>if i=0 then 0 else t.place.getD 0 0+1) rfl (im _) fun s i hS' hi A Q' E' y=>EJ hb hS' OR h1 hi y
end
section
variable{w:World}
theorem EL{Q:Bool->Shared->Prop}(T:s.TypeIs (.ref S) "set")(q:Q false s):wpAny (model prog w) A (Builtin.List.listLengthHint (.ref S)) Q E s:=by
 unfold Builtin.List.listLengthHint
 refine aa (gT T PySem.F.slot_set_len.lookup ?_)
 generalize hid:("set.__len__":String)=id0
 wp_delta
 rw[show splitId id0=some ("set","__len__")from by subst hid;decide +kernel]
 subst hid
 refine aa (dB (T:="set") (b:=true) T (by rw[dN];kernel_rfl) ?_)
 refine nS (fun y=>absurd y (by decide)) (fun _=>nS (fun _=>?_) (fun y=>absurd (by decide +kernel) y))
 exact aa (iB T (ae q))
theorem yq{es:Array (Int×Value)}{t:SetTable}{Q:List Value->Shared->Prop}(hS:jz w s.heap S es ep t)(D4:Bj w es.size t)(hsz:es.size<=sizeLine)(hh:A.handled=none)
  (q:∀(g:Heap) (d:Drawn) (tk:Nat) (vs:List Value),(∀b o,s.heap.get? b=some o->g.get? b=some o)->vs.Perm (es.toList.map (·.2))->Q vs { s with heap:=g,drawn:=d,toks:=tk }):wpAny (model prog w) A (collect (.ref S)) Q E s:=by
 obtain⟨o,ho,xS,hd⟩:=hS.ex
 have hSlt:=ax ho
 unfold collect
 refine aa (wpAny_runValue (dX entry_proto_collect' ?_))
 rw[cR PySem.F.plain_proto_collect _]
 show wpAny _ A.in1 (newList [] >>= fun l=>again (.builtin "list.__iadd__" ⟨[l,.ref S],[]⟩)) _ _ s
 refine aa (bJ (ae ⟨ga PySem.F.plain_list_iadd _,dX entry_list_iadd' ?_⟩))
 rw[cR PySem.F.plain_list_iadd _]
 generalize hL:s.heap.objs.size=L
 have gL:(s.heap.push { cls:=.type "list",data:=.seq ([]:List Value).toArray }).get? L=some { cls:=.type "list",data:=.seq #[] }:=by rw[<- hL];exact aq _ rfl
 have hS1:jz w (s.heap.push { cls:=.type "list",data:=.seq ([]:List Value).toArray }) S es ep t:=hS.keep fun o e=>aj _ e
 have z1:(s.heap.push { cls:=.type "list",data:=.seq ([]:List Value).toArray }).objs.size=L+1:=by rw[bg,hL]
 have kp1:∀b o,s.heap.get? b=some o->(s.heap.push { cls:=.type "list",data:=.seq ([]:List Value).toArray }).get? b=some o:=fun b o e=>aj _ e
 have bL:∀b o,s.heap.get? b=some o->b≠L:=fun b o e=>by rw[<- hL];exact aN (ax e)
 generalize s.heap.push { cls:=.type "list",data:=.seq ([]:List Value).toArray }=h1 at gL hS1 z1 kp1 ⊢
 have hne:L≠S:=by rw[<- hL];exact eB hSlt
 obtain⟨o1,ho1,hex1,hd1⟩:=hS1.ex
 have T:Shared.TypeIs { s with heap:=h1 } (.ref S) "set":=⟨o1,ho1,hex1.1⟩
 show wpAny _ A.in1 (Builtin.List.listExtendWith (.ref L) (.ref S) (.ref L)) _ _ _
 unfold Builtin.List.listExtendWith
 refine aa (iB (T:="set") T ?_)
 have e1:Builtin.List.listSameRef (.ref L) (.ref S)=false:=by simp[Builtin.List.listSameRef,hne]
 have e2:(Value.type "set" == Value.type "list")=false:=by decide
 have e3:(Value.type "set" == Value.type "tuple")=false:=by decide
 simp only[e1,e2,e3,Bool.or_false,bZ,eL]
 refine aa (EK (s:={ s with heap:=h1 }) hS1 D4 hsz fun g d it fp P St W st pk So hfl kp2 hperm=>?_)
 have gL2:=kp2 _ _ gL
 have hLf:L∉fp:=fun hm=>by
  rcases So L hm with y|y
  ·exact hne y
  ·rw[show Shared.heap { s with heap:=h1 }=h1 from rfl,z1]at y;exact absurd y (Nat.not_le.mpr (d8 _))
 obtain⟨o2,ho2,hex2,hd2⟩:=(hS1.keep fun o e=>kp2 S o e).ex
 refine aa (cx (EL (s:={ s with heap:=g,drawn:=d }) ⟨o2,ho2,hex2.1⟩ ?_))
 have itL:it≠L:=fun y=>by
  have:=pk
  rw[show Shared.heap { s with heap:=h1 }=h1 from rfl,z1,y]at this
  exact absurd this (Nat.not_le.mpr (d8 _))
 have old:∀b o,s.heap.get? b=some o->b≠it:=fun b o e y=>by
  have h2:=ax (kp1 b o e)
  have h3:=pk
  rw[show Shared.heap { s with heap:=h1 }=h1 from rfl]at h3
  rw[y]at h2
  exact absurd h2 (gI.mpr h3)
 have key:∀(g':Heap) (c tk:Nat),St 0 g'->(∀b o,b≠L->g.get? b=some o->g'.get? b=some o)->g'.get? L=some { cls:=.type "list",data:=.seq #[] c } ->
   codeAny (model prog w) A (.builtin "list.extend.loop" ⟨[.ref L,.ref it,.ref L],[]⟩) (wants (fun r s'=>wpAny (model prog w) A (match r with|.ref a=>(do match (<- load a).data with|.seq xs _=>pure xs.toList|_=>unsupported "internal:collect")|_=>unsupported "internal:collect") Q E s') E) { s with heap:=g',drawn:=d,toks:=tk }:=by
  intro g' c tk bD kp3 gL3
  refine codeAny_extend_loopS (W A.in1 (by simpa using hh)).toS hsz L hLf (.ref L) es.size 0 _ #[] c rfl (cQ _) bD gL3 (ItemsOf.nil _) fun s' acc c' hm gL4 hacc=>?_
  have ee:s'={ s with heap:=s'.heap,drawn:=d,toks:=s'.toks }:=by
   have h1:=hm.gens
   have h2:=hm.drawn
   have h3:=hm.os
   cases s'
   simp only at h1 h2 h3
   subst h1;subst h2;subst h3;rfl
  refine aa (wpAny_load gL4 (ae ?_))
  rw[ee]
  refine q s'.heap d s'.toks acc.toList (fun b o e=>hm.heap b o (fun y=>?_) (kp3 b o (bL b o e) (kp2 b o (kp1 b o e)))) (hperm acc hacc)
  rcases aG.mp y with y|y
  ·exact bL b o e y
  ·exact old b o e (ba.mp y)
 refine nS (fun _=>?_) (fun _=>ae ⟨ga PySem.F.plain_extend_loop _,key g 0 _ st (fun _ _ _ e=>e) gL2⟩)
 refine aa (fK (aa ?_))
 show wpAny _ _ (updateSeq L (·.push .none) >>= fun _=>updateSeq L (·.pop)) _ _ _
 refine aa (kw gL2 rfl ?_)
 have g5:=de (Obj.mapSeq (·.push Value.none)) gL2 rfl
 refine kw (hz:=by seq_fits) g5 rfl ?_
 have g6:=de (Obj.mapSeq (·.pop)) g5 rfl
 refine ae ⟨ga PySem.F.plain_extend_loop _,key _ _ _ ((W A hh).frame 0 _ _ st fun b hb o e=>?_) (fun b o hb e=>?_) g6⟩
 ·have hbL:b≠L:=fun y=>hLf (y▸hb)
  exact(dM _ _ (Ne.symm hbL)).trans ((dM _ _ (Ne.symm hbL)).trans e)
 ·exact(dM _ _ (Ne.symm hb)).trans ((dM _ _ (Ne.symm hb)).trans e)
end
section
variable{w:World}
theorem An{ks:List Str}(z:yj prog w s.heap S ks)(R3:ks.length<64)(hh:A.handled=none)
  (q:∀(g0 g1:Heap) (d:Drawn) (tk:Nat) (out:Array Value) (ss:List Str) (e:Nat),(∀b o,s.heap.get? b=some o->g0.get? b=some o)->(∀b o,g0.get? b=some o->g1.get? b=some o)->g1.get? g0.objs.size=some (seqObj "list" out e) ->
   StrsAre out.toList ss->ss.Perm ks->sortedS ss=true->Q (.ref g0.objs.size) { s with heap:=g1,drawn:=d,toks:=tk }):wpAny (model prog w) A (call (.builtin "sorted") [.ref S]) Q E s:=by
 obtain⟨o,es,ep,t,ho,xS,hd,hel,hp,hb,hf,D4⟩:=z
 have hS:jz w s.heap S es ep t:=⟨⟨o,ho,xS,hd⟩,hf⟩
 have c_:es.size=ks.length:=by have:=hp.length_eq;simpa using this
 apply lK kind_sorted plain_sorted entry_sorted (args_sorted1 _)
 show wpAny _ _ (checkCount "sorted" 1 1 _ >>= _) _ _ _
 refine aa (ae (aa (yq hS D4 (by rw[j_];omega) (by simpa using hh) fun g d tk vs kp pv=>?_)))
 have hv:∀v∈vs,∃x t,v=Value.str x t:=fun v hv=>by
  obtain⟨e,he,rfl⟩:=aJ.mp (pv.mem_iff.mp hv)
  obtain⟨t,ht⟩:=yk hel e he
  exact⟨_,t,ht⟩
 have uO:=strsAre_map vs hv
 have hks:(vs.map strOf).Perm ks:=by
  refine(pv.map strOf).trans ?_
  rw[aM];exact hp
 have hvl:vs.length<64:=by have:=hks.length_eq;rw[am]at this;omega
 refine aa (wpAny_newList ?_ (by rw[j_];omega))
 have oL:(g.push (seqObj "list" vs.toArray 0)).get? g.objs.size=some (seqObj "list" vs.toArray 0):=aq _ rfl
 refine aa (cx (bp slot_list_sort ⟨_,oL,rfl⟩ entry_list_sort (list_sort_treeK strKind_oneLt oL uO.keysOf (fun a b r e=>keyKind_strs (by rw[<- e];exact uO)) hvl fun st a1 a2=>⟨_,rfl,?_⟩) (args_list_sort _)))
 obtain⟨ss,h1,h2,h3⟩:=sorted_out_str uO a1 a2
 obtain⟨e,he⟩:=sortedHeap_at (out:=(arrOf st).map (·.2)) oL
 refine ae ⟨_,rfl,q g _ d tk _ ss e kp (fun b o hb=>?_) he h1 (h2.trans hks) h3⟩
 rw[sortedHeap_old (aN (ax hb)) (by rw[bg];exact db (ax hb))]
 exact aj _ hb
abbrev Qd(ty:String)(x:Str)(t:Tok):Obj:={ cls:=.type ty,data:=.fields #[.str x t,.int 0 0] }
theorem EM{t:Tok}(hh:A.handled=none)(hb:l.length+1<scanBound)
  (q:∀g tk,KF prog w (fun j=>tx [l.getD j 0]) g s.heap.objs.size l.length->(∀b o,s.heap.get? b=some o->g.get? b=some o)->Q (.ref s.heap.objs.size) { s with heap:=g,toks:=tk }):wpAny (model prog w) A (call (.type "set") [.str (tx l) t]) Q E s:=by
 have z:(s.heap.push (dD w)).objs.size=s.heap.objs.size+1:=bg ..
 have hn:(tx l).cps.size=l.length:=by simp[tx]
 have zT:∀i v,SignAt (tx l) i v->∃t,v=Value.str (tx [l.getD i 0]) t:=by
  rintro i v ⟨c,u,hc,rfl⟩
  have:l[i]?=some c:=by simpa[tx]using hc
  exact⟨u,by rw[aC,this];rfl⟩
 have hT:Shared.TypeIs { s with heap:=s.heap.push (dD w) } (.str (tx l) t) "str":=ny _ _ _
 rw[<- hn]at hb q
 cases ha:(tx l).cps.all (· < 128)
 ·refine l8 (T:="str") (fp:=fun it=>[it]) (P:=SignAt (tx l)) (St:=fun it i h=>h.IsStrIter it "str_iterator" (tx l) t i) hT (by rw[dN];kernel_rfl) (by rw[dN];kernel_rfl) (by decide)
   (fun A E Q y=>wpAny_pyIter_wide ha (by show Q (.ref (s.heap.push (dD w)).objs.size) _;rw[z];exact y)) (fun A it hA _=>Walks.strWide hA it (tx l) t) (by simp) ⟨Qd "str_iterator" (tx l) t,?_,rfl,rfl⟩ zT hh hb q
  rw[<- z];exact aq _ rfl
 ·refine l8 (T:="str") (fp:=fun it=>[it]) (P:=SignAt (tx l)) (St:=fun it i h=>h.IsStrIter it "str_ascii_iterator" (tx l) t i) hT (by rw[dN];kernel_rfl) (by rw[dN];kernel_rfl) (by decide)
   (fun A E Q y=>wpAny_pyIter_ascii ha (by show Q (.ref (s.heap.push (dD w)).objs.size) _;rw[z];exact y)) (fun A it hA _=>Walks.strAscii hA it (tx l) t) (by simp) ⟨Qd "str_ascii_iterator" (tx l) t,?_,rfl,rfl⟩ zT hh hb q
  rw[<- z];exact aq _ rfl
theorem IC(hh:A.handled=none)(hb:l.length+1<scanBound)(ht:s.heap.IsTuple a its.toArray)(hv:cA (jH l) its)
  (q:∀g tk,KF prog w (fun j=>tx [l.getD j 0]) g s.heap.objs.size l.length->(∀b o,s.heap.get? b=some o->g.get? b=some o)->Q (.ref s.heap.objs.size) { s with heap:=g,toks:=tk }):wpAny (model prog w) A (call (.type "set") [.ref a]) Q E s:=by
 have z:(s.heap.push (dD w)).objs.size=s.heap.objs.size+1:=bg ..
 have hn:its.toArray.size=l.length:=by have:=hv.length;unfold jH at this;simpa using this.symm
 have ha:a<s.heap.objs.size:=by obtain⟨o,ho,_⟩:=ht;exact ax ho
 have L4:(s.heap.push (dD w)).IsTuple a its.toArray:=ht.at fun o e=>aj _ e
 have zT:∀i v,its.toArray[i]?=some v->∃t,v=Value.str (tx [l.getD i 0]) t:=by
  intro i v hi
  have hi':its[i]?=some v:=by simpa using hi
  have hlt:i<l.length:=by
   have:=(ao.mp hi').1
   rw[<- hn];simpa using this
  have hx:(jH l)[i]?=some (.str (tx [l.getD i 0])):=by
   unfold jH
   rw[ak,ar hlt,aC,ar hlt];rfl
  obtain⟨u,hu,t,e⟩:=hv.get hx
  rw[hi']at hu
  exact⟨t,(a9 hu).trans e⟩
 rw[<- hn]at hb q
 refine l8 (T:="tuple") (fp:=fun it=>[it,a]) (P:=fun i v=>its.toArray[i]?=some v) (St:=fun it i h=>h.IsTupleIter it a i/\h.IsTuple a its.toArray) L4.typeIs (by rw[dN];kernel_rfl) (by rw[dN];kernel_rfl) (by decide)
  (fun A E Q y=>fH L4 (by show Q (.ref (s.heap.push (dD w)).objs.size) _;rw[z];exact y)) (fun A it hA e=>Walks.tuple hA it a (by rw[e];exact aN (db ha)) its.toArray) (by simp;exact fun e=>absurd ha (by rw[<- e];exact cw _)) ⟨⟨{ cls:=.type "tuple_iterator",data:=.fields #[.ref a,.int 0 0] },?_,rfl,rfl⟩,?_⟩ zT hh hb q
 ·rw[<- z];exact aq _ rfl
 ·exact L4.at fun o e=>aj _ e
end
theorem ID{ss ks:List Str}(hp:ss.Perm ks)(qf:ks.Nodup)(hm:∀x,x∈ks↔∃j,j<l.length/\tx [l.getD j 0]=x)(hs:sortedS ss=true) :
  ∃m:List Nat,ss=m.map (fun c=>tx [c])/\m.Nodup/\m.Pairwise (· <= ·)/\∀c,c∈m↔c∈l:=by
 have all:∀z∈ss,tx [z.cps.toList.headD 0]=z:=fun z hz=>by
  obtain⟨j,_,e⟩:=(hm z).mp (hp.mem_iff.mp hz)
  subst e;rfl
 have em:ss=(ss.map fun z=>z.cps.toList.headD 0).map fun c=>tx [c]:=by
  rw[aM]
  conv=>lhs;rw[<- j' ss]
  exact bO fun z hz=>(all z hz).symm
 refine⟨ss.map fun z=>z.cps.toList.headD 0,em,?_,?_,fun c=>?_⟩
 ·have nd:ss.Nodup:=hp.nodup_iff.mpr qf
  rw[em]at nd
  exact List.Pairwise.of_map (fun c=>tx [c]) (fun a b h e=>h (by rw[e])) nd
 ·refine yg _ ?_
  rw[aM]
  rw[em]at hs
  exact hs
 ·constructor
  ·intro hc
   obtain⟨z,hz,rfl⟩:=aJ.mp hc
   obtain⟨j,hj,e⟩:=(hm z).mp (hp.mem_iff.mp hz)
   subst e
   show l.getD j 0∈l
   rw[aC,ar hj]
   exact d_ hj
  ·intro hc
   obtain⟨j,hj,e⟩:=kG hc
   refine aJ.mpr ⟨tx [c],hp.mem_iff.mpr ((hm _).mpr ⟨j,hj,?_⟩),rfl⟩
   rw[aC,ar hj,e];rfl
def IE(K:Frag)(H:Hp)(v:V)(l:List Nat):Prop:=v=.str (tx l)\/∃a,v=.ref a/\fj K H a (jH l)
def EN(K:Frag)(te:TE):TE:=fun σ H Q=>te σ H fun v H1=>∃l,IE K H1 v l/\l.length<4000/\(∀m:List Nat,m.Nodup->(∀c∈m,c∈l)->m.length<64) /\
 ∀m:List Nat,m.Nodup->m.Pairwise (· <= ·)->(∀c,c∈m↔c∈l)->∀a H2,H1 a=none->H2=eJ H1 a (.lst (m.map fun c=>V.str (tx [c])))->Q (.ref a) H2
theorem bE.kept2{d':Drawn}(I:bE X af σ H s)(k:∀b o,s.heap.get? b=some o->h'.get? b=some o):bE X af σ H { s with heap:=h',drawn:=d',toks:=t' }:=
 I.step (g':=s.gens) (ch:=[]) (fun _ z=>nomatch z) (fun b o _ _ _ e _=>k b o e) (fun b o _ _ _ e _=>⟨o.slots,k b o e⟩) (fun _ _ _ _ n=>n) (fun b o _ e=>⟨o,k b o e⟩) (fun _ _ e=>e) (fun _ _ _ e=>e) (fun b ps e=>⟨#[],by rw[e];simp⟩)
  (fun m hm=>let ⟨o,es,ep,ho,r⟩:=hm;⟨o,es,ep,k _ o ho,r⟩) (I.hok.kept k) I.bare
theorem CW{p1 p2 OY pos2:Pos}(h1:X.mg "sorted"=none)(h3:X.mg "set"=none)(he:QE X e te)(hc:X.calm=true:=by rfl)
  (R6:Gl X "sorted":=by rfl) (Kr:Gl X "set":=by rfl) (S9:starEach [e] X.env=(false,eval e X.env)::starEach [] X.env:=by rfl):QE X (.Call (.Name "sorted" p1) [.Call (.Name "set" p2) [e] [] pos2] [] OY) (EN X.K te):=⟨by
 intro af s σ H Q I h
 refine dw (mV I R6 h1 PyProof.Rows.boot_sorted (jL ?_) (by decide) (by decide))
 show wpAny _ _ (spliced ((false,eval (.Call (.Name "set" p2) [e] [] pos2) X.env)::[])) _ _ s
 refine iZ (dw (mV I Kr h3 PyProof.Rows.boot_set (cM ?_ S9 rfl) (by decide) (by decide)))
 rw[S9]
 show wpAny _ _ (spliced ((false,eval e X.env)::[])) _ _ s
 refine iZ (hW (he.h af s σ H _ I h) fun u s1 ⟨v,H1,I1,r1,l,hl,hb,R3,q⟩=>jn ?_)
 have hh:X.A.handled=none:=I1.ok.hd hc
 have hb':l.length+1<scanBound:=by unfold scanBound;omega
 have lj:∀g tk,KF X.prog X.w (fun j=>tx [l.getD j 0]) g s1.heap.objs.size l.length->(∀b o,s1.heap.get? b=some o->g.get? b=some o) ->
   wpAny (model X.prog X.w) X.A (spliced []) (fun vs s₂=>wpAny (model X.prog X.w) X.A (call (.builtin "sorted") (.ref s1.heap.objs.size::vs)) (EP X af σ Q) X.xe s₂) X.xe { s1 with heap:=g,toks:=tk }:=fun g tk hM kp=>by
  refine jn ?_
  obtain⟨ks,z,nd,mem,len⟩:=hM
  have uU:ks.length<64:=by
   obtain⟨m,em,mn,_,mm⟩:∃m:List Nat,ks=m.map (fun c=>tx [c])/\m.Nodup/\True/\∀c∈m,c∈l:=by
    have all:∀z∈ks,tx [z.cps.toList.headD 0]=z:=fun z hz=>by
     obtain⟨j,_,e⟩:=(mem z).mp hz
     subst e;rfl
    have em:ks=(ks.map fun z=>z.cps.toList.headD 0).map fun c=>tx [c]:=by
     rw[aM]
     conv=>lhs;rw[<- j' ks]
     exact bO fun z hz=>(all z hz).symm
    refine⟨_,em,?_,trivial,fun c hc=>?_⟩
    ·have nd':=nd
     rw[em]at nd'
     exact List.Pairwise.of_map (fun c=>tx [c]) (fun a b h e=>h (by rw[e])) nd'
    ·obtain⟨z,hz,rfl⟩:=aJ.mp hc
     obtain⟨j,hj,e⟩:=(mem z).mp hz
     subst e
     show l.getD j 0∈l
     rw[aC,ar hj]
     exact d_ hj
   rw[em,am]
   exact R3 m mn mm
  refine An z uU hh fun g0 g1 d tk' out ss ep k0 k1 gL uO hperm hsrt=>?_
  obtain⟨m,em,mn,mp,mm⟩:=ID hperm nd mem hsrt
  have I2:bE X af σ H1 { s1 with heap:=g0,drawn:=d,toks:=tk' }:=I1.kept2 fun b o e=>k0 b o (kp b o e)
  have sF:H1 g0.objs.size=none:=I2.hok.fresh (au _)
  have hvals:cA (m.map fun c=>V.str (tx [c])) out.toList:=by
   have e:=mY uO
   rw[em,aM]at e
   exact e
  refine⟨.ref g0.objs.size,_,I2.laid (o:=.lst (m.map fun c=>V.str (tx [c]))) (t':=tk') k1 (au _) ?_,rfl,q m mn mp mm _ _ sF rfl⟩
  refine⟨?_,out.toList,ep,hvals,gL⟩
  rw[am]
  exact bd (dH (R3 m mn fun c hc=>(mm c).mp hc)) (by decide)
 rcases hl with rfl|⟨a,rfl,hT⟩
 ·obtain⟨t,rfl⟩:=r1
  exact EM hh hb' lj
 ·cases r1
  obtain⟨its,rv,ht,_⟩:=I1.tuple hT
  exact IC hh hb' ht rv lj⟩
def TK(K:Frag):List V->Hp->VK->Prop:=fun xs H Q=>∃(p:Addr) (bs:List Bool),xs=[.ref p]/\nG K H p (bs.map V.bl)/\Q (.bl (bs.all id)) H
theorem Qe(hc:X.calm=true:=by rfl):KD X (.builtin "all") (TK X.K):=⟨by
 intro af s σ H xs us Q I r h
 obtain⟨p,bs,rfl,hS,q⟩:=h
 obtain⟨u,rfl,ru⟩:=pq r
 cases ru
 obtain⟨its,rv,pl,hz⟩:=I.list hS
 have hh:=I.ok.hd hc
 have hl:s.heap.IsList p its.toArray:=pl.isList
 have hlt:p<s.heap.objs.size:=by obtain⟨o,ho,_⟩:=hl;exact ax ho
 have c_:its.toArray.size=bs.length:=by have:=rv.length;rw[am]at this;simpa using this.symm
 refine call_all_walk (jm hl ?_)
 refine⟨_,_,_,_,_,_,fun i=>bs.getD i true,rfl,Walks.list (A:=X.A.in1) (by simpa using hh) _ p (aN hlt) its.toArray,⟨⟨_,aq _ rfl,rfl,rfl⟩,hl.at fun o e=>aj _ e⟩,?_,fun h' tk kp=>?_⟩
 ·intro i v s Q E hP hQ
  have hi:its[i]?=some v:=by simpa using hP
  have hlt:i<bs.length:=by
   have:=(ao.mp hi).1
   rw[<- c_];simpa using this
  have hx:(bs.map V.bl)[i]?=some (.bl bs[i]):=by rw[ak,ar hlt];rfl
  obtain⟨u,hu,ru⟩:=rv.get hx
  rw[hi]at hu
  obtain rfl:v=.bool bs[i]:=(a9 hu).trans ru
  refine dL ?_
  have e:bs.getD i true=bs[i]:=by rw[aC,ar hlt];rfl
  rw[<- e];exact hQ
 ·have e:(List.range its.toArray.size).all (fun i=>bs.getD i true)=bs.all id:=by
   rw[c_]
   conv=>rhs;rw[<- range_getD bs true]
   rw[List.all_map];rfl
  rw[e]
  refine⟨.bl _,H,I.kept (t':=tk) fun b o eb=>kp b o (fun hm=>?_) (aj _ eb),rfl,q⟩
  rw[ba]at hm
  exact absurd (ax eb) (by rw[hm];exact cw _)⟩
section
variable{w:World}
end
section
variable{g:TG}
theorem Ao{x0:Str}{p0 p1:Pos}{gx:TG}(Ki:PG X (.Name x0 p0) gx)(Kp:swapsWith (.ListComp km [⟨tg,b9,jb,0⟩] scope pos) (some (.Name x0 p0)) p1.line X.env=pure true)(fC:X.calm=true)(uS:closureFor scope X.env=pure cl)(mh:∀x c,cl.lookup x=some c->X.env.cells.lookup x=some c)
  (ef:scope.kind=.function) (qe:∀x∈scope.names,x.2=.local->scope.names.lookup x.1=some .local) (iP:∀y∈scope.names,y.2≠.cell)
  (A5:∀x,((relabel scope X.env).names.lookup x=some .cell\/(relabel scope X.env).names.lookup x=some .free)->∃c,cl.lookup x=some c)
  (qb:∀(i j:Nat),cap[i]?=some (some j)->∃x,nm[i]?=some x/\X.N[j]?=some x/\tM X scope cl x) (c_:cap.length=nm.length)
  (hi:PI X tg b9 wi) (hg:∀C s0 H0 fp,PG (bV X nm scope cl C s0 H0 fp) tg g) (ht:∀C s0 H0 fp,Ev (bV X nm scope cl C s0 H0 fp) jb tc)
  (he:∀C s0 H0 fp,PE (bV X nm scope cl C s0 H0 fp) km te) (hs:∀x,foldedSetIterable b9 X.env x=pure x:=by intro _;rfl) :
  PS X (.Assign [.Name x0 p0] (.ListComp km [⟨tg,b9,jb,0⟩] scope pos) p1) (Ec (pw cap wi g tc te) gx):=by
 intro af s σ H D I h
 rw[exec_Assign_Name_used _ _ _ _ Kp]
 suffices main:wpAny (model X.prog X.w) X.A (comprehension (.ListComp km [⟨tg,b9,jb,0⟩] scope pos) scope X.env (firstIterPos [⟨tg,b9,jb,0⟩] pos) (newList []) (firstAsync [⟨tg,b9,jb,0⟩]) (firstIter [⟨tg,b9,jb,0⟩] X.env) (some (assign (.Name x0 p0) X.env))) (fun _ s'=>SP X af D .next s') X.xe s from
  aa (pI (aa (aa (dJ main (fun _ s' h=>ae (ae h)) fun _ _ z=>z))))
 refine vx fC uS mh ef qe iP A5 qb c_ hi hg ht he hs I h fun s4 C D m4 Hn I4 B q=>?_
 obtain⟨oC,es,ep,hoC,hdC,hrC⟩:=B.ns
 refine dJ (Ki _ s4 σ _ (.ref D) (.ref D) _ (I4.pins_of (pins':=af++[(C,oC)]) fun p hp=>?_) rfl q) (fun _ s5 h5=>?_) fun _ _ z=>z
 ·rcases br.mp hp with z|z
  ·exact I4.pin p (aX _ z)
  ·have e:p=(C,oC):=by simpa using z
   subst e
   exact⟨hoC,B.fr,B.nl,B.nf,fun v z=>by rw[hdC]at z;cases z⟩
 obtain⟨σ',H',I6,nx⟩:=h5
 have pC:=I6.pin (C,oC) (aX _ (aX _ (ba.mpr rfl)))
 have I7:bE X af σ' H' s5:=I6.pins_of fun p hp=>I6.pin p (aX _ (fX _ hp))
 have B7:yb X af H' s5 C m4:=⟨⟨oC,es,ep,pC.1,hdC,hrC⟩,pC.2.1,B.nl,B.nf,B.hi,B.nc,B.np⟩
 exact⟨m4,B7.ns,fun h' hs'=>⟨σ',H',B7.off I7 hs',nx⟩⟩
end
theorem tR{x0:Str}{p0 p1:Pos}{gx:TG}{pos:Pos}{g:TG}(Ki:QG X (.Name x0 p0) gx)(fC:X.calm=true)
  (gE:X.env.cells=cellsFrom m X.env.scope.names []) (ef:scope.kind=.function) (hB:tP X.env.scope.names scope.names nm cap X.N=true)
  (hi:QI X tg b9 wi) (hg:∀cl C s0 H0 fp,QG (bV X nm scope cl C s0 H0 fp) tg g) (ht:∀cl C s0 H0 fp,Qc (bV X nm scope cl C s0 H0 fp) jb tc)
  (he:∀cl C s0 H0 fp,QE (bV X nm scope cl C s0 H0 fp) km te) (hs:∀x,foldedSetIterable b9 X.env x=pure x:=by intro _;rfl) (Kp:swapsWith (.ListComp km [⟨tg,b9,jb,0⟩] scope pos) (some (.Name x0 p0)) p1.line X.env=pure true:=by first|rfl|kernel_rfl) :
  QS X (.Assign [.Name x0 p0] (.ListComp km [⟨tg,b9,jb,0⟩] scope pos) p1) (Ec (pw cap wi g tc te) gx):=by
 have F:=M0 (nm:=nm) (cap:=cap) (fun x z=>by rw[gE];exact hZ z) hB
 exact⟨Ao Ki.h Kp fC F.clos F.cl ef F.nms F.cell F.has F.cp F.len hi.h (fun C s0 H0 fp=>(hg _ C s0 H0 fp).h) (fun C s0 H0 fp=>(ht _ C s0 H0 fp).h) (fun C s0 H0 fp=>(he _ C s0 H0 fp).h) hs⟩
open AutoSeq1 (wpAny_loadPart')
theorem EO(l b:Addr)(i1 i2:Array Value)(n1 n2:Nat)(d1 d2:Option Addr)(s1 s2:Array (Option Value))(h0:i1.isEmpty=true) :
  Meets (Builtin.«tuple.__add__» ⟨[.ref l,.ref b],[]⟩) (fun _ R s=>s.heap.get? l=some { cls:=.type "tuple",dict:=d1,data:=.seq i1 n1,slots:=s1 }/\s.heap.get? b=some { cls:=.type "tuple",dict:=d2,data:=.seq i2 n2,slots:=s2 }/\R (.ok (.ret (.ref b))) s):=
 .of_wp fun prog w A R s h=>by
  obtain⟨hp,g,d,tk,os⟩:=s
  obtain⟨e1,e2,h⟩:=h
  have a2:=PyProof.Rows.sub_tuple_tuple
  wp_walk using bC e1,bC e2
  exact⟨_,rfl,h⟩
def Qf(K:Frag):R2:=fun x y H Q=>∃a b xs ys,x=.ref a/\y=.ref b/\fj K H a xs/\fj K H b ys/\xs.length+ys.length<=sizeLine/\∀p H2,o_ H H2->fj K H2 p (xs++ys)->Q (.ref p) H2
theorem M2:Up X (binaryOp .Add) (Qf X.K):=⟨by
 intro af s σ H x y v u Q I rx ry h
 obtain⟨a,b,xs,ys,rfl,rfl,ha,hb,hz,q⟩:=h
 by_cases hx:xs=[]
 ·subst hx
  cases rx
  cases ry
  obtain⟨its,r1,p1,_⟩:=I.tuple ha
  obtain⟨its2,r2,p2,_⟩:=I.tuple hb
  have e1:its=[]:=r1.nil_iff.mpr rfl
  obtain⟨⟨c1,d1,g1,l1⟩,f1,hc1,n1,hd1⟩:=id p1
  obtain⟨⟨c2,d2,g2,l2⟩,f2,hc2,n2,hd2⟩:=id p2
  simp only at hc1 hd1 hc2 hd2
  subst hc1 hd1 hc2 hd2
  refine qX ⟨_,f1,rfl⟩ ⟨_,f2,rfl⟩ mJ pJ PySem.F.slot_tuple_add PySem.F.entry_tuple_add (PySem.F.args_tuple_add_2 _ _) (EO a b its.toArray its2.toArray n1 n2 d1 d2 l1 l2 (by rw[e1];rfl)) ⟨f1,f2,?_⟩
  exact⟨.ref b,H,I,rfl,q b H (o_.refl H) hb⟩
 ·exact Ib af s σ H _ _ v u Q I rx ry ⟨a,b,xs,ys,rfl,rfl,ha,hb,hx,hz,fun e=>q a H (o_.refl H) (by rw[e,cW];exact ha),fun _ p hp=>q p _ (cn hp _) (fj.of cO)⟩⟩
inductive W where
 |non|bl (b:Bool)|int (i:Int)|str (l:List Nat)|tup (ws:List W)|loc (n:Nat)
inductive DK where
 |i (z:Int)|s (l:List Nat)
deriving DecidableEq
def DK.key:DK->i9
 |.i z=>.inl z
 |.s l=>.inr (tx l)
inductive KX where
 |bo (b:Bool)|fl (ks:List Int)|pr (i:Int) (ks:List Int)
deriving DecidableEq
def KX.w:KX->W
 |.bo b=>.bl b
 |.fl ks=>.tup (ks.map W.int)
 |.pr i ks=>.tup [.int i,.tup (ks.map W.int)]
def EQ(ks:List Int):Int:=reduceHash (Builtin.Tuple.tupleHashOf (ks.map hashInt))
def KX.hash:KX->Int
 |.bo b=>hashInt (if b then 1 else 0)
 |.fl ks=>EQ ks
 |.pr i ks=>reduceHash (Builtin.Tuple.tupleHashOf [hashInt i,EQ ks])
inductive al where
 |lst (ws:List W)
 |ro (ws:List W)
 |exc (c:Str)
 |dct (kvs:List (DK×W))
 |tab (P:Addr) (pos:Pos) (q:Str)
 |rod (kvs:List (DK×W))
 |dcx (kvs:List (KX×W))
 |rox (kvs:List (KX×W))
 |pin (k:Bool) (c:Addr) (o:Obj) (w:W)
 |gone
abbrev jx:Nat:=1000000
theorem iX(h:n<=jx):n<=sizeLine:=bd h (by decide)
theorem M3(h:n<=jx):n<sizeLine:=fI h (by decide)
inductive R(α:Type) where
 |ok (a:α) (st:List al)
 |ex (c:Str) (st:List al)
 |bad
end L2
variable{st bD st1:List L2.al}{f f':L2.W->L2.W->List L2.al->L2.R L2.W}{kvs:List (L2.KX×L2.W)}{ws cws:List L2.W}{F:List L2.W->List L2.al->L2.R L2.W}{G:List L2.W->List L2.al->L2.R (List L2.W)}{ck:Option (Nat×List L2.W)}
namespace L2
open PySem PySem.Spec PyProof.Rows
def R.bind:R α->(α->List al->R β)->R β
 |.ok a st,k=>k a st
 |.ex c st,_=>.ex c st
 |.bad,_=>.bad
@[simp] theorem R.bind_ok{α β:Type}(a:α)(st:List al)(k:α->List al->R β):(R.ok a st).bind k=k a st:=rfl
@[simp] theorem R.bind_ex{α β:Type}(c:Str)(st:List al)(k:α->List al->R β):(R.ex c st:R α).bind k=.ex c st:=rfl
@[simp] theorem R.bind_bad{α β:Type}(k:α->List al->R β):(R.bad:R α).bind k=.bad:=rfl
abbrev ca:=List (Option W)
inductive RS where
 |nx (ρ:ca) (st:List al)|rt (w:W) (st:List al)|bk (ρ:ca) (st:List al)|ct (ρ:ca) (st:List al)
 |ex (c:Str) (ρ:ca) (st:List al)|bad
abbrev FE:=ca->List al->R W
abbrev FT:=ca->List al->R Bool
abbrev FA:=ca->List al->R (List W)
abbrev FS:=ca->List al->RS
section
variable(K:Frag)
mutual
def bj(μ:List Addr)(H:Hp):W->V->Prop
 |.non,v=>v=.non
 |.bl b,v=>v=.bl b
 |.int i,v=>v=.int i
 |.str l,v=>v=.str (tx l)
 |.tup ws,v=>∃p vs,v=.ref p/\fj K H p vs/\RelWs μ H ws vs
 |.loc n,v=>∃a,μ[n]?=some a/\v=.ref a
def RelWs(μ:List Addr)(H:Hp):List W->List V->Prop
 |[],vs=>vs=[]
 |w::ws,vs=>∃x xs,vs=x::xs/\bj μ H w x/\RelWs μ H ws xs
end
end
theorem aZ(h:μ <+: μ')(e:μ[n]?=some a):μ'[n]?=some a:=by
 obtain⟨t,rfl⟩:=h
 rw[a_ (ao.mp e).1];exact e
section
mutual
theorem bj.mono(h:μ <+: μ')(e:dg K H H'):∀{w:W} {v:V},bj K μ H w v->bj K μ' H' w v
 |.non,_,r=>by unfold bj at r ⊢;exact r
 |.bl _,_,r=>by unfold bj at r ⊢;exact r
 |.int _,_,r=>by unfold bj at r ⊢;exact r
 |.str _,_,r=>by unfold bj at r ⊢;exact r
 |.tup _,_,r=>by unfold bj at r ⊢;obtain⟨p,vs,a,b,c⟩:=r;exact⟨p,vs,a,e _ _ b,RelWs.mono h e c⟩
 |.loc _,_,r=>by unfold bj at r ⊢;obtain⟨a,b,c⟩:=r;exact⟨a,aZ h b,c⟩
theorem RelWs.mono(h:μ <+: μ')(e:dg K H H'):∀{ws:List W} {vs:List V},RelWs K μ H ws vs->RelWs K μ' H' ws vs
 |[],_,r=>by unfold RelWs at r ⊢;exact r
 |_::_,_,r=>by unfold RelWs at r ⊢;obtain⟨x,xs,a,b,c⟩:=r;exact⟨x,xs,a,bj.mono h e b,RelWs.mono h e c⟩
end
theorem RelWs.nilI:RelWs K μ H [] []:=by unfold RelWs;rfl
theorem RelWs.consI{w:W}{x:V}{xs:List V}(a:bj K μ H w x)(b:RelWs K μ H ws xs):RelWs K μ H (w::ws) (x::xs):=by unfold RelWs;exact⟨x,xs,rfl,a,b⟩
theorem RelWs.nilE(h:RelWs K μ H [] vs):vs=[]:=by unfold RelWs at h;exact h
theorem RelWs.consE{w:W}(h:RelWs K μ H (w::ws) vs):∃x xs,vs=x::xs/\bj K μ H w x/\RelWs K μ H ws xs:=by unfold RelWs at h;exact h
theorem RelWs.pr:∀{ws:List W} {vs:List V},RelWs K μ H ws vs↔Paired (fun w v=>bj K μ H w v) ws vs
 |[],vs=>⟨fun h=>by rw[h.nilE];exact .nil,fun h=>by cases h;exact .nilI⟩
 |w::ws,vs=>⟨fun h=>by obtain⟨x,xs,rfl,a,b⟩:=h.consE;exact .cons a (RelWs.pr.mp b),fun h=>by cases h with|cons a b=>exact .consI a (RelWs.pr.mpr b)⟩
theorem RelWs.len(h:RelWs K μ H ws vs):ws.length=vs.length:=Paired.length (RelWs.pr.mp h)
theorem RelWs.app:∀{as:List W} {xs:List V} {bs:List W} {ys:List V},RelWs K μ H as xs->RelWs K μ H bs ys->RelWs K μ H (as++bs) (xs++ys)
 |[],xs,bs,ys,a,b=>by rw[a.nilE];exact b
 |w::as,xs,bs,ys,a,b=>by obtain⟨x,xs,rfl,c,d⟩:=a.consE;exact .consI c (RelWs.app d b)
theorem RelWs.get:∀{ws:List W} {vs:List V} {i:Nat} {w:W},RelWs K μ H ws vs->ws[i]?=some w->∃v,vs[i]?=some v/\bj K μ H w v
 |[],_,_,_,_,e=>by simp at e
 |x::ws,vs,0,w,h,e=>by obtain⟨y,ys,rfl,a,b⟩:=h.consE;simp at e;subst e;exact⟨y,rfl,a⟩
 |x::ws,vs,i+1,w,h,e=>by obtain⟨y,ys,rfl,a,b⟩:=h.consE;simpa using RelWs.get (i:=i) b (by simpa using e)
theorem RelWs.take:∀{ws:List W} {vs:List V} (n:Nat),RelWs K μ H ws vs->RelWs K μ H (ws.take n) (vs.take n)
 |_,_,0,_=>by simp only[List.take_zero];exact .nilI
 |[],vs,n+1,h=>by rw[h.nilE];exact .nilI
 |x::ws,vs,n+1,h=>by obtain⟨y,ys,rfl,a,b⟩:=h.consE;exact .consI a (RelWs.take n b)
theorem RelWs.drop:∀{ws:List W} {vs:List V} (n:Nat),RelWs K μ H ws vs->RelWs K μ H (ws.drop n) (vs.drop n)
 |_,_,0,h=>h
 |[],vs,n+1,h=>by rw[h.nilE];exact .nilI
 |x::ws,vs,n+1,h=>by obtain⟨y,ys,rfl,a,b⟩:=h.consE;exact RelWs.drop n b
theorem bj.intE{i:Int}(h:bj K μ H (.int i) v):v=.int i:=by unfold bj at h;exact h
theorem bj.blE{b:Bool}(h:bj K μ H (.bl b) v):v=.bl b:=by unfold bj at h;exact h
theorem bj.nonE(h:bj K μ H .non v):v=.non:=by unfold bj at h;exact h
theorem bj.strE(h:bj K μ H (.str l) v):v=.str (tx l):=by unfold bj at h;exact h
theorem bj.tupE(h:bj K μ H (.tup ws) v):∃p vs,v=.ref p/\fj K H p vs/\RelWs K μ H ws vs:=by unfold bj at h;exact h
theorem bj.locE(h:bj K μ H (.loc n) v):∃a,μ[n]?=some a/\v=.ref a:=by unfold bj at h;exact h
theorem bj.int{i:Int}:bj K μ H (.int i) (.int i):=by unfold bj;rfl
theorem bj.bl{i:Bool}:bj K μ H (.bl i) (.bl i):=by unfold bj;rfl
theorem bj.non:bj K μ H .non .non:=by unfold bj;rfl
theorem bj.str:bj K μ H (.str l) (.str (tx l)):=by unfold bj;rfl
theorem bj.tupI{p:Addr}(a:fj K H p vs)(b:RelWs K μ H ws vs):bj K μ H (.tup ws) (.ref p):=by unfold bj;exact⟨p,vs,rfl,a,b⟩
theorem bj.locI(e:μ[n]?=some a):bj K μ H (.loc n) (.ref a):=by unfold bj;exact⟨a,e,rfl⟩
end
def Qg(a:Addr)(C:Value):HO:=.ext fun h=>∃o vs,h.get? a=some o/\o.cls=C/\o.data=.fields vs
def jX(b:Addr)(q:Str):HO:=.ext fun h=>∃o vs t,h.get? b=some o/\o.data=.fields vs/\vs[1]?=some (.str q t)
def SC(K:Frag)(H:Hp)(a:Addr)(xs:List V):Prop:=
 (∃o,H a=some (.frz o (.lst xs)))\/∃(o:Obj) (its:Array Value) (n:Nat),K.lookup a=some o/\o.cls=.type "list"/\o.dict=none/\o.data=.seq its n/\its.size<=sizeLine/\cA xs its.toList
theorem SC.sq{xs:List V}(h:SC K H a xs):nG K H a xs:=by
 rcases h with⟨o,h⟩|h
 ·exact .inl (.inr ⟨o,h⟩)
 ·exact .inr h
def al.isRo:al->Bool
 |.ro _=>true
 |.gone=>true
 |_=>false
def DX(a:Addr)(es:List DictEntry):Heap->Prop:=fun h=>∃o ep,h.get? a=some o/\o.ExactDict/\o.data=.dict es.toArray ep
abbrev xP(a:Addr)(es:List DictEntry):HO:=.ext (DX a es)
def pS(K:Frag)(μ:List Addr)(H:Hp)(p:KX×W)(e:DictEntry):Prop:=e.hash=p.1.hash/\(∃v,bj K μ H p.1.w v/\cf v e.key)/\∃v,bj K μ H p.2 v/\cf v e.val
def mv(a:Addr)(o:Obj):HO:=.ext fun h=>h.get? a=some o
def lN(K:Frag)(mg:Str->Option Value)(μ:List Addr)(H:Hp):al->Addr->Prop
 |.lst ws,a=>∃vs,H a=some (.lst vs)/\RelWs K μ H ws vs
 |.ro ws,a=>∃vs,SC K H a vs/\RelWs K μ H ws vs
 |.exc c,a=>∃C,mg c=some C/\H a=some (Qg a C)
 |.dct kvs,a=>∃vs,H a=some (.dK ((kvs.map fun p=>p.1.key).zip vs))/\RelWs K μ H (kvs.map fun p=>p.2) vs
 |.rod kvs,a=>∃vs o,H a=some (.frz o (.dK ((kvs.map fun p=>p.1.key).zip vs)))/\RelWs K μ H (kvs.map fun p=>p.2) vs
 |.dcx kvs,a=>∃es,H a=some (xP a es)/\(a==sysModules)=false/\Paired (pS K μ H) kvs es/\(kvs.map fun p=>p.1).Nodup
 |.rox kvs,a=>∃es o,H a=some (.frz o (xP a es))/\(a==sysModules)=false/\Paired (pS K μ H) kvs es/\(kvs.map fun p=>p.1).Nodup
 |.tab P pos q,a=>a=P/\∃ps,H a=some (.tbl ps)/\TriplesOk ps.toList/\(codeAmong pos ps.toList=none\/∃c,codeAmong pos ps.toList=some (.ref c)/\H c=some (jX c q))
 |.pin k c o w,a=>a=c/\H a=some (mv a o)/\(k=false->∃fd cd,o.data=.func fd/\fd.code=.ref cd/\H cd=some (jX cd fd.qualname))/\∃v,bj K μ H w v/\(k=true->∃u,o.data=.cell (some u)/\cf v u)
 |.gone,_=>True
structure fO(K:Frag)(mg:Str->Option Value)(μ:List Addr)(st:List al)(H:Hp):Prop where
 nd:∀(i j:Nat) (a:Addr) (ci cj:al),st[i]?=some ci->st[j]?=some cj->ci.isRo=false->cj.isRo=false->μ[i]?=some a->μ[j]?=some a->i=j
 len:st.length=μ.length
 at':∀(i:Nat) (c:al) (a:Addr),st[i]?=some c->μ[i]?=some a->lN K mg μ H c a
section
theorem pS.mono(h:μ <+: μ')(x:dg K H H'){p:KX×W}{e:DictEntry}(r:pS K μ H p e):pS K μ' H' p e:=by
 obtain⟨a,⟨v,b,c⟩,u,d,g⟩:=r
 exact⟨a,⟨v,b.mono h x,c⟩,u,d.mono h x,g⟩
theorem lN.keep(h:μ <+: μ')(x:dg K H H'){c:al}(e:∀o,H a=some o->H' a=some o)(e2:∀b q,H b=some (jX b q)->H' b=some (jX b q))(r:lN K mg μ H c a):lN K mg μ' H' c a:=by
 cases c with
 |lst ws=>obtain⟨vs,p,y⟩:=r;exact⟨vs,e _ p,y.mono h x⟩
 |ro ws=>
  obtain⟨vs,p,y⟩:=r
  refine⟨vs,?_,y.mono h x⟩
  rcases p with⟨o,p⟩|p
  ·exact .inl ⟨o,e _ p⟩
  ·exact .inr p
 |exc c=>obtain⟨C,p,y⟩:=r;exact⟨C,p,e _ y⟩
 |dct kvs=>obtain⟨vs,p,y⟩:=r;exact⟨vs,e _ p,y.mono h x⟩
 |rod kvs=>obtain⟨vs,o,p,y⟩:=r;exact⟨vs,o,e _ p,y.mono h x⟩
 |dcx kvs=>obtain⟨es,p,d,y,z⟩:=r;exact⟨es,e _ p,d,Paired.imp' (fun _ _ q=>q.mono h x) y,z⟩
 |rox kvs=>obtain⟨es,o,p,d,y,z⟩:=r;exact⟨es,o,e _ p,d,Paired.imp' (fun _ _ q=>q.mono h x) y,z⟩
 |tab P pos q=>
  obtain⟨ea,ps,p,t,y⟩:=r
  refine⟨ea,ps,e _ p,t,?_⟩
  rcases y with y|⟨c,y,z⟩
  ·exact .inl y
  ·exact .inr ⟨c,y,e2 _ _ z⟩
 |pin k c o w=>obtain⟨ea,p,g,v,y,z⟩:=r;exact⟨ea,e _ p,fun q=>let ⟨fd,cd,q1,q2,q3⟩:=g q;⟨fd,cd,q1,q2,e2 _ _ q3⟩,v,y.mono h x,z⟩
 |gone=>trivial
theorem lN.ro_ne{c:al}(r:lN K mg μ H c a)(h:c.isRo=false):∃o,H a=some o:=by
 cases c with
 |lst ws=>obtain⟨vs,p,y⟩:=r;exact⟨_,p⟩
 |ro ws=>cases h
 |exc c=>obtain⟨C,p,y⟩:=r;exact⟨_,y⟩
 |dct kvs=>obtain⟨vs,p,y⟩:=r;exact⟨_,p⟩
 |rod kvs=>obtain⟨vs,o,p,y⟩:=r;exact⟨_,p⟩
 |dcx kvs=>obtain⟨es,p,_⟩:=r;exact⟨_,p⟩
 |rox kvs=>obtain⟨es,o,p,_⟩:=r;exact⟨_,p⟩
 |tab P pos q=>obtain⟨_,ps,p,_⟩:=r;exact⟨_,p⟩
 |pin k c o w=>obtain⟨_,p,_⟩:=r;exact⟨_,p⟩
 |gone=>cases h
theorem fO.same(S:fO K mg μ st H)(e:o_ H H'):fO K mg μ st H':=⟨S.nd,S.len,fun i c a h1 h2=>(S.at' i c a h1 h2).keep (ac _) (fj.same e) (e a) fun b q h=>e b _ h⟩
theorem fO.get(S:fO K mg μ st H){c:al}(h:st[n]?=some c):∃a,μ[n]?=some a/\lN K mg μ H c a:=by
 have hn:n<μ.length:=by rw[<- S.len];exact(ao.mp h).1
 exact⟨μ[n],ar hn,S.at' n c _ h (ar hn)⟩
theorem fO.push(S:fO K mg μ st H){p:Addr}{o:HO}{c:al}(hp:H p=none)(hc:lN K mg (μ++[p]) (eJ H p o) c p):fO K mg (μ++[p]) (st++[c]) (eJ H p o):=by
 have hs:o_ H (eJ H p o):=cn hp o
 have zN:μ <+: μ++[p]:=ag _ _
 have old:∀{i:Nat} {d:al} {a:Addr},i<st.length->(st++[c])[i]?=some d->(μ++[p])[i]?=some a->st[i]?=some d/\μ[i]?=some a:=fun{i d a} hi h1 h2=>by
  rw[a_ hi]at h1
  rw[a_ (by rw[<- S.len];exact hi)]at h2
  exact⟨h1,h2⟩
 have new:∀{i:Nat} {d:al} {a:Addr},¬ i<st.length->(st++[c])[i]?=some d->(μ++[p])[i]?=some a->i=st.length/\d=c/\a=p:=fun{i d a} hi h1 h2=>by
  have hi':i=st.length:=by
   have:=(ao.mp h1).1
   simp at this;omega
  subst hi'
  simp at h1
  rw[S.len,bw (au _)]at h2
  simp at h2
  exact⟨rfl,h1.symm,h2.symm⟩
 refine⟨fun i j a ci cj h1 h2 r1 r2 m1 m2=>?_,by simp[S.len],fun i d a h1 h2=>?_⟩
 ·by_cases hi:i<st.length
  ·obtain⟨x1,x2⟩:=old hi h1 m1
   by_cases hj:j<st.length
   ·obtain⟨y1,y2⟩:=old hj h2 m2
    exact S.nd i j a ci cj x1 y1 r1 r2 x2 y2
   ·obtain⟨_,_,rfl⟩:=new hj h2 m2
    obtain⟨o',z⟩:=(S.at' i ci a x1 x2).ro_ne r1
    rw[hp]at z;cases z
  ·obtain⟨e1,_,rfl⟩:=new hi h1 m1
   by_cases hj:j<st.length
   ·obtain⟨y1,y2⟩:=old hj h2 m2
    obtain⟨o',z⟩:=(S.at' j cj a y1 y2).ro_ne r2
    rw[hp]at z;cases z
   ·obtain⟨e2,_,_⟩:=new hj h2 m2
    omega
 ·by_cases hi:i<st.length
  ·obtain⟨x1,x2⟩:=old hi h1 h2
   exact(S.at' i d a x1 x2).keep zN (fj.same hs) (hs a) fun b q h=>hs b _ h
  ·obtain⟨_,rfl,rfl⟩:=new hi h1 h2
   exact hc
theorem fO.setG(S:fO K mg μ st H){c c':al}{o o':HO}(hn:st[n]?=some c)(xQ:c.isRo=false)(hm:μ[n]?=some a)(ha:H a=some o)(hf:∀q u,o≠.frz q u)(hg:∀q,o≠jX a q)(hx:dg K H (eJ H a o'))(U1:c'.isRo=false)(hr:lN K mg μ (eJ H a o') c' a):fO K mg μ (st.set n c') (eJ H a o'):=by
 have hl:n<st.length:=(ao.mp hn).1
 have back:∀{i:Nat} {d:al},(st.set n c')[i]?=some d->∃d',st[i]?=some d'/\(d'=d\/(i=n/\d=c')):=fun{i d} h=>by
  by_cases e:i=n
  ·subst e
   rw[bP hl]at h
   exact⟨_,hn,.inr ⟨rfl,(a9 h).symm⟩⟩
  ·rw[cB (Ne.symm e)]at h
   exact⟨d,h,.inl rfl⟩
 refine⟨fun i j b ci cj h1 h2 r1 r2 m1 m2=>?_,by simp[S.len],fun i d b h1 h2=>?_⟩
 ·obtain⟨di,x1,y1⟩:=back h1
  obtain⟨dj,x2,y2⟩:=back h2
  refine S.nd i j b di dj x1 x2 ?_ ?_ m1 m2
  ·rcases y1 with rfl|⟨rfl,rfl⟩
   ·exact r1
   ·rw[hn]at x1;cases x1;exact xQ
  ·rcases y2 with rfl|⟨rfl,rfl⟩
   ·exact r2
   ·rw[hn]at x2;cases x2;exact xQ
 ·by_cases e:i=n
  ·subst e
   rw[bP hl]at h1
   cases h1
   rw[hm]at h2;cases h2
   exact hr
  ·rw[cB (Ne.symm e)]at h1
   have r:=S.at' i d b h1 h2
   by_cases hrd:d.isRo=true
   ·cases d with
    |ro zs=>
     obtain⟨us,p,q⟩:=r
     refine⟨us,?_,q.mono (ac _) hx⟩
     rcases p with⟨o2,p⟩|p
     ·exact .inl ⟨o2,by rw[bY (by rintro rfl;rw[ha]at p;cases p;exact hf _ _ rfl)];exact p⟩
     ·exact .inr p
    |lst _=>cases hrd
    |exc _=>cases hrd
    |dct _=>cases hrd
    |rod _=>cases hrd
    |dcx _=>cases hrd
    |rox _=>cases hrd
    |tab _ _ _=>cases hrd
    |pin _ _ _ _=>cases hrd
    |gone=>trivial
   ·refine r.keep (ac _) hx (fun o ho=>?_) fun b' q h=>by rw[bY (by rintro rfl;rw[ha]at h;cases h;exact hg _ rfl)];exact h
    have hb:b≠a:=by
     rintro rfl
     exact e (S.nd i n b d _ h1 hn (by simpa using hrd) xQ h2 hm)
    rw[bY hb];exact ho
theorem fO.set(S:fO K mg μ st H){Sl:List W}{uW:List V}(hn:st[n]?=some (.lst ws))(hm:μ[n]?=some a)(ha:H a=some (.lst vs))(hr:RelWs K μ H Sl uW):fO K mg μ (st.set n (.lst Sl)) (eJ H a (.lst uW)):=by
 have hx:dg K H (eJ H a (.lst uW)):=fj.but jd ha
 have hl:n<st.length:=(ao.mp hn).1
 have back:∀{i:Nat} {d:al},(st.set n (.lst Sl))[i]?=some d->∃d',st[i]?=some d'/\(d'=d\/(i=n/\d=.lst Sl)):=fun{i d} h=>by
  by_cases e:i=n
  ·subst e
   rw[bP hl]at h
   exact⟨_,hn,.inr ⟨rfl,(a9 h).symm⟩⟩
  ·rw[cB (Ne.symm e)]at h
   exact⟨d,h,.inl rfl⟩
 refine⟨fun i j b ci cj h1 h2 r1 r2 m1 m2=>?_,by simp[S.len],fun i d b h1 h2=>?_⟩
 ·obtain⟨di,x1,y1⟩:=back h1
  obtain⟨dj,x2,y2⟩:=back h2
  refine S.nd i j b di dj x1 x2 ?_ ?_ m1 m2
  ·rcases y1 with rfl|⟨rfl,rfl⟩
   ·exact r1
   ·rw[hn]at x1;cases x1;rfl
  ·rcases y2 with rfl|⟨rfl,rfl⟩
   ·exact r2
   ·rw[hn]at x2;cases x2;rfl
 ·by_cases e:i=n
  ·subst e
   rw[bP hl]at h1
   cases h1
   rw[hm]at h2;cases h2
   exact⟨uW,cO,hr.mono (ac _) hx⟩
  ·rw[cB (Ne.symm e)]at h1
   have r:=S.at' i d b h1 h2
   by_cases xQ:d.isRo=true
   ·cases d with
    |ro zs=>
     obtain⟨us,p,q⟩:=r
     refine⟨us,?_,q.mono (ac _) hx⟩
     rcases p with⟨o',p⟩|p
     ·exact .inl ⟨o',by rw[bY (by rintro rfl;rw[ha]at p;cases p)];exact p⟩
     ·exact .inr p
    |lst _=>cases xQ
    |exc _=>cases xQ
    |dct _=>cases xQ
    |rod _=>cases xQ
    |dcx _=>cases xQ
    |rox _=>cases xQ
    |tab _ _ _=>cases xQ
    |pin _ _ _ _=>cases xQ
    |gone=>trivial
   ·refine r.keep (ac _) hx (fun o ho=>?_) fun b' q h=>by rw[bY (by rintro rfl;rw[ha]at h;cases h)];exact h
    have hb:b≠a:=by
     rintro rfl
     exact e (S.nd i n b d _ h1 hn (by simpa using xQ) rfl h2 hm)
    rw[bY hb];exact ho
end
structure Rl(X:Cx)(μ:List Addr)(ρ:ca)(st:List al)(σ:St)(H:Hp):Prop where
 env:Paired (fun(o:Option W) (s:Option V)=>∀w,o=some w->∃v,s=some v/\bj X.K μ H w v) ρ σ
 sto:fO X.K X.mg μ st H
theorem rg(h:μ <+: μ')(x:dg K H H'):∀{ρ:ca} {σ:St},Paired (fun(o:Option W) (s:Option V)=>∀w,o=some w->∃v,s=some v/\bj K μ H w v) ρ σ ->
  Paired (fun(o:Option W) (s:Option V)=>∀w,o=some w->∃v,s=some v/\bj K μ' H' w v) ρ σ
 |_,_,.nil=>.nil
 |_,_,.cons a t=>.cons (fun w e=>let ⟨v,p,q⟩:=a w e;⟨v,p,q.mono h x⟩) (rg h x t)
theorem Rl.to{ρ:ca}(r:Rl X μ ρ st σ H)(h:μ <+: μ')(x:dg X.K H H')(s:fO X.K X.mg μ' bD H'):Rl X μ' ρ bD σ H':=⟨rg h x r.env,s⟩
theorem ou:∀{ρ:ca} {σ:St} {i:Nat} {w:W},Paired (fun(o:Option W) (s:Option V)=>∀w,o=some w->∃v,s=some v/\bj K μ H w v) ρ σ->ρ[i]?=some (some w)->∃v,σ[i]?=some (some v)/\bj K μ H w v
 |_,_,_,_,.nil,e=>by simp at e
 |_,_,0,w,.cons a t,e=>by simp at e;obtain⟨v,p,q⟩:=a w e;exact⟨v,by simp[p],q⟩
 |_,_,i+1,w,.cons a t,e=>by simpa using ou (i:=i) t (by simpa using e)
theorem ql{w:W}(r:bj K μ H w v):∀{ρ:ca} {σ:St} (i:Nat),Paired (fun(o:Option W) (s:Option V)=>∀w,o=some w->∃v,s=some v/\bj K μ H w v) ρ σ ->
  Paired (fun(o:Option W) (s:Option V)=>∀w,o=some w->∃v,s=some v/\bj K μ H w v) (ρ.set i (some w)) (σ.set i (some v))
 |_,_,_,.nil=>.nil
 |_,_,0,.cons a t=>.cons (fun w' e=>⟨v,rfl,by cases e;exact r⟩) t
 |_,_,i+1,.cons a t=>.cons a (ql r i t)
structure vB(X:Cx)(af:List (Addr×Obj))(σ:St)(c:Str)(H:Hp)(e:Value)(s:Shared):Prop where
 inv:bE X af σ H s
 ex:∃x C t B,e=.ref x/\X.mg c=some C/\H x=none/\B.StaysIn s.heap/\B.get? x=none/\s.heap.FunFrames B X.stack /\
  (s.heap.TracedW B x C (.ref t)\/(∃oe vs,s.heap.get? x=some oe/\oe.cls=C/\oe.dict=none/\oe.data=.fields vs/\vs[1]?=some .none/\vs[0]?=some (.ref t))\/∃L,X.env.frame=some L/\s.heap.TracedAtW B x C (.ref t) (rawInt L)) /\
  ∀b o,s.heap.get? b=some o->(H b≠none\/((∃o0,X.s₀.heap.get? b=some o0)/\b∉X.fs/\b∉X.ex)\/((∃y,X.env.cells.lookup y=some b)/\b∉r_ X.stack)\/∃p∈X.pn++af,p.1=b)->B.get? b=some o
def XS(X:Cx)(c:Str)(μ:List Addr)(ρ:ca)(st:List al)(H:Hp):Prop:=
 ∀af μ' σ' H' e s',μ <+: μ'->dg X.K H H'->Rl X μ' ρ st σ' H'->vB X af σ' c H' e s'->X.xe e s'
def XE(X:Cx)(c:Str)(μ:List Addr)(st:List al)(σ:St)(H:Hp):Prop:=
 ∀af μ' H' e s',μ <+: μ'->dg X.K H H'->fO X.K X.mg μ' st H'->vB X af σ c H' e s'->X.xe e s'
theorem XE.mono{c:Str}{μ1:List Addr}{H1:Hp}(h:XE X c μ st σ H)(p:μ <+: μ1)(x:dg X.K H H1):XE X c μ1 st σ H1:=fun af μ' H' e s' a b=>h af μ' H' e s' (p.trans a) (x.trans b)
theorem XS.mono{c:Str}{μ1:List Addr}{ρ:ca}{H1:Hp}(h:XS X c μ ρ st H)(p:μ <+: μ1)(x:dg X.K H H1):XS X c μ1 ρ st H1:=fun af μ' σ' H' e s' a b=>h af μ' σ' H' e s' (p.trans a) (x.trans b)
theorem XS.toE{c:Str}{ρ:ca}{Hq:List al}(h:XS X c μ ρ st H)(r:Rl X μ ρ Hq σ H):XE X c μ st σ H:=fun af μ' H' e s' a b s f=>h af μ' σ H' e s' a b (r.to a b s) f
def RK(X:Cx)(rel:List Addr->Hp->α->β->Prop)(μ:List Addr)(σ:St)(H:Hp)(Q:β->Hp->Prop):R α->Prop
 |.ok a bD=>∀μ' b H',μ <+: μ'->dg X.K H H'->fO X.K X.mg μ' bD H'->rel μ' H' a b->Q b H'
 |.ex c bD=>XE X c μ bD σ H
 |.bad=>False
theorem RK.mono{rel:List Addr->Hp->α->β->Prop}{μ1:List Addr}{H1:Hp}{Q:β->Hp->Prop}{r:R α}(h:RK X rel μ σ H Q r)(p:μ <+: μ1)(x:dg X.K H H1):RK X rel μ1 σ H1 Q r:=by
 cases r with
 |ok a st=>exact fun μ' b H' a1 b1=>h μ' b H' (p.trans a1) (x.trans b1)
 |ex c st=>exact XE.mono h p x
 |bad=>exact h
def tG(X:Cx)(rel:List Addr->Hp->α->β->Prop)(f:ca->List al->R α)(σ:St)(H:Hp)(Q:β->Hp->Prop):Prop:=
 ∃μ ρ st,Rl X μ ρ st σ H/\RK X rel μ σ H Q (f ρ st)
abbrev qm(X:Cx):List Addr->Hp->W->V->Prop:=fun μ H w v=>bj X.K μ H w v
abbrev TL(X:Cx):List Addr->Hp->List W->List V->Prop:=fun μ H w v=>RelWs X.K μ H w v
abbrev IF:List Addr->Hp->Bool->Bool->Prop:=fun _ _ a b=>a=b
abbrev tE(X:Cx)(f:FE):TE:=tG X (qm X) f
abbrev tT(X:Cx)(f:FT):TT:=tG X IF f
abbrev Qh(X:Cx)(f:FA):TA:=tG X (TL X) f
theorem RK.bind{α' β':Type}{rel:List Addr->Hp->α->β->Prop}{R5:List Addr->Hp->α'->β'->Prop}{ρ:ca}{r:R α}{k:α->List al->R α'}{Q:β'->Hp->Prop}{T:β->Hp->Prop}
  (h:RK X R5 μ σ H Q (r.bind k)) (l:Rl X μ ρ st σ H)
  (hk:∀μ' bD x v H',μ <+: μ'->dg X.K H H'->Rl X μ' ρ bD σ H'->rel μ' H' x v->RK X R5 μ' σ H' Q (k x bD)->T v H'):RK X rel μ σ H T r:=by
 cases r with
 |ok a bD=>exact fun μ' b H' p x s q=>hk μ' bD a b H' p x (l.to p x s) q (RK.mono h p x)
 |ex c bD=>exact h
 |bad=>exact h
def SK(X:Cx)(μ:List Addr)(H:Hp)(D:wc):RS->Prop
 |.nx ρ st=>∀μ' σ' H',μ <+: μ'->dg X.K H H'->Rl X μ' ρ st σ' H'->D.nx σ' H'
 |.bk ρ st=>∀μ' σ' H',μ <+: μ'->dg X.K H H'->Rl X μ' ρ st σ' H'->D.bk σ' H'
 |.ct ρ st=>∀μ' σ' H',μ <+: μ'->dg X.K H H'->Rl X μ' ρ st σ' H'->D.ct σ' H'
 |.rt w st=>∀μ' v H',μ <+: μ'->dg X.K H H'->fO X.K X.mg μ' st H'->bj X.K μ' H' w v->D.rt v H'
 |.ex c ρ st=>XS X c μ ρ st H
 |.bad=>False
theorem SK.mono{μ1:List Addr}{H1:Hp}{D:wc}{r:RS}(h:SK X μ H D r)(p:μ <+: μ1)(x:dg X.K H H1):SK X μ1 H1 D r:=by
 cases r with
 |nx ρ st=>exact fun μ' b H' a1 b1=>h μ' b H' (p.trans a1) (x.trans b1)
 |bk ρ st=>exact fun μ' b H' a1 b1=>h μ' b H' (p.trans a1) (x.trans b1)
 |ct ρ st=>exact fun μ' b H' a1 b1=>h μ' b H' (p.trans a1) (x.trans b1)
 |rt w st=>exact fun μ' b H' a1 b1=>h μ' b H' (p.trans a1) (x.trans b1)
 |ex c ρ st=>exact XS.mono h p x
 |bad=>exact h
def Qi(X:Cx)(g:FS):TS:=fun D σ H=>∃μ ρ st,Rl X μ ρ st σ H/\SK X μ H D (g ρ st)
structure SE(X:Cx)(e:Expr)(f:FE):Prop where
 h:PE X e (tE X f)
structure ST(X:Cx)(e:Expr)(f:FT):Prop where
 h:PT X e (tT X f)
structure SW(X:Cx)(e:Expr)(f:FT):Prop where
 h:PW X e (tT X f)
structure SA(X:Cx)(es:List Expr)(f:FA):Prop where
 h:PA X es (Qh X f)
structure SS(X:Cx)(s:Stmt)(g:FS):Prop where
 h:PS X s (Qi X g)
structure SB(X:Cx)(s:List Stmt)(g:FS):Prop where
 h:Cs X s (Qi X g)
theorem PE.imp{t t':TE}(h:PE X e t)(i:∀σ H Q,t' σ H Q->t σ H Q):PE X e t':=fun af s σ H Q I q=>h af s σ H Q I (i _ _ _ q)
theorem PT.imp{t t':TT}(h:PT X e t)(i:∀σ H Q,t' σ H Q->t σ H Q):PT X e t':=fun af s σ H Q I q=>h af s σ H Q I (i _ _ _ q)
theorem PW.imp{t t':TT}(h:PW X e t)(i:∀σ H Q,t' σ H Q->t σ H Q):PW X e t':=fun wh af s σ H Q I q=>h wh af s σ H Q I (i _ _ _ q)
theorem PA.imp{e:List Expr}{t t':TA}(h:PA X e t)(i:∀σ H Q,t' σ H Q->t σ H Q):PA X e t':=fun pos af s σ H Q I q=>h pos af s σ H Q I (i _ _ _ q)
theorem PS.imp{e:Stmt}{t t':TS}(h:PS X e t)(i:∀D σ H,t' D σ H->t D σ H):PS X e t':=fun af s σ H D I q=>h af s σ H D I (i _ _ _ q)
theorem Cs.imp{e:List Stmt}{t t':TS}(h:Cs X e t)(i:∀D σ H,t' D σ H->t D σ H):Cs X e t':=fun af s σ H D I q=>h af s σ H D I (i _ _ _ q)
section
variable{a b o:Expr}{dQ:List Expr}{fa fb fc fe:FE}{ft fu:FT}{fs:FA}
def ah(i:Nat):FE:=fun ρ st=>match ρ[i]? with
 |some (some w)=>.ok w st
 |_=>.bad
theorem aQ(i:Nat){pos:Pos}(hN:X.N[i]?=some x:=by rfl)(hv:Kv X.env.scope x:=by first|exact Or.inl rfl|exact Or.inr (Or.inl rfl)|exact Or.inr (Or.inr rfl))(hd:(x==("__debug__":Str))=false:=by decide)
  (om:(x==("__classdict__":Str))=false:=by decide):SE X (.Name x pos) (ah i):=⟨(pv i hN hv hd om).imp fun σ H Q h=>by
 obtain⟨μ,ρ,st,r,h⟩:=h
 unfold ah at h
 cases e:ρ[i]? with
 |none=>rw[e]at h;exact h.elim
 |some ow=>
  cases ow with
  |none=>rw[e]at h;exact h.elim
  |some w=>
   rw[e]at h
   obtain⟨v,e1,e2⟩:=ou r.env e
   exact⟨v,e1,h μ v H (ac _) dg.refl r.sto e2⟩⟩
def eC(w:W):FE:=fun _ st=>.ok w st
abbrev eI(n:Int):FE:=eC (.int n)
theorem SD{w:W}(hc:PE X e (tC v))(hr:∀μ H,bj X.K μ H w v):SE X e (eC w):=⟨hc.imp fun σ H Q h=>by
 obtain⟨μ,ρ,st,r,h⟩:=h
 exact h μ v H (ac _) dg.refl r.sto (hr _ _)⟩
theorem bH{i:Int}:SE X (.Constant (.int i) j pos) (eC (.int i)):=SD Mm fun _ _=>.int
theorem M4{k:Bool}:SE X (.Constant (.bool k) j pos) (eC (.bl k)):=SD Pm fun _ _=>.bl
theorem pA(h:x=tx l:=by decide +kernel):SE X (.Constant (.str x) j pos) (eC (.str l)):=SD D_ fun _ _=>by rw[h];exact .str
theorem IG{w:W}(h:∃u v,X.mg x=some u/\cf v u/\∀μ H,bj X.K μ H w v)(hg:Gl X x:=by rfl)(hd:(x==("__debug__":Str))=false:=by decide):SE X (.Name x pos) (eC w):=by
 obtain⟨u,v,a,b,c⟩:=h
 exact SD (P6 ⟨u,a,b⟩ hg hd) c
def e2(f:W->W->List al->R W)(fa fb:FE):FE:=fun ρ st=>(fa ρ st).bind fun x st=>(fb ρ st).bind fun y st=>f x y st
def CY(X:Cx)(μ:List Addr)(H:Hp)(Q:VK):R W->Prop
 |.ok w bD=>∀μ' v H',μ <+: μ'->dg X.K H H'->fO X.K X.mg μ' bD H'->bj X.K μ' H' w v->Q v H'
 |_=>False
def pe:R α->Prop
 |.ex _ _=>False
 |_=>True
def Qj(X:Cx)(f:W->W->List al->R W):R2:=fun x y H Q=>∃μ st wx wy,fO X.K X.mg μ st H/\bj X.K μ H wx x/\bj X.K μ H wy y/\CY X μ H Q (f wx wy st)
structure qo(X:Cx)(g:Value->Value->Sem Value)(f:W->W->List al->R W):Prop where
 h:l7 X g (Qj X f)
 n:∀x y st,pe (f x y st)
theorem pU{σ:St}{Q:VK}{r:R W}(h:RK X (qm X) μ σ H Q r)(n:pe r):CY X μ H Q r:=by
 cases r with
 |ok a st=>exact h
 |ex c st=>exact n.elim
 |bad=>exact h
theorem Bn{Q:VK}(n:∀x y st,pe (f x y st))(h:tE X (e2 f fa fb) σ H Q):Pz (Qj X f) (tE X fa) (tE X fb) σ H Q:=by
 obtain⟨μ,ρ,st,l,h⟩:=h
 refine⟨μ,ρ,st,l,RK.bind h l fun μ1 st1 x v H1 p1 x1 l1 q1 h1=>⟨μ1,ρ,st1,l1,RK.bind h1 l1 fun μ2 st2 y u H2 p2 x2 l2 q2 h2=>?_⟩⟩
 exact⟨μ2,st2,x,y,l2.sto,q1.mono p2 x2,q2,pU h2 (n _ _ _)⟩
theorem gO{op:Operator}(ho:qo X (binaryOp op) f)(ha:SE X a fa)(hb:SE X b fb):SE X (.BinOp a op b pos) (e2 f fa fb):=⟨(PB ho.h ha.h hb.h).imp fun _ _ _ h=>Bn ho.n h⟩
theorem yr(ho:qo X (compareOp op) f)(ha:SE X a fa)(hb:SE X b fb)(hm:behindInMarks op b=false:=by first|exact Ek _|rfl):SE X (.Compare a [op] [b] pos) (e2 f fa fb):=⟨(HX ho.h ha.h hb.h hm).imp fun _ _ _ h=>Bn ho.n h⟩
def kI(fa:FE):FT:=fun ρ st=>(fa ρ st).bind fun x st=>match x with
 |.bl k=>.ok k st
 |_=>.bad
theorem yt{Q:Bool->Hp->Prop}(h:tT X (kI fa) σ H Q):tE X fa σ H fun x H1=>∃k,x=.bl k/\Q k H1:=by
 obtain⟨μ,ρ,st,l,h⟩:=h
 refine⟨μ,ρ,st,l,RK.bind h l fun μ1 st1 x v H1 p1 x1 l1 q1 h1=>?_⟩
 cases x with
 |bl k=>exact⟨k,q1.blE,h1 μ1 k H1 (ac _) dg.refl l1.sto rfl⟩
 |_=>exact h1.elim
theorem je(ho:qo X (compareOp op) f)(ha:SE X a fa)(hb:SE X b fb)(hm:behindInMarks op b=false:=by first|exact Ek _|rfl):ST X (.Compare a [op] [b] pos) (kI (e2 f fa fb)):=⟨(HY ho.h ha.h hb.h hm).imp fun σ H Q h=>by
 have h':tE X (e2 f fa fb) σ H fun x H1=>∃k,x=.bl k/\Q k H1:=yt h
 exact Bn ho.n h'⟩
theorem M5(h:SE X e fe)(he:∀uL,isTrue e X.env uL=(do let v <- uL;standAt e.pos;holding [v] (truthy v)):=by intro _;rfl):ST X e (kI fe):=⟨(Mn h.h he).imp fun σ H Q h=>yt h⟩
def Ql(t u:FT):FT:=fun ρ st=>(t ρ st).bind fun k st=>if k then u ρ st else .ok false st
def KG(t u:FT):FT:=fun ρ st=>(t ρ st).bind fun k st=>if k then .ok true st else u ρ st
def O'(t:FT):FT:=fun ρ st=>(t ρ st).bind fun k st=>.ok (!k) st
theorem ER(ha:ST X a ft):SW X (.BoolOp .Or [a] pos) ft:=⟨Mo ha.h⟩
theorem ES(ha:ST X a ft)(hb:SW X (.BoolOp .Or (b::dQ) pos) fu):SW X (.BoolOp .Or (a::b::dQ) pos) (KG ft fu):=⟨(Pn ha.h hb.h).imp fun σ H Q h=>by
 obtain⟨μ,ρ,st,l,h⟩:=h
 refine⟨μ,ρ,st,l,RK.bind h l fun μ1 st1 x v H1 p1 x1 l1 q1 h1=>?_⟩
 cases q1
 cases x with
 |false=>exact⟨μ1,ρ,st1,l1,h1⟩
 |true=>exact h1 μ1 true H1 (ac _) dg.refl l1.sto rfl⟩
theorem Qm(h:SW X e ft):ST X e ft:=⟨h.h.pt⟩
theorem M6(ha:ST X a ft):ST X (.UnaryOp .Not a pos) (O' ft):=⟨(Mp ha.h).imp fun σ H Q h=>by
 obtain⟨μ,ρ,st,l,h⟩:=h
 refine⟨μ,ρ,st,l,RK.bind h l fun μ1 st1 x v H1 p1 x1 l1 q1 h1=>?_⟩
 cases q1
 exact h1 μ1 _ H1 (ac _) dg.refl l1.sto rfl⟩
def tU(fa fb:FE):FE:=fun ρ st=>(fa ρ st).bind fun x st=>match x with
 |.bl true=>fb ρ st
 |.bl false=>.ok (.bl false) st
 |_=>.bad
def KH(fa fb:FE):FE:=fun ρ st=>(fa ρ st).bind fun x st=>match x with
 |.bl true=>.ok (.bl true) st
 |.bl false=>fb ρ st
 |_=>.bad
def IH(fa:FE):FE:=fun ρ st=>(fa ρ st).bind fun x st=>match x with
 |.bl k=>.ok (.bl (!k)) st
 |_=>.bad
theorem yu{op:BoolOp}(h:SE X a fa):SE X (.BoolOp op [a] pos) fa:=⟨Mq h.h⟩
theorem Bo(ha:SE X a fa)(hb:SE X (.BoolOp .And (b::dQ) pos) fb):SE X (.BoolOp .And (a::b::dQ) pos) (tU fa fb):=⟨(Mr ha.h hb.h).imp fun σ H Q h=>by
 obtain⟨μ,ρ,st,l,h⟩:=h
 refine⟨μ,ρ,st,l,RK.bind h l fun μ1 st1 x v H1 p1 x1 l1 q1 h1=>?_⟩
 cases x with
 |bl k=>
  refine⟨k,q1.blE,?_⟩
  cases k with
  |true=>exact⟨μ1,ρ,st1,l1,h1⟩
  |false=>exact h1 μ1 _ H1 (ac _) dg.refl l1.sto .bl
 |_=>exact h1.elim⟩
theorem Qn(ha:SE X a fa)(hb:SE X (.BoolOp .Or (b::dQ) pos) fb):SE X (.BoolOp .Or (a::b::dQ) pos) (KH fa fb):=⟨(Pq ha.h hb.h).imp fun σ H Q h=>by
 obtain⟨μ,ρ,st,l,h⟩:=h
 refine⟨μ,ρ,st,l,RK.bind h l fun μ1 st1 x v H1 p1 x1 l1 q1 h1=>?_⟩
 cases x with
 |bl k=>
  refine⟨k,q1.blE,?_⟩
  cases k with
  |false=>exact⟨μ1,ρ,st1,l1,h1⟩
  |true=>exact h1 μ1 _ H1 (ac _) dg.refl l1.sto .bl
 |_=>exact h1.elim⟩
theorem Qo(ha:SE X a fa):SE X (.UnaryOp .Not a pos) (IH fa):=⟨(Mt ha.h).imp fun σ H Q h=>by
 obtain⟨μ,ρ,st,l,h⟩:=h
 refine⟨μ,ρ,st,l,RK.bind h l fun μ1 st1 x v H1 p1 x1 l1 q1 h1=>?_⟩
 cases x with
 |bl k=>exact⟨k,q1.blE,h1 μ1 _ H1 (ac _) dg.refl l1.sto .bl⟩
 |_=>exact h1.elim⟩
def M7(t:FT)(fa fb:FE):FE:=fun ρ st=>(t ρ st).bind fun k st=>if k then fa ρ st else fb ρ st
theorem Qp(hc:ST X c ft)(ha:SE X a fa)(hb:SE X b fb):SE X (.IfExp c a b pos) (M7 ft fa fb):=⟨(D' hc.h ha.h hb.h).imp fun σ H Q h=>by
 obtain⟨μ,ρ,st,l,h⟩:=h
 refine⟨μ,ρ,st,l,RK.bind h l fun μ1 st1 x v H1 p1 x1 l1 q1 h1=>?_⟩
 cases q1
 cases x with
 |false=>exact⟨μ1,ρ,st1,l1,h1⟩
 |true=>exact⟨μ1,ρ,st1,l1,h1⟩⟩
def W.isNon:W->Bool
 |.non=>true
 |_=>false
def Qq(fa:FE):FE:=fun ρ st=>(fa ρ st).bind fun x st=>.ok (.bl x.isNon) st
def KI(fa:FE):FE:=fun ρ st=>(fa ρ st).bind fun x st=>.ok (.bl (!x.isNon)) st
def aE:FA:=fun _ st=>.ok [] st
def ai(fa:FE)(fs:FA):FA:=fun ρ st=>(fa ρ st).bind fun x st=>(fs ρ st).bind fun xs st=>.ok (x::xs) st
theorem bb:SA X [] aE:=⟨wj.imp fun σ H Q h=>by
 obtain⟨μ,ρ,st,l,h⟩:=h
 exact h μ [] H (ac _) dg.refl l.sto .nilI⟩
theorem aA(ha:SE X e fe)(hr:SA X es fs)(hs:starEach (e::es) X.env=(false,eval e X.env)::starEach es X.env:=by rfl):SA X (e::es) (ai fe fs):=⟨(mW ha.h hr.h hs).imp fun σ H Q h=>by
 obtain⟨μ,ρ,st,l,h⟩:=h
 refine⟨μ,ρ,st,l,RK.bind h l fun μ1 st1 x v H1 p1 x1 l1 q1 h1=>⟨μ1,ρ,st1,l1,RK.bind h1 l1 fun μ2 st2 xs vs H2 p2 x2 l2 q2 h2=>?_⟩⟩
 exact h2 μ2 _ H2 (ac _) dg.refl l2.sto (.consI (q1.mono p2 x2) q2)⟩
def Bp(zs:List (List Nat)):FA:=fun _ st=>.ok (zs.map W.str) st
theorem II{zs:List Str}(h:CS es zs)(hz:zs=ls.map tx:=by decide +kernel):SA X es (Bp ls):=⟨(Iz (X:=X) h).imp fun σ H Q q=>by
 obtain⟨μ,ρ,st,l,q⟩:=q
 refine q μ _ H (ac _) dg.refl l.sto ?_
 rw[hz]
 clear hz h q
 induction ls with
 |nil=>exact .nilI
 |cons a r ih=>exact .consI .str ih⟩
def pB(ws:List W)(st:List al):R W:=if ws.length<=jx then .ok (.tup ws) st else .bad
def jf(ws:List W)(st:List al):R W:=if ws.length<=jx then .ok (.loc st.length) (st++[.lst ws])else .bad
def jY(fs:FA):FE:=fun ρ st=>(fs ρ st).bind fun ws st=>pB ws st
def gg(fs:FA):FE:=fun ρ st=>(fs ρ st).bind fun ws st=>jf ws st
theorem fO.newLst(S:fO K mg μ st H){p:Addr}(hp:H p=none)(r:RelWs K μ H ws vs):fO K mg (μ++[p]) (st++[.lst ws]) (eJ H p (.lst vs)):=
 S.push hp ⟨vs,cO,r.mono (ag _ _) (fj.same (cn hp _))⟩
theorem pV(S:fO K mg μ st H){p:Addr}:bj K (μ++[p]) H' (.loc st.length) (.ref p):=.locI (by rw[S.len];simp)
theorem ET{Q:VK}(S:fO X.K X.mg μ st H)(q:RelWs X.K μ H ws vs)(h:RK X (qm X) μ σ H Q (pB ws st)):vs.length<=sizeLine/\∀p H2,H p=none->H2=eJ H p (.tup vs)->Q (.ref p) H2:=by
 unfold pB at h
 by_cases hz:ws.length<=jx
 ·rw[av hz]at h
  refine⟨by rw[<- q.len];exact iX hz,fun p H2 hp e=>?_⟩
  subst e
  have x:=fj.same (K:=X.K) (cn hp (.tup vs))
  exact h μ _ _ (ac _) x (S.same (cn hp _)) (.tupI fj.new (q.mono (ac _) x))
 ·rw[az hz]at h;exact h.elim
theorem mw{σ:St}{Q:VK}(S:fO X.K X.mg μ st H)(q:RelWs X.K μ H ws vs)(h:RK X (qm X) μ σ H Q (jf ws st)):vs.length<=sizeLine/\∀p H2,H p=none->H2=eJ H p (.lst vs)->Q (.ref p) H2:=by
 unfold jf at h
 by_cases hz:ws.length<=jx
 ·rw[av hz]at h
  refine⟨by rw[<- q.len];exact iX hz,fun p H2 hp e=>?_⟩
  subst e
  exact h (μ++[p]) _ _ (ag _ _) (fj.same (cn hp _)) (S.newLst hp q) (pV S)
 ·rw[az hz]at h;exact h.elim
theorem pD{k:Nat}(h:SA X es fs):SE X (.Tuple es k pos) (jY fs):=⟨(Iv h.h).imp fun σ H Q h=>by
 obtain⟨μ,ρ,st,l,h⟩:=h
 exact⟨μ,ρ,st,l,RK.bind h l fun μ1 st1 x v H1 p1 x1 l1 q1 h1=>ET l1.sto q1 h1⟩⟩
theorem oy(h:SA X es fs):SE X (.List es pos) (gg fs):=⟨(Iw h.h).imp fun σ H Q h=>by
 obtain⟨μ,ρ,st,l,h⟩:=h
 exact⟨μ,ρ,st,l,RK.bind h l fun μ1 st1 x v H1 p1 x1 l1 q1 h1=>mw l1.sto q1 h1⟩⟩
end
section
theorem lP{Q:VK}{i:Int}(S:fO X.K X.mg μ st H)(h:CY X μ H Q (.ok (.int i) st)):Q (.int i) H:=h μ _ H (ac _) dg.refl S .int
theorem jg{Q:VK}{i:Bool}(S:fO X.K X.mg μ st H)(h:CY X μ H Q (.ok (.bl i) st)):Q (.bl i) H:=h μ _ H (ac _) dg.refl S .bl
theorem qp{Q:VK}{i:List Nat}(S:fO X.K X.mg μ st H)(h:CY X μ H Q (.ok (.str i) st)):Q (.str (tx i)) H:=h μ _ H (ac _) dg.refl S .str
theorem EU{Q:VK}{r:R W}(h:CY X μ H Q r):RK X (qm X) μ σ H Q r:=by
 cases r with
 |ok a st=>exact h
 |ex c st=>exact h.elim
 |bad=>exact h
def CZ(C:Int->Int->Prop)[∀i j,Decidable (C i j)](f:Int->Int->Int):W->W->List al->R W
 |.int i,.int j,st=>if C i j then .ok (.int (f i j)) st else .bad
 |_,_,_=>.bad
theorem yv{C C':Int->Int->Prop}[∀i j,Decidable (C' i j)]{f:Int->Int->Int}(h:l7 X g (rI C fun i j=>.int (f i j)))(hC:∀i j,C' i j->C i j):qo X g (CZ C' f):=⟨h.imp fun x y H Q ⟨μ,st,wx,wy,S,rx,ry,q⟩=>by
 cases wx with
 |int i=>
  cases wy with
  |int j=>
   simp only[CZ]at q
   by_cases c:C' i j
   ·rw[av c]at q;exact⟨i,j,rx.intE,ry.intE,hC i j c,lP S q⟩
   ·rw[az c]at q;exact q.elim
  |_=>exact q.elim
 |_=>cases wy<;>exact q.elim,fun x y st=>by
 unfold CZ
 split
 ·split<;>trivial
 ·trivial⟩
def C0(f:Int->Int->Bool):W->W->List al->R W
 |.int i,.int j,st=>.ok (.bl (f i j)) st
 |_,_,_=>.bad
theorem EV{f:Int->Int->Bool}(h:l7 X g (Eh fun i j=>.bl (f i j))):qo X g (C0 f):=⟨h.imp fun x y H Q ⟨μ,st,wx,wy,S,rx,ry,q⟩=>by
 cases wx with
 |int i=>
  cases wy with
  |int j=>exact⟨i,j,rx.intE,ry.intE,jg S q⟩
  |_=>exact q.elim
 |_=>cases wy<;>exact q.elim,fun x y st=>by
 unfold C0
 split<;>trivial⟩
abbrev sK(i j:Int):Prop:=(-(2^64)<i/\i<2^64)\/(-(2^64)<j/\j<2^64)
abbrev C3:=CZ (fun _ _=>True) fun i j=>i-j
abbrev Qr:=CZ sK fun i j=>i*j
abbrev eW:=CZ (fun _ j=>0<j) fun i j=>i%j
abbrev qr:=CZ (fun _ j=>0<j/\j<1073741824) fun i j=>i/j
abbrev Qs:=CZ (fun i j=>0<=j/\j<=1000000/\i.natAbs<2^64) fun i j=>i^j.toNat
abbrev rh:=CZ (fun i j=>0<=j/\j<=1000000/\i.natAbs<2^64) fun i j=>i*2^j.toNat
abbrev C4:=CZ (fun _ j=>0<=j) fun i j=>i/2^j.toNat
abbrev yw:=CZ (fun _ _=>True) fun i j=>Builtin.bitAnd i j
theorem EW{f:Int->Int->V}(h:l7 X g (Eh f)):l7 X g (rI (fun _ _=>True) f):=h.imp fun _ _ _ _ ⟨i,j,a,b,_,q⟩=>⟨i,j,a,b,q⟩
theorem EX:qo X (binaryOp .Sub) C3:=yv (EW MF) fun _ _ _=>trivial
theorem Qt:qo X (binaryOp .Mult) Qr:=yv MG fun _ _ h=>h
theorem i5:qo X (binaryOp .Mod) eW:=yv MH fun _ _ h=>h
theorem EY:qo X (binaryOp .FloorDiv) qr:=yv HW fun _ _ h=>h
theorem Qu:qo X (binaryOp .Pow) Qs:=yv MI fun _ _ h=>h
theorem Qw:qo X (binaryOp .LShift) rh:=yv Ei fun _ _ h=>h
theorem Qx:qo X (binaryOp .RShift) C4:=yv MJ fun _ _ h=>h
theorem M8:qo X (binaryOp .BitAnd) yw:=yv (EW MK) fun _ _ _=>trivial
def du:W->W->List al->R W
 |.int i,.int j,st=>.ok (.int (i+j)) st
 |.str a,.str b,st=>if a.length+b.length<=jx then .ok (.str (a++b)) st else .bad
 |.tup a,.tup b,st=>pB (a++b) st
 |.loc n,.loc m,st=>match st[n]?,st[m]? with
  |some (.lst a),some (.lst b)=>jf (a++b) st
  |_,_=>.bad
 |_,_,_=>.bad
theorem IJ(ws:List W)(st:List al):pe (pB ws st):=by unfold pB;split<;>trivial
theorem Bq(ws:List W)(st:List al):pe (jf ws st):=by unfold jf;split<;>trivial
theorem lQ:qo X (binaryOp .Add) du:=⟨fun af s σ H x y v u Q I rv ru ⟨μ,st,wx,wy,S,rx,ry,q⟩=>by
 cases wx with
 |int i=>
  cases wy with
  |int j=>exact ME af s σ H x y v u Q I rv ru ⟨i,j,rx.intE,ry.intE,lP S q⟩
  |_=>exact q.elim
 |str a=>
  cases wy with
  |str b=>
   simp only[du]at q
   by_cases c:a.length+b.length<=jx
   ·rw[av c]at q
    exact Ac af s σ H x y v u Q I rv ru ⟨_,_,rx.strE,ry.strE,by rw[jc,jc];exact iX c,by rw[Ai];exact qp S q⟩
   ·rw[az c]at q;exact q.elim
  |_=>exact q.elim
 |tup a=>
  cases wy with
  |tup b=>
   obtain⟨p1,vs1,rfl,h1,r1⟩:=rx.tupE
   obtain⟨p2,vs2,rfl,h2,r2⟩:=ry.tupE
   have q':CY X μ H Q (pB (a++b) st):=q
   unfold pB at q'
   by_cases c:(a++b).length<=jx
   ·rw[av c]at q'
    refine M2.h af s σ H _ _ v u Q I rv ru ⟨p1,p2,vs1,vs2,rfl,rfl,h1,h2,by rw[<- r1.len,<- r2.len,<- aF];exact iX c,fun p H2 e t=>?_⟩
    exact q' μ _ _ (ac _) (fj.same e) (S.same e) (.tupI t ((r1.app r2).mono (ac _) (fj.same e)))
   ·rw[az c]at q';exact q'.elim
  |_=>exact q.elim
 |loc n=>
  cases wy with
  |loc m=>
   simp only[du]at q
   cases e1:st[n]? with
   |none=>rw[e1]at q;exact q.elim
   |some c1=>
    cases e2:st[m]? with
    |none=>rw[e1,e2]at q;cases c1<;>exact q.elim
    |some c2=>
     cases c1 with
     |lst a=>
      cases c2 with
      |lst b=>
       rw[e1,e2]at q
       obtain⟨a1,g1,vs1,k1,r1⟩:=S.get e1
       obtain⟨a2,g2,vs2,k2,r2⟩:=S.get e2
       obtain⟨b1,f1,rfl⟩:=rx.locE
       obtain⟨b2,f2,rfl⟩:=ry.locE
       rw[g1]at f1;cases f1
       rw[g2]at f2;cases f2
       obtain⟨hz,qq⟩:=mw (σ:=σ) S (r1.app r2) (EU q)
       exact Iy af s σ H _ _ v u Q I rv ru ⟨a1,a2,vs1,vs2,rfl,rfl,k1,k2,by rw[<- aF];exact hz,qq⟩
      |_=>rw[e1,e2]at q;exact q.elim
     |_=>rw[e1,e2]at q;exact q.elim
  |_=>exact q.elim
 |_=>cases wy<;>exact q.elim,fun x y st=>by
 unfold du
 split
 ·trivial
 ·split<;>trivial
 ·exact IJ _ _
 ·split
  ·exact Bq _ _
  ·trivial
 ·trivial⟩
abbrev yx:=C0 fun i j=>decide (i<j)
abbrev Qy:=C0 fun i j=>decide (j<i)
abbrev Uq:=C0 fun i j=>decide (j<=i)
theorem w_lt:qo X (compareOp .Lt) yx:=EV PD
theorem C5:qo X (compareOp .Gt) Qy:=EV PH
theorem IK:qo X (compareOp .GtE) Uq:=EV PJ
end
mutual
def jZ:W->W->Option Bool
 |.non,.non=>some true
 |.bl a,.bl b=>some (a==b)
 |.bl a,.int b=>some ((if a then 1 else 0)==b)
 |.int a,.bl b=>some (a==(if b then 1 else 0))
 |.int a,.int b=>some (a==b)
 |.str a,.str b=>some (a==b)
 |.tup a,.tup b=>eqWs a b
 |.loc _,_=>none
 |.non,.loc _=>none
 |.bl _,.loc _=>none
 |.int _,.loc _=>none
 |.str _,.loc _=>none
 |.tup _,.loc _=>none
 |.non,.bl _=>some false
 |.non,.int _=>some false
 |.non,.str _=>some false
 |.non,.tup _=>some false
 |.bl _,.non=>some false
 |.bl _,.str _=>some false
 |.bl _,.tup _=>some false
 |.int _,.non=>some false
 |.int _,.str _=>some false
 |.int _,.tup _=>some false
 |.str _,.non=>some false
 |.str _,.bl _=>some false
 |.str _,.int _=>some false
 |.str _,.tup _=>some false
 |.tup _,.non=>some false
 |.tup _,.bl _=>some false
 |.tup _,.int _=>some false
 |.tup _,.str _=>some false
def eqWs:List W->List W->Option Bool
 |[],[]=>some true
 |[],_::_=>some false
 |_::_,[]=>some false
 |x::xs,y::ys=>match jZ x y,eqWs xs ys with
  |some a,some b=>some (a&&b)
  |_,_=>none
end
mutual
def W.dep:W->Nat
 |.tup ws=>depWs ws+1
 |_=>0
def depWs:List W->Nat
 |[]=>0
 |w::ws=>max w.dep (depWs ws)
end
theorem pW:∀(xs ys:List W) (b:Bool),eqWs xs ys=some b->∃e:Nat->Bool,(∀j (h1:j<xs.length) (h2:j<ys.length),jZ xs[j] ys[j]=some (e j))/\((List.range (min xs.length ys.length)).all e&&xs.length==ys.length)=b
 |[],[],b,h=>by unfold eqWs at h;cases h;exact⟨fun _=>true,fun j h1=>absurd h1 (kx _),rfl⟩
 |[],y::ys,b,h=>by unfold eqWs at h;cases h;exact⟨fun _=>true,fun j h1=>absurd h1 (kx _),by simp⟩
 |x::xs,[],b,h=>by unfold eqWs at h;cases h;exact⟨fun _=>true,fun j _ h1=>absurd h1 (kx _),by simp⟩
 |x::xs,y::ys,b,h=>by
  unfold eqWs at h
  cases e1:jZ x y with
  |none=>rw[e1]at h;simp at h
  |some a=>
   cases e2:eqWs xs ys with
   |none=>rw[e1,e2]at h;simp at h
   |some c=>
    rw[e1,e2]at h
    simp at h
    obtain⟨e,he,hb⟩:=pW xs ys c e2
    refine⟨fun j=>match j with|0=>a|j+1=>e j,fun j h1 h2=>?_,?_⟩
    ·cases j with
     |zero=>exact e1
     |succ j=>exact he j (jt h1) (jt h2)
    ·have m:min (x::xs).length (y::ys).length=min xs.length ys.length+1:=by simp only[cK];omega
     rw[m,jo,List.all_cons,List.all_map,<- h,<- hb]
     simp[lY,Bool.and_assoc]
theorem Br{a b:W}{x:V}{k:Bool}(hn:a.dep<=0)(ra:bj X.K μ H a x)(rb:bj X.K μ H b x)(he:jZ a b=some k):k=true:=by
 cases a with
 |tup i=>unfold W.dep at hn;omega
 |non=>cases ra.nonE;cases b<;>first|(unfold jZ at he;cases he;rfl)|cases rb.blE|cases rb.intE|cases rb.strE|(obtain⟨_,_,z,_⟩:=rb.tupE;cases z)|(unfold jZ at he;cases he)
 |bl i=>cases ra.blE;cases b<;>first|(cases rb.blE;unfold jZ at he;simp at he;exact he)|cases rb.nonE|cases rb.intE|cases rb.strE|(obtain⟨_,_,z,_⟩:=rb.tupE;cases z)|(unfold jZ at he;cases he)
 |int i=>cases ra.intE;cases b<;>first|(cases rb.intE;unfold jZ at he;simp at he;exact he)|cases rb.nonE|cases rb.blE|cases rb.strE|(obtain⟨_,_,z,_⟩:=rb.tupE;cases z)|(unfold jZ at he;cases he)
 |str i=>cases ra.strE;cases b<;>first|(have z:=rb.strE;injection z with z;rw[Ex.mp z]at he;unfold jZ at he;simp at he;exact he)|cases rb.nonE|cases rb.blE|cases rb.intE|(obtain⟨_,_,z,_⟩:=rb.tupE;cases z)|(unfold jZ at he;cases he)
 |loc i=>cases b<;>(unfold jZ at he;cases he)
theorem EZ(I:bE X af σ H s):∀(n:Nat) (a b:W) (x:V) (k:Bool),a.dep<=n->bj X.K μ H a x->bj X.K μ H b x->jZ a b=some k->k=true:=by
 intro n
 induction n with
 |zero=>exact fun a b x k hn ra rb he=>Br hn ra rb he
 |succ n ih=>
  intro a b x k hn ra rb he
  cases a with
  |tup i=>
   obtain⟨p',uW,rfl,hS',r'⟩:=ra.tupE
   cases b with
   |tup z=>
    obtain⟨p,vs,e,hS,r⟩:=rb.tupE
    cases e
    obtain rfl:=I.tuple_inj hS hS'
    have he':eqWs i z=some k:=by unfold jZ at he;exact he
    have dn:depWs i<=n:=by unfold W.dep at hn;omega
    have key:∀(i z:List W) (vs:List V) (k:Bool),depWs i<=n->RelWs X.K μ H i vs->RelWs X.K μ H z vs->eqWs i z=some k->k=true:=by
     intro i
     induction i with
     |nil=>
      intro z vs k _ r' r he
      have e1:=r'.nilE
      subst e1
      cases z with
      |nil=>unfold eqWs at he;cases he;rfl
      |cons _ _=>have e2:=r.len;simp at e2
     |cons w i ih2=>
      intro z vs k dn r' r he
      obtain⟨x,xs,rfl,rx,rxs⟩:=r'.consE
      cases z with
      |nil=>have e2:=r.len;simp at e2
      |cons y z=>
       obtain⟨x2,xs2,e3,ry,rys⟩:=r.consE
       cases e3
       unfold eqWs at he
       cases e1:jZ w y with
       |none=>rw[e1]at he;simp at he
       |some k1=>
        cases e2:eqWs i z with
        |none=>rw[e1,e2]at he;simp at he
        |some k2=>
         rw[e1,e2]at he
         simp at he
         unfold depWs at dn
         have q1:=ih w y x k1 (by omega) rx ry e1
         have q2:=ih2 z xs k2 (by omega) rxs rys e2
         rw[<- he,q1,q2];rfl
    exact key i z _ k dn r' r he'
   |non=>cases rb.nonE
   |bl z=>cases rb.blE
   |int z=>cases rb.intE
   |str z=>cases rb.strE
   |loc z=>unfold jZ at he;cases he
  |_=>exact Br (au _) ra rb he
theorem rj:∀{ws:List W} {j:Nat} (h:j<ws.length),ws[j].dep<=depWs ws
 |w::ws,0,_=>by unfold depWs;exact Nat.le_max_left _ _
 |w::ws,j+1,h=>by unfold depWs;exact bd (rj (j:=j) (jt h)) (Nat.le_max_right _ _)
inductive Sh(s:Shared):W->Value->Prop
 |non:Sh s .non .none
 |bl (b:Bool):Sh s (.bl b) (.bool b)
 |int (i:Int) (t:Tok):Sh s (.int i) (.int i t)
 |str (l:List Nat) (t:Tok):Sh s (.str l) (.str (tx l) t)
 |tup (ws:List W) (p:Addr) (its:List Value) (h:IsTup s.heap p its.toArray):Sh s (.tup ws) (.ref p)
 |loc (n:Nat) (u:Value):Sh s (.loc n) u
section
theorem si(I:bE X af σ H s){a:W}{x:V}(ra:bj X.K μ H a x)(ru:cf x u):Sh s a u:=by
 cases a with
 |non=>cases ra.nonE;cases ru;exact .non
 |bl i=>cases ra.blE;cases ru;exact .bl _
 |int i=>cases ra.intE;obtain⟨t,rfl⟩:=ru;exact .int _ _
 |str i=>cases ra.strE;obtain⟨t,rfl⟩:=ru;exact .str _ _
 |tup i=>obtain⟨p,vs,rfl,hS,_⟩:=ra.tupE;cases ru;obtain⟨its,_,ht,_⟩:=I.tuple hS;exact .tup _ _ _ ht
 |loc i=>exact .loc _ _
open SeqAt.EqAt in
theorem Bs{a b:W}{v:Value}{k:Bool}(ha:Sh s a u)(hb:Sh s b v)(hu:A.units<cLine)(ht:b.dep=0\/a.dep=0)(he:jZ a b=some k):SeqAt.EqAt A s u v k:=by
 cases ha<;>cases hb<;>first
  |(unfold jZ at he;cases he;done)
  |(unfold jZ at he;cases he;with_reducible first|exact same _|exact bool_none _|exact bool_bool _ _|exact bool_int _ _ _|exact bool_str _ _ _|exact int_none _ _|exact int_bool _ _ _|exact int_int _ _ _ _|exact int_str _ _ _ _|exact str_none _ _|exact str_bool _ _ _|exact str_int _ _ _ _|exact none_bool _|exact none_int _ _|exact none_str _ _)
  |(unfold jZ at he;cases he;(with_reducible first|refine' bool_tuple _ ?_ hu|refine' int_tuple _ _ ?_ hu|refine' str_tuple _ _ ?_ hu|refine' tuple_none ?_ hu|refine' tuple_bool _ ?_ hu|refine' tuple_int _ _ ?_ hu|refine' tuple_str _ _ ?_ hu|refine' none_tuple ?_ hu);rotate_left;assumption)
  |(unfold W.dep at ht;omega)
  |skip
 rename_i i t z r
 unfold jZ at he;cases he
 have:=str_str (A:=A) (s:=s) (tx i) t (tx z) r
 rw[<- pM]at this
 exact this
open SeqAt.RcAt in
theorem IL{a b:W}{v:Value}{k:Bool}(ha:Sh s a u)(hb:Sh s b v)(hu:A.units<cLine)(ht:b.dep=0\/a.dep=0)(he:jZ a b=some k):SeqAt.RcAt A s u v k:=by
 cases ha<;>cases hb<;>first
  |(unfold jZ at he;cases he;done)
  |(unfold jZ at he;cases he;with_reducible first|exact none_none|exact bool_none _|exact bool_bool _ _|exact bool_int _ _ _|exact bool_str _ _ _|exact int_none _ _|exact int_bool _ _ _|exact int_int _ _ _ _|exact int_str _ _ _ _|exact str_none _ _|exact str_bool _ _ _|exact str_int _ _ _ _|exact none_bool _|exact none_int _ _|exact none_str _ _)
  |(unfold jZ at he;cases he;(with_reducible first|refine' bool_tuple _ ?_ hu|refine' int_tuple _ _ ?_ hu|refine' str_tuple _ _ ?_ hu|refine' tuple_none ?_ hu|refine' tuple_bool _ ?_ hu|refine' tuple_int _ _ ?_ hu|refine' tuple_str _ _ ?_ hu|refine' none_tuple ?_ hu);rotate_left;assumption)
  |(unfold W.dep at ht;omega)
  |skip
 rename_i i t z r
 unfold jZ at he;cases he
 have:=str_str (A:=A) (s:=s) (tx i) t (tx z) r
 rw[<- pM]at this
 exact this
open SeqAt.RcNeAt in
theorem C6         {a b:W} {v:Value} {k:Bool} (ha : Sh s a u) (hb : Sh s b v) (hu : A.units < cLine) (ht : b.dep = 0 \/ a.dep = 0) (he : jZ  a b = some k) : SeqAt.RcNeAt A s u v (!k) := by
  cases ha <;> cases hb <;> first
    | (unfold jZ  at he; cases he; done)
    | (unfold jZ  at he; cases he; try simp only [eD           , lz            ]
       with_reducible first | exact none_none | exact bool_none _ | exact bool_bool _ _ | exact bool_int _ _ _ | exact bool_str _ _ _ | exact int_none _ _ | exact int_bool _ _ _ | exact int_int _ _ _ _ | exact int_str _ _ _ _ | exact str_none _ _ | exact str_bool _ _ _ | exact str_int _ _ _ _ | exact none_bool _ | exact none_int _ _ | exact none_str _ _)
    | (unfold jZ  at he; cases he; try simp only [eD           , lz            ]
       (with_reducible first | refine' bool_tuple _ ?_ hu | refine' int_tuple _ _ ?_ hu | refine' str_tuple _ _ ?_ hu | refine' tuple_none ?_ hu | refine' tuple_bool _ ?_ hu | refine' tuple_int _ _ ?_ hu | refine' tuple_str _ _ ?_ hu | refine' none_tuple ?_ hu); rotate_left; assumption)
    | (unfold W.dep at ht; omega)
    | skip
  rename_i i t z r
  unfold jZ  at he; cases he
  have := str_str (A := A) (s := s) (tx i) t (tx z) r
  rw [<- pM           ] at this
  exact this
theorem yy{i z:List W}{uW:List V}{its':List Value}{e:Nat->Bool}{A:Around}(ih:∀(a b:W) (A:Around) (x y:V) (u v:Value) (k:Bool),a.dep<=m->bj X.K μ H a x->bj X.K μ H b y->cf x u->cf y v->A.units+m<cLine->jZ a b=some k->SeqAt.EqAt A s u v k)
  (r':RelWs X.K μ H i uW) (r:RelWs X.K μ H z vs) (w':cA uW its') (w:cA vs its) (hd:depWs i<=m) (hu:A.units+1+m<cLine) (h1:∀j (h1:j<i.length) (h2:j<z.length),jZ i[j] z[j]=some (e j)):∀j (j1:j<its'.toArray.size) (j2:j<its.toArray.size),SeqAt.EqAt A.in1 s its'.toArray[j] its.toArray[j] (e j):=fun j j1 j2=>by
 have j1':j<i.length:=by rw[r'.len,w'.length];simpa using j1
 have j2':j<z.length:=by rw[r.len,w.length];simpa using j2
 obtain⟨x1,g1,q1⟩:=r'.get (ar j1')
 obtain⟨x2,g2,q2⟩:=r.get (ar j2')
 obtain⟨u1,f1,v1⟩:=w'.get g1
 obtain⟨u2,f2,v2⟩:=w.get g2
 have E:=ih i[j] z[j] A.in1 x1 x2 u1 u2 (e j) (bd (rj j1') hd) q1 q2 v1 v2 hu (h1 j j1' j2')
 have t1:its'.toArray[j]=u1:=by simpa using (ao.mp f1).2
 have t2:its.toArray[j]=u2:=by simpa using (ao.mp f2).2
 rw[t1,t2];exact E
theorem E0(I:bE X af σ H s):∀(n:Nat) (a b:W) (A:Around) (x y:V) (u v:Value) (k:Bool),a.dep<=n->bj X.K μ H a x->bj X.K μ H b y->cf x u->cf y v->A.units+n<cLine->jZ a b=some k->SeqAt.EqAt A s u v k:=by
 intro n
 induction n with
 |zero=>exact fun a b A x y u v k hn ra rb ru rv hu he=>Bs (si I ra ru) (si I rb rv) hu (.inr (by omega)) he
 |succ m ih=>
  intro a b A x y u v k hn ra rb ru rv hu he
  by_cases hb:b.dep=0\/a.dep=0
  ·exact Bs (si I ra ru) (si I rb rv) (by omega) hb he
  ·cases b with
   |tup z=>
    cases a with
    |tup i=>
     obtain⟨p',uW,rfl,hS',r'⟩:=id ra.tupE;cases ru;obtain⟨its',w',ht',_⟩:=I.tuple hS'
     obtain⟨p,vs,rfl,hS,r⟩:=id rb.tupE;cases rv;obtain⟨its,w,ht,_⟩:=I.tuple hS
     by_cases hpp:p'=p
     ·subst hpp
      rw[EZ I (m+1) (.tup i) (.tup z) (.ref p') k hn ra rb he]
      exact SeqAt.EqAt.same _
     ·obtain⟨e,h1,h2⟩:=pW i z k (by unfold jZ at he;exact he)
      have R:=SeqAt.RcAt.tuples (A:=A) (e:=e) ht' ht (by omega) (yy ih r' r w' w (by unfold W.dep at hn;omega) (by omega) h1)
      rw[show its'.toArray.size=i.length by simp[<- w'.length,<- r'.len],show its.toArray.size=z.length by simp[<- w.length,<- r.len],h2]at R
      exact SeqAt.EqAt.of_refs hpp R
    |_=>exact(hb (.inr rfl)).elim
   |_=>exact(hb (.inl rfl)).elim
theorem E1(I:bE X af σ H s){a b:W}{x:V}{v:Value}{k:Bool}(hn:b.dep=0\/a.dep<=n)(ra:bj X.K μ H a x)(rb:bj X.K μ H b y)(ru:cf x u)(rv:cf y v)(hu:A.units+n<cLine)(he:jZ a b=some k):SeqAt.RcAt A s u v k/\SeqAt.RcNeAt A s u v (!k):=by
 by_cases hb:b.dep=0\/a.dep=0
 ·exact⟨IL (si I ra ru) (si I rb rv) (by omega) hb he,C6 (si I ra ru) (si I rb rv) (by omega) hb he⟩
 cases b with
 |tup z=>
  cases a with
  |tup i=>
   obtain⟨p',uW,rfl,hS',r'⟩:=ra.tupE;cases ru;obtain⟨its',w',ht',_⟩:=I.tuple hS'
   obtain⟨p,vs,rfl,hS,r⟩:=rb.tupE;cases rv;obtain⟨its,w,ht,_⟩:=I.tuple hS
   obtain⟨e,h1,h2⟩:=pW i z k (by unfold jZ at he;exact he)
   have hd:depWs i+1<=n:=hn.elim (fun z=>(hb (.inl z)).elim) id
   obtain⟨m,rfl⟩:∃m,n=m+1:=⟨n-1,by omega⟩
   have T:=yy (A:=A) (E0 I m) r' r w' w (by omega) (by omega) h1
   have R:=SeqAt.RcAt.tuples (A:=A) (e:=e) ht' ht (by omega) T
   have R2:=SeqAt.RcNeAt.tuples (A:=A) (e:=e) ht' ht (by omega) T
   rw[show its'.toArray.size=i.length by simp[<- w'.length,<- r'.len],show its.toArray.size=z.length by simp[<- w.length,<- r.len],h2]at R R2
   exact⟨R,R2⟩
  |_=>exact(hb (.inr rfl)).elim
 |_=>exact(hb (.inl rfl)).elim
end
def mU:W->W->List al->R W:=fun x y st=>match jZ x y with
 |some k=>if y.dep=0\/x.dep<=64 then .ok (.bl k) st else .bad
 |none=>.bad
theorem pf{k:Nat}(hr:hX k X.A):qo X (compareOp .Eq) mU:=⟨fun af s σ H x y v u Q I rv ru ⟨μ,st,wx,wy,S,rx,ry,q⟩=>by
 unfold mU at q
 cases e:jZ wx wy with
 |none=>rw[e]at q;exact q.elim
 |some b=>
  rw[e]at q
  simp only at q
  by_cases c:wy.dep=0\/wx.dep<=64
  ·rw[av c]at q
   have:=hr.units
   exact(E1 I c rx ry rv ru this e).1 X.prog X.w X.xe _ ⟨.bl b,H,I,rfl,jg S q⟩
  ·rw[az c]at q;exact q.elim,fun x y st=>by
 unfold mU
 split
 ·split<;>trivial
 ·trivial⟩
def KJ:W->W->List al->R W:=fun x y st=>match jZ x y with
 |some k=>if y.dep=0\/x.dep<=64 then .ok (.bl (!k)) st else .bad
 |none=>.bad
theorem E2{k:Nat}(hr:hX k X.A):qo X (compareOp .NotEq) KJ:=⟨fun af s σ H x y v u Q I rv ru ⟨μ,st,wx,wy,S,rx,ry,q⟩=>by
 unfold KJ at q
 cases e:jZ wx wy with
 |none=>rw[e]at q;exact q.elim
 |some b=>
  rw[e]at q
  simp only at q
  by_cases c:wy.dep=0\/wx.dep<=64
  ·rw[av c]at q
   have:=hr.units
   exact(E1 I c rx ry rv ru this e).2 X.prog X.w X.xe _ ⟨.bl (!b),H,I,rfl,jg S q⟩
  ·rw[az c]at q;exact q.elim,fun x y st=>by
 unfold KJ
 split
 ·split<;>trivial
 ·trivial⟩
def qt(x:W):List W->Option Bool
 |[]=>some false
 |y::ys=>match jZ y x,qt x ys with
  |some a,some b=>some (a||b)
  |_,_=>none
def wB(xU:Bool)(x y:W)(st:List al):R W:=match y with
 |.str l=>(match x with
  |.str [c]=>.ok (.bl (if xU then !decide (c∈l)else decide (c∈l))) st
  |_=>.bad)
 |.tup ys=>(match qt x ys with
  |some k=>if depWs ys<=63 then .ok (.bl (if xU then !k else k)) st else .bad
  |none=>.bad)
 |.loc n=>(match st[n]? with
  |some (.lst ys)=>(match qt x ys with
   |some k=>if depWs ys<=63 then .ok (.bl (if xU then !k else k)) st else .bad
   |none=>.bad)
  |_=>.bad)
 |_=>.bad
theorem yz{x:W}:∀{ys:List W} {k:Bool},qt x ys=some k->(∀(j:Nat) w,ys[j]?=some w->∃b,jZ w x=some b)/\(k=true↔∃(j:Nat) (w:W),ys[j]?=some w/\jZ w x=some true)
 |[],k,h=>by
  unfold qt at h;cases h
  exact⟨fun j w e=>by simp at e,fun z=>(by cases z),fun⟨j,w,e,_⟩=>(by simp at e)⟩
 |y::ys,k,h=>by
  unfold qt at h
  cases e1:jZ y x with
  |none=>rw[e1]at h;simp at h
  |some a=>
   cases e2:qt x ys with
   |none=>rw[e1,e2]at h;simp at h
   |some b=>
    rw[e1,e2]at h
    simp at h
    obtain⟨q1,q2⟩:=yz e2
    refine⟨fun j w e=>?_,fun z=>?_,fun⟨j,w,e,f⟩=>?_⟩
    ·cases j with
     |zero=>simp at e;subst e;exact⟨a,e1⟩
     |succ j=>exact q1 j w (by simpa using e)
    ·rw[<- h]at z
     cases a with
     |true=>exact⟨0,y,rfl,e1⟩
     |false=>
      obtain⟨j,w,p,q⟩:=q2.mp (by simpa using z)
      exact⟨j+1,w,by simpa using p,q⟩
    ·rw[<- h]
     cases j with
     |zero=>simp at e;subst e;rw[e1]at f;cases f;rfl
     |succ j=>rw[q2.mpr ⟨j,w,by simpa using e,f⟩];simp
theorem mZ(I:bE X af σ H s){wx:W}{x:V}{v:Value}(rx:bj X.K μ H wx x)(rv:cf x v)(n:Nat){A:Around}(hu:A.units+n<cLine)
  {ys:List W} {vs:List V} {us:List Value} {k:Bool} (hd:depWs ys<=n) (rs:RelWs X.K μ H ys vs) (jW:cA vs us) (ha:qt wx ys=some k):∃e:Value->Bool,(∀u,u∈us.toArray->SeqAt.EqAt A s u v (e u))/\us.toArray.any e=k:=by
 classical
 obtain⟨q1,q2⟩:=yz ha
 have at':∀(j:Nat) (u:Value),us[j]?=some u->∃w b,ys[j]?=some w/\jZ w wx=some b/\SeqAt.EqAt A s u v b:=fun j u e=>by
  have hj:j<ys.length:=by
   have h1:=(ao.mp e).1
   rw[rs.len,jW.length];exact h1
  obtain⟨b,hb⟩:=q1 j ys[j] (ar hj)
  obtain⟨y,g1,r1⟩:=rs.get (ar hj)
  obtain⟨u',f1,v1⟩:=jW.get g1
  rw[e]at f1;cases f1
  exact⟨_,b,ar hj,hb,E0 I n ys[j] wx A y x u v b (bd (rj hj) hd) r1 rx v1 rv hu hb⟩
 refine⟨fun u=>decide (∃(j:Nat) (w:W),us[j]?=some u/\ys[j]?=some w/\jZ w wx=some true),fun u hu=>?_,?_⟩
 ·by_cases c:∃(j:Nat) (w:W),us[j]?=some u/\ys[j]?=some w/\jZ w wx=some true
  ·show SeqAt.EqAt A s u v (decide _)
   rw[aV c]
   obtain⟨j,w,e1,e2,e3⟩:=c
   obtain⟨w',b,f1,f2,f3⟩:=at' j u e1
   rw[e2]at f1;cases f1
   rw[e3]at f2;cases f2
   exact f3
  ·show SeqAt.EqAt A s u v (decide _)
   rw[aH c]
   obtain⟨j,hj,e⟩:=List.mem_iff_getElem.mp (show u∈us by simpa using hu)
   have e':us[j]?=some u:=by rw[ar hj,e]
   obtain⟨w',b,f1,f2,f3⟩:=at' j u e'
   cases b with
   |false=>exact f3
   |true=>exact absurd ⟨j,w',e',f1,f2⟩ c
 ·rw[List.any_toArray]
  cases k with
  |true=>
   obtain⟨j,w,e1,e2⟩:=q2.mp rfl
   have hj:j<us.length:=by rw[<- jW.length,<- rs.len];exact(ao.mp e1).1
   exact List.any_eq_true.mpr ⟨us[j],d_ hj,aV ⟨j,w,ar hj,e1,e2⟩⟩
  |false=>
   refine lT.mpr fun u _ c=>?_
   obtain⟨j,w,_,e1,e2⟩:=of_decide_eq_true c
   have:=q2.mpr ⟨j,w,e1,e2⟩
   cases this
theorem IM{k:Nat}(hr:hX k X.A):qo X (compareOp .In) (wB false):=⟨fun af s σ H x y v u Q I rv ru ⟨μ,st,wx,wy,S,rx,ry,q⟩=>by
 have hu:=hr.units
 cases wy with
 |str l=>
  simp only[wB]at q
  split at q
  ·exact CM af s σ H x y v u Q I rv ru ⟨_,_,rx.strE,ry.strE,jg S q⟩
  ·exact q.elim
 |tup ys=>
  simp only[wB]at q
  cases hk:qt wx ys with
  |none=>rw[hk]at q;exact q.elim
  |some kk=>
   rw[hk]at q
   simp only at q
   by_cases c:depWs ys<=63
   ·rw[av c]at q
    obtain⟨p,vs,rfl,hS,r⟩:=ry.tupE
    cases ru
    obtain⟨its,w,ht,_⟩:=I.tuple hS
    obtain⟨e,he,ha⟩:=mZ (A:=X.A.in1) I rx rv 63 (by show X.A.units+1+63<cLine;omega) c r w hk
    exact SeqAt.in_tupleAt e ht he ⟨.bl _,H,I,rfl,by rw[ha];exact jg S q⟩
   ·rw[az c]at q;exact q.elim
 |loc n=>
  simp only[wB]at q
  cases e1:st[n]? with
  |none=>rw[e1]at q;exact q.elim
  |some cc=>
   rw[e1]at q
   cases cc with
   |lst ys=>
    simp only at q
    cases hk:qt wx ys with
    |none=>rw[hk]at q;exact q.elim
    |some kk=>
     rw[hk]at q
     simp only at q
     by_cases c:depWs ys<=63
     ·rw[av c]at q
      obtain⟨a1,g1,vs,k1,r⟩:=S.get e1
      obtain⟨b1,f1,rfl⟩:=ry.locE
      rw[g1]at f1;cases f1
      cases ru
      obtain⟨its,w,ht,_⟩:=I.list (nG.of k1)
      obtain⟨e,he,ha⟩:=mZ (A:=X.A.in1) I rx rv 63 (by show X.A.units+1+63<cLine;omega) c r w hk
      exact SeqAt.in_listAt e ht.isList he ⟨.bl _,H,I,rfl,by rw[ha];exact jg S q⟩
     ·rw[az c]at q;exact q.elim
   |_=>exact q.elim
 |_=>exact q.elim,fun x y st=>by
 unfold wB
 repeat' split
 all_goals trivial⟩
theorem Bt{k:Nat}(hr:hX k X.A):qo X (compareOp .NotIn) (wB true):=⟨fun af s σ H x y v u Q I rv ru ⟨μ,st,wx,wy,S,rx,ry,q⟩=>by
 have hu:=hr.units
 cases wy with
 |str l=>
  simp only[wB]at q
  split at q
  ·exact wu af s σ H x y v u Q I rv ru ⟨_,_,rx.strE,ry.strE,jg S q⟩
  ·exact q.elim
 |tup ys=>
  simp only[wB]at q
  cases hk:qt wx ys with
  |none=>rw[hk]at q;exact q.elim
  |some kk=>
   rw[hk]at q
   simp only at q
   by_cases c:depWs ys<=63
   ·rw[av c]at q
    obtain⟨p,vs,rfl,hS,r⟩:=ry.tupE
    cases ru
    obtain⟨its,w,ht,_⟩:=I.tuple hS
    obtain⟨e,he,ha⟩:=mZ (A:=X.A.in1) I rx rv 63 (by show X.A.units+1+63<cLine;omega) c r w hk
    exact SeqAt.notIn_tupleAt e ht he ⟨.bl _,H,I,rfl,by rw[ha];exact jg S q⟩
   ·rw[az c]at q;exact q.elim
 |loc n=>
  simp only[wB]at q
  cases e1:st[n]? with
  |none=>rw[e1]at q;exact q.elim
  |some cc=>
   rw[e1]at q
   cases cc with
   |lst ys=>
    simp only at q
    cases hk:qt wx ys with
    |none=>rw[hk]at q;exact q.elim
    |some kk=>
     rw[hk]at q
     simp only at q
     by_cases c:depWs ys<=63
     ·rw[av c]at q
      obtain⟨a1,g1,vs,k1,r⟩:=S.get e1
      obtain⟨b1,f1,rfl⟩:=ry.locE
      rw[g1]at f1;cases f1
      cases ru
      obtain⟨its,w,ht,_⟩:=I.list (nG.of k1)
      obtain⟨e,he,ha⟩:=mZ (A:=X.A.in1) I rx rv 63 (by show X.A.units+1+63<cLine;omega) c r w hk
      exact SeqAt.notIn_listAt e ht.isList he ⟨.bl _,H,I,rfl,by rw[ha];exact jg S q⟩
     ·rw[az c]at q;exact q.elim
   |_=>exact q.elim
 |_=>exact q.elim,fun x y st=>by
 unfold wB
 repeat' split
 all_goals trivial⟩
section
variable{w:World}
theorem yA{t sl:Addr}{items:Array Value}{vl vu:Value}{lo hi:Option Int}(ht:IsTup s.heap t items)(hs:s.heap.IsSliceOf sl vl vu .none)(pl:IsPart vl lo)(pu:IsPart vu hi)
  (hw:HT.sIx items.size 0 lo=0/\HT.sIx items.size items.size hi=items.size) (h:Q (.ref t) s):wpAny (model prog w) A (getItem (.ref t) (.ref sl)) Q E s:=by
 obtain⟨os,hos,hcs,Mf⟩:=id hs
 have hTs:s.TypeIs (.ref sl) "slice":=⟨os,hos,hcs⟩
 unfold getItem
 try with_reducible refine cx ?_
 first|refine aa (ae ?_)|skip
 refine aa (wpAny_sequenceKey ht.typeIs (by decide) ?_)
 refine aa (bt (name:=Str.ofString "__getitem__") ht.typeIs dY
  (bp dY ht.typeIs entry_tuple_getitem ?_ (args_tuple_getitem _ _)))
 show wpAny _ _ (Builtin.Tuple.tupleItemsOf (.ref t) >>= _) _ _ s
 refine aa (tupleItemsOf_ ht ?_)
 refine aa (iB hTs ?_)
 rw[av (by decide)]
 refine aa (HT.sliceApplied_gen hs pl pu ?_)
 have hyes:(((HT.sIx items.size 0 lo:Nat):Int)==0&&(1:Int)==1&&(HT.sIx items.size items.size hi-HT.sIx items.size 0 lo)==items.size)=true:=by
  rw[hw.1,hw.2];simp
 show wpAny _ _ (if (((HT.sIx items.size 0 lo:Nat):Int)==0&&(1:Int)==1&&(HT.sIx items.size items.size hi-HT.sIx items.size 0 lo)==items.size)=true then _ else _) _ _ s
 rw[av hyes]
 unfold Builtin.Tuple.tupleIsExact
 obtain⟨ot,hot,Se,nt,hdt⟩:=id ht
 refine aa (aa (iB (T:="tuple") ht.typeIs ?_))
 refine ae ?_
 rw[av (by decide)]
 exact aa (fK (ae ⟨_,rfl,ae h⟩))
end
section
variable{a b o:Expr}{fa fb fc fe:FE}{fs:FA}
def lstOf(st:List al)(n:Nat):Option (List W):=match st[n]? with
 |some (.lst ws)=>some ws
 |some (.ro ws)=>some ws
 |_=>none
theorem fO.lstOf(S:fO K mg μ st H)(h:lstOf st n=some ws):∃a vs,μ[n]?=some a/\nG K H a vs/\RelWs K μ H ws vs:=by
 unfold L2.lstOf at h
 cases e:st[n]? with
 |none=>rw[e]at h;cases h
 |some cc=>
  rw[e]at h
  cases cc with
  |lst zs=>cases h;obtain⟨a,g,vs,k,r⟩:=S.get e;exact⟨a,vs,g,nG.of k,r⟩
  |ro zs=>cases h;obtain⟨a,g,vs,k,r⟩:=S.get e;exact⟨a,vs,g,k.sq,r⟩
  |exc zs=>cases h
  |dct zs=>cases h
  |rod zs=>cases h
  |dcx zs=>cases h
  |rox zs=>cases h
  |tab _ _ _=>cases h
  |pin _ _ _ _=>cases h
  |gone=>cases h
def sL(o:Option α)(k:α->R W):R W:=match o with
 |some a=>k a
 |none=>.bad
@[simp] theorem df{α:Type}(a:α)(k:α->R W):sL (some a) k=k a:=rfl
def bW(x y:W)(st:List al):R W:=match x,y with
 |.tup ws,.int i=>sL (sW ws i) fun w=>.ok w st
 |.str l,.int i=>if l.length<=jx then sL (sW l i) (fun c=>.ok (.str [c]) st)else .bad
 |.loc n,.int i=>sL (lstOf st n) fun ws=>sL (sW ws i) fun w=>.ok w st
 |_,_=>.bad
theorem Bu{i:Int}{w:W}(r:RelWs K μ H ws vs)(h:sW ws i=some w):∃v,sW vs i=some v/\bj K μ H w v:=by
 unfold sW at h ⊢
 rw[<- r.len]
 cases e:Ky ws.length i with
 |none=>rw[e]at h;cases h
 |some k=>rw[e]at h;exact r.get h
theorem TM:HA X (Qj X bW):=fun value slice af s σ H x y v u Q I rv ru ⟨μ,st,wx,wy,S,rx,ry,q⟩ hs=>by
 refine MQ value slice af s σ H x y v u Q I rv ru ?_ hs
 cases wy with
 |int i=>
  cases wx with
  |tup ws=>
   simp only[bW]at q
   cases e1:sW ws i with
   |none=>rw[e1]at q;exact q.elim
   |some w=>
    rw[e1]at q
    obtain⟨p,vs,rfl,hS,r⟩:=rx.tupE
    obtain⟨z,f,g⟩:=Bu r e1
    exact .inr (.inl ⟨p,vs,i,z,rfl,ry.intE,hS,f,q μ z H (ac _) dg.refl S g⟩)
  |str l=>
   simp only[bW]at q
   by_cases c:l.length<=jx
   ·rw[av c]at q
    cases e1:sW l i with
    |none=>rw[e1]at q;exact q.elim
    |some w=>
     rw[e1]at q
     exact .inr (.inr ⟨_,i,w,rx.strE,ry.intE,by rw[jc];exact iX c,by rw[MW];exact e1,qp S q⟩)
   ·rw[az c]at q;exact q.elim
  |loc n=>
   simp only[bW]at q
   cases e0:lstOf st n with
   |none=>rw[e0]at q;exact q.elim
   |some ws=>
    rw[e0]at q
    cases e1:sW ws i with
    |none=>rw[df,e1]at q;exact q.elim
    |some w=>
     rw[df,e1]at q
     obtain⟨a,vs,g,hS,r⟩:=S.lstOf e0
     obtain⟨b1,f1,rfl⟩:=rx.locE
     rw[g]at f1;cases f1
     obtain⟨z,f,g⟩:=Bu r e1
     exact .inl ⟨_,vs,i,z,rfl,ry.intE,hS,f,q μ z H (ac _) dg.refl S g⟩
  |_=>exact q.elim
 |_=>cases wx<;>exact q.elim
theorem oz{o:Option α}{k:α->R W}(h:∀a,pe (k a)):pe (sL o k):=by
 unfold sL
 split
 ·exact h _
 ·trivial
theorem Qz(x y:W)(st:List al):pe (bW x y st):=by
 unfold bW
 split
 ·exact oz fun _=>trivial
 ·split
  ·exact oz fun _=>trivial
  ·trivial
 ·exact oz fun _=>oz fun _=>trivial
 ·trivial
theorem gr(ha:SE X a fa)(hb:SE X b fb)(hs:Bc b:=by intro _ _;rfl):SE X (.Subscript a b pos) (e2 bW fa fb):=⟨(PV TM ha.h hb.h hs).imp fun _ _ _ h=>Bn Qz h⟩
abbrev FO:=ca->List al->R (Option Int)
abbrev TN:List Addr->Hp->Option Int->Option Int->Prop:=fun _ _ a b=>a=b
structure SO(X:Cx)(e:Option Expr)(f:FO):Prop where
 h:PO X e (tG X TN f)
def pE:FO:=fun _ st=>.ok none st
def kT(fa:FE):FO:=fun ρ st=>(fa ρ st).bind fun x st=>match x with
 |.int i=>.ok (some i) st
 |_=>.bad
theorem PO.imp{e:Option Expr}{t t':TO}(h:PO X e t)(i:∀σ H Q,t' σ H Q->t σ H Q):PO X e t':=fun af s σ H Q I q=>h af s σ H Q I (i _ _ _ q)
theorem m3:SO X none pE:=⟨H_.imp fun σ H Q h=>by
 obtain⟨μ,ρ,st,l,h⟩:=h
 exact h μ none H (ac _) dg.refl l.sto rfl⟩
theorem kJ(ha:SE X a fa):SO X (some a) (kT fa):=⟨(Ia ha.h).imp fun σ H Q h=>by
 obtain⟨μ,ρ,st,l,h⟩:=h
 refine⟨μ,ρ,st,l,RK.bind h l fun μ1 st1 x v H1 p1 x1 l1 q1 h1=>?_⟩
 cases x with
 |int k=>exact⟨k,q1.intE,h1 μ1 _ H1 (ac _) dg.refl l1.sto rfl⟩
 |_=>exact h1.elim⟩
def m5(xs:List α)(lo hi:Option Int):List α:=(xs.drop (HT.sIx xs.length 0 lo)).take (HT.sIx xs.length xs.length hi-HT.sIx xs.length 0 lo)
def C7(x:W)(lo hi:Option Int)(st:List al):R W:=match x with
 |.tup ws=>.ok (.tup (m5 ws lo hi)) st
 |.str l=>if l.length<=jx then .ok (.str (m5 l lo hi)) st else .bad
 |.loc n=>sL (lstOf st n) fun ws=>.ok (.loc st.length) (st++[.lst (m5 ws lo hi)])
 |_=>.bad
theorem QB(x:W)(lo hi:Option Int)(st:List al):pe (C7 x lo hi st):=by
 unfold C7 sL
 repeat' split
 all_goals trivial
def C8(fa:FE)(fl fh:FO):FE:=fun ρ st=>(fa ρ st).bind fun x st=>(fl ρ st).bind fun l st=>(fh ρ st).bind fun h st=>C7 x l h st
theorem TQ:PR X (fun x lo hi H Q=>∃μ st wx,fO X.K X.mg μ st H/\bj X.K μ H wx x/\CY X μ H Q (C7 wx lo hi st)):=by
 intro af s σ H x v vl vu lo hi sl Q I rv hs pl pu ⟨μ,st,wx,S,rx,q⟩
 cases wx with
 |tup ws=>
  obtain⟨p,vs,rfl,hS,r⟩:=rx.tupE
  have hl:=r.len
  by_cases hw:HT.sIx vs.length 0 lo=0/\HT.sIx vs.length vs.length hi=vs.length
  ·cases rv
   obtain⟨its,w,ht,hz⟩:=I.tuple hS
   have c_:its.toArray.size=vs.length:=by rw[aO];exact w.length.symm
   refine⟨"tuple",_,dY.lookup,ht.typeIs,yA ht hs pl pu (by rw[c_];exact hw) ⟨.ref p,H,I,rfl,?_⟩⟩
   have e:m5 ws lo hi=ws:=by
    unfold m5
    rw[hl,hw.1,hw.2,List.drop_zero,Nat.sub_zero,<- hl,iD]
   have q':CY X μ H Q (.ok (.tup (m5 ws lo hi)) st):=q
   rw[e]at q'
   exact q' μ _ H (ac _) dg.refl S rx
  ·refine MN af s σ H _ v vl vu lo hi sl Q I rv hs pl pu ⟨p,vs,rfl,hS,hw,fun p2 hp2=>?_⟩
   have x:=fj.same (K:=X.K) (cn hp2 (.tup (tJ vs lo hi)))
   have rc:RelWs X.K μ H (m5 ws lo hi) (tJ vs lo hi):=by
    unfold m5 tJ
    rw[hl]
    exact(r.drop _).take _
   exact q μ _ _ (ac _) x (S.same (cn hp2 _)) (.tupI fj.new (rc.mono (ac _) x))
 |str l=>
  simp only[C7]at q
  by_cases c:l.length<=jx
  ·rw[av c]at q
   exact MZ af s σ H _ v vl vu lo hi sl Q I rv hs pl pu ⟨l,rx.strE,iX c,qp S q⟩
  ·rw[az c]at q;exact q.elim
 |loc n=>
  simp only[C7]at q
  cases e0:lstOf st n with
  |none=>rw[e0]at q;exact q.elim
  |some ws=>
   rw[e0]at q
   obtain⟨a,vs,g,hS,r⟩:=S.lstOf e0
   obtain⟨b1,f1,rfl⟩:=rx.locE
   rw[g]at f1;cases f1
   have hl:=r.len
   refine Ig af s σ H _ v vl vu lo hi sl Q I rv hs pl pu ⟨_,vs,rfl,hS,fun p2 hp2=>?_⟩
   have rc:RelWs X.K μ H (m5 ws lo hi) (tJ vs lo hi):=by
    unfold m5 tJ
    rw[hl]
    exact(r.drop _).take _
   exact q (μ++[p2]) _ _ (ag _ _) (fj.same (cn hp2 _)) (S.newLst hp2 rc) (pV S)
 |_=>exact q.elim
theorem yB{lo hi:Option Expr}{fl fh:FO}(ha:SE X a fa)(hl:SO X lo fl)(hh:SO X hi fh):SE X (.Subscript a (.Slice lo hi none p2) pos) (C8 fa fl fh):=⟨(Eo TQ ha.h hl.h hh.h).imp fun σ H Q h=>by
 obtain⟨μ,ρ,st,l,h⟩:=h
 refine⟨μ,ρ,st,l,RK.bind h l fun μ1 st1 x v H1 p1 x1 l1 q1 h1=>⟨μ1,ρ,st1,l1,RK.bind h1 l1 fun μ2 st2 y u H2 p2 x2 l2 q2 h2=>⟨μ2,ρ,st2,l2,RK.bind h2 l2 fun μ3 gD z t H3 p3 x3 l3 q3 h3=>?_⟩⟩⟩
 cases q2;cases q3
 exact⟨μ3,gD,x,l3.sto,(q1.mono p2 x2).mono p3 x3,pU h3 (QB _ _ _ _)⟩⟩
def Ur(X:Cx)(F:List W->List al->R W):List V->Hp->VK->Prop:=fun vs H Q=>∃μ st ws,fO X.K X.mg μ st H/\RelWs X.K μ H ws vs/\CY X μ H Q (F ws st)
structure pF(X:Cx)(f:Value)(F:List W->List al->R W):Prop where
 h:kC X f (Ur X F)
 n:∀ws st,pe (F ws st)
def bz(F:List W->List al->R W)(fs:FA):FE:=fun ρ st=>(fs ρ st).bind fun ws st=>F ws st
theorem Bv{Q:VK}(n:∀ws st,pe (F ws st))(h:tE X (bz F fs) σ H Q):Tu (Ur X F) (Qh X fs) σ H Q:=by
 obtain⟨μ,ρ,st,l,h⟩:=h
 exact⟨μ,ρ,st,l,RK.bind h l fun μ1 st1 x v H1 p1 x1 l1 q1 h1=>⟨μ1,st1,x,l1.sto,q1,pU h1 (n _ _)⟩⟩
theorem gY{id:String}(hc:pF X (.builtin id) F)(hm:X.mg x=none)(hv:bootBuiltins x=some (.builtin id))(ha:SA X (e::es) fs)(hg:Gl X x:=by rfl)(hn:x ≠ "__name__":=by decide)(vf:(x==("__debug__":Str))=false:=by decide)
  (he:starEach (e::es) X.env=(false,eval e X.env)::starEach es X.env:=by rfl) (mI:(backTo pos (starEach es X.env)).any (·.1)=false:=by rfl):SE X (.Call (.Name x p) (e::es) [] pos) (bz F fs):=⟨(x6 hc.h hg hm hv ha.h hn vf he mI).imp fun _ _ _ h=>Bv hc.n h⟩
theorem fG(hc:pF X (.type T) F)(hm:X.mg x=none)(hv:bootBuiltins x=some (.type T))(ha:SA X (e::es) fs)(hg:Gl X x:=by rfl)(hn:x ≠ "__name__":=by decide)(vf:(x==("__debug__":Str))=false:=by decide)
  (he:starEach (e::es) X.env=(false,eval e X.env)::starEach es X.env:=by rfl) (mI:(backTo pos (starEach es X.env)).any (·.1)=false:=by rfl):SE X (.Call (.Name x p) (e::es) [] pos) (bz F fs):=⟨(CA hc.h hg hm hv ha.h hn vf he mI).imp fun _ _ _ h=>Bv hc.n h⟩
theorem RelWs.two{a b:W}(r:RelWs K μ H [a,b] vs):∃x y,vs=[x,y]/\bj K μ H a x/\bj K μ H b y:=by
 obtain⟨x,xs,rfl,rx,rn⟩:=r.consE
 obtain⟨y,ys,rfl,ry,rm⟩:=rn.consE
 rw[rm.nilE];exact⟨x,y,rfl,rx,ry⟩
theorem RelWs.one{a:W}(r:RelWs K μ H [a] vs):∃x,vs=[x]/\bj K μ H a x:=by
 obtain⟨x,xs,rfl,rx,rn⟩:=r.consE
 rw[rn.nilE];exact⟨x,rfl,rx⟩
def dE(ws:List W)(st:List al):R W:=match ws with
 |[.tup xs]=>.ok (.int xs.length) st
 |[.str l]=>if l.length<=jx then .ok (.int l.length) st else .bad
 |[.loc n]=>sL (lstOf st n) fun xs=>.ok (.int xs.length) st
 |_=>.bad
theorem pG:pF X (.builtin "len") dE:=⟨fun af s σ H vs us Q I rv ⟨μ,st,ws,S,r,q⟩=>by
 unfold dE at q
 split at q
 ·obtain⟨x,rfl,rx⟩:=r.one
  obtain⟨p,ys,rfl,hS,r'⟩:=rx.tupE
  exact qh af s σ H _ us Q I rv ⟨p,ys,rfl,.inr hS,by rw[<- r'.len];exact lP S q⟩
 ·obtain⟨x,rfl,rx⟩:=r.one
  split at q
  ·rename_i c
   exact wn af s σ H _ us Q I rv ⟨_,by rw[rx.strE],by rw[jc];exact iX c,by rw[jc];exact lP S q⟩
  ·exact q.elim
 ·obtain⟨x,rfl,rx⟩:=r.one
  unfold sL at q
  split at q
  ·rename_i ys e0
   obtain⟨a,vs,g,hS,r'⟩:=S.lstOf e0
   obtain⟨b1,f1,rfl⟩:=rx.locE
   rw[g]at f1;cases f1
   exact qh af s σ H _ us Q I rv ⟨_,vs,rfl,.inl hS,by rw[<- r'.len];exact lP S q⟩
  ·exact q.elim
 ·exact q.elim,fun ws st=>by
 unfold dE sL
 repeat' split
 all_goals trivial⟩
def E3(ws:List W)(st:List al):R W:=match ws with
 |[.int i,.int j]=>.ok (.int (if j>i then j else i)) st
 |_=>.bad
theorem QC(hc:X.calm=true:=by rfl):pF X (.builtin "max") E3:=⟨fun af s σ H vs us Q I rv ⟨μ,st,ws,S,r,q⟩=>by
 unfold E3 at q
 split at q
 ·obtain⟨x,y,rfl,rx,ry⟩:=r.two
  exact Cy hc af s σ H _ us Q I rv ⟨_,_,by rw[rx.intE,ry.intE],lP S q⟩
 ·exact q.elim,fun ws st=>by unfold E3;split<;>trivial⟩
def cE(ws:List W)(st:List al):R W:=match ws with
 |[.tup xs]=>.ok (.tup xs) st
 |[.loc n]=>sL (lstOf st n) fun xs=>.ok (.tup xs) st
 |_=>.bad
theorem iR:pF X (.type "tuple") cE:=⟨fun af s σ H vs us Q I rv ⟨μ,st,ws,S,r,q⟩=>by
 unfold cE at q
 split at q
 ·obtain⟨x,rfl,rx⟩:=r.one
  obtain⟨p,ys,rfl,hS,r'⟩:=id rx.tupE
  exact x9 af s σ H _ us Q I rv ⟨p,ys,rfl,hS,q μ _ H (ac _) dg.refl S rx⟩
 ·obtain⟨x,rfl,rx⟩:=r.one
  unfold sL at q
  split at q
  ·rename_i ys e0
   obtain⟨a,vs,g,hS,r'⟩:=S.lstOf e0
   obtain⟨b1,f1,rfl⟩:=rx.locE
   rw[g]at f1;cases f1
   refine yf af s σ H _ us Q I rv ⟨_,vs,rfl,hS,fun l H2 hl e=>?_⟩
   subst e
   have x:=fj.same (K:=X.K) (cn hl (.tup vs))
   exact q μ _ _ (ac _) x (S.same (cn hl _)) (.tupI fj.new (r'.mono (ac _) x))
  ·exact q.elim
 ·exact q.elim,fun ws st=>by
 unfold cE sL
 repeat' split
 all_goals trivial⟩
def C9(ws:List W)(st:List al):R W:=match ws with
 |[.int i]=>.ok (.int i) st
 |[.bl k]=>.ok (.int (if k then 1 else 0)) st
 |_=>.bad
theorem KL:pF X (.type "int") C9:=⟨fun af s σ H vs us Q I rv ⟨μ,st,ws,S,r,q⟩=>by
 unfold C9 at q
 split at q
 ·obtain⟨x,rfl,rx⟩:=r.one
  exact vk af s σ H _ us Q I rv (.inl ⟨_,by rw[rx.intE],lP S q⟩)
 ·obtain⟨x,rfl,rx⟩:=r.one
  exact vk af s σ H _ us Q I rv (.inr ⟨_,by rw[rx.blE],lP S q⟩)
 ·exact q.elim,fun ws st=>by unfold C9;split<;>trivial⟩
end
section
variable{a b o:Expr}{fa fb fc fe:FE}{fs:FA}{ft:FT}{st1:Stmt}{sr sa sb:List Stmt}{g g':FS}
def bh(g g':FS):FS:=fun ρ st=>match g ρ st with
 |.nx ρ' bD=>g' ρ' bD
 |r=>r
def gy:FS:=fun ρ st=>.nx ρ st
theorem kg:SB X [] gy:=⟨HJ.imp fun D σ H h=>by
 obtain⟨μ,ρ,st,l,h⟩:=h
 exact h μ σ H (ac _) dg.refl l⟩
theorem fq(h1:SS X st1 g):SB X [st1] g:=⟨HK h1.h⟩
theorem bQ(h1:SS X st1 g)(h2:SB X sr g'):SB X (st1::sr) (bh g g'):=⟨(Ea h1.h h2.h).imp fun D σ H h=>by
 obtain⟨μ,ρ,st,l,h⟩:=h
 refine⟨μ,ρ,st,l,?_⟩
 unfold bh at h
 cases e:g ρ st with
 |nx ρ' bD=>rw[e]at h;exact fun μ' σ' H' p x l'=>⟨μ',ρ',bD,l',SK.mono h p x⟩
 |rt w bD=>rw[e]at h;exact h
 |bk ρ' bD=>rw[e]at h;exact h
 |ct ρ' bD=>rw[e]at h;exact h
 |ex c ρ' bD=>rw[e]at h;exact h
 |bad=>rw[e]at h;exact h⟩
def R.stmt(r:R α)(ρ:ca)(k:α->List al->RS):RS:=match r with
 |.ok a st=>k a st
 |.ex c st=>.ex c ρ st
 |.bad=>.bad
@[simp] theorem R.stmt_ok{α:Type}(a:α)(st:List al)(ρ:ca)(k:α->List al->RS):(R.ok a st).stmt ρ k=k a st:=rfl
theorem RK.stmt{rel:List Addr->Hp->α->β->Prop}{ρ:ca}{D:wc}{r:R α}{k:α->List al->RS}{T:β->Hp->Prop}
  (h:SK X μ H D (r.stmt ρ k)) (l:Rl X μ ρ st σ H)
  (hk:∀μ' bD x v H',μ <+: μ'->dg X.K H H'->Rl X μ' ρ bD σ H'->rel μ' H' x v->SK X μ' H' D (k x bD)->T v H'):RK X rel μ σ H T r:=by
 cases r with
 |ok a bD=>exact fun μ' b H' p x s q=>hk μ' bD a b H' p x (l.to p x s) q (SK.mono h p x)
 |ex c bD=>exact XS.toE h l
 |bad=>exact h
def h_(fe:FE):FS:=fun ρ st=>(fe ρ st).stmt ρ fun _ st=>.nx ρ st
theorem wC(he:SE X e fe)(hs:swapsWith e none pos.line X.env=pure false:=by rfl):SS X (.Expr e pos) (h_ fe):=⟨(HL he.h hs).imp fun D σ H h=>by
 obtain⟨μ,ρ,st,l,h⟩:=h
 exact⟨μ,ρ,st,l,RK.stmt h l fun μ1 st1 x v H1 p1 x1 l1 q1 h1=>h1 μ1 σ H1 (ac _) dg.refl l1⟩⟩
def f9(fe:FE):FS:=fun ρ st=>(fe ρ st).stmt ρ fun w st=>.rt w st
theorem m6(he:SE X e fe):SS X (.Return (some e) pos) (f9 fe):=⟨(Mu he.h).imp fun D σ H h=>by
 obtain⟨μ,ρ,st,l,h⟩:=h
 exact⟨μ,ρ,st,l,RK.stmt h l fun μ1 st1 x v H1 p1 x1 l1 q1 h1=>h1 μ1 v H1 (ac _) dg.refl l1.sto q1⟩⟩
def oA(t:FT)(g g':FS):FS:=fun ρ st=>(t ρ st).stmt ρ fun k st=>if k then g ρ st else g' ρ st
theorem nJ(hc:ST X c ft)(ha:SB X sa g)(hb:SB X sb g'):SS X (.If c sa sb pos) (oA ft g g'):=⟨(Pv hc.h ha.h hb.h).imp fun D σ H h=>by
 obtain⟨μ,ρ,st,l,h⟩:=h
 refine⟨μ,ρ,st,l,RK.stmt h l fun μ1 st1 x v H1 p1 x1 l1 q1 h1=>?_⟩
 cases q1
 cases x with
 |true=>exact⟨μ1,ρ,st1,l1,h1⟩
 |false=>exact⟨μ1,ρ,st1,l1,h1⟩⟩
abbrev FG:=W->ca->Option ca
abbrev KM:=List W->ca->Option ca
def M9(X:Cx)(f:FG):TG:=fun v σ H Q=>∃μ ρ st w ρ',Rl X μ ρ st σ H/\bj X.K μ H w v/\f w ρ=some ρ'/\∀σ',Rl X μ ρ' st σ' H->Q σ' H
def TR(X:Cx)(f:KM):HM:=fun vs σ H Q=>∃μ ρ st ws ρ',Rl X μ ρ st σ H/\RelWs X.K μ H ws vs/\f ws ρ=some ρ'/\∀σ',Rl X μ ρ' st σ' H->Q σ' H
theorem PG.imp{t t':TG}(h:PG X e t)(i:∀v σ H Q,t' v σ H Q->t v σ H Q):PG X e t':=fun af s σ H x u Q I r q=>h af s σ H x u Q I r (i _ _ _ _ q)
theorem Kw.imp{e:List Expr}{t t':HM}(h:Kw X e t)(i:∀v σ H Q,t' v σ H Q->t v σ H Q):Kw X e t':=fun af s σ H x u Q I r q=>h af s σ H x u Q I r (i _ _ _ _ q)
structure SG(X:Cx)(e:Expr)(f:FG):Prop where
 h:PG X e (M9 X f)
structure SF(X:Cx)(e:List Expr)(f:KM):Prop where
 h:Kw X e (TR X f)
def eA(i:Nat):FG:=fun w ρ=>some (ρ.set i (some w))
theorem sX(hN:X.N.Nodup)(hi:X.N[i]?=some x)(hx:Cq X.env.scope x)(hf:X.fn x=true\/X.env.scope.names.lookup x=some .local:=by first|exact .inl rfl|exact .inr rfl|assumption):SG X (.Name x pos) (eA i):=⟨(HQ hN hi hx hf).imp fun v σ H Q h=>by
 obtain⟨μ,ρ,st,w,ρ',l,r,e,q⟩:=h
 cases e
 exact q _ ⟨ql r i l.env,l.sto⟩⟩
def oB:KM:=fun ws ρ=>match ws with
 |[]=>some ρ
 |_=>none
def fv(f:FG)(fs:KM):KM:=fun ws ρ=>match ws with
 |w::ws=>(f w ρ).bind fun ρ'=>fs ws ρ'
 |[]=>none
theorem sY:SF X [] oB:=⟨HR.imp fun vs σ H Q h=>by
 obtain⟨μ,ρ,st,ws,ρ',l,r,e,q⟩:=h
 cases ws with
 |nil=>cases e;exact⟨r.nilE,q σ l⟩
 |cons _ _=>cases e⟩
theorem j0{f:FG}{fs:KM}(h1:SG X e f)(h2:SF X es fs)(hs:(assignEach (e::es) X.env).map (·.2)=assign e X.env::(assignEach es X.env).map (·.2):=by rfl):SF X (e::es) (fv f fs):=⟨(Eb h1.h h2.h hs).imp fun vs σ H Q h=>by
 obtain⟨μ,ρ,st,ws,ρ',l,r,e,q⟩:=h
 cases ws with
 |nil=>cases e
 |cons w ws=>
  obtain⟨x,xs,rfl,rx,rs⟩:=r.consE
  simp only[fv]at e
  cases e1:f w ρ with
  |none=>rw[e1]at e;cases e
  |some ρ1=>
   rw[e1]at e
   exact⟨x,xs,rfl,μ,ρ,st,w,ρ1,l,rx,e1,fun σ1 l1=>⟨μ,ρ1,st,ws,ρ',l1,rs,e,q⟩⟩⟩
def D0(n:Nat)(fs:KM):FG:=fun w ρ=>match w with
 |.tup ws=>if ws.length=n then fs ws ρ else none
 |_=>none
theorem wD{k:Nat}{fs:KM}(hc:X.calm=true)(h:SF X es fs)(hn:(assignEach es X.env).length=n:=by rfl)(uO:(assignEach es X.env).findIdx? (·.1)=none:=by rfl):SG X (.Tuple es k pos) (D0 n fs):=⟨(Mv hc h.h hn uO).imp fun v σ H Q h=>by
 obtain⟨μ,ρ,st,w,ρ',l,r,e,q⟩:=h
 cases w with
 |tup ws=>
  obtain⟨p,vs,rfl,hS,rs⟩:=r.tupE
  simp only[D0]at e
  by_cases c:ws.length=n
  ·rw[av c]at e
   exact⟨p,vs,rfl,hS,by rw[<- rs.len];exact c,μ,ρ,st,ws,ρ',l,rs,e,q⟩
  ·rw[az c]at e;cases e
 |_=>cases e⟩
def sM(fe:FE)(f:FG):FS:=fun ρ st=>(fe ρ st).stmt ρ fun w st=>match f w ρ with
 |some ρ'=>.nx ρ' st
 |none=>.bad
theorem QD{f:FG}{D:wc}(h:Qi X (sM fe f) D σ H):Ec (tE X fe) (M9 X f) D σ H:=by
 obtain⟨μ,ρ,st,l,h⟩:=h
 refine⟨μ,ρ,st,l,RK.stmt h l fun μ1 st1 x v H1 p1 x1 l1 q1 h1=>?_⟩
 cases e1:f x ρ with
 |none=>rw[e1]at h1;exact h1.elim
 |some ρ'=>rw[e1]at h1;exact⟨μ1,ρ,st1,x,ρ',l1,q1,e1,fun σ' l'=>h1 μ1 σ' H1 (ac _) dg.refl l'⟩
theorem E4{f:FG}(he:SE X e fe)(hg:SG X tg f)(hs:swapsWithSole [tg] e pos.line X.env=pure false:=by rfl)(hw:swappedStores [tg] e X.env=pure none:=by rfl)(h1:(assignEach [tg] X.env).map (·.2)=[assign tg X.env]:=by rfl):SS X (.Assign [tg] e pos) (sM fe f):=⟨(Ed he.h hg.h hs hw h1).imp fun D σ H h=>QD h⟩
def cb(i:Nat)(fe:FE):FS:=fun ρ st=>(fe ρ st).stmt ρ fun w st=>.nx (ρ.set i (some w)) st
theorem M_{nq:Pos}(hN:X.N.Nodup)(hi:X.N[i]?=some x)(hx:Cq X.env.scope x)(he:SE X e fe)(hs:swapsWith e (some (.Name x nq)) pos.line X.env=pure false:=by rfl)(hf:X.fn x=true\/X.env.scope.names.lookup x=some .local:=by first|exact .inl rfl|exact .inr rfl|assumption) :
  SS X (.Assign [.Name x nq] e pos) (cb i fe):=⟨(Mx hN hi hx he.h hs hf).imp fun D σ H h=>by
 obtain⟨μ,ρ,st,l,h⟩:=h
 exact⟨μ,ρ,st,l,RK.stmt h l fun μ1 st1 x v H1 p1 x1 l1 q1 h1=>h1 μ1 _ H1 (ac _) dg.refl ⟨ql q1 i l1.env,l1.sto⟩⟩⟩
def E5(fo fi fe:FE)(f:W->W->W->List al->Option (List al)):FS:=fun ρ st=>(fe ρ st).stmt ρ fun v st=>(fo ρ st).stmt ρ fun x st=>(fi ρ st).stmt ρ fun i st=>match f x i v st with
 |some bD=>.nx ρ bD
 |none=>.bad
def E6(X:Cx)(f:W->W->W->List al->Option (List al)):HN:=fun o i v H Q=>∃μ st wo wi wv bD,fO X.K X.mg μ st H/\bj X.K μ H wo o/\bj X.K μ H wi i/\bj X.K μ H wv v/\f wo wi wv st=some bD/\∀H',dg X.K H H'->fO X.K X.mg μ bD H'->Q H'
theorem Ap{f:W->W->W->List al->Option (List al)}{i:Expr}{nq:Pos}{fi:FE}{fo:FE}(DY:HP X (E6 X f))(he:SE X e fe)(ho:SE X o fo)(hi:SE X i fi)
  (ha:∀v,assign (.Subscript o i nq) X.env v=(do
   let ov <- holding [v] (eval o X.env)
   let iv <- holding [v,ov] (eval i X.env)
   standAt nq
   holding [v,ov,iv] (setItem ov iv v)
   release [v,ov,iv] []):=by intro _;rfl)
  (hs:swapsWithSole [.Subscript o i nq] e pos.line X.env=pure false:=by rfl) (hw:swappedStores [.Subscript o i nq] e X.env=pure none:=by rfl) (h1:(assignEach [.Subscript o i nq] X.env).map (·.2)=[assign (.Subscript o i nq) X.env]:=by rfl) :
  SS X (.Assign [.Subscript o i nq] e pos) (E5 fo fi fe f):=⟨(Ed he.h (Mw ho.h hi.h DY ha) hs hw h1).imp fun D σ H h=>by
 obtain⟨μ,ρ,st,l,h⟩:=h
 refine⟨μ,ρ,st,l,RK.stmt h l fun μ1 st1 v vv H1 p1 x1 l1 q1 h1=>⟨μ1,ρ,st1,l1,RK.stmt h1 l1 fun μ2 st2 x xv H2 p2 x2 l2 q2 h2=>⟨μ2,ρ,st2,l2,RK.stmt h2 l2 fun μ3 gD i iv H3 p3 x3 l3 q3 h3=>?_⟩⟩⟩
 cases e1:f x i v gD with
 |none=>rw[e1]at h3;exact h3.elim
 |some bD=>
  rw[e1]at h3
  exact⟨μ3,gD,x,i,v,bD,l3.sto,q2.mono p3 x3,q3,(q1.mono p2 x2).mono p3 x3,e1,fun H' xx S'=>h3 μ3 σ H' (ac _) xx (l3.to (ac _) xx S')⟩⟩
end
def i6(st:List al):Option (Nat×List W)->Prop
 |none=>True
 |some (n,ws)=>lstOf st n=some ws
abbrev C_:=List W×Option (Nat×List W)
abbrev FI:=ca->List al->R C_
def wE(X:Cx)(J:It)(k:C_)(μ:List Addr)(H:Hp):Prop:=
 ∀(i:Nat) μ' bD H',μ <+: μ'->dg X.K H H'->fO X.K X.mg μ' bD H'->i6 bD k.2 ->
  (∀w,k.1[i]?=some w->J.go i H'/\∀x H'',J.yld i H' x H''->dg X.K H' H''/\fO X.K X.mg μ' bD H''/\bj X.K μ' H'' w x)/\(k.1.length<=i->J.stop i H')
abbrev QF(X:Cx):List Addr->Hp->C_->It->Prop:=fun μ H k J=>wE X J k μ H
structure SI(X:Cx)(tg it:Expr)(f:FI):Prop where
 h:PI X tg it (fun σ H R=>tG X (QF X) f σ H R)
theorem PI.imp{it:Expr}{t t':TI}(h:PI X tg it t)(i:∀σ H Q,t' σ H Q->t σ H Q):PI X tg it t':=fun af s σ H Q I q=>h af s σ H Q I (i _ _ _ q)
open Classical in
def tV(f:FG)(body:FS)(ck:Option (Nat×List W)):List W->FS
 |[],ρ,st=>if i6 st ck then .nx ρ st else .bad
 |w::ws,ρ,st=>if i6 st ck then(match f w ρ with
  |none=>.bad
  |some ρ'=>(match body ρ' st with
   |.nx ρ2 st2=>tV f body ck ws ρ2 st2
   |.ct ρ2 st2=>tV f body ck ws ρ2 st2
   |.bk ρ2 st2=>.nx ρ2 st2
   |.rt w st2=>.rt w st2
   |.ex c ρ2 st2=>.ex c ρ2 st2
   |.bad=>.bad))else .bad
def i_(fi:FI)(f:FG)(body:FS):FS:=fun ρ st=>(fi ρ st).stmt ρ fun k st=>tV f body k.2 k.1 ρ st
section
variable{a b o:Expr}{fa fb fe:FE}{fs:FA}{ft:FT}{g:FS}{f:FG}{fi:FI}
theorem rq(hi:SI X tg b9 fi)(hg:SG X tg f)(hb:SB X body g)(hc:X.calm=true:=by rfl)(hp:PassesOwn (model X.prog X.w) X.A X.env X.xe:=by passes_own)(hs:∀x,foldedSetIterable b9 X.env x=pure x:=by intro _;rfl):SS X (.For tg b9 body [] pos) (i_ fi f g):=⟨(Mz hp hc hi.h hg.h hb.h hs).imp fun D σ H h=>by
 obtain⟨μ,ρ,st,l,h⟩:=h
 refine⟨μ,ρ,st,l,RK.stmt h l fun μ1 st1 k J H1 p1 x1 l1 wk h1=>?_⟩
 refine⟨fun i m σ' H'=>i<=k.1.length/\m=k.1.length-i/\∃μ' ρ' bD,μ1 <+: μ'/\dg X.K H1 H'/\Rl X μ' ρ' bD σ' H'/\SK X μ' H' D (tV f g k.2 (k.1.drop i) ρ' bD),
  ⟨_,cQ _,rfl,μ1,ρ,st1,ac _,dg.refl,l1,h1⟩,?_⟩
 rintro i m σ' H' ⟨hi,rfl,μ',ρ',bD,pm,xm,lm,hm⟩
 by_cases hlt:i<k.1.length
 ·rw[cZ hlt]at hm
  unfold tV at hm
  by_cases ck:i6 bD k.2
  ·rw[av ck]at hm
   obtain⟨go,yld⟩:=(wk i μ' bD H' pm xm lm.sto ck).1 _ (ar hlt)
   cases hf:f k.1[i] ρ' with
   |none=>rw[hf]at hm;exact hm.elim
   |some ρ2=>
    rw[hf]at hm
    simp only at hm
    refine .inr ⟨go,fun σ2 H2=>∃μ2 ρ3 st2,μ' <+: μ2/\dg X.K H' H2/\Rl X μ2 ρ3 st2 σ2 H2/\SK X μ2 H2 D (tV f g k.2 (k.1.drop (i+1)) ρ3 st2),fun σ2 H2 ⟨μ2,ρ3,st2,q1,q2,q3,q4⟩=>
     ⟨_,by omega,hlt,rfl,μ2,ρ3,st2,pm.trans q1,xm.trans q2,q3,q4⟩,fun x H2 hy=>?_⟩
    obtain⟨y1,y2,y3⟩:=yld x H2 hy
    refine⟨μ',ρ',bD,k.1[i],ρ2,lm.to (ac _) y1 y2,y3,hf,fun σ2 l2=>⟨μ',ρ2,bD,l2,?_⟩⟩
    cases e:g ρ2 bD with
    |nx ρ3 gD=>rw[e]at hm;exact fun μ4 σ4 H4 p4 x4 l4=>⟨μ4,ρ3,gD,p4,y1.trans x4,l4,SK.mono hm p4 (y1.trans x4)⟩
    |ct ρ3 gD=>rw[e]at hm;exact fun μ4 σ4 H4 p4 x4 l4=>⟨μ4,ρ3,gD,p4,y1.trans x4,l4,SK.mono hm p4 (y1.trans x4)⟩
    |bk ρ3 gD=>rw[e]at hm;exact fun μ4 σ4 H4 p4 x4 l4=>hm μ4 σ4 H4 p4 (y1.trans x4) l4
    |rt w gD=>rw[e]at hm;exact fun μ4 v4 H4 p4 x4=>hm μ4 v4 H4 p4 (y1.trans x4)
    |ex c ρ3 gD=>rw[e]at hm;exact XS.mono hm (ac _) y1
    |bad=>rw[e]at hm;exact hm
  ·rw[az ck]at hm;exact hm.elim
 ·have hi':i=k.1.length:=by omega
  subst hi'
  rw[gK (au _)]at hm
  unfold tV at hm
  by_cases ck:i6 bD k.2
  ·rw[av ck]at hm
   exact .inl ⟨(wk _ μ' bD H' pm xm lm.sto ck).2 (au _),hm μ' σ' H' (ac _) dg.refl lm⟩
  ·rw[az ck]at hm;exact hm.elim⟩
def gi(t:FT)(body:FS):Nat->FS
 |0,_,_=>.bad
 |n+1,ρ,st=>(t ρ st).stmt ρ fun k st=>if k then(match body ρ st with
   |.nx ρ2 st2=>gi t body n ρ2 st2
   |.ct ρ2 st2=>gi t body n ρ2 st2
   |.bk ρ2 st2=>.nx ρ2 st2
   |.rt w st2=>.rt w st2
   |.ex c ρ2 st2=>.ex c ρ2 st2
   |.bad=>.bad)else .nx ρ st
open Classical in
def pX(t:FT)(body:FS):FS:=fun ρ st=>if h:∃n,gi t body n ρ st≠.bad then gi t body h.choose ρ st else .bad
theorem oD(t:FT)(g:FS):∀(n:Nat) (ρ:ca) (st:List al),gi t g n ρ st≠.bad->gi t g (n+1) ρ st=gi t g n ρ st
 |0,_,_,h=>absurd rfl h
 |n+1,ρ,st,h=>by
  unfold gi at h ⊢
  cases e:t ρ st with
  |ex c st1=>rfl
  |bad=>rfl
  |ok k st1=>
   rw[e]at h
   simp only[R.stmt_ok]at h ⊢
   cases k with
   |false=>rfl
   |true=>
    simp only[gF]at h ⊢
    cases e2:g ρ st1 with
    |nx ρ2 st2=>rw[e2]at h;exact oD t g n ρ2 st2 h
    |ct ρ2 st2=>rw[e2]at h;exact oD t g n ρ2 st2 h
    |_=>rfl
theorem vC{t:FT}{n m:Nat}{ρ:ca}(h:gi t g n ρ st≠.bad)(hm:n<=m):gi t g m ρ st=gi t g n ρ st:=by
 induction hm with
 |refl=>rfl
 |@step m _ ih=>rw[oD t g m ρ st (by rw[ih];exact h),ih]
theorem Da{t:FT}{ρ:ca}{r:RS}(h:gi t g n ρ st=r)(hr:r≠.bad):pX t g ρ st=r:=by
 have hx:∃n,gi t g n ρ st≠.bad:=⟨n,by rw[h];exact hr⟩
 unfold pX
 rw[qZ hx]
 have c:=hx.choose_spec
 have a:=vC c (Nat.le_max_left hx.choose n)
 have b:=vC (n:=n) (m:=max hx.choose n) (by rw[h];exact hr) (Nat.le_max_right _ _)
 rw[<- a,b,h]
theorem yC{t:FT}{D:wc}:∀(n:Nat) (σ:St) (H:Hp) (μ:List Addr) (ρ:ca) (st:List al),Rl X μ ρ st σ H->SK X μ H D (gi t g n ρ st)->Ee (tT X t) (Qi X g) D σ H:=by
 intro n σ H μ ρ st l h
 refine⟨fun m σ' H'=>∃μ' ρ' bD,Rl X μ' ρ' bD σ' H'/\SK X μ' H' D (gi t g m ρ' bD),⟨n,μ,ρ,st,l,h⟩,?_⟩
 rintro m σ' H' ⟨μ',ρ',bD,l',h'⟩
 cases m with
 |zero=>exact h'.elim
 |succ m=>
  refine⟨μ',ρ',bD,l',RK.stmt h' l' fun μ1 st1 k v H1 p1 x1 l1 q1 h1=>?_⟩
  cases q1
  cases k with
  |false=>exact h1 μ1 σ' H1 (ac _) dg.refl l1
  |true=>
   refine⟨fun σ2 H2=>∃μ2 ρ2 st2,Rl X μ2 ρ2 st2 σ2 H2/\SK X μ2 H2 D (gi t g m ρ2 st2),fun σ2 H2 z=>⟨m,d8 m,z⟩,μ1,ρ',st1,l1,?_⟩
   simp only[gF]at h1
   cases e:g ρ' st1 with
   |nx ρ3 gD=>rw[e]at h1;exact fun μ4 σ4 H4 p4 x4 l4=>⟨μ4,ρ3,gD,l4,SK.mono h1 p4 x4⟩
   |ct ρ3 gD=>rw[e]at h1;exact fun μ4 σ4 H4 p4 x4 l4=>⟨μ4,ρ3,gD,l4,SK.mono h1 p4 x4⟩
   |bk ρ3 gD=>rw[e]at h1;exact h1
   |rt w gD=>rw[e]at h1;exact h1
   |ex c ρ3 gD=>rw[e]at h1;exact h1
   |bad=>rw[e]at h1;exact h1
theorem E7{t:FT}(hc:ST X c t)(hb:SB X body g)(hp:PassesOwn (model X.prog X.w) X.A X.env X.xe:=by passes_own):SS X (.While c body [] pos) (pX t g):=⟨(Ef hp hc.h hb.h).imp fun D σ H h=>by
 obtain⟨μ,ρ,st,l,h⟩:=h
 unfold pX at h
 by_cases hx:∃n,gi t g n ρ st≠.bad
 ·rw[qZ hx]at h;exact yC _ σ H μ ρ st l h
 ·rw[dif_neg hx]at h;exact h.elim⟩
def E8(fe:FE):FI:=fun ρ st=>(fe ρ st).bind fun x st=>match x with
 |.tup ws=>.ok (ws,none) st
 |_=>.bad
theorem E9(he:SE X e fe):SI X tg e (E8 fe):=⟨(My he.h).imp fun σ H R h=>by
 obtain⟨μ,ρ,st,l,h⟩:=h
 refine⟨μ,ρ,st,l,RK.bind h l fun μ1 st1 x v H1 p1 x1 l1 q1 h1=>?_⟩
 cases x with
 |tup ws=>
  obtain⟨p,vs,rfl,hS,r⟩:=q1.tupE
  refine⟨p,rfl,⟨vs,hS⟩,h1 μ1 _ H1 (ac _) dg.refl l1.sto fun i μ' bD H' pp xx S _=>⟨fun w hw=>?_,fun hl=>⟨vs,xx _ _ hS,by rw[<- r.len];exact hl⟩⟩⟩
  have r':=r.mono pp xx
  obtain⟨v,g1,g2⟩:=r'.get hw
  refine⟨⟨vs,v,xx _ _ hS,g1⟩,fun y H'' hy=>?_⟩
  obtain⟨rfl,hy⟩:=hy
  have:=hy vs (xx _ _ hS)
  rw[g1]at this;cases this
  exact⟨dg.refl,S,g2⟩
 |_=>exact h1.elim⟩
def KN(fe:FE):FI:=fun ρ st=>(fe ρ st).bind fun x st=>match x with
 |.loc n=>(match lstOf st n with
  |some ws=>.ok (ws,some (n,ws)) st
  |none=>.bad)
 |_=>.bad
theorem Na(he:SE X e fe):SI X tg e (KN fe):=⟨(HS he.h).imp fun σ H R h=>by
 obtain⟨μ,ρ,st,l,h⟩:=h
 refine⟨μ,ρ,st,l,RK.bind h l fun μ1 st1 x v H1 p1 x1 l1 q1 h1=>?_⟩
 cases x with
 |loc n=>
  obtain⟨a,ha,rfl⟩:=q1.locE
  simp only at h1
  cases e1:lstOf st1 n with
  |none=>rw[e1]at h1;exact h1.elim
  |some ws=>
   rw[e1]at h1
   obtain⟨a',vs0,g0,hS0,r0⟩:=l1.sto.lstOf e1
   rw[ha]at g0;cases g0
   refine⟨a,rfl,⟨vs0,hS0⟩,h1 μ1 _ H1 (ac _) dg.refl l1.sto fun i μ' bD H' pp xx S ck=>?_⟩
   obtain⟨a2,vs,g2,hS,r⟩:=S.lstOf (show lstOf bD n=some ws from ck)
   have:μ'[n]?=some a:=aZ pp ha
   rw[g2]at this;cases this
   refine⟨fun w hw=>?_,fun hl=>⟨vs,hS,by rw[<- r.len];exact hl⟩⟩
   obtain⟨v,g1,g3⟩:=r.get hw
   refine⟨⟨vs,v,hS,g1⟩,fun y H'' hy=>?_⟩
   obtain⟨rfl,hy⟩:=hy
   have:=hy vs hS
   rw[g1]at this;cases this
   exact⟨dg.refl,S,g3⟩
 |_=>exact h1.elim⟩
def gC(lo:Int)(n:Nat):List W:=(List.range n).map fun(i:Nat)=>W.int (lo+i)
theorem bu(lo:Int)(n:Nat):(gC lo n).length=n:=by simp[gC]
theorem Aq{lo:Int}:wE X (Sy lo n) (gC lo n,none) μ H:=fun i μ' bD H' pp xx S _=>by
 refine⟨fun w hw=>?_,fun hl=>by rw[bu]at hl;exact hl⟩
 have hi:i<n:=by
  have:=(ao.mp hw).1
  rw[bu]at this;exact this
 refine⟨hi,fun y H'' hy=>?_⟩
 obtain⟨rfl,rfl⟩:=hy
 have e:w=.int (lo+i):=by
  unfold gC at hw
  rw[ak,bf hi]at hw
  exact(a9 hw).symm
 subst e
 exact⟨dg.refl,S,.int⟩
def bn(fs:FA):FI:=fun ρ st=>(fs ρ st).bind fun ws st=>match ws with
 |[.int j]=>if -(2^62)<=j/\j<2^62 then .ok (gC 0 j.toNat,none) st else .bad
 |_=>.bad
theorem gj(hm:X.mg "range"=none)(ha:SA X [a] fs)(hg:Gl X "range":=by rfl)(hs:starEach [a] X.env=[(false,eval a X.env)]:=by rfl):SI X tg (.Call (.Name "range" p) [a] [] pos) (bn fs):=⟨(Cu hg hm ha.h hs).imp fun σ H R h=>by
 obtain⟨μ,ρ,st,l,h⟩:=h
 refine⟨μ,ρ,st,l,RK.bind h l fun μ1 st1 x v H1 p1 x1 l1 q1 h1=>?_⟩
 split at h1
 ·obtain⟨y,rfl,ry⟩:=q1.one
  split at h1
  ·rename_i c
   exact⟨_,by rw[ry.intE],c.1,c.2,h1 μ1 _ H1 (ac _) dg.refl l1.sto Aq⟩
  ·exact h1.elim
 ·exact h1.elim⟩
end
mutual
def W.und(n:Nat):W->Bool
 |.loc m=>decide (m<n)
 |.tup ws=>undWs n ws
 |_=>true
def undWs(n:Nat):List W->Bool
 |[]=>true
 |w::ws=>w.und n&&undWs n ws
end
def al.und(n:Nat):al->Bool
 |.lst ws=>undWs n ws
 |.ro ws=>undWs n ws
 |.exc _=>true
 |.dct kvs=>undWs n (kvs.map fun p=>p.2)
 |.rod kvs=>undWs n (kvs.map fun p=>p.2)
 |.dcx kvs=>undWs n (kvs.map fun p=>p.2)
 |.rox kvs=>undWs n (kvs.map fun p=>p.2)
 |.tab _ _ _=>true
 |.pin _ _ _ w=>w.und n
 |.gone=>true
section
mutual
theorem bj.und:∀{w:W} {v:V},bj K μ H w v->w.und μ.length=true
 |.non,_,_=>by simp[W.und]
 |.bl _,_,_=>by simp[W.und]
 |.int _,_,_=>by simp[W.und]
 |.str _,_,_=>by simp[W.und]
 |.tup _,_,r=>by obtain⟨p,vs,_,_,c⟩:=r.tupE;unfold W.und;exact RelWs.und c
 |.loc _,_,r=>by obtain⟨a,e,_⟩:=r.locE;unfold W.und;exact aV (ao.mp e).1
theorem RelWs.und:∀{ws:List W} {vs:List V},RelWs K μ H ws vs->undWs μ.length ws=true
 |[],_,_=>by unfold undWs;rfl
 |_::_,_,r=>by obtain⟨x,xs,_,b,c⟩:=r.consE;unfold undWs;rw[bj.und b,RelWs.und c];rfl
end
mutual
theorem bj.take:∀{w:W} {v:V},bj K μ H w v->w.und n=true->bj K (μ.take n) H w v
 |.non,_,r,_=>by rw[r.nonE];exact .non
 |.bl _,_,r,_=>by rw[r.blE];exact .bl
 |.int _,_,r,_=>by rw[r.intE];exact .int
 |.str _,_,r,_=>by rw[r.strE];exact .str
 |.tup _,_,r,b=>by obtain⟨p,vs,rfl,h,c⟩:=r.tupE;unfold W.und at b;exact .tupI h (RelWs.takeN c b)
 |.loc _,_,r,b=>by obtain⟨a,e,rfl⟩:=r.locE;unfold W.und at b;exact .locI (by rw[cI (of_decide_eq_true b)];exact e)
theorem RelWs.takeN:∀{ws:List W} {vs:List V},RelWs K μ H ws vs->undWs n ws=true->RelWs K (μ.take n) H ws vs
 |[],_,r,_=>by rw[r.nilE];exact .nilI
 |_::_,_,r,b=>by
  obtain⟨x,xs,rfl,b1,c1⟩:=r.consE
  unfold undWs at b
  rw[bA]at b
  exact .consI (bj.take b1 b.1) (RelWs.takeN c1 b.2)
end
theorem KX.und_w(k:KX)(n:Nat):k.w.und n=true:=by
 have hi:∀ks:List Int,undWs n (ks.map W.int)=true:=fun ks=>by
  induction ks with
  |nil=>rfl
  |cons a l ih=>show(true&&undWs n (l.map W.int))=true;rw[ih];rfl
 cases k with
 |bo b=>rfl
 |fl ks=>unfold KX.w W.und;exact hi ks
 |pr i ks=>unfold KX.w W.und undWs;rw[show(W.int i).und n=true from rfl];unfold undWs;rw[show(W.tup (ks.map W.int)).und n=true by unfold W.und;exact hi ks];rfl
theorem tW:∀{kvs:List (KX×W)} {es:List DictEntry},Paired (pS K μ H) kvs es->undWs μ.length (kvs.map fun p=>p.2)=true
 |_,_,.nil=>rfl
 |_,_,.cons r t=>by
  obtain⟨_,_,v,h,_⟩:=r
  show(_&&undWs _ _)=true
  rw[h.und,tW t];rfl
theorem rB:∀{kvs:List (KX×W)} {es:List DictEntry},Paired (pS K μ H) kvs es->undWs n (kvs.map fun p=>p.2)=true->Paired (pS K (μ.take n) H) kvs es
 |_,_,.nil,_=>.nil
 |_,_,.cons r t,b=>by
  obtain⟨a,⟨u,c,d⟩,v,h,g⟩:=r
  have b:(_&&undWs n _)=true:=b
  rw[bA]at b
  exact .cons ⟨a,⟨u,bj.take c (KX.und_w _ n),d⟩,v,bj.take h b.1,g⟩ (rB t b.2)
theorem lN.und{c:al}(r:lN K mg μ H c a):c.und μ.length=true:=by
 cases c with
 |lst ws=>obtain⟨vs,_,y⟩:=r;exact y.und
 |ro ws=>obtain⟨vs,_,y⟩:=r;exact y.und
 |exc c=>rfl
 |dct kvs=>obtain⟨vs,_,y⟩:=r;exact y.und
 |rod kvs=>obtain⟨vs,_,_,y⟩:=r;exact y.und
 |dcx kvs=>obtain⟨es,_,_,y,_⟩:=r;exact tW y
 |rox kvs=>obtain⟨es,_,_,_,y,_⟩:=r;exact tW y
 |tab _ _ _=>rfl
 |pin _ _ _ _=>obtain⟨_,_,_,v,y,_⟩:=r;exact y.und
 |gone=>rfl
theorem lN.take{c:al}(r:lN K mg μ H c a)(b:c.und n=true):lN K mg (μ.take n) H c a:=by
 cases c with
 |lst ws=>obtain⟨vs,x,y⟩:=r;exact⟨vs,x,y.takeN b⟩
 |ro ws=>obtain⟨vs,x,y⟩:=r;exact⟨vs,x,y.takeN b⟩
 |exc c=>exact r
 |dct kvs=>obtain⟨vs,x,y⟩:=r;exact⟨vs,x,y.takeN b⟩
 |rod kvs=>obtain⟨vs,o,x,y⟩:=r;exact⟨vs,o,x,y.takeN b⟩
 |dcx kvs=>obtain⟨es,x,d,y,z⟩:=r;exact⟨es,x,d,rB y b,z⟩
 |rox kvs=>obtain⟨es,o,x,d,y,z⟩:=r;exact⟨es,o,x,d,rB y b,z⟩
 |tab _ _ _=>exact r
 |pin _ _ _ _=>obtain⟨ea,p,g,v,y,z⟩:=r;exact⟨ea,p,g,v,y.take b,z⟩
 |gone=>trivial
end
theorem eO.ex{w:World}{o:HO}(x:eO P w H h a o):∃ob,h.get? a=some ob:=by
 cases o with
 |lst xs=>obtain⟨_,_,_,_,e⟩:=x;exact⟨_,e⟩
 |tup xs=>obtain⟨_,_,_,o,e,_⟩:=x;exact⟨_,e⟩
 |dK kvs=>obtain⟨_,_,_,_,o,_,_,e,_⟩:=x;exact⟨_,e⟩
 |dT kvs=>obtain⟨_,_,_,_,o,_,_,e,_⟩:=x;exact⟨_,e⟩
 |set S n=>obtain⟨o,_,_,_,e,_⟩:=x;exact⟨_,e⟩
 |ins C dx fs=>obtain⟨_,_,_,e,_⟩:=x;exact⟨_,e⟩
 |own y=>obtain⟨_,e⟩:=x;exact⟨_,e⟩
 |xd fs=>obtain⟨_,⟨_,_,_,e,_⟩,_⟩:=x;exact⟨_,e⟩
 |rng lo hi=>obtain⟨_,_,_,e⟩:=x;exact⟨_,e⟩
 |frz ob u=>obtain⟨e,_⟩:=x;exact⟨_,e⟩
 |tbl ps=>exact⟨_,(show h.get? a=some _ from x)⟩
 |met f y=>exact⟨_,(show h.get? a=some _ from x)⟩
 |ext φ=>obtain⟨_,⟨_,e⟩,_⟩:=x;exact⟨_,e⟩
def KO(st bD:List al)(ws:List W):Prop:=undWs st.length ws=true/\st.length<=bD.length/\∀(i:Nat),i<st.length->bD[i]?=st[i]?\/∃c,bD[i]?=some c/\c.und st.length=true
open Classical in
def j4(st bD:List al)(ws:List W):List al:=if KO st bD ws then bD.take st.length else bD
theorem kU{ws:List W}{vs:List V}(S:fO K mg μ st H)(S':fO K mg μ' bD H')(p:μ <+: μ')(r:RelWs K μ' H' ws vs) :
  ∃μ2,μ <+: μ2/\fO K mg μ2 (j4 st bD ws) H'/\RelWs K μ2 H' ws vs:=by
 unfold j4
 by_cases k:KO st bD ws
 ·rw[av k]
  obtain⟨k1,k2,k3⟩:=k
  have e:μ'.take st.length=μ:=by
   obtain⟨t,rfl⟩:=p
   rw[S.len,List.take_left]
  refine⟨μ'.take st.length,by rw[e];exact ac _,⟨fun i j a ci cj h1 h2 r1 r2 m1 m2=>?_,by rw[bc,bc,S'.len],fun i c a h1 h2=>?_⟩,r.takeN k1⟩
  ·have hi:i<st.length:=by have:=(ao.mp h1).1;rw[bc]at this;omega
   have hj:j<st.length:=by have:=(ao.mp h2).1;rw[bc]at this;omega
   rw[cI hi]at h1 m1
   rw[cI hj]at h2 m2
   exact S'.nd i j a ci cj h1 h2 r1 r2 m1 m2
  ·have hi:i<st.length:=by have:=(ao.mp h1).1;rw[bc]at this;omega
   rw[cI hi]at h1 h2
   refine(S'.at' i c a h1 h2).take ?_
   rcases k3 i hi with q|⟨c',q,b⟩
   ·rw[h1]at q
    obtain⟨a0,g0,r0⟩:=S.get q.symm
    have:=r0.und
    rw[S.len];exact this
   ·rw[h1]at q;cases q;exact b
 ·rw[az k]
  exact⟨μ',p,S',r⟩
def fP(N:Nat)(body:FS)(ws:List W)(st:List al):R W:=match body (ws.map some++List.replicate (N-ws.length) none) st with
 |.rt w bD=>.ok w (j4 st bD [w])
 |.nx _ bD=>.ok .non (j4 st bD [])
 |.ex c _ bD=>.ex c (j4 st bD [])
 |_=>.bad
def ja(P:Program)(w:World):DZ:=fun outer H s E e s'=>∃x C t B H',e=.ref x/\E C none H'/\s'.os=s.os/\AllBare s'.gens/\Un (r_ outer) [] H H' s.heap s'.heap/\kP P w H' s'.heap/\H' x=none/\Heap.FlyingW B outer x C (.ref t) s'.heap /\
 ∀b o,s'.heap.get? b=some o->(H' b≠none\/((∃o0,s.heap.get? b=some o0)/\b∉r_ outer))->B.get? b=some o
def nT(K:Frag)(mg:Str->Option Value)(n:Nat)(F:List W->List al->R W):Sp:=fun vs H Q E=>vs.length=n/\∃μ ws st,fO K mg μ st H/\RelWs K μ H ws vs/\(match F ws st with
 |.ok w bD=>∀μ' v H',μ <+: μ'->dg K H H'->fO K mg μ' bD H'->bj K μ' H' w v->Q v H'
 |.ex c bD=>∀C μ' H',mg c=some C->μ <+: μ'->dg K H H'->fO K mg μ' bD H'->E C none H'
 |.bad=>False)
theorem vB.noted{c:Str}{e:Value}{Q:Unit->Shared->Prop}{E:Value->Shared->Prop}{M:Model}{outer:List Env}(f:vB X af σ c H e s)(uO:X.stack=X.env::outer)(sF:X.env.frame=some X.env.locals)(hA:X.A.frames=some X.stack)
  (h:∀x C t B h',e=.ref x->X.mg c=some C->H x=none->Heap.FlyingW B X.stack x C (.ref t) h'->s.heap.UpToSlots h' ->
   (∀b o,s.heap.get? b=some o->(H b≠none\/((∃o0,X.s₀.heap.get? b=some o0)/\b∉X.fs/\b∉X.ex)\/((∃y,X.env.cells.lookup y=some b)/\b∉r_ X.stack)\/∃p∈X.pn++af,p.1=b)->B.get? b=some o)->Q () { s with heap:=h' }) :
  wpAny M X.A (leaving X.env e) Q E s:=by
 obtain⟨x,C,t,B,rfl,hC,hx,st,nx,ff,tr,cov⟩:=f.ex
 rw[uO]at ff hA
 rcases tr with tr|⟨oe,vs,he,rfl,_,hd,h1,h0⟩|⟨L,hL,tr⟩
 ·refine wpAny_leaving_nextW hA ff sF tr st nx fun h' hL=>?_
  obtain⟨k1,k2,k3,k4⟩:=hL
  exact h x C t B h' rfl hC hx ⟨k1,nx,by rw[uO];exact k2,k3⟩ k4 cov
 ·refine wpAny_leaving_firstW hA ff sF he st nx hd h1 h0 fun h' hL=>?_
  obtain⟨k1,k2,k3,k4⟩:=hL
  exact h x _ t B h' rfl hC hx ⟨k1,nx,by rw[uO];exact k2,k3⟩ k4 cov
 ·unfold leaving
  refine aa (wpAny_noteFrame_againW hL tr (wpAny_landsW ⟨st,nx,ff,tr⟩ fun h' fl up=>?_))
  exact h x C t B h' rfl hC hx (by rw[uO];exact fl) up cov
theorem vB.leaves{c:Str}{e:Value}{E:XK}{E':Value->Shared->Prop}(f:vB X af σ c H e s)(uO:X.stack=X.env::X.outer)(sF:X.env.frame=some X.env.locals)(hA:X.A.frames=some X.stack)(xS:X.ex=[])
  (hE:∀C,X.mg c=some C->E C none H):wpAny M X.A (leaving X.env e) (fun _ s''=>ja X.prog X.w X.outer X.H₀ X.s₀ E e s'') E' s:=by
 refine f.noted uO sF hA fun x C t B h' he hC hx fl up cov=>?_
 have I:=f.inv
 have un:=I.base
 rw[xS]at un
 have fsE:X.fs=r_ X.outer:=rfl
 obtain⟨f1,f2,f3,f4⟩:=fl
 rw[uO]at f3
 obtain⟨_,_,f3'⟩:=f3
 have frames:∀b∈r_ X.outer,∀o,s.heap.get? b=some o->∃sl,h'.get? b=some { o with slots:=sl }:=fun b hb o ho=>by
  obtain⟨_,o',uR,hd⟩:=I.funs.mem hb
  rw[ho]at uR;cases uR
  exact up b o ho hd
 have kept:∀b o,s.heap.get? b=some o->(∃o0,X.s₀.heap.get? b=some o0)->b∉r_ X.outer->h'.get? b=some o:=fun b o ho h0 hb=>f1 b o (cov b o ho (.inr (.inl ⟨h0,hb,by rw[xS];simp⟩)))
 have keptH:∀b o,s.heap.get? b=some o->H b≠none->h'.get? b=some o:=fun b o ho h0=>f1 b o (cov b o ho (.inl h0))
 refine⟨x,C,t,B,H,he,hE C hC,I.os,I.bare,⟨fun b o q n hb hx=>?_,fun b o q n hb hx=>?_,fun b o q n hx=>un.free b o q n hx,fun b o q hx=>?_,un.tups,un.frzs,un.tbls⟩,fun b u hb=>?_,hx,⟨f1,f2,f3',f4⟩,fun b o ho hr=>?_⟩
 ·exact kept b o (un.keep b o q n hb hx) ⟨o,q⟩ hb
 ·obtain⟨sl,q1⟩:=un.slot b o q n hb hx
  obtain⟨sl2,q2⟩:=frames b hb _ q1
  exact⟨sl2,q2⟩
 ·obtain⟨o',q1⟩:=un.there b o q hx
  by_cases hb:b∈r_ X.outer
  ·obtain⟨sl2,q2⟩:=frames b hb _ q1;exact⟨_,q2⟩
  ·exact⟨o',kept b o' q1 ⟨o,q⟩ hb⟩
 ·refine(I.hok b u hb).stay (fun c v hc q=>?_) (fun _ q=>q) fun _ _ q=>q
  refine keptH c v q ?_
  rcases hc with rfl|hc
  ·rw[hb];simp
  ·rw[hc];simp
 ·rcases hr with hr|⟨⟨o0,h0⟩,hb⟩
  ·cases hu:H b with
   |none=>exact absurd hu hr
   |some u=>
    have lt:=I.hok.lt hu
    obtain⟨ob,DT⟩:∃ob,s.heap.get? b=some ob:=by
     exact(I.hok b u hu).ex
    have:=keptH b ob DT hr
    rw[ho]at this;cases this
    exact cov b o DT (.inl hr)
  ·obtain⟨o',q1⟩:=un.there b o0 h0 (by simp)
   have:=kept b o' q1 ⟨o0,h0⟩ hb
   rw[ho]at this;cases this
   exact cov b o q1 (.inr (.inl ⟨⟨o0,h0⟩,hb,by rw[xS];simp⟩))
structure gc(P:Program)(w:World)(K:Frag)(mg:Str->Option Value)(base:Heap)(k:Nat)(x:Str)(n:Nat)(F:List W->List al->R W):Prop where
 ex:∃(f:Addr) (fd:FuncData) (ps:List Str),mg x=some (.ref f)/\keepIn K (.ref f)=true/\ps.length=n/\vm K fd ps []/\fV P w K mg base (ja P w) k f fd ps (nT K mg n F)
theorem gc.mono{w:World}{k:Nat}(h:gc P w K mg base j x n F)(hj:j<=k):gc P w K mg base k x n F:=by
 obtain⟨f,fd,ps,a,b,c,d,e⟩:=h.ex
 exact⟨f,fd,ps,a,b,c,d,e.mono hj⟩
def dS(n:Nat)(F:List W->List al->R W)(fs:FA):FE:=fun ρ st=>(fs ρ st).bind fun ws st=>if ws.length=n then F ws st else .bad
section
theorem KP{k:Nat}{f:Addr}{Q:VK}
  (Fn:fV X.prog X.w X.K X.mg X.base (ja X.prog X.w) k f fd ps (nT X.K X.mg n F)) (hn:ps.length=n) (hr:hX k X.A) (hb:vm X.K fd ps []) (I:bE X af σ H s) (S:fO X.K X.mg μ st H) (r:RelWs X.K μ H ws vs) (rv:cA vs us) (hl:ws.length=n)
  (h:RK X (qm X) μ σ H Q (F ws st)):wpAny (model X.prog X.w) X.A (call (.ref f) us) (EP X af σ Q) X.xe s:=by
 have hl':(us++([]:List Value)).length=ps.length:=by rw[cW,<- rv.length,<- r.len,hl,hn]
 cases e:F ws st with
 |bad=>rw[e]at h;exact h.elim
 |ok w bD=>
  rw[e]at h
  refine nD (gH (Fn.run X.A X.stack s H ⟨us,[]⟩ us vs Q (fun _ _ _=>False) hr I.env0 (by have:=hb s us I.kIn hl';rwa[cW]at this) rv ⟨by rw[<- r.len];exact hl,μ,ws,st,S,r,by rw[e];exact h⟩) fun r s' hq=>?_)
  cases r with
  |error e=>obtain⟨_,_,_,_,_,_,z,_⟩:=hq;exact z.elim
  |ok fl=>
   cases fl with
   |ret u=>exact I.after hq
   |next=>exact False.elim hq
   |brk=>exact False.elim hq
   |cont=>exact False.elim hq
 |ex c bD=>
  rw[e]at h
  refine nD (gH (Fn.run X.A X.stack s H ⟨us,[]⟩ us vs (fun _ _=>False) (fun C _ H'=>X.mg c=some C/\∃μ',μ <+: μ'/\dg X.K H H'/\fO X.K X.mg μ' bD H') hr I.env0 (by have:=hb s us I.kIn hl';rwa[cW]at this) rv
   ⟨by rw[<- r.len];exact hl,μ,ws,st,S,r,by rw[e];exact fun C μ' H' hC p x S'=>⟨hC,μ',p,x,S'⟩⟩) fun r s' hq=>?_)
  cases r with
  |ok fl=>
   cases fl with
   |ret u=>obtain⟨_,_,_,_,_,_,_,z⟩:=hq;exact z.elim
   |next=>exact False.elim hq
   |brk=>exact False.elim hq
   |cont=>exact False.elim hq
  |error ev=>
   obtain⟨x,C,t,B,H',rfl,⟨hC,μ',p,xx,S'⟩,os,bare,un,hok,hx,fl,cov⟩:=hq
   have I':bE X af σ H' s':=I.call' os un hok bare fun b hb=>absurd hb (by simp)
   refine h af μ' H' (.ref x) s' p xx S' ⟨I',x,C,t,B,rfl,hC,hx,fl.1,fl.2.1,fl.2.2.1,.inl fl.2.2.2,fun b o ho hrel=>?_⟩
   refine cov b o ho ?_
   rcases hrel with q|⟨⟨o0,h0⟩,hb,hbx⟩|⟨⟨y,hy⟩,hb⟩|⟨pp,hp,rfl⟩
   ·exact .inl q
   ·refine .inr ⟨?_,fun z=>?_⟩
    ·obtain⟨o',q1⟩:=I.base.there b o0 h0 hbx
     exact⟨o',q1⟩
    ·rcases aG.mp (I.stkSub b z)with z|z
     ·rw[z]at h0
      exact absurd (aK (ax h0) I.ok.above) (cw _)
     ·exact hb z
   ·obtain⟨v,ov,hov,_⟩:=I.cell y b hy
    exact .inr ⟨⟨_,hov⟩,hb⟩
   ·obtain⟨g1,g2,g3,g4,_⟩:=I.pin pp hp
    refine .inr ⟨⟨_,g1⟩,fun z=>?_⟩
    rcases aG.mp (I.stkSub _ z)with z|z
    ·exact g3 z
    ·exact g4 z
variable{fs:FA}
theorem jA{k k':Nat}(Fn:gc X.prog X.w X.K X.mg X.base k x n F)(hr:hX k' X.A)(hk:k<=k')(ha:SA X (e::es) fs)(hg:Gl X x:=by rfl)(vf:(x==("__debug__":Str))=false:=by decide)
  (he:starEach (e::es) X.env=(false,eval e X.env)::starEach es X.env:=by rfl) (mI:(backTo pos (starEach es X.env)).any (·.1)=false:=by rfl):SE X (.Call (.Name x p) (e::es) [] pos) (dS n F fs):=⟨by
 intro af s σ H Q I h
 obtain⟨f,fd,ps,hm,hkp,hn,hb,Fo⟩:=(Fn.mono hk).ex
 refine dw (qg I hg hm ?_ vf)
 obtain⟨μ,ρ,st,l,h⟩:=h
 have h':Qh X fs σ H fun vs H1=>∃μ1 st1 ws,Rl X μ1 ρ st1 σ H1/\RelWs X.K μ1 H1 ws vs/\RK X (qm X) μ1 σ H1 Q (if ws.length=n then F ws st1 else .bad):=
  ⟨μ,ρ,st,l,RK.bind h l fun μ1 st1 x v H1 p1 x1 l1 q1 h1=>⟨μ1,st1,x,l1,q1,h1⟩⟩
 refine PySem.W.callWith_K (h₀:=X.base) I.ok.mod.kin hkp (hW (ha.h pos af s σ H _ I h') fun us s1 ⟨vs,H1,I1,r,μ1,st1,ws,l1,r1,q⟩=>⟨I1.kIn,?_⟩) he mI
 by_cases c:ws.length=n
 ·rw[av c]at q
  exact KP Fo hn hr hb I1 l1.sto r1 r c q
 ·rw[az c]at q;exact q.elim⟩
end
theorem IN{w:World}{st:Stmt}{f:Addr}{N:List Str}{k:Nat}{g:FS}(F:nH K x cD st f fd)(S:b_ N ps (aL st))(hn:ps.length=n)
  (qT:∀(gu:Value) (A:Around) (outer:List Env) (s:Shared) (H:Hp) (E:XK),fd.code=gu->hX k (A.deeper (envOfC cD (aL st) s.heap.objs.size f gu)) ->
   SB (mX (ja P w) P w K mg base N cD (aL st) f gu A outer s H E) (dZ st) g):fV P w K mg base (ja P w) (k+1) f fd ps (nT K mg n (fP N.length g)):=by
 obtain⟨oc,od,kV,j9,pm,an,gu,ct,Kl,rfl,lk,om⟩:=F.ex
 refine PP lk om S (fun vs H Q E h=>by rw[hn];exact h.1) fun A outer s H vs Q E hr Hv=>?_
 obtain⟨hl,μ,ws,Hq,Sr,r,h⟩:=Hv
 refine⟨_,(qT gu A outer s H E rfl hr).h,μ,ws.map some++List.replicate (N.length-ws.length) none,Hq,⟨?_,Sr⟩,?_⟩
 ·unfold i4
  rw[<- r.len]
  have base:∀(ws:List W) (vs:List V) (m:Nat),RelWs K μ H ws vs->Paired (fun(o:Option W) (s:Option V)=>∀w,o=some w->∃v,s=some v/\bj K μ H w v) (ws.map some++List.replicate m none) (vs.map some++List.replicate m none):=by
   intro ws
   induction ws with
   |nil=>
    intro vs m r
    rw[r.nilE]
    induction m with
    |zero=>exact .nil
    |succ m ih=>exact .cons (fun w z=>nomatch z) ih
   |cons w ws ih=>
    intro vs m r
    obtain⟨y,ys,rfl,ry,rys⟩:=r.consE
    exact .cons (fun w' z=>⟨y,rfl,by cases z;exact ry⟩) (ih ys m rys)
  exact base ws vs _ r
 ·unfold fP at h
  cases e:g (ws.map some++List.replicate (N.length-ws.length) none) Hq with
  |rt w bD=>
   rw[e]at h
   intro μ' v H' p x S' jW
   obtain⟨μ2,p2,S2,r2⟩:=kU Sr S' p (.consI jW .nilI)
   obtain⟨_,e2,r3⟩:=r2.one
   cases e2
   exact h μ2 v H' p2 x S2 r3
  |nx ρ' bD=>
   rw[e]at h
   intro μ' σ' H' p x l'
   obtain⟨μ2,p2,S2,_⟩:=kU (ws:=[]) (vs:=[]) Sr l'.sto p .nilI
   exact h μ2 .non H' p2 x S2 .non
  |ex c ρ' bD=>
   rw[e]at h
   intro af μ' σ' H' ev s' p x l' fl
   obtain⟨μ2,p2,S2,_⟩:=kU (ws:=[]) (vs:=[]) Sr l'.sto p .nilI
   exact fl.leaves rfl rfl fl.inv.ok.frames rfl fun C hC=>h C μ2 H' hC p2 x S2
  |bk ρ' bD=>rw[e]at h;exact h.elim
  |ct ρ' bD=>rw[e]at h;exact h.elim
  |bad=>rw[e]at h;exact h.elim
theorem d3{w:World}{st:Stmt}{f:Addr}{N:List Str}{k:Nat}{g:FS}(F:nH K x cD st f fd)(S:b_ N ps (aL st))(hn:ps.length=n)
  (qT:∀(gu:Value) (A:Around) (outer:List Env) (s:Shared) (H:Hp) (E:XK),hX k (A.deeper (envOfC cD (aL st) s.heap.objs.size f gu)) ->
   SB (mX (ja P w) P w K mg base N cD (aL st) f gu A outer s H E) (dZ st) g):fV P w K mg base (ja P w) (k+1) f fd ps (nT K mg n (fP N.length g)):=IN F S hn fun gu A outer s H E _ hr=>qT gu A outer s H E hr
theorem IP{w:World}{k:Nat}{st:Stmt}{f:Addr}{G:List W->List al->R W}
  (F:nH K x x st f fd) (hm:mg x=some (.ref f)) (hn:ps.length=n)
  (hb:∀(kV j9 pm:Value) (an:Option Addr) (gu ct:Value) (us:List Value),us.length=ps.length->bindArgs (fnOf x x (fm st) (dZ st) (aL st) .none kV j9 pm an gu ct) ⟨us,[]⟩=pure (ps.zip us))
  (ok:fV P w K mg base (ja P w) k f fd ps (nT K mg n G)):gc P w K mg base k x n G:=⟨f,fd,ps,hm,F.kp,hn,F.binds hb,ok⟩
section
variable{a b o:Expr}{fa fb fe fo:FE}{fs:FA}{id:String}
structure Pa(X:Cx)(id:String)(F:W->List W->List al->R W):Prop where
 h:HB X id (fun x vs H Q=>∃μ st wx ws,fO X.K X.mg μ st H/\bj X.K μ H wx x/\RelWs X.K μ H ws vs/\CY X μ H Q (F wx ws st))
 n:∀x ws st,pe (F x ws st)
def tX(st:List al):W->Bool
 |.loc n=>(match st[n]? with|some (.lst _)=>true|_=>false)
 |_=>false
def E_:W->Bool
 |.str _=>true
 |_=>false
theorem Fa{w:W}(S:fO X.K X.mg μ st H)(r:bj X.K μ H w v)(h:tX st w=true):∃l ys,v=.ref l/\H l=some (.lst ys):=by
 cases w with
 |loc n=>
  obtain⟨a,ha,rfl⟩:=r.locE
  simp only[tX]at h
  cases e1:st[n]? with
  |none=>rw[e1]at h;cases h
  |some cc=>
   rw[e1]at h
   cases cc with
   |lst ws=>obtain⟨a1,g1,vs,k1,_⟩:=S.get e1;rw[ha]at g1;cases g1;exact⟨_,vs,rfl,k1⟩
   |_=>cases h
 |_=>cases h
def uV(F:W->List W->List al->R W)(fo:FE)(fs:FA):FE:=fun ρ st=>(fo ρ st).bind fun x st=>if tX st x then(fs ρ st).bind fun ws st=>F x ws st else .bad
def D1(F:W->List W->List al->R W)(fo:FE)(fs:FA):FE:=fun ρ st=>(fo ρ st).bind fun x st=>if E_ x then(fs ρ st).bind fun ws st=>F x ws st else .bad
theorem IQ{F:W->List W->List al->R W}(slot:Slot "list" name id)(DW:typeOf (.builtin id)=pure (.type "method_descriptor"))(hm:Pa X id F)(ho:SE X o fo)(ha:SA X (e::es) fs)
  (qU:attributeBase o name X.env (eval o X.env)=eval o X.env:=by rfl)
  (uU:((backTo gp (starEach (e::es) X.env)).all (fun x=>!x.1)&&(backToKw gp (keywordEach [] X.env)).all (fun x=>x.1.isSome)
   && decide ((e::es).length+([]:List Keyword).length+(if ([]:List Keyword).isEmpty then 0 else 1)<30))=true:=by rfl)
  (qR:(kL.endLine==gp.line)=true:=by rfl) (hs:starEach (e::es) X.env=(false,eval e X.env)::starEach es X.env:=by rfl) (nr:(backTo gp (starEach es X.env)).any (·.1)=false:=by rfl) :
  SE X (.Call (.Attribute o name kL) (e::es) [] gp) (uV F fo fs):=⟨(P8 slot DW hm.h ho.h ha.h qU uU qR hs nr).imp fun σ H Q h=>by
 obtain⟨μ,ρ,st,l,h⟩:=h
 refine⟨μ,ρ,st,l,RK.bind h l fun μ1 st1 x v H1 p1 x1 l1 q1 h1=>?_⟩
 by_cases c:tX st1 x=true
 ·rw[av c]at h1
  refine⟨Fa l1.sto q1 c,μ1,ρ,st1,l1,RK.bind h1 l1 fun μ2 st2 ws vs H2 p2 x2 l2 q2 h2=>?_⟩
  exact⟨μ2,st2,x,ws,l2.sto,q1.mono p2 x2,q2,pU h2 (hm.n _ _ _)⟩
 ·rw[az c]at h1;exact h1.elim⟩
theorem IR{F:W->List W->List al->R W}(slot:Slot "str" name id)(DW:typeOf (.builtin id)=pure (.type "method_descriptor"))(hm:Pa X id F)(ho:SE X o fo)(ha:SA X (e::es) fs)
  (qU:attributeBase o name X.env (eval o X.env)=eval o X.env:=by rfl)
  (uU:((backTo gp (starEach (e::es) X.env)).all (fun x=>!x.1)&&(backToKw gp (keywordEach [] X.env)).all (fun x=>x.1.isSome)
   && decide ((e::es).length+([]:List Keyword).length+(if ([]:List Keyword).isEmpty then 0 else 1)<30))=true:=by rfl)
  (qR:(kL.endLine==gp.line)=true:=by rfl) (hs:starEach (e::es) X.env=(false,eval e X.env)::starEach es X.env:=by rfl) (nr:(backTo gp (starEach es X.env)).any (·.1)=false:=by rfl) :
  SE X (.Call (.Attribute o name kL) (e::es) [] gp) (D1 F fo fs):=⟨(P9 slot DW hm.h ho.h ha.h qU uU qR hs nr).imp fun σ H Q h=>by
 obtain⟨μ,ρ,st,l,h⟩:=h
 refine⟨μ,ρ,st,l,RK.bind h l fun μ1 st1 x v H1 p1 x1 l1 q1 h1=>?_⟩
 cases x with
 |str z=>
  rw[av (show E_ (W.str z)=true from rfl)]at h1
  refine⟨⟨z,q1.strE⟩,μ1,ρ,st1,l1,RK.bind h1 l1 fun μ2 st2 ws vs H2 p2 x2 l2 q2 h2=>?_⟩
  exact⟨μ2,st2,_,ws,l2.sto,q1.mono p2 x2,q2,pU h2 (hm.n _ _ _)⟩
 |_=>exact h1.elim⟩
def dF(x:W)(ws:List W)(st:List al):R W:=match x,ws with
 |.loc n,[y]=>(match st[n]? with
  |some (.lst zs)=>if zs.length<jx then .ok .non (st.set n (.lst (zs++[y])))else .bad
  |_=>.bad)
 |_,_=>.bad
theorem rC:Pa X "list.append" dF:=⟨fun af s σ H x vs v us Q I rv rus ⟨μ,st,wx,ws,S,rx,rs,q⟩=>by
 unfold dF at q
 split at q
 ·rename_i n y
  obtain⟨y1,rfl,ry⟩:=rs.one
  split at q
  ·rename_i zs e1
   split at q
   ·rename_i c
    obtain⟨a1,g1,vs,k1,r⟩:=S.get e1
    obtain⟨b1,f1,rfl⟩:=rx.locE
    rw[g1]at f1;cases f1
    refine Al af s σ H _ _ v us Q I rv rus ⟨a1,vs,y1,rfl,rfl,k1,by rw[<- r.len];exact M3 (dH c),fun H2 e=>?_⟩
    subst e
    exact q μ _ _ (ac _) (fj.but jd k1) (S.set e1 g1 k1 (r.app (.consI ry .nilI))) .non
   ·exact q.elim
  ·exact q.elim
 ·exact q.elim,fun x ws st=>by
 unfold dF
 repeat' split
 all_goals trivial⟩
def oS(x:W)(ws:List W)(st:List al):R W:=match x,ws with
 |.loc n,[.loc m]=>(match st[n]?,st[m]? with
  |some (.lst zs),some (.lst ys)=>if zs.length+ys.length<=jx then .ok .non (st.set n (.lst (zs++ys)))else .bad
  |_,_=>.bad)
 |_,_=>.bad
theorem vD:Pa X "list.extend" oS:=⟨fun af s σ H x vs v us Q I rv rus ⟨μ,st,wx,ws,S,rx,rs,q⟩=>by
 unfold oS at q
 split at q
 ·rename_i n m
  obtain⟨y1,rfl,ry⟩:=rs.one
  split at q
  ·rename_i zs ys e1 e2
   split at q
   ·rename_i c
    obtain⟨a1,g1,vs1,k1,r1⟩:=S.get e1
    obtain⟨a2,g2,vs2,k2,r2⟩:=S.get e2
    obtain⟨b1,f1,rfl⟩:=rx.locE
    obtain⟨b2,f2,rfl⟩:=ry.locE
    rw[g1]at f1;cases f1
    rw[g2]at f2;cases f2
    refine CC af s σ H _ _ v us Q I rv rus ⟨a1,a2,vs1,vs2,rfl,rfl,k1,k2,by rw[<- r1.len,<- r2.len];exact iX c,?_⟩
    exact q μ _ _ (ac _) (fj.but jd k1) (S.set e1 g1 k1 (r1.app r2)) .non
   ·exact q.elim
  ·exact q.elim
 ·exact q.elim,fun x ws st=>by
 unfold oS
 repeat' split
 all_goals trivial⟩
def nK:List W->Option (List (List Nat))
 |[]=>some []
 |.str l::ws=>(nK ws).map (l :: ·)
 |_=>none
theorem tY:∀{ws:List W} {ls:List (List Nat)} {vs:List V},nK ws=some ls->RelWs K μ H ws vs->vs=ls.map fun l=>V.str (tx l)
 |[],ls,vs,h,r=>by simp only[nK]at h;cases h;exact r.nilE
 |w::ws,ls,vs,h,r=>by
  obtain⟨x,xs,rfl,rx,rs⟩:=r.consE
  cases w with
  |str l=>
   simp only[nK]at h
   cases e:nK ws with
   |none=>rw[e]at h;cases h
   |some ls'=>rw[e]at h;cases h;rw[rx.strE,tY e rs];rfl
  |_=>simp only[nK]at h;cases h
theorem vE(ls:List (List Nat)):nK (ls.map W.str)=some ls:=by
 induction ls with
 |nil=>rfl
 |cons a r ih=>show(nK (r.map W.str)).map (a :: ·)=_;rw[ih];rfl
def lR(x:W)(ws:List W)(st:List al):R W:=match x,ws with
 |.str sep,[.loc n]=>sL (lstOf st n) fun zs=>sL (nK zs) fun ls=>if (ls.map List.length).sum+ls.length*sep.length<=jx then .ok (.str (nI sep ls)) st else .bad
 |_,_=>.bad
theorem sZ:Pa X "str.join" lR:=⟨fun af s σ H x vs v us Q I rv rus ⟨μ,st,wx,ws,S,rx,rs,q⟩=>by
 unfold lR at q
 split at q
 ·rename_i sep n
  obtain⟨y1,rfl,ry⟩:=rs.one
  cases e1:lstOf st n with
  |none=>rw[e1]at q;exact q.elim
  |some zs=>
   rw[e1,df]at q
   cases e2:nK zs with
   |none=>rw[e2]at q;exact q.elim
   |some ls=>
    rw[e2,df]at q
    split at q
    ·rename_i c
     obtain⟨a,vs,g,hS,r⟩:=S.lstOf e1
     obtain⟨b1,f1,rfl⟩:=ry.locE
     rw[g]at f1;cases f1
     have:=tY e2 r
     subst this
     exact Ir af s σ H _ _ v us Q I rv rus ⟨sep,_,ls,rx.strE,rfl,hS,bd c (by decide),qp S q⟩
    ·exact q.elim
 ·exact q.elim,fun x ws st=>by
 unfold lR
 split
 ·exact oz fun _=>oz fun _=>by split<;>trivial
 ·trivial⟩
end
def kh(cap:List (Option Nat))(ρ:ca):ca:=cap.map fun o=>o.bind fun j=>(ρ[j]?).join
theorem Nb{ρ:ca}(r:Paired (fun(o:Option W) (s:Option V)=>∀w,o=some w->∃v,s=some v/\bj X.K μ H w v) ρ σ):∀cap:List (Option Nat),
  Paired (fun(o:Option W) (s:Option V)=>∀w,o=some w->∃v,s=some v/\bj X.K μ H w v) (kh cap ρ) (oo cap σ)
 |[]=>.nil
 |o::cap=>by
  refine .cons (fun w e=>?_) (Nb r cap)
  cases o with
  |none=>cases e
  |some j=>
   have e':(ρ[j]?).join=some w:=e
   have e2:ρ[j]?=some (some w):=by
    cases h:ρ[j]? with
    |none=>rw[h]at e';cases e'
    |some ow=>rw[h]at e';simp at e';rw[e']
   obtain⟨v,g1,g2⟩:=ou r e2
   exact⟨v,by show(σ[j]?).join=some v;rw[g1];rfl,g2⟩
open Classical in
def kW(f:FG)(t:FT)(el:FE)(ck:Option (Nat×List W))(ρ0:ca):List W->List W->List al->R (List W)
 |[],acc,st=>if i6 st ck then .ok acc st else .bad
 |w::ws,acc,st=>if i6 st ck then(match f w ρ0 with
  |none=>.bad
  |some ρ'=>(match t ρ' st with
   |.ok true st1=>(match el ρ' st1 with
    |.ok y st2=>kW f t el ck ρ0 ws (acc++[y]) st2
    |_=>.bad)
   |.ok false st1=>kW f t el ck ρ0 ws acc st1
   |_=>.bad))else .bad
def cY(cap:List (Option Nat))(fi:FI)(f:FG)(t:FT)(el:FE):FE:=fun ρ st=>(fi ρ st).bind fun k st=>if k.1.length<=jx then(kW f t el k.2 (kh cap ρ) k.1 [] st).bind fun ys st=>jf ys st else .bad
def Pc(X:Cx)(rel:List Addr->Hp->α->β->Prop)(f:ca->List al->R α)(σ:St)(H:Hp)(Q:β->Hp->Prop):Prop:=
 ∃μ ρ st a bD,Rl X μ ρ st σ H/\f ρ st=.ok a bD/\∀μ' b H',μ <+: μ'->dg X.K H H'->fO X.K X.mg μ' bD H'->rel μ' H' a b->Q b H'
def gs:FT:=fun _ st=>.ok true st
structure HC(X:Cx)(es:List Expr)(f:FT):Prop where
 h:Ev X es (tT X f)
theorem Ev.imp{e:List Expr}{t t':TT}(h:Ev X e t)(i:∀σ H Q,t' σ H Q->t σ H Q):Ev X e t':=fun af s σ H Q I q=>h af s σ H Q I (i _ _ _ q)
theorem iS:HC X [] gs:=⟨Il.imp fun σ H Q h=>by
 obtain⟨μ,ρ,st,l,h⟩:=h
 exact h μ true H (ac _) dg.refl l.sto rfl⟩
theorem IS{t:FT}(hc:ST X c t):HC X [c] t:=⟨Im hc.h⟩
theorem wF{fi:FI}{f:FG}{t:FT}{el:FE}{Q:VK}(h:tE X (cY cap fi f t el) σ H Q) :
  pw cap (fun σ H R=>tG X (QF X) fi σ H R) (M9 X f) (Pc X IF t) (Pc X (qm X) el) σ H Q:=by
 obtain⟨μ,ρ,st,l,h⟩:=h
 refine⟨μ,ρ,st,l,RK.bind h l fun μ1 st1 k J H1 p1 x1 l1 wk h1=>?_⟩
 by_cases hz:k.1.length<=jx
 ·rw[av hz]at h1
  refine⟨fun i m ys H'=>i<=k.1.length/\m=k.1.length-i/\ys.length<=i/\∃μ' acc bD,μ1 <+: μ'/\dg X.K H1 H'/\Rl X μ' ρ bD σ H'/\RelWs X.K μ' H' acc ys/\RK X (qm X) μ' σ H' Q ((kW f t el k.2 (kh cap ρ) (k.1.drop i) acc bD).bind fun ys st=>jf ys st),
   ⟨_,cQ _,rfl,au _,μ1,[],st1,ac _,dg.refl,l1,.nilI,h1⟩,?_⟩
  rintro i m ys H' ⟨hi,rfl,hy,μ',acc,bD,pm,xm,lm,ra,hm⟩
  by_cases hlt:i<k.1.length
  ·rw[cZ hlt]at hm
   unfold kW at hm
   by_cases ck:i6 bD k.2
   ·rw[av ck]at hm
    obtain⟨go,yld⟩:=(wk i μ' bD H' pm xm lm.sto ck).1 _ (ar hlt)
    refine .inr ⟨go,fun x H2 hy2=>?_⟩
    obtain⟨y1,y2,y3⟩:=yld x H2 hy2
    cases hf:f k.1[i] (kh cap ρ)with
    |none=>rw[hf]at hm;exact hm.elim
    |some ρ2=>
     rw[hf]at hm
     simp only at hm
     have lb:Rl X μ' (kh cap ρ) bD (oo cap σ) H2:=⟨Nb (lm.to (ac _) y1 y2).env cap,y2⟩
     refine⟨μ',kh cap ρ,bD,k.1[i],ρ2,lb,y3,hf,fun σ2 l2=>?_⟩
     cases ht:t ρ2 bD with
     |bad=>rw[ht]at hm;exact hm.elim
     |ex c s=>rw[ht]at hm;exact hm.elim
     |ok kk st2=>
      rw[ht]at hm
      refine⟨μ',ρ2,bD,kk,st2,l2,ht,fun μ3 b3 H3 p3 x3 S3 q3=>?_⟩
      cases q3
      cases kk with
      |false=>
       exact⟨_,by omega,hlt,rfl,by omega,μ3,acc,st2,pm.trans p3,xm.trans (y1.trans x3),lm.to p3 (y1.trans x3) S3,ra.mono p3 (y1.trans x3),RK.mono hm p3 (y1.trans x3)⟩
      |true=>
       rw[av rfl]
       simp only at hm
       cases he:el ρ2 st2 with
       |bad=>rw[he]at hm;exact hm.elim
       |ex c s=>rw[he]at hm;exact hm.elim
       |ok w gD=>
        rw[he]at hm
        refine⟨μ3,ρ2,st2,w,gD,l2.to p3 x3 S3,he,fun μ4 b4 H4 p4 x4 S4 q4=>?_⟩
        have pp:=p3.trans p4
        have xx:=y1.trans (x3.trans x4)
        exact⟨fI hy (aK hlt (iX hz)),_,by omega,hlt,rfl,by simp;omega,μ4,acc++[w],gD,pm.trans pp,xm.trans xx,lm.to pp xx S4,(ra.mono pp xx).app (.consI q4 .nilI),RK.mono hm pp xx⟩
   ·rw[az ck]at hm;exact hm.elim
  ·have hi':i=k.1.length:=by omega
   subst hi'
   rw[gK (au _)]at hm
   unfold kW at hm
   by_cases ck:i6 bD k.2
   ·rw[av ck]at hm
    obtain⟨z1,z2⟩:=mw lm.sto ra hm
    exact .inl ⟨(wk _ μ' bD H' pm xm lm.sto ck).2 (au _),z1,fun p hp=>z2 p _ hp rfl⟩
   ·rw[az ck]at hm;exact hm.elim
 ·rw[az hz]at h1;exact h1.elim
section
variable{fi:FI}{f:FG}{t:FT}{el:FE}
theorem QH{X X':Cx}{f:FE}(hK:X'.K=X.K)(hm:X'.mg=X.mg)(h:SE X' e f):QE X' e (Pc X (qm X) f):=⟨h.h.imp fun σ H Q ⟨μ,ρ,st,a,bD,l,e,q⟩=>⟨μ,ρ,st,⟨by rw[hK];exact l.env,by rw[hK,hm];exact l.sto⟩,by rw[e];exact fun μ' b H' p x S r=>q μ' b H' p (by rw[<- hK];exact x) (by rw[<- hK,<- hm];exact S) (by show bj X.K μ' H' a b;rw[<- hK];exact r)⟩⟩
theorem QJ{X X':Cx}{e:List Expr}{f:FT}(hK:X'.K=X.K)(hm:X'.mg=X.mg)(h:HC X' e f):Qc X' e (Pc X IF f):=⟨h.h.imp fun σ H Q ⟨μ,ρ,st,a,bD,l,e,q⟩=>⟨μ,ρ,st,⟨by rw[hK];exact l.env,by rw[hK,hm];exact l.sto⟩,by rw[e];exact fun μ' b H' p x S r=>q μ' b H' p (by rw[<- hK];exact x) (by rw[<- hK,<- hm];exact S) r⟩⟩
theorem QK{X X':Cx}(hK:X'.K=X.K)(hm:X'.mg=X.mg)(h:SG X' e f):QG X' e (M9 X f):=⟨h.h.imp fun v σ H Q ⟨μ,ρ,st,w,ρ',l,r,e,q⟩=>⟨μ,ρ,st,w,ρ',⟨by rw[hK];exact l.env,by rw[hK,hm];exact l.sto⟩,by rw[hK];exact r,e,fun σ' l'=>q σ' ⟨by rw[<- hK];exact l'.env,by rw[<- hK,<- hm];exact l'.sto⟩⟩⟩
theorem pY(hB:tP X.env.scope.names scope.names nm cap X.N=true)(gE:X.env.cells=cellsFrom m X.env.scope.names [])(hi:SI X tg b9 fi)(hg:∀cl C s0 H0 fp,SG (bV X nm scope cl C s0 H0 fp) tg f)(ht:∀cl C s0 H0 fp,HC (bV X nm scope cl C s0 H0 fp) jb t)
  (he:∀cl C s0 H0 fp,SE (bV X nm scope cl C s0 H0 fp) km el) (fC:X.calm=true:=by rfl) (ef:scope.kind=.function:=by rfl) (hs:∀x,foldedSetIterable b9 X.env x=pure x:=by intro _;rfl) :
  SE X (.ListComp km [⟨tg,b9,jb,0⟩] scope pos) (cY cap fi f t el):=
 ⟨(M1 fC gE ef hB ⟨hi.h⟩ (fun cl C s0 H0 fp=>QK (X:=X) rfl rfl (hg cl C s0 H0 fp)) (fun cl C s0 H0 fp=>QJ (X:=X) rfl rfl (ht cl C s0 H0 fp)) (fun cl C s0 H0 fp=>QH (X:=X) rfl rfl (he cl C s0 H0 fp)) hs).h.imp fun _ _ _ h=>wF h⟩
theorem tZ{x0:Str}{p0 p1:Pos}(Ki:SG X (.Name x0 p0) (eA i))(hB:tP X.env.scope.names scope.names nm cap X.N=true)(gE:X.env.cells=cellsFrom m X.env.scope.names [])(hi:SI X tg b9 fi)(hg:∀cl C s0 H0 fp,SG (bV X nm scope cl C s0 H0 fp) tg f)(ht:∀cl C s0 H0 fp,HC (bV X nm scope cl C s0 H0 fp) jb t)
  (he:∀cl C s0 H0 fp,SE (bV X nm scope cl C s0 H0 fp) km el) (fC:X.calm=true:=by rfl) (ef:scope.kind=.function:=by rfl) (hs:∀x,foldedSetIterable b9 X.env x=pure x:=by intro _;rfl)
  (Kp:swapsWith (.ListComp km [⟨tg,b9,jb,0⟩] scope pos) (some (.Name x0 p0)) p1.line X.env=pure true:=by first|rfl|kernel_rfl) :
  SS X (.Assign [.Name x0 p0] (.ListComp km [⟨tg,b9,jb,0⟩] scope pos) p1) (sM (cY cap fi f t el) (eA i)):=
 ⟨(tR ⟨Ki.h⟩ fC gE ef hB ⟨hi.h⟩ (fun cl C s0 H0 fp=>QK (X:=X) rfl rfl (hg cl C s0 H0 fp)) (fun cl C s0 H0 fp=>QJ (X:=X) rfl rfl (ht cl C s0 H0 fp)) (fun cl C s0 H0 fp=>QH (X:=X) rfl rfl (he cl C s0 H0 fp)) hs Kp).h.imp fun D σ H h=>by
  obtain⟨μ,ρ,st,l,h⟩:=h
  have h':tE X (cY cap fi f t el) σ H fun x H1=>M9 X (eA i) x σ H1 D.nx:=⟨μ,ρ,st,l,RK.stmt h l fun μ1 st1 x v H1 p1 x1 l1 q1 h1=>⟨μ1,ρ,st1,x,ρ.set i (some x),l1,q1,rfl,fun σ' l'=>h1 μ1 σ' H1 (ac _) dg.refl l'⟩⟩
  exact wF h'⟩
end
section
variable{a b o:Expr}{fa fb fc fe fo:FE}{fs:FA}
theorem Db{no:List V}(hr:∀μ H,RelWs X.K μ H ws no):wE X (TD no) (ws,none) μ H:=fun i μ' bD H' pp xx S _=>by
 have hl:ws.length=no.length:=(hr μ H).len
 refine⟨fun w hw=>?_,fun h=>by show no.length<=i;rw[<- hl];exact h⟩
 obtain⟨v,g1,g2⟩:=(hr μ' H').get hw
 refine⟨(ao.mp g1).1,fun y H'' hy=>?_⟩
 obtain⟨rfl,hy⟩:=hy
 rw[g1]at hy;cases hy
 exact⟨dg.refl,S,g2⟩
def iH(l:List Nat):List W:=l.map fun c=>.str [c]
theorem vF(l:List Nat)(μ:List Addr)(H:Hp):RelWs X.K μ H (iH l) (jH l):=by
 induction l with
 |nil=>exact .nilI
 |cons a r ih=>exact .consI .str ih
def KQ(fe:FE):FI:=fun ρ st=>(fe ρ st).bind fun x st=>match x with
 |.str l=>.ok (iH l,none) st
 |_=>.bad
theorem Nc(he:SE X e fe):SI X tg e (KQ fe):=⟨(MX he.h).imp fun σ H R h=>by
 obtain⟨μ,ρ,st,l,h⟩:=h
 refine⟨μ,ρ,st,l,RK.bind h l fun μ1 st1 x v H1 p1 x1 l1 q1 h1=>?_⟩
 cases x with
 |str z=>exact⟨z,q1.strE,h1 μ1 _ H1 (ac _) dg.refl l1.sto (Db (vF z))⟩
 |_=>exact h1.elim⟩
def eQ(fe:FE):FI:=fun ρ st=>(fe ρ st).bind fun x st=>match x with
 |.tup ws=>.ok (ws,none) st
 |.loc n=>(match lstOf st n with
  |some ws=>.ok (ws,some (n,ws)) st
  |none=>.bad)
 |.str l=>.ok (iH l,none) st
 |_=>.bad
theorem Ar(he:SE X e fe):SI X tg e (eQ fe):=⟨fun af s σ H Rr I h=>by
 obtain⟨μ,ρ,st,l,h⟩:=h
 cases e1:fe ρ st with
 |bad=>simp only[eQ,e1,R.bind_bad]at h;exact h.elim
 |ex c st1=>
  refine(E9 (tg:=tg) he).h af s σ H Rr I ⟨μ,ρ,st,l,?_⟩
  simp only[eQ,E8,e1,R.bind_ex]at h ⊢;exact h
 |ok w st1=>
  cases w with
  |tup ws=>
   refine(E9 (tg:=tg) he).h af s σ H Rr I ⟨μ,ρ,st,l,?_⟩
   simp only[eQ,E8,e1,R.bind_ok]at h ⊢;exact h
  |loc n=>
   refine(Na (tg:=tg) he).h af s σ H Rr I ⟨μ,ρ,st,l,?_⟩
   simp only[eQ,KN,e1,R.bind_ok]at h ⊢;exact h
  |str z=>
   refine(Nc (tg:=tg) he).h af s σ H Rr I ⟨μ,ρ,st,l,?_⟩
   simp only[eQ,KQ,e1,R.bind_ok]at h ⊢;exact h
  |_=>simp only[eQ,e1,R.bind_ok]at h;exact h.elim⟩
def t0(f f':W->W->List al->R W)(fa fb fc:FE):FE:=fun ρ st=>(fa ρ st).bind fun x st=>(fb ρ st).bind fun y st=>(f x y st).bind fun z st=>match z with
 |.bl true=>(fc ρ st).bind fun w st=>f' y w st
 |.bl false=>.ok (.bl false) st
 |_=>.bad
theorem IT{Q:VK}(n:∀x y st,pe (f x y st))(n':∀x y st,pe (f' x y st))(h:tE X (t0 f f' fa fb fc) σ H Q):El (Qj X f) (Qj X f') (tE X fa) (tE X fb) (tE X fc) σ H Q:=by
 obtain⟨μ,ρ,st,l,h⟩:=h
 refine⟨μ,ρ,st,l,RK.bind h l fun μ1 st1 x v H1 p1 x1 l1 q1 h1=>⟨μ1,ρ,st1,l1,RK.bind h1 l1 fun μ2 st2 y u H2 p2 x2 l2 q2 h2=>⟨μ2,st2,x,y,l2.sto,q1.mono p2 x2,q2,pU (σ:=σ) (RK.bind h2 l2 fun μ3 gD z t H3 p3 x3 l3 q3 h3=>?_) (n _ _ _)⟩⟩⟩
 cases z with
 |bl k=>
  refine⟨k,q3.blE,?_⟩
  cases k with
  |false=>exact h3 μ3 _ H3 (ac _) dg.refl l3.sto .bl
  |true=>
   refine⟨μ3,ρ,gD,l3,RK.bind h3 l3 fun μ4 vd w s H4 p4 x4 l4 q4 h4=>?_⟩
   exact⟨μ4,vd,y,w,l4.sto,(q2.mono p3 x3).mono p4 x4,q4,pU h4 (n' _ _ _)⟩
 |_=>exact h3.elim
theorem IU{O8:CmpOp}(ho:qo X (compareOp op) f)(uR:qo X (compareOp O8) f')(ha:SE X a fa)(hb:SE X b fb)(hc:SE X c fc)(hm:lastMarks [op,O8] [b,c]=false:=by with_unfolding_all rfl):SE X (.Compare a [op,O8] [b,c] pos) (t0 f f' fa fb fc):=⟨(Em ho.h uR.h ha.h hb.h hc.h hm).imp fun _ _ _ h=>IT ho.n uR.n h⟩
def IV(fa:FE):FE:=fun ρ st=>(fa ρ st).bind fun x st=>match x with
 |.int i=>.ok (.int (-i)) st
 |_=>.bad
theorem QL(ha:SE X a fa):SE X (.UnaryOp .USub a pos) (IV fa):=⟨(PC ML ha.h).imp fun σ H Q h=>by
 obtain⟨μ,ρ,st,l,h⟩:=h
 refine⟨μ,ρ,st,l,RK.bind h l fun μ1 st1 x v H1 p1 x1 l1 q1 h1=>?_⟩
 cases x with
 |int k=>exact⟨k,q1.intE,h1 μ1 _ H1 (ac _) dg.refl l1.sto .int⟩
 |_=>exact h1.elim⟩
def Dd(x y:W)(st:List al):R W:=match x,y with
 |.int i,.int j=>.ok (.bl (decide (i<=j))) st
 |.str [c],.str [d]=>.ok (.bl (decide (c<=d))) st
 |_,_=>.bad
theorem Bw:qo X (compareOp .LtE) Dd:=⟨fun af s σ H x y v u Q I rv ru ⟨μ,st,wx,wy,S,rx,ry,q⟩=>by
 unfold Dd at q
 split at q
 ·exact PF af s σ H x y v u Q I rv ru ⟨_,_,rx.intE,ry.intE,jg S q⟩
 ·exact CN af s σ H x y v u Q I rv ru ⟨_,_,rx.strE,ry.strE,jg S q⟩
 ·exact q.elim,fun x y st=>by unfold Dd;split<;>trivial⟩
end
def wG(c:Nat):List Nat->List Nat
 |[]=>[c]
 |d::r=>if c<d then c::d::r else if c=d then d::r else d::wG c r
def iL(l:List Nat):List Nat:=l.foldr wG []
theorem t4{c x:Nat}:∀{l:List Nat},x∈wG c l↔x=c\/x∈l
 |[]=>by simp[wG]
 |d::r=>by
  unfold wG
  split
  ·simp
  ·split
   ·rename_i h;subst h;simp
   ·simp only[aG,t4]
    constructor
    ·rintro(h|h|h)<;>simp[h]
    ·rintro(h|h|h)<;>simp[h]
theorem Bx{c:Nat}:∀{l:List Nat},l.Pairwise (· < ·)->(wG c l).Pairwise (· < ·)
 |[],_=>by simp[wG]
 |d::r,h=>by
  obtain⟨h1,h2⟩:=bM.mp h
  unfold wG
  split
  ·rename_i hc
   refine bM.mpr ⟨fun x hx=>?_,h⟩
   rcases aG.mp hx with rfl|hx
   ·exact hc
   ·exact nA hc (h1 x hx)
  ·split
   ·exact h
   ·rename_i hc hd
    refine bM.mpr ⟨fun x hx=>?_,Bx h2⟩
    rcases t4.mp hx with rfl|hx
    ·omega
    ·exact h1 x hx
theorem mx{x:Nat}:x∈iL l↔x∈l:=by
 induction l with
 |nil=>simp[iL]
 |cons a r ih=>show x∈wG a (iL r)↔_;rw[t4,ih];simp
theorem my(l:List Nat):(iL l).Pairwise (· < ·):=by
 induction l with
 |nil=>exact List.Pairwise.nil
 |cons a r ih=>exact Bx ih
theorem t5:∀{l m:List Nat},l.Pairwise (· < ·)->m.Pairwise (· < ·)->(∀x,x∈l↔x∈m)->l=m
 |[],[],_,_,_=>rfl
 |[],b::m,_,_,h=>by have:=(h b).mpr (by simp);simp at this
 |a::l,[],_,_,h=>by have:=(h a).mp (by simp);simp at this
 |a::l,b::m,h1,h2,h=>by
  obtain⟨p1,p2⟩:=bM.mp h1
  obtain⟨q1,q2⟩:=bM.mp h2
  have e:a=b:=by
   rcases aG.mp ((h a).mp (by simp))with z|z
   ·exact z
   ·rcases aG.mp ((h b).mpr (by simp))with y|y
    ·exact y.symm
    ·have:=p1 b y;have:=q1 a z;omega
  subst e
  rw[t5 p2 q2 fun x=>?_]
  constructor
  ·intro hx
   rcases aG.mp ((h x).mp (aD _ hx))with z|z
   ·subst z;exact absurd (p1 x hx) (cw _)
   ·exact z
  ·intro hx
   rcases aG.mp ((h x).mpr (aD _ hx))with z|z
   ·subst z;exact absurd (q1 x hx) (cw _)
   ·exact z
def As(c:List Nat):List (List Nat)->List (List Nat)
 |[]=>[c]
 |d::r=>if c<d then c::d::r else d::As c r
def iM(l:List (List Nat)):List (List Nat):=l.foldr As []
theorem rD(c:List Nat):∀l:List (List Nat),(As c l).Perm (c::l)
 |[]=>im _
 |d::r=>by
  unfold As
  split
  ·exact im _
  ·exact((rD c r).cons d).trans (List.Perm.swap c d r)
theorem ia(l:List (List Nat)):(iM l).Perm l:=by
 induction l with
 |nil=>exact im _
 |cons a r ih=>exact(rD a _).trans (ih.cons a)
def IW:List (List Nat)->Prop:=List.Pairwise fun a b=>¬ b<a
theorem By(c:List Nat):∀{l:List (List Nat)},IW l->IW (As c l)
 |[],_=>by simp[As,IW]
 |d::r,h=>by
  obtain⟨h1,h2⟩:=bM.mp h
  unfold As
  split
  ·rename_i hc
   refine bM.mpr ⟨fun x hx=>?_,h⟩
   rcases aG.mp hx with rfl|hx
   ·exact fun z=>List.lt_irrefl _ (List.lt_trans z hc)
   ·exact fun z=>h1 x hx (List.lt_trans z hc)
  ·rename_i hc
   refine bM.mpr ⟨fun x hx=>?_,By c h2⟩
   rcases aG.mp ((rD c r).mem_iff.mp hx)with rfl|hx
   ·exact hc
   ·exact h1 x hx
theorem yD(l:List (List Nat)):IW (iM l):=by
 induction l with
 |nil=>exact List.Pairwise.nil
 |cons a r ih=>exact By a ih
theorem wH:∀{l m:List (List Nat)},IW l->IW m->l.Perm m->l=m
 |[],m,_,_,h=>(List.Perm.nil_eq h)
 |a::l,[],_,_,h=>(by have:=h.length_eq;simp at this)
 |a::l,b::m,h1,h2,h=>by
  obtain⟨p1,p2⟩:=bM.mp h1
  obtain⟨q1,q2⟩:=bM.mp h2
  have e:a=b:=by
   rcases aG.mp (h.mem_iff.mp (by simp:a∈a::l))with z|z
   ·exact z
   ·rcases aG.mp (h.mem_iff.mpr (by simp:b∈b::m))with y|y
    ·exact y.symm
    ·exact List.le_antisymm (show a<=b from p1 b y) (show b<=a from q1 a z)
  subst e
  rw[wH p2 q2 (List.perm_cons a |>.mp h)]
theorem t6:∀{zs:List (List Nat)},sortedS (zs.map tx)=true->IW zs:=by
 have key:∀(zs:List (List Nat)) (p:List Nat),risingS (tx p) (zs.map tx)=true->IW (p::zs):=by
  intro zs
  induction zs with
  |nil=>intro p _;simp[IW]
  |cons a r ih=>
   intro p h
   have h':(!ltCps a p&&risingS (tx a) (r.map tx))=true:=h
   rw[bA,fZ,ltCps_eq,decide_eq_false_iff_not]at h'
   have u:=ih a h'.2
   refine bM.mpr ⟨fun x hx=>?_,u⟩
   rcases aG.mp hx with rfl|hx
   ·exact h'.1
   ·have:=(bM.mp u).1 x hx
    exact List.not_lt.mpr (List.le_trans (List.not_lt.mp h'.1) (List.not_lt.mp this))
 intro zs h
 cases zs with
 |nil=>exact List.Pairwise.nil
 |cons a r=>exact key r a h
section
variable{a b o:Expr}{fa fb fc fe fo:FE}{fs:FA}
def oT(ws:List W)(st:List al):R W:=match ws with
 |[.loc n]=>sL (lstOf st n) fun zs=>sL (nK zs) fun ls=>if ls.length<64 then .ok (.loc st.length) (st++[.lst ((iM ls).map W.str)])else .bad
 |_=>.bad
theorem yE(ls:List (List Nat)):RelWs K μ H (ls.map W.str) (ls.map fun l=>V.str (tx l)):=by
 induction ls with
 |nil=>exact .nilI
 |cons a r ih=>exact .consI .str ih
theorem yF:pF X (.builtin "sorted") oT:=⟨fun af s σ H vs us Q I rv ⟨μ,st,ws,S,r,q⟩=>by
 unfold oT at q
 split at q
 ·rename_i n
  obtain⟨y,rfl,ry⟩:=r.one
  cases e1:lstOf st n with
  |none=>rw[e1]at q;exact q.elim
  |some zs=>
   rw[e1,df]at q
   cases e2:nK zs with
   |none=>rw[e2]at q;exact q.elim
   |some ls=>
    rw[e2,df]at q
    split at q
    ·rename_i c
     obtain⟨a,vs,g,hS,rz⟩:=S.lstOf e1
     obtain⟨b1,f1,rfl⟩:=ry.locE
     rw[g]at f1;cases f1
     have:=tY e2 rz
     subst this
     refine u3.h af s σ H _ us Q I rv ⟨_,ls,rfl,hS,c,fun zs hp hs l H2 hl eH=>?_⟩
     subst eH
     have ez:zs=iM ls:=wH (t6 hs) (yD ls) (hp.trans (ia ls).symm)
     subst ez
     exact q (μ++[l]) _ _ (ag _ _) (fj.same (cn hl _)) (S.newLst hl (yE _)) (pV S)
    ·exact q.elim
 ·exact q.elim,fun ws st=>by
 unfold oT
 split
 ·exact oz fun _=>oz fun _=>by split<;>trivial
 ·trivial⟩
def kR:List W->Option (List Nat)
 |[]=>some []
 |.str [c]::ws=>(kR ws).map (c :: ·)
 |_=>none
theorem qu:∀{ws:List W} {l:List Nat} {vs:List V},kR ws=some l->RelWs K μ H ws vs->vs=jH l
 |[],l,vs,h,r=>by simp only[kR]at h;cases h;exact r.nilE
 |w::ws,l,vs,h,r=>by
  obtain⟨x,xs,rfl,rx,rs⟩:=r.consE
  unfold kR at h
  split at h
  ·rename_i e;cases e
  ·rename_i c Sl e
   cases e
   cases e2:kR ws with
   |none=>rw[e2]at h;cases h
   |some l'=>rw[e2]at h;cases h;rw[rx.strE,qu e2 rs];rfl
  ·cases h
def t7:W->Option (List Nat)
 |.str l=>some l
 |.tup ws=>kR ws
 |_=>none
def qv(fe:FE):FE:=fun ρ st=>(fe ρ st).bind fun x st=>sL (t7 x) fun l=>if l.length<4000/\(iL l).length<64 then .ok (.loc st.length) (st++[.lst (iH (iL l))])else .bad
theorem iN{m l:List Nat}(hm:m.Nodup)(h:∀c∈m,c∈l):m.length<=l.length:=by
 induction m generalizing l with
 |nil=>exact cQ _
 |cons a r ih=>
  obtain⟨h1,h2⟩:=bF.mp hm
  have ha:a∈l:=h a (by simp)
  have:=ih h2 (l:=l.erase a) fun c hc=>by
   have:c≠a:=fun z=>h1 (z▸hc)
   exact(List.mem_erase_of_ne this).mpr (h c (aD _ hc))
  rw[ml ha]at this
  have:0<l.length:=ju ha
  simp;omega
theorem De{p1 p2 OY pos2:Pos}(h1:X.mg "sorted"=none)(h3:X.mg "set"=none)(he:SE X e fe)(hc:X.calm=true:=by rfl)
  (R6:Gl X "sorted":=by rfl) (Kr:Gl X "set":=by rfl) (S9:starEach [e] X.env=(false,eval e X.env)::starEach [] X.env:=by rfl):SE X (.Call (.Name "sorted" p1) [.Call (.Name "set" p2) [e] [] pos2] [] OY) (qv fe):=⟨(CW h1 h3 ⟨he.h⟩ hc R6 Kr S9).h.imp fun σ H Q h=>by
 obtain⟨μ,ρ,st,l,h⟩:=h
 refine⟨μ,ρ,st,l,RK.bind h l fun μ1 st1 x v H1 p1 x1 l1 q1 h1=>?_⟩
 cases e1:t7 x with
 |none=>rw[e1]at h1;exact h1.elim
 |some ll=>
  rw[e1,df]at h1
  split at h1
  ·rename_i c
   refine⟨ll,?_,c.1,fun m hm ve=>?_,fun m qf uM hmem a H2 ha eH=>?_⟩
   ·cases x with
    |str z=>cases e1;exact .inl q1.strE
    |tup ws=>obtain⟨p,vs,rfl,hS,r⟩:=q1.tupE;have:=qu e1 r;subst this;exact .inr ⟨p,rfl,hS⟩
    |_=>cases e1
   ·exact fI (iN hm fun c hc=>mx.mpr (ve c hc)) c.2
   ·subst eH
    have em:m=iL ll:=by
     refine t5 ((List.Pairwise.and uM qf).imp fun z=>Nat.lt_of_le_of_ne z.1 z.2) (my ll) fun x=>?_
     rw[hmem,mx]
    subst em
    exact h1 (μ1++[a]) _ _ (ag _ _) (fj.same (cn ha _)) (l1.sto.newLst ha (vF (X:=X) _ _ _)) (pV l1.sto)
  ·exact h1.elim⟩
def u6:List W->Option (List Bool)
 |[]=>some []
 |.bl k::ws=>(u6 ws).map (k :: ·)
 |_=>none
theorem Bz:∀{ws:List W} {ls:List Bool} {vs:List V},u6 ws=some ls->RelWs K μ H ws vs->vs=ls.map V.bl
 |[],ls,vs,h,r=>by simp only[u6]at h;cases h;exact r.nilE
 |w::ws,ls,vs,h,r=>by
  obtain⟨x,xs,rfl,rx,rs⟩:=r.consE
  cases w with
  |bl l=>
   simp only[u6]at h
   cases e:u6 ws with
   |none=>rw[e]at h;cases h
   |some ls'=>rw[e]at h;cases h;rw[rx.blE,Bz e rs];rfl
  |_=>simp only[u6]at h;cases h
def wI(ws:List W)(st:List al):R W:=match ws with
 |[.loc n]=>sL (lstOf st n) fun zs=>sL (u6 zs) fun ls=>.ok (.bl (ls.all id)) st
 |_=>.bad
theorem QM(hc:X.calm=true:=by rfl):pF X (.builtin "all") wI:=⟨fun af s σ H vs us Q I rv ⟨μ,st,ws,S,r,q⟩=>by
 unfold wI at q
 split at q
 ·rename_i n
  obtain⟨y,rfl,ry⟩:=r.one
  cases e1:lstOf st n with
  |none=>rw[e1]at q;exact q.elim
  |some zs=>
   rw[e1,df]at q
   cases e2:u6 zs with
   |none=>rw[e2]at q;exact q.elim
   |some ls=>
    rw[e2,df]at q
    obtain⟨a,vs,g,hS,rz⟩:=S.lstOf e1
    obtain⟨b1,f1,rfl⟩:=ry.locE
    rw[g]at f1;cases f1
    have:=Bz e2 rz
    subst this
    exact(Qe hc).h af s σ H _ us Q I rv ⟨_,ls,rfl,hS,jg S q⟩
 ·exact q.elim,fun ws st=>by
 unfold wI
 split
 ·exact oz fun _=>oz fun _=>trivial
 ·trivial⟩
end
def W.ty:W->Option String
 |.non=>some "NoneType" | .bl _=>some "bool" | .int _=>some "int" | .str _=>some "str" | .tup _=>some "tuple" | .loc _=>none
def IX(t T:String):Bool:=(t==T)||(t == "bool" && T == "int")
theorem QN{K:Frag}(h:EF T){w:W}{t:String}(hw:w.ty=some t):PySem.W.kitOne K (.type t) (.type T)=some (IX t T):=by
 cases w<;>simp only[W.ty]at hw<;>cases hw<;>(rcases h with rfl|rfl|rfl|rfl<;>rfl)
def Df(T:String)(fa:FE):FE:=fun ρ st=>(fa ρ st).bind fun x st=>match x.ty with
 |some t=>.ok (.bl (IX t T)) st
 |none=>.bad
section
variable{a b o:Expr}{fa fb fc fe fo:FE}{fs:FA}
theorem Fb{xT:Str}(hm:X.mg "isinstance"=none)(hT:X.mg xT=none)(hv:bootBuiltins xT=some (.type T))(ha:SE X a fa)(hk:EF T:=by first|exact .inl rfl|exact .inr (.inl rfl)|exact .inr (.inr (.inl rfl))|exact .inr (.inr (.inr rfl)))
  (hg:Gl X "isinstance":=by rfl) (U7:Gl X xT:=by rfl) (hn:xT ≠ "__name__":=by decide) (hd:(xT==("__debug__":Str))=false:=by decide)
  (he:starEach [a,.Name xT p2] X.env=(false,eval a X.env)::starEach [.Name xT p2] X.env:=by rfl) (Ph:starEach [.Name xT p2] X.env=(false,eval (.Name xT p2) X.env)::starEach [] X.env:=by rfl) (mI:(backTo pos (starEach [.Name xT p2] X.env)).any (·.1)=false:=by rfl) :
  SE X (.Call (.Name "isinstance" p) [a,.Name xT p2] [] pos) (Df T fa):=by
 have C:kC X (.builtin "isinstance") (fun xs H Q=>∃x μ st w t,xs=[x,.ty T]/\fO X.K X.mg μ st H/\bj X.K μ H w x/\w.ty=some t/\Q (.bl (IX t T)) H):=by
  intro af s σ H xs us Q I r h
  obtain⟨x,μ,st,w,t,rfl,S,rx,ht,q⟩:=h
  obtain⟨u,u2,rfl,r1,r2⟩:=cA.two r
  obtain rfl:u2=.type T:=r2
  have e:=QN (K:=X.K) hk ht
  cases w with
  |tup ws=>
   cases ht
   obtain⟨p,vs,rfl,hS,_⟩:=rx.tupE
   cases(show u=Value.ref p from r1)
   obtain⟨its,_,hp,_⟩:=I.tuple hS
   obtain⟨o,h1,h2,_⟩:=hp
   exact kia_one PySem.W.kitx_tuple I.kIn ⟨o,h1,h2⟩ e (fun z=>nomatch z) fun tk=>⟨.bl _,H,I.tok tk,rfl,q⟩
  |non=>cases ht;cases rx.nonE;exact oO I r1 .non e fun tk=>⟨.bl _,H,I.tok tk,rfl,q⟩
  |bl b=>cases ht;cases rx.blE;exact oO I r1 (.bl _) e fun tk=>⟨.bl _,H,I.tok tk,rfl,q⟩
  |int b=>cases ht;cases rx.intE;exact oO I r1 (.int _) e fun tk=>⟨.bl _,H,I.tok tk,rfl,q⟩
  |str b=>cases ht;cases rx.strE;exact oO I r1 (.str _) e fun tk=>⟨.bl _,H,I.tok tk,rfl,q⟩
  |loc b=>cases ht
 refine⟨(x6 C hg hm boot_isinstance (mW ha.h (mW (HI U7 hT hv (v:=.ty T) rfl hn hd) wj Ph) he) (by decide) (by decide) he mI).imp fun σ H Q h=>?_⟩
 obtain⟨μ,ρ,st,l,h⟩:=h
 refine⟨μ,ρ,st,l,RK.bind h l fun μ1 st1 x v H1 p1 x1 l1 q1 h1=>?_⟩
 cases ht:x.ty with
 |none=>rw[ht]at h1;exact h1.elim
 |some t=>
  rw[ht]at h1
  exact⟨v,μ1,st1,x,t,rfl,l1.sto,q1,ht,h1 μ1 _ H1 (ac _) dg.refl l1.sto .bl⟩
end
abbrev QO:List Value:=[.type "ValueError",.type "Exception",.type "BaseException",.type "object"]
abbrev KR:String:="ValueError.__new__"
def Nd(K:Frag)(C:Addr):List Value:=match K.lookup C with
 |some ⟨_,_,.cls cd,_⟩=>cd.mro
 |_=>[]
theorem IY{UF:List Value}{Hi:String}(X:K.In h)(q:excIn K C UF Hi=true) :
  ∃bm N nm qn bs hdct sn sub ab col dd k0 k1 k2 k3 k5 mN,h.get? C=some (excClassObj nm qn C N bs bm hdct sn sub ab col dd k0 k1 k2 k3 k5 Hi)/\h.Ns N mN/\mN "__init__"=none/\OwnTail h UF bm/\Nd K C=.ref C::bm:=by
 have q0:=q
 unfold excIn at q
 split at q
 ·rename_i dd cd sl ho
  split at q
  ·rename_i C' bm k0 k1 k2 k3 n k5 hm hs
   simp only[bA,gJ,fZ]at q
   obtain⟨⟨⟨⟨⟨rfl,rfl⟩,hdel⟩,ht⟩,hok⟩,hni⟩:=q
   have hmro:Nd K C'=cd.mro:=by unfold Nd;rw[ho]
   obtain⟨nm,bs,mro,ns,qn,hd,sn,sub,ab,col,del⟩:=cd
   dsimp only at hm hdel hok hni hmro
   subst hm hdel
   have hsl:sl=#[k0,k1,k2,k3,some (.builtin n),k5]:=by
    obtain⟨l⟩:=sl
    simp only at hs
    rw[hs]
   subst hsl
   exact⟨bm,ns,nm,qn,bs,hd,sn,sub,ab,col,dd,k0,k1,k2,k3,k5,_,X _ _ ho,.of_isNs (PySem.W.isNs_of_in X hok),PySem.W.nsMap_none_of_in X hok hni,PySem.W.tail_of_in X ht,hmro⟩
  ·cases q
 ·cases q
structure QP(K:Frag)(mg:Str->Option Value)(x:Str):Prop where
 ex:∃C,mg x=some (.ref C)/\excIn K C QO KR=true
def At(c:Str):FS:=fun ρ st=>.ex c ρ st
theorem yG{np gp pos p':Pos}{z:Str}{j:Nat}(hC:QP X.K X.mg x)(fC:X.calm=true:=by rfl)(hg:Gl X x:=by rfl)(hd:(x==("__debug__":Str))=false:=by decide)
  (he:starEach [.Constant (.str z) j p'] X.env=(false,eval (.Constant (.str z) j p') X.env)::starEach [] X.env:=by rfl):SS X (.Raise (some (.Call (.Name x np) [.Constant (.str z) j p'] [] gp)) none pos) (At x):=⟨by
 intro af s σ H D I h
 obtain⟨μ,ρ,st,l,h⟩:=h
 obtain⟨C,hm,q⟩:=hC.ex
 have hh:X.A.handled=none:=I.ok.hd fC
 obtain⟨bm,N,nm,qn,bs,hdct,sn,sub,ab,col,dd,k0,k1,k2,k3,k5,mN,g1,g2,g3,g4,g5⟩:=IY I.kIn q
 refine wpAny_Raise_call_subT (C:=C) (nm:=nm) (q:=qn) (N:=N) (bs:=bs) (bm:=bm) (hdct:=hdct) (sn:=sn) (sub:=sub) (ab:=ab) (col:=col) (dd:=dd) (k0:=k0) (k1:=k1) (k2:=k2) (k3:=k3) (k5:=k5)
  F.excBase_ValueError (mN:=mN) (g4.hasType F.excBase_ValueError.hasBase) hh (by rw[he];rfl) g3 (qg I hg hm ⟨rfl,?_⟩ hd)
 rw[he]
 refine Calls.evalArgs_plain ?_
 show wpAny _ _ (spliced ((false,eval (.Constant (.str z) j p') X.env)::[])) _ _ s
 refine iZ (wpAny_Constant_str (jn ?_))
 refine⟨rfl,(by show 1<=sizeLine;decide),g1,g2,g4,fun h' e hx=>?_⟩
 have I2:bE X af σ H { s with heap:=h',toks:=s.toks+1 }:=I.kept hx.keeps
 have en:H e=none:=by
  cases hu:H e with
  |none=>rfl
  |some u=>
   obtain⟨ob,DT⟩:=(I.hok e u hu).ex
   have:=hx.new
   rw[show({ s with toks:=s.toks+1 }:Shared).heap=s.heap from rfl]at this
   rw[DT]at this;cases this
 obtain⟨t,L4,ht2,ht3⟩:=hx.there
 have hin:∀env∈X.stack,∀b,env.frame=some b->b∈r_ X.stack:=fun env he b hb=>lu.mpr ⟨env,he,hb⟩
 refine h af μ σ H (.ref e) _ (ac _) dg.refl l ⟨I2,e,.ref C,t,hideAll s.heap (r_ X.stack),rfl,hm,en,fun b o hb=>hx.keeps b o (PySem.W.of_hideAll _ hb),?_,?_,.inr (.inl ⟨_,_,L4,rfl,rfl,rfl,rfl,rfl⟩),fun b o hb hr=>?_⟩
 ·cases hq:(hideAll s.heap (r_ X.stack)).get? e with
  |none=>rfl
  |some o=>have z:=PySem.W.of_hideAll _ hq;have y:=hx.new;rw[show({ s with toks:=s.toks+1 }:Shared).heap=s.heap from rfl,z]at y;cases y
 ·exact(PySem.W.funFrames_hide I.stack hin).of_keeps fun b o hb _=>⟨o,hx.keeps b o hb,rfl⟩
 ·have old:∀o0,s.heap.get? b=some o0->s.heap.get? b=some o:=fun o0 h0=>by
   have h1:h'.get? b=some o0:=hx.keeps b o0 h0
   have h2:h'.get? b=some o:=hb
   rw[h1]at h2;rw[<- h2];exact h0
  have lj:∀o0,s.heap.get? b=some o0->b∉r_ X.stack->(hideAll s.heap (r_ X.stack)).get? b=some o:=fun o0 h0 hn=>PySem.W.hideAll_get _ (old o0 h0) hn
  rcases hr with hr|⟨⟨o0,h0⟩,hf,hbx⟩|⟨⟨y,hy⟩,hf⟩|⟨pp,hp,rfl⟩
  ·cases hu:H b with
   |none=>exact absurd hu hr
   |some u=>
    obtain⟨ob,DT⟩:=(I.hok b u hu).ex
    exact lj ob DT fun z=>by have:=I.stkFree b z;rw[hu]at this;cases this
  ·obtain⟨o1,h1⟩:=I.base.there b o0 h0 hbx
   refine lj o1 h1 fun z=>?_
   rcases aG.mp (I.stkSub b z)with z|z
   ·rw[z]at h0;exact absurd (aK (ax h0) I.ok.above) (cw _)
   ·exact hf z
  ·obtain⟨v,ov,hov,_⟩:=I.cell y b hy
   exact lj ov hov hf
  ·obtain⟨p1,p2,p3,p4,_⟩:=I.pin pp hp
   refine lj _ p1 fun z=>?_
   rcases aG.mp (I.stkSub _ z)with z|z
   ·exact p3 z
   ·exact p4 z⟩
section
end
open AutoSeq1 (wpAny_loadPart')
theorem yH(l:Addr)(items:Array Value)(n:Nat)(b:Addr)(uP:Array Value)(n2:Nat)(dd:Option Addr)(sl:Array (Option Value))(zU:¬(!items.isEmpty&&Builtin.List.listTooLong (items.size+uP.size))=true)(tf:items.size<=sizeLine)(oZ:items.size+uP.size<=sizeLine+1) :
  Meets (Builtin.«list.extend» ⟨[.ref l,.ref b],[]⟩) (fun _ R s=>s.heap.get? l=some { cls:=.type "list",dict:=none,data:=.seq items n,slots:=#[] }/\s.heap.get? b=some { cls:=.type "tuple",dict:=dd,data:=.seq uP n2,slots:=sl }
   /\ R (.ok (.ret Value.none)) { s with heap:=s.heap.update l (Obj.mapSeq fun x=>x++uP),toks:=s.toks }):=
 .of_wp fun prog w A R s h=>by
  have g1:=AutoSeq1.idx_int
  have g2:=AutoSeq1.sub_tuple_tuple
  have g3:=AutoSeq1.sub_list_list
  have g4:=AutoSeq1.sub_tuple_list
  have g5:=AutoSeq1.sub_list_tuple
  obtain⟨hp,gl,ds,tk,os⟩:=s
  obtain⟨ha,hb,q⟩:=h
  have fits:(items++uP).size<=sizeLine+1:=by
   rw[Array.size_append]
   exact oZ
  wp_walk using (kw ha rfl (hz:=tf) (_hz':=fits)),bC ha,bC hb
  exact⟨_,rfl,q⟩
def Fd(K:Frag):V->List V->Hp->VK->Prop:=fun x vs H Q=>∃l b xs zs,x=.ref l/\vs=[.ref b]/\H l=some (.lst xs)/\fj K H b zs/\xs.length+zs.length<=sizeLine/\Q .non (eJ H l (.lst (xs++zs)))
section
theorem Au:Tx X "list.extend" (Fd X.K):=by
 intro af s σ H x vs v us Q I rx rv h
 obtain⟨l,b,xs,zs,rfl,rfl,hH,hB,hz,q⟩:=h
 cases rx
 obtain⟨u,rfl,ru⟩:=rv.one
 cases ru
 obtain⟨z,its,n,r,hl,e⟩:=I.lstM hH
 obtain⟨its2,r2,⟨o,e2,hc,n2,hd⟩,z2⟩:=I.tuple hB
 have hl2:=r2.length
 have hsz:its.toArray.size+its2.toArray.size<=sizeLine:=by rw[aO,aO];omega
 have hlong:¬ (!its.toArray.isEmpty&&Builtin.List.listTooLong (its.toArray.size+its2.toArray.size))=true:=by
  rw[tK hsz,Bool.and_false]
  exact bK
 obtain⟨cls,dd,data,sl⟩:=o
 dsimp only at hc hd
 subst hc hd
 refine ij F.slot_list_extend ⟨_,e,rfl⟩ F.entry_list_extend (F.args_list_extend_2 _ _)
  (yH l its.toArray n b its2.toArray n2 dd sl hlong (by rw[aO];omega) (by omega)) ⟨e,e2,?_⟩
 refine⟨.non,_,I.lset (its':=its++its2) hH e (by simp) (r.append r2) ?_,rfl,q⟩
 rw[aF]
 omega
def kX(x:W)(ws:List W)(st:List al):R W:=match x,ws with
 |.loc n,[.tup ys]=>(match st[n]? with
  |some (.lst zs)=>if zs.length+ys.length<=jx then .ok .non (st.set n (.lst (zs++ys)))else .bad
  |_=>.bad)
 |_,_=>oS x ws st
theorem Av:Pa X "list.extend" kX:=⟨fun af s σ H x vs v us Q I rv rus ⟨μ,st,wx,ws,S,rx,rs,q⟩=>by
 unfold kX at q
 split at q
 ·rename_i n ys
  obtain⟨y1,rfl,ry⟩:=rs.one
  split at q
  ·rename_i zs e1
   split at q
   ·rename_i c
    obtain⟨a1,g1,vs1,k1,r1⟩:=S.get e1
    obtain⟨b1,f1,rfl⟩:=rx.locE
    rw[g1]at f1;cases f1
    obtain⟨p,vs2,rfl,hS,r2⟩:=ry.tupE
    refine Au af s σ H _ _ v us Q I rv rus ⟨a1,p,vs1,vs2,rfl,rfl,k1,hS,by rw[<- r1.len,<- r2.len];exact iX c,?_⟩
    exact q μ _ _ (ac _) (fj.but jd k1) (S.set e1 g1 k1 (r1.app r2)) .non
   ·exact q.elim
  ·exact q.elim
 ·exact vD.h af s σ H x vs v us Q I rv rus ⟨μ,st,wx,ws,S,rx,rs,q⟩,fun x ws st=>by
 unfold kX
 split
 ·repeat' split
  all_goals trivial
 ·exact(vD (X:=X)).n x ws st⟩
end
section
variable{a b o:Expr}{fa fb fe fo:FE}{fs:FA}
def BA(fa:FE):FE:=fun ρ st=>(fa ρ st).bind fun x st=>match x with
 |.str l=>if l.length<=jx then .ok (.str l.reverse) st else .bad
 |_=>.bad
theorem Nf{p3 p4:Pos}(ha:SE X a fa):SE X (.Subscript a (.Slice none none (some (.UnaryOp .USub (.Constant (.int 1) j p4) p3)) p2) pos) (BA fa):=⟨(Ip (one:=a) ha.h).imp fun σ H Q h=>by
 obtain⟨μ,ρ,st,l,h⟩:=h
 refine⟨μ,ρ,st,l,RK.bind h l fun μ1 st1 x v H1 p1 x1 l1 q1 h1=>?_⟩
 cases x with
 |str z=>
  dsimp only at h1
  split at h1
  ·rename_i cc
   exact⟨z,q1.strE,iX cc,h1 μ1 _ H1 (ac _) dg.refl l1.sto .str⟩
  ·exact h1.elim
 |_=>exact h1.elim⟩
end
section
variable{w:World}{g:Array GenState}{d:Drawn}{t:Nat}{os:OsState}
 {nm q:Str} {C N:Addr} {bs bm:List Value} {hdct:Bool} {sn:List Str} {sub:List Value} {ab:Bool} {col:Option Bool} {dd:Option Addr} {k0 k1 k2 k3 k5:Option Value} {Hi:String} {K:Frag}
end
section
variable{a:Expr}{fa:FE}
end
section
variable{a:Expr}{fa:FE}{k:Nat}
end
section
end
section
theorem t8(l:List α):∀(k:Nat) (acc:List α),List.foldl (fun x1 x2=>x1++x2) acc.toArray (List.replicate k l.toArray)=(acc++(List.replicate k l).flatten).toArray
 |0,acc=>by simp
 |k+1,acc=>by
  have e:acc.toArray++l.toArray=(acc++l).toArray:=by simp
  rw[b0,nP,e,t8 l k (acc++l),b0,cN,a8]
theorem Ng(l:List Nat)(n:Int):Txt.mul (tx l) n=tx (List.replicate n.toNat l).flatten:=by
 unfold Txt.mul
 by_cases h:n<1
 ·rw[av h,show n.toNat=0 by omega];rfl
 ·rw[az h]
  split
  ·rename_i hc
   rw[nQ,gJ,gJ,jc]at hc
   rcases hc with rfl|hc
   ·simp
   ·have:l=[]:=mO.mp hc
    subst this
    simp
  ·have:=t8 l n.toNat []
   rw[dk]at this
   show Str.mk _=Str.mk _
   congr 1
theorem IZ:l7 X (binaryOp .Mult) (fun x y H Q=>∃(l:List Nat) (k:Int),x=.str (tx l)/\y=.int k/\-(2^62)<=k/\k<2^62/\l.length*k.toNat<=1000000/\Q (.str (tx (List.replicate k.toNat l).flatten)) H):=by
 intro af s σ H x y v u Q I rx ry h
 obtain⟨l,k,rfl,rfl,h1,h2,h3,q⟩:=h
 obtain⟨t,rfl⟩:=rx
 obtain⟨t',rfl⟩:=ry
 refine SB.mul ⟨?_,?_,?_⟩ fun t2 tk=>⟨.str _,H,I.tok _,⟨t2,?_⟩,q⟩
 ·simp;omega
 ·intro hk hx
  rw[jc]
  intro hg
  have hk1:1<=k:=by omega
  have:k*((2^63-1)/k)<=2^63-1:=Int.mul_ediv_self_le (by omega)
  have h4:(2^63-1)<k*(l.length:Int):=by
   have:=Int.lt_mul_of_ediv_lt (a:=2^63-1) (b:=(l.length:Int)) (c:=k) (by omega) hg
   rw[q9];exact this
  have h5:k*(l.length:Int)=((l.length*k.toNat:Nat):Int):=by
   rw[cX,Int.toNat_of_nonneg (by omega),q9]
  rw[h5]at h4
  omega
 ·intro hk hx
  rw[jc]
  unfold Builtin.Str.tooLong
  rw[aH]
  have:(1000000:Nat)<=sizeLine:=by decide
  omega
 ·rw[Ng]
def fM:W->W->List al->R W
 |.int i,.int j,st=>if sK i j then .ok (.int (i*j)) st else .bad
 |.str l,.int k,st=>if -(2^62)<=k/\k<2^62/\l.length*k.toNat<=jx then .ok (.str (List.replicate k.toNat l).flatten) st else .bad
 |_,_,_=>.bad
theorem pZ:qo X (binaryOp .Mult) fM:=⟨fun af s σ H x y v u Q I rv ru ⟨μ,st,wx,wy,S,rx,ry,q⟩=>by
 cases wx with
 |int i=>
  cases wy with
  |int j=>
   have q':CY X μ H Q (Qr (.int i) (.int j) st):=q
   exact Qt.h af s σ H x y v u Q I rv ru ⟨μ,st,.int i,.int j,S,rx,ry,q'⟩
  |_=>exact q.elim
 |str l=>
  cases wy with
  |int k=>
   simp only[fM]at q
   split at q
   ·rename_i cc
    exact IZ af s σ H x y v u Q I rv ru ⟨l,k,rx.strE,ry.intE,cc.1,cc.2.1,cc.2.2,qp S q⟩
   ·exact q.elim
  |_=>exact q.elim
 |_=>cases wy<;>exact q.elim,fun x y st=>by
 unfold fM
 repeat' split
 all_goals trivial⟩
end
section
variable{fs:FA}
end
section
variable{w:World}
theorem t9:∀(l:List Nat) (vs:List Value),vs.length=l.length->(∀(j:Nat) (v:Value),vs[j]?=some v->∃c u,l[j]?=some c/\v=.str (tx [c]) u)->StrsAre vs (l.map fun c=>tx [c])
 |[],[],_,_=>.nil
 |c::l,v::vs,hl,h=>by
  obtain⟨d,u,e,rfl⟩:=h 0 v rfl
  cases e
  exact .cons _ _ (t9 l vs (Nat.succ.inj hl) fun j v hj=>h (j+1) v hj)
 |[],_::_,hl,_=>nomatch hl
 |_::_,[],hl,_=>nomatch hl
theorem yI{t:Tok}(R3:l.length<64)(hh:A.handled=none)
  (q:∀(s1:Shared) (g1:Heap) (out:Array Value) (ss:List Str) (e:Nat),(∀b o,s.heap.get? b=some o->s1.heap.get? b=some o)->s1.gens=s.gens->s1.drawn=s.drawn->s1.os=s.os->(∀b o,s1.heap.get? b=some o->g1.get? b=some o)->g1.get? s1.heap.objs.size=some (seqObj "list" out e) ->
   StrsAre out.toList ss->ss.Perm (l.map fun c=>tx [c])->sortedS ss=true->Q (.ref s1.heap.objs.size) { s1 with heap:=g1 }):wpAny (model prog w) A (call (.builtin "sorted") [.str (tx l) t]) Q E s:=by
 have hn:(tx l).cps.size=l.length:=by simp[tx]
 apply lK kind_sorted plain_sorted entry_sorted (args_sorted1 _)
 show wpAny _ _ (checkCount "sorted" 1 1 _ >>= _) _ _ _
 refine aa (ae (aa (wpAny_collect_str (by simpa using hh) _ _ (fun s1 acc kp eg ed eo ha=>?_) (by rw[j_];omega))))
 have uO:StrsAre acc.toList (l.map fun c=>tx [c]):=by
  refine t9 l _ (by rw[da,ha.1,hn]) fun j v hj=>?_
  obtain⟨c,u,hc,e⟩:=ha.2 j v (by simpa using hj)
  exact⟨c,u,by simpa[tx]using hc,e⟩
 have hvl:acc.toList.length<64:=by rw[da,ha.1,hn];exact R3
 refine aa (wpAny_newList ?_ (by rw[j_];omega))
 have oL:(s1.heap.push (seqObj "list" acc.toList.toArray 0)).get? s1.heap.objs.size=some (seqObj "list" acc.toList.toArray 0):=aq _ rfl
 refine aa (cx (bp slot_list_sort ⟨_,oL,rfl⟩ entry_list_sort (list_sort_treeK strKind_oneLt oL uO.keysOf (fun a b r e=>keyKind_strs (by rw[<- e];exact uO)) hvl fun st a1 a2=>⟨_,rfl,?_⟩) (args_list_sort _)))
 obtain⟨ss,h1,h2,h3⟩:=sorted_out_str uO a1 a2
 obtain⟨e,he⟩:=sortedHeap_at (out:=(arrOf st).map (·.2)) oL
 refine ae ⟨_,rfl,q s1 _ _ ss e kp eg ed eo (fun b o hb=>?_) he h1 h2 h3⟩
 rw[sortedHeap_old (aN (ax hb)) (by rw[bg];exact db (ax hb))]
 exact aj _ hb
end
section
def l9(ws:List W)(st:List al):R W:=match ws with
 |[.str l]=>if l.length<64 then .ok (.loc st.length) (st++[.lst ((iM (l.map fun c=>[c])).map W.str)])else .bad
 |[.loc n]=>oT [.loc n] st
 |_=>.bad
theorem BB(hc:X.calm=true:=by rfl):pF X (.builtin "sorted") l9:=⟨fun af s σ H vs us Q I rv ⟨μ,st,ws,S,r,q⟩=>by
 unfold l9 at q
 split at q
 ·rename_i l
  split at q
  ·rename_i c
   obtain⟨y,rfl,ry⟩:=r.one
   have:=ry.strE;subst this
   obtain⟨u,rfl,ru⟩:=pq rv
   obtain⟨t,rfl⟩:=ru
   refine yI c (I.ok.hd hc) fun s1 g1 out ss e kp eg ed eo k1 gL uO hp hsr=>?_
   have es:s1={ s with heap:=s1.heap,toks:=s1.toks }:=by cases s1;cases s;cases eg;cases ed;cases eo;rfl
   generalize s1.heap=g0,s1.toks=tk at es kp k1 gL ⊢
   subst es
   have I2:bE X af σ H { s with heap:=g0,toks:=tk }:=I.kept2 (d':=s.drawn) fun b o e=>kp b o e
   have sF:H g0.objs.size=none:=I2.hok.fresh (au _)
   have hmap:(ss.map fun z=>z.cps.toList).map tx=ss:=by
    rw[aM]
    have:(tx∘fun z:Str=>z.cps.toList)=id:=funext fun z=>Bi z
    rw[this,j']
   have hperm:(ss.map fun z=>z.cps.toList).Perm (l.map fun c=>[c]):=by
    have e:=hp.map fun z:Str=>z.cps.toList
    rw[aM]at e
    exact e
   have ez:(ss.map fun z=>z.cps.toList)=iM (l.map fun c=>[c]):=wH (t6 (by rw[hmap];exact hsr)) (yD _) (hperm.trans (ia _).symm)
   have hvals:cA ((iM (l.map fun c=>[c])).map fun l=>V.str (tx l)) out.toList:=by
    have e:=mY uO
    rw[<- hmap,ez,aM]at e
    exact e
   refine⟨.ref g0.objs.size,_,I2.laid (o:=.lst ((iM (l.map fun c=>[c])).map fun l=>V.str (tx l))) (t':=tk) k1 (au _) ⟨?_,out.toList,e,hvals,gL⟩,rfl,?_⟩
   ·rw[am,(ia _).length_eq,am]
    exact bd (dH c) (by decide)
   ·exact q (μ++[g0.objs.size]) _ _ (ag _ _) (fj.same (cn sF _)) (S.newLst sF (yE _)) (pV S)
  ·exact q.elim
 ·exact yF.h af s σ H _ us Q I rv ⟨μ,st,_,S,r,q⟩
 ·exact q.elim,fun ws st=>by
 unfold l9
 split
 ·split<;>trivial
 ·exact(yF (X:=X)).n _ _
 ·trivial⟩
end
section
variable{a b:Expr}{fs:FA}
end
theorem I0{pos:Pos}{g:TG}(fC:X.calm=true)
  (ef:scope.kind=.function) (hB:tP X.env.scope.names scope.names nm cap X.N=true)
  (hi:QI X tg b9 wi) (hg:∀cl C s0 H0 fp,QG (bV X nm scope cl C s0 H0 fp) tg g) (ht:∀cl C s0 H0 fp,Qc (bV X nm scope cl C s0 H0 fp) jb tc)
  (he:∀cl C s0 H0 fp,QE (bV X nm scope cl C s0 H0 fp) km te) (hs:∀x,foldedSetIterable b9 X.env x=pure x:=by intro _;rfl) :
  QE X (.ListComp km [⟨tg,b9,jb,0⟩] scope pos) (pw cap wi g tc te):=by
 refine⟨fun af s σ H Q I h=>?_⟩
 have F:=M0 (nm:=nm) (cap:=cap) (fun x z=>I.ok.has x (.inl z)) hB
 exact Bf fC F.clos F.cl ef F.nms F.cell F.has F.cp F.len hi.h (fun C s0 H0 fp=>(hg _ C s0 H0 fp).h) (fun C s0 H0 fp=>(ht _ C s0 H0 fp).h) (fun C s0 H0 fp=>(he _ C s0 H0 fp).h) hs af s σ H Q I h
section
variable{fi:FI}{f:FG}{t:FT}{el:FE}
theorem BC(hB:tP X.env.scope.names scope.names nm cap X.N=true)(hi:SI X tg b9 fi)(hg:∀cl C s0 H0 fp,SG (bV X nm scope cl C s0 H0 fp) tg f)(ht:∀cl C s0 H0 fp,HC (bV X nm scope cl C s0 H0 fp) jb t)
  (he:∀cl C s0 H0 fp,SE (bV X nm scope cl C s0 H0 fp) km el) (fC:X.calm=true:=by rfl) (ef:scope.kind=.function:=by rfl) (hs:∀x,foldedSetIterable b9 X.env x=pure x:=by intro _;rfl) :
  SE X (.ListComp km [⟨tg,b9,jb,0⟩] scope pos) (cY cap fi f t el):=
 ⟨(I0 fC ef hB ⟨hi.h⟩ (fun cl C s0 H0 fp=>QK (X:=X) rfl rfl (hg cl C s0 H0 fp)) (fun cl C s0 H0 fp=>QJ (X:=X) rfl rfl (ht cl C s0 H0 fp)) (fun cl C s0 H0 fp=>QH (X:=X) rfl rfl (he cl C s0 H0 fp)) hs).h.imp fun _ _ _ h=>wF h⟩
end
theorem bE.turnedL{s:Shared}{t':Nat}{ch:List Addr}(I:bE X af σ H s)(k:∀b o,b∉ch->s.heap.get? b=some o->h'.get? b=some o)
  (f:∀b∈ch,tF X af H b):bE X af σ H { s with heap:=h',toks:=t' }:=by
 have nit:∀b u,H b=some u->b∉ch:=fun b u q z=>by rw[(f b z).1]at q;cases q
 refine I.step (g':=s.gens) (d':=s.drawn) (ch:=ch) (fun b hb=>?_) (fun b o _ _ hc q _=>k b o hc q) (fun b o _ _ hc q _=>⟨o.slots,k b o hc q⟩) (fun _ _ _ _ n=>n)
  (fun b o hc q=>⟨o,k b o hc q⟩) (fun _ _ q=>q) (fun _ _ _ q=>q) (fun b ps q=>⟨#[],by rw[q];simp⟩) (fun m hm=>?_) (fun b u q=>?_) I.bare
 ·exact⟨(f b hb).2.2.2.1,(f b hb).2.1,(f b hb).2.2.2.2.1,(f b hb).2.2.2.2.2⟩
 ·obtain⟨o,es,ep,ho,r⟩:=hm
  exact⟨o,es,ep,k _ o (fun z=>(f _ z).2.1 rfl) ho,r⟩
 ·refine(I.hok b u q).stay (fun c v hc z=>?_) (fun _ z=>z) fun _ _ z=>z
  rcases hc with y|y
  ·rw[y]at z ⊢;exact k b v (nit b u q) z
  ·exact k c v (nit c _ y) z
section
variable{w:World}
variable{z P O i j:Addr}{xs ys:Array Value}{x y v:Value}
theorem I_(D:ZipApart z P O i j a b)(qz:IsZip s.heap z P O .none)(qP:IsPair s.heap P (.ref i) (.ref j))(qO:IsPair s.heap O u v)
  (q1:s.heap.IsTupleIter i a n) (q2:s.heap.IsTupleIter j b m) (ta:s.heap.IsTuple a xs) (tb:s.heap.IsTuple b ys) (hx:xs[n]?=some x) (hy:ys[m]?=some y)
  (hQ:∀g,IsZip g z P O (rawInt s.heap.objs.size)->IsPair g O x y->g.IsTupleIter i a (n+1)->g.IsTupleIter j b (m+1)->IsPair g s.heap.objs.size x y ->
   (∀c o,c≠z->c≠O->c≠i->c≠j->s.heap.get? c=some o->g.get? c=some o)->Q (.ref s.heap.objs.size) { s with heap:=g }) :
  wpAny (model prog w) A (Builtin.«zip.__next__» ⟨[.ref z],[]⟩) (fun lj s'=>∃v,lj=.done (.ret v)/\Q v s') E s:=by
 show wpAny _ _ (field (.ref z) 2 >>= _) _ _ _
 refine aa (bS qz rfl (x:=.bool false) rfl ?_)
 show wpAny _ _ (field (.ref z) 3 >>= _) _ _ _
 refine aa (bS qz rfl (x:=.ref P) rfl (aa (bB qP rfl ?_)))
 show wpAny _ _ (Builtin.SmallTypes.ownedTupleIsFree (.ref z) >>= _) _ _ _
 refine aa ?_;unfold Builtin.SmallTypes.ownedTupleIsFree
 refine aa (bS qz rfl (x:=.none) rfl (ae ?_));simp only[gF]
 refine aa (fK (aa (bS qz rfl (x:=.ref O) rfl ?_)))
 refine aa (bv qz (by simp) fun g1 z1 s1=>?_)
 replace z1:IsZip g1 z P O .ellipsis:=z1
 refine aa ?_
 simp only[jO,kA,fT,lA]
 refine aa (aa (eE ?_))
 show wpAny _ _ (Builtin.SmallTypes.nextOf (.ref i) >>= _) _ _ _
 refine aa (gU (q1.extBut s1.extBut D.i1z) (ta.extBut s1.extBut D.l1z) hx fun g2 k2 s2=>ae ?_)
 have O2:IsPair g2 O u v:=s2.extBut _ _ D.TOi1 (s1.extBut _ _ D.TOz qO)
 refine aa (bB O2 rfl (aa (kb O2 fun g3 O3 s3=>?_)))
 replace O3:IsPair g3 O x v:=O3
 refine aa (ip (ae (aa (aa (eE ?_)))))
 show wpAny _ _ (Builtin.SmallTypes.nextOf (.ref j) >>= _) _ _ _
 refine aa (gU (((q2.extBut s1.extBut D.i2z).extBut s2.extBut D.i12.symm).extBut s3.extBut D.TOi2.symm)
  (((tb.extBut s1.extBut D.l2z).extBut s2.extBut D.l2i1).extBut s3.extBut D.l2TO) hy fun g4 k4 s4=>ae ?_)
 have O4:IsPair g4 O x v:=s4.extBut _ _ D.TOi2 O3
 refine aa (bB O4 rfl (aa (kb O4 fun g5 O5 s5=>?_)))
 replace O5:IsPair g5 O x y:=O5
 refine aa (ip (ae (ae (aa (bB O5 rfl (aa (oN ?_)))))))
 have sz:g5.objs.size=s.heap.objs.size:=by rw[s5.1,s4.1,s3.1,s2.1,s1.1]
 have z5:IsZip g5 z P O .ellipsis:=s5.extBut _ _ D.TOz.symm (s4.extBut _ _ D.i2z.symm (s3.extBut _ _ D.TOz.symm (s2.extBut _ _ D.i1z.symm z1)))
 have kp:∀c o,c≠z->c≠O->c≠i->c≠j->s.heap.get? c=some o->g5.get? c=some o:=fun c o c1 c2 c3 c4 e=>
  s5.extBut _ _ c2 (s4.extBut _ _ c4 (s3.extBut _ _ c2 (s2.extBut _ _ c3 (s1.extBut _ _ c1 e))))
 have k5:g5.IsTupleIter i a (n+1):=((k2.extBut s3.extBut D.TOi1.symm).extBut s4.extBut D.i12).extBut s5.extBut D.TOi1.symm
 have l5:g5.IsTupleIter j b (m+1):=k4.extBut s5.extBut D.TOi2.symm
 have zlt:z<g5.objs.size:=ax z5
 show wpAny _ _ (Builtin.SmallTypes.ownedTupleHandOut (.ref z) (.ref g5.objs.size) >>= _) _ _ _
 refine aa ?_;unfold Builtin.SmallTypes.ownedTupleHandOut
 have z6:IsZip (g5.push { cls:=.type "tuple",data:=.seq #[x,y] }) z P O .ellipsis:=aj _ z5
 refine aa (bv z6 (by simp) fun g7 z7 s7=>?_)
 replace z7:IsZip g7 z P O (rawInt g5.objs.size):=z7
 refine bv z7 (by simp) fun g8 z8 s8=>?_
 replace z8:IsZip g8 z P O (rawInt g5.objs.size):=z8
 have up:∀c o,c≠z->g5.get? c=some o->g8.get? c=some o:=fun c o c1 e=>s8.extBut _ _ c1 (s7.extBut _ _ c1 (aj _ e))
 have T8:IsPair g8 g5.objs.size x y:=s8.extBut _ _ (eB zlt) (s7.extBut _ _ (eB zlt) (aq _ rfl))
 rw[sz]at z8 T8
 refine ae ⟨_,rfl,?_⟩
 show Q (.ref g5.objs.size) _
 rw[sz]
 exact hQ g8 z8 (up _ _ D.TOz O5) (k5.at fun o e=>up _ o D.i1z e) (l5.at fun o e=>up _ o D.i2z e) T8 fun c o c1 c2 c3 c4 e=>up c o c1 (kp c o c1 c2 c3 c4 e)
theorem Nh{Q:Fin->Shared->Prop}(hh:A.handled=none)(D:ZipApart z P O i j a b)(qz:IsZip s.heap z P O .none)(qP:IsPair s.heap P (.ref i) (.ref j))(qO:IsPair s.heap O u v)
  (q1:s.heap.IsTupleIter i a n) (q2:s.heap.IsTupleIter j b m) (ta:s.heap.IsTuple a xs) (tb:s.heap.IsTuple b ys) (he:xs[n]?=none\/ys[m]?=none)
  (hE:∀g e,(∀c o,c≠z->c≠O->c≠i->c≠j->s.heap.get? c=some o->g.get? c=some o)->(∃o,g.get? e=some o/\o.cls=.type "StopIteration")->E (.ref e) { s with heap:=g }) :
  wpAny (model prog w) A (Builtin.«zip.__next__» ⟨[.ref z],[]⟩) Q E s:=by
 show wpAny _ _ (field (.ref z) 2 >>= _) _ _ _
 refine aa (bS qz rfl (x:=.bool false) rfl ?_)
 show wpAny _ _ (field (.ref z) 3 >>= _) _ _ _
 refine aa (bS qz rfl (x:=.ref P) rfl (aa (bB qP rfl ?_)))
 show wpAny _ _ (Builtin.SmallTypes.ownedTupleIsFree (.ref z) >>= _) _ _ _
 refine aa ?_;unfold Builtin.SmallTypes.ownedTupleIsFree
 refine aa (bS qz rfl (x:=.none) rfl (ae ?_));simp only[gF]
 refine aa (fK (aa (bS qz rfl (x:=.ref O) rfl ?_)))
 refine aa (bv qz (by simp) fun g1 z1 s1=>?_)
 replace z1:IsZip g1 z P O .ellipsis:=z1
 refine aa ?_
 simp only[jO,kA,fT,lA]
 refine aa (aa (eE ?_))
 show wpAny _ _ (Builtin.SmallTypes.nextOf (.ref i) >>= _) _ _ _
 cases hx:xs[n]? with
 |none=>
  refine aa (kH hh (q1.extBut s1.extBut D.i1z) (ta.extBut s1.extBut D.l1z) hx fun g2 e s2 ye=>?_)
  obtain⟨oe,h1,h2⟩:=ye
  have z2:IsZip g2 z P O .ellipsis:=s2 _ _ D.i1z.symm z1
  have nez:e≠z:=fun q=>by subst q;rw[z2]at h1;cases h1;simp at h2
  exact bv z2 (by simp) fun g3 _ s3=>hE g3 e (fun c o c1 _ c3 _ q=>s3.extBut _ _ c1 (s2 _ _ c3 (s1.extBut _ _ c1 q))) ⟨oe,s3.extBut _ _ nez h1,h2⟩
 |some x=>
  have hy:ys[m]?=none:=by rcases he with h|h;rw[hx]at h;cases h;exact h
  refine aa (gU (q1.extBut s1.extBut D.i1z) (ta.extBut s1.extBut D.l1z) hx fun g2 k2 s2=>ae ?_)
  have O2:IsPair g2 O u v:=s2.extBut _ _ D.TOi1 (s1.extBut _ _ D.TOz qO)
  refine aa (bB O2 rfl (aa (kb O2 fun g3 O3 s3=>?_)))
  refine aa (ip (ae (aa (aa (eE ?_)))))
  show wpAny _ _ (Builtin.SmallTypes.nextOf (.ref j) >>= _) _ _ _
  refine aa (kH hh (((q2.extBut s1.extBut D.i2z).extBut s2.extBut D.i12.symm).extBut s3.extBut D.TOi2.symm)
   (((tb.extBut s1.extBut D.l2z).extBut s2.extBut D.l2i1).extBut s3.extBut D.l2TO) hy fun g4 e s4 ye=>?_)
  obtain⟨oe,h1,h2⟩:=ye
  have z4:IsZip g4 z P O .ellipsis:=s4 _ _ D.i2z.symm (s3.extBut _ _ D.TOz.symm (s2.extBut _ _ D.i1z.symm z1))
  have nez:e≠z:=fun q=>by subst q;rw[z4]at h1;cases h1;simp at h2
  exact bv z4 (by simp) fun g5 _ s5=>hE g5 e (fun c o c1 c2 c3 c4 q=>s5.extBut _ _ c1 (s4 _ _ c4 (s3.extBut _ _ c2 (s2.extBut _ _ c3 (s1.extBut _ _ c1 q))))) ⟨oe,s5.extBut _ _ nez h1,h2⟩
theorem Ja{Q:Option Value->Shared->Prop}(D:ZipApart z P O i j a b)(qz:IsZip s.heap z P O .none)(qP:IsPair s.heap P (.ref i) (.ref j))(qO:IsPair s.heap O u v)
  (q1:s.heap.IsTupleIter i a n) (q2:s.heap.IsTupleIter j b m) (ta:s.heap.IsTuple a xs) (tb:s.heap.IsTuple b ys) (hx:xs[n]?=some x) (hy:ys[m]?=some y)
  (hQ:∀g,IsZip g z P O (rawInt s.heap.objs.size)->IsPair g O x y->g.IsTupleIter i a (n+1)->g.IsTupleIter j b (m+1)->IsPair g s.heap.objs.size x y ->
   (∀c o,c≠z->c≠O->c≠i->c≠j->s.heap.get? c=some o->g.get? c=some o)->Q (some (.ref s.heap.objs.size)) { s with heap:=g }) :
  wpAny (model prog w) A (pyNext (.ref z)) Q E s:=by
 have T:s.TypeIs (.ref z) "zip":=⟨_,qz,rfl⟩
 unfold pyNext
 exact aa (fD (bt (name:=Str.ofString "__next__") T eU (bp eU T jP
   (I_ D qz qP qO q1 q2 ta tb hx hy fun g a1 a2 a3 a4 a5 a6=>ae (hQ g a1 a2 a3 a4 a5 a6)) (jv _))))
theorem Jb{Q:Option Value->Shared->Prop}(hh:A.handled=none)(D:ZipApart z P O i j a b)(qz:IsZip s.heap z P O .none)(qP:IsPair s.heap P (.ref i) (.ref j))(qO:IsPair s.heap O u v)
  (q1:s.heap.IsTupleIter i a n) (q2:s.heap.IsTupleIter j b m) (ta:s.heap.IsTuple a xs) (tb:s.heap.IsTuple b ys) (he:xs[n]?=none\/ys[m]?=none)
  (hQ:∀g,(∀c o,c≠z->c≠O->c≠i->c≠j->s.heap.get? c=some o->g.get? c=some o)->Q none { s with heap:=g }):wpAny (model prog w) A (pyNext (.ref z)) Q E s:=by
 have T:s.TypeIs (.ref z) "zip":=⟨_,qz,rfl⟩
 unfold pyNext
 refine aa (fD (bt (name:=Str.ofString "__next__") T eU (bp eU T jP (Nh hh D qz qP qO q1 q2 ta tb he fun g e hk ye=>?_) (jv _))))
 obtain⟨o,ho,hc⟩:=ye
 exact aa (dB (T:="StopIteration") (b:=true) ⟨o,ho,hc⟩ jr (ae (hQ _ hk)))
end
open AutoSeq1 (wpAny_loadPart')
abbrev SH(h:Heap)(a:Addr):Heap:=h.push (oQ a)
abbrev SJ(h:Heap)(a b:Addr):Heap:=(SH h a).push (oQ b)
abbrev SL(h:Heap)(a b:Addr):Heap:=(SJ h a b).push { cls:=.type "tuple",data:=.seq #[.ref h.objs.size,.ref (SH h a).objs.size] }
abbrev SM(h:Heap)(a b:Addr):Heap:=(SL h a b).push { cls:=.type "tuple",data:=.seq #[.none,.none] }
abbrev Pd(h:Heap)(a b:Addr):Heap:=(SM h a b).push { cls:=.type "zip",data:=.fields #[.none,.bool false,.bool false,.ref (SJ h a b).objs.size,.ref (SL h a b).objs.size] }
theorem Ni     (a b : Addr) (xs ys : Array Value) : Meets (Builtin.«zip.__new__» ⟨[.type "zip", .ref a, .ref b], []⟩) (fun _ R s => s.heap.IsTuple a xs /\ s.heap.IsTuple b ys /\
      R (.ok (.ret (.ref (SM  s.heap a b).objs.size))) { s with heap := Pd  s.heap a b }) :=
  .of_wp fun prog w A R s h => by
    obtain ⟨hp, g, d, tk, os⟩ := s
    obtain ⟨ha, hb, h⟩ := h
    have sb := sub_zip
    have hA : Heap.IsTuple (Shared.heap ⟨hp, g, d, tk, os⟩) a xs := ha
    have hB : Heap.IsTuple (Shared.heap ⟨hp.push (oQ      a), g, d, tk, os⟩) b ys := hb.at fun o e => aj                     _ e
    wp_walk using fH                 hA, fH                 hB
    exact ⟨_, rfl, h⟩
section
variable{w:World}
theorem Jc{xs ys:Array Value}(ha:s.heap.IsTuple a xs)(hb:s.heap.IsTuple b ys)
  (q:∀g,IsZip g (s.heap.objs.size+4) (s.heap.objs.size+2) (s.heap.objs.size+3) .none->IsPair g (s.heap.objs.size+2) (.ref s.heap.objs.size) (.ref (s.heap.objs.size+1)) ->
   IsPair g (s.heap.objs.size+3) .none .none->g.IsTupleIter s.heap.objs.size a 0->g.IsTupleIter (s.heap.objs.size+1) b 0->(∀c o,s.heap.get? c=some o->g.get? c=some o)->Q (.ref (s.heap.objs.size+4)) { s with heap:=g }) :
  wpAny (model prog w) A (call (.type "zip") [.ref a,.ref b]) Q E s:=by
 refine callType_new F.called_zip (by decide) (F.typeCall_zip_2 _ _) (F.newCall_zip_2 _ _) (fun ob=>F.args_object_init_3 ob _ _) F.entry_zip_new (Ni a b xs ys) ⟨ha,hb,?_⟩
 have n1:(SH s.heap a).objs.size=s.heap.objs.size+1:=bg ..
 have n2:(SJ s.heap a b).objs.size=s.heap.objs.size+2:=by rw[bg,n1]
 have n3:(SL s.heap a b).objs.size=s.heap.objs.size+3:=by rw[bg,n2]
 have n4:(SM s.heap a b).objs.size=s.heap.objs.size+4:=by rw[bg,n3]
 have p:∀{h:Heap} {c:Addr} {o u:Obj},h.get? c=some o->(h.push u).get? c=some o:=fun e=>aj _ e
 have g5:(Pd s.heap a b).get? (SM s.heap a b).objs.size=some _:=aq _ rfl
 have g4:(Pd s.heap a b).get? (SL s.heap a b).objs.size=some _:=p (aq _ rfl)
 have g3:(Pd s.heap a b).get? (SJ s.heap a b).objs.size=some _:=p (p (aq _ rfl))
 have g2:(Pd s.heap a b).get? (SH s.heap a).objs.size=some _:=p (p (p (aq _ rfl)))
 have g1:(Pd s.heap a b).get? s.heap.objs.size=some _:=p (p (p (p (aq _ rfl))))
 show _/\_
 rw[n2,n3,n4]at g5
 rw[n1,n2]at g3
 rw[n3]at g4
 rw[n1]at g2
 rw[n4]
 exact⟨⟨_,g5,rfl⟩,q _ g5 g3 g4 ⟨_,g1,rfl,rfl⟩ ⟨_,g2,rfl,rfl⟩ fun c o e=>p (p (p (p (p e))))⟩
end
def Us(K:Frag)(a b:Addr):It:=
  ⟨fun i H=>∃xs ys x y,fj K H a xs/\fj K H b ys/\xs[i]?=some x/\ys[i]?=some y,
   fun i H v H'=>∃p,H p=none/\v=.ref p/\∀xs ys x y,fj K H a xs->fj K H b ys->xs[i]?=some x->ys[i]?=some y->H'=eJ H p (.tup [x,y]),
   fun i H=>∃xs ys,fj K H a xs/\fj K H b ys/\(xs.length<=i\/ys.length<=i)⟩
theorem Jd{w:World}{z T O i j:Addr}(D:ZipApart z T O i j a b) :
  we P w K (.Tuple oM kk pos) (Us K a b) [z,T,O,i,j] z (fun k h=>IsZip h z T O .none/\IsPair h T (.ref i) (.ref j)/\(∃u v,IsPair h O u v)/\h.IsTupleIter i a k/\h.IsTupleIter j b k) where
 mem:=by simp
 obj:=fun k h st c hc=>by
  obtain⟨h1,h2,⟨u,v,h3⟩,⟨o4,e4,_,d4⟩,⟨o5,e5,_,d5⟩⟩:=st
  have q:c=z\/c=T\/c=O\/c=i\/c=j:=by simpa using hc
  rcases q with rfl|rfl|rfl|rfl|rfl
  ·exact⟨_,h1,fun v q=>by cases q⟩
  ·exact⟨_,h2,fun v q=>by cases q⟩
  ·exact⟨_,h3,fun v q=>by cases q⟩
  ·exact⟨_,e4,fun v q=>by rw[d4]at q;cases q⟩
  ·exact⟨_,e5,fun v q=>by rw[d5]at q;cases q⟩
 keep:=fun k h h' st kp=>by
  obtain⟨h1,h2,⟨u,v,h3⟩,h4,h5⟩:=st
  exact⟨kp z (by simp) _ h1,kp T (by simp) _ h2,⟨u,v,kp O (by simp) _ h3⟩,h4.at fun o e=>kp i (by simp) o e,h5.at fun o e=>kp j (by simp) o e⟩
 item:=by
  intro X hP hw hK hc k af s σ H E I hf st hg
  subst hP hw hK
  obtain⟨xs,ys,x,y,hq,hr,hx,hy⟩:=hg
  obtain⟨its,rv,p1,_⟩:=I.tuple hq
  obtain⟨jts,jW,p2,_⟩:=I.tuple hr
  obtain⟨u,hu,ru⟩:=rv.get hx
  obtain⟨v,hv,rv'⟩:=jW.get hy
  obtain⟨h1,h2,⟨c1,c2,h3⟩,h4,h5⟩:=st
  refine Ja D h1 h2 h3 h4 h5 (show s.heap.IsTuple a its.toArray from p1) (show s.heap.IsTuple b jts.toArray from p2) (x:=u) (y:=v) (by simpa using hu) (by simpa using hv) fun g a1 a2 a3 a4 a5 kp=>⟨_,rfl,?_⟩
  refine iG a1 fun g2 b1 s2=>?_
  have sF:H s.heap.objs.size=none:=I.hok.fresh (au _)
  have I1:bE X af σ (eJ H s.heap.objs.size (.tup [x,y])) { s with heap:=s.heap.push { cls:=.type "tuple",data:=.seq #[u,v] },toks:=s.toks }:=I.laid (fun c o q=>aj _ q) (au _)
   ⟨by show 2<=sizeLine;decide,[u,v],.cons ru (.cons rv' .nil),⟨_,aq _ rfl,rfl,_,rfl⟩⟩
  have lt:∀{c o},s.heap.get? c=some o->c≠s.heap.objs.size:=fun e=>aN (ax e)
  have nf:∀c∈[z,T,O,i,j],c≠s.heap.objs.size:=fun c hb=>by
   have q:c=z\/c=T\/c=O\/c=i\/c=j:=by simpa using hb
   rcases q with rfl|rfl|rfl|rfl|rfl
   ·exact lt h1
   ·exact lt h2
   ·exact lt h3
   ·obtain⟨_,e,_⟩:=h4;exact lt e
   ·obtain⟨_,e,_⟩:=h5;exact lt e
  have fp:∀c∈[z,T,O,i,j],tF X af (eJ H s.heap.objs.size (.tup [x,y])) c:=fun c hb=>by
   obtain⟨f0,f⟩:=hf c hb
   exact⟨by rw[bY (nf c hb)];exact f0,f⟩
  have I2:bE X af σ (eJ H s.heap.objs.size (.tup [x,y])) { s with heap:=g2,toks:=s.toks }:=bE.turnedL (s:={ s with heap:=s.heap.push { cls:=.type "tuple",data:=.seq #[u,v] },toks:=s.toks }) (ch:=[z,O,i,j]) (t':=s.toks) I1 (fun c o hb q=>?_) fun c hb=>fp c (by
   have q:c=z\/c=O\/c=i\/c=j:=by simpa using hb
   rcases q with rfl|rfl|rfl|rfl<;>simp)
  ·refine⟨.ref s.heap.objs.size,_,I2,rfl,⟨_,sF,rfl,fun xs' OW x' y' e1 e2 e3 e4=>?_⟩,⟨b1,s2.extBut _ _ D.TIz (kp _ _ D.TIz D.TITO D.TIi1 D.TIi2 h2),⟨_,_,s2.extBut _ _ D.TOz a2⟩,a3.extBut s2.extBut D.i1z,a4.extBut s2.extBut D.i2z⟩,fun c hb=>(fp c hb).1⟩
   have q1:=I.tuple_inj e1 hq
   have q2:=I.tuple_inj e2 hr
   subst q1 q2
   rw[hx]at e3;rw[hy]at e4;cases e3;cases e4;rfl
  ·have q':(s.heap.push { cls:=.type "tuple",data:=.seq #[u,v] }).get? c=some o:=q
   have hn:c≠z/\c≠O/\c≠i/\c≠j:=by simpa using hb
   refine s2.extBut c o hn.1 ?_
   by_cases hb':c=s.heap.objs.size
   ·subst hb'
    have e1:=aq s.heap (o:={ cls:=.type "tuple",data:=.seq #[u,v] }) rfl
    rw[e1]at q';cases q'
    exact a5
   ·rw[lZ _ _ _ hb']at q'
    exact kp c o hn.1 hn.2.1 hn.2.2.1 hn.2.2.2 q'
 done:=by
  intro X hP hw hK hc k af s σ H E I hf st hg
  subst hP hw hK
  obtain⟨xs,ys,hq,hr,he⟩:=hg
  obtain⟨its,rv,p1,_⟩:=I.tuple hq
  obtain⟨jts,jW,p2,_⟩:=I.tuple hr
  obtain⟨h1,h2,⟨c1,c2,h3⟩,h4,h5⟩:=st
  have l1:=rv.length
  have l2:=jW.length
  refine Jb (I.ok.hd hc) D h1 h2 h3 h4 h5 (show s.heap.IsTuple a its.toArray from p1) (show s.heap.IsTuple b jts.toArray from p2) (by
   rcases he with q|q
   ·exact .inl (by simp;omega)
   ·exact .inr (by simp;omega)) fun g kp=>⟨rfl,?_⟩
  exact I.turnedL (ch:=[z,O,i,j]) (t':=s.toks) (fun c o hb q=>by
   have hn:c≠z/\c≠O/\c≠i/\c≠j:=by simpa using hb
   exact kp c o hn.1 hn.2.1 hn.2.2.1 hn.2.2.2 q) fun c hb=>hf c (by
   have q:c=z\/c=O\/c=i\/c=j:=by simpa using hb
   rcases q with rfl|rfl|rfl|rfl<;>simp)
 self:=fun A k s Q E st h=>gq st.1 h
def TU(K:Frag)(ta:TA):TI:=fun σ H R=>ta σ H fun vs H1=>∃a b,vs=[.ref a,.ref b]/\(∃xs,fj K H1 a xs)/\(∃ys,fj K H1 b ys)/\R (Us K a b) H1
theorem Je{a b:Expr}{ta:TA}{p pos tp:Pos}{oM:List Expr}{kk:Nat}(hm:X.mg "zip"=none)(ha:QA X [a,b] ta)(hg:Gl X "zip":=by rfl)(hs:starEach [a,b] X.env=(false,eval a X.env)::starEach [b] X.env:=by rfl)
  (oZ:(backTo pos (starEach [b] X.env)).any (·.1)=false:=by rfl):QI X (.Tuple oM kk tp) (.Call (.Name "zip" p) [a,b] [] pos) (TU X.K ta):=⟨by
 intro af s σ H R I h
 refine Call_ (mV I hg hm boot_zip (cM (hW (ha.h pos af s σ H _ I h) fun us s1 ⟨vs,H1,I1,r1,q1⟩=>?_) hs oZ))
 obtain⟨t,t',e,⟨xs,hq⟩,⟨ys,hr⟩,q⟩:=q1
 subst e
 cases r1 with
 |cons x1 r1=>cases r1 with
  |cons x2 r1=>
   cases r1
   cases x1
   cases x2
   obtain⟨its,rv,p1,_⟩:=I1.tuple hq
   obtain⟨jts,jW,p2,_⟩:=I1.tuple hr
   have lt1:t<s1.heap.objs.size:=by obtain⟨_,e,_⟩:=(show s1.heap.IsTuple t its.toArray from p1);exact ax e
   have lt2:t'<s1.heap.objs.size:=by obtain⟨_,e,_⟩:=(show s1.heap.IsTuple t' jts.toArray from p2);exact ax e
   refine Jc (show s1.heap.IsTuple t its.toArray from p1) (show s1.heap.IsTuple t' jts.toArray from p2) fun g e1 e2 e3 e4 e5 kp=>?_
   refine gq e1 ?_
   refine⟨s1.heap.objs.size+4,[s1.heap.objs.size+4,s1.heap.objs.size+2,s1.heap.objs.size+3,s1.heap.objs.size,s1.heap.objs.size+1],_,_,H1,rfl,I1.kept (t':=s1.toks) kp,Jd (zipApart_new lt1 lt2),⟨e1,e2,⟨_,_,e3⟩,e4,e5⟩,fun c hb=>?_,q⟩
   have hc:s1.heap.objs.size<=c:=by
    have z:c=s1.heap.objs.size+4\/c=s1.heap.objs.size+2\/c=s1.heap.objs.size+3\/c=s1.heap.objs.size\/c=s1.heap.objs.size+1:=by simpa using hb
    rcases z with rfl|rfl|rfl|rfl|rfl<;>simp
   exact I1.fpOk hc (I1.hok.fresh hc)⟩
def kY:List W->List W->List W
 |x::xs,y::ys=>.tup [x,y]::kY xs ys
 |_,_=>[]
theorem kZ:∀{xs ys:List W} {i:Nat} {w:W},(kY xs ys)[i]?=some w->∃x y,xs[i]?=some x/\ys[i]?=some y/\w=.tup [x,y]
 |x::xs,y::ys,0,w,h=>by simp[kY]at h;exact⟨x,y,rfl,rfl,h.symm⟩
 |x::xs,y::ys,i+1,w,h=>by simp[kY]at h;simpa using kZ h
 |[],_,i,w,h=>by simp[kY]at h
 |_::_,[],i,w,h=>by simp[kY]at h
theorem mz:∀(xs ys:List W),(kY xs ys).length=min xs.length ys.length
 |x::xs,y::ys=>by simp[kY,mz xs ys]
 |[],_=>by simp[kY]
 |_::_,[]=>by simp[kY]
section
variable{a b:Expr}{fs:FA}
def p7(fs:FA):FI:=fun ρ st=>(fs ρ st).bind fun ws st=>match ws with
 |[.tup xs,.tup ys]=>.ok (kY xs ys,none) st
 |_=>.bad
theorem Jf{oM:List Expr}{kk:Nat}{tp:Pos}(hm:X.mg "zip"=none)(ha:SA X [a,b] fs)(hg:Gl X "zip":=by rfl)(hs:starEach [a,b] X.env=(false,eval a X.env)::starEach [b] X.env:=by rfl)(mI:(backTo pos (starEach [b] X.env)).any (·.1)=false:=by rfl) :
  SI X (.Tuple oM kk tp) (.Call (.Name "zip" p) [a,b] [] pos) (p7 fs):=⟨(Je hm ⟨ha.h⟩ hg hs mI).h.imp fun σ H R h=>by
 obtain⟨μ,ρ,st,l,h⟩:=h
 refine⟨μ,ρ,st,l,RK.bind h l fun μ1 st1 x v H1 p1 x1 l1 q1 h1=>?_⟩
 split at h1
 ·rename_i zs ws
  obtain⟨y,ys,rfl,ry,r1⟩:=q1.consE
  obtain⟨w,rfl,jW⟩:=r1.one
  obtain⟨t,vs,rfl,hS,r⟩:=ry.tupE
  obtain⟨t',uW,rfl,hS',r'⟩:=jW.tupE
  refine⟨t,t',rfl,⟨vs,hS⟩,⟨uW,hS'⟩,h1 μ1 _ H1 (ac _) dg.refl l1.sto fun i μ' bD H' pp xx S _=>⟨fun w hw=>?_,fun hl=>⟨vs,uW,xx _ _ hS,xx _ _ hS',by rw[mz]at hl;rw[<- r.len,<- r'.len];omega⟩⟩⟩
  obtain⟨x,y,hx,hy,rfl⟩:=kZ hw
  have m1:=r.mono pp xx
  have m2:=r'.mono pp xx
  obtain⟨v1,g1,g2⟩:=m1.get hx
  obtain⟨v2,g3,g4⟩:=m2.get hy
  refine⟨⟨vs,uW,v1,v2,xx _ _ hS,xx _ _ hS',g1,g3⟩,fun z H'' hz=>?_⟩
  obtain⟨q,hq,rfl,hH⟩:=hz
  have e:=hH vs uW v1 v2 (xx _ _ hS) (xx _ _ hS') g1 g3
  subst e
  have ex:=fj.same (K:=X.K) (cn hq (.tup [v1,v2]))
  exact⟨ex,S.same (cn hq _),.tupI fj.new (.consI (g2.mono (ac _) ex) (.consI (g4.mono (ac _) ex) .nilI))⟩
 ·exact h1.elim⟩
end
open Builtin.Str (tooLong)
section
variable{w:World}
end
section
end
section
def nL:List W->Option (List Int)
 |[]=>some []
 |.int z::ws=>(nL ws).map (z :: ·)
 |_=>none
end
section
theorem RelWs.rep{a:List W}(r:RelWs K μ H a vs):∀k:Nat,RelWs K μ H (List.replicate k a).flatten (List.replicate k vs).flatten
 |0=>.nilI
 |k+1=>by rw[b0,b0,cN,cN];exact r.app (RelWs.rep r k)
def yJ:W->W->List al->R W
 |.int i,.int j,st=>fM (.int i) (.int j) st
 |.str l,.int k,st=>fM (.str l) (.int k) st
 |.loc n,.int k,st=>(match st[n]? with
  |some (.lst ws)=>if -(2^63)<=k/\k<2^63/\ws.length*k.toNat<=jx then jf (List.replicate k.toNat ws).flatten st else .bad
  |_=>.bad)
 |_,_,_=>.bad
theorem Fe:qo X (binaryOp .Mult) yJ:=⟨fun af s σ H x y v u Q I rv ru ⟨μ,st,wx,wy,S,rx,ry,q⟩=>by
 cases wx with
 |int i=>
  cases wy with
  |int j=>exact pZ.h af s σ H x y v u Q I rv ru ⟨μ,st,.int i,.int j,S,rx,ry,q⟩
  |_=>exact q.elim
 |str l=>
  cases wy with
  |int k=>exact pZ.h af s σ H x y v u Q I rv ru ⟨μ,st,.str l,.int k,S,rx,ry,q⟩
  |_=>exact q.elim
 |loc n=>
  cases wy with
  |int k=>
   simp only[yJ]at q
   cases e1:st[n]? with
   |none=>rw[e1]at q;exact q.elim
   |some c1=>
    cases c1 with
    |lst a=>
     rw[e1]at q
     dsimp only at q
     split at q
     ·rename_i cc
      obtain⟨a1,g1,vs1,k1,r1⟩:=S.get e1
      obtain⟨b1,f1,rfl⟩:=rx.locE
      rw[g1]at f1;cases f1
      obtain⟨hz,qq⟩:=mw (σ:=σ) S (r1.rep k.toNat) (EU q)
      exact MT af s σ H _ _ v u Q I rv ru ⟨a1,k,vs1,rfl,ry.intE,k1,cc.1,cc.2.1,by rw[<- r1.len];exact iX cc.2.2,fun p hp=>qq p _ hp rfl⟩
     ·exact q.elim
    |_=>rw[e1]at q;exact q.elim
  |_=>exact q.elim
 |_=>cases wy<;>exact q.elim,fun x y st=>by
 unfold yJ
 split
 ·exact(pZ (X:=X)).n _ _ _
 ·exact(pZ (X:=X)).n _ _ _
 ·split
  ·split
   ·exact Bq _ _
   ·trivial
  ·trivial
 ·trivial⟩
theorem Dg(l:List α):(sliceRange ((l.length:Int)-1) (-1) (-1)).filterMap (fun j=>l[j]?)=l.reverse:=by
 unfold sliceRange
 have h1:¬ ((-1:Int)>0):=by decide
 simp only[h1,eL]
 have e:(if (l.length:Int)-1 > -1 then((l.length:Int)-1 - -1 - -1-1)/(- -1)else 0).toNat=l.length:=by
  by_cases h:(l.length:Int)-1 > -1
  ·rw[av h];simp
  ·rw[az h];omega
 rw[e]
 have mp:∀k:Nat,k<=l.length->((List.range k).map fun(k:Nat)=>((l.length:Int)-1+-1*(k:Int)).toNat).filterMap (fun j=>l[j]?)=l.reverse.take k:=by
  intro k
  induction k with
  |zero=>intro _;simp
  |succ k ih=>
   intro hk
   rw[eS,bG,nY,ih (by omega),List.map_singleton]
   have e2:((l.length:Int)-1+-1*(k:Int)).toNat=l.length-1-k:=by omega
   rw[e2,dO]
   have hlt:l.length-1-k<l.length:=by omega
   rw[ar hlt,List.filterMap_nil,List.take_succ,jC (by omega),ar hlt]
   rfl
 rw[mp l.length (au _),fy (by simp)]
theorem Ff(its:List Value):slicePick its.toArray none none (some (-1))=its.reverse.toArray:=by
 have h:=Dg its
 unfold slicePick
 congr 1
 rw[<- h]
 have:∀j:Nat,(its.toArray)[j]?=its[j]?:=fun j=>by simp
 simp only[this]
 show(sliceRange ((its.toArray.size:Int)-1) (-1) (-1)).filterMap _=_
 simp
theorem cA.rev:∀{xs:List V} {us:List Value},cA xs us->cA xs.reverse us.reverse
 |_,_,.nil=>.nil
 |_,_,.cons r t=>by rw[hV,hV];exact cA.append (cA.rev t) (.cons r .nil)
def QQ(K:Frag)(te:TE):TE:=fun σ H Q=>te σ H fun x H1=>∃a xs,x=.ref a/\nG K H1 a xs/\∀p,H1 p=none->Q (.ref p) (eJ H1 p (.lst xs.reverse))
theorem Jg{p3:Pos}{p4:Pos}(he:PE X e te):PE X (.Subscript e (.Slice none none (some (.UnaryOp .USub (.Constant (.int 1) j p4) p3)) p2) pos) (QQ X.K te):=by
 intro af s σ H Q I h
 refine nv (hW (he af s σ H _ I h) fun v s1 ⟨x,H1,I1,r1,q1⟩=>?_)
 obtain⟨a,xs,e,hS,q⟩:=q1
 subst e
 cases r1
 obtain⟨its,r,ht,hz⟩:=I1.list hS
 have c_:=r.length
 refine wpAny_Slice ?_
 rw[mi]
 refine ae (ae ?_)
 show wpAny (model X.prog X.w) X.A (eval (.UnaryOp .USub (.Constant (.int 1) j p4) p3) X.env) _ _ s1
 refine UnaryOp_ (lq (neg_int ?_))
 dsimp only
 have hl:(s1.heap.push { cls:=.type "slice",data:=.fields #[.none,.none,.int (-1) (s1.toks+1)] }).IsList a its.toArray:=ht.isList.push _
 refine tail_any (ops:=[.ref a,.ref s1.heap.objs.size]) hl.typeIs slot_list_getitem.lookup ?_ (by with_unfolding_all rfl)
 refine mj (vl:=.none) (vu:=.none) (vs:=.int (-1) (s1.toks+1)) hl ⟨_,aq _ rfl,rfl,rfl⟩ .none .none (.int _ _) (by simp) ?_ (by rw[aO]<;>omega)
 rw[Ff]
 have I4:bE X af σ H1 { s1 with heap:=s1.heap.push { cls:=.type "slice",data:=.fields #[.none,.none,.int (-1) (s1.toks+1)] },toks:=s1.toks+1+1 }:=I1.kept fun b o q=>aj _ q
 refine⟨.ref _,_,I4.laid (o:=.lst xs.reverse) (t':=s1.toks+1+1) (fun b ob q=>aj _ q) (au _) ?_,rfl,q _ (I4.hok.fresh (au _))⟩
 exact⟨by rw[eZ];exact hz,_,0,r.rev,aq _ rfl⟩
theorem RelWs.rev:∀{a:List W} {vs:List V},RelWs K μ H a vs->RelWs K μ H a.reverse vs.reverse
 |[],vs,r=>by rw[r.nilE];exact .nilI
 |x::xs,vs,r=>by
  obtain⟨y,ys,rfl,r1,r2⟩:=r.consE
  rw[hV,hV]
  exact(RelWs.rev r2).app (.consI r1 .nilI)
def BD(fa:FE):FE:=fun ρ st=>(fa ρ st).bind fun x st=>match x with
 |.loc n=>(match lstOf st n with
  |some ws=>jf ws.reverse st
  |none=>.bad)
 |_=>.bad
theorem Fg{a:Expr}{fa:FE}{p3 p4:Pos}(ha:SE X a fa):SE X (.Subscript a (.Slice none none (some (.UnaryOp .USub (.Constant (.int 1) j p4) p3)) p2) pos) (BD fa):=⟨(Jg ha.h).imp fun σ H Q h=>by
 obtain⟨μ,ρ,st,l,h⟩:=h
 refine⟨μ,ρ,st,l,RK.bind h l fun μ1 st1 x v H1 p1 x1 l1 q1 h1=>?_⟩
 cases x with
 |loc n=>
  dsimp only at h1
  split at h1
  ·rename_i ys e0
   obtain⟨a,vs,g,hS,r'⟩:=l1.sto.lstOf e0
   obtain⟨b1,f1,rfl⟩:=q1.locE
   rw[g]at f1;cases f1
   exact⟨_,vs,rfl,hS,fun p hp=>(mw l1.sto r'.rev h1).2 p _ hp rfl⟩
  ·exact h1.elim
 |_=>exact h1.elim⟩
end
def QR(K:Frag)(a b:Addr):It:=
  ⟨fun i H=>∃xs ys x y,nG K H a xs/\nG K H b ys/\xs[i]?=some x/\ys[i]?=some y,
   fun i H v H'=>∃p,H p=none/\v=.ref p/\∀xs ys x y,nG K H a xs->nG K H b ys->xs[i]?=some x->ys[i]?=some y->H'=eJ H p (.tup [x,y]),
   fun i H=>∃xs ys,nG K H a xs/\nG K H b ys/\(xs.length<=i\/ys.length<=i)⟩
theorem Jh{w:World}{z T O i j:Addr}(D:ZipApart z T O i j a b) :
  we P w K (.Tuple oM kk pos) (QR K a b) [z,T,O,i,j] z (fun k h=>IsZip h z T O .none/\IsPair h T (.ref i) (.ref j)/\(∃u v,IsPair h O u v)/\h.IsListIter i a k/\h.IsListIter j b k) where
 mem:=by simp
 obj:=fun k h st c hc=>by
  obtain⟨h1,h2,⟨u,v,h3⟩,⟨o4,e4,_,d4⟩,⟨o5,e5,_,d5⟩⟩:=st
  have q:c=z\/c=T\/c=O\/c=i\/c=j:=by simpa using hc
  rcases q with rfl|rfl|rfl|rfl|rfl
  ·exact⟨_,h1,fun v q=>by cases q⟩
  ·exact⟨_,h2,fun v q=>by cases q⟩
  ·exact⟨_,h3,fun v q=>by cases q⟩
  ·exact⟨_,e4,fun v q=>by rw[d4]at q;cases q⟩
  ·exact⟨_,e5,fun v q=>by rw[d5]at q;cases q⟩
 keep:=fun k h h' st kp=>by
  obtain⟨h1,h2,⟨u,v,h3⟩,h4,h5⟩:=st
  exact⟨kp z (by simp) _ h1,kp T (by simp) _ h2,⟨u,v,kp O (by simp) _ h3⟩,h4.at fun o e=>kp i (by simp) o e,h5.at fun o e=>kp j (by simp) o e⟩
 item:=by
  intro X hP hw hK hc k af s σ H E I hf st hg
  subst hP hw hK
  obtain⟨xs,ys,x,y,hq,hr,hx,hy⟩:=hg
  obtain⟨its,rv,p1,_⟩:=I.list hq
  obtain⟨jts,jW,p2,_⟩:=I.list hr
  obtain⟨u,hu,ru⟩:=rv.get hx
  obtain⟨v,hv,rv'⟩:=jW.get hy
  obtain⟨h1,h2,⟨c1,c2,h3⟩,h4,h5⟩:=st
  refine wpAny_pyNext_zip_item D h1 h2 h3 h4 h5 p1.isList p2.isList (x:=u) (y:=v) (by simpa using hu) (by simpa using hv) fun g a1 a2 a3 a4 a5 _ kp=>⟨_,rfl,?_⟩
  refine iG a1 fun g2 b1 s2=>?_
  have sF:H s.heap.objs.size=none:=I.hok.fresh (au _)
  have I1:bE X af σ (eJ H s.heap.objs.size (.tup [x,y])) { s with heap:=s.heap.push { cls:=.type "tuple",data:=.seq #[u,v] },toks:=s.toks }:=I.laid (fun c o q=>aj _ q) (au _)
   ⟨by show 2<=sizeLine;decide,[u,v],.cons ru (.cons rv' .nil),⟨_,aq _ rfl,rfl,_,rfl⟩⟩
  have lt:∀{c o},s.heap.get? c=some o->c≠s.heap.objs.size:=fun e=>aN (ax e)
  have nf:∀c∈[z,T,O,i,j],c≠s.heap.objs.size:=fun c hb=>by
   have q:c=z\/c=T\/c=O\/c=i\/c=j:=by simpa using hb
   rcases q with rfl|rfl|rfl|rfl|rfl
   ·exact lt h1
   ·exact lt h2
   ·exact lt h3
   ·obtain⟨_,e,_⟩:=h4;exact lt e
   ·obtain⟨_,e,_⟩:=h5;exact lt e
  have fp:∀c∈[z,T,O,i,j],tF X af (eJ H s.heap.objs.size (.tup [x,y])) c:=fun c hb=>by
   obtain⟨f0,f⟩:=hf c hb
   exact⟨by rw[bY (nf c hb)];exact f0,f⟩
  have I2:bE X af σ (eJ H s.heap.objs.size (.tup [x,y])) { s with heap:=g2,toks:=s.toks }:=bE.turnedL (s:={ s with heap:=s.heap.push { cls:=.type "tuple",data:=.seq #[u,v] },toks:=s.toks }) (ch:=[z,O,i,j]) (t':=s.toks) I1 (fun c o hb q=>?_) fun c hb=>fp c (by
   have q:c=z\/c=O\/c=i\/c=j:=by simpa using hb
   rcases q with rfl|rfl|rfl|rfl<;>simp)
  ·refine⟨.ref s.heap.objs.size,_,I2,rfl,⟨_,sF,rfl,fun xs' OW x' y' e1 e2 e3 e4=>?_⟩,⟨b1,s2.extBut _ _ D.TIz (kp _ _ D.TIz D.TITO D.TIi1 D.TIi2 h2),⟨_,_,s2.extBut _ _ D.TOz a2⟩,a3.extBut s2.extBut D.i1z,a4.extBut s2.extBut D.i2z⟩,fun c hb=>(fp c hb).1⟩
   have q1:=I.list_inj e1 hq
   have q2:=I.list_inj e2 hr
   subst q1 q2
   rw[hx]at e3;rw[hy]at e4;cases e3;cases e4;rfl
  ·have q':(s.heap.push { cls:=.type "tuple",data:=.seq #[u,v] }).get? c=some o:=q
   have hn:c≠z/\c≠O/\c≠i/\c≠j:=by simpa using hb
   refine s2.extBut c o hn.1 ?_
   by_cases hb':c=s.heap.objs.size
   ·subst hb'
    have e1:=aq s.heap (o:={ cls:=.type "tuple",data:=.seq #[u,v] }) rfl
    rw[e1]at q';cases q'
    exact a5
   ·rw[lZ _ _ _ hb']at q'
    exact kp c o hn.1 hn.2.1 hn.2.2.1 hn.2.2.2 q'
 done:=by
  intro X hP hw hK hc k af s σ H E I hf st hg
  subst hP hw hK
  obtain⟨xs,ys,hq,hr,he⟩:=hg
  obtain⟨its,rv,p1,_⟩:=I.list hq
  obtain⟨jts,jW,p2,_⟩:=I.list hr
  obtain⟨h1,h2,⟨c1,c2,h3⟩,h4,h5⟩:=st
  have l1:=rv.length
  have l2:=jW.length
  refine wpAny_pyNext_zip_end (I.ok.hd hc) D h1 h2 h3 h4 h5 p1.isList p2.isList (by
   rcases he with q|q
   ·exact .inl (by simp;omega)
   ·exact .inr (by simp;omega)) fun g kp=>⟨rfl,?_⟩
  exact I.turnedL (ch:=[z,O,i,j]) (t':=s.toks) (fun c o hb q=>by
   have hn:c≠z/\c≠O/\c≠i/\c≠j:=by simpa using hb
   exact kp c o hn.1 hn.2.1 hn.2.2.1 hn.2.2.2 q) fun c hb=>hf c (by
   have q:c=z\/c=O\/c=i\/c=j:=by simpa using hb
   rcases q with rfl|rfl|rfl|rfl<;>simp)
 self:=fun A k s Q E st h=>gq st.1 h
def TV(K:Frag)(ta:TA):TI:=fun σ H R=>ta σ H fun vs H1=>∃a b,vs=[.ref a,.ref b]/\(∃xs,nG K H1 a xs)/\(∃ys,nG K H1 b ys)/\R (QR K a b) H1
theorem Ji{a b:Expr}{ta:TA}{p pos tp:Pos}{oM:List Expr}{kk:Nat}(hm:X.mg "zip"=none)(ha:QA X [a,b] ta)(hg:Gl X "zip":=by rfl)(hs:starEach [a,b] X.env=(false,eval a X.env)::starEach [b] X.env:=by rfl)
  (oZ:(backTo pos (starEach [b] X.env)).any (·.1)=false:=by rfl):QI X (.Tuple oM kk tp) (.Call (.Name "zip" p) [a,b] [] pos) (TV X.K ta):=⟨by
 intro af s σ H R I h
 refine Call_ (mV I hg hm boot_zip (cM (hW (ha.h pos af s σ H _ I h) fun us s1 ⟨vs,H1,I1,r1,q1⟩=>?_) hs oZ))
 obtain⟨t,t',e,⟨xs,hq⟩,⟨ys,hr⟩,q⟩:=q1
 subst e
 cases r1 with
 |cons x1 r1=>cases r1 with
  |cons x2 r1=>
   cases r1
   cases x1
   cases x2
   obtain⟨its,rv,p1,_⟩:=I1.list hq
   obtain⟨jts,jW,p2,_⟩:=I1.list hr
   have lt1:t<s1.heap.objs.size:=by obtain⟨_,_,e,_⟩:=p1;exact ax e
   have lt2:t'<s1.heap.objs.size:=by obtain⟨_,_,e,_⟩:=p2;exact ax e
   refine call_zip_2 p1.isList p2.isList fun g e1 e2 e3 e4 e5 _ kp=>?_
   refine gq e1 ?_
   refine⟨s1.heap.objs.size+4,[s1.heap.objs.size+4,s1.heap.objs.size+2,s1.heap.objs.size+3,s1.heap.objs.size,s1.heap.objs.size+1],_,_,H1,rfl,I1.kept (t':=s1.toks) kp,Jh (zipApart_new lt1 lt2),⟨e1,e2,⟨_,_,e3⟩,e4,e5⟩,fun c hb=>?_,q⟩
   have hc:s1.heap.objs.size<=c:=by
    have z:c=s1.heap.objs.size+4\/c=s1.heap.objs.size+2\/c=s1.heap.objs.size+3\/c=s1.heap.objs.size\/c=s1.heap.objs.size+1:=by simpa using hb
    rcases z with rfl|rfl|rfl|rfl|rfl<;>simp
   exact I1.fpOk hc (I1.hok.fresh hc)⟩
def Aw(st:List al)(l:List (Nat×List W)):Prop:=∀p∈l,lstOf st p.1=some p.2
abbrev Fh:=List W×List (Nat×List W)
abbrev Nj:=ca->List al->R Fh
def Jj(X:Cx)(J:It)(k:Fh)(μ:List Addr)(H:Hp):Prop:=
 ∀(i:Nat) μ' bD H',μ <+: μ'->dg X.K H H'->fO X.K X.mg μ' bD H'->Aw bD k.2 ->
  (∀w,k.1[i]?=some w->J.go i H'/\∀x H'',J.yld i H' x H''->dg X.K H' H''/\fO X.K X.mg μ' bD H''/\bj X.K μ' H'' w x)/\(k.1.length<=i->J.stop i H')
abbrev KS(X:Cx):List Addr->Hp->Fh->It->Prop:=fun μ H k J=>Jj X J k μ H
structure Ut(X:Cx)(tg it:Expr)(f:Nj):Prop where
 h:PI X tg it (fun σ H R=>tG X (KS X) f σ H R)
open Classical in
def m7(f:FG)(t:FT)(el:FE)(ck:List (Nat×List W))(ρ0:ca):List W->List W->List al->R (List W)
 |[],acc,st=>if Aw st ck then .ok acc st else .bad
 |w::ws,acc,st=>if Aw st ck then(match f w ρ0 with
  |none=>.bad
  |some ρ'=>(match t ρ' st with
   |.ok true st1=>(match el ρ' st1 with
    |.ok y st2=>m7 f t el ck ρ0 ws (acc++[y]) st2
    |_=>.bad)
   |.ok false st1=>m7 f t el ck ρ0 ws acc st1
   |_=>.bad))else .bad
def rE(cap:List (Option Nat))(fi:Nj)(f:FG)(t:FT)(el:FE):FE:=fun ρ st=>(fi ρ st).bind fun k st=>if k.1.length<=jx then(m7 f t el k.2 (kh cap ρ) k.1 [] st).bind fun ys st=>jf ys st else .bad
theorem Jk{fi:Nj}{f:FG}{t:FT}{el:FE}{Q:VK}(h:tE X (rE cap fi f t el) σ H Q) :
  pw cap (fun σ H R=>tG X (KS X) fi σ H R) (M9 X f) (Pc X IF t) (Pc X (qm X) el) σ H Q:=by
 obtain⟨μ,ρ,st,l,h⟩:=h
 refine⟨μ,ρ,st,l,RK.bind h l fun μ1 st1 k J H1 p1 x1 l1 wk h1=>?_⟩
 by_cases hz:k.1.length<=jx
 ·rw[av hz]at h1
  refine⟨fun i m ys H'=>i<=k.1.length/\m=k.1.length-i/\ys.length<=i/\∃μ' acc bD,μ1 <+: μ'/\dg X.K H1 H'/\Rl X μ' ρ bD σ H'/\RelWs X.K μ' H' acc ys/\RK X (qm X) μ' σ H' Q ((m7 f t el k.2 (kh cap ρ) (k.1.drop i) acc bD).bind fun ys st=>jf ys st),
   ⟨_,cQ _,rfl,au _,μ1,[],st1,ac _,dg.refl,l1,.nilI,h1⟩,?_⟩
  rintro i m ys H' ⟨hi,rfl,hy,μ',acc,bD,pm,xm,lm,ra,hm⟩
  by_cases hlt:i<k.1.length
  ·rw[cZ hlt]at hm
   unfold m7 at hm
   by_cases ck:Aw bD k.2
   ·rw[av ck]at hm
    obtain⟨go,yld⟩:=(wk i μ' bD H' pm xm lm.sto ck).1 _ (ar hlt)
    refine .inr ⟨go,fun x H2 hy2=>?_⟩
    obtain⟨y1,y2,y3⟩:=yld x H2 hy2
    cases hf:f k.1[i] (kh cap ρ)with
    |none=>rw[hf]at hm;exact hm.elim
    |some ρ2=>
     rw[hf]at hm
     simp only at hm
     have lb:Rl X μ' (kh cap ρ) bD (oo cap σ) H2:=⟨Nb (lm.to (ac _) y1 y2).env cap,y2⟩
     refine⟨μ',kh cap ρ,bD,k.1[i],ρ2,lb,y3,hf,fun σ2 l2=>?_⟩
     cases ht:t ρ2 bD with
     |bad=>rw[ht]at hm;exact hm.elim
     |ex c s=>rw[ht]at hm;exact hm.elim
     |ok kk st2=>
      rw[ht]at hm
      refine⟨μ',ρ2,bD,kk,st2,l2,ht,fun μ3 b3 H3 p3 x3 S3 q3=>?_⟩
      cases q3
      cases kk with
      |false=>
       exact⟨_,by omega,hlt,rfl,by omega,μ3,acc,st2,pm.trans p3,xm.trans (y1.trans x3),lm.to p3 (y1.trans x3) S3,ra.mono p3 (y1.trans x3),RK.mono hm p3 (y1.trans x3)⟩
      |true=>
       rw[av rfl]
       simp only at hm
       cases he:el ρ2 st2 with
       |bad=>rw[he]at hm;exact hm.elim
       |ex c s=>rw[he]at hm;exact hm.elim
       |ok w gD=>
        rw[he]at hm
        refine⟨μ3,ρ2,st2,w,gD,l2.to p3 x3 S3,he,fun μ4 b4 H4 p4 x4 S4 q4=>?_⟩
        have pp:=p3.trans p4
        have xx:=y1.trans (x3.trans x4)
        exact⟨fI hy (aK hlt (iX hz)),_,by omega,hlt,rfl,by simp;omega,μ4,acc++[w],gD,pm.trans pp,xm.trans xx,lm.to pp xx S4,(ra.mono pp xx).app (.consI q4 .nilI),RK.mono hm pp xx⟩
   ·rw[az ck]at hm;exact hm.elim
  ·have hi':i=k.1.length:=by omega
   subst hi'
   rw[gK (au _)]at hm
   unfold m7 at hm
   by_cases ck:Aw bD k.2
   ·rw[av ck]at hm
    obtain⟨z1,z2⟩:=mw lm.sto ra hm
    exact .inl ⟨(wk _ μ' bD H' pm xm lm.sto ck).2 (au _),z1,fun p hp=>z2 p _ hp rfl⟩
   ·rw[az ck]at hm;exact hm.elim
 ·rw[az hz]at h1;exact h1.elim
section
variable{fi:Nj}{f:FG}{t:FT}{el:FE}
end
section
variable{a b:Expr}{fs:FA}
def t_(fs:FA):Nj:=fun ρ st=>(fs ρ st).bind fun ws st=>match ws with
 |[.loc n,.loc m]=>(match lstOf st n,lstOf st m with
  |some xs,some ys=>.ok (kY xs ys,[(n,xs),(m,ys)]) st
  |_,_=>.bad)
 |_=>.bad
theorem BE{oM:List Expr}{kk:Nat}{tp:Pos}(hm:X.mg "zip"=none)(ha:SA X [a,b] fs)(hg:Gl X "zip":=by rfl)(hs:starEach [a,b] X.env=(false,eval a X.env)::starEach [b] X.env:=by rfl)(mI:(backTo pos (starEach [b] X.env)).any (·.1)=false:=by rfl) :
  Ut X (.Tuple oM kk tp) (.Call (.Name "zip" p) [a,b] [] pos) (t_ fs):=⟨(Ji hm ⟨ha.h⟩ hg hs mI).h.imp fun σ H R h=>by
 obtain⟨μ,ρ,st,l,h⟩:=h
 refine⟨μ,ρ,st,l,RK.bind h l fun μ1 st1 x v H1 p1 x1 l1 q1 h1=>?_⟩
 split at h1
 ·rename_i n m
  split at h1
  ·rename_i zs ws e1 e2
   obtain⟨y,ys,rfl,ry,r1⟩:=q1.consE
   obtain⟨w,rfl,jW⟩:=r1.one
   obtain⟨t,vs,g,hS,r⟩:=l1.sto.lstOf e1
   obtain⟨t',uW,g',hS',r'⟩:=l1.sto.lstOf e2
   obtain⟨b1,f1,rfl⟩:=ry.locE
   rw[g]at f1;cases f1
   obtain⟨b2,f2,rfl⟩:=jW.locE
   rw[g']at f2;cases f2
   refine⟨t,t',rfl,⟨vs,hS⟩,⟨uW,hS'⟩,h1 μ1 _ H1 (ac _) dg.refl l1.sto fun i μ' bD H' pp xx S ck=>?_⟩
   obtain⟨a1,us,k1,hS1,m1⟩:=S.lstOf (ck (n,zs) (by simp))
   obtain⟨a2,us',k2,hS2,m2⟩:=S.lstOf (ck (m,ws) (by simp))
   have ea1:a1=t:=by obtain⟨tt,rfl⟩:=pp;rw[a_ (ao.mp g).1,g]at k1;exact(a9 k1).symm
   have ea2:a2=t':=by obtain⟨tt,rfl⟩:=pp;rw[a_ (ao.mp g').1,g']at k2;exact(a9 k2).symm
   subst ea1 ea2
   refine⟨fun w hw=>?_,fun hl=>⟨us,us',hS1,hS2,by rw[mz]at hl;rw[<- m1.len,<- m2.len];show zs.length<=i\/ws.length<=i;omega⟩⟩
   obtain⟨x,y,hx,hy,rfl⟩:=kZ hw
   obtain⟨v1,g1,g2⟩:=m1.get hx
   obtain⟨v2,g3,g4⟩:=m2.get hy
   refine⟨⟨us,us',v1,v2,hS1,hS2,g1,g3⟩,fun z H'' hz=>?_⟩
   obtain⟨q,hq,rfl,hH⟩:=hz
   have e:=hH us us' v1 v2 hS1 hS2 g1 g3
   subst e
   have ex:=fj.same (K:=X.K) (cn hq (.tup [v1,v2]))
   exact⟨ex,S.same (cn hq _),.tupI fj.new (.consI (g2.mono (ac _) ex) (.consI (g4.mono (ac _) ex) .nilI))⟩
  ·exact h1.elim
 ·exact h1.elim⟩
end
section
end
section
variable{g:TG}{te:Cx->TE}
end
section
variable{fi:FI}{f:FG}{el:FE}
end
theorem DK.key_inj{a b:DK}:a.key=b.key↔a=b:=by
 cases a<;>cases b<;>simp[DK.key,Ex]
def nM:W->Option DK
 |.int z=>some (.i z)
 |.str l=>some (.s l)
 |_=>none
theorem wJ{w:W}{k:DK}(h:nM w=some k)(r:bj K μ H w v):v=kV k.key:=by
 cases w with
 |int z=>cases h;exact r.intE
 |str l=>cases h;exact r.strE
 |_=>cases h
def ua(kvs:List (DK×W))(k:DK):Option W:=(kvs.find? fun p=>decide (p.1=k)).map fun p=>p.2
def rF(kvs:List (DK×W))(k:DK)(v:W):List (DK×W):=if (kvs.any fun p=>decide (p.1=k))=true then kvs.map fun p=>if p.1=k then(p.1,v)else p else kvs++[(k,v)]
abbrev dV(kvs:List (DK×W))(vs:List V):List (i9×V):=(kvs.map fun p=>p.1.key).zip vs
section
theorem Fi:∀{kvs:List (DK×W)} {vs:List V} (k:DK),RelWs K μ H (kvs.map fun p=>p.2) vs->(∃w v,ua kvs k=some w/\pb (dV kvs vs) k.key=some v/\bj K μ H w v)\/(ua kvs k=none/\pb (dV kvs vs) k.key=none)
 |[],vs,k,r=>.inr ⟨rfl,rfl⟩
 |p::kvs,vs,k,r=>by
  obtain⟨x,xs,rfl,a,b⟩:=RelWs.consE r
  have ih:=Fi (kvs:=kvs) k b
  by_cases h:p.1=k
  ·refine .inl ⟨p.2,x,?_,?_,a⟩
   ·unfold ua;rw[ce];simp[h]
   ·show pb ((p.1.key,x)::dV kvs xs) k.key=some x
    exact qi (by rw[h])
  ·have e1:ua (p::kvs) k=ua kvs k:=by unfold ua;rw[ce];simp[h]
   have e2:pb (dV (p::kvs) (x::xs)) k.key=pb (dV kvs xs) k.key:=qj (p:=(p.1.key,x)) fun z=>h (DK.key_inj.mp z)
   rw[e1,e2];exact ih
theorem Fj:∀{kvs:List (DK×W)} {vs:List V} (k:DK),RelWs K μ H (kvs.map fun p=>p.2) vs->((dV kvs vs).any fun kv=>decide (kv.1=k.key))=(kvs.any fun p=>decide (p.1=k))
 |[],vs,k,r=>rfl
 |p::kvs,vs,k,r=>by
  obtain⟨x,xs,rfl,a,b⟩:=RelWs.consE r
  show(decide (p.1.key=k.key)||(dV kvs xs).any _)=(decide (p.1=k)||kvs.any _)
  rw[Fj k b]
  congr 1
  rw[decide_eq_decide];exact DK.key_inj
theorem Fk{k:DK}{w:W}:∀{kvs:List (DK×W)} {vs:List V},RelWs K μ H (kvs.map fun p=>p.2) vs->bj K μ H w v->∃us,(dV kvs vs).map (fun kv=>if kv.1=k.key then(kv.1,v)else kv)=dV (kvs.map fun p=>if p.1=k then(p.1,w)else p) us/\RelWs K μ H ((kvs.map fun p=>if p.1=k then(p.1,w)else p).map fun p=>p.2) us
 |[],vs,r,jW=>⟨[],rfl,.nilI⟩
 |p::kvs,vs,r,jW=>by
  obtain⟨x,xs,rfl,a,b⟩:=RelWs.consE r
  obtain⟨us,e,q⟩:=Fk (k:=k) b jW
  by_cases h:p.1=k
  ·refine⟨v::us,?_,?_⟩
   ·show(if p.1.key=k.key then(p.1.key,v)else(p.1.key,x))::(dV kvs xs).map _=_
    rw[av (by rw[h]),e,aI,av h];rfl
   ·rw[aI,av h];exact .consI jW q
  ·refine⟨x::us,?_,?_⟩
   ·show(if p.1.key=k.key then(p.1.key,v)else(p.1.key,x))::(dV kvs xs).map _=_
    rw[az (fun z=>h (DK.key_inj.mp z)),e,aI,az h];rfl
   ·rw[aI,az h];exact .consI a q
theorem Fl{kvs:List (DK×W)}{k:DK}{w:W}(r:RelWs K μ H (kvs.map fun p=>p.2) vs)(jW:bj K μ H w v):∃us,pd (dV kvs vs) k.key v=dV (rF kvs k w) us/\RelWs K μ H ((rF kvs k w).map fun p=>p.2) us:=by
 unfold pd rF
 rw[Fj k r]
 by_cases h:(kvs.any fun p=>decide (p.1=k))=true
 ·rw[av h,av h]
  exact Fk r jW
 ·rw[az h,az h]
  refine⟨vs++[v],?_,?_⟩
  ·unfold dV
   rw[bG,List.zip_append (by rw[am,<- r.len,am])];rfl
  ·rw[bG];exact r.app (.consI jW .nilI)
theorem Ax{kvs:List (DK×W)}(r:RelWs K μ H (kvs.map fun p=>p.2) vs):(dV kvs vs).length=kvs.length:=by
 unfold dV;rw[List.length_zip,am,<- r.len,am,Nat.min_self]
theorem fj.butD{l:Addr}{xs:List (i9×V)}(e:P5 l H H')(hl:H l=some (.dK xs)):dg K H H':=by
 have hne:∀{p:Addr} {o:HO},H p=some o->(∀zs,o≠.dK zs)->p≠l:=fun{p o} q hn z=>by subst z;rw[hl]at q;cases q;exact hn _ rfl
 refine⟨fun p ys h=>?_,fun b o u h=>e _ _ (hne h (fun _ z=>by cases z)) h⟩
 rcases h with(h|⟨o,h⟩)|h
 ·exact .inl (.inl (e _ _ (hne h (fun _ z=>by cases z)) h))
 ·exact .inl (.inr ⟨o,e _ _ (hne h (fun _ z=>by cases z)) h⟩)
 ·exact .inr h
end
theorem fO.setD(S:fO K mg μ st H){kvs OT:List (DK×W)}{xs:List (i9×V)}{us:List V}(hn:st[n]?=some (.dct kvs))(hm:μ[n]?=some a)(ha:H a=some (.dK xs))(hr:RelWs K μ H (OT.map fun p=>p.2) us) :
  fO K mg μ (st.set n (.dct OT)) (eJ H a (.dK (dV OT us))):=
 S.setG hn rfl hm ha (fun _ _ z=>by cases z) (fun _ z=>by cases z) (fj.butD jd ha) rfl ⟨us,cO,hr.mono (ac _) (fj.butD jd ha)⟩
def ub(st:List al):W->Option (Nat×List (DK×W))
 |.loc n=>(match st[n]? with
  |some (.dct kvs)=>some (n,kvs)
  |some (.rod kvs)=>some (n,kvs)
  |_=>none)
 |_=>none
def Dh(st:List al):W->Option (Nat×List (DK×W))
 |.loc n=>(match st[n]? with
  |some (.dct kvs)=>some (n,kvs)
  |_=>none)
 |_=>none
theorem Fm(S:fO K mg μ st H){x:W}{kvs:List (DK×W)}(h:ub st x=some (n,kvs))(r:bj K μ H x v) :
  ∃a vs,(st[n]?=some (.dct kvs)\/st[n]?=some (.rod kvs))/\μ[n]?=some a/\v=.ref a/\Rd H a (.dK (dV kvs vs))/\RelWs K μ H (kvs.map fun p=>p.2) vs:=by
 cases x with
 |loc m=>
  simp only[ub]at h
  cases e:st[m]? with
  |none=>rw[e]at h;cases h
  |some c=>
   rw[e]at h
   cases c with
   |dct z=>
    cases h
    obtain⟨a,g,vs,k,rr⟩:=S.get e
    obtain⟨b,f,rfl⟩:=r.locE
    rw[g]at f;cases f
    exact⟨a,vs,.inl e,g,rfl,.inl k,rr⟩
   |rod z=>
    cases h
    obtain⟨a,g,vs,o,k,rr⟩:=S.get e
    obtain⟨b,f,rfl⟩:=r.locE
    rw[g]at f;cases f
    exact⟨a,vs,.inr e,g,rfl,.inr ⟨o,k⟩,rr⟩
   |_=>cases h
 |_=>cases h
theorem Jl(S:fO K mg μ st H){x:W}{kvs:List (DK×W)}(h:Dh st x=some (n,kvs))(r:bj K μ H x v) :
  ∃a vs,st[n]?=some (.dct kvs)/\μ[n]?=some a/\v=.ref a/\H a=some (.dK (dV kvs vs))/\RelWs K μ H (kvs.map fun p=>p.2) vs:=by
 cases x with
 |loc m=>
  simp only[Dh]at h
  cases e:st[m]? with
  |none=>rw[e]at h;cases h
  |some c=>
   rw[e]at h
   cases c with
   |dct z=>
    cases h
    obtain⟨a,g,vs,k,rr⟩:=S.get e
    obtain⟨b,f,rfl⟩:=r.locE
    rw[g]at f;cases f
    exact⟨a,vs,e,g,rfl,k,rr⟩
   |_=>cases h
 |_=>cases h
theorem CG.r{kvs:List (i9×V)}{k:i9}(e:Rd H a (.dK kvs)):CG H a (kV k) (pb kvs k):=.inl ⟨kvs,k,e,rfl,rfl⟩
section
variable{a b d o i:Expr}{nq:Pos}{fa fb fc fe fo fi:FE}{fs:FA}
def wK(x y:W)(st:List al):R W:=match ub st x,nM y with
 |some (_,kvs),some k=>sL (ua kvs k) fun w=>.ok w st
 |_,_=>.bad
theorem KU(hr:hX kk X.A)(ha:SE X a fa)(hb:SE X b fb)(hs:MU b:=by intro _ _;rfl):SE X (.Subscript a b pos) (e2 wK fa fb):=⟨(Ik (Kz hr) ha.h hb.h hs).imp fun σ H Q h=>by
 obtain⟨μ,ρ,st,l,h⟩:=h
 refine⟨μ,ρ,st,l,RK.bind h l fun μ1 st1 x v H1 p1 x1 l1 q1 h1=>⟨μ1,ρ,st1,l1,RK.bind h1 l1 fun μ2 st2 y u H2 p2 x2 l2 q2 h2=>?_⟩⟩
 unfold wK at h2
 cases e1:ub st2 x with
 |none=>rw[e1]at h2;exact h2.elim
 |some nk=>
  obtain⟨n,kvs⟩:=nk
  cases e2:nM y with
  |none=>rw[e1,e2]at h2;exact h2.elim
  |some k=>
   rw[e1,e2]at h2
   simp only at h2
   obtain⟨a,vs,_,_,rfl,ha,r⟩:=Fm l2.sto e1 (q1.mono p2 x2)
   have:=wJ e2 q2
   subst this
   rcases Fi k r with⟨w,z,g1,g2,g3⟩|⟨g1,g2⟩
   ·rw[g1]at h2
    exact⟨a,z,rfl,by rw[<- g2];exact CG.r ha,h2 μ2 z H2 (ac _) dg.refl l2.sto g3⟩
   ·rw[g1]at h2;exact h2.elim⟩
def yK(x i v:W)(st:List al):Option (List al):=match Dh st x,nM i with
 |some (n,kvs),some k=>if kvs.length<jx then some (st.set n (.dct (rF kvs k v)))else none
 |_,_=>none
theorem Fp(hr:hX kk X.A):HP X (E6 X yK):=fun af s σ H o i v ov iv u Q I r1 r2 r3 ⟨μ,st,wo,wi,wv,bD,S,ro,ri,rv,e,q⟩=>by
 unfold yK at e
 cases e1:Dh st wo with
 |none=>rw[e1]at e;cases e
 |some nk=>
  obtain⟨n,kvs⟩:=nk
  cases e2:nM wi with
  |none=>rw[e1,e2]at e;cases e
  |some k=>
   rw[e1,e2]at e
   simp only at e
   split at e
   ·rename_i hl
    cases e
    obtain⟨a,vs,hn,hm,rfl,ha,r⟩:=Jl S e1 ro
    have:=wJ e2 ri
    subst this
    obtain rfl:ov=Value.ref a:=r1
    obtain⟨us,g1,g2⟩:=Fl (k:=k) r rv
    refine CJ (Kz hr) I (Ii.k ha (by rw[Ax r];exact aK hl (by decide))) r2 r3 fun s' I'=>⟨_,I',?_⟩
    rw[g1]
    exact q _ (fj.butD jd ha) (S.setD hn hm ha g2)
   ·cases e
def yL:FE:=fun _ st=>.ok (.loc st.length) (st++[.dct []])
theorem Fq:SE X (.Dict [] [] pos) yL:=⟨Eu.imp fun σ H Q h=>by
 obtain⟨μ,ρ,st,l,h⟩:=h
 intro p hp
 have hs:o_ H (eJ H p (.dK [])):=cn hp _
 exact h (μ++[p]) (.ref p) _ (ag _ _) (fj.same hs) (l.sto.push (c:=.dct []) hp ⟨[],cO,.nilI⟩) (pV l.sto)⟩
def keysOf:List (W×W)->Option (List (DK×W))
 |[]=>some []
 |(k,v)::r=>match nM k,keysOf r with
  |some k,some r=>some ((k,v)::r)
  |_,_=>none
def jh(acc kvs:List (DK×W)):List (DK×W):=kvs.foldl (fun acc p=>rF acc p.1 p.2) acc
theorem yM:∀{kvs acc:List (DK×W)} {vs us:List V},RelWs K μ H (kvs.map fun p=>p.2) vs->RelWs K μ H (acc.map fun p=>p.2) us->∃zs,tL (dV acc us) (dV kvs vs)=dV (jh acc kvs) zs/\RelWs K μ H ((jh acc kvs).map fun p=>p.2) zs
 |[],acc,vs,us,r1,r2=>⟨us,rfl,r2⟩
 |p::kvs,acc,vs,us,r1,r2=>by
  obtain⟨x,xs,rfl,a,b⟩:=RelWs.consE r1
  obtain⟨zs,e,q⟩:=Fl (k:=p.1) r2 a
  obtain⟨ys,e2,q2⟩:=yM b q
  refine⟨ys,?_,q2⟩
  show tL (pd (dV acc us) p.1.key x) (dV kvs xs)=_
  rw[e,e2];rfl
end
def wL(h:Heap)(mg:Str->Option Value):Prop:=∃bm o,mg "__builtins__"=some (.ref bm)/\bm≠builtinsNs/\h.get? bm=some o/\o.cls=.type "module"/\o.dict=some builtinsNs/\o.data=.plain
structure KW(ts:List Addr)(H:Hp):Prop where
 all:∀b,H b=none\/(∃o xs,H b=some (.frz o (.lst xs)))\/(b∈ts/\H b=some (.tbl #[]))
 tab:∀T∈ts,H T=some (.tbl #[])
theorem Di{P:Program}{w:World}{mb:Str->Option Value}{CX:DZ}{k:Nat}{fa:Addr}{fd:FuncData}{sp:Sp}{s₁:Shared}{vs:List Value}{ns:List Int}{ts:List Addr}
  (KX:K.In s₁.heap) (Uc:s₁.heap.Ns mainGlobals mg) (hb:s₁.heap.Ns builtinsNs mb) (UX:∀x:Str,x ≠ "__name__"->mb x=bootBuiltins x) (T5:s₁.heap.NoLimit) (hg:s₁.gens=#[])
  (ha:s₁.heap.get? a=some { cls:=.type "list",data:=.seq vs.toArray }) (hi:IntsAre vs ns) (hl:ns.length<=sizeLine) (hr:hX k callerA)
  (ht:∀T∈ts,s₁.heap.get? T=some { cls:=.none,data:=.fields #[] }) (T2:∀T∈ts,K.lookup T=none) (Se:∀T∈ts,isCodeTable s₁.heap T)
  (UZ:wL s₁.heap mg) (F:∀base:Heap,K.In base->base.Ns mainGlobals mg->wL base mg->fV P w K mg base CX k fa fd [x] sp) (Sj:∀(s:Shared) (u:Value),BindsTo s fd ⟨[u],[]⟩ [(x,u)])
  (Hv:∀H:Hp,KW ts H->nG K H a (ns.map V.int)->sp [.ref a] H (fun v _=>v=.bl true) fun _ _ _=>False)
  (U8:∀H e s',CX [] H s₁ (fun _ _ _=>False) e s'->False) :
  codeAny (model P w) callerA (.call (.ref fa) ⟨[.ref a],[]⟩) (fun r s'=>r=.ok (.ret (.bool true))/\OldK s₁.heap s'.heap/\s'.os=s₁.os/\AllBare s'.gens) s₁:=by
 have rv:=vq hi
 have lenV:=hi.length
 have hta:∀T∈ts,T≠a:=fun T hT z=>by
  have:=ht T hT
  rw[z,ha]at this
  have h2:=eY Obj.cls (a9 this)
  cases h2
 have core:∀H:Hp,KW ts H->nG K H a (ns.map V.int)->kP P w H s₁.heap->(∀b,H b≠none->b=a\/b∈ts)->(H a≠none->K.lookup a=none) ->
   codeAny (model P w) callerA (.call (.ref fa) ⟨[.ref a],[]⟩) (fun r s'=>r=.ok (.ret (.bool true))/\OldK s₁.heap s'.heap/\s'.os=s₁.os/\AllBare s'.gens) s₁:=by
  intro H hO hS hok hA hK
  have base_of:∀{b:Addr} {o:Obj},s₁.heap.get? b=some o->H b=none->(uX s₁.heap H).get? b=some o:=fun e n=>D9 e n
  have noA:∀{b:Addr} {o:Obj} {es:Array DictEntry} {ep:Nat},s₁.heap.get? b=some o->o.data=.dict es ep->H b=none:=fun{b o es ep} e d=>by
   cases q:H b with
   |none=>rfl
   |some u=>
    rcases hA b (by rw[q];simp)with e'|e'
    ·subst e'
     rw[ha]at e;cases e
     have d':Data.seq vs.toArray _=Data.dict es ep:=d
     cases d'
    ·rw[ht b e']at e;cases e
     have d':Data.fields _=Data.dict es ep:=d
     cases d'
  have nsK:∀{b:Addr} {m:Str->Option Value},s₁.heap.Ns b m->(uX s₁.heap H).Ns b m:=fun{b m} ⟨o,es,ep,e,d,r⟩=>⟨o,es,ep,base_of e (noA e d),d,r⟩
  have hKb:K.In (uX s₁.heap H):=fun b o e=>base_of (KX b o e) (by
   cases q:H b with
   |none=>rfl
   |some u=>
    rcases hA b (by rw[q];simp)with e'|e'
    ·subst e'
     rw[hK (by rw[q];simp)]at e;cases e
    ·rw[T2 b e']at e;cases e)
  have hbk':wL (uX s₁.heap H) mg:=by
   obtain⟨bm,o,b1,b2,b3,b4,b5,b6⟩:=UZ
   refine⟨bm,o,b1,b2,base_of b3 ?_,b4,b5,b6⟩
   cases q:H bm with
   |none=>rfl
   |some u=>
    rcases hA bm (by rw[q];simp)with e'|e'
    ·subst e'
     rw[ha]at b3;cases b3;exact absurd b4 (by simp)
    ·rw[ht bm e']at b3;cases b3;cases b4
  have hM:Mod K mg (uX s₁.heap H):=⟨hKb,nsK Uc,⟨mb,nsK hb,UX⟩,let ⟨mc,h1,h2⟩:=T5;⟨mc,nsK h1,h2⟩⟩
  have e0:Ad P w K mg (uX s₁.heap H) callerA [] s₁ H:=⟨rfl,hM,fun b o e=>HF e,Nat.le_of_eq (Cp _ _),trivial,fun b hb=>absurd (show b∈([]:List Addr)from hb) (by simp),hok,.of_eq hg⟩
  refine gH ((F _ hKb (nsK Uc) hbk').run callerA [] s₁ H ⟨[.ref a],[]⟩ [.ref a] [.ref a] _ _ hr e0 (Sj s₁ (.ref a)) (.cons rfl .nil) (Hv H hO hS)) fun r s' h=>?_
  cases r with
  |error e=>exact(U8 H e s' h).elim
  |ok fl=>
   cases fl with
   |next=>exact False.elim h
   |brk=>exact False.elim h
   |cont=>exact False.elim h
   |ret u=>
    obtain⟨v,H',os,bare,un,hok',r',q⟩:=h
    have q':v=.bl true:=q
    subst q'
    obtain rfl:u=Value.bool true:=r'
    have was:∀b o,s₁.heap.get? b=some o->asItWas s₁.heap s'.heap b o/\∃o',s'.heap.get? b=some o':=fun b o e=>by
     cases q:H b with
     |none=>
      have:=un.keep b o e q (by intro z;exact absurd (show b∈([]:List Addr)from z) (by simp)) (by simp)
      exact⟨.inl this,_,this⟩
     |some u=>
      rcases hO.all b with z|⟨ob,xs,z⟩|⟨hbt,z⟩
      ·rw[q]at z;cases z
      ·have z2:=un.frzs b ob _ z
       obtain⟨e1,_⟩:=hok b _ z
       obtain⟨e2,_⟩:=hok' b _ z2
       rw[e]at e1;cases e1
       exact⟨.inl e2,_,e2⟩
      ·obtain⟨qQ,z2⟩:=un.tbls b _ z
       have e2:s'.heap.get? b=some { cls:=.none,data:=.fields (#[]++qQ) }:=hok' b _ z2
       rw[ht b hbt]at e
       cases e
       exact⟨.inr (.inl ⟨Se b hbt,rfl,#[],qQ,rfl,e2⟩),_,e2⟩
    exact⟨rfl,⟨fun b o e=>(was b o e).1,fun b o e=>(was b o e).2⟩,os,bare⟩
 have tb:∀(f:Hp),(∀T∈ts,f T=some (.tbl #[]))->∀T∈ts,eO P w f s₁.heap T (.tbl #[]):=fun f _ T hT=>ht T hT
 have dec:∀b:Addr,b∈ts\/b∉ts:=fun b=>Classical.em _
 open Classical in
 cases hk:K.lookup a with
 |some o=>
  have e:=KX a o hk
  rw[ha]at e
  cases e
  refine core (fun b=>if b∈ts then some (.tbl #[])else none) ⟨fun b=>?_,fun T hT=>av hT⟩ (.inr ⟨_,vs.toArray,_,hk,rfl,rfl,rfl,by rw[aO,lenV];exact hl,by simpa using rv⟩) (fun b u z=>?_) (fun b z=>?_) (fun z=>?_)
  ·by_cases hb:b∈ts
   ·exact .inr (.inr ⟨hb,av hb⟩)
   ·exact .inl (az hb)
  ·by_cases hb:b∈ts
   ·have z':=(av hb).symm.trans z
    cases z'
    exact ht b hb
   ·have z':=(az hb).symm.trans z
    cases z'
  ·by_cases hb:b∈ts
   ·exact .inr hb
   ·exact absurd (az hb) z
  ·exact absurd (az (fun q=>hta a q rfl)) z
 |none=>
  refine core (fun b=>if b=a then some (.frz { cls:=.type "list",data:=.seq vs.toArray } (.lst (ns.map V.int)))else if b∈ts then some (.tbl #[])else none) ⟨fun b=>?_,fun T hT=>(az (hta T hT)).trans (av hT)⟩ (.inl (.inr ⟨{ cls:=.type "list",data:=.seq vs.toArray },av rfl⟩)) (fun b u z=>?_) (fun b z=>?_) (fun _=>hk)
  ·by_cases hb:b=a
   ·exact .inr (.inl ⟨_,_,av hb⟩)
   ·by_cases hb2:b∈ts
    ·exact .inr (.inr ⟨hb2,(az hb).trans (av hb2)⟩)
    ·exact .inl ((az hb).trans (az hb2))
  ·by_cases hb:b=a
   ·have z':=(av hb).symm.trans z
    cases z'
    subst hb
    exact⟨ha,by rw[am];exact hl,vs,_,rv,ha⟩
   ·by_cases hb2:b∈ts
    ·have z':=((az hb).trans (av hb2)).symm.trans z
     cases z'
     exact ht b hb2
    ·have z':=((az hb).trans (az hb2)).symm.trans z
     cases z'
  ·by_cases hb:b=a
   ·exact .inl hb
   ·by_cases hb2:b∈ts
    ·exact .inr hb2
    ·exact absurd ((az hb).trans (az hb2)) z
def Fs(tc:List al)(F:List W->List al->R W):Prop:=∀ns:List Int,ns.length<=63->∃bD,F [.loc 0] (.ro (ns.map W.int)::tc)=.ok (.bl true) bD
def uc(L:List (Addr×Pos×Str)):List al:=L.map fun t=>.tab t.1 t.2.1 t.2.2
theorem walkT{l:PySem.W.OpenLaw}{k:Nat}{q:Program}{Cj:List Str}{XP:(Str->Option Value)->Heap->Prop}{d:DefRec}{K:Params->Frag}{x:Str}{G:List W->List al->R W}(L:List (Addr×Pos×Str))(hL:(L.map fun t=>t.1).Nodup)(hn:l.most=some 63)(T7:d.params.defaults=[])(hr:hX k callerA)
  (hY:∀(w:World) (h:Heap),YP w h->(K w.params).In h) (hT:∀(w:World) (h:Heap),YP w h->∀T∈L.map (fun t=>t.1),h.get? T=some { cls:=.none,data:=.fields #[] })
  (T2:∀(w:World),∀T∈L.map (fun t=>t.1),(K w.params).lookup T=none) (Se:∀(w:World),∀T∈L.map (fun t=>t.1),∃c,codeHdIn (K w.params) c T=true)
  (F:∀(w:World) (mg:Str->Option Value) (fa:Addr) (h:Heap),(K w.params).In h->h.Ns mainGlobals mg->mg d.name=some (.ref fa) ->
   ∃fd:FuncData,(∀(s:Shared) (u:Value),BindsTo s fd ⟨[u],[]⟩ [(x,u)])/\∀base:Heap,(K w.params).In base->base.Ns mainGlobals mg->wL base mg->fV l.prog w (K w.params) mg base (ja l.prog w) k fa fd [x] (nT (K w.params) mg 1 G))
  (ok:Fs (uc L) G):PySem.W.WalkO q Cj XP YP l.row.toRowW d [] (fun f vs=>PySem.call f vs):=by
 refine Att.attach_call hn T7 fun w s₀ s₁ mg mb fa o pm cd j9 a vs ns G' Y ho hd om hmg hobj hints c_ hg=>?_
 have KX:=hY w _ Y
 obtain⟨fd,hb,hF⟩:=F w mg fa _ KX G'.T.g hmg
 refine Di (ts:=L.map fun t=>t.1) (CX:=ja l.prog w) (sp:=nT (K w.params) mg 1 G) KX G'.T.g G'.T.b G'.T.builtins G'.T.nolimit hg hobj hints (bd c_ (by decide)) hr (hT w _ Y) (T2 w) (fun T hT'=>?_) G'.T.bmain hF hb (fun H hO hS=>?_) fun H e s' z=>?_
 ·obtain⟨c,hc⟩:=Se w T hT'
  obtain⟨o,vs,_,_,_,_,_,_,_,e1,e2,e3,e4,_⟩:=PySem.W.codeHd_of_K KX hc
  exact⟨c,o,vs,e1,e2,e3,e4⟩
 ·obtain⟨bD,e⟩:=ok ns c_
  have xQ:SC (K w.params) H a (ns.map V.int):=by
   rcases hS with(z|⟨o,z⟩)|z
   ·rcases hO.all a with y|⟨o,xs,y⟩|⟨_,y⟩
    ·rw[z]at y;cases y
    ·rw[z]at y;cases y
    ·rw[z]at y;cases y
   ·exact .inl ⟨o,z⟩
   ·exact .inr z
  have hta:∀T∈L.map (fun t=>t.1),T≠a:=fun T hT' z=>by
   have:=hT w _ Y T hT'
   rw[z,hobj]at this
   have h2:=eY Obj.cls (a9 this)
   cases h2
  have hri:∀μ:List Addr,RelWs (K w.params) μ H (ns.map W.int) (ns.map V.int):=fun μ=>by
   clear hS xQ e c_ hints
   induction ns with
   |nil=>exact .nilI
   |cons n r ih=>exact .consI .int ih
  refine⟨rfl,a::L.map (fun t=>t.1),[.loc 0],.ro (ns.map W.int)::uc L,⟨fun i j b ci cj c1 c2 r1 r2 m1 m2=>?_,by simp[uc],fun i c b c1 c2=>?_⟩,.consI (.locI rfl) .nilI,?_⟩
  ·cases i with
   |zero=>cases c1;cases r1
   |succ i=>
    cases j with
    |zero=>cases c2;cases r2
    |succ j=>
     simp only[mP]at m1 m2
     rw[(List.getElem?_inj (ao.mp m1).1 hL).mp (m1.trans m2.symm)]
  ·cases i with
   |zero=>cases c1;cases c2;exact⟨_,xQ,hri _⟩
   |succ i=>
    simp only[mP]at c1 c2
    unfold uc at c1
    rw[ak]at c1 c2
    cases e1:L[i]? with
    |none=>rw[e1]at c1;cases c1
    |some t=>
     rw[e1]at c1 c2
     cases c1;cases c2
     exact⟨rfl,#[],hO.tab _ (aJ.mpr ⟨t,aY e1,rfl⟩),trivial,.inl rfl⟩
  ·rw[e]
   intro μ' v H' _ _ _ rv
   exact rv.blE
 ·obtain⟨_,_,_,_,_,_,z,_⟩:=z
  exact z
section
end
def TW(K:Frag)(fd:FuncData)(P:Addr):Prop:=∃c,fd.code=.ref c/\codeHdIn K c P=true/\K.lookup P=none
theorem wM{a b:Int}{t u:Tok}{c:Value}(l:List Value)(h:TriplesOk l):TriplesOk (l++[.int a t,.int b u,c]):=by
 fun_induction TriplesOk l with
 |case1=>exact trivial
 |case2 _ _ _ _ _ dQ ih=>exact ih h
 |case3=>exact h.elim
section
abbrev u7(H:Hp)(P cd:Addr)(q:Str)(ps:Array Value)(pos:Pos):Hp:=eJ (eJ H cd (jX cd q)) P (.tbl (ps++#[rawInt pos.line,rawInt pos.col,.ref cd]))
theorem wN{P cd:Addr}{q:Str}{ps:Array Value}(n1:b≠P)(n2:b≠cd):u7 H P cd q ps pos b=H b:=by
 show eJ (eJ H cd _) P _ b=_
 rw[bY n1,bY n2]
theorem Ft{P cd:Addr}{q:Str}{ps:Array Value}:u7 H P cd q ps pos P=some (.tbl (ps++#[rawInt pos.line,rawInt pos.col,.ref cd])):=cO
theorem wO{P cd:Addr}{q:Str}{ps:Array Value}(h:P≠cd):u7 H P cd q ps pos cd=some (jX cd q):=by
 show eJ (eJ H cd _) P _ cd=_
 rw[bY (Ne.symm h),cO]
theorem fj.butT{l:Addr}{xs:Array Value}(e:P5 l H H')(hl:H l=some (.tbl xs)):dg K H H':=by
 have hne:∀{p:Addr} {o:HO},H p=some o->(∀zs,o≠.tbl zs)->p≠l:=fun{p o} q hn z=>by subst z;rw[hl]at q;cases q;exact hn _ rfl
 refine⟨fun p ys h=>?_,fun b o u h=>e _ _ (hne h (fun _ z=>by cases z)) h⟩
 rcases h with(h|⟨o,h⟩)|h
 ·exact .inl (.inl (e _ _ (hne h (fun _ z=>by cases z)) h))
 ·exact .inl (.inr ⟨o,e _ _ (hne h (fun _ z=>by cases z)) h⟩)
 ·exact .inr h
theorem ud{l:List α}{x:α}(h:l[i]?=some x):l.set i x=l:=by
 refine hU fun j=>?_
 by_cases e:i=j
 ·subst e;rw[bP (ao.mp h).1,h]
 ·rw[cB e]
theorem fO.tabbed{P cd:Addr}{q:Str}{ps:Array Value}(S:fO K mg μ st H)(hi:st[i]?=some (.tab P pos q))(hP:H P=some (.tbl ps))(om:H cd=none)(ht:TriplesOk ps.toList)(hn:codeAmong pos ps.toList=none) :
  fO K mg μ st (u7 H P cd q ps pos)/\dg K H (u7 H P cd q ps pos):=by
 have hs:o_ H (eJ H cd (jX cd q)):=cn om _
 have hne:P≠cd:=fun z=>by rw[z,om]at hP;cases hP
 have hP1:eJ H cd (jX cd q) P=some (.tbl ps):=hs _ _ hP
 have hx:dg K (eJ H cd (jX cd q)) (u7 H P cd q ps pos):=fj.butT jd hP1
 obtain⟨a,hm,ea,_⟩:=S.get hi
 subst ea
 have:=(S.same hs).setG (c':=.tab a pos q) hi rfl hm hP1 (fun _ _ z=>by cases z) (fun _ z=>by cases z) hx rfl ⟨rfl,_,cO,?_,.inr ⟨cd,?_,?_⟩⟩
 ·rw[ud hi]at this
  exact⟨this,(fj.same hs).trans hx⟩
 ·rw[Array.toList_append];exact wM _ ht
 ·rw[Array.toList_append];exact codeAmong_snoc _ ht hn
 ·exact wO hne
end
section
theorem bE.tabbed{t':Nat}{P cd:Addr}{q:Str}{ps:Array Value}(I:bE X af σ H s)(hP:H P=some (.tbl ps))(Pj:s.heap.objs.size<=cd)(hx:∀b o,b≠P->s.heap.get? b=some o->h'.get? b=some o)
  (OV:h'.CodeRec (.ref cd) q) (S_:h'.get? P=some { cls:=.none,data:=.fields (ps++#[rawInt pos.line,rawInt pos.col,.ref cd]) }):bE X af σ (u7 H P cd q ps pos) { s with heap:=h',toks:=t' }:=by
 have om:H cd=none:=I.hok.fresh Pj
 have hne:P≠cd:=fun z=>by rw[z,om]at hP;cases hP
 have notP:∀b,H b=none->b≠P:=fun b n z=>by rw[z,hP]at n;cases n
 have old:∀b o,s.heap.get? b=some o->b≠cd:=fun b o e=>aN (aK (ax e) Pj)
 have keepH:∀b u,H b=some u->b≠P->u7 H P cd q ps pos b=some u:=fun b u e n=>by
  rw[wN n (fun z=>by rw[z,om]at e;cases e)];exact e
 have Hcd:u7 H P cd q ps pos cd=some (jX cd q):=wO hne
 refine I.call' (ch:=[]) rfl ⟨fun b o e n hb hx'=>hx b o (notP b n) e,fun b o e n hb hx'=>⟨o.slots,hx b o (notP b n) e⟩,fun b o e n hx'=>?_,fun b o e hx'=>?_,fun b xs e=>?_,fun b o u e=>?_,fun b ps' e=>?_⟩ (fun b u e=>?_) I.bare fun b hb=>absurd hb (by simp)
 ·rw[wN (notP b n) (old b o e)];exact n
 ·by_cases hb:b=P
  ·subst hb;exact⟨_,S_⟩
  ·exact⟨o,hx b o hb e⟩
 ·exact keepH b _ e fun z=>by rw[z,hP]at e;cases e
 ·exact keepH b _ e fun z=>by rw[z,hP]at e;cases e
 ·by_cases hb:b=P
  ·subst hb
   rw[hP]at e;cases e
   exact⟨_,Ft⟩
  ·exact⟨#[],by rw[keepH b _ e hb];simp⟩
 ·by_cases hb:b=P
  ·subst hb
   rw[Ft]at e;cases e
   exact S_
  ·by_cases hb2:b=cd
   ·subst hb2
    rw[Hcd]at e;cases e
    obtain⟨c2,oc,vs,t,e2,hoc,hd,hv⟩:=OV
    cases e2
    refine⟨⟨oc,vs,t,hoc,hd,hv⟩,⟨oc,hoc⟩,fun h1 h2 p k=>?_⟩
    obtain⟨o,vs,t,ho,r⟩:=p
    exact⟨o,vs,t,k o ho,r⟩
   ·rw[wN hb hb2]at e
    refine(I.hok b u e).stay (fun c v hc q'=>hx c v (fun z=>?_) q') (fun c q'=>keepH c _ q' fun z=>by rw[z,hP]at q';cases q') fun c xs q'=>keepH c _ q' fun z=>by rw[z,hP]at q';cases q'
    rcases hc with rfl|hc
    ·exact hb z
    ·rw[z,hP]at hc;cases hc
end
def yN(st:List al)(j:Nat)(P:Addr)(pos:Pos)(q:Str):Prop:=st[j]?=some (.tab P pos q)
section
variable{en dn q:Str}{pr:Arguments}{p1 p3 p4 He Uf:Pos}{c P:Addr}
end
def yO(o:Obj):Nat:=match o.data with
 |.dict _ ep=>ep
 |_=>0
section
variable{o f:Expr}{fo fk fd fe:FE}
end
section
variable{y:Str}{a b:Expr}{fs:FA}
end
inductive DefIn(K:Frag)(x:Str)(st:Stmt):Prop
 |mk {ad:Addr} {od an:Option Addr} {sl:Array (Option Value)} {oc kV dc pm cd ct:Value} (a:nsIn K mainGlobals x=some (some (.ref ad)))
   (l:K.lookup ad=some ⟨oc,od,.func (fnOf x x (fm st) (dZ st) (aL st) .none kV dc pm an cd ct),sl⟩) (c:codeIn K cd x=true) (k:keepIn K (.ref ad)=true):DefIn K x st
theorem DefIn.fn{st:Stmt}(d:DefIn K x st)(X:K.In h)(G:h.Ns mainGlobals mg):∃f fd,nH K x x st f fd/\mg x=some (.ref f):=by
 obtain⟨a,l,c,k⟩:=d
 exact⟨_,_,Ag (st:=st) l c k,mg_of X G a⟩
theorem Uu:∀{l:List Value},l.length=1->∃a,l=[a]
 |[a],_=>⟨a,rfl⟩
theorem SN:∀{l:List Value},l.length=2->∃a b,l=[a,b]
 |[a,b],_=>⟨a,b,rfl⟩
theorem Uv:∀{l:List Value},l.length=3->∃a b c,l=[a,b,c]
 |[a,b,c],_=>⟨a,b,c,rfl⟩
theorem Uw:∀{l:List Value},l.length=4->∃a b c d,l=[a,b,c,d]
 |[a,b,c,d],_=>⟨a,b,c,d,rfl⟩
theorem UT:∀{l:List Value},l.length=5->∃a b c d e,l=[a,b,c,d,e]
 |[a,b,c,d,e],_=>⟨a,b,c,d,e,rfl⟩
theorem UU:∀{l:List Value},l.length=6->∃a b c d e f,l=[a,b,c,d,e,f]
 |[a,b,c,d,e,f],_=>⟨a,b,c,d,e,f,rfl⟩
section
variable{P:Program}{w:World}{K:Frag}{mg:Str->Option Value}{base:Heap}{k n:Nat}{x:Str}{st:Stmt}{f:Addr}{fd:FuncData}{ps:List Str}{G:List W->List al->R W}
theorem Nl{h:Heap}(d:DefIn K x st)(X:K.In h)(Gs:h.Ns mainGlobals mg)(ok:∀{f:Addr} {fd:FuncData},nH K x x st f fd->fV P w K mg base (ja P w) k f fd ps (nT K mg n G))(hn:ps.length=n:=by rfl)
  (hb:∀(kV j9 pm:Value) (an:Option Addr) (gu ct:Value) (us:List Value),us.length=ps.length->bindArgs (fnOf x x (fm st) (dZ st) (aL st) .none kV j9 pm an gu ct) ⟨us,[]⟩=pure (ps.zip us):=by(intro _ _ _ _ _ _ _ q;first|(obtain⟨_,rfl⟩:=Uu q;rfl)|(obtain⟨_,_,rfl⟩:=SN q;rfl)|(obtain⟨_,_,_,rfl⟩:=Uv q;rfl)|(obtain⟨_,_,_,_,rfl⟩:=Uw q;rfl)|(obtain⟨_,_,_,_,_,rfl⟩:=UT q;rfl)|(obtain⟨_,_,_,_,_,_,rfl⟩:=UU q;rfl))):gc P w K mg base k x n G:=let ⟨_,_,F,m⟩:=d.fn X Gs;IP F m hn hb (ok F)
end
def Pe:List Str->Bool
 |[]=>true
 |x::r=>!(r.any fun y=>y==x)&&Pe r
theorem wP:∀{l:List Str},Pe l=true->l.Nodup
 |[],_=>.nil
 |x::r,h=>by
  simp only[Pe,bA,fZ,lT,gJ]at h
  exact bF.mpr ⟨fun m=>h.1 x m rfl,wP h.2⟩
section
variable{fe:FE}{sp:Scope}
theorem q_{N:List Str}(a:sp.kind=.function:=by rfl)(b:sp.isCoroutine=false:=by rfl)(c:sp.isGenerator=false:=by rfl)(d:N.Nodup:=by decide +kernel)(f:N.take ps.length=ps:=by rfl)(g:∀x∈ps,sp.names.lookup x=some .local\/sp.names.lookup x=some .cell:=by decide +kernel)(h:∀y∈sp.names,y.2≠.free:=by decide +kernel):b_ N ps sp:=⟨a,b,c,d,f,g,h⟩
theorem sS(i:Nat){nq:Pos}(sc:b_ X.N ps sp)(he:SE X e fe)(hi:X.N[i]?=some x:=by rfl)(hx:Cq X.env.scope x:=by first|exact .inl rfl|exact .inr rfl)(hs:swapsWith e (some (.Name x nq)) pos.line X.env=pure false:=by rfl)(hf:X.fn x=true\/X.env.scope.names.lookup x=some .local:=by first|exact .inl rfl|exact .inr rfl|assumption) :
  SS X (.Assign [.Name x nq] e pos) (cb i fe):=M_ sc.nd hi hx he hs hf
theorem sG(i:Nat)(sc:b_ X.N ps sp)(hi:X.N[i]?=some x:=by rfl)(hx:Cq X.env.scope x:=by first|exact .inl rfl|exact .inr rfl)(hf:X.fn x=true\/X.env.scope.names.lookup x=some .local:=by first|exact .inl rfl|exact .inr rfl|assumption):SG X (.Name x pos) (eA i):=sX sc.nd hi hx hf
theorem sC{cl:List (Str×Addr)}{C s0 H0 fp}(i:Nat)(hN:nm.Nodup:=by decide +kernel)(hi:nm[i]?=some x:=by rfl)(hx:Cq (bV X nm scope cl C s0 H0 fp).env.scope x:=by first|exact .inl rfl|exact .inr rfl)(hf:(bV X nm scope cl C s0 H0 fp).fn x=true\/(bV X nm scope cl C s0 H0 fp).env.scope.names.lookup x=some .local:=by first|exact .inl rfl|exact .inr rfl|assumption) :
  SG (bV X nm scope cl C s0 H0 fp) (.Name x pos) (eA i):=sX (X:=bV X nm scope cl C s0 H0 fp) hN hi hx hf
theorem UV{cl:List (Str×Addr)}{C s0 H0 fp}(i:Nat)(hN:Pe nm=true:=by first|rfl|kernel_rfl)(hi:nm[i]?=some x:=by rfl)(hx:Cq (bV X nm scope cl C s0 H0 fp).env.scope x:=by first|exact .inl rfl|exact .inr rfl)(hf:(bV X nm scope cl C s0 H0 fp).fn x=true\/(bV X nm scope cl C s0 H0 fp).env.scope.names.lookup x=some .local:=by first|exact .inl rfl|exact .inr rfl|assumption) :
  SG (bV X nm scope cl C s0 H0 fp) (.Name x pos) (eA i):=sX (X:=bV X nm scope cl C s0 H0 fp) (wP hN) hi hx hf
end
def Jm:Expr->List Str
 |.Name x _=>[x]
 |.Tuple es _ _=>es.filterMap fun e=>match e with
  |.Name x _=>some x
  |_=>none
 |_=>[]
def Nm(N:List Str):List Str->List (Option Nat)->List Str
 |_,[]=>[]
 |ts,some j::r=>N.getD j "" :: Nm N ts r
 |ts,none::r=>ts.headD "" :: Nm N ts.tail r
abbrev KY(X:Cx)(tg:Expr)(cap:List (Option Nat)):List Str:=Nm X.N (Jm tg) cap
section
variable{fi:FI}{f:FG}{t:FT}{el:FE}
theorem BF(gE:X.env.cells=cellsFrom m X.env.scope.names [])(hi:SI X tg b9 fi)(hg:∀cl C s0 H0 fp,SG (bV X (KY X tg cap) scope cl C s0 H0 fp) tg f)(ht:∀cl C s0 H0 fp,HC (bV X (KY X tg cap) scope cl C s0 H0 fp) jb t)
  (he:∀cl C s0 H0 fp,SE (bV X (KY X tg cap) scope cl C s0 H0 fp) km el) (hB:tP X.env.scope.names scope.names (KY X tg cap) cap X.N=true:=by first|rfl|kernel_rfl) (fC:X.calm=true:=by rfl) (ef:scope.kind=.function:=by rfl) (hs:∀x,foldedSetIterable b9 X.env x=pure x:=by intro _;rfl) :
  SE X (.ListComp km [⟨tg,b9,jb,0⟩] scope pos) (cY cap fi f t el):=pY hB gE hi hg ht he fC ef hs
theorem sj{x0:Str}{p0 p1:Pos}(Ki:SG X (.Name x0 p0) (eA i))(gE:X.env.cells=cellsFrom m X.env.scope.names [])(hi:SI X tg b9 fi)(hg:∀cl C s0 H0 fp,SG (bV X (KY X tg cap) scope cl C s0 H0 fp) tg f)(ht:∀cl C s0 H0 fp,HC (bV X (KY X tg cap) scope cl C s0 H0 fp) jb t)
  (he:∀cl C s0 H0 fp,SE (bV X (KY X tg cap) scope cl C s0 H0 fp) km el) (hB:tP X.env.scope.names scope.names (KY X tg cap) cap X.N=true:=by first|rfl|kernel_rfl) (Kp:swapsWith (.ListComp km [⟨tg,b9,jb,0⟩] scope pos) (some (.Name x0 p0)) p1.line X.env=pure true:=by first|rfl|kernel_rfl) (fC:X.calm=true:=by rfl) (ef:scope.kind=.function:=by rfl) (hs:∀x,foldedSetIterable b9 X.env x=pure x:=by intro _;rfl) :
  SS X (.Assign [.Name x0 p0] (.ListComp km [⟨tg,b9,jb,0⟩] scope pos) p1) (sM (cY cap fi f t el) (eA i)):=tZ Ki hB gE hi hg ht he fC ef hs Kp
end
end L2
variable{t:L2.FT}{ρ:L2.ca}{fa fb fe el:L2.FE}{fi:L2.FI}
namespace HT
open PySem PyProof.Rows
section
open PySem.SeqAt
open PySem.AutoSeq1 (wpAny_loadPart')
open PySem.MeetsSeq PySem.MeetsSeq2 PySem.MeetsSeq3
end
end HT
namespace L2
open PySem PySem.Spec PyProof.Rows
section
end
end L2
namespace PK
open PySem
section
variable{w:World}{K1 K2:Type}[DecidableEq K1][DecidableEq K2](knd:KeyKind prog w K1)(hk:HeapKind prog w K2)
def Is(h:Heap)(k:K1×K2)(a:Addr):Prop:=∃o v b n,h.get? a=some o/\o.cls=.type "tuple"/\o.data=.seq #[v,.ref b] n/\knd.is k.1 v=true/\hk.is h k.2 b
def hash(k:K1×K2):Int:=reduceHash (Builtin.Tuple.tupleHashOf [knd.hash k.1,hk.hash k.2])
variable{knd hk}
theorem Is.typeIs{k:K1×K2}(x:Is knd hk s.heap k a):s.TypeIs (.ref a) "tuple":=let ⟨o,_,_,_,ho,hc,_⟩:=x;⟨o,ho,hc⟩
theorem Is.inj{x y:K1×K2}(hx:Is knd hk h x a)(hy:Is knd hk h y a):x=y:=by
 obtain⟨o,v,b,n,ho,_,hd,h1,h2⟩:=hx
 obtain⟨o',v',b',n',uR,_,hd',h1',h2'⟩:=hy
 obtain rfl:o=o':=a9 (ho.symm.trans uR)
 rw[hd]at hd'
 injection hd' with e _
 have e:=eY Array.toList e
 simp only[List.cons.injEq,Value.ref.injEq,and_true]at e
 obtain⟨rfl,rfl⟩:=e
 exact Prod.ext (knd.inj _ _ _ h1 h1') (hk.inj h2 h2')
theorem Is.keeps{k:K1×K2}{d:Addr}{es ep}(x:Is knd hk h k a)(ho:h.get? d=some o)(hd:o.data=.dict es ep)(hs:Heap.SameBut d h h'):Is knd hk h' k a:=by
 obtain⟨o',v,b,n,uR,hc,hd',h1,h2⟩:=x
 have hne:a≠d:=by
  rintro rfl
  obtain rfl:o'=o:=a9 (uR.symm.trans ho)
  rw[hd]at hd';exact nomatch hd'
 exact⟨o',v,b,n,(hs.2 a hne).trans uR,hc,hd',h1,hk.keeps h2 ho hd hs⟩
theorem pyHash{k:K1×K2}{Q:Int->Shared->Prop}(hu:A.units<cLine)(hr:hk.room A.in1)(hx:Is knd hk s.heap k a)(h:Q (hash knd hk k) { s with toks:=s.toks+(1+hk.draws k.2+1) }) :
  wpAny (model prog w) A (PySem.pyHash (.ref a)) Q E s:=by
 have hT:=hx.typeIs
 obtain⟨o,v,b,n,ho,_,hd,h1,h2⟩:=hx
 unfold PySem.pyHash
 first|unfold pyHashByItsType|skip
 first|refine aa (wpAny_cRoomFor_or (.inr hu) ?_)|skip
 refine aa (gT hT F.slot_tuple_hash.lookup ?_)
 show wpAny _ _ (if (some (Value.builtin "tuple.__hash__")==some Value.none)=true then _ else _) Q E s
 rw[az (by rw[beq_builtin_none];exact bK)]
 refine aa (gT hT F.slot_tuple_hash.lookup ?_)
 show wpAny _ _ (callSpecialIfBoundUnlessNone? (.ref a) "__hash__" _ >>= _) Q E s
 refine aa (wpAny_callSpecialIfBoundUnlessNone?_slot hT F.slot_tuple_hash (bp F.slot_tuple_hash hT F.entry_tuple_hash ?_ (F.args_tuple_hash_1 _)))
 show wpAny _ _ (Builtin.Tuple.tupleItemsOf (.ref a) >>= _) _ _ s
 refine aa (lB ho hd ?_)
 refine aa ?_
 rw[<- lD]
 refine jQ _
  (fun dQ (c:Array Int) s'=>(dQ=[v,.ref b]/\c.toList=[]/\s'=s)\/(dQ=[.ref b]/\c.toList=[knd.hash k.1]/\s'={ s with toks:=s.toks+1 })\/(dQ=[]/\c.toList=[knd.hash k.1,hk.hash k.2]/\s'={ s with toks:=s.toks+1+hk.draws k.2 }))
  _ ?_ ?_ _ _ (.inl ⟨rfl,rfl,rfl⟩)
 ·rintro x dQ c s' (⟨e,hc,rfl⟩|⟨e,hc,rfl⟩|⟨e,_⟩)
  ·injection e with e1 e2
   subst e1;subst e2
   refine aa (knd.pyHash h1 ?_)
   first
    |exact ae (.inr (.inl ⟨rfl,by simp[hc],rfl⟩))
    |exact aa (ae (ae (.inr (.inl ⟨rfl,by simp[hc],rfl⟩))))
  ·injection e with e1 e2
   subst e1;subst e2
   refine aa (hk.pyHash (k:=k.2) hr h2 ?_)
   first
    |exact ae (.inr (.inr ⟨rfl,by simp[hc],rfl⟩))
    |exact aa (ae (ae (.inr (.inr ⟨rfl,by simp[hc],rfl⟩))))
  ·cases e
 ·rintro c s' (⟨e,_⟩|⟨e,_⟩|⟨_,hc,rfl⟩)
  ·cases e
  ·cases e
  show wpAny _ _ (retInt (Builtin.Tuple.tupleHashOf c.toList)) _ _ _
  rw[hc]
  refine wpAny_ret_mkInt ?_
  show wpAny _ _ (if (decide (-(2:Int)^63<=Builtin.Tuple.tupleHashOf [knd.hash k.1,hk.hash k.2])&&decide (Builtin.Tuple.tupleHashOf [knd.hash k.1,hk.hash k.2]<2^63))=true then _ else _) Q E _
  unfold hash reduceHash at h
  by_cases hr:(decide (-(2:Int)^63<=Builtin.Tuple.tupleHashOf [knd.hash k.1,hk.hash k.2])&&decide (Builtin.Tuple.tupleHashOf [knd.hash k.1,hk.hash k.2]<2^63))=true
  ·rw[av hr]
   rw[av hr]at h
   exact ae (by simpa[Nat.add_assoc]using h)
  ·rw[az hr]
   rw[az hr]at h
   exact aa (fK (ae (by simpa[Nat.add_assoc]using h)))
theorem Jn{x y:K1×K2}{P:Fin->Shared->Prop}(hr:hk.room A)(hx:Is knd hk s.heap x a)(hy:Is knd hk s.heap y b)(h:P (.done (.ret (.bool (decide (x=y))))) s) :
  wpAny (model prog w) A (Builtin.«tuple.__eq__» ⟨[.ref a,.ref b],[]⟩) P E s:=by
 have hTb:=hy.typeIs
 obtain⟨oa,v,c,na,hoa,_,hda,h1,h2⟩:=hx
 obtain⟨ob,u,d,nb,DT,_,vf,g1,g2⟩:=hy
 show wpAny _ _ (isInstance (.ref b) (.type "tuple") >>= _) _ _ s
 refine aa (dB hTb jD ?_)
 simp only[eD,bZ,eL]
 refine aa (lB hoa hda ?_)
 refine aa (lB DT vf ?_)
 refine aa ?_
 refine jQ _
  (fun dQ r s'=>r.1=none/\s'=s/\((dQ=[(v,u),(.ref c,.ref d)])\/(dQ=[(.ref c,.ref d)]/\x.1=y.1)\/(dQ=[]/\x=y)))
  _ ?_ ?_ _ _ ⟨rfl,rfl,.inl rfl⟩
 ·rintro⟨p,q⟩ dQ r s' ⟨hr0,rfl,e|⟨e,e0⟩|⟨e,_⟩⟩
  ·injection e with e1 e2
   injection e1 with e3 e4
   subst e3;subst e4;subst e2
   refine aa (knd.eqBool (a:=x.1) (b:=y.1) h1 g1 ?_)
   by_cases z:x.1=y.1
   ·rw[aV z]
    simp only[eD,bZ,eL]
    exact ae ⟨rfl,rfl,.inr (.inl ⟨by first|rfl|trivial,z⟩)⟩
   ·rw[aH z]
    simp only[lz,gF]
    have hf:decide (x=y)=false:=aH fun e=>z (by rw[e])
    rw[hf]at h
    exact aa (ae (ae (ae h)))
  ·injection e with e1 e2
   injection e1 with e3 e4
   subst e3;subst e4;subst e2
   refine aa (hk.eqBool (x:=x.2) (y:=y.2) hr h2 g2 ?_)
   by_cases z:x.2=y.2
   ·rw[aV z]
    simp only[eD,bZ,eL]
    exact ae ⟨rfl,rfl,.inr (.inr ⟨by first|rfl|trivial,Prod.ext e0 z⟩)⟩
   ·rw[aH z]
    simp only[lz,gF]
    have hf:decide (x=y)=false:=aH fun e=>z (by rw[e])
    rw[hf]at h
    exact aa (ae (ae (ae h)))
  ·cases e
 ·rintro⟨r1,r2⟩ s' ⟨hr0,rfl,e|⟨e,_⟩|⟨_,e⟩⟩
  ·cases e
  ·cases e
  simp only at hr0
  subst hr0
  refine ae ?_
  rw[aV e]at h
  exact h
theorem eqBool{x y:K1×K2}{a b:Addr}{Q:Bool->Shared->Prop}(hu:A.units<cLine)(hr:hk.room A.in1)(hx:Is knd hk s.heap x a)(hy:Is knd hk s.heap y b)(h:Q (decide (x=y)) s) :
  wpAny (model prog w) A (PySem.eqBool (.ref a) (.ref b)) Q E s:=by
 unfold PySem.eqBool
 try with_reducible refine cx ?_
 show wpAny _ _ (if (Value.ref a==Value.ref b)=true then _ else _) Q E s
 by_cases hab:(Value.ref a==Value.ref b)=true
 ·rw[av hab]
  have e:a=b:=by have:=jM hab;injection this
  subst e
  obtain rfl:=hx.inj hy
  exact aa (fK (ae (by simpa using h)))
 ·rw[az hab]
  exact aa (wpAny_richCompare_same_room (op:=.Eq) hx.typeIs hy.typeIs F.slot_tuple_eq
   (bp F.slot_tuple_eq hx.typeIs F.entry_tuple_eq (Jn hr hx hy ⟨_,rfl,(fun e=>nomatch e),dL h⟩) (F.args_tuple_eq_2 _ _)) hu)
theorem quiet{k:K1×K2}{Q:Bool->Shared->Prop}(hq:∀{b:Addr} {Q:Bool->Shared->Prop},hk.is s.heap k.2 b->Q true s->wpAny (model prog w) A (eqIsQuiet 7 (.ref b)) Q E s)(hx:Is knd hk s.heap k a)(h:Q true s):wpAny (model prog w) A (eqIsQuiet 8 (.ref a)) Q E s:=by
 have hT:=hx.typeIs
 obtain⟨o,v,b,n,ho,_,hd,h1,h2⟩:=hx
 unfold eqIsQuiet
 refine aa (gT hT F.slot_tuple_eq.lookup ?_)
 show wpAny _ _ (isInstance (.ref a) (.type "tuple") >>= _) _ _ s
 refine aa (dB hT jD ?_)
 simp only[eD,bZ,eL]
 refine aa (bB ho hd ?_)
 refine aa ?_
 show wpAny _ _ (forIn #[v,Value.ref b] _ _) _ _ s
 rw[<- lD]
 refine jQ _ (fun dQ r s'=>r.1=none/\s'=s/\(dQ=[v,.ref b]\/dQ=[.ref b]\/dQ=[])) _ ?_ ?_ _ _ ⟨rfl,rfl,.inl rfl⟩
 ·rintro x dQ r s' ⟨hr,rfl,e|e|e⟩
  ·injection e with e1 e2
   subst e1;subst e2
   rw[eqIsQuiet_byValue _ (knd.byValue _ _ h1)]
   refine aa (ae ?_)
   simp only[eD,bZ,eL]
   exact ae ⟨rfl,rfl,.inr (.inl (by first|rfl|trivial))⟩
  ·injection e with e1 e2
   subst e1;subst e2
   refine aa (hq h2 ?_)
   simp only[eD,bZ,eL]
   exact ae ⟨rfl,rfl,.inr (.inr (by first|rfl|trivial))⟩
  ·cases e
 ·rintro⟨r1,r2⟩ s' ⟨hr,rfl,_⟩
  simp only at hr
  subst hr
  exact ae h
end
theorem Dj{w:World}{K:Type}[DecidableEq K]{knd:KeyKind prog w K}(f:Nat){ks:List K}{Q:Bool->Shared->Prop}(hk:IsTupleKey knd s.heap ks a)(h:Q true s):wpAny (model prog w) A (eqIsQuiet (f+1) (.ref a)) Q E s:=by
 have hT:=hk.typeIs
 obtain⟨o,items,n,ho,_,hd,hi⟩:=hk
 unfold eqIsQuiet
 refine aa (gT hT F.slot_tuple_eq.lookup ?_)
 show wpAny _ _ (isInstance (.ref a) (.type "tuple") >>= _) _ _ s
 refine aa (dB hT jD ?_)
 simp only[eD,bZ,eL]
 refine aa (bB ho hd ?_)
 refine aa ?_
 show wpAny _ _ (forIn items _ _) _ _ s
 rw[<- lD]
 refine jQ _ (fun dQ r s'=>r.1=none/\s'=s/\∀v∈dQ,carriedByValue v=true) _ ?_ ?_ _ _ ⟨rfl,rfl,hi.byValue⟩
 ·rintro v dQ r s' ⟨hr,rfl,hall⟩
  rw[eqIsQuiet_byValue _ (hall v aS)]
  refine aa (ae ?_)
  simp only[eD,bZ,eL]
  exact ae ⟨rfl,rfl,fun u hu'=>hall u (aD _ hu')⟩
 ·rintro⟨r1,r2⟩ s' ⟨hr,rfl,_⟩
  simp only at hr
  subst hr
  exact ae h
def kind{w:World}{K1 K:Type}[DecidableEq K1][DecidableEq K](knd:KeyKind prog w K1)(kd:KeyKind prog w K):HeapKind prog w (K1×List K) where
 is:=Is knd (tupleKind kd)
 hash:=hash knd (tupleKind kd)
 draws:=fun k=>1+(k.2.length+1)+1
 room:=fun A=>A.units+1<cLine
 inj:=fun hx hy=>hx.inj hy
 keeps:=fun x ho hd hs=>x.keeps ho hd hs
 pyHash:=fun hu hk h=>pyHash (Nat.lt_of_succ_lt hu) hu hk h
 eqBool:=fun hu hx hy h=>eqBool (Nat.lt_of_succ_lt hu) hu hx hy h
 quiet:=fun hk h=>quiet (fun hb hq=>Dj 6 hb hq) hk h
section
variable{w:World}{K:Type}[DecidableEq K]{knd:HeapKind prog w K}
end
end PK
namespace L2
open PySem PySem.Spec PyProof.Rows
section
variable{w:World}{es:List DictEntry}
theorem KZ(ok:kP P w H h)(e:H a=some (xP a es)):DX a es h:=(show eO P w H h a (.ext (DX a es))from ok a _ e).1
theorem Nn(d:DX a es h):eO P w H h a (xP a es):=by
 refine⟨d,?_,fun h1 h2 ⟨o,ep,e,x,y⟩ k=>⟨o,ep,k o e,x,y⟩⟩
 obtain⟨o,ep,e,_⟩:=d
 exact⟨o,e⟩
theorem No(ok:kP P w H h)(e:H a=some (.dK [])):DX a [] h/\(a==sysModules)=false:=by
 obtain⟨_,hd,vs,rel,dd⟩:=KB ok e
 cases rel
 obtain⟨o,es,ep,h1,h2,h3,_,h4,_⟩:=dd
 refine⟨⟨o,ep,h1,h2,?_⟩,hd⟩
 rw[h3]
 have:es.toList=[]:=by
  cases hh:es.toList with
  |nil=>rfl
  |cons x l=>rw[hh]at h4;cases h4
 rw[show es=[].toArray from by apply Array.ext';rw[this]]
theorem BG(d:DX a es h)(q:Str):xP a es≠jX a q:=fun z=>by
 injection z with z
 have:=congrFun z h
 have c:∃o vs t,h.get? a=some o/\o.data=.fields vs/\vs[1]?=some (.str q t):=this▸d
 obtain⟨o,ep,e,_,y⟩:=d
 obtain⟨o',vs,t,e',y',_⟩:=c
 rw[e]at e';cases e'
 rw[y]at y';cases y'
end
section
variable{K:Type}[DecidableEq K]{knd:HeapKind X.prog X.w K}{xs:List (K×Addr×Value)}{k:K}
abbrev yP(knd:HeapKind X.prog X.w K)(xs:List (K×Addr×Value)):List DictEntry:=xs.map (entryOfKey knd)
theorem Fu(d:DX a (yP knd xs) s.heap)(A9:∀x∈xs,knd.is s.heap x.1 x.2.1)(hn:(xs.map (·.1)).Nodup):s.heap.DictOfH knd a xs:=by
 obtain⟨o,ep,h1,h2,h3⟩:=d
 exact⟨o,_,ep,h1,h2,h3,by simp,A9,hn⟩
theorem Jo{ys:List (K×Addr×Value)}(d:h'.DictOfH knd a ys):DX a (yP knd ys) h':=by
 obtain⟨o,es,ep,h1,h2,h3,h4,_⟩:=d
 refine⟨o,ep,h1,h2,?_⟩
 rw[h3,show es=(yP knd ys).toArray from by apply Array.ext';rw[h4]]
structure XD(knd:HeapKind X.prog X.w K)(H:Hp)(s:Shared)(a:Addr)(xs:List (K×Addr×Value)):Prop where
 d:DX a (yP knd xs) s.heap
 is:∀x∈xs,knd.is s.heap x.1 x.2.1
 nd:(xs.map (·.1)).Nodup
 sm:(a==sysModules)=false
 z:xs.length<=sizeLine
 mu:Mk (H a)
theorem Jp(hu:knd.room A.in1)(I:bE X af σ H s)(x:XD knd H s a xs)(hk:knd.is s.heap k b)(h:∀s',bE X af σ H s'->Q (.bool (!(atKey xs k).isSome)) s'):wpAny (model X.prog X.w) A (compareOp .NotIn (.ref b) (.ref a)) Q E s:=
 wpAny_notIn_heap hu hk x.sm (Fu x.d x.is x.nd) (h _ (I.tok _))
theorem QT{v:Value}{Q:Unit->Shared->Prop}(hu:knd.room A.in1)(I:bE X af σ H s)(x:XD knd H s a xs)(hk:knd.is s.heap k b)(h:∀s',bE X af σ (eJ H a (xP a (yP knd (storedH xs k b v)))) s'->Q () s'):wpAny (model X.prog X.w) A (setItem (.ref a) (.ref b) v) Q E s:=by
 refine wpAny_setItem_heap (hsz:=x.z) hu hk (Fu x.d x.is x.nd) fun h' dd hs=>h _ ?_
 have d:=Jo dd
 exact wq I x.mu hs (let ⟨q,_,hq,_⟩:=d;⟨q,hq⟩) (Nn d)
end
theorem ue:∀{ws:List W} {l:List Int},nL ws=some l->ws=l.map W.int
 |[],l,h=>by simp only[nL]at h;cases h;rfl
 |w::ws,l,h=>by
  cases w with
  |int z=>
   unfold nL at h
   cases e:nL ws with
   |none=>rw[e]at h;cases h
   |some r=>
    rw[e]at h
    cases h
    rw[ue e];rfl
  |_=>unfold nL at h;cases h
def sN:W->Option KX
 |.bl b=>some (.bo b)
 |.tup ws=>(match nL ws,ws with
  |some ks,_=>some (.fl ks)
  |none,[.int i,.tup vs]=>(nL vs).map (KX.pr i)
  |_,_=>none)
 |_=>none
theorem Ay{w:W}{k:KX}(h:sN w=some k):w=k.w:=by
 cases w with
 |bl b=>cases h;rfl
 |tup ws=>
  simp only[sN]at h
  cases e:nL ws with
  |some ks=>rw[e]at h;cases h;show _=W.tup _;rw[ue e]
  |none=>
   rw[e]at h
   split at h
   ·rename_i z
    cases z
   ·rename_i i vs e2
    cases e3:nL vs with
    |none=>rw[e3]at h;cases h
    |some ks=>rw[e3]at h;cases h;show _=W.tup [_,.tup _];rw[ue e3]
   ·cases h
 |_=>cases h
structure HV(X:Cx)(K:Type)[DecidableEq K] where
 knd:HeapKind X.prog X.w K
 em:K->KX
 inj:∀{a b:K},em a=em b->a=b
 hash:∀k,(em k).hash=knd.hash k
 is:∀{af:List (Addr×Obj)} {σ:St} {H:Hp} {s:Shared} {μ:List Addr} {k:K} {v:V} {u:Value},bE X af σ H s->bj X.K μ H (em k).w v->cf v u->∃b,u=.ref b/\knd.is s.heap k b
 room:∀{A:Around},A.units+2<cLine->knd.room A.in1
theorem items_int{w:World}:∀{ks:List Int} {its:List Value},cA (ks.map V.int) its->ItemsAre (intKind P w) ks its
 |[],_,r=>by cases r;exact .nil
 |k::ks,_,r=>by
  cases r with
  |cons h t=>
   obtain⟨q,rfl⟩:=h
   exact .cons (by simp[intKind,Value.isInt]) (items_int t)
theorem Fv:∀{ks:List Int} {vs:List V},RelWs K μ H (ks.map W.int) vs->vs=ks.map V.int
 |[],vs,r=>r.nilE
 |k::ks,vs,r=>by
  obtain⟨x,xs,rfl,a,b⟩:=r.consE
  rw[a.intE,Fv b];rfl
theorem Fw{ks:List Int}(I:bE X af σ H s)(r:bj X.K μ H (.tup (ks.map W.int)) v)(ru:cf v u):∃b,u=.ref b/\IsTupleKey (intKind X.prog X.w) s.heap ks b:=by
 obtain⟨p,vs,rfl,hS,q⟩:=r.tupE
 cases ru
 rw[Fv q]at hS
 obtain⟨its,r,⟨o,ho,hc,n,hd⟩,_⟩:=I.tuple hS
 exact⟨p,rfl,o,its.toArray,n,ho,hc,hd,items_int r⟩
def QU(X:Cx):HV X (List Int) where
 knd:=tupleKind (intKind X.prog X.w)
 em:=KX.fl
 inj:=fun h=>by injection h
 hash:=fun k=>rfl
 is:=fun I r ru=>Fw I r ru
 room:=fun{A} h=>by show A.units+1<cLine;omega
def QV(X:Cx):HV X (Int×List Int) where
 knd:=PK.kind (intKind X.prog X.w) (intKind X.prog X.w)
 em:=fun k=>.pr k.1 k.2
 inj:=fun{a b} h=>by injection h with h1 h2;exact Prod.ext h1 h2
 hash:=fun k=>rfl
 is:=fun{af σ H s μ k v u} I r ru=>by
  obtain⟨p,vs,rfl,hS,q⟩:=bj.tupE r
  cases ru
  obtain⟨x,xs,rfl,a,b⟩:=q.consE
  obtain⟨y,ys,rfl,c,d⟩:=b.consE
  have:=d.nilE;subst this
  cases a.intE
  obtain⟨its,r',⟨o,ho,hc,n,hd⟩,_⟩:=I.tuple hS
  obtain⟨u1,us,rfl,r1,r2⟩:∃u1 us,its=u1::us/\cf (.int k.1) u1/\cA [y] us:=by cases r' with|cons h t=>exact⟨_,_,rfl,h,t⟩
  obtain⟨u2,rfl,r3⟩:∃u2,us=[u2]/\cf y u2:=by
   cases r2 with
   |cons h t=>cases t;exact⟨_,rfl,h⟩
  obtain⟨b,rfl,hb⟩:=Fw I c r3
  obtain⟨t,rfl⟩:=r1
  exact⟨p,rfl,o,_,b,n,ho,hc,hd,by simp[intKind,Value.isInt],hb⟩
 room:=fun{A} h=>by show A.units+1+1<cLine;omega
def k7(kvs:List (KX×W))(k:KX):Option W:=(kvs.find? fun p=>decide (p.1=k)).map fun p=>p.2
def u8(kvs:List (KX×W))(k:KX)(v:W):List (KX×W):=if (k7 kvs k).isSome=true then kvs.map fun p=>if p.1=k then(p.1,v)else p else kvs++[(k,v)]
section
variable{K:Type}[DecidableEq K](G:HV X K)
def Vw(μ:List Addr)(H:Hp):List (KX×W)->List (K×Addr×Value)->Prop:=Paired fun p x=>p.1=G.em x.1/\bj X.K μ H p.1.w (.ref x.2.1)/\∃v,bj X.K μ H p.2 v/\cf v x.2.2
theorem uf(h:cf v (.ref b)):v=.ref b:=by
 cases v with
 |ref a=>cases h;rfl
 |non=>cases h
 |bl _=>cases h
 |ty _=>cases h
 |int _=>obtain⟨_,h⟩:=h;cases h
 |str _=>obtain⟨_,h⟩:=h;cases h
 |byt _=>obtain⟨_,h⟩:=h;cases h
 |flt _=>obtain⟨_,h⟩:=h;cases h
theorem wQ(I:bE X af σ H s):∀{kvs:List (KX×W)} {es:List DictEntry},Paired (pS X.K μ H) kvs es->(∀p∈kvs,∃k,p.1=G.em k)->∃xs,es=yP G.knd xs/\Vw G μ H kvs xs/\∀x∈xs,G.knd.is s.heap x.1 x.2.1
 |_,_,.nil,_=>⟨[],rfl,.nil,fun x hx=>by cases hx⟩
 |_,_,.cons (a:=p) (b:=e) r t,hk=>by
  obtain⟨xs,e1,vw,A9⟩:=wQ I t fun p hp=>hk p (aD _ hp)
  obtain⟨k,hpk⟩:=hk p (aS ..)
  obtain⟨hh,⟨v,rk,rv⟩,u,ru,jW⟩:=r
  obtain⟨b,hb,hi⟩:=G.is (k:=k) I (by rw[<- hpk];exact rk) rv
  have ev:v=.ref b:=uf (by rw[<- hb];exact rv)
  subst ev
  refine⟨(k,b,e.val)::xs,?_,.cons ⟨hpk,rk,u,ru,jW⟩ vw,fun x hx=>?_⟩
  ·rw[e1]
   show e::_=entryOfKey G.knd (k,b,e.val)::_
   congr 1
   obtain⟨eh,ek,ev⟩:=e
   simp only at hh hb
   subst hb
   rw[hh,hpk,G.hash];rfl
  ·rcases aG.mp hx with rfl|hx
   ·exact hi
   ·exact A9 x hx
variable{G}
theorem wR:∀{kvs:List (KX×W)} {xs:List (K×Addr×Value)} (k:K),Vw G μ H kvs xs->(∃w p v,k7 kvs (G.em k)=some w/\atKey xs k=some p/\bj X.K μ H w v/\cf v p.2)\/(k7 kvs (G.em k)=none/\atKey xs k=none)
 |_,_,k,.nil=>.inr ⟨rfl,rfl⟩
 |_,_,k,.cons (a:=p) (b:=x) (l₁:=kvs) (l₂:=xs) ⟨h1,_,v,h3,h4⟩ t=>by
  by_cases e:x.1=k
  ·refine .inl ⟨p.2,x.2,v,?_,?_,h3,h4⟩
   ·unfold k7;rw[ce];simp[h1,e]
   ·unfold atKey;rw[ce];simp[e]
  ·have e2:p.1≠G.em k:=fun z=>e (G.inj (h1.symm.trans z))
   have a1:k7 (p::kvs) (G.em k)=k7 kvs (G.em k):=by unfold k7;rw[ce];simp[e2]
   have a2:atKey (x::xs) k=atKey xs k:=by unfold atKey;rw[ce];simp[e]
   rw[a1,a2]
   exact wR k t
theorem rG:∀{kvs:List (KX×W)} {xs:List (K×Addr×Value)},Vw G μ H kvs xs->kvs.map (fun p=>p.1)=(xs.map (·.1)).map G.em
 |_,_,.nil=>rfl
 |_,_,.cons ⟨h1,_⟩ t=>by
  simp only[aI]
  rw[h1,rG t]
theorem vG:∀{kvs:List (KX×W)} {xs:List (K×Addr×Value)},Vw G μ H kvs xs->Paired (pS X.K μ H) kvs (yP G.knd xs)
 |_,_,.nil=>.nil
 |_,_,.cons ⟨h1,h2,h3⟩ t=>.cons ⟨by rw[h1,G.hash];rfl,⟨_,h2,rfl⟩,h3⟩ (vG t)
theorem yQ{k:K}{w:W}(jW:bj X.K μ H w v)(ru:cf v u):∀{kvs:List (KX×W)} {xs:List (K×Addr×Value)},Vw G μ H kvs xs->Vw G μ H (kvs.map fun p=>if p.1=G.em k then(p.1,w)else p) (xs.map (putAt k u))
 |_,_,.nil=>.nil
 |_,_,.cons (a:=p) (b:=x) ⟨h1,h2,h3⟩ t=>by
  refine .cons ?_ (yQ jW ru t)
  by_cases e:x.1=k
  ·simp only[]
   rw[av (by rw[h1,e])]
   unfold putAt
   rw[av e]
   exact⟨h1,h2,v,jW,ru⟩
  ·simp only[]
   rw[az fun z=>e (G.inj (h1.symm.trans z))]
   unfold putAt
   rw[az e]
   exact⟨h1,h2,h3⟩
theorem Fx{k:K}{w:W}{xs:List (K×Addr×Value)}(vw:Vw G μ H kvs xs)(rk:bj X.K μ H (G.em k).w (.ref b))(jW:bj X.K μ H w v)(ru:cf v u):Vw G μ H (u8 kvs (G.em k) w) (storedH xs k b u):=by
 unfold u8 storedH
 rcases wR (G:=G) k vw with⟨w',p,v',e1,e2,_⟩|⟨e1,e2⟩
 ·rw[e1,e2]
  exact yQ jW ru vw
 ·rw[e1,e2]
  simp only[Option.isSome_none,bZ,eL]
  exact Paired.snoc vw ⟨rfl,rk,v,jW,ru⟩
end
def KX.tag:KX->Nat
 |.bo _=>0
 |.fl _=>1
 |.pr _ _=>2
def BH(kvs:List (KX×W))(k:KX):Bool:=decide (k.tag≠0)&&kvs.all fun p=>p.1.tag==k.tag
def qw(st:List al):W->Option (Nat×List (KX×W))
 |.loc n=>(match st[n]? with
  |some (.dcx kvs)=>some (n,kvs)
  |some (.dct [])=>some (n,[])
  |_=>none)
 |_=>none
section
structure Dc(X:Cx)(μ:List Addr)(H:Hp)(s:Shared)(st:List al)(n:Nat)(kvs:List (KX×W))(a:Addr)(es:List DictEntry):Prop where
 m:μ[n]?=some a
 c:∃c,st[n]?=some c/\c.isRo=false
 o:∃o,H a=some o/\(∀q u,o≠.frz q u)/\∀q,o≠jX a q
 d:DX a es s.heap
 sm:(a==sysModules)=false
 p:Paired (pS X.K μ H) kvs es
 nd:(kvs.map fun p=>p.1).Nodup
 mu:Mk (H a)
 sq:∀es',dg X.K H (eJ H a (xP a es'))
theorem fj.butE{l:Addr}(e:P5 l H H')(hl:H l=some (.ext φ)):dg K H H':=by
 have hne:∀{p:Addr} {o:HO},H p=some o->(∀zs,o≠.ext zs)->p≠l:=fun{p o} q hn z=>by subst z;rw[hl]at q;cases q;exact hn _ rfl
 refine⟨fun p ys h=>?_,fun b o u h=>e _ _ (hne h (fun _ z=>by cases z)) h⟩
 rcases h with(h|⟨o,h⟩)|h
 ·exact .inl (.inl (e _ _ (hne h (fun _ z=>by cases z)) h))
 ·exact .inl (.inr ⟨o,e _ _ (hne h (fun _ z=>by cases z)) h⟩)
 ·exact .inr h
theorem yR(I:bE X af σ H s)(S:fO X.K X.mg μ st H){x:W}(h:qw st x=some (n,kvs))(r:bj X.K μ H x v):∃a es,v=.ref a/\Dc X μ H s st n kvs a es:=by
 cases x with
 |loc m=>
  simp only[qw]at h
  cases e:st[m]? with
  |none=>rw[e]at h;cases h
  |some c=>
   rw[e]at h
   cases c with
   |dcx z=>
    cases h
    obtain⟨a,g,es,k,hd,p,nd⟩:=S.get e
    obtain⟨b,f,rfl⟩:=r.locE
    rw[g]at f;cases f
    have d:=KZ I.hok k
    exact⟨a,es,rfl,g,⟨_,e,rfl⟩,⟨_,k,(fun _ _ z=>by cases z),BG d⟩,d,hd,p,nd,by rw[k];trivial,fun es'=>fj.butE jd k⟩
   |dct z=>
    cases z with
    |cons _ _=>cases h
    |nil=>
     cases h
     obtain⟨a,g,vs,k,rr⟩:=S.get e
     obtain⟨b,f,rfl⟩:=r.locE
     rw[g]at f;cases f
     have k:H a=some (.dK []):=k
     obtain⟨d,hd⟩:=No I.hok k
     exact⟨a,[],rfl,g,⟨_,e,rfl⟩,⟨_,k,(fun _ _ z=>by cases z),fun _ z=>by cases z⟩,d,hd,.nil,ik,by rw[k];trivial,fun es'=>fj.butD jd k⟩
   |_=>cases h
 |_=>cases h
theorem BI{K:Type}[DecidableEq K](G:HV X K){es:List DictEntry}(I:bE X af σ H s)(D:Dc X μ H s st n kvs a es)(hk:∀p∈kvs,∃k,p.1=G.em k)(hl:kvs.length<=sizeLine):∃xs,XD G.knd H s a xs/\Vw G μ H kvs xs:=by
 obtain⟨xs,e,vw,A9⟩:=wQ G I D.p hk
 have hn:(xs.map (·.1)).Nodup:=by
  have:=D.nd
  rw[rG vw]at this
  exact(l6.mp this).imp fun h e=>h (eY _ e)
 exact⟨xs,⟨by rw[<- e];exact D.d,A9,hn,D.sm,by rw[<- Paired.length vw];exact hl,D.mu⟩,vw⟩
theorem yS{k:KX}(h:BH kvs k=true):(∃ks,k=.fl ks/\∀p∈kvs,∃q,p.1=(QU X).em q)\/∃i ks,k=.pr i ks/\∀p∈kvs,∃q,p.1=(QV X).em q:=by
 unfold BH at h
 rw[bA,fE]at h
 obtain⟨h0,h1⟩:=h
 cases k with
 |bo b=>simp[KX.tag]at h0
 |fl ks=>
  refine .inl ⟨ks,rfl,fun p hp=>?_⟩
  have:=h1 p hp
  cases e:p.1 with
  |fl q=>exact⟨q,rfl⟩
  |bo _=>rw[e]at this;simp[KX.tag]at this
  |pr _ _=>rw[e]at this;simp[KX.tag]at this
 |pr i ks=>
  refine .inr ⟨i,ks,rfl,fun p hp=>?_⟩
  have:=h1 p hp
  cases e:p.1 with
  |pr j q=>exact⟨(j,q),rfl⟩
  |bo _=>rw[e]at this;simp[KX.tag]at this
  |fl _=>rw[e]at this;simp[KX.tag]at this
def Dk(kvs:List (KX×W))(k:KX):Bool:=BH kvs k&&decide (kvs.length<jx)
theorem K0{Pr:Prop}{es:List DictEntry}{k:KX}(I:bE X af σ H s)(D:Dc X μ H s st n kvs a es)(h:Dk kvs k=true)(rk:bj X.K μ H k.w v)(ru:cf v u)
  (hh:∀(K:Type) [DecidableEq K] (G:HV X K) (q:K) (b:Addr) (xs:List (K×Addr×Value)),k=G.em q->v=.ref b->u=.ref b->G.knd.is s.heap q b->XD G.knd H s a xs->Vw G μ H kvs xs->Pr):Pr:=by
 unfold Dk at h
 rw[bA,cS]at h
 have hl:kvs.length<=sizeLine:=iX (dH h.2)
 rcases yS (X:=X) h.1 with⟨ks,rfl,hk⟩|⟨i,ks,rfl,hk⟩
 ·obtain⟨xs,xd,vw⟩:=BI (QU X) I D hk hl
  obtain⟨b,rfl,hb⟩:=(QU X).is (k:=ks) I rk ru
  exact hh _ (QU X) ks b xs rfl (uf ru) rfl hb xd vw
 ·obtain⟨xs,xd,vw⟩:=BI (QV X) I D hk hl
  obtain⟨b,rfl,hb⟩:=(QV X).is (k:=(i,ks)) I rk ru
  exact hh _ (QV X) (i,ks) b xs rfl (uf ru) rfl hb xd vw
def Dl(xU:Bool)(x y:W)(st:List al):R W:=match qw st y,sN x with
 |some (_,kvs),some k=>if Dk kvs k=true then .ok (.bl (if xU then !(k7 kvs k).isSome else(k7 kvs k).isSome)) st else .bad
 |_,_=>.bad
theorem Fy(xU:Bool)(x y:W)(st:List al):pe (Dl xU x y st):=by
 unfold Dl
 split
 ·split<;>trivial
 ·trivial
theorem vH{K:Type}[DecidableEq K]{G:HV X K}{xs:List (K×Addr×Value)}(k:K)(vw:Vw G μ H kvs xs):(atKey xs k).isSome=(k7 kvs (G.em k)).isSome:=by
 rcases wR k vw with⟨w,p,v,e1,e2,_⟩|⟨e1,e2⟩<;>rw[e1,e2]<;>rfl
theorem Fz(hr:hX kk X.A):qo X (compareOp .NotIn) (Dl true):=⟨fun af s σ H x y v u Q I rv ru ⟨μ,st,wx,wy,S,rx,ry,q⟩=>by
 unfold Dl at q
 cases e:qw st wy with
 |none=>rw[e]at q;exact q.elim
 |some nk=>
  obtain⟨n,kvs⟩:=nk
  cases ek:sN wx with
  |none=>rw[e,ek]at q;exact q.elim
  |some k=>
   rw[e,ek]at q
   simp only at q
   by_cases hx:Dk kvs k=true
   ·rw[av hx]at q
    obtain⟨a,es,rfl,D⟩:=yR I S e ry
    obtain rfl:u=Value.ref a:=ru
    have:=Ay ek
    subst this
    refine K0 I D hx rx rv fun K inst G z b xs hk _ hb A9 xd vw=>?_
    subst hb
    refine Jp (G.room (by have:=hr.units;omega)) I xd A9 fun s' I'=>?_
    rw[vH z vw,<- hk]
    exact⟨.bl _,H,I',rfl,jg S q⟩
   ·rw[az hx]at q;exact q.elim,Fy true⟩
end
theorem Dm{k:KX}(h:k7 kvs k=none):k∉kvs.map fun p=>p.1:=fun z=>by
 obtain⟨p,hp,e⟩:=aJ.mp z
 unfold k7 at h
 rw[Option.map_eq_none_iff,List.find?_eq_none]at h
 exact h p hp (aV e)
theorem Jq(k:KX)(v:W)(h:(kvs.map fun p=>p.1).Nodup):((u8 kvs k v).map fun p=>p.1).Nodup:=by
 unfold u8
 by_cases z:(k7 kvs k).isSome=true
 ·rw[av z,aM]
  have:((fun p:KX×W=>p.1)∘fun p:KX×W=>if p.1=k then(p.1,v)else p)=fun p=>p.1:=by
   funext p
   show(if p.1=k then(p.1,v)else p).1=p.1
   split<;>rfl
  rw[this];exact h
 ·rw[az z,bG,f7]
  have hn:k7 kvs k=none:=by
   cases e:k7 kvs k with
   |none=>rfl
   |some _=>rw[e]at z;exact(z rfl).elim
  refine⟨h,by simp,fun a ha b hb=>?_⟩
  have:b=k:=by simpa using hb
  subst this
  exact fun e=>Dm hn (e▸ha)
def yT(x i v:W)(st:List al):Option (List al):=match qw st x,sN i with
 |some (n,kvs),some k=>if Dk kvs k=true then some (st.set n (.dcx (u8 kvs k v)))else none
 |_,_=>none
section
theorem Dc.put{K:Type}[DecidableEq K]{G:HV X K}{es:List DictEntry}(D:Dc X μ H s st n kvs a es)(S:fO X.K X.mg μ st H)
  {xs:List (K×Addr×Value)} {z:K} {b:Addr} {wv:W} {v:V} {u:Value} (vw:Vw G μ H kvs xs) (rk:bj X.K μ H (G.em z).w (.ref b)) (rv:bj X.K μ H wv v) (ru:cf v u) :
  fO X.K X.mg μ (st.set n (.dcx (u8 kvs (G.em z) wv))) (eJ H a (xP a (yP G.knd (storedH xs z b u)))):=by
 obtain⟨c,hc,xQ⟩:=D.c
 obtain⟨o,ho,hf,hg⟩:=D.o
 exact S.setG hc xQ D.m ho hf hg (D.sq _) rfl ⟨_,cO,D.sm,Paired.imp' (fun _ _ q=>q.mono (ac _) (D.sq _)) (vG (Fx vw rk rv ru)),Jq _ _ D.nd⟩
theorem Np(hr:hX kk X.A):HP X (E6 X yT):=fun af s σ H o i v ov iv u Q I r1 r2 r3 ⟨μ,st,wo,wi,wv,bD,S,ro,ri,rv,e,q⟩=>by
 unfold yT at e
 cases e1:qw st wo with
 |none=>rw[e1]at e;cases e
 |some nk=>
  obtain⟨n,kvs⟩:=nk
  cases e2:sN wi with
  |none=>rw[e1,e2]at e;cases e
  |some k=>
   rw[e1,e2]at e
   simp only at e
   split at e
   ·rename_i hx
    cases e
    obtain⟨a,es,rfl,D⟩:=yR I S e1 ro
    obtain rfl:ov=Value.ref a:=r1
    have:=Ay e2
    subst this
    refine K0 I D hx ri r2 fun K inst G z b xs hk hv hb A9 xd vw=>?_
    subst hk;subst hv;subst hb
    refine QT (G.room (by have:=hr.units;omega)) I xd A9 fun s' I'=>⟨_,I',?_⟩
    exact q _ (D.sq _) (D.put S vw ri rv r3)
   ·cases e
end
end L2
namespace PK
open PySem
section
variable{w:World}
end
end PK
namespace L2
open PySem PySem.Spec PyProof.Rows
section
variable{w:World}{K:Type}[DecidableEq K]{knd:KeyKind prog w K}{es:List DictEntry}{k:K}{key dflt:Value}
end
section
end
section
variable{w:World}{es:List DictEntry}
end
section
end
open AutoSeq1 (wpAny_loadPart')
abbrev wS(t:Addr):Obj:={ cls:=.type "list_iterator",data:=.fields #[.ref t,.int 0 0] }
section
variable{w:World}
end
section
end
section
variable{a:Expr}{fs:FA}
end
section
end
section
end
section
end
section
end
theorem wT{w:World}(e:h.get? a=some o):eO P w H h a (mv a o):=⟨e,⟨o,e⟩,fun h1 h2 p k=>k o p⟩
theorem Dn{u:Option Value}(e:h.get? a=some o)(hd:o.data=.cell u)(q:Str):mv a o≠jX a q:=fun z=>by
 have:=congrFun (HO.ext.inj z) h
 have t:∃o' vs t,h.get? a=some o'/\o'.data=.fields vs/\vs[1]?=some (.str q t):=cast this e
 obtain⟨o',vs,_,e1,e2,_⟩:=t
 rw[e]at e1;cases e1;rw[hd]at e2;cases e2
def drp(H:Hp)(c:Addr):Hp:=fun b=>if b=c then none else H b
theorem l_{c:Addr}(h:b≠c):drp H c b=H b:=by unfold drp;rw[az h]
theorem qx{c:Addr}:drp H c c=none:=by unfold drp;rw[av rfl]
section
variable{w:World}
theorem dg.drp{c:Addr}(hl:H c=some (.ext φ)):dg K H (drp H c):=by
 have hne:∀{p:Addr} {o:HO},H p=some o->(∀z,o≠.ext z)->p≠c:=fun{p o} q hn z=>by subst z;rw[hl]at q;cases q;exact hn _ rfl
 refine⟨fun p ys h=>?_,fun b o u h=>by rw[l_ (hne h (fun _ z=>by cases z))];exact h⟩
 rcases h with(h|⟨o,h⟩)|h
 ·exact .inl (.inl (by rw[l_ (hne h (fun _ z=>by cases z))];exact h))
 ·exact .inl (.inr ⟨o,by rw[l_ (hne h (fun _ z=>by cases z))];exact h⟩)
 ·exact .inr h
theorem kP.drp{c:Addr}(hok:kP P w H h)(hl:H c=some (.ext φ)):kP P w (drp H c) h:=fun b u e=>by
 by_cases hb:b=c
 ·subst hb;rw[qx]at e;cases e
 ·rw[l_ hb]at e
  refine(hok b u e).stay (fun _ _ _ q=>q) (fun x q=>?_) fun x xs q=>?_
  ·rw[l_ (by rintro rfl;rw[hl]at q;cases q)];exact q
  ·rw[l_ (by rintro rfl;rw[hl]at q;cases q)];exact q
theorem kP.put{c:Addr}(hok:kP P w H h)(hc:H c=none)(e:h.get? c=some o):kP P w (eJ H c (mv c o)) h:=fun b u q=>by
 by_cases hb:b=c
 ·subst hb;rw[cO]at q;cases q;exact wT e
 ·rw[bY hb]at q
  refine(hok b u q).stay (fun _ _ _ z=>z) (fun x z=>?_) fun x xs z=>?_
  ·rw[bY (by rintro rfl;rw[hc]at z;cases z)];exact z
  ·rw[bY (by rintro rfl;rw[hc]at z;cases z)];exact z
theorem m8{l:List α}{x d:α}(e:(l.set j x)[i]?=some d):(i=j/\d=x/\j<l.length)\/(i≠j/\l[i]?=some d):=by
 by_cases q:j=i
 ·subst q
  have hl:j<l.length:=by have:=(ao.mp e).1;simpa using this
  rw[bP hl]at e
  exact .inl ⟨rfl,(a9 e).symm,hl⟩
 ·rw[cB q]at e;exact .inr ⟨Ne.symm q,e⟩
theorem fO.hide{k:Bool}{c:Addr}{x:W}{u:Option Value}(S:fO K mg μ st H)(hj:st[j]?=some (.pin k c o x))(e:h.get? c=some o)(hd:o.data=.cell u):fO K mg μ (st.set j .gone) (L2.drp H c):=by
 obtain⟨a,hm,rfl,hc,_⟩:=S.get hj
 have xt:dg K H (L2.drp H a):=dg.drp hc
 refine⟨fun i i' b ci cj h1 h2 r1 r2 m1 m2=>?_,by simp[S.len],fun i d b h1 h2=>?_⟩
 ·rcases m8 h1 with⟨rfl,rfl,_⟩|⟨_,h1⟩
  ·cases r1
  ·rcases m8 h2 with⟨rfl,rfl,_⟩|⟨_,h2⟩
   ·cases r2
   ·exact S.nd i i' b ci cj h1 h2 r1 r2 m1 m2
 ·rcases m8 h1 with⟨rfl,rfl,_⟩|⟨hij,h1⟩
  ·trivial
  ·have r:=S.at' i d b h1 h2
   by_cases hrd:d.isRo=true
   ·cases d with
    |ro zs=>
     obtain⟨us,p,q⟩:=r
     refine⟨us,?_,q.mono (ac _) xt⟩
     rcases p with⟨o2,p⟩|p
     ·exact .inl ⟨o2,xt.z _ _ _ p⟩
     ·exact .inr p
    |gone=>trivial
    |lst _=>cases hrd
    |exc _=>cases hrd
    |dct _=>cases hrd
    |rod _=>cases hrd
    |dcx _=>cases hrd
    |rox _=>cases hrd
    |tab _ _ _=>cases hrd
    |pin _ _ _ _=>cases hrd
   ·have hb:b≠a:=by
     rintro rfl
     exact hij (S.nd i j b d _ h1 hj (by simpa using hrd) rfl h2 hm)
    refine r.keep (ac _) xt (fun o' ho=>by rw[l_ hb];exact ho) fun b' q z=>?_
    rw[l_ (by rintro rfl;rw[hc]at z;exact Dn e hd _ (a9 z))];exact z
theorem fO.take'{c:Addr}{x:W}(S:fO K mg μ st H)(hj:st[j]?=some .gone)(hm:μ[j]?=some c)(hc:H c=none)(rx:bj K μ H x v)(hd:∃u,o.data=.cell (some u)/\cf v u):fO K mg μ (st.set j (.pin true c o x)) (eJ H c (mv c o)):=by
 have hs:o_ H (eJ H c (mv c o)):=cn hc _
 have S':=S.same hs
 refine⟨fun i i' b ci cj h1 h2 r1 r2 m1 m2=>?_,by simp[S.len],fun i d b h1 h2=>?_⟩
 ·rcases m8 h1 with⟨y1,y2,_⟩|⟨hi,g1⟩
  ·rcases m8 h2 with⟨z1,_,_⟩|⟨hi2,g2⟩
   ·rw[y1,z1]
   ·rw[y1,hm]at m1;cases m1
    obtain⟨o',z⟩:=(S.at' i' cj c g2 m2).ro_ne r2
    rw[hc]at z;cases z
  ·rcases m8 h2 with⟨z1,_,_⟩|⟨_,g2⟩
   ·rw[z1,hm]at m2;cases m2
    obtain⟨o',z⟩:=(S.at' i ci c g1 m1).ro_ne r1
    rw[hc]at z;cases z
   ·exact S.nd i i' b ci cj g1 g2 r1 r2 m1 m2
 ·rcases m8 h1 with⟨rfl,rfl,_⟩|⟨_,h1⟩
  ·rw[hm]at h2;cases h2
   exact⟨rfl,cO,(fun z=>by cases z),v,rx.mono (ac _) (fj.same hs),fun _=>hd⟩
  ·exact S'.at' i d b h1 h2
abbrev j5:=Nat×Addr×Obj×W
def sk:List Nat->List al->Option (List j5×List al)
 |[],st=>some ([],st)
 |j::js,st=>match st[j]? with
  |some (.pin true c o x)=>(match sk js (st.set j .gone)with
   |some (l,bD)=>some ((j,c,o,x)::l,bD)
   |none=>none)
  |_=>none
def oE:List j5->Hp->Hp
 |[],H=>H
 |x::l,H=>oE l (drp H x.2.1)
theorem mB:∀{l:List j5} {H:Hp} {b:Addr},(∀x∈l,x.2.1≠b)->oE l H b=H b
 |[],_,_,_=>rfl
 |x::l,H,b,n=>by
  show oE l (drp H x.2.1) b=_
  rw[mB fun y hy=>n y (aD _ hy),l_ (Ne.symm (n x aS))]
theorem wU{l:List j5}(h:∃x∈l,x.2.1=b):oE l H b=none:=by
 induction l generalizing H with
 |nil=>obtain⟨y,hy,_⟩:=h;exact absurd hy (by simp)
 |cons x l ih=>
  unfold oE
  by_cases q:∃z∈l,z.2.1=b
  ·exact ih q
  ·rw[mB fun z hz e'=>q ⟨z,hz,e'⟩]
   obtain⟨y,hy,e⟩:=h
   rcases aG.mp hy with r|r
   ·rw[<- e,r];exact qx
   ·exact absurd ⟨y,r,e⟩ q
def yU(K:Frag)(μ:List Addr)(H:Hp)(h:Heap)(x:j5):Prop:=μ[x.1]?=some x.2.1/\h.get? x.2.1=some x.2.2.1/\∃u v,x.2.2.1.data=.cell (some u)/\cf v u/\bj K μ H x.2.2.2 v
theorem yV:∀{js:List Nat} {st bD:List al} {H:Hp} {l:List j5},fO K mg μ st H->kP P w H h->sk js st=some (l,bD) ->
  fO K mg μ bD (oE l H)/\kP P w (oE l H) h/\dg K H (oE l H)/\(∀x∈l,yU K μ (oE l H) h x/\H x.2.1=some (mv x.2.1 x.2.2.1))/\(l.map fun x=>x.2.1).Nodup
 |[],st,bD,H,l,S,hok,e=>by cases e;exact⟨S,hok,dg.refl,fun _ z=>absurd z (by simp),ik⟩
 |j::js,st,bD,H,l,S,hok,e=>by
  unfold sk at e
  split at e
  ·rename_i c o x hj
   split at e
   ·rename_i l1 st1 h1
    cases e
    obtain⟨a,hm,rfl,hc,_,v,rx,g⟩:=S.get hj
    obtain⟨u,hu,ru⟩:=g rfl
    obtain⟨ge,_⟩:=hok _ _ hc
    have x1:dg K H (L2.drp H a):=dg.drp hc
    obtain⟨r1,r2,r3,r4,r5⟩:=yV (S.hide hj ge hu) (hok.drp hc) h1
    refine⟨r1,r2,x1.trans r3,fun y hy=>?_,bF.mpr ⟨fun z=>?_,r5⟩⟩
    ·rcases aG.mp hy with rfl|hy
     ·exact⟨⟨hm,ge,u,v,hu,ru,rx.mono (ac _) (x1.trans r3)⟩,hc⟩
     ·obtain⟨q1,q2⟩:=r4 y hy
      refine⟨q1,?_⟩
      by_cases hb:y.2.1=a
      ·rw[hb,qx]at q2;cases q2
      ·rw[l_ hb]at q2;exact q2
    ·obtain⟨y,hy,e2⟩:=aJ.mp z
     have:=(r4 y hy).2
     rw[show y.2.1=a from e2,qx]at this;cases this
   ·cases e
  ·cases e
def Az:List j5->List al->Option (List al)
 |[],st=>some st
 |(j,c,o,x)::l,st=>match st[j]? with
  |some .gone=>Az l (st.set j (.pin true c o x))
  |_=>none
def sP:List j5->Hp->Hp
 |[],H=>H
 |x::l,H=>sP l (eJ H x.2.1 (mv x.2.1 x.2.2.1))
theorem ji:∀{l:List j5} {H:Hp} {b:Addr},(∀x∈l,x.2.1≠b)->sP l H b=H b
 |[],_,_,_=>rfl
 |x::l,H,b,n=>by
  show sP l (eJ H x.2.1 _) b=_
  rw[ji fun y hy=>n y (aD _ hy),bY (Ne.symm (n x aS))]
theorem BJ:∀{l:List j5} {st bD:List al} {H:Hp},fO K mg μ st H->kP P w H h->(∀x∈l,yU K μ H h x/\H x.2.1=none)->(l.map fun x=>x.2.1).Nodup->Az l st=some bD ->
  fO K mg μ bD (sP l H)/\kP P w (sP l H) h/\dg K H (sP l H)
 |[],st,bD,H,S,hok,_,_,e=>by cases e;exact⟨S,hok,dg.refl⟩
 |(j,c,o,x)::l,st,bD,H,S,hok,ha,nd,e=>by
  unfold Az at e
  split at e
  ·rename_i hj
   obtain⟨⟨m,g,u,v,d,ru,rx⟩,hn⟩:=ha _ aS
   have hs:o_ H (eJ H c (mv c o)):=cn hn _
   have x1:dg K H (eJ H c (mv c o)):=fj.same hs
   have ha':∀y∈l,yU K μ (eJ H c (mv c o)) h y/\eJ H c (mv c o) y.2.1=none:=fun y hy=>by
    obtain⟨⟨m',g',u',v',d',ru',rx'⟩,hn'⟩:=ha y (aD _ hy)
    refine⟨⟨m',g',u',v',d',ru',rx'.mono (ac _) x1⟩,?_⟩
    rw[bY fun z=>(bF.mp nd).1 (aJ.mpr ⟨y,hy,z⟩)];exact hn'
   obtain⟨r1,r2,r3⟩:=BJ (l:=l) (S.take' hj m hn rx ⟨u,d,ru⟩) (hok.put hn g) ha' (bF.mp nd).2 e
   exact⟨r1,r2,x1.trans r3⟩
  ·cases e
def eX:List j5->List al:=fun l=>l.map fun x=>.pin true x.2.1 x.2.2.1 x.2.2.2
theorem yW:∀{l:List j5} {st:List al} {μ:List Addr} {H:Hp},fO K mg μ st H->kP P w H h->(∀x∈l,H x.2.1=none/\h.get? x.2.1=some x.2.2.1/\∃u v,x.2.2.1.data=.cell (some u)/\cf v u/\bj K μ H x.2.2.2 v)->(l.map fun x=>x.2.1).Nodup ->
  fO K mg (μ++l.map fun x=>x.2.1) (st++eX l) (sP l H)/\kP P w (sP l H) h/\dg K H (sP l H)
 |[],st,μ,H,S,hok,_,_=>by simp only[eX,iC,cW];exact⟨S,hok,dg.refl⟩
 |(j,c,o,x)::l,st,μ,H,S,hok,ha,nd=>by
  obtain⟨hn,g,u,v,d,ru,rx⟩:=ha _ aS
  have hs:o_ H (eJ H c (mv c o)):=cn hn _
  have x1:dg K H (eJ H c (mv c o)):=fj.same hs
  have S1:fO K mg (μ++[c]) (st++[.pin true c o x]) (eJ H c (mv c o)):=S.push hn ⟨rfl,cO,(fun z=>by cases z),v,rx.mono (ag _ _) x1,fun _=>⟨u,d,ru⟩⟩
  obtain⟨r1,r2,r3⟩:=yW (l:=l) S1 (hok.put hn g) (fun y hy=>by
   obtain⟨hn',g',u',v',d',ru',rx'⟩:=ha y (aD _ hy)
   refine⟨?_,g',u',v',d',ru',rx'.mono (ag _ _) x1⟩
   rw[bY fun z=>(bF.mp nd).1 (aJ.mpr ⟨y,hy,z⟩)];exact hn') (bF.mp nd).2
  rw[a8,a8]at r1
  exact⟨r1,r2,x1.trans r3⟩
end
section
theorem Do{P c:Addr}{q:Str}{pr:Arguments}{fl:Nat}{ps:Array Value}(sE:X.env.code=.ref c)(Sq:codeHdIn X.K c P=true)(hB:wL X.base X.mg)
  (mh:closureFor sc X.env=pure cl) (I:bE X af σ H s) (hP:H P=some (.tbl ps)) (ht:TriplesOk ps.toList) (Ug:codeAmong pos ps.toList=none\/∃cd,codeAmong pos ps.toList=some (.ref cd)/\H cd=some (jX cd q))
  (h:∀f cd j9 ct h' t H',((codeAmong pos ps.toList=none/\H cd=none/\H'=u7 H P cd q ps pos)\/H'=H)->H' f=none->H' cd=some (jX cd q) ->
   bE X af σ (eJ H' f (mv f (fnMade name q pr body sc cl j9 ((X.mg "__name__").getD .none) cd ct))) { s with heap:=h',toks:=t }->Q (.ref f) { s with heap:=h',toks:=t }) :
  wpAny (model X.prog X.w) X.A (makeFunction name q pr (.stmts body) sc X.env [] [] [] pos fl) Q E s:=by
 have hPo:s.heap.get? P=some { cls:=.none,data:=.fields ps }:=I.hok P _ hP
 have hgs:s.heap.Ns mainGlobals X.mg:=I.mod.glob.keeps I.bk
 have hgP:mainGlobals≠P:=fun z=>by
  obtain⟨o,es,ep,e,hd,_⟩:=hgs
  rw[z,hPo]at e;cases e;cases hd
 obtain⟨bm,ob,b1,b2,b4,b5,b6,b7⟩:=hB
 have b4':=I.bk _ _ b4
 have hbP:bm≠P:=fun z=>by rw[z,hPo]at b4';cases b4';cases b5
 have b3:bm≠mainGlobals:=fun z=>by
  obtain⟨o,es,ep,e,hd,_⟩:=hgs
  rw[z,e]at b4';cases b4';rw[b7]at hd;cases hd
 have hb:s.heap.BuiltinsAt X.mg P:=⟨bm,ob,b1,b2,b3,hbP,b4',b5,b6,b7⟩
 have CH:=PySem.W.codeHd_of_K I.kIn Sq
 rcases Ug with hn|⟨cd,hhit,hH⟩
 ·refine PySem.W.makeFunction_K (mg:=X.mg) mh I.ok.glob hgs sE CH hPo ht hn hgP hb fun cd ct j9 h' tk hx Pj hlt OV S_=>?_
  have hcdn:H cd=none:=I.hok.fresh Pj
  have hPc:P≠cd:=fun z=>by rw[z,hcdn]at hP;cases hP
  have I1:=I.tabbed (t':=tk) hP Pj (fun b o hb e=>hx b o hb e) OV S_
  have I2:=bE.laid (t':=tk) (o:=mv h'.objs.size (fnMade name q pr body sc cl j9 ((X.mg "__name__").getD .none) cd ct)) I1 (fun b u e=>aj _ e) (au _) (wT (aq _ rfl))
  exact h _ cd j9 ct _ tk _ (.inl ⟨hn,hcdn,rfl⟩) (I1.hok.fresh (au _)) (wO hPc) I2
 ·refine PySem.W.makeFunction_hit (mg:=X.mg) mh I.ok.glob hgs sE CH hPo ht hhit hb fun ct j9 h' tk hk hsz=>?_
  have I1:=I.kept (t':=tk) hk
  have I2:=bE.laid (t':=tk) (o:=mv h'.objs.size (fnMade name q pr body sc cl j9 ((X.mg "__name__").getD .none) cd ct)) I1 (fun b u e=>aj _ e) (au _) (wT (aq _ rfl))
  exact h _ cd j9 ct _ tk _ (.inr rfl) (I1.hok.fresh (au _)) hH I2
end
def Nq(name q:Str)(pr:Arguments)(body:List Stmt)(sc:Scope)(xs:List Str)(o:Obj):Prop:=∃cl j9 pm cd ct,cl.map (·.1)=xs/\(cl.map (·.2)).Nodup/\o=fnMade name q pr body sc cl j9 pm cd ct
def TX(X:Cx)(name q:Str)(pr:Arguments)(body:List Stmt)(sc:Scope)(o:Obj):Prop:=∃j9 cd ct,o=fnMade name q pr body sc (cv X.env sc.names []) j9 ((X.mg "__name__").getD .none) cd ct
section
variable{q:Str}{pr:Arguments}{dQ:List Stmt}{P c:Addr}{xs:List Str}{g:Addr->Obj->FS}
def Jr(X:Cx)(name q:Str)(pr:Arguments)(body:List Stmt)(sc:Scope)(xs:List Str)(j:Nat)(P:Addr)(pos:Pos)(i:Nat):TS:=fun D σ H=>∃μ ρ st,Rl X μ ρ st σ H/\yN st j P pos q /\
 ∀f o H',TX X name q pr body sc o->Nq name q pr body sc xs o->dg X.K H H'->fO X.K X.mg (μ++[f]) (st++[.pin false f o .non]) H'->D.nx (σ.set i (some (.ref f))) H'
theorem Js(sE:X.env.code=.ref c)(Sq:codeHdIn X.K c P=true)(hB:wL X.base X.mg)(gE:X.env.cells=cellsFrom m X.env.scope.names [])(sF:∀x∈sc.names,x.2=.free->X.env.scope.names.lookup x.1=some .cell)
  (L_:(cv X.env sc.names []).map (·.1)=xs) (qf:xs.Nodup) (hq:qualnameIn X.env name name=q) (hN:X.N.Nodup) (hi:X.N[i]?=some name) (hx:Cq X.env.scope name) (hf:X.fn name=true\/X.env.scope.names.lookup name=some .local)
  (OX:pr.defaults=[]:=by rfl) (Ub:pr.kw_defaults=[]:=by rfl) (ha:annTrees pr none X.env=[]:=by rfl) :
  PS X (.FunctionDef name pr body [] none [] sc none name pos) (Jr X name q pr body sc xs j P pos i):=fun af s σ H D I h=>by
 obtain⟨μ,ρ,st,l,e4,h⟩:=h
 obtain⟨aP,hP0,eP,ps,hP,ht,Ug⟩:=l.sto.get e4
 subst eP
 have has:∀x∈sc.names,x.2=.free->∃c,X.env.cells.lookup x.1=some c:=fun x hx hf=>by rw[gE];exact hZ (sF x hx hf)
 have mh:closureFor sc X.env=pure (cv X.env sc.names []):=EG has
 refine PySem.W.nestDef_K OX Ub ha ?_
 rw[hq]
 refine Do (P:=aP) sE Sq hB mh I hP ht Ug fun f cd j9 ct h' t H' hH D5 om I2=>?_
 refine tD I2 hN hi hx (v:=.ref f) rfl (fun s' I3=>?_) hf
 have ok:TX X name q pr body sc (fnMade name q pr body sc (cv X.env sc.names []) j9 ((X.mg "__name__").getD .none) cd ct):=⟨j9,cd,ct,rfl⟩
 have hcl':∀y∈cv X.env sc.names [],X.env.cells.lookup y.1=some y.2:=mq sc.names [] has (by simp)
 have nd2:((cv X.env sc.names []).map (·.2)).Nodup:=by
  have nd1:((cv X.env sc.names []).map (·.1)).Nodup:=by rw[L_];exact qf
  have gen:∀l:List (Str×Addr),(∀y∈l,X.env.cells.lookup y.1=some y.2)->(l.map (·.1)).Nodup->(l.map (·.2)).Nodup:=by
   intro l
   induction l with
   |nil=>intro _ _;exact ik
   |cons y l ih=>
    intro a b
    rw[aI,bF]at b ⊢
    refine⟨fun z=>b.1 ?_,ih (fun y hy=>a y (aD _ hy)) b.2⟩
    obtain⟨y',hy',e⟩:=aJ.mp z
    have:=I.ok.inj _ _ _ (a y aS) (by rw[<- e];exact a y' (aD _ hy'))
    rw[this]
    exact aJ.mpr ⟨y',hy',rfl⟩
  exact gen _ hcl' nd1
 have hS':fO X.K X.mg μ st H'/\dg X.K H H':=by
  rcases hH with⟨g1,g2,rfl⟩|rfl
  ·exact l.sto.tabbed e4 hP g2 ht g1
  ·exact⟨l.sto,dg.refl⟩
 obtain⟨S',X'⟩:=hS'
 have hs:o_ H' (eJ H' f (mv f (fnMade name q pr body sc (cv X.env sc.names []) j9 ((X.mg "__name__").getD .none) cd ct))):=cn D5 _
 refine⟨_,_,I3,h f _ _ ok ⟨_,j9,_,cd,ct,L_,nd2,rfl⟩ (X'.trans (fj.same hs)) (S'.push D5 ⟨rfl,cO,fun _=>⟨_,cd,rfl,rfl,?_⟩,.non,.non,fun z=>by cases z⟩)⟩
 rw[bY (by rintro rfl;rw[D5]at om;cases om)];exact om
end
abbrev Dp(q:Str)(sc:Scope)(L f:Addr)(cd:Value)(cl:List (Str×Addr)):Env:=PySem.W.envX q sc L f cd cl
def rH(CX:DZ)(P:Program)(w:World)(K:Frag)(mg:Str->Option Value)(base:Heap)(N:List Str)(cD:Str)(scope:Scope)(f:Addr)(cd:Value)(cl:List (Str×Addr))(A:Around)(outer:List Env)(s:Shared)(H:Hp)(E:XK):Cx where
 prog:=P
 w:=w
 K:=K
 mg:=mg
 base:=base
 A:=A.deeper (Dp cD scope s.heap.objs.size f cd cl)
 N:=N
 s₀:=s
 H₀:=H
 env:=Dp cD scope s.heap.objs.size f cd cl
 outer:=outer
 stack:=Dp cD scope s.heap.objs.size f cd cl::outer
 ex:=[]
 calm:=true
 fn:=fun _=>false
 pn:=[]
 xe:=fun e s'=>wpAny (model P w) (A.deeper (Dp cD scope s.heap.objs.size f cd cl)) (leaving (Dp cD scope s.heap.objs.size f cd cl) e) (fun _ s''=>CX outer H s E e s'') (fun e' s''=>CX outer H s E e' s'') s'
theorem rJ:∀{l:List (Str×α)} {x:Str} {a:α},(l.map (·.1)).Nodup->(x,a)∈l->l.lookup x=some a
 |[],_,_,_,h=>absurd h (by simp)
 |(y,b)::l,x,a,nd,h=>by
  rw[aI,bF]at nd
  rcases aG.mp h with e|h2
  ·cases e;simp[d7]
  ·have:(x==y)=false:=by
    rw[bx];intro z;exact nd.1 (aJ.mpr ⟨_,h2,z⟩)
   rw[d7,this];exact rJ nd.2 h2
theorem p_{R:α->β->Prop}:∀{l:List α} {m:List β} {i:Nat} {a:α},Paired R l m->l[i]?=some a->∃b,m[i]?=some b/\R a b
 |_,_,_,_,.nil,e=>by simp at e
 |_,_,0,_,.cons r _,e=>by simp at e;subst e;exact⟨_,rfl,r⟩
 |_,_,i+1,_,.cons _ t,e=>by simpa using p_ (i:=i) t (by simpa using e)
theorem BK:∀{l:List (Str×Addr)} {x y:Str} {c:Addr},(l.map (·.2)).Nodup->(x,c)∈l->(y,c)∈l->x=y
 |[],_,_,_,_,h,_=>absurd h (by simp)
 |(z,b)::l,x,y,c,nd,h1,h2=>by
  rw[aI,bF]at nd
  rcases aG.mp h1 with e|h1
  ·rcases aG.mp h2 with e2|h2
   ·cases e;cases e2;rfl
   ·cases e;exact absurd (aJ.mpr ⟨_,h2,rfl⟩) nd.1
  ·rcases aG.mp h2 with e2|h2
   ·cases e2;exact absurd (aJ.mpr ⟨_,h1,rfl⟩) nd.1
   ·exact BK nd.2 h1 h2
section
variable{w:World}
def iq(o:Obj):List (Str×Addr):=match o.data with
 |.func fd=>fd.closure
 |_=>[]
structure qa(P:Program)(w:World)(K:Frag)(mg:Str->Option Value)(base:Heap)(k n m:Nat)(ok:Obj->Prop)(F:List W->List al->R W):Prop where
 run:∀(A:Around) (outer:List Env) (s:Shared) (H:Hp) (f:Addr) (o:Obj) (fd:FuncData) (us zS:List Value) (vs tm:List V) (Q:VK) (E:XK),hX k A->Ad P w K mg base A outer s H->s.heap.get? f=some o->ok o->o.data=.func fd->s.heap.CodeRec fd.code fd.qualname ->
  cA vs us->cA tm zS->us.length=n->Paired (fun(y:Str×Addr) (u:Value)=>s.heap.IsCell y.2 (some u)/\H y.2=none) (iq o) zS->nT K mg (n+m) F (vs++tm) H Q E ->
  codeAny (model P w) A (.call (.ref f) ⟨us,[]⟩) (CR (ja P w) outer P w H s Q E) s
theorem qa.mono{k:Nat}{ok:Obj->Prop}(h:qa P w K mg base j n m ok F)(hj:j<=k):qa P w K mg base k n m ok F:=
 ⟨fun A outer s H f o fd us zS vs tm Q E hr=>h.run A outer s H f o fd us zS vs tm Q E (hr.mono hj)⟩
end
def mC(c:Addr):al->Bool
 |.pin true a _ _=>a==c
 |_=>false
open Classical in
def su(ok:Obj->Prop)(F:List W->List al->R W)(m:Nat)(ws:List W)(st:List al):R W:=match st[m]? with
 |some (.pin false _ o _)=>if ok o then(match sk ((iq o).map fun y=>(st.findIdx? (mC y.2)).getD 0) st with
   |some (l,st1)=>if (l.map fun x=>x.2.1)=(iq o).map (·.2)then(match F (ws++l.map fun x=>x.2.2.2) st1 with
     |.ok w st2=>(match Az l st2 with
      |some gD=>.ok w gD
      |none=>.bad)
     |_=>.bad)else .bad
   |none=>.bad)else .bad
 |_=>.bad
def ug(i n:Nat)(ok:Obj->Prop)(F:List W->List al->R W)(fs:FA):FE:=fun ρ st=>match ρ[i]? with
 |some (some (.loc m))=>(match st[m]? with
  |some (.pin false _ _ _)=>(fs ρ st).bind fun ws st1=>if ws.length=n then su ok F m ws st1 else .bad
  |_=>.bad)
 |_=>.bad
theorem mD{l:List j5}(h:H b=none):oE l H b=none:=by
 by_cases q:∃x∈l,x.2.1=b
 ·exact wU q
 ·rw[mB fun x hx e=>q ⟨x,hx,e⟩];exact h
theorem yX:∀{l:List j5},(∀x∈l,yU K μ H h x)->∃tm zS,cA tm zS/\RelWs K μ H (l.map fun x=>x.2.2.2) tm/\Paired (fun(x:j5) (u:Value)=>h.IsCell x.2.1 (some u)) l zS
 |[],_=>⟨[],[],.nil,.nilI,.nil⟩
 |x::l,ha=>by
  obtain⟨tm,zS,a,b,c⟩:=yX (l:=l) fun y hy=>ha y (aD _ hy)
  obtain⟨_,g,u,v,d,ru,rx⟩:=ha x aS
  exact⟨v::tm,u::zS,.cons ru a,.consI rx b,.cons ⟨_,g,d⟩ c⟩
theorem vI{R:Addr->α->Prop}:∀{l:List j5} {cl:List (Str×Addr)} {m:List α},(l.map fun x=>x.2.1)=cl.map (·.2)->Paired (fun(x:j5) u=>R x.2.1 u) l m->Paired (fun(y:Str×Addr) u=>R y.2 u) cl m
 |[],[],_,_,.nil=>.nil
 |[],_::_,_,e,_=>by simp at e
 |_::_,[],_,e,_=>by simp at e
 |x::l,y::cl,_,e,.cons r t=>by
  simp only[aI,List.cons.injEq]at e
  exact .cons (by rw[<- e.1];exact r) (vI e.2 t)
theorem yY{R T:α->β->Prop}:∀{l:List α} {m:List β},Paired R l m->(∀a∈l,∀b,T a b)->Paired (fun a b=>R a b/\T a b) l m
 |_,_,.nil,_=>.nil
 |_,_,.cons r t,h=>.cons ⟨r,h _ aS _⟩ (yY t fun a ha=>h a (aD _ ha))
section
variable{fs:FA}
theorem Jt(i:Nat){k k':Nat}{ok:Obj->Prop}(Nk:qa X.prog X.w X.K X.mg X.base k n m ok F)(hm:∀o,ok o->(iq o).length=m)(hr:hX k' X.A)(hk:k<=k')(ha:SA X (e::es) fs)
  (hN:X.N[i]?=some x:=by rfl) (hv:Kv X.env.scope x:=by first|exact Or.inl rfl|exact Or.inr (Or.inl rfl)|exact Or.inr (Or.inr rfl)) (vf:(x==("__debug__":Str))=false:=by decide)
  (om:(x==("__classdict__":Str))=false:=by decide) (he:starEach (e::es) X.env=(false,eval e X.env)::starEach es X.env:=by rfl) (mI:(backTo pos (starEach es X.env)).any (·.1)=false:=by rfl) :
  SE X (.Call (.Name x p) (e::es) [] pos) (ug i n ok F fs):=⟨by
 intro af s σ H Q I h
 obtain⟨μ,ρ,st,l,h⟩:=h
 unfold ug at h
 split at h
 ·rename_i mm e1
  split at h
  ·rename_i f0 o0 w0 e2
   obtain⟨v,hσ,rx⟩:=ou l.env e1
   obtain⟨f,hmu,rfl⟩:=rx.locE
   obtain⟨a0,hmu0,ea,hH0,hf0,_⟩:=l.sto.get e2
   rw[hmu]at hmu0;cases hmu0
   subst ea
   refine dw (hW ((pv i hN hv vf om) af s σ H (fun v H1=>v=.ref f/\H1=H) I ⟨_,hσ,rfl,rfl⟩) fun u s1 tf=>?_)
   obtain⟨v1,H1,I1,ru,rfl,rfl⟩:=tf
   obtain rfl:u=Value.ref f:=ru
   have fnAt:∀{H2:Hp} {h2:Heap} {o:Obj},kP X.prog X.w H2 h2->H2 f=some (mv f o)->(∃fd cd,o.data=.func fd/\fd.code=.ref cd/\H2 cd=some (jX cd fd.qualname))->PySem.W.FnAt f h2:=fun{H2 h2 o} hok q r=>by
    obtain⟨g,_⟩:=hok _ _ q
    obtain⟨fd,_,d,_⟩:=r
    obtain⟨c1,c2,c3,c4⟩:=o
    cases d
    exact⟨c1,c2,fd,c4,g⟩
   have h':Qh X fs σ H1 fun vs H2=>∃μ1 st1 ws,Rl X μ1 ρ st1 σ H2/\μ <+: μ1/\RelWs X.K μ1 H2 ws vs/\RK X (qm X) μ1 σ H2 Q (if ws.length=n then su ok F mm ws st1 else .bad):=
    ⟨μ,ρ,st,l,RK.bind h l fun μ1 st1 x v H1 p1 x1 l1 q1 h1=>⟨μ1,st1,x,l1,p1,q1,h1⟩⟩
   refine PySem.W.callWith_F (q:=f) (fnAt I1.hok hH0 (hf0 rfl)) (hW (ha.h pos af s1 σ H1 _ I1 h') fun us s2 ⟨vs,H2,I2,r,μ1,st1,ws,l1,p1,r1,q⟩=>?_) he mI
   by_cases c:ws.length=n
   ·rw[av c]at q
    unfold su at q
    split at q
    ·rename_i f1 o1 w1 e3
     obtain⟨a1,hmu1,ea1,hH1,hf1,_⟩:=l1.sto.get e3
     rw[aZ p1 hmu]at hmu1;cases hmu1
     subst ea1
     have D5:=hf1 rfl
     refine⟨fnAt I2.hok hH1 D5,?_⟩
     obtain⟨go,_⟩:=I2.hok _ _ hH1
     obtain⟨fd,cd,hd,sE,hHc⟩:=D5
     obtain⟨⟨oc,vsc,tc,hoc,hdc,hvc⟩,_⟩:=I2.hok _ _ hHc
     by_cases hok:ok o1
     ·rw[av hok]at q
      split at q
      ·rename_i lv st2 e4
       by_cases had:(lv.map fun x=>x.2.1)=(iq o1).map (·.2)
       ·rw[av had]at q
        split at q
        ·rename_i wv gD e5
         split at q
         ·rename_i vd e6
          obtain⟨S1,hok1,x1,la,nd⟩:=yV l1.sto I2.hok e4
          have inH:∀y∈lv,H2 y.2.1≠none:=fun y hy=>by rw[(la y hy).2];simp
          have out:∀{b:Addr},H2 b=none->∀y∈lv,y.2.1≠b:=fun{b} n y hy z=>inH y hy (by rw[z];exact n)
          have outT:∀{b:Addr} {u:HO},H2 b=some u->(∀φ,u≠.ext φ)->∀y∈lv,y.2.1≠b:=fun{b u} n ne y hy z=>by have:=(la y hy).2;rw[z,n]at this;cases this;exact ne _ rfl
          obtain⟨tm,zS,rc,rwc,pc⟩:=yX fun y hy=>(la y hy).1
          have e0:=I2.env0
          have e0':Ad X.prog X.w X.K X.mg X.base X.A X.stack s2 (oE lv H2):=⟨e0.frames,e0.mod,fun b o q=>⟨(e0.bs b o q).1,mD (e0.bs b o q).2⟩,e0.bsz,e0.funs,fun b hb=>mD (e0.frf b hb),hok1,e0.bare⟩
          have mh:Paired (fun(y:Str×Addr) (u:Value)=>s2.heap.IsCell y.2 (some u)/\oE lv H2 y.2=none) (iq o1) zS:=
           vI (R:=fun a u=>s2.heap.IsCell a (some u)/\oE lv H2 a=none) had (yY pc fun y hy _=>wU ⟨y,hy,rfl⟩)
          have c_:(ws++lv.map fun x=>x.2.2.2).length=n+m:=by
           rw[aF,c,am]
           have:=eY List.length had
           rw[am,am,hm o1 hok]at this
           rw[this]
          have rall:RelWs X.K μ1 (oE lv H2) (ws++lv.map fun x=>x.2.2.2) (vs++tm):=(RelWs.pr.mpr (Paired.imp' (fun _ _ z=>z.mono (ac _) x1) (RelWs.pr.mp r1))).app rwc
          refine nD (gH ((Nk.mono hk).run X.A X.stack s2 (oE lv H2) f o1 fd us zS vs tm (fun v H'=>∃μ',μ1 <+: μ'/\dg X.K (oE lv H2) H'/\fO X.K X.mg μ' gD H'/\bj X.K μ' H' wv v) (fun _ _ _=>False) hr e0' go hok hd ⟨cd,oc,vsc,tc,sE,hoc,hdc,hvc⟩ r rc (by rw[<- r.length,<- r1.len,c]) mh
           ⟨by rw[<- rall.len];exact c_,μ1,_,st2,S1,rall,by rw[e5];exact fun μ' v H' a b c d=>⟨μ',a,b,c,d⟩⟩) fun rr s' hq=>?_)
          cases rr with
          |error ev=>obtain⟨_,_,_,_,_,_,z,_⟩:=hq;exact z.elim
          |ok fl=>
           cases fl with
           |next=>exact False.elim hq
           |brk=>exact False.elim hq
           |cont=>exact False.elim hq
           |ret u=>
            obtain⟨v,H',os,bare,un,hok',rv,μ',pm,xm,Sm,rm⟩:=hq
            have hla:∀y∈lv,yU X.K μ' H' s'.heap y/\H' y.2.1=none:=fun y hy=>by
             obtain⟨⟨g1,g2,u1,v1,g3,g4,g5⟩,_⟩:=la y hy
             have hn:oE lv H2 y.2.1=none:=wU ⟨y,hy,rfl⟩
             exact⟨⟨aZ pm g1,un.keep _ _ g2 hn (fun z=>inH y hy (I2.stkFree _ z)) (by simp),u1,v1,g3,g4,g5.mono pm xm⟩,un.free _ _ g2 hn (by simp)⟩
            obtain⟨Sp,hokp,xp⟩:=BJ Sm hok' hla nd e6
            have un':Un (r_ X.stack) [] H2 (sP lv H') s2.heap s'.heap:=by
             refine⟨fun b o q n hb hx=>un.keep b o q (mD n) hb hx,fun b o q n hb hx=>un.slot b o q (mD n) hb hx,fun b o q n hx=>?_,un.there,fun b xs q=>?_,fun b o u q=>?_,fun b ps q=>?_⟩
             ·rw[ji (out n)];exact un.free b o q (mD n) hx
             ·have ot:=outT q (fun _ z=>by cases z)
              rw[ji ot];exact un.tups b xs (by rw[mB ot];exact q)
             ·have ot:=outT q (fun _ z=>by cases z)
              rw[ji ot];exact un.frzs b o u (by rw[mB ot];exact q)
             ·have ot:=outT q (fun _ z=>by cases z)
              rw[ji ot];exact un.tbls b ps (by rw[mB ot];exact q)
            have I3:bE X af σ (sP lv H') s':=I2.call' os un' hokp bare fun b hb=>absurd hb (by simp)
            exact⟨v,_,I3,rv,q μ' v _ pm (x1.trans (xm.trans xp)) Sp (rm.mono (ac _) xp)⟩
         ·exact q.elim
        ·exact q.elim
       ·rw[az had]at q;exact q.elim
      ·exact q.elim
     ·rw[az hok]at q;exact q.elim
    ·exact q.elim
   ·rw[az c]at q;exact q.elim
  ·exact h.elim
 ·exact h.elim⟩
end
open Classical in
def vJ(ok:α->Prop)(f:α->R W):R W:=if h:∃r,∀a,ok a->f a=r then h.choose else .bad
theorem FB{ok:α->Prop}{f:α->R W}{r:R W}(a0:α)(h0:ok a0)(h:∀a,ok a->f a=r):vJ ok f=r:=by
 have e:∃r,∀a,ok a->f a=r:=⟨r,h⟩
 unfold vJ
 rw[qZ e,<- e.choose_spec a0 h0,h a0 h0]
def jy:List (Str×Addr)->List Obj->List W->List j5
 |y::cl,o::os,w::ws=>(0,y.2,o,w)::jy cl os ws
 |_,_,_=>[]
def uh:List Nat->ca->Option (List W)
 |[],_=>some []
 |i::is,ρ=>match ρ[i]? with
  |some (some w)=>(match uh is ρ with
   |some ws=>some (w::ws)
   |none=>none)
  |_=>none
theorem FC{ok:α->Prop}{f:α->R W}(a:α)(h:ok a):vJ ok f=f a\/vJ ok f=.bad:=by
 unfold vJ
 by_cases e:∃r,∀a,ok a->f a=r
 ·rw[qZ e];exact .inl (e.choose_spec a h).symm
 ·rw[dif_neg e];exact .inr rfl
section
theorem FD(I:bE X af σ H s)(l:Rl X μ ρ st σ H):∀{cl:List (Str×Addr)} {is:List Nat} {cws:List W},(∀y∈cl,X.env.cells.lookup y.1=some y.2/\X.env.scope.names.lookup y.1=some .cell)->Paired (fun(i:Nat) (y:Str×Addr)=>X.N[i]?=some y.1) is cl->uh is ρ=some cws ->
  ∃os:List Obj,os.length=cl.length/\((jy cl os cws).map fun x=>x.2.1)=cl.map (·.2)/\∀x∈jy cl os cws,H x.2.1=none/\s.heap.get? x.2.1=some x.2.2.1/\∃u v,x.2.2.1.data=.cell (some u)/\cf v u/\bj X.K μ H x.2.2.2 v
 |[],[],cws,_,.nil,e=>by cases e;exact⟨[],rfl,rfl,fun _ h=>absurd h (by simp[jy])⟩
 |y::cl,i::is,cws,ha,.cons hi t,e=>by
  unfold uh at e
  split at e
  ·rename_i w e1
   split at e
   ·rename_i ws e2
    cases e
    obtain⟨os,q1,q2,q3⟩:=FD I l (fun y hy=>ha y (aD _ hy)) t e2
    obtain⟨v,hσ,rx⟩:=ou l.env e1
    obtain⟨hc,hk⟩:=ha y aS
    obtain⟨mm,Uc,T6⟩:=id I.loc
    obtain⟨u,ru,lk⟩:=T6 i y.1 v hi hσ (.inr (.inl hk))
    obtain⟨o,ho,hd⟩:s.heap.IsCell y.2 (some u):=by
     rcases lk with⟨kl,_⟩|⟨_,c1,hc1,hcc⟩
     ·have:X.env.scope.names.lookup y.1=some .local:=kl
      rw[hk]at this;cases this
     ·rw[hc]at hc1;cases hc1;exact hcc
    refine⟨o::os,by simp[q1],by simp only[jy,aI,q2],fun x hx=>?_⟩
    rcases aG.mp (show x∈(0,y.2,o,w)::jy cl os ws from hx)with rfl|hx
    ·exact⟨I.freeC _ _ hc,ho,u,v,hd,ru,rx⟩
    ·exact q3 x hx
   ·cases e
  ·cases e
variable{fs:FA}
end
theorem oF:∀{ns:List (Str×NameKind)} {cs:List (Str×Addr)} {y:Str×Addr},y∈cv env ns cs->y∈cs\/∃x∈ns,x.1=y.1/\x.2=.free
 |[],cs,y,h=>.inl h
 |(n,k)::r,cs,y,h=>by
  unfold cv at h
  rcases oF h with h|⟨x,hx,e⟩
  ·by_cases hk:(k==NameKind.free)=true
   ·rw[av hk]at h
    rcases aG.mp h with rfl|h
    ·exact .inr ⟨(n,k),aS,rfl,jM hk⟩
    ·exact .inl h
   ·rw[az hk]at h;exact .inl h
  ·exact .inr ⟨x,aD _ hx,e⟩
theorem Ju{q:Str}{pr:Arguments}{xs:List Str}(h:xs.length=m)(o:Obj)(ok:Nq name q pr body sc xs o):(iq o).length=m:=by
 obtain⟨cl,j9,pm,cd,ct,hx,_,rfl⟩:=ok
 rw[<- h,<- hx,am];rfl
def TY(a b:List (Str×NameKind)):Bool:=b.all fun x=>!(x.2==.free)||a.lookup x.1==some .cell
theorem AA{a b:List (Str×NameKind)}(h:TY a b=true):∀x∈b,x.2=.free->a.lookup x.1=some .cell:=fun x hx e=>by
 have:=fE.mp h x hx
 rw[e]at this
 have t:(!(NameKind.free==NameKind.free)||a.lookup x.1==some .cell)=true:=this
 simpa using t
abbrev Ux(name q:Str)(st:Stmt)(xs:List Str):Obj->Prop:=Nq name q (fm st) (dZ st) (aL st) xs
section
variable{q:Str}{st:Stmt}{dQ:List Stmt}{P c:Addr}{xs:List Str}{g:Addr->Obj->FS}
variable{fs:FA}
end
section
variable{a:Expr}
end
end L2
namespace L2
open PySem PySem.Spec PyProof.Rows PySem.W
section
end
end L2
namespace L2
open PySem PySem.Spec PyProof.Rows
section
end
abbrev lO(n:Nat):Option W:=some (.loc n)
abbrev iO(z:Int):Option W:=some (.int z)
section
end
section
end
section
variable{q:Str}{pr:Arguments}{Kq He:Pos}{P:Addr}{xs:List Str}{dst:Stmt}
theorem Jv{is:List Nat}{Q:VK}(I:bE X [] σ H s)(l:Rl X μ ρ st σ H)
  (T':PS X dst (Jr X name q pr body sc xs j P pos i)) (ht:yN st j P pos q) (hc:uh is (ρ.set i (some (.loc st.length)))=some cws)
  (gE:X.env.cells=cellsFrom m X.env.scope.names []) (sF:∀x∈sc.names,x.2=.free->X.env.scope.names.lookup x.1=some .cell) (qf:((cv X.env sc.names []).map (·.1)).Nodup) (A9:Paired (fun(i:Nat) (y:Str×Addr)=>X.N[i]?=some y.1) is (cv X.env sc.names []))
  (T3:∀y∈cv X.env sc.names [],X.env.scope.names.lookup y.1=some .cell) (D5:∀x,X.fn x=true)
  (hN:X.N[i]?=some name) (hv:Kv X.env.scope name) (vf:(name==("__debug__":Str))=false) (om:(name==("__classdict__":Str))=false)
  (hQ:∀f o os H',Nq name q pr body sc xs o->os.length=(iq o).length->dg X.K H H'->fO X.K X.mg (μ++[f]++(jy (iq o) os cws).map fun x=>x.2.1) (st++[.pin false f o .non]++eX (jy (iq o) os cws)) H'->Q (.ref f) H') :
  wpAny (model X.prog X.w) X.A (execs [dst,.Return (some (.Name name He)) Kq] X.env) (fun fl s'=>∃f H',fl=.ret (.ref f)/\s'.os=X.s₀.os/\AllBare s'.gens/\Un X.fs X.ex X.H₀ H' X.s₀.heap s'.heap/\kP X.prog X.w H' s'.heap/\Q (.ref f) H') X.xe s:=by
 refine iA (hW (T' [] s σ H { nx:=fun σ2 H2=>∃f o,σ2=σ.set i (some (.ref f))/\TX X name q pr body sc o/\Nq name q pr body sc xs o/\dg X.K H H2/\fO X.K X.mg (μ++[f]) (st++[.pin false f o .non]) H2,rt:=fun _ _=>False } I ⟨μ,ρ,st,l,ht,fun f o H' on ok x S=>⟨f,o,rfl,on,ok,x,S⟩⟩) fun fl s1 hs=>?_)
 cases fl with
 |ret u=>obtain⟨_,_,_,_,_,z⟩:=hs;exact z.elim
 |brk=>obtain⟨_,_,_,z⟩:=hs;exact z.elim
 |cont=>obtain⟨_,_,_,z⟩:=hs;exact z.elim
 |next=>
  obtain⟨σ2,H2,I2,f,o,rfl,on,ok,x2,S2⟩:=hs
  have hil:i<σ.length:=by rw[I.len];exact(ao.mp hN).1
  refine iA (wpAny_Return_some (hW ((pv i hN hv vf om) [] s1 _ H2 (fun v H1=>v=.ref f/\H1=H2) I2 ⟨_,by rw[bP hil],rfl,rfl⟩) fun u s2 oZ=>?_))
  obtain⟨v1,H1,I3,ru,rfl,rfl⟩:=oZ
  obtain rfl:u=Value.ref f:=ru
  have l2:Rl X (μ++[f]) (ρ.set i (some (.loc st.length))) (st++[.pin false f o .non]) (σ.set i (some (.ref f))) H1:=⟨ql (.locI (by rw[l.sto.len];simp)) i (rg (ag _ _) x2 l.env),S2⟩
  have has:∀x∈sc.names,x.2=.free->∃c,X.env.cells.lookup x.1=some c:=fun x hx hf=>by rw[gE];exact hZ (sF x hx hf)
  have hcl':∀y∈cv X.env sc.names [],X.env.cells.lookup y.1=some y.2:=mq sc.names [] has (by simp)
  obtain⟨os,ol,oa,ol2⟩:=FD I3 l2 (fun y hy=>⟨hcl' y hy,T3 y hy⟩) A9 hc
  obtain⟨j9,cd,ct,rfl⟩:=on
  have hclo:iq (fnMade name q pr body sc (cv X.env sc.names []) j9 ((X.mg "__name__").getD .none) cd ct)=cv X.env sc.names []:=rfl
  have ndc:((jy (cv X.env sc.names []) os cws).map fun x=>x.2.1).Nodup:=by
   rw[oa]
   have gen:∀l:List (Str×Addr),(∀y∈l,X.env.cells.lookup y.1=some y.2)->(l.map (·.1)).Nodup->(l.map (·.2)).Nodup:=by
    intro l
    induction l with
    |nil=>intro _ _;exact ik
    |cons y l ih=>
     intro a b
     rw[aI,bF]at b ⊢
     refine⟨fun z=>b.1 ?_,ih (fun y hy=>a y (aD _ hy)) b.2⟩
     obtain⟨y',hy',e⟩:=aJ.mp z
     have:=I.ok.inj _ _ _ (a y aS) (by rw[<- e];exact a y' (aD _ hy'))
     rw[this]
     exact aJ.mpr ⟨y',hy',rfl⟩
   exact gen _ hcl' qf
  obtain⟨S4,hok4,x4⟩:=yW l2.sto I3.hok ol2 ndc
  have hq:=hQ f _ os _ ok (by rw[hclo];exact ol) (x2.trans x4) (by rw[hclo];exact S4)
  generalize jy (cv X.env sc.names []) os cws=L at *
  have isCell:∀y∈L,∃z,X.env.cells.lookup z=some y.2.1:=fun y hy=>by
   have:y.2.1∈(cv X.env sc.names []).map (·.2):=by rw[<- oa];exact aJ.mpr ⟨y,hy,rfl⟩
   obtain⟨z,hz,e⟩:=aJ.mp this
   exact⟨z.1,by rw[<- e];exact hcl' z hz⟩
  have big:∀y∈L,X.s₀.heap.objs.size<=y.2.1:=fun y hy=>by
   obtain⟨z,hz⟩:=isCell y hy
   exact I3.ok.cab z _ (D5 z) hz
  have inL:∀{b:Addr} {u:HO},H1 b=some u->∀y∈L,y.2.1≠b:=fun{b u} e y hy z=>by have:=(ol2 y hy).1;rw[z,e]at this;cases this
  have un:=I3.base
  refine⟨f,sP L H1,rfl,I3.os,I3.bare,⟨un.keep,un.slot,fun b o' hb hn hx=>?_,un.there,fun b xs' hb=>?_,fun b o' u' hb=>?_,fun b ps hb=>?_⟩,hok4,hq⟩
  ·rw[ji fun y hy z=>?_]
   ·exact un.free b o' hb hn hx
   ·have:=ax hb
    rw[<- z]at this
    exact absurd (aK this (big y hy)) (cw _)
  ·have t:=un.tups b xs' hb
   rw[ji (inL t)];exact t
  ·have t:=un.frzs b o' u' hb
   rw[ji (inL t)];exact t
  ·obtain⟨qQ,t⟩:=un.tbls b ps hb
   exact⟨qQ,by rw[ji (inL t)];exact t⟩
end
def SQ(K:Frag)(mg:Str->Option Value)(n:Nat)(tj:Obj->Prop)(F:List W->List al->R (List W)):Sp:=fun vs H Q E=>vs.length=n/\∃μ ws st,fO K mg μ st H/\RelWs K μ H ws vs/\(match F ws st with
 |.ok cws bD=>∀μ' f o os H0 H',μ <+: μ'->dg K H H0->fO K mg μ' bD H0->dg K H0 H'->tj o->os.length=(iq o).length->fO K mg (μ'++[f]++(jy (iq o) os cws).map fun x=>x.2.1) (bD++[.pin false f o .non]++eX (jy (iq o) os cws)) H'->Q (.ref f) H'
 |_=>False)
open Classical in
def FF(N:Nat)(g:FS)(is:List Nat)(i j:Nat)(P:Addr)(pos:Pos)(q:Str):List W->List al->R (List W):=fun ws st=>match g (ws.map some++List.replicate (N-ws.length) none) st with
 |.nx ρ bD=>if yN bD j P pos q then(match uh is (ρ.set i (some (.loc bD.length)))with
  |some cws=>.ok cws bD
  |none=>.bad)else .bad
 |_=>.bad
theorem Nr{w:World}{st:Stmt}{f:Addr}{N:List Str}{k m:Nat}{g:FS}{q:Str}{dst s1:Stmt}{Kq He:Pos}{Pt:Addr}{xs:List Str}{is:List Nat}
  (F:nH K x cD st f fd) (S:b_ N ps (aL st)) (hn:ps.length=n) (U9:dZ st=[s1,dst,.Return (some (.Name name He)) Kq])
  (qT:∀(gu:Value) (A:Around) (outer:List Env) (s:Shared) (H:Hp) (E:XK),fd.code=gu->hX k (A.deeper (envOfC cD (aL st) s.heap.objs.size f gu)) ->
   SS (mX (ja P w) P w K mg base N cD (aL st) f gu A outer s H E) s1 g/\PS (mX (ja P w) P w K mg base N cD (aL st) f gu A outer s H E) dst (Jr (mX (ja P w) P w K mg base N cD (aL st) f gu A outer s H E) name q (fm dst) (dZ dst) (aL dst) xs j Pt pos i) /\
   (∃m,(mX (ja P w) P w K mg base N cD (aL st) f gu A outer s H E).env.cells=cellsFrom m (aL st).names [])/\((cv (mX (ja P w) P w K mg base N cD (aL st) f gu A outer s H E).env (aL dst).names []).map (·.1))=xs/\Paired (fun(i:Nat) (y:Str×Addr)=>N[i]?=some y.1) is (cv (mX (ja P w) P w K mg base N cD (aL st) f gu A outer s H E).env (aL dst).names []))
  (sF:TY (aL st).names (aL dst).names=true) (L_:Pe xs=true) (hN:N[i]?=some name) (hv:Kv (aL st) name) (vf:(name==("__debug__":Str))=false:=by decide) (Ue:(name==("__classdict__":Str))=false:=by decide) :
  fV P w K mg base (ja P w) (k+1) f fd ps (SQ K mg n (Ux name q dst xs) (FF N.length g is i j Pt pos q)):=by
 obtain⟨oc,od,kV,j9,pm,an,gu,ct,Kl,rfl,lk,om⟩:=F.ex
 refine⟨fun vs H Q E h=>by rw[hn];exact h.1,fun A outer s H args us vs Q E hr e0 hb r Hv=>?_⟩
 have hl:vs.length=ps.length:=by rw[hn];exact Hv.1
 have KX:K.In s.heap:=e0.mod.kin.keeps fun b o e=>(e0.bs b o e).1
 have lim:s.heap.NoLimit:=e0.mod.nolimit.keeps fun b o e=>(e0.bs b o e).1
 have ef:∀y∈ps.zip us,(aL st).names.lookup y.1=some .local\/((aL st).names.lookup y.1=some .cell/\((cellsFrom (s.heap.objs.size+1) (aL st).names []).lookup y.1).isSome=true):=fun⟨n,v⟩ hy=>by
  rcases S.par n (gQ hy).1 with q|q
  ·exact .inl q
  ·exact .inr ⟨q,PySem.W.cellsFrom_some _ _ _ (.inl q)⟩
 refine jB hr.depth (KX _ _ lk) rfl S.co S.gen rfl (PySem.W.codeRec_of KX om) (hb _ _ _ _ ?_)
 refine lx S.kind ef fun env he s1' x=>?_
 subst he
 refine⟨lim.keeps x.toInCall.keep,qW ?_⟩
 have I:bE (mX (ja P w) P w K mg base N cD (aL st) f gu A outer s H E) [] (i4 N vs) H s1':=vp S hr.hd e0 hl r x
 obtain⟨b1,b2,⟨m,b3⟩,b4,b5⟩:=qT gu A outer s H E rfl (hr.deeper _)
 obtain⟨_,μ,ws,Hq,Sr,rws,h⟩:=Hv
 unfold FF at h
 cases e:g (ws.map some++List.replicate (N.length-ws.length) none) Hq with
 |nx ρ1 st1=>
  rw[e]at h
  simp only at h
  by_cases ht:yN st1 j Pt pos q
  ·rw[av ht]at h
   cases ec:uh is (ρ1.set i (some (.loc st1.length)))with
   |none=>rw[ec]at h;exact h.elim
   |some cws=>
    rw[ec]at h
    simp only at h
    have l0:Rl (mX (ja P w) P w K mg base N cD (aL st) f gu A outer s H E) μ (ws.map some++List.replicate (N.length-ws.length) none) Hq (i4 N vs) H:=by
     refine⟨?_,Sr⟩
     unfold i4
     rw[<- rws.len]
     have base:∀(ws:List W) (vs:List V) (m:Nat),RelWs K μ H ws vs->Paired (fun(o:Option W) (s:Option V)=>∀w,o=some w->∃v,s=some v/\bj K μ H w v) (ws.map some++List.replicate m none) (vs.map some++List.replicate m none):=by
      intro ws
      induction ws with
      |nil=>
       intro vs m r
       rw[r.nilE]
       induction m with
       |zero=>exact .nil
       |succ m ih=>exact .cons (fun w z=>nomatch z) ih
      |cons w ws ih=>
       intro vs m r
       obtain⟨y,ys,rfl,ry,rys⟩:=r.consE
       exact .cons (fun w' z=>⟨y,rfl,by cases z;exact ry⟩) (ih ys m rys)
     exact base ws vs _ rws
    have key:wpAny (model P w) (mX (ja P w) P w K mg base N cD (aL st) f gu A outer s H E).A (execs [s1,dst,.Return (some (.Name name He)) Kq] (mX (ja P w) P w K mg base N cD (aL st) f gu A outer s H E).env) (fun fl s'=>∃f' H',fl=.ret (.ref f')/\s'.os=s.os/\AllBare s'.gens/\Un (r_ outer) [] H H' s.heap s'.heap/\kP P w H' s'.heap/\Q (.ref f') H') (mX (ja P w) P w K mg base N cD (aL st) f gu A outer s H E).xe s1':=by
     refine iA (hW (b1.h [] s1' (i4 N vs) H { nx:=fun σ1 H1=>∃μ1,μ <+: μ1/\dg K H H1/\Rl (mX (ja P w) P w K mg base N cD (aL st) f gu A outer s H E) μ1 ρ1 st1 σ1 H1,rt:=fun _ _=>False } I ⟨μ,_,Hq,l0,by rw[e];exact fun μ' σ' H' p x l=>⟨μ',p,x,l⟩⟩) fun fl s2 hs=>?_)
     cases fl with
     |ret u=>obtain⟨_,_,_,_,_,z⟩:=hs;exact z.elim
     |brk=>obtain⟨_,_,_,z⟩:=hs;exact z.elim
     |cont=>obtain⟨_,_,_,z⟩:=hs;exact z.elim
     |next=>
      obtain⟨σ1,H1,I1,μ1,p1,x1,l1⟩:=hs
      exact Jv I1 l1 b2 ht ec b3 (AA sF) (by rw[b4];exact wP L_) b5 (fun y hy=>by
       rcases oF hy with z|⟨z,hz,e1,e2⟩
       ·exact absurd z (by simp)
       ·rw[<- e1];exact AA sF z hz e2) (fun _=>rfl) hN hv vf Ue fun f' o os H' ok hl x S=>h μ1 f' o os H1 H' p1 x1 l1.sto x ok hl S
    rw[<- U9]at key
    refine dJ key (fun fl s' hs=>?_) fun e s' hs=>hs
    obtain⟨f',H',rfl,a1,a2,a3,a4,a5⟩:=hs
    exact⟨.ref f',H',a1,a2,a3,a4,rfl,a5⟩
  ·rw[az ht]at h;exact h.elim
 |rt _ _=>rw[e]at h;exact h.elim
 |bk _ _=>rw[e]at h;exact h.elim
 |ct _ _=>rw[e]at h;exact h.elim
 |ex _ _ _=>rw[e]at h;exact h.elim
 |bad=>rw[e]at h;exact h.elim
structure yZ(P:Program)(w:World)(K:Frag)(mg:Str->Option Value)(base:Heap)(k:Nat)(x:Str)(n:Nat)(tj:Obj->Prop)(G:List W->List al->R (List W)):Prop where
 ex:∃(f:Addr) (fd:FuncData) (ps:List Str),mg x=some (.ref f)/\keepIn K (.ref f)=true/\ps.length=n/\vm K fd ps []/\fV P w K mg base (ja P w) k f fd ps (SQ K mg n tj G)
theorem yZ.mono{w:World}{k:Nat}(h:yZ P w K mg base j x n tj G)(hj:j<=k):yZ P w K mg base k x n tj G:=by
 obtain⟨f,fd,ps,a,b,c,d,e⟩:=h.ex
 exact⟨f,fd,ps,a,b,c,d,e.mono hj⟩
section
variable{cs:List Expr}{pos2:Pos}{y:Str}{fs:FA}
def QW(X:Cx)(fs:FA)(m:Nat)(tj:Obj->Prop)(G:List W->List al->R (List W)):TE:=fun σ H Q=>Qh X fs σ H fun vs H1=>∃μ1 ws st1,fO X.K X.mg μ1 st1 H1/\RelWs X.K μ1 H1 ws vs/\ws.length=m/\(match G ws st1 with
 |.ok cws bD=>∀μ' f o os H0 H',μ1 <+: μ'->dg X.K H1 H0->fO X.K X.mg μ' bD H0->dg X.K H0 H'->tj o->os.length=(iq o).length->fO X.K X.mg (μ'++[f]++(jy (iq o) os cws).map fun x=>x.2.1) (bD++[.pin false f o .non]++eX (jy (iq o) os cws)) H'->Q (.ref f) H'
 |_=>False)
theorem Nt{k k':Nat}(Fn:yZ X.prog X.w X.K X.mg X.base k y m tj G)(hr:hX k' X.A)(hk:k<=k')(ha:SA X (c::cs) fs)(hg:Gl X y)(vf:(y==("__debug__":Str))=false)
  (he:starEach (c::cs) X.env=(false,eval c X.env)::starEach cs X.env) (mI:(backTo pos2 (starEach cs X.env)).any (·.1)=false):PE X (.Call (.Name y p2) (c::cs) [] pos2) (QW X fs m tj G):=by
 intro af s σ H Q I h
 obtain⟨f,fd,ps,hm,hkp,hn,hb,Fo⟩:=(Fn.mono hk).ex
 refine dw (qg I hg hm ?_ vf)
 refine PySem.W.callWith_K (h₀:=X.base) I.ok.mod.kin hkp (hW (ha.h pos2 af s σ H _ I h) fun us s1 ⟨vs,H1,I1,r,μ1,ws,st1,S1,r1,hl,q⟩=>⟨I1.kIn,?_⟩) he mI
 have hl':(us++([]:List Value)).length=ps.length:=by rw[cW,<- r.length,<- r1.len,hl,hn]
 refine nD (gH (Fo.run X.A X.stack s1 H1 ⟨us,[]⟩ us vs Q (fun _ _ _=>False) hr I1.env0 (by have:=hb s1 us I1.kIn hl';rwa[cW]at this) r ⟨by rw[<- r1.len];exact hl,μ1,ws,st1,S1,r1,q⟩) fun r s' hq=>?_)
 cases r with
 |error e=>obtain⟨_,_,_,_,_,_,z,_⟩:=hq;exact z.elim
 |ok fl=>
  cases fl with
  |ret u=>exact I1.after hq
  |next=>exact False.elim hq
  |brk=>exact False.elim hq
  |cont=>exact False.elim hq
def y0(F:List W->List al->R W)(fa:FE)(m:Nat)(tj:Obj->Prop)(G:List W->List al->R (List W))(fs:FA)(fb:FE):FE:=fun ρ st=>(fa ρ st).bind fun wa st1=>(fs ρ st1).bind fun HD st2=>if HD.length=m then(match G HD st2 with
  |.ok cws gD=>vJ (fun p:Addr×Obj×List Obj=>tj p.2.1/\p.2.2.length=(iq p.2.1).length) (fun p=>match fb ρ (gD++[.pin false p.1 p.2.1 .non]++eX (jy (iq p.2.1) p.2.2 cws))with
   |.ok wb vd=>(match F [wa,.loc gD.length,wb] vd with
    |.ok w xV=>.ok w (j4 gD xV [w])
    |_=>.bad)
   |_=>.bad)
  |_=>.bad)else .bad
variable{ea eb:Expr}
theorem Nu{k k2 k':Nat}(Fn:gc X.prog X.w X.K X.mg X.base k x 3 F)(Fc:yZ X.prog X.w X.K X.mg X.base k2 y m tj G)(hr:hX k' X.A)(hk:k<=k')(Kh:k2<=k')(ha:SE X ea fa)(hs:SA X (c::cs) fs)(hb:SE X eb fb)
  (hg:Gl X x:=by rfl) (Kr:Gl X y:=by rfl) (vf:(x==("__debug__":Str))=false:=by decide) (Uj:(y==("__debug__":Str))=false:=by decide)
  (Ph:starEach (c::cs) X.env=(false,eval c X.env)::starEach cs X.env:=by rfl) (T9:(backTo pos2 (starEach cs X.env)).any (·.1)=false:=by rfl)
  (he:starEach [ea,.Call (.Name y p2) (c::cs) [] pos2,eb] X.env=(false,eval ea X.env)::starEach [.Call (.Name y p2) (c::cs) [] pos2,eb] X.env:=by rfl) (mI:(backTo pos (starEach [.Call (.Name y p2) (c::cs) [] pos2,eb] X.env)).any (·.1)=false:=by rfl)
  (U3:starEach [.Call (.Name y p2) (c::cs) [] pos2,eb] X.env=(false,eval (.Call (.Name y p2) (c::cs) [] pos2) X.env)::starEach [eb] X.env:=by rfl) (U5:starEach [eb] X.env=(false,eval eb X.env)::starEach [] X.env:=by rfl) :
  SE X (.Call (.Name x p) [ea,.Call (.Name y p2) (c::cs) [] pos2,eb] [] pos) (y0 F fa m tj G fs fb):=⟨by
 intro af s σ H Q I h
 obtain⟨f,fd,ps,hm,hkp,hn,hbi,Fo⟩:=(Fn.mono hk).ex
 refine dw (qg I hg hm ?_ vf)
 obtain⟨μ,ρ,st,l,h⟩:=h
 have PAll:=mW ha.h (mW (Nt (p2:=p2) (pos2:=pos2) Fc hr Kh hs Kr Uj Ph T9) (mW hb.h (wj (X:=X)) U5) U3) he
 have h':Ba (tE X fa) (Ba (QW X fs m tj G) (Ba (tE X fb) PN)) σ H fun vs H1=>∃(gD vd:List al) (μ3 μ4:List Addr) (H0:Hp) (ws:List W),fO X.K X.mg μ3 gD H0/\μ3 <+: μ4/\fO X.K X.mg μ4 vd H1/\RelWs X.K μ4 H1 ws vs/\ws.length=3/\RK X (qm X) μ3 σ H1 Q (match F ws vd with
   |.ok w xV=>.ok w (j4 gD xV [w])
   |_=>.bad):=by
  unfold y0 at h
  refine⟨μ,ρ,st,l,RK.bind h l fun μ1 st1 wa va H1 p1 x1 l1 q1 h1=>⟨μ1,ρ,st1,l1,RK.bind h1 l1 fun μ2 st2 HD vcas H2 p2 x2 l2 q2 h2=>?_⟩⟩
  by_cases cl:HD.length=m
  ·rw[av cl]at h2
   refine⟨μ2,HD,st2,l2.sto,q2,cl,?_⟩
   cases eG:G HD st2 with
   |ok cws gD=>
    rw[eG]at h2
    simp only at h2 ⊢
    intro μ3 fA o os H0 H3 p3 x3 S0 x4 ok hl S3
    rcases FC (ok:=fun p:Addr×Obj×List Obj=>tj p.2.1/\p.2.2.length=(iq p.2.1).length) (f:=fun p=>match fb ρ (gD++[.pin false p.1 p.2.1 .non]++eX (jy (iq p.2.1) p.2.2 cws))with
      |.ok wb vd=>(match F [wa,.loc gD.length,wb] vd with
       |.ok w xV=>.ok w (j4 gD xV [w])
       |_=>.bad)
      |_=>.bad) (fA,o,os) ⟨ok,hl⟩with hp|hp
    ·rw[hp]at h2
     simp only at h2
     have p30:μ3 <+: μ3++[fA]++(jy (iq o) os cws).map fun x=>x.2.1:=by rw[a8];exact ag _ _
     have l3:Rl X (μ3++[fA]++(jy (iq o) os cws).map fun x=>x.2.1) ρ (gD++[.pin false fA o .non]++eX (jy (iq o) os cws)) σ H3:=l2.to (p3.trans p30) (x3.trans x4) S3
     refine⟨_,ρ,_,l3,?_⟩
     cases e4:fb ρ (gD++[.pin false fA o .non]++eX (jy (iq o) os cws))with
     |ok wb vd=>
      rw[e4]at h2
      simp only at h2
      intro μ4 vb H4 p4 x5 S4 rb
      have pm:μ3 <+: μ4:=p30.trans p4
      refine⟨gD,vd,μ3,μ4,H0,[wa,.loc gD.length,wb],S0,pm,S4,.consI (q1.mono (p2.trans (p3.trans pm)) (x2.trans (x3.trans (x4.trans x5)))) (.consI ?_ (.consI rb .nilI)),rfl,h2.mono p3 (x3.trans (x4.trans x5))⟩
      refine .locI ?_
      rw[S0.len]
      refine aZ p4 ?_
      rw[a8,bw (au _),kO];rfl
     |ex _ _=>rw[e4]at h2;exact h2.elim
     |bad=>rw[e4]at h2;exact h2.elim
    ·rw[hp]at h2;exact h2.elim
   |ex _ _=>rw[eG]at h2;exact h2.elim
   |bad=>rw[eG]at h2;exact h2.elim
  ·rw[az cl]at h2;exact h2.elim
 refine PySem.W.callWith_K (h₀:=X.base) I.ok.mod.kin hkp (hW (PAll pos af s σ H _ I h') fun us s1 ⟨vs,H1,I1,r,gD,vd,μ3,μ4,H0,ws,S0,p34,S4,r4,hl3,q⟩=>⟨I1.kIn,?_⟩) he mI
 refine KP Fo hn hr hbi I1 S4 r4 r hl3 ?_
 cases eF:F ws vd with
 |ok w xV=>
  rw[eF]at q
  simp only at q
  intro μ5 v H5 p5 x5 S5 r5
  obtain⟨μ6,p6,S6,r6⟩:=kU S0 S5 (p34.trans p5) (.consI r5 .nilI)
  obtain⟨_,e6,r7⟩:=r6.one
  cases e6
  exact q μ6 v H5 p6 x5 S6 r7
 |ex _ _=>rw[eF]at q;exact q.elim
 |bad=>rw[eF]at q;exact q.elim⟩
end
open AutoSeq1 (wpAny_loadPart')
abbrev kD(h:Heap)(T:Addr)(a b c:Value):Prop:=h.get? T=some { cls:=.type "tuple",data:=.seq #[a,b,c] }
theorem Dq(a b c:Value):checkTypeCall "zip" ⟨[a,b,c],[]⟩=pure ():=by kernel_rfl
theorem FH(a b c:Value):checkBuiltinCall "zip.__new__" ⟨[.type "zip",a,b,c],[]⟩=pure ():=by kernel_rfl
theorem Dr(a b c d:Value):argsOk "object.__init__" ⟨[a,b,c,d],[]⟩:=by
 unfold argsOk;rw[signature?_of (id:="object.__init__") (n:=['_','_','t','i','n','i','_','_']) (o:=['t','c','e','j','b','o']) (by kernel_rfl) F.owner_object];kernel_rfl
section
variable{w:World}
theorem qy{T:Addr}{a b c x:Value}{k:Nat}{Q:Unit->Shared->Prop}(hT:kD s.heap T a b c)
  (h:∀h',h'.get? T=some { cls:=.type "tuple",data:=.seq ((#[a,b,c]:Array Value).setIfInBounds k x) }->Heap.SameBut T s.heap h'->Q () { s with heap:=h' }) :
  wpAny (model prog w) A (updateSeq T (·.setIfInBounds k x)) Q E s:=by
 refine kw hT rfl (h _ ?_ (dP ..))
 rw[de _ hT rfl]
 simp[Obj.mapSeq]
structure Z3(h:Heap)(n a b c:Addr)(k:Nat)(f:Value):Prop where
 z:IsZip h (n+5) (n+3) (n+4) f
 P:kD h (n+3) (.ref n) (.ref (n+1)) (.ref (n+2))
 O:∃u v w,kD h (n+4) u v w
 i:h.IsListIter n a k
 j:h.IsTupleIter (n+1) b k
 l:h.IsTupleIter (n+2) c k
variable{n c:Addr}{k:Nat}{xs ys zs:Array Value}{x y t:Value}
theorem Jw(ha:a<n)(hb:b<n)(hc:c<n)(q:Z3 s.heap n a b c k .none)(la:s.heap.IsList a xs)(lb:s.heap.IsTuple b ys)(lc:s.heap.IsTuple c zs)
  (hx:xs[k]?=some x) (hy:ys[k]?=some y) (ht:zs[k]?=some t)
  (hQ:∀g,Z3 g n a b c (k+1) (rawInt s.heap.objs.size)->kD g s.heap.objs.size x y t ->
   (∀d o,d≠n+5->d≠n+4->d≠n->d≠n+1->d≠n+2->s.heap.get? d=some o->g.get? d=some o)->Q (.ref s.heap.objs.size) { s with heap:=g }) :
  wpAny (model prog w) A (Builtin.«zip.__next__» ⟨[.ref (n+5)],[]⟩) (fun lj s'=>∃v,lj=.done (.ret v)/\Q v s') E s:=by
 obtain⟨qz,qP,⟨u0,v0,w0,qO⟩,q1,q2,q3⟩:=q
 have N:∀{p q:Nat},p≠q->n+p≠n+q:=fun h e=>h (fg e)
 have M:∀{d p:Nat},d<n->d≠n+p:=fun h=>aN (aK h (Nat.le_add_right _ _))
 show wpAny _ _ (field (.ref (n+5)) 2 >>= _) _ _ _
 refine aa (bS qz rfl (x:=.bool false) rfl ?_)
 show wpAny _ _ (field (.ref (n+5)) 3 >>= _) _ _ _
 refine aa (bS qz rfl (x:=.ref (n+3)) rfl (aa (bB qP rfl ?_)))
 show wpAny _ _ (Builtin.SmallTypes.ownedTupleIsFree (.ref (n+5)) >>= _) _ _ _
 refine aa ?_;unfold Builtin.SmallTypes.ownedTupleIsFree
 refine aa (bS qz rfl (x:=.none) rfl (ae ?_));simp only[gF]
 refine aa (fK (aa (bS qz rfl (x:=.ref (n+4)) rfl ?_)))
 refine aa (bv qz (by simp) fun g1 z1 s1=>?_)
 replace z1:IsZip g1 (n+5) (n+3) (n+4) .ellipsis:=z1
 refine aa ?_
 simp only[jO,kA,fT,lA]
 refine aa (aa (eE ?_))
 show wpAny _ _ (Builtin.SmallTypes.nextOf (.ref n) >>= _) _ _ _
 have n0:∀p,p≠0->n≠n+p:=fun p h e=>h (fg (e.symm.trans (fY n).symm))
 refine aa (nE (q1.extBut s1.extBut (n0 5 (by decide))) (la.extBut s1.extBut (M ha)) hx fun g2 k2 s2=>ae ?_)
 have O2:kD g2 (n+4) u0 v0 w0:=s2.extBut _ _ (n0 4 (by decide)).symm (s1.extBut _ _ (N (by decide)) qO)
 refine aa (bB O2 rfl (aa (qy O2 fun g3 O3 s3=>?_)))
 replace O3:kD g3 (n+4) x v0 w0:=O3
 refine aa (ip (ae (aa (aa (eE ?_)))))
 show wpAny _ _ (Builtin.SmallTypes.nextOf (.ref (n+1)) >>= _) _ _ _
 refine aa (gU (((q2.extBut s1.extBut (N (by decide))).extBut s2.extBut (n0 1 (by decide)).symm).extBut s3.extBut (N (by decide)))
  (((lb.extBut s1.extBut (M hb)).extBut s2.extBut (aN hb)).extBut s3.extBut (M hb)) hy fun g4 k4 s4=>ae ?_)
 have O4:kD g4 (n+4) x v0 w0:=s4.extBut _ _ (N (by decide)) O3
 refine aa (bB O4 rfl (aa (qy O4 fun g5 O5 s5=>?_)))
 replace O5:kD g5 (n+4) x y w0:=O5
 refine aa (ip (ae (aa (aa (eE ?_)))))
 show wpAny _ _ (Builtin.SmallTypes.nextOf (.ref (n+2)) >>= _) _ _ _
 refine aa (gU (((((q3.extBut s1.extBut (N (by decide))).extBut s2.extBut (n0 2 (by decide)).symm).extBut s3.extBut (N (by decide))).extBut s4.extBut (N (by decide))).extBut s5.extBut (N (by decide)))
  (((((lc.extBut s1.extBut (M hc)).extBut s2.extBut (aN hc)).extBut s3.extBut (M hc)).extBut s4.extBut (M hc)).extBut s5.extBut (M hc)) ht fun g6 k6 s6=>ae ?_)
 have O6:kD g6 (n+4) x y w0:=s6.extBut _ _ (N (by decide)) O5
 refine aa (bB O6 rfl (aa (qy O6 fun g7 O7 s7=>?_)))
 replace O7:kD g7 (n+4) x y t:=O7
 refine aa (ip (ae (ae (aa (bB O7 rfl (aa (oN ?_)))))))
 have sz:g7.objs.size=s.heap.objs.size:=by rw[s7.1,s6.1,s5.1,s4.1,s3.1,s2.1,s1.1]
 have kp:∀d o,d≠n+4->d≠n->d≠n+1->d≠n+2->g1.get? d=some o->g7.get? d=some o:=fun d o c2 c3 c4 c5 e=>
  s7.extBut _ _ c2 (s6.extBut _ _ c5 (s5.extBut _ _ c2 (s4.extBut _ _ c4 (s3.extBut _ _ c2 (s2.extBut _ _ c3 e)))))
 have z7:IsZip g7 (n+5) (n+3) (n+4) .ellipsis:=kp _ _ (N (by decide)) (n0 5 (by decide)).symm (N (by decide)) (N (by decide)) z1
 have P7:kD g7 (n+3) (.ref n) (.ref (n+1)) (.ref (n+2)):=kp _ _ (N (by decide)) (n0 3 (by decide)).symm (N (by decide)) (N (by decide)) (s1.extBut _ _ (N (by decide)) qP)
 have a7:g7.IsListIter n a (k+1):=((((k2.extBut s3.extBut (n0 4 (by decide))).extBut s4.extBut (n0 1 (by decide))).extBut s5.extBut (n0 4 (by decide))).extBut s6.extBut (n0 2 (by decide))).extBut s7.extBut (n0 4 (by decide))
 have b7:g7.IsTupleIter (n+1) b (k+1):=((k4.extBut s5.extBut (N (by decide))).extBut s6.extBut (N (by decide))).extBut s7.extBut (N (by decide))
 have c7:g7.IsTupleIter (n+2) c (k+1):=k6.extBut s7.extBut (N (by decide))
 have zlt:n+5<g7.objs.size:=ax z7
 show wpAny _ _ (Builtin.SmallTypes.ownedTupleHandOut (.ref (n+5)) (.ref g7.objs.size) >>= _) _ _ _
 refine aa ?_;unfold Builtin.SmallTypes.ownedTupleHandOut
 have z8:IsZip (g7.push { cls:=.type "tuple",data:=.seq #[x,y,t] }) (n+5) (n+3) (n+4) .ellipsis:=aj _ z7
 refine aa (bv z8 (by simp) fun g9 z9 s9=>?_)
 replace z9:IsZip g9 (n+5) (n+3) (n+4) (rawInt g7.objs.size):=z9
 refine bv z9 (by simp) fun gA zA sA=>?_
 replace zA:IsZip gA (n+5) (n+3) (n+4) (rawInt g7.objs.size):=zA
 have up:∀d o,d≠n+5->g7.get? d=some o->gA.get? d=some o:=fun d o c1 e=>sA.extBut _ _ c1 (s9.extBut _ _ c1 (aj _ e))
 have TA:kD gA g7.objs.size x y t:=sA.extBut _ _ (eB zlt) (s9.extBut _ _ (eB zlt) (aq _ rfl))
 rw[sz]at zA TA
 refine ae ⟨_,rfl,?_⟩
 show Q (.ref g7.objs.size) _
 rw[sz]
 exact hQ gA ⟨zA,up _ _ (N (by decide)) P7,⟨_,_,_,up _ _ (N (by decide)) O7⟩,a7.at fun o e=>up _ o (n0 5 (by decide)) e,b7.at fun o e=>up _ o (N (by decide)) e,c7.at fun o e=>up _ o (N (by decide)) e⟩ TA
  fun d o c1 c2 c3 c4 c5 e=>up d o c1 (kp d o c2 c3 c4 c5 (s1.extBut _ _ c1 e))
theorem Nv{Q:Fin->Shared->Prop}(hh:A.handled=none)(ha:a<n)(hb:b<n)(hc:c<n)(q:Z3 s.heap n a b c k .none)(la:s.heap.IsList a xs)(lb:s.heap.IsTuple b ys)(lc:s.heap.IsTuple c zs)
  (he:xs[k]?=none\/ys[k]?=none\/zs[k]?=none)
  (hE:∀g e,(∀d o,d≠n+5->d≠n+4->d≠n->d≠n+1->d≠n+2->s.heap.get? d=some o->g.get? d=some o)->(∃o,g.get? e=some o/\o.cls=.type "StopIteration")->E (.ref e) { s with heap:=g }) :
  wpAny (model prog w) A (Builtin.«zip.__next__» ⟨[.ref (n+5)],[]⟩) Q E s:=by
 obtain⟨qz,qP,⟨u0,v0,w0,qO⟩,q1,q2,q3⟩:=q
 have N:∀{p q:Nat},p≠q->n+p≠n+q:=fun h e=>h (fg e)
 have M:∀{d p:Nat},d<n->d≠n+p:=fun h=>aN (aK h (Nat.le_add_right _ _))
 have n0:∀p,p≠0->n≠n+p:=fun p h e=>h (fg (e.symm.trans (fY n).symm))
 show wpAny _ _ (field (.ref (n+5)) 2 >>= _) _ _ _
 refine aa (bS qz rfl (x:=.bool false) rfl ?_)
 show wpAny _ _ (field (.ref (n+5)) 3 >>= _) _ _ _
 refine aa (bS qz rfl (x:=.ref (n+3)) rfl (aa (bB qP rfl ?_)))
 show wpAny _ _ (Builtin.SmallTypes.ownedTupleIsFree (.ref (n+5)) >>= _) _ _ _
 refine aa ?_;unfold Builtin.SmallTypes.ownedTupleIsFree
 refine aa (bS qz rfl (x:=.none) rfl (ae ?_));simp only[gF]
 refine aa (fK (aa (bS qz rfl (x:=.ref (n+4)) rfl ?_)))
 refine aa (bv qz (by simp) fun g1 z1 s1=>?_)
 replace z1:IsZip g1 (n+5) (n+3) (n+4) .ellipsis:=z1
 refine aa ?_
 simp only[jO,kA,fT,lA]
 refine aa (aa (eE ?_))
 show wpAny _ _ (Builtin.SmallTypes.nextOf (.ref n) >>= _) _ _ _
 have lj:∀(g2:Heap) (e:Addr),(∀d o,d≠n+4->d≠n->d≠n+1->d≠n+2->g1.get? d=some o->g2.get? d=some o)->(∃o,g2.get? e=some o/\o.cls=.type "StopIteration")->wpAny (model prog w) A (setField (.ref (n+5)) 0 .none) (fun _ s'=>E (.ref e) s') E { s with heap:=g2 }:=fun g2 e kp ye=>by
  obtain⟨oe,h1,h2⟩:=ye
  have z2:IsZip g2 (n+5) (n+3) (n+4) .ellipsis:=kp _ _ (N (by decide)) (n0 5 (by decide)).symm (N (by decide)) (N (by decide)) z1
  have nez:e≠n+5:=fun q=>by subst q;rw[z2]at h1;cases h1;simp at h2
  exact bv z2 (by simp) fun g3 _ s3=>hE g3 e (fun d o c1 c2 c3 c4 c5 q=>s3.extBut _ _ c1 (kp d o c2 c3 c4 c5 (s1.extBut _ _ c1 q))) ⟨oe,s3.extBut _ _ nez h1,h2⟩
 cases hx:xs[k]? with
 |none=>
  exact aa (wpAny_nextOf_list_end hh (q1.extBut s1.extBut (n0 5 (by decide))) (la.extBut s1.extBut (M ha)) hx fun g2 e s2 ye=>lj g2 e (fun d o _ c3 _ _ q=>s2 _ _ c3 q) ye)
 |some x=>
  have he':ys[k]?=none\/zs[k]?=none:=by rcases he with h|h;rw[hx]at h;cases h;exact h
  refine aa (nE (q1.extBut s1.extBut (n0 5 (by decide))) (la.extBut s1.extBut (M ha)) hx fun g2 k2 s2=>ae ?_)
  have O2:kD g2 (n+4) u0 v0 w0:=s2.extBut _ _ (n0 4 (by decide)).symm (s1.extBut _ _ (N (by decide)) qO)
  refine aa (bB O2 rfl (aa (qy O2 fun g3 O3 s3=>?_)))
  replace O3:kD g3 (n+4) x v0 w0:=O3
  refine aa (ip (ae (aa (aa (eE ?_)))))
  show wpAny _ _ (Builtin.SmallTypes.nextOf (.ref (n+1)) >>= _) _ _ _
  have j3:=((q2.extBut s1.extBut (N (by decide))).extBut s2.extBut (n0 1 (by decide)).symm).extBut s3.extBut (N (by decide))
  have b3:=((lb.extBut s1.extBut (M hb)).extBut s2.extBut (aN hb)).extBut s3.extBut (M hb)
  cases hy:ys[k]? with
  |none=>exact aa (kH hh j3 b3 hy fun g4 e s4 ye=>lj g4 e (fun d o c2 c3 c4 _ q=>s4 _ _ c4 (s3.extBut _ _ c2 (s2.extBut _ _ c3 q))) ye)
  |some y=>
   have ht:zs[k]?=none:=by rcases he' with h|h;rw[hy]at h;cases h;exact h
   refine aa (gU j3 b3 hy fun g4 k4 s4=>ae ?_)
   have O4:kD g4 (n+4) x v0 w0:=s4.extBut _ _ (N (by decide)) O3
   refine aa (bB O4 rfl (aa (qy O4 fun g5 O5 s5=>?_)))
   refine aa (ip (ae (aa (aa (eE ?_)))))
   show wpAny _ _ (Builtin.SmallTypes.nextOf (.ref (n+2)) >>= _) _ _ _
   exact aa (kH hh (((((q3.extBut s1.extBut (N (by decide))).extBut s2.extBut (n0 2 (by decide)).symm).extBut s3.extBut (N (by decide))).extBut s4.extBut (N (by decide))).extBut s5.extBut (N (by decide)))
    (((((lc.extBut s1.extBut (M hc)).extBut s2.extBut (aN hc)).extBut s3.extBut (M hc)).extBut s4.extBut (M hc)).extBut s5.extBut (M hc)) ht fun g6 e s6 ye=>lj g6 e (fun d o c2 c3 c4 c5 q=>s6 _ _ c5 (s5.extBut _ _ c2 (s4.extBut _ _ c4 (s3.extBut _ _ c2 (s2.extBut _ _ c3 q))))) ye)
theorem Jx{Q:Option Value->Shared->Prop}(ha:a<n)(hb:b<n)(hc:c<n)(q:Z3 s.heap n a b c k .none)(la:s.heap.IsList a xs)(lb:s.heap.IsTuple b ys)(lc:s.heap.IsTuple c zs)
  (hx:xs[k]?=some x) (hy:ys[k]?=some y) (ht:zs[k]?=some t)
  (hQ:∀g,Z3 g n a b c (k+1) (rawInt s.heap.objs.size)->kD g s.heap.objs.size x y t ->
   (∀d o,d≠n+5->d≠n+4->d≠n->d≠n+1->d≠n+2->s.heap.get? d=some o->g.get? d=some o)->Q (some (.ref s.heap.objs.size)) { s with heap:=g }) :
  wpAny (model prog w) A (pyNext (.ref (n+5))) Q E s:=by
 have T:s.TypeIs (.ref (n+5)) "zip":=⟨_,q.z,rfl⟩
 unfold pyNext
 exact aa (fD (bt (name:=Str.ofString "__next__") T eU (bp eU T jP
   (Jw ha hb hc q la lb lc hx hy ht fun g a1 a2 a3=>ae (hQ g a1 a2 a3)) (jv _))))
theorem Jy{Q:Option Value->Shared->Prop}(hh:A.handled=none)(ha:a<n)(hb:b<n)(hc:c<n)(q:Z3 s.heap n a b c k .none)(la:s.heap.IsList a xs)(lb:s.heap.IsTuple b ys)(lc:s.heap.IsTuple c zs)
  (he:xs[k]?=none\/ys[k]?=none\/zs[k]?=none)
  (hQ:∀g,(∀d o,d≠n+5->d≠n+4->d≠n->d≠n+1->d≠n+2->s.heap.get? d=some o->g.get? d=some o)->Q none { s with heap:=g }):wpAny (model prog w) A (pyNext (.ref (n+5))) Q E s:=by
 have T:s.TypeIs (.ref (n+5)) "zip":=⟨_,q.z,rfl⟩
 unfold pyNext
 refine aa (fD (bt (name:=Str.ofString "__next__") T eU (bp eU T jP (Nv hh ha hb hc q la lb lc he fun g e hk ye=>?_) (jv _))))
 obtain⟨o,ho,mh⟩:=ye
 exact aa (dB (T:="StopIteration") (b:=true) ⟨o,ho,mh⟩ jr (ae (hQ _ hk)))
end
abbrev SR(h:Heap)(a:Addr):Heap:=h.push (wS a)
abbrev SU(h:Heap)(a b:Addr):Heap:=(SR h a).push (oQ b)
abbrev SV(h:Heap)(a b c:Addr):Heap:=(SU h a b).push (oQ c)
abbrev SX(h:Heap)(a b c:Addr):Heap:=(SV h a b c).push { cls:=.type "tuple",data:=.seq #[.ref h.objs.size,.ref (SR h a).objs.size,.ref (SU h a b).objs.size] }
abbrev SY(h:Heap)(a b c:Addr):Heap:=(SX h a b c).push { cls:=.type "tuple",data:=.seq #[.none,.none,.none] }
abbrev Nw(h:Heap)(a b c:Addr):Heap:=(SY h a b c).push { cls:=.type "zip",data:=.fields #[.none,.bool false,.bool false,.ref (SV h a b c).objs.size,.ref (SX h a b c).objs.size] }
theorem Nx     (a b c : Addr) (xs ys zs : Array Value) : Meets (Builtin.«zip.__new__» ⟨[.type "zip", .ref a, .ref b, .ref c], []⟩) (fun _ R s => s.heap.IsList a xs /\ s.heap.IsTuple b ys /\ s.heap.IsTuple c zs /\
      R (.ok (.ret (.ref (SY  s.heap a b c).objs.size))) { s with heap := Nw  s.heap a b c }) :=
  .of_wp fun prog w A R s h => by
    obtain ⟨hp, g, d, tk, os⟩ := s
    obtain ⟨ha, hb, hc, h⟩ := h
    have sb := sub_zip
    have hA : Heap.IsList (Shared.heap ⟨hp, g, d, tk, os⟩) a xs := ha
    have hB : Heap.IsTuple (Shared.heap ⟨hp.push (wS      a), g, d, tk, os⟩) b ys := hb.at fun o e => aj                     _ e
    have hC : Heap.IsTuple (Shared.heap ⟨(hp.push (wS      a)).push (oQ      b), g, d, tk, os⟩) c zs := hc.at fun o e => aj                     _ (aj                     _ e)
    wp_walk using jm                hA, fH                 hB, fH                 hC
    exact ⟨_, rfl, h⟩
section
variable{w:World}
theorem Jz{c:Addr}{xs ys zs:Array Value}(ha:s.heap.IsList a xs)(hb:s.heap.IsTuple b ys)(hc:s.heap.IsTuple c zs)
  (q:∀g,Z3 g s.heap.objs.size a b c 0 .none->(∀d o,s.heap.get? d=some o->g.get? d=some o)->Q (.ref (s.heap.objs.size+5)) { s with heap:=g }) :
  wpAny (model prog w) A (call (.type "zip") [.ref a,.ref b,.ref c]) Q E s:=by
 refine callType_new F.called_zip (by decide) (Dq _ _ _) (FH _ _ _) (fun ob=>Dr ob _ _ _) F.entry_zip_new (Nx a b c xs ys zs) ⟨ha,hb,hc,?_⟩
 have n1:(SR s.heap a).objs.size=s.heap.objs.size+1:=bg ..
 have n2:(SU s.heap a b).objs.size=s.heap.objs.size+2:=by rw[bg,n1]
 have n3:(SV s.heap a b c).objs.size=s.heap.objs.size+3:=by rw[bg,n2]
 have n4:(SX s.heap a b c).objs.size=s.heap.objs.size+4:=by rw[bg,n3]
 have n5:(SY s.heap a b c).objs.size=s.heap.objs.size+5:=by rw[bg,n4]
 have p:∀{h:Heap} {c:Addr} {o u:Obj},h.get? c=some o->(h.push u).get? c=some o:=fun e=>aj _ e
 have g6:(Nw s.heap a b c).get? (SY s.heap a b c).objs.size=some _:=aq _ rfl
 have g5:(Nw s.heap a b c).get? (SX s.heap a b c).objs.size=some _:=p (aq _ rfl)
 have g4:(Nw s.heap a b c).get? (SV s.heap a b c).objs.size=some _:=p (p (aq _ rfl))
 have g3:(Nw s.heap a b c).get? (SU s.heap a b).objs.size=some _:=p (p (p (aq _ rfl)))
 have g2:(Nw s.heap a b c).get? (SR s.heap a).objs.size=some _:=p (p (p (p (aq _ rfl))))
 have g1:(Nw s.heap a b c).get? s.heap.objs.size=some _:=p (p (p (p (p (aq _ rfl)))))
 show _/\_
 rw[n3,n4,n5]at g6
 rw[n1,n2,n3]at g4
 rw[n4]at g5
 rw[n2]at g3
 rw[n1]at g2
 rw[n5]
 exact⟨⟨_,g6,rfl⟩,q _ ⟨g6,g4,⟨_,_,_,g5⟩,⟨_,g1,rfl,rfl⟩,⟨_,g2,rfl,rfl⟩,⟨_,g3,rfl,rfl⟩⟩ fun d o e=>p (p (p (p (p (p e)))))⟩
end
def Uy(K:Frag)(a b c:Addr):It:=
  ⟨fun i H=>∃xs ys zs x y z,nG K H a xs/\fj K H b ys/\fj K H c zs/\xs[i]?=some x/\ys[i]?=some y/\zs[i]?=some z,
   fun i H v H'=>∃p,H p=none/\v=.ref p/\∀xs ys zs x y z,nG K H a xs->fj K H b ys->fj K H c zs->xs[i]?=some x->ys[i]?=some y->zs[i]?=some z->H'=eJ H p (.tup [x,y,z]),
   fun i H=>∃xs ys zs,nG K H a xs/\fj K H b ys/\fj K H c zs/\(xs.length<=i\/ys.length<=i\/zs.length<=i)⟩
theorem JA{w:World}{n c:Addr}(ha:a<n)(hb:b<n)(hc:c<n) :
  we P w K (.Tuple oM kk pos) (Uy K a b c) [n+5,n+3,n+4,n,n+1,n+2] (n+5) (fun k h=>Z3 h n a b c k .none) where
 mem:=by simp
 obj:=fun k h st d hd=>by
  obtain⟨h1,h2,⟨u,v,w,h3⟩,⟨o4,e4,_,d4⟩,⟨o5,e5,_,d5⟩,⟨o6,e6,_,d6⟩⟩:=st
  have q:d=n+5\/d=n+3\/d=n+4\/d=n\/d=n+1\/d=n+2:=by simpa using hd
  rcases q with rfl|rfl|rfl|rfl|rfl|rfl
  ·exact⟨_,h1,fun v q=>by cases q⟩
  ·exact⟨_,h2,fun v q=>by cases q⟩
  ·exact⟨_,h3,fun v q=>by cases q⟩
  ·exact⟨_,e4,fun v q=>by rw[d4]at q;cases q⟩
  ·exact⟨_,e5,fun v q=>by rw[d5]at q;cases q⟩
  ·exact⟨_,e6,fun v q=>by rw[d6]at q;cases q⟩
 keep:=fun k h h' st kp=>by
  obtain⟨h1,h2,⟨u,v,w,h3⟩,h4,h5,h6⟩:=st
  exact⟨kp (n+5) (by simp) _ h1,kp (n+3) (by simp) _ h2,⟨u,v,w,kp (n+4) (by simp) _ h3⟩,h4.at fun o e=>kp n (by simp) o e,h5.at fun o e=>kp (n+1) (by simp) o e,h6.at fun o e=>kp (n+2) (by simp) o e⟩
 item:=by
  intro X hP hw hK hc' k af s σ H E I hf st hg
  subst hP hw hK
  obtain⟨xs,ys,zs,x,y,z,hq,hr,ht,hx,hy,hz⟩:=hg
  obtain⟨its,r1,p1,_⟩:=I.list hq
  obtain⟨jts,r2,p2,_⟩:=I.tuple hr
  obtain⟨kts,r3,p3,_⟩:=I.tuple ht
  obtain⟨u,hu,ru⟩:=r1.get hx
  obtain⟨v,hv,rv⟩:=r2.get hy
  obtain⟨t,hT,rt⟩:=r3.get hz
  refine Jx ha hb hc st (show s.heap.IsList a its.toArray from p1.isList) (show s.heap.IsTuple b jts.toArray from p2) (show s.heap.IsTuple c kts.toArray from p3) (x:=u) (y:=v) (t:=t) (by simpa using hu) (by simpa using hv) (by simpa using hT) fun g a1 a5 kp=>⟨_,rfl,?_⟩
  refine iG a1.z fun g2 b1 s2=>?_
  have sF:H s.heap.objs.size=none:=I.hok.fresh (au _)
  have I1:bE X af σ (eJ H s.heap.objs.size (.tup [x,y,z])) { s with heap:=s.heap.push { cls:=.type "tuple",data:=.seq #[u,v,t] },toks:=s.toks }:=I.laid (fun c o q=>aj _ q) (au _)
   ⟨by show 3<=sizeLine;decide,[u,v,t],.cons ru (.cons rv (.cons rt .nil)),⟨_,aq _ rfl,rfl,_,rfl⟩⟩
  have lt:∀{c o},s.heap.get? c=some o->c≠s.heap.objs.size:=fun e=>aN (ax e)
  have nf:∀d∈[n+5,n+3,n+4,n,n+1,n+2],d≠s.heap.objs.size:=fun d hd=>by
   obtain⟨h1,h2,⟨u,v,w,h3⟩,⟨o4,e4,_,d4⟩,⟨o5,e5,_,d5⟩,⟨o6,e6,_,d6⟩⟩:=st
   have q:d=n+5\/d=n+3\/d=n+4\/d=n\/d=n+1\/d=n+2:=by simpa using hd
   rcases q with rfl|rfl|rfl|rfl|rfl|rfl
   ·exact lt h1
   ·exact lt h2
   ·exact lt h3
   ·exact lt e4
   ·exact lt e5
   ·exact lt e6
  have fp:∀d∈[n+5,n+3,n+4,n,n+1,n+2],tF X af (eJ H s.heap.objs.size (.tup [x,y,z])) d:=fun d hb=>by
   obtain⟨f0,f⟩:=hf d hb
   exact⟨by rw[bY (nf d hb)];exact f0,f⟩
  have N:∀{p q:Nat},p≠q->n+p≠n+q:=fun h e=>h (fg e)
  have n0:∀p,p≠0->n≠n+p:=fun p h e=>h (fg (e.symm.trans (fY n).symm))
  have I2:bE X af σ (eJ H s.heap.objs.size (.tup [x,y,z])) { s with heap:=g2,toks:=s.toks }:=bE.turnedL (s:={ s with heap:=s.heap.push { cls:=.type "tuple",data:=.seq #[u,v,t] },toks:=s.toks }) (ch:=[n+5,n+4,n,n+1,n+2]) (t':=s.toks) I1 (fun d o hb q=>?_) fun d hb=>fp d (by
   have q:d=n+5\/d=n+4\/d=n\/d=n+1\/d=n+2:=by simpa using hb
   rcases q with rfl|rfl|rfl|rfl|rfl<;>simp)
  ·obtain⟨c1,c2,c3⟩:=id a1
   refine⟨.ref s.heap.objs.size,_,I2,rfl,⟨_,sF,rfl,fun xs' OW zs' x' y' z' e1 e2 e3 e4 e5 e6=>?_⟩,⟨b1,s2.extBut _ _ (N (by decide)) a1.P,let ⟨_,_,_,q⟩:=a1.O;⟨_,_,_,s2.extBut _ _ (N (by decide)) q⟩,a1.i.extBut s2.extBut (n0 5 (by decide)),a1.j.extBut s2.extBut (N (by decide)),a1.l.extBut s2.extBut (N (by decide))⟩,fun d hb=>(fp d hb).1⟩
   have q1:=I.list_inj e1 hq
   have q2:=I.tuple_inj e2 hr
   have q3:=I.tuple_inj e3 ht
   subst q1 q2 q3
   rw[hx]at e4;rw[hy]at e5;rw[hz]at e6;cases e4;cases e5;cases e6;rfl
  ·have q':(s.heap.push { cls:=.type "tuple",data:=.seq #[u,v,t] }).get? d=some o:=q
   have hn:d≠n+5/\d≠n+4/\d≠n/\d≠n+1/\d≠n+2:=by simpa using hb
   refine s2.extBut d o hn.1 ?_
   by_cases hb':d=s.heap.objs.size
   ·subst hb'
    have e1:=aq s.heap (o:={ cls:=.type "tuple",data:=.seq #[u,v,t] }) rfl
    rw[e1]at q';cases q'
    exact a5
   ·rw[lZ _ _ _ hb']at q'
    exact kp d o hn.1 hn.2.1 hn.2.2.1 hn.2.2.2.1 hn.2.2.2.2 q'
 done:=by
  intro X hP hw hK hc' k af s σ H E I hf st hg
  subst hP hw hK
  obtain⟨xs,ys,zs,hq,hr,ht,he⟩:=hg
  obtain⟨its,r1,p1,_⟩:=I.list hq
  obtain⟨jts,r2,p2,_⟩:=I.tuple hr
  obtain⟨kts,r3,p3,_⟩:=I.tuple ht
  have l1:=r1.length
  have l2:=r2.length
  have l3:=r3.length
  refine Jy (I.ok.hd hc') ha hb hc st (show s.heap.IsList a its.toArray from p1.isList) (show s.heap.IsTuple b jts.toArray from p2) (show s.heap.IsTuple c kts.toArray from p3) (by
   rcases he with q|q|q
   ·exact .inl (by simp;omega)
   ·exact .inr (.inl (by simp;omega))
   ·exact .inr (.inr (by simp;omega))) fun g kp=>⟨rfl,?_⟩
  exact I.turnedL (ch:=[n+5,n+4,n,n+1,n+2]) (t':=s.toks) (fun d o hb q=>by
   have hn:d≠n+5/\d≠n+4/\d≠n/\d≠n+1/\d≠n+2:=by simpa using hb
   exact kp d o hn.1 hn.2.1 hn.2.2.1 hn.2.2.2.1 hn.2.2.2.2 q) fun d hb=>hf d (by
   have q:d=n+5\/d=n+4\/d=n\/d=n+1\/d=n+2:=by simpa using hb
   rcases q with rfl|rfl|rfl|rfl|rfl<;>simp)
 self:=fun A k s Q E st h=>gq st.z h
def TZ(K:Frag)(ta:TA):TI:=fun σ H R=>ta σ H fun vs H1=>∃a b c,vs=[.ref a,.ref b,.ref c]/\(∃xs,nG K H1 a xs)/\(∃ys,fj K H1 b ys)/\(∃zs,fj K H1 c zs)/\R (Uy K a b c) H1
theorem JB{a b:Expr}{ta:TA}{p pos tp:Pos}{oM:List Expr}{kk:Nat}(hm:X.mg "zip"=none)(ha:QA X [a,b,c] ta)(hg:Gl X "zip":=by rfl)(hs:starEach [a,b,c] X.env=(false,eval a X.env)::starEach [b,c] X.env:=by rfl)
  (oZ:(backTo pos (starEach [b,c] X.env)).any (·.1)=false:=by rfl):QI X (.Tuple oM kk tp) (.Call (.Name "zip" p) [a,b,c] [] pos) (TZ X.K ta):=⟨by
 intro af s σ H R I h
 refine Call_ (mV I hg hm boot_zip (cM (hW (ha.h pos af s σ H _ I h) fun us s1 ⟨vs,H1,I1,r1,q1⟩=>?_) hs oZ))
 obtain⟨t,t',t2,e,⟨xs,hq⟩,⟨ys,hr⟩,⟨zs,hz⟩,q⟩:=q1
 subst e
 cases r1 with
 |cons x1 r1=>cases r1 with
  |cons x2 r1=>cases r1 with
   |cons x3 r1=>
   cases r1
   cases x1
   cases x2
   cases x3
   obtain⟨its,rv,p1,_⟩:=I1.list hq
   obtain⟨jts,jW,p2,_⟩:=I1.tuple hr
   obtain⟨kts,rz,p3,_⟩:=I1.tuple hz
   have lt1:t<s1.heap.objs.size:=by obtain⟨_,e,_⟩:=(show s1.heap.IsList t its.toArray from p1.isList);exact ax e
   have lt2:t'<s1.heap.objs.size:=by obtain⟨_,e,_⟩:=(show s1.heap.IsTuple t' jts.toArray from p2);exact ax e
   have lt3:t2<s1.heap.objs.size:=by obtain⟨_,e,_⟩:=(show s1.heap.IsTuple t2 kts.toArray from p3);exact ax e
   refine Jz (show s1.heap.IsList t its.toArray from p1.isList) (show s1.heap.IsTuple t' jts.toArray from p2) (show s1.heap.IsTuple t2 kts.toArray from p3) fun g e1 kp=>?_
   refine gq e1.z ?_
   refine⟨s1.heap.objs.size+5,[s1.heap.objs.size+5,s1.heap.objs.size+3,s1.heap.objs.size+4,s1.heap.objs.size,s1.heap.objs.size+1,s1.heap.objs.size+2],_,_,H1,rfl,I1.kept (t':=s1.toks) kp,JA lt1 lt2 lt3,e1,fun c hb=>?_,q⟩
   have hc:s1.heap.objs.size<=c:=by
    have z:c=s1.heap.objs.size+5\/c=s1.heap.objs.size+3\/c=s1.heap.objs.size+4\/c=s1.heap.objs.size\/c=s1.heap.objs.size+1\/c=s1.heap.objs.size+2:=by simpa using hb
    rcases z with rfl|rfl|rfl|rfl|rfl|rfl<;>simp
   exact I1.fpOk hc (I1.hok.fresh hc)⟩
def k_:List W->List W->List W->List W
 |x::xs,y::ys,z::zs=>.tup [x,y,z]::k_ xs ys zs
 |_,_,_=>[]
theorem rL:∀{xs ys zs:List W} {i:Nat} {w:W},(k_ xs ys zs)[i]?=some w->∃x y z,xs[i]?=some x/\ys[i]?=some y/\zs[i]?=some z/\w=.tup [x,y,z]
 |x::xs,y::ys,z::zs,0,w,h=>by simp[k_]at h;exact⟨x,y,z,rfl,rfl,rfl,h.symm⟩
 |x::xs,y::ys,z::zs,i+1,w,h=>by simp[k_]at h;simpa using rL h
 |[],_,_,i,w,h=>by simp[k_]at h
 |_::_,[],_,i,w,h=>by simp[k_]at h
 |_::_,_::_,[],i,w,h=>by simp[k_]at h
theorem rM:∀(xs ys zs:List W),(k_ xs ys zs).length=min xs.length (min ys.length zs.length)
 |x::xs,y::ys,z::zs=>by simp[k_,rM xs ys zs]
 |[],_,_=>by simp[k_]
 |_::_,[],_=>by simp[k_]
 |_::_,_::_,[]=>by simp[k_]
section
variable{a b:Expr}{fs:FA}
def ui(fs:FA):FI:=fun ρ st=>(fs ρ st).bind fun ws st=>match ws with
 |[.loc n,.tup ys,.tup zs]=>(match lstOf st n with
  |some xs=>.ok (k_ xs ys zs,some (n,xs)) st
  |none=>.bad)
 |_=>.bad
theorem JC{oM:List Expr}{kk:Nat}{tp:Pos}(hm:X.mg "zip"=none)(ha:SA X [a,b,c] fs)(hg:Gl X "zip":=by rfl)(hs:starEach [a,b,c] X.env=(false,eval a X.env)::starEach [b,c] X.env:=by rfl)(mI:(backTo pos (starEach [b,c] X.env)).any (·.1)=false:=by rfl) :
  SI X (.Tuple oM kk tp) (.Call (.Name "zip" p) [a,b,c] [] pos) (ui fs):=⟨(JB hm ⟨ha.h⟩ hg hs mI).h.imp fun σ H R h=>by
 obtain⟨μ,ρ,st,l,h⟩:=h
 refine⟨μ,ρ,st,l,RK.bind h l fun μ1 st1 x v H1 p1 x1 l1 q1 h1=>?_⟩
 split at h1
 ·rename_i n ws us
  obtain⟨y,ys,rfl,ry,r1⟩:=q1.consE
  obtain⟨y2,ys2,rfl,ry2,r2⟩:=r1.consE
  obtain⟨y3,rfl,ry3⟩:=r2.one
  obtain⟨t1,ha1,rfl⟩:=ry.locE
  obtain⟨t,vs,rfl,hS,r⟩:=ry2.tupE
  obtain⟨t',uW,rfl,hS',r'⟩:=ry3.tupE
  cases e1:lstOf st1 n with
  |none=>rw[e1]at h1;exact h1.elim
  |some xs=>
   rw[e1]at h1
   obtain⟨a',vs0,g0,hS0,r0⟩:=l1.sto.lstOf e1
   rw[ha1]at g0;cases g0
   refine⟨t1,t,t',rfl,⟨vs0,hS0⟩,⟨vs,hS⟩,⟨uW,hS'⟩,h1 μ1 _ H1 (ac _) dg.refl l1.sto fun i μ' bD H' pp xx S ck=>?_⟩
   obtain⟨a2,vl,g2,hL,rl⟩:=S.lstOf (show lstOf bD n=some xs from ck)
   have:μ'[n]?=some t1:=aZ pp ha1
   rw[g2]at this;cases this
   refine⟨fun w hw=>?_,fun hl=>⟨vl,vs,uW,hL,xx _ _ hS,xx _ _ hS',by rw[rM]at hl;rw[<- rl.len,<- r.len,<- r'.len];omega⟩⟩
   obtain⟨x,y,z,hx,hy,hz,rfl⟩:=rL hw
   have m1:=r.mono pp xx
   have m2:=r'.mono pp xx
   obtain⟨v0,f1,f2⟩:=rl.get hx
   obtain⟨v1,g1,g2⟩:=m1.get hy
   obtain⟨v2,g3,g4⟩:=m2.get hz
   refine⟨⟨vl,vs,uW,v0,v1,v2,hL,xx _ _ hS,xx _ _ hS',f1,g1,g3⟩,fun u H'' hu=>?_⟩
   obtain⟨q,hq,rfl,hH⟩:=hu
   have e:=hH vl vs uW v0 v1 v2 hL (xx _ _ hS) (xx _ _ hS') f1 g1 g3
   subst e
   have ex:=fj.same (K:=X.K) (cn hq (.tup [v0,v1,v2]))
   exact⟨ex,S.same (cn hq _),.tupI fj.new (.consI (f2.mono (ac _) ex) (.consI (g2.mono (ac _) ex) (.consI (g4.mono (ac _) ex) .nilI)))⟩
 ·exact h1.elim⟩
end
section
variable{w:World}{d:Addr}{es:Array DictEntry}
theorem Ny(hs:(d==sysModules)=false)(ho:s.heap.get? d=some o)(hc:o.ExactDict)(hd:o.data=.dict es ep)
  (hQ:Q (.ref s.heap.objs.size) { s with heap:=s.heap.push { cls:=.type "dict_keyiterator",data:=.fields #[.ref d,.int 0 0,.int es.size 0,.int ep 0] } }) :
  wpAny (model prog w) A (pyIter (.ref d)) Q E s:=by
 have T:s.TypeIs (.ref d) "dict":=⟨o,ho,hc.1⟩
 refine lX T F.slot_dict_iter (bp F.slot_dict_iter T F.entry_dict_iter ?_ (F.args_dict_iter_1 _))
 unfold Builtin.«dict.__iter__» Builtin.Dict.dictSlotNone
 refine aa (aa (n_ T ?_))
 show wpAny _ _ (pure (Value.ref d)) _ _ s
 refine ae ?_
 show wpAny _ _ (Builtin.Dict.showsAll d >>= _) _ _ s
 unfold Builtin.Dict.showsAll
 rw[az (by rw[hs];exact bK)]
 refine aa (ae (aa (wpAny_dictEntries ho hd (aa (wpAny_dictEpoch ho hd (aa (bJ (ae ⟨_,rfl,"dict_keyiterator",_,⟨_,aq _ rfl,rfl⟩,kB.lookup,?_⟩))))))))
 simpa[rawInt]using hQ
theorem FJ{Q:Option Value->Shared->Prop}(pk:s.heap.IsKeyIter it d i es.size ep)(ho:s.heap.get? d=some o)(hd:o.data=.dict es ep)
  (hg:∀e,es[i]?=some e->∀g,g.IsKeyIter it d (i+1) es.size ep->Heap.SameBut it s.heap g->Q (some e.key) { s with heap:=g })
  (hn:es[i]?=none->A.handled=none/\∀g,Heap.ExtBut it s.heap g->Q none { s with heap:=g }):wpAny (model prog w) A (pyNext (.ref it)) Q E s:=by
 obtain⟨p,hp,mh,hf⟩:=id pk
 have T:=pk.typeIs
 unfold pyNext
 refine aa (fD (bt (name:=Str.ofString "__next__") T kB (bp kB T F.entry_dict_keyiterator_next ?_ (F.args_dict_keyiterator_next_1 _))))
 refine aa (ae (aa (aa (aa ?_))))
 refine gz T (ae (aa (jq hp hf ?_)))
 simp only[show Builtin.Dict_items.ownsTuple "dict_keyiterator"=false by decide,bZ,eL]
 show wpAny _ _ (if (Value.ref d==Value.none)=true then _ else _) _ _ s
 rw[az (show ¬ ((Value.ref d==Value.none)=true)from bK)]
 refine aa (ae (aa (wpAny_dictEntries ho hd ?_)))
 rw[az (by simp)]
 refine aa (ae (aa (wpAny_dictEpoch ho hd ?_)))
 rw[az (by simp)]
 refine ae ?_
 simp only[show ¬ ((i:Int)<0)from by omega,eL,aB]
 cases e:es[i]? with
 |some x=>
  refine aa (aa (gz T (ae (aa (og T ?_)))))
  show wpAny _ _ (setField (.ref it) 1 (rawInt ((i:Int)+1)) >>= _) _ _ s
  refine aa (ly hp hf (by simp) ?_)
  have h':(s.heap.update it (Obj.mapFields (·.setIfInBounds 1 (rawInt ((i:Int)+1))))).IsKeyIter it d (i+1) es.size ep:=
   ⟨_,de _ hp (nZ (i3 hf _)),(Obj.cls_mapFields ..).trans mh,by rw[i3 hf];simp[rawInt]⟩
  refine aa (cx (aa (og (s:={ s with heap:=s.heap.update it (Obj.mapFields (·.setIfInBounds 1 (rawInt ((i:Int)+1)))) }) h'.typeIs ?_)))
  show wpAny _ _ (pure x.key) _ _ _
  exact ae (ae ⟨_,rfl,ae (hg x e _ h' (dP ..))⟩)
 |none=>
  obtain⟨hh,hQ⟩:=hn e
  refine aa (aa (gz T (ae ?_)))
  show wpAny _ _ (setField (.ref it) 0 .none >>= _) _ _ s
  refine aa (ly hp hf (by simp) ?_)
  show wpAny _ _ (newExc (.type "StopIteration") [] >>= _) _ _ _
  refine aa ?_
  simp only[newExc,newTuple]
  refine aa (bJ ?_ (by size_fits))
  refine aa (m:=firstArgMember _ _) (lW (a:=Value.none) (by first|rfl|(simp only[firstArgMember];rfl)) ?_)
  refine bJ ?_ (by size_fits)
  simp only[raiseNew]
  refine aa (pL ?_)
  rw[show A.in1.handled=none from hh]
  refine aa (ae (wpAny_throw ?_))
  refine aa (dB (T:="StopIteration") (b:=true) ⟨_,aq _ rfl,rfl⟩ jr ?_)
  exact ae (hQ _ (((dP ..).extBut.push _).push _))
end
theorem bE.freezeX(I:bE X af σ H s)(ha:H a=some (.ext φ))(ho:s.heap.get? a=some o):bE X af σ (eJ H a (.frz o (.ext φ))) s:=by
 have ne:∀b u,H b=some u->(∀z,u≠.ext z)->eJ H a (.frz o (.ext φ)) b=some u:=fun b u e n=>by rw[bY (fun z=>by rw[z,ha]at e;cases e;exact n _ rfl)];exact e
 have:bE X af σ (eJ H a (.frz o (.ext φ))) { s with heap:=s.heap,toks:=s.toks }:=by
  refine I.un ⟨fun b o e n hb hx=>e,fun b o e n hb hx=>⟨o.slots,e⟩,fun b o e n hx=>?_,fun b o e hx=>⟨o,e⟩,fun b xs e=>ne b _ e fun _ z=>(by cases z),fun b o u e=>ne b _ e fun _ z=>(by cases z),fun b ps e=>⟨#[],by rw[ne b _ e fun _ z=>(by cases z)];simp⟩⟩ fun b u e=>?_
  ·rw[bY (fun z=>by rw[z,ha]at n;cases n)];exact n
  ·by_cases hb:b=a
   ·subst hb
    rw[cO]at e;cases e
    exact⟨ho,I.hok b _ ha⟩
   ·rw[bY hb]at e
    exact(I.hok b u e).stay (fun _ _ _ q=>q) (fun c q=>ne c _ q fun _ z=>(by cases z)) fun c xs q=>ne c _ q fun _ z=>(by cases z)
 exact this
def Pf(a:Addr)(o:Obj)(es:List DictEntry):It where
 go:=fun i H=>H a=some (.frz o (xP a es))/\∃e b,es[i]?=some e/\e.key=.ref b
 yld:=fun i H x H'=>H'=H/\∃e b,es[i]?=some e/\e.key=.ref b/\x=.ref b
 stop:=fun i H=>H a=some (.frz o (xP a es))/\es.length<=i
theorem wV{es:List DictEntry}(I:bE X af σ H s)(ha:H a=some (.frz o (xP a es))):s.heap.get? a=some o/\o.ExactDict/\o.data=.dict es.toArray (yO o):=by
 obtain⟨e,d,_⟩:=(show eO X.prog X.w H s.heap a (.frz o (.ext (DX a es)))from I.hok a _ ha)
 obtain⟨o',ep,e',x,y⟩:=d
 rw[e]at e';cases e'
 refine⟨e,x,?_⟩
 have:yO o=ep:=by unfold yO;rw[y]
 rw[this];exact y
theorem AB{w:World}(a it:Addr)(o:Obj)(es:List DictEntry):we P w K tg (Pf a o es) [it] it (fun i h=>h.IsKeyIter it a i es.length (yO o)) where
 mem:=by simp
 obj:=fun i h st b hb=>by
  have e:b=it:=by simpa using hb
  subst e
  obtain⟨o,e,c,d⟩:=st
  exact⟨o,e,fun v z=>by rw[d]at z;cases z⟩
 keep:=fun i h h' st k=>st.at fun o e=>k it (by simp) o e
 item:=by
  intro X hP hw hK hc i af s σ H E I hf st hg
  subst hP hw hK
  obtain⟨ha,e,b,he,hb⟩:=hg
  obtain⟨ho,hx,hd⟩:=wV I ha
  obtain⟨f0,f1,f2,f3,f4,f5⟩:=hf it (by simp)
  have st1:s.heap.IsKeyIter it a i es.toArray.size (yO o):=by simpa using st
  refine FJ st1 ho hd (fun e' he' g bD sb=>?_) fun hn=>absurd hn (by simp[he])
  have e1:e'=e:=by
   have:es[i]?=some e':=by simpa using he'
   rw[he]at this;exact(a9 this).symm
  subst e1
  have I1:bE X af σ H { s with heap:=g }:=I.turned (t':=s.toks) (fun b o hb e=>sb.extBut b o hb e) f0 f1 f3 f4 f5
  have st2:g.IsKeyIter it a (i+1) es.length (yO o):=by simpa using bD
  obtain⟨o2,e2,c2,d2⟩:=id st2
  exact⟨e'.key,rfl,xZ (s:={ s with heap:=g }) e2 c2 d2 (by decide) ⟨.ref b,H,I1,by rw[hb];rfl,⟨rfl,_,b,he,hb,rfl⟩,st2,fun b hb=>(hf b hb).1⟩⟩
 done:=by
  intro X hP hw hK hc i af s σ H E I hf st hg
  subst hP hw hK
  obtain⟨ha,hi⟩:=hg
  obtain⟨ho,hx,hd⟩:=wV I ha
  obtain⟨f0,f1,f2,f3,f4,f5⟩:=hf it (by simp)
  have st1:s.heap.IsKeyIter it a i es.toArray.size (yO o):=by simpa using st
  exact FJ st1 ho hd (fun e' he'=>absurd he' (by simp[cq hi])) fun _=>⟨I.ok.hd hc,fun g eb=>⟨rfl,I.turned (t':=s.toks) (fun b o hb e=>eb b o hb e) f0 f1 f3 f4 f5⟩⟩
 self:=fun _ _ _ _ _ st h=>wpAny_pyIter_keyiter st h
def Nz(te:TE):TI:=fun σ H R=>te σ H fun x H1=>∃a es,x=.ref a/\(a==sysModules)=false/\((H1 a=some (xP a es)/\∀o h,DX a es h->R (Pf a o es) (eJ H1 a (.frz o (xP a es))))\/∃o,H1 a=some (.frz o (xP a es))/\R (Pf a o es) H1)
theorem FK(he:PE X b9 te):PI X tg b9 (Nz te):=fun af s σ H R I h=>by
 refine hW (he af s σ H _ I h) fun u s1 hh=>?_
 obtain⟨x,H1,I1,rx,a,es,rfl,hs,hc⟩:=hh
 obtain rfl:u=Value.ref a:=rx
 have walk:∀(o:Obj) (H2:Hp),bE X af σ H2 s1->H2 a=some (.frz o (xP a es))->R (Pf a o es) H2->wpAny (model X.prog X.w) X.A (pyIter (.ref a)) (Sx X af σ tg R) X.xe s1:=fun o H2 I2 ha q=>by
  obtain⟨ho,hx,hd⟩:=wV I2 ha
  refine Ny hs ho hx hd ?_
  have k1:∀b o',s1.heap.get? b=some o'->(s1.heap.push { cls:=.type "dict_keyiterator",data:=.fields #[.ref a,.int 0 0,.int es.toArray.size 0,.int (yO o) 0] }).get? b=some o':=fun b o' e=>aj _ e
  refine⟨s1.heap.objs.size,[s1.heap.objs.size],_,Pf a o es,H2,rfl,I2.kept k1,AB a _ o es,?_,fun b hb=>?_,q⟩
  ·exact⟨_,aq _ rfl,rfl,by simp⟩
  ·have e:b=s1.heap.objs.size:=by simpa using hb
   subst e
   exact I2.fpOk (au _) I2.fresh
 rcases hc with⟨ha,q⟩|⟨o,ha,q⟩
 ·have dd:=KZ I1.hok ha
  obtain⟨o,ep,ho,_⟩:=id dd
  exact walk o _ (I1.freezeX ha ho) cO (q o _ dd)
 ·exact walk o H1 I1 ha q
def FL(st:List al):W->Option (Nat×List (KX×W))
 |.loc n=>(match st[n]? with
  |some (.dcx kvs)=>some (n,kvs)
  |some (.rox kvs)=>some (n,kvs)
  |_=>none)
 |_=>none
def Ds(kvs:List (KX×W)):Bool:=kvs.all fun p=>decide (p.1.tag≠0)
def iT(fe:FE):FI:=fun ρ st=>(fe ρ st).bind fun x st=>match FL st x with
 |some (n,kvs)=>if Ds kvs=true then .ok (kvs.map (fun p=>p.1.w),none) (st.set n (.rox kvs))else .bad
 |none=>.bad
theorem JD{k:KX}(ht:k.tag≠0)(r:bj K μ H k.w v)(ru:cf v u):∃b,v=.ref b/\u=.ref b:=by
 cases k with
 |bo _=>exact absurd rfl ht
 |fl ks=>obtain⟨p,vs,rfl,_⟩:=r.tupE;exact⟨p,rfl,ru⟩
 |pr i ks=>obtain⟨p,vs,rfl,_⟩:=r.tupE;exact⟨p,rfl,ru⟩
theorem Paired.at1{r:α->β->Prop}:∀{as:List α} {bs:List β},Paired r as bs->∀{i:Nat} {a:α},as[i]?=some a->∃b,bs[i]?=some b/\r a b
 |_,_,.nil,i,a,h=>by simp at h
 |_,_,.cons h t,0,a,e=>by simp at e;subst e;exact⟨_,rfl,h⟩
 |_,_,.cons h t,i+1,a,e=>by simpa using Paired.at1 t (by simpa using e)
theorem uj(he:SE X b9 fe):SI X tg b9 (iT fe):=⟨fun af s σ H R I h=>(FK he.h) af s σ H R I (by
 obtain⟨μ,ρ,st,l,h⟩:=h
 refine⟨μ,ρ,st,l,RK.bind h l fun μ1 st1 x v H1 p1 x1 l1 q1 h1=>?_⟩
 cases e:FL st1 x with
 |none=>rw[e]at h1;exact h1.elim
 |some nk=>
  obtain⟨n,kvs⟩:=nk
  rw[e]at h1
  simp only at h1
  by_cases hT:Ds kvs=true
  ·rw[av hT]at h1
   have wk:∀(a:Addr) (es:List DictEntry) (o:Obj) (H2:Hp),H2 a=some (.frz o (xP a es))->Paired (pS X.K μ1 H2) kvs es->wE X (Pf a o es) (kvs.map (fun p=>p.1.w),none) μ1 H2:=fun a es o H2 hz pr i μ' bD H' pm xm S _=>by
    have hz':=xm.z _ _ _ hz
    have c_:kvs.length=es.length:=Paired.length pr
    refine⟨fun w hw=>?_,fun hi=>⟨hz',by rw[<- c_];simpa using hi⟩⟩
    rw[ak]at hw
    obtain⟨p,hp,rfl⟩:=be.mp hw
    obtain⟨en,hen,_,⟨v1,r1,r2⟩,_⟩:=Paired.at1 pr hp
    have tg0:p.1.tag≠0:=by
     have:=fE.mp hT p (aY hp)
     simpa using this
    obtain⟨b,rfl,hb⟩:=JD tg0 r1 r2
    refine⟨⟨hz',en,b,hen,hb⟩,fun x H'' hy=>?_⟩
    obtain⟨rfl,e2,b2,Ph,hb2,rfl⟩:=hy
    rw[hen]at Ph;cases Ph
    rw[hb]at hb2;cases hb2
    exact⟨dg.refl,S,r1.mono pm xm⟩
   cases x with
   |loc m=>
    simp only[FL]at e
    cases e1:st1[m]? with
    |none=>rw[e1]at e;cases e
    |some c=>
     rw[e1]at e
     cases c with
     |dcx z=>
      cases e
      obtain⟨a,g,es,k,hd,p,nd⟩:=l1.sto.get e1
      obtain⟨b,f,rfl⟩:=q1.locE
      rw[g]at f;cases f
      refine⟨a,es,rfl,hd,.inl ⟨k,fun o hp0 dd=>?_⟩⟩
      have hx:dg X.K H1 (eJ H1 a (.frz o (xP a es))):=fj.butE jd k
      have pr:=Paired.imp' (fun _ _ q=>pS.mono (ac _) hx q) p
      have S2:fO X.K X.mg μ1 (st1.set n (.rox kvs)) (eJ H1 a (.frz o (xP a es))):=l1.sto.setG e1 rfl g k (fun _ _ z=>by cases z) (BG dd) hx rfl ⟨es,o,cO,hd,pr,nd⟩
      exact h1 μ1 _ _ (ac _) hx S2 (wk a es o _ cO pr)
     |rox z=>
      cases e
      obtain⟨a,g,es,o,k,hd,p,nd⟩:=l1.sto.get e1
      obtain⟨b,f,rfl⟩:=q1.locE
      rw[g]at f;cases f
      refine⟨a,es,rfl,hd,.inr ⟨o,k,?_⟩⟩
      rw[ud e1]at h1
      exact h1 μ1 _ H1 (ac _) dg.refl l1.sto (wk a es o H1 k p)
     |_=>cases e
   |_=>cases e
  ·rw[az hT]at h1;exact h1.elim)⟩
def vK(st:List al):W->Option (Nat×List (KX×W))
 |.loc n=>(match st[n]? with
  |some (.rox kvs)=>some (n,kvs)
  |_=>none)
 |_=>none
def sQ(xU:Bool)(x y:W)(st:List al):R W:=match vK st y with
 |some (_,kvs)=>(match sN x with
  |some k=>if Dk kvs k=true then .ok (.bl (if xU then !(k7 kvs k).isSome else(k7 kvs k).isSome)) st else .bad
  |none=>.bad)
 |none=>Dl xU x y st
theorem NA(xU:Bool)(x y:W)(st:List al):pe (sQ xU x y st):=by
 unfold sQ
 split
 ·split
  ·split<;>trivial
  ·trivial
 ·exact Fy xU x y st
section
theorem FM(I:bE X af σ H s)(S:fO X.K X.mg μ st H){x:W}(h:vK st x=some (n,kvs))(r:bj X.K μ H x v) :
  ∃a es,v=.ref a/\DX a es s.heap/\(a==sysModules)=false/\Paired (pS X.K μ H) kvs es/\(kvs.map fun p=>p.1).Nodup:=by
 cases x with
 |loc m=>
  simp only[vK]at h
  cases e:st[m]? with
  |none=>rw[e]at h;cases h
  |some c=>
   rw[e]at h
   cases c with
   |rox z=>
    cases h
    obtain⟨a,g,es,o,k,hd,p,nd⟩:=S.get e
    obtain⟨b,f,rfl⟩:=r.locE
    rw[g]at f;cases f
    obtain⟨e1,e2,e3⟩:=wV I k
    exact⟨a,es,rfl,⟨o,_,e1,e2,e3⟩,hd,p,nd⟩
   |_=>cases h
 |_=>cases h
theorem NB{Pr:Prop}{es:List DictEntry}{k:KX}(I:bE X af σ H s)(d:DX a es s.heap)(p:Paired (pS X.K μ H) kvs es)(nd:(kvs.map fun p=>p.1).Nodup)(h:Dk kvs k=true)(rk:bj X.K μ H k.w v)(ru:cf v u)
  (hh:∀(K:Type) [DecidableEq K] (G:HV X K) (q:K) (b:Addr) (xs:List (K×Addr×Value)),k=G.em q->u=.ref b->G.knd.is s.heap q b->s.heap.DictOfH G.knd a xs->Vw G μ H kvs xs->Pr):Pr:=by
 unfold Dk at h
 rw[bA,cS]at h
 have go:∀(K:Type) [DecidableEq K] (G:HV X K) (q:K),k=G.em q->(∀p∈kvs,∃k,p.1=G.em k)->Pr:=fun K _ G q hk hp=>by
  obtain⟨xs,e,vw,A9⟩:=wQ G I p hp
  have hn:(xs.map (·.1)).Nodup:=by
   have:=nd
   rw[rG vw]at this
   exact(l6.mp this).imp fun h e=>h (eY _ e)
  subst hk
  obtain⟨b,rfl,hb⟩:=G.is (k:=q) I rk ru
  exact hh K G q b xs rfl rfl hb (Fu (by rw[<- e];exact d) A9 hn) vw
 rcases yS (X:=X) h.1 with⟨ks,rfl,hk⟩|⟨i,ks,rfl,hk⟩
 ·exact go _ (QU X) ks rfl hk
 ·exact go _ (QV X) (i,ks) rfl hk
theorem oG(hr:hX kk X.A):qo X (compareOp .NotIn) (sQ true):=⟨fun af s σ H x y v u Q I rv ru ⟨μ,st,wx,wy,S,rx,ry,q⟩=>by
 cases e:vK st wy with
 |none=>
  have:sQ true wx wy st=Dl true wx wy st:=by unfold sQ;rw[e]
  rw[this]at q
  exact(Fz hr).h af s σ H x y v u Q I rv ru ⟨μ,st,wx,wy,S,rx,ry,q⟩
 |some nk=>
  obtain⟨n,kvs⟩:=nk
  unfold sQ at q
  rw[e]at q
  simp only at q
  cases ek:sN wx with
  |none=>rw[ek]at q;exact q.elim
  |some k=>
   rw[ek]at q
   simp only at q
   by_cases hx:Dk kvs k=true
   ·rw[av hx]at q
    obtain⟨a,es,rfl,d,hs,p,nd⟩:=FM I S e ry
    obtain rfl:u=Value.ref a:=ru
    have:=Ay ek
    subst this
    refine NB I d p nd hx rx rv fun K inst G z b xs hk hb A9 xd vw=>?_
    subst hb
    refine wpAny_notIn_heap (G.room (by have:=hr.units;omega)) A9 hs xd ?_
    rw[vH z vw,<- hk]
    exact⟨.bl _,H,I.tok _,rfl,jg S q⟩
   ·rw[az hx]at q;exact q.elim,NA true⟩
end
open AutoSeq1 (wpAny_loadPart')
theorem rN:fillsNumberSlot (.type "tuple") "mul"=pure false:=
 PySem.fillsNumberSlot_seq (id:="tuple.__mul__") (r:=some (.builtin "tuple.__rmul__")) F.slot_tuple_mul.lookup (by decide +kernel) F.slot_tuple_rmul.lookup (by decide +kernel)
theorem wW:seqRepeat? (.type "tuple")=pure (some (.builtin "tuple.__mul__")):=by
 unfold seqRepeat?
 rw[PySem.seqSlot_of (T:="tuple") (name:="__mul__") (id:="tuple.__mul__") F.slot_tuple_mul.lookup (by decide +kernel),PySem.seqSlot_of (T:="tuple") (name:="__rmul__") (id:="tuple.__rmul__") F.slot_tuple_rmul.lookup (by decide +kernel)]
 rfl
theorem AC(a:Int)(t:Tok)(l:Addr)(items:Array Value)(n:Nat)(dc:Option Addr)(sl:Array (Option Value)) :
  Meets (Builtin.«int.__rmul__» ⟨[.int a t,.ref l],[]⟩) (fun _ R s=>s.heap.get? l=some { cls:=.type "tuple",dict:=dc,data:=.seq items n,slots:=sl }/\R (.ok (.ret Value.notImplemented)) s):=
 .of_wp fun prog w A R s h=>by obtain⟨hp,g,d,tk,os⟩:=s;obtain⟨hl,h⟩:=h;wp_walk;exact⟨_,rfl,h⟩
theorem Dt(l:Addr)(items:Array Value)(n:Nat)(dc:Option Addr)(sl:Array (Option Value))(k:Int)(t:Tok)(h0:items.isEmpty=false)(h1:2<=k)(hz:items.size*k.toNat<=sizeLine) :
  Meets (Builtin.«tuple.__mul__» ⟨[.ref l,.int k t],[]⟩) (fun _ R s=>s.heap.get? l=some { cls:=.type "tuple",dict:=dc,data:=.seq items n,slots:=sl } /\
   R (.ok (.ret (.ref s.heap.objs.size))) { s with heap:=s.heap.push { cls:=.type "tuple",data:=.seq ((List.replicate k.toNat items).foldl (·++·) #[]) } }):=
 .of_wp fun prog w A R s h=>by
  obtain⟨hp,g,d,tk,os⟩:=s
  obtain⟨hl,h⟩:=h
  have p0:1<=items.size:=by
   rcases Nat.eq_zero_or_pos items.size with z|z
   ·have:items=#[]:=jN z
    rw[this]at h0;cases h0
   ·exact z
  have kz:(items.size:Int)*k<=sizeLine:=by
   have:((items.size*k.toNat:Nat):Int)<=((sizeLine:Nat):Int):=Int.ofNat_le.mpr hz
   rw[cX,Int.toNat_of_nonneg (by omega)]at this
   exact this
  have kl:k<=sizeLine:=Int.le_trans (by have:=Int.mul_le_mul_of_nonneg_right (Int.ofNat_le.mpr p0) (show(0:Int)<=k by omega);simpa using this) kz
  have hs:((sizeLine:Nat):Int)<2^60-1:=by decide
  have c1:¬ ((decide (k < -2^63)||decide (k≥2^63))=true):=by simp;omega
  have c2:¬ ((items.isEmpty||k==1)=true):=by rw[h0];simp;omega
  have c3:¬ ((decide (k<=0)||items.isEmpty)=true):=by rw[h0];simp;omega
  have c4:¬ ((items.size:Int)*k>(2^63-1)/8):=by
   have:((2:Int)^63-1)/8=2^60-1:=by decide
   omega
  have c5:¬ (Builtin.Tuple.tupleTooMany ((items.size:Int)*k)=true):=by unfold Builtin.Tuple.tupleTooMany;simp;omega
  have c6:¬ ((List.foldl (fun x1 x2=>x1++x2) #[] (List.replicate k.toNat items)).size>sizeLine):=by
   have e:=oP items.toList k.toNat []
   simp only[dk]at e
   have e':(List.foldl (fun x1 x2=>x1++x2) #[] (List.replicate k.toNat items))=(List.replicate k.toNat items.toList).flatten.toArray:=e
   rw[e',aO,wp,da,gG]
   omega
  wp_walk using bC hl
  rw[az c1]
  wp_walk using bC hl
  rw[az c2]
  wp_walk using bC hl
  rw[az c3]
  wp_walk using bC hl
  rw[az c4]
  wp_walk using bC hl
  exact⟨_,rfl,h⟩
section
def QX(K:Frag):R2:=fun x y H Q=>∃a k xs,x=.ref a/\y=.int k/\fj K H a xs/\xs≠[]/\2<=k/\xs.length*k.toNat<=sizeLine/\∀p,H p=none->Q (.ref p) (eJ H p (.tup (List.replicate k.toNat xs).flatten))
theorem JE:l7 X (binaryOp .Mult) (QX X.K):=by
 intro af s σ H x y v u Q I rx ry h
 obtain⟨l,k,xs,rfl,rfl,hH,h0,h1,hz,q⟩:=h
 cases rx
 obtain⟨t,rfl⟩:=ry
 obtain⟨its,r,p,_⟩:=I.tuple hH
 obtain⟨⟨c,dc,dt,sl⟩,e,hc,n,hd⟩:=id (show s.heap.IsTuple l its.toArray from p)
 obtain rfl:c=.type "tuple":=hc
 obtain rfl:dt=.seq its.toArray n:=hd
 have hl:=r.length
 have hE:its.toArray.isEmpty=false:=by
  cases its with
  |nil=>cases r;exact absurd rfl h0
  |cons _ _=>rfl
 have c_:its.toArray.size*k.toNat<=sizeLine:=by rw[aO,<- hl];exact hz
 refine lH (T:="tuple") (U:="int") (by decide) ⟨_,e,rfl⟩ (fun s'=>nz s' k t) rN F.fills_int_mul kq wW F.slot_int_index.lookup
  (ij kq (nz s k t) F.entry_int_rmul (F.args_int_rmul_2 _ _) (AC k t l its.toArray n dc sl)
   ⟨e,rfl,⟨_,e,rfl⟩,ij F.slot_tuple_mul ⟨_,e,rfl⟩ F.entry_tuple_mul (F.args_tuple_mul_2 _ _) (Dt l its.toArray n dc sl k t hE h1 c_) ⟨e,?_⟩⟩)
 have hnew:List.foldl (fun x1 x2=>x1++x2) #[] (List.replicate k.toNat its.toArray)=(List.replicate k.toNat its).flatten.toArray:=by
  have:=oP its k.toNat []
  rw[dk]at this
  exact this
 rw[hnew]
 exact⟨.ref _,_,I.laid (t':=s.toks) (o:=.tup (List.replicate k.toNat xs).flatten) (fun c o q=>aj _ q) (au _) ⟨by rw[wp,gG];exact hz,_,r.rep k.toNat,⟨_,aq _ rfl,rfl,_,rfl⟩⟩,rfl,q _ I.fresh⟩
def y4(x y:W)(st:List al):R W:=match x,y with
 |.tup ws,.int k=>if ws≠[]/\2<=k/\ws.length*k.toNat<=jx then .ok (.tup (List.replicate k.toNat ws).flatten) st else .bad
 |x,y=>yJ x y st
theorem NC:qo X (binaryOp .Mult) y4:=⟨fun af s σ H x y v u Q I rv ru ⟨μ,st,wx,wy,S,rx,ry,q⟩=>by
 have other:y4 wx wy st=yJ wx wy st->wpAny (model X.prog X.w) X.A (binaryOp .Mult v u) (fun r s'=>∃x' H',bE X af σ H' s'/\cf x' r/\Q x' H') X.xe s:=fun e=>by
  rw[e]at q
  exact Fe.h af s σ H x y v u Q I rv ru ⟨μ,st,wx,wy,S,rx,ry,q⟩
 cases wx with
 |tup ws=>
  cases wy with
  |int k=>
   have q':CY X μ H Q (if ws≠[]/\2<=k/\ws.length*k.toNat<=jx then .ok (.tup (List.replicate k.toNat ws).flatten) st else .bad):=q
   by_cases c:ws≠[]/\2<=k/\ws.length*k.toNat<=jx
   ·rw[av c]at q'
    obtain⟨p1,vs1,rfl,h1,r1⟩:=rx.tupE
    refine JE af s σ H _ _ v u Q I rv ru ⟨p1,k,vs1,rfl,ry.intE,h1,fun z=>?_,c.2.1,by rw[<- r1.len];exact iX c.2.2,fun p hp=>?_⟩
    ·have:=r1.len;rw[z]at this;exact c.1 (eN this)
    ·have e:=cn hp (.tup (List.replicate k.toNat vs1).flatten)
     exact q' μ _ _ (ac _) (fj.same e) (S.same e) (.tupI (fj.of cO) ((r1.rep k.toNat).mono (ac _) (fj.same e)))
   ·rw[az c]at q';exact q'.elim
  |_=>exact other rfl
 |_=>exact other rfl,fun x y st=>by
 unfold y4
 split
 ·split<;>trivial
 ·exact Fe (X:=X) |>.n _ _ _⟩
end
section
variable{q:Str}{st:Stmt}{P c:Addr}{xs:List Str}
theorem FN(sE:X.env.code=.ref c)(Sq:codeHdIn X.K c P=true)(hB:wL X.base X.mg)(gE:X.env.cells=cellsFrom m X.env.scope.names [])(hN:X.N.Nodup)
  (R0:st=.FunctionDef name (fm st) (dZ st) [] none [] (aL st) none name pos:=by rfl)
  (sF:TY X.env.scope.names (aL st).names=true:=by first|rfl|kernel_rfl) (L_:(cv X.env (aL st).names []).map (·.1)=xs:=by rfl) (qf:Pe xs=true:=by first|rfl|kernel_rfl) (hq:qualnameIn X.env name name=q:=by rfl)
  (hi:X.N[i]?=some name:=by rfl) (hx:Cq X.env.scope name:=by first|exact Or.inl rfl|exact Or.inr rfl) (hf:X.fn name=true\/X.env.scope.names.lookup name=some .local:=by exact .inl rfl)
  (OX:(fm st).defaults=[]:=by rfl) (Ub:(fm st).kw_defaults=[]:=by rfl) (ha:annTrees (fm st) none X.env=[]:=by rfl) :
  PS X st (Jr X name q (fm st) (dZ st) (aL st) xs j P pos i):=by
 have h1:=Js (j:=j) (P:=P) (pos:=pos) (i:=i) (body:=dZ st) sE Sq hB gE (AA sF) L_ (wP qf) hq hN hi hx hf OX Ub ha
 rw[R0]
 exact h1
end
section
variable{w:World}{k:Nat}{st:Stmt}{f:Addr}
theorem ND(F:nH K x x st f fd)(hm:mg x=some (.ref f))(ok:fV P w K mg base (ja P w) k f fd ps (SQ K mg n tj G))(hn:ps.length=n:=by rfl)
  (hb:∀(kV j9 pm:Value) (an:Option Addr) (gu ct:Value) (us:List Value),us.length=ps.length->bindArgs (fnOf x x (fm st) (dZ st) (aL st) .none kV j9 pm an gu ct) ⟨us,[]⟩=pure (ps.zip us):=by(intro _ _ _ _ _ _ _ q;first|(obtain⟨_,rfl⟩:=Uu q;rfl)|(obtain⟨_,_,rfl⟩:=SN q;rfl)|(obtain⟨_,_,_,rfl⟩:=Uv q;rfl)|(obtain⟨_,_,_,_,rfl⟩:=Uw q;rfl))):yZ P w K mg base k x n tj G:=⟨f,fd,ps,hm,F.kp,hn,F.binds hb,ok⟩
end
section
variable{fi:Nj}{f:FG}
theorem y6{x0:Str}{p0 p1:Pos}(Ki:SG X (.Name x0 p0) (eA i))(hB:tP X.env.scope.names scope.names nm cap X.N=true)(gE:X.env.cells=cellsFrom m X.env.scope.names [])(hi:Ut X tg b9 fi)(hg:∀cl C s0 H0 fp,SG (bV X nm scope cl C s0 H0 fp) tg f)(ht:∀cl C s0 H0 fp,HC (bV X nm scope cl C s0 H0 fp) jb t)
  (he:∀cl C s0 H0 fp,SE (bV X nm scope cl C s0 H0 fp) km el) (fC:X.calm=true:=by rfl) (ef:scope.kind=.function:=by rfl) (hs:∀x,foldedSetIterable b9 X.env x=pure x:=by intro _;rfl)
  (Kp:swapsWith (.ListComp km [⟨tg,b9,jb,0⟩] scope pos) (some (.Name x0 p0)) p1.line X.env=pure true:=by first|rfl|kernel_rfl) :
  SS X (.Assign [.Name x0 p0] (.ListComp km [⟨tg,b9,jb,0⟩] scope pos) p1) (sM (rE cap fi f t el) (eA i)):=
 ⟨(tR ⟨Ki.h⟩ fC gE ef hB ⟨hi.h⟩ (fun cl C s0 H0 fp=>QK (X:=X) rfl rfl (hg cl C s0 H0 fp)) (fun cl C s0 H0 fp=>QJ (X:=X) rfl rfl (ht cl C s0 H0 fp)) (fun cl C s0 H0 fp=>QH (X:=X) rfl rfl (he cl C s0 H0 fp)) hs Kp).h.imp fun D σ H h=>by
  obtain⟨μ,ρ,st,l,h⟩:=h
  have h':tE X (rE cap fi f t el) σ H fun x H1=>M9 X (eA i) x σ H1 D.nx:=⟨μ,ρ,st,l,RK.stmt h l fun μ1 st1 x v H1 p1 x1 l1 q1 h1=>⟨μ1,ρ,st1,x,ρ.set i (some x),l1,q1,rfl,fun σ' l'=>h1 μ1 σ' H1 (ac _) dg.refl l'⟩⟩
  exact Jk h'⟩
end
theorem uk{f g:Str×Value->PUnit->Sem (ForInStep PUnit)}:∀{l:List (Str×Value)},(∀x∈l,∀u,f x u=g x u)->∀u:PUnit,forIn l u f=forIn l u g
 |[],_,_=>rfl
 |x::l,h,u=>by
  rw[fT,fT,h x aS u]
  congr 1
  funext r
  cases r with
  |done b=>rfl
  |yield b=>exact uk (fun y hy=>h y (aD _ hy)) b
theorem AD{e e':Env}{v:Value}(h1:e'.scope=e.scope)(h2:e'.locals=e.locals)(h3:e'.globals=e.globals)(h4:e'.cells.lookup x=e.cells.lookup x):storeName e x v=storeName e' x v:=by
 obtain⟨a,b,c,d,q1,q2,q3,q4,q5⟩:=e
 obtain⟨a',b',c',d',r1,r2,r3,r4,r5⟩:=e'
 simp only at h1 h2 h3 h4
 subst h1 h2 h3
 simp only[storeName,cellOf,localSet,Env.kindOf,Env.blockKind,h4]
section
theorem Du{scope:Scope}{globals:Addr}{cl:List (Str×Addr)}{binds:List (Str×Value)}{func:Option Addr}{code:Value}{builtins:Addr}{Q:Env->Shared->Prop}(hk:scope.kind=.function)
  (ef:∀x∈binds,scope.names.lookup x.1=some .local\/(scope.names.lookup x.1=some .cell/\((cellsFrom (s.heap.objs.size+1) scope.names []).lookup x.1).isSome=true))
  (mh:∀x∈binds,cl.lookup x.1=none)
  (hQ:∀s',InCallC s s.heap.objs.size (bindL (fun x=>scope.names.lookup x) binds fun _=>none) (cellsFrom (s.heap.objs.size+1) scope.names []) (bindC (fun x=>scope.names.lookup x) binds fun _=>none) s' ->
   Q (newEnv scope s.heap.objs.size globals (cellsFrom (s.heap.objs.size+1) scope.names []++cl) cD func code none builtins) s') :
  wpAny M A (newFunctionEnv scope globals cl binds cD func code none builtins) Q E s:=by
 simp only[newFunctionEnv,Option.isSome_none,bZ,eL]
 refine aa (wpAny_alloc ?_)
 refine aa (wpAny_layCells _ (fun name kind cells=>by cases hkc:kind==NameKind.cell<;>simp[hkc]) _ _ _ _ ?_)
 have ok:=cellsFrom_ok scope.names (s.heap.push { cls:=.type "frame",data:=.dict #[] }) (s.heap.objs.size+1) [] ⟨fun _ _ hm=>(nomatch hm),List.Pairwise.nil⟩ (by rw[bg];exact au _)
 rw[bg]at ok
 rw[show({ s with heap:=s.heap.push { cls:=.type "frame",data:=.dict #[] } }:Shared).heap.objs.size=s.heap.objs.size+1 from bg ..,iK _ _ cl]
 refine aa ?_
 rw[uk (g:=fun(x:Str×Value) (_:PUnit)=>(do storeName (newEnv scope s.heap.objs.size globals (cellsFrom (s.heap.objs.size+1) scope.names []) cD func code none builtins) x.1 x.2;pure (.yield ⟨⟩))) (fun x hx u=>?_)]
 ·exact wpAny_bindParams (s₀:=s) (env:=newEnv scope s.heap.objs.size globals (cellsFrom (s.heap.objs.size+1) scope.names []) cD func code none builtins)
   _ (fun _ _ _=>rfl) hk binds (fun _=>none) (fun _=>none) _ _
   ⟨⟨⟨_,_,rfl⟩,(Heap.Ns.new s.heap (.type "frame")).keeps (kr _ _),fun b o e=>kr _ _ b o (aj _ e),au _⟩,
    fun n c hc=>(ok.empty n c (PySem.mem_of_lookup hc)).1,ok.apart,fun n c hm=>(ok.empty n c hm).2⟩
   ef fun s' x=>ae (hQ s' x)
 ·obtain⟨y,v⟩:=x
  show(do storeName _ y v;pure _)=_
  congr 1
  refine AD rfl rfl rfl ?_
  show(cellsFrom (s.heap.objs.size+1) scope.names []).lookup y=(cellsFrom (s.heap.objs.size+1) scope.names []++cl).lookup y
  rw[dy,mh _ hx]
  cases(cellsFrom (s.heap.objs.size+1) scope.names []).lookup y<;>rfl
end
structure wX(N ps xs:List Str)(sc:Scope):Prop where
 kind:sc.kind=.function
 co:sc.isCoroutine=false
 gen:sc.isGenerator=false
 nd:N.Nodup
 pre:N.take ps.length=ps
 mid:(N.drop ps.length).take xs.length=xs
 par:∀x∈ps,sc.names.lookup x=some .local\/sc.names.lookup x=some .cell
 sep:∀y∈sc.names,y.2=.cell->y.1∉xs
 apx:∀x∈ps,x∉xs
 fre:∀y∈sc.names,y.2=.free->y.1∈xs
 xfr:∀x∈xs,sc.names.lookup x=some .free
section
variable{w:World}
theorem Dv{CX:DZ}{N xs:List Str}{f:Addr}{cd:Value}{outer:List Env}{s1:Shared}{E:XK}{zS:List Value}{tm:List V}
  (S:wX N ps xs scope) (hd:A.handled=none) (e0:Ad P w K mg base A outer s H) (hl:vs.length=ps.length) (r:cA vs us) (rc:cA tm zS) (hx:cl.map (·.1)=xs) (hn:(cl.map (·.2)).Nodup)
  (hc:Paired (fun(y:Str×Addr) (u:Value)=>s.heap.IsCell y.2 (some u)/\H y.2=none) cl zS)
  (x:InCallC s s.heap.objs.size (bindL (fun x=>scope.names.lookup x) (ps.zip us) fun _=>none) (cellsFrom (s.heap.objs.size+1) scope.names []) (bindC (fun x=>scope.names.lookup x) (ps.zip us) fun _=>none) s1) :
  bE (rH CX P w K mg base N cD scope f cd (cellsFrom (s.heap.objs.size+1) scope.names []++cl) A outer s H E) [] (i4 N (vs++tm)) H s1:=by
 have mI:ps.length<=N.length:=by have:=eY List.length S.pre;rw[bc]at this;omega
 have hxl:xs.length<=N.length-ps.length:=by have:=eY List.length S.mid;rw[bc,cJ]at this;omega
 have mh:tm.length=xs.length:=by rw[rc.length,<- hc.length,<- hx,am]
 have ndx:xs.Nodup:=by rw[<- S.mid];exact(S.nd.sublist (List.drop_sublist _ _)).sublist (lU _ _)
 have ndP:ps.Nodup:=by rw[<- S.pre];exact S.nd.sublist (lU _ _)
 obtain⟨h₁,tk,rfl,hk⟩:=x.done
 have ownx:∀y c,(cellsFrom (s.heap.objs.size+1) scope.names []).lookup y=some c->y∉xs/\s.heap.objs.size<c:=fun y c e=>by
  have hm:=PySem.mem_of_lookup e
  refine⟨?_,x.above y c hm⟩
  rcases jT _ _ _ hm with q|q
  ·exact S.sep _ q rfl
  ·cases q
 have both:∀y c,(cellsFrom (s.heap.objs.size+1) scope.names []++cl).lookup y=some c->(cellsFrom (s.heap.objs.size+1) scope.names []).lookup y=some c\/cl.lookup y=some c:=fun y c e=>by
  rw[dy]at e
  cases h:(cellsFrom (s.heap.objs.size+1) scope.names []).lookup y with
  |none=>rw[h]at e;exact .inr e
  |some b=>rw[h]at e;exact .inl e
 have first:∀y c,(cellsFrom (s.heap.objs.size+1) scope.names []).lookup y=some c->(cellsFrom (s.heap.objs.size+1) scope.names []++cl).lookup y=some c:=fun y c e=>by rw[dy,e];rfl
 have second:∀y c,y∈xs->cl.lookup y=some c->(cellsFrom (s.heap.objs.size+1) scope.names []++cl).lookup y=some c:=fun y c hy e=>by
  rw[dy]
  cases h:(cellsFrom (s.heap.objs.size+1) scope.names []).lookup y with
  |none=>exact e
  |some b=>exact absurd hy (ownx y b h).1
 have look:∀y∈xs,∃c,cl.lookup y=some c:=fun y hx'=>by
  rw[<- hx]at hx'
  obtain⟨z,hz,rfl⟩:=aJ.mp hx'
  exact⟨z.2,rJ (by rw[hx];exact ndx) hz⟩
 have cellOf:∀y c,cl.lookup y=some c->∃u,s.heap.IsCell c (some u)/\H c=none:=fun y c e=>by
  have hm:=PySem.mem_of_lookup e
  obtain⟨i,hi⟩:=kc hm
  obtain⟨u,_,q⟩:=p_ hc hi
  exact⟨u,q⟩
 have low:∀y c,cl.lookup y=some c->c<s.heap.objs.size:=fun y c e=>by
  obtain⟨u,q,_⟩:=cellOf y c e;exact q.lt
 have noA:∀b:Addr,b∉(rH CX P w K mg base N cD scope f cd (cellsFrom (s.heap.objs.size+1) scope.names []++cl) A outer s H E).ex:=fun b z=>absurd (show b∈([]:List Addr)from z) (by simp)
 refine⟨⟨e0.mod,S.kind,rfl,rfl,au _,fun y z c h1 h2=>?_,fun y hy=>?_,fun y c z _=>?_,fun _=>hd,Around.frames_deeper e0.frames,.inr ⟨rfl,rfl⟩,fun b z=>absurd z (noA b),e0.bs,e0.bsz,fun b _ _=>noA b,fun b z=>absurd z (noA b),e0.funs,e0.frf⟩,
  rfl,e0.bare,Un.kept hk,⟨_,x.toInCall.ns,fun i y v h1 h2 h3=>?_⟩,fun y c h=>?_,e0.hok.fresh (au _),fun y c h=>?_,fun p hp=>absurd (show p∈([]:List (Addr×Obj))from hp) (by simp),e0.hok.kept hk,?_⟩
 ·rcases both y c h1 with q1|q1<;>rcases both z c h2 with q2|q2
  ·exact qV x.apart (PySem.mem_of_lookup q1) (PySem.mem_of_lookup q2)
  ·exact absurd (low z c q2) (gI.mpr (dH (ownx y c q1).2))
  ·exact absurd (low y c q1) (gI.mpr (dH (ownx z c q2).2))
  ·exact BK hn (PySem.mem_of_lookup q1) (PySem.mem_of_lookup q2)
 ·have hy:scope.names.lookup y=some .cell\/scope.names.lookup y=some .free:=hy
  rcases hy with hy|hy
  ·obtain⟨c,e⟩:=hZ (n:=s.heap.objs.size+1) hy
   exact⟨c,first y c e⟩
  ·have hin:=S.fre _ (PySem.mem_of_lookup hy) rfl
   obtain⟨c,e⟩:=look y hin
   exact⟨c,second y c hin e⟩
 ·cases z
 ·have h1:N[i]?=some y:=h1
  have hi:i<(vs++tm).length:=by
   unfold i4 at h2
   by_cases hi:i<(vs++tm).length
   ·exact hi
   ·rw[bw (by simpa using hi)]at h2
    rw[dz]at h2
    split at h2<;>cases h2
  have ha:(vs++tm)[i]?=some v:=by
   unfold i4 at h2
   rw[a_ (by simpa using hi),ak]at h2
   cases e:(vs++tm)[i]? with
   |none=>rw[e]at h2;cases h2
   |some a=>rw[e]at h2;cases h2;rfl
  obtain⟨u,hu,rv⟩:=(r.append rc).get ha
  refine⟨u,rv,?_⟩
  by_cases hip:i<ps.length
  ·have hp:ps[i]?=some y:=by rw[<- S.pre,cI hip];exact h1
   have hu':us[i]?=some u:=by rw[a_ (by rw[<- r.length,hl];exact hip)]at hu;exact hu
   rcases S.par y (aY hp)with k|k
   ·exact .inl ⟨k,rd ndP hp hu' k⟩
   ·obtain⟨c,e⟩:=hZ (n:=s.heap.objs.size+1) k
    refine .inr ⟨.inl k,c,first y c e,?_⟩
    have q:=x.cell y c e
    rw[re ndP hp hu' (by show scope.names.lookup y≠_;rw[k];decide)]at q
    exact q
  ·have hx':xs[i-ps.length]?=some y:=by
    rw[<- S.mid,cI (by rw[aF,hl,mh]at hi;omega),List.getElem?_drop]
    rw[show ps.length+(i-ps.length)=i by omega];exact h1
   have hu':zS[i-ps.length]?=some u:=by rw[bw (by rw[<- r.length,hl];omega),<- r.length,hl]at hu;exact hu
   rw[<- hx,ak]at hx'
   obtain⟨yc,ey,e2⟩:=be.mp hx'
   obtain⟨u',eu,q1,q2⟩:=p_ hc ey
   rw[hu']at eu;cases eu
   have hin:y∈xs:=by rw[<- hx,<- e2];exact aJ.mpr ⟨yc,aY ey,rfl⟩
   refine .inr ⟨.inr (S.xfr y hin),yc.2,second y _ hin ?_,q1.keeps hk⟩
   exact rJ (l:=cl) (by rw[hx];exact ndx) (by rw[<- e2];exact aY ey)
 ·rcases both y c h with q|q
  ·exact⟨_,x.cell y c q⟩
  ·obtain⟨u,q1,_⟩:=cellOf y c q;exact⟨_,q1.keeps hk⟩
 ·rcases both y c h with q|q
  ·exact e0.hok.fresh (dH (ownx y c q).2)
  ·obtain⟨u,_,q1⟩:=cellOf y c q;exact q1
 ·unfold i4
  show _=N.length
  rw[aF,am,nX,aF,hl,mh]
  omega
theorem FP{pr:Arguments}{N xs:List Str}{k:Nat}{g:FS}(S:wX N ps xs scope)(hn:ps.length=n)(hm:xs.length=m)
  (hb:∀(cl:List (Str×Addr)) (j9 pm:Value) (cd:Addr) (ct:Value) (us:List Value),us.length=ps.length->bindArgs (PySem.W.fnX name cD pr body scope cl .none .none j9 pm none (.ref cd) ct) ⟨us,[]⟩=pure (ps.zip us))
  (qT:∀(f:Addr) (cd:Value) (cl:List (Str×Addr)) (A:Around) (outer:List Env) (s:Shared) (H:Hp) (E:XK),hX k (A.deeper (Dp cD scope s.heap.objs.size f cd cl)) ->
   SB (rH (ja P w) P w K mg base N cD scope f cd cl A outer s H E) body g):qa P w K mg base (k+1) n m (Nq name cD pr body scope xs) (fP N.length g):=⟨fun A outer s H f o fd us zS vs tm Q E hr e0 ho ok hd om r rc hul hc Hv=>by
 obtain⟨cl,j9,pm,cd,ct,hx,qf,rfl⟩:=ok
 cases hd
 have KX:K.In s.heap:=e0.mod.kin.keeps fun b o e=>(e0.bs b o e).1
 have lim:s.heap.NoLimit:=e0.mod.nolimit.keeps fun b o e=>(e0.bs b o e).1
 have hl:vs.length=ps.length:=by rw[r.length,hul,hn]
 refine jB (fd:=PySem.W.fnX name cD pr body scope cl .none .none j9 pm none (.ref cd) ct) (body:=body) hr.depth ho rfl S.co S.gen rfl om (BindsTo.of_eq (hb cl j9 pm cd ct us (by rw[hul,hn])) _ _ _ _ ?_)
 refine Du (s:=s) (scope:=scope) (cl:=cl) (binds:=ps.zip us) S.kind (fun y hy=>?_) (fun y hy=>?_) fun s1 x=>⟨lim.keeps x.toInCall.keep,qW ?_⟩
 ·rcases S.par _ (gQ hy).1 with k|k
  ·exact .inl k
  ·obtain⟨c,e⟩:=hZ (n:=s.heap.objs.size+1) k
   exact .inr ⟨k,by rw[e];rfl⟩
 ·cases e:cl.lookup y.1 with
  |none=>rfl
  |some c=>
   have hm:=PySem.mem_of_lookup e
   exact absurd (by rw[<- hx];exact aJ.mpr ⟨_,hm,rfl⟩) (S.apx _ (gQ hy).1)
 have I:bE (rH (ja P w) P w K mg base N cD scope f (.ref cd) (cellsFrom (s.heap.objs.size+1) scope.names []++cl) A outer s H E) [] (i4 N (vs++tm)) H s1:=Dv S hr.hd e0 hl r rc hx qf hc x
 obtain⟨hl2,μ,ws,Hq,Sr,rw0,h⟩:=Hv
 have hq:Qi (rH (ja P w) P w K mg base N cD scope f (.ref cd) (cellsFrom (s.heap.objs.size+1) scope.names []++cl) A outer s H E) g { nx:=fun _ H'=>Q .non H',rt:=Q } (i4 N (vs++tm)) H:=by
  refine⟨μ,ws.map some++List.replicate (N.length-ws.length) none,Hq,⟨?_,Sr⟩,?_⟩
  ·unfold i4
   rw[<- rw0.len]
   have base:∀(ws:List W) (vs:List V) (m:Nat),RelWs K μ H ws vs->Paired (fun(o:Option W) (s:Option V)=>∀w,o=some w->∃v,s=some v/\bj K μ H w v) (ws.map some++List.replicate m none) (vs.map some++List.replicate m none):=by
    intro ws
    induction ws with
    |nil=>
     intro vs m r
     rw[r.nilE]
     induction m with
     |zero=>exact .nil
     |succ m ih=>exact .cons (fun w z=>nomatch z) ih
    |cons w ws ih=>
     intro vs m r
     obtain⟨y,ys,rfl,ry,rys⟩:=r.consE
     exact .cons (fun w' z=>⟨y,rfl,by cases z;exact ry⟩) (ih ys m rys)
   exact base ws _ _ rw0
  ·unfold fP at h
   cases e:g (ws.map some++List.replicate (N.length-ws.length) none) Hq with
   |rt w bD=>
    rw[e]at h
    intro μ' v H' p x S' jW
    obtain⟨μ2,p2,S2,r2⟩:=kU Sr S' p (.consI jW .nilI)
    obtain⟨_,e2,r3⟩:=r2.one
    cases e2
    exact h μ2 v H' p2 x S2 r3
   |nx ρ' bD=>
    rw[e]at h
    intro μ' σ' H' p x l'
    obtain⟨μ2,p2,S2,_⟩:=kU (ws:=[]) (vs:=[]) Sr l'.sto p .nilI
    exact h μ2 .non H' p2 x S2 .non
   |ex c ρ' bD=>
    rw[e]at h
    intro af μ' σ' H' ev s' p x l' fl
    obtain⟨μ2,p2,S2,_⟩:=kU (ws:=[]) (vs:=[]) Sr l'.sto p .nilI
    exact fl.leaves rfl rfl fl.inv.ok.frames rfl fun C hC=>h C μ2 H' hC p2 x S2
   |bk ρ' bD=>rw[e]at h;exact h.elim
   |ct ρ' bD=>rw[e]at h;exact h.elim
   |bad=>rw[e]at h;exact h.elim
 refine dJ ((qT f (.ref cd) (cellsFrom (s.heap.objs.size+1) scope.names []++cl) A outer s H E (hr.deeper _)).h [] _ (i4 N (vs++tm)) H _ I hq) (fun fl s' hs=>?_) fun e s' hs=>hs
 have lj:∀{σ':St} {H':Hp} {v:V} {u:Value},bE (rH (ja P w) P w K mg base N cD scope f (.ref cd) (cellsFrom (s.heap.objs.size+1) scope.names []++cl) A outer s H E) [] σ' H' s'->cf v u->Q v H'->CE outer P w H s Q u s':=
  fun{σ' H' v u} J rv q=>⟨v,H',J.os,J.bare,J.base,J.hok,rv,q⟩
 cases fl with
 |ret u=>
  obtain⟨v,σ',H',J,rv,q⟩:=hs
  exact lj J rv q
 |next=>
  obtain⟨σ',H',J,q⟩:=hs
  exact lj (v:=V.non) (u:=Value.none) J rfl q
 |brk=>
  obtain⟨_,_,_,q⟩:=hs
  exact False.elim q
 |cont=>
  obtain⟨_,_,_,q⟩:=hs
  exact False.elim q⟩
end
def NE(dn:List (Str×NameKind))(sn:List (Str×NameKind))(nm:List Str)(cap:List (Option Nat))(N:List Str):Bool:=
 (sn.all fun x=>!(x.2==.local)||sn.lookup x.1==some .local)&&(sn.all fun y=>!(y.2==.cell)||sn.all fun z=>!(z.1==y.1)||z.2==.cell)&&(sn.all fun x=>!(x.2==.free)||dn.lookup x.1==some .cell)&&(cap.length==nm.length) &&
 ((List.range cap.length).all fun i=>match cap[i]? with
  |some (some j)=>(match nm[i]?,N[j]? with
   |some x,some y=>x==y&&dn.lookup x==some .cell&&sn.lookup x==some .free
   |_,_=>false)
  |_=>true)
theorem AE{l:List (Str×NameKind)}{k:NameKind}(hm:(x,k)∈l)(h:∀z∈l,z.1=x->z.2=k):l.lookup x=some k:=by
 induction l with
 |nil=>cases hm
 |cons y r ih=>
  obtain⟨a,b⟩:=y
  by_cases e:x=a
  ·subst e
   have:b=k:=h (x,b) aS rfl
   subst this
   simp[d7]
  ·have hb:(x==a)=false:=by simpa using e
   rw[d7,hb]
   rcases aG.mp hm with q|q
   ·cases q;exact absurd rfl e
   ·exact ih q fun z hz=>h z (aD _ hz)
theorem JF{pos:Pos}{g:TG}(fC:X.calm=true)
  (ef:scope.kind=.function) (hB:NE X.env.scope.names scope.names nm cap X.N=true)
  (hi:QI X tg b9 wi) (hg:∀cl C s0 H0 fp,QG (cH X nm scope cl C s0 H0 fp) tg g) (ht:∀cl C s0 H0 fp,Qc (cH X nm scope cl C s0 H0 fp) jb tc)
  (he:∀cl C s0 H0 fp,QE (cH X nm scope cl C s0 H0 fp) km te) (hs:∀x,foldedSetIterable b9 X.env x=pure x:=by intro _;rfl) :
  QE X (.ListComp km [⟨tg,b9,jb,0⟩] scope pos) (pw cap wi g tc te):=by
 simp only[NE,bA,fE,nQ,fZ,gJ,bx]at hB
 obtain⟨⟨⟨⟨b1,b2⟩,b3⟩,b4⟩,b5⟩:=hB
 have allc:∀x,(x,NameKind.cell)∈scope.names->∀z∈scope.names,z.1=x->z.2=.cell:=fun x hx z hz e=>by
  rcases b2 _ hx with q|q
  ·exact absurd rfl q
  ·rcases q z hz with q|q
   ·exact absurd e q
   ·exact q
 refine⟨fun af s σ H Q I h=>?_⟩
 have has:∀x∈scope.names,x.2=.free->∃c,X.env.cells.lookup x.1=some c:=fun x hx hk=>by
  rcases b3 x hx with z|z
  ·exact absurd hk z
  ·exact I.ok.has x.1 (.inl z)
 have mh:∀x c,(cv X.env scope.names []).lookup x=some c->X.env.cells.lookup x=some c:=fun x c h=>mq scope.names [] has (by simp) (x,c) (dU h)
 have hin:∀x,(x,NameKind.free)∈scope.names->∃c,(cv X.env scope.names []).lookup x=some c:=fun x h=>let ⟨_,q⟩:=pP (env:=X.env) scope.names [] x h;pQ q
 have hmap:(relabel scope X.env).names=scope.names.map fun y=>if (y.2==.free&&X.env.scope.kind==.function&&X.env.kindOf y.1==some .cell)then(y.1,NameKind.cell)else y:=by
  show scope.names.map _=_
  refine bO fun y _=>?_
  obtain⟨a,b⟩:=y
  rfl
 have fr:∀x,scope.names.lookup x≠some .cell->((relabel scope X.env).names.lookup x=some .cell\/(relabel scope X.env).names.lookup x=some .free)->(x,NameKind.free)∈scope.names:=fun x hn h=>by
  have h':∃k,(x,k)∈(relabel scope X.env).names/\(k=.cell\/k=.free):=by
   rcases h with h|h
   ·exact⟨_,dU h,.inl rfl⟩
   ·exact⟨_,dU h,.inr rfl⟩
  obtain⟨k,hm,hk⟩:=h'
  rw[hmap]at hm
  obtain⟨y,hy,e⟩:=aJ.mp hm
  obtain⟨a,b⟩:=y
  by_cases hb:b=.free
  ·subst hb
   have:a=x:=by split at e<;>(cases e;rfl)
   subst this;exact hy
  ·rw[az (by simp[hb])]at e
   cases e
   rcases hk with rfl|rfl
   ·exact absurd (AE hy (allc _ hy)) hn
   ·exact absurd rfl hb
 have R9:∀y∈scope.names,y.2=.cell->(cv X.env scope.names []).lookup y.1=none:=fun y hy e=>by
  obtain⟨a,b⟩:=y
  have e:b=.cell:=e
  subst e
  cases h:(cv X.env scope.names []).lookup a with
  |none=>rfl
  |some c=>
   rcases oF (dU h)with q|⟨z,hz,e1,e2⟩
   ·exact absurd q (by simp)
   ·have:=allc a hy z hz e1
    rw[e2]at this;cases this
 rw[eval_ListComp]
 refine tN (cl:=cv X.env scope.names []) (cap:=cap) (nm:=nm) fC (EG has) mh ef (fun x hx hk=>(b1 x hx).resolve_left fun z=>z hk) R9 (fun x hn hx=>hin x (fr x hn hx)) (fun i j e=>?_) b4 hi.h (fun ow C s0 H0 fp=>(hg _ C s0 H0 fp).h) (fun ow C s0 H0 fp=>(ht _ C s0 H0 fp).h) (fun ow C s0 H0 fp=>(he _ C s0 H0 fp).h) hs I h fun s4 C D m4 Hn I4 B q=>⟨m4,B.ns,fun h' hs'=>⟨.ref D,Hn,B.off I4 hs',rfl,q⟩⟩
 have hi':i<cap.length:=(ao.mp e).1
 have q:=b5 i (bI.mpr hi')
 rw[e]at q
 dsimp only at q
 cases hx:nm[i]? with
 |none=>rw[hx]at q;simp at q
 |some x=>
  cases hy:X.N[j]? with
  |none=>rw[hx,hy]at q;simp at q
  |some y=>
   rw[hx,hy]at q
   simp only[bA,gJ]at q
   obtain⟨⟨rfl,q1⟩,q2⟩:=q
   refine⟨x,rfl,rfl,⟨.inr (.inl q1),(by rw[q1];decide),?_,?_⟩,fun z=>?_⟩
   ·obtain⟨c,hc⟩:=hin x (dU q2)
    rw[hc,mh _ _ hc]
   ·rw[hmap];exact oq (env:=X.env) q2
   ·have:=allc x z _ (dU q2) rfl
    cases this
section
variable{f:FG}
theorem JG(hB:NE X.env.scope.names scope.names nm cap X.N=true)(hi:SI X tg b9 fi)(hg:∀cl C s0 H0 fp,SG (cH X nm scope cl C s0 H0 fp) tg f)(ht:∀cl C s0 H0 fp,HC (cH X nm scope cl C s0 H0 fp) jb t)
  (he:∀cl C s0 H0 fp,SE (cH X nm scope cl C s0 H0 fp) km el) (fC:X.calm=true:=by rfl) (ef:scope.kind=.function:=by rfl) (hs:∀x,foldedSetIterable b9 X.env x=pure x:=by intro _;rfl) :
  SE X (.ListComp km [⟨tg,b9,jb,0⟩] scope pos) (cY cap fi f t el):=
 ⟨(JF fC ef hB ⟨hi.h⟩ (fun cl C s0 H0 fp=>QK (X:=X) rfl rfl (hg cl C s0 H0 fp)) (fun cl C s0 H0 fp=>QJ (X:=X) rfl rfl (ht cl C s0 H0 fp)) (fun cl C s0 H0 fp=>QH (X:=X) rfl rfl (he cl C s0 H0 fp)) hs).h.imp fun _ _ _ h=>wF h⟩
end
section
theorem sO{cl:List (Str×Addr)}{C s0 H0 fp}(i:Nat)(hN:nm.Nodup:=by decide +kernel)(hi:nm[i]?=some x:=by rfl)(hx:Cq (cH X nm scope cl C s0 H0 fp).env.scope x:=by first|exact .inl rfl|exact .inr rfl)(hf:(cH X nm scope cl C s0 H0 fp).fn x=true\/(cH X nm scope cl C s0 H0 fp).env.scope.names.lookup x=some .local:=by first|exact .inl rfl|exact .inr rfl|assumption) :
  SG (cH X nm scope cl C s0 H0 fp) (.Name x pos) (eA i):=sX (X:=cH X nm scope cl C s0 H0 fp) hN hi hx hf
end
theorem wY:typeLookup (.type "list") "keys"=pure none:=by rw[ku,gW];kernel_rfl
theorem Dw{prog:Program}{w:World}{E:Value->Shared->Prop}{xs:Array Value}{k:Nat}{Q:Option Value->Shared->Prop}
  (hx:s.heap.get? a=some { cls:=.type "list",dict:=none,data:=.seq xs k,slots:=#[] }) (hA:A.handled=none)
  (h:∀h' tk,(∀b o,s.heap.get? b=some o->h'.get? b=some o)->Q none { s with heap:=h',toks:=tk }) :
  wpAny (model prog w) A (getAttr? (.ref a) "keys") Q E s:=by
 obtain⟨hp,g,d,tk,os⟩:=s
 have hT:∀tk',(⟨hp,g,d,tk',os⟩:Shared).TypeIs (.ref a) "list":=fun _=>⟨_,hx,rfl⟩
 have f1:=sub_AttributeError
 have f3:=F.slot_list_getattribute.lookup
 have f4:=F.slot_list_getattribute.bind (.ref a)
 have f5:=am_list_getattr_none
 unfold getAttr? getAttrBy? getAttrBy
 repeat(any_goals (first|assumption|exact hT _|((with_reducible show wpAny _ _ (call (Value.builtin "list.__getattribute__") _ _) _ _ _);refine ij F.slot_list_getattribute (hT _) am_entry_list_getattribute (F.args_list_getattribute_2 _ _) (meets_getattribute_miss_list a xs k #[] "keys" _ wY (by decide +kernel) (by decide +kernel)) ⟨hx,hA,fun h' tk' e hx'=>?_⟩)|wp_step))
 obtain⟨t',u',he⟩:=hx'.there
 show wpAny _ _ (getattributeRaised _ _ _ _ _ _ _) _ _ _
 unfold getattributeRaised
 repeat(any_goals (first|assumption|wp_step))
 exact h _ _ hx'.keeps
theorem oU:plainId "dict.update.loop"=true:=by decide +kernel
theorem vL:entryFor table "dict.update.loop"=some Builtin.«dict.update.loop»:=entryFor_of_fast (by kernel_rfl)
section
variable{w:World}{R:Result->Shared->Prop}{K:Type}[DecidableEq K]{knd:KeyKind prog w K}
theorem FQ(hh:A.handled=none){dA it l:Addr}{its:List Value}{ps:List (K×Value)}{res:Value}(h1:dA≠it)(h2:dA≠l)(h3:l≠it)(tu:its.length=ps.length)(hz:2*ps.length<=sizeLine) :
  ∀(n i:Nat) (s:Shared) (kvs:List (K×Value)),its.length-i=n->i<=its.length->kvs.length<=i->s.heap.IsListIter it l i->s.heap.IsList l its.toArray->s.heap.DictOf knd dA kvs ->
   (∀(j:Nat) (x:Value),its[j]?=some x->∃p key k v,x=.ref p/\p≠it/\p≠dA/\(∃o m,s.heap.get? p=some o/\o.cls=.type "tuple"/\o.data=.seq #[key,v] m)/\ps[j]?=some (k,v)/\knd.is k key=true) ->
   (∀s',s'.heap.DictOf knd dA ((ps.drop i).foldl (fun a p=>stored a p.1 p.2) kvs)->s'.gens=s.gens->s'.drawn=s.drawn->s'.os=s.os->(∀b o,b≠dA->b≠it->s.heap.get? b=some o->s'.heap.get? b=some o)->R (.ok (.ret res)) s') ->
   codeAny (model prog w) A (.builtin "dict.update.loop" ⟨[.ref dA,.ref it,rawInt i,res],[]⟩) R s:=by
 intro n
 induction n with
 |zero=>
  intro i s kvs hn hi hk st sl sd hp hR
  refine dX vL ?_
  rw[cR oU _]
  show wpAny _ A.in1 (pyNext (.ref it) >>= _) _ _ s
  refine aa (nV (show A.in1.handled=none from hh) st sl (by simp;omega) fun h' eb=>?_)
  refine aa (ae (ae (hR _ ?_ rfl rfl rfl fun b o _ b2 e=>eb b o b2 e)))
  rw[gK (by omega)]
  obtain⟨o,es,ep,ho,r⟩:=sd
  exact⟨o,es,ep,eb _ _ h1 ho,r⟩
 |succ n ih=>
  intro i s kvs hn hi hk st sl sd hp hR
  have hlt:i<its.length:=by omega
  obtain⟨p,key,k,v,hx,p1,p2,⟨o,m,ho,hc,hd⟩,hq,hkey⟩:=hp i _ (ar hlt)
  refine dX vL ?_
  rw[cR oU _]
  show wpAny _ A.in1 (pyNext (.ref it) >>= _) _ _ s
  refine aa (nu st sl (x:=.ref p) (by simp[hlt,hx]) fun h' bD sb=>?_)
  have uR:h'.get? p=some o:=sb.extBut _ _ p1 ho
  refine aa (cx (aa ?_))
  refine wpAny_tryCatch ?_
  unfold Builtin.Dict.pairItems
  refine aa (iB (T:="tuple") (s:={ s with heap:=h' }) ⟨o,uR,hc⟩ ?_)
  rw[av (by decide)]
  refine aa (bB uR hd (ae ?_))
  show wpAny _ A.in1 (holding [key,v] (dictSet dA key v)) _ _ _
  have sd':h'.DictOf knd dA kvs:=by
   obtain⟨o,es,ep,ho,r⟩:=sd
   exact⟨o,es,ep,sb.extBut _ _ h1 ho,r⟩
  refine cx (wpAny_dictSet_pairs (s:={ s with heap:=h' }) hkey sd' (fun g sd2 sb2=>?_) (by omega))
  have kl:(stored kvs k v).length<=i+1:=by
   unfold stored
   split
   ·simp;omega
   ·simp;omega
  refine ae ⟨ga oU _,ih (i+1) _ (stored kvs k v) (by omega) hlt kl (bD.extBut sb2.extBut (Ne.symm h1)) ((sl.extBut sb.extBut h3).extBut sb2.extBut (Ne.symm h2)) sd2 (fun j x hj=>?_) fun s' q1 q2 q3 q4 q5=>?_⟩
  ·obtain⟨p',key',k',v',e1,e2,e3,⟨o',m',e4,e5,e6⟩,e7⟩:=hp j x hj
   exact⟨p',key',k',v',e1,e2,e3,⟨o',m',sb2.extBut _ _ e3 (sb.extBut _ _ e2 e4),e5,e6⟩,e7⟩
  ·refine hR s' ?_ q2 q3 q4 fun b o b1 b2 e=>q5 b o b1 b2 (sb2.extBut _ _ b1 (sb.extBut _ _ b2 e))
   have:ps.drop i=(k,v)::ps.drop (i+1):=by
    have hl:i<ps.length:=by omega
    rw[cZ hl]
    rw[ar hl]at hq
    rw[a9 hq]
   rw[this]
   exact q1
end
theorem AF:mroOf (.type "dict")=pure [.type "dict",.type "object"]:=by rw[mroOf_type];kernel_rfl
theorem NF:typeLookup (.type "dict") "__new__"=pure (some (.builtin "dict.__new__")):=by rw[ku,gW];kernel_rfl
theorem FR:isSubtype (.type "dict") (.type "dict")=pure true:=by rw[dN];kernel_rfl
theorem Dx:TypeCalled "dict" "dict.__new__" "dict.__init__":=
 ⟨by decide +kernel,by decide +kernel,⟨_,_,AF⟩,madeBy_type AF NF (by decide +kernel),by decide +kernel,FR,F.slot_dict_init⟩
theorem JH(a:Value):checkTypeCall "dict" ⟨[a],[]⟩=pure ():=by kernel_rfl
theorem AG(a:Value):checkBuiltinCall "dict.__new__" ⟨[.type "dict",a],[]⟩=pure ():=by kernel_rfl
theorem FU:entryFor table "dict.__new__"=some Builtin.«dict.__new__»:=entryFor_of_tree (by kernel_rfl)
theorem y7:plainId "dict.__new__"=true:=by decide +kernel
section
variable{w:World}
theorem JI(a:Value)(h:Q₁ (.ref s.heap.objs.size) { s with heap:=s.heap.push { cls:=.type "dict",data:=.dict #[] } }) :
  codeAny (model prog w) A (.call (.builtin "dict.__new__") ⟨[.type "dict",a],[]⟩) (wants Q₁ E) s:=by
 refine nR ?_
 show wpAny _ A.in1 (do checkBuiltinCall "dict.__new__" ⟨[.type "dict",a],[]⟩;again (.builtin "dict.__new__" ⟨[.type "dict",a],[]⟩)) _ _ s
 refine aa (lW (AG a) (ae ⟨ga y7 _,dX FU ?_⟩))
 rw[cR y7 _]
 unfold Builtin.«dict.__new__»
 have ve:=FR
 have hm:=AF
 obtain⟨hp,g,d,tk,os⟩:=s
 dsimp only
 wp_walk
 exact h
variable{K:Type}[DecidableEq K]{knd:KeyKind prog w K}
theorem AH{l:Addr}{ps:List (K×Value)}{Q:Value->Shared->Prop}(hh:A.handled=none)(hl:s.heap.get? l=some { cls:=.type "list",dict:=none,data:=.seq its.toArray n,slots:=#[] })(tu:its.length=ps.length)(hz:2*ps.length<=sizeLine)
  (hp:∀(j:Nat) (x:Value),its[j]?=some x->∃p key k v,x=.ref p/\(∃o m,s.heap.get? p=some o/\o.cls=.type "tuple"/\o.data=.seq #[key,v] m)/\ps[j]?=some (k,v)/\knd.is k key=true)
  (hQ:∀g tk,g.DictOf knd s.heap.objs.size (ps.foldl (fun a p=>stored a p.1 p.2) [])->(∀b o,s.heap.get? b=some o->g.get? b=some o)->Q (.ref s.heap.objs.size) { s with heap:=g,toks:=tk }) :
  wpAny (model prog w) A (call (.type "dict") [.ref l]) Q E s:=by
 refine callType_codes Dx (JH _) F.entry_dict_init (JI _ (Q₁:=fun obj s1=>obj=.ref s.heap.objs.size/\s1={ s with heap:=s.heap.push { cls:=.type "dict",data:=.dict #[] } }) ⟨rfl,rfl⟩) fun obj s1 hq=>?_
 obtain⟨rfl,rfl⟩:=hq
 have hT:Shared.TypeIs { s with heap:=s.heap.push { cls:=.type "dict",data:=.dict #[] } } (.ref s.heap.objs.size) "dict":=⟨_,aq _ rfl,rfl⟩
 refine⟨hT,F.args_dict_init_2 _ _,?_⟩
 have hl1:(s.heap.push { cls:=.type "dict",data:=.dict #[] }).get? l=some { cls:=.type "list",dict:=none,data:=.seq its.toArray n,slots:=#[] }:=aj _ hl
 unfold Builtin.«dict.__init__» Builtin.Dict.selfAndRest
 refine aa (aa (n_ hT ?_))
 show wpAny _ _ (pure (s.heap.objs.size,[Value.ref l])) _ _ _
 refine ae ?_
 show wpAny _ _ (Builtin.Dict.updateFrom "dict.__init__" s.heap.objs.size (.ref l) [] .none) _ _ _
 unfold Builtin.Dict.updateFrom
 refine aa (iB (T:="list") ⟨_,hl1,rfl⟩ ?_)
 rw[av (by decide)]
 refine aa (Dw hl1 (show A.in1.in1.handled=none from hh) fun h' tk kp=>?_)
 rw[av (show(none:Option Value).isNone=true from rfl)]
 have up:∀b o,s.heap.get? b=some o->h'.get? b=some o:=fun b o e=>kp b o (aj _ e)
 have hD:h'.get? s.heap.objs.size=some { cls:=.type "dict",data:=.dict #[] }:=kp _ _ (aq _ rfl)
 have hdl:s.heap.objs.size<h'.objs.size:=ax hD
 have lt:∀b o,s.heap.get? b=some o->b≠s.heap.objs.size/\b≠h'.objs.size:=fun b o e=>⟨aN (ax e),aN (nA (ax e) hdl)⟩
 have hl2:Heap.IsList h' l its.toArray:=⟨_,up _ _ hl,rfl,n,rfl⟩
 refine aa (fK (aa (jm hl2 ?_)))
 refine ae ⟨ga oU _,?_⟩
 have p2:∀b o,h'.get? b=some o->(h'.push { cls:=.type "list_iterator",data:=.fields #[.ref l,.int 0 0] }).get? b=some o:=fun b o e=>aj _ e
 refine FQ (knd:=knd) (A:=A.in1) (show A.in1.handled=none from hh) (dA:=s.heap.objs.size) (it:=h'.objs.size) (l:=l) (its:=its) (ps:=ps) (aN hdl) (Ne.symm (lt _ _ hl).1) (lt _ _ hl).2 tu hz its.length 0 _ [] rfl (cQ _) (au _) ⟨_,aq _ rfl,rfl,rfl⟩ (hl2.at fun o e=>p2 _ o e) ?_ (fun j x hj=>?_) fun s' q1 q2 q3 q4 q5=>⟨rfl,?_⟩
 ·exact⟨_,#[],0,p2 _ _ hD,⟨rfl,rfl,rfl⟩,rfl,fun e he=>(by simp at he),.nil,ik⟩
 ·obtain⟨p,key,k,v,e1,⟨o,m,e4,e5,e6⟩,e7⟩:=hp j x hj
  exact⟨p,key,k,v,e1,(lt _ _ e4).2,(lt _ _ e4).1,⟨o,m,p2 _ _ (up _ _ e4),e5,e6⟩,e7⟩
 ·obtain⟨g',gn,dr,tk',os'⟩:=s'
  simp only at q1 q2 q3 q4 q5
  subst q2 q3 q4
  exact hQ g' tk' q1 fun b o e=>q5 b o (lt _ _ e).1 (lt _ _ e).2 (p2 _ _ (up _ _ e))
end
def ma:List W->Option (List (DK×W))
 |[]=>some []
 |.tup [k,v]::r=>match nM k,ma r with
  |some k,some r=>some ((k,v)::r)
  |_,_=>none
 |_=>none
theorem y8{x:W}{r:List W}{kvs:List (DK×W)}(h:ma (x::r)=some kvs):∃k v k' r',x=.tup [k,v]/\nM k=some k'/\ma r=some r'/\kvs=(k',v)::r':=by
 unfold ma at h
 split at h
 ·rename_i he;cases he
 ·rename_i k v r0 he
  cases he
  cases e1:nM k with
  |none=>rw[e1]at h;cases h
  |some k'=>
   cases e2:ma r with
   |none=>rw[e1,e2]at h;cases h
   |some r'=>rw[e1,e2]at h;cases h;exact⟨k,v,k',r',rfl,e1,rfl,rfl⟩
 ·cases h
theorem FV(kvs:List (DK×W))(k:DK)(v:W):(rF kvs k v).length<=kvs.length+1:=by
 unfold rF
 split
 ·simp
 ·simp
theorem ul:∀(kvs acc:List (DK×W)),(jh acc kvs).length<=acc.length+kvs.length
 |[],acc=>au _
 |p::kvs,acc=>by
  have:=ul kvs (rF acc p.1 p.2)
  have:=FV acc p.1 p.2
  show(jh (rF acc p.1 p.2) kvs).length<=_
  simp only[cK];omega
theorem Dy:bootBuiltins "dict"=some (.type "dict"):=by first|rfl|kernel_rfl|decide +kernel
section
theorem y9(I:bE X af σ H s):∀{ys:List W} {kvs:List (DK×W)} {vs:List V} {its:List Value},ma ys=some kvs->RelWs X.K μ H ys vs->cA vs its ->
  ∃(us:List V) (ps:List (i9×Value)),RelWs X.K μ H (kvs.map fun p=>p.2) us/\KV (dV kvs us) ps/\its.length=ps.length /\
   ∀(j:Nat) (x:Value),its[j]?=some x->∃p key k v,x=.ref p/\(∃o m,s.heap.get? p=some o/\o.cls=.type "tuple"/\o.data=.seq #[key,v] m)/\ps[j]?=some (k,v)/\(gB X.prog X.w).is k key=true
 |[],kvs,vs,its,h,r,hv=>by
  cases h
  have e:vs=[]:=r.nilE
  subst e
  cases hv
  exact⟨[],[],.nilI,.nil,rfl,fun j x h=>by simp at h⟩
 |y::ys,kvs,vs,its,h,r,hv=>by
  obtain⟨k,w,k',r',rfl,ek,er,rfl⟩:=y8 h
  obtain⟨x,xs,rfl,rx,rxs⟩:=r.consE
  cases hv with
  |cons hx L_=>
  rename_i u its
  obtain⟨us,ps,a1,a2,a3,a4⟩:=y9 I er rxs L_
  obtain⟨p,zs,rfl,hS,rz⟩:=id rx.tupE
  obtain⟨z1,z2,rfl,rk,rz2⟩:=rz.consE
  obtain⟨z3,rfl,jW⟩:=rz2.one
  obtain⟨its2,hv2,hT,_⟩:=I.tuple hS
  cases hv2 with
  |cons g1 g2=>
  cases g2 with
  |cons g2 g3=>
  cases g3
  rename_i k1 v1
  have:=wJ ek rk
  subst this
  obtain⟨o,e1,e2,m,e3⟩:=hT
  refine⟨z3::us,(k'.key,v1)::ps,.consI jW a1,.cons ⟨rfl,g2⟩ a2,by simp[a3],fun j x hj=>?_⟩
  cases j with
  |zero=>
   cases hj
   obtain rfl:u=Value.ref p:=hx
   exact⟨p,k1,k'.key,v1,rfl,⟨o,m,e1,e2,e3⟩,rfl,Be g1⟩
  |succ j=>exact a4 j x hj
def rO(ws:List W)(st:List al):R W:=match ws with
 |[.loc n]=>(match st[n]? with
  |some (.lst ys)=>sL (ma ys) fun kvs=>if kvs.length<=1000 then .ok (.loc st.length) (st++[.dct (jh [] kvs)])else .bad
  |_=>.bad)
 |_=>.bad
theorem JJ(hr:hX kk X.A):pF X (.type "dict") rO:=⟨fun af s σ H vs us Q I rv ⟨μ,st,ws,S,r,q⟩=>by
 unfold rO at q
 split at q
 ·rename_i n
  obtain⟨x,rfl,rx⟩:=r.one
  split at q
  ·rename_i ys e0
   unfold sL at q
   split at q
   ·rename_i kvs ek
    simp only at q
    split at q
    ·rename_i hle
     obtain⟨a,g,vs,k,rr⟩:=S.get e0
     obtain⟨b1,f1,rfl⟩:=rx.locE
     rw[g]at f1;cases f1
     obtain⟨hz,its,n,hv,hg⟩:=(show eO X.prog X.w H s.heap a (.lst vs)from I.hok a _ k)
     obtain⟨us',ps,a1,a2,a3,a4⟩:=y9 I ek rr hv
     obtain⟨u,rfl,ru⟩:=pq rv
     obtain rfl:u=Value.ref a:=ru
     obtain⟨zs,g1,g2⟩:=yM (acc:=[]) (us:=[]) a1 .nilI
     have c_:ps.length=kvs.length:=by rw[<- a2.length];exact Ax a1
     have hml:(jh [] kvs).length<=1000:=bd (ul kvs []) (by simpa using hle)
     have hf:H s.heap.objs.size=none:=I.hok.fresh (au _)
     refine AH (knd:=gB X.prog X.w) hr.hd hg a3 (by rw[c_,j_];omega) a4 fun g tk gd kp=>?_
     have hKV:KV (tL [] (dV kvs us')) (ps.foldl (fun a p=>stored a p.1 p.2) []):=KV.merge a2 (show KV [] []from .nil)
     have e2:tL ([]:List (i9×V)) (dV kvs us')=dV (jh [] kvs) zs:=g1
     rw[e2]at hKV
     refine⟨.ref s.heap.objs.size,eJ H s.heap.objs.size (.dK (dV (jh [] kvs) zs)),I.laid kp (au _) (Es (by rw[Ax g2];exact bd hml (by decide)) (bx.mpr (Ne.symm (aN I.big))) hKV gd),rfl,?_⟩
     have hs:o_ H (eJ H s.heap.objs.size (.dK (dV (jh [] kvs) zs))):=cn hf _
     exact q (μ++[s.heap.objs.size]) (.ref s.heap.objs.size) _ (ag _ _) (fj.same hs) (S.push (c:=.dct (jh [] kvs)) hf ⟨zs,cO,g2.mono (ag _ _) (fj.same hs)⟩) (pV S)
    ·exact q.elim
   ·exact q.elim
  ·exact q.elim
 ·exact q.elim,fun ws st=>by
 unfold rO
 split
 ·split
  ·exact oz fun _=>by split<;>trivial
  ·trivial
 ·trivial⟩
end
theorem wZ(st x:List al)(k:Nat):(st++x)[st.length+k]?=x[k]?:=by rw[bw (by omega)];congr 1;omega
theorem um(st x:List al):(st++x)[st.length]?=x[0]?:=wZ st x 0
theorem y_(st x:List al)(k:Nat)(c:al):(st++x).set (st.length+k) c=st++x.set k c:=by rw[oh _ _ (by omega)];congr 2;omega
theorem mE(st x:List al)(c:al):(st++x).set st.length c=st++x.set 0 c:=y_ st x 0 c
theorem bN{x:List al}{c:al}(h:st[n]?=some c):(st++x)[n]?=some c:=by
 rw[a_ (ao.mp h).1];exact h
theorem AI(st:List al)(ws:List W):j4 st st ws=st:=by unfold j4;split<;>simp
theorem vM{st x:List al}{ws:List W}(h:undWs st.length ws=true):j4 st (st++x) ws=st:=by
 unfold j4
 rw[av ⟨h,by simp,fun i hi=>.inl (a_ hi)⟩]
 simp
theorem vN(h:undWs st.length ws=false):j4 st bD ws=bD:=by
 unfold j4
 rw[az fun k=>by have:=k.1;rw[h]at this;cases this]
theorem qA{body:FS}{w:W}(h:body (ws.map some++List.replicate (N-ws.length) none) st=.rt w bD):fP N body ws st=.ok w (j4 st bD [w]):=by
 unfold fP;rw[h]
theorem oV{body:FS}{w:W}(h:body (ws.map some++List.replicate (N-ws.length) none) st=.rt w st):fP N body ws st=.ok w st:=by
 rw[qA h,AI]
theorem za{body:FS}{x:List al}{w:W}(h:body (ws.map some++List.replicate (N-ws.length) none) st=.rt w (st++x))(hu:undWs st.length [w]=true):fP N body ws st=.ok w st:=by
 rw[qA h,vM hu]
theorem FW{body:FS}{x:List al}{k:Nat}(h:body (ws.map some++List.replicate (N-ws.length) none) st=.rt (.loc (st.length+k)) (st++x)):fP N body ws st=.ok (.loc (st.length+k)) (st++x):=by
 rw[qA h,vN (by simp[undWs,W.und])]
theorem FX{g g':FS}{ρ':ca}(h:g ρ st=.nx ρ' bD):bh g g' ρ st=g' ρ' bD:=by unfold bh;rw[h]
theorem BL{f:FG}{body:FS}{k:C_}(h:fi ρ st=.ok k bD):i_ fi f body ρ st=tV f body k.2 k.1 ρ bD:=by unfold i_;rw[h];rfl
theorem uo{f:FG}{body:FS}{ck:Option (Nat×List W)}(I:Nat->ca->List al->Prop):∀{ws:List W} {ρ:ca} {st:List al} (i0:Nat),I i0 ρ st->(∀i ρ st,I i ρ st->i6 st ck) ->
  (∀i w ρ st,ws[i]?=some w->I (i0+i) ρ st->∃ρ' ρ2 st2,f w ρ=some ρ'/\body ρ' st=.nx ρ2 st2/\I (i0+i+1) ρ2 st2) ->
  ∃ρ2 st2,tV f body ck ws ρ st=.nx ρ2 st2/\I (i0+ws.length) ρ2 st2
 |[],ρ,st,i0,h0,hc,hs=>⟨ρ,st,by unfold tV;rw[av (hc _ _ _ h0)],h0⟩
 |w::ws,ρ,st,i0,h0,hc,hs=>by
  obtain⟨ρ',ρ2,st2,e1,e2,h1⟩:=hs 0 w ρ st rfl h0
  obtain⟨ρ3,gD,e3,h3⟩:=uo I (ws:=ws) (ρ:=ρ2) (st:=st2) (i0+1) h1 hc fun i w ρ st hw hI=>by
   obtain⟨a,b,c,d,e,g⟩:=hs (i+1) w ρ st (by simpa using hw) (by rw[show i0+(i+1)=i0+1+i by omega];exact hI)
   exact⟨a,b,c,d,e,by rw[show i0+1+i+1=i0+(i+1)+1 by omega];exact g⟩
  refine⟨ρ3,gD,?_,by rw[cK,show i0+(ws.length+1)=i0+1+ws.length by omega];exact h3⟩
  unfold tV
  rw[av (hc _ _ _ h0),e1]
  simp only[e2]
  exact e3
theorem Dz{t:FT}{g:FS}(I:Nat->ca->List al->Prop):∀(n:Nat) {ρ:ca} {st:List al},I n ρ st ->
  (∀n ρ st,I n ρ st->t ρ st=.ok false st\/(t ρ st=.ok true st/\∃ρ2 st2 m,g ρ st=.nx ρ2 st2/\m<n/\I m ρ2 st2)) ->
  ∃m ρ2 st2,pX t g ρ st=.nx ρ2 st2/\I m ρ2 st2/\t ρ2 st2=.ok false st2:=by
 intro n ρ st h hs
 have key:∀(k n:Nat) (ρ:ca) (st:List al),n<k->I n ρ st->∃m ρ2 st2,gi t g k ρ st=.nx ρ2 st2/\I m ρ2 st2/\t ρ2 st2=.ok false st2:=by
  intro k
  induction k with
  |zero=>intro n _ _ h;exact absurd h (kx _)
  |succ k ih=>
   intro n ρ st hk hI
   rcases hs n ρ st hI with e|⟨e,ρ2,st2,m,e2,hm,h2⟩
   ·exact⟨n,ρ,st,by unfold gi;rw[e];rfl,hI,e⟩
   ·obtain⟨m',ρ3,gD,e3,h3⟩:=ih m ρ2 st2 (by omega) h2
    exact⟨m',ρ3,gD,by unfold gi;rw[e];simp only[R.stmt_ok,gF,e2];exact e3,h3⟩
 obtain⟨m,ρ2,st2,e,h2⟩:=key (n+1) n ρ st (d8 n) h
 exact⟨m,ρ2,st2,Da e (by simp),h2⟩
section
variable{ρ':ca}{st2 gD vd:List al}{fo fi:FE}{fs:FA}{u:FT}{x y z w v:W}{xs zs:List W}{a b k:Bool}{g g':FS}
theorem gZ(h:ρ[i]?=some (some w)):ah i ρ st=.ok w st:=by unfold ah;rw[h]
theorem dv:eC w ρ st=.ok w st:=rfl
theorem bX(h1:fa ρ st=.ok x st1)(h2:fb ρ st1=.ok y st2)(h3:f x y st2=.ok z gD):e2 f fa fb ρ st=.ok z gD:=by unfold e2;rw[h1];simp only[R.bind_ok];rw[h2];exact h3
theorem bq:aE ρ st=.ok [] st:=rfl
theorem aw(h1:fa ρ st=.ok x st1)(h2:fs ρ st1=.ok xs st2):ai fa fs ρ st=.ok (x::xs) st2:=by unfold ai;rw[h1];simp only[R.bind_ok];rw[h2];rfl
theorem NG:Bp ls ρ st=.ok (ls.map W.str) st:=rfl
theorem j6(h1:fs ρ st=.ok ws st1)(h2:ws.length<=jx):jY fs ρ st=.ok (.tup ws) st1:=by unfold jY;rw[h1];simp only[R.bind_ok,pB];rw[av h2]
theorem uq(h1:fs ρ st=.ok ws st1)(h2:ws.length<=jx):gg fs ρ st=.ok (.loc st1.length) (st1++[.lst ws]):=by unfold gg;rw[h1];simp only[R.bind_ok,jf];rw[av h2]
theorem bT(h1:fs ρ st=.ok ws st1)(h2:F ws st1=.ok w st2):bz F fs ρ st=.ok w st2:=by unfold bz;rw[h1];exact h2
theorem dW(h1:fs ρ st=.ok ws st1)(h2:F ws st1=.ok w st2)(hn:ws.length=n):dS n F fs ρ st=.ok w st2:=by unfold dS;rw[h1];simp only[R.bind_ok];rw[av hn];exact h2
theorem fz(h:fa ρ st=.ok (.bl k) st1):kI fa ρ st=.ok k st1:=by unfold kI;rw[h];rfl
theorem BM(h1:t ρ st=.ok true st1)(h2:u ρ st1=.ok k st2):Ql t u ρ st=.ok k st2:=by unfold Ql;rw[h1];exact h2
theorem BN(h1:t ρ st=.ok false st1):Ql t u ρ st=.ok false st1:=by unfold Ql;rw[h1];rfl
theorem BO(h1:t ρ st=.ok false st1)(h2:u ρ st1=.ok k st2):KG t u ρ st=.ok k st2:=by unfold KG;rw[h1];exact h2
theorem BP(h1:t ρ st=.ok true st1):KG t u ρ st=.ok true st1:=by unfold KG;rw[h1];rfl
theorem BQ(h1:t ρ st=.ok a st1)(h2:(!a)=k):O' t ρ st=.ok k st1:=by unfold O';rw[h1,<- h2];rfl
theorem w4(h1:fa ρ st=.ok (.bl true) st1)(h2:fb ρ st1=.ok w st2):tU fa fb ρ st=.ok w st2:=by unfold tU;rw[h1];exact h2
theorem BR(h1:fa ρ st=.ok (.bl false) st1):tU fa fb ρ st=.ok (.bl false) st1:=by unfold tU;rw[h1];rfl
theorem FY(h1:fa ρ st=.ok (.bl false) st1)(h2:fb ρ st1=.ok w st2):KH fa fb ρ st=.ok w st2:=by unfold KH;rw[h1];exact h2
theorem FZ(h1:fa ρ st=.ok (.bl true) st1):KH fa fb ρ st=.ok (.bl true) st1:=by unfold KH;rw[h1];rfl
theorem K3(h1:fa ρ st=.ok (.bl a) st1)(h2:(!a)=k):IH fa ρ st=.ok (.bl k) st1:=by unfold IH;rw[h1,<- h2];rfl
theorem QY(h1:t ρ st=.ok true st1)(h2:fa ρ st1=.ok w st2):M7 t fa fb ρ st=.ok w st2:=by unfold M7;rw[h1];exact h2
theorem QZ(h1:t ρ st=.ok false st1)(h2:fb ρ st1=.ok w st2):M7 t fa fb ρ st=.ok w st2:=by unfold M7;rw[h1];exact h2
theorem rP{F:W->List W->List al->R W}(h1:fo ρ st=.ok x st1)(hl:tX st1 x=true)(h2:fs ρ st1=.ok ws st2)(h3:F x ws st2=.ok w gD):uV F fo fs ρ st=.ok w gD:=by unfold uV;rw[h1];simp only[R.bind_ok];rw[av hl,h2];exact h3
theorem AJ{F:W->List W->List al->R W}(h1:fo ρ st=.ok x st1)(hl:E_ x=true)(h2:fs ρ st1=.ok ws st2)(h3:F x ws st2=.ok w gD):D1 F fo fs ρ st=.ok w gD:=by unfold D1;rw[h1];simp only[R.bind_ok];rw[av hl,h2];exact h3
theorem g_(h:st[n]?=some (.lst ws)):tX st (.loc n)=true:=by simp only[tX,h]
theorem K4{q:Int}(h:fa ρ st=.ok (.int q) st1):IV fa ρ st=.ok (.int (-q)) st1:=by unfold IV;rw[h];rfl
theorem K5{c:String}(h:fa ρ st=.ok x st1)(hx:x.ty=some c)(hk:IX c T=k):Df T fa ρ st=.ok (.bl k) st1:=by unfold Df;rw[h];simp only[R.bind_ok,hx,hk]
theorem Q0(h:fa ρ st=.ok x st1)(hk:x.isNon=k):Qq fa ρ st=.ok (.bl k) st1:=by unfold Qq;rw[h,<- hk];rfl
theorem NH(h:fa ρ st=.ok x st1)(hk:(!x.isNon)=k):KI fa ρ st=.ok (.bl k) st1:=by unfold KI;rw[h,<- hk];rfl
theorem AK:pE ρ st=.ok none st:=rfl
theorem w5{q:Int}(h:fa ρ st=.ok (.int q) st1):kT fa ρ st=.ok (some q) st1:=by unfold kT;rw[h];rfl
theorem zb{fl fh:FO}{l h:Option Int}(h1:fa ρ st=.ok x st1)(h2:fl ρ st1=.ok l st2)(h3:fh ρ st2=.ok h gD)(h4:C7 x l h gD=.ok w vd):C8 fa fl fh ρ st=.ok w vd:=by unfold C8;rw[h1];simp only[R.bind_ok];rw[h2];simp only[R.bind_ok];rw[h3];exact h4
theorem b8(h:fe ρ st=.ok w st1):cb i fe ρ st=.nx (ρ.set i (some w)) st1:=by unfold cb;rw[h];rfl
theorem jj(h:fe ρ st=.ok w st1):h_ fe ρ st=.nx ρ st1:=by unfold h_;rw[h];rfl
theorem F0(h:fe ρ st=.ok w st1):f9 fe ρ st=.rt w st1:=by unfold f9;rw[h];rfl
theorem F1{f:W->W->W->List al->Option (List al)}(h1:fe ρ st=.ok v st1)(h2:fo ρ st1=.ok x st2)(h3:fi ρ st2=.ok y gD)(h4:f x y v gD=some vd):E5 fo fi fe f ρ st=.nx ρ vd:=by
 unfold E5;rw[h1];simp only[R.stmt_ok];rw[h2];simp only[R.stmt_ok];rw[h3];simp only[R.stmt_ok];rw[h4]
theorem ur{r:RS}(h1:t ρ st=.ok true st1)(h2:g ρ st1=r):oA t g g' ρ st=r:=by unfold oA;rw[h1];exact h2
theorem ut{r:RS}(h1:t ρ st=.ok false st1)(h2:g' ρ st1=r):oA t g g' ρ st=r:=by unfold oA;rw[h1];exact h2
theorem w6:gy ρ st=.nx ρ st:=rfl
theorem K6{r:RS}(h:g ρ st=.nx ρ' st1)(h2:g' ρ' st1=r):bh g g' ρ st=r:=by rw[FX h];exact h2
theorem F2(h:g ρ st=.rt w st1):bh g g' ρ st=.rt w st1:=by unfold bh;rw[h]
theorem fw{p q:Int}:du (.int p) (.int q) st=.ok (.int (p+q)) st:=rfl
theorem AL{p q:List Nat}(h:p.length+q.length<=jx):du (.str p) (.str q) st=.ok (.str (p++q)) st:=by simp only[du];rw[av h]
theorem rQ(h1:st[n]?=some (.lst ws))(h2:st[m]?=some (.lst xs))(h:(ws++xs).length<=jx):du (.loc n) (.loc m) st=.ok (.loc st.length) (st++[.lst (ws++xs)]):=by
 unfold du;simp only[h1,h2,jf];rw[av h]
theorem j7{C:Int->Int->Prop}[∀i j,Decidable (C i j)]{f:Int->Int->Int}{p q:Int}(h:C p q):CZ C f (.int p) (.int q) st=.ok (.int (f p q)) st:=by simp only[CZ];rw[av h]
theorem jI{p q:Int}(h:sK p q):fM (.int p) (.int q) st=.ok (.int (p*q)) st:=by simp only[fM];rw[av h]
theorem uu{f:Int->Int->Bool}{p q:Int}(h:f p q=k):C0 f (.int p) (.int q) st=.ok (.bl k) st:=by rw[<- h];rfl
theorem K7{p q:Int}(h:decide (p<=q)=k):Dd (.int p) (.int q) st=.ok (.bl k) st:=by rw[<- h];rfl
theorem qB{p q:Int}(h:(p==q)=k):mU (.int p) (.int q) st=.ok (.bl k) st:=by rw[<- h];rfl
theorem Q1{p q:Int}(h:(!(p==q))=k):KJ (.int p) (.int q) st=.ok (.bl k) st:=by rw[<- h];rfl
theorem Q2{p q:List Nat}(h:(p==q)=k):mU (.str p) (.str q) st=.ok (.bl k) st:=by rw[<- h];rfl
theorem nN{q:Int}(h:sW ws q=some w):bW (.tup ws) (.int q) st=.ok w st:=by unfold bW;simp only[h,df]
theorem kv(h:ρ[i]?=some (some w):=by rfl):ah i ρ st=.ok w st:=gZ h
theorem ox{q:Int}(h:sW ws q=some w:=by rfl):bW (.tup ws) (.int q) st=.ok w st:=nN h
theorem kn(h:ρ[i]?=some (some w):=by rfl):ai (ah i) aE ρ st=.ok [w] st:=aw (gZ h) bq
theorem BS{q:Int}{c:Nat}(hl:l.length<=jx)(h:sW l q=some c):bW (.str l) (.int q) st=.ok (.str [c]) st:=by unfold bW;simp only[h,df];rw[av hl]
theorem oH{q:Int}(hl:lstOf st n=some ws)(h:sW ws q=some w):bW (.loc n) (.int q) st=.ok w st:=by unfold bW;simp only[hl,h,df]
theorem rR:dE [.tup ws] st=.ok (.int ws.length) st:=rfl
theorem m9(h:l.length<=jx):dE [.str l] st=.ok (.int l.length) st:=by unfold dE;simp only;rw[av h]
theorem me(hl:lstOf st n=some ws):dE [.loc n] st=.ok (.int ws.length) st:=by unfold dE;simp only[hl,df]
theorem aT(h:st[n]?=some (.lst ws)):lstOf st n=some ws:=by unfold lstOf;rw[h]
theorem s_(h:st[n]?=some (.ro ws)):lstOf st n=some ws:=by unfold lstOf;rw[h]
theorem F3(h:st[n]?=some (.lst ws))(hl:ws.length<jx):dF (.loc n) [y] st=.ok .non (st.set n (.lst (ws++[y]))):=by unfold dF;simp only[h];rw[av hl]
theorem rS{sep:List Nat}{ls:List (List Nat)}(h:lstOf st n=some (ls.map W.str))(hl:(ls.map List.length).sum+ls.length*sep.length<=jx):lR (.str sep) [.loc n] st=.ok (.str (nI sep ls)) st:=by
 unfold lR;simp only[h,df,vE];rw[av hl]
theorem vO{l h:Option Int}(hl:lstOf st n=some ws):C7 (.loc n) l h st=.ok (.loc st.length) (st++[.lst (m5 ws l h)]):=by unfold C7;simp only[hl,df]
theorem K8{l h:Option Int}{z:List Nat}(hl:z.length<=jx):C7 (.str z) l h st=.ok (.str (m5 z l h)) st:=by unfold C7;simp only;rw[av hl]
theorem Q3{l h:Option Int}:C7 (.tup ws) l h st=.ok (.tup (m5 ws l h)) st:=rfl
theorem m_(h:fe ρ st=.ok (.loc n) st1)(hl:lstOf st1 n=some ws):eQ fe ρ st=.ok (ws,some (n,ws)) st1:=by unfold eQ;rw[h];simp only[R.bind_ok,hl]
theorem cF{q:Int}(h:fs ρ st=.ok [.int q] st1)(hq:-(2^62)<=q/\q<2^62):bn fs ρ st=.ok (gC 0 q.toNat,none) st1:=by unfold bn;rw[h];simp only[R.bind_ok];rw[av hq]
theorem gk{l:List α}{x:α}(h:l[q]?=some x):sW l (q:Int)=some x:=by
 have hq:q<l.length:=(ao.mp h).1
 unfold sW Ky
 rw[av (by omega),av (by omega)]
 simpa using h
def lF(P:RS->Prop)(r:RS):Prop:=P r
def NI(I:ca->List al->Prop):RS->Prop:=fun r=>∃ρ st,r=.nx ρ st/\I ρ st
def BU(I:W->List al->Prop):RS->Prop:=fun r=>∃w st,r=.rt w st/\I w st
variable{P:RS->Prop}{dQ:FS}
theorem f_{r r':RS}(h:r=r')(h2:P r'):lF P r:=by rw[h];exact h2
theorem aR(h:g ρ st=.nx ρ' st1)(h2:lF P (g' ρ' st1)):lF P (bh g g' ρ st):=by rw[FX h];exact h2
theorem oI(h1:t ρ st=.ok true st1)(h2:lF P (g ρ st1)):lF P (oA t g g' ρ st):=by rw[ur h1 rfl];exact h2
theorem mF(h1:t ρ st=.ok false st1)(h2:lF P (g' ρ st1)):lF P (oA t g g' ρ st):=by rw[ut h1 rfl];exact h2
theorem kS(h1:t ρ st=.ok true st1)(h2:lF P (bh g dQ ρ st1)):lF P (bh (oA t g g') dQ ρ st):=by
 unfold bh at h2 ⊢;rw[ur h1 rfl];exact h2
theorem fR(h1:t ρ st=.ok false st1)(h2:lF P (bh g' dQ ρ st1)):lF P (bh (oA t g g') dQ ρ st):=by
 unfold bh at h2 ⊢;rw[ut h1 rfl];exact h2
theorem DA{h:FS}(h2:lF P (bh g (bh g' h) ρ st)):lF P (bh (bh g g') h ρ st):=by
 unfold bh at h2 ⊢
 cases e:g ρ st<;>simp only[e]at h2 ⊢ <;> exact h2
theorem gP(h2:lF P (dQ ρ st)):lF P (bh gy dQ ρ st):=h2
theorem dh(h:fe ρ st=.ok w st1)(h2:P (.rt w st1)):lF P (f9 fe ρ st):=by rw[F0 h];exact h2
theorem i7(h:fe ρ st=.ok w st1)(h2:P (.rt w st1)):lF P (bh (f9 fe) dQ ρ st):=by rw[F2 (F0 h)];exact h2
theorem fx{fi:FI}{f:FG}{body:FS}{k:C_}(I:Nat->ca->List al->Prop)(h:fi ρ st=.ok k st1)(h0:I 0 ρ st1)(hc:∀i ρ st,I i ρ st->i6 st k.2)
  (hs:∀i w ρ st,k.1[i]?=some w->I i ρ st->∃ρ',f w ρ=some ρ'/\lF (NI (I (i+1))) (body ρ' st)) (he:∀ρ st,I k.1.length ρ st->lF P (dQ ρ st)):lF P (bh (i_ fi f body) dQ ρ st):=by
 obtain⟨ρ2,st2,e,h2⟩:=uo (f:=f) (body:=body) (ck:=k.2) I (ws:=k.1) (ρ:=ρ) (st:=st1) 0 h0 hc fun i w ρ st hw hI=>by
  rw[nF]at hI ⊢
  obtain⟨ρ',e1,ρ2,st2,e2,h2⟩:=hs i w ρ st hw hI
  exact⟨ρ',ρ2,st2,e1,e2,h2⟩
 rw[nF]at h2
 exact aR (by rw[BL h];exact e) (he _ _ h2)
theorem DB{body:FS}(I:Nat->ca->List al->Prop)(n:Nat)(h0:I n ρ st)
  (hs:∀n ρ st,I n ρ st->t ρ st=.ok false st\/(t ρ st=.ok true st/\lF (NI fun ρ2 st2=>∃m,m<n/\I m ρ2 st2) (body ρ st))) (he:∀m ρ st,I m ρ st->t ρ st=.ok false st->lF P (dQ ρ st)):lF P (bh (pX t body) dQ ρ st):=by
 obtain⟨m,ρ2,st2,e,h2,h3⟩:=Dz (t:=t) (g:=body) I n h0 fun n ρ st hI=>by
  rcases hs n ρ st hI with e|⟨e,ρ2,st2,e2,m,hm,h2⟩
  ·exact .inl e
  ·exact .inr ⟨e,ρ2,st2,m,e2,hm,h2⟩
 exact aR e (he _ _ _ h2 h3)
theorem BV{body:FS}{Q:W->Prop}(h:lF (BU fun w bD=>(∃x,bD=st++x)/\undWs st.length [w]=true/\Q w) (body (ws.map some++List.replicate (N-ws.length) none) st)):∃w,Q w/\fP N body ws st=.ok w st:=by
 obtain⟨w,bD,e,⟨x,rfl⟩,hu,q⟩:=h
 exact⟨w,q,za e hu⟩
theorem jJ{N:Nat}{body:FS}(h:lF (BU fun w' bD=>w'=w/\∃x,bD=st++x) (body (ws.map some++List.replicate (N-ws.length) none) st))(hu:undWs st.length [w]=true):fP N body ws st=.ok w st:=by
 obtain⟨w,bD,e,rfl,x,rfl⟩:=h
 exact za e hu
theorem qC{N:Nat}{body:FS}{Q:Nat->List al->Prop}(h:lF (BU fun w bD=>∃j x,w=.loc (st.length+j)/\bD=st++x/\Q j x) (body (ws.map some++List.replicate (N-ws.length) none) st)):∃j x,Q j x/\fP N body ws st=.ok (.loc (st.length+j)) (st++x):=by
 obtain⟨w,bD,e,j,x,rfl,rfl,q⟩:=h
 exact⟨j,x,q,FW e⟩
theorem cC{lo:Int}(h:(gC lo q)[i]?=some w):i<q/\w=.int (lo+i):=by
 unfold gC at h
 obtain⟨h1,h2⟩:=ao.mp h
 simp only[am,lV]at h1
 exact⟨h1,by rw[<- h2];simp⟩
theorem qD{l:List α}(h:q<=l.length):m5 l none (some (q:Int))=l.take q:=by
 unfold m5;rw[HT.sIx_none,HT.sIx_nat,Nat.min_eq_left h];simp
theorem qE{l:List α}(h:q<=l.length):m5 l (some (q:Int)) none=l.drop q:=by
 unfold m5;rw[HT.sIx_none,HT.sIx_nat,Nat.min_eq_left h];rw[fy (by simp)]
theorem jU{q:Int}{n:Nat}(h:0<n):∃m:Nat,m<n/\q%(n:Int)=m:=by
 have h0:0<=q%(n:Int):=iW _ (by omega)
 have h1:q%(n:Int)<n:=lE _ (by omega)
 exact⟨(q%(n:Int)).toNat,by omega,by omega⟩
end
section
variable{u:FT}{a b k:Bool}{P:RS->Prop}{g g' dQ:FS}{w:W}
theorem NJ(h1:t ρ st=.ok a st)(h2:u ρ st=.ok b st):Ql t u ρ st=.ok (a&&b) st:=by cases a;exact BN h1;exact BM h1 h2
theorem F4(h1:t ρ st=.ok a st)(h2:u ρ st=.ok b st):KG t u ρ st=.ok (a||b) st:=by cases a;exact BO h1 h2;exact BP h1
theorem NK(h1:t ρ st=.ok a st):O' t ρ st=.ok (!a) st:=BQ h1 rfl
theorem rT{N:Nat}{body:FS}(h:lF (BU fun w' bD=>w'=w/\bD=st) (body (ws.map some++List.replicate (N-ws.length) none) st)):fP N body ws st=.ok w st:=by
 obtain⟨w,bD,e,rfl,rfl⟩:=h
 exact oV e
end
end L2
open L2
local macro_rules | `(tactic| walk_at "ev1") => `(tactic| first
 | (with_reducible apply gZ) <;> rfl
 | (with_reducible apply nN) <;> rfl
 | with_reducible first
  | exact dv | exact bq | exact NG | exact AK | exact fw | exact rR | exact w6 | exact Q3
  | apply bX | apply aw | apply j6 | apply uq | apply bT | apply dW | apply fz | apply BQ | apply K3
  | apply rP | apply AJ | apply K4 | apply K5 | apply Q0 | apply NH | apply w5 | apply zb | apply b8 | apply jj | apply F0 | apply F1
  | apply j7 | apply jI | apply uu | apply K7 | apply qB | apply Q1 | apply Q2 | apply AL
 | decide
 | (show List.length _ <= jx; exact ay rfl)
 | (show @Eq Nat _ _; exact rfl)
 | (show @Eq Bool _ _; exact rfl)
 | (show @Eq (Option String) _ _; exact rfl)
 | (show @Eq _ _ _; with_reducible assumption))
local macro_rules | `(tactic| walk_at "evs") => `(tactic| repeat' walk_at "ev1")
local macro_rules | `(tactic| walk_at "tst") => `(tactic| first
 | (walk_at "evs"; done)
 | (apply BN; (focus walk_at "tst"); done)
 | (apply BM; (focus walk_at "tst"); (focus walk_at "tst"); done)
 | (apply BP; (focus walk_at "tst"); done)
 | (apply BO; (focus walk_at "tst"); (focus walk_at "tst"); done))
local macro_rules | `(tactic| walk_at "go1") => `(tactic| first
 | apply gP
 | (apply i7; (focus (walk_at "evs"; done)))
 | (apply dh; (focus (walk_at "evs"; done)))
 | (apply kS; (focus walk_at "tst"))
 | (apply fR; (focus walk_at "tst"))
 | (apply oI; (focus walk_at "tst"))
 | (apply mF; (focus walk_at "tst"))
 | (apply aR; (focus (walk_at "evs"; done))))
local macro_rules | `(tactic| walk_at "go") => `(tactic| repeat walk_at "go1")
local macro_rules | `(tactic| walk_at "tb") => `(tactic| repeat' (first | with_reducible apply NJ | with_reducible apply F4 | with_reducible apply NK | walk_at "ev1"))
local macro_rules | `(tactic| walk_at "len") => `(tactic| (simp only [aF, cK, gR]; show _ <= 1000000; omega))
namespace L2
open PySem PySem.Spec PyProof.Rows
section
variable{ρ' ρ2:ca}{st2:List al}{fs:FA}{g gh dQ:FS}{w:W}{c:Str}{cs:List Str}{P:RS->Prop}{b:Bool}
theorem F5{N:Nat}{body:FS}(h:lF (NI fun _ bD=>∃x,bD=st++x) (body (ws.map some++List.replicate (N-ws.length) none) st)):fP N body ws st=.ok .non st:=by
 obtain⟨ρ,bD,e,x,rfl⟩:=h
 unfold fP
 rw[e]
 simp only[vM (st:=st) (x:=x) (ws:=[]) rfl]
theorem Q4{p q:Bool}(h:(p==q)=b):mU (.bl p) (.bl q) st=.ok (.bl b) st:=by rw[<- h];rfl
theorem ng(I:ca->List al->Prop)(h:lF (NI I) (g ρ st))(h2:∀ρ st,I ρ st->lF P (dQ ρ st)):lF P (bh g dQ ρ st):=by
 obtain⟨ρ',bD,e,hi⟩:=h
 exact aR e (h2 _ _ hi)
end
section
variable{f:FG}
theorem zc{ρ0:ca}(hc:i6 st ck)(T:W->Bool)(Y:W->W):∀(ws acc:List W),(∀w∈ws,∃ρ',f w ρ0=some ρ'/\t ρ' st=.ok (T w) st/\(T w=true->el ρ' st=.ok (Y w) st)) ->
  kW f t el ck ρ0 ws acc st=.ok (acc++(ws.filter T).map Y) st
 |[],acc,_=>by unfold kW;rw[av hc];simp
 |w::ws,acc,h=>by
  obtain⟨ρ',e1,e2,e3⟩:=h w (by simp)
  have ih:=fun acc=>zc hc T Y ws acc fun w' hw'=>h w' (by simp[hw'])
  unfold kW
  rw[av hc,e1]
  simp only[e2]
  cases hT:T w with
  |true=>
   simp only[e3 hT]
   rw[ih]
   simp[List.filter_cons,hT]
  |false=>
   simp only
   rw[ih]
   simp[List.filter_cons,hT]
theorem AM(T:W->Bool)(Y:W->W)(h:fi ρ st=.ok (ws,ck) st1)(hl:ws.length<=jx)(hc:i6 st1 ck)
  (hs:∀w∈ws,∃ρ',f w (kh cap ρ)=some ρ'/\t ρ' st1=.ok (T w) st1/\(T w=true->el ρ' st1=.ok (Y w) st1)):cY cap fi f t el ρ st=.ok (.loc st1.length) (st1++[.lst ((ws.filter T).map Y)]):=by
 unfold cY
 rw[h]
 simp only[R.bind_ok]
 rw[av hl,zc hc T Y ws [] hs]
 simp only[R.bind_ok,dk,jf]
 rw[av]
 rw[am]
 exact bd (jE _ _) hl
theorem w9(Y:W->W)(h:fi ρ st=.ok (ws,ck) st1)(hl:ws.length<=jx)(hc:i6 st1 ck)
  (hs:∀w∈ws,∃ρ',f w (kh cap ρ)=some ρ'/\el ρ' st1=.ok (Y w) st1):cY cap fi f gs el ρ st=.ok (.loc st1.length) (st1++[.lst (ws.map Y)]):=by
 have:=AM (fi:=fi) (f:=f) (t:=gs) (el:=el) (cap:=cap) (fun _=>true) Y h hl hc fun w hw=>by
  obtain⟨ρ',e1,e2⟩:=hs w hw
  exact⟨ρ',e1,rfl,fun _=>e2⟩
 rw[List.filter_eq_self.mpr (fun _ _=>rfl)]at this
 exact this
theorem rV{lo:Int}{w:W}(h:w∈gC lo q):∃i:Nat,i<q/\w=.int (lo+i):=by
 unfold gC at h
 obtain⟨i,hi,rfl⟩:=aJ.mp h
 exact⟨i,bI.mp hi,rfl⟩
theorem gm(h:lstOf st n=some ws):cE [.loc n] st=.ok (.tup ws) st:=by unfold cE;simp only[h,df]
theorem NL{xs:List W}(h:(ws++xs).length<=jx):du (.tup ws) (.tup xs) st=.ok (.tup (ws++xs)) st:=by simp only[du,pB];rw[av h]
end
def sv:Nat->List j5->List j5
 |_,[]=>[]
 |n,(_,c,o,w)::l=>(n,c,o,w)::sv (n+1) l
def vP(l:List j5):List al:=l.map fun _=>.gone
theorem BW(a b:List α)(x y:α):(a++x::b).set a.length y=a++y::b:=by
 rw[oh _ _ (au _),kO];rfl
theorem BX(a b:List α)(x:α):(a++x::b)[a.length]?=some x:=by rw[bw (au _),kO];rfl
theorem uv:∀(l:List j5) (a b:List al),sk (List.range' a.length l.length) (a++(eX l++b))=some (sv a.length l,a++(vP l++b))
 |[],a,b=>rfl
 |(j,c,o,w)::l,a,b=>by
  show sk (List.range' a.length (l.length+1)) (a++(.pin true c o w::(eX l++b)))=_
  rw[List.range'_succ]
  unfold sk
  rw[BX,BW]
  have ih:=uv l (a++[.gone]) b
  rw[aF,a8,a8]at ih
  have ih:sk (List.range' (a.length+1) l.length) (a++(.gone::(eX l++b)))=some (sv (a.length+1) l,a++(.gone::(vP l++b))):=ih
  simp only[ih]
  rfl
theorem vQ:∀(l:List j5) (a b:List al),Az (sv a.length l) (a++(vP l++b))=some (a++(eX l++b))
 |[],a,b=>rfl
 |(j,c,o,w)::l,a,b=>by
  show Az ((a.length,c,o,w)::sv (a.length+1) l) (a++(.gone::(vP l++b)))=_
  unfold Az
  rw[BX,BW]
  have ih:=vQ l (a++[.pin true c o w]) b
  rw[aF,a8,a8]at ih
  exact ih
theorem rW(f:Addr×Obj×W->α):∀(n:Nat) (l:List j5),((sv n l).map fun x=>f x.2)=l.map fun x=>f x.2
 |_,[]=>rfl
 |n,(j,c,o,w)::l=>by show f (c,o,w)::_=f (c,o,w)::_;rw[rW f (n+1) l]
def bU(st:List al):Prop:=∀d∈st,∀c,mC c d=false
theorem vR:∀(l:List j5) (a b:List al),(∀d∈a,∀x∈l,mC x.2.1 d=false)->(l.map fun x=>x.2.1).Nodup->(l.map fun x=>(((a++(eX l++b))).findIdx? (mC x.2.1)).getD 0)=List.range' a.length l.length
 |[],a,b,_,_=>rfl
 |(j,c,o,w)::l,a,b,hn,nd=>by
  rw[aI,bF]at nd
  show((a++(.pin true c o w::(eX l++b))).findIdx? (mC c)).getD 0::(l.map fun x=>((a++(.pin true c o w::(eX l++b))).findIdx? (mC x.2.1)).getD 0)=List.range' a.length (l.length+1)
  rw[List.range'_succ]
  have h1:(a++(.pin true c o w::(eX l++b))).findIdx? (mC c)=some a.length:=by
   rw[List.findIdx?_append,lI.mpr fun x hx=>by simp[hn x hx (j,c,o,w) aS]]
   rw[List.findIdx?_cons,show mC c (.pin true c o w)=true from mK _];simp
  rw[h1]
  have ih:=vR l (a++[.pin true c o w]) b (fun d hd x hx=>by
   rcases br.mp hd with hd|hd
   ·exact hn d hd x (aD _ hx)
   ·rw[ba.mp hd]
    show(c==x.2.1)=false
    rw[bx];intro z;exact nd.1 (aJ.mpr ⟨x,hx,z.symm⟩)) nd.2
  rw[aF,a8]at ih
  have ih:(l.map fun x=>((a++(.pin true c o w::(eX l++b))).findIdx? (mC x.2.1)).getD 0)=List.range' (a.length+1) l.length:=ih
  rw[ih];rfl
theorem DC{x:List al}(h:undWs st.length ws=true):j4 st (st++x) ws=st:=by
 unfold j4
 rw[av ⟨h,by simp,fun i hi=>.inl (by rw[a_ hi])⟩]
 simp
theorem NM{C:List (Str×Addr)}{os:List Obj}{cws:List W}(h1:os.length=C.length)(h2:cws.length=C.length):((jy C os cws).map fun x=>x.2.1)=C.map (·.2):=by
 induction C generalizing os cws with
 |nil=>cases os with
  |nil=>cases cws with
   |nil=>rfl
   |cons w ws=>simp at h2
  |cons o os=>simp at h1
 |cons y C ih=>cases os with
  |nil=>simp at h1
  |cons o os=>cases cws with
   |nil=>simp at h2
   |cons w ws=>
    have e:=ih (os:=os) (cws:=ws) (by simpa using h1) (by simpa using h2)
    show y.2::((jy C os ws).map fun x=>x.2.1)=y.2::C.map (·.2)
    rw[e]
theorem NN{C:List (Str×Addr)}{os:List Obj}{cws:List W}(h1:os.length=C.length)(h2:cws.length=C.length):((jy C os cws).map fun x=>x.2.2.2)=cws:=by
 induction C generalizing os cws with
 |nil=>cases os with
  |nil=>cases cws with
   |nil=>rfl
   |cons w ws=>simp at h2
  |cons o os=>simp at h1
 |cons y C ih=>cases os with
  |nil=>simp at h1
  |cons o os=>cases cws with
   |nil=>simp at h2
   |cons w ws=>
    have e:=ih (os:=os) (cws:=ws) (by simpa using h1) (by simpa using h2)
    show w::((jy C os ws).map fun x=>x.2.2.2)=w::ws
    rw[e]
theorem NO(name q:Str)(pr:Arguments)(body:List Stmt)(sc:Scope)(xs:List Str):∃o,Nq name q pr body sc xs o:=by
 refine⟨_,xs.zip (List.range xs.length),.none,.none,0,.none,?_,?_,rfl⟩
 ·exact List.map_fst_zip (by simp)
 ·rw[List.map_snd_zip (by simp)];exact List.nodup_range
theorem JK{ok:Obj->Prop}{fs:FA}{f:Addr}{w0 v:W}(hi:ρ[i]?=some (some (.loc m)))(hm:st[m]?=some (.pin false f o w0))(ha:fs ρ st=.ok ws st1)(hl:ws.length=n)(h:su ok F m ws st1=.ok v st1) :
  ug i n ok F fs ρ st=.ok v st1:=by
 unfold ug
 rw[hi];simp only
 rw[hm];simp only
 rw[ha];simp only[R.bind_ok]
 rw[av hl,h]
theorem F6{ok:Obj->Prop}{a b:List al}{l:List j5}{f:Addr}{w0 v:W}(hm:(a++(eX l++b))[m]?=some (.pin false f o w0))(ho:ok o)(hc:(iq o).map (·.2)=l.map fun x=>x.2.1)(nd:(l.map fun x=>x.2.1).Nodup)(hn:bU a)
  (hF:F (ws++l.map fun x=>x.2.2.2) (a++(vP l++b))=.ok v (a++(vP l++b))):su ok F m ws (a++(eX l++b))=.ok v (a++(eX l++b)):=by
 have e1:((iq o).map fun y=>((a++(eX l++b)).findIdx? (mC y.2)).getD 0)=List.range' a.length l.length:=by
  rw[<- vR l a b (fun d hd x _=>hn d hd _) nd]
  have:∀(g:Addr->Nat),(iq o).map (fun y=>g y.2)=l.map fun x=>g x.2.1:=fun g=>by
   have:=eY (List.map g) hc
   rw[aM,aM]at this;exact this
  exact this fun c=>((a++(eX l++b)).findIdx? (mC c)).getD 0
 unfold su
 rw[hm]
 simp only
 rw[av ho,e1,uv]
 simp only
 have e2:((sv a.length l).map fun x=>x.2.1)=l.map fun x=>x.2.1:=rW (fun y=>y.1) _ _
 have e3:((sv a.length l).map fun x=>x.2.2.2)=l.map fun x=>x.2.2.2:=rW (fun y=>y.2.2) _ _
 rw[av (by rw[e2,hc]),e3,hF]
 simp only[vQ]
theorem NP{fs:FA}{st1 st2 gD:List al}{wa w:W}{HD:List W}(ha:fa ρ st=.ok wa st1)(hs:fs ρ st1=.ok HD st2)(hl:HD.length=m)(hG:G HD st2=.ok cws gD)(ho:∃o,tj o)(hu:undWs gD.length [w]=true)
  (h:∀f o os,tj o->os.length=(iq o).length->∃wb x,fb ρ (gD++[.pin false f o .non]++eX (jy (iq o) os cws))=.ok wb (gD++[.pin false f o .non]++eX (jy (iq o) os cws))/\F [wa,.loc gD.length,wb] (gD++[.pin false f o .non]++eX (jy (iq o) os cws))=.ok w (gD++x)) :
  y0 F fa m tj G fs fb ρ st=.ok w gD:=by
 obtain⟨o0,h0⟩:=ho
 unfold y0
 rw[ha];simp only[R.bind_ok]
 rw[hs];simp only[R.bind_ok]
 rw[av hl,hG]
 simp only
 refine FB (0,o0,List.replicate (iq o0).length { cls:=.none,data:=.cell none }) ⟨h0,by simp⟩ fun p hp=>?_
 obtain⟨wb,x,e1,e2⟩:=h p.1 p.2.1 p.2.2 hp.1 hp.2
 simp only[e1,e2]
 rw[DC hu]
theorem NQ{g:FS}{is:List Nat}{P:Addr}{q:Str}(h:g (ws.map some++List.replicate (N-ws.length) none) st=.nx ρ bD)(ht:yN bD j P pos q)(hc:uh is (ρ.set i (some (.loc bD.length)))=some cws):FF N g is i j P pos q ws st=.ok cws bD:=by
 unfold FF
 rw[h]
 simp only
 rw[av ht,hc]
section
theorem fW{f:FG}{cap:List (Option Nat)}(vs:List W)(h:fi ρ st=.ok (ws,ck) st1)(hl:ws.length<=jx)(hc:i6 st1 ck)(hv:vs.length=ws.length)
  (hs:∀(i:Nat) (w:W),ws[i]?=some w->∃v ρ',vs[i]?=some v/\f w (kh cap ρ)=some ρ'/\el ρ' st1=.ok v st1):cY cap fi f gs el ρ st=.ok (.loc st1.length) (st1++[.lst vs]):=by
 let Y:W->W:=fun w=>match f w (kh cap ρ)with
  |some ρ'=>(match el ρ' st1 with
   |.ok v _=>v
   |_=>.non)
  |none=>.non
 have hY:∀(i:Nat) (w v:W),ws[i]?=some w->vs[i]?=some v->Y w=v:=fun i w v hw hv'=>by
  obtain⟨v',ρ',e1,e2,e3⟩:=hs i w hw
  rw[hv']at e1;cases e1
  show(match f w (kh cap ρ)with|some ρ'=>(match el ρ' st1 with|.ok v _=>v|_=>.non)|none=>.non)=v
  rw[e2];simp only[e3]
 rw[w9 Y h hl hc fun w hw=>by
  obtain⟨i,hi⟩:=kc hw
  obtain⟨v,ρ',e1,e2,e3⟩:=hs i w hi
  exact⟨ρ',e2,by rw[hY i w v hi e1];exact e3⟩]
 congr 3
 congr 1
 refine List.ext_getElem (by rw[am,hv]) fun i h1 h2=>?_
 rw[jR]
 exact hY i _ _ (ar (by rw[am]at h1;exact h1)) (ar h2)
theorem NR{fs:FA}{xs ys zs:List W}(h:fs ρ st=.ok [.loc n,.tup ys,.tup zs] st1)(h1:lstOf st1 n=some xs):ui fs ρ st=.ok (k_ xs ys zs,some (n,xs)) st1:=by
 unfold ui;rw[h];simp only[R.bind_ok,h1]
theorem BY{fe:FE}(h:fe ρ st=.ok (.loc n) st1)(h1:st1[n]?=some (.dcx kvs)\/st1[n]?=some (.rox kvs))(ht:Ds kvs=true):iT fe ρ st=.ok (kvs.map (fun p=>p.1.w),none) (st1.set n (.rox kvs)):=by
 have e:FL st1 (.loc n)=some (n,kvs):=by
  rcases h1 with h1|h1<;>simp only[FL,h1]
 unfold iT;rw[h];simp only[R.bind_ok,e]
 rw[av ht]
theorem BZ{fe:FE}(h:fe ρ st=.ok (.loc n) st1)(h1:st1[n]?=some (.rox kvs))(ht:Ds kvs=true):iT fe ρ st=.ok (kvs.map (fun p=>p.1.w),none) st1:=by
 rw[BY h (.inr h1) ht,ud h1]
theorem K9{xU:Bool}{x:W}{k:KX}(h:st[n]?=some (.rox kvs))(hk:sN x=some k)(ok:Dk kvs k=true):sQ xU x (.loc n) st=.ok (.bl (if xU then !(k7 kvs k).isSome else(k7 kvs k).isSome)) st:=by
 have e:vK st (.loc n)=some (n,kvs):=by simp only[vK,h]
 unfold sQ
 rw[e];simp only[hk]
 rw[av ok]
theorem NS{ws:List W}{k:Nat}(h0:ws≠[])(hk:2<=k)(hl:ws.length*k<=1000000):y4 (.tup ws) (.int k) st=.ok (.tup (List.replicate k ws).flatten) st:=by
 show(if ws≠[]/\(2:Int)<=(k:Int)/\ws.length*(k:Int).toNat<=jx then R.ok (W.tup (List.replicate (k:Int).toNat ws).flatten) st else .bad)=_
 rw[av ⟨h0,by omega,by rw[aB];exact hl⟩,aB]
theorem B0:∀l:List Bool,u6 (l.map W.bl)=some l
 |[]=>rfl
 |b::l=>by simp only[aI,u6,B0 l,Option.map_some]
theorem K_{l:List Bool}(h:lstOf st n=some (l.map W.bl)):wI [.loc n] st=.ok (.bl (l.all id)) st:=by
 unfold wI
 simp only[h,df,B0]
theorem NT{y v:W}{k:KX}(hd:qw st (.loc n)=some (n,kvs))(hk:sN y=some k)(ok:Dk kvs k=true):yT (.loc n) y v st=some (st.set n (.dcx (u8 kvs k v))):=by
 unfold yT
 simp only[hd,hk]
 rw[av ok]
theorem JL{ys:List W}{kvs:List (DK×W)}(h:st[n]?=some (.lst ys))(hp:ma ys=some kvs)(hl:kvs.length<=1000):rO [.loc n] st=.ok (.loc st.length) (st++[.dct (jh [] kvs)]):=by
 unfold rO
 simp only[h,hp,df]
 rw[av hl]
end
end L2
namespace P
open PySem L2
open PyProof.Rows (boot_sorted boot_set boot_ord boot_all boot_enumerate boot_int boot_str boot_bool boot_list boot_tuple boot_isinstance boot_max boot_min boot_zip)
def lG(i:Nat):Stmt:=PySem.Challenge.pw_trunksay_k35_looker_right.main.body.getD i (.Pass ⟨0,0,0,0⟩)
abbrev NU:Stmt:=lG 4
abbrev AN:List Str:=["letters"]
abbrev Q5:List Str:=["letters"]
theorem Q6:b_ AN Q5 (aL NU):=q_
abbrev NV:Stmt:=lG 5
abbrev F7:List Str:=["exponent","power","each"]
abbrev Q7:List Str:=["exponent"]
theorem K':b_ F7 Q7 (aL NV):=q_
abbrev NW:Stmt:=lG 7
abbrev uw:List Str:=["rooms","names"]
abbrev Q8:List Str:=["rooms","names"]
theorem La:b_ uw Q8 (aL NW):=q_
abbrev NX:Stmt:=lG 8
abbrev u9:List Str:=["names","own","numbers","name","further","number"]
abbrev Q9:List Str:=["names","own"]
theorem Lb:b_ u9 Q9 (aL NX):=q_
abbrev NY:Stmt:=lG 9
abbrev w_:List Str:=["machine","names"]
abbrev Q_:List Str:=["machine","names"]
theorem Lc:b_ w_ Q_ (aL NY):=q_
abbrev NZ:Stmt:=lG 11
abbrev N0:List Str:=["word","truths"]
abbrev Ra:List Str:=["word","truths"]
theorem Ld:b_ N0 Ra (aL NZ):=q_
abbrev zd:Stmt:=lG 12
abbrev ux:List Str:=["machines","names","tables","lead"]
abbrev Rb:List Str:=["machines","names"]
theorem F8:b_ ux Rb (aL zd):=q_
abbrev N1:Stmt:=lG 13
abbrev AO:List Str:=["machines","row"]
abbrev Rc:List Str:=["machines","row"]
theorem Le:b_ AO Rc (aL N1):=q_
abbrev N2:Stmt:=lG 17
abbrev u_:List Str:=["rows","names"]
abbrev Re:List Str:=["rows","names"]
theorem Rf:b_ u_ Re (aL N2):=q_
abbrev N3:Stmt:=lG 18
abbrev DD:List Str:=["machine","number"]
abbrev Rg:List Str:=["machine","number"]
theorem Lf:b_ DD Rg (aL N3):=q_
abbrev F9:Stmt:=lG 19
abbrev ze:List Str:=["machines","row"]
abbrev Lg:List Str:=["machines","row"]
theorem F_:b_ ze Lg (aL F9):=q_
abbrev F':Stmt:=lG 20
abbrev Ga:List Str:=["rows","lead","letters","left","right","letter"]
abbrev Lh:List Str:=["rows","lead","letters"]
theorem xb:b_ Ga Lh (aL F'):=q_
abbrev Gb:Stmt:=lG 21
abbrev DE:List Str:=["word","parts","made","row"]
abbrev Li:List Str:=["word","parts","made","row"]
theorem Gd:b_ DE Li (aL Gb):=q_
abbrev Ge:Stmt:=lG 22
abbrev JM:List Str:=["word","parts","made","rows","machines","names","known","row"]
abbrev Lj:List Str:=["word","parts","made","rows"]
theorem Gf:b_ JM Lj (aL Ge):=q_
abbrev Gh:Stmt:=lG 24
abbrev zf:List Str:=["_law_script","_law_k"]
abbrev Lk:List Str:=["_law_script","_law_k"]
theorem Gi:b_ zf Lk (aL Gh):=q_
abbrev Gj:Stmt:=lG 25
abbrev xc:List Str:=["_law_cell_here","_law_k","_law_salt","_law_first"]
abbrev Ll:List Str:=["_law_cell_here","_law_k","_law_salt"]
theorem Gk:b_ xc Ll (aL Gj):=q_
abbrev Gm:Stmt:=lG 26
abbrev xf:List Str:=["_law_cell_here","_law_many","_law_salt","_law_found","_law_rest","_law_k"]
abbrev Lm:List Str:=["_law_cell_here","_law_many","_law_salt"]
theorem Gn:b_ xf Lm (aL Gm):=q_
abbrev Go:Stmt:=lG 27
abbrev zg:List Str:=["_law_cell_here","_law_many","_law_salt","_law_rest","_law_found","_law_d","_law_at"]
abbrev Ln:List Str:=["_law_cell_here","_law_many","_law_salt"]
theorem Gp:b_ zg Ln (aL Go):=q_
abbrev Gq:Stmt:=lG 28
abbrev xg:List Str:=["_law_pool_here","_law_number"]
abbrev Lo:List Str:=["_law_pool_here","_law_number"]
theorem Gr:b_ xg Lo (aL Gq):=q_
abbrev Gu:Stmt:=lG 29
abbrev uy:List Str:=["_law_names_here","_law_many","_law_top","_law_draws_here","_law_good","_law_table","_law_at","_law_letter_here","_law_rows","_law_l"]
abbrev Lp:List Str:=["_law_names_here","_law_many","_law_top","_law_draws_here"]
theorem Gv:b_ uy Lp (aL Gu):=q_
abbrev Gw:Stmt:=lG 30
abbrev vc:List Str:=["_law_names_here","_law_marks_here","_law_found","_law_name"]
abbrev Lq:List Str:=["_law_names_here","_law_marks_here"]
theorem Gx:b_ vc Lq (aL Gw):=q_
abbrev Gy:Stmt:=lG 31
abbrev AQ:List Str:=["_law_script","_law_most","_law_size","_law_pool_here","_law_found","_law_k","_law_names_here","_law_many","_law_top","_law_draws_here"]
abbrev Lr:List Str:=["_law_script","_law_most"]
theorem Gz:b_ AQ Lr (aL Gy):=q_
abbrev GA:Stmt:=lG 32
abbrev xh:List Str:=["_law_text"]
abbrev Ls:List Str:=["_law_text"]
theorem GB:b_ xh Ls (aL GA):=q_
abbrev GC:Stmt:=lG 33
abbrev qF:List Str:=["_law_parts","_law_names_here","_law_rows","_law_homes","_law_count","_law_many","_law_places","_law_table","_law_number","_law_marks_here","_law_letters","_law_lefts","_law_l","_law_line","_law_r","_law_one","_law_two_here","_law_led","_law_k","_law_room","_law_twin"]
abbrev Lu:List Str:=["_law_parts","_law_names_here","_law_rows","_law_homes","_law_count"]
theorem GD:b_ qF Lu (aL GC):=q_
abbrev GE:Stmt:=lG 34
abbrev zh:List Str:=["_law_word","_law_parts","_law_names_here","_law_shift","_law_twice","_law_count","_law_many","_law_homes","_law_rows","_law_goods","_law_k","_law_row","_law_truths","_law_truth","_law_table"]
abbrev Lv:List Str:=["_law_word","_law_parts","_law_names_here","_law_shift","_law_twice"]
theorem jk:b_ zh Lv (aL GE):=q_
abbrev GF:Stmt:=lG 35
abbrev sR:List Str:=["_law_machines","_law_names_here","_law_met","_law_at","_law_number","_law_letters","_law_k","_law_one","_law_two_here","_law_led","_law_j","_law_table"]
abbrev Lw:List Str:=["_law_machines","_law_names_here"]
theorem GG:b_ sR Lw (aL GF):=q_
abbrev GH:Stmt:=lG 36
abbrev uz:List Str:=["_law_size","_law_pool_here","_law_many","_law_rows","_law_worn","_law_one","_law_truth","_law_other","_law_paper","_law_turn"]
abbrev Lx:List Str:=["_law_size","_law_pool_here"]
theorem nh:b_ uz Lx (aL GH):=q_
abbrev qG:Stmt:=lG 37
abbrev Rh:List Str:=["_law_script","_law_two_here","_law_size","_law_found","_law_word","_law_parts","_law_names_here","_law_made_here","_law_rows","_law_turn"]
abbrev GI:List Str:=["_law_script"]
theorem ib:b_ Rh GI (aL qG):=q_
structure Bl(mg:Str->Option Value):Prop where
 all:mg "all"=Option.none
 bool:mg "bool"=Option.none
 dict:mg "dict"=Option.none
 int:mg "int"=Option.none
 isinstance:mg "isinstance"=Option.none
 len:mg "len"=Option.none
 max:mg "max"=Option.none
 range:mg "range"=Option.none
 set:mg "set"=Option.none
 sorted:mg "sorted"=Option.none
 tuple:mg "tuple"=Option.none
 zip:mg "zip"=Option.none
def ni:W:=.int 13
def nj:W:=.int 40000
structure Gc(K:Frag)(mg:Str->Option Value):Prop where
 MOST_NAMES:∃u v,mg "MOST_NAMES"=some u/\cf v u/\∀μ H,bj K μ H ni v
 MOST_LOOKS:∃u v,mg "MOST_LOOKS"=some u/\cf v u/\∀μ H,bj K μ H nj v
structure O_(K:Frag)(mg:Str->Option Value):Prop where
 TooGreat:QP K mg "TooGreat"
def tabL:List (Addr×Pos×Str):=[(81,⟨44,4,45,99⟩,"side_by_side.<locals>.lead")]
section
variable{w:World}{f:Addr}
local macro_rules | `(tactic| walk_at "w1") => `(tactic| first | exact aQ _ | refine aA ?_ ?_ | exact bH | exact bb | refine bQ ?_ ?_ | refine gr ?_ ?_ | refine fq ?_ | refine sS _ ‹_› ?_ | refine gO (by first | exact lQ | exact EX | exact pZ | exact NC | exact i5 | exact EY | exact Qu | exact Qw | exact Qx | exact M8) ?_ ?_ | refine jA ‹_› ‹_› (by omega) ?_ | refine Nu ‹_› ‹_› ‹_› (by omega) (by omega) ?_ ?_ ?_ | refine m6 ?_ | refine pD ?_ | exact sG _ ‹_› | refine gY pG ‹Bl _›.len jw ?_ | refine gY QC ‹Bl _›.max boot_max ?_ | refine gY BB ‹Bl _›.sorted boot_sorted ?_ | refine gY QM ‹Bl _›.all boot_all ?_ | refine je (by first | exact pf ‹_› | exact E2 ‹_› | exact IM ‹_› | exact Bt ‹_› | exact oG ‹_› | exact w_lt | exact Bw | exact C5 | exact IK) ?_ ?_ | refine yr (by first | exact pf ‹_› | exact E2 ‹_› | exact IM ‹_› | exact Bt ‹_› | exact oG ‹_› | exact w_lt | exact Bw | exact C5 | exact IK) ?_ ?_ | refine IU (by first | exact pf ‹_› | exact E2 ‹_› | exact IM ‹_› | exact Bt ‹_› | exact oG ‹_› | exact w_lt | exact Bw | exact C5 | exact IK) (by first | exact pf ‹_› | exact E2 ‹_› | exact IM ‹_› | exact Bt ‹_› | exact oG ‹_› | exact w_lt | exact Bw | exact C5 | exact IK) ?_ ?_ ?_ | refine nJ ?_ ?_ ?_ | exact kg | refine rq ?_ ?_ ?_ | refine j0 ?_ ?_ | exact sY | refine wD rfl ?_ | refine wC ?_ | refine KU ‹_› ?_ ?_ | refine oy ?_ | exact M4 | exact pA | refine fG KL ‹Bl _›.int boot_int ?_ | refine fG iR ‹Bl _›.tuple eV ?_ | refine fG (JJ ‹_›) ‹Bl _›.dict Dy ?_ | refine IQ PySem.F.slot_list_append PySem.F.type_list_append rC ?_ ?_ | refine IQ PySem.F.slot_list_extend PySem.F.type_list_extend Av ?_ ?_ | refine IR PySem.F.slot_str_join PySem.F.type_str_join sZ ?_ ?_ | refine gj ‹Bl _›.range ?_ | refine Jf ‹Bl _›.zip ?_ | refine BE ‹Bl _›.zip ?_ | refine BF rfl ?_ (fun _ _ _ _ _ => ?_) (fun _ _ _ _ _ => ?_) (fun _ _ _ _ _ => ?_) | refine sj (sG _ ‹_›) rfl ?_ (fun _ _ _ _ _ => ?_) (fun _ _ _ _ _ => ?_) (fun _ _ _ _ _ => ?_) | refine BF (m := 0) rfl ?_ (fun _ _ _ _ _ => ?_) (fun _ _ _ _ _ => ?_) (fun _ _ _ _ _ => ?_) | refine sj (sG _ ‹_›) (m := 0) rfl ?_ (fun _ _ _ _ _ => ?_) (fun _ _ _ _ _ => ?_) (fun _ _ _ _ _ => ?_) | exact UV _ | exact iS | refine IS ?_ | refine uj ?_ | refine Ar ?_ | refine M6 ?_ | refine Qm (ES ?_ ?_) | refine ES ?_ ?_ | refine ER ?_ | refine M5 ?_ | refine Qo ?_ | refine QL ?_ | refine Qp ?_ ?_ ?_ | refine Bo ?_ ?_ | refine Qn ?_ ?_ | refine yu ?_ | refine kJ ?_ | exact m3 | refine yB ?_ ?_ ?_ | refine Ap (Fp ‹_›) ?_ ?_ ?_ | refine Ap (Np ‹_›) ?_ ?_ ?_ | refine E7 ?_ ?_ | refine E4 ?_ ?_ | exact Fq | refine Nf ?_ | refine Fg ?_ | exact IG ‹Gc _ _›.MOST_LOOKS | exact IG ‹Gc _ _›.MOST_NAMES | refine Fb ‹Bl _›.isinstance ‹Bl _›.bool r9 ?_)
local macro_rules | `(tactic| walk_at "w") => `(tactic| repeat' walk_at "w1")
def T0:FS:=(f9 (D1 lR (eC (.str [])) (ai (qv (ah 0)) aE)))
def JN:List W->List al->R W:=fP 1 T0
theorem Ri(F:nH K "in_order" "in_order" NU f fd)(B:Bl mg) :fV P w K mg base (ja P w) 1 f fd Q5 (nT K mg 1 JN):=
 d3 (k:=0) F Q6 rfl fun gu A outer s H E hr=>(fq (m6 (IR PySem.F.slot_str_join PySem.F.type_str_join sZ pA (aA (De B.sorted B.set (aQ 0)) bb))))
def Rj:FS:=(bh (cb 1 (eI 1)) (bh (i_ (bn (ai (ah 0) aE)) (eA 2) (cb 1 (e2 fM (ah 1) (eI 2)))) (f9 (ah 1))))
def DF:List W->List al->R W:=fP 3 Rj
theorem Rk(F:nH K "two_to" "two_to" NV f fd)(B:Bl mg) :fV P w K mg base (ja P w) 1 f fd Q7 (nT K mg 1 DF):=
 d3 (k:=0) F K' rfl fun gu A outer s H E hr=>by have sc:=K';walk_at "w"
def Rm:FS:=(f9 (e2 fM (e2 fM (ah 0) (ah 0)) (dS 1 DF (ai (bz dE (ai (ah 1) aE)) aE))))
def JO:List W->List al->R W:=fP 2 Rm
theorem Rn(F:nH K "entries_many" "entries_many" NW f fd)(B:Bl mg)(Kk:gc P w K mg base 1 "two_to" 1 DF):fV P w K mg base (ja P w) 2 f fd Q8 (nT K mg 2 JO):=
 d3 (k:=1) F La rfl fun gu A outer s H E hr=>by have sc:=La;walk_at "w"
def Ro:FS:=(bh (cb 2 (gg (ai (eI 0) aE))) (bh (i_ (eQ (ah 0)) (eA 3) (bh (cb 4 (gg aE)) (bh (i_ (eQ (ah 2)) (eA 5) (oA (kI (e2 (wB false) (ah 3) (ah 1))) (h_ (uV kX (ah 4) (ai (gg (ai (e2 fM (ah 5) (eI 2)) (ai (e2 du (e2 fM (ah 5) (eI 2)) (eI 1)) aE))) aE))) (h_ (uV kX (ah 4) (ai (gg (ai (ah 5) (ai (ah 5) aE))) aE))))) (cb 2 (ah 4))))) (f9 (ah 2))))
def GJ:List W->List al->R W:=fP 6 Ro
theorem Rp(F:nH K "own_numbers" "own_numbers" NX f fd)  :fV P w K mg base (ja P w) 1 f fd Q9 (nT K mg 2 GJ):=
 d3 (k:=0) F Lb rfl fun gu A outer s H E hr=>by have sc:=Lb;walk_at "w"
def Rq:FS:=(f9 (bz cE (ai (cY [none,some 0] (eQ (dS 2 GJ (ai (ah 1) (ai (e2 bW (ah 0) (eI 0)) aE)))) (eA 0) gs (e2 bW (e2 bW (ah 1) (eI 2)) (ah 0))) aE)))
def GK:List W->List al->R W:=fP 2 Rq
theorem Rs(F:nH K "table_over" "table_over" NY f fd)(B:Bl mg)(Sn:gc P w K mg base 1 "own_numbers" 2 GJ):fV P w K mg base (ja P w) 2 f fd Q_ (nT K mg 2 GK):=
 d3 (k:=1) F Lc rfl fun gu A outer s H E hr=>by have sc:=Lc;walk_at "w"
def Rt:FS:=(bh (oA (kI (e2 mU (ah 0) (eC (.str [115,97,109,101])))) (f9 (e2 bW (ah 1) (eI 0))) gy) (bh (oA (kI (e2 mU (ah 0) (eC (.str [110,111,116])))) (f9 (IH (e2 bW (ah 1) (eI 0)))) gy) (bh (oA (kI (e2 mU (ah 0) (eC (.str [97,110,100])))) (f9 (tU (e2 bW (ah 1) (eI 0)) (e2 bW (ah 1) (eI 1)))) gy) (bh (oA (kI (e2 mU (ah 0) (eC (.str [111,114])))) (f9 (KH (e2 bW (ah 1) (eI 0)) (e2 bW (ah 1) (eI 1)))) gy) (f9 (e2 KJ (e2 bW (ah 1) (eI 0)) (e2 bW (ah 1) (eI 1))))))))
def JP:List W->List al->R W:=fP 2 Rt
theorem Ru(F:nH K "says" "says" NZ f fd)  :fV P w K mg base (ja P w) 1 f fd Ra (nT K mg 2 JP):=
 d3 (k:=0) F Ld rfl fun gu A outer s H E hr=>by have sc:=Ld;walk_at "w"
abbrev cP:Stmt:=(dZ zd).getD 1 (.Pass ⟨0,0,0,0⟩)
abbrev bR:Obj->Prop:=Ux "lead" "side_by_side.<locals>.lead" cP ["tables"]
theorem nU:wX ["letter","left","right","tables"] ["letter","left","right"] ["tables"] (aL cP):=⟨rfl,rfl,rfl,by decide +kernel,rfl,rfl,by decide +kernel,by decide +kernel,by decide +kernel,by decide +kernel,by decide +kernel⟩
def jl:FS:=(f9 (bz cE (ai (cY [none,none,none,some 0] (ui (ai (ah 3) (ai (ah 1) (ai (ah 2) aE)))) (D0 3 (fv (eA 0) (fv (eA 1) (fv (eA 2) oB)))) gs (e2 bW (e2 bW (e2 bW (ah 0) (ah 3)) (ah 1)) (ah 2))) aE)))
def dG:List W->List al->R W:=fP 4 jl
theorem mG(B:Bl mg) :qa P w K mg base 1 3 1 bR dG:=
 FP (k:=0) nU rfl rfl (fun _ _ _ _ _ us hl=>match us,hl with|[_,_,_],_=>rfl) fun f cd cl A outer s H E hr=>(fq (m6 (fG iR B.tuple eV (aA (BC (nm:=["table","one","other","letter"]) (cap:=[none,none,none,some 0]) (by first|rfl|kernel_rfl) (JC B.zip (aA (aQ 3) (aA (aQ 1) (aA (aQ 2) bb)))) (fun _ _ _ _ _=>(wD rfl (j0 (sC 0) (j0 (sC 1) (j0 (sC 2) sY))))) (fun _ _ _ _ _=>iS) (fun _ _ _ _ _=>(gr (gr (gr (aQ 0) (aQ 3)) (aQ 1)) (aQ 2)))) bb))))
def Ly:FS:=(bh (i_ (iT (ah 0)) (eA 3) (i_ (iT (ah 0)) (eA 4) (i_ (bn (ai (ah 2) aE)) (eA 5) (oA (kI (e2 (sQ true) (ug 1 3 bR dG (ai (ah 5) (ai (ah 3) (ai (ah 4) aE)))) (ah 0))) (f9 (eC (.bl false))) gy)))) (f9 (eC (.bl true))))
def B1:List W->List al->R W:=fP 6 Ly
theorem N4(F:nH K "closed" "closed" F' f fd)(B:Bl mg)(ii:qa P w K mg base 1 3 1 bR dG) :fV P w K mg base (ja P w) 2 f fd Lh (nT K mg 3 B1):=
 d3 (k:=1) F xb rfl fun gu A outer s H E hr=>(bQ (rq (uj (aQ 0)) (sG 3 xb) (fq (rq (uj (aQ 0)) (sG 4 xb) (fq (rq (gj B.range (aA (aQ 2) bb)) (sG 5 xb) (fq (nJ (je (oG hr) (Jt 1 ii (Ju rfl) hr (by omega) (aA (aQ 5) (aA (aQ 3) (aA (aQ 4) bb)))) (aQ 0)) (fq (m6 M4)) kg))))))) (fq (m6 M4)))
def T1:FS:=(cb 2 (cY [none,some 1] (eQ (ah 0)) (eA 0) gs (dS 2 GK (ai (ah 0) (ai (ah 1) aE)))))
def ic:List W->List al->R (List W):=FF 4 T1 [2] 3 1 81 ⟨44,4,45,99⟩ "side_by_side.<locals>.lead"
theorem Rv(F:nH K "side_by_side" "side_by_side" zd f fd)(Tc:TW K fd 81)(Bk:wL base mg) (ON:gc P w K mg base 2 "table_over" 2 GK):fV P w K mg base (ja P w) 3 f fd Rb (SQ K mg 2 bR ic):=
 Tc.elim fun cT hT=>Nr (k:=2) (m:=0) (s1:=(dZ zd).getD 0 (.Pass ⟨0,0,0,0⟩)) (dst:=cP) F F8 rfl rfl (fun gu A outer s H E om hr=>⟨(sS 2 F8 (pY (nm:=["machine","names"]) (cap:=[none,some 1]) (by first|rfl|kernel_rfl) rfl (Ar (aQ 0)) (fun _ _ _ _ _=>(sC 0)) (fun _ _ _ _ _=>iS) (fun _ _ _ _ _=>(jA ON hr (by omega) (aA (aQ 0) (aA (aQ 1) bb)))))),FN (st:=cP) (om.symm.trans hT.1) hT.2.1 Bk rfl F8.nd,⟨_,rfl⟩,rfl,.cons rfl (.nil)⟩) (by kernel_rfl) (by kernel_rfl) rfl (by first|exact Or.inl rfl|exact Or.inr (Or.inl rfl))
def Rw:FS:=(f9 (cY [none,none] (p7 (ai (ah 0) (ai (ah 1) aE))) (D0 2 (fv (eA 0) (fv (eA 1) oB))) gs (e2 bW (e2 bW (ah 0) (eI 1)) (ah 1))))
def JQ:List W->List al->R W:=fP 2 Rw
theorem Rx(F:nH K "goods_of" "goods_of" N1 f fd)(B:Bl mg) :fV P w K mg base (ja P w) 1 f fd Rc (nT K mg 2 JQ):=
 d3 (k:=0) F Le rfl fun gu A outer s H E hr=>by have sc:=Le;walk_at "w"
def N5:FS:=(bh (oA (kI (e2 Qy (bz dE (ai (ah 1) aE)) (eC ni))) (At "TooGreat") gy) (oA (kI (e2 Qy (dS 2 JO (ai (bz dE (ai (ah 0) aE)) (ai (ah 1) aE))) (eC nj))) (At "TooGreat") gy))
def JR:List W->List al->R W:=fP 2 N5
theorem Ry(F:nH K "check_looks" "check_looks" N2 f fd)(B:Bl mg)(G:Gc K mg)(C:O_ K mg)(OO:gc P w K mg base 2 "entries_many" 2 JO):fV P w K mg base (ja P w) 3 f fd Re (nT K mg 2 JR):=
 d3 (k:=2) F Rf rfl fun gu A outer s H E hr=>(bQ (nJ (je C5 (gY pG B.len jw (aA (aQ 1) bb)) (IG G.MOST_NAMES)) (fq (yG C.TooGreat)) kg) (fq (nJ (je C5 (jA OO hr (by omega) (aA (gY pG B.len jw (aA (aQ 0) bb)) (aA (aQ 1) bb))) (IG G.MOST_LOOKS)) (fq (yG C.TooGreat)) kg)))
def Rz:FS:=(f9 (t0 Dd yx (eI 0) (ah 1) (bz dE (ai (e2 bW (ah 0) (eI 1)) aE))))
def GL:List W->List al->R W:=fP 2 Rz
theorem RA(F:nH K "is_room" "is_room" N3 f fd)(B:Bl mg) :fV P w K mg base (ja P w) 1 f fd Rg (nT K mg 2 GL):=
 d3 (k:=0) F Lf rfl fun gu A outer s H E hr=>by have sc:=Lf;walk_at "w"
def LA:FS:=(f9 (bz wI (ai (cY [none,none] (p7 (ai (ah 0) (ai (ah 1) aE))) (D0 2 (fv (eA 0) (fv (eA 1) oB))) gs (dS 2 GL (ai (ah 0) (ai (ah 1) aE)))) aE)))
def zi:List W->List al->R W:=fP 2 LA
theorem N6(F:nH K "all_rooms" "all_rooms" F9 f fd)(B:Bl mg)(RX:gc P w K mg base 1 "is_room" 2 GL):fV P w K mg base (ja P w) 2 f fd Lg (nT K mg 2 zi):=
 d3 (k:=1) F F_ rfl fun gu A outer s H E hr=>by have sc:=F_;walk_at "w"
def LB:FS:=(f9 (e2 mU (e2 bW (e2 bW (ah 2) (eI 1)) (e2 bW (ah 3) (IV (eI 1)))) (dS 2 JP (ai (ah 0) (ai (dS 2 JQ (ai (ah 1) (ai (ah 3) aE))) aE)))))
def zj:List W->List al->R W:=fP 4 LB
theorem N7(F:nH K "says_so" "says_so" Gb f fd) (Sc:gc P w K mg base 1 "goods_of" 2 JQ)(Sg:gc P w K mg base 1 "says" 2 JP):fV P w K mg base (ja P w) 2 f fd Li (nT K mg 4 zj):=
 d3 (k:=1) F Gd rfl fun gu A outer s H E hr=>by have sc:=Gd;walk_at "w"
def LC:FS:=(bh (cb 4 (e2 du (ah 1) (jY (ai (ah 2) aE)))) (bh (cb 5 (dS 1 JN (ai (D1 lR (eC (.str [])) (ai (cY [none] (eQ (ah 4)) (eA 0) gs (e2 bW (ah 0) (eI 0))) aE)) aE))) (bh (h_ (dS 2 JR (ai (ah 3) (ai (ah 5) aE)))) (bh (cb 6 yL) (bh (i_ (eQ (ah 3)) (eA 7) (E5 (ah 6) (ah 7) (eC (.bl true)) yT)) (bh (oA (O' (kI (bz wI (ai (cY [none,some 4] (iT (ah 6)) (eA 0) gs (dS 2 zi (ai (ah 1) (ai (ah 0) aE)))) aE)))) (f9 (eC (.bl false))) gy) (bh (oA (kI (e2 (sQ true) (e2 y4 (jY (ai (eI 0) aE)) (bz dE (ai (ah 4) aE))) (ah 6))) (f9 (eC (.bl false))) gy) (bh (oA (O' (kI (bz wI (ai (cY [none,some 0,some 1,some 2] (iT (ah 6)) (eA 0) gs (dS 4 zj (ai (ah 1) (ai (ah 2) (ai (ah 3) (ai (ah 0) aE)))))) aE)))) (f9 (eC (.bl false))) gy) (f9 (y0 B1 (ah 6) 2 bR ic (ai (ah 4) (ai (ah 5) aE)) (dS 1 DF (ai (bz dE (ai (ah 5) aE)) aE))))))))))))
def vS:List W->List al->R W:=fP 8 LC
theorem N8(F:nH K "shown" "shown" Ge f fd)(B:Bl mg)(L9:gc P w K mg base 2 "all_rooms" 2 zi)(Sb:gc P w K mg base 3 "check_looks" 2 JR)(Ma:gc P w K mg base 2 "closed" 3 B1)(Sf:gc P w K mg base 1 "in_order" 1 JN)(L6:gc P w K mg base 2 "says_so" 4 zj)(RZ:yZ P w K mg base 3 "side_by_side" 2 bR ic)(Kk:gc P w K mg base 1 "two_to" 1 DF):fV P w K mg base (ja P w) 4 f fd Lj (nT K mg 4 vS):=
 d3 (k:=3) F Gf rfl fun gu A outer s H E hr=>by have sc:=Gf;walk_at "w"
def RB:FS:=(bh (oA (kI (e2 mU (bz dE (ai (ah 0) aE)) (eI 0))) (f9 (eI 0)) gy) (f9 (e2 bW (ah 0) (e2 eW (ah 1) (bz dE (ai (ah 0) aE))))))
def nO:List W->List al->R W:=fP 2 RB
theorem N9(F:nH K "_law_cell" "_law_cell" Gh f fd)(B:Bl mg) :fV P w K mg base (ja P w) 1 f fd Lk (nT K mg 2 nO):=
 d3 (k:=0) F Gi rfl fun gu A outer s H E hr=>by have sc:=Gi;walk_at "w"
def RC:FS:=(bh (cb 3 (e2 eW (e2 fM (e2 du (e2 du (e2 du (ah 0) (e2 fM (e2 fM (eI 7) (ah 1)) (ah 1))) (e2 fM (eI 13) (ah 1))) (ah 2)) (eI 69621)) (eI 2147483647))) (f9 (e2 eW (e2 fM (e2 eW (e2 du (e2 du (e2 fM (ah 3) (e2 du (e2 qr (ah 3) (eI 1009)) (eI 3))) (e2 fM (eI 31) (ah 1))) (ah 2)) (eI 2147483629)) (eI 48271)) (eI 1000000007))))
def zk:List W->List al->R W:=fP 4 RC
theorem N_(F:nH K "_law_mixed" "_law_mixed" Gj f fd)  :fV P w K mg base (ja P w) 1 f fd Ll (nT K mg 3 zk):=
 d3 (k:=0) F Gk rfl fun gu A outer s H E hr=>by have sc:=Gk;walk_at "w"
def LD:FS:=(bh (cb 3 (gg aE)) (bh (cb 4 (eI 0)) (bh (oA (kI (e2 Uq (ah 0) (e2 Qs (eI 10) (eI 18)))) (cb 4 (ah 0)) gy) (bh (i_ (bn (ai (ah 1) aE)) (eA 5) (oA (kI (e2 Qy (ah 4) (eI 0))) (bh (h_ (uV dF (ah 3) (ai (e2 eW (ah 4) (eI 64)) aE))) (cb 4 (e2 qr (ah 4) (eI 64)))) (h_ (uV dF (ah 3) (ai (dS 3 zk (ai (ah 0) (ai (ah 5) (ai (ah 2) aE)))) aE))))) (f9 (ah 3))))))
def pH:List W->List al->R W:=fP 6 LD
theorem N'(F:nH K "_law_draws" "_law_draws" Gm f fd)(B:Bl mg)(L5:gc P w K mg base 1 "_law_mixed" 3 zk):fV P w K mg base (ja P w) 2 f fd Lm (nT K mg 3 pH):=
 d3 (k:=1) F Gn rfl fun gu A outer s H E hr=>by have sc:=Gn;walk_at "w"
def LF:FS:=(bh (cb 3 (eC (.str [65,66,67,68,69,70,71,72,73,74,75,76,77,78,79,80,81,82,83,84,85,86,87,88,89,90,97,98,99,100,101,102,103,104,105,106,107,108,109,110,111,112,113,114,115,116,117,118,119,120,121,122]))) (bh (cb 4 (eC (.str []))) (bh (i_ (eQ (dS 3 pH (ai (ah 0) (ai (ah 1) (ai (ah 2) aE))))) (eA 5) (bh (cb 6 (e2 eW (ah 5) (bz dE (ai (ah 3) aE)))) (bh (cb 4 (e2 du (ah 4) (e2 bW (ah 3) (ah 6)))) (cb 3 (e2 du (C8 (ah 3) pE (kT (ah 6))) (C8 (ah 3) (kT (e2 du (ah 6) (eI 1))) pE)))))) (f9 (ah 4)))))
def sw:List W->List al->R W:=fP 7 LF
theorem Oa(F:nH K "_law_pool" "_law_pool" Go f fd)(B:Bl mg)(uN:gc P w K mg base 2 "_law_draws" 3 pH):fV P w K mg base (ja P w) 3 f fd Ln (nT K mg 3 sw):=
 d3 (k:=2) F Gp rfl fun gu A outer s H E hr=>by have sc:=Gp;walk_at "w"
def LG:FS:=(f9 (D1 lR (eC (.str [])) (ai (bz l9 (ai (cY [none,some 0,some 1] (bn (ai (bz dE (ai (ah 0) aE)) aE)) (eA 0) (kI (e2 mU (e2 yw (e2 C4 (ah 2) (ah 0)) (eI 1)) (eI 1))) (e2 bW (ah 1) (ah 0))) aE)) aE)))
def qH:List W->List al->R W:=fP 2 LG
theorem Ob(F:nH K "_law_marks" "_law_marks" Gq f fd)(B:Bl mg) :fV P w K mg base (ja P w) 1 f fd Lo (nT K mg 2 qH):=
 d3 (k:=0) F Gr rfl fun gu A outer s H E hr=>by have sc:=Gr;walk_at "w"
def LH:FS:=(bh (cb 4 (bz cE (ai (cY [none,some 3] (bn (ai (ah 1) aE)) (eA 0) gs (e2 mU (e2 eW (e2 bW (ah 1) (ah 0)) (eI 2)) (eI 1))) aE))) (bh (cb 5 (gg aE)) (bh (cb 6 (ah 1)) (bh (i_ (bn (ai (e2 rh (eI 1) (bz dE (ai (ah 0) aE))) aE)) (eA 7) (bh (cb 8 (gg aE)) (bh (i_ (bn (ai (ah 1) aE)) (eA 9) (bh (h_ (uV dF (ah 8) (ai (bz cE (ai (cY [none,some 2,some 3,some 6] (bn (ai (ah 1) aE)) (eA 0) gs (e2 eW (e2 bW (ah 2) (e2 du (ah 3) (ah 0))) (ah 1))) aE)) aE))) (cb 6 (e2 du (ah 6) (ah 1))))) (h_ (uV dF (ah 5) (ai (bz cE (ai (ah 8) aE)) aE)))))) (f9 (jY (ai (ah 0) (ai (ah 4) (ai (bz cE (ai (ah 5) aE)) aE)))))))))
def zl:List W->List al->R W:=fP 10 LH
theorem Oc(F:nH K "_law_machine" "_law_machine" Gu f fd)(B:Bl mg) :fV P w K mg base (ja P w) 1 f fd Lp (nT K mg 4 zl):=
 d3 (k:=0) F Gv rfl fun gu A outer s H E hr=>by have sc:=Gv;walk_at "w"
def LI:FS:=(bh (cb 2 (eI 0)) (bh (i_ (eQ (ah 0)) (eA 3) (cb 2 (e2 du (e2 fM (eI 2) (ah 2)) (bz C9 (ai (e2 (wB false) (ah 3) (ah 1)) aE))))) (f9 (ah 2))))
def sy:List W->List al->R W:=fP 4 LI
theorem Od(F:nH K "_law_letter" "_law_letter" Gw f fd)(B:Bl mg) :fV P w K mg base (ja P w) 1 f fd Lq (nT K mg 2 sy):=
 d3 (k:=0) F Gx rfl fun gu A outer s H E hr=>by have sc:=Gx;walk_at "w"
def LJ:FS:=(bh (cb 2 (dS 3 pH (ai (dS 2 nO (ai (ah 0) (ai (eI 0) aE))) (ai (eI 6) (ai (eI 100003) aE))))) (bh (cb 3 (dS 3 sw (ai (dS 2 nO (ai (ah 0) (ai (eI 1) aE))) (ai (eI 3) (ai (eI 200017) aE))))) (bh (cb 4 (gg aE)) (bh (i_ (bn (ai (eI 2) aE)) (eA 5) (bh (cb 6 (dS 2 qH (ai (ah 3) (ai (e2 bW (gg (ai (eI 0) (ai (eI 1) (ai (eI 2) (ai (eI 4) (ai (eI 3) (ai (eI 5) (ai (eI 6) aE)))))))) (e2 eW (e2 bW (ah 2) (ah 5)) (eI 7))) aE)))) (bh (cb 7 (e2 du (eI 1) (e2 eW (e2 bW (ah 2) (e2 du (eI 2) (ah 5))) (e2 bW (ah 1) (bz dE (ai (ah 6) aE)))))) (bh (cb 8 (ah 7)) (bh (oA (kI (e2 mU (e2 eW (e2 bW (ah 2) (e2 du (eI 4) (ah 5))) (eI 3)) (eI 1))) (cb 8 (bz E3 (ai (eI 1) (ai (e2 C3 (ah 7) (eI 1)) aE)))) gy) (bh (cb 9 (dS 3 pH (ai (dS 2 nO (ai (ah 0) (ai (e2 du (eI 2) (ah 5)) aE))) (ai (e2 du (ah 7) (e2 rh (e2 fM (ah 7) (ah 7)) (bz dE (ai (ah 6) aE)))) (ai (e2 du (eI 300007) (e2 fM (eI 100003) (ah 5))) aE))))) (h_ (uV dF (ah 4) (ai (dS 4 zl (ai (ah 6) (ai (ah 7) (ai (ah 8) (ai (ah 9) aE))))) aE))))))))) (f9 (ah 4))))))
def B2:List W->List al->R W:=fP 10 LJ
theorem Oe(F:nH K "_law_two" "_law_two" Gy f fd)(B:Bl mg)(uJ:gc P w K mg base 1 "_law_cell" 2 nO)(uN:gc P w K mg base 2 "_law_draws" 3 pH)(L7:gc P w K mg base 1 "_law_machine" 4 zl)(v9:gc P w K mg base 1 "_law_marks" 2 qH)(v8:gc P w K mg base 3 "_law_pool" 3 sw):fV P w K mg base (ja P w) 4 f fd Lr (nT K mg 2 B2):=
 d3 (k:=3) F Gz rfl fun gu A outer s H E hr=>by have sc:=Gz;walk_at "w"
def LK:FS:=(f9 (D1 lR (eC (.str [])) (ai (cY [none,some 0] (eQ (eC (.str [65,66,67,68,69,70,71,72,73,74,75,76,77,78,79,80,81,82,83,84,85,86,87,88,89,90,97,98,99,100,101,102,103,104,105,106,107,108,109,110,111,112,113,114,115,116,117,118,119,120,121,122]))) (eA 0) (kI (e2 (wB false) (ah 0) (ah 1))) (ah 0)) aE)))
def zm:List W->List al->R W:=fP 1 LK
theorem Of(F:nH K "_law_names" "_law_names" GA f fd)  :fV P w K mg base (ja P w) 1 f fd Ls (nT K mg 1 zm):=
 d3 (k:=0) F GB rfl fun gu A outer s H E hr=>by have sc:=GB;walk_at "w"
def LM:FS:=(bh (cb 5 (bz dE (ai (ah 3) aE))) (bh (cb 6 (bz rO (ai (cY [none,some 3] (bn (ai (ah 5) aE)) (eA 0) gs (jY (ai (e2 bW (ah 1) (ah 0)) (ai (ah 0) aE)))) aE))) (bh (cb 7 (gg aE)) (bh (i_ (bn (ai (e2 rh (eI 1) (bz dE (ai (ah 1) aE))) aE)) (eA 8) (bh (cb 9 (dS 2 qH (ai (BA (ah 1)) (ai (ah 8) aE)))) (bh (sM (cY [none,some 9] (eQ (ah 0)) (eA 0) gs (dS 2 sy (ai (e2 bW (ah 0) (eI 0)) (ai (ah 1) aE)))) (eA 10)) (bh (cb 11 (gg aE)) (bh (i_ (bn (ai (ah 5) aE)) (eA 12) (bh (cb 13 (gg aE)) (bh (i_ (bn (ai (ah 5) aE)) (eA 14) (bh (cb 15 (e2 bW (ah 2) (e2 wK (ah 6) (ah 12)))) (bh (cb 16 (e2 bW (ah 2) (e2 wK (ah 6) (ah 14)))) (bh (cb 17 (eI 0)) (bh (i_ (bn (ai (bz dE (ai (ah 0) aE)) aE)) (eA 18) (bh (cb 19 (e2 bW (e2 bW (e2 bW (e2 bW (e2 bW (ah 0) (ah 18)) (eI 2)) (e2 bW (ah 10) (ah 18))) (e2 bW (ah 15) (ah 18))) (e2 bW (ah 16) (ah 18)))) (cb 17 (e2 du (e2 fM (ah 17) (bz dE (ai (e2 bW (e2 bW (ah 0) (ah 18)) (eI 1)) aE))) (ah 19))))) (bh (cb 20 (e2 eW (e2 du (e2 du (ah 12) (ah 14)) (ah 8)) (e2 qr (ah 5) (ah 4)))) (h_ (uV dF (ah 13) (ai (e2 bW (ah 3) (e2 du (ah 17) (e2 fM (ah 4) (ah 20)))) aE))))))))) (h_ (uV dF (ah 11) (ai (bz cE (ai (ah 13) aE)) aE)))))) (h_ (uV dF (ah 7) (ai (bz cE (ai (ah 11) aE)) aE)))))))) (f9 (bz cE (ai (ah 7) aE)))))))
def B3:List W->List al->R W:=fP 21 LM
theorem Og(F:nH K "_law_made_table" "_law_made_table" GC f fd)(B:Bl mg)(Cm:gc P w K mg base 1 "_law_letter" 2 sy)(v9:gc P w K mg base 1 "_law_marks" 2 qH):fV P w K mg base (ja P w) 2 f fd Lu (nT K mg 5 B3):=
 d3 (k:=1) F GD rfl fun gu A outer s H E hr=>by have sc:=GD;walk_at "w"
def LN:FS:=(bh (cb 5 (bz dE (ai (e2 bW (e2 bW (ah 1) (eI 0)) (eI 1)) aE))) (bh (oA (kI (e2 mU (bz dE (ai (ah 1) aE)) (eI 2))) (cb 5 (e2 fM (ah 5) (bz dE (ai (e2 bW (e2 bW (ah 1) (eI 1)) (eI 1)) aE)))) gy) (bh (cb 6 (e2 fM (ah 5) (e2 du (eI 1) (ah 4)))) (bh (cb 7 (e2 du (gg (ai (eI 0) aE)) (cY [none,some 3,some 6] (bn (ai (e2 C3 (ah 6) (eI 1)) aE)) (eA 0) gs (e2 du (eI 1) (e2 eW (e2 du (ah 0) (ah 1)) (e2 C3 (ah 2) (eI 1))))))) (bh (cb 8 (gg aE)) (bh (cb 9 yL) (bh (i_ (bn (ai (ah 6) aE)) (eA 10) (bh (cb 11 (gg (ai (e2 eW (ah 10) (ah 5)) aE))) (bh (oA (kI (e2 mU (bz dE (ai (ah 1) aE)) (eI 2))) (cb 11 (gg (ai (e2 qr (e2 eW (ah 10) (ah 5)) (bz dE (ai (e2 bW (e2 bW (ah 1) (eI 1)) (eI 1)) aE))) (ai (e2 eW (e2 eW (ah 10) (ah 5)) (bz dE (ai (e2 bW (e2 bW (ah 1) (eI 1)) (eI 1)) aE))) aE)))) gy) (bh (sM (rE [none,none] (t_ (ai (ah 1) (ai (ah 11) aE))) (D0 2 (fv (eA 0) (fv (eA 1) oB))) gs (e2 bW (e2 bW (ah 0) (eI 1)) (ah 1))) (eA 12)) (bh (cb 13 (e2 KJ (e2 bW (ah 12) (eI 0)) (e2 mU (ah 0) (eC (.str [110,111,116]))))) (bh (oA (KG (kI (e2 mU (ah 0) (eC (.str [97,110,100])))) (kI (e2 mU (ah 0) (eC (.str [111,114]))))) (cb 13 (M7 (kI (e2 mU (ah 0) (eC (.str [97,110,100])))) (tU (e2 bW (ah 12) (eI 0)) (e2 bW (ah 12) (eI 1))) (KH (e2 bW (ah 12) (eI 0)) (e2 bW (ah 12) (eI 1))))) gy) (bh (E5 (ah 9) (e2 bW (ah 7) (ah 10)) (ah 13) yK) (h_ (uV dF (ah 8) (ai (bz cE (ai (e2 du (ah 11) (gg (ai (e2 bW (ah 7) (ah 10)) aE))) aE)) aE)))))))))) (bh (cb 14 (dS 5 B3 (ai (ah 1) (ai (ah 2) (ai (ah 8) (ai (ah 7) (ai (ah 5) aE))))))) (f9 (jY (ai (jY (ai (ah 2) (ai (bz cE (ai (cY [none,some 9] (bn (ai (ah 6) aE)) (eA 0) gs (e2 wK (ah 1) (ah 0))) aE)) (ai (ah 14) aE)))) (ai (ah 8) aE))))))))))))
def B4:List W->List al->R W:=fP 15 LN
theorem Oh(F:nH K "_law_made" "_law_made" GE f fd)(B:Bl mg)(Hg:gc P w K mg base 2 "_law_made_table" 5 B3):fV P w K mg base (ja P w) 3 f fd Lv (nT K mg 5 B4):=
 d3 (k:=2) F jk rfl fun gu A outer s H E hr=>(bQ (sS 5 jk (gY pG B.len jw (aA (gr (gr (aQ 1) bH) bH) bb))) (bQ (nJ (je (pf hr) (gY pG B.len jw (aA (aQ 1) bb)) bH) (fq (sS 5 jk (gO pZ (aQ 5) (gY pG B.len jw (aA (gr (gr (aQ 1) bH) bH) bb))))) kg) (bQ (sS 6 jk (gO pZ (aQ 5) (gO lQ bH (aQ 4)))) (bQ (sS 7 jk (gO lQ (oy (aA bH bb)) (pY (nm:=["_law_k","_law_shift","_law_many"]) (cap:=[none,some 3,some 6]) (by first|rfl|kernel_rfl) rfl (gj B.range (aA (gO EX (aQ 6) bH) bb)) (fun _ _ _ _ _=>(sC 0)) (fun _ _ _ _ _=>iS) (fun _ _ _ _ _=>(gO lQ bH (gO i5 (gO lQ (aQ 0) (aQ 1)) (gO EX (aQ 2) bH))))))) (bQ (sS 8 jk (oy bb)) (bQ (sS 9 jk Fq) (bQ (rq (gj B.range (aA (aQ 6) bb)) (sG 10 jk) (bQ (sS 11 jk (oy (aA (gO i5 (aQ 10) (aQ 5)) bb))) (bQ (nJ (je (pf hr) (gY pG B.len jw (aA (aQ 1) bb)) bH) (fq (sS 11 jk (oy (aA (gO EY (gO i5 (aQ 10) (aQ 5)) (gY pG B.len jw (aA (gr (gr (aQ 1) bH) bH) bb))) (aA (gO i5 (gO i5 (aQ 10) (aQ 5)) (gY pG B.len jw (aA (gr (gr (aQ 1) bH) bH) bb))) bb))))) kg) (bQ (y6 (sG 12 jk) (nm:=["_law_part","_law_room"]) (cap:=[none,none]) (by first|rfl|kernel_rfl) rfl (BE B.zip (aA (aQ 1) (aA (aQ 11) bb))) (fun _ _ _ _ _=>(wD rfl (j0 (sC 0) (j0 (sC 1) sY)))) (fun _ _ _ _ _=>iS) (fun _ _ _ _ _=>(gr (gr (aQ 0) bH) (aQ 1)))) (bQ (sS 13 jk (yr (E2 hr) (gr (aQ 12) bH) (yr (pf hr) (aQ 0) pA))) (bQ (nJ (Qm (ES (je (pf hr) (aQ 0) pA) (ER (je (pf hr) (aQ 0) pA)))) (fq (sS 13 jk (Qp (je (pf hr) (aQ 0) pA) (Bo (gr (aQ 12) bH) (yu (gr (aQ 12) bH))) (Qn (gr (aQ 12) bH) (yu (gr (aQ 12) bH)))))) kg) (bQ (Ap (Fp hr) (aQ 13) (aQ 9) (gr (aQ 7) (aQ 10))) (fq (wC (IQ PySem.F.slot_list_append PySem.F.type_list_append rC (aQ 8) (aA (fG iR B.tuple eV (aA (gO lQ (aQ 11) (oy (aA (gr (aQ 7) (aQ 10)) bb))) bb)) bb))))))))))) (bQ (sS 14 jk (jA Hg hr (by omega) (aA (aQ 1) (aA (aQ 2) (aA (aQ 8) (aA (aQ 7) (aA (aQ 5) bb))))))) (fq (m6 (pD (aA (pD (aA (aQ 2) (aA (fG iR B.tuple eV (aA (pY (nm:=["_law_room","_law_goods"]) (cap:=[none,some 9]) (by first|rfl|kernel_rfl) rfl (gj B.range (aA (aQ 6) bb)) (fun _ _ _ _ _=>(sC 0)) (fun _ _ _ _ _=>iS) (fun _ _ _ _ _=>(KU hr (aQ 1) (aQ 0)))) bb)) (aA (aQ 14) bb)))) (aA (aQ 8) bb)))))))))))))
def LO:FS:=(bh (cb 2 (gg (ai (bz cE (ai (cY [none] (eQ (ah 0)) (eA 0) gs (eI 0)) aE)) aE))) (bh (cb 3 (eI 0)) (bh (pX (kI (e2 yx (ah 3) (bz dE (ai (ah 2) aE)))) (bh (i_ (bn (ai (e2 rh (eI 1) (bz dE (ai (ah 1) aE))) aE)) (eA 4) (bh (sM (cY [none,some 1,some 4] (eQ (ah 0)) (eA 0) gs (dS 2 sy (ai (e2 bW (ah 0) (eI 0)) (ai (dS 2 qH (ai (ah 1) (ai (ah 2) aE))) aE)))) (eA 5)) (i_ (bn (ai (e2 du (ah 3) (eI 1)) aE)) (eA 6) (i_ (eQ (jY (ai (jY (ai (e2 bW (ah 2) (ah 3)) (ai (e2 bW (ah 2) (ah 6)) aE))) (ai (jY (ai (e2 bW (ah 2) (ah 6)) (ai (e2 bW (ah 2) (ah 3)) aE))) aE)))) (D0 2 (fv (eA 7) (fv (eA 8) oB))) (bh (cb 9 (gg aE)) (bh (i_ (bn (ai (bz dE (ai (ah 0) aE)) aE)) (eA 10) (bh (cb 11 (e2 bW (e2 bW (e2 bW (ah 0) (ah 10)) (eI 2)) (e2 bW (ah 5) (ah 10)))) (h_ (uV dF (ah 9) (ai (e2 bW (e2 bW (ah 11) (e2 bW (ah 7) (ah 10))) (e2 bW (ah 8) (ah 10))) aE))))) (oA (kI (e2 (wB true) (bz cE (ai (ah 9) aE)) (ah 2))) (h_ (uV dF (ah 2) (ai (bz cE (ai (ah 9) aE)) aE))) gy))))))) (cb 3 (e2 du (ah 3) (eI 1))))) (f9 (ah 2)))))
def B5:List W->List al->R W:=fP 12 LO
theorem Oi(F:nH K "_law_met_rows" "_law_met_rows" GF f fd)(B:Bl mg)(Cm:gc P w K mg base 1 "_law_letter" 2 sy)(v9:gc P w K mg base 1 "_law_marks" 2 qH):fV P w K mg base (ja P w) 2 f fd Lw (nT K mg 2 B5):=
 d3 (k:=1) F GG rfl fun gu A outer s H E hr=>by have sc:=GG;walk_at "w"
def LP:FS:=(bh (cb 2 (e2 du (eI 26) (e2 eW (e2 bW (ah 0) (eI 9)) (eI 25)))) (bh (cb 3 (gg aE)) (bh (i_ (bn (ai (eI 2) aE)) (eA 4) (h_ (uV dF (ah 3) (ai (bz cE (ai (cY [none,some 2,some 4] (bn (ai (ah 2) aE)) (eA 0) gs (bz cE (ai (cY [none,some 1,some 2,some 0] (bn (ai (ah 1) aE)) (eA 0) gs (e2 eW (e2 du (e2 du (ah 3) (ah 0)) (ah 2)) (ah 1))) aE))) aE)) aE)))) (bh (cb 5 (jY (ai (e2 bW (ah 1) (eI 0)) (ai (bz cE (ai (cY [none,some 2,some 0] (bn (ai (ah 2) aE)) (eA 0) gs (e2 mU (ah 0) (e2 eW (e2 bW (ah 2) (eI 1)) (ah 1)))) aE)) (ai (bz cE (ai (ah 3) aE)) aE))))) (bh (cb 6 (e2 mU (e2 eW (e2 bW (ah 0) (eI 0)) (eI 2)) (eI 0))) (bh (cb 7 (jY (ai (D1 lR (eC (.str [])) (ai (bz l9 (ai (C8 (ah 1) (kT (eI 1)) (kT (eI 4))) aE)) aE)) (ai (jY (ai (ah 6) aE)) (ai (bz cE (ai (cY [none] (bn (ai (eI 8) aE)) (eA 0) gs (jY (ai (jY (ai (eI 0) aE)) aE))) aE)) aE))))) (bh (sM (cY [none] (bn (ai (ah 2) aE)) (eA 0) gs (jY (ai (ah 0) (ai (eI 0) (ai (ah 0) aE))))) (eA 8)) (bh (cb 9 (e2 eW (e2 bW (ah 0) (eI 5)) (ah 2))) (f9 (dS 4 vS (ai (e2 bW (gg (ai (eC (.str [111,114])) (ai (eC (.str [97,110,100])) aE))) (bz C9 (ai (ah 6) aE))) (ai (jY (ai (ah 5) (ai (ah 7) aE))) (ai (ah 5) (ai (bz cE (ai (e2 du (C8 (ah 8) (kT (ah 9)) pE) (C8 (ah 8) pE (kT (ah 9)))) aE)) aE))))))))))))))
def B6:List W->List al->R W:=fP 10 LP
theorem Oj(F:nH K "_law_counted" "_law_counted" GH f fd)(B:Bl mg)(v_:gc P w K mg base 4 "shown" 4 vS):fV P w K mg base (ja P w) 5 f fd Lx (nT K mg 2 B6):=
 d3 (k:=4) F nh rfl fun gu A outer s H E hr=>(bQ (sS 2 nh (gO lQ bH (gO i5 (gr (aQ 0) bH) bH))) (bQ (sS 3 nh (oy bb)) (bQ (rq (gj B.range (aA bH bb)) (sG 4 nh) (fq (wC (IQ PySem.F.slot_list_append PySem.F.type_list_append rC (aQ 3) (aA (fG iR B.tuple eV (aA (JG (nm:=["_law_l","_law_many","_law_worn"]) (cap:=[none,some 2,some 4]) (by first|rfl|kernel_rfl) (gj B.range (aA (aQ 2) bb)) (fun _ _ _ _ _=>(sO 0)) (fun _ _ _ _ _=>iS) (fun _ _ _ _ _=>(fG iR B.tuple eV (aA (BC (nm:=["_law_r","_law_many","_law_worn","_law_l"]) (cap:=[none,some 1,some 2,some 0]) (by first|rfl|kernel_rfl) (gj B.range (aA (aQ 1) bb)) (fun _ _ _ _ _=>(sC 0)) (fun _ _ _ _ _=>iS) (fun _ _ _ _ _=>(gO i5 (gO lQ (gO lQ (aQ 3) (aQ 0)) (aQ 2)) (aQ 1)))) bb)))) bb)) bb))))) (bQ (sS 5 nh (pD (aA (gr (aQ 1) bH) (aA (fG iR B.tuple eV (aA (pY (nm:=["_law_room","_law_many","_law_size"]) (cap:=[none,some 2,some 0]) (by first|rfl|kernel_rfl) rfl (gj B.range (aA (aQ 2) bb)) (fun _ _ _ _ _=>(sC 0)) (fun _ _ _ _ _=>iS) (fun _ _ _ _ _=>(yr (pf hr) (aQ 0) (gO i5 (gr (aQ 2) bH) (aQ 1))))) bb)) (aA (fG iR B.tuple eV (aA (aQ 3) bb)) bb))))) (bQ (sS 6 nh (yr (pf hr) (gO i5 (gr (aQ 0) bH) bH) bH)) (bQ (sS 7 nh (pD (aA (IR PySem.F.slot_str_join PySem.F.type_str_join sZ pA (aA (gY BB B.sorted boot_sorted (aA (yB (aQ 1) (kJ bH) (kJ bH)) bb)) bb)) (aA (pD (aA (aQ 6) bb)) (aA (fG iR B.tuple eV (aA (pY (nm:=["_law_number"]) (cap:=[none]) (by first|rfl|kernel_rfl) rfl (gj B.range (aA bH bb)) (fun _ _ _ _ _=>(sC 0)) (fun _ _ _ _ _=>iS) (fun _ _ _ _ _=>(pD (aA (pD (aA bH bb)) bb)))) bb)) bb))))) (bQ (tZ (sG 8 nh) (nm:=["_law_room"]) (cap:=[none]) (by first|rfl|kernel_rfl) rfl (gj B.range (aA (aQ 2) bb)) (fun _ _ _ _ _=>(sC 0)) (fun _ _ _ _ _=>iS) (fun _ _ _ _ _=>(pD (aA (aQ 0) (aA bH (aA (aQ 0) bb)))))) (bQ (sS 9 nh (gO i5 (gr (aQ 0) bH) (aQ 2))) (fq (m6 (jA v_ hr (by omega) (aA (gr (oy (aA pA (aA pA bb))) (fG KL B.int boot_int (aA (aQ 6) bb))) (aA (pD (aA (aQ 5) (aA (aQ 7) bb))) (aA (aQ 5) (aA (fG iR B.tuple eV (aA (gO lQ (yB (aQ 8) (kJ (aQ 9)) m3) (yB (aQ 8) m3 (kJ (aQ 9)))) bb)) bb)))))))))))))))
def LQ:FS:=(bh (cb 1 (dS 2 B2 (ai (ah 0) (ai (gg (ai (eI 3) (ai (eI 3) (ai (eI 3) aE)))) aE)))) (bh (cb 2 (dS 3 pH (ai (dS 2 nO (ai (ah 0) (ai (eI 4) aE))) (ai (eI 10) (ai (eI 500009) aE))))) (bh (oA (kI (e2 mU (e2 eW (e2 bW (ah 2) (eI 8)) (eI 16)) (eI 5))) (bh (cb 3 (dS 2 B6 (ai (ah 2) (ai (dS 3 sw (ai (dS 2 nO (ai (ah 0) (ai (eI 1) aE))) (ai (eI 4) (ai (eI 200017) aE)))) aE)))) (f9 (tU (Df "bool" (ah 3)) (ah 3)))) gy) (bh (cb 4 (e2 bW (gg (Bp [[115,97,109,101],[110,111,116],[97,110,100],[111,114]])) (e2 eW (e2 bW (ah 2) (eI 0)) (eI 4)))) (bh (cb 5 (ah 1)) (bh (oA (kI (e2 yx (e2 eW (e2 bW (ah 2) (eI 0)) (eI 4)) (eI 2))) (cb 5 (C8 (ah 1) pE (kT (eI 1)))) gy) (bh (cb 6 (dS 1 zm (ai (D1 lR (eC (.str [])) (ai (cY [none] (eQ (ah 5)) (eA 0) gs (e2 bW (ah 0) (eI 0))) aE)) aE))) (bh (oA (kI (e2 mU (e2 eW (e2 bW (ah 2) (eI 1)) (eI 4)) (eI 1))) (cb 6 (dS 1 zm (ai (e2 du (ah 6) (e2 bW (dS 3 sw (ai (dS 2 nO (ai (ah 0) (ai (eI 1) aE))) (ai (eI 4) (ai (eI 200017) aE)))) (eI 3))) aE))) gy) (bh (sM (dS 5 B4 (ai (ah 4) (ai (ah 5) (ai (ah 6) (ai (e2 bW (ah 2) (eI 2)) (ai (e2 eW (e2 bW (ah 2) (eI 3)) (eI 2)) aE)))))) (D0 2 (fv (eA 7) (fv (eA 8) oB)))) (bh (oA (kI (e2 mU (e2 eW (e2 bW (ah 2) (eI 4)) (eI 3)) (eI 1))) (cb 8 (dS 2 B5 (ai (e2 du (ah 5) (gg (ai (ah 7) aE))) (ai (ah 6) aE)))) gy) (bh (cb 9 (e2 eW (e2 bW (ah 2) (eI 5)) (bz dE (ai (ah 8) aE)))) (bh (cb 8 (e2 du (C8 (ah 8) (kT (ah 9)) pE) (C8 (ah 8) pE (kT (ah 9))))) (bh (oA (kI (e2 mU (e2 eW (e2 bW (ah 2) (eI 6)) (eI 2)) (eI 1))) (cb 8 (BD (ah 8))) gy) (bh (cb 8 (e2 du (ah 8) (C8 (ah 8) pE (kT (e2 eW (e2 bW (ah 2) (eI 7)) (eI 3)))))) (bh (cb 3 (dS 4 vS (ai (ah 4) (ai (bz cE (ai (ah 5) aE)) (ai (ah 7) (ai (bz cE (ai (ah 8) aE)) aE)))))) (f9 (tU (Df "bool" (ah 3)) (ah 3))))))))))))))))))
def f_q27:List W->List al->R W:=fP 10 LQ
theorem Ol(F:nH K "law" "law" qG f fd)(B:Bl mg)(uJ:gc P w K mg base 1 "_law_cell" 2 nO)(Hu:gc P w K mg base 5 "_law_counted" 2 B6)(uN:gc P w K mg base 2 "_law_draws" 3 pH)(Hf:gc P w K mg base 3 "_law_made" 5 B4)(Hc:gc P w K mg base 2 "_law_met_rows" 2 B5)(Ck:gc P w K mg base 1 "_law_names" 1 zm)(v8:gc P w K mg base 3 "_law_pool" 3 sw)(Hy:gc P w K mg base 4 "_law_two" 2 B2)(v_:gc P w K mg base 4 "shown" 4 vS):fV P w K mg base (ja P w) 6 f fd GI (nT K mg 1 f_q27):=
 d3 (k:=5) F ib rfl fun gu A outer s H E hr=>(bQ (sS 1 ib (jA Hy hr (by omega) (aA (aQ 0) (aA (oy (aA bH (aA bH (aA bH bb)))) bb)))) (bQ (sS 2 ib (jA uN hr (by omega) (aA (jA uJ hr (by omega) (aA (aQ 0) (aA bH bb))) (aA bH (aA bH bb))))) (bQ (nJ (je (pf hr) (gO i5 (gr (aQ 2) bH) bH) bH) (bQ (sS 3 ib (jA Hu hr (by omega) (aA (aQ 2) (aA (jA v8 hr (by omega) (aA (jA uJ hr (by omega) (aA (aQ 0) (aA bH bb))) (aA bH (aA bH bb)))) bb)))) (fq (m6 (Bo (Fb B.isinstance B.bool r9 (aQ 3)) (yu (aQ 3)))))) kg) (bQ (sS 4 ib (gr (oy (II (.cons (.cons (.cons (.cons .nil)))))) (gO i5 (gr (aQ 2) bH) bH))) (bQ (sS 5 ib (aQ 1)) (bQ (nJ (je w_lt (gO i5 (gr (aQ 2) bH) bH) bH) (fq (sS 5 ib (yB (aQ 1) m3 (kJ bH)))) kg) (bQ (sS 6 ib (jA Ck hr (by omega) (aA (IR PySem.F.slot_str_join PySem.F.type_str_join sZ pA (aA (pY (m:=0) (nm:=["_law_part"]) (cap:=[none]) (by first|rfl|kernel_rfl) rfl (Ar (aQ 5)) (fun _ _ _ _ _=>(sC 0)) (fun _ _ _ _ _=>iS) (fun _ _ _ _ _=>(gr (aQ 0) bH))) bb)) bb))) (bQ (nJ (je (pf hr) (gO i5 (gr (aQ 2) bH) bH) bH) (fq (sS 6 ib (jA Ck hr (by omega) (aA (gO lQ (aQ 6) (gr (jA v8 hr (by omega) (aA (jA uJ hr (by omega) (aA (aQ 0) (aA bH bb))) (aA bH (aA bH bb)))) bH)) bb)))) kg) (bQ (E4 (jA Hf hr (by omega) (aA (aQ 4) (aA (aQ 5) (aA (aQ 6) (aA (gr (aQ 2) bH) (aA (gO i5 (gr (aQ 2) bH) bH) bb)))))) (wD rfl (j0 (sG 7 ib) (j0 (sG 8 ib) sY)))) (bQ (nJ (je (pf hr) (gO i5 (gr (aQ 2) bH) bH) bH) (fq (sS 8 ib (jA Hc hr (by omega) (aA (gO lQ (aQ 5) (oy (aA (aQ 7) bb))) (aA (aQ 6) bb))))) kg) (bQ (sS 9 ib (gO i5 (gr (aQ 2) bH) (gY pG B.len jw (aA (aQ 8) bb)))) (bQ (sS 8 ib (gO lQ (yB (aQ 8) (kJ (aQ 9)) m3) (yB (aQ 8) m3 (kJ (aQ 9))))) (bQ (nJ (je (pf hr) (gO i5 (gr (aQ 2) bH) bH) bH) (fq (sS 8 ib (Fg (aQ 8)))) kg) (bQ (sS 8 ib (gO lQ (aQ 8) (yB (aQ 8) m3 (kJ (gO i5 (gr (aQ 2) bH) bH))))) (bQ (sS 3 ib (jA v_ hr (by omega) (aA (aQ 4) (aA (fG iR B.tuple eV (aA (aQ 5) bb)) (aA (aQ 7) (aA (fG iR B.tuple eV (aA (aQ 8) bb)) bb)))))) (fq (m6 (Bo (Fb B.isinstance B.bool r9 (aQ 3)) (yu (aQ 3))))))))))))))))))))
end
theorem Om(ns:List α)(hl:0<ns.length)(k:Int):∃c∈ns,sW ns (k%((ns.length:Nat):Int))=some c:=by
 have h0:0<=k%((ns.length:Nat):Int):=iW _ (by omega)
 have h1:k%((ns.length:Nat):Int)<ns.length:=lE _ (by omega)
 obtain⟨m,hm⟩:=mQ h0
 rw[hm]at h1 ⊢
 have h2:m<ns.length:=by omega
 exact⟨ns[m],d_ _,gk (by simp[h2])⟩
theorem qI{ns:List Int}(h:st[n]?=some (.ro (ns.map W.int)))(k:Int):∃c,nO [.loc n,.int k] st=.ok (.int c) st:=by
 by_cases hn:ns=[]
 ·subst hn
  refine⟨0,?_⟩
  apply oV;apply F2;apply ur
  ·(repeat' (first|with_reducible exact me (s_ h)|walk_at "ev1"))
  ·(walk_at "evs")
 ·have hl:0<ns.length:=List.length_pos_iff.mpr hn
  obtain⟨c,hc,e⟩:=Om (ns.map W.int) (by simpa using hl) k
  obtain⟨c,_,rfl⟩:=aJ.mp hc
  refine⟨c,?_⟩
  apply oV;apply K6
  ·apply ut
   ·(repeat' (first|with_reducible exact me (s_ h)|walk_at "ev1"))
    rw[bx,am];omega
   ·(walk_at "evs")
  ·(repeat' (first|with_reducible exact me (s_ h)|with_reducible exact oH (s_ h) e|walk_at "ev1"))
   rw[am];omega
theorem GM(c k s:Int)(hk:-(2^64)<k/\k<2^64)(st:List al):∃r,0<=r/\zk [.int c,.int k,.int s] st=.ok (.int r) st:=by
 have big:∀q:Int,0<=q%2147483647/\q%2147483647<2147483647:=fun q=>⟨iW _ (by decide),lE _ (by decide)⟩
 refine⟨(((c+7*k*k+13*k+s)*69621%2147483647*((c+7*k*k+13*k+s)*69621%2147483647/1009+3)+31*k+s)%2147483629*48271)%1000000007,iW _ (by decide),?_⟩
 apply oV;apply K6
 ·(walk_at "evs")<;>first|exact .inl (by decide)|exact .inr (by decide)|exact .inr hk
 ·(walk_at "evs")<;>first|exact .inl (by decide)|exact .inr (by decide)|exact .inl (by have:=big ((c+7*k*k+13*k+s)*69621);omega)
theorem qJ(c s:Int)(m:Nat)(hm:m<=1000)(st:List al):∃ds:List Int,ds.length=m/\(∀d∈ds,0<=d)/\pH [.int c,.int m,.int s] st=.ok (.loc st.length) (st++[.lst (ds.map W.int)]):=by
 suffices hh:lF (BU fun w bD=>∃j x,w=.loc (st.length+j)/\bD=st++x/\j=0/\∃ds:List Int,x=[.lst (ds.map W.int)]/\ds.length=m/\∀d∈ds,0<=d) (LD ([W.int c,.int m,.int s].map some++List.replicate (6-3) none) st) by
  obtain⟨j,x,⟨rfl,ds,rfl,h1,h2⟩,e⟩:=qC hh
  exact⟨ds,h1,h2,e⟩
 apply aR
 ·(walk_at "evs")
 apply aR
 ·(walk_at "evs")
 have main:∀r0:Int,lF (BU fun w bD=>∃j x,w=.loc (st.length+j)/\bD=st++x/\j=0/\∃ds:List Int,x=[.lst (ds.map W.int)]/\ds.length=m/\∀d∈ds,0<=d)
   (bh (i_ (bn (ai (ah 1) aE)) (eA 5) (oA (kI (e2 Qy (ah 4) (eI 0))) (bh (h_ (uV dF (ah 3) (ai (e2 eW (ah 4) (eI 64)) aE))) (cb 4 (e2 qr (ah 4) (eI 64)))) (h_ (uV dF (ah 3) (ai (dS 3 zk (ai (ah 0) (ai (ah 5) (ai (ah 2) aE)))) aE))))) (f9 (ah 3))
   [iO c,iO m,iO s,lO st.length,iO r0,none] (st++[.lst []])):=by
  intro r0
  refine fx (fun i ρ bD=>∃(r:Int) (o:Option W) (ds:List Int),ρ=[iO c,iO m,iO s,lO st.length,iO r,o]/\bD=st++[.lst (ds.map W.int)]/\ds.length=i/\∀d∈ds,0<=d) (cF (by(walk_at "evs");rfl) (by omega))
   ⟨r0,none,[],rfl,rfl,rfl,by simp⟩ (fun _ _ _ _=>trivial) ?_ ?_
  ·rintro i w ρ bD hw ⟨r,o,ds,rfl,rfl,hd,h⟩
   obtain⟨hi,rfl⟩:=cC hw
   refine⟨_,rfl,?_⟩
   have iP:(st++[al.lst (ds.map W.int)])[st.length]?=some (.lst (ds.map W.int)):=by rw[um];rfl
   have hsh:(ds.map W.int).length<jx:=by rw[am,hd];show i<1000000;omega
   by_cases hr:0<r
   ·apply oI
    ·(walk_at "evs");simpa using hr
    apply aR
    ·(repeat' (first|with_reducible exact g_ iP|with_reducible exact F3 iP hsh|walk_at "ev1"))
    rw[mE]
    apply f_
    ·(walk_at "evs")
    ·refine⟨_,_,rfl,r/64,_,ds++[r%64],rfl,by simp,by simp[hd],fun d hd'=>?_⟩
     rcases br.mp hd' with hd'|hd'
     ·exact h d hd'
     ·rw[ba.mp hd'];exact iW _ (by decide)
   ·obtain⟨q,hq,e⟩:=GM c (0+i) s (by omega) (st++[al.lst (ds.map W.int)])
    apply mF
    ·(walk_at "evs");simpa using hr
    apply f_
    ·(repeat' (first|with_reducible exact g_ iP|with_reducible exact F3 iP hsh|with_reducible exact e|walk_at "ev1"))
    ·refine⟨_,_,rfl,r,_,ds++[q],rfl,by rw[mE];simp,by simp[hd],fun d hd'=>?_⟩
     rcases br.mp hd' with hd'|hd'
     ·exact h d hd'
     ·rw[ba.mp hd'];exact hq
  ·rintro ρ bD ⟨r,o,ds,rfl,rfl,hd,h⟩
   apply dh
   ·(walk_at "evs")
   ·exact⟨_,_,rfl,0,_,rfl,rfl,rfl,ds,rfl,by rw[hd];simpa using bu 0 m,h⟩
 by_cases hc:(10:Int)^18<=c
 ·apply aR
  ·apply ur
   ·(walk_at "evs")<;>simpa using hc
   ·(walk_at "evs")
  ·exact main c
 ·apply aR
  ·apply ut
   ·(walk_at "evs")<;>simpa using hc
   ·(walk_at "evs")
  ·exact main 0
abbrev LL:List Nat:=[65,66,67,68,69,70,71,72,73,74,75,76,77,78,79,80,81,82,83,84,85,86,87,88,89,90,97,98,99,100,101,102,103,104,105,106,107,108,109,110,111,112,113,114,115,116,117,118,119,120,121,122]
theorem B8(c s:Int)(m:Nat)(hm:m<=52)(st:List al):∃l:List Nat,l.length=m/\l.Nodup/\(∀d∈l,d∈LL)/\sw [.int c,.int m,.int s] st=.ok (.str l) st:=by
 suffices hh:lF (BU fun w bD=>(∃x,bD=st++x)/\undWs st.length [w]=true/\∃l:List Nat,w=.str l/\l.length=m/\l.Nodup/\∀d∈l,d∈LL) (LF ([W.int c,.int m,.int s].map some++List.replicate (7-3) none) st) by
  obtain⟨w,⟨l,rfl,h1,h2,h3⟩,e⟩:=BV hh
  exact⟨l,h1,h2,h3,e⟩
 obtain⟨ds,h1,h2,e⟩:=qJ c s m (by omega) st
 apply aR
 ·(walk_at "evs")
 apply aR
 ·(walk_at "evs")
 have iP:lstOf (st++[al.lst (ds.map W.int)]) st.length=some (ds.map W.int):=aT (by rw[um];rfl)
 refine fx (fun i ρ bD=>∃(r f:List Nat) (o o2:Option W),ρ=[iO c,iO m,iO s,some (.str r),some (.str f),o,o2]/\bD=st++[.lst (ds.map W.int)]/\f.length=i/\r.length+i=52/\(f++r).Perm LL) (m_ (by(repeat' (first|with_reducible exact e|walk_at "ev1"))) iP)
  ⟨LL,[],none,none,rfl,rfl,rfl,rfl,.refl _⟩ (fun i ρ bD h=>?_) ?_ ?_
 ·obtain⟨r,f,o,o2,rfl,rfl,_⟩:=h
  exact iP
 ·rintro i w ρ bD hw ⟨r,f,o,o2,rfl,rfl,hf,hr,hfl⟩
  obtain⟨d,hd,rfl⟩:∃d,ds[i]?=some d/\w=.int d:=by
   simp only[ak,be]at hw
   obtain⟨d,h1,rfl⟩:=hw
   exact⟨d,h1,rfl⟩
  have hi:i<m:=by rw[<- h1];exact(ao.mp hd).1
  obtain⟨q,hq,eq⟩:=jU (q:=d) (n:=r.length) (by omega)
  have hL:r.length<=jx:=by show _<=1000000;omega
  have hLf:f.length<=jx:=by show _<=1000000;omega
  have hat:sW r (d%(r.length:Int))=some r[q]:=by rw[eq];exact gk (by simp[hq])
  refine⟨_,rfl,?_⟩
  apply aR
  ·(repeat' (first|with_reducible exact m9 hL|walk_at "ev1"))
   show 0<(r.length:Int);omega
  apply aR
  ·have ha:f.length+[r[q]].length<=jx:=by show _+1<=1000000;omega
   (repeat' (first|with_reducible exact BS hL hat|with_reducible exact AL ha|walk_at "ev1"))
  apply f_
  ·(repeat' (first|with_reducible exact K8 hL|walk_at "ev1"))
   rw[eq,qD (by omega),show((q:Int)+1)=((q+1:Nat):Int)from rfl,qE (by omega),bc,cJ]
   show _<=1000000;omega
  ·refine⟨_,_,rfl,_,_,_,_,rfl,rfl,by simp[hf],?_,?_⟩
   ·rw[eq,qD (by omega),show((q:Int)+1)=((q+1:Nat):Int)from rfl,qE (by omega),aF,bc,cJ]
    omega
   ·rw[eq,qD (by omega),show((q:Int)+1)=((q+1:Nat):Int)from rfl,qE (by omega)]
    refine List.Perm.trans ?_ hfl
    rw[a8]
    refine n6 f ?_
    have e:r=r.take q++r[q]::r.drop (q+1):=by rw[<- cZ hq,jF]
    have e2:(r[q]::(r.take q++r.drop (q+1))).Perm r:=(List.perm_middle.symm).trans (by rw[<- e])
    exact e2
 ·rintro ρ bD ⟨r,f,o,o2,rfl,rfl,hf,hr,hfl⟩
  apply dh
  ·(walk_at "evs")
  ·exact⟨_,_,rfl,⟨_,rfl⟩,rfl,f,rfl,by rw[hf];simpa using h1,(f7.mp (hfl.nodup_iff.mpr (by decide))).1,fun d hd=>hfl.mem_iff.mp (fX _ hd)⟩
theorem iU{s:List al}{p:Nat}{c:al}(h:st <+: s)(hp:st.length<=p):st <+: s.set p c:=by
 obtain⟨x,rfl⟩:=h
 rw[show p=st.length+(p-st.length) by omega,y_]
 exact ag _ _
theorem iu{s y:List al}(h:st <+: s):st <+: s++y:=h.trans (ag _ _)
theorem aZ{s:List al}{c:al}(h:st <+: s)(e:st[i]?=some c):s[i]?=some c:=by
 obtain⟨x,rfl⟩:=h
 exact bN e
theorem ki{s:List al}{p:Nat}{c d:al}(h:s[p]?=some d):(s.set p c)[p]?=some c:=by
 rw[bP (ao.mp h).1]
theorem AR{s:List al}{p:Nat}{c:al}(h:p≠q):(s.set p c)[q]?=s[q]?:=cB h
theorem AS{s:List al}{p:Nat}{c:al}(h:s[p]?=some c):p<s.length:=(ao.mp h).1
theorem aU{s:List al}{c:al}:(s++[c])[s.length]?=some c:=by rw[um];rfl
def On(l:List Int):List W:=l.map W.int
theorem iw{s:List al}{p i:Nat}{ds:List Int}{d:Int}(h:s[p]?=some (.lst (On ds)))(e:ds[i]?=some d):bW (.loc p) (.int i) s=.ok (.int d) s:=oH (aT h) (gk (by rw[On,ak,e];rfl))
theorem GN(h:lstOf st n=some (ls.map W.str))(hl:ls.length<64):l9 [.loc n] st=.ok (.loc st.length) (st++[.lst ((iM ls).map W.str)]):=by
 show oT [.loc n] st=_
 unfold oT
 simp only[h,df,vE]
 rw[av hl]
theorem uA{a b:List (List Nat)}(h:a.Perm b):(a.map List.length).sum=(b.map List.length).sum:=by
 induction h with
 |nil=>rfl
 |cons x _ ih=>simp only[aI,mo,ih]
 |swap x y l=>simp only[aI,mo];omega
 |trans _ _ ih1 ih2=>rw[ih1,ih2]
theorem qK(l:List Nat):(((l.map fun c=>[c])).map List.length).sum=l.length:=by
 induction l with
 |nil=>rfl
 |cons a r ih=>simp only[aI,mo,cK,ih,gR];omega
def kK(l:List Nat):List Nat:=nI [] (iM (l.map fun c=>[c]))
theorem B9(l:List Nat):(kK l).length=l.length:=by
 unfold kK;rw[kQ,List.length_flatten,uA (ia _),qK]
theorem uB(l:List Nat):(kK l).Perm l:=by
 unfold kK;rw[kQ]
 have h:(iM (l.map fun c=>[c])).flatten.Perm (l.map fun c=>[c]).flatten:=(ia _).flatten
 refine h.trans (.of_eq ?_)
 induction l with
 |nil=>rfl
 |cons a r ih=>
  have ih':=ih ((ia _).flatten)
  simp only[aI,cN,ih',List.cons_append,dk]
theorem JS{s1:List al}(h:fe ρ st=.ok (.loc n) s1)(hc:lstOf s1 n=some ((l.map fun c=>[c]).map W.str))(hl:l.length<64) :
  D1 lR (eC (.str [])) (ai (bz l9 (ai fe aE)) aE) ρ st=.ok (.str (kK l)) (s1++[.lst ((iM (l.map fun c=>[c])).map W.str)]):=by
 have hs:=GN hc (by simpa using hl)
 have hcell2:lstOf (s1++[al.lst ((iM (l.map fun c=>[c])).map W.str)]) s1.length=some ((iM (l.map fun c=>[c])).map W.str):=aT aU
 have hj:=rS (sep:=[]) hcell2 (by rw[uA (ia _),qK];show _<=1000000;simp;omega)
 exact AJ dv rfl (aw (bT (aw h bq) hs) bq) hj
section
variable{fs:FA}
theorem JT(V:β->W)(Pb:Nat->β->Prop)(hr:fs ρ st=.ok [.int n] st)(hn:n<=100000)(h:∀i:Nat,i<n->∃b,Pb i b/\el ((kh cap ρ).set 0 (iO i)) st=.ok (V b) st) :
  ∃r:List β,r.length=n/\(∀i b,r[i]?=some b->Pb i b)/\cY cap (bn fs) (eA 0) gs el ρ st=.ok (.loc st.length) (st++[.lst (r.map V)]):=by
 let f:Fin n->β:=fun i=>Classical.choose (h i i.2)
 have hf:∀i:Fin n,Pb i (f i)/\el ((kh cap ρ).set 0 (iO (i:Nat))) st=.ok (V (f i)) st:=fun i=>Classical.choose_spec (h i i.2)
 let Y:W->W:=fun w=>match w with
  |.int z=>if hz:z.toNat<n then V (f ⟨z.toNat,hz⟩)else .non
  |_=>.non
 have ir:bn fs ρ st=.ok (gC 0 n,none) st:=by
  have:=cF hr (by omega)
  rw[aB]at this
  exact this
 have hc:=w9 (fi:=bn fs) (f:=eA 0) (el:=el) (cap:=cap) (ρ:=ρ) Y ir (by rw[bu];show _<=1000000;omega) trivial fun w hw=>by
  obtain⟨i,hi,rfl⟩:=rV hw
  refine⟨_,rfl,?_⟩
  rw[show((0:Int)+(i:Int))=(i:Int) by omega]
  show _=R.ok (if hz:(i:Int).toNat<n then V (f ⟨(i:Int).toNat,hz⟩)else .non) st
  rw[qZ (show(i:Int).toNat<n by omega)]
  exact(hf ⟨i,hi⟩).2
 refine⟨List.ofFn f,by simp,fun i b hb=>?_,?_⟩
 ·obtain⟨h1,h2⟩:=ao.mp hb
  rw[List.getElem_ofFn]at h2
  rw[<- h2]
  exact(hf ⟨i,by simpa using h1⟩).1
 ·rw[hc]
  have e:(gC 0 n).map Y=(List.ofFn f).map V:=by
   refine List.ext_getElem (by simp[bu]) fun i h1 h2=>?_
   have hi:i<n:=by simpa[bu]using h1
   rw[jR,jR,List.getElem_ofFn]
   unfold gC
   rw[jR,List.getElem_range,show((0:Int)+(i:Int))=(i:Int) by omega]
   show(if hz:(i:Int).toNat<n then V (f ⟨(i:Int).toNat,hz⟩)else .non)=_
   rw[qZ (show(i:Int).toNat<n by omega)]
  rw[e]
theorem GO(V:β->W)(Pb:Nat->β->Prop)(hr:fs ρ st=.ok [.int n] st)(hn:n<=100000)(h:∀i:Nat,i<n->∃b,Pb i b/\el ((kh cap ρ).set 0 (iO i)) st=.ok (V b) st) :
  ∃r:List β,r.length=n/\(∀i b,r[i]?=some b->Pb i b)/\bz cE (ai (cY cap (bn fs) (eA 0) gs el) aE) ρ st=.ok (.tup (r.map V)) (st++[.lst (r.map V)]):=by
 obtain⟨r,h1,h2,e⟩:=JT (cap:=cap) (el:=el) V Pb hr hn h
 exact⟨r,h1,h2,bT (aw e bq) (gm (aT aU))⟩
end
structure Mc where
 nm:List Nat
 gd:List Bool
 tb:List (List (List Nat))
def aW(r:List Nat):W:=.tup (r.map fun k=>W.int (k:Nat))
def iy(t:List (List Nat)):W:=.tup (t.map aW)
def Mc.w(M:Mc):W:=.tup [.str M.nm,.tup (M.gd.map W.bl),.tup (M.tb.map iy)]
def Uz(n:Nat)(t:List (List Nat)):Prop:=t.length=n/\∀r∈t,r.length=n/\∀k∈r,k<n
structure JU(M:Mc)(n:Nat):Prop where
 gd:M.gd.length=n
 tb:M.tb.length=2^M.nm.length
 t:∀t∈M.tb,Uz n t
theorem B_(r:List Nat)(n:Nat):(aW r).und n=true:=by
 unfold aW W.und
 induction r with
 |nil=>rfl
 |cons x r ih=>simp only[aI,undWs,ih,gb];rfl
theorem JV(t:List (List Nat))(n:Nat):(iy t).und n=true:=by
 unfold iy W.und
 induction t with
 |nil=>rfl
 |cons x r ih=>simp only[aI,undWs,ih,gb];exact B_ x n
theorem uC(t:List (List (List Nat)))(n:Nat):undWs n (t.map iy)=true:=by
 induction t with
 |nil=>rfl
 |cons x r ih=>simp only[aI,undWs,ih,gb];exact JV x n
theorem JW(t:List Bool)(n:Nat):undWs n (t.map W.bl)=true:=by
 induction t with
 |nil=>rfl
 |cons x r ih=>simp only[aI,undWs,ih,gb];rfl
theorem Oo(M:Mc)(n:Nat):M.w.und n=true:=by
 unfold Mc.w
 simp[W.und,undWs,uC,JW]
theorem Bh{c:Nat}(h:c<=100):rh (.int 1) (.int c) st=.ok (.int ((2^c:Nat):Int)) st:=by
 have:=j7 (C:=fun i j=>0<=j/\j<=1000000/\i.natAbs<2^64) (f:=fun i j=>i*2^j.toNat) (p:=1) (q:=(c:Int)) (st:=st) ⟨by omega,by omega,by decide⟩
 rw[show rh (.int 1) (.int c) st=_ from this]
 simp
theorem mf{s:List al}{p:Nat}{y:W}(h:s[p]?=some (.lst ws))(hl:ws.length<1000000):dF (.loc p) [y] s=.ok .non (s.set p (.lst (ws++[y]))):=F3 h hl
def nW(l:List Nat):List W:=l.map fun k=>W.int (k:Nat)
theorem B'{s:List al}{p:Nat}{l:List Nat}{k:Nat}(h:s[p]?=some (.lst (nW l)))(e:l[i]?=some k):bW (.loc p) (.int i) s=.ok (.int k) s:=oH (aT h) (gk (by rw[nW,ak,e];rfl))
theorem xi{s:List al}{k:Nat}(e:l[i]?=some k):bW (aW l) (.int i) s=.ok (.int k) s:=nN (gk (by rw[ak,e];rfl))
theorem AT{s:List al}{t:List (List Nat)}{r:List Nat}(e:t[i]?=some r):bW (iy t) (.int i) s=.ok (aW r) s:=nN (gk (by rw[ak,e];rfl))
theorem zn{f:FG}{ρ':ca}{w:W}(h:fe ρ st=.ok w st1)(h2:f w ρ=some ρ'):sM fe f ρ st=.nx ρ' st1:=by
 unfold sM;rw[h];simp only[R.stmt_ok];rw[h2]
theorem AU(nm:List Nat)(n lG dl:Nat)(ds:List Int)(st:List al)(v5:nm.length<=6)(hn:1<=n)(UW:n<=9)(L4:1<=lG)(UI:lG<=n)(hd:st[dl]?=some (.lst (On ds)))(Mf:n+2^nm.length*(n*n)<=ds.length) :
  ∃M:Mc,M.nm=nm/\JU M n/\zl [.str nm,.int n,.int lG,.loc dl] st=.ok M.w st:=by
 suffices hh:lF (BU fun w bD=>(∃x,bD=st++x)/\undWs st.length [w]=true/\∃M:Mc,w=M.w/\M.nm=nm/\JU M n) (LH ([W.str nm,.int n,.int lG,.loc dl].map some++List.replicate (10-4) none) st) by
  obtain⟨w,⟨M,rfl,h1,h2⟩,e⟩:=BV hh
  exact⟨M,h1,h2,e⟩
 have c_:∀s:List al,dE [.str nm] s=.ok (.int nm.length) s:=fun s=>m9 (by show _<=1000000;omega)
 have p2:2^nm.length<=64:=cU (by omega) v5
 obtain⟨N,hN⟩:∃N,N=2^nm.length:=⟨_,rfl⟩
 have sh:∀s:List al,rh (.int 1) (.int nm.length) s=.ok (.int N) s:=fun s=>by rw[hN];exact Bh (by omega)
 rw[<- hN]at p2 Mf
 have hdn:n<=ds.length:=by omega
 obtain⟨gd,hgl,_,eg⟩:=GO (cap:=[none,some 3]) (ρ:=[some (.str nm),iO n,iO lG,lO dl,none,none,none,none,none,none]) (st:=st) (fs:=ai (ah 1) aE) (n:=n)
  (el:=e2 mU (e2 eW (e2 bW (ah 1) (ah 0)) (eI 2)) (eI 1)) W.bl (fun _ _=>True) kn (by omega) fun q hq=>by
   obtain⟨d,hdd⟩:∃d,ds[q]?=some d:=⟨_,ar (by omega)⟩
   exact⟨_,trivial,bX (bX (bX kv kv (iw hd hdd)) dv (j7 (by decide))) dv (qB rfl)⟩
 apply aR
 ·exact b8 eg
 generalize zU:st++[al.lst (gd.map W.bl)]=s0
 have hst0:st <+: s0:=by rw[<- zU];exact ag _ _
 apply aR
 ·(walk_at "evs")
 apply aR
 ·(walk_at "evs")
 refine fx (fun i ρ s=>∃(tb:List (List (List Nat))) (a:Nat) (o7 o8 o9:Option W),ρ=[some (.str nm),iO n,iO lG,lO dl,some (.tup (gd.map W.bl)),lO s0.length,iO a,o7,o8,o9]/\s0 <+: s/\s[s0.length]?=some (.lst (tb.map iy))/\tb.length=i/\(∀t∈tb,Uz n t)/\a+(N-i)*(n*n)<=ds.length)
  (cF (q:=(N:Int)) (st1:=s0++[al.lst []]) (aw (bX dv (bT kn (c_ _)) (sh _)) bq) (by omega))
  ⟨[],n,none,none,none,rfl,ag _ _,aU,rfl,by simp,by simpa using Mf⟩ (fun _ _ _ _=>trivial) ?_ ?_
 ·rintro i w ρ s hw ⟨tb,a,o7,o8,o9,rfl,hp,hc,hl,ht,hal⟩
  obtain⟨hi,rfl⟩:=cC hw
  rw[aB]at hi
  refine⟨_,rfl,?_⟩
  rw[show N-i=(N-(i+1))+1 by omega,qY]at hal
  apply aR
  ·(walk_at "evs")
  refine fx (fun j ρ z=>∃(rows:List (List Nat)) (a:Nat) (o9:Option W),ρ=[some (.str nm),iO n,iO lG,lO dl,some (.tup (gd.map W.bl)),lO s0.length,iO a,iO (0+(i:Int)),lO s.length,o9]/\s <+: z/\z[s.length]?=some (.lst (rows.map aW))/\rows.length=j/\(∀r∈rows,r.length=n/\∀k∈r,k<n)/\a+((N-(i+1))*(n*n)+(n-j)*n)<=ds.length)
   (cF (q:=(n:Int)) (st1:=s++[al.lst []]) (by(walk_at "evs")) (by omega)) ⟨[],a,_,rfl,ag _ _,aU,rfl,by simp,by simpa using hal⟩ (fun _ _ _ _=>trivial) ?_ ?_
  ·rintro j w ρ z hw ⟨rows,a,o9,rfl,hz,hcz,Ht,hr,hal⟩
   obtain⟨hj,rfl⟩:=cC hw
   rw[aB]at hj
   refine⟨_,rfl,?_⟩
   rw[show n-j=(n-(j+1))+1 by omega,qY]at hal
   have pt:(0:Int)<(lG:Int):=by omega
   obtain⟨r,hrn,hrb,er⟩:=GO (cap:=[none,some 2,some 3,some 6]) (ρ:=[some (.str nm),iO n,iO lG,lO dl,some (.tup (gd.map W.bl)),lO s0.length,iO a,iO (0+(i:Int)),lO s.length,iO (0+(j:Int))]) (st:=z) (fs:=ai (ah 1) aE) (n:=n)
    (el:=e2 eW (e2 bW (ah 2) (e2 du (ah 3) (ah 0))) (ah 1)) (fun k:Nat=>W.int (k:Nat)) (fun _ k=>k<n) kn (by omega) fun q hq=>by
     obtain⟨d,hdd⟩:∃d,ds[a+q]?=some d:=⟨_,ar (by omega)⟩
     obtain⟨k,hk,ek⟩:=jU (q:=d) (n:=lG) (by omega)
     refine⟨k,by omega,?_⟩
     rw[<- ek]
     exact bX (bX kv (bX kv kv fw) (iw (aZ (hst0.trans (hp.trans hz)) hd) hdd)) kv (j7 pt)
   have ap:=mf (y:=aW r) (aZ (s:=z++[.lst (r.map fun k:Nat=>W.int k)]) (ag _ _) hcz) (by rw[am];omega)
   apply aR
   ·exact jj (rP kv (g_ hcz) (aw er bq) ap)
   apply f_
   ·exact b8 (bX kv kv fw)
   ·refine⟨_,_,rfl,rows++[r],a+n,_,rfl,iU (iu hz) (au _),?_,by simp[Ht],?_,by omega⟩
    ·rw[ki (aZ (ag _ _) hcz)];simp
    ·intro x hx
     rcases br.mp hx with y|y
     ·exact hr x y
     ·simp at y;subst y
      refine⟨hrn,fun k hk=>?_⟩
      obtain⟨q,hq⟩:=kc hk
      exact hrb q k hq
  ·rintro ρ z ⟨rows,a,o9,rfl,hz,hcz,Ht,hr,hal⟩
   have Ht:rows.length=n:=by rw[Ht];simp[bu]
   have hcp:=aZ hz hc
   have ap:=mf (y:=iy rows) hcp (by rw[am,hl];omega)
   apply f_
   ·exact jj (rP kv (g_ hcp) (aw (bT kn (gm (aT hcz))) bq) ap)
   ·refine⟨_,_,rfl,tb++[rows],a,_,_,_,rfl,iU (hp.trans hz) (au _),?_,by simp[hl],?_,by omega⟩
    ·rw[ki hcp];simp
    ·intro x hx
     rcases br.mp hx with y|y
     ·exact ht x y
     ·simp at y;subst y
      exact⟨Ht,hr⟩
 ·rintro ρ s ⟨tb,a,o7,o8,o9,rfl,hp,hc,hl,ht,hal⟩
  have hl:tb.length=N:=by rw[hl];simp[bu]
  obtain⟨x,rfl⟩:=hst0.trans hp
  apply dh
  ·exact j6 (aw kv (aw kv (aw (bT kn (gm (aT hc))) bq))) (ay rfl)
  ·exact⟨_,_,rfl,⟨_,rfl⟩,by simp only[undWs,gb];exact Oo ⟨nm,gd,tb⟩ _,⟨nm,gd,tb⟩,rfl,rfl,hgl,by rw[hl,hN],ht⟩
def Tr(own:List Nat):List Nat->Nat->Nat
 |[],_=>0
 |c::r,q=>if c∈own then 2*Tr own r (q/2)+q%2 else Tr own r (q/2)
def Th(own p:List Nat)(q:Nat):Nat:=Tr own p.reverse q
theorem Ca(own p:List Nat)(c q:Nat):Th own (p++[c]) q=if c∈own then 2*Th own p (q/2)+q%2 else Th own p (q/2):=by
 unfold Th;rw[List.reverse_append];rfl
theorem DG(m:Nat)(g:Nat->Nat):(List.range (2*m)).map g=(List.range m).flatMap fun k=>[g (2*k),g (2*k+1)]:=by
 induction m with
 |zero=>rfl
 |succ m ih=>
  rw[show 2*(m+1)=2*m+1+1 by omega,eS,eS,eS,bG,bG,ih,List.flatMap_append]
  simp
def DH(own:List Nat)(c k:Nat):List Nat:=if c∈own then[2*k,2*k+1]else[k,k]
def pi(own p:List Nat):List Nat:=(List.range (2^p.length)).map (Th own p)
theorem DI(own p:List Nat)(c:Nat):pi own (p++[c])=(pi own p).flatMap (DH own c):=by
 unfold pi
 rw[aF,fL,gN,gG,DG,List.flatMap_map]
 congr 1
 funext k
 rw[Ca,Ca]
 unfold DH
 rw[show 2*k/2=k by omega,show(2*k+1)/2=k by omega,show 2*k%2=0 by omega,show(2*k+1)%2=1 by omega]
 split<;>rfl
theorem zo(own p:List Nat):(pi own p).length=2^p.length:=by simp[pi]
theorem zp{c:Nat}:∀l:List Nat,(l.flatMap (DH own c)).length=2*l.length
 |[]=>rfl
 |a::l=>by
  rw[List.flatMap_cons,aF,zp l]
  have:(DH own c a).length=2:=by unfold DH;split<;>rfl
  rw[this];simp;omega
theorem LR(own:List Nat):∀(r:List Nat) (q:Nat),Tr own r q<2^(r.filter (fun c=>decide (c∈own))).length
 |[],_=>by simp[Tr]
 |c::r,q=>by
  have ih:=LR own r (q/2)
  unfold Tr
  by_cases h:c∈own
  ·rw[av h,mR (by simpa using h),cK,gN];omega
  ·rw[az h,mS (by simpa using h)];exact ih
theorem vT{p:List Nat}(hp:p.Nodup)(q:Nat):Th own p q<2^own.length:=by
 refine aK (LR own p.reverse q) (cU (by omega) ?_)
 have hr:p.reverse.Nodup:=oi.mpr (List.Pairwise.imp (fun h=>h.symm) hp)
 refine iN (List.Pairwise.filter _ hr) fun c hc=>?_
 have:=(eR.mp hc).2
 simpa using this
theorem JX{p:List Nat}(h:∀c∈p,c∈own):∀{q:Nat},q<2^p.length->Th own p q=q:=by
 have key:∀(r:List Nat),(∀c∈r,c∈own)->∀q,q<2^r.length->Tr own r q=q:=by
  intro r
  induction r with
  |nil=>intro _ q hq;simp at hq;subst hq;rfl
  |cons c r ih=>
   intro h q hq
   rw[cK,gN]at hq
   unfold Tr
   rw[av (h c (by simp)),ih (fun c hc=>h c (by simp[hc])) (q/2) (by omega)];omega
 intro q hq
 exact key p.reverse (fun c hc=>h c (by simpa using hc)) q (by simpa using hq)
theorem Op{zs ys:List W}(h:st[n]?=some (.lst zs))(h2:st[m]?=some (.lst ys))(hl:zs.length+ys.length<=1000000):kX (.loc n) [.loc m] st=.ok .non (st.set n (.lst (zs++ys))):=by
 show oS (.loc n) [.loc m] st=_
 unfold oS;simp only[h,h2];rw[av hl]
theorem Cb{c:Nat}:wB false (.str [c]) (.str l) st=.ok (.bl (decide (c∈l))) st:=rfl
theorem GP{k:Nat}(h:k<=13):2^k<=8192:=bd (cU (by omega) h) (by decide)
theorem xj{st1:List al}{l:List Nat}(h:fe ρ st=.ok (.str l) st1):eQ fe ρ st=.ok (iH l,none) st1:=by unfold eQ;rw[h];rfl
theorem zq{w:W}(h:(iH l)[i]?=some w):∃c,l[i]?=some c/\w=.str [c]:=by
 simp only[iH,ak,be]at h
 obtain⟨c,h1,rfl⟩:=h
 exact⟨c,h1,rfl⟩
theorem rX(l:List Nat):(iH l).length=l.length:=by simp[iH]
theorem oW{l:List α}{c:α}(h:l[i]?=some c):l.take (i+1)=l.take i++[c]:=by
 obtain⟨h1,h2⟩:=ao.mp h
 rw[List.take_succ,h];rfl
theorem Oq(names own:List Nat)(hn:names.length<=13)(st:List al):∃j x,x[j]?=some (.lst (nW (pi own names)))/\GJ [.str names,.str own] st=.ok (.loc (st.length+j)) (st++x):=by
 suffices hh:lF (BU fun w bD=>∃j x,w=.loc (st.length+j)/\bD=st++x/\x[j]?=some (.lst (nW (pi own names)))) (Ro ([W.str names,.str own].map some++List.replicate (6-2) none) st) by
  exact qC hh
 apply aR
 ·(walk_at "evs")
 refine fx (fun i ρ s=>∃(p:Nat) (o3 o4 o5:Option W),ρ=[some (.str names),some (.str own),lO p,o3,o4,o5]/\st <+: s/\st.length<=p/\s[p]?=some (.lst (nW (pi own (names.take i)))))
  (xj (st1:=st++[al.lst [.int 0]]) (l:=names) kv) ⟨st.length,none,none,none,rfl,ag _ _,au _,aU⟩ (fun _ _ _ _=>trivial) ?_ ?_
 ·rintro i w ρ s hw ⟨p,o3,o4,o5,rfl,hp,mI,hc⟩
  obtain⟨c,hci,rfl⟩:=zq hw
  have hi:i<names.length:=(ao.mp hci).1
  refine⟨_,rfl,?_⟩
  have c_:(pi own (names.take i)).length<=8192:=by rw[zo];exact GP (by rw[bc];omega)
  generalize hnu:pi own (names.take i)=l at hc c_
  apply aR
  ·(walk_at "evs")
  have tu:p<s.length:=AS hc
  refine fx (fun j ρ z=>∃(o5:Option W),ρ=[some (.str names),some (.str own),lO p,some (.str [c]),lO s.length,o5]/\s <+: z/\z[s.length]?=some (.lst (nW ((l.take j).flatMap (DH own c)))))
   (m_ (st1:=s++[al.lst []]) (n:=p) (ws:=nW l) kv (aT (bN hc))) ⟨_,rfl,ag _ _,aU⟩ (fun j ρ z h=>?_) ?_ ?_
  ·obtain⟨_,_,hz,_⟩:=h
   exact aT (aZ hz hc)
  ·rintro j w ρ z hw ⟨o5,rfl,hz,hcz⟩
   obtain⟨k,hk,rfl⟩:∃k,l[j]?=some k/\w=.int (k:Nat):=by
    simp only[nW,ak,be]at hw
    obtain⟨k,h1,rfl⟩:=hw
    exact⟨k,h1,rfl⟩
   have hj:j<l.length:=(ao.mp hk).1
   refine⟨_,rfl,?_⟩
   have hfl:(nW ((l.take j).flatMap (DH own c))).length<=20000:=by simp only[nW,am,zp,bc];omega
   have ext:∀ys:List Nat,ys=DH own c k->ys.length=2->kX (.loc s.length) [.loc z.length] (z++[al.lst (nW ys)])=.ok .non ((z++[al.lst (nW ys)]).set s.length (.lst (nW ((l.take (j+1)).flatMap (DH own c))))):=fun ys e h2=>by
    rw[Op (bN hcz) aU (by rw[show(nW ys).length=2 by simp[nW,h2]];omega),oW hk,List.flatMap_append,show List.flatMap (DH own c) [k]=DH own c k by simp,<- e]
    simp[nW]
   have cm:sK (k:Int) 2:=.inr (by decide)
   by_cases h:c∈own
   ·have t1:decide (c∈own)=true:=aV h
    have e1:=ext [2*k,2*k+1] (by unfold DH;rw[av h]) rfl
    have e2:gg (ai (e2 fM (ah 5) (eI 2)) (ai (e2 du (e2 fM (ah 5) (eI 2)) (eI 1)) aE)) [some (.str names),some (.str own),lO p,some (.str [c]),lO s.length,iO k] z=.ok (.loc z.length) (z++[al.lst [.int ((k:Int)*2),.int ((k:Int)*2+1)]]):=
     uq (aw (bX kv dv (jI cm)) (aw (bX (bX kv dv (jI cm)) dv fw) bq)) (ay rfl)
    rw[show[W.int ((k:Int)*2),.int ((k:Int)*2+1)]=nW [2*k,2*k+1] by simp[nW,q9]]at e2
    apply oI
    ·exact fz (bX kv kv (by rw[Cb,t1]))
    apply f_
    ·exact jj (rP kv (g_ hcz) (aw e2 bq) e1)
    ·exact⟨_,_,rfl,_,rfl,iU (iu hz) (au _),ki (bN hcz)⟩
   ·have t1:decide (c∈own)=false:=aH h
    have e1:=ext [k,k] (by unfold DH;rw[az h]) rfl
    apply mF
    ·exact fz (bX kv kv (by rw[Cb,t1]))
    apply f_
    ·exact jj (rP kv (g_ hcz) (aw (uq (aw kv kn) (ay rfl)) bq) e1)
    ·exact⟨_,_,rfl,_,rfl,iU (iu hz) (au _),ki (bN hcz)⟩
  ·rintro ρ z ⟨o5,rfl,hz,hcz⟩
   rw[show(nW l,some (p,nW l)).fst.length=l.length by simp[nW],iD]at hcz
   apply f_
   ·(walk_at "evs")
   ·refine⟨_,_,rfl,s.length,_,_,_,rfl,hp.trans hz,by omega,?_⟩
    rw[oW hci,DI,hnu];exact hcz
 ·rintro ρ s ⟨p,o3,o4,o5,rfl,⟨x,rfl⟩,mI,hc⟩
  rw[show(iH names,(none:Option (Nat×List W))).fst.length=names.length from rX names,iD]at hc
  apply dh
  ·(walk_at "evs")
  ·refine⟨_,_,rfl,p-st.length,x,by rw[show st.length+(p-st.length)=p by omega],rfl,?_⟩
   rw[bw mI]at hc
   exact hc
theorem JY(m:Nat):Builtin.bitAnd (m:Int) 1=((m%2:Nat):Int):=by
 unfold Builtin.bitAnd
 rw[aV (by omega),aV (by omega)]
 show((((m:Int).toNat &&& 1:Nat)):Int)=_
 rw[aB,Nat.and_one_is_mod]
theorem GQ(k:Nat)(hk:k<=1000)(st:List al):DF [.int k] st=.ok (.int (2^k:Nat)) st:=by
 refine jJ (N:=3) (ws:=[.int k]) (body:=Rj) ?_ rfl
 apply aR
 ·(walk_at "evs")
 refine fx (fun i ρ s=>∃o2:Option W,ρ=[iO k,iO (2^i:Nat),o2]/\s=st) (cF (q:=(k:Int)) (st1:=st) kn (by omega)) ⟨none,rfl,rfl⟩ (fun _ _ _ _=>trivial) ?_ ?_
 ·rintro i w ρ s hw ⟨o4,rfl,rfl⟩
  obtain⟨hi,rfl⟩:=cC hw
  refine⟨_,rfl,?_⟩
  apply f_
  ·exact b8 (bX kv dv (jI (.inr (by decide))))
  ·exact⟨_,_,rfl,_,by rw[show((2^i:Nat):Int)*2=((2^(i+1):Nat):Int) by rw[gN,cX];rfl];rfl,rfl⟩
 ·rintro ρ s ⟨o2,rfl,rfl⟩
  apply dh
  ·(walk_at "evs")
  ·refine⟨_,_,rfl,?_,[],by simp⟩
   rw[show(gC 0 (k:Int).toNat,(none:Option (Nat×List W))).fst.length=k by simp[bu]]
theorem JZ(n:Nat)(names:List Nat)(hn:n<=1000)(hl:names.length<=60)(st:List al):JO [.int n,.str names] st=.ok (.int (n*n*2^names.length:Nat)) st:=by
 have ln:dE [.str names] st=.ok (.int names.length) st:=m9 (by show _<=1000000;omega)
 have hnn:n*n<=1000000:=cV hn hn
 have cm1:sK (n:Int) (n:Int):=.inl ⟨by omega,by omega⟩
 have cm2:sK ((n:Int)*(n:Int)) ((2^names.length:Nat):Int):=.inl (by rw[<- cX];omega)
 refine jJ (N:=2) (ws:=[.int n,.str names]) (body:=Rm) ?_ rfl
 apply dh
 ·exact bX (bX kv kv (jI cm1)) (dW (aw (bT kn ln) bq) (GQ _ (by omega) st) rfl) (jI cm2)
 ·exact⟨_,_,rfl,by simp only[cX],[],by simp⟩
def zr(M:Mc)(names:List Nat):Mc:=⟨names,M.gd,(pi M.nm names).map fun k=>M.tb.getD k []⟩
theorem J0(M:Mc)(names:List Nat)(hl:names.length<=13)(hb:∀k∈pi M.nm names,k<M.tb.length)(st:List al):GK [M.w,.str names] st=.ok (.tup ((zr M names).tb.map iy)) st:=by
 obtain⟨j,x,hx,eo⟩:=Oq names M.nm hl st
 have g0:bW M.w (.int 0) st=.ok (.str M.nm) st:=rfl
 have g2:bW M.w (.int 2) (st++x)=.ok (.tup (M.tb.map iy)) (st++x):=rfl
 have hc:(st++x)[st.length+j]?=some (.lst (nW (pi M.nm names))):=by rw[wZ];exact hx
 have cg:=w9 (cap:=[none,some 0]) (ρ:=[some M.w,some (.str names)]) (st:=st) (st1:=st++x) (f:=eA 0) (el:=e2 bW (e2 bW (ah 1) (eI 2)) (ah 0)) (fun w=>match w with|.int z=>iy (M.tb.getD z.toNat [])|_=>.non)
  (m_ (fe:=dS 2 GJ (ai (ah 1) (ai (e2 bW (ah 0) (eI 0)) aE))) (dW (aw kv (aw (bX kv dv g0) bq)) eo rfl) (aT hc)) (by simp[nW,zo];exact bd (GP hl) (by show _<=1000000;omega)) (aT hc) fun w hw=>by
   obtain⟨k,hk,rfl⟩:=aJ.mp hw
   have Kt:=hb k hk
   have hg:M.tb[k]?=some (M.tb.getD k []):=by rw[aC,ar Kt];rfl
   exact⟨_,rfl,bX (bX kv dv g2) kv (nN (gk (by rw[ak,hg];rfl)))⟩
 rw[show(nW (pi M.nm names)).map (fun w=>match w with|.int z=>iy (M.tb.getD z.toNat [])|_=>.non)=(zr M names).tb.map iy by
  unfold nW zr;rw[aM,aM];refine bO fun k _=>?_;show iy (M.tb.getD (k:Int).toNat [])=_;rw[aB];rfl]at cg
 refine jJ (N:=2) (ws:=[M.w,.str names]) (body:=Rq) ?_ (by simp only[undWs,gb,W.und];exact uC _ _)
 apply dh
 ·exact bT (aw cg bq) (gm (aT aU))
 ·exact⟨_,_,rfl,rfl,_,by rw[a8]⟩
def kj(m:List Nat)(l:List Nat):Nat:=l.foldl (fun a c=>2*a+if c∈m then 1 else 0) 0
theorem vU(m l:List Nat)(c:Nat):kj m (l++[c])=2*kj m l+if c∈m then 1 else 0:=by unfold kj;rw[List.foldl_append];rfl
theorem J1(m:List Nat)(l:List Nat):kj m l<2^l.length:=by
 have key:∀(l:List Nat) (a k:Nat),a<2^k->l.foldl (fun a c=>2*a+if c∈m then 1 else 0) a<2^(k+l.length):=by
  intro l
  induction l with
  |nil=>intro a k h;simpa using h
  |cons c r ih=>
   intro a k h
   have:=ih (2*a+if c∈m then 1 else 0) (k+1) (by rw[gN];split<;>omega)
   rw[nP,cK,show k+(r.length+1)=k+1+r.length by omega];exact this
 have:=key l 0 0 (by simp)
 simpa[kj]using this
theorem uD(names m:List Nat)(st:List al):sy [.str names,.str m] st=.ok (.int (kj m names:Nat)) st:=by
 refine jJ (N:=4) (ws:=[.str names,.str m]) (body:=LI) ?_ rfl
 apply aR
 ·(walk_at "evs")
 refine fx (fun i ρ s=>∃o3:Option W,ρ=[some (.str names),some (.str m),iO (kj m (names.take i):Nat),o3]/\s=st) (xj (st1:=st) kv) ⟨none,rfl,rfl⟩ (fun _ _ _ _=>trivial) ?_ ?_
 ·rintro i w ρ s hw ⟨o3,rfl,rfl⟩
  obtain⟨c,hc,rfl⟩:=zq hw
  refine⟨_,rfl,?_⟩
  have e:=vU m (names.take i) c
  rw[<- oW hc]at e
  have bi:C9 [.bl (decide (c∈m))] s=.ok (.int ((if c∈m then 1 else 0:Nat):Int)) s:=by
   by_cases h:c∈m
   ·rw[aV h,av h];rfl
   ·rw[aH h,az h];rfl
  apply f_
  ·exact b8 (bX (bX dv kv (jI (.inl (by decide)))) (bT (aw (bX kv kv Cb) bq) bi) fw)
  ·exact⟨_,_,rfl,_,by rw[e,dm,cX];rfl,rfl⟩
 ·rintro ρ s ⟨o3,rfl,rfl⟩
  apply dh
  ·(walk_at "evs")
  ·exact⟨_,_,rfl,by rw[show(iH names,(none:Option (Nat×List W))).fst.length=names.length from rX names,iD],[],by simp⟩
theorem uE{f:FG}{ρ0:ca}(Y:W->W):∀(ws acc:List W) (s:List al),st <+: s->(∀w∈ws,∀s,st <+: s->∃ρ' x,f w ρ0=some ρ'/\el ρ' s=.ok (Y w) (s++x)) ->
  ∃s',st <+: s'/\kW f gs el none ρ0 ws acc s=.ok (acc++ws.map Y) s'
 |[],acc,s,hs,_=>⟨s,hs,by unfold kW;rw[av (show i6 s none from trivial)];simp⟩
 |w::ws,acc,s,hs,h=>by
  obtain⟨ρ',x,e1,e2⟩:=h w (by simp) s hs
  obtain⟨s',h1,h2⟩:=uE Y ws (acc++[Y w]) (s++x) (iu hs) fun w' hw'=>h w' (by simp[hw'])
  refine⟨s',h1,?_⟩
  unfold kW
  rw[av (show i6 s none from trivial),e1]
  simp only[gs,e2]
  rw[h2];simp
theorem SZ{f:FG}(Y:W->W)(h:fi ρ st=.ok (ws,none) st1)(hl:ws.length<=100000)
  (hs:∀w∈ws,∀s,st1 <+: s->∃ρ' x,f w (kh cap ρ)=some ρ'/\el ρ' s=.ok (Y w) (s++x)):∃s',st1 <+: s'/\cY cap fi f gs el ρ st=.ok (.loc s'.length) (s'++[.lst (ws.map Y)]):=by
 obtain⟨s',h1,h2⟩:=uE Y ws [] st1 (ac _) hs
 refine⟨s',h1,?_⟩
 unfold cY
 rw[h]
 simp only[R.bind_ok]
 rw[av (show ws.length<=jx by show _<=1000000;omega),h2]
 simp only[R.bind_ok,dk,jf]
 rw[av (show(ws.map Y).length<=jx by rw[am];show _<=1000000;omega)]
theorem vV(l:List Nat):nI [] (l.map fun c=>[c])=l:=by
 rw[kQ]
 induction l with
 |nil=>rfl
 |cons a r ih=>simp only[aI,cN,ih];rfl
theorem GR(l:List Nat):(((l.map fun c=>[c])).map List.length).sum=l.length:=by
 induction l with
 |nil=>rfl
 |cons a r ih=>simp only[aI,mo,cK,ih,gR];omega
theorem Os{cap:List (Option Nat)}(T:Nat->Bool)(h:fe ρ st=.ok (.str l) st1)(hl:l.length<=10000)(h0:0<cap.length)
  (ht:∀c∈l,t ((kh cap ρ).set 0 (some (.str [c]))) st1=.ok (T c) st1) :
  ∃x,D1 lR (eC (.str [])) (ai (cY cap (eQ fe) (eA 0) t (ah 0)) aE) ρ st=.ok (.str (l.filter T)) (st1++x):=by
 have cg:=AM (cap:=cap) (ρ:=ρ) (st:=st) (st1:=st1) (f:=eA 0) (t:=t) (el:=ah 0) (fun w=>match w with|.str [c]=>T c|_=>false) id (xj h) (by rw[rX];show _<=1000000;omega) trivial fun w hw=>by
  obtain⟨c,hc,rfl⟩:=aJ.mp hw
  exact⟨_,rfl,ht c hc,fun _=>gZ (by rw[bP (by simp[kh];exact h0)];rfl)⟩
 have e:((iH l).filter (fun w=>match w with|.str [c]=>T c|_=>false)).map id=((l.filter T).map fun c=>[c]).map W.str:=by
  rw[j']
  unfold iH
  rw[List.filter_map,aM];rfl
 rw[e]at cg
 have hj:=rS (sep:=[]) (st:=st1++[.lst (((l.filter T).map fun c=>[c]).map W.str)]) (n:=st1.length) (aT aU) (by
  rw[GR]
  have:=jE T l
  show _<=1000000;simp;omega)
 rw[vV]at hj
 exact⟨_,AJ dv rfl (aw cg bq) hj⟩
def GS:W->Nat
 |.int i=>i.toNat
 |_=>0
theorem J2:yw (.int (m:Nat)) (.int 1) st=.ok (.int ((m%2:Nat):Int)) st:=by
 rw[<- JY];exact j7 trivial
theorem Ot{a c:Nat}:C4 (.int (a:Nat)) (.int (c:Nat)) st=.ok (.int ((a/2^c:Nat):Int)) st:=by
 have:=j7 (C:=fun(_ j:Int)=>0<=j) (f:=fun i j=>i/2^j.toNat) (p:=(a:Int)) (q:=(c:Int)) (st:=st) (by omega)
 rw[show C4 (.int (a:Nat)) (.int (c:Nat)) st=_ from this,aB]
 simp
theorem GT{l:List Nat}(hl:l.length<4000)(h:∀c∈l,c∈LL)(st:List al):JN [.str l] st=.ok (.str (iL l)) st:=by
 have hs:(iL l).length<64:=by
  have:(iL l).length<=LL.length:=iN ((my l).imp fun h=>aN h) fun c hc=>h c (mx.mp hc)
  have e:LL.length=52:=by decide
  omega
 have e1:qv (ah 0) [some (.str l)] st=.ok (.loc st.length) (st++[.lst (iH (iL l))]):=by
  unfold qv
  rw[gZ (w:=.str l) rfl]
  simp only[R.bind_ok,t7,df]
  rw[av ⟨hl,hs⟩]
 have hj:=rS (sep:=[]) (ls:=(iL l).map fun c=>[c]) (st:=st++[.lst (iH (iL l))]) (n:=st.length) (aT (by rw[aU];unfold iH;rw[aM];rfl)) (by
  rw[qK];show _<=1000000;simp;omega)
 rw[vV]at hj
 refine jJ ?_ rfl
 apply dh
 ·exact AJ dv rfl (aw e1 bq) hj
 ·exact⟨_,_,rfl,rfl,_,rfl⟩
theorem LS{fs:FA}{xs ys:List W}(h:fs ρ st=.ok [.tup xs,.tup ys] st1):p7 fs ρ st=.ok (kY xs ys,none) st1:=by unfold p7;rw[h];rfl
theorem qL{P:RS->Prop}{f:FG}{body:FS}{k:C_}(I:Nat->ca->List al->Prop)(h:fi ρ st=.ok k st1)(h0:I 0 ρ st1)(hc:∀i ρ st,I i ρ st->i6 st k.2)
  (hs:∀i w ρ st,k.1[i]?=some w->I i ρ st->∃ρ',f w ρ=some ρ'/\lF (NI (I (i+1))) (body ρ' st)) (he:∀ρ st,I k.1.length ρ st->P (.nx ρ st)):lF P (i_ fi f body ρ st):=by
 obtain⟨ρ2,st2,e,h2⟩:=uo (f:=f) (body:=body) (ck:=k.2) I (ws:=k.1) (ρ:=ρ) (st:=st1) 0 h0 hc fun i w ρ st hw hI=>by
  rw[nF]at hI ⊢
  obtain⟨ρ',e1,ρ2,st2,e2,h2⟩:=hs i w ρ st hw hI
  exact⟨ρ',ρ2,st2,e1,e2,h2⟩
 rw[nF]at h2
 rw[BL h,e];exact he _ _ h2
theorem DJ{fc:FE}{st2 gD vd xV:List al}{x y w v:W}(h1:fa ρ st=.ok x st1)(h2:fb ρ st1=.ok y st2)(h3:f x y st2=.ok (.bl true) gD)(h4:fc ρ gD=.ok w vd)(h5:f' y w vd=.ok v xV):t0 f f' fa fb fc ρ st=.ok v xV:=by
 unfold t0;rw[h1];simp only[R.bind_ok];rw[h2];simp only[R.bind_ok];rw[h3];simp only[R.bind_ok];rw[h4];exact h5
theorem zt:∀l:List Int,nL (l.map W.int)=some l
 |[]=>rfl
 |z::l=>by simp only[aI,nL,zt l,Option.map_some]
def AV(r:List Nat):KX:=.fl (r.map fun k:Nat=>(k:Int))
theorem zu(r:List Nat):aW r=.tup ((r.map fun k:Nat=>(k:Int)).map W.int):=by rw[aM];rfl
theorem RD(r:List Nat):(AV r).w=aW r:=(zu r).symm
theorem uF(r:List Nat):sN (aW r)=some (AV r):=by rw[zu];simp only[sN,zt];rfl
theorem J3{a b:List Nat}(h:AV a=AV b):a=b:=
 (List.map_inj_right fun x y e=>Int.ofNat.inj e).mp (KX.fl.inj h)
theorem DL(p:KX×W)(l:List (KX×W))(k:KX):k7 (p::l) k=if p.1=k then some p.2 else k7 l k:=by
 unfold k7
 rw[ce]
 by_cases h:p.1=k
 ·rw[av h,aV h];rfl
 ·rw[az h,aH h]
def dR(ks:List (List Nat)):List (KX×W):=ks.map fun r=>(AV r,W.bl true)
theorem xl(r:List Nat):∀ks:List (List Nat),k7 (dR ks) (AV r)=if r∈ks then some (.bl true)else none
 |[]=>rfl
 |k::ks=>by
  rw[show dR (k::ks)=(AV k,W.bl true)::dR ks from rfl,DL,xl r ks]
  by_cases h:k=r
  ·subst h;rw[av rfl,av (by simp)]
  ·rw[az fun z=>h (J3 z)]
   by_cases h2:r∈ks
   ·rw[av h2,av (by simp[h2])]
   ·rw[az h2,az (by simp[h2,Ne.symm h])]
def pj(ks:List (List Nat))(r:List Nat):List (List Nat):=if r∈ks then ks else ks++[r]
theorem Ou(ks:List (List Nat))(r:List Nat):u8 (dR ks) (AV r) (.bl true)=dR (pj ks r):=by
 unfold u8 pj
 rw[xl]
 by_cases h:r∈ks
 ·rw[av h,av (show(some (W.bl true)).isSome=true from rfl),av h]
  unfold dR
  rw[aM]
  refine bO fun a _=>?_
  show(if AV a=AV r then(AV a,W.bl true)else(AV a,W.bl true))=_
  split<;>rfl
 ·rw[az h,az (by simp),az h]
  unfold dR;rw[bG];rfl
theorem GU(r:List Nat)(hl:ks.length<1000000):Dk (dR ks) (AV r)=true:=by
 unfold Dk BH
 rw[bA,bA,cS,cS]
 refine⟨⟨by simp[AV,KX.tag],?_⟩,by unfold dR;rw[am];exact hl⟩
 rw[fE]
 intro p hp
 obtain⟨a,_,rfl⟩:=aJ.mp hp
 rfl
theorem xn(ks:List (List Nat)):Ds (dR ks)=true:=by
 unfold Ds
 rw[fE]
 intro p hp
 obtain⟨a,_,rfl⟩:=aJ.mp hp
 rfl
theorem xo(ks:List (List Nat)):(dR ks).map (fun p=>p.1.w)=ks.map aW:=by
 unfold dR
 rw[aM]
 exact bO fun a _=>RD a
theorem J4(ks:List (List Nat))(r:List Nat):(pj ks r).length<=ks.length+1:=by unfold pj;split<;>simp
theorem oX{r a:List Nat}:a∈pj ks r↔a∈ks\/a=r:=by
 unfold pj
 split
 ·rename_i h
  exact⟨.inl,fun z=>z.elim id fun e=>e▸h⟩
 ·simp
theorem dC{l:List α}(d:α)(h:i<l.length):l[i]?=some (l.getD i d):=by rw[aC,ar h];rfl
def gM(Ms:List Mc)(i:Nat):Mc:=Ms.getD i ⟨[],[],[]⟩
theorem sB{Ms:List Mc}(h:i<Ms.length):Ms[i]?=some (gM Ms i):=dC _ h
theorem nn{Ms:List Mc}{i:Nat}(h:i<Ms.length):gM Ms i∈Ms:=aY (sB h)
def DM(M:Mc)(nm:List Nat)(q a b:Nat):Nat:=((M.tb.getD (Th M.nm nm q) []).getD a []).getD b 0
def led(Ms:List Mc)(nm:List Nat)(q:Nat)(l r:List Nat):List Nat:=(List.range Ms.length).map fun i=>DM (gM Ms i) nm q (l.getD i 0) (r.getD i 0)
def kE(Ms:List Mc)(r:List Nat):Prop:=r.length=Ms.length/\∀i,i<Ms.length->r.getD i 0<(gM Ms i).gd.length
def zv(Ms:List Mc):Prop:=∀M∈Ms,JU M M.gd.length
theorem vW{M:Mc}{k a b:Nat}(hM:JU M n)(hk:k<2^M.nm.length)(ha:a<n)(hb:b<n):∃t rw,M.tb[k]?=some t/\M.tb.getD k []=t/\t[a]?=some rw/\t.getD a []=rw/\rw[b]?=some (((M.tb.getD k []).getD a []).getD b 0)/\((M.tb.getD k []).getD a []).getD b 0<n:=by
 have h1:=dC [] (show k<M.tb.length by rw[hM.tb];exact hk)
 have t1:=hM.t _ (aY h1)
 have h2:=dC [] (show a<(M.tb.getD k []).length by rw[t1.1];exact ha)
 have t2:=t1.2 _ (aY h2)
 have h3:=dC 0 (show b<((M.tb.getD k []).getD a []).length by rw[t2.1];exact hb)
 exact⟨_,_,h1,rfl,h2,rfl,h3,t2.2 _ (aY h3)⟩
abbrev zw(nm:List Nat)(M:Mc):W:=.tup ((zr M nm).tb.map iy)
theorem Ov{M:Mc}{nm:List Nat}(hq:q<2^nm.length)(s:List al):bW (zw nm M) (.int q) s=.ok (iy (M.tb.getD (Th M.nm nm q) [])) s:=by
 refine nN (gk ?_)
 unfold zr pi
 rw[aM,aM,ak,bf hq];rfl
theorem J5{Ms:List Mc}{nm:List Nat}(zY:zv Ms)(v5:nm.Nodup)(hq:q<2^nm.length){r:List Nat}(hl:kE Ms l)(hr:kE Ms r)(h9:Ms.length<=1000){p:Nat}{s:List al}(hp:s[p]?=some (.lst (Ms.map (zw nm)))) :
  dG [.int q,aW l,aW r,.loc p] s=.ok (aW (led Ms nm q l r)) s:=by
 refine jJ (N:=4) (ws:=[.int q,aW l,aW r,.loc p]) (body:=jl) ?_ (by simp only[undWs,gb];exact B_ _ _)
 have c_:(k_ (Ms.map (zw nm)) (l.map fun k=>W.int (k:Nat)) (r.map fun k=>W.int (k:Nat))).length=Ms.length:=by
  rw[rM,am,am,am,hl.1,hr.1];omega
 have ec:=fW (cap:=[none,none,none,some 0]) (fi:=ui (ai (ah 3) (ai (ah 1) (ai (ah 2) aE)))) (f:=D0 3 (fv (eA 0) (fv (eA 1) (fv (eA 2) oB)))) (el:=e2 bW (e2 bW (e2 bW (ah 0) (ah 3)) (ah 1)) (ah 2)) (ρ:=[iO q,some (aW l),some (aW r),lO p]) (st:=s) (st1:=s)
  ((led Ms nm q l r).map fun k=>W.int (k:Nat)) (NR (aw kv (aw kv kn)) (aT hp)) (by rw[c_];show _<=1000000;omega) (aT hp) (by rw[c_];simp[led]) fun i w hw=>by
   obtain⟨x,y,z,hx,hy,hz,rfl⟩:=rL hw
   have hi:i<Ms.length:=by rw[<- c_];exact(ao.mp hw).1
   rw[ak,sB hi]at hx;cases hx
   rw[ak,dC 0 (by rw[hl.1];exact hi)]at hy;cases hy
   rw[ak,dC 0 (by rw[hr.1];exact hi)]at hz;cases hz
   obtain⟨t,jW,_,e2,e3,e4,e5,_⟩:=vW (zY _ (nn hi)) (vT v5 q) (hl.2 i hi) (hr.2 i hi)
   have ix:=Ov (M:=gM Ms i) hq s
   rw[e2]at ix e5
   rw[e4]at e5
   have v:DM (gM Ms i) nm q (l.getD i 0) (r.getD i 0)=jW.getD (r.getD i 0) 0:=by unfold DM;rw[e2,e4]
   refine⟨_,_,?_,rfl,bX (bX (bX kv kv ix) kv (AT e3)) kv (xi e5)⟩
   rw[<- v]
   unfold led
   rw[aM,ak,bf hi];rfl
 apply dh
 ·exact bT (aw ec bq) (gm (aT aU))
 ·exact⟨_,_,rfl,rfl,_,rfl⟩
theorem J6{M:Mc}{nm:List Nat}(hM:JU M n)(v5:nm.Nodup):∀k∈pi M.nm nm,k<M.tb.length:=fun k hk=>by
 obtain⟨q,_,rfl⟩:=aJ.mp hk
 rw[hM.tb];exact vT v5 q
abbrev S7:al:=.tab 81 ⟨44,4,45,99⟩ "side_by_side.<locals>.lead"
theorem J7{Ms:List Mc}{nm:List Nat}(zY:zv Ms)(v5:nm.Nodup)(Pi:nm.length<=13)(h9:Ms.length<=1000)(ht:st[1]?=some S7) :
  ic [.tup (Ms.map Mc.w),.str nm] st=.ok [.loc st.length] (st++[.lst (Ms.map (zw nm))]):=by
 have ec:=fW (cap:=[none,some 1]) (fi:=eQ (ah 0)) (f:=eA 0) (el:=dS 2 GK (ai (ah 0) (ai (ah 1) aE))) (ρ:=[some (.tup (Ms.map Mc.w)),some (.str nm),none,none]) (st:=st) (st1:=st) (ws:=Ms.map Mc.w) (ck:=none)
  (Ms.map (zw nm)) rfl (by rw[am];show _<=1000000;omega) trivial (by simp) fun i w hw=>by
   rw[ak,be]at hw
   obtain⟨M,hM,rfl⟩:=hw
   exact⟨_,_,by rw[ak,hM];rfl,rfl,dW (aw kv kn) (J0 M nm Pi (J6 (zY M (aY hM)) v5) st) rfl⟩
 exact NQ (b8 ec) (bN ht) rfl
theorem DN{Ms:List Mc}{nm:List Nat}{ks:List (List Nat)}(hn:nm.length<=13)(Kt:ks.length<=1000)(hc:∀l∈ks,∀r∈ks,∀q,q<2^nm.length->led Ms nm q l r∈ks){Me:Nat}{s:List al}{f:Addr}{w0:W}(R_:s[Me]?=some (.rox (dR ks)))(hm:s[m]?=some (.pin false f o w0))
  (Mb:∀l∈ks,∀r∈ks,∀q,q<2^nm.length->su bR dG m [.int (q:Nat),aW l,aW r] s=.ok (aW (led Ms nm q l r)) s):B1 [.loc Me,.loc m,.int (2^nm.length:Nat)] s=.ok (.bl true) s:=by
 have hp:=GP hn
 obtain⟨N,hN⟩:∃N,N=2^nm.length:=⟨_,rfl⟩
 rw[<- hN]at hp hc Mb ⊢
 have it:∀ρ:ca,ρ[0]?=some (lO Me)->iT (ah 0) ρ s=.ok (ks.map aW,none) s:=fun ρ h=>by
  rw[BZ (gZ h) R_ (xn ks),xo]
 refine rT (N:=6) (ws:=[.loc Me,.loc m,.int N]) (body:=Ly) ?_
 refine fx (fun i ρ s'=>∃o3 o4 o5:Option W,ρ=[lO Me,lO m,iO N,o3,o4,o5]/\s'=s) (it _ rfl) ⟨none,none,none,rfl,rfl⟩ (fun _ _ _ _=>trivial) ?_ ?_
 ·rintro i w ρ s' hw ⟨o3,o4,o5,rfl,rfl⟩
  rw[ak,be]at hw
  obtain⟨l,hl,rfl⟩:=hw
  have hl:=aY hl
  refine⟨_,rfl,?_⟩
  refine qL (fun i ρ s''=>∃o4 o5:Option W,ρ=[lO Me,lO m,iO N,some (aW l),o4,o5]/\s''=s') (it _ rfl) ⟨_,_,rfl,rfl⟩ (fun _ _ _ _=>trivial) ?_ ?_
  ·rintro i w ρ s'' hw ⟨o4,o5,rfl,rfl⟩
   rw[ak,be]at hw
   obtain⟨r,hr,rfl⟩:=hw
   have hr:=aY hr
   refine⟨_,rfl,?_⟩
   refine qL (fun i ρ s=>∃o5:Option W,ρ=[lO Me,lO m,iO N,some (aW l),some (aW r),o5]/\s=s'') (cF (q:=(N:Int)) (st1:=s'') kn (by omega)) ⟨_,rfl,rfl⟩ (fun _ _ _ _=>trivial) ?_ ?_
   ·rintro q w ρ s hw ⟨o5,rfl,rfl⟩
    obtain⟨hq,rfl⟩:=cC hw
    rw[aB]at hq
    refine⟨_,rfl,?_⟩
    have e:=Mb l hl r hr q hq
    have hin:sQ true (aW (led Ms nm q l r)) (.loc Me) s=.ok (.bl false) s:=by
     rw[K9 R_ (uF _) (GU _ (by omega)),xl,av (hc l hl r hr q hq)];rfl
    apply mF
    ·rw[cu]
     exact fz (bX (JK rfl hm (aw kv (aw kv kn)) rfl e) kv hin)
    apply f_
    ·exact w6
    ·exact⟨_,_,rfl,_,rfl,rfl⟩
   ·rintro ρ s ⟨o5,rfl,rfl⟩
    exact⟨_,_,rfl,_,_,rfl,rfl⟩
  ·rintro ρ s'' ⟨o4,o5,rfl,rfl⟩
   exact⟨_,_,rfl,_,_,_,rfl,rfl⟩
 ·rintro ρ s' ⟨o3,o4,o5,rfl,rfl⟩
  apply dh
  ·exact dv
  ·exact⟨_,_,rfl,rfl,rfl⟩
def wd:Nat->List Nat
 |0=>[115,97,109,101]
 |1=>[110,111,116]
 |2=>[97,110,100]
 |_=>[111,114]
def rY(k:Nat)(g:List Bool):Bool:=if k=0 then g.getD 0 false else if k=1 then !g.getD 0 false else if k=2 then g.getD 0 false&&g.getD 1 false else g.getD 0 false||g.getD 1 false
theorem vX{s:List al}{p i:Nat}{l:List Bool}(h:s[p]?=some (.lst (l.map W.bl)))(hi:i<l.length):bW (.loc p) (.int i) s=.ok (.bl (l.getD i false)) s:=oH (aT h) (gk (by rw[ak,dC false hi];rfl))
theorem J8{k:Nat}(hk:k<4){g:List Bool}(h1:1<=g.length)(h2:2<=k->2<=g.length){p:Nat}{s:List al}(h:s[p]?=some (.lst (g.map W.bl))):JP [.str (wd k),.loc p] s=.ok (.bl (rY k g)) s:=by
 have i0:=vX h (i:=0) (by omega)
 refine rT (N:=2) (ws:=[.str (wd k),.loc p]) (body:=Rt) ?_
 obtain rfl|rfl|rfl|rfl:k=0\/k=1\/k=2\/k=3:=by omega
 ·apply kS
  ·exact fz (bX kv dv rfl)
  apply i7
  ·exact bX kv dv i0
  ·exact⟨_,_,rfl,rfl,rfl⟩
 ·apply fR
  ·exact fz (bX kv dv rfl)
  apply gP
  apply kS
  ·exact fz (bX kv dv rfl)
  apply i7
  ·exact K3 (bX kv dv i0) rfl
  ·exact⟨_,_,rfl,rfl,rfl⟩
 ·have i1:=vX h (i:=1) (by have:=h2 (by omega);omega)
  apply fR
  ·exact fz (bX kv dv rfl)
  apply gP
  apply fR
  ·exact fz (bX kv dv rfl)
  apply gP
  apply kS
  ·exact fz (bX kv dv rfl)
  apply i7
  ·show _=R.ok (W.bl (g.getD 0 false&&g.getD 1 false)) s
   generalize g.getD 0 false=a at i0
   generalize g.getD 1 false=b at i1
   cases a
   ·exact BR (bX kv dv i0)
   ·exact w4 (bX kv dv i0) (bX kv dv i1)
  ·exact⟨_,_,rfl,rfl,rfl⟩
 ·have i1:=vX h (i:=1) (by have:=h2 (by omega);omega)
  apply fR
  ·exact fz (bX kv dv rfl)
  apply gP
  apply fR
  ·exact fz (bX kv dv rfl)
  apply gP
  apply fR
  ·exact fz (bX kv dv rfl)
  apply gP
  apply kS
  ·exact fz (bX kv dv rfl)
  apply i7
  ·show _=R.ok (W.bl (g.getD 0 false||g.getD 1 false)) s
   generalize g.getD 0 false=a at i0
   generalize g.getD 1 false=b at i1
   cases a
   ·exact FY (bX kv dv i0) (bX kv dv i1)
   ·exact FZ (bX kv dv i0)
  ·exact⟨_,_,rfl,rfl,rfl⟩
def sT(ps:List Mc)(r:List Nat):List Bool:=(List.range ps.length).map fun i=>(gM ps i).gd.getD (r.getD i 0) false
theorem kZ:∀{xs ys:List W} {i:Nat} {w:W},(kY xs ys)[i]?=some w->∃x y,xs[i]?=some x/\ys[i]?=some y/\w=.tup [x,y]:=by
 intro xs
 induction xs with
 |nil=>intro ys i w h;cases ys<;>simp[kY]at h
 |cons x xs ih=>
  intro ys i w h
  cases ys with
  |nil=>simp[kY]at h
  |cons y ys=>
   cases i with
   |zero=>simp[kY]at h;exact⟨x,y,rfl,rfl,h.symm⟩
   |succ i=>simp[kY]at h;simpa using ih (by simpa[kY]using h)
theorem vY(M:Mc)(s:List al):bW M.w (.int 1) s=.ok (.tup (M.gd.map W.bl)) s:=rfl
theorem GV{ps:List Mc}{r:List Nat}(hl:ps.length<=r.length)(h9:ps.length<=1000)(hr:∀i,i<ps.length->r.getD i 0<(gM ps i).gd.length)(st:List al) :
  JQ [.tup (ps.map Mc.w),aW r] st=.ok (.loc st.length) (st++[.lst ((sT ps r).map W.bl)]):=by
 have c_:(kY (ps.map Mc.w) (r.map fun k=>W.int (k:Nat))).length=ps.length:=by rw[mz,am,am];omega
 have ec:=fW (cap:=[none,none]) (fi:=p7 (ai (ah 0) (ai (ah 1) aE))) (f:=D0 2 (fv (eA 0) (fv (eA 1) oB))) (el:=e2 bW (e2 bW (ah 0) (eI 1)) (ah 1)) (ρ:=[some (.tup (ps.map Mc.w)),some (aW r)]) (st:=st) (st1:=st)
  ((sT ps r).map W.bl) (LS (aw kv kn)) (by rw[c_];show _<=1000000;omega) trivial (by rw[c_];simp[sT]) fun i w hw=>by
   obtain⟨x,y,hx,hy,rfl⟩:=kZ hw
   have hi:i<ps.length:=by rw[<- c_];exact(ao.mp hw).1
   rw[ak,sB hi]at hx;cases hx
   rw[ak,dC 0 (by omega)]at hy;cases hy
   refine⟨_,_,?_,rfl,bX (bX kv dv (vY _ _)) kv (nN (gk (by rw[ak,dC false (hr i hi)];rfl)))⟩
   unfold sT
   rw[aM,ak,bf hi];rfl
 obtain⟨j,x,⟨rfl,rfl⟩,e⟩:=qC (N:=2) (ws:=[.tup (ps.map Mc.w),aW r]) (body:=Rw) (st:=st) (Q:=fun j x=>j=0/\x=[.lst ((sT ps r).map W.bl)]) (dh ec ⟨_,_,rfl,0,_,rfl,rfl,rfl,rfl⟩)
 exact e
theorem J9{r:List Nat}(h:r.length=n+1)(s:List al):bW (aW r) (.int (-1)) s=.ok (.int (r.getD n 0:Nat)) s:=by
 refine nN ?_
 have hl:(r.map fun k=>W.int (k:Nat)).length=n+1:=by rw[am,h]
 unfold sW
 rw[hl]
 rw[show Ky (n+1) (-1)=some n by unfold Ky;rw[az (by omega)];simp;omega]
 show(r.map fun k=>W.int (k:Nat))[n]?=_
 rw[ak,dC 0 (by omega)];rfl
theorem AW{ps:List Mc}{M:Mc}(h:i<ps.length):gM (ps++[M]) i=gM ps i:=by
 unfold gM;rw[aC,aC,a_ h]
theorem xq{ps:List Mc}{M:Mc}:gM (ps++[M]) ps.length=M:=by
 unfold gM;rw[aC,bw (au _),kO];rfl
theorem Ow{k:Nat}(hk:k<4){ps:List Mc}{M:Mc}{r:List Nat}(h1:1<=ps.length)(h2:2<=k->2<=ps.length)(h9:ps.length<=1000)(hr:kE (ps++[M]) r)(hs:M.gd.getD (r.getD ps.length 0) false=rY k (sT ps r))(st:List al) :
  zj [.str (wd k),.tup (ps.map Mc.w),M.w,aW r] st=.ok (.bl true) st:=by
 have Ht:r.length=ps.length+1:=by rw[hr.1];simp
 have eg:=GV (ps:=ps) (r:=r) (by omega) h9 (fun i hi=>by have:=hr.2 i (by simp;omega);rwa[AW hi]at this) st
 have hgl:(sT ps r).length=ps.length:=by simp[sT]
 have es:=J8 hk (g:=sT ps r) (by omega) (fun z=>by have:=h2 z;omega) (s:=st++[.lst ((sT ps r).map W.bl)]) aU
 have hL:r.getD ps.length 0<M.gd.length:=by have:=hr.2 ps.length (by simp);rwa[xq]at this
 have e1:bW (.tup (M.gd.map W.bl)) (.int (r.getD ps.length 0:Nat)) st=.ok (.bl (rY k (sT ps r))) st:=nN (gk (by rw[ak,dC false hL,hs];rfl))
 refine jJ (N:=4) (ws:=[.str (wd k),.tup (ps.map Mc.w),M.w,aW r]) (body:=LB) ?_ rfl
 apply dh
 ·exact bX (bX (bX kv dv (vY _ _)) (bX kv (K4 dv) (J9 Ht _)) e1) (dW (aw kv (aw (dW (aw kv kn) eg rfl) bq)) es rfl) (Q4 (b:=true) (mK _))
 ·exact⟨_,_,rfl,rfl,_,rfl⟩
theorem DO{M:Mc}{a:Nat}(h:a<M.gd.length)(h9:M.gd.length<=1000)(st:List al):GL [M.w,.int (a:Nat)] st=.ok (.bl true) st:=by
 have ln:dE [.tup (M.gd.map W.bl)] st=.ok (.int M.gd.length) st:=by rw[rR,am]
 have c1:Dd (.int 0) (.int (a:Nat)) st=.ok (.bl true) st:=K7 (aV (by omega))
 have d2:decide ((a:Int)<(M.gd.length:Int))=true:=aV (by omega)
 have c2:yx (.int (a:Nat)) (.int M.gd.length) st=.ok (.bl true) st:=uu d2
 refine rT (N:=2) (ws:=[M.w,.int (a:Nat)]) (body:=Rz) ?_
 apply dh
 ·exact DJ dv kv c1 (bT (aw (bX kv dv (vY _ _)) bq) ln) c2
 ·exact⟨_,_,rfl,rfl,rfl⟩
theorem GW{Ms:List Mc}{r:List Nat}(hr:kE Ms r)(h9:Ms.length<=1000)(hg:∀M∈Ms,M.gd.length<=1000)(st:List al):zi [.tup (Ms.map Mc.w),aW r] st=.ok (.bl true) st:=by
 have c_:(kY (Ms.map Mc.w) (r.map fun k=>W.int (k:Nat))).length=Ms.length:=by rw[mz,am,am,hr.1];omega
 have ec:=fW (cap:=[none,none]) (fi:=p7 (ai (ah 0) (ai (ah 1) aE))) (f:=D0 2 (fv (eA 0) (fv (eA 1) oB))) (el:=dS 2 GL (ai (ah 0) (ai (ah 1) aE))) (ρ:=[some (.tup (Ms.map Mc.w)),some (aW r)]) (st:=st) (st1:=st)
  ((List.replicate Ms.length true).map W.bl) (LS (aw kv kn)) (by rw[c_];show _<=1000000;omega) trivial (by rw[c_];simp) fun i w hw=>by
   obtain⟨x,y,hx,hy,rfl⟩:=kZ hw
   have hi:i<Ms.length:=by rw[<- c_];exact(ao.mp hw).1
   rw[ak,sB hi]at hx;cases hx
   rw[ak,dC 0 (by rw[hr.1];exact hi)]at hy;cases hy
   refine⟨_,_,?_,rfl,dW (aw kv kn) (DO (hr.2 i hi) (hg _ (nn hi)) st) rfl⟩
   rw[ak,dz,av hi];rfl
 refine jJ (N:=2) (ws:=[.tup (Ms.map Mc.w),aW r]) (body:=LA) ?_ rfl
 apply dh
 ·exact bT (aw ec bq) (K_ (aT aU))
 ·exact⟨_,_,rfl,by simp,_,rfl⟩
theorem GX{nm:List Nat}(hl:rows.length<=1000)(Pi:nm.length<=13)(h:rows.length*rows.length*2^nm.length<=40000)(st:List al):JR [.tup (rows.map aW),.str nm] st=.ok .non st:=by
 have e:=JZ rows.length nm hl (by omega) st
 generalize rows.length*rows.length*2^nm.length=k at h e
 have ln:dE [.str nm] st=.ok (.int nm.length) st:=m9 (by show _<=1000000;omega)
 have SN:dE [.tup (rows.map aW)] st=.ok (.int rows.length) st:=by rw[rR,am]
 have d1:decide ((40000:Int)<(k:Int))=false:=aH (by omega)
 have d2:decide ((13:Int)<(nm.length:Int))=false:=aH (by omega)
 refine F5 (N:=2) (ws:=[.tup (rows.map aW),.str nm]) (body:=N5) ?_
 simp only[N5,ni,nj]
 apply fR
 ·exact fz (bX (bT kn ln) dv (uu d2))
 apply gP
 apply mF
 ·exact fz (bX (dW (aw (bT kn SN) kn) e rfl) dv (uu d1))
 apply f_
 ·exact w6
 ·exact⟨_,_,rfl,[],by simp⟩
theorem cG{a b:List al}(h:bU a)(h2:bU b):bU (a++b):=fun d hd=>by
 rcases br.mp hd with z|z
 ·exact h d z
 ·exact h2 d z
theorem np1{c:al}(h:∀a,mC a c=false):bU [c]:=fun d hd a=>by rw[ba.mp hd];exact h a
theorem lh(ws:List W):bU [.lst ws]:=np1 fun _=>rfl
def fB(Ms:List Mc):List Nat:=(Ms.map Mc.nm).flatten
theorem zx(l:List (List Nat)):(l.map List.length).sum=l.flatten.length:=by rw[List.length_flatten]
theorem mul_zero(n:Nat):W.tup (List.replicate n [W.int 0]).flatten=aW (List.replicate n 0):=by
 unfold aW
 congr 1
 induction n with
 |zero=>rfl
 |succ n ih=>rw[b0,cN,ih,b0,aI];rfl
theorem zy{k:Nat}(hk:k<4){ps:List Mc}{M:Mc}{nm:List Nat}(zY:zv (ps++[M]))(h1:1<=ps.length)(h2:2<=k->2<=ps.length)(h9:ps.length<=9)(hg:∀M'∈ps++[M],M'.gd.length<=1000)
  (v5:iL (fB (ps++[M]))=nm) (UH:∀c∈fB (ps++[M]),c∈LL) (Ks:(fB (ps++[M])).length<4000) (Pi:nm.length<=13) (Ht:rows.length<=1000) (T6:rows.length*rows.length*2^nm.length<=40000)
  (A7:∀r∈rows,kE (ps++[M]) r) (hz:List.replicate (ps.length+1) 0∈rows) (hs:∀r∈rows,M.gd.getD (r.getD ps.length 0) false=rY k (sT ps r))
  (hc:∀l∈rows,∀r∈rows,∀q,q<2^nm.length->led (ps++[M]) nm q l r∈rows) {st:List al} (np:bU st) (ht:st[1]?=some S7) :
  vS [.str (wd k),.tup (ps.map Mc.w),M.w,.tup (rows.map aW)] st=.ok (.bl true) st:=by
 have qf:nm.Nodup:=by rw[<- v5];exact(my _).imp fun h=>aN h
 obtain⟨Ms,hMe⟩:∃Ms,Ms=ps++[M]:=⟨_,rfl⟩
 have hMw:(ps.map Mc.w)++[M.w]=Ms.map Mc.w:=by rw[hMe,bG];rfl
 have hml:Ms.length=ps.length+1:=by rw[hMe];simp
 rw[<- hMe]at zY hg v5 UH Ks A7 hc
 refine jJ (N:=8) (ws:=[.str (wd k),.tup (ps.map Mc.w),M.w,.tup (rows.map aW)]) (body:=LC) ?_ rfl
 have ead:du (.tup (ps.map Mc.w)) (.tup [M.w]) st=.ok (.tup (Ms.map Mc.w)) st:=by
  rw[<- hMw];exact NL (by simp only[aF,am];show _<=1000000;simp;omega)
 apply aR
 ·exact b8 (bX kv (j6 kn (ay rfl)) ead)
 have ec:=fW (cap:=[none]) (fi:=eQ (ah 4)) (f:=eA 0) (el:=e2 bW (ah 0) (eI 0)) (ρ:=[some (.str (wd k)),some (.tup (ps.map Mc.w)),some M.w,some (.tup (rows.map aW)),some (.tup (Ms.map Mc.w)),none,none,none]) (st:=st) (st1:=st) (ws:=Ms.map Mc.w) (ck:=none)
  ((Ms.map Mc.nm).map W.str) rfl (by rw[am];show _<=1000000;omega) trivial (by simp) fun i w hw=>by
   rw[ak,be]at hw
   obtain⟨M',hM',rfl⟩:=hw
   exact⟨_,_,by rw[aM,ak,hM'];rfl,rfl,bX kv dv rfl⟩
 have ej:=rS (sep:=[]) (ls:=Ms.map Mc.nm) (st:=st++[.lst ((Ms.map Mc.nm).map W.str)]) (n:=st.length) (aT aU) (by rw[zx];have:(fB Ms).length<4000:=Ks;unfold fB at this;show _<=1000000;simp only[gR,Nat.zero_mul,Nat.mul_zero,fY];omega)
 rw[kQ]at ej
 have eo:=GT (l:=fB Ms) Ks UH (st++[.lst ((Ms.map Mc.nm).map W.str)])
 rw[v5]at eo
 apply aR
 ·exact b8 (dW (aw (AJ dv rfl (aw ec bq) ej) bq) eo rfl)
 generalize tf:st++[al.lst ((Ms.map Mc.nm).map W.str)]=s1
 have np1':bU s1:=by rw[<- tf];exact cG np (lh _)
 have k1:st <+: s1:=by rw[<- tf];exact ag _ _
 apply aR
 ·exact jj (dW (aw kv kn) (GX Ht Pi T6 s1) rfl)
 apply aR
 ·exact b8 (show yL _ s1=.ok (.loc s1.length) (s1++[.dct []])from rfl)
 refine fx (fun i ρ s=>∃(ks:List (List Nat)) (o7:Option W),ρ=[some (.str (wd k)),some (.tup (ps.map Mc.w)),some M.w,some (.tup (rows.map aW)),some (.tup (Ms.map Mc.w)),some (.str nm),lO s1.length,o7]/\(s=s1++[.dcx (dR ks)]\/s=s1++[.dct []]/\ks=[])/\ks.length<=i/\∀r,r∈ks↔r∈rows.take i)
  (k:=(rows.map aW,none)) (st1:=s1++[.dct []]) rfl ⟨[],none,rfl,.inr ⟨rfl,rfl⟩,au _,by simp⟩ (fun _ _ _ _=>trivial) ?_ ?_
 ·rintro i w ρ s hw ⟨ks,o7,rfl,hs',Kt,hks⟩
  rw[ak,be]at hw
  obtain⟨r,hr,rfl⟩:=hw
  have hi:i<rows.length:=(ao.mp hr).1
  refine⟨_,rfl,?_⟩
  have hd:qw s (.loc s1.length)=some (s1.length,dR ks):=by
   rcases hs' with rfl|⟨rfl,rfl⟩<;>simp only[qw,aU]<;>rfl
  have DY:s.set s1.length (.dcx (u8 (dR ks) (AV r) (.bl true)))=s1++[.dcx (dR (pj ks r))]:=by
   rw[Ou]
   rcases hs' with rfl|⟨rfl,rfl⟩<;>rw[mE]<;>rfl
  have ep:=NT (v:=.bl true) hd (uF r) (GU r (by omega))
  rw[DY]at ep
  apply f_
  ·exact F1 dv kv kv ep
  ·refine⟨_,_,rfl,pj ks r,_,rfl,.inl rfl,?_,fun a=>?_⟩
   ·have:=J4 ks r;omega
   ·rw[oX,hks,oW hr,br,ba]
 ·rintro ρ s ⟨ks,o7,rfl,hs',Kt,hks⟩
  rw[am]at Kt hks
  rw[iD]at hks
  have oZ:s=s1++[.dcx (dR ks)]:=by
   rcases hs' with z|⟨z,rfl⟩
   ·exact z
   ·have:=(hks _).mpr hz;cases this
  subst oZ
  have it0:=BY (fe:=ah 6) (ρ:=[some (.str (wd k)),some (.tup (ps.map Mc.w)),some M.w,some (.tup (rows.map aW)),some (.tup (Ms.map Mc.w)),some (.str nm),lO s1.length,o7]) (st:=s1++[.dcx (dR ks)]) kv (.inl aU) (xn ks)
  rw[xo,mE,show[al.dcx (dR ks)].set 0 (al.rox (dR ks))=[al.rox (dR ks)]from rfl]at it0
  generalize oZ:s1++[al.rox (dR ks)]=s2 at it0
  have Kh:s2[s1.length]?=some (.rox (dR ks)):=by rw[<- oZ];exact aU
  have k2:s1 <+: s2:=by rw[<- oZ];exact ag _ _
  have np2:bU s2:=by rw[<- oZ];exact cG np1' (P.np1 fun _=>rfl)
  have alltrue:∀(cap:List (Option Nat)) (el:FE) (ρ:ca) (s0 s:List al),iT (ah 6) ρ s0=.ok (ks.map aW,none) s->(∀r∈rows,el ((kh cap ρ).set 0 (some (aW r))) s=.ok (.bl true) s)->0<cap.length ->
    bz wI (ai (cY cap (iT (ah 6)) (eA 0) gs el) aE) ρ s0=.ok (.bl true) (s++[.lst ((List.replicate ks.length true).map W.bl)]):=fun cap el ρ s0 s it h qb=>by
   have ec:=fW (cap:=cap) (fi:=iT (ah 6)) (f:=eA 0) (el:=el) (ρ:=ρ) (st:=s0) (st1:=s) ((List.replicate ks.length true).map W.bl) it (by rw[am];show _<=1000000;omega) trivial (by simp) fun i w hw=>by
    rw[ak,be]at hw
    obtain⟨r,hr,rfl⟩:=hw
    have hi:i<ks.length:=(ao.mp hr).1
    exact⟨_,_,by rw[ak,dz,av hi];rfl,rfl,h r ((hks r).mp (aY hr))⟩
   have ea:=K_ (l:=List.replicate ks.length true) (st:=s++[.lst ((List.replicate ks.length true).map W.bl)]) (n:=s.length) (aT aU)
   rw[show(List.replicate ks.length true).all id=true by simp]at ea
   exact bT (aw ec bq) ea
  have a1:=alltrue [none,some 4] (dS 2 zi (ai (ah 1) (ai (ah 0) aE))) _ _ _ it0 (fun r hr=>dW (aw kv kn) (GW (A7 r hr) (by omega) hg s2) rfl) (by simp)
  apply fR
  ·exact BQ (fz a1) rfl
  apply gP
  generalize hs3:s2++[al.lst ((List.replicate ks.length true).map W.bl)]=s3
  have hk3:s3[s1.length]?=some (.rox (dR ks)):=by rw[<- hs3];exact bN Kh
  have k3:s2 <+: s3:=by rw[<- hs3];exact ag _ _
  have np3:bU s3:=by rw[<- hs3];exact cG np2 (lh _)
  have ln:dE [.tup (Ms.map Mc.w)] s3=.ok (.int ((ps.length+1:Nat):Int)) s3:=by rw[rR,am,hml]
  have em:=NS (ws:=[W.int 0]) (k:=ps.length+1) (st:=s3) (by simp) (by omega) (by simp;omega)
  rw[mul_zero]at em
  have ei:sQ true (aW (List.replicate (ps.length+1) 0)) (.loc s1.length) s3=.ok (.bl false) s3:=by
   rw[K9 hk3 (uF _) (GU _ (by omega)),xl,av ((hks _).mpr hz)];rfl
  apply fR
  ·exact fz (bX (bX (j6 (aw dv bq) (ay rfl)) (bT kn ln) em) kv ei)
  apply gP
  have it3:=BZ (fe:=ah 6) (ρ:=[some (.str (wd k)),some (.tup (ps.map Mc.w)),some M.w,some (.tup (rows.map aW)),some (.tup (Ms.map Mc.w)),some (.str nm),lO s1.length,o7]) (st:=s3) kv hk3 (xn ks)
  rw[xo]at it3
  have a2:=alltrue [none,some 0,some 1,some 2] (dS 4 zj (ai (ah 1) (ai (ah 2) (ai (ah 3) (ai (ah 0) aE))))) _ _ _ it3 (fun r hr=>dW (aw kv (aw kv (aw kv kn))) (Ow hk h1 h2 (by omega) (by rw[<- hMe];exact A7 r hr) (hs r hr) s3) rfl) (by simp)
  apply fR
  ·exact BQ (fz a2) rfl
  apply gP
  generalize hs4:s3++[al.lst ((List.replicate ks.length true).map W.bl)]=s4
  have hk4:s4[s1.length]?=some (.rox (dR ks)):=by rw[<- hs4];exact bN hk3
  have k4:s3 <+: s4:=by rw[<- hs4];exact ag _ _
  have np4:bU s4:=by rw[<- hs4];exact cG np3 (lh _)
  have es:=J7 (Ms:=Ms) (nm:=nm) zY qf Pi (by omega) (st:=s4) (aZ (k1.trans (k2.trans (k3.trans k4))) ht)
  generalize hs5:s4++[al.lst (Ms.map (zw nm))]=s5 at es
  have hk5:s5[s1.length]?=some (.rox (dR ks)):=by rw[<- hs5];exact bN hk4
  have ht5:s5[s4.length]?=some (.lst (Ms.map (zw nm))):=by rw[<- hs5];exact aU
  have np5:bU s5:=by rw[<- hs5];exact cG np4 (lh _)
  have zN:st <+: s5:=by rw[<- hs5];exact k1.trans (k2.trans (k3.trans (k4.trans (ag _ _))))
  obtain⟨x,rfl⟩:=zN
  refine dh (NP (st1:=s4) (st2:=s4) kv (aw kv kn) rfl es (NO _ _ _ _ _ _) (w:=.bl true) rfl fun f o os ok hos=>?_) ⟨_,_,rfl,rfl,_,rfl⟩
  obtain⟨cl,j9,pm,cd,ct,hx,hcn,rfl⟩:=ok
  generalize ho:fnMade "lead" "side_by_side.<locals>.lead" (fm cP) (dZ cP) (aL cP) cl j9 pm cd ct=o at hos ⊢
  have hok:bR o:=⟨cl,j9,pm,cd,ct,hx,hcn,ho.symm⟩
  have hclo:iq o=cl:=by rw[<- ho];rfl
  have mh:cl.length=1:=by have:=eY List.length hx;rw[am]at this;exact this
  rw[hclo]at hos ⊢
  have hz1:=NM (C:=cl) (os:=os) (cws:=[W.loc s4.length]) hos (by rw[mh];rfl)
  have hz2:=NN (C:=cl) (os:=os) (cws:=[W.loc s4.length]) hos (by rw[mh];rfl)
  generalize jy cl os [W.loc s4.length]=Lz at hz1 hz2
  generalize hs6:(st++x)++[al.pin false f o .non]=s6
  have np6:bU s6:=by rw[<- hs6];exact cG np5 (P.np1 fun _=>rfl)
  have hm6:s6[(st++x).length]?=some (.pin false f o .non):=by rw[<- hs6];exact aU
  have hk6:s6[s1.length]?=some (.rox (dR ks)):=by rw[<- hs6];exact bN hk5
  have ht6:s6[s4.length]?=some (.lst (Ms.map (zw nm))):=by rw[<- hs6];exact bN ht5
  have lnx:∀s,dE [.str nm] s=.ok (.int nm.length) s:=fun s=>m9 (by show _<=1000000;omega)
  refine⟨.int (2^nm.length:Nat),[al.pin false f o .non]++eX Lz,dW (aw (bT kn (lnx _)) bq) (GQ _ (by omega) _) rfl,?_⟩
  rw[show(st++x)++([al.pin false f o .non]++eX Lz)=s6++eX Lz by rw[<- hs6];simp only[a8]]
  refine DN (Ms:=Ms) (ks:=ks) Pi (by omega) (fun l hl r hr q hq=>(hks _).mpr (hc l ((hks l).mp hl) r ((hks r).mp hr) q hq)) (bN hk6) (bN hm6) fun l hl r hr q hq=>?_
  have hp0:s6++eX Lz=s6++(eX Lz++[]):=by rw[cW]
  rw[hp0]
  show su _ _ _ _ (s6++(eX Lz++[]))=.ok _ (s6++(eX Lz++[]))
  refine F6 (bN hm6) hok (by rw[hclo,hz1]) (by rw[hz1];exact hcn) np6 ?_
  rw[hz2]
  exact J5 zY qf hq (A7 l ((hks l).mp hl)) (A7 r ((hks r).mp hr)) (by omega) (bN ht6)
section
variable{f:FG}
theorem vZ{ck:List (Nat×List W)}{ρ0:ca}(hc:Aw st ck):∀(ws vs acc:List W),vs.length=ws.length->(∀(i:Nat) (w:W),ws[i]?=some w->∃v ρ',vs[i]?=some v/\f w ρ0=some ρ'/\el ρ' st=.ok v st) ->
  m7 f gs el ck ρ0 ws acc st=.ok (acc++vs) st
 |[],vs,acc,hl,_=>by
  have:vs=[]:=mO.mp hl
  subst this
  unfold m7;rw[av hc];simp
 |w::ws,[],acc,hl,h=>by simp at hl
 |w::ws,v::vs,acc,hl,h=>by
  obtain⟨v',ρ',e0,e1,e3⟩:=h 0 w rfl
  cases e0
  have ih:=fun acc=>vZ hc ws vs acc (by simpa using hl) fun i w' hw'=>by simpa using h (i+1) w' (by simpa using hw')
  unfold m7
  rw[av hc,e1]
  simp only[gs,e3]
  rw[ih]
  simp
theorem GY{fi:Nj}{ck:List (Nat×List W)}(vs:List W)(h:fi ρ st=.ok (ws,ck) st1)(hl:ws.length<=jx)(hc:Aw st1 ck)(hv:vs.length=ws.length)
  (hs:∀(i:Nat) (w:W),ws[i]?=some w->∃v ρ',vs[i]?=some v/\f w (kh cap ρ)=some ρ'/\el ρ' st1=.ok v st1):rE cap fi f gs el ρ st=.ok (.loc st1.length) (st1++[.lst vs]):=by
 unfold rE
 rw[h]
 simp only[R.bind_ok]
 rw[av hl,vZ hc ws vs [] hv hs]
 simp only[R.bind_ok,dk,jf]
 rw[av (by rw[hv];exact hl)]
theorem Ox{fs:FA}{xs ys:List W}(h:fs ρ st=.ok [.loc n,.loc m] st1)(h1:lstOf st1 n=some xs)(h2:lstOf st1 m=some ys):t_ fs ρ st=.ok (kY xs ys,[(n,xs),(m,ys)]) st1:=by
 unfold t_;rw[h];simp only[R.bind_ok,h1,h2]
theorem Oy(h:fa ρ st=.ok (.loc n) st1)(h1:lstOf st1 n=some ws)(hl:ws.length<=jx):BD fa ρ st=.ok (.loc st1.length) (st1++[.lst ws.reverse]):=by
 unfold BD;rw[h];simp only[R.bind_ok,h1,jf];rw[av (by rw[eZ];exact hl)]
theorem Oz(h:fa ρ st=.ok (.str l) st1)(hl:l.length<=jx):BA fa ρ st=.ok (.str l.reverse) st1:=by
 unfold BA;rw[h];simp only[R.bind_ok];rw[av hl]
end
def hJ(jK:List Nat)(d:Nat):List Nat:=((List.range jK.length).filter fun k=>decide (d/2^k%2=1)).map fun k=>jK.getD k 0
theorem uG(jK:List Nat)(hp:jK.length<=50)(d:Nat)(st:List al):qH [.str jK,.int (d:Nat)] st=.ok (.str (kK (hJ jK d))) st:=by
 have hL:jK.length<=jx:=by show _<=1000000;omega
 have hc:cY [none,some 0,some 1] (bn (ai (bz dE (ai (ah 0) aE)) aE)) (eA 0) (kI (e2 mU (e2 yw (e2 C4 (ah 2) (ah 0)) (eI 1)) (eI 1))) (e2 bW (ah 1) (ah 0)) [some (.str jK),iO (d:Nat)] st=.ok (.loc st.length) (st++[.lst (((hJ jK d).map fun c=>[c]).map W.str)]):=by
  have:=AM (fi:=bn (ai (bz dE (ai (ah 0) aE)) aE)) (f:=eA 0) (t:=kI (e2 mU (e2 yw (e2 C4 (ah 2) (ah 0)) (eI 1)) (eI 1))) (el:=e2 bW (ah 1) (ah 0)) (cap:=[none,some 0,some 1]) (ρ:=[some (.str jK),iO (d:Nat)]) (st:=st) (st1:=st) (ws:=gC 0 jK.length) (ck:=none) (fun w=>decide (d/2^GS w%2=1)) (fun w=>.str [jK.getD (GS w) 0])
   (by
    have:=cF (fs:=ai (bz dE (ai (ah 0) aE)) aE) (ρ:=[some (.str jK),iO (d:Nat)]) (st:=st) (st1:=st) (q:=(jK.length:Int)) (aw (bT kn (m9 hL)) bq) (by omega)
    rw[aB]at this
    exact this) (by rw[bu];show _<=1000000;omega) trivial ?_
  ·rw[this]
   congr 4
   unfold gC hJ
   rw[List.filter_map,aM,aM,aM]
   have e:((fun w=>decide (d/2^GS w%2=1))∘fun i:Nat=>W.int (0+(i:Int)))=fun k=>decide (d/2^k%2=1):=by
    funext k
    show decide (d/2^(0+(k:Int)).toNat%2=1)=_
    rw[show(0+(k:Int)).toNat=k by omega]
   rw[e]
   refine bO fun k _=>?_
   show W.str [jK.getD (0+(k:Int)).toNat 0]=_
   rw[show(0+(k:Int)).toNat=k by omega];rfl
  ·intro w hw
   obtain⟨i,hi,rfl⟩:=rV hw
   rw[show((0:Int)+(i:Int))=(i:Int) by omega]
   refine⟨[iO (i:Int),some (.str jK),iO (d:Nat)],rfl,?_,fun _=>?_⟩
   ·refine fz (bX (bX (bX kv kv Ot) dv J2) dv (qB ?_))
    show((((d/2^i%2:Nat)):Int)==1)=decide (d/2^(i:Int).toNat%2=1)
    rw[aB]
    by_cases h:d/2^i%2=1
    ·rw[h];rfl
    ·rw[aH h,bx];omega
   ·have e2:sW jK (i:Int)=some (jK.getD i 0):=gk (dC 0 hi)
    exact bX kv kv (BS hL e2)
 refine jJ (N:=2) (ws:=[.str jK,.int (d:Nat)]) (body:=LG) ?_ rfl
 apply dh
 ·exact JS hc (aT aU) (by
   unfold hJ
   rw[am]
   refine fI (jE _ _) ?_
   rw[lV];omega)
 ·exact⟨_,_,rfl,rfl,_,by rw[a8]⟩
theorem uH{jK:List Nat}(hn:jK.Nodup){d:Nat}(hi:i<jK.length):jK.getD i 0∈kK (hJ jK d)↔d/2^i%2=1:=by
 rw[(uB _).mem_iff]
 unfold hJ
 rw[aJ]
 constructor
 ·rintro⟨k,hk,e⟩
  obtain⟨h1,h2⟩:=eR.mp hk
  have hk':=bI.mp h1
  have hki:k=i:=by
   have e1:=dC 0 hk'
   have e2:=dC 0 hi
   rw[e,<- e2]at e1
   exact(List.getElem?_inj hk' hn).mp e1
  rw[<- hki];simpa using h2
 ·exact fun h=>⟨i,eR.mpr ⟨bI.mpr hi,by simpa using h⟩,rfl⟩
theorem GZ{a b:Nat}:([a]<[b])↔a<b:=by
 constructor
 ·intro h
  cases h with
  |rel h=>exact h
  |cons h=>cases h
 ·exact fun h=>.rel h
theorem OA{a b:Nat}(h:b≠a):(kK [a,b]).Pairwise (· < ·):=by
 show(nI [] (if [a]<[b]then[[a],[b]]else[[b],[a]])).Pairwise (· < ·)
 by_cases z:a<b
 ·rw[av (GZ.mpr z)];show[a,b].Pairwise (· < ·);simp[z]
 ·rw[az (fun q=>z (GZ.mp q))];show[b,a].Pairwise (· < ·);simp;omega
theorem t5{l':List Nat}(h:l.Pairwise (· < ·))(h':l'.Pairwise (· < ·))(hm:∀a,a∈l↔a∈l'):l=l':=by
 have nd:∀{l:List Nat},l.Pairwise (· < ·)->l.Nodup:=fun h=>h.imp fun z=>aN z
 have hp:l.Perm l':=(List.perm_ext_iff_of_nodup (nd h) (nd h')).mpr hm
 exact List.Perm.eq_of_pairwise (fun a b _ _ h1 h2=>absurd (nA h1 h2) (cw _)) h h' hp
def xr(l:List Nat):List Nat:=LL.filter fun c=>decide (c∈l)
theorem zz(l:List Nat)(st:List al):zm [.str l] st=.ok (.str (xr l)) st:=by
 obtain⟨x,e⟩:=Os (cap:=[none,some 0]) (ρ:=[some (.str l)]) (st:=st) (st1:=st) (fe:=eC (.str LL)) (t:=kI (e2 (wB false) (ah 0) (ah 1))) (fun c=>decide (c∈l)) dv (by decide) (by simp) fun c _=>fz (bX kv kv Cb)
 refine jJ (N:=1) (ws:=[.str l]) (body:=LK) ?_ rfl
 exact dh e ⟨_,_,rfl,rfl,_,rfl⟩
theorem RE:LL.Pairwise (· < ·):=by decide
theorem xu(l:List Nat):(xr l).Pairwise (· < ·):=RE.filter _
theorem oJ{c:Nat}:c∈xr l↔c∈LL/\c∈l:=by unfold xr;rw[eR];simp
theorem J_(own m:List Nat):∀(p:List Nat) (q:Nat),(∀i,i<p.length->(p.getD i 0∈m↔q/2^(p.length-1-i)%2=1))->Th own p q=kj m (p.filter fun c=>decide (c∈own)):=by
 have key:∀(r:List Nat) (q:Nat),(∀i,i<r.length->(r.getD i 0∈m↔q/2^i%2=1))->Tr own r q=kj m ((r.reverse).filter fun c=>decide (c∈own)):=by
  intro r
  induction r with
  |nil=>intro q _;rfl
  |cons c r ih=>
   intro q h
   have h0:=h 0 (by simp)
   have ihq:=ih (q/2) fun i hi=>by
    have:=h (i+1) (by simp;omega)
    rw[Nat.div_div_eq_div_mul,gG,<- gN]
    simpa using this
   rw[hV,List.filter_append]
   unfold Tr
   by_cases hc:c∈own
   ·rw[av hc,mR (by simpa using hc),List.filter_nil,vU,<- ihq]
    congr 1
    have h0:c∈m↔q%2=1:=by simpa using h0
    by_cases hm:c∈m
    ·rw[av hm];exact h0.mp hm
    ·rw[az hm]
     have:¬ q%2=1:=fun z=>hm (h0.mpr z)
     omega
   ·rw[az hc,mS (by simpa using hc),List.filter_nil,cW,<- ihq]
 intro p q h
 have:=key p.reverse q fun i hi=>by
  have hi':i<p.length:=by simpa using hi
  have hh:=h (p.length-1-i) (by omega)
  rw[show p.length-1-(p.length-1-i)=i by omega]at hh
  rw[<- hh]
  rw[aC,jC hi',aC]
 rw[List.reverse_reverse]at this
 exact this
def Sub(own nm:List Nat):Prop:=own.Pairwise (· < ·)/\∀c∈own,c∈nm
theorem Sub.filter{nm:List Nat}(h:Sub own nm)(hu:nm.Pairwise (· < ·)):(nm.filter fun c=>decide (c∈own))=own:=
 t5 (hu.filter _) h.1 fun a=>by rw[eR];simp;exact h.2 a
theorem LU{nm m:List Nat}(h:Sub own nm)(hu:nm.Pairwise (· < ·))(hm:∀i,i<nm.length->(nm.getD i 0∈m↔q/2^(nm.length-1-i)%2=1)):kj m own=Th own nm q:=by
 rw[J_ own m nm q hm,h.filter hu]
def nb(f:Nat->Bool):Nat->Nat
 |0=>0
 |n+1=>nb f n+if f n then 2^n else 0
theorem G0(f:Nat->Bool):∀n,nb f n<2^n
 |0=>by simp[nb]
 |n+1=>by
  have:=G0 f n
  unfold nb;rw[gN]
  split<;>omega
theorem AX(f:Nat->Bool):∀n i,i<n->(nb f n/2^i%2=1↔f i=true)
 |0,i,h=>by omega
 |n+1,i,h=>by
  unfold nb
  by_cases e:i=n
  ·subst e
   have hl:=G0 f i
   by_cases hf:f i=true
   ·rw[av hf,Nat.add_div_right _ (Nat.two_pow_pos i),mT hl];simp[hf]
   ·rw[az hf,fY,mT hl];simp[hf]
  ·have hi:i<n:=by omega
   rw[<- AX f n i hi]
   split
   ·rw[show 2^n=2^(n-i-1)*2*2^i by rw[<- gN,<- Nat.pow_add];congr 1;omega,Nat.add_mul_div_right _ _ (Nat.two_pow_pos i),Nat.add_mul_mod_self_right]
   ·rfl
theorem zB{s:List al}{p:Nat}{c:al}(h:bU s)(hc:∀a,mC a c=false):bU (s.set p c):=fun d hd a=>by
 rcases List.mem_or_eq_of_mem_set hd with z|z
 ·exact h d z a
 ·rw[z];exact hc a
structure OB(M:Mc):Prop where
 ok:JU M M.gd.length
 lo:1<=M.gd.length
 hi:M.gd.length<=3
 nl:M.nm.length<=2
 up:M.nm.Pairwise (· < ·)
 ll:∀c∈M.nm,c∈LL
theorem lS(a b c k:Nat)(l:List Nat)(h:([0,1,2].filter fun j=>decide (k/2^j%2=1))=l):hJ [a,b,c] k=l.map fun j=>[a,b,c].getD j 0:=by
 rw[<- h];rfl
theorem RF{a b c:Nat}(hn:[a,b,c].Nodup)(hl:∀d∈[a,b,c],d∈LL){k:Nat}(hk:k∈[0,1,2,4,3,5,6]):(kK (hJ [a,b,c] k)).length<=2/\(kK (hJ [a,b,c] k)).Pairwise (· < ·)/\∀d∈kK (hJ [a,b,c] k),d∈LL:=by
 have hab:b≠a:=by simp at hn;exact Ne.symm hn.1.1
 have hac:c≠a:=by simp at hn;exact Ne.symm hn.1.2
 have hbc:c≠b:=by simp at hn;exact Ne.symm hn.2
 have hall:∀d∈kK (hJ [a,b,c] k),d∈LL:=fun d hd=>by
  have hd:=(uB _).mem_iff.mp hd
  unfold hJ at hd
  obtain⟨i,hi,rfl⟩:=aJ.mp hd
  have hi:=bI.mp (eR.mp hi).1
  exact hl _ (aY (dC 0 hi))
 refine⟨?_,?_,hall⟩
 ·rw[B9]
  simp only[aG,cL,iQ]at hk
  rcases hk with rfl|rfl|rfl|rfl|rfl|rfl|rfl
  ·rw[lS a b c 0 [] (by decide)];exact ay rfl
  ·rw[lS a b c 1 [0] (by decide)];exact ay rfl
  ·rw[lS a b c 2 [1] (by decide)];exact ay rfl
  ·rw[lS a b c 4 [2] (by decide)];exact ay rfl
  ·rw[lS a b c 3 [0,1] (by decide)];exact ay rfl
  ·rw[lS a b c 5 [0,2] (by decide)];exact ay rfl
  ·rw[lS a b c 6 [1,2] (by decide)];exact ay rfl
 ·simp only[aG,cL,iQ]at hk
  rcases hk with rfl|rfl|rfl|rfl|rfl|rfl|rfl
  ·rw[lS a b c 0 [] (by decide)];exact .nil
  ·rw[lS a b c 1 [0] (by decide)];exact(by simp:[a].Pairwise (· < ·))
  ·rw[lS a b c 2 [1] (by decide)];exact(by simp:[b].Pairwise (· < ·))
  ·rw[lS a b c 4 [2] (by decide)];exact(by simp:[c].Pairwise (· < ·))
  ·rw[lS a b c 3 [0,1] (by decide)];exact OA hab
  ·rw[lS a b c 5 [0,2] (by decide)];exact OA hac
  ·rw[lS a b c 6 [1,2] (by decide)];exact OA hbc
theorem OC{a c:Nat}{st:List al}(ha:a<1000)(h:c<=100):rh (.int a) (.int c) st=.ok (.int ((a*2^c:Nat):Int)) st:=by
 have:=j7 (C:=fun i j=>0<=j/\j<=1000000/\i.natAbs<2^64) (f:=fun i j=>i*2^j.toNat) (p:=(a:Int)) (q:=(c:Int)) (st:=st) ⟨by omega,by omega,by omega⟩
 rw[show rh (.int a) (.int c) st=_ from this]
 simp
theorem OD{n0 L:Nat}{ns:List Int}{st:List al}(h0:st[n0]?=some (.ro (ns.map W.int)))(hL:st[L]?=some (.lst [.int 3,.int 3,.int 3]))(np:bU st) :
  ∃(j:Nat) (x:List al) (A B:Mc),OB A/\OB B/\bU (st++x)/\x[j]?=some (.lst [A.w,B.w])/\B2 [.loc n0,.loc L] st=.ok (.loc (st.length+j)) (st++x):=by
 suffices hh:lF (BU fun w bD=>∃j x,w=.loc (st.length+j)/\bD=st++x/\∃A B:Mc,OB A/\OB B/\bU (st++x)/\x[j]?=some (.lst [A.w,B.w])) (LJ ([W.loc n0,.loc L].map some++List.replicate (10-2) none) st) by
  obtain⟨j,x,⟨A,B,a,b,c,d⟩,e⟩:=qC hh
  exact⟨j,x,A,B,a,b,c,d,e⟩
 obtain⟨c0,e0⟩:=qI h0 0
 obtain⟨ds,hdl,hdp,ed⟩:=qJ c0 100003 6 (by omega) st
 apply aR
 ·exact b8 (dW (aw (dW (aw kv (aw dv bq)) e0 rfl) (aw dv (aw dv bq))) ed rfl)
 generalize zU:st++[al.lst (ds.map W.int)]=s0
 have k0:st <+: s0:=by rw[<- zU];exact ag _ _
 have np0:bU s0:=by rw[<- zU];exact cG np (lh _)
 have OX:s0[st.length]?=some (.lst (On ds)):=by rw[<- zU];exact aU
 obtain⟨c1,e1⟩:=qI (aZ k0 h0) 1
 obtain⟨pl,mI,hpn,hpL,ep⟩:=B8 c1 200017 3 (by omega) s0
 obtain⟨a,b,c,rfl⟩:∃a b c,pl=[a,b,c]:=by
  match pl,mI with
  |[a,b,c],_=>exact⟨a,b,c,rfl⟩
 apply aR
 ·exact b8 (dW (aw (dW (aw kv (aw dv bq)) e1 rfl) (aw dv (aw dv bq))) ep rfl)
 apply aR
 ·(walk_at "evs")
 refine fx (fun i ρ s=>∃(Ms:List Mc) (o5 o6 o7 o8 o9:Option W),ρ=[lO n0,lO L,lO st.length,some (.str [a,b,c]),lO s0.length,o5,o6,o7,o8,o9]/\s0 <+: s/\s[s0.length]?=some (.lst (Ms.map Mc.w))/\Ms.length=i/\(∀M∈Ms,OB M)/\bU s)
  (cF (q:=2) (st1:=s0++[al.lst []]) (aw dv bq) (by omega)) ⟨[],none,none,none,none,none,rfl,ag _ _,aU,rfl,by simp,cG np0 (lh _)⟩ (fun _ _ _ _=>trivial) ?_ ?_
 ·rintro i w ρ s hw ⟨Ms,o5,o6,o7,o8,o9,rfl,hp,hc,hl,hM,nps⟩
  obtain⟨hi,rfl⟩:=cC hw
  have hi2:i<2:=hi
  refine⟨_,rfl,?_⟩
  rw[show(0:Int)+(i:Int)=(i:Int) by omega]
  have hdq:∀q,q<6->∃d:Int,ds[q]?=some d:=fun q hq=>⟨_,ar (by omega)⟩
  obtain⟨d0,hd0i⟩:=hdq i (by omega)
  obtain⟨d1,hd1i⟩:=hdq (2+i) (by omega)
  obtain⟨d2,hd2i⟩:=hdq (4+i) (by omega)
  obtain⟨q7,hq7,eq7⟩:=jU (q:=d0) (n:=7) (by omega)
  generalize tf:s++[al.lst [.int 0,.int 1,.int 2,.int 4,.int 3,.int 5,.int 6]]=s1
  have k1:s <+: s1:=by rw[<- tf];exact ag _ _
  have np1':bU s1:=by rw[<- tf];exact cG nps (lh _)
  have hd1:s1[st.length]?=some (.lst (On ds)):=aZ (hp.trans k1) OX
  obtain⟨kk',hkk,ekk⟩:∃apply:Nat,apply∈[0,1,2,4,3,5,6]/\bW (.loc s.length) (.int (q7:Nat)) s1=.ok (.int (apply:Nat)) s1:=by
   refine⟨[0,1,2,4,3,5,6].getD q7 0,aY (dC 0 (by simpa using hq7)),?_⟩
   refine B' (l:=[0,1,2,4,3,5,6]) (by rw[<- tf];exact aU) (dC 0 (by simpa using hq7))
  obtain⟨Ks,hnu,hnL⟩:=RF hpn hpL hkk
  have em:=uG [a,b,c] (by simp) kk' s1
  generalize v5:kK (hJ [a,b,c] kk')=nm at Ks hnu hnL em
  have el:gg (ai (eI 0) (ai (eI 1) (ai (eI 2) (ai (eI 4) (ai (eI 3) (ai (eI 5) (ai (eI 6) aE))))))) [lO n0,lO L,lO st.length,some (.str [a,b,c]),lO s0.length,iO (i:Int),o6,o7,o8,o9] s=.ok (.loc s.length) s1:=by rw[<- tf];rfl
  apply aR
  ·refine b8 (dW (aw kv (aw (bX el (bX (bX kv kv (iw hd1 hd0i)) dv (j7 (by decide))) ?_) bq)) em rfl)
   show bW (.loc s.length) (.int (d0%((7:Nat):Int))) s1=_
   rw[eq7];exact ekk
  have ln:∀s,dE [.str nm] s=.ok (.int nm.length) s:=fun s=>m9 (by show _<=1000000;omega)
  have e3:bW (.loc L) (.int nm.length) s1=.ok (.int 3) s1:=by
   refine oH (aT (aZ (k0.trans (hp.trans k1)) hL)) (gk ?_)
   obtain z|z|z:nm.length=0\/nm.length=1\/nm.length=2:=by omega
   all_goals rw[z];rfl
  obtain⟨n1,hn1,en1⟩:=jU (q:=d1) (n:=3) (by omega)
  have en1:d1%3=(n1:Int):=en1
  apply aR
  ·exact b8 (bX dv (bX (bX kv (bX dv kv fw) (iw (i:=2+i) hd1 hd1i)) (bX kv (bT kn (ln _)) e3) (j7 (by decide))) fw)
  rw[en1,show(1:Int)+(n1:Int)=((1+n1:Nat):Int) by omega]
  generalize hn:1+n1=n
  apply aR
  ·exact b8 kv
  have dQ:∀lG:Nat,1<=lG->lG<=n->lF (NI fun ρ s'=>∃(Ms:List Mc) (o5 o6 o7 o8 o9:Option W),ρ=[lO n0,lO L,lO st.length,some (.str [a,b,c]),lO s0.length,o5,o6,o7,o8,o9]/\s0 <+: s'/\s'[s0.length]?=some (.lst (Ms.map Mc.w))/\Ms.length=i+1/\(∀M∈Ms,OB M)/\bU s')
    (bh (cb 9 (dS 3 pH (ai (dS 2 nO (ai (ah 0) (ai (e2 du (eI 2) (ah 5)) aE))) (ai (e2 du (ah 7) (e2 rh (e2 fM (ah 7) (ah 7)) (bz dE (ai (ah 6) aE)))) (ai (e2 du (eI 300007) (e2 fM (eI 100003) (ah 5))) aE))))) (h_ (uV dF (ah 4) (ai (dS 4 zl (ai (ah 6) (ai (ah 7) (ai (ah 8) (ai (ah 9) aE))))) aE)))
     [lO n0,lO L,lO st.length,some (.str [a,b,c]),lO s0.length,iO (i:Int),some (.str nm),iO (n:Nat),iO (lG:Nat),o9] s1):=fun lG L4 UI=>by
   obtain⟨c2,e2'⟩:=qI (aZ (k0.trans (hp.trans k1)) h0) (2+i)
   have p4:2^nm.length<=4:=cU (by omega) Ks
   have hnn:n*n<=9:=cV (show n<=3 by omega) (show n<=3 by omega)
   have hnp:n*n*2^nm.length<=36:=cV hnn p4
   obtain⟨es,hel,hep,ee⟩:=qJ c2 (300007+100003*(i:Int)) (n+n*n*2^nm.length) (by omega) s1
   have cm1:sK (n:Int) (n:Int):=.inl ⟨by omega,by omega⟩
   have cm2:sK (100003:Int) (i:Int):=.inl (by decide)
   have sh:=OC (a:=n*n) (c:=nm.length) (st:=s1) (by omega) (by omega)
   rw[cX n n]at sh
   rw[dm]at ee
   apply aR
   ·exact b8 (dW (aw (dW (aw kv (aw (bX dv kv fw) bq)) e2' rfl) (aw (bX kv (bX (bX kv kv (jI cm1)) (bT kn (ln _)) sh) fw) (aw (bX dv (bX dv kv (jI cm2)) fw) bq))) ee rfl)
   generalize oZ:s1++[al.lst (es.map W.int)]=s2
   have k2:s1 <+: s2:=by rw[<- oZ];exact ag _ _
   have np2:bU s2:=by rw[<- oZ];exact cG np1' (lh _)
   obtain⟨M,hMn,hMo,eM⟩:=AU nm n lG s1.length es s2 (by omega) (by omega) (by omega) L4 UI (by rw[<- oZ];exact aU) (by rw[hel,gG (2^nm.length)];exact au _)
   have hc2:=aZ (k1.trans k2) hc
   have ap:=mf (y:=M.w) hc2 (by rw[am];omega)
   apply f_
   ·exact jj (rP kv (g_ hc2) (aw (dW (aw kv (aw kv (aw kv kn))) eM rfl) bq) ap)
   ·refine⟨_,_,rfl,Ms++[M],_,_,_,_,_,rfl,iU (hp.trans (k1.trans k2)) (au _),by rw[ki hc2];simp,by simp[hl],fun M' hM'=>?_,zB np2 fun _=>rfl⟩
    rcases br.mp hM' with z|z
    ·exact hM M' z
    ·rw[ba.mp z]
     exact⟨by rw[hMo.gd];exact hMo,by rw[hMo.gd];omega,by rw[hMo.gd];omega,by rw[hMn];exact Ks,by rw[hMn];exact hnu,by rw[hMn];exact hnL⟩
  by_cases ht:d2%3=1
  ·apply aR
   ·apply ur
    ·exact fz (bX (bX (bX kv (bX dv kv fw) (iw (i:=4+i) hd1 hd2i)) dv (j7 (by decide))) dv (qB (by rw[ht];rfl)))
    ·exact b8 (bT (aw dv (aw (bX kv dv (j7 trivial)) bq)) (show E3 [.int 1,.int ((n:Int)-1)] s1=.ok (.int ((max 1 (n-1):Nat):Int)) s1 from by
      show R.ok (W.int (if (1:Int)<(n:Int)-1 then(n:Int)-1 else 1)) s1=_
      rw[show(if (1:Int)<(n:Int)-1 then(n:Int)-1 else 1)=((max 1 (n-1):Nat):Int) by split<;>omega]))
   exact dQ _ (by omega) (by omega)
  ·apply aR
   ·apply ut
    ·exact fz (bX (bX (bX kv (bX dv kv fw) (iw (i:=4+i) hd1 hd2i)) dv (j7 (by decide))) dv (qB (bx.mpr ht)))
    ·exact w6
   exact dQ n (by omega) (by omega)
 ·rintro ρ s ⟨Ms,o5,o6,o7,o8,o9,rfl,hp,hc,hl,hM,nps⟩
  have hl:Ms.length=2:=hl
  obtain⟨A,B,rfl⟩:∃A B,Ms=[A,B]:=by
   match Ms,hl with
   |[A,B],_=>exact⟨A,B,rfl⟩
  obtain⟨x,rfl⟩:=k0.trans hp
  have hle:st.length<=s0.length:=k0.length_le
  apply dh
  ·exact gZ rfl
  ·refine⟨_,_,rfl,s0.length-st.length,x,by rw[show st.length+(s0.length-st.length)=s0.length by omega],rfl,A,B,hM A (by simp),hM B (by simp),nps,?_⟩
   rw[bw hle]at hc
   exact hc
structure j8(ps:List Mc):Prop where
 ln:ps.length=1\/ps.length=2
 ok:∀M∈ps,OB M
def gn(ps:List Mc)(i:Nat):Nat:=(gM ps i).gd.length
def nB(ps:List Mc):Nat:=if ps.length=2 then gn ps 1 else 1
def cnt(ps:List Mc):Nat:=gn ps 0*nB ps
def jV(ps:List Mc)(k:Nat):List Nat:=if ps.length=2 then[k%cnt ps/nB ps,k%cnt ps%nB ps]else[k%cnt ps]
def Cc(ps:List Mc)(r:List Nat):Nat:=if ps.length=2 then r.getD 0 0*nB ps+r.getD 1 0 else r.getD 0 0
theorem j8.gn{ps:List Mc}(h:j8 ps){i:Nat}(hi:i<ps.length):1<=gn ps i/\gn ps i<=3:=⟨(h.ok _ (nn hi)).lo,(h.ok _ (nn hi)).hi⟩
theorem j8.nB{ps:List Mc}(h:j8 ps):1<=nB ps/\nB ps<=3:=by
 unfold P.nB
 split
 ·exact h.gn (by omega)
 ·omega
theorem j8.ms{ps:List Mc}(h:j8 ps):zv ps:=fun M hM=>(h.ok M hM).ok
theorem j8.cnt{ps:List Mc}(h:j8 ps):1<=cnt ps/\cnt ps<=9:=by
 have h1:=h.gn (i:=0) (by have:=h.ln;omega)
 have h2:=h.nB
 exact⟨cV h1.1 h2.1,cV h1.2 h2.2⟩
theorem iz{ps:List Mc}(h:j8 ps)(k:Nat):(jV ps k).length=ps.length:=by
 unfold jV
 rcases h.ln with z|z<;>rw[z]<;>simp
theorem LV{P:Nat->Prop}(h:i<2)(h0:P 0)(h1:P 1):P i:=by
 obtain rfl|rfl:i=0\/i=1:=by omega
 ·exact h0
 ·exact h1
theorem oK{ps:List Mc}(h:j8 ps)(k:Nat):kE ps (jV ps k):=by
 refine⟨iz h k,fun i hi=>?_⟩
 have hc:=h.cnt
 have hm:k%cnt ps<gn ps 0*nB ps:=io _ (by omega)
 have hb:=h.nB
 rcases h.ln with z|z
 ·have:i=0:=by omega
  subst this
  have e:nB ps=1:=by unfold P.nB;rw[az (by omega)]
  rw[e,ke]at hm
  unfold jV;rw[az (by omega)];exact hm
 ·unfold jV;rw[av z]
  have e:nB ps=gn ps 1:=by unfold P.nB;rw[av z]
  refine LV (P:=fun i=>[k%cnt ps/nB ps,k%cnt ps%nB ps].getD i 0<gn ps i) (by omega) ?_ ?_
  ·show k%cnt ps/nB ps<_
   exact Nat.div_lt_of_lt_mul (by rw[gG];exact hm)
  ·show k%cnt ps%nB ps<_
   rw[<- e];exact io _ (by omega)
theorem OE{r:List Nat}(h:r.length=1):r=[r.getD 0 0]:=by
 match r,h with
 |[x],_=>rfl
theorem OF{r:List Nat}(h:r.length=2):r=[r.getD 0 0,r.getD 1 0]:=by
 match r,h with
 |[x,y],_=>rfl
theorem Cd{ps:List Mc}(h:j8 ps){r:List Nat}(hr:kE ps r):Cc ps r<cnt ps/\∀t,jV ps (Cc ps r+cnt ps*t)=r:=by
 have hb:=h.nB
 have h0:=hr.2 0 (by have:=h.ln;omega)
 rcases h.ln with z|z
 ·have e:nB ps=1:=by unfold P.nB;rw[az (by omega)]
  have en:Cc ps r=r.getD 0 0:=by unfold Cc;rw[az (by omega)]
  have ec:cnt ps=gn ps 0:=by unfold P.cnt;rw[e,ke]
  have hl:Cc ps r<cnt ps:=by rw[en,ec];exact h0
  refine⟨hl,fun t=>?_⟩
  unfold jV
  rw[az (by omega),fQ,iE hl,en]
  exact(OE (by rw[hr.1,z])).symm
 ·have e:nB ps=gn ps 1:=by unfold P.nB;rw[av z]
  have h1:=hr.2 1 (by omega)
  have en:Cc ps r=r.getD 0 0*nB ps+r.getD 1 0:=by unfold Cc;rw[av z]
  have h1':r.getD 1 0<nB ps:=by rw[e];exact h1
  have hl:Cc ps r<cnt ps:=by
   rw[en]
   unfold P.cnt
   have:(r.getD 0 0+1)*nB ps<=gn ps 0*nB ps:=Nat.mul_le_mul_right _ h0
   rw[Nat.add_mul,Nat.one_mul]at this
   omega
  refine⟨hl,fun t=>?_⟩
  unfold jV
  rw[av z,fQ,iE hl,en,gG,Nat.mul_add_div (by omega),mT h1',Nat.mul_add_mod,iE h1',fY]
  exact(OF (by rw[hr.1,z])).symm
def hm(m s k:Nat):Nat:=if k=0 then 0 else 1+(k-1+s)%(m-1)
def pl(m s x:Nat):Nat:=if x=0 then 0 else 1+(x-1+((m-1)-s%(m-1)))%(m-1)
theorem zC{s k:Nat}(h:k<m):hm m s k<m:=by
 unfold hm
 split
 ·omega
 ·have:=io (k-1+s) (show m-1>0 by omega);omega
theorem Ce{s k:Nat}(h:k<m):pl m s k<m:=by
 unfold pl
 split
 ·omega
 ·have:=io (k-1+((m-1)-s%(m-1))) (show m-1>0 by omega);omega
theorem zD{M a s:Nat}(ha:a<M):((a+(M-s%M))%M+s)%M=a/\((a+s)%M+(M-s%M))%M=a:=by
 have hs:=io s (show M>0 by omega)
 have e:s=s%M+M*(s/M):=(Nat.mod_add_div s M).symm
 constructor
 ·rw[Nat.mod_add_mod,show a+(M-s%M)+s=a+M*(s/M+1) by rw[Nat.mul_add,ke];omega,fQ,iE ha]
 ·rw[Nat.mod_add_mod,show a+s+(M-s%M)=a+M*(s/M+1) by rw[Nat.mul_add,ke];omega,fQ,iE ha]
theorem LW{s x:Nat}(h:x<m):hm m s (pl m s x)=x:=by
 unfold pl
 by_cases z:x=0
 ·rw[av z];subst z;rfl
 ·rw[az z]
  unfold hm
  rw[az (by omega),show 1+(x-1+((m-1)-s%(m-1)))%(m-1)-1=(x-1+((m-1)-s%(m-1)))%(m-1) by omega,(zD (M:=m-1) (a:=x-1) (s:=s) (by omega)).1];omega
theorem zE{s x:Nat}(h:x<m):pl m s (hm m s x)=x:=by
 unfold hm
 by_cases z:x=0
 ·rw[av z];subst z;rfl
 ·rw[az z]
  unfold pl
  rw[az (by omega),show 1+(x-1+s)%(m-1)-1=(x-1+s)%(m-1) by omega,(zD (M:=m-1) (a:=x-1) (s:=s) (by omega)).2];omega
theorem xw{m s n:Nat}(h:n<=m):((List.range n).map (hm m s)).Nodup:=by
 refine l6.mpr (List.Pairwise.imp_of_mem ?_ List.nodup_range)
 intro a b ha hb hne e
 have ha:=bI.mp ha
 have hb:=bI.mp hb
 exact hne (by rw[<- zE (s:=s) (show a<m by omega),e,zE (by omega)])
section
variable(ps:List Mc)(nm:List Nat)(tw s k:Nat)
def ie:Nat:=cnt ps*(1+tw)
def iI(i:Nat):List Nat:=jV ps i++[hm (ie ps tw) s i]
def J'(i:Nat):Bool:=rY k (sT ps (jV ps i))
def LX(q l r:Nat):Nat:=Cc ps (led ps nm q (jV ps (pl (ie ps tw) s l)) (jV ps (pl (ie ps tw) s r)))+cnt ps*((l+r+q)%(1+tw))
def xy(q l r:Nat):Nat:=hm (ie ps tw) s (LX ps nm tw s q l r)
def DP:List (List (List Nat)):=(List.range (2^nm.length)).map fun q=>(List.range (ie ps tw)).map fun l=>(List.range (ie ps tw)).map fun r=>xy ps nm tw s q l r
def Md:Mc:=⟨nm,(List.range (ie ps tw)).map fun x=>J' ps k (pl (ie ps tw) s x),DP ps nm tw s⟩
def iF:List (List Nat):=(List.range (ie ps tw)).map (iI ps tw s)
end
section
variable{ps:List Mc}{nm:List Nat}{tw s k:Nat}
theorem xz(h:j8 ps)(v5:nm.Nodup){r:List Nat}(hl:kE ps l)(hr:kE ps r):kE ps (led ps nm q l r):=by
 refine⟨by simp[led],fun i hi=>?_⟩
 obtain⟨t,jW,_,_,_,_,_,e⟩:=vW (h.ms _ (nn hi)) (vT v5 q) (hl.2 i hi) (hr.2 i hi)
 unfold led
 rw[aC,ak,bf hi]
 exact e
theorem AY(h:j8 ps)(v5:nm.Nodup)(q l r:Nat):LX ps nm tw s q l r<ie ps tw:=by
 have e:=(Cd h (xz h v5 (q:=q) (oK h (pl (ie ps tw) s l)) (oK h (pl (ie ps tw) s r)))).1
 have:(l+r+q)%(1+tw)<1+tw:=io _ (by omega)
 have h2:cnt ps*((l+r+q)%(1+tw))<=cnt ps*tw:=Nat.mul_le_mul_left _ (by omega)
 have h3:ie ps tw=cnt ps+cnt ps*tw:=by unfold ie;rw[Nat.mul_add,ke]
 unfold LX
 generalize Cc ps (led ps nm q (jV ps (pl (ie ps tw) s l)) (jV ps (pl (ie ps tw) s r)))=e0 at e
 omega
theorem xA(h:j8 ps):1<=ie ps tw:=cV h.cnt.1 (show 1<=1+tw by omega)
theorem xB(h:j8 ps)(ht:tw<=1):ie ps tw<=18:=cV h.cnt.2 (show 1+tw<=2 by omega)
theorem RG(h:j8 ps)(v5:nm.Nodup):JU (Md ps nm tw s k) (ie ps tw):=by
 refine⟨by simp[Md],by simp[Md,DP],fun t ht=>?_⟩
 obtain⟨q,_,rfl⟩:=aJ.mp ht
 refine⟨by simp,fun r hr=>?_⟩
 obtain⟨l,_,rfl⟩:=aJ.mp hr
 refine⟨by simp,fun x hx=>?_⟩
 obtain⟨r,_,rfl⟩:=aJ.mp hx
 exact zC (AY h v5 q l r)
theorem G1:(Md ps nm tw s k).gd.length=ie ps tw:=by simp[Md]
theorem li{f:Nat->α}(d:α)(h:i<n):((List.range n).map f).getD i d=f i:=by
 rw[aC,ak,bf h];rfl
theorem mH{x:Nat}(h:i<l.length):(l++[x]).getD i 0=l.getD i 0:=by
 rw[aC,aC,a_ h]
theorem oY{x:Nat}(h:l.length=n):(l++[x]).getD n 0=x:=by
 rw[aC,<- h,bw (au _),kO];rfl
theorem G3{M:Mc}{x y:Nat}{r:List Nat}(hl:l.length=ps.length)(hr:r.length=ps.length):led (ps++[M]) nm q (l++[x]) (r++[y])=led ps nm q l r++[DM M nm q x y]:=by
 unfold led
 rw[aF,fL,eS,bG]
 congr 1
 ·refine bO fun i hi=>?_
  have hi:=bI.mp hi
  rw[AW hi,mH (by omega),mH (by omega)]
 ·show[DM (gM (ps++[M]) ps.length) nm q ((l++[x]).getD ps.length 0) ((r++[y]).getD ps.length 0)]=_
  rw[xq,oY hl,oY hr]
theorem RH(h:j8 ps)(v5:nm.Nodup)(hq:q<2^nm.length)(hi:i<ie ps tw)(hj:j<ie ps tw) :
  led (ps++[Md ps nm tw s k]) nm q (iI ps tw s i) (iI ps tw s j)=iI ps tw s (LX ps nm tw s q (hm (ie ps tw) s i) (hm (ie ps tw) s j)):=by
 unfold iI
 rw[G3 (iz h i) (iz h j)]
 have e:=(Cd h (xz h v5 (q:=q) (oK h i) (oK h j))).2
 have e1:jV ps (LX ps nm tw s q (hm (ie ps tw) s i) (hm (ie ps tw) s j))=led ps nm q (jV ps i) (jV ps j):=by
  unfold LX
  rw[zE hi,zE hj];exact e _
 rw[e1]
 congr 2
 unfold DM Md DP
 show(List.getD (List.getD (List.getD _ (Th nm nm q) []) _ []) _ 0)=_
 rw[JX (fun c hc=>hc) hq,li [] hq,li [] (zC hi),li 0 (zC hj)]
 rfl
theorem Ka(h:j8 ps)(i x:Nat):sT ps (jV ps i++[x])=sT ps (jV ps i):=by
 unfold sT
 refine bO fun j hj=>?_
 rw[mH (by rw[iz h];exact bI.mp hj)]
theorem OG(h:j8 ps)(hi:i<ie ps tw):kE (ps++[Md ps nm tw s k]) (iI ps tw s i):=by
 refine⟨by unfold iI;simp[iz h],fun j hj=>?_⟩
 unfold iI
 have hj:j<=ps.length:=by simp at hj;omega
 rcases jp j ps.length with z|z
 ·rw[AW z,mH (by rw[iz h];exact z)];exact(oK h i).2 j z
 ·have:j=ps.length:=by omega
  subst this
  rw[xq,oY (iz h i),G1];exact zC hi
theorem RI(h:j8 ps)(hi:i<ie ps tw):(Md ps nm tw s k).gd.getD ((iI ps tw s i).getD ps.length 0) false=rY k (sT ps (iI ps tw s i)):=by
 unfold iI
 rw[oY (iz h i),Ka h]
 unfold Md
 rw[li false (zC hi),zE hi];rfl
theorem RJ(h:j8 ps):iI ps tw s 0=List.replicate (ps.length+1) 0:=by
 unfold iI jV hm
 rcases h.ln with z|z<;>rw[z]<;>simp[Nat.zero_mod,List.replicate]
end
def dI(f:α->Nat)(g:α->W)(l:List α):List (DK×W):=l.map fun a=>(DK.i (f a:Nat),g a)
section
variable{f:α->Nat}{g:α->W}{l:List α}
theorem G4(q:Nat)(a:α):decide ((DK.i (f a:Nat))=DK.i (q:Nat))=decide (f a=q):=by
 rw[Bool.eq_iff_iff,cS,cS]
 constructor
 ·intro h;injection h with h;omega
 ·intro h;rw[h]
theorem OH(q:Nat):ua (dI f g l) (.i q)=(l.find? fun a=>decide (f a=q)).map g:=by
 unfold ua dI
 rw[List.find?_map]
 simp only[lY,G4,Option.map_map]
theorem LY{a:α}(h:(l.map f).Nodup)(ha:a∈l):ua (dI f g l) (.i (f a:Nat))=some (g a):=by
 rw[OH]
 induction l with
 |nil=>cases ha
 |cons b l ih=>
  simp only[aI,bF]at h
  rw[ce]
  rcases aG.mp ha with rfl|ha'
  ·simp
  ·have:f b≠f a:=fun z=>h.1 (z▸aJ.mpr ⟨a,ha',rfl⟩)
   rw[show decide (f b=f a)=false from aH this]
   exact ih h.2 ha'
theorem G5{a:α}(h:f a∉l.map f):rF (dI f g l) (.i (f a:Nat)) (g a)=dI f g (l++[a]):=by
 unfold rF
 rw[az]
 ·unfold dI;rw[bG];rfl
 ·intro z
  unfold dI at z
  rw[List.any_map,List.any_eq_true]at z
  obtain⟨x,hx,e⟩:=z
  simp only[lY,G4,cS]at e
  exact h (aJ.mpr ⟨x,hx,e⟩)
theorem G6:(dI f g l).length=l.length:=by simp[dI]
end
section
variable{kvs:List (DK×W)}
theorem Cf(h:st[n]?=some (.dct kvs)):ub st (.loc n)=some (n,kvs):=by simp only[ub,h]
theorem OI(h:st[n]?=some (.dct kvs)):Dh st (.loc n)=some (n,kvs):=by simp only[Dh,h]
theorem LZ{w:W}(h:ub st (.loc n)=some (n,kvs))(hb:ua kvs (.i q)=some w):wK (.loc n) (.int q) st=.ok w st:=by
 simp only[wK,h,nM,hb,df]
theorem OJ{q:Nat}{v:W}(h:st[n]?=some (.dct kvs))(hl:kvs.length<jx):yK (.loc n) (.int q) v st=some (st.set n (.dct (rF kvs (.i q) v))):=by
 simp only[yK,OI h,nM];rw[av hl]
end
theorem zF{f:α->Nat}{g:α->W}:∀(l acc:List α),((acc++l).map f).Nodup->jh (dI f g acc) (dI f g l)=dI f g (acc++l)
 |[],acc,_=>by rw[cW];rfl
 |a::l,acc,h=>by
  show jh (rF (dI f g acc) (.i (f a:Nat)) (g a)) (dI f g l)=_
  rw[G5,zF l (acc++[a]) (by rw[a8];exact h),a8];rfl
  intro z
  rw[bG,aI,f7]at h
  exact h.2.2 _ z _ (by simp) rfl
theorem zG{f:α->Nat}{g:α->W}:∀l:List α,ma (l.map fun a=>.tup [.int (f a:Nat),g a])=some (dI f g l)
 |[]=>rfl
 |a::l=>by
  rw[aI]
  simp only[ma,nM,zG l];rfl
def sU(ps:List Mc)(r:List Nat):Nat->Nat
 |0=>0
 |j+1=>sU ps r j*gn ps j+r.getD j 0
theorem G7{ps:List Mc}(h:j8 ps)(r:List Nat):sU ps r ps.length=Cc ps r:=by
 unfold Cc nB
 rcases h.ln with z|z
 ·rw[z,az (by omega)];simp[sU]
 ·rw[z,av rfl,av rfl];simp[sU]
theorem qM{s:List al}{p:Nat}{f:Nat->Nat}(h:s[p]?=some (.lst (nW ((List.range n).map f))))(hi:i<n):bW (.loc p) (.int i) s=.ok (.int (f i:Nat)) s:=B' h (by rw[ak,bf hi];rfl)
theorem AZ{s:List al}{p:Nat}{ps:List Mc}(h:s[p]?=some (.lst (ps.map Mc.w)))(hi:i<ps.length):bW (.loc p) (.int i) s=.ok (gM ps i).w s:=oH (aT h) (gk (by rw[ak,sB hi];rfl))
theorem xC{s:List al}(hi:i<l.length):bW (aW l) (.int i) s=.ok (.int (l.getD i 0:Nat)) s:=xi (dC 0 hi)
section
variable{ps:List Mc}{nm:List Nat}{tw sh:Nat}
theorem iY(f:Nat->α)(i:Nat):(List.range (i+1)).map f=(List.range i).map f++[f i]:=by rw[eS,bG];rfl
theorem DQ(h:j8 ps)(ht:tw<=1)(Km:nm.length<=5)(uM:nm.Pairwise (· < ·))(ve:∀M∈ps,∀c∈M.nm,c∈nm){pp pr ph:Nat}(cp:st[pp]?=some (.lst (ps.map Mc.w)))(cr:st[pr]?=some (.lst ((iF ps tw sh).map aW)))(ch:st[ph]?=some (.lst (nW ((List.range (ie ps tw)).map (hm (ie ps tw) sh))))) :
  B3 [.loc pp,.str nm,.loc pr,.loc ph,.int (cnt ps:Nat)] st=.ok (.tup ((DP ps nm tw sh).map iy)) st:=by
 obtain⟨m,hm'⟩:∃m,m=ie ps tw:=⟨_,rfl⟩
 have hm1:1<=m:=by rw[hm'];exact xA h
 have hm18:m<=18:=by rw[hm'];exact xB h ht
 have qf:nm.Nodup:=uM.imp fun z=>aN z
 have mI:ps.length<=2:=by have:=h.ln;omega
 have hp32:2^nm.length<=32:=cU (by omega) Km
 have hcn:=h.cnt
 rw[<- hm']at ch
 obtain⟨N,hN⟩:∃N,N=2^nm.length:=⟨_,rfl⟩
 have shN:∀s:List al,rh (.int 1) (.int nm.length) s=.ok (.int (N:Nat)) s:=fun s=>by rw[hN];exact Bh (by omega)
 rw[<- hN]at hp32
 refine jJ (N:=21) (ws:=[.loc pp,.str nm,.loc pr,.loc ph,.int (cnt ps:Nat)]) (body:=LM) ?_ (by simp only[undWs,gb,W.und];exact uC _ _)
 have lnh:∀s,st <+: s->dE [.loc ph] s=.ok (.int (m:Nat)) s:=fun s hs=>by rw[me (aT (aZ hs ch))];simp[nW]
 apply aR
 ·exact b8 (bT kn (lnh st (ac _)))
 have ec:=fW (cap:=[none,some 3]) (fi:=bn (ai (ah 5) aE)) (f:=eA 0) (el:=jY (ai (e2 bW (ah 1) (ah 0)) (ai (ah 0) aE))) (ρ:=[lO pp,some (.str nm),lO pr,lO ph,iO (cnt ps:Nat),iO (m:Nat),none,none,none,none,none,none,none,none,none,none,none,none,none,none,none]) (st:=st) (st1:=st)
  ((List.range m).map fun i=>W.tup [.int (hm m sh i:Nat),.int (i:Nat)]) (cF (q:=(m:Int)) kn (by omega)) (by rw[bu];show _<=1000000;omega) trivial (by simp[bu]) fun i w hw=>by
   obtain⟨hi,rfl⟩:=cC hw
   rw[aB]at hi
   rw[cu]
   exact⟨_,_,by rw[ak,bf hi];rfl,rfl,j6 (aw (bX kv kv (qM ch hi)) kn) (ay rfl)⟩
 have ed:=JL (st:=st++[.lst ((List.range m).map fun i=>W.tup [.int (hm m sh i:Nat),.int (i:Nat)])]) (n:=st.length) (kvs:=dI (hm m sh) (fun i=>W.int (i:Nat)) (List.range m)) aU (zG _) (by rw[G6];simp;omega)
 rw[show jh [] (dI (hm m sh) (fun i=>W.int (i:Nat)) (List.range m))=dI (hm m sh) (fun i=>W.int (i:Nat)) (List.range m)from zF (List.range m) [] (xw (au m))]at ed
 apply aR
 ·exact b8 (bT (aw ec bq) ed)
 generalize tf:st++[al.lst ((List.range m).map fun i=>W.tup [.int (hm m sh i:Nat),.int (i:Nat)])]=s1
 generalize zU:s1++[al.dct (dI (hm m sh) (fun i=>W.int (i:Nat)) (List.range m))]=s0
 have k0:st <+: s0:=by rw[<- zU,<- tf];exact(ag _ _).trans (ag _ _)
 have OX:s0[s1.length]?=some (.dct (dI (hm m sh) (fun i=>W.int (i:Nat)) (List.range m))):=by rw[<- zU];exact aU
 have plc:∀s,s0 <+: s->∀x,x<m->wK (.loc s1.length) (.int (x:Nat)) s=.ok (.int (pl m sh x:Nat)) s:=fun s hs x hx=>by
  have:=LY (f:=hm m sh) (g:=fun i=>W.int (i:Nat)) (l:=List.range m) (a:=pl m sh x) (xw (au m)) (bI.mpr (Ce hx))
  rw[LW hx]at this
  exact LZ (Cf (aZ hs OX)) this
 have rws:∀s,s0 <+: s->∀i,i<m->bW (.loc pr) (.int (i:Nat)) s=.ok (aW (iI ps tw sh i)) s:=fun s hs i hi=>by
  refine oH (aT (aZ (k0.trans hs) cr)) (gk ?_)
  unfold iF
  rw[aM,ak,bf (by rw[<- hm'];exact hi)];rfl
 apply aR
 ·(walk_at "evs")
 have ln:∀s,dE [.str nm] s=.ok (.int nm.length) s:=fun s=>m9 (by show _<=1000000;omega)
 refine fx (fun i ρ s=>∃(o8 o9 o10 o11 zV xR D8 D6 D3 D7 zW zZ zX:Option W),ρ=[lO pp,some (.str nm),lO pr,lO ph,iO (cnt ps:Nat),iO (m:Nat),lO s1.length,lO s0.length,o8,o9,o10,o11,zV,xR,D8,D6,D3,D7,zW,zZ,zX]/\s0 <+: s/\s[s0.length]?=some (.lst (((List.range i).map fun q=>(List.range m).map fun l=>(List.range m).map fun r=>xy ps nm tw sh q l r).map iy)))
  (cF (q:=(N:Int)) (st1:=s0++[al.lst []]) (aw (bX dv (bT kn (ln _)) (shN _)) bq) (by omega)) ⟨none,none,none,none,none,none,none,none,none,none,none,none,none,rfl,ag _ _,aU⟩ (fun _ _ _ _=>trivial) ?_ ?_
 ·rintro q w ρ s hw ⟨o8,o9,o10,o11,zV,xR,D8,D6,D3,D7,zW,zZ,zX,rfl,hp,hc⟩
  obtain⟨hq,rfl⟩:=cC hw
  rw[aB]at hq
  refine⟨_,rfl,?_⟩
  rw[cu]
  have em:=uG nm.reverse (by rw[eZ];omega) q s
  generalize hmk:kK (hJ nm.reverse q)=mk at em
  have hbit:∀i,i<nm.length->(nm.getD i 0∈mk↔q/2^(nm.length-1-i)%2=1):=fun i hi=>by
   have hrev:nm.reverse.Nodup:=oi.mpr (qf.imp fun h=>h.symm)
   have:=uH hrev (d:=q) (i:=nm.length-1-i) (by rw[eZ];omega)
   rw[hmk]at this
   rw[<- this,aC,aC,jC (by omega),show nm.length-1-(nm.length-1-i)=i by omega]
  have hlet:∀M∈ps,kj mk M.nm=Th M.nm nm q:=fun M hM=>LU ⟨(h.ok M hM).up,ve M hM⟩ uM hbit
  apply aR
  ·exact b8 (dW (aw (Oz kv (by show _<=1000000;omega)) kn) em rfl)
  have cps:=aZ (k0.trans hp) cp
  have el:=fW (cap:=[none,some 9]) (fi:=eQ (ah 0)) (f:=eA 0) (el:=dS 2 sy (ai (e2 bW (ah 0) (eI 0)) (ai (ah 1) aE))) (ρ:=[lO pp,some (.str nm),lO pr,lO ph,iO (cnt ps:Nat),iO (m:Nat),lO s1.length,lO s0.length,iO (q:Int),some (.str mk),o10,o11,zV,xR,D8,D6,D3,D7,zW,zZ,zX]) (st:=s) (st1:=s)
   (nW (ps.map fun M=>Th M.nm nm q)) (m_ kv (aT cps)) (by rw[am];show _<=1000000;omega) (aT cps) (by simp[nW]) fun i w hw=>by
    rw[ak,be]at hw
    obtain⟨M,hM,rfl⟩:=hw
    refine⟨_,_,?_,rfl,dW (aw (bX kv dv rfl) kn) (uD M.nm mk s) rfl⟩
    rw[hlet M (aY hM)]
    unfold nW
    rw[aM,ak,hM];rfl
  apply aR
  ·exact zn el rfl
  generalize oZ:s++[al.lst (nW (ps.map fun M=>Th M.nm nm q))]=s2
  have k2:s <+: s2:=by rw[<- oZ];exact ag _ _
  have hlt2:s2[s.length]?=some (.lst (nW (ps.map fun M=>Th M.nm nm q))):=by rw[<- oZ];exact aU
  apply aR
  ·(walk_at "evs")
  refine fx (fun i ρ z=>∃(zV xR D8 D6 D3 D7 zW zZ zX:Option W),ρ=[lO pp,some (.str nm),lO pr,lO ph,iO (cnt ps:Nat),iO (m:Nat),lO s1.length,lO s0.length,iO (q:Int),some (.str mk),lO s.length,lO s2.length,zV,xR,D8,D6,D3,D7,zW,zZ,zX]/\s2 <+: z/\z[s2.length]?=some (.lst (((List.range i).map fun l=>(List.range m).map fun r=>xy ps nm tw sh q l r).map aW)))
   (cF (q:=(m:Int)) (st1:=s2++[al.lst []]) kn (by omega)) ⟨_,_,_,_,_,_,_,_,_,rfl,ag _ _,aU⟩ (fun _ _ _ _=>trivial) ?_ ?_
  ·rintro l w ρ z hw ⟨zV,xR,D8,D6,D3,D7,zW,zZ,zX,rfl,hz,hcz⟩
   obtain⟨hl,rfl⟩:=cC hw
   rw[aB]at hl
   refine⟨_,rfl,?_⟩
   rw[cu]
   apply aR
   ·(walk_at "evs")
   refine fx (fun i ρ y=>∃(D8 D6 D3 D7 zW zZ zX:Option W),ρ=[lO pp,some (.str nm),lO pr,lO ph,iO (cnt ps:Nat),iO (m:Nat),lO s1.length,lO s0.length,iO (q:Int),some (.str mk),lO s.length,lO s2.length,iO (l:Int),lO z.length,D8,D6,D3,D7,zW,zZ,zX]/\z <+: y/\y[z.length]?=some (.lst (nW ((List.range i).map fun r=>xy ps nm tw sh q l r))))
    (cF (q:=(m:Int)) (st1:=z++[al.lst []]) kn (by omega)) ⟨_,_,_,_,_,_,_,rfl,ag _ _,aU⟩ (fun _ _ _ _=>trivial) ?_ ?_
   ·rintro r w ρ y hw ⟨D8,D6,D3,D7,zW,zZ,zX,rfl,hy,hcy⟩
    obtain⟨hr,rfl⟩:=cC hw
    rw[aB]at hr
    refine⟨_,rfl,?_⟩
    rw[cu]
    have ky:s0 <+: y:=hp.trans (k2.trans (hz.trans hy))
    have cpy:=aZ (k0.trans ky) cp
    have clt:=aZ (hz.trans hy) hlt2
    apply aR
    ·exact b8 (bX kv (bX kv kv (plc y ky l hl)) (rws y ky _ (Ce hl)))
    apply aR
    ·exact b8 (bX kv (bX kv kv (plc y ky r hr)) (rws y ky _ (Ce hr)))
    apply aR
    ·exact b8 dv
    have hL:=oK h (pl m sh l)
    have hR:=oK h (pl m sh r)
    have hld:=xz h qf (q:=q) hL hR
    refine fx (fun i ρ y'=>∃(zW zZ zX:Option W),ρ=[lO pp,some (.str nm),lO pr,lO ph,iO (cnt ps:Nat),iO (m:Nat),lO s1.length,lO s0.length,iO (q:Int),some (.str mk),lO s.length,lO s2.length,iO (l:Int),lO z.length,iO (r:Int),some (aW (iI ps tw sh (pl m sh l))),some (aW (iI ps tw sh (pl m sh r))),iO (sU ps (led ps nm q (jV ps (pl m sh l)) (jV ps (pl m sh r))) i:Nat),zW,zZ,zX]/\y'=y/\sU ps (led ps nm q (jV ps (pl m sh l)) (jV ps (pl m sh r))) i<=100)
     (cF (q:=(ps.length:Int)) (st1:=y) (aw (bT kn (by rw[me (aT cpy),am])) bq) (by omega)) ⟨_,_,_,rfl,rfl,cQ _⟩ (fun _ _ _ _=>trivial) ?_ ?_
    ·rintro i w ρ y' hw ⟨zW,zZ,zX,rfl,rfl,hle⟩
     obtain⟨hi,rfl⟩:=cC hw
     rw[aB]at hi
     refine⟨_,rfl,?_⟩
     rw[cu]
     obtain⟨t,jW,e1,e2,e3,e4,e5,e6⟩:=vW (h.ms _ (nn hi)) (vT qf q) (hL.2 i hi) (hR.2 i hi)
     have i0:bW (.tup ((gM ps i).tb.map iy)) (.int (Th (gM ps i).nm nm q:Nat)) y'=.ok (iy t) y':=nN (gk (by rw[ak,e1];rfl))
     have il:bW (.loc s.length) (.int (i:Int)) y'=.ok (.int (Th (gM ps i).nm nm q:Nat)) y':=B' clt (by rw[ak,sB hi];rfl)
     have r1:bW (aW (iI ps tw sh (pl m sh l))) (.int (i:Int)) y'=.ok (.int ((jV ps (pl m sh l)).getD i 0:Nat)) y':=by
      rw[xC (by unfold iI;simp[iz h];omega)];unfold iI;rw[mH (by rw[iz h];exact hi)]
     have r2:bW (aW (iI ps tw sh (pl m sh r))) (.int (i:Int)) y'=.ok (.int ((jV ps (pl m sh r)).getD i 0:Nat)) y':=by
      rw[xC (by unfold iI;simp[iz h];omega)];unfold iI;rw[mH (by rw[iz h];exact hi)]
     have hv:(led ps nm q (jV ps (pl m sh l)) (jV ps (pl m sh r))).getD i 0=(((gM ps i).tb.getD (Th (gM ps i).nm nm q) []).getD ((jV ps (pl m sh l)).getD i 0) []).getD ((jV ps (pl m sh r)).getD i 0) 0:=by
      unfold led;rw[li 0 hi];rfl
     have ig:=AZ cpy hi
     have lg:dE [.tup ((gM ps i).gd.map W.bl)] y'=.ok (.int (gn ps i:Nat)) y':=by rw[rR,am];rfl
     have hgn:=h.gn hi
     have hve:(led ps nm q (jV ps (pl m sh l)) (jV ps (pl m sh r))).getD i 0<gn ps i:=hld.2 i hi
     have cm:sK ((sU ps (led ps nm q (jV ps (pl m sh l)) (jV ps (pl m sh r))) i:Nat):Int) (gn ps i:Int):=.inr ⟨by omega,by omega⟩
     apply aR
     ·exact b8 (bX (bX (bX (bX (bX kv kv ig) dv rfl) (bX kv kv il) i0) (bX kv kv r1) (AT e3)) (bX kv kv r2) (xi e5))
     rw[<- hv]
     apply f_
     ·exact b8 (bX (bX kv (bT (aw (bX (bX kv kv ig) dv (vY _ _)) bq) lg) (jI cm)) kv fw)
     ·refine⟨_,_,rfl,_,_,_,by rw[<- cX,<- dm];rfl,rfl,?_⟩
      show sU ps _ i*gn ps i+_<=100
      have hi2:i<2:=by omega
      have hb:sU ps (led ps nm q (jV ps (pl m sh l)) (jV ps (pl m sh r))) i<=3:=by
       refine LV (P:=fun i=>i<=ps.length->sU ps (led ps nm q (jV ps (pl m sh l)) (jV ps (pl m sh r))) i<=3) hi2 (fun _=>cQ _) (fun h1=>?_) (by omega)
       have z0:=hld.2 0 (by omega)
       have z1:=h.gn (i:=0) (by omega)
       have e1:∀R:List Nat,sU ps R 1=R.getD 0 0:=fun R=>by simp[sU]
       rw[e1]
       unfold P.gn at z1
       omega
      have:=cV hb hgn.2
      omega
    ·rintro ρ y' ⟨zW,zZ,zX,rfl,rfl,hle⟩
     rw[aB,bu,G7 h]
     have fd:qr (.int (m:Nat)) (.int (cnt ps:Nat)) y'=.ok (.int ((1+tw:Nat):Int)) y':=by
      have e:(m:Int)/(cnt ps:Int)=((1+tw:Nat):Int):=by
       rw[hm'];unfold ie
       rw[<- Int.natCast_ediv,Nat.mul_div_cancel_left _ (by omega)]
      rw[<- e];exact j7 (by omega)
     have D4:=AY (s:=sh) (tw:=tw) h qf q l r
     have twi:(((l:Int)+(r:Int)+(q:Int))%((1+tw:Nat):Int))=(((l+r+q)%(1+tw):Nat):Int):=by
      simp only[jS,dm]
     have hto':Cc ps (led ps nm q (jV ps (pl m sh l)) (jV ps (pl m sh r)))+cnt ps*((l+r+q)%(1+tw))=LX ps nm tw sh q l r:=by unfold LX;rw[<- hm']
     have p0:(0:Int)<((1+tw:Nat):Int):=by omega
     apply aR
     ·exact b8 (bX (bX (bX kv kv fw) kv fw) (bX kv kv fd) (j7 p0))
     rw[twi]
     have cm:sK (cnt ps:Int) (((l+r+q)%(1+tw):Nat):Int):=.inl ⟨by omega,by omega⟩
     have hix:bW (.loc ph) (.int ((Cc ps (led ps nm q (jV ps (pl m sh l)) (jV ps (pl m sh r))):Nat)+(cnt ps:Int)*(((l+r+q)%(1+tw):Nat):Int))) y'=.ok (.int (xy ps nm tw sh q l r:Nat)) y':=by
      rw[<- cX,<- dm,hto',qM (aZ (k0.trans ky) ch) (by rw[hm'];exact D4)]
      unfold xy;rw[<- hm']
     have ap:=mf (y:=W.int (xy ps nm tw sh q l r:Nat)) hcy (by simp[nW];omega)
     apply f_
     ·exact jj (rP kv (g_ hcy) (aw (bX kv (bX kv (bX kv kv (jI cm)) fw) hix) bq) ap)
     ·refine⟨_,_,rfl,_,_,_,_,_,_,_,rfl,iU hy (au _),?_⟩
      rw[ki hcy,iY];simp[nW]
   ·rintro ρ y ⟨D8,D6,D3,D7,zW,zZ,zX,rfl,hy,hcy⟩
    rw[aB,bu]at hcy
    have hcp:=aZ hy hcz
    have ap:=mf (y:=aW ((List.range m).map fun r=>xy ps nm tw sh q l r)) hcp (by simp;omega)
    apply f_
    ·exact jj (rP kv (g_ hcp) (aw (bT kn (gm (aT hcy))) bq) ap)
    ·refine⟨_,_,rfl,_,_,_,_,_,_,_,_,_,rfl,iU (hz.trans hy) (au _),?_⟩
     rw[ki hcp,iY];simp
  ·rintro ρ z ⟨zV,xR,D8,D6,D3,D7,zW,zZ,zX,rfl,hz,hcz⟩
   rw[aB,bu]at hcz
   have hcp:=aZ (k2.trans hz) hc
   have ap:=mf (y:=iy ((List.range m).map fun l=>(List.range m).map fun r=>xy ps nm tw sh q l r)) hcp (by simp;omega)
   apply f_
   ·exact jj (rP kv (g_ hcp) (aw (bT kn (gm (aT hcz))) bq) ap)
   ·refine⟨_,_,rfl,_,_,_,_,_,_,_,_,_,_,_,_,_,rfl,iU (hp.trans (k2.trans hz)) (au _),?_⟩
    rw[ki hcp,iY];simp
 ·rintro ρ s ⟨o8,o9,o10,o11,zV,xR,D8,D6,D3,D7,zW,zZ,zX,rfl,hp,hc⟩
  rw[aB,bu]at hc
  obtain⟨x,rfl⟩:=k0.trans hp
  apply dh
  ·exact bT kn (gm (aT hc))
  ·exact⟨_,_,rfl,by unfold DP;rw[<- hm',<- hN],_,rfl⟩
end
theorem G8{body:FS}{Q:W->List al->Prop}(h:lF (BU fun w bD=>∃x,bD=st++x/\undWs st.length [w]=false/\Q w x) (body (ws.map some++List.replicate (N-ws.length) none) st)):∃w x,Q w x/\fP N body ws st=.ok w (st++x):=by
 obtain⟨w,bD,e,x,rfl,hu,q⟩:=h
 exact⟨w,x,q,by rw[qA e,vN hu]⟩
theorem Cg{k j:Nat}(hk:k<4)(hj:j<4)(s:List al):mU (.str (wd k)) (.str (wd j)) s=.ok (.bl (decide (k=j))) s:=by
 obtain rfl|rfl|rfl|rfl:k=0\/k=1\/k=2\/k=3:=by omega
 all_goals
  obtain rfl|rfl|rfl|rfl:j=0\/j=1\/j=2\/j=3:=by omega
  all_goals rfl
theorem RL(a b:Bool)(s:List al):KJ (.bl a) (.bl b) s=.ok (.bl (a != b)) s:=by cases a<;>cases b<;>rfl
section
variable{k:Nat}{g:List Bool}{s:List al}{p:Nat}
theorem RM(hk:k<4)(h1:1<=g.length)(r0:ρ[0]?=some (some (.str (wd k))))(S8:ρ[12]?=some (lO p))(h:s[p]?=some (.lst (g.map W.bl))) :
  ∃b,(k<2->b=rY k g)/\e2 KJ (e2 bW (ah 12) (eI 0)) (e2 mU (ah 0) (eC (.str [110,111,116]))) ρ s=.ok (.bl b) s:=by
 refine⟨g.getD 0 false != decide (k=1),fun z=>?_,bX (bX (gZ S8) dv (vX (i:=0) h (by omega))) (bX (gZ r0) dv (Cg (j:=1) hk (by omega) s)) (RL _ _ _)⟩
 obtain rfl|rfl:k=0\/k=1:=by omega
 ·simp[rY]
 ·simp[rY]
theorem L0(hk:k<4)(r0:ρ[0]?=some (some (.str (wd k)))):KG (kI (e2 mU (ah 0) (eC (.str [97,110,100])))) (kI (e2 mU (ah 0) (eC (.str [111,114])))) ρ s=.ok (decide (2<=k)) s:=by
 have:=F4 (t:=kI (e2 mU (ah 0) (eC (.str [97,110,100])))) (u:=kI (e2 mU (ah 0) (eC (.str [111,114])))) (ρ:=ρ) (st:=s) (fz (bX (gZ r0) dv (Cg (j:=2) hk (by omega) s))) (fz (bX (gZ r0) dv (Cg (j:=3) hk (by omega) s)))
 rw[this]
 obtain rfl|rfl|rfl|rfl:k=0\/k=1\/k=2\/k=3:=by omega
 all_goals rfl
theorem RN(hk:k<4)(h2:2<=k)(hg:2<=g.length)(r0:ρ[0]?=some (some (.str (wd k))))(S8:ρ[12]?=some (lO p))(h:s[p]?=some (.lst (g.map W.bl))) :
  M7 (kI (e2 mU (ah 0) (eC (.str [97,110,100])))) (tU (e2 bW (ah 12) (eI 0)) (e2 bW (ah 12) (eI 1))) (KH (e2 bW (ah 12) (eI 0)) (e2 bW (ah 12) (eI 1))) ρ s=.ok (.bl (rY k g)) s:=by
 have t:=fz (bX (fa:=ah 0) (fb:=eC (.str [97,110,100])) (ρ:=ρ) (gZ r0) dv (Cg (j:=2) hk (by omega) s))
 have i0:e2 bW (ah 12) (eI 0) ρ s=.ok (.bl (g.getD 0 false)) s:=bX (gZ S8) dv (vX (i:=0) h (by omega))
 have i1:e2 bW (ah 12) (eI 1) ρ s=.ok (.bl (g.getD 1 false)) s:=bX (gZ S8) dv (vX (i:=1) h (by omega))
 obtain rfl|rfl:k=2\/k=3:=by omega
 ·refine QY t ?_
  show _=R.ok (W.bl (g.getD 0 false&&g.getD 1 false)) s
  generalize g.getD 0 false=a at i0
  cases a
  ·exact BR i0
  ·exact w4 i0 i1
 ·refine QZ t ?_
  show _=R.ok (W.bl (g.getD 0 false||g.getD 1 false)) s
  generalize g.getD 0 false=a at i0
  cases a
  ·exact FY i0 i1
  ·exact FZ i0
end
section
variable{ps:List Mc}{nm:List Nat}{tw sh k:Nat}
theorem G9{a b:Nat}(h:0<b)(s:List al):eW (.int (a:Nat)) (.int (b:Nat)) s=.ok (.int ((a%b:Nat):Int)) s:=by
 rw[jS];exact j7 (show(0:Int)<(b:Int) by omega)
theorem Kb{a b:Nat}(h:0<b)(h2:b<1000)(s:List al):qr (.int (a:Nat)) (.int (b:Nat)) s=.ok (.int ((a/b:Nat):Int)) s:=by
 rw[Int.natCast_ediv];exact j7 ⟨by omega,by omega⟩
theorem Kc(h:j8 ps)(hk:k<4)(Kh:2<=k->ps.length=2)(ht:tw<=1)(Km:nm.length<=5)(uM:nm.Pairwise (· < ·))(ve:∀M∈ps,∀c∈M.nm,c∈nm){pp:Nat}(cp:st[pp]?=some (.lst (ps.map Mc.w)))(np:bU st) :
  ∃(p:Nat) (x:List al),(st++x)[p]?=some (.lst ((iF ps tw sh).map aW))/\bU (st++x)/\B4 [.str (wd k),.loc pp,.str nm,.int (sh:Nat),.int (tw:Nat)] st=.ok (.tup [(Md ps nm tw sh k).w,.loc p]) (st++x):=by
 suffices hh:lF (BU fun w bD=>∃x,bD=st++x/\undWs st.length [w]=false/\∃p,w=.tup [(Md ps nm tw sh k).w,.loc p]/\(st++x)[p]?=some (.lst ((iF ps tw sh).map aW))/\bU (st++x)) (LN ([W.str (wd k),.loc pp,.str nm,.int (sh:Nat),.int (tw:Nat)].map some++List.replicate (15-5) none) st) by
  obtain⟨w,x,⟨p,rfl,a,b⟩,e⟩:=G8 hh
  exact⟨p,x,a,b,e⟩
 obtain⟨m,hm'⟩:∃m,m=ie ps tw:=⟨_,rfl⟩
 have hm1:1<=m:=by rw[hm'];exact xA h
 have hm18:m<=18:=by rw[hm'];exact xB h ht
 have mI:ps.length<=2:=by have:=h.ln;omega
 have hpl1:1<=ps.length:=by have:=h.ln;omega
 have hcn:=h.cnt
 have hg0:=h.gn (i:=0) (by omega)
 have gl:∀(s:List al),st <+: s->∀(i:Nat) (ρ:ca),i<ps.length->ρ[1]?=some (lO pp)->bz dE (ai (e2 bW (e2 bW (ah 1) (eC (.int (i:Nat)))) (eI 1)) aE) ρ s=.ok (.int (gn ps i:Nat)) s:=fun s hs i ρ hi r1=>
  bT (aw (bX (bX (gZ r1) dv (AZ (aZ hs cp) hi)) dv (vY _ _)) bq) (by rw[rR,am];rfl)
 have ll:∀(s:List al),st <+: s->∀(ρ:ca),ρ[1]?=some (lO pp)->kI (e2 mU (bz dE (ai (ah 1) aE)) (eI 2)) ρ s=.ok (decide (ps.length=2)) s:=fun s hs ρ r1=>
  fz (bX (bT (aw (gZ r1) bq) (me (aT (aZ hs cp)))) dv (qB (by
   rw[am]
   by_cases z:ps.length=2
   ·rw[aV z,z];rfl
   ·rw[aH z,bx];omega)))
 apply aR
 ·exact b8 (gl st (ac _) 0 _ (by omega) rfl)
 refine ng (fun ρ s=>ρ=[some (.str (wd k)),lO pp,some (.str nm),iO (sh:Nat),iO (tw:Nat),iO (cnt ps:Nat),none,none,none,none,none,none,none,none,none]/\s=st) ?_ ?_
 ·rcases h.ln with z|z
  ·apply mF
   ·rw[ll st (ac _) _ rfl,aH (by omega)]
   ·refine⟨_,_,rfl,?_,rfl⟩
    have:cnt ps=gn ps 0:=by unfold cnt nB;rw[az (by omega),ke]
    rw[this];rfl
  ·apply oI
   ·rw[ll st (ac _) _ rfl,aV z]
   have R6:=h.gn (i:=1) (by omega)
   have cm:sK (gn ps 0:Int) (gn ps 1:Int):=.inl ⟨by omega,by omega⟩
   refine⟨_,_,b8 (bX kv (gl st (ac _) 1 _ (by omega) rfl) (jI cm)),?_,rfl⟩
   have:cnt ps=gn ps 0*gn ps 1:=by unfold cnt nB;rw[av z]
   rw[this,cX];rfl
 rintro ρ s ⟨rfl,rfl⟩
 have cmc:sK (cnt ps:Int) (1+(tw:Int)):=.inl ⟨by omega,by omega⟩
 apply aR
 ·exact b8 (bX kv (bX dv kv fw) (jI cmc))
 rw[show(cnt ps:Int)*(1+(tw:Int))=(m:Int) by rw[hm'];unfold ie;rw[cX,dm];rfl]
 have e0:gg (ai (eI 0) aE) [some (.str (wd k)),lO pp,some (.str nm),iO (sh:Nat),iO (tw:Nat),iO (cnt ps:Nat),iO (m:Nat),none,none,none,none,none,none,none,none] s=.ok (.loc s.length) (s++[.lst (nW [0])]):=rfl
 have ec:=fW (cap:=[none,some 3,some 6]) (fi:=bn (ai (e2 C3 (ah 6) (eI 1)) aE)) (f:=eA 0) (el:=e2 du (eI 1) (e2 eW (e2 du (ah 0) (ah 1)) (e2 C3 (ah 2) (eI 1)))) (ρ:=[some (.str (wd k)),lO pp,some (.str nm),iO (sh:Nat),iO (tw:Nat),iO (cnt ps:Nat),iO (m:Nat),none,none,none,none,none,none,none,none]) (st:=s++[.lst (nW [0])]) (st1:=s++[.lst (nW [0])])
  (nW ((List.range (m-1)).map fun i=>hm m sh (i+1))) (cF (q:=(m:Int)-1) (aw (bX kv dv (j7 trivial)) bq) (by omega)) (by rw[bu];show _<=1000000;omega) trivial (by simp[nW,bu]) fun i w hw=>by
   obtain⟨hi,rfl⟩:=cC hw
   rw[show((m:Int)-1).toNat=m-1 by omega]at hi
   rw[cu]
   refine⟨.int (hm m sh (i+1):Nat),_,by unfold nW;rw[aM,ak,bf hi];rfl,rfl,?_⟩
   have p0:(0:Int)<(m:Int)-1:=by omega
   have e:(1:Int)+((i:Int)+(sh:Int))%((m:Int)-1)=((hm m sh (i+1):Nat):Int):=by
    unfold hm
    rw[az (by omega),Nat.add_sub_cancel,dm,jS,dm,show((m-1:Nat):Int)=(m:Int)-1 by omega];rfl
   rw[<- e]
   exact bX dv (bX (bX kv kv fw) (bX kv dv (j7 trivial)) (j7 p0)) fw
 generalize tf:s++[al.lst (nW [0])]++[al.lst (nW ((List.range (m-1)).map fun i=>hm m sh (i+1)))]=s1 at ec
 have k1:s <+: s1:=by rw[<- tf];exact(ag _ _).trans (ag _ _)
 have np1':bU s1:=by rw[<- tf];exact cG (cG np (lh _)) (lh _)
 have ea:=rQ (st:=s1) (n:=s.length) (m:=(s++[al.lst (nW [0])]).length) (ws:=nW [0]) (xs:=nW ((List.range (m-1)).map fun i=>hm m sh (i+1))) (by rw[<- tf];exact bN aU) (by rw[<- tf];exact aU) (by simp[nW];show _<=1000000;omega)
 have hhm:nW [0]++nW ((List.range (m-1)).map fun i=>hm m sh (i+1))=nW ((List.range m).map (hm m sh)):=by
  obtain⟨m',rfl⟩:∃m',m=m'+1:=⟨m-1,by omega⟩
  rw[jo,Nat.add_sub_cancel]
  unfold nW
  simp only[aI,iC,aM,List.cons_append,dk];rfl
 rw[hhm]at ea
 apply aR
 ·exact b8 (bX e0 ec ea)
 generalize zU:s1++[al.lst (nW ((List.range m).map (hm m sh)))]=s0
 have k0:s <+: s0:=by rw[<- zU];exact k1.trans (ag _ _)
 have np0:bU s0:=by rw[<- zU];exact cG np1' (lh _)
 have ch:s0[s1.length]?=some (.lst (nW ((List.range m).map (hm m sh)))):=by rw[<- zU];exact aU
 apply aR
 ·exact b8 (show gg aE _ s0=.ok (.loc s0.length) (s0++[.lst []])from rfl)
 apply aR
 ·exact b8 (show yL _ (s0++[al.lst []])=.ok (.loc (s0++[al.lst []]).length) (s0++[al.lst []]++[.dct []])from rfl)
 rw[show(s0++[al.lst []]).length=s0.length+1 by simp]
 refine fx (fun i ρ z=>∃(o10 o11 zV xR:Option W),ρ=[some (.str (wd k)),lO pp,some (.str nm),iO (sh:Nat),iO (tw:Nat),iO (cnt ps:Nat),iO (m:Nat),lO s1.length,lO s0.length,lO (s0.length+1),o10,o11,zV,xR,none]/\s0 <+: z/\z[s0.length]?=some (.lst (((List.range i).map (iI ps tw sh)).map aW))/\z[s0.length+1]?=some (.dct (dI (hm m sh) (fun i=>W.bl (J' ps k i)) (List.range i)))/\bU z)
  (cF (q:=(m:Int)) (st1:=s0++[al.lst []]++[al.dct []]) kn (by omega)) ⟨none,none,none,none,rfl,(ag _ _).trans (ag _ _),bN aU,by rw[show s0.length+1=(s0++[al.lst []]).length by simp];exact aU,cG (cG np0 (lh _)) (P.np1 fun _=>rfl)⟩ (fun _ _ _ _=>trivial) ?_ ?_
 ·rintro i w ρ z hw ⟨o10,o11,zV,xR,rfl,hz,cr,cg,npz⟩
  obtain⟨hi,rfl⟩:=cC hw
  rw[aB]at hi
  refine⟨_,rfl,?_⟩
  rw[cu]
  have md:∀y:List al,eW (.int (i:Int)) (.int (cnt ps:Nat)) y=.ok (.int ((i%cnt ps:Nat):Int)) y:=fun y=>G9 (by omega) y
  have el1:gg (ai (e2 eW (ah 10) (ah 5)) aE) [some (.str (wd k)),lO pp,some (.str nm),iO (sh:Nat),iO (tw:Nat),iO (cnt ps:Nat),iO (m:Nat),lO s1.length,lO s0.length,lO (s0.length+1),iO (i:Int),o11,zV,xR,none] z=.ok (.loc z.length) (z++[.lst (nW [i%cnt ps])]):=
   uq (aw (bX kv kv (md z)) bq) (ay rfl)
  apply aR
  ·exact b8 el1
  refine ng (fun ρ y=>∃p,ρ=[some (.str (wd k)),lO pp,some (.str nm),iO (sh:Nat),iO (tw:Nat),iO (cnt ps:Nat),iO (m:Nat),lO s1.length,lO s0.length,lO (s0.length+1),iO (i:Int),lO p,zV,xR,none]/\z <+: y/\y[p]?=some (.lst (nW (jV ps i)))/\bU y) ?_ ?_
  ·rcases h.ln with hl|hl
   ·apply mF
    ·rw[ll _ (k0.trans (hz.trans (ag _ _))) _ rfl,aH (by omega)]
    ·refine⟨_,_,rfl,z.length,rfl,ag _ _,?_,cG npz (lh _)⟩
     rw[aU];unfold jV;rw[az (by omega)]
   ·apply oI
    ·rw[ll _ (k0.trans (hz.trans (ag _ _))) _ rfl,aV hl]
    have R6:=h.gn (i:=1) (by omega)
    have g1:=fun ρ (r:ρ[1]?=some (lO pp))=>gl (z++[.lst (nW [i%cnt ps])]) (k0.trans (hz.trans (ag _ _))) 1 ρ (by omega) r
    have el2:gg (ai (e2 qr (e2 eW (ah 10) (ah 5)) (bz dE (ai (e2 bW (e2 bW (ah 1) (eI 1)) (eI 1)) aE))) (ai (e2 eW (e2 eW (ah 10) (ah 5)) (bz dE (ai (e2 bW (e2 bW (ah 1) (eI 1)) (eI 1)) aE))) aE)) [some (.str (wd k)),lO pp,some (.str nm),iO (sh:Nat),iO (tw:Nat),iO (cnt ps:Nat),iO (m:Nat),lO s1.length,lO s0.length,lO (s0.length+1),iO (i:Int),lO z.length,zV,xR,none] (z++[.lst (nW [i%cnt ps])])=.ok (.loc (z++[al.lst (nW [i%cnt ps])]).length) (z++[al.lst (nW [i%cnt ps])]++[.lst (nW [i%cnt ps/gn ps 1,i%cnt ps%gn ps 1])]):=
     uq (aw (bX (bX kv kv (md _)) (g1 _ rfl) (Kb (by omega) (by omega) _)) (aw (bX (bX kv kv (md _)) (g1 _ rfl) (G9 (by omega) _)) bq)) (ay rfl)
    refine⟨_,_,b8 el2,_,rfl,(ag _ _).trans (ag _ _),?_,cG (cG npz (lh _)) (lh _)⟩
    rw[aU];unfold jV nB;rw[av hl,av hl]
  rintro ρ y ⟨p,rfl,hy,cpy,npy⟩
  have hr:=oK h i
  have cpp:=aZ (k0.trans (hz.trans hy)) cp
  have c_:(kY (ps.map Mc.w) (nW (jV ps i))).length=ps.length:=by rw[mz,am];unfold nW;rw[am,hr.1];omega
  have eg:=GY (cap:=[none,none]) (fi:=t_ (ai (ah 1) (ai (ah 11) aE))) (f:=D0 2 (fv (eA 0) (fv (eA 1) oB))) (el:=e2 bW (e2 bW (ah 0) (eI 1)) (ah 1)) (ρ:=[some (.str (wd k)),lO pp,some (.str nm),iO (sh:Nat),iO (tw:Nat),iO (cnt ps:Nat),iO (m:Nat),lO s1.length,lO s0.length,lO (s0.length+1),iO (i:Int),lO p,zV,xR,none]) (st:=y) (st1:=y)
   ((sT ps (jV ps i)).map W.bl) (Ox (aw kv kn) (aT cpp) (aT cpy)) (by rw[c_];show _<=1000000;omega) (fun q hq=>by
    simp only[aG,cL,iQ]at hq
    rcases hq with rfl|rfl
    ·exact aT cpp
    ·exact aT cpy) (by rw[c_];simp[sT]) fun j w hw=>by
    obtain⟨x,y',hx,hy',rfl⟩:=kZ hw
    have hj:j<ps.length:=by rw[<- c_];exact(ao.mp hw).1
    rw[ak,sB hj]at hx;cases hx
    unfold nW at hy'
    rw[ak,dC 0 (by rw[hr.1];exact hj)]at hy';cases hy'
    refine⟨_,_,?_,rfl,bX (bX kv dv (vY _ _)) kv (nN (gk (by rw[ak,dC false (hr.2 j hj)];rfl)))⟩
    unfold sT
    rw[aM,ak,bf hj];rfl
  apply aR
  ·exact zn eg rfl
  generalize hy1:y++[al.lst ((sT ps (jV ps i)).map W.bl)]=y1
  have ky1:y <+: y1:=by rw[<- hy1];exact ag _ _
  have npy1:bU y1:=by rw[<- hy1];exact cG npy (lh _)
  have cgd:y1[y.length]?=some (.lst ((sT ps (jV ps i)).map W.bl)):=by rw[<- hy1];exact aU
  have hgl:(sT ps (jV ps i)).length=ps.length:=by simp[sT]
  obtain⟨b,hb,eb⟩:=RM (k:=k) (g:=sT ps (jV ps i)) (ρ:=[some (.str (wd k)),lO pp,some (.str nm),iO (sh:Nat),iO (tw:Nat),iO (cnt ps:Nat),iO (m:Nat),lO s1.length,lO s0.length,lO (s0.length+1),iO (i:Int),lO p,lO y.length,xR,none]) hk (by omega) rfl rfl cgd
  apply aR
  ·exact b8 eb
  refine ng (fun ρ y'=>ρ=[some (.str (wd k)),lO pp,some (.str nm),iO (sh:Nat),iO (tw:Nat),iO (cnt ps:Nat),iO (m:Nat),lO s1.length,lO s0.length,lO (s0.length+1),iO (i:Int),lO p,lO y.length,some (.bl (J' ps k i)),none]/\y'=y1) ?_ ?_
  ·by_cases h2:2<=k
   ·apply oI
    ·rw[L0 hk rfl,aV h2]
    exact⟨_,_,b8 (RN hk h2 (by rw[hgl];have:=Kh h2;omega) rfl rfl cgd),rfl,rfl⟩
   ·apply mF
    ·rw[L0 hk rfl,aH h2]
    exact⟨_,_,rfl,by rw[hb (by omega)];rfl,rfl⟩
  rintro ρ y' ⟨rfl,rfl⟩
  have kz:z <+: y':=hy.trans ky1
  have chy:=aZ (hz.trans kz) ch
  have hix:=qM chy hi
  have cg1:=aZ kz cg
  have es:=OJ (q:=hm m sh i) (v:=W.bl (J' ps k i)) cg1 (by rw[G6];simp;show _<1000000;omega)
  rw[G5 (f:=hm m sh) (g:=fun i=>W.bl (J' ps k i)) (a:=i) (by
   have:=xw (m:=m) (s:=sh) (n:=i+1) (by omega)
   rw[iY,f7]at this
   exact fun q=>this.2.2 _ q _ (by simp) rfl),<- eS]at es
  apply aR
  ·exact F1 kv kv (bX kv kv hix) es
  generalize hy2:y'.set (s0.length+1) (.dct (dI (hm m sh) (fun i=>W.bl (J' ps k i)) (List.range (i+1))))=y2
  have g2:y2[s0.length+1]?=some (.dct (dI (hm m sh) (fun i=>W.bl (J' ps k i)) (List.range (i+1)))):=by rw[<- hy2];exact ki cg1
  have old:∀{q:Nat} {c:al},q≠s0.length+1->y'[q]?=some c->y2[q]?=some c:=fun{q c} hq e=>by rw[<- hy2,AR (Ne.symm hq)];exact e
  have k2:s0 <+: y2:=by rw[<- hy2];exact iU (hz.trans kz) (i8 _)
  have npy2:bU y2:=by rw[<- hy2];exact zB npy1 fun _=>rfl
  have cr2:y2[s0.length]?=some (.lst (((List.range i).map (iI ps tw sh)).map aW)):=old (by omega) (aZ kz cr)
  have cp2:y2[p]?=some (.lst (nW (jV ps i))):=old (fun z=>by rw[z]at cpy;have:=aZ hy cg;rw[this]at cpy;cases cpy) (aZ ky1 cpy)
  have hix2:=qM (aZ k2 ch) hi
  have er:gg (ai (e2 bW (ah 7) (ah 10)) aE) [some (.str (wd k)),lO pp,some (.str nm),iO (sh:Nat),iO (tw:Nat),iO (cnt ps:Nat),iO (m:Nat),lO s1.length,lO s0.length,lO (s0.length+1),iO (i:Int),lO p,lO y.length,some (.bl (J' ps k i)),none] y2=.ok (.loc y2.length) (y2++[.lst (nW [hm m sh i])]):=
   uq (aw (bX kv kv hix2) bq) (ay rfl)
  have ead:=rQ (st:=y2++[.lst (nW [hm m sh i])]) (n:=p) (m:=y2.length) (ws:=nW (jV ps i)) (xs:=nW [hm m sh i]) (bN cp2) aU (by simp[nW,iz h];show _<=1000000;omega)
  have hrw:nW (jV ps i)++nW [hm m sh i]=nW (iI ps tw sh i):=by unfold iI;rw[<- hm'];simp[nW]
  rw[hrw]at ead
  have etp:cE [.loc (y2++[al.lst (nW [hm m sh i])]).length] (y2++[al.lst (nW [hm m sh i])]++[al.lst (nW (iI ps tw sh i))])=.ok (aW (iI ps tw sh i)) (y2++[al.lst (nW [hm m sh i])]++[al.lst (nW (iI ps tw sh i))]):=gm (aT aU)
  have cr3:(y2++[al.lst (nW [hm m sh i])]++[al.lst (nW (iI ps tw sh i))])[s0.length]?=some (.lst (((List.range i).map (iI ps tw sh)).map aW)):=bN (bN cr2)
  have ap:=mf (y:=aW (iI ps tw sh i)) cr3 (by simp;omega)
  apply f_
  ·exact jj (rP kv (g_ cr2) (aw (bT (aw (bX kv er ead) bq) etp) bq) ap)
  ·refine⟨_,_,rfl,_,_,_,_,rfl,iU (iu (iu k2)) (au _),?_,?_,zB (cG (cG npy2 (lh _)) (lh _)) fun _=>rfl⟩
   ·rw[ki cr3,iY];simp
   ·rw[AR (by omega)];exact bN (bN g2)
 ·rintro ρ z ⟨o10,o11,zV,xR,rfl,hz,cr,cg,npz⟩
  rw[aB,bu]at cr cg
  have em:=DQ h ht Km uM ve (st:=z) (pp:=pp) (pr:=s0.length) (ph:=s1.length) (sh:=sh) (aZ (k0.trans hz) cp) (by unfold iF;rw[<- hm'];exact cr) (by rw[<- hm'];exact aZ hz ch)
  apply aR
  ·exact b8 (dW (aw kv (aw kv (aw kv (aw kv kn)))) em rfl)
  have eg:=fW (cap:=[none,some 9]) (fi:=bn (ai (ah 6) aE)) (f:=eA 0) (el:=e2 wK (ah 1) (ah 0)) (ρ:=[some (.str (wd k)),lO pp,some (.str nm),iO (sh:Nat),iO (tw:Nat),iO (cnt ps:Nat),iO (m:Nat),lO s1.length,lO s0.length,lO (s0.length+1),o10,o11,zV,xR,some (.tup ((DP ps nm tw sh).map iy))]) (st:=z) (st1:=z)
   ((Md ps nm tw sh k).gd.map W.bl) (cF (q:=(m:Int)) kn (by omega)) (by rw[bu];show _<=1000000;omega) trivial (by simp[bu,Md,hm']) fun i w hw=>by
    obtain⟨hi,rfl⟩:=cC hw
    rw[aB]at hi
    rw[cu]
    have:=LY (f:=hm m sh) (g:=fun i=>W.bl (J' ps k i)) (l:=List.range m) (a:=pl m sh i) (xw (au m)) (bI.mpr (Ce hi))
    rw[LW hi]at this
    refine⟨_,_,?_,rfl,bX kv kv (LZ (Cf cg) this)⟩
    unfold Md
    rw[aM,ak,bf (by rw[<- hm'];exact hi),<- hm'];rfl
  obtain⟨x,rfl⟩:=k0.trans hz
  have hle:s.length<=s0.length:=k0.length_le
  apply dh
  ·exact j6 (aw (j6 (aw kv (aw (bT (aw eg bq) (gm (aT aU))) kn)) (ay rfl)) kn) (ay rfl)
  ·refine⟨_,_,rfl,_,by rw[a8],?_,s0.length,rfl,?_,?_⟩
   ·simp[undWs,W.und,hle]
   ·rw[<- a8];unfold iF;rw[<- hm'];exact bN cr
   ·rw[<- a8];exact cG npz (lh _)
end
theorem zH:∀a b:List Nat,eqWs (a.map fun k=>W.int (k:Nat)) (b.map fun k=>W.int (k:Nat))=some (decide (a=b))
 |[],[]=>by simp[eqWs]
 |[],_::_=>by simp[eqWs]
 |_::_,[]=>by simp[eqWs]
 |x::a,y::b=>by
  simp only[aI,eqWs,jZ,zH a b]
  by_cases h:x=y
  ·subst h;simp
  ·have h3:¬ ((x:Int)=(y:Int)):=by omega
   simp[h,h3]
theorem G_(a b:List Nat):jZ (aW a) (aW b)=some (decide (a=b)):=by
 show jZ (.tup _) (.tup _)=_
 unfold jZ;exact zH a b
theorem zI(r:List Nat):∀l:List (List Nat),qt (aW r) (l.map aW)=some (decide (r∈l))
 |[]=>rfl
 |a::l=>by
  simp only[aI,qt,G_,zI r l]
  by_cases h:a=r
  ·subst h;simp
  ·have h2:¬ r=a:=fun e=>h e.symm
   simp[h,h2]
theorem zJ:∀r:List Nat,depWs (r.map fun k=>W.int (k:Nat))=0
 |[]=>rfl
 |a::l=>by simp only[aI,depWs,W.dep,zJ l];rfl
theorem zK:∀l:List (List Nat),depWs (l.map aW)<=63
 |[]=>by decide
 |a::l=>by
  have:=zK l
  have e:(aW a).dep=1:=by unfold aW W.dep;rw[zJ]
  simp only[aI,depWs,e];omega
theorem OK{S:List al}{r:List Nat}{l:List (List Nat)}(h:S[n]?=some (.lst (l.map aW))):wB true (aW r) (.loc n) S=.ok (.bl (!decide (r∈l))) S:=by
 unfold wB
 simp only[h,zI,zK,gF]
def D2(Ms:List Mc)(mk:List Nat)(l r:List Nat):List Nat:=(List.range Ms.length).map fun j=>(((gM Ms j).tb.getD (kj mk (gM Ms j).nm) []).getD (l.getD j 0) []).getD (r.getD j 0) 0
def rv(n q:Nat):Nat:=nb (fun i=>decide (q/2^(n-1-i)%2=1)) n
theorem L1(n q:Nat):rv n q<2^n:=G0 _ n
section
variable{Ms:List Mc}{nm:List Nat}
theorem Ch(uM:nm.Pairwise (· < ·))(hs:∀M∈Ms,Sub M.nm nm){mk:List Nat}(hm:∀i,i<nm.length->(nm.getD i 0∈mk↔q/2^(nm.length-1-i)%2=1))(l r:List Nat):D2 Ms mk l r=led Ms nm q l r:=by
 unfold D2 led
 refine bO fun j hj=>?_
 have hj:=bI.mp hj
 unfold DM
 rw[LU (hs _ (nn hj)) uM hm]
theorem RO(uM:nm.Pairwise (· < ·))(hs:∀M∈Ms,Sub M.nm nm)(q:Nat)(l r:List Nat):D2 Ms (kK (hJ nm q)) l r=led Ms nm (rv nm.length q) l r:=by
 refine Ch uM hs (fun i hi=>?_) l r
 have qf:nm.Nodup:=uM.imp fun z=>aN z
 rw[uH qf hi]
 unfold rv
 rw[AX _ _ _ (by omega),cS,show nm.length-1-(nm.length-1-i)=i by omega]
theorem RP(uM:nm.Pairwise (· < ·))(hs:∀M∈Ms,Sub M.nm nm)(q:Nat)(l r:List Nat):D2 Ms (kK (hJ nm (rv nm.length q))) l r=led Ms nm q l r:=by
 refine Ch uM hs (fun i hi=>?_) l r
 have qf:nm.Nodup:=uM.imp fun z=>aN z
 rw[uH qf hi]
 unfold rv
 rw[AX _ _ _ hi,cS]
abbrev RQ:FS:=(bh (cb 9 (gg aE)) (bh (i_ (bn (ai (bz dE (ai (ah 0) aE)) aE)) (eA 10) (bh (cb 11 (e2 bW (e2 bW (e2 bW (ah 0) (ah 10)) (eI 2)) (e2 bW (ah 5) (ah 10)))) (h_ (uV dF (ah 9) (ai (e2 bW (e2 bW (ah 11) (e2 bW (ah 7) (ah 10))) (e2 bW (ah 8) (ah 10))) aE))))) (oA (kI (e2 (wB true) (bz cE (ai (ah 9) aE)) (ah 2))) (h_ (uV dF (ah 2) (ai (bz cE (ai (ah 9) aE)) aE))) gy)))
theorem Kd(zY:zv Ms)(h9:Ms.length<=9){mk:List Nat}{pm pt lc:Nat}{s:List al}{r:List Nat}(hl:kE Ms l)(hr:kE Ms r)(v7:mt.length<=1000)(UG:s[pm]?=some (.lst (Ms.map Mc.w)))(UY:s[lc]?=some (.lst (nW (Ms.map fun M=>kj mk M.nm))))(U4:s[pt]?=some (.lst (mt.map aW)))(np:bU s)
  {v1 v3 v4 v6 o9 o10 o11:Option W}:∃(s':List al) (p9 A_ DR:Option W),RQ [lO pm,v1,lO pt,v3,v4,lO lc,v6,some (aW l),some (aW r),o9,o10,o11] s=.nx [lO pm,v1,lO pt,v3,v4,lO lc,v6,some (aW l),some (aW r),p9,A_,DR] s'/\bU s'/\(∀q c,q≠pt->s[q]?=some c->s'[q]?=some c)/\s'[pt]?=some (.lst ((pj mt (D2 Ms mk l r)).map aW))/\∀s0:List al,s0 <+: s->s0.length<=pt->s0 <+: s':=by
 suffices hh:lF (NI fun ρ s'=>∃p9 A_ DR:Option W,ρ=[lO pm,v1,lO pt,v3,v4,lO lc,v6,some (aW l),some (aW r),p9,A_,DR]/\bU s'/\(∀q c,q≠pt->s[q]?=some c->s'[q]?=some c)/\s'[pt]?=some (.lst ((pj mt (D2 Ms mk l r)).map aW))/\∀s0:List al,s0 <+: s->s0.length<=pt->s0 <+: s') (RQ [lO pm,v1,lO pt,v3,v4,lO lc,v6,some (aW l),some (aW r),o9,o10,o11] s) by
  obtain⟨ρ,s',e,p9,A_,DR,rfl,a,b,c,d⟩:=hh
  exact⟨s',p9,A_,DR,e,a,b,c,d⟩
 apply aR
 ·exact b8 (show gg aE _ s=.ok (.loc s.length) (s++[.lst []])from rfl)
 refine fx (fun i ρ z=>∃(A_ DR:Option W),ρ=[lO pm,v1,lO pt,v3,v4,lO lc,v6,some (aW l),some (aW r),lO s.length,A_,DR]/\z=s++[.lst (nW ((List.range i).map fun j=>(((gM Ms j).tb.getD (kj mk (gM Ms j).nm) []).getD (l.getD j 0) []).getD (r.getD j 0) 0))])
  (cF (q:=(Ms.length:Int)) (st1:=s++[al.lst []]) (aw (bT kn (by rw[me (aT (bN UG)),am])) bq) (by omega)) ⟨_,_,rfl,rfl⟩ (fun _ _ _ _=>trivial) ?_ ?_
 ·rintro j w ρ z hw ⟨A_,DR,rfl,rfl⟩
  obtain⟨hj,rfl⟩:=cC hw
  rw[aB]at hj
  refine⟨_,rfl,?_⟩
  rw[cu]
  generalize hz:s++[al.lst (nW ((List.range j).map fun j=>(((gM Ms j).tb.getD (kj mk (gM Ms j).nm) []).getD (l.getD j 0) []).getD (r.getD j 0) 0))]=z
  have kz:s <+: z:=by rw[<- hz];exact ag _ _
  obtain⟨t,jW,e1,e2,e3,e4,e5,e6⟩:=vW (zY _ (nn hj)) (J1 mk (gM Ms j).nm) (hl.2 j hj) (hr.2 j hj)
  have i0:bW (.tup ((gM Ms j).tb.map iy)) (.int (kj mk (gM Ms j).nm:Nat)) z=.ok (iy t) z:=nN (gk (by rw[ak,e1];rfl))
  have il:bW (.loc lc) (.int (j:Int)) z=.ok (.int (kj mk (gM Ms j).nm:Nat)) z:=B' (aZ kz UY) (by rw[ak,sB hj];rfl)
  have r1:bW (aW l) (.int (j:Int)) z=.ok (.int (l.getD j 0:Nat)) z:=xC (by rw[hl.1];exact hj)
  have r2:bW (aW r) (.int (j:Int)) z=.ok (.int (r.getD j 0:Nat)) z:=xC (by rw[hr.1];exact hj)
  apply aR
  ·exact b8 (bX (bX (bX kv kv (AZ (aZ kz UG) hj)) dv rfl) (bX kv kv il) i0)
  have hcz:z[s.length]?=some (.lst (nW ((List.range j).map fun j=>(((gM Ms j).tb.getD (kj mk (gM Ms j).nm) []).getD (l.getD j 0) []).getD (r.getD j 0) 0))):=by rw[<- hz];exact aU
  have ap:=mf (y:=W.int (((((gM Ms j).tb.getD (kj mk (gM Ms j).nm) []).getD (l.getD j 0) []).getD (r.getD j 0) 0:Nat):Int)) hcz (by simp[nW];omega)
  apply f_
  ·exact jj (rP kv (g_ hcz) (aw (bX (bX kv (bX kv kv r1) (AT e3)) (bX kv kv r2) (xi e5)) bq) ap)
  ·refine⟨_,_,rfl,_,_,rfl,?_⟩
   rw[<- hz,mE,iY]
   simp[nW]
 ·rintro ρ z ⟨A_,DR,rfl,rfl⟩
  rw[aB,bu]
  generalize hz:s++[al.lst (nW ((List.range Ms.length).map fun j=>(((gM Ms j).tb.getD (kj mk (gM Ms j).nm) []).getD (l.getD j 0) []).getD (r.getD j 0) 0))]=z
  have kz:s <+: z:=by rw[<- hz];exact ag _ _
  have npz:bU z:=by rw[<- hz];exact cG np (lh _)
  have hcz:z[s.length]?=some (.lst (nW (D2 Ms mk l r))):=by rw[<- hz];exact aU
  have et:bz cE (ai (ah 9) aE) [lO pm,v1,lO pt,v3,v4,lO lc,v6,some (aW l),some (aW r),lO s.length,A_,DR] z=.ok (aW (D2 Ms mk l r)) z:=bT kn (gm (aT hcz))
  have cpt:=aZ kz U4
  have tin:=fz (bX et (gZ (i:=2) rfl) (OK cpt))
  by_cases hin:D2 Ms mk l r∈mt
  ·rw[aV hin]at tin
   apply mF
   ·exact tin
   refine⟨_,_,rfl,_,_,_,rfl,npz,fun q c _ e=>aZ kz e,?_,fun s0 h0 _=>h0.trans kz⟩
   unfold pj;rw[av hin];exact cpt
  ·rw[aH hin]at tin
   have ap:=mf (y:=aW (D2 Ms mk l r)) cpt (by rw[am];omega)
   apply oI
   ·exact tin
   refine⟨_,_,jj (rP kv (g_ cpt) (aw et bq) ap),_,_,_,rfl,zB npz fun _=>rfl,fun q c hq e=>by rw[AR (Ne.symm hq)];exact aZ kz e,?_,fun s0 h0 h1=>iU (h0.trans kz) h1⟩
   rw[ki cpt]
   unfold pj;rw[az hin];simp
end
theorem UA{s:List al}{p:Nat}(h:s[p]?=some (.lst (mt.map aW)))(hi:i<mt.length):bW (.loc p) (.int (i:Nat)) s=.ok (aW (mt.getD i [])) s:=oH (aT h) (gk (by rw[ak,dC [] hi];rfl))
theorem qN{a b:List (List Nat)}(h:a <+: b)(hi:i<a.length):b.getD i []=a.getD i []:=by
 obtain⟨x,rfl⟩:=h
 rw[aC,aC,a_ hi]
theorem Ha(mt:List (List Nat))(r:List Nat):mt <+: pj mt r:=by
 unfold pj
 split
 ·exact ac _
 ·exact ag _ _
structure uI(R:List (List Nat))(z:List Nat)(mt:List (List Nat)):Prop where
 nd:mt.Nodup
 sub:∀r∈mt,r∈R
 zero:z∈mt
theorem uI.add{R:List (List Nat)}{z r:List Nat}(h:uI R z mt)(hr:r∈R):uI R z (pj mt r):=by
 refine⟨?_,fun a ha=>?_,oX.mpr (.inl h.zero)⟩
 ·unfold pj
  split
  ·exact h.nd
  ·rename_i hn
   rw[f7]
   exact⟨h.nd,by simp,fun a ha b hb=>by simp at hb;subst hb;exact fun e=>hn (e▸ha)⟩
 ·rcases oX.mp ha with y|y
  ·exact h.sub a y
  ·rw[y];exact hr
theorem OL{R:List (List Nat)}(hn:mt.Nodup)(hs:∀r∈mt,r∈R):mt.length<=R.length:=by
 induction mt generalizing R with
 |nil=>exact cQ _
 |cons a l ih=>
  rw[bF]at hn
  have ha:=hs a (by simp)
  have:=ih (R:=R.erase a) hn.2 fun r hr=>(List.mem_erase_of_ne (show r≠a from fun e=>hn.1 (e▸hr))).mpr (hs r (by simp[hr]))
  rw[ml ha]at this
  have:=ju ha
  simp only[cK];omega
theorem uI.len{R:List (List Nat)}{z:List Nat}(h:uI R z mt):mt.length<=R.length:=OL h.nd h.sub
section
variable{Ms:List Mc}{nm:List Nat}{R:List (List Nat)}
theorem OM(zY:zv Ms)(h9:Ms.length<=9)(uM:nm.Pairwise (· < ·))(hs:∀M∈Ms,Sub M.nm nm)(Km:nm.length<=5)(hR:∀r∈R,kE Ms r)(UB:R.length<=100)(hz:List.replicate Ms.length 0∈R)(hc:∀l∈R,∀r∈R,∀q,q<2^nm.length->led Ms nm q l r∈R)
  {st:List al} {pm:Nat} (cp:st[pm]?=some (.lst (Ms.map Mc.w))) (np:bU st) :
  ∃(j:Nat) (x:List al) (mt:List (List Nat)),uI R (List.replicate Ms.length 0) mt/\(∀l∈mt,∀r∈mt,∀q,q<2^nm.length->led Ms nm q l r∈mt)/\bU (st++x)/\(st++x)[st.length+j]?=some (.lst (mt.map aW))/\B5 [.loc pm,.str nm] st=.ok (.loc (st.length+j)) (st++x):=by
 suffices hh:lF (BU fun w bD=>∃j x,w=.loc (st.length+j)/\bD=st++x/\∃mt:List (List Nat),uI R (List.replicate Ms.length 0) mt/\(∀l∈mt,∀r∈mt,∀q,q<2^nm.length->led Ms nm q l r∈mt)/\bU (st++x)/\(st++x)[st.length+j]?=some (.lst (mt.map aW))) (LO ([W.loc pm,.str nm].map some++List.replicate (12-2) none) st) by
  obtain⟨j,x,⟨mt,a,b,c,d⟩,e⟩:=qC hh
  exact⟨j,x,mt,a,b,c,d,e⟩
 have hp32:2^nm.length<=32:=cU (by omega) Km
 obtain⟨N,hN⟩:∃N,N=2^nm.length:=⟨_,rfl⟩
 have shN:∀s:List al,rh (.int 1) (.int nm.length) s=.ok (.int (N:Nat)) s:=fun s=>by rw[hN];exact Bh (by omega)
 have ln:∀s,dE [.str nm] s=.ok (.int nm.length) s:=fun s=>m9 (by show _<=1000000;omega)
 rw[<- hN]at hp32 hc
 let lm:Nat->List Nat->List Nat->List Nat:=fun q l r=>D2 Ms (kK (hJ nm q)) l r
 have hlm:∀q l r,l∈R->r∈R->lm q l r∈R:=fun q l r hl hr=>by
  show D2 Ms (kK (hJ nm q)) l r∈R
  rw[RO uM hs]
  exact hc l hl r hr _ (by rw[hN];exact L1 _ _)
 have ec:=fW (cap:=[none]) (fi:=eQ (ah 0)) (f:=eA 0) (el:=eC (.int 0)) (ρ:=[lO pm,some (.str nm),none,none,none,none,none,none,none,none,none,none]) (st:=st) (st1:=st)
  (nW (List.replicate Ms.length 0)) (m_ kv (aT cp)) (by rw[am];show _<=1000000;omega) (aT cp) (by simp[nW]) fun i w hw=>by
   have hi:i<Ms.length:=by have:=(ao.mp hw).1;simpa using this
   exact⟨_,_,by unfold nW;rw[ak,dz,av hi];rfl,rfl,dv⟩
 generalize zU:st++[al.lst (nW (List.replicate Ms.length 0))]=s0 at ec
 have k0:st <+: s0:=by rw[<- zU];exact ag _ _
 have np0:bU s0:=by rw[<- zU];exact cG np (lh _)
 have hc0:s0[st.length]?=some (.lst (nW (List.replicate Ms.length 0))):=by rw[<- zU];exact aU
 have et:cE [.loc st.length] s0=.ok (aW (List.replicate Ms.length 0)) s0:=gm (aT hc0)
 apply aR
 ·exact b8 (uq (aw (bT (aw ec bq) et) bq) (ay rfl))
 apply aR
 ·exact b8 dv
 refine DB (fun n ρ s=>∃(a:Nat) (mt:List (List Nat)) (o4 o5 o6 o7 o8 o9 o10 o11:Option W),ρ=[lO pm,some (.str nm),lO s0.length,iO (a:Nat),o4,o5,o6,o7,o8,o9,o10,o11]/\n=R.length-a/\s0 <+: s/\s[s0.length]?=some (.lst (mt.map aW))/\bU s/\uI R (List.replicate Ms.length 0) mt/\a<=mt.length/\∀i,i<a->∀k,k<a->∀q,q<N->lm q (mt.getD i []) (mt.getD k [])∈mt) R.length
  ⟨0,[List.replicate Ms.length 0],none,none,none,none,none,none,none,none,rfl,rfl,ag _ _,aU,cG np0 (lh _),⟨by simp,fun r hr=>by rw[ba.mp hr];exact hz,by simp⟩,cQ _,fun i hi=>by omega⟩ ?_ ?_
 ·rintro n ρ s ⟨a,mt,o4,o5,o6,o7,o8,o9,o10,o11,rfl,rfl,hp,cm,nps,v7,ha,mh⟩
  have tst:kI (e2 yx (ah 3) (bz dE (ai (ah 2) aE))) [lO pm,some (.str nm),lO s0.length,iO (a:Nat),o4,o5,o6,o7,o8,o9,o10,o11] s=.ok (decide ((a:Int)<(mt.length:Int))) s:=
   fz (bX kv (bT kn (by rw[me (aT cm),am])) (uu rfl))
  by_cases hlt:a<mt.length
  ·refine .inr ⟨by rw[tst,aV (by omega)],?_⟩
   have hml:=v7.len
   have hA:mt.getD a []∈mt:=aY (dC [] hlt)
   refine fx (fun q ρ s=>∃(zR:List (List Nat)) (o4 o5 o6 o7 o8 o9 o10 o11:Option W),ρ=[lO pm,some (.str nm),lO s0.length,iO (a:Nat),o4,o5,o6,o7,o8,o9,o10,o11]/\s0 <+: s/\s[s0.length]?=some (.lst (zR.map aW))/\bU s/\uI R (List.replicate Ms.length 0) zR/\mt <+: zR/\∀q',q'<q->∀k,k<=a->lm q' (mt.getD a []) (mt.getD k [])∈zR/\lm q' (mt.getD k []) (mt.getD a [])∈zR)
    (cF (q:=(N:Int)) (st1:=s) (aw (bX dv (bT kn (ln _)) (shN _)) bq) (by omega)) ⟨mt,_,_,_,_,_,_,_,_,rfl,hp,cm,nps,v7,ac _,fun q hq=>by omega⟩ (fun _ _ _ _=>trivial) ?_ ?_
   ·rintro q w ρ s hw ⟨mt1,o4,o5,o6,o7,o8,o9,o10,o11,rfl,hp1,cm1,np1',hmt1,hpre1,hcl1⟩
    obtain⟨hq,rfl⟩:=cC hw
    rw[aB]at hq
    refine⟨_,rfl,?_⟩
    rw[cu]
    have em:=uG nm (by omega) q s
    have cps:=aZ (k0.trans hp1) cp
    have el:=fW (cap:=[none,some 1,some 4]) (fi:=eQ (ah 0)) (f:=eA 0) (el:=dS 2 sy (ai (e2 bW (ah 0) (eI 0)) (ai (dS 2 qH (ai (ah 1) (ai (ah 2) aE))) aE))) (ρ:=[lO pm,some (.str nm),lO s0.length,iO (a:Nat),iO (q:Int),o5,o6,o7,o8,o9,o10,o11]) (st:=s) (st1:=s)
     (nW (Ms.map fun M=>kj (kK (hJ nm q)) M.nm)) (m_ kv (aT cps)) (by rw[am];show _<=1000000;omega) (aT cps) (by simp[nW]) fun i w hw=>by
      rw[ak,be]at hw
      obtain⟨M,hM,rfl⟩:=hw
      refine⟨_,_,?_,rfl,dW (aw (bX kv dv rfl) (aw (dW (aw kv kn) em rfl) bq)) (uD M.nm _ s) rfl⟩
      unfold nW
      rw[aM,ak,hM];rfl
    apply aR
    ·exact zn el rfl
    generalize oZ:s++[al.lst (nW (Ms.map fun M=>kj (kK (hJ nm q)) M.nm))]=s2
    have k2:s <+: s2:=by rw[<- oZ];exact ag _ _
    have np2:bU s2:=by rw[<- oZ];exact cG np1' (lh _)
    have hlc2:s2[s.length]?=some (.lst (nW (Ms.map fun M=>kj (kK (hJ nm q)) M.nm))):=by rw[<- oZ];exact aU
    have hlcne:s.length≠s0.length:=fun e=>by have:=AS cm1;omega
    obtain⟨lc,hlcE⟩:∃lc,lc=s.length:=⟨_,rfl⟩
    rw[<- hlcE]
    have hpmne:pm≠s0.length:=fun e=>by have:=AS cp;have:=k0.length_le;omega
    refine qL (fun k ρ s=>∃(zR:List (List Nat)) (o6 o7 o8 o9 o10 o11:Option W),ρ=[lO pm,some (.str nm),lO s0.length,iO (a:Nat),iO (q:Int),lO lc,o6,o7,o8,o9,o10,o11]/\s0 <+: s/\s[s0.length]?=some (.lst (zR.map aW))/\s[lc]?=some (.lst (nW (Ms.map fun M=>kj (kK (hJ nm q)) M.nm)))/\bU s/\uI R (List.replicate Ms.length 0) zR/\mt1 <+: zR/\∀k',k'<k->lm q (mt.getD a []) (mt.getD k' [])∈zR/\lm q (mt.getD k' []) (mt.getD a [])∈zR)
     (cF (q:=(a:Int)+1) (st1:=s2) (aw (bX kv dv fw) bq) (by omega)) ⟨mt1,_,_,_,_,_,_,rfl,hp1.trans k2,aZ k2 cm1,by rw[hlcE];exact hlc2,np2,hmt1,ac _,fun k hk=>by omega⟩ (fun _ _ _ _=>trivial) ?_ ?_
    ·rintro k w ρ s3 hw ⟨mt2,o6,o7,o8,o9,o10,o11,rfl,hp3,cm3,lc3,np3,hmt3,hpre3,hcl3⟩
     obtain⟨hk,rfl⟩:=cC hw
     rw[show((a:Int)+1).toNat=a+1 by omega]at hk
     refine⟨_,rfl,?_⟩
     rw[cu]
     have pre2:mt <+: mt2:=hpre1.trans hpre3
     have Kt:k<mt.length:=by omega
     have hK:mt.getD k []∈mt:=aY (dC [] Kt)
     have xa:bW (.loc s0.length) (.int (a:Nat)) s3=.ok (aW (mt.getD a [])) s3:=by rw[UA cm3 (aK hlt pre2.length_le),qN pre2 hlt]
     have xk:bW (.loc s0.length) (.int (k:Int)) s3=.ok (aW (mt.getD k [])) s3:=by rw[UA cm3 (aK Kt pre2.length_le),qN pre2 Kt]
     have rA:=hR _ (v7.sub _ hA)
     have rK:=hR _ (v7.sub _ hK)
     have hin1:=hlm q _ _ (v7.sub _ hA) (v7.sub _ hK)
     have hin2:=hlm q _ _ (v7.sub _ hK) (v7.sub _ hA)
     have hm2:=hmt3.len
     have etp:eQ (jY (ai (jY (ai (e2 bW (ah 2) (ah 3)) (ai (e2 bW (ah 2) (ah 6)) aE))) (ai (jY (ai (e2 bW (ah 2) (ah 6)) (ai (e2 bW (ah 2) (ah 3)) aE))) aE))) [lO pm,some (.str nm),lO s0.length,iO (a:Nat),iO (q:Int),lO lc,iO (k:Int),o7,o8,o9,o10,o11] s3=.ok ([.tup [aW (mt.getD a []),aW (mt.getD k [])],.tup [aW (mt.getD k []),aW (mt.getD a [])]],none) s3:=by
      have:=j6 (aw (j6 (aw (bX (fa:=ah 2) (fb:=ah 3) (ρ:=[lO pm,some (.str nm),lO s0.length,iO (a:Nat),iO (q:Int),lO lc,iO (k:Int),o7,o8,o9,o10,o11]) kv kv xa) (aw (bX (fa:=ah 2) (fb:=ah 6) kv kv xk) bq)) (ay rfl)) (aw (j6 (aw (bX (fa:=ah 2) (fb:=ah 6) kv kv xk) (aw (bX (fa:=ah 2) (fb:=ah 3) kv kv xa) bq)) (ay rfl)) bq)) (ay rfl)
      unfold eQ;rw[this];rfl
     refine qL (fun i ρ s=>∃(zR:List (List Nat)) (o7 o8 o9 o10 o11:Option W),ρ=[lO pm,some (.str nm),lO s0.length,iO (a:Nat),iO (q:Int),lO lc,iO (k:Int),o7,o8,o9,o10,o11]/\s0 <+: s/\s[s0.length]?=some (.lst (zR.map aW))/\s[lc]?=some (.lst (nW (Ms.map fun M=>kj (kK (hJ nm q)) M.nm)))/\bU s/\uI R (List.replicate Ms.length 0) zR/\mt2 <+: zR/\(1<=i->lm q (mt.getD a []) (mt.getD k [])∈zR)/\(2<=i->lm q (mt.getD k []) (mt.getD a [])∈zR))
      etp ⟨mt2,_,_,_,_,_,rfl,hp3,cm3,lc3,np3,hmt3,ac _,fun h=>by omega,fun h=>by omega⟩ (fun _ _ _ _=>trivial) ?_ ?_
     ·rintro i w ρ s4 hw ⟨mt4,o7,o8,o9,o10,o11,rfl,hp4,cm4,lc4,np4,hmt4,hpre4,h41,h42⟩
      have cp4:=aZ (k0.trans hp4) cp
      have hm4:=hmt4.len
      have lne:lc≠s0.length:=by rw[hlcE];exact hlcne
      obtain⟨hi2,l,r,rfl,hl,hr,DY⟩:i<2/\∃l r,w=.tup [aW l,aW r]/\l∈R/\r∈R/\((i=0->l=mt.getD a []/\r=mt.getD k [])/\(i=1->l=mt.getD k []/\r=mt.getD a [])):=by
       match i,hw with
       |0,hw=>cases hw;exact⟨by omega,_,_,rfl,v7.sub _ hA,v7.sub _ hK,fun _=>⟨rfl,rfl⟩,fun z=>by omega⟩
       |1,hw=>cases hw;exact⟨by omega,_,_,rfl,v7.sub _ hK,v7.sub _ hA,fun z=>by omega,fun _=>⟨rfl,rfl⟩⟩
       |i+2,hw=>simp at hw
      refine⟨_,rfl,?_⟩
      obtain⟨s5,p9,A_,DR,e5,np5,old5,cm5,pre5⟩:=Kd zY h9 (mk:=kK (hJ nm q)) (hR l hl) (hR r hr) (by omega) cp4 lc4 cm4 np4 (v1:=some (.str nm)) (v3:=some (.int (a:Nat))) (v4:=some (.int (q:Int))) (v6:=some (.int (k:Int))) (o9:=o9) (o10:=o10) (o11:=o11)
      refine⟨_,_,e5,_,_,_,_,_,_,rfl,pre5 s0 hp4 (au _),cm5,old5 _ _ lne lc4,np5,hmt4.add (hlm q l r hl hr),hpre4.trans (Ha _ _),fun h1=>?_,fun h2=>?_⟩
      ·rcases Nat.eq_zero_or_pos i with z|z
       ·obtain⟨rfl,rfl⟩:=DY.1 z
        exact oX.mpr (.inr rfl)
       ·exact oX.mpr (.inl (h41 z))
      ·obtain⟨rfl,rfl⟩:=DY.2 (by omega)
       exact oX.mpr (.inr rfl)
     ·rintro ρ s4 ⟨mt4,o7,o8,o9,o10,o11,rfl,hp4,cm4,lc4,np4,hmt4,hpre4,h41,h42⟩
      refine⟨_,_,rfl,mt4,_,_,_,_,_,_,rfl,hp4,cm4,lc4,np4,hmt4,hpre3.trans hpre4,fun k' hk'=>?_⟩
      rcases jp k' k with z|z
      ·exact⟨hpre4.subset (hcl3 k' z).1,hpre4.subset (hcl3 k' z).2⟩
      ·have:k'=k:=by omega
       subst this
       exact⟨h41 (by simp),h42 (by simp)⟩
    ·rintro ρ s3 ⟨mt2,o6,o7,o8,o9,o10,o11,rfl,hp3,cm3,lc3,np3,hmt3,hpre3,hcl3⟩
     rw[show((a:Int)+1).toNat=a+1 by omega,bu]at hcl3
     refine⟨_,_,rfl,mt2,_,_,_,_,_,_,_,_,rfl,hp3,cm3,np3,hmt3,hpre1.trans hpre3,fun q' hq' k hk=>?_⟩
     rcases jp q' q with z|z
     ·exact⟨hpre3.subset (hcl1 q' z k hk).1,hpre3.subset (hcl1 q' z k hk).2⟩
     ·have:q'=q:=by omega
      subst this
      exact hcl3 k (by omega)
   ·rintro ρ s1 ⟨mt1,o4,o5,o6,o7,o8,o9,o10,o11,rfl,hp1,cm1,np1',hmt1,hpre1,hcl1⟩
    rw[aB,bu]at hcl1
    refine⟨_,_,b8 (bX kv dv fw),R.length-(a+1),by omega,a+1,mt1,_,_,_,_,_,_,_,_,rfl,rfl,hp1,cm1,np1',hmt1,bd hlt hpre1.length_le,fun i hi k hk q hq=>?_⟩
    rw[qN hpre1 (by omega),qN hpre1 (by omega)]
    rcases jp i a with z|z
    ·rcases jp k a with y|y
     ·exact hpre1.subset (mh i z k y q hq)
     ·have:k=a:=by omega
      subst this
      exact(hcl1 q hq i (by omega)).2
    ·have:i=a:=by omega
     subst this
     exact(hcl1 q hq k (by omega)).1
  ·exact .inl (by rw[tst,aH (by omega)])
 ·rintro n ρ s ⟨a,mt,o4,o5,o6,o7,o8,o9,o10,o11,rfl,rfl,hp,cm,nps,v7,ha,mh⟩ hf
  have tst:kI (e2 yx (ah 3) (bz dE (ai (ah 2) aE))) [lO pm,some (.str nm),lO s0.length,iO (a:Nat),o4,o5,o6,o7,o8,o9,o10,o11] s=.ok (decide ((a:Int)<(mt.length:Int))) s:=
   fz (bX kv (bT kn (by rw[me (aT cm),am])) (uu rfl))
  rw[tst]at hf
  have Pj:a=mt.length:=by
   injection hf with h1 h2
   have:=of_decide_eq_false h1
   omega
  obtain⟨x,rfl⟩:=k0.trans hp
  have hle:st.length<=s0.length:=k0.length_le
  apply dh
  ·exact gZ rfl
  ·refine⟨_,_,rfl,s0.length-st.length,x,by rw[show st.length+(s0.length-st.length)=s0.length by omega],rfl,mt,v7,fun l hl r hr q hq=>?_,nps,by rw[show st.length+(s0.length-st.length)=s0.length by omega];exact cm⟩
   rw[<- RP uM hs]
   obtain⟨i,hi,rfl⟩:=kG hl
   obtain⟨k,hk,rfl⟩:=kG hr
   have:=mh i (by omega) k (by omega) (rv nm.length q) (by rw[hN];exact L1 _ _)
   have e1:mt.getD i []=mt[i]:=by rw[aC,ar hi];rfl
   have e2:mt.getD k []=mt[k]:=by rw[aC,ar hk];rfl
   rw[e1,e2]at this
   exact this
end
theorem sD{f:FG}{ρ0:ca}(Y:W->W):∀(ws acc:List W) (s:List al),st <+: s->(∀w∈ws,∀s,st <+: s->∃ρ' x,bU x/\f w ρ0=some ρ'/\el ρ' s=.ok (Y w) (s++x)) ->
  ∃y,bU y/\kW f gs el none ρ0 ws acc s=.ok (acc++ws.map Y) (s++y)
 |[],acc,s,hs,_=>⟨[],(fun d hd=>by simp at hd),by unfold kW;rw[av (show i6 s none from trivial)];simp⟩
 |w::ws,acc,s,hs,h=>by
  obtain⟨ρ',x,nx,e1,e2⟩:=h w (by simp) s hs
  obtain⟨y,h1,h2⟩:=sD Y ws (acc++[Y w]) (s++x) (iu hs) fun w' hw'=>h w' (by simp[hw'])
  refine⟨x++y,cG nx h1,?_⟩
  unfold kW
  rw[av (show i6 s none from trivial),e1]
  simp only[gs,e2]
  rw[h2];simp
theorem Ke{f:FG}{cap:List (Option Nat)}(Y:W->W)(h:fi ρ st=.ok (ws,none) st1)(hl:ws.length<=100000)
  (hs:∀w∈ws,∀s,st1 <+: s->∃ρ' x,bU x/\f w (kh cap ρ)=some ρ'/\el ρ' s=.ok (Y w) (s++x)):∃y,bU y/\cY cap fi f gs el ρ st=.ok (.loc (st1++y).length) (st1++y++[.lst (ws.map Y)]):=by
 obtain⟨y,h1,h2⟩:=sD Y ws [] st1 (ac _) hs
 refine⟨y,h1,?_⟩
 unfold cY
 rw[h]
 simp only[R.bind_ok]
 rw[av (show ws.length<=jx by show _<=1000000;omega),h2]
 simp only[R.bind_ok,dk,jf]
 rw[av (show(ws.map Y).length<=jx by rw[am];show _<=1000000;omega)]
theorem Kf{s1:List al}(h:fe ρ st=.ok (.str l) s1)(hl:l.length<64) :
  D1 lR (eC (.str [])) (ai (bz l9 (ai fe aE)) aE) ρ st=.ok (.str (kK l)) (s1++[.lst ((iM (l.map fun c=>[c])).map W.str)]):=by
 have hs:l9 [.str l] s1=.ok (.loc s1.length) (s1++[.lst ((iM (l.map fun c=>[c])).map W.str)]):=by unfold l9;simp only;rw[av hl]
 have hcell2:lstOf (s1++[al.lst ((iM (l.map fun c=>[c])).map W.str)]) s1.length=some ((iM (l.map fun c=>[c])).map W.str):=aT aU
 have hj:=rS (sep:=[]) hcell2 (by rw[uA (ia _),qK];show _<=1000000;simp;omega)
 exact AJ dv rfl (aw (bT (aw h bq) hs) bq) hj
def xD(n w:Nat):List (List Nat):=(List.range n).map fun l=>(List.range n).map fun r=>(l+r+w)%n
def C1(c n g:Nat):Mc:=⟨[c],(List.range n).map fun x=>decide (x=g),(List.range 2).map (xD n)⟩
def C2(nm:List Nat)(t:Bool):Mc:=⟨nm,[t],(List.range 8).map fun _=>[[0]]⟩
theorem RR{c g:Nat}(hn:1<=n):JU (C1 c n g) n:=by
 refine⟨by simp[C1],by simp[C1],fun t ht=>?_⟩
 obtain⟨w,_,rfl⟩:=aJ.mp ht
 refine⟨by simp[xD],fun r hr=>?_⟩
 obtain⟨l,_,rfl⟩:=aJ.mp hr
 refine⟨by simp,fun x hx=>?_⟩
 obtain⟨r,_,rfl⟩:=aJ.mp hx
 exact io _ (by omega)
theorem RT{nm:List Nat}{t:Bool}(hn:nm.length=3):JU (C2 nm t) 1:=by
 refine⟨rfl,by simp[C2,hn],fun t ht=>?_⟩
 obtain⟨w,_,rfl⟩:=aJ.mp ht
 exact⟨rfl,fun r hr=>by rw[ba.mp hr];exact⟨rfl,fun k hk=>by rw[ba.mp hk];omega⟩⟩
theorem A0{ds:List Int}{c0 c1 c2 c3:Nat}(hd:ds.length=10)(hn:[c0,c1,c2,c3].Nodup)(hL:∀c∈[c0,c1,c2,c3],c∈LL){pz:Nat}(cz:st[pz]?=some (.lst (On ds)))(np:bU st)(ht:st[1]?=some S7) :
  B6 [.loc pz,.str [c0,c1,c2,c3]] st=.ok (.bl true) st:=by
 have hdq:∀q,q<10->∃d:Int,ds[q]?=some d:=fun q hq=>⟨_,ar (by omega)⟩
 obtain⟨d0,h0⟩:=hdq 0 (by omega)
 obtain⟨d1,h1⟩:=hdq 1 (by omega)
 obtain⟨d5,h5⟩:=hdq 5 (by omega)
 obtain⟨d9,h9⟩:=hdq 9 (by omega)
 refine jJ (N:=10) (ws:=[.loc pz,.str [c0,c1,c2,c3]]) (body:=LP) ?_ rfl
 obtain⟨n9,UW,en9⟩:=jU (q:=d9) (n:=25) (by omega)
 have en9:d9%25=(n9:Int):=en9
 apply aR
 ·exact b8 (bX dv (bX (bX kv dv (iw (i:=9) cz h9)) dv (j7 (by decide))) fw)
 rw[en9,show(26:Int)+(n9:Int)=((26+n9:Nat):Int) by omega]
 generalize hnn:26+n9=n
 obtain⟨g,hg,eg⟩:=jU (q:=d1) (n:=n) (by omega)
 obtain⟨t,hT,eT⟩:=jU (q:=d5) (n:=n) (by omega)
 apply aR
 ·exact b8 (show gg aE _ st=.ok (.loc st.length) (st++[.lst []])from rfl)
 refine fx (fun i ρ s=>∃(o4:Option W),ρ=[lO pz,some (.str [c0,c1,c2,c3]),iO (n:Nat),lO st.length,o4,none,none,none,none,none]/\st <+: s/\s[st.length]?=some (.lst (((List.range i).map (xD n)).map iy))/\bU s)
  (cF (q:=2) (st1:=st++[al.lst []]) (aw dv bq) (by omega)) ⟨none,rfl,ag _ _,aU,cG np (lh _)⟩ (fun _ _ _ _=>trivial) ?_ ?_
 ·rintro i w ρ s hw ⟨o4,rfl,hp,hc,nps⟩
  obtain⟨hi,rfl⟩:=cC hw
  have hi:i<2:=hi
  refine⟨_,rfl,?_⟩
  rw[cu]
  have pn:(0:Int)<(n:Int):=by omega
  obtain⟨y,npy,ey⟩:=Ke (cap:=[none,some 2,some 4]) (fi:=bn (ai (ah 2) aE)) (f:=eA 0) (el:=bz cE (ai (cY [none,some 1,some 2,some 0] (bn (ai (ah 1) aE)) (eA 0) gs (e2 eW (e2 du (e2 du (ah 3) (ah 0)) (ah 2)) (ah 1))) aE)) (ρ:=[lO pz,some (.str [c0,c1,c2,c3]),iO (n:Nat),lO st.length,iO (i:Int),none,none,none,none,none]) (st:=s) (st1:=s) (ws:=gC 0 n)
   (fun w=>aW ((List.range n).map fun r=>(GS w+r+i)%n)) (by
    have:=cF (fs:=ai (ah 2) aE) (ρ:=[lO pz,some (.str [c0,c1,c2,c3]),iO (n:Nat),lO st.length,iO (i:Int),none,none,none,none,none]) (q:=(n:Int)) (st:=s) (st1:=s) kn (by omega)
    rw[aB]at this;exact this) (by rw[bu];omega) fun w hw s' _=>by
     obtain⟨l,hl,rfl⟩:=rV hw
     rw[cu]
     have ei:=fW (cap:=[none,some 1,some 2,some 0]) (fi:=bn (ai (ah 1) aE)) (f:=eA 0) (el:=e2 eW (e2 du (e2 du (ah 3) (ah 0)) (ah 2)) (ah 1)) (ρ:=[iO (l:Int),iO (n:Nat),iO (i:Int)]) (st:=s') (st1:=s')
      (nW ((List.range n).map fun r=>(l+r+i)%n)) (cF (q:=(n:Int)) kn (by omega)) (by rw[bu];show _<=1000000;omega) trivial (by simp[nW,bu]) fun r w hw=>by
       obtain⟨hr,rfl⟩:=cC hw
       rw[aB]at hr
       rw[cu]
       refine⟨.int (((l+r+i)%n:Nat):Int),_,by unfold nW;rw[aM,ak,bf hr];rfl,rfl,?_⟩
       rw[jS,dm,dm]
       exact bX (bX (bX kv kv fw) kv fw) kv (j7 pn)
     exact⟨_,_,lh _,rfl,bT (aw ei bq) (gm (aT aU))⟩
  have hmap:(gC 0 n).map (fun w=>aW ((List.range n).map fun r=>(GS w+r+i)%n))=(xD n i).map aW:=by
   unfold gC xD
   rw[aM,aM]
   refine bO fun l _=>?_
   show aW ((List.range n).map fun r=>((0+(l:Int)).toNat+r+i)%n)=_
   rw[show(0+(l:Int)).toNat=l by omega];rfl
  rw[hmap]at ey
  generalize oZ:s++y++[al.lst ((xD n i).map aW)]=s2 at ey
  have k2:s <+: s2:=by rw[<- oZ];exact(ag _ _).trans (ag _ _)
  have hc2:=aZ k2 hc
  have et:cE [.loc (s++y).length] s2=.ok (iy (xD n i)) s2:=gm (aT (by rw[<- oZ];exact aU))
  have ap:=mf (y:=iy (xD n i)) hc2 (by simp;omega)
  apply f_
  ·exact jj (rP kv (g_ hc) (aw (bT (aw ey bq) et) bq) ap)
  ·refine⟨_,_,rfl,_,rfl,iU (hp.trans k2) (au _),?_,zB (by rw[<- oZ];exact cG (cG nps npy) (lh _)) fun _=>rfl⟩
   rw[ki hc2,iY];simp
 ·rintro ρ s ⟨o4,rfl,hp,hc,nps⟩
  have hc:s[st.length]?=some (.lst (((List.range 2).map (xD n)).map iy)):=hc
  have czs:=aZ hp cz
  have pn:(0:Int)<(n:Int):=by omega
  have e5:=fW (cap:=[none,some 2,some 0]) (fi:=bn (ai (ah 2) aE)) (f:=eA 0) (el:=e2 mU (ah 0) (e2 eW (e2 bW (ah 2) (eI 1)) (ah 1))) (ρ:=[lO pz,some (.str [c0,c1,c2,c3]),iO (n:Nat),lO st.length,o4,none,none,none,none,none]) (st:=s) (st1:=s)
   ((C1 c0 n g).gd.map W.bl) (cF (q:=(n:Int)) kn (by omega)) (by rw[bu];show _<=1000000;omega) trivial (by simp[bu,C1]) fun x w hw=>by
    obtain⟨hx,rfl⟩:=cC hw
    rw[aB]at hx
    rw[cu]
    refine⟨.bl (decide (x=g)),_,by unfold C1;rw[aM,ak,bf hx];rfl,rfl,?_⟩
    refine bX kv (bX (bX kv dv (iw (i:=1) czs h1)) kv (j7 pn)) (qB ?_)
    rw[eg]
    by_cases z:x=g
    ·subst z;simp
    ·rw[aH z,bx];omega
  generalize tf:s++[al.lst ((C1 c0 n g).gd.map W.bl)]=s1 at e5
  have k1:s <+: s1:=by rw[<- tf];exact ag _ _
  have np1':bU s1:=by rw[<- tf];exact cG nps (lh _)
  have et5:cE [.loc s.length] s1=.ok (.tup ((C1 c0 n g).gd.map W.bl)) s1:=gm (aT (by rw[<- tf];exact aU))
  have et6:cE [.loc st.length] s1=.ok (.tup ((C1 c0 n g).tb.map iy)) s1:=gm (aT (aZ k1 hc))
  apply aR
  ·exact b8 (j6 (aw (bX kv dv (show bW (.str [c0,c1,c2,c3]) (.int 0) s=.ok (.str [c0]) s from BS (ay rfl) rfl)) (aw (bT (aw e5 bq) et5) (aw (bT kn et6) bq))) (ay rfl))
  obtain⟨q0,hq0,eq0⟩:=jU (q:=d0) (n:=2) (by omega)
  have eq0:d0%2=(q0:Int):=eq0
  obtain⟨tt,htt⟩:∃tt,tt=decide (q0=0):=⟨_,rfl⟩
  apply aR
  ·exact b8 (bX (bX (bX kv dv (iw (i:=0) (aZ k1 czs) h0)) dv (j7 (by decide))) dv (qB (k:=tt) (by
    show(d0%2==0)=tt
    rw[eq0,htt]
    by_cases z:q0=0
    ·subst z;rfl
    ·rw[aH z,bx];omega)))
  have e7:=fW (cap:=[none]) (fi:=bn (ai (eI 8) aE)) (f:=eA 0) (el:=jY (ai (jY (ai (eI 0) aE)) aE)) (ρ:=[lO pz,some (.str [c0,c1,c2,c3]),iO (n:Nat),lO st.length,o4,some (C1 c0 n g).w,some (.bl tt),none,none,none])
   (st:=s1++[.lst ((iM ([c1,c2,c3].map fun c=>[c])).map W.str)]) (st1:=s1++[.lst ((iM ([c1,c2,c3].map fun c=>[c])).map W.str)])
   ((C2 (kK [c1,c2,c3]) tt).tb.map iy) (cF (q:=8) (aw dv bq) (by omega)) (by rw[bu];show _<=1000000;omega) trivial (by simp[bu,C2]) fun x w hw=>by
    have hx:x<8:=(cC hw).1
    refine⟨iy [[0]],_,by unfold C2;rw[aM,ak,bf hx];rfl,rfl,j6 (aw (j6 (aw dv bq) (ay rfl)) bq) (ay rfl)⟩
  generalize oZ:s1++[al.lst ((iM ([c1,c2,c3].map fun c=>[c])).map W.str)]=s2 at e7
  have k2:s1 <+: s2:=by rw[<- oZ];exact ag _ _
  have np2:bU s2:=by rw[<- oZ];exact cG np1' (lh _)
  have esl:C7 (.str [c0,c1,c2,c3]) (some 1) (some 4) s1=.ok (.str [c1,c2,c3]) s1:=by rw[K8 (ay rfl)];rfl
  have e6:=Kf (ρ:=[lO pz,some (.str [c0,c1,c2,c3]),iO (n:Nat),lO st.length,o4,some (C1 c0 n g).w,some (.bl tt),none,none,none]) (fe:=C8 (ah 1) (kT (eI 1)) (kT (eI 4))) (st:=s1) (s1:=s1) (zb kv (w5 dv) (w5 dv) esl) (by simp)
  rw[oZ]at e6
  have et7:cE [.loc s2.length] (s2++[al.lst ((C2 (kK [c1,c2,c3]) tt).tb.map iy)])=.ok (.tup ((C2 (kK [c1,c2,c3]) tt).tb.map iy)) (s2++[al.lst ((C2 (kK [c1,c2,c3]) tt).tb.map iy)]):=gm (aT aU)
  apply aR
  ·exact b8 (j6 (aw e6 (aw (j6 kn (ay rfl)) (aw (bT (aw e7 bq) et7) bq))) (ay rfl))
  generalize hs3:s2++[al.lst ((C2 (kK [c1,c2,c3]) tt).tb.map iy)]=s3
  have k3:s2 <+: s3:=by rw[<- hs3];exact ag _ _
  have np3:bU s3:=by rw[<- hs3];exact cG np2 (lh _)
  generalize hrows:(List.range n).map (fun x=>[x,0,x])=rows
  have Ht:rows.length=n:=by rw[<- hrows];simp
  have e8:=fW (cap:=[none]) (fi:=bn (ai (ah 2) aE)) (f:=eA 0) (el:=jY (ai (ah 0) (ai (eI 0) (ai (ah 0) aE)))) (ρ:=[lO pz,some (.str [c0,c1,c2,c3]),iO (n:Nat),lO st.length,o4,some (C1 c0 n g).w,some (.bl tt),some (C2 (kK [c1,c2,c3]) tt).w,none,none]) (st:=s3) (st1:=s3)
   (rows.map aW) (cF (q:=(n:Int)) kn (by omega)) (by rw[bu];show _<=1000000;omega) trivial (by simp[bu,Ht]) fun x w hw=>by
    obtain⟨hx,rfl⟩:=cC hw
    rw[aB]at hx
    rw[cu]
    exact⟨aW [x,0,x],_,by rw[<- hrows,aM,ak,bf hx];rfl,rfl,j6 (aw kv (aw dv kn)) (ay rfl)⟩
  apply aR
  ·exact zn e8 rfl
  generalize hs4:s3++[al.lst (rows.map aW)]=s4
  have k4:s3 <+: s4:=by rw[<- hs4];exact ag _ _
  have np4:bU s4:=by rw[<- hs4];exact cG np3 (lh _)
  have c4:s4[s3.length]?=some (.lst (rows.map aW)):=by rw[<- hs4];exact aU
  apply aR
  ·exact b8 (bX (bX kv dv (iw (i:=5) (aZ (k1.trans (k2.trans (k3.trans k4))) czs) h5)) kv (j7 pn))
  rw[eT]
  have ew:∃k,(tt=true/\k=2\/tt=false/\k=3)/\bW (.loc s4.length) (.int (if tt=true then 1 else 0)) (s4++[al.lst [.str [111,114],.str [97,110,100]]])=.ok (.str (wd k)) (s4++[al.lst [.str [111,114],.str [97,110,100]]]):=by
   cases tt
   ·exact⟨3,.inr ⟨rfl,rfl⟩,oH (aT aU) rfl⟩
   ·exact⟨2,.inl ⟨rfl,rfl⟩,oH (aT aU) rfl⟩
  obtain⟨k,hk,ew⟩:=ew
  generalize hs5:s4++[al.lst [.str [111,114],.str [97,110,100]]]=s5 at ew
  have k5:s4 <+: s5:=by rw[<- hs5];exact ag _ _
  have np5:bU s5:=by rw[<- hs5];exact cG np4 (lh _)
  have c5:=aZ k5 c4
  have sl1:=vO (st:=s5) (l:=some (t:Int)) (h:=none) (aT c5)
  rw[qE (by rw[am];omega)]at sl1
  have sl2:=vO (st:=s5++[.lst ((rows.map aW).drop t)]) (l:=none) (h:=some (t:Int)) (aT (bN c5))
  rw[qD (by rw[am];omega)]at sl2
  have ead:=rQ (st:=s5++[.lst ((rows.map aW).drop t)]++[.lst ((rows.map aW).take t)]) (n:=s5.length) (m:=(s5++[al.lst ((rows.map aW).drop t)]).length) (bN aU) aU (by simp only[aF,cJ,bc,am];show _<=1000000;omega)
  have hrw:(rows.map aW).drop t++(rows.map aW).take t=(rows.drop t++rows.take t).map aW:=by rw[bG,List.map_drop,pN]
  rw[hrw]at ead
  generalize hs6:s5++[al.lst ((rows.map aW).drop t)]++[al.lst ((rows.map aW).take t)]++[al.lst ((rows.drop t++rows.take t).map aW)]=s6 at ead
  have k6:s5 <+: s6:=by rw[<- hs6];exact(ag _ _).trans ((ag _ _).trans (ag _ _))
  have np6:bU s6:=by rw[<- hs6];exact cG (cG (cG np5 (lh _)) (lh _)) (lh _)
  have c6:s6[(s5++[al.lst ((rows.map aW).drop t)]++[al.lst ((rows.map aW).take t)]).length]?=some (.lst ((rows.drop t++rows.take t).map aW)):=by rw[<- hs6];exact aU
  have hmem:∀r,r∈rows.drop t++rows.take t↔∃x,x<n/\r=[x,0,x]:=fun r=>by
   rw[br,Or.comm,<- br,jF,<- hrows,aJ]
   exact⟨fun⟨x,hx,e⟩=>⟨x,bI.mp hx,e.symm⟩,fun⟨x,hx,e⟩=>⟨x,bI.mpr hx,e.symm⟩⟩
  have hM1:=RR (c:=c0) (g:=g) (show 1<=n by omega)
  have hl3:(kK [c1,c2,c3]).length=3:=B9 _
  have hM2:=RT (t:=tt) hl3
  have zY:zv ([C1 c0 n g,C2 (kK [c1,c2,c3]) tt]++[C1 c0 n g]):=fun M hM=>by
   have hM:M=C1 c0 n g\/M=C2 (kK [c1,c2,c3]) tt:=by simpa[or_comm,or_assoc]using hM
   rcases hM with rfl|rfl
   ·rw[hM1.gd];exact hM1
   ·rw[hM2.gd];exact hM2
  have hnms:∀c,c∈fB ([C1 c0 n g,C2 (kK [c1,c2,c3]) tt]++[C1 c0 n g])->c∈[c0,c1,c2,c3]:=fun c hc=>by
   have hc:c∈[c0]++(kK [c1,c2,c3]++([c0]++[])):=hc
   simp only[br,ba,cL,iQ,(uB _).mem_iff]at hc
   rcases hc with rfl|z|rfl
   ·simp
   ·exact aD _ z
   ·simp
  have hnm4:(iL (fB ([C1 c0 n g,C2 (kK [c1,c2,c3]) tt]++[C1 c0 n g]))).length<=4:=iN (l:=[c0,c1,c2,c3]) ((my _).imp fun h=>aN h) fun c hc=>hnms c (mx.mp hc)
  have qf:(iL (fB ([C1 c0 n g,C2 (kK [c1,c2,c3]) tt]++[C1 c0 n g]))).Nodup:=(my _).imp fun h=>aN h
  have A7:∀x,x<n->kE ([C1 c0 n g,C2 (kK [c1,c2,c3]) tt]++[C1 c0 n g]) [x,0,x]:=fun x hx=>⟨rfl,fun i hi=>by
   match i,hi with
   |0,_=>show x<(C1 c0 n g).gd.length;rw[hM1.gd];exact hx
   |1,_=>show 0<1;omega
   |2,_=>show x<(C1 c0 n g).gd.length;rw[hM1.gd];exact hx⟩
  have hk4:k<4:=by omega
  have esh:=zy (k:=k) hk4 (ps:=[C1 c0 n g,C2 (kK [c1,c2,c3]) tt]) (M:=C1 c0 n g) (rows:=rows.drop t++rows.take t) (nm:=iL (fB ([C1 c0 n g,C2 (kK [c1,c2,c3]) tt]++[C1 c0 n g]))) zY (by simp) (fun _=>by simp) (by simp) (fun M hM=>by
    have hM:M=C1 c0 n g\/M=C2 (kK [c1,c2,c3]) tt:=by simpa[or_comm,or_assoc]using hM
    rcases hM with rfl|rfl
    ·rw[hM1.gd];omega
    ·rw[hM2.gd];omega) rfl (fun c hc=>hL c (hnms c hc)) (by
     show([c0]++(kK [c1,c2,c3]++([c0]++[]))).length<4000
     simp only[aF,hl3];simp) (by omega) (by simp only[aF,cJ,bc];omega) (by
     have hl:(rows.drop t++rows.take t).length=n:=by simp only[aF,cJ,bc];omega
     rw[hl]
     have h16:2^(iL (fB ([C1 c0 n g,C2 (kK [c1,c2,c3]) tt]++[C1 c0 n g]))).length<=16:=cU (by omega) hnm4
     exact cV (cV (show n<=50 by omega) (show n<=50 by omega)) h16) (fun r hr=>by
     obtain⟨x,hx,rfl⟩:=(hmem r).mp hr
     exact A7 x hx) ((hmem _).mpr ⟨0,by omega,rfl⟩) (fun r hr=>by
     obtain⟨x,hx,rfl⟩:=(hmem r).mp hr
     show(C1 c0 n g).gd.getD x false=rY k [(C1 c0 n g).gd.getD x false,tt]
     rcases hk with⟨rfl,rfl⟩|⟨rfl,rfl⟩
     ·simp[rY]
     ·simp[rY]) (fun l hl r hr q hq=>by
     obtain⟨x,hx,rfl⟩:=(hmem l).mp hl
     obtain⟨y,hy,rfl⟩:=(hmem r).mp hr
     refine(hmem _).mpr ⟨DM (C1 c0 n g) (iL (fB ([C1 c0 n g,C2 (kK [c1,c2,c3]) tt]++[C1 c0 n g]))) q x y,?_,?_⟩
     ·obtain⟨_,_,_,_,_,_,_,e⟩:=vW hM1 (vT qf q) hx hy
      exact e
     ·obtain⟨_,_,_,_,_,_,_,e⟩:=vW hM2 (vT qf q) (show 0<1 by omega) (show 0<1 by omega)
      have e0:DM (C2 (kK [c1,c2,c3]) tt) (iL (fB ([C1 c0 n g,C2 (kK [c1,c2,c3]) tt]++[C1 c0 n g]))) q 0 0=0:=by unfold DM;omega
      show[DM (C1 c0 n g) _ q x y,DM (C2 (kK [c1,c2,c3]) tt) _ q 0 0,DM (C1 c0 n g) _ q x y]=_
      rw[e0]) np6 (aZ (hp.trans (k1.trans (k2.trans (k3.trans (k4.trans (k5.trans k6)))))) ht)
  have elw:gg (ai (eC (.str [111,114])) (ai (eC (.str [97,110,100])) aE)) [lO pz,some (.str [c0,c1,c2,c3]),iO (n:Nat),lO st.length,o4,some (C1 c0 n g).w,some (.bl tt),some (C2 (kK [c1,c2,c3]) tt).w,lO s3.length,iO (t:Int)] s4=.ok (.loc s4.length) s5:=by rw[<- hs5];rfl
  obtain⟨x,hx⟩:st <+: s6:=hp.trans (k1.trans (k2.trans (k3.trans (k4.trans (k5.trans k6)))))
  apply dh
  ·exact dW (aw (bX elw (bT kn rfl) ew) (aw (j6 (aw kv kn) (ay rfl)) (aw kv (aw (bT (aw (bX (zb kv (w5 kv) AK sl1) (zb kv AK (w5 kv) sl2) ead) bq) (gm (aT c6))) bq)))) esh rfl
  ·exact⟨_,_,rfl,rfl,x,hx.symm⟩
theorem xE{l:List α}:m5 l none (some (q:Int))=l.take q:=by
 rcases Nat.le_total q l.length with h|h
 ·exact qD h
 ·rw[fy h]
  unfold m5;rw[HT.sIx_none,HT.sIx_nat,Nat.min_eq_right h];simp
structure A1(Ms:List Mc)(nm:List Nat)(R rows:List (List Nat)):Prop where
 sub:∀r∈rows,r∈R
 zero:List.replicate Ms.length 0∈rows
 cl:∀l∈rows,∀r∈rows,∀q,q<2^nm.length->led Ms nm q l r∈rows
theorem A1.of{Ms:List Mc}{nm:List Nat}{R L8:List (List Nat)}(h:A1 Ms nm R rows)(e:∀r,r∈L8↔r∈rows):A1 Ms nm R L8:=
 ⟨fun r hr=>h.sub r ((e r).mp hr),(e _).mpr h.zero,fun l hl r hr q hq=>(e _).mpr (h.cl l ((e l).mp hl) r ((e r).mp hr) q hq)⟩
theorem Ci{Ms:List Mc}{c:Nat}:c∈fB Ms↔∃M∈Ms,c∈M.nm:=by
 unfold fB
 rw[List.mem_flatten]
 simp only[aJ]
 exact⟨fun⟨l,⟨M,hM,e⟩,hc⟩=>⟨M,hM,e▸hc⟩,fun⟨M,hM,hc⟩=>⟨_,⟨M,hM,rfl⟩,hc⟩⟩
theorem Kg{ps:List Mc}(h:j8 ps):(fB ps).length<=4:=by
 have h0:=(h.ok _ (nn (i:=0) (by have:=h.ln;omega))).nl
 rcases h.ln with z|z
 ·match ps,z with
  |[A],_=>
   have h0:A.nm.length<=2:=h0
   simp[fB];omega
 ·match ps,z with
  |[A,B],_=>
   have h0:A.nm.length<=2:=h0
   have h1:B.nm.length<=2:=(h.ok B (by simp)).nl
   simp[fB];omega
theorem Hb{s:List al}(h:ρ[3]?=some (some (.bl true))):tU (Df "bool" (ah 3)) (ah 3) ρ s=.ok (.bl true) s:=w4 (K5 (gZ h) rfl rfl) (gZ h)
theorem law_ok:Fs (uc tabL) f_q27:=by
 intro ns hn
 suffices hh:lF (BU fun w bD=>w=.bl true) (LQ ([W.loc 0].map some++List.replicate (10-1) none) (.ro (ns.map W.int)::uc tabL)) by
  obtain⟨w,bD,e,rfl⟩:=hh
  exact⟨_,qA e⟩
 have h0:(al.ro (ns.map W.int)::uc tabL)[0]?=some (.ro (ns.map W.int)):=rfl
 have ht:(al.ro (ns.map W.int)::uc tabL)[1]?=some S7:=rfl
 have np:bU (al.ro (ns.map W.int)::uc tabL):=fun d hd c=>by
  simp only[uc,tabL,aI,iC,aG,cL,iQ]at hd
  rcases hd with rfl|rfl<;>rfl
 generalize (al.ro (ns.map W.int)::uc tabL:List al)=s0 at h0 ht np
 have el0:gg (ai (eI 3) (ai (eI 3) (ai (eI 3) aE))) [lO 0,none,none,none,none,none,none,none,none,none] s0=.ok (.loc s0.length) (s0++[.lst [.int 3,.int 3,.int 3]]):=rfl
 obtain⟨j,x,A,B,hA,hB,np2,hx,e1⟩:=OD (st:=s0++[.lst [.int 3,.int 3,.int 3]]) (L:=s0.length) (bN h0) aU (cG np (lh _))
 apply aR
 ·exact b8 (dW (aw kv (aw el0 bq)) e1 rfl)
 obtain⟨pT,hpT⟩:∃pT,pT=(s0++[al.lst [.int 3,.int 3,.int 3]]).length+j:=⟨_,rfl⟩
 rw[<- hpT]
 have cT:(s0++[al.lst [.int 3,.int 3,.int 3]]++x)[pT]?=some (.lst [A.w,B.w]):=by rw[hpT,wZ];exact hx
 have k2:s0 <+: s0++[al.lst [.int 3,.int 3,.int 3]]++x:=(ag _ _).trans (ag _ _)
 generalize s0++[al.lst [.int 3,.int 3,.int 3]]++x=s2 at np2 cT k2 ⊢
 obtain⟨c4,e4⟩:=qI (aZ k2 h0) 4
 obtain⟨ds,hdl,hdp,ed⟩:=qJ c4 500009 10 (by omega) s2
 apply aR
 ·exact b8 (dW (aw (dW (aw kv (aw dv bq)) e4 rfl) (aw dv (aw dv bq))) ed rfl)
 obtain⟨pz,hpz⟩:∃pz,pz=s2.length:=⟨_,rfl⟩
 rw[<- hpz]
 have cz:(s2++[al.lst (ds.map W.int)])[pz]?=some (.lst (On ds)):=by rw[hpz];exact aU
 have k3:s2 <+: s2++[al.lst (ds.map W.int)]:=ag _ _
 have np3:bU (s2++[al.lst (ds.map W.int)]):=cG np2 (lh _)
 generalize s2++[al.lst (ds.map W.int)]=s3 at cz k3 np3 ⊢
 have hd:∀q,q<10->∃d:Int,ds[q]?=some d/\0<=d:=fun q hq=>⟨_,ar (by omega),hdp _ (d_ _)⟩
 have dq:∀(q:Nat),q<10->∀(m:Nat),0<m->∃r:Nat,r<m/\∀(s:List al) (ρ:ca),s3 <+: s->ρ[2]?=some (lO pz)->e2 eW (e2 bW (ah 2) (eC (.int (q:Nat)))) (eC (.int (m:Nat))) ρ s=.ok (.int (r:Nat)) s:=fun q hq m hm=>by
  obtain⟨d,h1,_⟩:=hd q hq
  obtain⟨r,hr,er⟩:=jU (q:=d) (n:=m) hm
  refine⟨r,hr,fun s ρ hs h2=>?_⟩
  rw[<- er]
  exact bX (bX (gZ h2) dv (iw (aZ hs cz) h1)) dv (j7 (show(0:Int)<(m:Int) by omega))
 have tq:∀{q m c:Nat} {r:Nat} {s:List al} {ρ:ca},e2 eW (e2 bW (ah 2) (eC (.int (q:Nat)))) (eC (.int (m:Nat))) ρ s=.ok (.int (r:Nat)) s->kI (e2 mU (e2 eW (e2 bW (ah 2) (eC (.int (q:Nat)))) (eC (.int (m:Nat)))) (eC (.int (c:Nat)))) ρ s=.ok (decide (r=c)) s:=fun{q m c r s ρ} h=>by
  refine fz (bX h dv (qB ?_))
  by_cases z:r=c
  ·subst z;simp
  ·rw[aH z,bx];omega
 have h03:=aZ (k2.trans k3) h0
 have ht3:=aZ (k2.trans k3) ht
 have cT3:=aZ k3 cT
 have jK:∀s:List al,s3 <+: s->∃c0 c1 c2 c3:Nat,[c0,c1,c2,c3].Nodup/\(∀c∈[c0,c1,c2,c3],c∈LL)/\∀ρ:ca,ρ[0]?=some (lO 0)->dS 3 sw (ai (dS 2 nO (ai (ah 0) (ai (eI 1) aE))) (ai (eI 4) (ai (eI 200017) aE))) ρ s=.ok (.str [c0,c1,c2,c3]) s:=fun s hs=>by
  obtain⟨c,ec⟩:=qI (aZ hs h03) 1
  obtain⟨l,hl,hn,hL,e⟩:=B8 c 200017 4 (by omega) s
  match l,hl with
  |[c0,c1,c2,c3],_=>exact⟨c0,c1,c2,c3,hn,hL,fun ρ r0=>dW (aw (dW (aw (gZ r0) (aw dv bq)) ec rfl) (aw dv (aw dv bq))) e rfl⟩
 obtain⟨r8,_,e8⟩:=dq 8 (by omega) 16 (by omega)
 by_cases h8:r8=5
 ·obtain⟨c0,c1,c2,c3,hn4,hL4,ep⟩:=jK s3 (ac _)
  apply kS
  ·exact(tq (c:=5) (e8 s3 _ (ac _) rfl)).trans (by rw[aV h8])
  apply DA
  apply aR
  ·exact b8 (dW (aw kv (aw (ep _ rfl) bq)) (A0 hdl hn4 hL4 cz np3 ht3) rfl)
  exact i7 (Hb rfl) ⟨_,_,rfl,rfl⟩
 apply fR
 ·exact(tq (c:=5) (e8 s3 _ (ac _) rfl)).trans (by rw[aH h8])
 apply gP
 obtain⟨k,hk,ek⟩:=dq 0 (by omega) 4 (by omega)
 have elw:∀ρ:ca,gg (Bp [[115,97,109,101],[110,111,116],[97,110,100],[111,114]]) ρ s3=.ok (.loc s3.length) (s3++[.lst [.str (wd 0),.str (wd 1),.str (wd 2),.str (wd 3)]]):=fun ρ=>rfl
 have k4:s3 <+: s3++[al.lst [.str (wd 0),.str (wd 1),.str (wd 2),.str (wd 3)]]:=ag _ _
 have np4:bU (s3++[al.lst [.str (wd 0),.str (wd 1),.str (wd 2),.str (wd 3)]]):=cG np3 (lh _)
 have eiw:bW (.loc s3.length) (.int (k:Nat)) (s3++[al.lst [.str (wd 0),.str (wd 1),.str (wd 2),.str (wd 3)]])=.ok (.str (wd k)) (s3++[al.lst [.str (wd 0),.str (wd 1),.str (wd 2),.str (wd 3)]]):=by
  refine oH (aT aU) (gk ?_)
  obtain rfl|rfl|rfl|rfl:k=0\/k=1\/k=2\/k=3:=by omega
  all_goals rfl
 apply aR
 ·exact b8 (bX (elw _) (ek _ _ k4 rfl) eiw)
 generalize s3++[al.lst [.str (wd 0),.str (wd 1),.str (wd 2),.str (wd 3)]]=s4 at k4 np4 ⊢
 apply aR
 ·exact b8 kv
 refine ng (fun ρ s=>∃(ps:List Mc) (p5:Nat),ρ=[lO 0,lO pT,lO pz,none,some (.str (wd k)),lO p5,none,none,none,none]/\j8 ps/\(2<=k->ps.length=2)/\s[p5]?=some (.lst (ps.map Mc.w))/\s3 <+: s/\bU s) ?_ ?_
 ·have tk:∀ρ:ca,ρ[2]?=some (lO pz)->kI (e2 yx (e2 eW (e2 bW (ah 2) (eI 0)) (eI 4)) (eI 2)) ρ s4=.ok (decide ((k:Int)<2)) s4:=fun ρ h2=>fz (bX (ek _ _ k4 h2) dv (uu rfl))
  by_cases Kh:k<2
  ·have sl:=vO (st:=s4) (l:=none) (h:=some ((1:Nat):Int)) (aT (aZ k4 cT3))
   rw[xE]at sl
   apply oI
   ·rw[tk _ rfl,aV (by omega)]
   refine⟨_,_,b8 (zb kv AK (w5 dv) sl),[A],_,rfl,⟨.inl rfl,fun M hM=>by rw[ba.mp hM];exact hA⟩,fun z=>by omega,aU,iu k4,cG np4 (lh _)⟩
  ·apply mF
   ·rw[tk _ rfl,aH (by omega)]
   refine⟨_,_,rfl,[A,B],_,rfl,⟨.inr rfl,fun M hM=>?_⟩,fun _=>rfl,aZ k4 cT3,k4,np4⟩
   have hM:M=A\/M=B:=by simpa using hM
   rcases hM with rfl|rfl
   ·exact hA
   ·exact hB
 rintro ρ s5 ⟨ps,p5,rfl,tu,Kh,c5,k5,np5⟩
 have mI:ps.length<=2:=by have:=tu.ln;omega
 have hpl1:1<=ps.length:=by have:=tu.ln;omega
 have ec:=fW (cap:=[none]) (fi:=eQ (ah 5)) (f:=eA 0) (el:=e2 bW (ah 0) (eI 0)) (ρ:=[lO 0,lO pT,lO pz,none,some (.str (wd k)),lO p5,none,none,none,none]) (st:=s5) (st1:=s5)
  ((ps.map Mc.nm).map W.str) (m_ kv (aT c5)) (by rw[am];show _<=1000000;omega) (aT c5) (by simp) fun i w hw=>by
   rw[ak,be]at hw
   obtain⟨M',hM',rfl⟩:=hw
   exact⟨_,_,by rw[aM,ak,hM'];rfl,rfl,bX kv dv rfl⟩
 have Ks:=Kg tu
 have ej:=rS (sep:=[]) (ls:=ps.map Mc.nm) (st:=s5++[.lst ((ps.map Mc.nm).map W.str)]) (n:=s5.length) (aT aU) (by rw[zx];have:(fB ps).length<=4:=Ks;unfold fB at this;show _<=1000000;simp only[gR,Nat.zero_mul,Nat.mul_zero,fY];omega)
 rw[kQ]at ej
 apply aR
 ·exact b8 (dW (aw (AJ dv rfl (aw ec bq) ej) bq) (zz (fB ps) _) rfl)
 have k6:s3 <+: s5++[al.lst ((ps.map Mc.nm).map W.str)]:=iu k5
 have np6:bU (s5++[al.lst ((ps.map Mc.nm).map W.str)]):=cG np5 (lh _)
 have c6:(s5++[al.lst ((ps.map Mc.nm).map W.str)])[p5]?=some (.lst (ps.map Mc.w)):=bN c5
 generalize s5++[al.lst ((ps.map Mc.nm).map W.str)]=s6 at k6 np6 c6 ⊢
 have hsub0:∀M∈ps,∀c∈M.nm,c∈xr (fB ps):=fun M hM c hc=>oJ.mpr ⟨(tu.ok M hM).ll c hc,Ci.mpr ⟨M,hM,hc⟩⟩
 have hlen0:∀l:List Nat,(xr l).length<=l.length:=fun l=>iN ((xu l).imp fun z=>aN z) fun c hc=>(oJ.mp hc).2
 obtain⟨r1,_,er1⟩:=dq 1 (by omega) 4 (by omega)
 refine ng (fun ρ s=>∃(nm:List Nat),ρ=[lO 0,lO pT,lO pz,none,some (.str (wd k)),lO p5,some (.str nm),none,none,none]/\s=s6/\nm.Pairwise (· < ·)/\nm.length<=5/\(∀M∈ps,∀c∈M.nm,c∈nm)/\∀c∈nm,c∈LL) ?_ ?_
 ·by_cases hr1:r1=1
  ·obtain⟨c0,c1,c2,c3,hn4,hL4,ep⟩:=jK s6 k6
   have e3:bW (.str [c0,c1,c2,c3]) (.int 3) s6=.ok (.str [c3]) s6:=BS (ay rfl) rfl
   have hl0:=hlen0 (fB ps)
   have ea:du (.str (xr (fB ps))) (.str [c3]) s6=.ok (.str (xr (fB ps)++[c3])) s6:=AL (by simp;show _<=1000000;omega)
   apply oI
   ·exact(tq (c:=1) (er1 s6 _ k6 rfl)).trans (by rw[aV hr1])
   refine⟨_,_,b8 (dW (aw (bX kv (bX (ep _ rfl) dv e3) ea) bq) (zz _ _) rfl),_,rfl,rfl,xu _,?_,fun M hM c hc=>oJ.mpr ⟨(tu.ok M hM).ll c hc,fX _ (hsub0 M hM c hc)⟩,fun c hc=>(oJ.mp hc).1⟩
   have:=hlen0 (xr (fB ps)++[c3])
   rw[aF,fL]at this
   omega
  ·apply mF
   ·exact(tq (c:=1) (er1 s6 _ k6 rfl)).trans (by rw[aH hr1])
   have hl0:=hlen0 (fB ps)
   exact⟨_,_,rfl,_,rfl,rfl,xu _,by omega,hsub0,fun c hc=>(oJ.mp hc).1⟩
 rintro ρ s ⟨nm,rfl,rfl,uM,Km,ve,hnL⟩
 have qf:nm.Nodup:=uM.imp fun z=>aN z
 obtain⟨d2,hd2,hd20⟩:=hd 2 (by omega)
 obtain⟨sh,hsh⟩:=mQ hd20
 obtain⟨tw,htw,etw⟩:=dq 3 (by omega) 2 (by omega)
 obtain⟨p8,x8,c8,np8,em⟩:=Kc (tw:=tw) (sh:=sh) (k:=k) tu hk Kh (by omega) Km uM ve c6 np6
 have e2':e2 bW (ah 2) (eI 2) [lO 0,lO pT,lO pz,none,some (.str (wd k)),lO p5,some (.str nm),none,none,none] s=.ok (.int (sh:Nat)) s:=by
  rw[<- hsh]
  exact bX kv dv (iw (i:=2) (aZ k6 cz) hd2)
 apply aR
 ·exact zn (dW (aw kv (aw kv (aw kv (aw e2' (aw (etw s _ k6 rfl) bq))))) em rfl) rfl
 have k8:s3 <+: s++x8:=iu k6
 have c58:(s++x8)[p5]?=some (.lst (ps.map Mc.w)):=bN c6
 generalize s++x8=s8 at c8 np8 k8 c58 ⊢
 generalize hM:Md ps nm tw sh k=M
 have zY:zv (ps++[M]):=fun M' hM'=>by
  rcases br.mp hM' with z|z
  ·exact tu.ms M' z
  ·rw[ba.mp z,<- hM,G1];exact RG tu qf
 have hSub:∀M'∈ps++[M],Sub M'.nm nm:=fun M' hM'=>by
  rcases br.mp hM' with z|z
  ·exact⟨(tu.ok M' z).up,ve M' z⟩
  ·rw[ba.mp z,<- hM];exact⟨uM,fun c hc=>hc⟩
 have hMl:(ps++[M]).length=ps.length+1:=by simp
 have hm18:=xB (tw:=tw) tu (by omega)
 have hm1:=xA (tw:=tw) tu
 have memR:∀r,r∈iF ps tw sh↔∃i,i<ie ps tw/\r=iI ps tw sh i:=fun r=>by
  unfold iF
  rw[aJ]
  exact⟨fun⟨i,hi,e⟩=>⟨i,bI.mp hi,e.symm⟩,fun⟨i,hi,e⟩=>⟨i,bI.mpr hi,e.symm⟩⟩
 have hRr:∀r∈iF ps tw sh,kE (ps++[M]) r:=fun r hr=>by
  obtain⟨i,hi,rfl⟩:=(memR r).mp hr
  rw[<- hM];exact OG tu hi
 have hRz:List.replicate (ps++[M]).length 0∈iF ps tw sh:=(memR _).mpr ⟨0,by omega,by rw[hMl,RJ tu]⟩
 have hRc:∀l∈iF ps tw sh,∀r∈iF ps tw sh,∀q,q<2^nm.length->led (ps++[M]) nm q l r∈iF ps tw sh:=fun l hl r hr q hq=>by
  obtain⟨i,hi,rfl⟩:=(memR l).mp hl
  obtain⟨i2,hi2,rfl⟩:=(memR r).mp hr
  rw[<- hM,RH tu qf hq hi hi2]
  exact(memR _).mpr ⟨_,AY tu qf _ _ _,rfl⟩
 have UB:(iF ps tw sh).length<=18:=by simp[iF];exact hm18
 obtain⟨r4,_,er4⟩:=dq 4 (by omega) 3 (by omega)
 refine ng (fun ρ s=>∃(rows:List (List Nat)) (p8:Nat),ρ=[lO 0,lO pT,lO pz,none,some (.str (wd k)),lO p5,some (.str nm),some M.w,lO p8,none]/\s[p8]?=some (.lst (rows.map aW))/\s[p5]?=some (.lst (ps.map Mc.w))/\s3 <+: s/\bU s/\A1 (ps++[M]) nm (iF ps tw sh) rows/\1<=rows.length/\rows.length<=18) ?_ ?_
 ·by_cases hr4:r4=1
  ·have elm:gg (ai (ah 7) aE) [lO 0,lO pT,lO pz,none,some (.str (wd k)),lO p5,some (.str nm),some M.w,lO p8,none] s8=.ok (.loc s8.length) (s8++[.lst [M.w]]):=rfl
   have ea:=rQ (st:=s8++[.lst [M.w]]) (n:=p5) (m:=s8.length) (ws:=ps.map Mc.w) (xs:=[M.w]) (bN c58) aU (by simp;show _<=1000000;omega)
   rw[show ps.map Mc.w++[M.w]=(ps++[M]).map Mc.w by rw[bG];rfl]at ea
   obtain⟨j,y,mt,v7,mh,npy,cy,ey⟩:=OM (R:=iF ps tw sh) zY (by omega) uM hSub Km hRr (by omega) hRz hRc (st:=s8++[.lst [M.w]]++[.lst ((ps++[M]).map Mc.w)]) (pm:=(s8++[al.lst [M.w]]).length) aU (cG (cG np8 (lh _)) (lh _))
   apply oI
   ·exact(tq (c:=1) (er4 s8 _ k8 rfl)).trans (by rw[aV hr4])
   have:=v7.len
   exact⟨_,_,b8 (dW (aw (bX kv elm ea) kn) ey rfl),mt,_,rfl,cy,bN (bN (bN c58)),iu (iu (iu k8)),npy,⟨v7.sub,v7.zero,mh⟩,ju v7.zero,by omega⟩
  ·apply mF
   ·exact(tq (c:=1) (er4 s8 _ k8 rfl)).trans (by rw[aH hr4])
   exact⟨_,_,rfl,iF ps tw sh,p8,rfl,c8,c58,k8,np8,⟨fun r hr=>hr,hRz,hRc⟩,by simp[iF];omega,UB⟩
 rintro ρ s9 ⟨rows,p9,rfl,c9,c59,k9,np9,hgood,hl1,hl18⟩
 obtain⟨t,htl,et⟩:∃t:Nat,t<rows.length/\∀ρ:ca,ρ[2]?=some (lO pz)->ρ[8]?=some (lO p9)->e2 eW (e2 bW (ah 2) (eI 5)) (bz dE (ai (ah 8) aE)) ρ s9=.ok (.int (t:Nat)) s9:=by
  obtain⟨d,h1,_⟩:=hd 5 (by omega)
  obtain⟨r,hr,er⟩:=jU (q:=d) (n:=rows.length) (by omega)
  refine⟨r,hr,fun ρ h2 h8=>?_⟩
  rw[<- er]
  exact bX (bX (gZ h2) dv (iw (i:=5) (aZ k9 cz) h1)) (bT (aw (gZ h8) bq) (by rw[me (aT c9),am])) (j7 (show(0:Int)<(rows.length:Int) by omega))
 apply aR
 ·exact b8 (et _ rfl rfl)
 have sl1:=vO (st:=s9) (l:=some (t:Int)) (h:=none) (aT c9)
 rw[qE (by rw[am];omega)]at sl1
 have sl2:=vO (st:=s9++[.lst ((rows.map aW).drop t)]) (l:=none) (h:=some (t:Int)) (aT (bN c9))
 rw[xE]at sl2
 have ead:=rQ (st:=s9++[.lst ((rows.map aW).drop t)]++[.lst ((rows.map aW).take t)]) (n:=s9.length) (m:=(s9++[al.lst ((rows.map aW).drop t)]).length) (bN aU) aU (by simp only[aF,cJ,bc,am];show _<=1000000;omega)
 have hrw:(rows.map aW).drop t++(rows.map aW).take t=(rows.drop t++rows.take t).map aW:=by rw[bG,List.map_drop,pN]
 rw[hrw]at ead
 apply aR
 ·exact b8 (bX (zb kv (w5 kv) AK sl1) (zb kv AK (w5 kv) sl2) ead)
 obtain⟨A_,hp10⟩:∃A_,A_=(s9++[al.lst ((rows.map aW).drop t)]++[al.lst ((rows.map aW).take t)]).length:=⟨_,rfl⟩
 rw[<- hp10]
 have c10:(s9++[al.lst ((rows.map aW).drop t)]++[al.lst ((rows.map aW).take t)]++[al.lst ((rows.drop t++rows.take t).map aW)])[A_]?=some (.lst ((rows.drop t++rows.take t).map aW)):=by rw[hp10];exact aU
 have k10:s9 <+: s9++[al.lst ((rows.map aW).drop t)]++[al.lst ((rows.map aW).take t)]++[al.lst ((rows.drop t++rows.take t).map aW)]:=(ag _ _).trans ((ag _ _).trans (ag _ _))
 have np10:bU (s9++[al.lst ((rows.map aW).drop t)]++[al.lst ((rows.map aW).take t)]++[al.lst ((rows.drop t++rows.take t).map aW)]):=cG (cG (cG np9 (lh _)) (lh _)) (lh _)
 generalize s9++[al.lst ((rows.map aW).drop t)]++[al.lst ((rows.map aW).take t)]++[al.lst ((rows.drop t++rows.take t).map aW)]=s10 at c10 k10 np10 ⊢
 have Kr:A1 (ps++[M]) nm (iF ps tw sh) (rows.drop t++rows.take t):=hgood.of fun r=>by rw[br,Or.comm,<- br,jF]
 have hl2:(rows.drop t++rows.take t).length=rows.length:=by simp only[aF,cJ,bc];omega
 generalize rows.drop t++rows.take t=rows2 at c10 Kr hl2
 obtain⟨r6,_,er6⟩:=dq 6 (by omega) 2 (by omega)
 refine ng (fun ρ s=>∃(fN:List (List Nat)) (p:Nat),ρ=[lO 0,lO pT,lO pz,none,some (.str (wd k)),lO p5,some (.str nm),some M.w,lO p,iO (t:Nat)]/\s[p]?=some (.lst (fN.map aW))/\s10 <+: s/\bU s/\A1 (ps++[M]) nm (iF ps tw sh) fN/\fN.length=rows.length) ?_ ?_
 ·by_cases hr6:r6=1
  ·apply oI
   ·exact(tq (c:=1) (er6 s10 _ (k9.trans k10) rfl)).trans (by rw[aV hr6])
   refine⟨_,_,b8 (Oy kv (aT c10) (by rw[am];show _<=1000000;omega)),rows2.reverse,_,rfl,by rw[aU,List.map_reverse],ag _ _,cG np10 (lh _),Kr.of fun r=>List.mem_reverse,by rw[eZ,hl2]⟩
  ·apply mF
   ·exact(tq (c:=1) (er6 s10 _ (k9.trans k10) rfl)).trans (by rw[aH hr6])
   exact⟨_,_,rfl,rows2,_,rfl,c10,ac _,np10,Kr,hl2⟩
 rintro ρ s11 ⟨fN,DR,rfl,c11,k11,np11,hg3,hl3⟩
 obtain⟨r7,hr7,er7⟩:=dq 7 (by omega) 3 (by omega)
 have kk11:s3 <+: s11:=k9.trans (k10.trans k11)
 have sl3:=vO (st:=s11) (l:=none) (h:=some (r7:Int)) (aT c11)
 rw[xE]at sl3
 have ea3:=rQ (st:=s11++[.lst ((fN.map aW).take r7)]) (n:=DR) (m:=s11.length) (bN c11) aU (by simp only[aF,bc,am];show _<=1000000;omega)
 rw[show fN.map aW++(fN.map aW).take r7=(fN++fN.take r7).map aW by rw[bG,pN]]at ea3
 apply aR
 ·exact b8 (bX kv (zb kv AK (w5 (er7 s11 _ kk11 rfl)) sl3) ea3)
 obtain⟨p12,hp12⟩:∃p12,p12=(s11++[al.lst ((fN.map aW).take r7)]).length:=⟨_,rfl⟩
 rw[<- hp12]
 have c12:(s11++[al.lst ((fN.map aW).take r7)]++[al.lst ((fN++fN.take r7).map aW)])[p12]?=some (.lst ((fN++fN.take r7).map aW)):=by rw[hp12];exact aU
 have k12:s11 <+: s11++[al.lst ((fN.map aW).take r7)]++[al.lst ((fN++fN.take r7).map aW)]:=(ag _ _).trans (ag _ _)
 have np12:bU (s11++[al.lst ((fN.map aW).take r7)]++[al.lst ((fN++fN.take r7).map aW)]):=cG (cG np11 (lh _)) (lh _)
 generalize s11++[al.lst ((fN.map aW).take r7)]++[al.lst ((fN++fN.take r7).map aW)]=s12 at c12 k12 np12 ⊢
 have hg4:A1 (ps++[M]) nm (iF ps tw sh) (fN++fN.take r7):=hg3.of fun r=>by
  rw[br]
  exact⟨fun z=>z.elim id fun z=>List.mem_of_mem_take z,.inl⟩
 have hl4:(fN++fN.take r7).length<=20:=by simp only[aF,bc];omega
 generalize fN++fN.take r7=rows4 at c12 hg4 hl4
 have hnms:∀c,c∈fB (ps++[M])↔c∈nm:=fun c=>by
  rw[Ci]
  constructor
  ·rintro⟨M',hM',hc⟩
   exact(hSub M' hM').2 c hc
  ·exact fun hc=>⟨M,by simp,by rw[<- hM];exact hc⟩
 have hsort:iL (fB (ps++[M]))=nm:=t5 (my _) uM fun c=>by rw[mx,hnms]
 have hp32:2^nm.length<=32:=cU (by omega) Km
 have esh:=zy (k:=k) hk (ps:=ps) (M:=M) (rows:=rows4) (nm:=nm) zY hpl1 (fun z=>by have:=Kh z;omega) (by omega) (fun M' hM'=>by
   rcases br.mp hM' with z|z
   ·have:=(tu.ok M' z).hi;omega
   ·rw[ba.mp z,<- hM,G1];omega) hsort (fun c hc=>hnL c ((hnms c).mp hc)) (by
    have:fB (ps++[M])=fB ps++nm:=by rw[<- hM];simp[fB,Md]
    rw[this,aF];omega) (by omega) (by omega) (bd (cV (cV hl4 hl4) hp32) (by omega)) (fun r hr=>hRr r (hg4.sub r hr)) (by rw[<- hMl];exact hg4.zero) (fun r hr=>by
    obtain⟨i,hi,rfl⟩:=(memR r).mp (hg4.sub r hr)
    rw[<- hM];exact RI tu hi) hg4.cl np12 (aZ (kk11.trans k12) ht3)
 have c512:=aZ (k10.trans (k11.trans k12)) c59
 apply aR
 ·exact b8 (dW (aw kv (aw (bT kn (gm (aT c512))) (aw kv (aw (bT kn (gm (aT c12))) bq)))) esh rfl)
 exact dh (Hb rfl) ⟨_,_,rfl,rfl⟩
theorem all_mk{l:PySem.W.OpenLaw}{w:World}{fa:Addr}(X:K.In h)(G:h.Ns mainGlobals mg)(U2:mg "law"=some (.ref fa))
  {Hs A4:Addr} {RY Sa OP Hr:Option Addr} {R4 O0:Array (Option Value)} {R8 Su Si R7 R' OU Hk Hd Hj A3 Hh:Value} {iV:Addr} {qc:Addr} {xI:Tok} {xJ:Tok}
  (A8:DefIn K "in_order" NU)
  (Hl:DefIn K "two_to" NV)
  (uT:DefIn K "entries_many" NW)
  (vh:DefIn K "own_numbers" NX)
  (xM:DefIn K "table_over" NY)
  (O1:DefIn K "says" NZ)
  (A':DefIn K "goods_of" N1)
  (vi:DefIn K "check_looks" N2)
  (DU:DefIn K "is_room" N3)
  (zP:DefIn K "all_rooms" F9)
  (Hz:DefIn K "closed" F')
  (DS:DefIn K "says_so" Gb)
  (Ko:DefIn K "shown" Ge)
  (zO:DefIn K "_law_cell" Gh)
  (xF:DefIn K "_law_mixed" Gj)
  (xL:DefIn K "_law_draws" Gm)
  (zL:DefIn K "_law_pool" Go)
  (xH:DefIn K "_law_marks" Gq)
  (uQ:DefIn K "_law_machine" Gu)
  (vg:DefIn K "_law_letter" Gw)
  (A6:DefIn K "_law_two" Gy)
  (xK:DefIn K "_law_names" GA)
  (qS:DefIn K "_law_made_table" GC)
  (zM:DefIn K "_law_made" GE)
  (sV:DefIn K "_law_met_rows" GF)
  (uK:DefIn K "_law_counted" GH)
  (T4:nsIn K mainGlobals "side_by_side"=some (some (.ref Hs)))
  (Ui:K.lookup Hs=some ⟨R8,RY,.func (fnOf "side_by_side" "side_by_side" (fm zd) (dZ zd) (aL zd) .none Su Si R7 Sa (.ref iV) R'),R4⟩)
  (Ho:codeIn K (.ref iV) "side_by_side"=true)
  (T_:keepIn K (.ref Hs)=true)
  (tc_side_by_side:codeHdIn K iV 81=true)
  (tk_side_by_side:K.lookup 81=none)
  (L':nsIn K mainGlobals "law"=some (some (.ref A4)))
  (RU:K.lookup A4=some ⟨OU,OP,.func (fnOf "law" "law" (fm qG) (dZ qG) (aL qG) .none Hk Hd Hj Hr A3 Hh),O0⟩)
  (DV:codeIn K A3 "law"=true)
  (Sv:keepIn K (.ref A4)=true)
  (A2:nsIn K mainGlobals "TooGreat"=some (some (.ref qc)))
  (x_TooGreat:excIn K qc QO KR=true)
  (Sk:nsIn K mainGlobals "all"=some none)
  (OS:nsIn K mainGlobals "bool"=some none)
  (OQ:nsIn K mainGlobals "dict"=some none)
  (Sd:nsIn K mainGlobals "int"=some none)
  (xG:nsIn K mainGlobals "isinstance"=some none)
  (RV:nsIn K mainGlobals "len"=some none)
  (R1:nsIn K mainGlobals "max"=some none)
  (Kj:nsIn K mainGlobals "range"=some none)
  (RW:nsIn K mainGlobals "set"=some none)
  (Hm:nsIn K mainGlobals "sorted"=some none)
  (Kn:nsIn K mainGlobals "tuple"=some none)
  (Ss:nsIn K mainGlobals "zip"=some none)
  (xN:nsIn K mainGlobals "MOST_NAMES"=some (some (.int 13 xI)))
  (xO:nsIn K mainGlobals "MOST_LOOKS"=some (some (.int 40000 xJ))) :
  ∃fd:FuncData,(∀(s:Shared) (v:Value),BindsTo s fd ⟨[v],[]⟩ [("_law_script",v)])/\∀base:Heap,K.In base->base.Ns mainGlobals mg->wL base mg->fV l.prog w K mg base (ja l.prog w) 6 fa fd GI (nT K mg 1 f_q27):=by
 have e:=U2.symm.trans (mg_of X G L')
 cases e
 have F_q6:=Ag (st:=zd) Ui Ho T_
 have m_q6:=mg_of X G T4
 have F_q27:=Ag (st:=qG) RU DV Sv
 have m_q27:=mg_of X G L'
 have B:Bl mg:=⟨mg_none_of X G Sk,mg_none_of X G OS,mg_none_of X G OQ,mg_none_of X G Sd,mg_none_of X G xG,mg_none_of X G RV,mg_none_of X G R1,mg_none_of X G Kj,mg_none_of X G RW,mg_none_of X G Hm,mg_none_of X G Kn,mg_none_of X G Ss⟩
 have C:O_ K mg:=⟨⟨qc,mg_of X G A2,x_TooGreat⟩⟩
 have Gg:Gc K mg:=⟨⟨_,.int 13,mg_of X G xN,⟨_,rfl⟩,fun μ H=>.int⟩,⟨_,.int 40000,mg_of X G xO,⟨_,rfl⟩,fun μ H=>.int⟩⟩
 refine⟨fnOf "law" "law" (fm qG) (dZ qG) (aL qG) .none Hk Hd Hj Hr A3 Hh,fun s v=>.of_eq rfl,fun base _ _ Bk=>?_⟩
 have qd:=@Nl l.prog w K mg base
 have Sf:=qd A8 X G fun F=>Ri F B  
 have Kk:=qd Hl X G fun F=>Rk F B  
 have OO:=qd uT X G fun F=>Rn F B  Kk
 have Sn:=qd vh X G fun F=>Rp F   
 have ON:=qd xM X G fun F=>Rs F B  Sn
 have Sg:=qd O1 X G fun F=>Ru F   
 have ii:=mG (P:=l.prog) (w:=w) (K:=K) (mg:=mg) (base:=base) B 
 have Ma:=qd Hz X G fun F=>N4 F B ii 
 have RZ:yZ l.prog w K mg base 3 "side_by_side" 2 bR ic:=ND F_q6 m_q6 (Rv F_q6 ⟨iV,rfl,tc_side_by_side,tk_side_by_side⟩ Bk   ON)
 have Sc:=qd A' X G fun F=>Rx F B  
 have Sb:=qd vi X G fun F=>Ry F B Gg C  OO
 have RX:=qd DU X G fun F=>RA F B  
 have L9:=qd zP X G fun F=>N6 F B  RX
 have L6:=qd DS X G fun F=>N7 F   Sc Sg
 have v_:=qd Ko X G fun F=>N8 F B  L9 Sb Ma Sf L6 RZ Kk
 have uJ:=qd zO X G fun F=>N9 F B  
 have L5:=qd xF X G fun F=>N_ F   
 have uN:=qd xL X G fun F=>N' F B  L5
 have v8:=qd zL X G fun F=>Oa F B  uN
 have v9:=qd xH X G fun F=>Ob F B  
 have L7:=qd uQ X G fun F=>Oc F B  
 have Cm:=qd vg X G fun F=>Od F B  
 have Hy:=qd A6 X G fun F=>Oe F B  uJ uN L7 v9 v8
 have Ck:=qd xK X G fun F=>Of F   
 have Hg:=qd qS X G fun F=>Og F B  Cm v9
 have Hf:=qd zM X G fun F=>Oh F B  Hg
 have Hc:=qd sV X G fun F=>Oi F B  Cm v9
 have Hu:=qd uK X G fun F=>Oj F B  v_
 exact Ol F_q27 B  uJ Hu uN Hf Hc Ck v8 Hy v_
end P
end
namespace PySem.W.Fast
def tw9622648906392087165:=0
def tw289222684327873115:=0
def tw16282866351604922325:=0
def tw13223449815455803061:=0
def tw14288128939482384883:=0
def tw14543538624562590867:=0
def tw11410435320453138704:=0
def tw3838593191826806092:=0
def tw6406090480739844555:=0
def tw8738743241030980230:=0
def tw8210717246731761990:=0
def tw10326357842712391906:=0
def tw4953554169446288769:=0
def tw7702856722839324912:=0
def tw424636702765782183:=0
def tw10630265754555312283:=0
def tw11564082593602035346:=0
def tw3438755782962903637:=0
def tw16490510397756302236:=0
def tw11784251130277251061:=0
def tw6918473152817513353:=0
def tw1716415980904799551:=0
def tw16644747333576727820:=0
def tw12175472471610960724:=0
def tw3229625546368114249:=0
def tw3222336334177357802:=0
def tw12494344450030131654:=0
def tw16992352727213171566:=0
def tw16264948282443999728:=0
def tw3725140293278634196:=0
def tw17256039766259543269:=0
def tw1638659935147310928:=0
def tw9623226835506556659:=0
def tw7950158110926513432:=0
def tw255474293400779968:=0
def tw15252010224043903704:=0
def tw18045490254538653528:=0
def tw9640067164135055724:=0
def tw8702942594535164322:=0
def tw208281159895443213:=0
def tw16997606187211618472:=0
def tw10612326332834633278:=0
def tw2757112670776136955:=0
def tw13273597291277137435:=0
def tw2454292797285328659:=0
def tw2687928913325337822:=0
def tw8575501196852272627:=0
def tw15571213510845758537:=0
def tw1330351922544110351:=0
def tw12768616834543692028:=0
def tw9398022705893732973:=0
def tw1687892118314482025:=0
def tw5512620960597781945:=0
def tw3413281319002312470:=0
def tw6386098489306381373:=0
def tw16517828325757228259:=0
def tw17307542313190440980:=0
def tw13341263229183290049:=0
def tw2463319900150954793:=0
def tw6546930740112877145:=0
def tw10602470661848160649:=0
def tw6030697873340735143:=0
def tw10900907145517219343:=0
def tw4365724065147970564:=0
def tw18322877959712236872:=0
def tw15502527817312949906:=0
def tw8100552450950774829:=0
def tw13147005850974808283:=0
def tw12606753736829661382:=0
def tw1285119589829430900:=0
def tw1781249233031658063:=0
def tw7021874024580912861:=0
def tw1638490154024864960:=0
def tw2680364015705155326:=0
def tw2416804629083638307:=0
def tw7595975939853804750:=0
def tw3135861264822594039:=0
def tw13213882747254178837:=0
def tw3701546219320406379:=0
def tw1698730254809007912:=0
def tw16440109836360751647:=0
def tw6031671308828790502:=0
def tw1161942425246419346:=0
def tw2902815947897076344:=0
def tw10143098969075627759:=0
def tw11586303236623822099:=0
def tw16046798554245165163:=0
def tw11420613174212181728:=0
def tw9353695247897834472:=0
def tw8723513493731406486:=0
def tw12022873349575277015:=0
def tw10959016859448326243:=0
def tw7319887012957102253:=0
def tw6723517613092868632:=0
def tw3907185283827754399:=0
def tw2401863084044263599:=0
def tw4847113500384049509:=0
def tw16491499568461274991:=0
def tw5475450526547034431:=0
def tw3558851219770678125:=0
def tw14510403261086952254:=0
def tw17108618026971577084:=0
def tw6963441920821737116:=0
def tw1168969082151091825:=0
def tw3545485653812237730:=0
def tw1903708991032163010:=0
def tw16922172458669641869:=0
def tw1272372208105142872:=0
def tw4904873966183952655:=0
def tw4399542790165294163:=0
def tw7467162762979965517:=0
def tw5715168853716582271:=0
def tw2127037767136379085:=0
def tw14380845710161265104:=0
def tw6812732710318475060:=0
def tw11579612169523666222:=0
def tw652006330257726260:=0
def tw14955611384510054724:=0
def tw11907302626851480606:=0
def tw4814150819502195103:=0
def tw15476382531723155446:=0
def tw2719635365827438648:=0
def tw8308114926310531182:=0
def tw18025837857375009406:=0
def tw1457288518568751033:=0
def tw14751075078788852468:=0
def tw9840411882379621541:=0
def tw14943901836283155816:=0
def tw128908862316837131:=0
def tw2167083063971178859:=0
def tw6425840227785236427:=0
def tw12390707737206651818:=0
def tw4809412209502921541:=0
def tw18064066066339632421:=0
def tw10623978786649592934:=0
def tw703241868557732753:=0
def tw4337918031212196171:=0
def tw9276621572368949699:=0
def tw16335932917288876375:=0
def tw3115551744756084569:=0
def tw281315614107233245:=0
def tw9899002392407061188:=0
def tw9728673624844211562:=0
def tw9383944753284029093:=0
def tw8063976408219541212:=0
def tw6743238128864166723:=0
def tw6673692307511770712:=0
def tw6669943649047637147:=0
def tw6095281297283879301:=0
def tw5485614404471553038:=0
def tw5064522065815005623:=0
def tw5024083888695706311:=0
def tw4405951063794810044:=0
def tw3946310854801083132:=0
def tw3791096341890047433:=0
def tw365173791193412822:=0
def tw3275647561715175506:=0
def tw3250004892003944929:=0
def tw3119901496469205544:=0
def tw2371121849681330388:=0
def tw18219791377462425828:=0
def tw18103798202261751234:=0
def tw18083246539168286518:=0
def tw17906238164067676864:=0
def tw17793552069244619651:=0
def tw17689245686044610998:=0
def tw17611972359066077242:=0
def tw1705649361012594344:=0
def tw16903243458067053793:=0
def tw16681278352131767883:=0
def tw16393291661500037847:=0
def tw16248914679271949352:=0
def tw15583904133439395743:=0
def tw14640539665829343544:=0
def tw13479384062365152767:=0
def tw13060320578857096058:=0
def tw13016338340829161101:=0
def tw1274310768382447716:=0
def tw1270329712527372958:=0
def tw12449495284860401384:=0
def tw12327859591267145312:=0
def tw12109823830677713319:=0
def tw12100294594946329494:=0
def tw11623877985098126210:=0
def tw11539739601938271930:=0
def tw11321254407971771598:=0
def tw11278091501918378833:=0
def tw11126692766088956564:=0
def tw10705294744877115698:=0
end PySem.W.Fast
open PySem PySem.W PyProof.Rows
set_option maxRecDepth 100000 in
set_option maxHeartbeats 0 in
theorem PySem.Challenge.cw_trunksay_k35_looker_right_holds : PySem.Challenge.rw_trunksay_k35_looker_right.Holds := by
 w_on; o_law; k_head; (case hw => w_witness2)
 k_fill
 refine L2.walkT (l := PySem.Challenge.rw_trunksay_k35_looker_right) (k := 6) (x := "_law_script") (G := P.f_q27) P.tabL (by decide) rfl rfl ⟨rfl, by decide, by decide⟩ (fun w h Y => PySem.W.km_in_of Y) (fun w h Y T hT => PySem.W.km_tabs_of Y T hT) (fun w T hT => ?KT) (fun w T hT => ?CT) ?F P.law_ok
 case KT =>
  simp only [P.tabL, aI, iC, aG, cL, iQ] at hT
  rcases hT with rfl
  ·kernel_rfl
 case CT =>
  simp only [P.tabL, aI, iC, aG, cL, iQ] at hT
  rcases hT with rfl
  ·exact ⟨83, by kernel_rfl⟩
 case F =>
  intro w mg fa h KX G hmg
  refine' P.all_mk KX G hmg ?_ ?_ ?_ ?_ ?_ ?_ ?_ ?_ ?_ ?_ ?_ ?_ ?_ ?_ ?_ ?_ ?_ ?_ ?_ ?_ ?_ ?_ ?_ ?_ ?_ ?_ ?_ ?_ ?_ ?_ ?tc_side_by_side ?tk_side_by_side ?_ ?_ ?_ ?_ ?_ ?x_TooGreat ?_ ?_ ?_ ?_ ?_ ?_ ?_ ?_ ?_ ?_ ?_ ?_ ?_ ?_
  any_goals (refine' L2.DefIn.mk ?a ?l ?c ?k; (case a => k_is); (case l => k_is); (case c => k_is); (case k => k_is))
  any_goals k_is
  (case tc_side_by_side => kernel_rfl)
  (case tk_side_by_side => kernel_rfl)
  (case x_TooGreat => k_exc)
