import PyProof.Rows.All
import Wide.All
import OpenK.AllK
import Wide.FinOn
import Lean
import PyProof.EqAt
import PyProof.EqKinds
import PyProof.TupleCall
import PyProof.StrLawsIn
import PyProof.StationsW
import PyProof.NeData
import OpenK.KOwn
import PyProof.NsDelKeeps
import PyProof.ExcArgsOwn
import PyProof.ExcAttrAll.ValueError
import PyProof.IsiH_tuple
import KE.KIsAll
import PyProof.CollectStr
import PyProof.ZipIter
import PyProof.Rows.ZipGen
import PyProof.JoinWalk
import PyProof.CollectIter
import PyProof.EnumMake
import PyProof.SumAny
import PyProof.DictTruth
import PySem.Challenge.RW_trunksay_k27_rooms_apart
set_option Elab.async false
set_option linter.all false
set_option maxRecDepth 100000
def aa:=@List.getElem?_eq_some_iff
def ae:=@List.getElem?_eq_getElem
def ah:=@PySem.wpAny_bind
def aj:=@List.prefix_refl
def al:=@List.length_map
def aq:=@PySem.Heap.get?_push_of_some
def ar:=@List.getElem?_map
def av:=@PySem.wpAny_pure
def ax:=@if_pos
def az:=@List.getElem?_append_left
def aA:=@List.append_assoc
def aB:=@Nat.le_refl
def aC:=@List.prefix_append
def aD:=@if_neg
def aF:=@PySem.Heap.lt_size
def aH:=@List.length_append
def aJ:=@List.size_toArray
def aK:=@List.mem_append_right
def aL:=@PySem.Heap.get?_push_size
def aN:=@List.mem_of_getElem?
def aQ:=@List.mem_append
def aR:=@List.map_cons
def aS:=@List.mem_map
def aT:=@List.mem_cons_of_mem
def aV:=@Nat.le_trans
def aX:=@Bool.and_eq_true
def aY:=@Option.map_eq_some_iff
def aZ:=@List.getD_eq_getElem?_getD
def a6:=@Nat.lt_of_lt_of_le
def a7:=@List.mem_cons
def a8:=@Nat.ne_of_lt
def a9:=@Option.some.inj
def a_:=@List.getElem?_set_ne
def ba:=@beq_eq_false_iff_ne
def bb:=@List.map_map
def be:=@decide_eq_false
def bf:=@List.mem_cons_self
def bg:=@List.getElem?_set_self
def bp:=@List.length_take
def bq:=@PySem.wpAny_loadPart'
def br:=@List.find?_cons
def bt:=@List.mem_range
def bu:=@List.length_cons
def bv:=@decide_eq_true
def bw:=@List.getElem?_of_mem
def bx:=@Nat.lt_irrefl
def bB:=@Int.toNat_natCast
def bC:=@List.map_congr_left
def bK:=@Bool.false_ne_true
def bL:=@List.mem_singleton
def bM:=@decide_eq_true_iff
def bQ:=@PyProof.Rows.boot_tuple
def bU:=@List.filter_cons
def bX:=@PySem.wpAny_mono
def bY:=@List.pairwise_cons
def b8:=@List.getElem?_append_right
def b_:=@Bool.and_true
def cy:=@Bool.false_eq_true
def cB:=@List.mem_filter
def cC:=@Nat.not_lt_zero
def cF:=@PySem.wpAny_holding
def cG:=@PySem.Heap.SameBut.update
def cI:=@Nat.le_of_ble_eq_true
def cK:=@PyProof.Rows.callWith_type1
def cM:=@List.length_range
def cN:=@Function.comp_def
def cO:=@List.getElem?_concat_length
def cP:=@PySem.wpAny_callSpecial?_slot
def cU:=@PySem.boot_len
def cY:=@PySem.wpAny_call_entry
def de:=@List.findSome?_cons
def df:=@Nat.zero_le
def dg:=@List.nodup_append
def dy:=@List.append_nil
def dz:=@List.map_append
def dB:=@beq_iff_eq
def dF:=@Nat.le_of_not_lt
def dG:=@List.all_eq_true
def dQ:=@PySem.wpAny_newObj_type
def dU:=@List.length_nil
def dX:=@Bool.eq_iff_iff
def dZ:=@PyProof.Rows.slot_tuple_getitem
def d6:=@if_true
def d7:=@List.drop_eq_getElem_cons
def d9:=@List.length_filter_le
def d_:=@List.getElem_map
def eA:=@List.getElem?_take_of_lt
def eB:=@List.map_nil
def eQ:=@PySem.wpAny_truthy_bool
def eS:=@List.length_pos_iff
def eX:=@Nat.le_of_lt
def fm:=@List.length_drop
def fq:=@List.getElem_mem
def fw:=@List.take_length
def fB:=@congrArg
def fC:=@PySem.Heap.size_push
def fD:=@PySem.Calls.spliced_cons
def fE:=@PySem.F.slot_tuple_iterator_next
def fH:=@List.set_append_right
def fM:=@PySem.wpAny_passesOwn
def fN:=@List.nodup_cons
def fO:=@PySem.wpAny_specialOf
def fP:=@Bool.or_eq_true
def fU:=@List.mem_append_left
def fV:=@PySem.wpAny_field
def fW:=@Nat.lt_succ_of_lt
def fZ:=@Option.isSome_iff_exists
def f6:=@Bool.not_true
def ga:=@List.filterMap_cons
def gb:=@Array.length_toList
def gm:=@Nat.lt_succ_self
def gn:=@PySem.wpAny_seqItems
def gu:=@Nat.le_succ
def gz:=@PySem.Calls.callWith_builtin
def gA:=@List.take_of_length_le
def gB:=@List.length_pos_of_mem
def gC:=@Int.zero_add
def gE:=@if_false
def gK:=@PySem.Heap.get?_update_self
def gN:=@List.getElem?_eq_none
def gO:=@PySem.F.slot_enumerate_next
def gP:=@PySem.wpAny_callSpecialIfBoundUnlessNone?_slot
def gR:=@List.any_eq_false
def gS:=@Option.isSome_map
def gT:=@List.take_add_one
def gY:=@PySem.Calls.evalArgs_plain
def gZ:=@PySem.wpAny_tryCatch
def g6:=@PySem.Obj.data_mapDictKeys
def g7:=@Nat.mul_le_mul
def g_:=@PySem.wpAny_forIn_list
def hG:=@PySem.wpAny_isInstance
def hV:=@Nat.zero_add
def hW:=@List.not_mem_nil
def h9:=@List.getElem?_range
def ib:=@List.length_set
def ie:=@Nat.le_antisymm
def ig:=@List.nil_append
def ii:=@Int.emod_nonneg
def im:=@PySem.wpAny_Call_Name_kw
def io:=@PySem.wpAny_rule
def ip:=@List.find?_eq_none
def iq:=@Nat.eq_zero_or_pos
def iw:=@List.getElem?_replicate
def iy:=@List.getElem?_cons_succ
def iz:=@Nat.add_sub_cancel_left
def iF:=@PySem.Calls.spliced_nil
def iG:=@PySem.Heap.get?_update_other
def iH:=@List.range_succ_eq_map
def iI:=@Bool.not_eq_true'
def iJ:=@PySem.wpAny_pyIter_enum
def iK:=@Nat.lt_of_succ_lt_succ
def iL:=@of_decide_eq_true
def iM:=@List.pairwise_map
def iN:=@Nat.mul_comm
def iO:=@List.filter_congr
def iP:=@List.flatMap_cons
def iU:=@PySem.isSubtype_tuple_tuple
def i7:=@List.lookup_cons
def i8:=@List.any_eq_true
def i9:=@List.find?_eq_some_iff_getElem
def i_:=@List.cons_append
def ja:=@List.mem_flatMap
def je:=@PySem.wpAny_standAt
def jm:=@PySem.wpAny_newFunctionEnv
def jn:=@PySem.Around.under_plainId
def jo:=@Nat.pow_le_pow_right
def jz:=@PySem.wpAny_execs_nil
def jA:=@PySem.F.args_tuple_iterator_next_1
def jB:=@PySem.wpAny_updateSeq
def jC:=@Nat.min_eq_left
def jD:=@List.filter_map
def jI:=@List.replicate_succ
def jJ:=@List.filter_eq_self
def jK:=@List.flatMap_append
def jL:=@Nat.mul_le_mul_left
def jT:=@PySem.call_meetsIn
def jU:=@PySem.F.entry_tuple_iterator_next
def jV:=@List.map_set
def jW:=@Nat.lt_or_ge
def j8:=@PySem.Calls.Name_function_global
def j9:=@PySem.wpAny_pyIter_tuple
def j_:=@Nat.lt_of_le_of_lt
def kg:=@PySem.tupleKind_room_in1
def kh:=@PySem.wpAny_letOwnedTupleGo_enum
def ki:=@List.Perm.refl
def kj:=@PySem.wpAny_tupleItemsOf
def km:=@Array.forIn_toList
def kn:=@Int.emod_lt_of_pos
def ko:=@List.getElem_range
def kq:=@List.filter_filter
def ku:=@PySem.Calls.call_function_entry
def kw:=@List.mem_of_find?_eq_some
def kK:=@PySem.wpAny_pyIter_list
def kL:=@PySem.sizeLine_eq
def kM:=@List.take_sublist
def kN:=@PySem.wpAny_Call_method
def kO:=@PySem.wpAny_letGo
def kP:=@List.ext_getElem?
def kQ:=@PySem.wpAny_dictEntries
def kR:=@PyProof.Rows.boot_sorted
def k_:=@PySem.AutoSeq1.sub_tuple_tuple
def la:=@PySem.wpAny_comprehension_free
def lg:=@List.all_cons
def lh:=@PySem.plainId_quiet
def li:=@List.map_drop
def lj:=@Nat.lt_succ_iff_lt_or_eq
def lI:=@PySem.noFill_tuple_add
def lJ:=@LawfulBEq.eq_of_beq
def lK:=@PySem.wpAny_getItem_of
def lL:=@PySem.wpAny_pyNext_enum_itemD
def lM:=@PySem.F.args_enumerate_next_1
def lN:=@Int.eq_ofNat_of_zero_le
def lO:=@List.ext_getElem
def lP:=@Nat.le_mul_of_pos_right
def mj:=@PySem.wpAny_Name
def ml:=@Nat.ne_of_gt
def mn:=@PySem.wpAny_pyIter_rangeiter
def mq:=@PyProof.noPylong_small
def mv:=@PyProof.Rows.subscriptTail_builtinR
def mw:=@PySem.call_meets
def my:=@PySem.codeAny_mono
def mz:=@PySem.codeAny_compStart_list
def mB:=@Nat.add_zero
def mC:=@List.drop_eq_nil_of_le
def mD:=@PySem.F.entry_enumerate_next
def mE:=@PySem.F.typeCall_enumerate_1
def mF:=@List.drop_of_length_le
def mG:=@PySem.wpAny_noteFrame_againW
def mH:=@PySem.wpAny_pyNext_dict_item
def mU:=@List.of_mem_zip
def mV:=@Int.natCast_mul
def mW:=@PySem.codeAny_builtin
def mX:=@PySem.wpAny_ret_mkInt
def mY:=@List.range_succ
def m6:=@PySem.wpAny_isTrue_Compare1
def m7:=@PySem.F.newCall_enumerate_1
def m8:=@PySem.F.entry_enumerate_new
def m9:=@PySem.wpAny_notOrdered_dict
def m_:=@List.findIdx?_toArray
def nc:=@List.getElem?_reverse
def ng:=@List.take_append_drop
def nI:=@List.map_id
def nJ:=@PyProof.Rows.boot_enumerate
def nK:=@or_false
def n5:=@PyProof.Rows.boot_list
def oz:=@PyProof.Rows.Constant_none
def oA:=@PySem.seq_tuple_add
def oB:=@List.any_cons
def oD:=@Bool.false_or
def oE:=@PySem.SeqAt.str_beq
def oF:=@Nat.add_assoc
def oG:=@List.sum_cons
def oH:=@List.map_take
def oI:=@Bool.and_comm
def oY:=@Nat.not_lt
def pX:=@PySem.concat_meets
def pY:=@PySem.wpAny_typeOf
def pZ:=@PySem.seqIndex_neg
def p5:=@Nat.lt_trans
def p9:=@List.set_set
def qD:=@PyProof.Rows.boot_bool
set_option compiler.extract_closed false
noncomputable section
open PySem.W (Frag)
open PySem.W (instObj emptyDict kia_one fnOf codeIn keepIn codeHdIn kla_obj nsIn mg_of sortI mg_none_of)
namespace L2
open PySem PySem.Spec PyProof.Rows
abbrev gc:=Sum Int Str
def uw:gc->Value->Bool
 |.inl k,v=>Value.isInt k v
 |.inr x,v=>Value.isStrOf x v
def PY(w:World):gc->Int
 |.inl k=>hashInt k
 |.inr x=>hashStr w x
theorem eY:∀{k:gc} {v:Value},uw k v=true->(∃i t,k=Sum.inl i/\v=Value.int i t)\/(∃x t,k=Sum.inr x/\v=Value.str x t)
 |.inl i,v,h=>by
  obtain⟨t,e⟩:=Value.isInt_shape (k:=i) (v:=v) h
  exact .inl ⟨i,t,rfl,e⟩
 |.inr x,v,h=>by
  obtain⟨t,e⟩:=Value.isStrOf_shape (x:=x) (v:=v) h
  exact .inr ⟨x,t,rfl,e⟩
theorem Bu(i:Int)(t:Tok):uw (.inl i) (.int i t)=true:=by simp[uw,Value.isInt]
theorem Bv(x:Str)(t:Tok):uw (.inr x) (.str x t)=true:=by simp[uw,Value.isStrOf]
theorem JK(a b:Int):decide ((Sum.inl a:gc)=Sum.inl b)=(a==b):=by
 by_cases e:a=b
 ·subst e;simp
 ·have h:¬ (Sum.inl a:gc)=Sum.inl b:=fun q=>e (Sum.inl.inj q)
  rw[be h]
  exact(ba.mpr e).symm
theorem JL(a b:Str):decide ((Sum.inr a:gc)=Sum.inr b)=decide (a=b):=by
 by_cases e:a=b
 ·subst e;simp
 ·have h:¬ (Sum.inr a:gc)=Sum.inr b:=fun q=>e (Sum.inr.inj q)
  rw[be h,be e]
theorem JM(a:Int)(b:Str):decide ((Sum.inl a:gc)=Sum.inr b)=false:=be (fun q=>nomatch q)
theorem JN(a:Str)(b:Int):decide ((Sum.inr a:gc)=Sum.inl b)=false:=be (fun q=>nomatch q)
def eU(prog:Program)(w:World):PySem.KeyKind prog w gc where
 is:=uw
 hash:=PY w
 inj:=fun v a b ha hb=>by
  rcases eY ha with⟨i,t,rfl,rfl⟩|⟨x,t,rfl,rfl⟩
  ·rcases eY hb with⟨j,u,rfl,e⟩|⟨y,u,rfl,e⟩
   ·injection e with e1 _;rw[e1]
   ·exact nomatch e
  ·rcases eY hb with⟨j,u,rfl,e⟩|⟨y,u,rfl,e⟩
   ·exact nomatch e
   ·injection e with e1 _;rw[e1]
 byValue:=fun k v h=>by
  rcases eY h with⟨i,t,rfl,rfl⟩|⟨x,t,rfl,rfl⟩<;>rfl
 pyHash:=fun hv h=>by
  rcases eY hv with⟨i,t,rfl,rfl⟩|⟨x,t,rfl,rfl⟩
  ·exact wpAny_pyHash_int h
  ·exact wpAny_pyHash_str h
 eqBool:=fun hu hv h=>by
  rcases eY hu with⟨i,t,rfl,rfl⟩|⟨x,t,rfl,rfl⟩
  ·rcases eY hv with⟨j,u,rfl,rfl⟩|⟨y,u,rfl,rfl⟩
   ·rw[JK]at h;exact wpAny_eqBool_int h
   ·rw[JM]at h;exact SeqAt.EqAt.int_str i t y u _ _ _ _ h
  ·rcases eY hv with⟨j,u,rfl,rfl⟩|⟨y,u,rfl,rfl⟩
   ·rw[JN]at h;exact SeqAt.EqAt.str_int x t j u _ _ _ _ h
   ·rw[JL]at h;exact wpAny_eqBool_str h
 «strs»:=fun k x t v h=>by
  rcases eY h with⟨i,u,rfl,e⟩|⟨y,u,rfl,e⟩
  ·exact nomatch e
  ·injection e with e1 _
   subst e1
   cases v<;>rfl
theorem wV(prog:Program)(w:World)(i:Int)(t:Tok):(eU prog w).is (.inl i) (.int i t)=true:=Bu i t
theorem wW(prog:Program)(w:World)(x:Str)(t:Tok):(eU prog w).is (.inr x) (.str x t)=true:=Bv x t
inductive V where
 |non|bl (b:Bool)|int (i:Int)|str (x:Str)|byt (b:Array UInt8)|flt (b:UInt64)|ref (a:Addr)|ty (n:String)
 deriving DecidableEq
def bN:V->Value->Prop
 |.non,u=>u=Value.none
 |.bl b,u=>u=Value.bool b
 |.int i,u=>∃t,u=Value.int i t
 |.str x,u=>∃t,u=Value.str x t
 |.byt b,u=>∃t,u=Value.bytes b t
 |.flt b,u=>∃t,u=Value.float b t
 |.ref a,u=>u=Value.ref a
 |.ty n,u=>u=Value.type n
abbrev b9:List V->List Value->Prop:=Paired bN
theorem b9.length{xs:List V}{us:List Value}(r:b9 xs us):xs.length=us.length:=Paired.length r
theorem b9.get:∀{xs:List V} {us:List Value} {i:Nat} {x:V},b9 xs us->xs[i]?=some x->∃u,us[i]?=some u/\bN x u
 |_,_,_,_,.nil,e=>by simp at e
 |_,_,0,_,.cons r _,e=>by simp at e;subst e;exact⟨_,rfl,r⟩
 |_,_,i+1,x,.cons _ t,e=>by
  obtain⟨u,h1,h2⟩:=b9.get (i:=i) (x:=x) t (by simpa using e)
  exact⟨u,by simpa using h1,h2⟩
theorem b9.set{x:V}{u:Value}(r:bN x u):∀{xs:List V} {us:List Value} (i:Nat),b9 xs us->b9 (xs.set i x) (us.set i u)
 |_,_,_,.nil=>.nil
 |_,_,0,.cons _ t=>.cons r t
 |_,_,i+1,.cons q t=>.cons q (b9.set r i t)
theorem b9.append:∀{xs ys:List V} {us ws:List Value},b9 xs us->b9 ys ws->b9 (xs++ys) (us++ws)
 |_,_,_,_,.nil,s=>s
 |_,_,_,_,.cons r t,s=>.cons r (b9.append t s)
theorem b9.take:∀{xs:List V} {us:List Value} (n:Nat),b9 xs us->b9 (xs.take n) (us.take n)
 |_,_,0,_=>.nil
 |_,_,_+1,.nil=>.nil
 |_,_,n+1,.cons r t=>.cons r (b9.take n t)
theorem b9.drop:∀{xs:List V} {us:List Value} (n:Nat),b9 xs us->b9 (xs.drop n) (us.drop n)
 |_,_,0,r=>r
 |_,_,_+1,.nil=>.nil
 |_,_,n+1,.cons _ t=>b9.drop n t
def oJ:Option V->Option Value->Prop
 |some v,some u=>bN v u
 |none,none=>True
 |_,_=>False
def KV{κ:Type}:List (κ×V)->List (κ×Value)->Prop:=Paired fun(p:κ×V) (q:κ×Value)=>p.1=q.1/\bN p.2 q.2
def kV:gc->V
 |.inl i=>.int i
 |.inr x=>.str x
inductive HO where
 /-- a list -/
 |lst (xs:List V)
 /-- a tuple (never changes) -/
 |tup (xs:List V)
 /-- a dict whose keys are ints and texts;one whose keys are tuples of ints and texts (the empty one is both) -/
 |dK (kvs:List (gc×V))|dT (kvs:List (List gc×V))
 /-- a set of ints: bj members,bj size -/
 |set (S:Int->Bool) (n:Nat)
 /-- an instance of the class at C,bj dict at dx,bj attributes -/
 |ins (C dx:Addr) (fs:List (Str×V))
 /-- the dict of the instance at x -/
 |own (x:Addr)
 /-- the dict of an exception -/
 |xd (fs:List (Str×V))
 /-- a bound method,f of x -/
 |met (f x:Addr)
 /-- a range object lo,lo+1,.. below hi -/
 |rng (lo hi:Int)
 /-- a thing that is known to the object (the script;a dict while a loop walks it): read,never written while it is so -/
 |frz (o:Obj) (u:HO)
 /-- a code object's table -/
 |tbl (ps:Array Value)
 /-- any other thing,by what is true of bj one object (a def of Rt own: SetO a S n:=HO.ext fun h=>..) -/
 |ext (φ:Heap->Prop)
abbrev Hp:=Addr->Option HO
def fx(H:Hp)(a:Addr)(o:HO):Hp:=fun b=>if b=a then some o else H b
theorem eD{H:Hp}{a:Addr}{o:HO}:fx H a o a=some o:=by unfold fx;rw[ax rfl]
theorem bV{H:Hp}{a b:Addr}{o:HO}(h:b≠a):fx H a o b=H b:=by unfold fx;rw[aD h]
theorem MH{H:Hp}{a b:Addr}{o u:HO}(h:H a=some o)(h':H b=some u)(d:o≠u):a≠b:=by
 intro e;subst e;rw[h]at h';exact d (a9 h')
theorem c_{H:Hp}{a b:Addr}{o:HO}(h:H a=some o)(h':H b=none):a≠b:=by
 intro e;subst e;rw[h]at h';cases h'
section
variable(P:Program)(w:World)
def eZ(H:Hp)(h:Heap)(a:Addr):HO->Prop
 |.lst xs=>xs.length<=sizeLine/\∃(bj:List Value) (n:Nat),b9 xs bj/\h.get? a=some { cls:=.type "list",data:=.seq bj.toArray n }
 |.tup xs=>xs.length<=sizeLine/\∃bj:List Value,b9 xs bj/\IsTup h a bj.toArray
 |.dK kvs=>kvs.length<=sizeLine/\(a==sysModules)=false/\∃vs,KV kvs vs/\h.DictOf (eU P w) a vs
 |.dT kvs=>kvs.length<=sizeLine/\(a==sysModules)=false/\∃xs:List (List gc×Addr×Value),
   Paired (fun(p:List gc×V) (q:List gc×Addr×Value)=>p.1=q.1/\H q.2.1=some (.tup (p.1.map kV))/\bN p.2 q.2.2) kvs xs /\
   ∃o es ep,h.get? a=some o/\o.ExactDict/\o.data=.dict es ep/\es.toList=xs.map (entryOfKey (tupleKind (eU P w)))/\(xs.map (·.1)).Nodup
 |.set S n=>h.SetOf (intKind P w) a S n
 |.ins C dx fs=>H dx=some (.own a)/\fs.length<=1000/\dx≠a/\h.get? a=some (instObj C dx) /\
   ∃mA,h.Ns1 dx mA/\(∀f,oJ (fs.lookup f) (mA f))/\PySem.Within mA (fs.map (·.1))
 |.own _=>∃o,h.get? a=some o
 |.xd fs=>∃mA,h.Ns1 a mA/\∀f,oJ (fs.lookup f) (mA f)
 |.rng lo hi=>∃t u v,h.get? a=some { cls:=.type "range",data:=.fields #[.int lo t,.int hi u,.int 1 v] }
 |.frz o u=>h.get? a=some o/\eZ H h a u
 |.tbl ps=>h.get? a=some { cls:=.none,data:=.fields ps }
 |.met f x=>h.get? a=some (PySem.W.methodObj (.ref f) (.ref x))
 |.ext φ=>φ h/\(∃o,h.get? a=some o)/\∀h1 h2:Heap,φ h1->(∀o,h1.get? a=some o->h2.get? a=some o)->φ h2
def n6(H:Hp)(h:Heap):Prop:=∀a o,H a=some o->eZ P w H h a o
end
section
variable{P:Program}{w:World}{H H':Hp}{h h':Heap}{a:Addr}{o:HO}
theorem eZ.lt(x:eZ P w H h a o):a<h.objs.size:=by
 cases o with
 |lst xs=>obtain⟨_,_,_,_,e⟩:=x;exact aF e
 |tup xs=>obtain⟨_,_,_,p⟩:=x;exact p.lt
 |dK kvs=>obtain⟨_,_,_,_,o,_,_,e,_⟩:=x;exact aF e
 |dT kvs=>obtain⟨_,_,_,_,o,_,_,e,_⟩:=x;exact aF e
 |set S n=>obtain⟨o,_,_,_,e,_⟩:=x;exact aF e
 |ins C dx fs=>obtain⟨_,_,_,e,_⟩:=x;exact aF e
 |own y=>obtain⟨_,e⟩:=x;exact aF e
 |xd fs=>obtain⟨_,⟨_,_,_,e,_⟩,_⟩:=x;exact aF e
 |rng lo hi=>obtain⟨_,_,_,e⟩:=x;exact aF e
 |frz ob u=>obtain⟨e,_⟩:=x;exact aF e
 |tbl ps=>exact aF (show h.get? a=some _ from x)
 |met f y=>exact aF (show h.get? a=some _ from x)
 |ext φ=>obtain⟨_,⟨_,e⟩,_⟩:=x;exact aF e
theorem Paired.mapP{α β:Type}{F G:α->β->Prop}:∀{l₁:List α} {l₂:List β},Paired F l₁ l₂->(∀a b,F a b->G a b)->Paired G l₁ l₂
 |_,_,.nil,_=>.nil
 |_,_,.cons r t,f=>.cons (f _ _ r) (Paired.mapP t f)
theorem Paired.imp'{α β:Type}{F G:α->β->Prop}(f:∀a b,F a b->G a b){l₁:List α}{l₂:List β}(r:Paired F l₁ l₂):Paired G l₁ l₂:=Paired.mapP r f
theorem eZ.stay(x:eZ P w H h a o)(k:∀b u,(b=a\/H b=some (.own a))->h.get? b=some u->h'.get? b=some u)
  (ho:∀b,H b=some (.own a)->H' b=some (.own a)) (ht:∀b xs,H b=some (.tup xs)->H' b=some (.tup xs)):eZ P w H' h' a o:=by
 induction o with
 |lst xs=>obtain⟨z,bj,n,r,e⟩:=x;exact⟨z,bj,n,r,k _ _ (.inl rfl) e⟩
 |tup xs=>obtain⟨z,bj,r,ob,e,c⟩:=x;exact⟨z,bj,r,ob,k _ _ (.inl rfl) e,c⟩
 |dK kvs=>obtain⟨z,y,vs,r,ob,es,ep,e,c⟩:=x;exact⟨z,y,vs,r,ob,es,ep,k _ _ (.inl rfl) e,c⟩
 |dT kvs=>
  obtain⟨z,y,xs,r,ob,es,ep,e,c⟩:=x
  exact⟨z,y,xs,Paired.mapP r fun p q z=>⟨z.1,ht _ _ z.2.1,z.2.2⟩,ob,es,ep,k _ _ (.inl rfl) e,c⟩
 |set S n=>obtain⟨ob,es,ep,t,e,c⟩:=x;exact⟨ob,es,ep,t,k _ _ (.inl rfl) e,c⟩
 |ins C dx fs=>
  obtain⟨d,z,ne,e,mA,⟨od,es,ep,e2,c⟩,r⟩:=x
  exact⟨ho _ d,z,ne,k _ _ (.inl rfl) e,mA,⟨od,es,ep,k _ _ (.inr d) e2,c⟩,r⟩
 |own y=>obtain⟨ob,e⟩:=x;exact⟨ob,k _ _ (.inl rfl) e⟩
 |xd fs=>obtain⟨mA,⟨od,es,ep,e,c⟩,r⟩:=x;exact⟨mA,⟨od,es,ep,k _ _ (.inl rfl) e,c⟩,r⟩
 |rng lo hi=>obtain⟨t,u,v,e⟩:=x;exact⟨t,u,v,k _ _ (.inl rfl) e⟩
 |frz ob u ih=>obtain⟨e,q⟩:=x;exact⟨k _ _ (.inl rfl) e,ih q⟩
 |tbl ps=>
  have e:h.get? a=some { cls:=.none,data:=.fields ps }:=x
  show h'.get? a=some { cls:=.none,data:=.fields ps }
  exact k a _ (.inl rfl) e
 |met f y=>
  have e:h.get? a=some (PySem.W.methodObj (.ref f) (.ref y)):=x
  show h'.get? a=some (PySem.W.methodObj (.ref f) (.ref y))
  exact k a _ (.inl rfl) e
 |ext φ=>obtain⟨p,⟨o,e⟩,st⟩:=x;exact⟨st _ _ p fun o q=>k _ _ (.inl rfl) q,⟨o,k _ _ (.inl rfl) e⟩,st⟩
theorem n6.lt(x:n6 P w H h)(e:H a=some o):a<h.objs.size:=(x a o e).lt
theorem n6.fresh(x:n6 P w H h)(e:h.objs.size<=a):H a=none:=by
 cases q:H a with
 |none=>rfl
 |some u=>exact absurd (a6 (x.lt q) e) (bx _)
theorem n6.kept(x:n6 P w H h)(k:∀b u,h.get? b=some u->h'.get? b=some u):n6 P w H h':=fun a o e=>
 (x a o e).stay (fun b u _ q=>k b u q) (fun _ q=>q) fun _ _ q=>q
theorem n6.laid(x:n6 P w H h)(k:∀b u,h.get? b=some u->h'.get? b=some u)(hp:h.objs.size<=a)(new:eZ P w (fx H a o) h' a o):n6 P w (fx H a o) h':=fun b u e=>by
 have hn:=x.fresh hp
 by_cases hb:b=a
 ·subst hb;rw[eD]at e;cases e;exact new
 ·rw[bV hb]at e
  exact(x b u e).stay (fun c v _ q=>k c v q) (fun c q=>by rw[bV (c_ q hn)];exact q) fun c xs q=>by rw[bV (c_ q hn)];exact q
end
def Rd(H:Hp)(a:Addr)(u:HO):Prop:=H a=some u\/∃o,H a=some (.frz o u)
theorem Rd.of{H:Hp}{a:Addr}{u:HO}(h:H a=some u):Rd H a u:=.inl h
theorem Rd.ok{P:Program}{w:World}{H:Hp}{h:Heap}{a:Addr}{u:HO}(r:Rd H a u)(x:n6 P w H h):eZ P w H h a u:=by
 rcases r with r|⟨o,r⟩
 ·exact x a u r
 ·obtain⟨_,q⟩:=x a _ r
  exact q
def JO:Option HO->Prop
 |some (.lst _)=>True
 |some (.dK _)=>True
 |some (.dT _)=>True
 |some (.set _ _)=>True
 |some (.ins _ _ _)=>True
 |some (.ext _)=>True
 |_=>False
section
variable{P:Program}{w:World}{H:Hp}{h h':Heap}{x e:Addr}{o':HO}
theorem n6.write(ok:n6 P w H h)(mu:JO (H x))(he:e=x\/H e=some (.own x))(k:∀b u,b≠e->h.get? b=some u->h'.get? b=some u)(Mz:∃u,h'.get? e=some u)
  (new:eZ P w (fx H x o') h' x o'):n6 P w (fx H x o') h':=fun b u q=>by
 have nown:∀c y,H c=some (.own y)->c≠x:=fun c y r z=>by subst z;rw[r]at mu;exact mu
 have ntup:∀c xs,H c=some (.tup xs)->c≠x:=fun c xs r z=>by subst z;rw[r]at mu;exact mu
 by_cases hb:b=x
 ·subst hb;rw[eD]at q;cases q;exact new
 ·rw[bV hb]at q
  by_cases hbe:b=e
  ·have q':H b=some (.own x):=by
    rcases he with z|z
    ·exact absurd (hbe.trans z) hb
    ·rw[hbe];exact z
   rw[q]at q';cases q'
   obtain⟨v,hv⟩:=Mz
   exact⟨v,by rw[hbe];exact hv⟩
  ·refine(ok b u q).stay (fun c v hc r=>k c v ?_ r) (fun c r=>by rw[bV (nown c b r)];exact r) fun c xs r=>by rw[bV (ntup c xs r)];exact r
   rcases hc with rfl|hc
   ·exact hbe
   ·rintro rfl
    rcases he with z|z
    ·exact nown c b hc z
    ·rw[hc]at z;cases z;exact hb rfl
end
structure Un(fs ex:List Addr)(H H':Hp)(h h':Heap):Prop where
 keep:∀b o,h.get? b=some o->H b=none->b∉fs->b∉ex->h'.get? b=some o
 slot:∀b o,h.get? b=some o->H b=none->b∈fs->b∉ex->∃sl,h'.get? b=some { o with slots:=sl }
 free:∀b o,h.get? b=some o->H b=none->b∉ex->H' b=none
 there:∀b o,h.get? b=some o->b∉ex->∃o',h'.get? b=some o'
 tups:∀b xs,H b=some (.tup xs)->H' b=some (.tup xs)
 frzs:∀b o u,H b=some (.frz o u)->H' b=some (.frz o u)
 tbls:∀b ps,H b=some (.tbl ps)->∃kZ,H' b=some (.tbl (ps++kZ))
section
variable{fs Q2 ex Rq:List Addr}{H H1 H2:Hp}{h h1 h2 h':Heap}{a x e:Addr}{o:HO}
theorem Un.any(u:Un fs ex H H1 h h1){b:Addr}{ob:Obj}(q:h.get? b=some ob)(n:H b=none)(hx:b∉ex):∃sl,h1.get? b=some { ob with slots:=sl }:=by
 by_cases hb:b∈fs
 ·exact u.slot b ob q n hb hx
 ·exact⟨ob.slots,u.keep b ob q n hb hx⟩
theorem Un.trans(a:Un fs ex H H1 h h1)(b:Un fs ex H1 H2 h1 h2):Un fs ex H H2 h h2 where
 keep:=fun c ob q n hc hx=>b.keep c ob (a.keep c ob q n hc hx) (a.free c ob q n hx) hc hx
 slot:=fun c ob q n hc hx=>by
  obtain⟨sl,e1⟩:=a.slot c ob q n hc hx
  obtain⟨sl',e2⟩:=b.slot c _ e1 (a.free c ob q n hx) hc hx
  exact⟨sl',e2⟩
 free:=fun c ob q n hx=>by
  obtain⟨o',e1⟩:=a.there c ob q hx
  exact b.free c o' e1 (a.free c ob q n hx) hx
 there:=fun c ob q hx=>by
  obtain⟨o',e1⟩:=a.there c ob q hx
  exact b.there c o' e1 hx
 tups:=fun c xs q=>b.tups c xs (a.tups c xs q)
 frzs:=fun c ob xs q=>b.frzs c ob xs (a.frzs c ob xs q)
 tbls:=fun c ps q=>by
  obtain⟨m1,e1⟩:=a.tbls c ps q
  obtain⟨m2,e2⟩:=b.tbls c _ e1
  exact⟨m1++m2,by rw[e2,Array.append_assoc]⟩
theorem Un.kept(k:∀b u,h.get? b=some u->h'.get? b=some u):Un fs ex H H h h':=
 ⟨fun b ob q _ _ _=>k b ob q,fun b ob q _ _ _=>⟨ob.slots,k b ob q⟩,fun _ _ _ n _=>n,fun b ob q _=>⟨ob,k b ob q⟩,fun _ _ q=>q,fun _ _ _ q=>q,fun _ ps q=>⟨#[],by rw[q];simp⟩⟩
theorem Un.refl:Un fs ex H H h h:=Un.kept fun _ _ q=>q
theorem Un.laid(k:∀b u,h.get? b=some u->h'.get? b=some u)(hp:h.objs.size<=a)(hn:H a=none):Un fs ex H (fx H a o) h h' where
 keep:=fun b u q _ _ _=>k b u q
 slot:=fun b u q _ _ _=>⟨u.slots,k b u q⟩
 free:=fun b u q n _=>by rw[bV (a8 (a6 (aF q) hp))];exact n
 there:=fun b u q _=>⟨u,k b u q⟩
 tups:=fun b xs q=>by rw[bV (c_ q hn)];exact q
 frzs:=fun b u xs q=>by rw[bV (c_ q hn)];exact q
 tbls:=fun b ps q=>⟨#[],by rw[bV (c_ q hn),q];simp⟩
theorem Un.write(mu:JO (H x))(he:e=x\/H e=some (.own x))(k:∀b u,b≠e->h.get? b=some u->h'.get? b=some u)(Mz:∃u,h'.get? e=some u):Un fs ex H (fx H x o) h h':=by
 have hx:∀b,H b=none->b≠x:=fun b n z=>by subst z;rw[n]at mu;exact mu
 have hb:∀b,H b=none->b≠e:=fun b n z=>by
  subst z
  rcases he with r|r
  ·exact hx b n r
  ·rw[n]at r;cases r
 have hm:∀b u,H b=some u->¬ JO (some u)->b≠x:=fun b u q nm z=>by subst z;rw[q]at mu;exact nm mu
 refine⟨fun b u q n _ _=>k b u (hb b n) q,fun b u q n _ _=>⟨u.slots,k b u (hb b n) q⟩,fun b u q n _=>by rw[bV (hx b n)];exact n,fun b u q _=>?_,
  fun b xs q=>by rw[bV (hm b _ q fun z=>z)];exact q,fun b u xs q=>by rw[bV (hm b _ q fun z=>z)];exact q,fun b ps q=>⟨#[],by rw[bV (hm b _ q fun z=>z),q];simp⟩⟩
 by_cases hbe:b=e
 ·subst hbe;exact Mz
 ·exact⟨u,k b u hbe q⟩
theorem Un.mono(u:Un fs ex H H1 h h1)(hs:∀b∈fs,b∈Q2)(hx:∀b∈ex,b∈Rq):Un Q2 Rq H H1 h h1:=
 ⟨fun b ob q n hb he=>u.keep b ob q n (fun z=>hb (hs b z)) fun z=>he (hx b z),fun _ _ q n _ he=>u.any q n fun z=>he (hx _ z),fun b ob q n he=>u.free b ob q n fun z=>he (hx b z),fun b ob q he=>u.there b ob q fun z=>he (hx b z),u.tups,u.frzs,u.tbls⟩
end
def Pn(h:Heap)(H:Hp):List Addr:=(List.range h.objs.size).filter fun a=>(H a).isSome
def tU(h:Heap)(H:Hp):Heap:=PySem.W.hideAll h (Pn h H)
theorem Bw(h:Heap)(H:Hp):(tU h H).objs.size=h.objs.size:=PySem.W.hideAll_size _ _
theorem CY{h:Heap}{H:Hp}{b:Addr}{o:Obj}(e:h.get? b=some o)(n:H b=none):(tU h H).get? b=some o:=
 PySem.W.hideAll_get _ e fun hm=>by
  have q:(H b).isSome=true:=(cB.mp hm).2
  rw[n]at q;simp at q
theorem Gs{h:Heap}{H:Hp}{b:Addr}{o:Obj}(e:(tU h H).get? b=some o):h.get? b=some o/\H b=none:=by
 have e':h.get? b=some o:=PySem.W.of_hideAll (Pn h H) e
 refine⟨e',?_⟩
 cases q:H b with
 |none=>rfl
 |some x=>
  have hm:b∈Pn h H:=cB.mpr ⟨bt.mpr (aF e'),by simp[q]⟩
  have z:(tU h H).get? b=none:=PySem.W.hideAll_none (Pn h H) hm
  rw[z]at e;cases e
def Gu(g h:Heap)(L:Addr):List (Addr×Obj):=(List.range h.objs.size).filterMap fun a=>if a=L\/(g.get? a).isSome=true then none else(h.get? a).map fun o=>(a,o)
def cZ(g h:Heap)(L d:Addr):List (Addr×Obj):=(Gu g h L).filter fun p=>decide (p.1≠d)
structure Mod(K:Frag)(mg:Str->Option Value)(base:Heap):Prop where
 kin:K.In base
 glob:base.Ns mainGlobals mg
 blt:∃mb,base.Ns builtinsNs mb/\∀x:Str,x ≠ "__name__"->mb x=bootBuiltins x
 nolimit:base.NoLimit
/-- the context: a def's body (or a comprehension's block) running. base: fixed through the qS    law; s₀, H₀: the entry; outer: the frames whose slots others may change (a def's callers); stack: all frames that run;
   ex: iterators that were made ahead of the entry and are walked here (a comprehension's); fn: the names whose cells were made at the entry (a def: all; a comprehension's block: bj  own); calm: not within an except suite; pn: pins that every state bears; xe: what is wanted of an exception that leaves the code -/
structure Cx where
 prog:Program
 w:World
 K:Frag
 mg:Str->Option Value
 base:Heap
 A:Around
 N:List Str
 s₀:Shared
 H₀:Hp
 env:Env
 outer:List Env
 stack:List Env
 ex:List Addr
 fn:Str->Bool
 calm:Bool
 pn:List (Addr×Obj)
 xe:Value->Shared->Prop
def mI(l:List Env):List Addr:=l.filterMap (·.frame)
abbrev Cx.fs(X:Cx):List Addr:=mI X.outer
def MI(sc:Scope)(x:Str):Prop:=sc.names.lookup x=some .local\/sc.names.lookup x=some .cell\/sc.names.lookup x=some .free
def Gv(sc:Scope)(x:Str):Prop:=sc.names.lookup x=some .local\/sc.names.lookup x=some .cell
def PZ(env:Env)(h:Heap)(m:Str->Option Value)(x:Str)(u:Value):Prop:=
 (env.kindOf x=some .local/\m x=some u)\/((env.kindOf x=some .cell\/env.kindOf x=some .free)/\∃c,env.cells.lookup x=some c/\h.IsCell c (some u))
structure Cx.Ok(X:Cx):Prop where
 mod:Mod X.K X.mg X.base
 kind:X.env.scope.kind=.function
 glob:X.env.globals=mainGlobals
 blt:X.env.builtins=builtinsNs
 above:X.s₀.heap.objs.size<=X.env.locals
 inj:∀x y c,X.env.cells.lookup x=some c->X.env.cells.lookup y=some c->x=y
 has:∀x,(X.env.kindOf x=some .cell\/X.env.kindOf x=some .free)->∃c,X.env.cells.lookup x=some c
 cab:∀x c,X.fn x=true->X.env.cells.lookup x=some c->X.s₀.heap.objs.size<=c
 hd:X.calm=true->X.A.handled=none
 frames:X.A.frames=some X.stack
 stk:X.stack=X.outer\/(X.stack=X.env::X.outer/\X.env.frame=some X.env.locals)
 exf:∀b∈X.ex,b≠X.env.locals/\∀x c,X.env.cells.lookup x=some c->c≠b
 bs:∀b o,X.base.get? b=some o->X.s₀.heap.get? b=some o/\X.H₀ b=none
 bsz:X.base.objs.size<=X.s₀.heap.objs.size
 noex:∀b o,X.base.get? b=some o->b∉X.ex
 exfs:∀b∈X.ex,b∉X.fs
 funs:X.s₀.heap.FunFrames X.base X.outer
 frf:∀b∈X.fs,X.H₀ b=none
structure bi(X:Cx)(pins:List (Addr×Obj))(σ:List (Option V))(H:Hp)(s:Shared):Prop where
 ok:X.Ok
 os:s.os=X.s₀.os
 bare:AllBare s.gens
 base:Un X.fs X.ex X.H₀ H X.s₀.heap s.heap
 loc:∃m,s.heap.Ns X.env.locals m/\∀(i:Nat) (x:Str) (v:V),X.N[i]?=some x->σ[i]?=some (some v)->MI X.env.scope x->∃u,bN v u/\PZ X.env s.heap m x u
 cell:∀x c,X.env.cells.lookup x=some c->∃v,s.heap.IsCell c v
 free:H X.env.locals=none
 freeC:∀x c,X.env.cells.lookup x=some c->H c=none
 pin:∀p∈X.pn++pins,s.heap.get? p.1=some p.2/\H p.1=none/\p.1≠X.env.locals/\p.1∉X.fs/\∀v,p.2.data≠.cell v
 hok:n6 X.prog X.w H s.heap
 len:σ.length=X.N.length
section
variable{X:Cx}{pins:List (Addr×Obj)}{σ:List (Option V)}{H H':Hp}{s:Shared}{h':Heap}
theorem Cx.Ok.nofr(ok:X.Ok){b:Addr}{o:Obj}(e:X.base.get? b=some o):b∉X.fs:=fun hb=>by
 have:=(ok.funs.mem hb).1
 rw[e]at this;cases this
theorem bi.bs(I:bi X pins σ H s):∀b o,X.base.get? b=some o->s.heap.get? b=some o/\H b=none:=fun b o e=>
 ⟨I.base.keep b o (I.ok.bs b o e).1 (I.ok.bs b o e).2 (I.ok.nofr e) (I.ok.noex b o e),I.base.free b o (I.ok.bs b o e).1 (I.ok.bs b o e).2 (I.ok.noex b o e)⟩
theorem bi.bk(I:bi X pins σ H s):∀b o,X.base.get? b=some o->s.heap.get? b=some o:=fun b o e=>(I.bs b o e).1
theorem bi.mod(I:bi X pins σ H s):Mod X.K X.mg X.base:=I.ok.mod
theorem bi.kIn(I:bi X pins σ H s):X.K.In s.heap:=I.ok.mod.kin.keeps I.bk
theorem bi.nolimit(I:bi X pins σ H s):s.heap.NoLimit:=I.ok.mod.nolimit.keeps I.bk
theorem bi.fr(I:bi X pins σ H s):∃m,Fr X.base X.env.locals s.heap m:=
 let ⟨m,hn,_⟩:=I.loc
 ⟨m,hn,I.bk,aV I.ok.bsz I.ok.above⟩
theorem bi.lt(I:bi X pins σ H s):X.env.locals<s.heap.objs.size:=let ⟨_,hn,_⟩:=I.loc;hn.lt
theorem bi.sz(I:bi X pins σ H s):X.s₀.heap.objs.size<=s.heap.objs.size:=aV I.ok.above (eX I.lt)
theorem bi.nofs(I:bi X pins σ H s){a:Addr}(h:s.heap.objs.size<=a):a∉X.fs:=fun hb=>by
 obtain⟨_,o,ho,_⟩:=I.ok.funs.mem hb
 exact absurd (a6 (aF ho) (aV I.sz h)) (bx _)
theorem bi.cne(I:bi X pins σ H s):∀x c,X.env.cells.lookup x=some c->c≠X.env.locals:=fun x c e z=>by
 obtain⟨v,o,ho,hd⟩:=I.cell x c e
 obtain⟨m,⟨o',es,ep,ho',hd',_⟩,_⟩:=I.loc
 rw[z,ho']at ho;cases ho;rw[hd']at hd;cases hd
theorem bi.funs(I:bi X pins σ H s):s.heap.FunFrames X.base X.outer:=by
 have all:∀(l:List Env),(∀b∈mI l,b∈X.fs)->X.s₀.heap.FunFrames X.base l->s.heap.FunFrames X.base l:=by
  intro l
  induction l with
  |nil=>intro _ _;trivial
  |cons env r ih=>
   intro hs hl
   obtain⟨hk,⟨L,o,hf,hn,ho,hd⟩,hr⟩:=hl
   have hL:L∈X.fs:=hs L (by unfold mI;rw[ga,hf];exact bf)
   obtain⟨sl,e⟩:=I.base.slot L o ho (I.ok.frf L hL) hL fun z=>I.ok.exfs L z hL
   exact⟨hk,⟨L,_,hf,hn,e,hd⟩,ih (fun b hb=>hs b (by unfold mI;rw[ga,hf];exact aT _ hb)) hr⟩
 exact all X.outer (fun _ hb=>hb) I.ok.funs
theorem bi.stack(I:bi X pins σ H s):s.heap.FunFrames X.base X.stack:=by
 rcases I.ok.stk with e|⟨e,hf⟩
 ·rw[e];exact I.funs
 ·rw[e]
  obtain⟨m,hn,_⟩:=I.loc
  refine .cons (by rw[I.ok.kind];decide) hf hn ?_ I.funs
  exact Heap.get?_none_of_le (aV I.ok.bsz I.ok.above)
theorem bi.stkSub(I:bi X pins σ H s):∀b∈mI X.stack,b∈X.env.locals::X.fs:=fun b hb=>by
 rcases I.ok.stk with e|⟨e,hf⟩
 ·rw[e]at hb;exact aT _ hb
 ·rw[e]at hb
  unfold mI at hb
  rw[ga,hf]at hb
  exact hb
theorem bi.stkFree(I:bi X pins σ H s):∀b∈mI X.stack,H b=none:=fun b hb=>by
 rcases a7.mp (I.stkSub b hb)with e|hb
 ·rw[e];exact I.free
 ·obtain⟨_,o,ho,_⟩:=I.ok.funs.mem hb
  exact I.base.free b o ho (I.ok.frf b hb) fun z=>I.ok.exfs b z hb
theorem bi.step{g':Array GenState}{t':Nat}{d':Drawn}{ch:List Addr}(I:bi X pins σ H s)
  (CG:∀b∈ch,(b∈X.ex\/X.s₀.heap.objs.size<=b)/\b≠X.env.locals/\(∀x c,X.env.cells.lookup x=some c->c≠b)/\∀p∈X.pn++pins,p.1≠b)
  (keep:∀b o,b≠X.env.locals->b∉X.fs->b∉ch->s.heap.get? b=some o->H b=none->h'.get? b=some o)
  (slot:∀b o,b≠X.env.locals->b∈X.fs->b∉ch->s.heap.get? b=some o->H b=none->∃sl,h'.get? b=some { o with slots:=sl }) (free:∀b o,b∉ch->s.heap.get? b=some o->H b=none->H' b=none)
  (there:∀b o,b∉ch->s.heap.get? b=some o->∃o',h'.get? b=some o')
  (tups:∀b xs,H b=some (.tup xs)->H' b=some (.tup xs)) (frzs:∀b o u,H b=some (.frz o u)->H' b=some (.frz o u)) (tbls:∀b ps,H b=some (.tbl ps)->∃kZ,H' b=some (.tbl (ps++kZ)))
  (ns:∀m,s.heap.Ns X.env.locals m->h'.Ns X.env.locals m) (hok:n6 X.prog X.w H' h') (hg:AllBare g') :
  bi X pins σ H' { s with heap:=h',gens:=g',drawn:=d',toks:=t' }:=by
 have neL:∀b o,X.s₀.heap.get? b=some o->b≠X.env.locals:=fun b o e=>a8 (a6 (aF e) I.ok.above)
 have neC:∀b o,X.s₀.heap.get? b=some o->b∉X.ex->b∉ch:=fun b o e hx hb=>by
  rcases(CG b hb).1 with z|z
  ·exact hx z
  ·exact absurd (a6 (aF e) z) (bx _)
 have cellK:∀x c,X.env.cells.lookup x=some c->∀v,s.heap.IsCell c v->h'.IsCell c v:=fun x c e v ⟨o,ho,hd⟩=>by
  have nch:c∉ch:=fun z=>(CG c z).2.2.1 x c e rfl
  by_cases hc:c∈X.fs
  ·obtain⟨sl,q⟩:=slot c o (I.cne x c e) hc nch ho (I.freeC x c e)
   exact⟨_,q,hd⟩
  ·exact⟨o,keep c o (I.cne x c e) hc nch ho (I.freeC x c e),hd⟩
 refine⟨I.ok,I.os,hg,⟨fun b o e n hb hx=>?_,fun b o e n hb hx=>?_,fun b o e n hx=>?_,fun b o e hx=>?_,fun b xs e=>tups b xs (I.base.tups b xs e),fun b o xs e=>frzs b o xs (I.base.frzs b o xs e),fun b ps e=>?_⟩,?_,fun x c e=>?_,?_,fun x c e=>?_,fun p hp=>?_,hok,I.len⟩
 ·exact keep b o (neL b o e) hb (neC b o e hx) (I.base.keep b o e n hb hx) (I.base.free b o e n hx)
 ·obtain⟨sl,e1⟩:=I.base.slot b o e n hb hx
  obtain⟨sl',e2⟩:=slot b _ (neL b o e) hb (neC b o e hx) e1 (I.base.free b o e n hx)
  exact⟨sl',e2⟩
 ·obtain⟨o',e1⟩:=I.base.there b o e hx
  exact free b o' (neC b o e hx) e1 (I.base.free b o e n hx)
 ·obtain⟨o',e1⟩:=I.base.there b o e hx
  exact there b o' (neC b o e hx) e1
 ·obtain⟨m1,e1⟩:=I.base.tbls b ps e
  obtain⟨m2,e2⟩:=tbls b _ e1
  exact⟨m1++m2,by rw[e2,Array.append_assoc]⟩
 ·obtain⟨m,hn,hl⟩:=I.loc
  refine⟨m,ns m hn,fun i x v e1 e2 e3=>?_⟩
  obtain⟨u,r,l⟩:=hl i x v e1 e2 e3
  refine⟨u,r,?_⟩
  rcases l with l|⟨k,c,e,z⟩
  ·exact .inl l
  ·exact .inr ⟨k,c,e,cellK x c e _ z⟩
 ·obtain⟨v,z⟩:=I.cell x c e
  exact⟨v,cellK x c e v z⟩
 ·obtain⟨m,⟨o,_,_,ho,_⟩,_⟩:=I.loc
  exact free _ o (fun z=>(CG _ z).2.1 rfl) ho I.free
 ·obtain⟨v,o,ho,hd⟩:=I.cell x c e
  exact free c o (fun z=>(CG c z).2.2.1 x c e rfl) ho (I.freeC x c e)
 ·obtain⟨e,n,ne,nf,d⟩:=I.pin p hp
  have nch:p.1∉ch:=fun z=>(CG p.1 z).2.2.2 p hp rfl
  exact⟨keep p.1 p.2 ne nf nch e n,free p.1 p.2 nch e n,ne,nf,d⟩
theorem bi.un{t':Nat}(I:bi X pins σ H s)(u:Un X.fs [] H H' s.heap h')(hok:n6 X.prog X.w H' h'):bi X pins σ H' { s with heap:=h',toks:=t' }:=by
 obtain⟨m,⟨o,es,ep,ho,r⟩,_⟩:=id I.loc
 obtain⟨sl,hL⟩:=u.any ho I.free (by simp)
 exact I.step (g':=s.gens) (d':=s.drawn) (ch:=[]) (fun _ z=>nomatch z) (fun b o _ hb _ e n=>u.keep b o e n hb (by simp)) (fun b o _ hb _ e n=>u.slot b o e n hb (by simp)) (fun b o _ e n=>u.free b o e n (by simp)) (fun b o _ e=>u.there b o e (by simp)) u.tups u.frzs u.tbls (fun m' hm=>by
  obtain⟨o',es',ep',ho',r'⟩:=hm
  rw[ho]at ho';cases ho'
  exact⟨_,es',ep',hL,r'⟩) hok I.bare
theorem bi.call{g':Array GenState}{t':Nat}{d':Drawn}{ch:List Addr}(I:bi X pins σ H s)(u:Un (mI X.stack) ch H H' s.heap h')(hok:n6 X.prog X.w H' h')(hg:AllBare g')
  (CG:∀b∈ch,(b∈X.ex\/X.s₀.heap.objs.size<=b)/\b≠X.env.locals/\(∀x c,X.env.cells.lookup x=some c->c≠b)/\∀p∈X.pn++pins,p.1≠b) :
  bi X pins σ H' { s with heap:=h',gens:=g',drawn:=d',toks:=t' }:=by
 obtain⟨m,⟨o,es,ep,ho,r⟩,_⟩:=id I.loc
 obtain⟨sl,hL⟩:=u.any ho I.free fun z=>(CG _ z).2.1 rfl
 exact I.step (ch:=ch) CG (fun b o hL hb hc e n=>u.keep b o e n (fun z=>(a7.mp (I.stkSub b z)).elim hL hb) hc) (fun b o _ _ hc e n=>u.any e n hc) (fun b o hc e n=>u.free b o e n hc) (fun b o hc e=>u.there b o e hc) u.tups u.frzs u.tbls (fun m' hm=>by
  obtain⟨o',es',ep',ho',r'⟩:=hm
  rw[ho]at ho';cases ho'
  exact⟨_,es',ep',hL,r'⟩) hok hg
theorem bi.turned{t':Nat}{it:Addr}(I:bi X pins σ H s)(k:∀b o,b≠it->s.heap.get? b=some o->h'.get? b=some o)(hn:H it=none)(hL:it≠X.env.locals)
  (h1:it∈X.ex\/X.s₀.heap.objs.size<=it) (h2:∀x c,X.env.cells.lookup x=some c->c≠it) (h3:∀p∈X.pn++pins,p.1≠it):bi X pins σ H { s with heap:=h',toks:=t' }:=by
 have nit:∀b u,H b=some u->b≠it:=fun b u e z=>by rw[z,hn]at e;cases e
 refine I.step (g':=s.gens) (d':=s.drawn) (ch:=[it]) (fun b hb=>?_) (fun b o _ _ hc e _=>k b o (fun z=>hc (by simp[z])) e) (fun b o _ _ hc e _=>⟨o.slots,k b o (fun z=>hc (by simp[z])) e⟩) (fun _ _ _ _ n=>n)
  (fun b o hc e=>⟨o,k b o (fun z=>hc (by simp[z])) e⟩) (fun _ _ e=>e) (fun _ _ _ e=>e) (fun b ps e=>⟨#[],by rw[e];simp⟩) (fun m hm=>?_) (fun b u e=>?_) I.bare
 ·have e:b=it:=by simpa using hb
  subst e
  exact⟨h1,hL,h2,h3⟩
 ·obtain⟨o,es,ep,ho,r⟩:=hm
  exact⟨o,es,ep,k _ o (Ne.symm hL) ho,r⟩
 ·refine(I.hok b u e).stay (fun c v hc q=>k c v ?_ q) (fun _ q=>q) fun _ _ q=>q
  rcases hc with z|z
  ·rw[z];exact nit b u e
  ·exact nit c _ z
theorem bi.tok(I:bi X pins σ H s)(t:Nat):bi X pins σ H { s with toks:=t }:=I.un (h':=s.heap) (t':=t) Un.refl I.hok
theorem bi.kept{t':Nat}(I:bi X pins σ H s)(k:∀b u,s.heap.get? b=some u->h'.get? b=some u):bi X pins σ H { s with heap:=h',toks:=t' }:=I.un (Un.kept k) (I.hok.kept k)
theorem bi.laid{a:Addr}{o:HO}{t':Nat}(I:bi X pins σ H s)(k:∀b u,s.heap.get? b=some u->h'.get? b=some u)(hp:s.heap.objs.size<=a)(new:eZ X.prog X.w (fx H a o) h' a o) :
  bi X pins σ (fx H a o) { s with heap:=h',toks:=t' }:=I.un (Un.laid k hp (I.hok.fresh hp)) (I.hok.laid k hp new)
theorem bi.write{x e:Addr}{o:HO}{t':Nat}(I:bi X pins σ H s)(mu:JO (H x))(he:e=x\/H e=some (.own x))(k:∀b u,b≠e->s.heap.get? b=some u->h'.get? b=some u)(Mz:∃u,h'.get? e=some u)
  (new:eZ X.prog X.w (fx H x o) h' x o):bi X pins σ (fx H x o) { s with heap:=h',toks:=t' }:=I.un (Un.write mu he k Mz) (I.hok.write mu he k Mz new)
theorem bi.pins_of{pins':List (Addr×Obj)}(I:bi X pins σ H s)(h:∀p∈pins',s.heap.get? p.1=some p.2/\H p.1=none/\p.1≠X.env.locals/\p.1∉X.fs/\∀v,p.2.data≠.cell v):bi X pins' σ H s:=
 ⟨I.ok,I.os,I.bare,I.base,I.loc,I.cell,I.free,I.freeC,fun p hp=>(aQ.mp hp).elim (fun z=>I.pin p (fU _ z)) (h p),I.hok,I.len⟩
theorem wX{N:List Str}(hN:N.Nodup){i j:Nat}{x:Str}(a:N[i]?=some x)(b:N[j]?=some x):i=j:=by
 obtain⟨h1,e1⟩:=aa.mp a
 obtain⟨h2,e2⟩:=aa.mp b
 exact(List.getElem_inj hN).mp (e1.trans e2.symm)
theorem Bx{M:Model}{A:Around}{E:Value->Shared->Prop}{i:Nat}{x:Str}{v:V}{u:Value}{Q:Unit->Shared->Prop}(I:bi X pins σ H s)(hN:X.N.Nodup)(hi:X.N[i]?=some x)(hx:Gv X.env.scope x)(r:bN v u)
  (h:∀s',bi X pins (σ.set i (some v)) H s'->(∃a,Heap.SameBut a s.heap s'.heap/\(a=X.env.locals\/X.env.cells.lookup x=some a))->Q () s') (hf:X.fn x=true\/X.env.scope.names.lookup x=some .local:=by first|exact .inl rfl|exact .inr rfl|assumption):wpAny M A (storeName X.env x u) Q E s:=by
 obtain⟨m,hn,hl⟩:=id I.loc
 have hcls:(X.env.scope.kind==.class||(X.env.scope.kind==.module&&X.env.locals != X.env.globals))=false:=by rw[I.ok.kind];rfl
 have hiσ:i<σ.length:=by rw[I.len];exact(aa.mp hi).1
 have cne:=I.cne
 have tracked:∀{a:Addr} {h':Heap},(∃o,s.heap.get? a=some o/\H a=none)->Heap.SameBut a s.heap h'->n6 X.prog X.w H h':=fun{a h'} ha hs b ob e=>by
  obtain⟨_,_,hfree⟩:=ha
  refine(I.hok b ob e).stay (fun c w' hc q=>(hs.2 c ?_).trans q) (fun _ q=>q) fun _ _ q=>q
  rintro rfl
  rcases hc with rfl|hc
  ·rw[hfree]at e;cases e
  ·rw[hfree]at hc;cases hc
 rcases hx with hk|hk
 ·refine wpAny_storeName_local hk hn (fun h' hn' hs=>?_) hcls
  obtain⟨oL,_,_,hoL,_⟩:=id hn
  refine h _ ⟨I.ok,I.os,I.bare,⟨fun b o e n hb hx=>?_,fun b o e n hb hx=>?_,I.base.free,fun b o e hx=>?_,I.base.tups,I.base.frzs,I.base.tbls⟩,⟨_,hn',fun j y v' e1 e2 e3=>?_⟩,fun y c e=>?_,I.free,I.freeC,fun p hp=>?_,tracked ⟨oL,hoL,I.free⟩ hs,by simpa using I.len⟩ ⟨_,hs,.inl rfl⟩
  ·exact(hs.2 b (a8 (a6 (aF e) I.ok.above))).trans (I.base.keep b o e n hb hx)
  ·obtain⟨sl,e1⟩:=I.base.slot b o e n hb hx
   exact⟨sl,(hs.2 b (a8 (a6 (aF e) I.ok.above))).trans e1⟩
  ·obtain⟨o',e1⟩:=I.base.there b o e hx
   exact⟨o',(hs.2 b (a8 (a6 (aF e) I.ok.above))).trans e1⟩
  ·by_cases hj:j=i
   ·subst hj
    rw[hi]at e1;cases e1
    rw[bg hiσ]at e2
    cases e2
    exact⟨u,r,.inl ⟨hk,by simp⟩⟩
   ·rw[a_ (Ne.symm hj)]at e2
    obtain⟨u',r',q⟩:=hl j y v' e1 e2 e3
    refine⟨u',r',?_⟩
    rcases q with⟨k,e⟩|⟨k,c,e,z⟩
    ·refine .inl ⟨k,?_⟩
     have:y≠x:=fun e=>hj (wX hN e1 (e▸hi))
     simp[this,e]
    ·exact .inr ⟨k,c,e,z.sameBut hs (cne y c e)⟩
  ·obtain⟨w',z⟩:=I.cell y c e
   exact⟨w',z.sameBut hs (cne y c e)⟩
  ·obtain⟨e,n,ne,nf,d⟩:=I.pin p hp
   exact⟨(hs.2 p.1 ne).trans e,n,ne,nf,d⟩
 ·have hfn:X.fn x=true:=by
   rcases hf with z|z
   ·exact z
   ·rw[z]at hk;cases hk
  obtain⟨c,hc⟩:=I.ok.has x (.inl hk)
  obtain⟨w',z⟩:=I.cell x c hc
  refine wpAny_storeName_cell I.ok.kind hk hc z (fun h' hc' hs=>?_)
  obtain⟨oc,hoc,hocd⟩:=id z
  refine h { s with heap:=h' } ⟨I.ok,I.os,I.bare,⟨fun b o e n hb hx=>?_,fun b o e n hb hx=>?_,I.base.free,fun b o e hx=>?_,I.base.tups,I.base.frzs,I.base.tbls⟩,⟨m,hn.sameBut hs (Ne.symm (cne x c hc)),fun j y v' e1 e2 e3=>?_⟩,fun y c' e=>?_,I.free,I.freeC,fun p hp=>?_,tracked ⟨oc,hoc,I.freeC x c hc⟩ hs,by simpa using I.len⟩ ⟨c,hs,.inr hc⟩
  ·exact(hs.2 b (a8 (a6 (aF e) (I.ok.cab x c hfn hc)))).trans (I.base.keep b o e n hb hx)
  ·obtain⟨sl,e1⟩:=I.base.slot b o e n hb hx
   exact⟨sl,(hs.2 b (a8 (a6 (aF e) (I.ok.cab x c hfn hc)))).trans e1⟩
  ·obtain⟨o',e1⟩:=I.base.there b o e hx
   exact⟨o',(hs.2 b (a8 (a6 (aF e) (I.ok.cab x c hfn hc)))).trans e1⟩
  ·by_cases hj:j=i
   ·subst hj
    rw[hi]at e1;cases e1
    rw[bg hiσ]at e2
    cases e2
    exact⟨u,r,.inr ⟨.inl hk,c,hc,hc'⟩⟩
   ·rw[a_ (Ne.symm hj)]at e2
    obtain⟨u',r',q⟩:=hl j y v' e1 e2 e3
    refine⟨u',r',?_⟩
    rcases q with q|⟨k,c',e,z'⟩
    ·exact .inl q
    ·refine .inr ⟨k,c',e,z'.sameBut hs ?_⟩
     rintro rfl
     exact hj (wX hN e1 (I.ok.inj _ _ _ e hc▸hi))
  ·by_cases hcc:c'=c
   ·subst hcc;exact⟨_,hc'⟩
   ·obtain⟨w2,z2⟩:=I.cell y c' e
    exact⟨w2,z2.sameBut hs hcc⟩
  ·obtain⟨e,n,ne,nf,d⟩:=I.pin p hp
   refine⟨(hs.2 p.1 ?_).trans e,n,ne,nf,d⟩
   intro q
   rw[q,hoc]at e
   have q':oc=p.2:=a9 e
   exact d w' (by rw[<- q'];exact hocd)
theorem wY{M:Model}{A:Around}{E:Value->Shared->Prop}{i:Nat}{x:Str}{v:V}{u:Value}{Q:Unit->Shared->Prop}(I:bi X pins σ H s)(hN:X.N.Nodup)(hi:X.N[i]?=some x)(hx:Gv X.env.scope x)(r:bN v u)
  (h:∀s',bi X pins (σ.set i (some v)) H s'->Q () s') (hf:X.fn x=true\/X.env.scope.names.lookup x=some .local:=by first|exact .inl rfl|exact .inr rfl|assumption):wpAny M A (storeName X.env x u) Q E s:=
 Bx I hN hi hx r (fun s' I' _=>h s' I') hf
theorem bi.call'{s':Shared}{ch:List Addr}(I:bi X pins σ H s)(ho:s'.os=s.os)(u:Un (mI X.stack) ch H H' s.heap s'.heap)(hok:n6 X.prog X.w H' s'.heap)(hg:AllBare s'.gens)
  (CG:∀b∈ch,(b∈X.ex\/X.s₀.heap.objs.size<=b)/\b≠X.env.locals/\(∀x c,X.env.cells.lookup x=some c->c≠b)/\∀p∈X.pn++pins,p.1≠b):bi X pins σ H' s':=by
 obtain⟨h',g',d',t',o'⟩:=s'
 have e:o'=s.os:=ho
 subst e
 exact I.call (g':=g') (t':=t') (d':=d') u hok hg CG
end
abbrev XK:=Value->Option Addr->Hp->Prop
abbrev St:=List (Option V)
abbrev VK:=V->Hp->Prop
abbrev TE:=St->Hp->VK->Prop
abbrev TT:=St->Hp->(Bool->Hp->Prop)->Prop
abbrev TA:=St->Hp->(List V->Hp->Prop)->Prop
structure tV where
 nx:St->Hp->Prop
 rt:VK
 bk:St->Hp->Prop:=fun _ _=>False
 ct:St->Hp->Prop:=fun _ _=>False
abbrev TS:=tV->St->Hp->Prop
def EP(X:Cx)(pins:List (Addr×Obj))(σ:St)(Q:VK)(u:Value)(s':Shared):Prop:=∃v H',bi X pins σ H' s'/\bN v u/\Q v H'
def TP(X:Cx)(pins:List (Addr×Obj))(σ:St)(Q:Bool->Hp->Prop)(b:Bool)(s':Shared):Prop:=∃H',bi X pins σ H' s'/\Q b H'
def AP(X:Cx)(pins:List (Addr×Obj))(σ:St)(Q:List V->Hp->Prop)(us:List Value)(s':Shared):Prop:=∃vs H',bi X pins σ H' s'/\b9 vs us/\Q vs H'
def SP(X:Cx)(pins:List (Addr×Obj))(D:tV)(f:Flow)(s':Shared):Prop:=
 match f with
 |.next=>∃σ' H',bi X pins σ' H' s'/\D.nx σ' H'
 |.brk=>∃σ' H',bi X pins σ' H' s'/\D.bk σ' H'
 |.cont=>∃σ' H',bi X pins σ' H' s'/\D.ct σ' H'
 |.ret u=>∃v σ' H',bi X pins σ' H' s'/\bN v u/\D.rt v H'
def PE(X:Cx)(e:Expr)(t:TE):Prop:=
 ∀(pins:List (Addr×Obj)) (s:Shared) (σ:St) (H:Hp) (Q:VK),bi X pins σ H s->t σ H Q->wpAny (model X.prog X.w) X.A (eval e X.env) (EP X pins σ Q) X.xe s
def PT(X:Cx)(e:Expr)(t:TT):Prop:=
 ∀(pins:List (Addr×Obj)) (s:Shared) (σ:St) (H:Hp) (Q:Bool->Hp->Prop),bi X pins σ H s->t σ H Q->wpAny (model X.prog X.w) X.A (isTrue e X.env (eval e X.env)) (TP X pins σ Q) X.xe s
def PW(X:Cx)(e:Expr)(t:TT):Prop:=
 ∀(qS:Sem Value) (pins:List (Addr×Obj)) (s:Shared) (σ:St) (H:Hp) (Q:Bool->Hp->Prop),bi X pins σ H s->t σ H Q->wpAny (model X.prog X.w) X.A (isTrue e X.env qS) (TP X pins σ Q) X.xe s
theorem PW.pt{X:Cx}{e:Expr}{t:TT}(h:PW X e t):PT X e t:=h _
def PA(X:Cx)(es:List Expr)(t:TA):Prop:=
 ∀(pos:Pos) (pins:List (Addr×Obj)) (s:Shared) (σ:St) (H:Hp) (Q:List V->Hp->Prop),bi X pins σ H s->t σ H Q->wpAny (model X.prog X.w) X.A (spliced (backTo pos (starEach es X.env))) (AP X pins σ Q) X.xe s
def PS(X:Cx)(st:Stmt)(t:TS):Prop:=
 ∀(pins:List (Addr×Obj)) (s:Shared) (σ:St) (H:Hp) (D:tV),bi X pins σ H s->t D σ H->wpAny (model X.prog X.w) X.A (exec st X.env) (SP X pins D) X.xe s
def wZ(X:Cx)(st:List Stmt)(t:TS):Prop:=
 ∀(pins:List (Addr×Obj)) (s:Shared) (σ:St) (H:Hp) (D:tV),bi X pins σ H s->t D σ H->wpAny (model X.prog X.w) X.A (execs st X.env) (SP X pins D) X.xe s
theorem gq{α:Type}{t:Sem α}{Q Q':α->Shared->Prop}{M:Model}{A:Around}{E:Value->Shared->Prop}{s:Shared}(h:wpAny M A t Q E s)(hQ:∀a s,Q a s->Q' a s):wpAny M A t Q' E s:=bX h hQ fun _ _ x=>x
section
variable{X:Cx}
def MJ(i:Nat):TE:=fun σ H Q=>∃v,σ[i]?=some (some v)/\Q v H
def tC(v:V):TE:=fun _ H Q=>Q v H
theorem JP{i:Nat}{x:Str}{pos:Pos}(hN:X.N[i]?=some x)(hv:MI X.env.scope x)(hd:(x==("__debug__":Str))=false:=by decide)(nZ:(x==("__classdict__":Str))=false:=by decide):PE X (.Name x pos) (MJ i):=by
 intro pins s σ H Q I h
 obtain⟨v,e,h⟩:=h
 obtain⟨m,hn,hl⟩:=I.loc
 obtain⟨u,r,l⟩:=hl i x v hN e hv
 have fin:EP X pins σ Q u s:=⟨v,H,I,r,h⟩
 rcases l with⟨hk,hm⟩|⟨hk,c,hc,iT⟩
 ·exact mj (wpAny_loadName_local I.ok.kind hk hn hm fin) hd
 ·rcases hk with hk|hk
  ·exact mj (wpAny_loadName_cell I.ok.kind hk hc iT fin) hd
  ·exact mj (wpAny_loadName_free I.ok.kind hk hc iT fin nZ) hd
theorem JQ{i j pos}:PE X (.Constant (.int i) j pos) (tC (.int i)):=fun _ _ _ H _ I h=>wpAny_Constant_int ⟨.int i,H,I.tok _,⟨_,rfl⟩,h⟩
theorem MK{b j pos}:PE X (.Constant (.bool b) j pos) (tC (.bl b)):=fun _ _ _ H _ I h=>Constant_bool ⟨.bl b,H,I,rfl,h⟩
theorem JR{j pos}:PE X (.Constant .none j pos) (tC .non):=fun _ _ _ H _ I h=>oz ⟨.non,H,I,rfl,h⟩
theorem JS{x j pos}:PE X (.Constant (.str x) j pos) (tC (.str x)):=fun _ _ _ H _ I h=>Calls.Constant_str ⟨.str x,H,I.tok _,⟨_,rfl⟩,h⟩
def Gl(X:Cx)(x:Str):Prop:=X.env.kindOf x=some .globalImplicit
theorem Gw{E:Value->Shared->Prop}{pins:List (Addr×Obj)}{s:Shared}{σ:St}{H:Hp}{x:Str}{u:Value}{pos:Pos}{Q:Value->Shared->Prop}(I:bi X pins σ H s)(hg:Gl X x)(hm:X.mg x=some u)(h:Q u s)
  (hd:(x==("__debug__":Str))=false:=by decide):wpAny (model X.prog X.w) X.A (eval (.Name x pos) X.env) Q E s:=
 j8 I.ok.kind hg (Calls.loadGlobal_global (by rw[I.ok.glob];exact I.mod.glob.keeps I.bk) hm h) hd
theorem lQ{E:Value->Shared->Prop}{pins:List (Addr×Obj)}{s:Shared}{σ:St}{H:Hp}{x:Str}{u:Value}{pos:Pos}{Q:Value->Shared->Prop}(I:bi X pins σ H s)(hg:Gl X x)(hm:X.mg x=none)(hv:bootBuiltins x=some u)(h:Q u s)
  (hn:x ≠ "__name__":=by decide) (hd:(x==("__debug__":Str))=false:=by decide):wpAny (model X.prog X.w) X.A (eval (.Name x pos) X.env) Q E s:=by
 obtain⟨mb,h1,h2⟩:=I.mod.blt
 exact j8 I.ok.kind hg (Calls.loadGlobal_builtin (by rw[I.ok.glob];exact I.mod.glob.keeps I.bk) hm (by rw[I.ok.blt];exact h1.keeps I.bk) ((h2 x hn).trans hv) h) hd
theorem Gx{x:Str}{v:V}{u:Value}{pos:Pos}(hg:Gl X x)(hm:X.mg x=none)(hv:bootBuiltins x=some u)(r:bN v u)(hn:x ≠ "__name__":=by decide)(hd:(x==("__debug__":Str))=false:=by decide):PE X (.Name x pos) (tC v):=
 fun _ _ _ H _ I h=>lQ I hg hm hv ⟨v,H,I,r,h⟩ hn hd
variable{a b:Expr}{ta tb:TE}{pos:Pos}
def PC(X:Cx)(op:CmpOp)(a b:Expr)(t:TE):Prop:=
 ∀(pins:List (Addr×Obj)) (s:Shared) (σ:St) (H:Hp) (Q:VK),bi X pins σ H s->t σ H Q ->
  wpAny (model X.prog X.w) X.A (eval a X.env) (fun v s₁=>wpAny (model X.prog X.w) X.A (eval b X.env) (fun u s₂=>wpAny (model X.prog X.w) X.A (compareOp op v u) (EP X pins σ Q) X.xe s₂) X.xe s₁) X.xe s
theorem w6(b:Expr){op:CmpOp}(h:op≠.In)(h2:op≠.NotIn):behindInMarks op b=false:=by
 have e1:(op==CmpOp.In)=false:=by cases op<;>first|rfl|exact absurd rfl h
 have e2:(op==CmpOp.NotIn)=false:=by cases op<;>first|rfl|exact absurd rfl h2
 cases b<;>simp[behindInMarks,e1,e2]
def ML(ta:TE):TE:=fun σ H Q=>ta σ H fun x H1=>Q (.bl (decide (x=.non))) H1
def Iu(ta:TE):TE:=fun σ H Q=>ta σ H fun x H1=>Q (.bl (!decide (x=.non))) H1
theorem bN.none_iff{x:V}{v:Value}(r:bN x v):(v==Value.none)=decide (x=.non):=by
 cases x with
 |non=>cases r;rfl
 |bl _=>cases r;rfl
 |int _=>obtain⟨t,rfl⟩:=r;rfl
 |str _=>obtain⟨t,rfl⟩:=r;rfl
 |byt _=>obtain⟨t,rfl⟩:=r;rfl
 |flt _=>obtain⟨t,rfl⟩:=r;rfl
 |ref _=>cases r;rfl
 |ty _=>cases r;rfl
theorem CZ{j iD}(ha:PE X a ta):PC X .Is a (.Constant .none j iD) (ML ta):=by
 intro pins s σ H Q I h
 refine gq (ha pins s σ H _ I h) fun v s1 ⟨x,H1,I1,r1,q1⟩=>?_
 exact oz (is_none_gen ⟨.bl _,H1,I1,by rw[r1.none_iff];rfl,q1⟩)
theorem Gy{j iD}(ha:PE X a ta):PC X .IsNot a (.Constant .none j iD) (Iu ta):=by
 intro pins s σ H Q I h
 refine gq (ha pins s σ H _ I h) fun v s1 ⟨x,H1,I1,r1,q1⟩=>?_
 exact oz (isnot_none_gen ⟨.bl _,H1,I1,by rw[r1.none_iff];rfl,q1⟩)
def tB(t:TE):TT:=fun σ H Q=>t σ H fun x H1=>∃c,x=.bl c/\Q c H1
theorem JT{op:CmpOp}{t:TE}(h:PC X op a b t)(h1:behindInMarks op b=false:=by first|exact w6 _ (by decide) (by decide)|rfl):PE X (.Compare a [op] [b] pos) t:=fun pins s σ H Q I hw=>wpAny_Compare1 (h pins s σ H Q I hw) h1
theorem C0{op:CmpOp}{t:TE}(h:PC X op a b t)(h1:behindInMarks op b=false:=by first|exact w6 _ (by decide) (by decide)|rfl):PT X (.Compare a [op] [b] pos) (tB t):=by
 intro pins s σ H Q I hw
 refine m6 (gq (h pins s σ H _ I hw) fun v s1 h1=>gq h1 fun u s2 h2=>gq h2 fun c s3 ⟨x,H1,I1,r1,q1⟩=>?_) h1
 obtain⟨d,rfl,q⟩:=q1
 cases r1
 exact eQ ⟨H1,I1,q⟩
theorem JU{e:Expr}{t:TE}(h:PE X e t)(he:∀qS,isTrue e X.env qS=(do let v <- qS;standAt e.pos;holding [v] (truthy v)):=by intro _;rfl):PT X e (tB t):=by
 intro pins s σ H Q I hw
 refine isTrue_plain (gq (h pins s σ H _ I hw) fun v s1 ⟨x,H1,I1,r1,q1⟩=>?_) (he _)
 obtain⟨d,rfl,q⟩:=q1
 cases r1
 exact eQ ⟨H1,I1,q⟩
variable{tA Pl:TT}{cZ:List Expr}
def P0(t u:TT):TT:=fun σ H Q=>t σ H fun c H1=>if c=true then u σ H1 Q else Q false H1
def Rv(t u:TT):TT:=fun σ H Q=>t σ H fun c H1=>if c=true then Q true H1 else u σ H1 Q
def P1(t:TT):TT:=fun σ H Q=>t σ H fun c H1=>Q (!c) H1
theorem Gz(ha:PT X a tA):PW X (.BoolOp .And [a] pos) tA:=by
 intro wh pins s σ H Q I h
 refine isTrue_and (gq (ha pins s σ H Q I h) fun c s1 e=>?_)
 cases c with
 |true=>exact isTrue_and_nil e
 |false=>exact e
theorem JV(ha:PT X a tA):PW X (.BoolOp .Or [a] pos) tA:=by
 intro wh pins s σ H Q I h
 refine isTrue_or (gq (ha pins s σ H Q I h) fun c s1 e=>?_)
 cases c with
 |false=>exact isTrue_or_nil e
 |true=>exact e
theorem JW(ha:PT X a tA)(hb:PW X (.BoolOp .And (b::cZ) pos) Pl):PW X (.BoolOp .And (a::b::cZ) pos) (P0 tA Pl):=by
 intro wh pins s σ H Q I h
 refine isTrue_and (gq (ha pins s σ H _ I h) fun c s1 ⟨H1,I1,q1⟩=>?_)
 cases c with
 |true=>exact hb wh pins s1 σ H1 Q I1 q1
 |false=>exact⟨H1,I1,q1⟩
theorem MM(ha:PT X a tA)(hb:PW X (.BoolOp .Or (b::cZ) pos) Pl):PW X (.BoolOp .Or (a::b::cZ) pos) (Rv tA Pl):=by
 intro wh pins s σ H Q I h
 refine isTrue_or (gq (ha pins s σ H _ I h) fun c s1 ⟨H1,I1,q1⟩=>?_)
 cases c with
 |true=>exact⟨H1,I1,q1⟩
 |false=>exact hb wh pins s1 σ H1 Q I1 q1
theorem JX(ha:PT X a tA):PT X (.UnaryOp .Not a pos) (P1 tA):=by
 intro pins s σ H Q I h
 exact isTrue_not (ha pins s σ H (fun c H1=>Q (!c) H1) I h)
def MN(ta tb:TE):TE:=fun σ H Q=>ta σ H fun x H1=>∃c,x=.bl c/\if c=true then tb σ H1 Q else Q (.bl false) H1
def MO(ta:TE):TE:=fun σ H Q=>ta σ H fun x H1=>∃c,x=.bl c/\Q (.bl (!c)) H1
theorem JY{op}{t:TE}(h:PE X a t):PE X (.BoolOp op [a] pos) t:=fun pins s σ H Q I hw=>BoolOp_one (h pins s σ H Q I hw)
theorem JZ(ha:PE X a ta)(hb:PE X (.BoolOp .And (b::cZ) pos) tb):PE X (.BoolOp .And (a::b::cZ) pos) (MN ta tb):=by
 intro pins s σ H Q I h
 refine BoolOp_and (gq (ha pins s σ H _ I h) fun v s1 ⟨x,H1,I1,r1,q1⟩=>?_)
 obtain⟨c,rfl,q1⟩:=q1
 cases r1
 refine eQ ?_
 cases c with
 |true=>exact hb pins s1 σ H1 Q I1 q1
 |false=>exact⟨.bl false,H1,I1,rfl,q1⟩
theorem J0(ha:PE X a ta):PE X (.UnaryOp .Not a pos) (MO ta):=by
 intro pins s σ H Q I h
 refine UnaryOp_ (gq (ha pins s σ H _ I h) fun v s1 ⟨x,H1,I1,r1,q1⟩=>?_)
 obtain⟨c,rfl,q1⟩:=q1
 cases r1
 exact not_of (eQ ⟨.bl (!c),H1,I1,rfl,q1⟩)
end
def nL(K:Frag)(H:Hp)(a:Addr)(xs:List V):Prop:=
 Rd H a (.lst xs) \/
  ∃(o:Obj) (bj:Array Value) (n:Nat),K.lookup a=some o/\o.cls=.type "list"/\o.dict=none/\o.data=.seq bj n/\bj.size<=sizeLine/\b9 xs bj.toList
def fF(K:Frag)(H:Hp)(a:Addr)(xs:List V):Prop:=
 Rd H a (.tup xs) \/
  ∃(o:Obj) (bj:Array Value) (n:Nat),K.lookup a=some o/\o.cls=.type "tuple"/\o.data=.seq bj n/\bj.size<=sizeLine/\b9 xs bj.toList
def P2:Value->Option V
 |.none=>some .non
 |.bool b=>some (.bl b)
 |.int i _=>some (.int i)
 |.str x _=>some (.str x)
 |.bytes b _=>some (.byt b)
 |.float b _=>some (.flt b)
 |.ref a=>some (.ref a)
 |.type n=>some (.ty n)
 |_=>none
theorem bN.abs{x:V}{u:Value}(r:bN x u):P2 u=some x:=by
 cases x with
 |non=>cases r;rfl
 |bl _=>cases r;rfl
 |int _=>obtain⟨t,rfl⟩:=r;rfl
 |str _=>obtain⟨t,rfl⟩:=r;rfl
 |byt _=>obtain⟨t,rfl⟩:=r;rfl
 |flt _=>obtain⟨t,rfl⟩:=r;rfl
 |ref _=>cases r;rfl
 |ty _=>cases r;rfl
theorem bN.inj{x y:V}{u:Value}(r:bN x u)(q:bN y u):x=y:=a9 (r.abs.symm.trans q.abs)
theorem b9.inj:∀{xs ys:List V} {us:List Value},b9 xs us->b9 ys us->xs=ys
 |_,_,_,.nil,.nil=>rfl
 |_,_,_,.cons r t,.cons r' t'=>by rw[r.inj r',b9.inj t t']
section
variable{X:Cx}{pins:List (Addr×Obj)}{σ:St}{H:Hp}{s:Shared}{a:Addr}{xs ys:List V}
theorem nL.of{K:Frag}(h:H a=some (.lst xs)):nL K H a xs:=.inl (.inl h)
theorem fF.of{K:Frag}(h:H a=some (.tup xs)):fF K H a xs:=.inl (.inl h)
theorem bi.list(I:bi X pins σ H s)(h:nL X.K H a xs):∃bj:List Value,b9 xs bj/\PlainL s.heap a bj.toArray/\xs.length<=sizeLine:=by
 rcases h with h|⟨o,bj,n,hk,hc,hd,hs,hz,r⟩
 ·obtain⟨z,bj,n,r,e⟩:=h.ok I.hok
  exact⟨bj,r,⟨_,n,e,rfl,rfl,rfl⟩,z⟩
 ·refine⟨bj.toList,r,⟨o,n,I.kIn a o hk,hc,hd,by simpa using hs⟩,?_⟩
  have e:=r.length
  simp only[gb]at e
  omega
theorem bi.tuple(I:bi X pins σ H s)(h:fF X.K H a xs):∃bj:List Value,b9 xs bj/\IsTup s.heap a bj.toArray/\xs.length<=sizeLine:=by
 rcases h with h|⟨o,bj,n,hk,hc,hs,hz,r⟩
 ·obtain⟨z,bj,r,p⟩:=h.ok I.hok
  exact⟨bj,r,p,z⟩
 ·refine⟨bj.toList,r,⟨o,I.kIn a o hk,hc,n,by simpa using hs⟩,?_⟩
  have e:=r.length
  simp only[gb]at e
  omega
theorem bi.list_inj(I:bi X pins σ H s)(h:nL X.K H a xs)(h':nL X.K H a ys):xs=ys:=by
 obtain⟨bj,r,⟨o,n,e,_,_,d⟩,_⟩:=I.list h
 obtain⟨its',r',⟨o',n',e',_,_,d'⟩,_⟩:=I.list h'
 rw[e]at e';cases e'
 rw[d]at d'
 injection d' with d1 _
 have:bj=its':=by simpa using fB Array.toList d1
 subst this
 exact r.inj r'
theorem bi.tuple_inj(I:bi X pins σ H s)(h:fF X.K H a xs)(h':fF X.K H a ys):xs=ys:=by
 obtain⟨bj,r,⟨o,e,_,n,d⟩,_⟩:=I.tuple h
 obtain⟨its',r',⟨o',e',_,n',d'⟩,_⟩:=I.tuple h'
 rw[e]at e';cases e'
 rw[d]at d'
 injection d' with d1 _
 have:bj=its':=by simpa using fB Array.toList d1
 subst this
 exact r.inj r'
end
abbrev Cx.wish(X:Cx)(E:Value->Shared->Prop):Cx:={ X with xe:=E }
abbrev Cx.nox(X:Cx):Cx:=X.wish fun _ _=>False
theorem Cx.Ok.wish{X:Cx}(ok:X.Ok)(E:Value->Shared->Prop):(X.wish E).Ok:=
 ⟨ok.mod,ok.kind,ok.glob,ok.blt,ok.above,ok.inj,ok.has,ok.cab,ok.hd,ok.frames,ok.stk,ok.exf,ok.bs,ok.bsz,ok.noex,ok.exfs,ok.funs,ok.frf⟩
theorem Cx.Ok.unwish{X:Cx}{E:Value->Shared->Prop}(ok:(X.wish E).Ok):X.Ok:=
 ⟨ok.mod,ok.kind,ok.glob,ok.blt,ok.above,ok.inj,ok.has,ok.cab,ok.hd,ok.frames,ok.stk,ok.exf,ok.bs,ok.bsz,ok.noex,ok.exfs,ok.funs,ok.frf⟩
section
variable{X:Cx}{pins:List (Addr×Obj)}{σ:St}{H:Hp}{s:Shared}{E:Value->Shared->Prop}
theorem bi.wish(I:bi X pins σ H s)(E:Value->Shared->Prop):bi (X.wish E) pins σ H s:=⟨I.ok.wish E,I.os,I.bare,I.base,I.loc,I.cell,I.free,I.freeC,I.pin,I.hok,I.len⟩
theorem bi.unwish(I:bi (X.wish E) pins σ H s):bi X pins σ H s:=⟨I.ok.unwish,I.os,I.bare,I.base,I.loc,I.cell,I.free,I.freeC,I.pin,I.hok,I.len⟩
theorem SP.unwish{D:tV}{f:Flow}{s':Shared}(h:SP (X.wish E) pins D f s'):SP X pins D f s':=by
 cases f with
 |next=>obtain⟨σ',H',I,q⟩:=h;exact⟨σ',H',I.unwish,q⟩
 |brk=>obtain⟨σ',H',I,q⟩:=h;exact⟨σ',H',I.unwish,q⟩
 |cont=>obtain⟨σ',H',I,q⟩:=h;exact⟨σ',H',I.unwish,q⟩
 |ret u=>obtain⟨v,σ',H',I,r,q⟩:=h;exact⟨v,σ',H',I.unwish,r,q⟩
theorem PE.nox{e:Expr}{t:TE}(h:PE X.nox e t):PE X e t:=fun pins s σ H Q I hw=>
 bX (h pins s σ H Q (I.wish _) hw) (fun _ _ ⟨v,H',I',r,q⟩=>⟨v,H',I'.unwish,r,q⟩) fun _ _ z=>False.elim z
theorem PT.nox{e:Expr}{t:TT}(h:PT X.nox e t):PT X e t:=fun pins s σ H Q I hw=>
 bX (h pins s σ H Q (I.wish _) hw) (fun _ _ ⟨H',I',q⟩=>⟨H',I'.unwish,q⟩) fun _ _ z=>False.elim z
theorem wZ.nox{st:List Stmt}{t:TS}(h:wZ X.nox st t):wZ X st t:=fun pins s σ H D I hw=>
 bX (h pins s σ H D (I.wish _) hw) (fun _ _ q=>q.unwish) fun _ _ z=>False.elim z
end
section
variable{X:Cx}{st:Stmt}{cZ:List Stmt}{t u:TS}{e:Expr}{te:TE}{pos:Pos}
def MP:TS:=fun D σ H=>D.nx σ H
def P3(t u:TS):TS:=fun D σ H=>t { D with nx:=u D } σ H
theorem GA:wZ X [] MP:=fun _ _ σ H _ I h=>jz ⟨σ,H,I,h⟩
theorem C1(h1:PS X st t)(h2:wZ X cZ u):wZ X (st::cZ) (P3 t u):=by
 intro pins s σ H D I h
 refine wpAny_execs_cons (gq (h1 pins s σ H { D with nx:=u D } I h) fun f s1 q=>?_)
 cases f with
 |next=>
  obtain⟨σ',H',I',q⟩:=q
  exact h2 pins s1 σ' H' D I' q
 |ret v=>exact q
 |brk=>exact q
 |cont=>exact q
theorem GB(h1:PS X st t):wZ X [st] t:=by
 intro pins s σ H D I h
 refine wpAny_execs_cons (gq (h1 pins s σ H D I h) fun f s1 q=>?_)
 cases f with
 |next=>exact jz q
 |ret v=>exact q
 |brk=>exact q
 |cont=>exact q
theorem bi.quiet{pins:List (Addr×Obj)}{σ:St}{H:Hp}{s:Shared}(I:bi X pins σ H s):interactive X.env=false:=by simp[interactive,I.ok.kind]
def MQ(te:TE):TS:=fun D σ H=>te σ H fun _ H1=>D.nx σ H1
theorem GC(he:PE X e te)(hs:swapsWith e none pos.line X.env=pure false:=by rfl):PS X (.Expr e pos) (MQ te):=by
 intro pins s σ H D I h
 exact wpAny_Expr_any (gq (he pins s σ H _ I h) fun v s1 ⟨x,H1,I1,r1,q1⟩=>⟨σ,H1,I1,q1⟩) I.quiet hs
def P4(te:TE):TS:=fun D σ H=>te σ H D.rt
theorem J1(he:PE X e te):PS X (.Return (some e) pos) (P4 te):=by
 intro pins s σ H D I h
 exact wpAny_Return_some (gq (he pins s σ H _ I h) fun v s1 ⟨x,H1,I1,r1,q1⟩=>⟨x,σ,H1,I1,r1,q1⟩)
def P5(c:TT)(t u:TS):TS:=fun D σ H=>c σ H fun b H1=>if b=true then t D σ H1 else u D σ H1
theorem MR{c:Expr}{a b:List Stmt}{tc:TT}(hc:PT X c tc)(ha:wZ X a t)(hb:wZ X b u):PS X (.If c a b pos) (P5 tc t u):=by
 intro pins s σ H D I h
 refine wpAny_If (gq (hc pins s σ H _ I h) fun d s1 ⟨H1,I1,q1⟩=>?_)
 cases d with
 |true=>exact ha pins s1 σ H1 D I1 q1
 |false=>exact hb pins s1 σ H1 D I1 q1
end
abbrev TG:=V->St->Hp->(St->Hp->Prop)->Prop
abbrev GD:=List V->St->Hp->(St->Hp->Prop)->Prop
def PG(X:Cx)(Ma:Expr)(t:TG):Prop:=
 ∀(pins:List (Addr×Obj)) (s:Shared) (σ:St) (H:Hp) (v:V) (u:Value) (Q:St->Hp->Prop),bi X pins σ H s->bN v u->t v σ H Q ->
  wpAny (model X.prog X.w) X.A (assign Ma X.env u) (fun _ s'=>∃σ' H',bi X pins σ' H' s'/\Q σ' H') X.xe s
def Iv(X:Cx)(ts:List Expr)(t:GD):Prop:=
 ∀(pins:List (Addr×Obj)) (s:Shared) (σ:St) (H:Hp) (vs:List V) (us:List Value) (Q:St->Hp->Prop),bi X pins σ H s->b9 vs us->t vs σ H Q ->
  wpAny (model X.prog X.w) X.A (assignInOrder ((assignEach ts X.env).map (·.2)) us) (fun _ s'=>∃σ' H',bi X pins σ' H' s'/\Q σ' H') X.xe s
abbrev GE:=V->V->V->Hp->(Hp->Prop)->Prop
def yP(X:Cx)(t:GE):Prop:=
 ∀(pins:List (Addr×Obj)) (s:Shared) (σ:St) (H:Hp) (o i v:V) (ov iv u:Value) (Q:Hp->Prop),bi X pins σ H s->bN o ov->bN i iv->bN v u->t o i v H Q ->
  wpAny (model X.prog X.w) X.A (setItem ov iv u) (fun _ s'=>∃H',bi X pins σ H' s'/\Q H') X.xe s
section
variable{X:Cx}{pos:Pos}
def Iw(i:Nat):TG:=fun v σ H Q=>Q (σ.set i (some v)) H
theorem GF{i:Nat}{x:Str}(hN:X.N.Nodup)(hi:X.N[i]?=some x)(hx:Gv X.env.scope x)(hf:X.fn x=true\/X.env.scope.names.lookup x=some .local:=by first|exact .inl rfl|exact .inr rfl|assumption):PG X (.Name x pos) (Iw i):=by
 intro pins s σ H v u Q I r h
 exact wpAny_assign_Name (wY I hN hi hx r (fun s' I'=>⟨_,H,I',h⟩) hf)
def P6:GD:=fun vs σ H Q=>vs=[]/\Q σ H
def MS(t:TG)(u:GD):GD:=fun vs σ H Q=>∃v r,vs=v::r/\t v σ H fun σ' H'=>u r σ' H' Q
theorem GG:Iv X [] P6:=by
 intro pins s σ H vs us Q I r h
 obtain⟨e,h⟩:=h
 subst e
 cases r
 exact assignInOrder_nil ⟨σ,H,I,h⟩
theorem C2{e:Expr}{es:List Expr}{t:TG}{u:GD}(h1:PG X e t)(h2:Iv X es u)
  (hs:(assignEach (e::es) X.env).map (·.2)=assign e X.env::(assignEach es X.env).map (·.2):=by rfl):Iv X (e::es) (MS t u):=by
 intro pins s σ H vs us Q I r h
 obtain⟨v,vr,e1,h⟩:=h
 subst e1
 cases r with
 |cons r rr=>
  rw[hs]
  refine assignInOrder_cons (gq (h1 pins s σ H _ _ _ I r h) fun _ s1 ⟨σ1,H1,I1,q1⟩=>?_)
  exact h2 pins s1 σ1 H1 _ _ Q I1 rr q1
def P7(K:Frag)(n:Nat)(t:GD):TG:=fun v σ H Q=>∃a xs,v=.ref a/\fF K H a xs/\xs.length=n/\t xs σ H Q
theorem J2{es:List Expr}{k:Nat}{t:GD}{n:Nat}(hc:X.calm=true)(h:Iv X es t)
  (hn:(assignEach es X.env).length=n:=by rfl) (rK:(assignEach es X.env).findIdx? (·.1)=none:=by rfl):PG X (.Tuple es k pos) (P7 X.K n t):=by
 intro pins s σ H v u Q I r hw
 obtain⟨a,xs,e1,hq,hl,hw⟩:=hw
 subst e1
 cases r
 obtain⟨bj,rv,ht,hz⟩:=I.tuple hq
 refine assign_Tuple_tuple (I.ok.hd hc) ht (by simp[hn,<- hl,rv.length]) rK fun h' hx=>?_
 have I1:bi X pins σ H { s with heap:=h' }:=I.kept (t':=s.toks) fun b o e=>hx b o (a8 (aF e)) e
 exact h pins _ σ H xs _ Q I1 (by simpa using rv) hw
def P8(to ti:TE)(t:GE):TG:=fun v σ H Q=>to σ H fun o H1=>ti σ H1 fun i H2=>t o i v H2 fun H3=>Q σ H3
theorem J3{o i:Expr}{to ti:TE}{t:GE}(ho:PE X o to)(hi:PE X i ti)(hs:yP X t)
  (ha:∀v,assign (.Subscript o i pos) X.env v=(do
   let ov <- holding [v] (eval o X.env)
   let iv <- holding [v,ov] (eval i X.env)
   standAt pos
   holding [v,ov,iv] (setItem ov iv v)
   release [v,ov,iv] []):=by intro _;rfl):PG X (.Subscript o i pos) (P8 to ti t):=by
 intro pins s σ H v u Q I r h
 rw[ha]
 refine ah (cF (gq (ho pins s σ H _ I h) fun ov s1 ⟨x,H1,I1,r1,q1⟩=>?_))
 refine ah (cF (gq (hi pins s1 σ H1 _ I1 q1) fun iv s2 ⟨y,H2,I2,r2,q2⟩=>?_))
 refine ah (je (ah (cF (gq (hs pins s2 σ H2 x y v ov iv u _ I2 r1 r2 r q2) fun _ s3 ⟨H3,I3,q3⟩=>?_))))
 exact wpAny_release ⟨σ,H3,I3,q3⟩
def C3(te:TE)(g:TG):TS:=fun D σ H=>te σ H fun x H1=>g x σ H1 D.nx
theorem C4{tg e:Expr}{te:TE}{g:TG}(he:PE X e te)(hg:PG X tg g)(hs:swapsWithSole [tg] e pos.line X.env=pure false:=by rfl)(hw:swappedStores [tg] e X.env=pure none:=by rfl)
  (h1:(assignEach [tg] X.env).map (·.2)=[assign tg X.env]:=by rfl):PS X (.Assign [tg] e pos) (C3 te g):=by
 intro pins s σ H D I h
 refine wpAny_Assign_stores (gq (he pins s σ H _ I h) fun v s1 ⟨x,H1,I1,r1,q1⟩=>?_) hs hw
 rw[h1]
 exact gq (hg pins s1 σ H1 x v _ I1 r1 q1) fun _ s2 q=>q
theorem J4{i:Nat}{x:Str}{e:Expr}{te:TE}{iD:Pos}(hN:X.N.Nodup)(hi:X.N[i]?=some x)(hx:Gv X.env.scope x)(he:PE X e te)(hs:swapsWith e (some (.Name x iD)) pos.line X.env=pure false:=by rfl)(hf:X.fn x=true\/X.env.scope.names.lookup x=some .local:=by first|exact .inl rfl|exact .inr rfl|assumption) :
  PS X (.Assign [.Name x iD] e pos) (C3 te (Iw i)):=by
 intro pins s σ H D I h
 refine wpAny_Assign_Name (gq (he pins s σ H _ I h) fun v s1 ⟨y,H1,I1,r1,q1⟩=>?_) hs
 exact wY I1 hN hi hx r1 (fun s2 I2=>⟨_,H1,I2,q1⟩) hf
end
section
variable{X:Cx}{pos:Pos}
def C5(c:TT)(tb:TS):TS:=fun D σ H=>∃W:Nat->St->Hp->Prop,(∃m,W m σ H)/\∀m σ H,W m σ H ->
 c σ H fun b H1=>if b=true then ∃N:St->Hp->Prop,(∀σ' H',N σ' H'->∃m',m'<m/\W m' σ' H')/\tb { D with nx:=N,ct:=N,bk:=D.nx } σ H1 else D.nx σ H1
theorem C6{c:Expr}{body:List Stmt}{tc:TT}{tb:TS}(hp:PassesOwn (model X.prog X.w) X.A X.env X.xe)(hc:PT X c tc)(hb:wZ X body tb):PS X (.While c body [] pos) (C5 tc tb):=by
 intro pins s σ H D I h
 obtain⟨W,⟨m0,w0⟩,turn⟩:=h
 refine wpAny_While (codeAny_whileLoop (fun n s'=>∃σ' H',bi X pins σ' H' s'/\W n σ' H') ?_ m0 ⟨σ,H,I,w0⟩)
 rintro n s1 ⟨σ1,H1,I1,w1⟩
 refine fM hp (gq (hc pins s1 σ1 H1 _ I1 (turn n σ1 H1 w1)) fun b s2 ⟨H2,I2,q2⟩=>?_)
 cases b with
 |true=>
  obtain⟨N,hN,q2⟩:=q2
  rw[ax rfl]
  refine fM hp (gq (hb pins s2 σ1 H2 _ I2 q2) fun f s3 q3=>?_)
  cases f with
  |next=>
   obtain⟨σ3,H3,I3,n3⟩:=q3
   obtain⟨m',hm,w3⟩:=hN σ3 H3 n3
   exact⟨m',hm,σ3,H3,I3,w3⟩
  |cont=>
   obtain⟨σ3,H3,I3,n3⟩:=q3
   obtain⟨m',hm,w3⟩:=hN σ3 H3 n3
   exact⟨m',hm,σ3,H3,I3,w3⟩
  |brk=>exact q3
  |ret v=>exact q3
 |false=>
  rw[aD bK]
  exact jz ⟨σ1,H2,I2,q2⟩
end
structure It where
 go:Nat->Hp->Prop
 yld:Nat->Hp->V->Hp->Prop
 stop:Nat->Hp->Prop
def n9(X:Cx)(pins:List (Addr×Obj))(H:Hp)(b:Addr):Prop:=
 H b=none/\b≠X.env.locals/\b∉X.fs/\(b∈X.ex\/X.s₀.heap.objs.size<=b)/\(∀x c,X.env.cells.lookup x=some c->c≠b)/\∀p∈X.pn++pins,p.1≠b
theorem bi.fpOk{X:Cx}{pins:List (Addr×Obj)}{σ:St}{H H':Hp}{s:Shared}{b:Addr}(I:bi X pins σ H s)(hb:s.heap.objs.size<=b)(hn:H' b=none):n9 X pins H' b:=by
 refine⟨hn,ml (a6 I.lt hb),I.nofs hb,.inr (aV I.sz hb),fun x c e z=>?_,fun p hp z=>?_⟩
 ·obtain⟨v,q⟩:=I.cell x c e
  exact absurd (a6 q.lt (by rw[z];exact hb)) (bx _)
 ·exact absurd (a6 (aF (I.pin p hp).1) (by rw[z];exact hb)) (bx _)
structure yQ(P:Program)(w:World)(K:Frag)(tg:Expr)(J:It)(fp:List Addr)(it:Addr)(tn:Nat->Heap->Prop):Prop where
 mem:it∈fp
 obj:∀i h,tn i h->∀b∈fp,∃o,h.get? b=some o/\∀v,o.data≠.cell v
 keep:∀i h h',tn i h->(∀b∈fp,∀o,h.get? b=some o->h'.get? b=some o)->tn i h'
 item:∀(X:Cx),X.prog=P->X.w=w->X.K=K->X.calm=true->∀(i:Nat) (pins:List (Addr×Obj)) (s:Shared) (σ:St) (H:Hp) (E:Value->Shared->Prop),bi X pins σ H s->(∀b∈fp,n9 X pins H b)->tn i s.heap->J.go i H ->
  wpAny (model P w) X.A (pyNext (.ref it)) (fun r s1=>∃u,r=some u /\
   wpAny (model P w) X.A (letOwnedTupleGo tg (.ref it) u) (fun _ s2=>∃x H',bi X pins σ H' s2/\bN x u/\J.yld i H x H'/\tn (i+1) s2.heap/\∀b∈fp,H' b=none) E s1) E s
 done:∀(X:Cx),X.prog=P->X.w=w->X.K=K->X.calm=true->∀(i:Nat) (pins:List (Addr×Obj)) (s:Shared) (σ:St) (H:Hp) (E:Value->Shared->Prop),bi X pins σ H s->(∀b∈fp,n9 X pins H b)->tn i s.heap->J.stop i H ->
  wpAny (model P w) X.A (pyNext (.ref it)) (fun r s1=>r=none/\bi X pins σ H s1) E s
 self:∀(A:Around) (i:Nat) (s:Shared) (Q:Value->Shared->Prop) (E:Value->Shared->Prop),tn i s.heap->Q (.ref it) s->wpAny (model P w) A (pyIter (.ref it)) Q E s
abbrev TI:=St->Hp->(It->Hp->Prop)->Prop
def P9(X:Cx)(pins:List (Addr×Obj))(σ:St)(tg:Expr)(R:It->Hp->Prop)(PL:Value)(s2:Shared):Prop:=
 ∃(it:Addr) (fp:List Addr) (tn:Nat->Heap->Prop) (J:It) (H':Hp),PL=.ref it/\bi X pins σ H' s2/\yQ X.prog X.w X.K tg J fp it tn/\tn 0 s2.heap/\(∀b∈fp,n9 X pins H' b)/\R J H'
def PI(X:Cx)(tg iter:Expr)(wi:TI):Prop:=
 ∀(pins:List (Addr×Obj)) (s:Shared) (σ:St) (H:Hp) (R:It->Hp->Prop),bi X pins σ H s->wi σ H R ->
  wpAny (model X.prog X.w) X.A (eval iter X.env) (fun v s1=>wpAny (model X.prog X.w) X.A (pyIter v) (P9 X pins σ tg R) X.xe s1) X.xe s
theorem An    {M : Model} {A : Around} {E : Value -> Shared -> Prop} {s : Shared} {tg : Expr} {it : Addr} {u : Value} {o : Obj} {n : String} {vs : Array Value} {Q : Unit -> Shared -> Prop} (ho : s.heap.get? it = some o) (hc : o.cls = .type n) (hd : o.data = .fields vs)
    (hn : ["enumerate", "zip", "dict_itemiterator", "dict_reverseitemiterator", "odict_iterator", "itertools.zip_longest", "itertools.pairwise"].contains n = false) (hQ : Q () s) : wpAny M A (letOwnedTupleGo tg (.ref it) u) Q E s := by
  unfold letOwnedTupleGo
  cases tg <;> first
    | exact av         hQ
    | (cases u <;> first
        | exact av         hQ
        | (refine ah         (wpAny_load ho ?_)
           rw [hc, hd]
           show wpAny M A (if (["enumerate", "zip", "dict_itemiterator", "dict_reverseitemiterator", "odict_iterator", "itertools.zip_longest", "itertools.pairwise"].contains n && vs[0]? == some (rawInt _)) = true then _ else _) Q E s
           rw [aD     (by intro h; rw [hn, Bool.false_and] at h; cases h)]
           exact av         hQ))
def Q8(K:Frag)(a:Addr):It:=
 ⟨fun i H=>∃xs x,nL K H a xs/\xs[i]?=some x,fun i H x H'=>H'=H/\∀xs,nL K H a xs->xs[i]?=some x,fun i H=>∃xs,nL K H a xs/\xs.length<=i⟩
def Q9(K:Frag)(a:Addr):It:=
 ⟨fun i H=>∃xs x,fF K H a xs/\xs[i]?=some x,fun i H x H'=>H'=H/\∀xs,fF K H a xs->xs[i]?=some x,fun i H=>∃xs,fF K H a xs/\xs.length<=i⟩
def MT(lo:Int)(n:Nat):It:=⟨fun i _=>i<n,fun i H x H'=>H'=H/\x=.int (lo+i),fun i _=>n<=i⟩
theorem By{P:Program}{w:World}{K:Frag}{tg:Expr}(a it:Addr):yQ P w K tg (Q8 K a) [it] it (fun i h=>h.IsListIter it a i) where
 mem:=by simp
 obj:=fun i h st b hb=>by
  have e:b=it:=by simpa using hb
  subst e
  obtain⟨o,e,c,d⟩:=st
  exact⟨o,e,fun v z=>by rw[d]at z;cases z⟩
 keep:=fun i h h' st k=>st.at fun o e=>k it (by simp) o e
 item:=by
  intro X hP hw hK hc i pins s σ H E I hf st hg
  subst hP hw hK
  obtain⟨xs,x,hq,hx⟩:=hg
  obtain⟨bj,rv,p,hz⟩:=I.list hq
  obtain⟨u,hu,ru⟩:=rv.get hx
  obtain⟨f0,f1,f2,f3,f4,f5⟩:=hf it (by simp)
  refine wpAny_pyNext_list_item st p.isList (x:=u) (by simpa using hu) fun h' bG sb=>?_
  have I1:bi X pins σ H { s with heap:=h' }:=I.turned (t':=s.toks) (fun b o hb e=>(sb.2 b hb).trans e) f0 f1 f3 f4 f5
  obtain⟨o,e,c,d⟩:=id bG
  exact⟨u,rfl,An (s:={ s with heap:=h' }) e c d (by decide) ⟨x,H,I1,ru,⟨rfl,fun ys hy=>by rw[I.list_inj hy hq];exact hx⟩,bG,fun b hb=>(hf b hb).1⟩⟩
 done:=by
  intro X hP hw hK hc i pins s σ H E I hf st hg
  subst hP hw hK
  obtain⟨xs,hq,hx⟩:=hg
  obtain⟨bj,rv,p,hz⟩:=I.list hq
  obtain⟨f0,f1,f2,f3,f4,f5⟩:=hf it (by simp)
  have hl:=rv.length
  exact wpAny_pyNext_list_end (I.ok.hd hc) st p.isList (by simp;omega) fun h' eb=>⟨rfl,I.turned (t':=s.toks) (fun b o hb e=>eb b o hb e) f0 f1 f3 f4 f5⟩
 self:=fun _ _ _ _ _ st h=>wpAny_pyIter_listiter st h
theorem yR{P:Program}{w:World}{K:Frag}{tg:Expr}(a it:Addr):yQ P w K tg (Q9 K a) [it] it (fun i h=>h.IsTupleIter it a i) where
 mem:=by simp
 obj:=fun i h st b hb=>by
  have e:b=it:=by simpa using hb
  subst e
  obtain⟨o,e,c,d⟩:=st
  exact⟨o,e,fun v z=>by rw[d]at z;cases z⟩
 keep:=fun i h h' st k=>st.at fun o e=>k it (by simp) o e
 item:=by
  intro X hP hw hK hc i pins s σ H E I hf st hg
  subst hP hw hK
  obtain⟨xs,x,hq,hx⟩:=hg
  obtain⟨bj,rv,p,hz⟩:=I.tuple hq
  obtain⟨u,hu,ru⟩:=rv.get hx
  obtain⟨f0,f1,f2,f3,f4,f5⟩:=hf it (by simp)
  refine wpAny_pyNext_tuple_item st (show s.heap.IsTuple a bj.toArray from p) (x:=u) (by simpa using hu) fun h' bG sb=>?_
  have I1:bi X pins σ H { s with heap:=h' }:=I.turned (t':=s.toks) (fun b o hb e=>(sb.2 b hb).trans e) f0 f1 f3 f4 f5
  obtain⟨o,e,c,d⟩:=id bG
  exact⟨u,rfl,An (s:={ s with heap:=h' }) e c d (by decide) ⟨x,H,I1,ru,⟨rfl,fun ys hy=>by rw[I.tuple_inj hy hq];exact hx⟩,bG,fun b hb=>(hf b hb).1⟩⟩
 done:=by
  intro X hP hw hK hc i pins s σ H E I hf st hg
  subst hP hw hK
  obtain⟨xs,hq,hx⟩:=hg
  obtain⟨bj,rv,p,hz⟩:=I.tuple hq
  obtain⟨f0,f1,f2,f3,f4,f5⟩:=hf it (by simp)
  have hl:=rv.length
  exact wpAny_pyNext_tuple_end (I.ok.hd hc) st (show s.heap.IsTuple a bj.toArray from p) (by simp;omega) fun h' eb=>⟨rfl,I.turned (t':=s.toks) (fun b o hb e=>eb b o hb e) f0 f1 f3 f4 f5⟩
 self:=fun _ _ _ _ _ st h=>wpAny_pyIter_tupleiter st h
theorem yS{P:Program}{w:World}{K:Frag}{tg:Expr}(it:Addr)(lo:Int)(n:Nat):yQ P w K tg (MT lo n) [it] it (fun i h=>IsRangeIter h it (lo+(i:Nat)*1) ((n:Int)-(i:Nat)) 1) where
 mem:=by simp
 obj:=fun i h st b hb=>by
  have e:b=it:=by simpa using hb
  subst e
  exact⟨_,st,fun v z=>by
   have z':Data.fields _=Data.cell v:=z
   cases z'⟩
 keep:=fun i h h' st k=>k it (by simp) _ st
 item:=by
  intro X hP hw hK hc i pins s σ H E I hf st hg
  subst hP hw hK
  obtain⟨f0,f1,f2,f3,f4,f5⟩:=hf it (by simp)
  have W:=Walks.range (prog:=X.prog) (w:=X.w) (I.ok.hd hc) it lo 1 n
  refine W.item i s _ _ hg st fun v h' tk hv bG kk=>?_
  obtain⟨t,rfl⟩:=hv
  have I1:bi X pins σ H { s with heap:=h',toks:=tk }:=I.turned (fun b o hb e=>kk b o (by simpa using hb) e) f0 f1 f3 f4 f5
  refine⟨_,rfl,An (s:={ s with heap:=h',toks:=tk }) (n:="range_iterator") bG rfl rfl (by decide) ⟨.int (lo+i),H,I1,⟨t,?_⟩,⟨rfl,rfl⟩,bG,fun b hb=>(hf b hb).1⟩⟩
  rw[Int.mul_one]
 done:=by
  intro X hP hw hK hc i pins s σ H E I hf st hg
  subst hP hw hK
  obtain⟨f0,f1,f2,f3,f4,f5⟩:=hf it (by simp)
  exact wpAny_pyNext_range_end (I.ok.hd hc) st (by have:n<=i:=hg;omega) fun h' eb=>⟨rfl,I.turned (t':=s.toks) (fun b o hb e=>eb b o hb e) f0 f1 f3 f4 f5⟩
 self:=fun _ _ _ _ _ st h=>mn st h
section
variable{X:Cx}{tg:Expr}
def MU(K:Frag)(tl:TE):TI:=fun σ H R=>tl σ H fun x H1=>∃a,x=.ref a/\(∃xs,nL K H1 a xs)/\R (Q8 K a) H1
def P_(K:Frag)(tl:TE):TI:=fun σ H R=>tl σ H fun x H1=>∃a,x=.ref a/\(∃xs,fF K H1 a xs)/\R (Q9 K a) H1
theorem GH{l:Expr}{tl:TE}(hl:PE X l tl):PI X tg l (MU X.K tl):=by
 intro pins s σ H R I h
 refine gq (hl pins s σ H _ I h) fun v s1 ⟨x,H1,I1,r1,q1⟩=>?_
 obtain⟨a,e,⟨xs,hq⟩,q⟩:=q1
 subst e
 cases r1
 obtain⟨bj,rv,p,hz⟩:=I1.list hq
 refine kK p.isList ?_
 refine⟨s1.heap.objs.size,[s1.heap.objs.size],_,_,H1,rfl,I1.kept (t':=s1.toks) fun b o e=>aq _ e,By a _,⟨_,aL _ rfl,rfl,rfl⟩,fun b hb=>?_,q⟩
 have e:b=s1.heap.objs.size:=by simpa using hb
 subst e
 exact I1.fpOk (aB _) (I1.hok.fresh (aB _))
theorem J5{l:Expr}{tl:TE}(hl:PE X l tl):PI X tg l (P_ X.K tl):=by
 intro pins s σ H R I h
 refine gq (hl pins s σ H _ I h) fun v s1 ⟨x,H1,I1,r1,q1⟩=>?_
 obtain⟨a,e,⟨xs,hq⟩,q⟩:=q1
 subst e
 cases r1
 obtain⟨bj,rv,p,hz⟩:=I1.tuple hq
 refine j9 (show s1.heap.IsTuple a bj.toArray from p) ?_
 refine⟨s1.heap.objs.size,[s1.heap.objs.size],_,_,H1,rfl,I1.kept (t':=s1.toks) fun b o e=>aq _ e,yR a _,⟨_,aL _ rfl,rfl,rfl⟩,fun b hb=>?_,q⟩
 have e:b=s1.heap.objs.size:=by simpa using hb
 subst e
 exact I1.fpOk (aB _) (I1.hok.fresh (aB _))
theorem w9{pins:List (Addr×Obj)}{σ:St}{H:Hp}{s:Shared}{R:It->Hp->Prop}{E:Value->Shared->Prop}{lo hi:Int}{t u v:Tok}{tk:Nat}(I:bi X pins σ H s)(h1:-(2^62)<=lo)(h2:lo<2^62)(h3:-(2^62)<=hi)(h4:hi<2^62)
  (q:R (MT lo (hi-lo).toNat) H):wpAny (model X.prog X.w) X.A (pyIter (.ref s.heap.objs.size)) (P9 X pins σ tg R) E { s with heap:=s.heap.push { cls:=.type "range",data:=.fields #[.int lo t,.int hi u,.int 1 v] },toks:=tk }:=by
 refine wpAny_pyIter_range (IsRange.new ..) (small_one h1 h2 h3 h4) ?_
 have I1:bi X pins σ H { s with heap:=s.heap.push { cls:=.type "range",data:=.fields #[.int lo t,.int hi u,.int 1 v] },toks:=tk }:=I.kept fun b o e=>aq _ e
 refine⟨(s.heap.push { cls:=.type "range",data:=.fields #[.int lo t,.int hi u,.int 1 v] }).objs.size,[(s.heap.push { cls:=.type "range",data:=.fields #[.int lo t,.int hi u,.int 1 v] }).objs.size],_,_,H,rfl,
  I1.kept (t':=tk) fun b o e=>aq _ e,yS _ lo (hi-lo).toNat,?_,fun b hb=>?_,q⟩
 ·have e1:lo+((0:Nat):Int)*1=lo:=by simp
  have e2:(((hi-lo).toNat:Nat):Int)-((0:Nat):Int)=Builtin.Range.rangeSize lo hi 1:=by rw[rangeSize_one];split<;>omega
  show IsRangeIter _ _ (lo+((0:Nat):Int)*1) ((((hi-lo).toNat:Nat):Int)-((0:Nat):Int)) 1
  rw[e1,e2]
  exact aL _ rfl
 ·have e:b=(s.heap.push { cls:=.type "range",data:=.fields #[.int lo t,.int hi u,.int 1 v] }).objs.size:=by simpa using hb
  subst e
  exact I1.fpOk (aB _) (I1.hok.fresh (aB _))
def MV(ta:TA):TI:=fun σ H R=>ta σ H fun vs H1=>∃j:Int,vs=[.int j]/\-(2^62)<=j/\j<2^62/\R (MT 0 j.toNat) H1
def MW(ta:TA):TI:=fun σ H R=>ta σ H fun vs H1=>∃i j:Int,vs=[.int i,.int j]/\(-(2^62)<=i/\i<2^62/\-(2^62)<=j/\j<2^62)/\R (MT i (j-i).toNat) H1
theorem Bz{a:Expr}{ta:TA}{p pos:Pos}(hg:Gl X "range")(hm:X.mg "range"=none)(ha:PA X [a] ta)(hs:starEach [a] X.env=[(false,eval a X.env)]:=by rfl):PI X tg (.Call (.Name "range" p) [a] [] pos) (MV ta):=by
 intro pins s σ H R I h
 refine Call_ (lQ I hg hm boot_range (cK (gq (ha pos pins s σ H _ I h) fun us s1 ⟨vs,H1,I1,r1,q1⟩=>?_) hs rfl))
 obtain⟨j,e,q1,q2,q⟩:=q1
 subst e
 cases r1 with
 |cons r rr=>
  cases rr
  obtain⟨t,rfl⟩:=r
  exact call_range_1 (w9 I1 (by omega) (by omega) q1 q2 (by simpa using q))
theorem BA{a b:Expr}{ta:TA}{p pos:Pos}(hg:Gl X "range")(hm:X.mg "range"=none)(ha:PA X [a,b] ta)(hs:starEach [a,b] X.env=[(false,eval a X.env),(false,eval b X.env)]:=by rfl)(wR:starEach [b] X.env=[(false,eval b X.env)]:=by rfl) :
  PI X tg (.Call (.Name "range" p) [a,b] [] pos) (MW ta):=by
 intro pins s σ H R I h
 refine Call_ (lQ I hg hm boot_range (cK (gq (ha pos pins s σ H _ I h) fun us s1 ⟨vs,H1,I1,r1,q1⟩=>?_) (by rw[hs,wR]) (by rw[wR];rfl)))
 obtain⟨i,j,e,⟨q1,q2,q3,q4⟩,q⟩:=q1
 subst e
 cases r1 with
 |cons r rr=>
  cases rr with
  |cons r' rr=>
   cases rr
   obtain⟨t,rfl⟩:=r
   obtain⟨t',rfl⟩:=r'
   exact call_range_2 (w9 I1 q1 q2 q3 q4 q)
def P'(wi:TI)(g:TG)(tb:TS):TS:=fun D σ H=>wi σ H fun J H1=>∃W:Nat->Nat->St->Hp->Prop,(∃m,W 0 m σ H1)/\∀i m σ H,W i m σ H ->
 (J.stop i H/\D.nx σ H)\/(J.go i H/\∃N:St->Hp->Prop,(∀σ' H',N σ' H'->∃m',m'<m/\W (i+1) m' σ' H')/\∀x H',J.yld i H x H'->g x σ H' fun σ2 H2=>tb { D with nx:=N,ct:=N,bk:=D.nx } σ2 H2)
def vn(fp:List Addr)(h:Heap):List (Addr×Obj):=fp.filterMap fun b=>(h.get? b).map fun o=>(b,o)
theorem fX{fp:List Addr}{h:Heap}{b:Addr}{o:Obj}(hb:b∈fp)(e:h.get? b=some o):(b,o)∈vn fp h:=List.mem_filterMap.mpr ⟨b,hb,by rw[e];rfl⟩
theorem BB{fp:List Addr}{h:Heap}{p:Addr×Obj}(hp:p∈vn fp h):p.1∈fp/\h.get? p.1=some p.2:=by
 obtain⟨b,hb,e⟩:=List.mem_filterMap.mp hp
 cases q:h.get? b with
 |none=>rw[q]at e;cases e
 |some o=>
  rw[q]at e
  have e':(b,o)=p:=a9 e
  subst e'
  exact⟨hb,q⟩
theorem bi.pinned{pins:List (Addr×Obj)}{σ:St}{H:Hp}{s:Shared}{fp:List Addr}(I:bi X pins σ H s)(hf:∀b∈fp,n9 X pins H b)(ho:∀b∈fp,∃o,s.heap.get? b=some o/\∀v,o.data≠.cell v):bi X (pins++vn fp s.heap) σ H s:=
 I.pins_of fun p hp=>(aQ.mp hp).elim (fun z=>I.pin p (aK _ z)) fun z=>by
  obtain⟨hb,e⟩:=BB z
  obtain⟨f0,f1,f2,_⟩:=hf p.1 hb
  obtain⟨o,e',d⟩:=ho p.1 hb
  rw[e]at e';cases e'
  exact⟨e,f0,f1,f2,d⟩
theorem bi.unpinned{pins pl:List (Addr×Obj)}{σ:St}{H:Hp}{s:Shared}(I:bi X (pins++pl) σ H s):bi X pins σ H s:=I.pins_of fun p hp=>I.pin p (aK _ (fU _ hp))
theorem J6{iter:Expr}{body:List Stmt}{wi:TI}{g:TG}{tb:TS}{pos:Pos}(hp:PassesOwn (model X.prog X.w) X.A X.env X.xe)(hc:X.calm=true)(hi:PI X tg iter wi)(hg:PG X tg g)(hb:wZ X body tb)
  (hs:∀x,foldedSetIterable iter X.env x=pure x:=by intro _;rfl):PS X (.For tg iter body [] pos) (P' wi g tb):=by
 intro pins s σ H D I h
 refine wpAny_For (gq (hi pins s σ H _ I h) fun v s1 h1=>gq h1 fun PL s2 h2=>?_) hs
 obtain⟨it,fp,tn,J,H2,e,I2,T,cQ,f2,W,⟨m0,w0⟩,turn⟩:=h2
 subst e
 have stat:∀{H':Hp},(∀b∈fp,H' b=none)->∀b∈fp,n9 X pins H' b:=fun hn b hb=>⟨hn b hb,(f2 b hb).2⟩
 refine codeAny_forLoop_any (fun n s'=>∃i σ' H',bi X pins σ' H' s'/\tn i s'.heap/\(∀b∈fp,H' b=none)/\W i n σ' H') ?_ m0 ⟨0,σ,H2,I2,cQ,fun b hb=>(f2 b hb).1,w0⟩
 rintro n s3 ⟨i,σ3,H3,I3,jH,fr3,w3⟩
 rcases turn i n σ3 H3 w3 with⟨stop,qn⟩|⟨go,N,hN,step⟩
 ·refine fM hp (gq (T.done X rfl rfl rfl hc i pins s3 σ3 H3 X.xe I3 (stat fr3) jH stop) fun r s4 ⟨hr,I4⟩=>?_)
  subst hr
  exact jz ⟨σ3,H3,I4,qn⟩
 ·refine fM hp (gq (T.item X rfl rfl rfl hc i pins s3 σ3 H3 X.xe I3 (stat fr3) jH go) fun r s4 ⟨u,hr,h4⟩=>?_)
  subst hr
  refine fM hp (gq h4 fun _ s5 ⟨x,H5,I5,r5,y5,st5,fr5⟩=>?_)
  have I5':=I5.pinned (stat fr5) (T.obj _ _ st5)
  refine fM hp (gq (hg _ s5 σ3 H5 x u _ I5' r5 (step x H5 y5)) fun _ s6 ⟨σ6,H6,I6,q6⟩=>?_)
  refine fM hp (gq (hb _ s6 σ6 H6 _ I6 q6) fun f s7 q7=>?_)
  have again:∀{σ7:St} {H7:Hp},bi X (pins++vn fp s5.heap) σ7 H7 s7->N σ7 H7->∃m,m<n/\∃i σ' H',bi X pins σ' H' s7/\tn i s7.heap/\(∀b∈fp,H' b=none)/\W i m σ' H':=fun{σ7 H7} I7 n7=>by
   obtain⟨m',hm,w7⟩:=hN σ7 H7 n7
   refine⟨m',hm,i+1,σ7,H7,I7.unpinned,T.keep _ _ _ st5 fun b hb o e=>(I7.pin (b,o) (aK _ (aK _ (fX hb e)))).1,fun b hb=>?_,w7⟩
   obtain⟨o,e,d⟩:=T.obj _ _ st5 b hb
   exact(I7.pin (b,o) (aK _ (aK _ (fX hb e)))).2.1
  cases f with
  |next=>obtain⟨σ7,H7,I7,n7⟩:=q7;exact again I7 n7
  |cont=>obtain⟨σ7,H7,I7,n7⟩:=q7;exact again I7 n7
  |brk=>obtain⟨σ7,H7,I7,q7⟩:=q7;exact⟨σ7,H7,I7.unpinned,q7⟩
  |ret v=>obtain⟨x7,σ7,H7,I7,r7,q7⟩:=q7;exact⟨x7,σ7,H7,I7.unpinned,r7,q7⟩
end
abbrev R2:=V->V->Hp->VK->Prop
def mJ(X:Cx)(f:Value->Value->Sem Value)(r:R2):Prop:=
 ∀(pins:List (Addr×Obj)) (s:Shared) (σ:St) (H:Hp) (x y:V) (v u:Value) (Q:VK),bi X pins σ H s->bN x v->bN y u->r x y H Q ->
  wpAny (model X.prog X.w) X.A (f v u) (EP X pins σ Q) X.xe s
def Qa(X:Cx)(f:Value->Sem Value)(r:V->Hp->VK->Prop):Prop:=
 ∀(pins:List (Addr×Obj)) (s:Shared) (σ:St) (H:Hp) (x:V) (v:Value) (Q:VK),bi X pins σ H s->bN x v->r x H Q ->
  wpAny (model X.prog X.w) X.A (f v) (EP X pins σ Q) X.xe s
def gU(X:Cx)(f:Value)(r:List V->Hp->VK->Prop):Prop:=
 ∀(pins:List (Addr×Obj)) (s:Shared) (σ:St) (H:Hp) (xs:List V) (us:List Value) (Q:VK),bi X pins σ H s->b9 xs us->r xs H Q ->
  wpAny (model X.prog X.w) X.A (call f us) (EP X pins σ Q) X.xe s
def MX(r:R2)(ta tb:TE):TE:=fun σ H Q=>ta σ H fun x H1=>tb σ H1 fun y H2=>r x y H2 Q
def Rw(r:V->Hp->VK->Prop)(ta:TE):TE:=fun σ H Q=>ta σ H fun x H1=>r x H1 Q
def rI(C:Int->Int->Prop)(g:Int->Int->V):R2:=fun x y H Q=>∃i j,x=.int i/\y=.int j/\C i j/\Q (g i j) H
def GI(g:Int->Int->V):R2:=fun x y H Q=>∃i j,x=.int i/\y=.int j/\Q (g i j) H
def rU(g:Int->V):V->Hp->VK->Prop:=fun x H Q=>∃i,x=.int i/\Q (g i) H
section
variable{X:Cx}{a b c:Expr}{ta tb tc:TE}{pos:Pos}
theorem J7(ha:PE X a ta)(hb:PE X b tb){pins:List (Addr×Obj)}{s:Shared}{σ:St}{H:Hp}{R:V->V->Hp->Prop}(I:bi X pins σ H s)
  (h:ta σ H fun x H1=>tb σ H1 fun y H2=>R x y H2) {Q:Value->Shared->Prop} {f:Value->Value->Sem Value}
  (hf:∀v u s2 x y H2,bi X pins σ H2 s2->bN x v->bN y u->R x y H2->wpAny (model X.prog X.w) X.A (f v u) Q X.xe s2) :
  wpAny (model X.prog X.w) X.A (eval a X.env) (fun v s₁=>wpAny (model X.prog X.w) X.A (eval b X.env) (fun u s₂=>wpAny (model X.prog X.w) X.A (f v u) Q X.xe s₂) X.xe s₁) X.xe s:=by
 refine gq (ha pins s σ H _ I h) fun v s1 ⟨x,H1,I1,r1,q1⟩=>?_
 refine gq (hb pins s1 σ H1 _ I1 q1) fun u s2 ⟨y,H2,I2,r2,q2⟩=>?_
 exact hf v u s2 x y H2 I2 r1 r2 q2
theorem MY{op:Operator}{r:R2}(ho:mJ X (binaryOp op) r)(ha:PE X a ta)(hb:PE X b tb):PE X (.BinOp a op b pos) (MX r ta tb):=by
 intro pins s σ H Q I h
 exact wpAny_BinOp (J7 ha hb I h fun v u s2 x y H2 I2 rx ry q=>ho pins s2 σ H2 x y v u Q I2 rx ry q)
theorem MZ{op:UnaryOp}{r:V->Hp->VK->Prop}(ho:Qa X (unaryOp op) r)(ha:PE X a ta):PE X (.UnaryOp op a pos) (Rw r ta):=by
 intro pins s σ H Q I h
 exact UnaryOp_ (gq (ha pins s σ H _ I h) fun v s1 ⟨x,H1,I1,r1,q1⟩=>ho pins s1 σ H1 x v Q I1 r1 q1)
theorem M4{f:Value->Value->Sem Value}{C:Int->Int->Prop}{g:Int->Int->Int}
  (rule:∀(i j:Int) (t u:Tok) (s:Shared) (Q:Value->Shared->Prop) (E:Value->Shared->Prop),C i j->Q (.int (g i j) s.toks) { s with toks:=s.toks+1 }->wpAny (model X.prog X.w) X.A (f (.int i t) (.int j u)) Q E s) :
  mJ X f (rI C fun i j=>.int (g i j)):=by
 intro pins s σ H x y v u Q I rx ry h
 obtain⟨i,j,rfl,rfl,hc,q⟩:=h
 obtain⟨t,rfl⟩:=rx
 obtain⟨t',rfl⟩:=ry
 exact rule i j t t' s _ _ hc ⟨.int (g i j),H,I.tok _,⟨_,rfl⟩,q⟩
theorem M5{f:Value->Value->Sem Value}{g:Int->Int->Int}
  (rule:∀(i j:Int) (t u:Tok) (s:Shared) (Q:Value->Shared->Prop) (E:Value->Shared->Prop),Q (.int (g i j) s.toks) { s with toks:=s.toks+1 }->wpAny (model X.prog X.w) X.A (f (.int i t) (.int j u)) Q E s) :
  mJ X f (GI fun i j=>.int (g i j)):=by
 intro pins s σ H x y v u Q I rx ry h
 obtain⟨i,j,rfl,rfl,q⟩:=h
 obtain⟨t,rfl⟩:=rx
 obtain⟨t',rfl⟩:=ry
 exact rule i j t t' s _ _ ⟨.int (g i j),H,I.tok _,⟨_,rfl⟩,q⟩
theorem J8{f:Value->Value->Sem Value}{g:Int->Int->Bool}
  (rule:∀(i j:Int) (t u:Tok) (s:Shared) (Q:Value->Shared->Prop) (E:Value->Shared->Prop),Q (.bool (g i j)) s->wpAny (model X.prog X.w) X.A (f (.int i t) (.int j u)) Q E s) :
  mJ X f (GI fun i j=>.bl (g i j)):=by
 intro pins s σ H x y v u Q I rx ry h
 obtain⟨i,j,rfl,rfl,q⟩:=h
 obtain⟨t,rfl⟩:=rx
 obtain⟨t',rfl⟩:=ry
 exact rule i j t t' s _ _ ⟨.bl (g i j),H,I,rfl,q⟩
def Qb(i j:Int):Prop:=0<j/\j<1073741824
def J9(i j:Int):Prop:=0<=j/\j<=1000000/\i.natAbs<2^64
def J_(i j:Int):Prop:=(-(2^64)<i/\i<2^64)\/(-(2^64)<j/\j<2^64)
theorem J_.ok{i j:Int}(h:J_ i j):IntMulOk i j:=by
 rcases h with⟨h1,h2⟩|⟨h1,h2⟩
 ·exact .of_left (intBits_le_64 h1 h2)
 ·exact .of_right (intBits_le_64 h1 h2)
theorem J':mJ X (binaryOp .Add) (GI fun i j=>.int (i+j)):=M5 fun _ _ _ _ _ _ _ q=>add_int q
theorem Ka:mJ X (binaryOp .Sub) (GI fun i j=>.int (i-j)):=M5 fun _ _ _ _ _ _ _ q=>sub_int q
theorem Kb:mJ X (binaryOp .Mult) (rI J_ fun i j=>.int (i*j)):=M4 fun _ _ _ _ _ _ _ hc q=>mul_int q hc.ok
theorem GJ:mJ X (binaryOp .FloorDiv) (rI Qb fun i j=>.int (i/j)):=M4 fun i j _ _ _ _ _ hc q=>by
 have h1:(0:Int)<j:=hc.1
 have h2:j<1073741824:=hc.2
 exact floordiv_int (by omega) (by rw[Int.fdiv_eq_ediv_of_nonneg i (by omega)];exact q) (.inl (mq (by omega)))
theorem Kc:mJ X (binaryOp .Mod) (rI (fun _ j=>0<j) fun i j=>.int (i%j)):=M4 fun i j _ _ _ _ _ hc q=>by
 have h1:(0:Int)<j:=hc
 exact mod_int' (by omega) (by rw[Int.fmod_eq_emod_of_nonneg i (by omega)];exact q)
theorem Kd:mJ X (binaryOp .Pow) (rI J9 fun i j=>.int (i^j.toNat)):=M4 fun _ _ _ _ _ _ _ hc q=>pow_int_small hc.1 hc.2.1 hc.2.2 q
theorem C7:mJ X (binaryOp .LShift) (rI J9 fun i j=>.int (i*2^j.toNat)):=M4 fun _ _ _ _ _ _ _ hc q=>lshift_int_small hc.1 hc.2.1 hc.2.2 q
theorem Rx{f:Value->Sem Value}{g:Int->Int}
  (rule:∀(i:Int) (t:Tok) (s:Shared) (Q:Value->Shared->Prop) (E:Value->Shared->Prop),Q (.int (g i) s.toks) { s with toks:=s.toks+1 }->wpAny (model X.prog X.w) X.A (f (.int i t)) Q E s) :
  Qa X f (rU fun i=>.int (g i)):=by
 intro pins s σ H x v Q I rx h
 obtain⟨i,rfl,q⟩:=h
 obtain⟨t,rfl⟩:=rx
 exact rule i t s _ _ ⟨.int (g i),H,I.tok _,⟨_,rfl⟩,q⟩
theorem Ke:Qa X (unaryOp .USub) (rU fun i=>.int (-i)):=Rx fun _ _ _ _ _ q=>neg_int q
end
section
variable{X:Cx}{a b c:Expr}{ta tb tc:TE}{pos:Pos}
theorem Kf{pins:List (Addr×Obj)}{σ:St}{H:Hp}{s:Shared}{Q:VK}{k k':Bool}(I:bi X pins σ H s)(q:Q (.bl k) H)(e:k=k'):EP X pins σ Q (.bool k') s:=by
 subst e
 exact⟨.bl k,H,I,rfl,q⟩
theorem M6:mJ X (compareOp .Lt) (GI fun i j=>.bl (decide (i<j))):=J8 fun _ _ _ _ _ _ _ q=>lt_int q
theorem M7:mJ X (compareOp .Gt) (GI fun i j=>.bl (decide (j<i))):=J8 fun _ _ _ _ _ _ _ q=>gt_int q
theorem M8:mJ X (compareOp .GtE) (GI fun i j=>.bl (decide (j<=i))):=J8 fun _ _ _ _ _ _ _ q=>ge_int q
theorem vo:mJ X (compareOp .NotIn) (fun x y H Q=>∃i j,x=.str i/\y=.str j/\Q (.bl (!(!(Builtin.Str.occurrences j i 0 j.length 1).isEmpty))) H):=by
 intro pins s σ H x y v u Q I rx ry h
 obtain⟨i,j,rfl,rfl,q⟩:=h
 obtain⟨t,rfl⟩:=rx
 obtain⟨t',rfl⟩:=ry
 exact notIn_str (Kf I q rfl)
theorem mJ.or{f:Value->Value->Sem Value}{r r':R2}(h:mJ X f r)(h':mJ X f r'):mJ X f (fun x y H Q=>r x y H Q\/r' x y H Q):=by
 intro pins s σ H x y v u Q I rx ry q
 rcases q with q|q
 ·exact h pins s σ H x y v u Q I rx ry q
 ·exact h' pins s σ H x y v u Q I rx ry q
theorem C8(b:Expr){op:CmpOp}(h:op≠.In:=by decide)(h2:op≠.NotIn:=by decide):behindInMarks op b=false:=by
 have e1:(op==CmpOp.In)=false:=by cases op<;>first|rfl|exact absurd rfl h
 have e2:(op==CmpOp.NotIn)=false:=by cases op<;>first|rfl|exact absurd rfl h2
 cases b<;>simp[behindInMarks,e1,e2]
theorem GK{op:CmpOp}{r:R2}(ho:mJ X (compareOp op) r)(ha:PE X a ta)(hb:PE X b tb)(hm:behindInMarks op b=false):PE X (.Compare a [op] [b] pos) (MX r ta tb):=by
 intro pins s σ H Q I h
 exact wpAny_Compare1 (J7 ha hb I h fun v u s2 x y H2 I2 rx ry q=>ho pins s2 σ H2 x y v u Q I2 rx ry q) hm
def M9(t:TE):TT:=fun σ H Q=>t σ H fun x H'=>∃k,x=.bl k/\Q k H'
theorem GL{op:CmpOp}{r:R2}(ho:mJ X (compareOp op) r)(ha:PE X a ta)(hb:PE X b tb)(hm:behindInMarks op b=false):PT X (.Compare a [op] [b] pos) (M9 (MX r ta tb)):=by
 intro pins s σ H Q I h
 refine m6 (gq (ha pins s σ H _ I h) fun v s1 ⟨x,H1,I1,r1,q1⟩=>gq (hb pins s1 σ H1 _ I1 q1) fun u s2 ⟨y,H2,I2,r2,q2⟩=>
  gq (ho pins s2 σ H2 x y v u _ I2 r1 r2 q2) fun c s3 ⟨z,H3,I3,r3,k,e,q3⟩=>?_) hm
 subst e
 cases r3
 exact eQ ⟨H3,I3,q3⟩
theorem qa:(sizeLine:Nat)<2^63:=by rw[kL];decide
theorem yT:mJ X (binaryOp .Add) (fun x y H Q=>∃i j,x=.str i/\y=.str j/\i.length+j.length<=sizeLine/\Q (.str (i++j)) H):=by
 intro pins s σ H x y v u Q I rx ry h
 obtain⟨i,j,rfl,rfl,hz,q⟩:=h
 obtain⟨t,rfl⟩:=rx
 obtain⟨t',rfl⟩:=ry
 exact add_str (fun t' tk=>⟨.str (i++j),H,I.tok _,⟨_,rfl⟩,q⟩) hz
theorem lq{x:V}{us:List Value}(r:b9 [x] us):∃u,us=[u]/\bN x u:=by
 cases r with
 |cons r1 r2=>cases r2;exact⟨_,rfl,r1⟩
theorem Iy{x y:V}{us:List Value}(r:b9 [x,y] us):∃u w',us=[u,w']/\bN x u/\bN y w':=by
 cases r with
 |cons r1 r2=>
  cases r2 with
  |cons r3 r4=>cases r4;exact⟨_,_,rfl,r1,r3⟩
theorem BC(hc:X.calm=true):gU X (.builtin "max") (fun xs H Q=>∃i j,xs=[.int i,.int j]/\Q (.int (if j>i then j else i)) H):=by
 intro pins s σ H xs us Q I r h
 obtain⟨i,j,rfl,q⟩:=h
 obtain⟨u,w',rfl,⟨t,rfl⟩,⟨t',rfl⟩⟩:=Iy r
 refine max_two_ints (I.ok.hd hc) fun h' tk k=>⟨_,H,I.kept k,?_,q⟩
 by_cases hj:j>i
 ·rw[ax hj,ax hj];exact⟨_,rfl⟩
 ·rw[aD hj,aD hj];exact⟨_,rfl⟩
theorem BD(hc:X.calm=true):gU X (.builtin "min") (fun xs H Q=>∃i j,xs=[.int i,.int j]/\Q (.int (if j<i then j else i)) H):=by
 intro pins s σ H xs us Q I r h
 obtain⟨i,j,rfl,q⟩:=h
 obtain⟨u,w',rfl,⟨t,rfl⟩,⟨t',rfl⟩⟩:=Iy r
 refine min_two_ints (I.ok.hd hc) fun h' tk k=>⟨_,H,I.kept k,?_,q⟩
 by_cases hj:j<i
 ·rw[ax hj,ax hj];exact⟨_,rfl⟩
 ·rw[aD hj,aD hj];exact⟨_,rfl⟩
end
structure Kg(h:Heap)(x dx C:Addr)(mA:Str->Option Value):Prop where
 obj:h.get? x=some (instObj C dx)
 ns:h.Ns1 dx mA
 ne:dx≠x
theorem BE{h:Heap}{dx:Addr}{mA:Str->Option Value}(n:h.Ns1 dx mA):∃od,h.get? dx=some od/\∀name,PySem.W.lookIn name od=some (mA name):=by
 obtain⟨o,es,ep,ho,hd,hk,_,hm⟩:=n
 refine⟨o,ho,fun name=>?_⟩
 have e:=hm name
 unfold nsFind findBy at e
 rw[<- Array.find?_toList]at e
 unfold PySem.W.lookIn
 rw[hd]
 dsimp only
 split
 ·rename_i y q
  rw[q]at e
  exact fB some e
 ·rename_i q
  rw[q]at e
  have a:es.toList.any (·.refKey)=false:=by
   rw[gR]
   intro y hy
   obtain⟨z,t,q_⟩:=hk y (Array.mem_toList_iff.mp hy)
   simp[DictEntry.refKey,q_]
  have a':¬ es.toList.any (·.refKey)=true:=by rw[a];exact bK
  rw[aD a']
  exact fB some e
theorem Kg.look{h:Heap}{x dx C:Addr}{mA:Str->Option Value}(I:Kg h x dx C mA):∃od,PySem.W.InstAt h x (instObj C dx) C (some od)/\∀name,PySem.W.lookIn name od=some (mA name):=
 let ⟨od,ho,hl⟩:=BE I.ns
 ⟨od,⟨I.obj,rfl,rfl,ho⟩,hl⟩
section
variable{prog:Program}{w:World}{A:Around}{E:Value->Shared->Prop}{s:Shared}{K:Frag}{x dx C f:Addr}{mA:Str->Option Value}{name:Str}{v:Value}
end
theorem oJ.some_of{v:V}{o:Option Value}(r:oJ (some v) o):∃u,o=some u/\bN v u:=by
 cases o with
 |none=>exact(show False from r).elim
 |some u=>exact⟨u,rfl,r⟩
section
variable{P:Program}{w:World}{H H':Hp}{h h':Heap}{a C dx:Addr}{fs Q2:List (Str×V)}
theorem GM(hok:n6 P w H h)(e:H a=some (.ins C dx fs)):∃mA,Kg h a dx C mA/\(∀f,oJ (fs.lookup f) (mA f))/\PySem.Within mA (fs.map (·.1))/\fs.length<=1000/\H dx=some (.own a):=by
 obtain⟨d,z,ne,ob,mA,n,r,q⟩:=(show eZ P w H h a (.ins C dx fs)from hok a _ e)
 exact⟨mA,⟨ob,n,ne⟩,r,q,z,d⟩
end
structure Qc(K:Frag)(C:Addr):Prop where
 pg:PySem.W.plainGet K C Str.empty=true
 hd:PySem.W.hasDictIn K C=true
 po:PySem.W.plainOver K C=true
 sa:PySem.W.findIn K (.ref C) "__setattr__"=some (some (.builtin "object.__setattr__"))
theorem Qc.get{K:Frag}{C:Addr}(c:Qc K C)(f:Str):PySem.W.plainGet K C f=true:=c.pg
section
variable{X:Cx}{pins:List (Addr×Obj)}{σ:St}{H:Hp}{s:Shared}{a C dx:Addr}{fs:List (Str×V)}{f:Str}{v:V}{A:Around}{E:Value->Shared->Prop}
theorem bi.made(I:bi X pins σ H s):bi X pins σ (fx (fx H s.heap.objs.size (.own (s.heap.objs.size+1))) (s.heap.objs.size+1) (.ins C s.heap.objs.size []))
  { s with heap:=(s.heap.push emptyDict).push (instObj C s.heap.objs.size) }:=by
 have e1:(s.heap.push emptyDict).get? s.heap.objs.size=some emptyDict:=aL s.heap rfl
 have e2:((s.heap.push emptyDict).push (instObj C s.heap.objs.size)).get? (s.heap.objs.size+1)=some (instObj C s.heap.objs.size):=by
  have:=aL (s.heap.push emptyDict) (o:=instObj C s.heap.objs.size) rfl
  rwa[fC]at this
 have e3:(s.heap.push emptyDict).Ns s.heap.objs.size (fun _=>none):=⟨emptyDict,#[],_,e1,rfl,(fun e he=>absurd he (by simp)),fun _=>rfl⟩
 have I1:=I.laid (a:=s.heap.objs.size) (o:=.own (s.heap.objs.size+1)) (h':=s.heap.push emptyDict) (t':=s.toks) (fun b u q=>aq _ q) (aB _) ⟨_,e1⟩
 refine I1.laid (a:=s.heap.objs.size+1) (o:=.ins C s.heap.objs.size []) (t':=s.toks) (fun b u q=>aq _ q) (Nat.le_of_eq (fC _ _)) ?_
 have ne:s.heap.objs.size≠s.heap.objs.size+1:=a8 (gm _)
 refine⟨by rw[bV ne,eD],df _,ne,e2,fun _=>none,(Heap.Ns1.of_empty e3).at fun o q=>aq _ q,fun _=>True.intro,fun y hy=>absurd rfl hy⟩
end
section
variable{X:Cx}{o e value:Expr}{f:Str}{pos iD Q7:Pos}{ta tv:TE}
end
section
variable{X:Cx}{pins:List (Addr×Obj)}{σ:St}{H:Hp}{s:Shared}{A:Around}{E:Value->Shared->Prop}{Q:Value->Shared->Prop}{c:Value}{b:Bool}
inductive qT(K:Frag)(H:Hp):V->Value->Prop where
 |non:qT K H .non (.type "NoneType")
 |bl (x:Bool):qT K H (.bl x) (.type "bool")
 |int (i:Int):qT K H (.int i) (.type "int")
 |str (x:Str):qT K H (.str x) (.type "str")
 |flt (x:UInt64):qT K H (.flt x) (.type "float")
 |lst {a:Addr} {xs:List V} (e:H a=some (.lst xs)):qT K H (.ref a) (.type "list")
 |frz {a:Addr} {o:Obj} {xs:List V} (e:H a=some (.frz o (.lst xs))):qT K H (.ref a) (.type "list")
 |tup {a:Addr} {xs:List V} (e:H a=some (.tup xs)):qT K H (.ref a) (.type "tuple")
 |dK {a:Addr} {kvs:List (gc×V)} (e:H a=some (.dK kvs)):qT K H (.ref a) (.type "dict")
 |dT {a:Addr} {kvs:List (List gc×V)} (e:H a=some (.dT kvs)):qT K H (.ref a) (.type "dict")
 |ins {a C dx:Addr} {fs:List (Str×V)} (e:H a=some (.ins C dx fs)) (cl:Qc K C) (ha:PySem.W.findIn K (.ref C) "__class__"=some (some (.builtin "object.__class__")))
   (hn:PySem.W.specialIn K (.builtin "object.__class__") "__get__"=some (some (.builtin "getset_descriptor.__get__"))) (CU:PySem.W.takesIn K (.builtin "object.__class__")=some true)
   (hm:PySem.W.mroIn K C (.type "object")=some true):qT K H (.ref a) (.ref C)
theorem nM{x:V}{u t:Value}(I:bi X pins σ H s)(rx:bN x u)(ty:qT X.K H x t)(e:PySem.W.kitOne X.K t c=some b)(h:∀tk,Q (.bool b) { s with toks:=tk }) :
  wpAny (model X.prog X.w) A (call (.builtin "isinstance") [u,c]) Q E s:=by
 cases ty with
 |non=>cases(show u=Value.none from rx);exact kia_one PySem.W.kitx_none I.kIn True.intro e (fun z=>nomatch z) h
 |bl y=>cases(show u=Value.bool y from rx);exact kia_one PySem.W.kitx_bool I.kIn True.intro e (fun z=>nomatch z) h
 |int i=>obtain⟨t,q⟩:=(show ∃t,u=Value.int i t from rx);cases q;exact kia_one PySem.W.kitx_int I.kIn True.intro e (fun z=>nomatch z) h
 |str y=>obtain⟨t,q⟩:=(show ∃t,u=Value.str y t from rx);cases q;exact kia_one PySem.W.kitx_str I.kIn True.intro e (fun z=>nomatch z) h
 |flt y=>obtain⟨t,q⟩:=(show ∃t,u=Value.float y t from rx);cases q;exact kia_one PySem.W.kitx_float I.kIn True.intro e (fun z=>nomatch z) h
 |@lst a xs ea=>
  cases(show u=Value.ref a from rx)
  obtain⟨_,_,n,_,h1⟩:=(show eZ X.prog X.w H s.heap a (.lst xs)from I.hok a _ ea)
  exact kia_one PySem.W.kitx_list I.kIn ⟨_,h1,rfl⟩ e (fun z=>nomatch z) h
 |@frz a ob xs ea=>
  cases(show u=Value.ref a from rx)
  obtain⟨_,_,_,n,_,h1⟩:=(show eZ X.prog X.w H s.heap a (.frz ob (.lst xs))from I.hok a _ ea)
  exact kia_one PySem.W.kitx_list I.kIn ⟨_,h1,rfl⟩ e (fun z=>nomatch z) h
 |@tup a xs ea=>
  cases(show u=Value.ref a from rx)
  obtain⟨_,_,_,p⟩:=(show eZ X.prog X.w H s.heap a (.tup xs)from I.hok a _ ea)
  obtain⟨o,h1,h2,_⟩:=p
  exact kia_one PySem.W.kitx_tuple I.kIn ⟨o,h1,h2⟩ e (fun z=>nomatch z) h
 |@dK a kvs ea=>
  cases(show u=Value.ref a from rx)
  obtain⟨_,_,vs,_,p⟩:=(show eZ X.prog X.w H s.heap a (.dK kvs)from I.hok a _ ea)
  obtain⟨o,es,ep,h1,h2,_⟩:=p
  exact kia_one PySem.W.kitx_dict I.kIn ⟨o,h1,h2.1⟩ e (fun z=>nomatch z) h
 |@dT a kvs ea=>
  cases(show u=Value.ref a from rx)
  obtain⟨_,_,xs,_,o,es,ep,h1,h2,_⟩:=(show eZ X.prog X.w H s.heap a (.dT kvs)from I.hok a _ ea)
  exact kia_one PySem.W.kitx_dict I.kIn ⟨o,h1,h2.1⟩ e (fun z=>nomatch z) h
 |@ins a C dx fs ea cl ha hn CU hm=>
  cases(show u=Value.ref a from rx)
  obtain⟨mA,O,_⟩:=GM I.hok ea
  obtain⟨od,J,_⟩:=O.look
  exact kia_one (PySem.W.kitx_own (cl.get _) cl.hd ha hn CU hm) I.kIn J e (fun z=>nomatch z) h
end
structure gD(k:Nat)(A:Around):Prop where
 hd:A.handled=none
 dp:A.depth+2*k+5<recursionLimit
 un:A.units+16*k+200<cLine
theorem gD.mono{j k:Nat}{A:Around}(r:gD k A)(h:j<=k):gD j A:=⟨r.hd,by have:=r.dp;omega,by have:=r.un;omega⟩
theorem gD.deeper{k:Nat}{A:Around}(r:gD (k+1) A)(env:Env):gD k (A.deeper env):=
 ⟨r.hd,by have:=r.dp;show A.depth+1+2*k+5<_;omega,by have:=r.un;show A.units+3+16*k+200<_;omega⟩
theorem gD.in1{k:Nat}{A:Around}(r:gD (k+1) A):gD k A.in1:=
 ⟨r.hd,by have:=r.dp;show A.depth+2*k+5<_;omega,by have:=r.un;show A.units+1+16*k+200<_;omega⟩
theorem gD.depth{k:Nat}{A:Around}(r:gD k A):A.depth<recursionLimit:=by have:=r.dp;omega
theorem gD.units{k:Nat}{A:Around}(r:gD k A):A.units+64<cLine:=by have:=r.un;omega
def Qd:TA:=fun _ H Q=>Q [] H
def M_(ta:TE)(tr:TA):TA:=fun σ H Q=>ta σ H fun x H1=>tr σ H1 fun xs H2=>Q (x::xs) H2
section
variable{X:Cx}{e:Expr}{es:List Expr}{te:TE}{t:TA}{pos:Pos}
theorem yU:PA X [] Qd:=fun _ _ _ _ H Q I h=>iF ⟨[],H,I,.nil,h⟩
theorem rf(ha:PE X e te)(hr:PA X es t)(hs:starEach (e::es) X.env=(false,eval e X.env)::starEach es X.env:=by rfl):PA X (e::es) (M_ te t):=by
 intro pos pins s σ H Q I h
 rw[hs]
 show wpAny _ _ (spliced ((false,eval e X.env)::backTo pos (starEach es X.env))) _ _ s
 refine fD (gq (ha pins s σ H _ I h) fun u s1 ⟨x,H1,I1,r1,q1⟩=>?_)
 exact gq (hr pos pins s1 σ H1 _ I1 q1) fun us s2 ⟨xs,H2,I2,r2,q2⟩=>⟨x::xs,H2,I2,.cons r1 r2,q2⟩
end
abbrev Sp:=List V->Hp->VK->XK->Prop
abbrev Ao:=List Env->Hp->Shared->XK->Value->Shared->Prop
structure w_(P:Program)(w:World)(K:Frag)(mg:Str->Option Value)(base:Heap)(A:Around)(outer:List Env)(s:Shared)(H:Hp):Prop where
 frames:A.frames=some outer
 mod:Mod K mg base
 bs:∀b o,base.get? b=some o->s.heap.get? b=some o/\H b=none
 bsz:base.objs.size<=s.heap.objs.size
 funs:s.heap.FunFrames base outer
 frf:∀b∈mI outer,H b=none
 hok:n6 P w H s.heap
 bare:AllBare s.gens
def CE(outer:List Env)(P:Program)(w:World)(H:Hp)(s:Shared)(Q:VK)(u:Value)(s':Shared):Prop:=
 ∃v H',s'.os=s.os/\AllBare s'.gens/\Un (mI outer) [] H H' s.heap s'.heap/\n6 P w H' s'.heap/\bN v u/\Q v H'
def CR(CX:Ao)(outer:List Env)(P:Program)(w:World)(H:Hp)(s:Shared)(Q:VK)(E:XK)(r:Result)(s':Shared):Prop:=
 match r with
 |.ok (.ret u)=>CE outer P w H s Q u s'
 |.ok _=>False
 |.error e=>CX outer H s E e s'
structure eV(P:Program)(w:World)(K:Frag)(mg:Str->Option Value)(base:Heap)(CX:Ao)(k:Nat)(f:Addr)(fd:FuncData)(ps:List Str)(sp:Sp):Prop where
 len:∀vs H Q E,sp vs H Q E->vs.length=ps.length
 run:∀(A:Around) (outer:List Env) (s:Shared) (H:Hp) (args:Args) (us:List Value) (vs:List V) (Q:VK) (E:XK),gD k A->w_ P w K mg base A outer s H->BindsTo s fd args (ps.zip us)->b9 vs us->sp vs H Q E ->
  codeAny (model P w) A (.call (.ref f) args) (CR CX outer P w H s Q E) s
theorem eV.mono{P:Program}{w:World}{K:Frag}{mg:Str->Option Value}{base:Heap}{CX:Ao}{j k:Nat}{f:Addr}{fd:FuncData}{ps:List Str}{sp:Sp}(F:eV P w K mg base CX j f fd ps sp)(h:j<=k) :
  eV P w K mg base CX k f fd ps sp:=⟨F.len,fun A outer s H args us vs Q E hr=>F.run A outer s H args us vs Q E (hr.mono h)⟩
theorem eV.imp{P:Program}{w:World}{K:Frag}{mg:Str->Option Value}{base:Heap}{CX:Ao}{k:Nat}{f:Addr}{fd:FuncData}{ps:List Str}{sp Rs:Sp}(F:eV P w K mg base CX k f fd ps sp)
  (h:∀vs H Q E,Rs vs H Q E->sp vs H Q E):eV P w K mg base CX k f fd ps Rs:=
 ⟨fun vs H Q E q=>F.len vs H Q E (h _ _ _ _ q),fun A outer s H args us vs Q E hr he hb hv hs=>F.run A outer s H args us vs Q E hr he hb hv (h _ _ _ _ hs)⟩
theorem w_.in1{P:Program}{w:World}{K:Frag}{mg:Str->Option Value}{base:Heap}{A:Around}{outer:List Env}{s:Shared}{H:Hp}(e:w_ P w K mg base A outer s H) :
  w_ P w K mg base A.in1 outer s H:=⟨e.frames,e.mod,e.bs,e.bsz,e.funs,e.frf,e.hok,e.bare⟩
section
variable{X:Cx}{pins:List (Addr×Obj)}{σ:St}{H:Hp}{s s':Shared}
theorem bi.env0(I:bi X pins σ H s):w_ X.prog X.w X.K X.mg X.base X.A X.stack s H:=
 ⟨I.ok.frames,I.ok.mod,I.bs,aV I.ok.bsz I.sz,I.stack,I.stkFree,I.hok,I.bare⟩
theorem bi.after{Q:VK}{u:Value}(I:bi X pins σ H s)(h:CE X.stack X.prog X.w H s Q u s'):EP X pins σ Q u s':=by
 obtain⟨v,H',os,bare,un,hok,r,q⟩:=h
 obtain⟨hh,g,d,t,os'⟩:=s'
 obtain rfl:os'=s.os:=os
 exact⟨v,H',I.call (h':=hh) (g':=g) (d':=d) (t':=t) (ch:=[]) un hok bare (fun b z=>absurd z (by simp)),r,q⟩
end
def rL(K:Frag)(fd:FuncData)(ps:List Str)(ds:List Value):Prop:=
 ∀(s:Shared) (us:List Value),K.In s.heap->(us++ds).length=ps.length->BindsTo s fd ⟨us,[]⟩ (ps.zip (us++ds))
theorem rL.all{K:Frag}{fd:FuncData}{ps:List Str}(h:∀us:List Value,us.length=ps.length->bindArgs fd ⟨us,[]⟩=pure (ps.zip us)):rL K fd ps []:=fun s us _ hl=>by
 rw[dy]at hl ⊢
 exact .of_eq (h us hl)
section
variable{X:Cx}{CX:Ao}{k:Nat}{f C:Addr}{fd:FuncData}{ps:List Str}{sp:Sp}{RX:List V}{ds:List Value}{E:XK}{x m:Str}{p pos fT:Pos}{e o:Expr}{es:List Expr}{ta:TE}{t:TA}
end
def PK(X:Cx)(Rp:List Keyword)(t:TA):Prop:=
 ∀(pos:Pos) (pins:List (Addr×Obj)) (s:Shared) (σ:St) (H:Hp) (Q:List V->Hp->Prop),bi X pins σ H s->t σ H Q->wpAny (model X.prog X.w) X.A (evalAll ((backToKw pos (keywordEach Rp X.env)).map (·.2))) (AP X pins σ Q) X.xe s
section
variable{X:Cx}{CX:Ao}{k:Nat}{f C:Addr}{fd:FuncData}{ps ks:List Str}{sp:Sp}{E:XK}{x m:Str}{p pos fT O2:Pos}{e o:Expr}{es:List Expr}{Rp:List Keyword}{te ta:TE}{t tk:TA}{nm:Option Str}
variable{g:List Value->List Value->List Value}{gV:List V->List V->List V}
end
structure bO(N P:List Str)(sc:Scope):Prop where
 kind:sc.kind=.function
 co:sc.isCoroutine=false
 gen:sc.isGenerator=false
 nd:N.Nodup
 pre:N.take P.length=P
 par:∀x∈P,sc.names.lookup x=some .local\/sc.names.lookup x=some .cell
 nofree:∀y∈sc.names,y.2≠.free
theorem ux{kindOf:Str->Option NameKind}{x:Str}:∀{binds:List (Str×Value)} {m:Str->Option Value},(∀v,(x,v)∉binds)->bindL kindOf binds m x=m x
 |[],_,_=>rfl
 |(n,v)::r,m,h=>by
  unfold bindL
  rw[ux fun w hw=>h w (aT _ hw)]
  split
  ·have:x≠n:=by rintro rfl;exact h v bf
   simp[this]
  ·rfl
theorem uy{kindOf:Str->Option NameKind}{x:Str}:∀{binds:List (Str×Value)} {m:Str->Option Value},(∀v,(x,v)∉binds)->bindC kindOf binds m x=m x
 |[],_,_=>rfl
 |(n,v)::r,m,h=>by
  unfold bindC
  rw[uy fun w hw=>h w (aT _ hw)]
  split
  ·rfl
  ·have:x≠n:=by rintro rfl;exact h v bf
   simp[this]
theorem uz{kindOf:Str->Option NameKind}{x:Str}{v:Value}:∀{P:List Str} {vs:List Value} {i:Nat} {m:Str->Option Value},P.Nodup->P[i]?=some x->vs[i]?=some v->kindOf x=some .local ->
  bindL kindOf (P.zip vs) m x=some v
 |[],_,_,_,_,h,_,_=>by simp at h
 |_::_,[],_,_,_,_,h,_=>by simp at h
 |p::P,w::vs,0,m,nd,h1,h2,hk=>by
  simp at h1 h2;subst h1;subst h2
  show bindL kindOf ((p,w)::P.zip vs) m p=_
  unfold bindL
  rw[ux fun v hv=>(fN.mp nd).1 (mU hv).1,ax hk]
  simp
 |p::P,w::vs,i+1,m,nd,h1,h2,hk=>by
  show bindL kindOf ((p,w)::P.zip vs) m x=_
  unfold bindL
  exact uz (i:=i) (fN.mp nd).2 (by simpa using h1) (by simpa using h2) hk
theorem uA{kindOf:Str->Option NameKind}{x:Str}{v:Value}:∀{P:List Str} {vs:List Value} {i:Nat} {m:Str->Option Value},P.Nodup->P[i]?=some x->vs[i]?=some v->kindOf x≠some .local ->
  bindC kindOf (P.zip vs) m x=some v
 |[],_,_,_,_,h,_,_=>by simp at h
 |_::_,[],_,_,_,_,h,_=>by simp at h
 |p::P,w::vs,0,m,nd,h1,h2,hk=>by
  simp at h1 h2;subst h1;subst h2
  show bindC kindOf ((p,w)::P.zip vs) m p=_
  unfold bindC
  rw[uy fun v hv=>(fN.mp nd).1 (mU hv).1,aD hk]
  simp
 |p::P,w::vs,i+1,m,nd,h1,h2,hk=>by
  show bindC kindOf ((p,w)::P.zip vs) m x=_
  unfold bindC
  exact uA (i:=i) (fN.mp nd).2 (by simpa using h1) (by simpa using h2) hk
def oZ(N:List Str)(vs:List V):St:=vs.map some++List.replicate (N.length-vs.length) none
def xa(CX:Ao)(P:Program)(w:World)(K:Frag)(mg:Str->Option Value)(base:Heap)(N:List Str)(qual:Str)(scope:Scope)(f:Addr)(cd:Value)(A:Around)(outer:List Env)(s:Shared)(H:Hp)(E:XK):Cx where
 prog:=P
 w:=w
 K:=K
 mg:=mg
 base:=base
 A:=A.deeper (envOfC qual scope s.heap.objs.size f cd)
 N:=N
 s₀:=s
 H₀:=H
 env:=envOfC qual scope s.heap.objs.size f cd
 outer:=outer
 stack:=envOfC qual scope s.heap.objs.size f cd::outer
 ex:=[]
 calm:=true
 fn:=fun _=>true
 pn:=[]
 xe:=fun e s'=>wpAny (model P w) (A.deeper (envOfC qual scope s.heap.objs.size f cd)) (leaving (envOfC qual scope s.heap.objs.size f cd) e) (fun _ s''=>CX outer H s E e s'') (fun e' s''=>CX outer H s E e' s'') s'
theorem ni{sc:Scope}{n:Nat}{x:Str}(h:sc.names.lookup x=some .cell):∃c,(cellsFrom n sc.names []).lookup x=some c:=by
 have q:=PySem.W.cellsFrom_some sc.names n [] (.inl h)
 exact fZ.mp q
theorem BF{CX:Ao}{P:Program}{w:World}{K:Frag}{mg:Str->Option Value}{base:Heap}{N ps:List Str}{qual:Str}{scope:Scope}{f:Addr}{cd:Value}{A:Around}{outer:List Env}{s s1:Shared}{H:Hp}{E:XK}{us:List Value}{vs:List V}
  (S:bO N ps scope) (hd:A.handled=none) (e0:w_ P w K mg base A outer s H) (hl:vs.length=ps.length) (r:b9 vs us)
  (x:InCallC s s.heap.objs.size (bindL (envOfC qual scope s.heap.objs.size f cd).kindOf (ps.zip us) fun _=>none) (cellsFrom (s.heap.objs.size+1) scope.names []) (bindC (envOfC qual scope s.heap.objs.size f cd).kindOf (ps.zip us) fun _=>none) s1) :
  bi (xa CX P w K mg base N qual scope f cd A outer s H E) [] (oZ N vs) H s1:=by
 have qR:ps.length<=N.length:=by have:=fB List.length S.pre;rw[bp]at this;omega
 obtain⟨h1,tk,rfl,hk⟩:=x.done
 have noA:∀b:Addr,b∉(xa CX P w K mg base N qual scope f cd A outer s H E).ex:=fun b z=>absurd (show b∈([]:List Addr)from z) (by simp)
 refine⟨⟨e0.mod,S.kind,rfl,rfl,aB _,fun y z c h1 h2=>?_,fun y hy=>?_,fun y c _ h=>?_,fun _=>hd,Around.frames_deeper e0.frames,.inr ⟨rfl,rfl⟩,fun b z=>absurd z (noA b),e0.bs,e0.bsz,fun b _ _=>noA b,fun b z=>absurd z (noA b),e0.funs,e0.frf⟩,
  rfl,e0.bare,Un.kept hk,⟨_,x.toInCall.ns,fun i y v h1 h2 h3=>?_⟩,fun y c h=>⟨_,x.cell y c h⟩,e0.hok.fresh (aB _),fun y c h=>?_,fun p hp=>absurd (show p∈([]:List (Addr×Obj))from hp) (by simp),e0.hok.kept hk,?_⟩
 ·exact name_of_addr x.apart (PySem.mem_of_lookup h1) (PySem.mem_of_lookup h2)
 ·have hy:scope.names.lookup y=some .cell\/scope.names.lookup y=some .free:=hy
  rcases hy with hy|hy
  ·exact ni hy
  ·exact absurd rfl (S.nofree _ (PySem.mem_of_lookup hy))
 ·exact eX (x.above y c (PySem.mem_of_lookup h))
 ·have hi:i<vs.length:=by
   unfold oZ at h2
   by_cases hi:i<vs.length
   ·exact hi
   ·rw[b8 (by simpa using hi)]at h2
    rw[iw]at h2
    split at h2<;>cases h2
  have ha:vs[i]?=some v:=by
   unfold oZ at h2
   rw[az (by simpa using hi),ar]at h2
   cases e:vs[i]? with
   |none=>rw[e]at h2;cases h2
   |some a=>rw[e]at h2;cases h2;rfl
  obtain⟨u,hu,rv⟩:=r.get ha
  have hp:ps[i]?=some y:=by
   rw[<- S.pre,eA (by omega)];exact h1
  have ndP:ps.Nodup:=by rw[<- S.pre];exact S.nd.sublist (kM _ _)
  refine⟨u,rv,?_⟩
  rcases S.par y (aN hp)with k|k
  ·exact .inl ⟨k,uz ndP hp hu k⟩
  ·obtain⟨c,e⟩:=ni (n:=s.heap.objs.size+1) k
   refine .inr ⟨.inl k,c,e,?_⟩
   have q:=x.cell y c e
   rw[uA ndP hp hu (by show scope.names.lookup y≠_;rw[k];decide)]at q
   exact q
 ·exact e0.hok.fresh (eX (x.above y c (PySem.mem_of_lookup h)))
 ·unfold oZ
  show _=N.length
  rw[aH,al,List.length_replicate]
  omega
theorem Iz{CX:Ao}{P:Program}{w:World}{K:Frag}{mg:Str->Option Value}{base:Heap}{k:Nat}{f:Addr}{name qual:Str}{params:Arguments}{body:List Stmt}{scope:Scope}{dV kV re pm gJ ct oc:Value}{an od:Option Addr}
  {Io:Array (Option Value)} {N ps:List Str} {sp:Sp} (lk:K.lookup f=some ⟨oc,od,.func (fnOf name qual params body scope dV kV re pm an gJ ct),Io⟩) (nZ:codeIn K gJ qual=true) (S:bO N ps scope)
  (len:∀vs H Q E,sp vs H Q E->vs.length=ps.length)
  (tM:∀(A:Around) (outer:List Env) (s:Shared) (H:Hp) (vs:List V) (Q:VK) (E:XK),gD k (A.deeper (envOfC qual scope s.heap.objs.size f gJ))->sp vs H Q E ->
   ∃t,wZ (xa CX P w K mg base N qual scope f gJ A outer s H E) body t/\t { nx:=fun _ H'=>Q .non H',rt:=Q } (oZ N vs) H) :
  eV P w K mg base CX (k+1) f (fnOf name qual params body scope dV kV re pm an gJ ct) ps sp:=by
 refine⟨len,fun A outer s H args us vs Q E hr e0 hb r JG=>?_⟩
 have hl:=len _ _ _ _ JG
 have KX:K.In s.heap:=e0.mod.kin.keeps fun b o e=>(e0.bs b o e).1
 have lim:s.heap.NoLimit:=e0.mod.nolimit.keeps fun b o e=>(e0.bs b o e).1
 have h_:∀y∈ps.zip us,scope.names.lookup y.1=some .local\/(scope.names.lookup y.1=some .cell/\((cellsFrom (s.heap.objs.size+1) scope.names []).lookup y.1).isSome=true):=fun⟨n,v⟩ hy=>by
  rcases S.par n (mU hy).1 with q|q
  ·exact .inl q
  ·exact .inr ⟨q,PySem.W.cellsFrom_some _ _ _ (.inl q)⟩
 refine codeAny_call_function hr.depth (KX _ _ lk) rfl S.co S.gen rfl (PySem.W.codeRec_of KX nZ) (hb _ _ _ _ ?_)
 refine wpAny_newFunctionEnv_cells S.kind h_ fun env he s1 x=>?_
 subst he
 refine⟨lim.keeps x.toInCall.keep,codeAny_func ?_⟩
 obtain⟨t,ht,hq⟩:=tM A outer s H vs Q E (hr.deeper _) JG
 have I:bi (xa CX P w K mg base N qual scope f gJ A outer s H E) [] (oZ N vs) H s1:=BF S hr.hd e0 hl r x
 refine bX (ht [] s1 (oZ N vs) H _ I hq) (fun fl s' hs=>?_) fun e s' hs=>hs
 have fin:∀{σ':St} {H':Hp} {v:V} {u:Value},bi (xa CX P w K mg base N qual scope f gJ A outer s H E) [] σ' H' s'->bN v u->Q v H'->CE outer P w H s Q u s':=
  fun{σ' H' v u} J rv q=>⟨v,H',J.os,J.bare,J.base,J.hok,rv,q⟩
 cases fl with
 |ret u=>
  obtain⟨v,σ',H',J,rv,q⟩:=hs
  exact fin J rv q
 |next=>
  obtain⟨σ',H',J,q⟩:=hs
  exact fin (v:=V.non) (u:=Value.none) J rfl q
 |brk=>
  obtain⟨_,_,_,q⟩:=hs
  exact False.elim q
 |cont=>
  obtain⟨_,_,_,q⟩:=hs
  exact False.elim q
section
variable{X:Cx}{x:Str}{p pos:Pos}{e:Expr}{es:List Expr}{t:TA}{id T:String}{r:List V->Hp->VK->Prop}
def Qe(r:List V->Hp->VK->Prop)(t:TA):TE:=fun σ H Q=>t σ H fun vs H1=>r vs H1 Q
theorem xc(hc:gU X (.builtin id) r)(hg:Gl X x)(hm:X.mg x=none)(hv:bootBuiltins x=some (.builtin id))(ha:PA X (e::es) t)(hn:x ≠ "__name__":=by decide)(Gh:(x==("__debug__":Str))=false:=by decide)
  (he:starEach (e::es) X.env=(false,eval e X.env)::starEach es X.env:=by rfl) (qR:(backTo pos (starEach es X.env)).any (·.1)=false:=by rfl):PE X (.Call (.Name x p) (e::es) [] pos) (Qe r t):=by
 intro pins s σ H Q I h
 refine im (lQ I hg hm hv ?_ hn Gh)
 exact PyProof.Rows.callWith_builtin1 (gq (ha pos pins s σ H _ I h) fun us s1 ⟨vs,H1,I1,r1,q1⟩=>hc pins s1 σ H1 vs us Q I1 r1 q1) he qR
theorem BG(hc:gU X (.type T) r)(hg:Gl X x)(hm:X.mg x=none)(hv:bootBuiltins x=some (.type T))(ha:PA X (e::es) t)(hn:x ≠ "__name__":=by decide)(Gh:(x==("__debug__":Str))=false:=by decide)
  (he:starEach (e::es) X.env=(false,eval e X.env)::starEach es X.env:=by rfl) (qR:(backTo pos (starEach es X.env)).any (·.1)=false:=by rfl):PE X (.Call (.Name x p) (e::es) [] pos) (Qe r t):=by
 intro pins s σ H Q I h
 refine im (lQ I hg hm hv ?_ hn Gh)
 exact cK (gq (ha pos pins s σ H _ I h) fun us s1 ⟨vs,H1,I1,r1,q1⟩=>hc pins s1 σ H1 vs us Q I1 r1 q1) he qR
end
end L2
namespace HT
open PySem PyProof.Rows
def lexLt:List Int->List Int->Bool
 |[],[]=>false
 |[],_::_=>true
 |_::_,[]=>false
 |x::xs,y::ys=>if x=y then lexLt xs ys else decide (x<y)
theorem lexLt_cons(x y:Int)(xs ys:List Int):lexLt (x::xs) (y::ys)=if x=y then lexLt xs ys else decide (x<y):=rfl
theorem lexLt_nil_nil:lexLt [] []=false:=rfl
theorem rM(y:Int)(ys:List Int):lexLt [] (y::ys)=true:=rfl
theorem rN(x:Int)(xs:List Int):lexLt (x::xs) []=false:=rfl
theorem C9(A:Around)(s:Shared)(a:Int)(t:Tok)(c:Int)(u:Tok):∃e,SeqAt.EqAt A s (.int a t) (.int c u) e/\(e=true↔a=c):=
 ⟨(a==c),SeqAt.EqAt.int_int a t c u,by simp⟩
theorem C_(A:Around)(s:Shared)(a:Int)(t:Tok)(c:Int)(u:Tok)(prog:Program)(w:World)(E:Value->Shared->Prop)(Q:Value->Shared->Prop)(h:Q (.bool (decide (a<c))) s) :
  wpAny (model prog w) A (richCompare .Lt (.int a t) (.int c u)) Q E s:=
 (PyProof.Rows.lt_int h:wpAny (model prog w) A (compareOp .Lt (.int a t) (.int c u)) Q E s)
section
open PySem.SeqAt
open PySem.AutoSeq1 (wpAny_loadPart')
open PySem.MeetsSeq PySem.MeetsSeq2 PySem.MeetsSeq3
theorem tX(l b:Addr)(items hZ:Array Value)(n n2:Nat)(dd MB:Option Addr)(sl Ir:Array (Option Value))(ns ms:List Int)(hi:IntsAre items.toList ns)(hj:IntsAre hZ.toList ms) :
  Meets (Builtin.«tuple.__lt__» ⟨[.ref l,.ref b],[]⟩)
   (fun _ R s=>s.heap.get? l=some { cls:=.type "tuple",dict:=dd,data:=.seq items n,slots:=sl }/\s.heap.get? b=some { cls:=.type "tuple",dict:=MB,data:=.seq hZ n2,slots:=Ir } /\
    R (.ok (.ret (.bool (lexLt ns ms)))) s):=
 .of_wp fun prog w A R s h=>by
  obtain⟨hp,g,d,tk,os⟩:=s;obtain⟨hl,hb,h⟩:=h
  have f2:=k_
  have z1:items.size=ns.length:=by rw[<- hi.length];simp
  have z2:hZ.size=ms.length:=by rw[<- hj.length];simp
  wp_walk using bq hl,bq hb,g_ _ (fun cZ b s'=>b.1=none/\s'=⟨hp,g,d,tk,os⟩/\∃(vs ws:List Value) (Mh MG:List Int),cZ=vs.zip ws /\
   IntsAre vs Mh/\IntsAre ws MG/\Mh.length+hZ.size=MG.length+items.size/\R (.ok (.ret (.bool (lexLt Mh MG)))) ⟨hp,g,d,tk,os⟩) _
  case turn=>
   rintro⟨y,x⟩ cZ b s' ⟨hb',rfl,vs,ws,Mh,MG,hz,hvi,hwi,dw,hR⟩
   cases hvi with
   |nil=>rw[List.zip_nil_left]at hz;cases hz
   |cons a t hvi'=>
    cases hwi with
    |nil=>rw[List.zip_nil_right]at hz;cases hz
    |cons c u hwi'=>
     rw[List.zip_cons_cons]at hz
     injection hz with hyx tO
     injection hyx with hy hx
     subst hy hx
     rw[lexLt_cons]at hR
     simp only[bu]at dw
     obtain⟨e,he,hiff⟩:=C9 A.in1 ⟨hp,g,d,tk,os⟩ a t c u
     refine ah (he prog w _ _ ?_)
     cases e with
     |true=>
      rw[ax (hiff.mp rfl)]at hR
      wp_walk
      exact⟨rfl,rfl,_,_,_,_,tO,hvi',hwi',by omega,hR⟩
     |false=>
      rw[aD (fun q=>absurd (hiff.mpr q) bK)]at hR
      have hri:=C_ A.in1 ⟨hp,g,d,tk,os⟩ a t c u prog w
      wp_walk using hri
      exact⟨_,rfl,by simpa using hR⟩
  case fin=>
   rintro⟨b1,b2⟩ s' ⟨hb',rfl,vs,ws,Mh,MG,hz,hvi,hwi,dw,hR⟩
   simp only at hb'
   subst hb'
   have hv:lexLt Mh MG=decide (items.size<hZ.size):=by
    cases hvi with
    |nil=>
     cases hwi with
     |nil=>
      simp only[dU]at dw
      rw[lexLt_nil_nil]
      exact(be (by omega)).symm
     |cons c u hw=>
      simp only[dU,bu]at dw
      rw[rM]
      exact(bv (by omega)).symm
    |cons a t hv=>
     cases hwi with
     |nil=>
      simp only[dU,bu]at dw
      rw[rN]
      exact(be (by omega)).symm
     |cons c u hw=>
      rw[List.zip_cons_cons]at hz
      cases hz
   rw[hv]at hR
   wp_walk
   exact⟨_,rfl,by simpa[Builtin.Tuple.tupleCompareSizes]using hR⟩
  case h=>
   exact⟨rfl,rfl,items.toList,hZ.toList,ns,ms,rfl,hi,hj,by omega,h⟩
end
section
variable{prog:Program}{w:World}{A:Around}{E:Value->Shared->Prop}{s:Shared}
theorem lt_tupInts{l b:Addr}{items hZ:Array Value}{ns ms:List Int}{Q:Value->Shared->Prop}(hl:IsTup s.heap l items)(hb:IsTup s.heap b hZ)(hi:IntsAre items.toList ns)(hj:IntsAre hZ.toList ms)
  (hu:A.units<cLine) (h:Q (.bool (lexLt ns ms)) s):wpAny (model prog w) A (compareOp .Lt (.ref l) (.ref b)) Q E s:=by
 obtain⟨⟨cls,dd,data,sl⟩,ho,hc,n,hd⟩:=id hl
 obtain⟨⟨cls2,MB,data2,Ir⟩,ho2,hc2,n2,Bp⟩:=id hb
 simp only at hc hd hc2 Bp
 subst hc hd hc2 Bp
 exact richCompare_meets_room (op:=.Lt) ⟨_,ho,rfl⟩ ⟨_,ho2,rfl⟩ PySem.F.slot_tuple_lt PySem.F.entry_tuple_lt (PySem.F.args_tuple_lt_2 _ _) (tX l b items hZ n n2 dd MB sl Ir ns ms hi hj)
  ⟨ho,ho2,show Value.bool (lexLt ns ms)≠Value.notImplemented/\Q (.bool (lexLt ns ms)) s from⟨(fun x=>nomatch x),h⟩⟩ hu
theorem cat_tup{t b:Addr}{vs ws:List Value}{Q:Value->Shared->Prop}(ht:IsTup s.heap t vs.toArray)(hb:IsTup s.heap b ws.toArray)(hv:vs≠[])
  (h1:ws=[]->Q (.ref t) s) (h2:ws≠[]->Q (.ref s.heap.objs.size) { s with heap:=s.heap.push { cls:=.type "tuple",data:=.seq (vs++ws).toArray } })
  (hsz:vs.length+ws.length<=sizeLine):wpAny (model prog w) A (binaryOp .Add (.ref t) (.ref b)) Q E s:=by
 obtain⟨⟨cls,dd,data,sl⟩,ho,hc,n,hd⟩:=id ht
 obtain⟨⟨cls2,MB,data2,Ir⟩,ho2,hc2,n2,Bp⟩:=id hb
 simp only at hc hd hc2 Bp
 subst hc hd hc2 Bp
 have e:vs.toArray++ws.toArray=(vs++ws).toArray:=by simp
 by_cases hw:ws=[]
 ·exact pX ⟨_,ho,rfl⟩ ⟨_,ho2,rfl⟩ lI oA PySem.F.slot_tuple_add PySem.F.entry_tuple_add (PySem.F.args_tuple_add_2 _ _)
   (tuple_addW1 t b vs.toArray ws.toArray n n2 dd MB sl Ir (by simpa using hv) (by simp[hw])) ⟨ho,ho2,h1 hw⟩
 ·refine pX ⟨_,ho,rfl⟩ ⟨_,ho2,rfl⟩ lI oA PySem.F.slot_tuple_add PySem.F.entry_tuple_add (PySem.F.args_tuple_add_2 _ _)
   (tuple_addW2 t b vs.toArray ws.toArray n n2 dd MB sl Ir (by simpa using hv) (by simpa using hw) (by rw[aJ,aJ];exact hsz)) ⟨ho,ho2,?_⟩
  rw[e]
  exact h2 hw
def sIx(n d:Nat):Option Int->Nat
 |none=>d
 |some v=>if v<0 then(v+(n:Int)).toNat else min v.toNat n
theorem sIx_none(n d:Nat):sIx n d none=d:=rfl
theorem sIx_nat(n d k:Nat):sIx n d (some (k:Int))=min k n:=by
 show(if (k:Int)<0 then((k:Int)+(n:Int)).toNat else min (k:Int).toNat n)=min k n
 rw[aD (by omega),bB]
theorem sIx_le(n d:Nat)(hd:d<=n)(o:Option Int):sIx n d o<=n:=by
 cases o with
 |none=>exact hd
 |some v=>
  show(if v<0 then(v+(n:Int)).toNat else min v.toNat n)<=n
  by_cases hv:v<0
  ·rw[ax hv];omega
  ·rw[aD hv];exact Nat.min_le_right _ _
theorem Ap(v:Int)(n d:Nat):(if v<0 then max (v+(n:Int)) 0 else min v (n:Int))=((sIx n d (some v):Nat):Int):=by
 show(if v<0 then max (v+(n:Int)) 0 else min v (n:Int))=(((if v<0 then(v+(n:Int)).toNat else min v.toNat n):Nat):Int)
 by_cases hv:v<0
 ·simp only[ax hv];omega
 ·simp only[aD hv];omega
theorem yV(lo hi:Option Int)(n:Nat):Builtin.Slice.sliceAdjust lo hi 1 (n:Int)=(((sIx n 0 lo:Nat):Int),((sIx n n hi:Nat):Int)):=by
 have h1:¬ ((1:Int)<0):=by omega
 unfold Builtin.Slice.sliceAdjust
 simp only[h1,gE]
 refine Prod.ext ?_ ?_
 ·cases lo with
  |none=>rfl
  |some v=>exact Ap v n 0
 ·cases hi with
  |none=>rfl
  |some v=>exact Ap v n n
theorem yW(i j:Nat):Builtin.Slice.slicePlaces (i:Int) (j:Int) 1=j-i:=by
 unfold Builtin.Slice.slicePlaces
 have h1:(1:Int)>0:=by omega
 simp only[h1,d6,Int.ediv_one]
 split<;>omega
theorem rO{v:Value}{o:Option Int}{Q:Option Int->Shared->Prop}(p:IsPart v o)(h:Q o s):wpAny (model prog w) A (Builtin.Slice.slicePartIndex v) Q E s:=by
 cases p with
 |none=>exact slicePart_none h
 |int i t=>exact slicePart_int h
theorem sliceApplied_gen{sl:Addr}{vl vu:Value}{lo hi:Option Int}{n:Nat}{Q:Int×Int×Nat->Shared->Prop}(hs:s.heap.IsSliceOf sl vl vu .none)(pl:IsPart vl lo)(pu:IsPart vu hi)
  (h:Q (((sIx n 0 lo:Nat):Int),1,sIx n n hi-sIx n 0 lo) s):wpAny (model prog w) A (Builtin.Slice.sliceApplied (.ref sl) (pure (n:Int))) Q E s:=by
 obtain⟨os,hos,hcs,Bs⟩:=id hs
 unfold Builtin.Slice.sliceApplied Builtin.Slice.sliceFields
 refine ah (ah (fV hos Bs (x:=vl) rfl (ah (fV hos Bs (x:=vu) rfl (ah (fV hos Bs (x:=.none) rfl (av ?_)))))))
 refine ah (slicePart_none ?_)
 show wpAny _ _ (if ((1:Int)==0)=true then _ else _) _ _ s
 rw[aD (by decide)]
 refine ah (rO pl (ah (rO pu (ah (av ?_)))))
 show wpAny _ _ (match Builtin.Slice.sliceAdjust lo hi 1 (n:Int)with|(lo,hi)=>pure (lo,(1:Int),Builtin.Slice.slicePlaces lo hi 1)) _ _ s
 rw[yV lo hi n]
 show wpAny _ _ (pure (((sIx n 0 lo:Nat):Int),(1:Int),Builtin.Slice.slicePlaces ((sIx n 0 lo:Nat):Int) ((sIx n n hi:Nat):Int) 1)) _ _ s
 rw[yW]
 exact av h
theorem Da(xs:Array Value)(i k:Nat):((List.range k).filterMap fun(m:Nat)=>xs[((i:Int)+(m:Int)*1).toNat]?).toArray=((xs.toList.drop i).take k).toArray:=by
 have e:(fun(m:Nat)=>xs[((i:Int)+(m:Int)*1).toNat]?)=fun m=>xs[i+m]?:=by
  funext m
  have:((i:Int)+(m:Int)*1).toNat=i+m:=by omega
  rw[this]
 rw[e]
 have:=pick_run xs i k
 rw[List.filterMap_map]at this
 have e2:((fun x=>xs[x]?)∘fun x=>i+x)=fun m=>xs[i+m]?:=rfl
 rw[e2]at this
 rw[this]
theorem getItem_tuple_cut{t sl:Addr}{items:Array Value}{vl vu:Value}{lo hi:Option Int}{Q:Value->Shared->Prop}(ht:IsTup s.heap t items)(hs:s.heap.IsSliceOf sl vl vu .none)(pl:IsPart vl lo)(pu:IsPart vu hi)
  (hw:¬ (sIx items.size 0 lo=0/\sIx items.size items.size hi=items.size))
  (h:Q (.ref s.heap.objs.size) { s with heap:=s.heap.push { cls:=.type "tuple",data:=.seq ((items.toList.drop (sIx items.size 0 lo)).take (sIx items.size items.size hi-sIx items.size 0 lo)).toArray } })
  (hsz:items.size<=sizeLine):wpAny (model prog w) A (getItem (.ref t) (.ref sl)) Q E s:=by
 have htake:sizeOk (.seq ((items.toList.drop (sIx items.size 0 lo)).take (sIx items.size items.size hi-sIx items.size 0 lo)).toArray):=by
  show((items.toList.drop (sIx items.size 0 lo)).take (sIx items.size items.size hi-sIx items.size 0 lo)).toArray.size<=sizeLine
  rw[aJ,bp,fm,gb]
  omega
 have hj:sIx items.size items.size hi<=items.size:=sIx_le _ _ (aB _) hi
 obtain⟨os,hos,hcs,Bs⟩:=id hs
 have hTs:s.TypeIs (.ref sl) "slice":=⟨os,hos,hcs⟩
 unfold getItem
 try with_reducible refine cF ?_
 first|refine ah (av ?_)|skip
 refine ah (wpAny_sequenceKey ht.typeIs (by decide) ?_)
 refine ah (cP (name:=Str.ofString "__getitem__") ht.typeIs dZ
  (cY dZ ht.typeIs entry_tuple_getitem ?_ (args_tuple_getitem _ _)))
 show wpAny _ _ (Builtin.Tuple.tupleItemsOf (.ref t) >>= _) _ _ s
 refine ah (tupleItemsOf_ ht ?_)
 refine ah (pY hTs ?_)
 rw[ax (by decide)]
 refine ah (sliceApplied_gen hs pl pu ?_)
 have hno:¬ ((((sIx items.size 0 lo:Nat):Int)==0&&(1:Int)==1&&(sIx items.size items.size hi-sIx items.size 0 lo)==items.size)=true):=by
  intro q
  rw[aX,aX]at q
  have q1:((sIx items.size 0 lo:Nat):Int)=0:=lJ q.1.1
  have q2:sIx items.size items.size hi-sIx items.size 0 lo=items.size:=lJ q.2
  exact hw ⟨by omega,by omega⟩
 show wpAny _ _ (if (((sIx items.size 0 lo:Nat):Int)==0&&(1:Int)==1&&(sIx items.size items.size hi-sIx items.size 0 lo)==items.size)=true then _ else _) _ _ s
 rw[aD hno,Da]
 first
  |exact ah (m:=Builtin.Tuple.tupleExact _) (dQ (av ⟨_,rfl,av h⟩) htake)
  |exact ah (m:=Builtin.Tuple.tupleExact _) (dQ (ah (av (av ⟨_,rfl,av h⟩))) htake)
  |exact ah (ah (m:=Builtin.Tuple.tupleExact _) (dQ (av (av ⟨_,rfl,av h⟩)) htake))
  |exact ah (ah (m:=Builtin.Tuple.tupleExact _) (dQ (av ⟨_,rfl,av h⟩) htake))
end
end HT
namespace L2
open PySem PySem.Spec PyProof.Rows
abbrev TO:=St->Hp->(Option Int->Hp->Prop)->Prop
def PO(X:Cx)(e:Option Expr)(t:TO):Prop:=
 ∀(pins:List (Addr×Obj)) (s:Shared) (σ:St) (H:Hp) (Q:Option Int->Hp->Prop),bi X pins σ H s->t σ H Q ->
  wpAny (model X.prog X.w) X.A (evalPart e X.env) (fun u s'=>∃o H',bi X pins σ H' s'/\IsPart u o/\Q o H') X.xe s
def GN:TO:=fun _ H Q=>Q none H
def Na(t:TE):TO:=fun σ H Q=>t σ H fun x H1=>∃i,x=.int i/\Q (some i) H1
theorem lR{ns:List Int}:∀{us:List Value},b9 (ns.map V.int) us->IntsAre us ns:=by
 induction ns with
 |nil=>intro us r;rw[eB]at r;cases r;exact .nil
 |cons n ns ih=>
  intro us r
  rw[aR]at r
  cases r with
  |cons r1 r2=>
   obtain⟨t,e⟩:=r1
   subst e
   exact .cons n t (ih r2)
section
variable{X:Cx}{e:Expr}{te:TE}{lo hi:Option Expr}{tl th:TO}{pos p2:Pos}
theorem GO:PO X none GN:=by
 intro pins s σ H Q I h
 rw[evalPart_none]
 exact av ⟨none,H,I,.none,h⟩
theorem GP(h:PE X e te):PO X (some e) (Na te):=by
 intro pins s σ H Q I hw
 rw[evalPart_some]
 refine gq (h pins s σ H _ I hw) fun u s1 ⟨x,H1,I1,r1,q1⟩=>?_
 obtain⟨i,rfl,q⟩:=q1
 obtain⟨t,rfl⟩:=r1
 exact⟨some i,H1,I1,.int i t,q⟩
def CN(X:Cx)(r:V->Option Int->Option Int->Hp->VK->Prop):Prop:=
 ∀(pins:List (Addr×Obj)) (s:Shared) (σ:St) (H:Hp) (x:V) (v vl vu:Value) (lo hi:Option Int) (sl:Addr) (Q:VK),bi X pins σ H s->bN x v->s.heap.IsSliceOf sl vl vu .none->IsPart vl lo->IsPart vu hi->r x lo hi H Q ->
  ∃T id,typeLookup (.type T) "__getitem__"=pure (some (.builtin id))/\s.TypeIs v T/\wpAny (model X.prog X.w) X.A (getItem v (.ref sl)) (EP X pins σ Q) X.xe s
theorem CN.or{r r':V->Option Int->Option Int->Hp->VK->Prop}(h:CN X r)(h':CN X r'):CN X (fun x lo hi H Q=>r x lo hi H Q\/r' x lo hi H Q):=by
 intro pins s σ H x v vl vu lo hi sl Q I rx hs pl pu q
 rcases q with q|q
 ·exact h pins s σ H x v vl vu lo hi sl Q I rx hs pl pu q
 ·exact h' pins s σ H x v vl vu lo hi sl Q I rx hs pl pu q
def Ry(r:V->Option Int->Option Int->Hp->VK->Prop)(te:TE)(tl th:TO):TE:=fun σ H Q=>te σ H fun x H1=>tl σ H1 fun l H2=>th σ H2 fun u H3=>r x l u H3 Q
theorem Db{r:V->Option Int->Option Int->Hp->VK->Prop}(hr:CN X r)(he:PE X e te)(hl:PO X lo tl)(hu:PO X hi th):PE X (.Subscript e (.Slice lo hi none p2) pos) (Ry r te tl th):=by
 intro pins s σ H Q I h
 refine Subscript_ (gq (he pins s σ H _ I h) fun v s1 ⟨x,H1,I1,r1,q1⟩=>?_)
 refine wpAny_Slice (gq (hl pins s1 σ H1 _ I1 q1) fun vl s2 ⟨l,H2,I2,pl,q2⟩=>gq (hu pins s2 σ H2 _ I2 q2) fun vu s3 ⟨u,H3,I3,pu,q3⟩=>?_)
 rw[evalPart_none]
 refine av ?_
 have I4:bi X pins σ H3 { s3 with heap:=s3.heap.push { cls:=.type "slice",data:=.fields #[vl,vu,.none] } }:=I3.kept (t':=s3.toks) fun b ob q=>aq _ q
 obtain⟨T,id,hT,ht,hg⟩:=hr pins { s3 with heap:=s3.heap.push { cls:=.type "slice",data:=.fields #[vl,vu,.none] } } σ H3 x v vl vu l u s3.heap.objs.size Q I4 r1 (Heap.IsSliceOf.new ..) pl pu q3
 show wpAny (model X.prog X.w) X.A (subscriptTail e (.Slice lo hi none p2) v (.ref s3.heap.objs.size)) (EP X pins σ Q) X.xe { s3 with heap:=s3.heap.push { cls:=.type "slice",data:=.fields #[vl,vu,.none] } }
 exact tail_any (ops:=[.ref s3.heap.objs.size,v]) ht hT hg (by with_unfolding_all rfl)
def rP(xs:List V)(lo hi:Option Int):List V:=(xs.drop (HT.sIx xs.length 0 lo)).take (HT.sIx xs.length xs.length hi-HT.sIx xs.length 0 lo)
theorem qE(xs:List V)(lo hi:Option Int):(rP xs lo hi).length<=xs.length:=by
 unfold rP
 rw[bp,fm]
 omega
def Qf(K:Frag):V->Option Int->Option Int->Hp->VK->Prop:=fun x lo hi H Q=>∃a xs,x=.ref a/\fF K H a xs /\
 ¬ (HT.sIx xs.length 0 lo=0/\HT.sIx xs.length xs.length hi=xs.length)/\∀p,H p=none->Q (.ref p) (fx H p (.tup (rP xs lo hi)))
theorem Kh:CN X (Qf X.K):=by
 intro pins s σ H x v vl vu lo hi sl Q I rx hs pl pu h
 obtain⟨a,xs,rfl,hx,hw,q⟩:=h
 cases rx
 obtain⟨bj,r,ht,hz⟩:=I.tuple hx
 have dw:bj.toArray.size=xs.length:=by rw[aJ];exact r.length.symm
 refine⟨"tuple",_,dZ.lookup,ht.typeIs,?_⟩
 refine HT.getItem_tuple_cut ht hs pl pu (by rw[dw];exact hw) ?_ (by rw[dw];exact hz)
 rw[dw]
 refine⟨.ref s.heap.objs.size,_,I.laid (t':=s.toks) (o:=.tup (rP xs lo hi)) (fun b ob q=>aq _ q) (aB _) ?_,rfl,q _ (I.hok.fresh (aB _))⟩
 exact⟨aV (qE xs lo hi) hz,_,(r.drop (HT.sIx xs.length 0 lo)).take (HT.sIx xs.length xs.length hi-HT.sIx xs.length 0 lo),IsTup.new _ _⟩
def Qg(K:Frag):R2:=fun x y H Q=>∃a b ns ms,x=.ref a/\y=.ref b/\fF K H a (ns.map V.int)/\fF K H b (ms.map V.int)/\Q (.bl (HT.lexLt ns ms)) H
theorem Ki(hu:X.A.units<cLine):mJ X (compareOp .Lt) (Qg X.K):=by
 intro pins s σ H x y v u Q I rx ry h
 obtain⟨a,b,ns,ms,rfl,rfl,ha,hb,q⟩:=h
 cases rx
 cases ry
 obtain⟨bj,r1,p1,_⟩:=I.tuple ha
 obtain⟨its2,r2,p2,_⟩:=I.tuple hb
 have i1:IntsAre bj.toArray.toList ns:=lR r1
 have i2:IntsAre its2.toArray.toList ms:=lR r2
 exact HT.lt_tupInts p1 p2 i1 i2 hu ⟨.bl (HT.lexLt ns ms),H,I,rfl,q⟩
def Nb(K:Frag):R2:=fun x y H Q=>∃a b xs ys,x=.ref a/\y=.ref b/\fF K H a xs/\fF K H b ys/\xs≠[]/\xs.length+ys.length<=sizeLine /\
 (ys=[]->Q (.ref a) H)/\(ys≠[]->∀p,H p=none->Q (.ref p) (fx H p (.tup (xs++ys))))
theorem b9.nil_iff{xs:List V}{us:List Value}(r:b9 xs us):us=[]↔xs=[]:=by
 cases r with
 |nil=>simp
 |cons _ _=>simp
theorem GQ:mJ X (binaryOp .Add) (Nb X.K):=by
 intro pins s σ H x y v u Q I rx ry h
 obtain⟨a,b,xs,ys,rfl,rfl,ha,hb,hx,hz,q1,q2⟩:=h
 cases rx
 cases ry
 obtain⟨bj,r1,p1,_⟩:=I.tuple ha
 obtain⟨its2,r2,p2,_⟩:=I.tuple hb
 refine HT.cat_tup p1 p2 (fun z=>hx (r1.nil_iff.mp z)) (fun z=>⟨.ref a,H,I,rfl,q1 (r2.nil_iff.mp z)⟩) (fun z=>?_) (by rw[<- r1.length,<- r2.length];exact hz)
 refine⟨.ref s.heap.objs.size,_,I.laid (t':=s.toks) (o:=.tup (xs++ys)) (fun b ob q=>aq _ q) (aB _) ?_,rfl,q2 (fun w=>z (r2.nil_iff.mpr w)) _ (I.hok.fresh (aB _))⟩
 exact⟨by rw[aH];exact hz,_,r1.append r2,IsTup.new _ _⟩
theorem xf:gU X (.type "tuple") (fun xs H Q=>∃a ys,xs=[.ref a]/\fF X.K H a ys/\Q (.ref a) H):=by
 intro pins s σ H xs us Q I r h
 obtain⟨a,ys,rfl,ha,q⟩:=h
 obtain⟨u,rfl,ru⟩:=lq r
 cases ru
 obtain⟨bj,_,p1,_⟩:=I.tuple ha
 exact call_tuple_same (items:=bj.toArray) p1 ⟨.ref a,H,I,rfl,q⟩
end
def Aq(n:Nat)(i:Int):Option Nat:=if 0<=i then(if i<n then some i.toNat else none)else if -(n:Int)<=i then some (i+n).toNat else none
def qb{α:Type}(xs:List α)(i:Int):Option α:=(Aq xs.length i).bind fun j=>xs[j]?
theorem Ar{n:Nat}{i:Int}{j:Nat}(h:Aq n i=some j):seqIndex? i n=some j/\j<n/\-(n:Int)<=i/\i<n:=by
 unfold Aq at h
 by_cases h0:0<=i
 ·rw[ax h0]at h
  by_cases h1:i<n
  ·rw[ax h1]at h
   have e:i.toNat=j:=a9 h
   exact⟨by rw[seqIndex_of h0 h1,e],by omega,by omega,h1⟩
  ·rw[aD h1]at h;cases h
 ·rw[aD h0]at h
  by_cases h1:-(n:Int)<=i
  ·rw[ax h1]at h
   have e:(i+n).toNat=j:=a9 h
   exact⟨by rw[pZ (by omega) h1,e],by omega,h1,by omega⟩
  ·rw[aD h1]at h;cases h
theorem vp{α:Type}{xs:List α}{i:Int}{v:α}(h:qb xs i=some v):∃j,seqIndex? i xs.length=some j/\xs[j]?=some v/\j<xs.length/\-(xs.length:Int)<=i/\i<xs.length:=by
 unfold qb at h
 cases e:Aq xs.length i with
 |none=>rw[e]at h;cases h
 |some j=>
  rw[e]at h
  obtain⟨h1,h2,h3,h4⟩:=Ar e
  exact⟨j,h1,h,h2,h3,h4⟩
def As(b:Expr):Prop:=∀o i,subscripted b false o i=operate [o,i] (getItem o i)
def Gj(X:Cx)(r:R2):Prop:=
 ∀(value slice:Expr) (pins:List (Addr×Obj)) (s:Shared) (σ:St) (H:Hp) (x y:V) (v u:Value) (Q:VK),bi X pins σ H s->bN x v->bN y u->r x y H Q ->
  subscripted slice false v u=operate [v,u] (getItem v u)->wpAny (model X.prog X.w) X.A (subscriptTail value slice v u) (EP X pins σ Q) X.xe s
def At(X:Cx)(id:String)(r:V->List V->Hp->VK->Prop):Prop:=
 ∀(pins:List (Addr×Obj)) (s:Shared) (σ:St) (H:Hp) (x:V) (xs:List V) (v:Value) (us:List Value) (Q:VK),bi X pins σ H s->bN x v->b9 xs us->r x xs H Q ->
  wpAny (model X.prog X.w) X.A (call (.builtin id) (v::us)) (EP X pins σ Q) X.xe s
section
variable{X:Cx}{a b:Expr}{ta tb:TE}{pos:Pos}
theorem Gj.or{r r':R2}(h:Gj X r)(h':Gj X r'):Gj X (fun x y H Q=>r x y H Q\/r' x y H Q):=by
 intro value slice pins s σ H x y v u Q I rx ry q hs
 rcases q with q|q
 ·exact h value slice pins s σ H x y v u Q I rx ry q hs
 ·exact h' value slice pins s σ H x y v u Q I rx ry q hs
theorem At.or{id:String}{r r':V->List V->Hp->VK->Prop}(h:At X id r)(h':At X id r'):At X id (fun x xs H Q=>r x xs H Q\/r' x xs H Q):=by
 intro pins s σ H x xs v us Q I rx rs q
 rcases q with q|q
 ·exact h pins s σ H x xs v us Q I rx rs q
 ·exact h' pins s σ H x xs v us Q I rx rs q
theorem Nc{r:R2}(hr:Gj X r)(ha:PE X a ta)(hb:PE X b tb)(hs:As b):PE X (.Subscript a b pos) (MX r ta tb):=by
 intro pins s σ H Q I h
 exact Subscript_ (J7 ha hb I h fun v u s2 x y H2 I2 rx ry q=>hr a b pins s2 σ H2 x y v u Q I2 rx ry q (hs _ _))
def Nd(K:Frag):R2:=fun x y H Q=>∃p xs i v,x=.ref p/\y=.int i/\nL K H p xs/\qb xs i=some v/\Q v H
def Nf(K:Frag):R2:=fun x y H Q=>∃p xs i v,x=.ref p/\y=.int i/\fF K H p xs/\qb xs i=some v/\Q v H
def Ng:R2:=fun x y H Q=>∃z i c,x=.str z/\y=.int i/\z.length<=sizeLine/\qb z.cps.toList i=some c/\Q (.str ⟨#[c]⟩) H
theorem GR:Gj X (Nd X.K):=by
 intro value slice pins s σ H x y v u Q I rx ry h hs
 obtain⟨p,xs,i,z,rfl,rfl,hq,he,q⟩:=h
 cases rx
 obtain⟨t,rfl⟩:=ry
 obtain⟨bj,r,pl,hz⟩:=I.list hq
 obtain⟨j,h1,h2,h3,h4,h5⟩:=vp he
 obtain⟨w,ew,kJ⟩:=r.get h2
 have hl:=r.length
 have hn:=qa
 have fin:EP X pins σ Q w s:=⟨z,H,I,kJ,q⟩
 by_cases h0:0<=i
 ·have hj:i.toNat=j:=by
   rw[seqIndex_of h0 h5]at h1
   exact a9 h1
  exact item_listR pl.isList h0 (by omega) (by rw[hj];simpa using ew) fin hs
 ·have hj:(i+(bj.toArray.size:Int)).toNat=j:=by
   rw[pZ (by omega) h4]at h1
   rw[aJ,<- hl]
   exact a9 h1
  exact mv (x:=w) pl.isList.typeIs slot_list_getitem.lookup
   (wpAny_getItem_list_neg (Q:=fun r s'=>r=w/\EP X pins σ Q r s') pl.isList (by omega) (by rw[aJ]<;>omega) (by omega) (by rw[hj];simpa using ew) ⟨rfl,fin⟩) hs
theorem Kj:Gj X (Nf X.K):=by
 intro value slice pins s σ H x y v u Q I rx ry h hs
 obtain⟨p,xs,i,z,rfl,rfl,hq,he,q⟩:=h
 cases rx
 obtain⟨t,rfl⟩:=ry
 obtain⟨bj,r,pl,hz⟩:=I.tuple hq
 obtain⟨j,h1,h2,h3,h4,h5⟩:=vp he
 obtain⟨w,ew,kJ⟩:=r.get h2
 have hl:=r.length
 have hn:=qa
 have fin:EP X pins σ Q w s:=⟨z,H,I,kJ,q⟩
 exact mv (x:=w) pl.typeIs slot_tuple_getitem.lookup
  (getItem_tuple (j:=j) (Q:=fun r s'=>r=w/\EP X pins σ Q r s') pl (by omega) (by omega) (by rw[aJ,<- hl];exact h1) (by simpa using ew) ⟨rfl,fin⟩) hs
theorem Kk:Gj X Ng:=by
 intro value slice pins s σ H x y v u Q I rx ry h hs
 obtain⟨z,i,c,rfl,rfl,hz,he,q⟩:=h
 obtain⟨t,rfl⟩:=rx
 obtain⟨t',rfl⟩:=ry
 obtain⟨j,h1,h2,h3,h4,h5⟩:=vp he
 have hl:z.cps.toList.length=z.length:=by simp[Str.length]
 rw[hl]at h1 h4 h5
 have hn:=qa
 exact tail_any (typeIs_str s z t) slot_str_getitem.lookup (getItem_str (c:=c) (by
  have e1:decide (i < -(2^63:Int))=false:=be (by omega)
  have e2:decide (i≥2^63)=false:=be (by omega)
  rw[e1,e2,Bool.or_false]) (by rw[h1];simpa using h2) ⟨.str ⟨#[c]⟩,H,I.tok _,⟨_,rfl⟩,q⟩) hs
def Rz(K:Frag):R2:=fun x y H Q=>Nd K x y H Q\/Nf K x y H Q\/Ng x y H Q
theorem Kl:Gj X (Rz X.K):=GR.or (Kj.or Kk)
theorem yX(bj:List Value)(n j:Nat)(u:Value):Obj.mapSeq (·.setIfInBounds j u) { cls:=.type "list",data:=.seq bj.toArray n }={ cls:=.type "list",data:=.seq (bj.set j u).toArray n }:=by
 simp[Obj.mapSeq]
theorem bi.lst{pins:List (Addr×Obj)}{σ:St}{H:Hp}{s:Shared}{p:Addr}{xs:List V}(I:bi X pins σ H s)(h:H p=some (.lst xs)) :
  ∃(bj:List Value) (n:Nat),b9 xs bj/\s.heap.get? p=some { cls:=.type "list",data:=.seq bj.toArray n }/\xs.length<=sizeLine:=by
 obtain⟨z,bj,n,r,e⟩:=I.hok p _ h
 exact⟨bj,n,r,e,z⟩
theorem bi.lstUpd{pins:List (Addr×Obj)}{σ:St}{H:Hp}{s:Shared}{p:Addr}{xs ys:List V}{bj its':List Value}{n n':Nat}{f:Obj->Obj}(I:bi X pins σ H s)(h:H p=some (.lst xs))
  (ho:s.heap.get? p=some { cls:=.type "list",data:=.seq bj.toArray n }) (hf:f { cls:=.type "list",data:=.seq bj.toArray n }={ cls:=.type "list",data:=.seq its'.toArray n' }) (r:b9 ys its') (hz:ys.length<=sizeLine) (t:Nat) :
  bi X pins σ (fx H p (.lst ys)) { s with heap:=s.heap.update p f,toks:=t }:=by
 have e:(s.heap.update p f).get? p=some { cls:=.type "list",data:=.seq its'.toArray n' }:=by
  rw[gK f ho (by rw[hf]<;>rfl),hf]
 refine I.write (x:=p) (e:=p) (by rw[h];trivial) (.inl rfl) (fun b u hb q=>(iG _ _ (Ne.symm hb)).trans q) ⟨_,e⟩ ?_
 exact⟨hz,its',n',r,e⟩
def Nh:V->V->V->Hp->(Hp->Prop)->Prop:=fun o i v H Q=>∃p xs k j,o=.ref p/\i=.int k/\H p=some (.lst xs)/\Aq xs.length k=some j/\Q (fx H p (.lst (xs.set j v)))
theorem Dd:yP X Nh:=by
 intro pins s σ H o i v ov iv u Q I ro ri rv h
 obtain⟨p,xs,k,j,rfl,rfl,hp,hj,q⟩:=h
 cases ro
 obtain⟨t,rfl⟩:=ri
 obtain⟨bj,n,r,ho,hz⟩:=I.lst hp
 obtain⟨h1,h2,h3,h4⟩:=Ar hj
 have hl:=r.length
 have hn:=qa
 have I':bi X pins σ (fx H p (.lst (xs.set j v))) { s with heap:=s.heap.update p (Obj.mapSeq (·.setIfInBounds j u)) }:=
  I.lstUpd hp ho (yX bj n j u) (r.set rv j) (by rw[ib];exact hz) s.toks
 by_cases h0:0<=k
 ·have hk:k.toNat=j:=by
   rw[seqIndex_of h0 h4]at h1
   exact a9 h1
  exact PySem.W.ki_setAt ho h0 (by omega) (by rw[aJ,<- hl];exact h4) (by rw[hk];exact⟨_,I',q⟩)
 ·have hk:(k+(bj.toArray.size:Int)).toNat=j:=by
   rw[pZ (by omega) h3]at h1
   rw[aJ,<- hl]
   exact a9 h1
  exact PySem.W.ki_setBack ho (by omega) (by rw[aJ,<- hl];exact h3) (by omega) (by rw[hk];exact⟨_,I',q⟩)
theorem vq(lo hi:Option Int)(n:Nat):(sliceBounds lo hi none n).1=((HT.sIx n 0 lo:Nat):Int)/\(sliceBounds lo hi none n).2.1=((HT.sIx n n hi:Nat):Int)/\(sliceBounds lo hi none n).2.2=1:=by
 refine⟨?_,?_,rfl⟩
 ·cases lo with
  |none=>simp[sliceBounds,HT.sIx]
  |some i=>
   simp only[sliceBounds,HT.sIx,Option.getD_none,show(1:Int)>0 by decide,d6]
   by_cases h:i<0
   ·simp only[h,d6]<;>omega
   ·simp only[h,gE]<;>omega
 ·cases hi with
  |none=>simp[sliceBounds,HT.sIx]
  |some i=>
   simp only[sliceBounds,HT.sIx,Option.getD_none,show(1:Int)>0 by decide,d6]
   by_cases h:i<0
   ·simp only[h,d6]<;>omega
   ·simp only[h,gE]<;>omega
theorem tY(bj:List Value)(lo hi:Option Int):slicePick bj.toArray lo hi none=((bj.drop (HT.sIx bj.length 0 lo)).take (HT.sIx bj.length bj.length hi-HT.sIx bj.length 0 lo)).toArray:=by
 obtain⟨h1,h2,h3⟩:=vq lo hi bj.toArray.size
 unfold slicePick
 rw[h1,h2,h3]
 simp only[sliceRange_one,pick_run,aJ]<;>rfl
def Qh(K:Frag):V->Option Int->Option Int->Hp->VK->Prop:=fun x lo hi H Q=>∃a xs,x=.ref a/\nL K H a xs/\∀p,H p=none->Q (.ref p) (fx H p (.lst (rP xs lo hi)))
theorem GS:CN X (Qh X.K):=by
 intro pins s σ H x v vl vu lo hi sl Q I rx hs pl pu h
 obtain⟨a,xs,rfl,hx,q⟩:=h
 cases rx
 obtain⟨bj,r,ht,hz⟩:=I.list hx
 have dw:=r.length
 refine⟨"list",_,slot_list_getitem.lookup,ht.isList.typeIs,?_⟩
 refine wpAny_getItem_list_slice ht.isList hs pl pu .none (by simp) ?_ (by rw[aJ]<;>omega)
 rw[tY,<- dw]
 refine⟨.ref s.heap.objs.size,_,I.laid (t':=s.toks) (o:=.lst (rP xs lo hi)) (fun b ob q=>aq _ q) (aB _) ?_,rfl,q _ (I.hok.fresh (aB _))⟩
 exact⟨aV (qE xs lo hi) hz,_,0,(r.drop (HT.sIx xs.length 0 lo)).take (HT.sIx xs.length xs.length hi-HT.sIx xs.length 0 lo),aL _ rfl⟩
theorem o1:gU X (.builtin "len") (fun xs H Q=>∃p ys,xs=[.ref p]/\(nL X.K H p ys\/fF X.K H p ys)/\Q (.int ys.length) H):=by
 intro pins s σ H xs us Q I r h
 obtain⟨p,ys,rfl,hq,q⟩:=h
 obtain⟨u,rfl,rx⟩:=lq r
 cases rx
 have hn:=qa
 rcases hq with hq|hq
 ·obtain⟨bj,r',pl,hz⟩:=I.list hq
  have dw:=r'.length
  exact Calls.call_len_list pl.isList (by simp only[aJ]<;>omega) ⟨.int ys.length,H,I.tok _,⟨s.toks+1,by rw[aJ,dw]⟩,q⟩
 ·obtain⟨bj,r',pl,hz⟩:=I.tuple hq
  have dw:=r'.length
  exact len_tuple pl (by simp only[aJ]<;>omega) ⟨.int ys.length,H,I.tok _,⟨s.toks+1,by rw[aJ,dw]⟩,q⟩
theorem vt:gU X (.builtin "len") (fun xs H Q=>∃z,xs=[.str z]/\z.length<=sizeLine/\Q (.int z.length) H):=by
 intro pins s σ H xs us Q I r h
 obtain⟨z,rfl,hz,q⟩:=h
 obtain⟨u,rfl,t,rfl⟩:=lq r
 have hn:=qa
 exact len_str (by omega) ⟨.int z.length,H,I.tok _,⟨_,rfl⟩,q⟩
theorem gU.or{f:Value}{r r':List V->Hp->VK->Prop}(h:gU X f r)(h':gU X f r'):gU X f (fun xs H Q=>r xs H Q\/r' xs H Q):=by
 intro pins s σ H xs us Q I rs q
 rcases q with q|q
 ·exact h pins s σ H xs us Q I rs q
 ·exact h' pins s σ H xs us Q I rs q
theorem vx:gU X (.type "list") (fun xs H Q=>∃p ys,xs=[.ref p]/\(nL X.K H p ys\/fF X.K H p ys)/\∀l,H l=none->Q (.ref l) (fx H l (.lst ys))):=by
 intro pins s σ H xs us Q I r h
 obtain⟨p,ys,rfl,hq,q⟩:=h
 obtain⟨u,rfl,rx⟩:=lq r
 cases rx
 have fin:∀(bj:List Value),b9 ys bj->ys.length<=sizeLine->∀(h':Heap) (c':Nat),(∀b o',s.heap.get? b=some o'->h'.get? b=some o') ->
   h'.get? s.heap.objs.size=some { cls:=.type "list",dict:=none,data:=.seq bj.toArray c',slots:=#[] }->EP X pins σ Q (.ref s.heap.objs.size) { s with heap:=h' }:=fun bj r' hz h' c' kp e=>
  ⟨.ref s.heap.objs.size,_,I.laid (t':=s.toks) kp (aB _) (show eZ X.prog X.w _ h' _ (.lst ys)from⟨hz,bj,c',r',e⟩),rfl,q _ (I.hok.fresh (aB _))⟩
 rcases hq with hq|hq
 ·obtain⟨bj,r',pl,hz⟩:=I.list hq
  have dw:=r'.length
  obtain⟨o,ho,hc,n,hd⟩:=pl.isList
  exact call_list_seq p (.inl rfl) ho hc hd (fun h' c' kp e=>fin bj r' hz h' c' kp e) (by simp only[aJ]<;>omega)
 ·obtain⟨bj,r',pl,hz⟩:=I.tuple hq
  have dw:=r'.length
  obtain⟨o,ho,hc,n,hd⟩:=pl
  exact call_list_seq p (.inr rfl) ho hc hd (fun h' c' kp e=>fin bj r' hz h' c' kp e) (by simp only[aJ]<;>omega)
theorem tZ:gU X (.type "tuple") (fun xs H Q=>∃p ys,xs=[.ref p]/\((nL X.K H p ys/\∀l,H l=none->Q (.ref l) (fx H l (.tup ys)))\/(fF X.K H p ys/\Q (.ref p) H))):=by
 intro pins s σ H xs us Q I r h
 obtain⟨p,ys,rfl,h⟩:=h
 obtain⟨u,rfl,rx⟩:=lq r
 cases rx
 rcases h with⟨hq,q⟩|⟨hq,q⟩
 ·obtain⟨bj,r',pl,hz⟩:=I.list hq
  have dw:=r'.length
  refine call_tuple_list pl.isList (fun h' kp=>?_) (by simp only[aJ]<;>omega)
  have I1:bi X pins σ H { s with heap:=h' }:=I.kept (t':=s.toks) kp
  have I2:bi X pins σ (fx H h'.objs.size (.tup ys)) { s with heap:=h'.push { cls:=.type "tuple",data:=.seq bj.toArray } }:=
   I1.laid (t':=s.toks) (fun b o e=>aq _ e) (aB _) (show eZ X.prog X.w _ _ _ (.tup ys)from⟨hz,bj,r',IsTup.new _ _⟩)
  exact⟨.ref h'.objs.size,_,I2,rfl,q _ (I1.hok.fresh (aB _))⟩
 ·obtain⟨bj,r',pl,hz⟩:=I.tuple hq
  exact call_tuple_same pl ⟨.ref p,H,I,rfl,q⟩
def Po(K:Frag)(T:String)(x:V)(H:Hp):Prop:=match x with
 |.str _=>T="str"
 |.int _=>T="int"
 |.ref p=>(T="list"/\∃xs,nL K H p xs)\/(T="tuple"/\∃o,K.lookup p=some o/\o.cls=.type "tuple"/\o.dict=none) \/
   (T="dict"/\((∃kvs,H p=some (.dK kvs))\/∃kvs,H p=some (.dT kvs)))\/(T="set"/\∃S n,H p=some (.set S n))
 |_=>False
theorem Km{pins:List (Addr×Obj)}{σ:St}{H:Hp}{s:Shared}{T:String}{x:V}{v:Value}(I:bi X pins σ H s)(r:bN x v)(ty:Po X.K T x H) :
  s.TypeIs v T/\∀a,v=.ref a->∃ob,s.heap.get? a=some ob/\ob.dict=none:=by
 cases x with
 |str z=>
  obtain⟨t,rfl⟩:=r
  cases(show T="str" from ty)
  exact⟨typeIs_str s z t,fun _ e=>nomatch e⟩
 |int i=>
  obtain⟨t,rfl⟩:=r
  cases(show T="int" from ty)
  exact⟨typeIs_int s i t,fun _ e=>nomatch e⟩
 |ref p=>
  cases r
  rcases ty with⟨rfl,xs,hq⟩|⟨rfl,o,hk,hc,hd⟩|⟨rfl,hk⟩|⟨rfl,S,n,hk⟩
  ·obtain⟨bj,_,pl,_⟩:=I.list hq
   refine⟨pl.isList.typeIs,fun a e=>?_⟩
   cases e
   obtain⟨o,n,e,c,hd,_⟩:=pl
   exact⟨o,e,hd⟩
  ·refine⟨⟨o,I.kIn p o hk,hc⟩,fun a e=>?_⟩
   cases e
   exact⟨o,I.kIn _ o hk,hd⟩
  ·have z:∃o,s.heap.get? p=some o/\o.ExactDict:=by
    rcases hk with⟨kvs,hk⟩|⟨kvs,hk⟩
    ·obtain⟨_,_,_,_,o,_,_,e,ex,_⟩:=I.hok p _ hk
     exact⟨o,e,ex⟩
    ·obtain⟨_,_,_,_,o,_,_,e,ex,_⟩:=I.hok p _ hk
     exact⟨o,e,ex⟩
   obtain⟨o,e,ex⟩:=z
   refine⟨⟨o,e,ex.1⟩,fun a e2=>?_⟩
   cases e2
   exact⟨o,e,ex.2.1⟩
  ·obtain⟨o,_,_,_,e,ex,_⟩:=I.hok p _ hk
   refine⟨⟨o,e,ex.1⟩,fun a e2=>?_⟩
   cases e2
   exact⟨o,e,ex.2.1⟩
 |_=>exact False.elim ty
variable{o e:Expr}{es:List Expr}{to:TE}{t:TA}{name:Str}{fT du:Pos}{T id:String}{r:V->List V->Hp->VK->Prop}
end
def Pp(X:Cx)(id:String)(r:V->List V->Hp->VK->Prop):Prop:=
 ∀(pins:List (Addr×Obj)) (s:Shared) (σ:St) (H:Hp) (x:V) (xs:List V) (v:Value) (us:List Value) (Q:VK),bi X pins σ H s->bN x v->b9 xs us->r x xs H Q ->
  wpAny (model X.prog X.w) X.A (call (.builtin id) (v::us)) (EP X pins σ Q) X.xe s
theorem b9.one:∀{x:V} {us:List Value},b9 [x] us->∃u,us=[u]/\bN x u
 |_,_,.cons r .nil=>⟨_,rfl,r⟩
theorem b9.two:∀{x y:V} {us:List Value},b9 [x,y] us->∃u v,us=[u,v]/\bN x u/\bN y v
 |_,_,_,.cons r (.cons q .nil)=>⟨_,_,rfl,r,q⟩
theorem b9.zero:∀{us:List Value},b9 [] us->us=[]
 |_,.nil=>rfl
theorem b9.reverse{xs:List V}{us:List Value}(h:b9 xs us):b9 xs.reverse us.reverse:=by
 induction h with
 |nil=>exact .nil
 |cons r t ih=>rw[List.reverse_cons,List.reverse_cons];exact b9.append ih (.cons r .nil)
section
variable{X:Cx}{pins:List (Addr×Obj)}{σ:St}{H:Hp}{s:Shared}{l b:Addr}{xs ys zs:List V}
theorem bi.lset{bj its':List Value}{n:Nat}{f:Array Value->Array Value}{t':Nat}(I:bi X pins σ H s)(hH:H l=some (.lst xs))
  (e:s.heap.get? l=some { cls:=.type "list",data:=.seq bj.toArray n }) (hf:f bj.toArray=its'.toArray) (hv:b9 ys its') (hz:ys.length<=sizeLine) :
  bi X pins σ (fx H l (.lst ys)) { s with heap:=s.heap.update l (Obj.mapSeq f),toks:=t' }:=by
 have q:=PySem.IsL.update e f
 rw[hf]at q
 refine I.write (x:=l) (e:=l) (by rw[hH];exact trivial) (.inl rfl) (fun b' u hb hu=>(iG s.heap (Obj.mapSeq f) (Ne.symm hb)).trans hu) ⟨_,q⟩ ?_
 exact⟨hz,its',_,hv,q⟩
theorem bi.lnew{bj:List Value}{t':Nat}(I:bi X pins σ H s)(hv:b9 ys bj)(hz:ys.length<=sizeLine) :
  bi X pins σ (fx H s.heap.objs.size (.lst ys)) { s with heap:=s.heap.push { cls:=.type "list",data:=.seq bj.toArray },toks:=t' }:=
 I.laid (fun _ _ q=>aq _ q) (aB _) ⟨hz,bj,0,hv,aL _ rfl⟩
theorem bi.fresh(I:bi X pins σ H s):H s.heap.objs.size=none:=I.hok.fresh (aB _)
theorem bi.lstM(I:bi X pins σ H s)(hH:H l=some (.lst xs)):xs.length<=sizeLine/\∃(bj:List Value) (n:Nat),b9 xs bj/\xs.length=bj.length/\s.heap.get? l=some { cls:=.type "list",data:=.seq bj.toArray n }:=by
 obtain⟨z,bj,n,r,e⟩:=I.hok l _ hH
 exact⟨z,bj,n,r,r.length,e⟩
theorem xg{n:Nat}(h:n<=sizeLine):Builtin.List.listTooLong n=false:=by
 unfold Builtin.List.listTooLong
 exact be (by omega)
end
section
variable{X:Cx}
def Au:V->List V->Hp->VK->Prop:=fun x vs H Q=>∃l xs y,x=.ref l/\vs=[y]/\H l=some (.lst xs)/\xs.length<sizeLine/\Q .non (fx H l (.lst (xs++[y])))
theorem BH:Pp X "list.append" Au:=by
 intro pins s σ H x vs v us Q I rx rv h
 obtain⟨l,xs,y,rfl,rfl,hH,hz,q⟩:=h
 cases rx
 obtain⟨u,rfl,ru⟩:=rv.one
 obtain⟨z,bj,n,r,hl,e⟩:=I.lstM hH
 refine mw F.slot_list_append ⟨_,e,rfl⟩ F.entry_list_append (F.args_list_append_2 _ _) (PySem.list_append l bj.toArray n u (by rw[aJ];omega)) ⟨e,?_⟩
 refine⟨.non,_,I.lset (its':=bj++[u]) hH e (by simp) (r.append (.cons ru .nil)) ?_,rfl,q⟩
 rw[aH,List.length_singleton]
 omega
def GT:V->List V->Hp->VK->Prop:=fun x vs H Q=>∃l b xs zs,x=.ref l/\vs=[.ref b]/\H l=some (.lst xs)/\H b=some (.lst zs)/\xs.length+zs.length<=sizeLine/\Q .non (fx H l (.lst (xs++zs)))
theorem BI:Pp X "list.extend" GT:=by
 intro pins s σ H x vs v us Q I rx rv h
 obtain⟨l,b,xs,zs,rfl,rfl,hH,hB,hz,q⟩:=h
 cases rx
 obtain⟨u,rfl,ru⟩:=rv.one
 cases ru
 obtain⟨z,bj,n,r,hl,e⟩:=I.lstM hH
 obtain⟨z2,its2,n2,r2,hl2,e2⟩:=I.lstM hB
 have hsz:bj.toArray.size+its2.toArray.size<=sizeLine:=by rw[aJ,aJ];omega
 have hlong:¬ (!bj.toArray.isEmpty&&Builtin.List.listTooLong (bj.toArray.size+its2.toArray.size))=true:=by
  rw[xg hsz,Bool.and_false]
  exact bK
 refine mw F.slot_list_extend ⟨_,e,rfl⟩ F.entry_list_extend (F.args_list_extend_2 _ _)
  (AutoSeq1.list_extend_list_list_0 l bj.toArray n b its2.toArray n2 hlong (by rw[aJ];omega) (by omega)) ⟨e,e2,?_⟩
 refine⟨.non,_,I.lset (its':=bj++its2) hH e (by simp) (r.append r2) ?_,rfl,q⟩
 rw[aH]
 omega
def Qi:R2:=fun x y H Q=>∃l b xs zs,x=.ref l/\y=.ref b/\H l=some (.lst xs)/\H b=some (.lst zs)/\xs.length+zs.length<=sizeLine/\∀p,H p=none->Q (.ref p) (fx H p (.lst (xs++zs)))
theorem Kn:mJ X (binaryOp .Add) Qi:=by
 intro pins s σ H x y v u Q I rx ry h
 obtain⟨l,b,xs,zs,rfl,rfl,hH,hB,hz,q⟩:=h
 cases rx
 cases ry
 obtain⟨z,bj,n,r,hl,e⟩:=I.lstM hH
 obtain⟨z2,its2,n2,r2,hl2,e2⟩:=I.lstM hB
 refine PySem.P.add_list e e2 ?_ (by rw[aJ,aJ];omega)
 have ea:bj.toArray++its2.toArray=(bj++its2).toArray:=by simp
 rw[ea]
 exact⟨.ref _,_,I.lnew (t':=s.toks) (r.append r2) (by rw[aH];omega),rfl,q _ I.fresh⟩
end
section
variable{prog:Program}{w:World}{A:Around}{E:Value->Shared->Prop}{s:Shared}
end
section
variable{X:Cx}
end
end L2
namespace Att
open PySem PySem.W PySem.Calls PyProof.Rows
theorem qU{P:Params}{h:Heap}:∀(ns:List Int) (vs:List Value),WellAll P h vs (ns.map WData.int)->IntsAre vs ns:=by
 intro ns
 induction ns with
 |nil=>
  intro vs w
  rw[eB]at w
  cases w
  exact .nil
 |cons n ns ih=>
  intro vs w
  rw[aR]at w
  cases w with
  |cons a b=>
   cases a
   exact .cons _ _ (ih _ b)
theorem BJ{l:OpenLaw}{n:Nat}(hn:l.most=some n){P:Params}{h:Heap}{args:List WData}{mi:List Value}
  (wJ:l.row.toRowW.claim.pre args=true) (CW:WellAll P h mi args) :
  ∃a vs ns,mi=[Value.ref a]/\args=[WData.list (ns.map WData.int)]/\h.get? a=some { cls:=.type "list",data:=.seq vs.toArray }/\IntsAre vs ns/\ns.length<=n:=by
 have hsh:WShape.hasAll [] args [.list .int]=true:=(pre_splitW wJ).1
 have hc:l.pre.holds [] { args:=args }=true:=(pre_splitW wJ).2
 obtain⟨d,r,rfl,h1,h2⟩:=hasAllW_cons hsh
 obtain rfl:=hasAllW_nil h2
 obtain⟨xs,rfl,h3⟩:=hasW_list h1
 obtain⟨ns,rfl⟩:=items_int h3
 have dw:ns.length<=n:=by
  unfold OpenLaw.pre at hc
  have h4:(WTm.not (.lt (.lit (.int (n:Int))) (.len (.arg 0)))).holds [] { args:=[.list (ns.map .int)] }=true:=by
   have h4:=(holds_andW hc).1
   rw[hn]at h4
   exact h4
  have h5:=condW_of h4 (w_not (w_lt w_lit (w_len_list (w_arg rfl))))
  rw[al]at h5
  refine dF fun q=>?_
  have q':(n:Int)<((ns.length:Nat):Int):=by omega
  first
   |(rw[bv q']at h5;exact absurd h5 (by decide))
   |(simp at h5;omega)
 cases CW with
 |cons w1 w2=>
  cases w2
  cases w1 with
  |list ho m3=>exact⟨_,_,ns,rfl,rfl,ho,qU ns _ m3,dw⟩
theorem BK(l:OpenLaw)(args:List WData):l.row.toRowW.claim.post args (.bool true) args=true:=
 postW_of (r:=l.row.toRowW) (X:=(true==true))
  (show WShape.has [] (.bool true) .bool=true by first|rfl|decide|simp[WShape.has,WShape.arms,WShape.armsAll])
  (show(WTm.eq .res (.lit (.bool true))).value [] { args:=args,res:=some (.bool true),after:=args }=some (.bool (true==true))from w_eq_bool (w_res rfl) w_lit) rfl
theorem attach_call{l:OpenLaw}{n:Nat}{q:Program}{Bq:List Str}{XP:(Str->Option Value)->Heap->Prop}{YP:World->Heap->Prop}{d:DefRec}
  (hn:l.most=some n) (QT:d.params.defaults=[])
  (call:∀(w:World) (s₀ s₁:Shared) (mg mb:Str->Option Value) (fa:Addr) (o:Obj) (pm cd re:Value) (a:Addr) (vs:List Value) (ns:List Int),
   Ground q Bq [] XP w s₀ mg mb s₁.heap->YP w s₁.heap ->
   s₁.heap.get? fa=some o->o.data=.func (docDef d.name d.params d.body d.scope pm cd re)->s₁.heap.CodeRec cd d.name->mg d.name=some (.ref fa) ->
   s₁.heap.get? a=some { cls:=.type "list",data:=.seq vs.toArray }->IntsAre vs ns->ns.length<=n->s₁.gens=#[] ->
   codeAny (model l.prog w) callerA (.call (.ref fa) ⟨[.ref a],[]⟩) (fun r s'=>r=.ok (.ret (.bool true))/\OldK s₁.heap s'.heap/\s'.os=s₁.os/\AllBare s'.gens) s₁) :
  WalkO q Bq XP YP l.row.toRowW d [] (fun f vs=>PySem.call f vs):=by
 intro w s₀ s₁ mg mb G Y fa o pm cd re dV kV ho hd nZ hD hmg hg args mi as wJ hlay hrd CW hlo
 obtain rfl:dV=.none:=Dflts.none hD QT
 obtain rfl:kV=.none:=Dflts.noKw hD
 obtain⟨a,vs,ns,rfl,rfl,hobj,hints,dw⟩:=BJ hn wJ CW
 refine enter_call (my (call w s₀ s₁ mg mb fa o pm cd re a vs ns G Y ho (fd_plain hd) nZ hmg hobj hints dw hg) fun r s' hq=>?_)
 obtain⟨rfl,h2,h3,h4⟩:=hq
 exact⟨.inl ⟨.bool true,.bool true,[],rfl,fun _=>rfl,.bool true,BK l _,fun _=>⟨List.Pairwise.nil,fun _ hm=>(nomatch hm)⟩⟩,h2,h3,h4⟩
section
variable{prog:Program}{w:World}{A:Around}{E:Value->Shared->Prop}{s:Shared}{K:Frag}
end
end Att
namespace L2
open PySem PySem.Spec PyProof.Rows
theorem uC:∀{vs:List Value} {ns:List Int},IntsAre vs ns->b9 (ns.map V.int) vs
 |_,_,.nil=>.nil
 |_,_,.cons n t h=>.cons ⟨t,rfl⟩ (uC h)
def iA(s:Stmt):Arguments:=match s with
 |.FunctionDef _ a _ _ _ _ _ _ _ _=>a
 |_=>{ posonlyargs:=[],args:=[],vararg:=none,kwonlyargs:=[],kw_defaults:=[],kwarg:=none,defaults:=[] }
def gQ(s:Stmt):List Stmt:=match s with
 |.FunctionDef _ _ b _ _ _ _ _ _ _=>b
 |_=>[]
def bc(s:Stmt):Scope:=match s with
 |.FunctionDef _ _ _ _ _ _ sc _ _ _=>sc
 |_=>{ kind:=.function,names:=[],isGenerator:=false,isCoroutine:=false }
abbrev Qj:Ao:=fun _ _ _ _ _ _=>False
structure kS(K:Frag)(x qual:Str)(st:Stmt)(f:Addr)(fd:FuncData):Prop where
 ex:∃(oc:Value) (od:Option Addr) (kV re pm:Value) (an:Option Addr) (gJ ct:Value) (Io:Array (Option Value)),
  fd=fnOf x qual (iA st) (gQ st) (bc st) .none kV re pm an gJ ct/\K.lookup f=some ⟨oc,od,.func fd,Io⟩/\codeIn K gJ qual=true
 kp:keepIn K (.ref f)=true
section
variable{P:Program}{w:World}{K:Frag}{mg:Str->Option Value}{base:Heap}
theorem kS.ok{x qual:Str}{st:Stmt}{f:Addr}{fd:FuncData}{N ps:List Str}{k:Nat}{sp:Sp}(F:kS K x qual st f fd)(S:bO N ps (bc st))(len:∀vs H Q E,sp vs H Q E->vs.length=ps.length)
  (tM:∀(gJ:Value) (A:Around) (outer:List Env) (s:Shared) (H:Hp) (vs:List V) (Q:VK) (E:XK),gD k (A.deeper (envOfC qual (bc st) s.heap.objs.size f gJ))->sp vs H Q E ->
   ∃t,wZ (xa Qj P w K mg base N qual (bc st) f gJ A outer s H E).nox (gQ st) t/\t { nx:=fun _ H'=>Q .non H',rt:=Q } (oZ N vs) H):eV P w K mg base Qj (k+1) f fd ps sp:=by
 obtain⟨oc,od,kV,re,pm,an,gJ,ct,Io,rfl,lk,nZ⟩:=F.ex
 refine Iz lk nZ S len fun A outer s H vs Q E hr JG=>?_
 obtain⟨t,h,q⟩:=tM gJ A outer s H vs Q E hr JG
 exact⟨t,h.nox,q⟩
theorem kS.binds{x qual:Str}{st:Stmt}{f:Addr}{fd:FuncData}{ps:List Str}(F:kS K x qual st f fd)
  (h:∀(kV re pm:Value) (an:Option Addr) (gJ ct:Value) (us:List Value),us.length=ps.length->bindArgs (fnOf x qual (iA st) (gQ st) (bc st) .none kV re pm an gJ ct) ⟨us,[]⟩=pure (ps.zip us)):rL K fd ps []:=by
 obtain⟨oc,od,kV,re,pm,an,gJ,ct,Io,rfl,lk,nZ⟩:=F.ex
 exact .all (h kV re pm an gJ ct)
theorem yY{x qual:Str}{st:Stmt}{f:Addr}{oc:Value}{od an:Option Addr}{Io:Array (Option Value)}{kV re pm gJ ct:Value}(l:K.lookup f=some ⟨oc,od,.func (fnOf x qual (iA st) (gQ st) (bc st) .none kV re pm an gJ ct),Io⟩)
  (c:codeIn K gJ qual=true) (k:keepIn K (.ref f)=true):kS K x qual st f (fnOf x qual (iA st) (gQ st) (bc st) .none kV re pm an gJ ct):=⟨⟨oc,od,kV,re,pm,an,gJ,ct,Io,rfl,l,c⟩,k⟩
end
theorem De{A:Around}{k:Nat}(hr:gD k A):A.units+1<cLine:=j_ (Nat.add_le_add_left (by decide:1<=64) _) hr.units
section
variable{X:Cx}
theorem pv(i:Nat){x:Str}{pos:Pos}(hN:X.N[i]?=some x:=by rfl)(hv:MI X.env.scope x:=by first|exact Or.inl rfl|exact Or.inr (Or.inl rfl)|exact Or.inr (Or.inr rfl))(hd:(x==("__debug__":Str))=false:=by decide)
  (nZ:(x==("__classdict__":Str))=false:=by decide):PE X (.Name x pos) (MJ i):=JP hN hv hd nZ
end
def kr(H H':Hp):Prop:=∀b o,H b=some o->H' b=some o
theorem kr.refl(H:Hp):kr H H:=fun _ _ h=>h
theorem kr.trans{H H1 H2:Hp}(a:kr H H1)(b:kr H1 H2):kr H H2:=fun c o h=>b c o (a c o h)
theorem kr.free{H H':Hp}(e:kr H H'){l:Addr}(h:H' l=Option.none):H l=Option.none:=by
 cases q:H l with
 |none=>rfl
 |some o=>
  rw[e l o q]at h
  cases h
theorem kr.seq{K:Frag}{H H':Hp}{a:Addr}{xs:List V}(e:kr H H')(h:nL K H a xs):nL K H' a xs:=by
 rcases h with(h|⟨o,h⟩)|h
 ·exact .inl (.inl (e _ _ h))
 ·exact .inl (.inr ⟨o,e _ _ h⟩)
 ·exact .inr h
section
variable{κ:Type}[DecidableEq κ]
def jp(kvs:List (κ×V))(k:κ):Option V:=(kvs.find? fun kv=>decide (kv.1=k)).map (·.2)
def lS(kvs:List (κ×V))(k:κ)(v:V):List (κ×V):=
 if (kvs.any fun kv=>decide (kv.1=k))=true then kvs.map (fun kv=>if kv.1=k then(kv.1,v)else kv)else kvs++[(k,v)]
def mK(kvs:List (κ×V))(k:κ):List (κ×V):=kvs.filter fun kv=>decide (kv.1≠k)
theorem nj{p:κ×V}{r:List (κ×V)}{k:κ}(e:p.1=k):jp (p::r) k=some p.2:=by simp[jp,br,e]
theorem o_{p:κ×V}{r:List (κ×V)}{k:κ}(e:¬ p.1=k):jp (p::r) k=jp r k:=by simp[jp,br,e]
theorem xh(k:κ):∀kvs:List (κ×V),(kvs.any fun kv=>decide (kv.1=k))=(jp kvs k).isSome
 |[]=>rfl
 |p::r=>by
  rw[oB]
  by_cases e:p.1=k
  ·simp only[nj e,bv e,Bool.true_or,Option.isSome_some]
  ·rw[o_ e,be e,oD];exact xh k r
theorem nn(kvs:List (κ×V))(k:κ)(v:V):(lS kvs k v).length<=kvs.length+1:=by
 unfold lS
 split
 ·rw[al];omega
 ·rw[aH,bu,dU];omega
theorem oJ.isSome_eq{o:Option V}{u:Option Value}(r:oJ o u):o.isSome=u.isSome:=by
 cases o with
 |none=>cases u with
  |none=>rfl
  |some _=>exact(show False from r).elim
 |some _=>cases u with
  |none=>exact(show False from r).elim
  |some _=>rfl
theorem oJ.getD{o:Option V}{u:Option Value}{d:V}{d':Value}(r:oJ o u)(rd:bN d d'):bN (o.getD d) (u.getD d'):=by
 cases o with
 |none=>cases u with
  |none=>exact rd
  |some _=>exact(show False from r).elim
 |some _=>cases u with
  |none=>exact(show False from r).elim
  |some _=>exact r
theorem KV.val{kvs:List (κ×V)}{vs:List (κ×Value)}(r:KV kvs vs)(k:κ):oJ (jp kvs k) (valueAt vs k):=by
 unfold KV at r
 induction r with
 |nil=>exact True.intro
 |@cons p q ps qs h t ih=>
  obtain⟨h1,h2⟩:=h
  by_cases e:p.1=k
  ·have e':q.1=k:=h1.symm.trans e
   have b:valueAt (q::qs) k=some q.2:=by simp[valueAt,br,e']
   rw[nj e,b];exact h2
  ·have e':¬ q.1=k:=fun z=>e (h1.trans z)
   have b:valueAt (q::qs) k=valueAt qs k:=by simp[valueAt,br,e']
   rw[o_ e,b];exact ih
theorem KV.any{kvs:List (κ×V)}{vs:List (κ×Value)}(r:KV kvs vs)(k:κ):(kvs.any fun kv=>decide (kv.1=k))=vs.any fun kv=>decide (kv.1=k):=by
 unfold KV at r
 induction r with
 |nil=>rfl
 |cons h t ih=>rw[oB,oB,ih,h.1]
theorem KV.repl{kvs:List (κ×V)}{vs:List (κ×Value)}(r:KV kvs vs)(k:κ){y:V}{u:Value}(ry:bN y u) :
  KV (kvs.map fun kv=>if kv.1=k then(kv.1,y)else kv) (vs.map fun kv=>if kv.1=k then(kv.1,u)else kv):=by
 unfold KV at r ⊢
 induction r with
 |nil=>exact .nil
 |@cons p q ps qs h t ih=>
  rw[aR,aR]
  refine .cons ?_ ih
  obtain⟨h1,h2⟩:=h
  by_cases e:p.1=k
  ·rw[ax e,ax (h1.symm.trans e)];exact⟨h1,ry⟩
  ·rw[aD e,aD (fun z=>e (h1.trans z))];exact⟨h1,h2⟩
theorem KV.put{kvs:List (κ×V)}{vs:List (κ×Value)}(r:KV kvs vs)(k:κ){y:V}{u:Value}(ry:bN y u):KV (lS kvs k y) (stored vs k u):=by
 unfold lS stored
 rw[r.any k]
 by_cases e:(vs.any fun kv=>decide (kv.1=k))=true
 ·rw[ax e,ax e];exact r.repl k ry
 ·rw[aD e,aD e];exact Paired.snoc r ⟨rfl,ry⟩
theorem KV.drop{kvs:List (κ×V)}{vs:List (κ×Value)}(r:KV kvs vs)(k:κ):KV (mK kvs k) (without vs k):=by
 unfold KV at r ⊢
 unfold mK without
 induction r with
 |nil=>exact .nil
 |@cons p q ps qs h t ih=>
  obtain⟨h1,h2⟩:=h
  rw[bU,bU]
  by_cases e:p.1=k
  ·have a:¬ decide (p.1≠k)=true:=by simp[e]
   have b:¬ decide (q.1≠k)=true:=by simp[h1.symm.trans e]
   rw[aD a,aD b];exact ih
  ·have e':¬ q.1=k:=fun z=>e (h1.trans z)
   have a:decide (p.1≠k)=true:=by simp[e]
   have b:decide (q.1≠k)=true:=by simp[e']
   rw[ax a,ax b];exact .cons ⟨h1,h2⟩ ih
theorem KV.keys{kvs:List (κ×V)}{vs:List (κ×Value)}(r:KV kvs vs):kvs.map (·.1)=vs.map (·.1):=by
 unfold KV at r
 induction r with
 |nil=>rfl
 |cons h t ih=>rw[aR,aR,ih,h.1]
theorem KV.length{kvs:List (κ×V)}{vs:List (κ×Value)}(r:KV kvs vs):kvs.length=vs.length:=Paired.length r
theorem Df(kvs:List (κ×V))(k:κ):(mK kvs k).length<=kvs.length:=d9 _ _
end
theorem rQ{P:Program}{w:World}{k:gc}{u:Value}(r:bN (kV k) u):(eU P w).is k u=true:=by
 cases k with
 |inl i=>obtain⟨t,e⟩:=(show ∃t,u=Value.int i t from r);subst e;exact wV P w i t
 |inr x=>obtain⟨t,e⟩:=(show ∃t,u=Value.str x t from r);subst e;exact wW P w x t
theorem uD{P:Program}{w:World}:∀{ks:List gc} {us:List Value},b9 (ks.map kV) us->ItemsAre (eU P w) ks us
 |[],_,r=>by rw[eB]at r;cases r;exact .nil
 |k::ks,_,r=>by
  rw[aR]at r
  cases r with
  |cons h t=>exact .cons (rQ h) (uD t)
abbrev KT(H:Hp):List (List gc×V)->List (List gc×Addr×Value)->Prop:=Paired fun p q=>p.1=q.1/\H q.2.1=some (.tup (p.1.map kV))/\bN p.2 q.2.2
theorem KT.val{H:Hp}{kvs:List (List gc×V)}{xs:List (List gc×Addr×Value)}(r:KT H kvs xs)(k:List gc):oJ (jp kvs k) ((atKey xs k).map (·.2)):=by
 induction r with
 |nil=>exact True.intro
 |@cons p q ps qs h t ih=>
  obtain⟨h1,_,h2⟩:=h
  by_cases e:p.1=k
  ·have e':q.1=k:=h1.symm.trans e
   have b:atKey (q::qs) k=some q.2:=by simp[atKey,br,e']
   rw[nj e,b];exact h2
  ·have e':¬ q.1=k:=fun z=>e (h1.trans z)
   have b:atKey (q::qs) k=atKey qs k:=by simp[atKey,br,e']
   rw[o_ e,b];exact ih
theorem KT.repl{H:Hp}{kvs:List (List gc×V)}{xs:List (List gc×Addr×Value)}(r:KT H kvs xs)(k:List gc){y:V}{u:Value}(ry:bN y u) :
  KT H (kvs.map fun kv=>if kv.1=k then(kv.1,y)else kv) (xs.map (putAt k u)):=by
 induction r with
 |nil=>exact .nil
 |@cons p q ps qs h t ih=>
  rw[aR,aR]
  refine .cons ?_ ih
  obtain⟨h1,h2,h3⟩:=h
  unfold putAt
  by_cases e:p.1=k
  ·rw[ax e,ax (h1.symm.trans e)];exact⟨h1,h2,ry⟩
  ·rw[aD e,aD (fun z=>e (h1.trans z))];exact⟨h1,h2,h3⟩
theorem KT.put{H:Hp}{kvs:List (List gc×V)}{xs:List (List gc×Addr×Value)}(r:KT H kvs xs)(k:List gc){b:Addr}{y:V}{u:Value}(hb:H b=some (.tup (k.map kV)))(ry:bN y u) :
  KT H (lS kvs k y) (storedH xs k b u):=by
 have e:(kvs.any fun kv=>decide (kv.1=k))=(atKey xs k).isSome:=by
  rw[xh,(r.val k).isSome_eq,gS]
 unfold lS storedH
 rw[e]
 by_cases q:(atKey xs k).isSome=true
 ·rw[ax q,ax q];exact r.repl k ry
 ·rw[aD q,aD q];exact Paired.snoc r ⟨rfl,hb,ry⟩
theorem KT.keeps{H H':Hp}{kvs:List (List gc×V)}{xs:List (List gc×Addr×Value)}(r:KT H kvs xs)(ht:∀b ys,H b=some (.tup ys)->H' b=some (.tup ys)):KT H' kvs xs:=
 Paired.mapP r fun _ _ z=>⟨z.1,ht _ _ z.2.1,z.2.2⟩
section
variable{P:Program}{w:World}{H:Hp}{h:Heap}{a:Addr}
theorem IA{u:HO}(ok:n6 P w H h)(e:Rd H a u):eZ P w H h a u:=e.ok ok
theorem qF{kvs:List (gc×V)}(ok:n6 P w H h)(e:Rd H a (.dK kvs)):kvs.length<=sizeLine/\(a==sysModules)=false/\∃vs,KV kvs vs/\h.DictOf (eU P w) a vs:=
 show eZ P w H h a (.dK kvs)from IA ok e
theorem Av{kvs:List (gc×V)}(ok:n6 P w H h)(e:H a=some (.dK kvs)):kvs.length<=sizeLine/\(a==sysModules)=false/\∃vs,KV kvs vs/\h.DictOf (eU P w) a vs:=qF ok (.inl e)
theorem vy{ks:List gc}(ok:n6 P w H h)(e:H a=some (.tup (ks.map kV))):(tupleKind (eU P w)).is h ks a:=by
 obtain⟨_,bj,r,o,h1,h2,n,h3⟩:=(show eZ P w H h a (.tup (ks.map kV))from ok a _ e)
 exact⟨o,bj.toArray,n,h1,h2,h3,by simpa using uD r⟩
theorem xi{kvs:List (List gc×V)}(ok:n6 P w H h)(e:Rd H a (.dT kvs)):kvs.length<=sizeLine/\(a==sysModules)=false /\
  ∃xs,KT H kvs xs/\h.DictOfH (tupleKind (eU P w)) a xs:=by
 obtain⟨z,y,xs,r,o,es,ep,h1,h2,h3,h4,h5⟩:=(show eZ P w H h a (.dT kvs)from IA ok e)
 refine⟨z,y,xs,r,o,es,ep,h1,h2,h3,h4,fun x hx=>?_,h5⟩
 have all:∀{l:List (List gc×V)} {m:List (List gc×Addr×Value)},KT H l m->∀x∈m,(tupleKind (eU P w)).is h x.1 x.2.1:=by
  intro l m q
  induction q with
  |nil=>intro x hx;exact nomatch hx
  |@cons p q ps qs hq t ih=>
   intro x hx
   rcases a7.mp hx with e|hx
   ·subst e
    exact vy ok (by rw[<- hq.1];exact hq.2.1)
   ·exact ih x hx
 exact all r x hx
theorem Ni{kvs:List (List gc×V)}(ok:n6 P w H h)(e:H a=some (.dT kvs)):kvs.length<=sizeLine/\(a==sysModules)=false /\
  ∃xs,KT H kvs xs/\h.DictOfH (tupleKind (eU P w)) a xs:=xi ok (.inl e)
end
def qV(H:Hp)(a:Addr)(y:V)(r:Option V):Prop:=
 (∃kvs k,Rd H a (.dK kvs)/\y=kV k/\r=jp kvs k)\/∃kvs k b,Rd H a (.dT kvs)/\y=.ref b/\H b=some (.tup (k.map kV))/\r=jp kvs k
def BL(H:Hp)(a:Addr)(y v:V)(H':Hp):Prop:=
 (∃kvs k,H a=some (.dK kvs)/\y=kV k/\kvs.length<sizeLine/\H'=fx H a (.dK (lS kvs k v))) \/
 ∃kvs k b,H a=some (.dT kvs)/\y=.ref b/\H b=some (.tup (k.map kV))/\kvs.length<sizeLine/\H'=fx H a (.dT (lS kvs k v))
theorem qV.k{H:Hp}{a:Addr}{kvs:List (gc×V)}{k:gc}(e:H a=some (.dK kvs)):qV H a (kV k) (jp kvs k):=.inl ⟨kvs,k,.inl e,rfl,rfl⟩
theorem qV.t{H:Hp}{a b:Addr}{kvs:List (List gc×V)}{k:List gc}(e:H a=some (.dT kvs))(eb:H b=some (.tup (k.map kV))):qV H a (.ref b) (jp kvs k):=.inr ⟨kvs,k,b,.inl e,rfl,eb,rfl⟩
theorem BL.k{H:Hp}{a:Addr}{kvs:List (gc×V)}{k:gc}{v:V}(e:H a=some (.dK kvs))(hl:kvs.length<sizeLine):BL H a (kV k) v (fx H a (.dK (lS kvs k v))):=.inl ⟨kvs,k,e,rfl,hl,rfl⟩
theorem BL.t{H:Hp}{a b:Addr}{kvs:List (List gc×V)}{k:List gc}{v:V}(e:H a=some (.dT kvs))(eb:H b=some (.tup (k.map kV)))(hl:kvs.length<sizeLine) :
  BL H a (.ref b) v (fx H a (.dT (lS kvs k v))):=.inr ⟨kvs,k,b,e,rfl,eb,hl,rfl⟩
section
variable{X:Cx}{pins:List (Addr×Obj)}{σ:St}{H:Hp}{s:Shared}{a:Addr}{y v:V}{u r:Value}{o:Option V}{A:Around}{E:Value->Shared->Prop}
theorem bi.big(I:bi X pins σ H s):sysModules<s.heap.objs.size:=by
 have h:mainGlobals<s.heap.objs.size:=(I.mod.glob.keeps I.bk).lt
 exact p5 (by decide) h
theorem BM{Q:Value->Shared->Prop}(hu:A.units+1<cLine)(I:bi X pins σ H s)(g:qV H a y (some v))(ry:bN y u)(h:∀w' s',bi X pins σ H s'->bN v w'->Q w' s') :
  wpAny (model X.prog X.w) A (getItem (.ref a) u) Q E s:=by
 rcases g with⟨kvs,k,e,ey,l⟩|⟨kvs,k,b,e,ey,eb,l⟩
 ·subst ey
  obtain⟨z,hd,vs,jl,dd⟩:=qF I.hok e
  obtain⟨w',hw,kJ⟩:=oJ.some_of (v:=v) (o:=valueAt vs k) (by rw[l];exact jl.val k)
  exact lK (rQ ry) dd.mapOf hw (h w' _ (I.tok _) kJ)
 ·subst ey
  cases(show u=Value.ref b from ry)
  obtain⟨z,hd,xs,jl,dd⟩:=xi I.hok e
  obtain⟨w',hw,kJ⟩:=oJ.some_of (v:=v) (o:=(atKey xs k).map (·.2)) (by rw[l];exact jl.val k)
  obtain⟨p,hp,hp2⟩:=aY.mp hw
  refine wpAny_getItem_heap (kg hu) (vy I.hok eb) dd hp ?_
  rw[hp2]
  exact h w' _ (I.tok _) kJ
theorem GU{Q:Value->Shared->Prop}(hu:A.units+1<cLine)(I:bi X pins σ H s)(g:qV H a y o)(ry:bN y u)(h:∀s',bi X pins σ H s'->Q (.bool (!o.isSome)) s') :
  wpAny (model X.prog X.w) A (compareOp .NotIn u (.ref a)) Q E s:=by
 rcases g with⟨kvs,k,e,ey,l⟩|⟨kvs,k,b,e,ey,eb,l⟩
 ·subst ey
  obtain⟨z,hd,vs,jl,dd⟩:=qF I.hok e
  refine wpAny_notIn_of (rQ ry) hd dd.mapOf ?_
  rw[<- (jl.val k).isSome_eq,<- l]
  exact h _ (I.tok _)
 ·subst ey
  cases(show u=Value.ref b from ry)
  obtain⟨z,hd,xs,jl,dd⟩:=xi I.hok e
  refine wpAny_notIn_heap (kg hu) (vy I.hok eb) hd dd ?_
  have q:=(jl.val k).isSome_eq
  rw[gS]at q
  rw[<- q,<- l]
  exact h _ (I.tok _)
theorem lT{h':Heap}{t':Nat}{ob:HO}(I:bi X pins σ H s)(mu:JO (H a))(hs:Heap.SameBut a s.heap h')(he:∃q,h'.get? a=some q)(new:eZ X.prog X.w (fx H a ob) h' a ob) :
  bi X pins σ (fx H a ob) { s with heap:=h',toks:=t' }:=
 I.write (x:=a) (e:=a) mu (.inl rfl) (fun b q hb z=>(hs.2 b hb).trans z) he new
theorem yZ{P:Program}{w:World}{H':Hp}{h':Heap}{kvs:List (gc×V)}{vs:List (gc×Value)}(z:kvs.length<=sizeLine)(hd:(a==sysModules)=false)(jl:KV kvs vs)(dd:h'.DictOf (eU P w) a vs) :
  eZ P w H' h' a (.dK kvs):=⟨z,hd,vs,jl,dd⟩
theorem BN{H':Hp}{Q:Unit->Shared->Prop}(hu:A.units+1<cLine)(I:bi X pins σ H s)(g:BL H a y v H')(ry:bN y u)(rv:bN v r)(h:∀s',bi X pins σ H' s'->Q () s') :
  wpAny (model X.prog X.w) A (setItem (.ref a) u r) Q E s:=by
 rcases g with⟨kvs,k,e,ey,l,eH⟩|⟨kvs,k,b,e,ey,eb,l,eH⟩
 ·subst ey eH
  obtain⟨z,hd,vs,jl,dd⟩:=Av I.hok e
  have hz:vs.length<=sizeLine:=by rw[<- jl.length];exact z
  have hl:(lS kvs k v).length<=sizeLine:=by have:=nn kvs k v;omega
  refine wpAny_setItem_pairs (hsz:=hz) (rQ ry) dd fun h' dd' hs=>h _ ?_
  have he:∃q,h'.get? a=some q:=let ⟨q,_,_,hq,_⟩:=dd';⟨q,hq⟩
  exact lT I (by rw[e];exact True.intro) hs he (yZ hl hd (jl.put k rv) dd')
 ·subst ey eH
  cases(show u=Value.ref b from ry)
  obtain⟨z,hd,xs,jl,dd⟩:=Ni I.hok e
  have hz:xs.length<=sizeLine:=by rw[<- Paired.length jl];exact z
  have hl:(lS kvs k v).length<=sizeLine:=by have:=nn kvs k v;omega
  refine wpAny_setItem_heap (hsz:=hz) (kg hu) (vy I.hok eb) dd fun h' dd' hs=>h _ ?_
  obtain⟨q,es,ep,hq,h2,h3,h4,_,h5⟩:=dd'
  refine lT I (by rw[e];exact True.intro) hs ⟨q,hq⟩ ⟨hl,hd,_,(jl.put k eb rv).keeps fun c ys ec=>?_,q,es,ep,hq,h2,h3,h4,h5⟩
  rw[bV (MH ec e (fun z=>nomatch z))]
  exact ec
end
section
variable{X:Cx}{pins:List (Addr×Obj)}{σ:St}{H:Hp}{s:Shared}{a:Addr}{kvs:List (gc×V)}{k:gc}{u:Value}{A:Around}{E:Value->Shared->Prop}
theorem Nj{v:V}{kZ:List Value}{Q:Value->Shared->Prop}(I:bi X pins σ H s)(e:H a=some (.dK kvs))(ry:bN (kV k) u)(l:jp kvs k=some v)(hm:kZ=[]\/∃x,kZ=[x])
  (h:∀w' s',bi X pins σ (fx H a (.dK (mK kvs k))) s'->bN v w'->Q w' s'):wpAny (model X.prog X.w) A (call (.builtin "dict.pop") (.ref a::u::kZ)) Q E s:=by
 obtain⟨z,hd,vs,jl,dd⟩:=Av I.hok e
 obtain⟨w',hw,kJ⟩:=oJ.some_of (v:=v) (o:=valueAt vs k) (by rw[<- l];exact jl.val k)
 have hp:(keyPart u).isSome=true:=by
  cases k with
  |inl i=>obtain⟨t,q⟩:=(show ∃t,u=Value.int i t from ry);subst q;rfl
  |inr x=>obtain⟨t,q⟩:=(show ∃t,u=Value.str x t from ry);subst q;rfl
 have ha:argsOk "dict.pop" ⟨.ref a::u::kZ,[]⟩:=by
  rcases hm with q|⟨x,q⟩
  ·subst q;exact PySem.F.args_dict_pop_2 _ _
  ·subst q;exact PySem.F.args_dict_pop_3 _ _ _
 refine jT PySem.F.slot_dict_pop dd.typeIs PySem.F.entry_dict_pop ha (meets_dict_pop_there (eU X.prog X.w) a (rQ ry) kZ hm hp)
  ⟨vs,w',dd,by rw[<- jl.length];exact z,hw,fun h' dd' hs=>h w' _ ?_ kJ⟩
 have he:∃q,h'.get? a=some q:=let ⟨q,_,_,hq,_⟩:=dd';⟨q,hq⟩
 exact lT I (by rw[e];exact True.intro) hs he (yZ (aV (Df kvs k) z) hd (jl.drop k) dd')
theorem Nk{Q:Value->Shared->Prop}(I:bi X pins σ H s)(e:Rd H a (.dK kvs))(h:∀t s',bi X pins σ H s'->Q (.int kvs.length t) s'):wpAny (model X.prog X.w) A (call (.builtin "len") [.ref a]) Q E s:=by
 obtain⟨z,hd,vs,jl,dd⟩:=qF I.hok e
 refine call_len_dict hd dd (by rw[<- jl.length];rw[kL]at z;omega) ?_
 rw[<- jl.length]
 exact h _ _ (I.tok _)
end
def Dg(i:Expr):Prop:=∀ov iv,subscripted i false ov iv=operate [ov,iv] (getItem ov iv)
theorem vz{prog:Program}{w:World}{A:Around}{E:Value->Shared->Prop}{s:Shared}{env:Env}{value slice:Expr}{pos:Pos}{T id:String}{Q:Value->Shared->Prop}
  (hl:typeLookup (.type T) "__getitem__"=pure (some (.builtin id))) (hs:Dg slice)
  (h:wpAny (model prog w) A (eval value env) (fun o s₁=>wpAny (model prog w) A (eval slice env) (fun i s₂=>s₂.TypeIs o T/\wpAny (model prog w) A (getItem o i) Q E s₂) E s₁) E s) :
  wpAny (model prog w) A (eval (.Subscript value slice pos) env) Q E s:=by
 refine Subscript_ (bX h (fun o s₁ h₁=>bX h₁ (fun i s₂ h₂=>?_) fun _ _ x=>x) fun _ _ x=>x)
 obtain⟨hT,h₂⟩:=h₂
 unfold subscriptTail
 refine ah ?_
 rw[getitemInPython_of_ne hT.not_modules]
 refine ah (fO hT hl ?_)
 have fin:wpAny (model prog w) A (subscripted slice false o i) (fun r s₃=>wpAny (model prog w) A (letTemporaryGo value o r >>= fun _=>pure r) Q E s₃) E s₂:=by
  rw[hs o i]
  exact wpAny_operating (bX h₂ (fun r s₃ h₃=>ah (wpAny_letTemporaryGo (av h₃))) fun _ _ x=>x)
 first
  |exact av (ah fin)
  |exact ah (av (ah fin))
  |exact ah fin
theorem xj{X:Cx}{pins:List (Addr×Obj)}{σ:St}{H:Hp}{s:Shared}{a:Addr}{y:V}{o:Option V}(I:bi X pins σ H s)(g:qV H a y o):s.TypeIs (.ref a) "dict":=by
 rcases g with⟨kvs,k,e,_,_⟩|⟨kvs,k,b,e,_,_,_⟩
 ·obtain⟨_,_,vs,_,dd⟩:=qF I.hok e
  exact dd.typeIs
 ·obtain⟨_,_,xs,_,dd⟩:=xi I.hok e
  exact dd.typeIs
def Nl(td ty:TE):TE:=fun σ H Q=>td σ H fun x H1=>ty σ H1 fun y H2=>∃a v,x=.ref a/\qV H2 a y (some v)/\Q v H2
section
variable{X:Cx}{o i e value:Expr}{pos iD Q7:Pos}{td ty tv:TE}
theorem GV(hu:X.A.units+1<cLine)(ho:PE X o td)(hi:PE X i ty)(hs:Dg i):PE X (.Subscript o i pos) (Nl td ty):=by
 intro pins s σ H Q I h
 refine vz PySem.F.slot_dict_getitem.lookup hs (gq (ho pins s σ H _ I h) fun u s1 ⟨x,H1,I1,rx,q1⟩=>gq (hi pins s1 σ H1 _ I1 q1) fun iv s2 ⟨y,H2,I2,ry,a,v,ex,g,q2⟩=>?_)
 subst ex
 obtain rfl:u=Value.ref a:=rx
 exact⟨xj I2 g,BM hu I2 g ry fun w' s3 I3 kJ=>⟨v,H2,I3,kJ,q2⟩⟩
end
theorem xk{P:Program}{w:World}{H:Hp}(h:Heap)(hb:sysModules<h.objs.size):eZ P w H (h.push { cls:=.type "dict",data:=.dict #[] }) h.objs.size (.dK []):=
 ⟨df _,ba.mpr (Ne.symm (a8 hb)),[],.nil,Heap.DictOf.new h⟩
def Ko:TE:=fun _ H Q=>∀p,H p=none->Q (.ref p) (fx H p (.dK []))
section
variable{X:Cx}{pos:Pos}
theorem Dh:PE X (.Dict [] [] pos) Ko:=fun pins s σ H Q I h=>
 wpAny_Dict_empty ⟨.ref s.heap.objs.size,_,I.laid (a:=s.heap.objs.size) (o:=.dK []) (t':=s.toks) (fun _ _ q=>aq _ q) (aB _) (xk s.heap I.big),rfl,h _ (I.hok.fresh (aB _))⟩
end
def vA:List (TE×TE)->St->Hp->(List (V×V)->Hp->Prop)->Prop
 |[],_,H,Q=>Q [] H
 |(tk,tv)::r,σ,H,Q=>tk σ H fun x H1=>tv σ H1 fun y H2=>vA r σ H2 fun ps H3=>Q ((x,y)::ps) H3
abbrev VV:List (V×V)->List (Value×Value)->Prop:=Paired fun p q=>bN p.1 q.1/\bN p.2 q.2
def Nm(X:Cx)(pos:Pos)(keys:List (Option Expr))(j7:List Expr)(Am:List (TE×TE)):Prop:=
 ∀(pins:List (Addr×Obj)) (s:Shared) (σ:St) (H:Hp) (Q:List (V×V)->Hp->Prop),bi X pins σ H s->vA Am σ H Q ->
  wpAny (model X.prog X.w) X.A (evalPairs (pairTrees keys j7 X.env pos)) (fun vs s'=>∃ps H',bi X pins σ H' s'/\VV ps vs/\Q ps H') X.xe s
theorem GW{X:Cx}{pos:Pos}:Nm X pos [] [] []:=fun pins s σ H Q I h=>pairTrees_nil_walk ⟨[],H,I,.nil,h⟩
theorem Di{X:Cx}{pos:Pos}{k v:Expr}{ks:List (Option Expr)}{vs:List Expr}{tk tv:TE}{Am:List (TE×TE)}(hk:PE X k tk)(hv:PE X v tv)(hr:Nm X pos ks vs Am) :
  Nm X pos (some k::ks) (v::vs) ((tk,tv)::Am):=fun pins s σ H Q I h=>
 pairTrees_cons_walk (gq (hk pins s σ H _ I h) fun u s1 ⟨x,H1,I1,rx,q1⟩=>gq (hv pins s1 σ H1 _ I1 q1) fun w2 s2 ⟨y,H2,I2,ry,q2⟩=>
  gq (hr pins s2 σ H2 _ I2 q2) fun ws s3 ⟨ps,H3,I3,jl,q3⟩=>⟨(x,y)::ps,H3,I3,.cons ⟨rx,ry⟩ jl,q3⟩)
def no(kvs kZ:List (gc×V)):List (gc×V):=kZ.foldl (fun acc kv=>lS acc kv.1 kv.2) kvs
theorem KV.merge:∀{kZ:List (gc×V)} {rs:List (gc×Value)} {kvs:List (gc×V)} {vs:List (gc×Value)},KV kZ rs->KV kvs vs->KV (no kvs kZ) (merged vs rs):=by
 intro kZ rs kvs vs r
 unfold KV at r
 induction r generalizing kvs vs with
 |nil=>intro q;exact q
 |@cons p q ps qs h t ih=>
  intro r0
  have e:KV (lS kvs p.1 p.2) (stored vs q.1 q.2):=by
   have:=r0.put p.1 h.2
   rw[<- h.1];exact this
  exact ih e
theorem ol:∀(kZ kvs:List (gc×V)),(no kvs kZ).length<=kvs.length+kZ.length
 |[],kvs=>by show kvs.length<=kvs.length+0;omega
 |p::r,kvs=>by
  have h1:=ol r (lS kvs p.1 p.2)
  have h2:=nn kvs p.1 p.2
  show(no (lS kvs p.1 p.2) r).length<=_
  rw[bu];omega
theorem rR{P:Program}{w:World}:∀{kvs:List (gc×V)} {ws:List (Value×Value)},VV (kvs.map fun kv=>(kV kv.1,kv.2)) ws->∃rs,Carries (eU P w) ws rs/\KV kvs rs
 |[],_,r=>by rw[eB]at r;cases r;exact⟨[],True.intro,.nil⟩
 |p::kvs,_,r=>by
  rw[aR]at r
  cases r with
  |@cons a b as bs h t=>
   obtain⟨rs,c,q⟩:=rR (P:=P) (w:=w) t
   obtain⟨b1,b2⟩:=b
   exact⟨(p.1,b2)::rs,⟨rQ h.1,rfl,c⟩,.cons ⟨rfl,h.2⟩ q⟩
def Nn(Am:List (TE×TE)):TE:=fun σ H Q=>∀p,H p=none->vA Am σ (fx H p (.dK [])) fun ps H2=>H2 p=some (.dK [])/\∃kvs:List (gc×V),ps=kvs.map (fun kv=>(kV kv.1,kv.2))/\kvs.length<=15/\Q (.ref p) (fx H2 p (.dK (no [] kvs)))
theorem GX{X:Cx}{pos:Pos}{keys:List (Option Expr)}{j7:List Expr}{Am:List (TE×TE)}(h:Nm X pos keys j7 Am)(m3:keys.all (·.isSome)=true)(hl:keys.length=j7.length)(h0:keys≠[])
  (QX:keys.length<=15):PE X (.Dict keys j7 pos) (Nn Am):=by
 intro pins s σ H Q I q
 have hn:=I.hok.fresh (aB s.heap.objs.size)
 have I1:=I.laid (a:=s.heap.objs.size) (o:=.dK []) (h':=s.heap.push { cls:=.type "dict",data:=.dict #[] }) (t':=s.toks) (fun _ _ q=>aq _ q) (aB _) (xk s.heap I.big)
 refine wpAny_Dict_walk (knd:=eU X.prog X.w) m3 hl h0 QX (gq (h pins _ σ _ _ I1 (q _ hn)) fun ws s2 ⟨ps,H2,I2,jl,e,kvs,ep,lk,q2⟩=>?_)
 subst ep
 obtain⟨rs,c,rk⟩:=rR (P:=X.prog) (w:=X.w) jl
 obtain⟨z,hd,vs0,r0,dd⟩:=Av I2.hok e
 cases r0
 refine⟨rs,c,dd,fun h' dd' hs=>⟨.ref s.heap.objs.size,_,?_,rfl,q2⟩⟩
 have hz:(no [] kvs).length<=sizeLine:=by
  have h1:=ol kvs []
  rw[dU]at h1
  rw[kL];omega
 have he:∃q,h'.get? s.heap.objs.size=some q:=let ⟨q,_,_,hq,_⟩:=dd';⟨q,hq⟩
 exact lT I2 (by rw[e];exact True.intro) hs he (yZ hz hd (rk.merge .nil) dd')
structure M1(X:Cx)(o:Expr)(m:Str)(fT:Pos)(e:Expr)(du:Pos):Prop where
 base:attributeBase o m X.env (eval o X.env)=eval o X.env
 few:((backTo du (starEach [e] X.env)).all (fun x=>!x.1)&&(backToKw du (keywordEach [] X.env)).all (fun x=>x.1.isSome)
  && decide (([e]:List Expr).length+([]:List Keyword).length+(if ([]:List Keyword).isEmpty then 0 else 1)<30))=true
 line:(fT.endLine==du.line)=true
 trees:backTo du (starEach [e] X.env)=[(false,eval e X.env)]
structure M2(X:Cx)(o:Expr)(m:Str)(fT:Pos)(e f:Expr)(du:Pos):Prop where
 base:attributeBase o m X.env (eval o X.env)=eval o X.env
 few:((backTo du (starEach [e,f] X.env)).all (fun x=>!x.1)&&(backToKw du (keywordEach [] X.env)).all (fun x=>x.1.isSome)
  && decide (([e,f]:List Expr).length+([]:List Keyword).length+(if ([]:List Keyword).isEmpty then 0 else 1)<30))=true
 line:(fT.endLine==du.line)=true
 trees:backTo du (starEach [e,f] X.env)=[(false,eval e X.env),(false,eval f X.env)]
def Q_(H:Hp)(a:Addr):Prop:=(∃kvs,Rd H a (.dK kvs))\/∃kvs,Rd H a (.dT kvs)
theorem Kp{X:Cx}{pins:List (Addr×Obj)}{σ:St}{H:Hp}{s:Shared}{a:Addr}(I:bi X pins σ H s)(d:Q_ H a) :
  s.TypeIs (.ref a) "dict"/\(∀b,Value.ref a=.ref b->∃ob,s.heap.get? b=some ob/\ob.dict=none)/\(a==sysModules)=false:=by
 rcases d with⟨kvs,e⟩|⟨kvs,e⟩
 ·obtain⟨_,hd,vs,_,dd⟩:=qF I.hok e
  refine⟨dd.typeIs,fun b q=>?_,hd⟩
  cases q
  obtain⟨ob,_,_,h1,h2,_⟩:=dd
  exact⟨ob,h1,h2.2.1⟩
 ·obtain⟨_,hd,xs,_,dd⟩:=xi I.hok e
  refine⟨dd.typeIs,fun b q=>?_,hd⟩
  cases q
  obtain⟨ob,_,_,h1,h2,_⟩:=dd
  exact⟨ob,h1,h2.2.1⟩
section
variable{X:Cx}{pins:List (Addr×Obj)}{σ:St}{H:Hp}{s:Shared}{a:Addr}{y d:V}{u r:Value}{o:Option V}{A:Around}{E:Value->Shared->Prop}
end
def Kq(td ty:TE):TE:=fun σ H Q=>td σ H fun x H1=>∃a,x=.ref a/\Q_ H1 a/\ty σ H1 fun y H2=>∃kvs k v,H2 a=some (.dK kvs)/\y=kV k/\jp kvs k=some v/\Q v (fx H2 a (.dK (mK kvs k)))
section
variable{X:Cx}{o e f:Expr}{fT du:Pos}{td ty tx:TE}
theorem Dj(ho:PE X o td)(he:PE X e ty)(m:M1 X o "pop" fT e du):PE X (.Call (.Attribute o "pop" fT) [e] [] du) (Kq td ty):=by
 intro pins s σ H Q I h
 refine kN m.base m.few m.line PySem.F.plainAttrs_dict PySem.F.slot_dict_pop PySem.F.type_dict_pop (gq (ho pins s σ H _ I h) fun u s1 ⟨x,H1,I1,rx,a,ex,d,q1⟩=>?_)
 subst ex
 obtain rfl:u=Value.ref a:=rx
 obtain⟨t1,t2,_⟩:=Kp I1 d
 refine⟨t1,t2,?_⟩
 rw[m.trees]
 refine gz rfl (gY (fD (gq (he pins s1 σ H1 _ I1 q1) fun iv s2 ⟨y,H2,I2,ry,kvs,k,v,ea,ey,l,q2⟩=>iF ?_)))
 subst ey
 exact Nj I2 ea ry l (.inl rfl) fun w' s3 I3 kJ=>⟨v,_,I3,kJ,q2⟩
end
section
variable{X:Cx}{pins:List (Addr×Obj)}{σ:St}{H:Hp}{s:Shared}{a:Addr}{kvs:List (gc×V)}{A:Around}{E:Value->Shared->Prop}
end
section
variable{X:Cx}{pins:List (Addr×Obj)}{σ:St}{H:Hp}{s:Shared}{a:Addr}{y:V}{u:Value}{A:Around}{E:Value->Shared->Prop}
end
section
variable{X:Cx}
end
section
variable{κ:Type}[DecidableEq κ]
theorem BO{p:κ×V}{r:List (κ×V)}{k:κ}(e:p.1=k):mK (p::r) k=mK r k:=by
 unfold mK
 rw[bU,aD (by simp[e])]
theorem BP{p:κ×V}{r:List (κ×V)}{k:κ}(e:¬ p.1=k):mK (p::r) k=p::mK r k:=by
 unfold mK
 rw[bU,ax (by simp[e])]
end
end L2
set_option maxHeartbeats 4000000
namespace L2
open PySem PySem.Spec PyProof.Rows
abbrev bI(X:Cx)(nm:List Str)(scope:Scope)(cl:List (Str×Addr))(C:Addr)(s0:Shared)(H0:Hp)(fp:List Addr):Cx:=
 { X with N:=nm,s₀:=s0,H₀:=H0,env:=compEnvC scope cl C X.env,outer:=X.stack,stack:=X.stack,ex:=fp,fn:=fun _=>false,pn:=[],xe:=fun _ _=>False }
def GY(X:Cx)(nh:List Expr)(t:TT):Prop:=
 ∀(pins:List (Addr×Obj)) (s:Shared) (σ:St) (H:Hp) (Q:Bool->Hp->Prop),bi X pins σ H s->t σ H Q ->
  wpAny (model X.prog X.w) X.A (forIn nh true fun c r=>if r=true then do let ok <- isTrue c X.env (eval c X.env);pure (ForInStep.yield ok)else pure (ForInStep.yield r)) (TP X pins σ Q) X.xe s
def Qk:TT:=fun _ H Q=>Q true H
theorem GZ{X:Cx}:GY X [] Qk:=fun _ _ _ H _ I h=>wpAny_tests_nil ⟨H,I,h⟩
theorem G0{X:Cx}{c:Expr}{t:TT}(hc:PT X c t):GY X [c] t:=fun pins s σ H Q I h=>wpAny_tests_one (hc pins s σ H Q I h)
def lr(cap:List (Option Nat))(σ:St):St:=cap.map fun o=>o.bind fun j=>(σ[j]?).join
def uE(cap:List (Option Nat))(wi:TI)(g:TG)(tc:TT)(te:TE):TE:=fun σ H Q=>wi σ H fun J H1=>∃W:Nat->Nat->List V->Hp->Prop,(∃m,W 0 m [] H1)/\∀i m ys H2,W i m ys H2 ->
 (J.stop i H2/\ys.length<=sizeLine/\∀p,H2 p=none->Q (.ref p) (fx H2 p (.lst ys))) \/
 (J.go i H2/\∀x H3,J.yld i H2 x H3->g x (lr cap σ) H3 fun σ2 H4=>tc σ2 H4 fun b H5=>if b=true then te σ2 H5 fun y H6=>ys.length<sizeLine/\∃m',m'<m/\W (i+1) m' (ys++[y]) H6 else ∃m',m'<m/\W (i+1) m' ys H5)
theorem Un.cellK{fs ex:List Addr}{H H':Hp}{h h':Heap}(u:Un fs ex H H' h h'){c:Addr}{v:Option Value}(x:h.IsCell c v)(n:H c=none)(he:c∉ex):h'.IsCell c v:=by
 obtain⟨o,ho,hd⟩:=x
 obtain⟨sl,q⟩:=u.any ho n he
 exact⟨_,q,hd⟩
structure Dk(X:Cx)(scope:Scope)(cl:List (Str×Addr))(x:Str):Prop where
 vis:MI X.env.scope x
 nl:X.env.scope.names.lookup x≠some .local
 cl:cl.lookup x=X.env.cells.lookup x
 kd:(relabel scope X.env).names.lookup x=some .cell\/(relabel scope X.env).names.lookup x=some .free
section
variable{X:Cx}{oh tg iter:Expr}{nh:List Expr}{scope:Scope}{pos:Pos}{nm:List Str}{cl:List (Str×Addr)}{cap:List (Option Nat)}{wi:TI}{g:TG}{tc:TT}{te:TE}
theorem Aw{pins JI:List (Addr×Obj)}{σ σ2:St}{H1 H:Hp}{s2 s:Shared}{C:Addr}{fp:List Addr}
  (Af:∀(i j:Nat),cap[i]?=some (some j)->∃x,nm[i]?=some x/\X.N[j]?=some x/\Dk X scope cl x) (dw:cap.length=nm.length)
  (I2:bi X pins σ H1 s2) (RU:∀b∈fp,∀x c,X.env.cells.lookup x=some c->c≠b)
  (I:bi (bI X nm scope cl C s2 H1 fp) JI σ2 H s):bi (bI X nm scope cl C s2 H1 fp) JI (lr cap σ) H s:=by
 refine⟨I.ok,I.os,I.bare,I.base,?_,I.cell,I.free,I.freeC,I.pin,I.hok,by show(lr cap σ).length=nm.length;unfold lr;rw[al];exact dw⟩
 obtain⟨m,hn,_⟩:=I.loc
 refine⟨m,hn,fun i x v e1 e2 e3=>?_⟩
 unfold lr at e2
 rw[ar]at e2
 cases hc:cap[i]? with
 |none=>rw[hc]at e2;cases e2
 |some oj=>
  cases oj with
  |none=>rw[hc]at e2;cases e2
  |some j=>
   rw[hc]at e2
   have e2':(σ[j]?).join=some v:=by simpa using e2
   have e2:σ[j]?=some (some v):=by
    cases hs:σ[j]? with
    |none=>rw[hs]at e2';cases e2'
    |some ov=>rw[hs]at e2';simp at e2';rw[e2']
   obtain⟨x',f1,f2,k⟩:=Af i j hc
   have hx:x'=x:=by
    have z:nm[i]?=some x:=e1
    rw[f1]at z;exact a9 z
   subst hx
   obtain⟨m2,_,hl2⟩:=I2.loc
   obtain⟨u,r,l⟩:=hl2 j x' v f2 e2 k.vis
   refine⟨u,r,?_⟩
   rcases l with⟨kl,_⟩|⟨_,c,hcc,iT⟩
   ·exact absurd kl k.nl
   ·refine .inr ⟨k.kd,c,by rw[<- hcc];exact k.cl,?_⟩
    exact I.base.cellK iT (I2.freeC _ _ hcc) fun z=>RU c z _ _ hcc rfl
theorem pb{prog:Program}{w:World}{A:Around}{E:Value->Shared->Prop}{s:Shared}{l:Addr}{bj:List Value}{n:Nat}{u:Value}{Q:Value->Shared->Prop}
  (e:s.heap.get? l=some { cls:=.type "list",data:=.seq bj.toArray n }) (hz:bj.length<sizeLine)
  (h:∀(h':Heap) (n' tk:Nat),h'.get? l=some { cls:=.type "list",data:=.seq (bj++[u]).toArray n' }->(∀b o,b≠l->s.heap.get? b=some o->h'.get? b=some o)->Q .none { s with heap:=h',toks:=tk }) :
  wpAny (model prog w) A (call (.builtin "list.append") [.ref l,u]) Q E s:=by
 refine mw F.slot_list_append ⟨_,e,rfl⟩ F.entry_list_append (F.args_list_append_2 _ _) (PySem.list_append l bj.toArray n u (by rw[aJ];omega)) ⟨e,?_⟩
 have q:=PySem.IsL.update e (fun a=>a.push u)
 have q2:(s.heap.update l (Obj.mapSeq fun x=>x.push u)).get? l=some { cls:=.type "list",data:=.seq (bj++[u]).toArray (if ((bj.toArray.push u).size==bj.toArray.size)=true then n else n+1) }:=by
  rw[show(s.heap.update l (Obj.mapSeq fun x=>x.push u)).get? l=_ from q];simp
 exact h _ _ s.toks q2 fun b o hb ho=>(iG s.heap (Obj.mapSeq _) (Ne.symm hb)).trans ho
theorem Ax(iE:X.calm=true)(F9:closureFor scope X.env=pure cl)(k6:∀x c,cl.lookup x=some c->X.env.cells.lookup x=some c)
  (h_:scope.kind=.function) (Ag:∀x∈scope.names,x.2=.local->scope.names.lookup x.1=some .local) (iT:∀y∈scope.names,y.2≠.cell)
  (Mr:∀x,((relabel scope X.env).names.lookup x=some .cell\/(relabel scope X.env).names.lookup x=some .free)->∃c,cl.lookup x=some c)
  (Af:∀(i j:Nat),cap[i]?=some (some j)->∃x,nm[i]?=some x/\X.N[j]?=some x/\Dk X scope cl x) (dw:cap.length=nm.length)
  (hi:PI X tg iter wi) (hg:∀C s0 H0 fp,PG (bI X nm scope cl C s0 H0 fp) tg g) (ht:∀C s0 H0 fp,GY (bI X nm scope cl C s0 H0 fp) nh tc)
  (he:∀C s0 H0 fp,PE (bI X nm scope cl C s0 H0 fp) oh te) (hs:∀x,foldedSetIterable iter X.env x=pure x:=by intro _;rfl) :
  PE X (.ListComp oh [⟨tg,iter,nh,0⟩] scope pos) (uE cap wi g tc te):=by
 intro pins s σ H Q I h
 rw[eval_ListComp]
 refine la (use:=none) rfl hs F9 h_ Ag (gq (hi pins s σ H _ I h) fun v s1 h1=>gq h1 fun PL s2 h2=>?_)
 obtain⟨it,fp,tn,J,H1,e,I2,T,cQ,f2,W,⟨m0,w0⟩,turn⟩:=h2
 subst e
 have hfpn:∀b∈fp,b<s2.heap.objs.size:=fun b hb=>let ⟨o,ho,_⟩:=T.obj _ _ cQ b hb;aF ho
 have hfpc:∀b∈fp,∀x c,X.env.cells.lookup x=some c->c≠b:=fun b hb=>(f2 b hb).2.2.2.2.1
 refine dQ (jm iT (by intro y hy;simp at hy) (fun h₁ hns₁ hsb₁=>?_) h_)
 dsimp only at hns₁ hsb₁ ⊢
 generalize hH2:s2.heap.push { cls:=.type "list",dict:=none,data:=.seq ([]:List Value).toArray }=G2 at hns₁ hsb₁ ⊢
 have hC:G2.objs.size=s2.heap.objs.size+1:=by rw[<- hH2,fC]
 have hDC:s2.heap.objs.size≠G2.objs.size:=by rw[hC];exact a8 (gm _)
 have old:∀b o,s2.heap.get? b=some o->h₁.get? b=some o:=fun b o e=>hsb₁.extBut b o (by rw[hC];exact a8 (fW (aF e))) (aq _ (hH2▸aq _ e))
 have hacc:h₁.get? s2.heap.objs.size=some { cls:=.type "list",data:=.seq ([]:List Value).toArray }:=hsb₁.extBut _ _ hDC (aq _ (hH2▸aL _ rfl))
 have okB:(bI X nm scope cl G2.objs.size s2 H1 fp).Ok:=by
  refine⟨I2.ok.mod,h_,I2.ok.glob,I2.ok.blt,by show s2.heap.objs.size<=G2.objs.size;omega,fun x y c h1 h2=>I2.ok.inj x y c (k6 _ _ h1) (k6 _ _ h2),fun x hx=>Mr x hx,fun x c h0=>(by cases h0),fun hc=>I2.ok.hd iE,I2.ok.frames,.inl rfl,?_,?_,?_,?_,?_,?_,?_⟩
  ·intro b hb
   exact⟨a8 (a6 (hfpn b hb) (by show _<=G2.objs.size;omega)),fun x c hx=>hfpc b hb x c (k6 _ _ hx)⟩
  ·exact fun b o hb=>I2.bs b o hb
  ·exact aV I2.ok.bsz I2.sz
  ·intro b o hb z
   rcases(f2 b z).2.2.2.1 with q|q
   ·exact I2.ok.noex b o hb q
   ·exact absurd (aF (I2.ok.bs b o hb).1) (oY.mpr q)
  ·intro b hb z
   rcases a7.mp (I2.stkSub b z)with q|q
   ·exact(f2 b hb).2.1 q
   ·exact(f2 b hb).2.2.1 q
  ·exact I2.stack
  ·exact I2.stkFree
 have I4:bi (bI X nm scope cl G2.objs.size s2 H1 fp) [] (lr cap σ) H1 { s2 with heap:=h₁,toks:=s2.toks+([]:List (Str×Value)).length }:=by
  refine Aw Af dw I2 hfpc (σ2:=List.replicate nm.length none) ⟨okB,rfl,I2.bare,Un.kept old,⟨_,hns₁,fun i x v _ e2=>?_⟩,fun x c hx=>?_,?_,fun x c hx=>I2.freeC x c (k6 _ _ hx),fun p hp=>absurd hp (by simp),I2.hok.kept old,by simp⟩
  ·rw[iw]at e2;split at e2<;>cases e2
  ·obtain⟨v,hv⟩:=I2.cell x c (k6 _ _ hx)
   exact⟨v,hv.keeps old⟩
  ·exact I2.hok.fresh (by show _<=G2.objs.size;omega)
 have hsz0:∀{Hx:Hp} {sx:Shared} {px:List (Addr×Obj)} {σx:St},bi (bI X nm scope cl G2.objs.size s2 H1 fp) px σx Hx sx->Hx s2.heap.objs.size=none->∀{oa:Obj},sx.heap.get? s2.heap.objs.size=some oa->(∀v,oa.data≠.cell v) ->
   bi (bI X nm scope cl G2.objs.size s2 H1 fp) [(s2.heap.objs.size,oa)] σx Hx sx:=fun{Hx sx px σx} Ix hn {oa} ho hd=>Ix.pins_of fun p hp=>by
  have e:p=(s2.heap.objs.size,oa):=by simpa using hp
  subst e
  exact⟨ho,hn,hDC,fun z=>by
   obtain⟨_,o,q,_⟩:=I2.stack.mem z
   exact absurd (aF q) (bx _),hd⟩
 have hfpB:∀{Hx:Hp} {oa:Obj},(∀b∈fp,Hx b=none)->∀b∈fp,n9 (bI X nm scope cl G2.objs.size s2 H1 fp) [(s2.heap.objs.size,oa)] Hx b:=fun{Hx oa} hn b hb=>
  ⟨hn b hb,(okB.exf b hb).1,okB.exfs b hb,.inl hb,(okB.exf b hb).2,fun p hp=>by
   have e:p=(s2.heap.objs.size,oa):=by simpa using hp
   subst e
   exact ml (hfpn b hb)⟩
 have hcalmB:(bI X nm scope cl G2.objs.size s2 H1 fp).calm=true:=iE
 have loop:∀sx:Shared,sx={ s2 with heap:=h₁,toks:=s2.toks+([]:List (Str×Value)).length } ->
   codeAny (model X.prog X.w) X.A (.compLoop (.ListComp oh [⟨tg,iter,nh,0⟩] scope pos) 0 (.ref it) (.ref s2.heap.objs.size) (compEnvC scope cl G2.objs.size X.env))
    (compPost (model X.prog X.w) X.A X.xe none (EP X pins σ Q) (.ref s2.heap.objs.size) G2.objs.size) sx:=by
  rintro sx rfl
  refine codeAny_loop rfl (fun n s'=>∃i ys H',bi (bI X nm scope cl G2.objs.size s2 H1 fp) [] (lr cap σ) H' s'/\tn i s'.heap/\(∀b∈fp,H' b=none)/\H' s2.heap.objs.size=none /\
   (∃bj k,b9 ys bj/\s'.heap.get? s2.heap.objs.size=some { cls:=.type "list",data:=.seq bj.toArray k })/\W i n ys H') ?_ m0
   ⟨0,[],H1,I4,T.keep _ _ _ cQ (fun b _ o e=>old b o e),fun b hb=>(f2 b hb).1,I2.fresh,⟨[],0,.nil,hacc⟩,w0⟩
  rintro n s3 ⟨i,ys,H3,I3,jH,fr3,na3,⟨bj,ka,rv,ea⟩,w3⟩
  show wpAny _ X.A ((compTurn (.ListComp oh [⟨tg,iter,nh,0⟩] scope pos) 0 (.ref it) (.ref s2.heap.objs.size) (compEnvC scope cl G2.objs.size X.env)).onRaise (fun x=>do noteFrame x (compEnvC scope cl G2.objs.size X.env);theTreesLotGoes x)) _ _ s3
  refine wpAny_noted ?_
  rw[compTurn_list]
  refine ah (je ?_)
  have I3p:=hsz0 I3 na3 ea (fun v z=>by cases z)
  rcases turn i n ys H3 w3 with⟨stop,hz,qn⟩|⟨go,step⟩
  ·refine ah (bX (T.done (bI X nm scope cl G2.objs.size s2 H1 fp) rfl rfl rfl hcalmB i _ s3 _ H3 (fun _ _=>False) I3p (hfpB fr3) jH stop) (fun r s4 hr=>?_) fun _ _ z=>z.elim)
   obtain⟨hr,I4'⟩:=hr
   subst hr
   refine av ?_
   obtain⟨m4,hn4,_⟩:=id I4'.loc
   refine⟨m4,hn4,fun h' hs'=>?_⟩
   have pa:=I4'.pin (s2.heap.objs.size,{ cls:=.type "list",data:=.seq bj.toArray ka }) (by simp)
   have ne:∀b o,s2.heap.get? b=some o->b≠s2.heap.objs.size/\b≠G2.objs.size:=fun b o e=>⟨a8 (aF e),a8 (by rw[hC];exact fW (aF e))⟩
   have kp:∀b o,b≠G2.objs.size->s4.heap.get? b=some o->h'.get? b=some o:=fun b o hb e=>hs'.extBut b o hb e
   refine⟨.ref s2.heap.objs.size,fx H3 s2.heap.objs.size (.lst ys),?_,rfl,qn _ na3⟩
   refine I2.call' (ch:=fp) I4'.os ⟨fun b o e n hb hx=>?_,fun b o e n hb hx=>?_,fun b o e n hx=>?_,fun b o e hx=>?_,fun b xs e=>?_,fun b o u e=>?_,fun b ps e=>?_⟩ ?_ I4'.bare fun b hb=>?_
   ·exact kp b o (ne b o e).2 (I4'.base.keep b o e n hb hx)
   ·obtain⟨sl,q⟩:=I4'.base.slot b o e n hb hx
    exact⟨sl,kp b _ (ne b o e).2 q⟩
   ·rw[bV (ne b o e).1];exact I4'.base.free b o e n hx
   ·obtain⟨o',q⟩:=I4'.base.there b o e hx
    exact⟨o',kp b _ (ne b o e).2 q⟩
   ·have q:=I4'.base.tups b xs e
    rw[bV (c_ q na3)];exact q
   ·have q:=I4'.base.frzs b o u e
    rw[bV (c_ q na3)];exact q
   ·obtain⟨mr,q⟩:=I4'.base.tbls b ps e
    exact⟨mr,by rw[bV (c_ q na3)];exact q⟩
   ·intro b o e
    by_cases hb:b=s2.heap.objs.size
    ·subst hb
     rw[eD]at e;cases e
     exact⟨hz,bj,ka,rv,kp _ _ hDC pa.1⟩
    ·rw[bV hb]at e
     refine(I4'.hok b o e).stay (fun c u hc q=>kp c u (fun z=>?_) q) (fun c q=>by rw[bV (c_ q na3)];exact q) fun c xs q=>by rw[bV (c_ q na3)];exact q
     subst z
     have fr:H3 G2.objs.size=none:=I4'.free
     rcases hc with rfl|hc
     ·rw[fr]at e;cases e
     ·rw[fr]at hc;cases hc
   ·obtain⟨_,g1,_,g3,g4,g5⟩:=f2 b hb
    exact⟨g3,g1,g4,g5⟩
  ·refine ah (bX (T.item (bI X nm scope cl G2.objs.size s2 H1 fp) rfl rfl rfl hcalmB i _ s3 _ H3 (fun _ _=>False) I3p (hfpB fr3) jH go) (fun r s4 hr=>?_) fun _ _ z=>z.elim)
   obtain⟨u,hr,h4⟩:=hr
   subst hr
   dsimp only
   refine ah (bX h4 (fun _ s5 h5=>?_) fun _ _ z=>z.elim)
   obtain⟨x,H5,I5,r5,y5,st5,fr5⟩:=h5
   have I5':=I5.pinned (hfpB fr5) (T.obj _ _ st5)
   refine ah (bX (hg _ _ _ _ _ s5 _ H5 x u _ I5' r5 (step x H5 y5)) (fun _ s6 h6=>?_) fun _ _ z=>z.elim)
   obtain⟨σ6,H6,I6,q6⟩:=h6
   refine ah (bX (ht _ _ _ _ _ s6 σ6 H6 _ I6 q6) (fun ok s7 h7=>?_) fun _ _ z=>z.elim)
   obtain⟨H7,I7,q7⟩:=h7
   have back:∀{H8:Hp} {s8:Shared} {Il:List V} {its':List Value} {k':Nat},bi (bI X nm scope cl G2.objs.size s2 H1 fp) [] σ6 H8 s8->(∀b∈fp,∀o,s5.heap.get? b=some o->s8.heap.get? b=some o)->(∀b∈fp,H8 b=none)->H8 s2.heap.objs.size=none ->
     b9 Il its'->s8.heap.get? s2.heap.objs.size=some { cls:=.type "list",data:=.seq its'.toArray k' }->(∃m',m'<n/\W (i+1) m' Il H8) ->
     ∃m,m<n/\∃i ys H',bi (bI X nm scope cl G2.objs.size s2 H1 fp) [] (lr cap σ) H' s8/\tn i s8.heap/\(∀b∈fp,H' b=none)/\H' s2.heap.objs.size=none /\
      (∃bj k,b9 ys bj/\s8.heap.get? s2.heap.objs.size=some { cls:=.type "list",data:=.seq bj.toArray k })/\W i m ys H':=
    fun{H8 s8 Il its' k'} I8 kf f8 n8 rv8 e8 ⟨m',hm,w8⟩=>⟨m',hm,i+1,Il,H8,Aw Af dw I2 hfpc I8,T.keep _ _ _ st5 kf,f8,n8,⟨its',k',rv8,e8⟩,w8⟩
   cases ok with
   |false=>
    refine av ⟨rfl,?_⟩
    have q7':∃m',m'<n/\W (i+1) m' ys H7:=by simpa using q7
    have pa:=I7.pin (s2.heap.objs.size,{ cls:=.type "list",data:=.seq bj.toArray ka }) (by simp)
    refine back (I7.pins_of fun p hp=>absurd hp (by simp)) (fun b hb o e=>?_) (fun b hb=>?_) pa.2.1 rv pa.1 q7'
    ·exact(I7.pin (b,o) (aK _ (aK _ (fX hb e)))).1
    ·obtain⟨o,e,d⟩:=T.obj _ _ st5 b hb
     exact(I7.pin (b,o) (aK _ (aK _ (fX hb e)))).2.1
   |true=>
    rw[ax rfl]at q7
    refine ah (ah (bX (he _ _ _ _ _ s7 σ6 H7 _ I7 q7) (fun xv s8 h8=>?_) fun _ _ z=>z.elim))
    obtain⟨y,H8,I8,r8,hzy,q8⟩:=h8
    have pa:=I8.pin (s2.heap.objs.size,{ cls:=.type "list",data:=.seq bj.toArray ka }) (by simp)
    refine ah (pb pa.1 (by rw[<- rv.length];exact hzy) fun h' k' tk e9 sb=>?_)
    refine av (av ⟨rfl,?_⟩)
    have I9:bi (bI X nm scope cl G2.objs.size s2 H1 fp) [] σ6 H8 { s8 with heap:=h',toks:=tk }:=
     (bi.pins_of (pins':=[]) I8 fun p hp=>absurd hp (by simp)).turned (it:=s2.heap.objs.size) (fun b o hb e=>sb b o hb e) pa.2.1 hDC (.inr (aB _)) (fun x c hx z=>by
      obtain⟨v,hv⟩:=I2.cell x c (k6 _ _ hx)
      exact absurd hv.lt (by rw[z];exact bx _)) (fun p hp=>absurd hp (by simp))
    refine back I9 (fun b hb o e=>?_) (fun b hb=>?_) pa.2.1 (rv.append (.cons r8 .nil)) e9 q8
    ·exact sb b o (a8 (hfpn b hb)) (I8.pin (b,o) (aK _ (aK _ (fX hb e)))).1
    ·obtain⟨o,e,d⟩:=T.obj _ _ st5 b hb
     exact(I8.pin (b,o) (aK _ (aK _ (fX hb e)))).2.1
 exact mz (loop _ rfl) (T.self _ _ _ _ _ (T.keep _ _ _ cQ fun b _ o e=>old b o e) (loop _ rfl))
end
def tx(l:List Nat):Str:=⟨l.toArray⟩
theorem Kr(l:List Nat):(tx l).cps.toList=l:=rfl
theorem jq(l:List Nat):(tx l).length=l.length:=by show l.toArray.size=_;simp
theorem y0(a b:List Nat):tx a++tx b=tx (a++b):=by
 show(⟨a.toArray++b.toArray⟩:Str)=⟨(a++b).toArray⟩
 simp
theorem y4{a b:List Nat}:tx a=tx b↔a=b:=⟨fun h=>by have:=fB (fun z:Str=>z.cps.toList) h;exact this,fun h=>by rw[h]⟩
def Pq(mi:List V):It:=⟨fun i _=>i<mi.length,fun i H x H'=>H'=H/\mi[i]?=some x,fun i _=>mi.length<=i⟩
theorem rS{P:Program}{w:World}{K:Frag}{tg:Expr}{it:Addr}{mi:List V}{Pr:Nat->Value->Prop}{S:Nat->Heap->Prop}{ty:String}
  (W:∀A:Around,A.handled=none->Walks P w A it [it] [it] mi.length Pr S) (hv:∀i v,i<mi.length->Pr i v->∃x,mi[i]?=some x/\bN x v)
  (Ip:∀i h,S i h->∃o vs,h.get? it=some o/\o.cls=.type ty/\o.data=.fields vs)
  (CI:["enumerate","zip","dict_itemiterator","dict_reverseitemiterator","odict_iterator","itertools.zip_longest","itertools.pairwise"].contains ty=false)
  (yI:∀(A:Around) (i:Nat) (s:Shared) (Q:Value->Shared->Prop) (E:Value->Shared->Prop),S i s.heap->Q (.ref it) s->wpAny (model P w) A (pyIter (.ref it)) Q E s) :
  yQ P w K tg (Pq mi) [it] it (fun i h=>i<=mi.length/\S i h) where
 mem:=by simp
 obj:=fun i h st b hb=>by
  have e:b=it:=by simpa using hb
  subst e
  obtain⟨o,vs,e,c,d⟩:=Ip i h st.2
  exact⟨o,e,fun v z=>by rw[d]at z;cases z⟩
 keep:=fun i h h' st k=>⟨st.1,(W { depth:=0,handled:=none,frames:=none } rfl).frame i h h' st.2 k⟩
 item:=by
  intro X hP hw hK hc i pins s σ H E I hf st hg
  subst hP hw hK
  obtain⟨f0,f1,f2,f3,f4,f5⟩:=hf it (by simp)
  refine(W X.A (I.ok.hd hc)).item i s _ _ hg st.2 fun v h' tk hp bG kk=>?_
  have I1:bi X pins σ H { s with heap:=h',toks:=tk }:=I.turned (fun b o hb e=>kk b o (by simpa using hb) e) f0 f1 f3 f4 f5
  obtain⟨x,hx,rx⟩:=hv i v hg hp
  obtain⟨o,vs,e,c,d⟩:=Ip _ _ bG
  exact⟨v,rfl,An (s:={ s with heap:=h',toks:=tk }) e c d CI ⟨x,H,I1,rx,⟨rfl,hx⟩,⟨hg,bG⟩,fun b hb=>(hf b hb).1⟩⟩
 done:=by
  intro X hP hw hK hc i pins s σ H E I hf st hg
  subst hP hw hK
  obtain⟨f0,f1,f2,f3,f4,f5⟩:=hf it (by simp)
  have e:i=mi.length:=ie st.1 hg
  refine(W X.A (I.ok.hd hc)).done s _ _ (e▸st.2) fun h' tk kk=>⟨rfl,I.turned (fun b o hb e=>kk b o (by simpa using hb) e) f0 f1 f3 f4 f5⟩
 self:=fun A i s Q E st h=>yI A i s Q E st.2 h
section
variable{X:Cx}{tg:Expr}
def oK(l:List Nat):List V:=l.map fun c=>.str (tx [c])
def Ql(tl:TE):TI:=fun σ H R=>tl σ H fun x H1=>∃l,x=.str (tx l)/\R (Pq (oK l)) H1
theorem BQ{l:List Nat}(i:Nat)(v:Value)(hi:i<(oK l).length)(h:SignAt (tx l) i v):∃x,(oK l)[i]?=some x/\bN x v:=by
 obtain⟨c,u,hc,e⟩:=h
 refine⟨.str (tx [c]),?_,u,e⟩
 unfold oK
 rw[ar]
 have:l[i]?=some c:=by simpa[tx]using hc
 rw[this];rfl
theorem Ks{l:Expr}{tl:TE}(hl:PE X l tl):PI X tg l (Ql tl):=by
 intro pins s σ H R I h
 refine gq (hl pins s σ H _ I h) fun v s1 ⟨x,H1,I1,r1,q1⟩=>?_
 obtain⟨l,e,q⟩:=q1
 subst e
 obtain⟨t,rfl⟩:=r1
 have hn:(tx l).cps.size=(oK l).length:=by unfold oK;simp[tx]
 have fin:∀(ob:Obj) (S:Nat->Heap->Prop) (ty:String),(∀A:Around,A.handled=none->Walks X.prog X.w A s1.heap.objs.size [s1.heap.objs.size] [s1.heap.objs.size] (tx l).cps.size (SignAt (tx l)) S)->S 0 (s1.heap.push ob) ->
   (∀i h,S i h->∃o vs,h.get? s1.heap.objs.size=some o/\o.cls=.type ty/\o.data=.fields vs) ->
   ["enumerate","zip","dict_itemiterator","dict_reverseitemiterator","odict_iterator","itertools.zip_longest","itertools.pairwise"].contains ty=false ->
   (∀(A:Around) (i:Nat) (s:Shared) (Q:Value->Shared->Prop) (E:Value->Shared->Prop),S i s.heap->Q (.ref s1.heap.objs.size) s->wpAny (model X.prog X.w) A (pyIter (.ref s1.heap.objs.size)) Q E s) ->
   P9 X pins σ tg R (.ref s1.heap.objs.size) { s1 with heap:=s1.heap.push ob }:=fun ob S ty W h0 Ip CI yI=>by
  rw[hn]at W
  refine⟨s1.heap.objs.size,[s1.heap.objs.size],_,_,H1,rfl,I1.kept (t':=s1.toks) fun b o e=>aq _ e,rS W (fun i v hi hp=>BQ i v hi hp) Ip CI yI,⟨df _,h0⟩,fun b hb=>?_,q⟩
  have e:b=s1.heap.objs.size:=by simpa using hb
  subst e
  exact I1.fpOk (aB _) I1.fresh
 cases ha:(tx l).cps.all (· < 128)
 ·exact wpAny_pyIter_wide ha (fin _ _ _ (fun A hA=>Walks.strWide hA _ (tx l) t) ⟨_,aL _ rfl,rfl,rfl⟩ (fun i h st=>by obtain⟨o,a,b,c⟩:=st;exact⟨o,_,a,b,c⟩) (by decide) fun A i s Q E st h=>wpAny_pyIter_striter_wide st h)
 ·exact wpAny_pyIter_ascii ha (fin _ _ _ (fun A hA=>Walks.strAscii hA _ (tx l) t) ⟨_,aL _ rfl,rfl,rfl⟩ (fun i h st=>by obtain⟨o,a,b,c⟩:=st;exact⟨o,_,a,b,c⟩) (by decide) fun A i s Q E st h=>wpAny_pyIter_striter_ascii st h)
def BR(l:List Nat)(lo hi:Option Int):List Nat:=(l.drop (HT.sIx l.length 0 lo)).take (HT.sIx l.length l.length hi-HT.sIx l.length 0 lo)
theorem xn(l:List Nat)(lo hi:Option Int):(BR l lo hi).length<=l.length:=by unfold BR;rw[bp,fm];omega
theorem y6(l:List Nat)(i k:Nat):((List.range k).map fun(m:Nat)=>i+m).filterMap (fun j=>l[j]?)=(l.drop i).take k:=by
 induction k generalizing i with
 |zero=>simp
 |succ k ih=>
  rw[iH,aR,bb]
  have e:((fun m=>i+m)∘Nat.succ)=fun m=>(i+1)+m:=by funext m;simp[Function.comp];omega
  rw[e]
  by_cases h:i<l.length
  ·rw[ga]
   simp only[mB,ae h]
   rw[ih (i+1),d7 h,List.take_succ_cons]
  ·rw[ga]
   have h':l.length<=i:=by omega
   simp only[mB,gN h']
   rw[ih (i+1),mC h',mC (by omega)]
   simp
theorem IB(v:Int)(n d:Nat):(if (1:Int)>0 then max 0 (min (if v<0 then v+(n:Int)else v) (n:Int))else max (-1) (min (if v<0 then v+(n:Int)else v) ((n:Int)-1)))=((HT.sIx n d (some v):Nat):Int):=by
 rw[ax (by omega)]
 show _=(((if v<0 then(v+(n:Int)).toNat else min v.toNat n):Nat):Int)
 by_cases hv:v<0
 ·simp only[ax hv];omega
 ·simp only[aD hv];omega
theorem Kt(lo hi:Option Int)(n:Nat):Builtin.Str.strSliceIndices lo hi 1 n=(List.range (HT.sIx n n hi-HT.sIx n 0 lo)).map fun(m:Nat)=>HT.sIx n 0 lo+m:=by
 have key:∀a b:Nat,sliceRange (a:Int) (b:Int) 1=(List.range (b-a)).map fun(m:Nat)=>a+m:=fun a b=>by
  unfold sliceRange
  have e:(if (1:Int)>0 then(if (a:Int)<(b:Int)then((b:Int)-a+1-1)/1 else 0)else(if (a:Int)>b then((a:Int)-b-1-1)/(-1)else 0)).toNat=b-a:=by
   rw[ax (by omega)]
   by_cases h:(a:Int)<b
   ·rw[ax h];omega
   ·rw[aD h];omega
  dsimp only
  rw[e]
  refine bC fun k _=>?_
  omega
 unfold Builtin.Str.strSliceIndices
 rw[<- key]
 dsimp only
 congr 1
 ·cases lo with
  |none=>rfl
  |some v=>exact IB v n 0
 ·cases hi with
  |none=>rfl
  |some v=>exact IB v n n
theorem Dl(l:List Nat)(lo hi:Option Int):Txt.slice (tx l) lo hi=tx (BR l lo hi):=by
 unfold Txt.slice
 rw[Kt,jq]
 split
 ·rename_i h
  simp only[beq_self_eq_true,Bool.true_and,dB,al,cM]at h
  unfold BR
  have h1:=HT.sIx_le l.length l.length (aB _) hi
  have h2:=HT.sIx_le l.length 0 (df _) lo
  by_cases hz:l.length=0
  ·have:l=[]:=List.eq_nil_of_length_eq_zero hz
   subst this;simp
  ·have e0:HT.sIx l.length 0 lo=0:=by omega
   rw[e0,List.drop_zero,gA (by omega)]
 ·unfold BR tx
  have:∀j:Nat,(l.toArray)[j]?=l[j]?:=fun j=>by simp
  simp only[this]
  rw[y6]
def Qm:V->Option Int->Option Int->Hp->VK->Prop:=fun x lo hi H Q=>∃l,x=.str (tx l)/\l.length<=sizeLine/\Q (.str (tx (BR l lo hi))) H
theorem Ay{v:Value}{o:Option Int}(p:IsPart v o):∃q:Option (Int×Tok),v=partValue q/\q.map (·.1)=o:=by
 cases p with
 |none=>exact⟨none,rfl,rfl⟩
 |int i t=>exact⟨some (i,t),rfl,rfl⟩
theorem Ku:CN X Qm:=by
 intro pins s σ H x v vl vu lo hi sl Q I rx hs pl pu h
 obtain⟨l,e,hz,q⟩:=h
 subst e
 obtain⟨t,rfl⟩:=rx
 obtain⟨pl',rfl,rfl⟩:=Ay pl
 obtain⟨pu',rfl,rfl⟩:=Ay pu
 refine⟨"str",_,F.slot_str_getitem.lookup,typeIs_str _ _ _,?_⟩
 refine wpAny_getItem_str_slice (l:=pl') (u:=pu') (st:=none) hs rfl (post_val_or_str ?_)
 have e:=Dl l (pl'.map (·.1)) (pu'.map (·.1))
 unfold Txt.slice at e
 show(if ((1:Int)==1&&(Builtin.Str.strSliceIndices (pl'.map (·.1)) (pu'.map (·.1)) 1 (tx l).length).length==(tx l).length)=true then tx l else⟨((Builtin.Str.strSliceIndices (pl'.map (·.1)) (pu'.map (·.1)) 1 (tx l).length).filterMap ((tx l).cps[·]?)).toArray⟩:Str).length<=sizeLine /\
  ∀t' k,EP X pins σ Q (.str (if ((1:Int)==1&&(Builtin.Str.strSliceIndices (pl'.map (·.1)) (pu'.map (·.1)) 1 (tx l).length).length==(tx l).length)=true then tx l else⟨((Builtin.Str.strSliceIndices (pl'.map (·.1)) (pu'.map (·.1)) 1 (tx l).length).filterMap ((tx l).cps[·]?)).toArray⟩:Str) t') { s with toks:=k }
 rw[e,jq]
 exact⟨aV (xn l _ _) hz,fun t' k=>⟨.str _,H,I.tok k,⟨t',rfl⟩,q⟩⟩
theorem Kv(c:Nat)(l:List Nat):(!(Builtin.Str.occurrences (tx l) (tx [c]) 0 (tx l).length 1).isEmpty)=decide (c∈l):=StrLaws.found_one (tx l) c
def Qn(Ac:Bool):R2:=fun x y H Q=>∃c l,x=.str (tx [c])/\y=.str (tx l)/\Q (.bl (if Ac then !decide (c∈l)else decide (c∈l))) H
theorem vB:mJ X (compareOp .NotIn) (Qn true):=by
 intro pins s σ H x y v u Q I rx ry h
 obtain⟨c,l,rfl,rfl,q⟩:=h
 exact vo pins s σ H _ _ v u Q I rx ry ⟨_,_,rfl,rfl,by rw[Kv];exact q⟩
theorem oM:∀{ys:List (List Nat)} {bj:List Value},b9 (ys.map fun l=>V.str (tx l)) bj->StrsAre bj (ys.map tx)
 |[],_,r=>by cases r;exact .nil
 |y::ys,_,r=>by
  cases r with
  |cons r rr=>
   obtain⟨t,rfl⟩:=r
   exact .cons _ _ (oM rr)
theorem oN:∀{bj:List Value} {ss:List Str},StrsAre bj ss->b9 (ss.map fun z=>V.str z) bj
 |_,_,.nil=>.nil
 |_,_,.cons y t r=>.cons ⟨t,rfl⟩ (oN r)
def om(sep:List Nat):List (List Nat)->List Nat
 |[]=>[]
 |[x]=>x
 |x::y::r=>x++sep++om sep (y::r)
theorem qc:∀ys:List (List Nat),om [] ys=ys.flatten
 |[]=>rfl
 |[x]=>by simp[om]
 |x::y::r=>by rw[om,qc (y::r)];simp
theorem G3(sep:List Nat):∀ys:List (List Nat),Txt.join (tx sep) (ys.map tx)=tx (om sep ys):=fun ys=>by
 show Builtin.Str.glued (tx sep) (ys.map tx)=_
 rw[StrLaws.glued_eq_join]
 induction ys with
 |nil=>rfl
 |cons x r ih=>
  cases r with
  |nil=>rfl
  |cons y r=>
   show tx x++tx sep++Str.join (tx sep) ((y::r).map tx)=tx (x++sep++om sep (y::r))
   rw[ih,y0,y0]
def No(K:Frag):V->List V->Hp->VK->Prop:=fun x vs H Q=>∃(sep:List Nat) (a:Addr) (ys:List (List Nat)),x=.str (tx sep)/\vs=[.ref a]/\nL K H a (ys.map fun l=>V.str (tx l))/\(ys.map List.length).sum+ys.length*sep.length<=16777216/\Q (.str (tx (om sep ys))) H
theorem G4:At X "str.join" (No X.K):=by
 intro pins s σ H x vs v us Q I rx rv h
 obtain⟨sep,a,ys,rfl,rfl,hS,hz,q⟩:=h
 obtain⟨t,rfl⟩:=rx
 obtain⟨u,rfl,ru⟩:=rv.one
 cases ru
 obtain⟨bj,r,p,_⟩:=I.list hS
 refine join_list p.isList (oM (by simpa using r)) ?_ fun t' k=>?_
 ·rw[bb,jq,al]
  have e:((fun z:Str=>z.length)∘tx)=List.length:=by funext l;exact jq l
  rw[e];exact hz
 ·rw[G3]
  exact⟨.str _,H,I.tok k,⟨t',rfl⟩,q⟩
end
inductive D where
 |non|bl (b:Bool)|int (i:Int)|str (l:List Nat)|tnil|tcons (d r:D)
 deriving DecidableEq
def D.tup:List D->D
 |[]=>.tnil
 |d::r=>.tcons d (D.tup r)
mutual
def Dp(K:Frag)(H:Hp):D->V->Prop
 |.non,v=>v=.non
 |.bl b,v=>v=.bl b
 |.int i,v=>v=.int i
 |.str l,v=>v=.str (tx l)
 |.tnil,v=>∃p,v=.ref p/\fF K H p []
 |.tcons d r,v=>∃p x xs,v=.ref p/\fF K H p (x::xs)/\Dp K H d x/\DpL K H r xs
def DpL(K:Frag)(H:Hp):D->List V->Prop
 |.tnil,xs=>xs=[]
 |.tcons d r,xs=>∃x ys,xs=x::ys/\Dp K H d x/\DpL K H r ys
 |.non,_=>False
 |.bl _,_=>False
 |.int _,_=>False
 |.str _,_=>False
end
structure ej(K:Frag)(H H':Hp):Prop where
 t:∀p xs,fF K H p xs->fF K H' p xs
 z:∀b o u,H b=some (.frz o u)->H' b=some (.frz o u)
instance {K:Frag} {H H':Hp}:CoeFun (ej K H H') (fun _=>∀p xs,fF K H p xs->fF K H' p xs):=⟨ej.t⟩
mutual
theorem Dp.mono{K:Frag}{H H':Hp}(e:ej K H H'):∀{d:D} {v:V},Dp K H d v->Dp K H' d v
 |.non,_,h=>by unfold Dp at h ⊢;exact h
 |.bl _,_,h=>by unfold Dp at h ⊢;exact h
 |.int _,_,h=>by unfold Dp at h ⊢;exact h
 |.str _,_,h=>by unfold Dp at h ⊢;exact h
 |.tnil,_,h=>by unfold Dp at h ⊢;obtain⟨p,e1,e2⟩:=h;exact⟨p,e1,e _ _ e2⟩
 |.tcons d r,_,h=>by unfold Dp at h ⊢;obtain⟨p,x,xs,e1,e2,h1,h2⟩:=h;exact⟨p,x,xs,e1,e _ _ e2,Dp.mono e h1,DpL.mono e h2⟩
theorem DpL.mono{K:Frag}{H H':Hp}(e:ej K H H'):∀{d:D} {v:List V},DpL K H d v->DpL K H' d v
 |.non,_,h=>by unfold DpL at h;exact h.elim
 |.bl _,_,h=>by unfold DpL at h;exact h.elim
 |.int _,_,h=>by unfold DpL at h;exact h.elim
 |.str _,_,h=>by unfold DpL at h;exact h.elim
 |.tnil,_,h=>by unfold DpL at h ⊢;exact h
 |.tcons d r,_,h=>by unfold DpL at h ⊢;obtain⟨x,xs,e1,h1,h2⟩:=h;exact⟨x,xs,e1,Dp.mono e h1,DpL.mono e h2⟩
end
abbrev CO(K:Frag)(H:Hp):List D->List V->Prop:=Paired fun d v=>Dp K H d v
theorem CO.mono{K:Frag}{H H':Hp}(e:ej K H H'):∀{ds:List D} {vs:List V},CO K H ds vs->CO K H' ds vs
 |_,_,.nil=>.nil
 |_,_,.cons h t=>.cons (h.mono e) (CO.mono e t)
theorem DpL.of{K:Frag}{H:Hp}:∀{ds:List D} {vs:List V},CO K H ds vs->DpL K H (D.tup ds) vs
 |_,_,.nil=>by unfold D.tup DpL;rfl
 |_,_,.cons h t=>by unfold D.tup DpL;exact⟨_,_,rfl,h,DpL.of t⟩
theorem DpL.to{K:Frag}{H:Hp}:∀{ds:List D} {vs:List V},DpL K H (D.tup ds) vs->CO K H ds vs
 |[],_,h=>by unfold D.tup DpL at h;subst h;exact .nil
 |d::ds,_,h=>by unfold D.tup DpL at h;obtain⟨x,xs,rfl,h1,h2⟩:=h;exact .cons h1 (DpL.to h2)
theorem Dp.tupI{K:Frag}{H:Hp}{p:Addr}{vs:List V}{ds:List D}(h:fF K H p vs)(hd:CO K H ds vs):Dp K H (D.tup ds) (.ref p):=by
 cases hd with
 |nil=>unfold D.tup Dp;exact⟨p,rfl,h⟩
 |cons a t=>unfold D.tup Dp;exact⟨p,_,_,rfl,h,a,DpL.of t⟩
theorem Dp.tupE{K:Frag}{H:Hp}{v:V}{ds:List D}(h:Dp K H (D.tup ds) v):∃p vs,v=.ref p/\fF K H p vs/\CO K H ds vs:=by
 cases ds with
 |nil=>unfold D.tup Dp at h;obtain⟨p,e,q⟩:=h;exact⟨p,[],e,q,.nil⟩
 |cons d r=>unfold D.tup Dp at h;obtain⟨p,x,xs,e,q,h1,h2⟩:=h;exact⟨p,_,e,q,.cons h1 (DpL.to h2)⟩
theorem fF.same{K:Frag}{H H':Hp}(e:kr H H'):ej K H H':=⟨fun p xs h=>by
 rcases h with(h|⟨o,h⟩)|h
 ·exact .inl (.inl (e _ _ h))
 ·exact .inl (.inr ⟨o,e _ _ h⟩)
 ·exact .inr h,fun b o u h=>e _ _ h⟩
theorem cS{H:Hp}{p:Addr}(h:H p=none)(o:HO):kr H (fx H p o):=fun b u q=>by rw[bV (c_ q h)];exact q
def BS(l:Addr)(H H':Hp):Prop:=∀b o,b≠l->H b=some o->H' b=some o
theorem BS.refl{l:Addr}(H:Hp):BS l H H:=fun _ _ _ h=>h
theorem BS.trans{l:Addr}{H H1 H2:Hp}(a:BS l H H1)(b:BS l H1 H2):BS l H H2:=fun c o h q=>b c o h (a c o h q)
theorem kr.but{l:Addr}{H H':Hp}(a:kr H H'):BS l H H':=fun b o _ q=>a b o q
theorem gv{l:Addr}{H:Hp}{o:HO}:BS l H (fx H l o):=fun b u h q=>by rw[bV h];exact q
theorem fF.but{K:Frag}{l:Addr}{xs:List V}{H H':Hp}(e:BS l H H')(hl:H l=some (.lst xs)):ej K H H':=by
 have m5:∀{p:Addr} {o:HO},H p=some o->(∀zs,o≠.lst zs)->p≠l:=fun{p o} q hn z=>by subst z;rw[hl]at q;cases q;exact hn _ rfl
 refine⟨fun p ys h=>?_,fun b o u h=>e _ _ (m5 h (fun _ z=>by cases z)) h⟩
 rcases h with(h|⟨o,h⟩)|h
 ·exact .inl (.inl (e _ _ (m5 h (fun _ z=>by cases z)) h))
 ·exact .inl (.inr ⟨o,e _ _ (m5 h (fun _ z=>by cases z)) h⟩)
 ·exact .inr h
theorem ej.refl{K:Frag}{H:Hp}:ej K H H:=⟨fun _ _ h=>h,fun _ _ _ h=>h⟩
theorem ej.trans{K:Frag}{H H1 H2:Hp}(a:ej K H H1)(b:ej K H1 H2):ej K H H2:=⟨fun p xs h=>b p xs (a p xs h),fun c o u h=>b.z c o u (a.z c o u h)⟩
theorem fF.new{K:Frag}{H:Hp}{p:Addr}{xs:List V}:fF K (fx H p (.tup xs)) p xs:=fF.of eD
theorem nL.but{K:Frag}{l a:Addr}{xs:List V}{H H':Hp}(e:BS l H H')(m5:a≠l)(h:nL K H a xs):nL K H' a xs:=by
 rcases h with(h|⟨o,h⟩)|h
 ·exact .inl (.inl (e _ _ m5 h))
 ·exact .inl (.inr ⟨o,e _ _ m5 h⟩)
 ·exact .inr h
structure Qo(P:Program)(w:World)(K:Frag)(mg:Str->Option Value)(base:Heap)(k:Nat)(x:Str)(ps:List Str)(sp:Sp):Prop where
 ex:∃(f:Addr) (fd:FuncData),mg x=some (.ref f)/\keepIn K (.ref f)=true/\rL K fd ps []/\eV P w K mg base Qj k f fd ps sp
theorem Qo.mono{P:Program}{w:World}{K:Frag}{mg:Str->Option Value}{base:Heap}{j k:Nat}{x:Str}{ps:List Str}{sp:Sp}(h:Qo P w K mg base j x ps sp)(hj:j<=k):Qo P w K mg base k x ps sp:=by
 obtain⟨f,fd,a,b,c,d⟩:=h.ex
 exact⟨f,fd,a,b,c,d.mono hj⟩
section
variable{X:Cx}{o e:Expr}{es:List Expr}{to:TE}{t:TA}{name:Str}{fT du:Pos}{id:String}{r:V->List V->Hp->VK->Prop}
def RA(r:V->List V->Hp->VK->Prop)(to:TE)(t:TA):TE:=fun σ H Q=>to σ H fun x H1=>(∃l ys,x=.ref l/\H1 l=some (.lst ys))/\t σ H1 fun xs H2=>r x xs H2 Q
def RB(r:V->List V->Hp->VK->Prop)(to:TE)(t:TA):TE:=fun σ H Q=>to σ H fun x H1=>(∃l,x=.str (tx l))/\t σ H1 fun xs H2=>r x xs H2 Q
theorem Dm{K:Frag}{x:V}{H:Hp}(h:∃l ys,x=.ref l/\H l=some (.lst ys)):Po K "list" x H:=by
 obtain⟨l,ys,rfl,h⟩:=h
 exact .inl ⟨rfl,_,.of h⟩
theorem G5{K:Frag}{x:V}{H:Hp}(h:∃l,x=.str (tx l)):Po K "str" x H:=by
 obtain⟨l,rfl⟩:=h
 exact rfl
theorem Dn{T:String}{ty:V->Hp->Prop}(QY:∀x H,ty x H->Po X.K T x H)(pa:PlainAttrs T)(slot:Slot T name id)(CI:typeOf (.builtin id)=pure (.type "method_descriptor"))(hm:At X id r)(ho:PE X o to)(ha:PA X (e::es) t)
  (pW:attributeBase o name X.env (eval o X.env)=eval o X.env)
  (wN:((backTo du (starEach (e::es) X.env)).all (fun x=>!x.1)&&(backToKw du (keywordEach [] X.env)).all (fun x=>x.1.isSome)
   && decide ((e::es).length+([]:List Keyword).length+(if ([]:List Keyword).isEmpty then 0 else 1)<30))=true)
  (pV:(fT.endLine==du.line)=true) (hs:starEach (e::es) X.env=(false,eval e X.env)::starEach es X.env) (mh:(backTo du (starEach es X.env)).any (·.1)=false) :
  PE X (.Call (.Attribute o name fT) (e::es) [] du) (fun σ H Q=>to σ H fun x H1=>ty x H1/\t σ H1 fun xs H2=>r x xs H2 Q):=by
 intro pins s σ H Q I h
 refine wpAny_Call_method_late pW wN pV rfl (gq (ho pins s σ H _ I h) fun v s1 ⟨x,H1,I1,r1,ty,q1⟩=>?_)
 obtain⟨h1,h2⟩:=Km I1 r1 (QY _ _ ty)
 refine⟨T,id,pa,slot,CI,h1,h2,?_⟩
 have hA:=ha du pins s1 σ H1 _ I1 q1
 rw[hs]at hA ⊢
 refine gz (by show(false||(backTo du (starEach es X.env)).any (·.1))=false;rw[mh]<;>rfl) (gY ?_)
 exact gq hA fun us s2 ⟨vs,H2,I2,r2,q2⟩=>hm pins s2 σ H2 x vs v us Q I2 r1 r2 q2
theorem Np(slot:Slot "list" name id)(CI:typeOf (.builtin id)=pure (.type "method_descriptor"))(hm:At X id r)(ho:PE X o to)(ha:PA X (e::es) t)
  (pW:attributeBase o name X.env (eval o X.env)=eval o X.env:=by rfl)
  (wN:((backTo du (starEach (e::es) X.env)).all (fun x=>!x.1)&&(backToKw du (keywordEach [] X.env)).all (fun x=>x.1.isSome)
   && decide ((e::es).length+([]:List Keyword).length+(if ([]:List Keyword).isEmpty then 0 else 1)<30))=true:=by rfl)
  (pV:(fT.endLine==du.line)=true:=by rfl) (hs:starEach (e::es) X.env=(false,eval e X.env)::starEach es X.env:=by rfl) (mh:(backTo du (starEach es X.env)).any (·.1)=false:=by rfl) :
  PE X (.Call (.Attribute o name fT) (e::es) [] du) (RA r to t):=Dn (ty:=fun x H1=>∃l ys,x=.ref l/\H1 l=some (.lst ys)) (fun _ _ h=>Dm h) F.plainAttrs_list slot CI hm ho ha pW wN pV hs mh
theorem Nq(slot:Slot "str" name id)(CI:typeOf (.builtin id)=pure (.type "method_descriptor"))(hm:At X id r)(ho:PE X o to)(ha:PA X (e::es) t)
  (pW:attributeBase o name X.env (eval o X.env)=eval o X.env:=by rfl)
  (wN:((backTo du (starEach (e::es) X.env)).all (fun x=>!x.1)&&(backToKw du (keywordEach [] X.env)).all (fun x=>x.1.isSome)
   && decide ((e::es).length+([]:List Keyword).length+(if ([]:List Keyword).isEmpty then 0 else 1)<30))=true:=by rfl)
  (pV:(fT.endLine==du.line)=true:=by rfl) (hs:starEach (e::es) X.env=(false,eval e X.env)::starEach es X.env:=by rfl) (mh:(backTo du (starEach es X.env)).any (·.1)=false:=by rfl) :
  PE X (.Call (.Attribute o name fT) (e::es) [] du) (RB r to t):=Dn (ty:=fun x H1=>∃l,x=.str (tx l)) (fun _ _ h=>G5 h) F.plainAttrs_str slot CI hm ho ha pW wN pV hs mh
end
section
variable{X:Cx}{e:Expr}{es:List Expr}{te:TE}{t:TA}{pos:Pos}
def Nr(t:TA):TE:=fun σ H Q=>t σ H fun xs H1=>xs.length<=sizeLine/\∀p H2,H1 p=none->H2=fx H1 p (.tup xs)->Q (.ref p) H2
def Nt(t:TA):TE:=fun σ H Q=>t σ H fun xs H1=>xs.length<=sizeLine/\∀p H2,H1 p=none->H2=fx H1 p (.lst xs)->Q (.ref p) H2
theorem G6{x1}(h:PA X es t):PE X (.Tuple es x1 pos) (Nr t):=by
 intro pins s σ H Q I hq
 refine wpAny_Tuple_spliced (gq (h pos pins s σ H _ I hq) fun us s1 ⟨xs,H1,I1,r,z,q⟩=>⟨by rw[<- r.length];exact z,?_⟩)
 have hf:H1 s1.heap.objs.size=none:=I1.hok.fresh (aB _)
 refine⟨.ref s1.heap.objs.size,fx H1 s1.heap.objs.size (.tup xs),I1.laid (t':=s1.toks) (fun b u e=>aq _ e) (aB _) ?_,rfl,q _ _ hf rfl⟩
 exact⟨z,us,r,⟨_,aL _ rfl,rfl,_,rfl⟩⟩
theorem G7(h:PA X es t):PE X (.List es pos) (Nt t):=by
 intro pins s σ H Q I hq
 refine wpAny_List_spliced (gq (h pos pins s σ H _ I hq) fun us s1 ⟨xs,H1,I1,r,z,q⟩=>⟨by rw[<- r.length];exact z,?_⟩)
 have hf:H1 s1.heap.objs.size=none:=I1.hok.fresh (aB _)
 refine⟨.ref s1.heap.objs.size,fx H1 s1.heap.objs.size (.lst xs),I1.laid (t':=s1.toks) (fun b u e=>aq _ e) (aB _) ?_,rfl,q _ _ hf rfl⟩
 exact⟨z,us,0,r,aL _ rfl⟩
theorem At.imp{id:String}{r r':V->List V->Hp->VK->Prop}(h:At X id r)(i:∀x xs H Q,r' x xs H Q->r x xs H Q):At X id r':=fun pins s σ H x xs v us Q I rx rv q=>h pins s σ H x xs v us Q I rx rv (i _ _ _ _ q)
theorem gU.imp{f:Value}{r r':List V->Hp->VK->Prop}(h:gU X f r)(i:∀xs H Q,r' xs H Q->r xs H Q):gU X f r':=fun pins s σ H xs us Q I rv q=>h pins s σ H xs us Q I rv (i _ _ _ q)
theorem mJ.imp{f:Value->Value->Sem Value}{r r':R2}(h:mJ X f r)(i:∀x y H Q,r' x y H Q->r x y H Q):mJ X f r':=fun pins s σ H x y v u Q I rx ry q=>h pins s σ H x y v u Q I rx ry (i _ _ _ _ q)
theorem CN.imp{r r':V->Option Int->Option Int->Hp->VK->Prop}(h:CN X r)(i:∀x lo hi H Q,r' x lo hi H Q->r x lo hi H Q):CN X r':=fun pins s σ H x v vl vu lo hi sl Q I rx hs pl pu q=>h pins s σ H x v vl vu lo hi sl Q I rx hs pl pu (i _ _ _ _ _ q)
def Do:V->List V->Hp->VK->Prop:=fun x vs H Q=>∃l xs y,x=.ref l/\vs=[y]/\H l=some (.lst xs)/\xs.length<sizeLine/\∀H2,H2=fx H l (.lst (xs++[y]))->Q .non H2
theorem y7:At X "list.append" Do:=At.imp (r:=Au) BH fun _ _ _ _ ⟨l,xs,y,a,b,c,d,q⟩=>⟨l,xs,y,a,b,c,d,q _ rfl⟩
def Kw:V->V->V->Hp->(Hp->Prop)->Prop:=fun o i v H Q=>∃p xs k j,o=.ref p/\i=.int k/\H p=some (.lst xs)/\Aq xs.length k=some j/\∀H2,H2=fx H p (.lst (xs.set j v))->Q H2
theorem BU:yP X Kw:=fun pins s σ H o i v ov iv u Q I r1 r2 r3 q=>by
 obtain⟨p,xs,k,j,a,b,c,d,q⟩:=q
 exact Dd pins s σ H o i v ov iv u Q I r1 r2 r3 ⟨p,xs,k,j,a,b,c,d,q _ rfl⟩
def Dq(K:Frag):List V->Hp->VK->Prop:=fun xs H Q=>∃p ys,xs=[.ref p]/\nL K H p ys/\∀l H2,H l=none->H2=fx H l (.tup ys)->Q (.ref l) H2
theorem xo:gU X (.type "tuple") (Dq X.K):=gU.imp tZ fun _ _ _ ⟨p,ys,a,b,q⟩=>⟨p,ys,a,.inl ⟨b,fun l hl=>q l _ hl rfl⟩⟩
def G8(K:Frag):List V->Hp->VK->Prop:=fun xs H Q=>∃p ys,xs=[.ref p]/\(nL K H p ys\/fF K H p ys)/\∀l H2,H l=none->H2=fx H l (.lst ys)->Q (.ref l) H2
theorem rT:gU X (.type "list") (G8 X.K):=gU.imp vx fun _ _ _ ⟨p,ys,a,b,q⟩=>⟨p,ys,a,b,fun l hl=>q l _ hl rfl⟩
def Nu:R2:=fun x y H Q=>∃l b xs zs,x=.ref l/\y=.ref b/\H l=some (.lst xs)/\H b=some (.lst zs)/\xs.length+zs.length<=sizeLine/\∀p H2,H p=none->H2=fx H p (.lst (xs++zs))->Q (.ref p) H2
theorem G9:mJ X (binaryOp .Add) Nu:=mJ.imp Kn fun _ _ _ _ ⟨l,b,xs,zs,h1,h2,h3,h4,h5,q⟩=>⟨l,b,xs,zs,h1,h2,h3,h4,h5,fun p hp=>q p _ hp rfl⟩
end
def Dr(T:String):Prop:=T="tuple"\/T="bool"\/T="int"\/T="str"
theorem DpL.ex{K:Frag}{H:Hp}:∀{d:D} {xs:List V},DpL K H d xs->∃ds,d=D.tup ds/\CO K H ds xs
 |.tnil,xs,h=>by unfold DpL at h;subst h;exact⟨[],rfl,.nil⟩
 |.tcons d r,xs,h=>by
  unfold DpL at h
  obtain⟨x,ys,rfl,h1,h2⟩:=h
  obtain⟨ds,rfl,hd⟩:=DpL.ex h2
  exact⟨d::ds,rfl,.cons h1 hd⟩
 |.non,_,h=>by unfold DpL at h;exact h.elim
 |.bl _,_,h=>by unfold DpL at h;exact h.elim
 |.int _,_,h=>by unfold DpL at h;exact h.elim
 |.str _,_,h=>by unfold DpL at h;exact h.elim
def D.dep:D->Nat
 |.tcons d r=>max (d.dep+1) r.dep
 |_=>1
theorem CO.get{K:Frag}{H:Hp}:∀{ds:List D} {vs:List V} {i:Nat} {d:D},CO K H ds vs->ds[i]?=some d->∃v,vs[i]?=some v/\Dp K H d v
 |_,_,_,_,.nil,e=>by simp at e
 |_,_,0,_,.cons r _,e=>by simp at e;subst e;exact⟨_,rfl,r⟩
 |_,_,i+1,d,.cons _ t,e=>by
  obtain⟨u,h1,h2⟩:=CO.get (i:=i) (d:=d) t (by simpa using e)
  exact⟨u,by simpa using h1,h2⟩
end L2
namespace L2
def D.size:D->Nat
 |.tcons d r=>d.size+r.size+1
 |_=>1
end L2
namespace L2
open PySem PySem.Spec PyProof.Rows
structure QE(X:Cx)(e:Expr)(t:TE):Prop where
 h:PE X e t
structure QA(X:Cx)(es:List Expr)(t:TA):Prop where
 h:PA X es t
structure QS(X:Cx)(s:Stmt)(t:TS):Prop where
 h:PS X s t
structure QG(X:Cx)(e:Expr)(t:TG):Prop where
 h:PG X e t
structure QI(X:Cx)(tg it:Expr)(t:TI):Prop where
 h:PI X tg it t
structure Ps(X:Cx)(es:List Expr)(t:TT):Prop where
 h:GY X es t
structure Ra(X:Cx)(f:Value->Value->Sem Value)(r:R2):Prop where
 h:mJ X f r
structure Nv(X:Cx)(f:Value)(r:List V->Hp->VK->Prop):Prop where
 h:gU X f r
section
variable{X:Cx}{a b c e o:Expr}{es:List Expr}{ta tb tc te to:TE}{t u:TA}{pos p p2 fT du:Pos}{x name:Str}{j:Nat}{tA Pl:TT}{cZ:List Expr}
theorem Az:Ra X (binaryOp .LShift) (rI J9 fun i j=>.int (i*2^j.toNat)):=⟨C7⟩
variable{st:Stmt}{sr:List Stmt}{ts us:TS}{g:TG}
variable{tg:Expr}
end
section
variable{X:Cx}{tg iter c:Expr}{body:List Stmt}{wi:TI}{g:TG}{tb:TS}{pos:Pos}{tA:TT}
end
def gG(env:Env):List (Str×NameKind)->List (Str×Addr)->List (Str×Addr)
 |[],cs=>cs
 |(n,k)::r,cs=>gG env r (if k==.free then(n,(env.cells.lookup n).getD 0)::cs else cs)
theorem AA{scope:Scope}{env:Env}(h:∀x∈scope.names,x.2=.free->∃c,env.cells.lookup x.1=some c):closureFor scope env=pure (gG env scope.names []):=by
 unfold closureFor
 have key:∀(ns:List (Str×NameKind)) (cs:List (Str×Addr)),(∀x∈ns,x.2=.free->∃c,env.cells.lookup x.1=some c) ->
   (forIn ns cs fun(x:Str×NameKind) (r:List (Str×Addr))=>if (x.2==NameKind.free)=true then(do let a <- cellOf env x.1;pure (ForInStep.yield ((x.1,a)::r)))else(pure (ForInStep.yield r):Sem _))=pure (gG env ns cs):=by
  intro ns
  induction ns with
  |nil=>intro cs _;rfl
  |cons y r ih=>
   intro cs hc
   obtain⟨n,k⟩:=y
   rw[List.forIn_cons]
   have ihr:=fun cs=>ih cs fun x hx=>hc x (aT _ hx)
   by_cases hk:(k==NameKind.free)=true
   ·obtain⟨c,e⟩:=hc (n,k) bf (lJ hk)
    have e2:cellOf env n=pure c:=by unfold cellOf;rw[e]
    show((if (k==NameKind.free)=true then _ else _) >>= _)=pure (gG env r (if (k==NameKind.free)=true then _ else _))
    rw[ax hk,ax hk,e2]
    simp only[pure_bind]
    have e3:(env.cells.lookup n).getD 0=c:=by rw[show env.cells.lookup n=some c from e];rfl
    rw[e3]
    exact ihr _
   ·show((if (k==NameKind.free)=true then _ else _) >>= _)=pure (gG env r (if (k==NameKind.free)=true then _ else _))
    rw[aD hk,aD hk]
    simp only[pure_bind]
    exact ihr _
 have:=key scope.names [] h
 dsimp only
 rw[this];simp only[pure_bind]
theorem nN{env:Env}:∀(ns:List (Str×NameKind)) (cs:List (Str×Addr)),(∀x∈ns,x.2=.free->∃c,env.cells.lookup x.1=some c)->(∀y∈cs,env.cells.lookup y.1=some y.2)->∀y∈gG env ns cs,env.cells.lookup y.1=some y.2
 |[],cs,_,h=>h
 |(n,k)::r,cs,hf,h=>by
  refine nN r _ (fun x hx=>hf x (aT _ hx)) ?_
  by_cases hk:(k==NameKind.free)=true
  ·rw[ax hk]
   intro y hy
   rcases a7.mp hy with rfl|hy
   ·obtain⟨c,e⟩:=hf (n,k) bf (lJ hk)
    show env.cells.lookup n=some ((env.cells.lookup n).getD 0)
    rw[show env.cells.lookup n=some c from e];rfl
   ·exact h y hy
  ·rw[aD hk];exact h
theorem rV{env:Env}:∀(ns:List (Str×NameKind)) (cs:List (Str×Addr)) (y:Str×Addr),y∈cs->y∈gG env ns cs
 |[],_,_,h=>h
 |(n,k)::r,cs,y,h=>by
  refine rV r _ y ?_
  split
  ·exact aT _ h
  ·exact h
theorem lU{env:Env}:∀(ns:List (Str×NameKind)) (cs:List (Str×Addr)) (x:Str),(x,NameKind.free)∈ns->∃c,(x,c)∈gG env ns cs
 |[],_,_,h=>by simp at h
 |(n,k)::r,cs,x,h=>by
  rcases a7.mp h with e|h
  ·obtain⟨e1,e2⟩:=Prod.mk.inj e
   subst e1;subst e2
   exact⟨_,rV r _ (x,_) (by rw[ax (by rfl:(NameKind.free==NameKind.free)=true)];exact bf)⟩
  ·exact lU r _ x h
theorem dC{β:Type}:∀{l:List (Str×β)} {x:Str} {b:β},l.lookup x=some b->(x,b)∈l
 |[],_,_,h=>by simp at h
 |(y,c)::r,x,b,h=>by
  rw[i7]at h
  cases hx:x==y with
  |true=>rw[hx]at h;have:=lJ hx;subst this;cases h;exact bf
  |false=>rw[hx]at h;exact aT _ (dC h)
theorem lV{β:Type}:∀{l:List (Str×β)} {x:Str} {b:β},(x,b)∈l->∃c,l.lookup x=some c
 |(y,c)::r,x,b,h=>by
  rw[i7]
  cases hx:x==y with
  |true=>exact⟨c,rfl⟩
  |false=>
   rcases a7.mp h with e|h
   ·cases e;simp at hx
   ·exact lV h
theorem kx{env:Env}{g:Str×NameKind->Bool}:∀{names:List (Str×NameKind)} {x:Str},names.lookup x=some .free ->
  (names.map fun y=>if g y then(y.1,NameKind.cell)else y).lookup x=some .cell\/(names.map fun y=>if g y then(y.1,NameKind.cell)else y).lookup x=some .free
 |[],_,h=>by simp at h
 |(n,k)::r,x,h=>by
  rw[i7]at h
  rw[aR]
  have e1:∀y:Str×NameKind,(if g y then(y.1,NameKind.cell)else y).1=y.1:=fun y=>by split<;>rfl
  have e2:∀(y:Str×NameKind) (l:List (Str×NameKind)),(y::l).lookup x=if (x==y.1)=true then some y.2 else l.lookup x:=fun y l=>by
   obtain⟨a,b⟩:=y
   rw[i7]
   cases x==a<;>rfl
  rw[e2,e1]
  cases hx:x==n with
  |true=>
   rw[hx]at h
   cases h
   rw[ax rfl]
   by_cases hg:g (n,.free)=true
   ·rw[ax hg];exact .inl rfl
   ·rw[aD hg];exact .inr rfl
  |false=>
   rw[hx]at h
   rw[aD (by exact bK)]
   exact kx (env:=env) h
def vC(dn:List (Str×NameKind))(sn:List (Str×NameKind))(nm:List Str)(cap:List (Option Nat))(N:List Str):Bool:=
 (sn.all fun x=>!(x.2==.local)||sn.lookup x.1==some .local)&&(sn.all fun y=>!(y.2==.cell))&&(sn.all fun x=>!(x.2==.free)||dn.lookup x.1==some .cell)&&(cap.length==nm.length) &&
 ((List.range cap.length).all fun i=>match cap[i]? with
  |some (some j)=>(match nm[i]?,N[j]? with
   |some x,some y=>x==y&&dn.lookup x==some .cell&&sn.lookup x==some .free
   |_,_=>false)
  |_=>true)
theorem Kx{X:Cx}{oh tg iter:Expr}{nh:List Expr}{scope:Scope}{pos:Pos}{nm:List Str}{cap:List (Option Nat)}{wi:TI}{g:TG}{tc:TT}{te:TE}{m:Nat}(iE:X.calm=true)
  (mf:X.env.cells=cellsFrom m X.env.scope.names []) (h_:scope.kind=.function) (hB:vC X.env.scope.names scope.names nm cap X.N=true)
  (hi:QI X tg iter wi) (hg:∀cl C s0 H0 fp,QG (bI X nm scope cl C s0 H0 fp) tg g) (ht:∀cl C s0 H0 fp,Ps (bI X nm scope cl C s0 H0 fp) nh tc)
  (he:∀cl C s0 H0 fp,QE (bI X nm scope cl C s0 H0 fp) oh te) (hs:∀x,foldedSetIterable iter X.env x=pure x:=by intro _;rfl) :
  QE X (.ListComp oh [⟨tg,iter,nh,0⟩] scope pos) (uE cap wi g tc te):=by
 simp only[vC,aX,dG,fP,iI,dB,ba]at hB
 obtain⟨⟨⟨⟨b1,b2⟩,b3⟩,b4⟩,b5⟩:=hB
 have has:∀x∈scope.names,x.2=.free->∃c,X.env.cells.lookup x.1=some c:=fun x hx hk=>by
  rw[mf]
  rcases b3 x hx with z|z
  ·exact absurd hk z
  ·exact ni z
 have k6:∀x c,(gG X.env scope.names []).lookup x=some c->X.env.cells.lookup x=some c:=fun x c h=>nN scope.names [] has (by simp) (x,c) (dC h)
 have hin:∀x,(x,NameKind.free)∈scope.names->∃c,(gG X.env scope.names []).lookup x=some c:=fun x h=>let ⟨_,q⟩:=lU (env:=X.env) scope.names [] x h;lV q
 have hmap:(relabel scope X.env).names=scope.names.map fun y=>if (y.2==.free&&X.env.scope.kind==.function&&X.env.kindOf y.1==some .cell)then(y.1,NameKind.cell)else y:=by
  show scope.names.map _=_
  refine bC fun y _=>?_
  obtain⟨a,b⟩:=y
  rfl
 have fr:∀x,((relabel scope X.env).names.lookup x=some .cell\/(relabel scope X.env).names.lookup x=some .free)->(x,NameKind.free)∈scope.names:=fun x h=>by
  have h':∃k,(x,k)∈(relabel scope X.env).names/\(k=.cell\/k=.free):=by
   rcases h with h|h
   ·exact⟨_,dC h,.inl rfl⟩
   ·exact⟨_,dC h,.inr rfl⟩
  obtain⟨k,hm,hk⟩:=h'
  rw[hmap]at hm
  obtain⟨y,hy,e⟩:=aS.mp hm
  obtain⟨a,b⟩:=y
  by_cases hb:b=.free
  ·subst hb
   have:a=x:=by split at e<;>(cases e;rfl)
   subst this;exact hy
  ·rw[aD (by simp[hb])]at e
   cases e
   rcases hk with rfl|rfl
   ·exact absurd rfl (b2 _ hy)
   ·exact absurd rfl hb
 refine⟨Ax (cl:=gG X.env scope.names []) (cap:=cap) (nm:=nm) iE (AA has) k6 h_ (fun x hx hk=>(b1 x hx).resolve_left fun z=>z hk) (fun y hy=>b2 y hy) (fun x hx=>hin x (fr x hx)) (fun i j e=>?_) b4 hi.h (fun C s0 H0 fp=>(hg _ C s0 H0 fp).h) (fun C s0 H0 fp=>(ht _ C s0 H0 fp).h) (fun C s0 H0 fp=>(he _ C s0 H0 fp).h) hs⟩
 have hi':i<cap.length:=(aa.mp e).1
 have q:=b5 i (bt.mpr hi')
 rw[e]at q
 dsimp only at q
 cases hx:nm[i]? with
 |none=>rw[hx]at q;simp at q
 |some x=>
  cases hy:X.N[j]? with
  |none=>rw[hx,hy]at q;simp at q
  |some y=>
   rw[hx,hy]at q
   simp only[aX,dB]at q
   obtain⟨⟨rfl,q1⟩,q2⟩:=q
   refine⟨x,rfl,rfl,.inr (.inl q1),(by rw[q1];decide),?_,?_⟩
   ·obtain⟨c,hc⟩:=hin x (dC q2)
    rw[hc,k6 _ _ hc]
   ·rw[hmap];exact kx (env:=X.env) q2
def G_(K:Frag):List V->Hp->VK->Prop:=fun xs H Q=>∃(p:Addr) (ys:List (List Nat)),xs=[.ref p]/\nL K H p (ys.map fun l=>V.str (tx l))/\ys.length<64 /\
 ∀zs:List (List Nat),zs.Perm ys->sortedS (zs.map tx)=true->∀l H2,H l=none->H2=fx H l (.lst (zs.map fun l=>V.str (tx l)))->Q (.ref l) H2
theorem AB(z:Str):tx z.cps.toList=z:=by cases z;rfl
theorem t5{X:Cx}:Nv X (.builtin "sorted") (G_ X.K):=⟨by
 intro pins s σ H xs us Q I r h
 obtain⟨p,ys,rfl,hS,h64,q⟩:=h
 obtain⟨u,rfl,ru⟩:=lq r
 cases ru
 obtain⟨bj,rv,pl,hz⟩:=I.list hS
 have hl:=rv.length
 rw[al]at hl
 refine sorted_strs (ss:=ys.map tx) pl.isList (oM (by simpa using rv)) (by omega) fun out ss' h1 h2 h3=>?_
 obtain⟨ep,hat⟩:=sortedAll_at s.heap bj out
 have vj:H (s.heap.objs.size+1)=none:=I.hok.fresh (gu _)
 have hmap:(ss'.map fun z=>z.cps.toList).map tx=ss':=by
  rw[bb]
  have:(tx∘fun z:Str=>z.cps.toList)=id:=funext fun z=>AB z
  rw[this,nI]
 have hperm:(ss'.map fun z=>z.cps.toList).Perm ys:=by
  have e:=h2.map fun z:Str=>z.cps.toList
  rw[bb]at e
  have:((fun z:Str=>z.cps.toList)∘tx)=id:=funext fun l=>by simp[tx]
  rw[this,nI]at e
  exact e
 have hvals:b9 ((ss'.map fun z=>z.cps.toList).map fun l=>V.str (tx l)) out.toList:=by
  have e:=oN h1
  rw[<- hmap,bb]at e
  exact e
 refine⟨.ref (s.heap.objs.size+1),_,I.laid (t':=s.toks) (fun b o e=>sortedAll_old e) (gu _) ?_,rfl,q _ hperm (by rw[hmap];exact h3) _ _ vj rfl⟩
 refine⟨?_,out.toList,ep,hvals,hat⟩
 rw[al,hperm.length_eq]
 exact aV (eX h64) (by decide)⟩
theorem bi.turned2{X:Cx}{pins:List (Addr×Obj)}{σ:St}{H:Hp}{s:Shared}{h':Heap}{t':Nat}{e it:Addr}(I:bi X pins σ H s)(k:∀b o,b≠e->b≠it->s.heap.get? b=some o->h'.get? b=some o)
  (he:∃o,h'.get? e=some o) (f1:n9 X pins H e) (f2:n9 X pins H it):bi X pins σ H { s with heap:=h',toks:=t' }:=by
 have nit:∀b u,H b=some u->b≠e/\b≠it:=fun b u q=>⟨fun z=>(by rw[z,f1.1]at q;cases q),fun z=>(by rw[z,f2.1]at q;cases q)⟩
 have nin:∀b,b∉[e,it]->b≠e/\b≠it:=fun b h=>⟨fun z=>h (by simp[z]),fun z=>h (by simp[z])⟩
 refine I.step (g':=s.gens) (d':=s.drawn) (ch:=[e,it]) (fun b hb=>?_) (fun b o _ _ hc q _=>k b o (nin b hc).1 (nin b hc).2 q) (fun b o _ _ hc q _=>⟨o.slots,k b o (nin b hc).1 (nin b hc).2 q⟩) (fun _ _ _ _ n=>n)
  (fun b o hc q=>⟨o,k b o (nin b hc).1 (nin b hc).2 q⟩) (fun _ _ q=>q) (fun _ _ _ q=>q) (fun b ps q=>⟨#[],by rw[q];simp⟩) (fun m hm=>?_) (fun b u q=>?_) I.bare
 ·have z:b=e\/b=it:=by simpa using hb
  rcases z with rfl|rfl
  ·exact⟨f1.2.2.2.1,f1.2.1,f1.2.2.2.2.1,f1.2.2.2.2.2⟩
  ·exact⟨f2.2.2.2.1,f2.2.1,f2.2.2.2.2.1,f2.2.2.2.2.2⟩
 ·obtain⟨o,es,ep,ho,r⟩:=hm
  exact⟨o,es,ep,k _ o (Ne.symm f1.2.1) (Ne.symm f2.2.1) ho,r⟩
 ·refine(I.hok b u q).stay (fun c v hc z=>?_) (fun _ z=>z) fun _ _ z=>z
  rcases hc with y|y
  ·rw[y]at z ⊢;exact k b v (nit b u q).1 (nit b u q).2 z
  ·exact k c v (nit c _ y).1 (nit c _ y).2 z
section
variable{prog:Program}{w:World}{A:Around}{E:Value->Shared->Prop}{s:Shared}
theorem t6{it t:Addr}{i:Nat}{bj:Array Value}{x:Value}{Q:Value->Shared->Prop}(st:s.heap.IsTupleIter it t i)(ht:s.heap.IsTuple t bj)(hx:bj[i]?=some x)
  (q:∀g,g.IsTupleIter it t (i+1)->Heap.SameBut it s.heap g->Q x { s with heap:=g }):wpAny (model prog w) A (Builtin.SmallTypes.nextOf (.ref it)) Q E s:=by
 obtain⟨ob,e1,e2,e3⟩:=id st
 obtain⟨ot,g1,_,nt,g3⟩:=ht
 have T:=st.typeIs
 unfold Builtin.SmallTypes.nextOf
 refine ah (cP (name:=Str.ofString "__next__") T fE (cY fE T jU ?_ (jA _)))
 show wpAny _ _ (field (.ref it) 0 >>= _) _ _ s
 refine ah (fV e1 e3 (x:=.ref t) rfl ?_)
 dsimp only
 rw[aD (show ¬ ((Value.ref t==Value.none)=true)from bK)]
 refine ah (fV e1 e3 (x:=.int i 0) rfl ?_)
 dsimp only
 refine ah (gn g1 g3 ?_)
 simp only[bB,hx]
 refine ah (wpAny_setField e1 e3 (by simp) (av ⟨x,rfl,av (q _ ?_ (cG ..))⟩))
 exact⟨_,gK _ e1 (Obj.isFreed_of_fields (Obj.data_mapFields e3 _)),(Obj.cls_mapFields ..).trans e2,by rw[Obj.data_mapFields e3];simp[rawInt]⟩
theorem pc{it t:Addr}{i:Nat}{bj:Array Value}{Q:Value->Shared->Prop}(hh:A.handled=none)(st:s.heap.IsTupleIter it t i)(ht:s.heap.IsTuple t bj)(hx:bj[i]?=none)
  (q:∀g e,Heap.ExtBut it s.heap g->(∃o,g.get? e=some o/\o.cls=.type "StopIteration")->E (.ref e) { s with heap:=g }):wpAny (model prog w) A (Builtin.SmallTypes.nextOf (.ref it)) Q E s:=by
 obtain⟨ob,e1,e2,e3⟩:=id st
 obtain⟨ot,g1,_,nt,g3⟩:=ht
 have T:=st.typeIs
 unfold Builtin.SmallTypes.nextOf
 refine ah (cP (name:=Str.ofString "__next__") T fE (cY fE T jU ?_ (jA _)))
 show wpAny _ _ (field (.ref it) 0 >>= _) _ _ s
 refine ah (fV e1 e3 (x:=.ref t) rfl ?_)
 dsimp only
 rw[aD (show ¬ ((Value.ref t==Value.none)=true)from bK)]
 refine ah (fV e1 e3 (x:=.int i 0) rfl ?_)
 dsimp only
 refine ah (gn g1 g3 ?_)
 simp only[bB,hx]
 refine ah (io (ah (wpAny_setField e1 e3 (by simp) (ah ?_))))
 simp only[newExc,newTuple]
 refine ah (dQ (ah (m:=firstArgMember _ _) (wpAny_of_eq (a:=Value.none) (by first|rfl|(simp only[firstArgMember];rfl)) (dQ ?_ (by size_fits)))) (by size_fits))
 simp only[raiseNew]
 refine ah (wpAny_handled ?_)
 rw[show A.in1.handled=none from hh]
 exact ah (av (wpAny_throw (q _ _ (((cG ..).extBut.push _).push _) ⟨_,aL _ rfl,rfl⟩)))
end
theorem Ds{prog:Program}{w:World}{A:Around}(hh:A.handled=none)(it t:Addr)(m5:t≠it)(bj:Array Value) :
  Draws prog w A it [it,t] bj.size (fun i v=>bj[i]?=some v) (fun i h=>h.IsTupleIter it t i/\h.IsTuple t bj) where
 live:=fun _ _ st=>let ⟨o,e,_⟩:=st.1;⟨o,e⟩
 frame:=fun _ h h' st k=>⟨st.1.at fun o e=>k it (by simp) o e,let ⟨o,e,r⟩:=st.2;⟨o,k t (by simp) o e,r⟩⟩
 item:=fun i s Q E hi st q=>t6 st.1 st.2 (x:=bj[i]) (by simp[hi]) fun g a b=>q _ g s.toks (by simp[hi]) ⟨a,st.2.extBut b.extBut m5⟩ b
 done:=fun s Q E st q=>pc hh st.1 st.2 (by simp) q
open AutoSeq1 (wpAny_loadPart')
def Rb(K:Frag)(a:Addr):It:=
 ⟨fun i H=>∃xs x,fF K H a xs/\xs[i]?=some x,fun i H v H'=>∃p,H p=none/\v=.ref p/\∀xs x,fF K H a xs->xs[i]?=some x->H'=fx H p (.tup [.int i,x]),fun i H=>∃xs,fF K H a xs/\xs.length<=i⟩
theorem BV{P:Program}{w:World}{K:Frag}{qB:List Expr}{kk:Nat}{pos:Pos}(a it e:Addr)(Mi:e≠it) :
  yQ P w K (.Tuple qB kk pos) (Rb K a) [e,it] e (fun i h=>(∃old,IsEnum h e it i old)/\h.IsTupleIter it a i) where
 mem:=by simp
 obj:=fun i h st b hb=>by
  have z:b=e\/b=it:=by simpa using hb
  rcases z with rfl|rfl
  ·obtain⟨old,q⟩:=st.1
   exact⟨_,q,fun v z=>by cases z⟩
  ·obtain⟨o,q,c,d⟩:=st.2
   exact⟨o,q,fun v z=>by rw[d]at z;cases z⟩
 keep:=fun i h h' st k=>⟨let ⟨old,q⟩:=st.1;⟨old,k e (by simp) _ q⟩,st.2.at fun o q=>k it (by simp) o q⟩
 item:=by
  intro X hP hw hK hc i pins s σ H E I hf st hg
  subst hP hw hK
  obtain⟨xs,x,hq,hx⟩:=hg
  obtain⟨bj,rv,p,hz⟩:=I.tuple hq
  obtain⟨u,hu,ru⟩:=rv.get hx
  obtain⟨⟨old,he⟩,hit⟩:=st
  have hT:s.heap.IsTuple a bj.toArray:=p
  obtain⟨oa,ha,hca,_⟩:=id hT
  obtain⟨oi,hi,hci,_⟩:=id hit
  have nai:a≠it:=fun z=>by
   rw[z,hi]at ha;cases ha
   rw[hci]at hca;injection hca with z;exact absurd z (by decide)
  have nae:a≠e:=fun z=>by
   rw[z,he]at ha;cases ha
   injection hca with z;exact absurd z (by decide)
  have hlt:i<bj.toArray.size:=by
   have:=(aa.mp hu).1
   simpa using this
  refine lL (Ds (A:=X.A.in1) (I.ok.hd hc) it a nai bj.toArray) he ⟨hit,hT⟩ hlt Mi (by simp[Mi,Ne.symm nae]) fun x' g tk hx' ho' bG htup hsz hk=>⟨_,rfl,?_⟩
  have ex:x'=u:=by
   have e1:bj[i]?=some x':=by simpa using hx'
   rw[hu]at e1;exact(a9 e1).symm
  subst ex
  refine kh ho' fun g2 Pi wR=>?_
  have vj:H s.heap.objs.size=none:=I.hok.fresh (aB _)
  have I1:bi X pins σ (fx H s.heap.objs.size (.tup [.int i,x])) { s with heap:=s.heap.push { cls:=.type "tuple",data:=.seq #[.int i tk,x'] },toks:=tk+1 }:=I.laid (fun b o q=>aq _ q) (aB _)
   ⟨by show 2<=sizeLine;decide,[.int i tk,x'],.cons ⟨tk,rfl⟩ (.cons ru .nil),⟨_,aL _ rfl,rfl,_,rfl⟩⟩
  have nf:∀b∈[e,it],b≠s.heap.objs.size:=fun b hb=>by
   have z:b=e\/b=it:=by simpa using hb
   rcases z with rfl|rfl
   ·exact a8 (aF he)
   ·exact a8 (aF hi)
  have fp:∀b∈[e,it],n9 X pins (fx H s.heap.objs.size (.tup [.int i,x])) b:=fun b hb=>by
   obtain⟨f0,f⟩:=hf b hb
   exact⟨by rw[bV (nf b hb)];exact f0,f⟩
  have he2':IsEnum g2 e it ((i:Int)+1) x':=Pi
  have I2:bi X pins σ (fx H s.heap.objs.size (.tup [.int i,x])) { s with heap:=g2,toks:=tk+1 }:=I1.turned2 (t':=tk+1) (fun b o hbe hbi q=>?_) ⟨_,he2'⟩ (fp e (by simp)) (fp it (by simp))
  ·refine⟨.ref s.heap.objs.size,_,I2,rfl,⟨_,vj,rfl,fun ys y hy hy'=>?_⟩,⟨⟨x',by simpa using he2'⟩,bG.1.extBut wR.extBut (Ne.symm Mi)⟩,fun b hb=>(fp b hb).1⟩
   have e1:=I.tuple_inj hy hq
   subst e1
   rw[hx]at hy';cases hy';rfl
  ·have q':(s.heap.push { cls:=.type "tuple",data:=.seq #[.int i tk,x'] }).get? b=some o:=q
   refine wR.extBut b o hbe ?_
   by_cases hb:b=s.heap.objs.size
   ·subst hb
    have e1:=aL s.heap (o:={ cls:=.type "tuple",data:=.seq #[.int i tk,x'] }) rfl
    rw[e1]at q';cases q'
    exact htup
   ·rw[Heap.get?_push_ne _ _ _ hb]at q'
    exact hk b o hbe hbi q'
 done:=by
  intro X hP hw hK hc i pins s σ H E I hf st hg
  subst hP hw hK
  obtain⟨xs,hq,hx⟩:=hg
  obtain⟨bj,rv,p,hz⟩:=I.tuple hq
  obtain⟨⟨old,he⟩,hit⟩:=st
  have hT:s.heap.IsTuple a bj.toArray:=p
  have hl:=rv.length
  have hT':Shared.TypeIs s (.ref e) "enumerate":=⟨_,he,rfl⟩
  unfold pyNext
  refine ah (wpAny_attempt (cP (name:=Str.ofString "__next__") hT' gO (cY gO hT' mD ?_ (lM _))))
  show wpAny _ _ (field (.ref e) 2 >>= _) _ _ _
  refine ah (fV he rfl (x:=.ref it) rfl (ah (pc (show X.A.in1.handled=none from I.ok.hd hc) hit hT (by simp;omega) fun g y hx' hy=>?_)))
  obtain⟨o,ho,k6⟩:=hy
  refine ah (hG (T:="StopIteration") (b:=true) ⟨o,ho,k6⟩ isSubtype_stop (av ⟨rfl,?_⟩))
  obtain⟨f0,f1,f2,f3,f4,f5⟩:=hf it (by simp)
  exact I.turned (t':=s.toks) (fun b o hb q=>hx' b o hb q) f0 f1 f3 f4 f5
 self:=fun A i s Q E st h=>let ⟨_,q⟩:=st.1;iJ q h
open AutoSeq1 (wpAny_loadPart')
abbrev pd(t:Addr):Obj:={ cls:=.type "tuple_iterator",data:=.fields #[.ref t,.int 0 0] }
abbrev qd(it:Addr):Obj:={ cls:=.type "enumerate",data:=.fields #[.none,.bool false,.ref it,rawInt 0,.none,.none] }
theorem Ky(t:Addr)(bj:Array Value)(n:Nat)(dc:Option Addr)(sl:Array (Option Value)) :
  Meets (Builtin.«enumerate.__new__» ⟨[.type "enumerate",.ref t],[]⟩) (fun _ R s=>s.heap.get? t=some { cls:=.type "tuple",dict:=dc,data:=.seq bj n,slots:=sl } /\
   R (.ok (.ret (.ref (s.heap.push (pd t)).objs.size))) { s with heap:=(s.heap.push (pd t)).push (qd s.heap.objs.size) }):=
 .of_wp fun prog w A R s h=>by
  obtain⟨hp,g,d,tk,os⟩:=s
  obtain⟨ht,h⟩:=h
  have sb:=sub_enumerate
  have hT:Heap.IsTuple (Shared.heap ⟨hp,g,d,tk,os⟩) t bj:=⟨_,ht,rfl,n,rfl⟩
  wp_walk using bq ht
  refine wpAny_stack_any fun st=>av ?_
  split
  ·rename_i c _ _ _ _ _
   cases(c==Value.type "enumerate")<;>(wp_walk using bq ht,j9 hT;exact⟨_,rfl,h⟩)
  ·wp_walk using bq ht,j9 hT
   exact⟨_,rfl,h⟩
section
variable{prog:Program}{w:World}{A:Around}{E:Value->Shared->Prop}{s:Shared}
theorem t7{t:Addr}{bj:Array Value}{Q:Value->Shared->Prop}(hT:s.heap.IsTuple t bj)
  (q:∀g,IsEnum g (s.heap.objs.size+1) s.heap.objs.size 0 .none->g.IsTupleIter s.heap.objs.size t 0->(∀b o,s.heap.get? b=some o->g.get? b=some o)->Q (.ref (s.heap.objs.size+1)) { s with heap:=g }) :
  wpAny (model prog w) A (call (.type "enumerate") [.ref t]) Q E s:=by
 obtain⟨⟨c,dc,dt,sl⟩,ht,hc,n,hd⟩:=hT
 obtain rfl:c=.type "tuple":=hc
 obtain rfl:dt=.seq bj n:=hd
 refine callType_new F.called_enumerate (by decide) (mE _) (m7 _) (fun ob=>F.args_object_init_2 ob _) m8 (Ky t bj n dc sl) ⟨ht,?_⟩
 have z:(s.heap.push (pd t)).objs.size=s.heap.objs.size+1:=fC ..
 show _/\_
 rw[z]
 have e1:IsEnum ((s.heap.push (pd t)).push (qd s.heap.objs.size)) (s.heap.objs.size+1) s.heap.objs.size 0 .none:=by
  have y:=aL (s.heap.push (pd t)) (o:=qd s.heap.objs.size) rfl
  rw[z]at y;exact y
 exact⟨⟨_,e1,rfl⟩,q _ e1 ⟨_,aq _ (aL _ rfl),rfl,rfl⟩ fun b o y=>aq _ (aq _ y)⟩
end
section
variable{X:Cx}
def Qp(K:Frag)(ta:TA):TI:=fun σ H R=>ta σ H fun vs H1=>∃a,vs=[.ref a]/\(∃xs,fF K H1 a xs)/\R (Rb K a) H1
theorem Dt{a:Expr}{ta:TA}{p pos tp:Pos}{qB:List Expr}{kk:Nat}(hm:X.mg "enumerate"=none)(ha:QA X [a] ta)(hg:Gl X "enumerate":=by rfl)(hs:starEach [a] X.env=[(false,eval a X.env)]:=by rfl) :
  QI X (.Tuple qB kk tp) (.Call (.Name "enumerate" p) [a] [] pos) (Qp X.K ta):=⟨by
 intro pins s σ H R I h
 refine Call_ (lQ I hg hm nJ (cK (gq (ha.h pos pins s σ H _ I h) fun us s1 ⟨vs,H1,I1,r1,q1⟩=>?_) hs rfl))
 obtain⟨t,e,⟨xs,hq⟩,q⟩:=q1
 subst e
 obtain⟨u,rfl,ru⟩:=lq r1
 cases ru
 obtain⟨bj,rv,pt,hz⟩:=I1.tuple hq
 refine t7 (show s1.heap.IsTuple t bj.toArray from pt) fun g e1 e2 kp=>?_
 refine iJ e1 ?_
 refine⟨s1.heap.objs.size+1,[s1.heap.objs.size+1,s1.heap.objs.size],_,_,H1,rfl,I1.kept (t':=s1.toks) kp,BV t _ _ (Nat.succ_ne_self _),⟨⟨_,e1⟩,e2⟩,fun b hb=>?_,q⟩
 have z:b=s1.heap.objs.size+1\/b=s1.heap.objs.size:=by simpa using hb
 rcases z with rfl|rfl
 ·exact I1.fpOk (gu _) (I1.hok.fresh (gu _))
 ·exact I1.fpOk (aB _) (I1.hok.fresh (aB _))⟩
end
section
variable{cap:List (Option Nat)}{g:TG}{tc:TT}{te:TE}{σ:St}{H1:Hp}{Q:VK}{n:Nat}
end
def Qq(w:World):Bool:=w.params.followText "set-order"
def Nw(w:World)(n:Nat)(t:SetTable):Prop:=(Qq w=true\/t.led=true)/\(n=0\/t.plain=false)
section
variable{prog:Program}{w:World}
def Kz(prog:Program)(w:World)(h:Heap)(a:Addr)(ks:List Str):Prop:=
 ∃o es ep t,h.get? a=some o/\o.ExactSet/\o.data=.set es ep t/\ElemsOf (PySem.strKind prog w) es.toList/\(es.toList.map fun e=>strOf e.2).Perm ks/\es.size<scanBound/\t.fits es.size=true/\Nw w es.size t
theorem Kz.keep{h h':Heap}{a:Addr}{ks:List Str}(z:Kz prog w h a ks)(k:∀o,h.get? a=some o->h'.get? a=some o):Kz prog w h' a ks:=let ⟨o,es,ep,t,ho,r⟩:=z;⟨o,es,ep,t,k o ho,r⟩
variable{A:Around}{E:Value->Shared->Prop}{s:Shared}
end
section
variable{prog:Program}{w:World}{A:Around}{R:Result->Shared->Prop}{I:Addr}{fp wr:List Addr}{n:Nat}{P:Nat->Value->Prop}{St:Nat->Heap->Prop}
end
section
variable{prog:Program}{w:World}{A:Around}{E:Value->Shared->Prop}{s:Shared}
end
section
variable{M:Model}{A:Around}{E:Value->Shared->Prop}
end
section
variable{prog:Program}{w:World}{A:Around}{E:Value->Shared->Prop}{s:Shared}
structure Du(w:World)(h:Heap)(S:Addr)(es:Array (Int×Value))(ep:Nat)(t:SetTable):Prop where
 ex:∃o,h.get? S=some o/\o.ExactSet/\o.data=.set es ep t
 fits:t.fits es.size=true
theorem Du.keep{h h':Heap}{S:Addr}{es:Array (Int×Value)}{ep:Nat}{t:SetTable}(z:Du w h S es ep t)(k:∀o,h.get? S=some o->h'.get? S=some o):Du w h' S es ep t:=⟨let ⟨o,ho,r⟩:=z.ex;⟨o,k o ho,r⟩,z.fits⟩
end
section
variable{prog:Program}{w:World}{A:Around}{E:Value->Shared->Prop}{s:Shared}
end
section
variable{prog:Program}{w:World}{A:Around}{E:Value->Shared->Prop}{s:Shared}
end
section
variable{prog:Program}{w:World}{A:Around}{E:Value->Shared->Prop}{s:Shared}
end
section
variable{prog:Program}{w:World}{A:Around}{E:Value->Shared->Prop}{s:Shared}
end
section
variable{prog:Program}{w:World}{A:Around}{E:Value->Shared->Prop}{s:Shared}
end
theorem bi.kept2{X:Cx}{pins:List (Addr×Obj)}{σ:St}{H:Hp}{s:Shared}{h':Heap}{t':Nat}{d':Drawn}(I:bi X pins σ H s)(k:∀b o,s.heap.get? b=some o->h'.get? b=some o):bi X pins σ H { s with heap:=h',drawn:=d',toks:=t' }:=
 I.step (g':=s.gens) (ch:=[]) (fun _ z=>nomatch z) (fun b o _ _ _ e _=>k b o e) (fun b o _ _ _ e _=>⟨o.slots,k b o e⟩) (fun _ _ _ _ n=>n) (fun b o _ e=>⟨o,k b o e⟩) (fun _ _ e=>e) (fun _ _ _ e=>e) (fun b ps e=>⟨#[],by rw[e];simp⟩)
  (fun m hm=>let ⟨o,es,ep,ho,r⟩:=hm;⟨o,es,ep,k _ o ho,r⟩) (I.hok.kept k) I.bare
def rW(h:Heap)(it:Addr)(x:Str)(t:Tok)(i:Int):Prop:=∃o,h.get? it=some o/\o.cls=.type "reversed"/\o.data=.fields #[.str x t,rawInt i]
theorem rW.typeIs{s:Shared}{a:Addr}{x:Str}{t:Tok}{i:Int}(z:rW s.heap a x t i):s.TypeIs (.ref a) "reversed":=let ⟨o,ho,hc,_⟩:=z;⟨o,ho,hc⟩
theorem rW.keep{h h':Heap}{a:Addr}{x:Str}{t:Tok}{i:Int}(z:rW h a x t i)(e:∀o,h.get? a=some o->h'.get? a=some o):rW h' a x t i:=let ⟨o,ho,r⟩:=z;⟨o,e _ ho,r⟩
section
variable{prog:Program}{w:World}{A:Around}{E:Value->Shared->Prop}{s:Shared}
end
section
variable{X:Cx}{oh tg iter:Expr}{nh:List Expr}{scope:Scope}{pos:Pos}{nm:List Str}{cl:List (Str×Addr)}{cap:List (Option Nat)}{wi:TI}{g:TG}{tc:TT}{te:TE}
theorem y8{x0:Str}{p0 p1:Pos}{gx:TG}(O6:PG X (.Name x0 p0) gx)(Pa:swapsWith (.ListComp oh [⟨tg,iter,nh,0⟩] scope pos) (some (.Name x0 p0)) p1.line X.env=pure true)(iE:X.calm=true)(F9:closureFor scope X.env=pure cl)(k6:∀x c,cl.lookup x=some c->X.env.cells.lookup x=some c)
  (h_:scope.kind=.function) (Ag:∀x∈scope.names,x.2=.local->scope.names.lookup x.1=some .local) (iT:∀y∈scope.names,y.2≠.cell)
  (Mr:∀x,((relabel scope X.env).names.lookup x=some .cell\/(relabel scope X.env).names.lookup x=some .free)->∃c,cl.lookup x=some c)
  (Af:∀(i j:Nat),cap[i]?=some (some j)->∃x,nm[i]?=some x/\X.N[j]?=some x/\Dk X scope cl x) (dw:cap.length=nm.length)
  (hi:PI X tg iter wi) (hg:∀C s0 H0 fp,PG (bI X nm scope cl C s0 H0 fp) tg g) (ht:∀C s0 H0 fp,GY (bI X nm scope cl C s0 H0 fp) nh tc)
  (he:∀C s0 H0 fp,PE (bI X nm scope cl C s0 H0 fp) oh te) (hs:∀x,foldedSetIterable iter X.env x=pure x:=by intro _;rfl) :
  PS X (.Assign [.Name x0 p0] (.ListComp oh [⟨tg,iter,nh,0⟩] scope pos) p1) (C3 (uE cap wi g tc te) gx):=by
 intro pins s σ H D I h
 rw[exec_Assign_Name_used _ _ _ _ Pa]
 suffices main:wpAny (model X.prog X.w) X.A (comprehension (.ListComp oh [⟨tg,iter,nh,0⟩] scope pos) scope X.env (firstIterPos [⟨tg,iter,nh,0⟩] pos) (newList []) (firstAsync [⟨tg,iter,nh,0⟩]) (firstIter [⟨tg,iter,nh,0⟩] X.env) (some (assign (.Name x0 p0) X.env))) (fun _ s'=>SP X pins D .next s') X.xe s from
  ah (je (ah (ah (bX main (fun _ s' h=>av (av h)) fun _ _ z=>z))))
 refine la (use:=some (assign (.Name x0 p0) X.env)) rfl hs F9 h_ Ag (gq (hi pins s σ H _ I h) fun v s1 h1=>gq h1 fun PL s2 h2=>?_)
 obtain⟨it,fp,tn,J,H1,e,I2,T,cQ,f2,W,⟨m0,w0⟩,turn⟩:=h2
 subst e
 have hfpn:∀b∈fp,b<s2.heap.objs.size:=fun b hb=>let ⟨o,ho,_⟩:=T.obj _ _ cQ b hb;aF ho
 have hfpc:∀b∈fp,∀x c,X.env.cells.lookup x=some c->c≠b:=fun b hb=>(f2 b hb).2.2.2.2.1
 refine dQ (jm iT (by intro y hy;simp at hy) (fun h₁ hns₁ hsb₁=>?_) h_)
 dsimp only at hns₁ hsb₁ ⊢
 generalize hH2:s2.heap.push { cls:=.type "list",dict:=none,data:=.seq ([]:List Value).toArray }=G2 at hns₁ hsb₁ ⊢
 have hC:G2.objs.size=s2.heap.objs.size+1:=by rw[<- hH2,fC]
 have hDC:s2.heap.objs.size≠G2.objs.size:=by rw[hC];exact a8 (gm _)
 have old:∀b o,s2.heap.get? b=some o->h₁.get? b=some o:=fun b o e=>hsb₁.extBut b o (by rw[hC];exact a8 (fW (aF e))) (aq _ (hH2▸aq _ e))
 have hacc:h₁.get? s2.heap.objs.size=some { cls:=.type "list",data:=.seq ([]:List Value).toArray }:=hsb₁.extBut _ _ hDC (aq _ (hH2▸aL _ rfl))
 have okB:(bI X nm scope cl G2.objs.size s2 H1 fp).Ok:=by
  refine⟨I2.ok.mod,h_,I2.ok.glob,I2.ok.blt,by show s2.heap.objs.size<=G2.objs.size;omega,fun x y c h1 h2=>I2.ok.inj x y c (k6 _ _ h1) (k6 _ _ h2),fun x hx=>Mr x hx,fun x c h0=>(by cases h0),fun hc=>I2.ok.hd iE,I2.ok.frames,.inl rfl,?_,?_,?_,?_,?_,?_,?_⟩
  ·intro b hb
   exact⟨a8 (a6 (hfpn b hb) (by show _<=G2.objs.size;omega)),fun x c hx=>hfpc b hb x c (k6 _ _ hx)⟩
  ·exact fun b o hb=>I2.bs b o hb
  ·exact aV I2.ok.bsz I2.sz
  ·intro b o hb z
   rcases(f2 b z).2.2.2.1 with q|q
   ·exact I2.ok.noex b o hb q
   ·exact absurd (aF (I2.ok.bs b o hb).1) (oY.mpr q)
  ·intro b hb z
   rcases a7.mp (I2.stkSub b z)with q|q
   ·exact(f2 b hb).2.1 q
   ·exact(f2 b hb).2.2.1 q
  ·exact I2.stack
  ·exact I2.stkFree
 have I4:bi (bI X nm scope cl G2.objs.size s2 H1 fp) [] (lr cap σ) H1 { s2 with heap:=h₁,toks:=s2.toks+([]:List (Str×Value)).length }:=by
  refine Aw Af dw I2 hfpc (σ2:=List.replicate nm.length none) ⟨okB,rfl,I2.bare,Un.kept old,⟨_,hns₁,fun i x v _ e2=>?_⟩,fun x c hx=>?_,?_,fun x c hx=>I2.freeC x c (k6 _ _ hx),fun p hp=>absurd hp (by simp),I2.hok.kept old,by simp⟩
  ·rw[iw]at e2;split at e2<;>cases e2
  ·obtain⟨v,hv⟩:=I2.cell x c (k6 _ _ hx)
   exact⟨v,hv.keeps old⟩
  ·exact I2.hok.fresh (by show _<=G2.objs.size;omega)
 have hsz0:∀{Hx:Hp} {sx:Shared} {px:List (Addr×Obj)} {σx:St},bi (bI X nm scope cl G2.objs.size s2 H1 fp) px σx Hx sx->Hx s2.heap.objs.size=none->∀{oa:Obj},sx.heap.get? s2.heap.objs.size=some oa->(∀v,oa.data≠.cell v) ->
   bi (bI X nm scope cl G2.objs.size s2 H1 fp) [(s2.heap.objs.size,oa)] σx Hx sx:=fun{Hx sx px σx} Ix hn {oa} ho hd=>Ix.pins_of fun p hp=>by
  have e:p=(s2.heap.objs.size,oa):=by simpa using hp
  subst e
  exact⟨ho,hn,hDC,fun z=>by
   obtain⟨_,o,q,_⟩:=I2.stack.mem z
   exact absurd (aF q) (bx _),hd⟩
 have hfpB:∀{Hx:Hp} {oa:Obj},(∀b∈fp,Hx b=none)->∀b∈fp,n9 (bI X nm scope cl G2.objs.size s2 H1 fp) [(s2.heap.objs.size,oa)] Hx b:=fun{Hx oa} hn b hb=>
  ⟨hn b hb,(okB.exf b hb).1,okB.exfs b hb,.inl hb,(okB.exf b hb).2,fun p hp=>by
   have e:p=(s2.heap.objs.size,oa):=by simpa using hp
   subst e
   exact ml (hfpn b hb)⟩
 have hcalmB:(bI X nm scope cl G2.objs.size s2 H1 fp).calm=true:=iE
 have loop:∀sx:Shared,sx={ s2 with heap:=h₁,toks:=s2.toks+([]:List (Str×Value)).length } ->
   codeAny (model X.prog X.w) X.A (.compLoop (.ListComp oh [⟨tg,iter,nh,0⟩] scope pos) 0 (.ref it) (.ref s2.heap.objs.size) (compEnvC scope cl G2.objs.size X.env))
    (compPost (model X.prog X.w) X.A X.xe (some (assign (.Name x0 p0) X.env)) (fun _ s'=>SP X pins D .next s') (.ref s2.heap.objs.size) G2.objs.size) sx:=by
  rintro sx rfl
  refine codeAny_loop rfl (fun n s'=>∃i ys H',bi (bI X nm scope cl G2.objs.size s2 H1 fp) [] (lr cap σ) H' s'/\tn i s'.heap/\(∀b∈fp,H' b=none)/\H' s2.heap.objs.size=none /\
   (∃bj k,b9 ys bj/\s'.heap.get? s2.heap.objs.size=some { cls:=.type "list",data:=.seq bj.toArray k })/\W i n ys H') ?_ m0
   ⟨0,[],H1,I4,T.keep _ _ _ cQ (fun b _ o e=>old b o e),fun b hb=>(f2 b hb).1,I2.fresh,⟨[],0,.nil,hacc⟩,w0⟩
  rintro n s3 ⟨i,ys,H3,I3,jH,fr3,na3,⟨bj,ka,rv,ea⟩,w3⟩
  show wpAny _ X.A ((compTurn (.ListComp oh [⟨tg,iter,nh,0⟩] scope pos) 0 (.ref it) (.ref s2.heap.objs.size) (compEnvC scope cl G2.objs.size X.env)).onRaise (fun x=>do noteFrame x (compEnvC scope cl G2.objs.size X.env);theTreesLotGoes x)) _ _ s3
  refine wpAny_noted ?_
  rw[compTurn_list]
  refine ah (je ?_)
  have I3p:=hsz0 I3 na3 ea (fun v z=>by cases z)
  rcases turn i n ys H3 w3 with⟨stop,hz,qn⟩|⟨go,step⟩
  ·refine ah (bX (T.done (bI X nm scope cl G2.objs.size s2 H1 fp) rfl rfl rfl hcalmB i _ s3 _ H3 (fun _ _=>False) I3p (hfpB fr3) jH stop) (fun r s4 hr=>?_) fun _ _ z=>z.elim)
   obtain⟨hr,I4'⟩:=hr
   subst hr
   refine av ?_
   obtain⟨m4,hn4,_⟩:=id I4'.loc
   have pa:=I4'.pin (s2.heap.objs.size,{ cls:=.type "list",data:=.seq bj.toArray ka }) (by simp)
   have ne:∀b o,s2.heap.get? b=some o->b≠s2.heap.objs.size/\b≠G2.objs.size:=fun b o e=>⟨a8 (aF e),a8 (by rw[hC];exact fW (aF e))⟩
   have I5:bi X pins σ (fx H3 s2.heap.objs.size (.lst ys)) s4:=by
    refine I2.call' (ch:=fp) I4'.os ⟨fun b o e n hb hx=>?_,fun b o e n hb hx=>?_,fun b o e n hx=>?_,fun b o e hx=>?_,fun b xs e=>?_,fun b o u e=>?_,fun b ps e=>?_⟩ ?_ I4'.bare fun b hb=>?_
    ·exact I4'.base.keep b o e n hb hx
    ·exact I4'.base.slot b o e n hb hx
    ·rw[bV (ne b o e).1];exact I4'.base.free b o e n hx
    ·exact I4'.base.there b o e hx
    ·have q:=I4'.base.tups b xs e
     rw[bV (c_ q na3)];exact q
    ·have q:=I4'.base.frzs b o u e
     rw[bV (c_ q na3)];exact q
    ·obtain⟨mr,q⟩:=I4'.base.tbls b ps e
     exact⟨mr,by rw[bV (c_ q na3)];exact q⟩
    ·intro b o e
     by_cases hb:b=s2.heap.objs.size
     ·subst hb
      rw[eD]at e;cases e
      exact⟨hz,bj,ka,rv,pa.1⟩
     ·rw[bV hb]at e
      exact(I4'.hok b o e).stay (fun c u hc q=>q) (fun c q=>by rw[bV (c_ q na3)];exact q) fun c xs q=>by rw[bV (c_ q na3)];exact q
    ·obtain⟨_,g1,_,g3,g4,g5⟩:=f2 b hb
     exact⟨g3,g1,g4,g5⟩
   obtain⟨oC,es,ep,hoC,hdC,hrC⟩:=hn4
   have fr:H3 G2.objs.size=none:=I4'.free
   have lC:s2.heap.objs.size<=G2.objs.size:=by rw[hC];exact gu _
   have neL:G2.objs.size≠X.env.locals:=ml (a6 I2.lt lC)
   have I5p:bi X (pins++[(G2.objs.size,oC)]) σ (fx H3 s2.heap.objs.size (.lst ys)) s4:=I5.pins_of fun p hp=>by
    rcases aQ.mp hp with z|z
    ·exact I5.pin p (aK _ z)
    ·have e:p=(G2.objs.size,oC):=by simpa using z
     subst e
     exact⟨hoC,by rw[bV (Ne.symm hDC)];exact fr,neL,I2.nofs lC,fun v z=>by rw[hdC]at z;cases z⟩
   refine bX (O6 _ s4 σ _ (.ref s2.heap.objs.size) (.ref s2.heap.objs.size) _ I5p rfl (qn _ na3)) (fun _ s5 h5=>?_) fun _ _ z=>z
   obtain⟨σ',H',I6,nx⟩:=h5
   have pC:=I6.pin (G2.objs.size,oC) (aK _ (aK _ (bL.mpr rfl)))
   have I7:bi X pins σ' H' s5:=I6.pins_of fun p hp=>I6.pin p (aK _ (fU _ hp))
   refine⟨m4,⟨oC,es,ep,pC.1,hdC,hrC⟩,fun h' hs'=>?_⟩
   refine⟨σ',H',I7.turned (t':=s5.toks) (it:=G2.objs.size) (fun b o hb e=>hs'.extBut b o hb e) pC.2.1 neL (.inr (aV I2.sz lC)) (fun x c hx z=>?_) (fun p hp z=>?_),nx⟩
   ·obtain⟨v,o,ho,_⟩:=I2.cell x c hx
    exact absurd (aF ho) (by rw[z];exact oY.mpr lC)
   ·have:=(I2.pin p hp).1
    exact absurd (aF this) (by rw[z];exact oY.mpr lC)
  ·refine ah (bX (T.item (bI X nm scope cl G2.objs.size s2 H1 fp) rfl rfl rfl hcalmB i _ s3 _ H3 (fun _ _=>False) I3p (hfpB fr3) jH go) (fun r s4 hr=>?_) fun _ _ z=>z.elim)
   obtain⟨u,hr,h4⟩:=hr
   subst hr
   dsimp only
   refine ah (bX h4 (fun _ s5 h5=>?_) fun _ _ z=>z.elim)
   obtain⟨x,H5,I5,r5,y5,st5,fr5⟩:=h5
   have I5':=I5.pinned (hfpB fr5) (T.obj _ _ st5)
   refine ah (bX (hg _ _ _ _ _ s5 _ H5 x u _ I5' r5 (step x H5 y5)) (fun _ s6 h6=>?_) fun _ _ z=>z.elim)
   obtain⟨σ6,H6,I6,q6⟩:=h6
   refine ah (bX (ht _ _ _ _ _ s6 σ6 H6 _ I6 q6) (fun ok s7 h7=>?_) fun _ _ z=>z.elim)
   obtain⟨H7,I7,q7⟩:=h7
   have back:∀{H8:Hp} {s8:Shared} {Il:List V} {its':List Value} {k':Nat},bi (bI X nm scope cl G2.objs.size s2 H1 fp) [] σ6 H8 s8->(∀b∈fp,∀o,s5.heap.get? b=some o->s8.heap.get? b=some o)->(∀b∈fp,H8 b=none)->H8 s2.heap.objs.size=none ->
     b9 Il its'->s8.heap.get? s2.heap.objs.size=some { cls:=.type "list",data:=.seq its'.toArray k' }->(∃m',m'<n/\W (i+1) m' Il H8) ->
     ∃m,m<n/\∃i ys H',bi (bI X nm scope cl G2.objs.size s2 H1 fp) [] (lr cap σ) H' s8/\tn i s8.heap/\(∀b∈fp,H' b=none)/\H' s2.heap.objs.size=none /\
      (∃bj k,b9 ys bj/\s8.heap.get? s2.heap.objs.size=some { cls:=.type "list",data:=.seq bj.toArray k })/\W i m ys H':=
    fun{H8 s8 Il its' k'} I8 kf f8 n8 rv8 e8 ⟨m',hm,w8⟩=>⟨m',hm,i+1,Il,H8,Aw Af dw I2 hfpc I8,T.keep _ _ _ st5 kf,f8,n8,⟨its',k',rv8,e8⟩,w8⟩
   cases ok with
   |false=>
    refine av ⟨rfl,?_⟩
    have q7':∃m',m'<n/\W (i+1) m' ys H7:=by simpa using q7
    have pa:=I7.pin (s2.heap.objs.size,{ cls:=.type "list",data:=.seq bj.toArray ka }) (by simp)
    refine back (I7.pins_of fun p hp=>absurd hp (by simp)) (fun b hb o e=>?_) (fun b hb=>?_) pa.2.1 rv pa.1 q7'
    ·exact(I7.pin (b,o) (aK _ (aK _ (fX hb e)))).1
    ·obtain⟨o,e,d⟩:=T.obj _ _ st5 b hb
     exact(I7.pin (b,o) (aK _ (aK _ (fX hb e)))).2.1
   |true=>
    rw[ax rfl]at q7
    refine ah (ah (bX (he _ _ _ _ _ s7 σ6 H7 _ I7 q7) (fun xv s8 h8=>?_) fun _ _ z=>z.elim))
    obtain⟨y,H8,I8,r8,hzy,q8⟩:=h8
    have pa:=I8.pin (s2.heap.objs.size,{ cls:=.type "list",data:=.seq bj.toArray ka }) (by simp)
    refine ah (pb pa.1 (by rw[<- rv.length];exact hzy) fun h' k' tk e9 sb=>?_)
    refine av (av ⟨rfl,?_⟩)
    have I9:bi (bI X nm scope cl G2.objs.size s2 H1 fp) [] σ6 H8 { s8 with heap:=h',toks:=tk }:=
     (bi.pins_of (pins':=[]) I8 fun p hp=>absurd hp (by simp)).turned (it:=s2.heap.objs.size) (fun b o hb e=>sb b o hb e) pa.2.1 hDC (.inr (aB _)) (fun x c hx z=>by
      obtain⟨v,hv⟩:=I2.cell x c (k6 _ _ hx)
      exact absurd hv.lt (by rw[z];exact bx _)) (fun p hp=>absurd hp (by simp))
    refine back I9 (fun b hb o e=>?_) (fun b hb=>?_) pa.2.1 (rv.append (.cons r8 .nil)) e9 q8
    ·exact sb b o (a8 (hfpn b hb)) (I8.pin (b,o) (aK _ (aK _ (fX hb e)))).1
    ·obtain⟨o,e,d⟩:=T.obj _ _ st5 b hb
     exact(I8.pin (b,o) (aK _ (aK _ (fX hb e)))).2.1
 exact mz (loop _ rfl) (T.self _ _ _ _ _ (T.keep _ _ _ cQ fun b _ o e=>old b o e) (loop _ rfl))
end
theorem y9{X:Cx}{x0:Str}{p0 p1:Pos}{gx:TG}{oh tg iter:Expr}{nh:List Expr}{scope:Scope}{pos:Pos}{nm:List Str}{cap:List (Option Nat)}{wi:TI}{g:TG}{tc:TT}{te:TE}{m:Nat}(O6:QG X (.Name x0 p0) gx)(iE:X.calm=true)
  (mf:X.env.cells=cellsFrom m X.env.scope.names []) (h_:scope.kind=.function) (hB:vC X.env.scope.names scope.names nm cap X.N=true)
  (hi:QI X tg iter wi) (hg:∀cl C s0 H0 fp,QG (bI X nm scope cl C s0 H0 fp) tg g) (ht:∀cl C s0 H0 fp,Ps (bI X nm scope cl C s0 H0 fp) nh tc)
  (he:∀cl C s0 H0 fp,QE (bI X nm scope cl C s0 H0 fp) oh te) (hs:∀x,foldedSetIterable iter X.env x=pure x:=by intro _;rfl) (Pa:swapsWith (.ListComp oh [⟨tg,iter,nh,0⟩] scope pos) (some (.Name x0 p0)) p1.line X.env=pure true:=by first|rfl|kernel_rfl) :
  QS X (.Assign [.Name x0 p0] (.ListComp oh [⟨tg,iter,nh,0⟩] scope pos) p1) (C3 (uE cap wi g tc te) gx):=by
 simp only[vC,aX,dG,fP,iI,dB,ba]at hB
 obtain⟨⟨⟨⟨b1,b2⟩,b3⟩,b4⟩,b5⟩:=hB
 have has:∀x∈scope.names,x.2=.free->∃c,X.env.cells.lookup x.1=some c:=fun x hx hk=>by
  rw[mf]
  rcases b3 x hx with z|z
  ·exact absurd hk z
  ·exact ni z
 have k6:∀x c,(gG X.env scope.names []).lookup x=some c->X.env.cells.lookup x=some c:=fun x c h=>nN scope.names [] has (by simp) (x,c) (dC h)
 have hin:∀x,(x,NameKind.free)∈scope.names->∃c,(gG X.env scope.names []).lookup x=some c:=fun x h=>let ⟨_,q⟩:=lU (env:=X.env) scope.names [] x h;lV q
 have hmap:(relabel scope X.env).names=scope.names.map fun y=>if (y.2==.free&&X.env.scope.kind==.function&&X.env.kindOf y.1==some .cell)then(y.1,NameKind.cell)else y:=by
  show scope.names.map _=_
  refine bC fun y _=>?_
  obtain⟨a,b⟩:=y
  rfl
 have fr:∀x,((relabel scope X.env).names.lookup x=some .cell\/(relabel scope X.env).names.lookup x=some .free)->(x,NameKind.free)∈scope.names:=fun x h=>by
  have h':∃k,(x,k)∈(relabel scope X.env).names/\(k=.cell\/k=.free):=by
   rcases h with h|h
   ·exact⟨_,dC h,.inl rfl⟩
   ·exact⟨_,dC h,.inr rfl⟩
  obtain⟨k,hm,hk⟩:=h'
  rw[hmap]at hm
  obtain⟨y,hy,e⟩:=aS.mp hm
  obtain⟨a,b⟩:=y
  by_cases hb:b=.free
  ·subst hb
   have:a=x:=by split at e<;>(cases e;rfl)
   subst this;exact hy
  ·rw[aD (by simp[hb])]at e
   cases e
   rcases hk with rfl|rfl
   ·exact absurd rfl (b2 _ hy)
   ·exact absurd rfl hb
 refine⟨y8 O6.h Pa (cl:=gG X.env scope.names []) (cap:=cap) (nm:=nm) iE (AA has) k6 h_ (fun x hx hk=>(b1 x hx).resolve_left fun z=>z hk) (fun y hy=>b2 y hy) (fun x hx=>hin x (fr x hx)) (fun i j e=>?_) b4 hi.h (fun C s0 H0 fp=>(hg _ C s0 H0 fp).h) (fun C s0 H0 fp=>(ht _ C s0 H0 fp).h) (fun C s0 H0 fp=>(he _ C s0 H0 fp).h) hs⟩
 have hi':i<cap.length:=(aa.mp e).1
 have q:=b5 i (bt.mpr hi')
 rw[e]at q
 dsimp only at q
 cases hx:nm[i]? with
 |none=>rw[hx]at q;simp at q
 |some x=>
  cases hy:X.N[j]? with
  |none=>rw[hx,hy]at q;simp at q
  |some y=>
   rw[hx,hy]at q
   simp only[aX,dB]at q
   obtain⟨⟨rfl,q1⟩,q2⟩:=q
   refine⟨x,rfl,rfl,.inr (.inl q1),(by rw[q1];decide),?_,?_⟩
   ·obtain⟨c,hc⟩:=hin x (dC q2)
    rw[hc,k6 _ _ hc]
   ·rw[hmap];exact kx (env:=X.env) q2
open AutoSeq1 (wpAny_loadPart')
theorem Dv(l b:Addr)(i1 i2:Array Value)(n1 n2:Nat)(d1 d2:Option Addr)(s1 s2:Array (Option Value))(h0:i1.isEmpty=true) :
  Meets (Builtin.«tuple.__add__» ⟨[.ref l,.ref b],[]⟩) (fun _ R s=>s.heap.get? l=some { cls:=.type "tuple",dict:=d1,data:=.seq i1 n1,slots:=s1 }/\s.heap.get? b=some { cls:=.type "tuple",dict:=d2,data:=.seq i2 n2,slots:=s2 }/\R (.ok (.ret (.ref b))) s):=
 .of_wp fun prog w A R s h=>by
  obtain⟨hp,g,d,tk,os⟩:=s
  obtain⟨e1,e2,h⟩:=h
  have a2:=PyProof.Rows.sub_tuple_tuple
  wp_walk using bq e1,bq e2
  exact⟨_,rfl,h⟩
def Nx(K:Frag):R2:=fun x y H Q=>∃a b xs ys,x=.ref a/\y=.ref b/\fF K H a xs/\fF K H b ys/\xs.length+ys.length<=sizeLine/\∀p H2,kr H H2->fF K H2 p (xs++ys)->Q (.ref p) H2
theorem KA{X:Cx}:Ra X (binaryOp .Add) (Nx X.K):=⟨by
 intro pins s σ H x y v u Q I rx ry h
 obtain⟨a,b,xs,ys,rfl,rfl,ha,hb,hz,q⟩:=h
 by_cases hx:xs=[]
 ·subst hx
  cases rx
  cases ry
  obtain⟨bj,r1,p1,_⟩:=I.tuple ha
  obtain⟨its2,r2,p2,_⟩:=I.tuple hb
  have e1:bj=[]:=r1.nil_iff.mpr rfl
  obtain⟨⟨c1,d1,g1,l1⟩,f1,hc1,n1,Mw⟩:=id p1
  obtain⟨⟨c2,d2,g2,l2⟩,f2,hc2,n2,Bp⟩:=id p2
  simp only at hc1 Mw hc2 Bp
  subst hc1 Mw hc2 Bp
  refine pX ⟨_,f1,rfl⟩ ⟨_,f2,rfl⟩ lI oA PySem.F.slot_tuple_add PySem.F.entry_tuple_add (PySem.F.args_tuple_add_2 _ _) (Dv a b bj.toArray its2.toArray n1 n2 d1 d2 l1 l2 (by rw[e1];rfl)) ⟨f1,f2,?_⟩
  exact⟨.ref b,H,I,rfl,q b H (kr.refl H) hb⟩
 ·exact GQ pins s σ H _ _ v u Q I rx ry ⟨a,b,xs,ys,rfl,rfl,ha,hb,hx,hz,fun e=>q a H (kr.refl H) (by rw[e,dy];exact ha),fun _ p hp=>q p _ (cS hp _) (fF.of eD)⟩⟩
inductive W where
 |non|bl (b:Bool)|int (i:Int)|str (l:List Nat)|tup (ws:List W)|loc (n:Nat)
inductive DK where
 |i (z:Int)|s (l:List Nat)
deriving DecidableEq
def DK.key:DK->gc
 |.i z=>.inl z
 |.s l=>.inr (tx l)
inductive KX where
 |bo (b:Bool)|fl (ks:List Int)|pr (i:Int) (ks:List Int)
deriving DecidableEq
def KX.w:KX->W
 |.bo b=>.bl b
 |.fl ks=>.tup (ks.map W.int)
 |.pr i ks=>.tup [.int i,.tup (ks.map W.int)]
def Dw(ks:List Int):Int:=reduceHash (Builtin.Tuple.tupleHashOf (ks.map hashInt))
def KX.hash:KX->Int
 |.bo b=>hashInt (if b then 1 else 0)
 |.fl ks=>Dw ks
 |.pr i ks=>reduceHash (Builtin.Tuple.tupleHashOf [hashInt i,Dw ks])
inductive ao where
 |lst (ws:List W)
 |ro (ws:List W)
 |exc (c:Str)
 |dct (kvs:List (DK×W))
 |tab (P:Addr) (pos:Pos) (q:Str)
 |rod (kvs:List (DK×W))
 |dcx (kvs:List (KX×W))
abbrev jE:Nat:=1000000
theorem iV{n:Nat}(h:n<=jE):n<=sizeLine:=aV h (by decide)
theorem KB{n:Nat}(h:n<=jE):n<sizeLine:=j_ h (by decide)
inductive R(α:Type) where
 |ok (a:α) (st:List ao)
 |ex (c:Str) (st:List ao)
 |bad
def R.bind{α β:Type}:R α->(α->List ao->R β)->R β
 |.ok a st,k=>k a st
 |.ex c st,_=>.ex c st
 |.bad,_=>.bad
@[simp] theorem R.bind_ok{α β:Type}(a:α)(st:List ao)(k:α->List ao->R β):(R.ok a st).bind k=k a st:=rfl
@[simp] theorem R.bind_ex{α β:Type}(c:Str)(st:List ao)(k:α->List ao->R β):(R.ex c st:R α).bind k=.ex c st:=rfl
@[simp] theorem R.bind_bad{α β:Type}(k:α->List ao->R β):(R.bad:R α).bind k=.bad:=rfl
abbrev bS:=List (Option W)
inductive RS where
 |nx (ρ:bS) (st:List ao)|rt (w:W) (st:List ao)|bk (ρ:bS) (st:List ao)|ct (ρ:bS) (st:List ao)
 |ex (c:Str) (ρ:bS) (st:List ao)|bad
abbrev FE:=bS->List ao->R W
abbrev FT:=bS->List ao->R Bool
abbrev FA:=bS->List ao->R (List W)
abbrev FS:=bS->List ao->RS
section
variable(K:Frag)
mutual
def bh(μ:List Addr)(H:Hp):W->V->Prop
 |.non,v=>v=.non
 |.bl b,v=>v=.bl b
 |.int i,v=>v=.int i
 |.str l,v=>v=.str (tx l)
 |.tup ws,v=>∃p vs,v=.ref p/\fF K H p vs/\RelWs μ H ws vs
 |.loc n,v=>∃a,μ[n]?=some a/\v=.ref a
def RelWs(μ:List Addr)(H:Hp):List W->List V->Prop
 |[],vs=>vs=[]
 |w::ws,vs=>∃x xs,vs=x::xs/\bh μ H w x/\RelWs μ H ws xs
end
end
theorem pre_get{μ μ':List Addr}(h:μ <+: μ'){n:Nat}{a:Addr}(e:μ[n]?=some a):μ'[n]?=some a:=by
 obtain⟨t,rfl⟩:=h
 rw[az (aa.mp e).1];exact e
section
variable{K:Frag}{μ μ':List Addr}{H H':Hp}
mutual
theorem bh.mono(h:μ <+: μ')(e:ej K H H'):∀{w:W} {v:V},bh K μ H w v->bh K μ' H' w v
 |.non,_,r=>by unfold bh at r ⊢;exact r
 |.bl _,_,r=>by unfold bh at r ⊢;exact r
 |.int _,_,r=>by unfold bh at r ⊢;exact r
 |.str _,_,r=>by unfold bh at r ⊢;exact r
 |.tup _,_,r=>by unfold bh at r ⊢;obtain⟨p,vs,a,b,c⟩:=r;exact⟨p,vs,a,e _ _ b,RelWs.mono h e c⟩
 |.loc _,_,r=>by unfold bh at r ⊢;obtain⟨a,b,c⟩:=r;exact⟨a,pre_get h b,c⟩
theorem RelWs.mono(h:μ <+: μ')(e:ej K H H'):∀{ws:List W} {vs:List V},RelWs K μ H ws vs->RelWs K μ' H' ws vs
 |[],_,r=>by unfold RelWs at r ⊢;exact r
 |_::_,_,r=>by unfold RelWs at r ⊢;obtain⟨x,xs,a,b,c⟩:=r;exact⟨x,xs,a,bh.mono h e b,RelWs.mono h e c⟩
end
theorem RelWs.nilI:RelWs K μ H [] []:=by unfold RelWs;rfl
theorem RelWs.consI{w:W}{ws:List W}{x:V}{xs:List V}(a:bh K μ H w x)(b:RelWs K μ H ws xs):RelWs K μ H (w::ws) (x::xs):=by unfold RelWs;exact⟨x,xs,rfl,a,b⟩
theorem RelWs.nilE{vs:List V}(h:RelWs K μ H [] vs):vs=[]:=by unfold RelWs at h;exact h
theorem RelWs.consE{w:W}{ws:List W}{vs:List V}(h:RelWs K μ H (w::ws) vs):∃x xs,vs=x::xs/\bh K μ H w x/\RelWs K μ H ws xs:=by unfold RelWs at h;exact h
theorem RelWs.pr:∀{ws:List W} {vs:List V},RelWs K μ H ws vs↔Paired (fun w v=>bh K μ H w v) ws vs
 |[],vs=>⟨fun h=>by rw[h.nilE];exact .nil,fun h=>by cases h;exact .nilI⟩
 |w::ws,vs=>⟨fun h=>by obtain⟨x,xs,rfl,a,b⟩:=h.consE;exact .cons a (RelWs.pr.mp b),fun h=>by cases h with|cons a b=>exact .consI a (RelWs.pr.mpr b)⟩
theorem RelWs.len{ws:List W}{vs:List V}(h:RelWs K μ H ws vs):ws.length=vs.length:=Paired.length (RelWs.pr.mp h)
theorem RelWs.app:∀{as:List W} {xs:List V} {bs:List W} {ys:List V},RelWs K μ H as xs->RelWs K μ H bs ys->RelWs K μ H (as++bs) (xs++ys)
 |[],xs,bs,ys,a,b=>by rw[a.nilE];exact b
 |w::as,xs,bs,ys,a,b=>by obtain⟨x,xs,rfl,c,d⟩:=a.consE;exact .consI c (RelWs.app d b)
theorem RelWs.get:∀{ws:List W} {vs:List V} {i:Nat} {w:W},RelWs K μ H ws vs->ws[i]?=some w->∃v,vs[i]?=some v/\bh K μ H w v
 |[],_,_,_,_,e=>by simp at e
 |x::ws,vs,0,w,h,e=>by obtain⟨y,ys,rfl,a,b⟩:=h.consE;simp at e;subst e;exact⟨y,rfl,a⟩
 |x::ws,vs,i+1,w,h,e=>by obtain⟨y,ys,rfl,a,b⟩:=h.consE;simpa using RelWs.get (i:=i) b (by simpa using e)
theorem RelWs.take:∀{ws:List W} {vs:List V} (n:Nat),RelWs K μ H ws vs->RelWs K μ H (ws.take n) (vs.take n)
 |_,_,0,_=>by simp only[List.take_zero];exact .nilI
 |[],vs,n+1,h=>by rw[h.nilE];exact .nilI
 |x::ws,vs,n+1,h=>by obtain⟨y,ys,rfl,a,b⟩:=h.consE;exact .consI a (RelWs.take n b)
theorem RelWs.drop:∀{ws:List W} {vs:List V} (n:Nat),RelWs K μ H ws vs->RelWs K μ H (ws.drop n) (vs.drop n)
 |_,_,0,h=>h
 |[],vs,n+1,h=>by rw[h.nilE];exact .nilI
 |x::ws,vs,n+1,h=>by obtain⟨y,ys,rfl,a,b⟩:=h.consE;exact RelWs.drop n b
theorem RelWs.setI:∀{ws:List W} {vs:List V} (i:Nat) {w:W} {v:V},bh K μ H w v->RelWs K μ H ws vs->RelWs K μ H (ws.set i w) (vs.set i v)
 |[],vs,_,_,_,_,h=>by rw[h.nilE];exact .nilI
 |x::ws,vs,0,w,v,r,h=>by obtain⟨y,ys,rfl,a,b⟩:=h.consE;exact .consI r b
 |x::ws,vs,i+1,w,v,r,h=>by obtain⟨y,ys,rfl,a,b⟩:=h.consE;exact .consI a (RelWs.setI i r b)
theorem bh.intE{i:Int}{v:V}(h:bh K μ H (.int i) v):v=.int i:=by unfold bh at h;exact h
theorem bh.blE{b:Bool}{v:V}(h:bh K μ H (.bl b) v):v=.bl b:=by unfold bh at h;exact h
theorem bh.nonE{v:V}(h:bh K μ H .non v):v=.non:=by unfold bh at h;exact h
theorem bh.strE{l:List Nat}{v:V}(h:bh K μ H (.str l) v):v=.str (tx l):=by unfold bh at h;exact h
theorem bh.tupE{ws:List W}{v:V}(h:bh K μ H (.tup ws) v):∃p vs,v=.ref p/\fF K H p vs/\RelWs K μ H ws vs:=by unfold bh at h;exact h
theorem bh.locE{n:Nat}{v:V}(h:bh K μ H (.loc n) v):∃a,μ[n]?=some a/\v=.ref a:=by unfold bh at h;exact h
theorem bh.int{i:Int}:bh K μ H (.int i) (.int i):=by unfold bh;rfl
theorem bh.bl{i:Bool}:bh K μ H (.bl i) (.bl i):=by unfold bh;rfl
theorem bh.non:bh K μ H .non .non:=by unfold bh;rfl
theorem bh.str{l:List Nat}:bh K μ H (.str l) (.str (tx l)):=by unfold bh;rfl
theorem bh.tupI{ws:List W}{p:Addr}{vs:List V}(a:fF K H p vs)(b:RelWs K μ H ws vs):bh K μ H (.tup ws) (.ref p):=by unfold bh;exact⟨p,vs,rfl,a,b⟩
theorem bh.locI{n:Nat}{a:Addr}(e:μ[n]?=some a):bh K μ H (.loc n) (.ref a):=by unfold bh;exact⟨a,e,rfl⟩
end
def Ny(a:Addr)(C:Value):HO:=.ext fun h=>∃o vs,h.get? a=some o/\o.cls=C/\o.data=.fields vs
def lu(b:Addr)(q:Str):HO:=.ext fun h=>∃o vs t,h.get? b=some o/\o.data=.fields vs/\vs[1]?=some (.str q t)
def Pt(K:Frag)(H:Hp)(a:Addr)(xs:List V):Prop:=
 (∃o,H a=some (.frz o (.lst xs)))\/∃(o:Obj) (bj:Array Value) (n:Nat),K.lookup a=some o/\o.cls=.type "list"/\o.dict=none/\o.data=.seq bj n/\bj.size<=sizeLine/\b9 xs bj.toList
theorem Pt.sq{K:Frag}{H:Hp}{a:Addr}{xs:List V}(h:Pt K H a xs):nL K H a xs:=by
 rcases h with⟨o,h⟩|h
 ·exact .inl (.inr ⟨o,h⟩)
 ·exact .inr h
def ao.isRo:ao->Bool
 |.ro _=>true
 |_=>false
def DX(a:Addr)(es:List DictEntry):Heap->Prop:=fun h=>∃o ep,h.get? a=some o/\o.ExactDict/\o.data=.dict es.toArray ep
abbrev KC(a:Addr)(es:List DictEntry):HO:=.ext (DX a es)
def qW(K:Frag)(μ:List Addr)(H:Hp)(p:KX×W)(e:DictEntry):Prop:=e.hash=p.1.hash/\(∃v,bh K μ H p.1.w v/\bN v e.key)/\∃v,bh K μ H p.2 v/\bN v e.val
def ky(K:Frag)(mg:Str->Option Value)(μ:List Addr)(H:Hp):ao->Addr->Prop
 |.lst ws,a=>∃vs,H a=some (.lst vs)/\RelWs K μ H ws vs
 |.ro ws,a=>∃vs,Pt K H a vs/\RelWs K μ H ws vs
 |.exc c,a=>∃C,mg c=some C/\H a=some (Ny a C)
 |.dct kvs,a=>∃vs,H a=some (.dK ((kvs.map fun p=>p.1.key).zip vs))/\RelWs K μ H (kvs.map fun p=>p.2) vs
 |.rod kvs,a=>∃vs o,H a=some (.frz o (.dK ((kvs.map fun p=>p.1.key).zip vs)))/\RelWs K μ H (kvs.map fun p=>p.2) vs
 |.dcx kvs,a=>∃es,H a=some (KC a es)/\(a==sysModules)=false/\Paired (qW K μ H) kvs es/\(kvs.map fun p=>p.1).Nodup
 |.tab P pos q,a=>a=P/\∃ps,H a=some (.tbl ps)/\TriplesOk ps.toList/\(codeAmong pos ps.toList=none\/∃c,codeAmong pos ps.toList=some (.ref c)/\H c=some (lu c q))
structure ia(K:Frag)(mg:Str->Option Value)(μ:List Addr)(st:List ao)(H:Hp):Prop where
 nd:∀(i j:Nat) (a:Addr) (ci cj:ao),st[i]?=some ci->st[j]?=some cj->ci.isRo=false->cj.isRo=false->μ[i]?=some a->μ[j]?=some a->i=j
 len:st.length=μ.length
 at':∀(i:Nat) (c:ao) (a:Addr),st[i]?=some c->μ[i]?=some a->ky K mg μ H c a
section
variable{K:Frag}{mg:Str->Option Value}{μ μ':List Addr}{H H':Hp}{st:List ao}
theorem qW.mono(h:μ <+: μ')(x:ej K H H'){p:KX×W}{e:DictEntry}(r:qW K μ H p e):qW K μ' H' p e:=by
 obtain⟨a,⟨v,b,c⟩,u,d,g⟩:=r
 exact⟨a,⟨v,b.mono h x,c⟩,u,d.mono h x,g⟩
theorem ky.keep(h:μ <+: μ')(x:ej K H H'){c:ao}{a:Addr}(e:∀o,H a=some o->H' a=some o)(e2:∀b q,H b=some (lu b q)->H' b=some (lu b q))(r:ky K mg μ H c a):ky K mg μ' H' c a:=by
 cases c with
 |lst ws=>obtain⟨vs,p,y⟩:=r;exact⟨vs,e _ p,y.mono h x⟩
 |ro ws=>
  obtain⟨vs,p,y⟩:=r
  refine⟨vs,?_,y.mono h x⟩
  rcases p with⟨o,p⟩|p
  ·exact .inl ⟨o,e _ p⟩
  ·exact .inr p
 |exc c=>obtain⟨C,p,y⟩:=r;exact⟨C,p,e _ y⟩
 |dct kvs=>obtain⟨vs,p,y⟩:=r;exact⟨vs,e _ p,y.mono h x⟩
 |rod kvs=>obtain⟨vs,o,p,y⟩:=r;exact⟨vs,o,e _ p,y.mono h x⟩
 |dcx kvs=>obtain⟨es,p,d,y,z⟩:=r;exact⟨es,e _ p,d,Paired.imp' (fun _ _ q=>q.mono h x) y,z⟩
 |tab P pos q=>
  obtain⟨ea,ps,p,t,y⟩:=r
  refine⟨ea,ps,e _ p,t,?_⟩
  rcases y with y|⟨c,y,z⟩
  ·exact .inl y
  ·exact .inr ⟨c,y,e2 _ _ z⟩
theorem ky.ro_ne{c:ao}{a:Addr}(r:ky K mg μ H c a)(h:c.isRo=false):∃o,H a=some o:=by
 cases c with
 |lst ws=>obtain⟨vs,p,y⟩:=r;exact⟨_,p⟩
 |ro ws=>cases h
 |exc c=>obtain⟨C,p,y⟩:=r;exact⟨_,y⟩
 |dct kvs=>obtain⟨vs,p,y⟩:=r;exact⟨_,p⟩
 |rod kvs=>obtain⟨vs,o,p,y⟩:=r;exact⟨_,p⟩
 |dcx kvs=>obtain⟨es,p,_⟩:=r;exact⟨_,p⟩
 |tab P pos q=>obtain⟨_,ps,p,_⟩:=r;exact⟨_,p⟩
theorem ia.same(S:ia K mg μ st H)(e:kr H H'):ia K mg μ st H':=⟨S.nd,S.len,fun i c a h1 h2=>(S.at' i c a h1 h2).keep (aj _) (fF.same e) (e a) fun b q h=>e b _ h⟩
theorem ia.get(S:ia K mg μ st H){n:Nat}{c:ao}(h:st[n]?=some c):∃a,μ[n]?=some a/\ky K mg μ H c a:=by
 have hn:n<μ.length:=by rw[<- S.len];exact(aa.mp h).1
 exact⟨μ[n],ae hn,S.at' n c _ h (ae hn)⟩
theorem ia.push(S:ia K mg μ st H){p:Addr}{o:HO}{c:ao}(hp:H p=none)(hc:ky K mg (μ++[p]) (fx H p o) c p):ia K mg (μ++[p]) (st++[c]) (fx H p o):=by
 have hs:kr H (fx H p o):=cS hp o
 have wJ:μ <+: μ++[p]:=aC _ _
 have old:∀{i:Nat} {d:ao} {a:Addr},i<st.length->(st++[c])[i]?=some d->(μ++[p])[i]?=some a->st[i]?=some d/\μ[i]?=some a:=fun{i d a} hi h1 h2=>by
  rw[az hi]at h1
  rw[az (by rw[<- S.len];exact hi)]at h2
  exact⟨h1,h2⟩
 have new:∀{i:Nat} {d:ao} {a:Addr},¬ i<st.length->(st++[c])[i]?=some d->(μ++[p])[i]?=some a->i=st.length/\d=c/\a=p:=fun{i d a} hi h1 h2=>by
  have hi':i=st.length:=by
   have:=(aa.mp h1).1
   simp at this;omega
  subst hi'
  simp at h1
  rw[S.len,b8 (aB _)]at h2
  simp at h2
  exact⟨rfl,h1.symm,h2.symm⟩
 refine⟨fun i j a ci cj h1 h2 r1 r2 m1 m2=>?_,by simp[S.len],fun i d a h1 h2=>?_⟩
 ·by_cases hi:i<st.length
  ·obtain⟨x1,x2⟩:=old hi h1 m1
   by_cases hj:j<st.length
   ·obtain⟨y1,y2⟩:=old hj h2 m2
    exact S.nd i j a ci cj x1 y1 r1 r2 x2 y2
   ·obtain⟨_,_,rfl⟩:=new hj h2 m2
    obtain⟨o',z⟩:=(S.at' i ci a x1 x2).ro_ne r1
    rw[hp]at z;cases z
  ·obtain⟨e1,_,rfl⟩:=new hi h1 m1
   by_cases hj:j<st.length
   ·obtain⟨y1,y2⟩:=old hj h2 m2
    obtain⟨o',z⟩:=(S.at' j cj a y1 y2).ro_ne r2
    rw[hp]at z;cases z
   ·obtain⟨e2,_,_⟩:=new hj h2 m2
    omega
 ·by_cases hi:i<st.length
  ·obtain⟨x1,x2⟩:=old hi h1 h2
   exact(S.at' i d a x1 x2).keep wJ (fF.same hs) (hs a) fun b q h=>hs b _ h
  ·obtain⟨_,rfl,rfl⟩:=new hi h1 h2
   exact hc
theorem ia.setG(S:ia K mg μ st H){n:Nat}{a:Addr}{c c':ao}{o o':HO}(hn:st[n]?=some c)(tS:c.isRo=false)(hm:μ[n]?=some a)(ha:H a=some o)(hf:∀q u,o≠.frz q u)(hg:∀q,o≠lu a q)(hx:ej K H (fx H a o'))(RR:c'.isRo=false)(hr:ky K mg μ (fx H a o') c' a):ia K mg μ (st.set n c') (fx H a o'):=by
 have hl:n<st.length:=(aa.mp hn).1
 have back:∀{i:Nat} {d:ao},(st.set n c')[i]?=some d->∃d',st[i]?=some d'/\(d'=d\/(i=n/\d=c')):=fun{i d} h=>by
  by_cases e:i=n
  ·subst e
   rw[bg hl]at h
   exact⟨_,hn,.inr ⟨rfl,(a9 h).symm⟩⟩
  ·rw[a_ (Ne.symm e)]at h
   exact⟨d,h,.inl rfl⟩
 refine⟨fun i j b ci cj h1 h2 r1 r2 m1 m2=>?_,by simp[S.len],fun i d b h1 h2=>?_⟩
 ·obtain⟨di,x1,y1⟩:=back h1
  obtain⟨dj,x2,y2⟩:=back h2
  refine S.nd i j b di dj x1 x2 ?_ ?_ m1 m2
  ·rcases y1 with rfl|⟨rfl,rfl⟩
   ·exact r1
   ·rw[hn]at x1;cases x1;exact tS
  ·rcases y2 with rfl|⟨rfl,rfl⟩
   ·exact r2
   ·rw[hn]at x2;cases x2;exact tS
 ·by_cases e:i=n
  ·subst e
   rw[bg hl]at h1
   cases h1
   rw[hm]at h2;cases h2
   exact hr
  ·rw[a_ (Ne.symm e)]at h1
   have r:=S.at' i d b h1 h2
   by_cases hrd:d.isRo=true
   ·cases d with
    |ro zs=>
     obtain⟨us,p,q⟩:=r
     refine⟨us,?_,q.mono (aj _) hx⟩
     rcases p with⟨o2,p⟩|p
     ·exact .inl ⟨o2,by rw[bV (by rintro rfl;rw[ha]at p;cases p;exact hf _ _ rfl)];exact p⟩
     ·exact .inr p
    |lst _=>cases hrd
    |exc _=>cases hrd
    |dct _=>cases hrd
    |rod _=>cases hrd
    |dcx _=>cases hrd
    |tab _ _ _=>cases hrd
   ·refine r.keep (aj _) hx (fun o ho=>?_) fun b' q h=>by rw[bV (by rintro rfl;rw[ha]at h;cases h;exact hg _ rfl)];exact h
    have hb:b≠a:=by
     rintro rfl
     exact e (S.nd i n b d _ h1 hn (by simpa using hrd) tS h2 hm)
    rw[bV hb];exact ho
theorem ia.set(S:ia K mg μ st H){n:Nat}{a:Addr}{ws Ph:List W}{vs JF:List V}(hn:st[n]?=some (.lst ws))(hm:μ[n]?=some a)(ha:H a=some (.lst vs))(hr:RelWs K μ H Ph JF):ia K mg μ (st.set n (.lst Ph)) (fx H a (.lst JF)):=by
 have hx:ej K H (fx H a (.lst JF)):=fF.but gv ha
 have hl:n<st.length:=(aa.mp hn).1
 have back:∀{i:Nat} {d:ao},(st.set n (.lst Ph))[i]?=some d->∃d',st[i]?=some d'/\(d'=d\/(i=n/\d=.lst Ph)):=fun{i d} h=>by
  by_cases e:i=n
  ·subst e
   rw[bg hl]at h
   exact⟨_,hn,.inr ⟨rfl,(a9 h).symm⟩⟩
  ·rw[a_ (Ne.symm e)]at h
   exact⟨d,h,.inl rfl⟩
 refine⟨fun i j b ci cj h1 h2 r1 r2 m1 m2=>?_,by simp[S.len],fun i d b h1 h2=>?_⟩
 ·obtain⟨di,x1,y1⟩:=back h1
  obtain⟨dj,x2,y2⟩:=back h2
  refine S.nd i j b di dj x1 x2 ?_ ?_ m1 m2
  ·rcases y1 with rfl|⟨rfl,rfl⟩
   ·exact r1
   ·rw[hn]at x1;cases x1;rfl
  ·rcases y2 with rfl|⟨rfl,rfl⟩
   ·exact r2
   ·rw[hn]at x2;cases x2;rfl
 ·by_cases e:i=n
  ·subst e
   rw[bg hl]at h1
   cases h1
   rw[hm]at h2;cases h2
   exact⟨JF,eD,hr.mono (aj _) hx⟩
  ·rw[a_ (Ne.symm e)]at h1
   have r:=S.at' i d b h1 h2
   by_cases tS:d.isRo=true
   ·cases d with
    |ro zs=>
     obtain⟨us,p,q⟩:=r
     refine⟨us,?_,q.mono (aj _) hx⟩
     rcases p with⟨o',p⟩|p
     ·exact .inl ⟨o',by rw[bV (by rintro rfl;rw[ha]at p;cases p)];exact p⟩
     ·exact .inr p
    |lst _=>cases tS
    |exc _=>cases tS
    |dct _=>cases tS
    |rod _=>cases tS
    |dcx _=>cases tS
    |tab _ _ _=>cases tS
   ·refine r.keep (aj _) hx (fun o ho=>?_) fun b' q h=>by rw[bV (by rintro rfl;rw[ha]at h;cases h)];exact h
    have hb:b≠a:=by
     rintro rfl
     exact e (S.nd i n b d _ h1 hn (by simpa using tS) rfl h2 hm)
    rw[bV hb];exact ho
end
structure Rl(X:Cx)(μ:List Addr)(ρ:bS)(st:List ao)(σ:St)(H:Hp):Prop where
 env:Paired (fun(o:Option W) (s:Option V)=>∀w,o=some w->∃v,s=some v/\bh X.K μ H w v) ρ σ
 sto:ia X.K X.mg μ st H
theorem uF{K:Frag}{μ μ':List Addr}{H H':Hp}(h:μ <+: μ')(x:ej K H H'):∀{ρ:bS} {σ:St},Paired (fun(o:Option W) (s:Option V)=>∀w,o=some w->∃v,s=some v/\bh K μ H w v) ρ σ ->
  Paired (fun(o:Option W) (s:Option V)=>∀w,o=some w->∃v,s=some v/\bh K μ' H' w v) ρ σ
 |_,_,.nil=>.nil
 |_,_,.cons a t=>.cons (fun w e=>let ⟨v,p,q⟩:=a w e;⟨v,p,q.mono h x⟩) (uF h x t)
theorem Rl.to{X:Cx}{μ μ':List Addr}{ρ:bS}{st bG:List ao}{σ:St}{H H':Hp}(r:Rl X μ ρ st σ H)(h:μ <+: μ')(x:ej X.K H H')(s:ia X.K X.mg μ' bG H'):Rl X μ' ρ bG σ H':=⟨uF h x r.env,s⟩
theorem pe{K:Frag}{μ:List Addr}{H:Hp}:∀{ρ:bS} {σ:St} {i:Nat} {w:W},Paired (fun(o:Option W) (s:Option V)=>∀w,o=some w->∃v,s=some v/\bh K μ H w v) ρ σ->ρ[i]?=some (some w)->∃v,σ[i]?=some (some v)/\bh K μ H w v
 |_,_,_,_,.nil,e=>by simp at e
 |_,_,0,w,.cons a t,e=>by simp at e;obtain⟨v,p,q⟩:=a w e;exact⟨v,by simp[p],q⟩
 |_,_,i+1,w,.cons a t,e=>by simpa using pe (i:=i) t (by simpa using e)
theorem rX{K:Frag}{μ:List Addr}{H:Hp}{w:W}{v:V}(r:bh K μ H w v):∀{ρ:bS} {σ:St} (i:Nat),Paired (fun(o:Option W) (s:Option V)=>∀w,o=some w->∃v,s=some v/\bh K μ H w v) ρ σ ->
  Paired (fun(o:Option W) (s:Option V)=>∀w,o=some w->∃v,s=some v/\bh K μ H w v) (ρ.set i (some w)) (σ.set i (some v))
 |_,_,_,.nil=>.nil
 |_,_,0,.cons a t=>.cons (fun w' e=>⟨v,rfl,by cases e;exact r⟩) t
 |_,_,i+1,.cons a t=>.cons a (rX r i t)
structure qG(X:Cx)(pins:List (Addr×Obj))(σ:St)(c:Str)(H:Hp)(e:Value)(s:Shared):Prop where
 inv:bi X pins σ H s
 ex:∃x C t B,e=.ref x/\X.mg c=some C/\H x=none/\B.StaysIn s.heap/\B.get? x=none/\s.heap.FunFrames B X.stack /\
  (s.heap.TracedW B x C (.ref t)\/(∃oe vs,s.heap.get? x=some oe/\oe.cls=C/\oe.dict=none/\oe.data=.fields vs/\vs[1]?=some .none/\vs[0]?=some (.ref t))\/∃L,X.env.frame=some L/\s.heap.TracedAtW B x C (.ref t) (rawInt L)) /\
  ∀b o,s.heap.get? b=some o->(H b≠none\/((∃o0,X.s₀.heap.get? b=some o0)/\b∉X.fs/\b∉X.ex)\/((∃y,X.env.cells.lookup y=some b)/\b∉mI X.stack)\/∃p∈X.pn++pins,p.1=b)->B.get? b=some o
def XS(X:Cx)(c:Str)(μ:List Addr)(ρ:bS)(st:List ao)(H:Hp):Prop:=
 ∀pins μ' σ' H' e s',μ <+: μ'->ej X.K H H'->Rl X μ' ρ st σ' H'->qG X pins σ' c H' e s'->X.xe e s'
def XE(X:Cx)(c:Str)(μ:List Addr)(st:List ao)(σ:St)(H:Hp):Prop:=
 ∀pins μ' H' e s',μ <+: μ'->ej X.K H H'->ia X.K X.mg μ' st H'->qG X pins σ c H' e s'->X.xe e s'
theorem XE.mono{X:Cx}{c:Str}{μ μ1:List Addr}{st:List ao}{σ:St}{H H1:Hp}(h:XE X c μ st σ H)(p:μ <+: μ1)(x:ej X.K H H1):XE X c μ1 st σ H1:=fun pins μ' H' e s' a b=>h pins μ' H' e s' (p.trans a) (x.trans b)
theorem XS.mono{X:Cx}{c:Str}{μ μ1:List Addr}{ρ:bS}{st:List ao}{H H1:Hp}(h:XS X c μ ρ st H)(p:μ <+: μ1)(x:ej X.K H H1):XS X c μ1 ρ st H1:=fun pins μ' σ' H' e s' a b=>h pins μ' σ' H' e s' (p.trans a) (x.trans b)
theorem XS.toE{X:Cx}{c:Str}{μ:List Addr}{ρ:bS}{F1 st:List ao}{σ:St}{H:Hp}(h:XS X c μ ρ st H)(r:Rl X μ ρ F1 σ H):XE X c μ st σ H:=fun pins μ' H' e s' a b s f=>h pins μ' σ H' e s' a b (r.to a b s) f
def RK{α β:Type}(X:Cx)(jl:List Addr->Hp->α->β->Prop)(μ:List Addr)(σ:St)(H:Hp)(Q:β->Hp->Prop):R α->Prop
 |.ok a bG=>∀μ' b H',μ <+: μ'->ej X.K H H'->ia X.K X.mg μ' bG H'->jl μ' H' a b->Q b H'
 |.ex c bG=>XE X c μ bG σ H
 |.bad=>False
theorem RK.mono{α β:Type}{X:Cx}{jl:List Addr->Hp->α->β->Prop}{μ μ1:List Addr}{σ:St}{H H1:Hp}{Q:β->Hp->Prop}{r:R α}(h:RK X jl μ σ H Q r)(p:μ <+: μ1)(x:ej X.K H H1):RK X jl μ1 σ H1 Q r:=by
 cases r with
 |ok a st=>exact fun μ' b H' a1 b1=>h μ' b H' (p.trans a1) (x.trans b1)
 |ex c st=>exact XE.mono h p x
 |bad=>exact h
def tG{α β:Type}(X:Cx)(jl:List Addr->Hp->α->β->Prop)(f:bS->List ao->R α)(σ:St)(H:Hp)(Q:β->Hp->Prop):Prop:=
 ∃μ ρ st,Rl X μ ρ st σ H/\RK X jl μ σ H Q (f ρ st)
abbrev t8(X:Cx):List Addr->Hp->W->V->Prop:=fun μ H w v=>bh X.K μ H w v
abbrev Qr(X:Cx):List Addr->Hp->List W->List V->Prop:=fun μ H w v=>RelWs X.K μ H w v
abbrev KD:List Addr->Hp->Bool->Bool->Prop:=fun _ _ a b=>a=b
abbrev tE(X:Cx)(f:FE):TE:=tG X (t8 X) f
abbrev tT(X:Cx)(f:FT):TT:=tG X KD f
abbrev Qs(X:Cx)(f:FA):TA:=tG X (Qr X) f
theorem RK.bind{α β α' β':Type}{X:Cx}{jl:List Addr->Hp->α->β->Prop}{O5:List Addr->Hp->α'->β'->Prop}{μ:List Addr}{ρ:bS}{st:List ao}{σ:St}{H:Hp}{r:R α}{k:α->List ao->R α'}{Q:β'->Hp->Prop}{T:β->Hp->Prop}
  (h:RK X O5 μ σ H Q (r.bind k)) (l:Rl X μ ρ st σ H)
  (hk:∀μ' bG x v H',μ <+: μ'->ej X.K H H'->Rl X μ' ρ bG σ H'->jl μ' H' x v->RK X O5 μ' σ H' Q (k x bG)->T v H'):RK X jl μ σ H T r:=by
 cases r with
 |ok a bG=>exact fun μ' b H' p x s q=>hk μ' bG a b H' p x (l.to p x s) q (RK.mono h p x)
 |ex c bG=>exact h
 |bad=>exact h
def SK(X:Cx)(μ:List Addr)(H:Hp)(D:tV):RS->Prop
 |.nx ρ st=>∀μ' σ' H',μ <+: μ'->ej X.K H H'->Rl X μ' ρ st σ' H'->D.nx σ' H'
 |.bk ρ st=>∀μ' σ' H',μ <+: μ'->ej X.K H H'->Rl X μ' ρ st σ' H'->D.bk σ' H'
 |.ct ρ st=>∀μ' σ' H',μ <+: μ'->ej X.K H H'->Rl X μ' ρ st σ' H'->D.ct σ' H'
 |.rt w st=>∀μ' v H',μ <+: μ'->ej X.K H H'->ia X.K X.mg μ' st H'->bh X.K μ' H' w v->D.rt v H'
 |.ex c ρ st=>XS X c μ ρ st H
 |.bad=>False
theorem SK.mono{X:Cx}{μ μ1:List Addr}{H H1:Hp}{D:tV}{r:RS}(h:SK X μ H D r)(p:μ <+: μ1)(x:ej X.K H H1):SK X μ1 H1 D r:=by
 cases r with
 |nx ρ st=>exact fun μ' b H' a1 b1=>h μ' b H' (p.trans a1) (x.trans b1)
 |bk ρ st=>exact fun μ' b H' a1 b1=>h μ' b H' (p.trans a1) (x.trans b1)
 |ct ρ st=>exact fun μ' b H' a1 b1=>h μ' b H' (p.trans a1) (x.trans b1)
 |rt w st=>exact fun μ' b H' a1 b1=>h μ' b H' (p.trans a1) (x.trans b1)
 |ex c ρ st=>exact XS.mono h p x
 |bad=>exact h
def Pu(X:Cx)(g:FS):TS:=fun D σ H=>∃μ ρ st,Rl X μ ρ st σ H/\SK X μ H D (g ρ st)
structure SE(X:Cx)(e:Expr)(f:FE):Prop where
 h:PE X e (tE X f)
structure ST(X:Cx)(e:Expr)(f:FT):Prop where
 h:PT X e (tT X f)
structure SW(X:Cx)(e:Expr)(f:FT):Prop where
 h:PW X e (tT X f)
structure SA(X:Cx)(es:List Expr)(f:FA):Prop where
 h:PA X es (Qs X f)
structure SS(X:Cx)(s:Stmt)(g:FS):Prop where
 h:PS X s (Pu X g)
structure SB(X:Cx)(s:List Stmt)(g:FS):Prop where
 h:wZ X s (Pu X g)
theorem PE.imp{X:Cx}{e:Expr}{t t':TE}(h:PE X e t)(i:∀σ H Q,t' σ H Q->t σ H Q):PE X e t':=fun pins s σ H Q I q=>h pins s σ H Q I (i _ _ _ q)
theorem PT.imp{X:Cx}{e:Expr}{t t':TT}(h:PT X e t)(i:∀σ H Q,t' σ H Q->t σ H Q):PT X e t':=fun pins s σ H Q I q=>h pins s σ H Q I (i _ _ _ q)
theorem PW.imp{X:Cx}{e:Expr}{t t':TT}(h:PW X e t)(i:∀σ H Q,t' σ H Q->t σ H Q):PW X e t':=fun wh pins s σ H Q I q=>h wh pins s σ H Q I (i _ _ _ q)
theorem PA.imp{X:Cx}{e:List Expr}{t t':TA}(h:PA X e t)(i:∀σ H Q,t' σ H Q->t σ H Q):PA X e t':=fun pos pins s σ H Q I q=>h pos pins s σ H Q I (i _ _ _ q)
theorem PS.imp{X:Cx}{e:Stmt}{t t':TS}(h:PS X e t)(i:∀D σ H,t' D σ H->t D σ H):PS X e t':=fun pins s σ H D I q=>h pins s σ H D I (i _ _ _ q)
theorem wZ.imp{X:Cx}{e:List Stmt}{t t':TS}(h:wZ X e t)(i:∀D σ H,t' D σ H->t D σ H):wZ X e t':=fun pins s σ H D I q=>h pins s σ H D I (i _ _ _ q)
section
variable{X:Cx}{a b c e o:Expr}{es:List Expr}{pos p p2 fT du:Pos}{x name:Str}{j:Nat}{cZ:List Expr}{fa fb fc fe:FE}{ft fu:FT}{fs:FA}
def ag(i:Nat):FE:=fun ρ st=>match ρ[i]? with
 |some (some w)=>.ok w st
 |_=>.bad
theorem af(i:Nat){x:Str}{pos:Pos}(hN:X.N[i]?=some x:=by rfl)(hv:MI X.env.scope x:=by first|exact Or.inl rfl|exact Or.inr (Or.inl rfl)|exact Or.inr (Or.inr rfl))(hd:(x==("__debug__":Str))=false:=by decide)
  (nZ:(x==("__classdict__":Str))=false:=by decide):SE X (.Name x pos) (ag i):=⟨(pv i hN hv hd nZ).imp fun σ H Q h=>by
 obtain⟨μ,ρ,st,r,h⟩:=h
 unfold ag at h
 cases e:ρ[i]? with
 |none=>rw[e]at h;exact h.elim
 |some ow=>
  cases ow with
  |none=>rw[e]at h;exact h.elim
  |some w=>
   rw[e]at h
   obtain⟨v,e1,e2⟩:=pe r.env e
   exact⟨v,e1,h μ v H (aj _) ej.refl r.sto e2⟩⟩
def eC(w:W):FE:=fun _ st=>.ok w st
abbrev eI(n:Int):FE:=eC (.int n)
theorem Pv{w:W}{v:V}(hc:PE X e (tC v))(hr:∀μ H,bh X.K μ H w v):SE X e (eC w):=⟨hc.imp fun σ H Q h=>by
 obtain⟨μ,ρ,st,r,h⟩:=h
 exact h μ v H (aj _) ej.refl r.sto (hr _ _)⟩
theorem ay{i:Int}:SE X (.Constant (.int i) j pos) (eC (.int i)):=Pv JQ fun _ _=>.int
theorem xp{k:Bool}:SE X (.Constant (.bool k) j pos) (eC (.bl k)):=Pv MK fun _ _=>.bl
theorem IC:SE X (.Constant .none j pos) (eC .non):=Pv JR fun _ _=>.non
theorem AC{l:List Nat}(h:x=tx l:=by decide +kernel):SE X (.Constant (.str x) j pos) (eC (.str l)):=Pv JS fun _ _=>by rw[h];exact .str
def e2(f:W->W->List ao->R W)(fa fb:FE):FE:=fun ρ st=>(fa ρ st).bind fun x st=>(fb ρ st).bind fun y st=>f x y st
def CP(X:Cx)(μ:List Addr)(H:Hp)(Q:VK):R W->Prop
 |.ok w bG=>∀μ' v H',μ <+: μ'->ej X.K H H'->ia X.K X.mg μ' bG H'->bh X.K μ' H' w v->Q v H'
 |_=>False
def qe{α:Type}:R α->Prop
 |.ex _ _=>False
 |_=>True
def Qt(X:Cx)(f:W->W->List ao->R W):R2:=fun x y H Q=>∃μ st wx wy,ia X.K X.mg μ st H/\bh X.K μ H wx x/\bh X.K μ H wy y/\CP X μ H Q (f wx wy st)
structure rY(X:Cx)(g:Value->Value->Sem Value)(f:W->W->List ao->R W):Prop where
 h:mJ X g (Qt X f)
 n:∀x y st,qe (f x y st)
theorem rZ{μ:List Addr}{σ:St}{H:Hp}{Q:VK}{r:R W}(h:RK X (t8 X) μ σ H Q r)(n:qe r):CP X μ H Q r:=by
 cases r with
 |ok a st=>exact h
 |ex c st=>exact n.elim
 |bad=>exact h
theorem AD{f:W->W->List ao->R W}{σ:St}{H:Hp}{Q:VK}(n:∀x y st,qe (f x y st))(h:tE X (e2 f fa fb) σ H Q):MX (Qt X f) (tE X fa) (tE X fb) σ H Q:=by
 obtain⟨μ,ρ,st,l,h⟩:=h
 refine⟨μ,ρ,st,l,RK.bind h l fun μ1 st1 x v H1 p1 x1 l1 q1 h1=>⟨μ1,ρ,st1,l1,RK.bind h1 l1 fun μ2 cQ y u H2 p2 x2 l2 q2 h2=>?_⟩⟩
 exact⟨μ2,cQ,x,y,l2.sto,q1.mono p2 x2,q2,rZ h2 (n _ _ _)⟩
theorem bJ{op:Operator}{f:W->W->List ao->R W}(ho:rY X (binaryOp op) f)(ha:SE X a fa)(hb:SE X b fb):SE X (.BinOp a op b pos) (e2 f fa fb):=⟨(MY ho.h ha.h hb.h).imp fun _ _ _ h=>AD ho.n h⟩
theorem uG{op:CmpOp}{f:W->W->List ao->R W}(ho:rY X (compareOp op) f)(ha:SE X a fa)(hb:SE X b fb)(hm:behindInMarks op b=false:=by first|exact C8 _|rfl):SE X (.Compare a [op] [b] pos) (e2 f fa fb):=⟨(GK ho.h ha.h hb.h hm).imp fun _ _ _ h=>AD ho.n h⟩
def gp(fa:FE):FT:=fun ρ st=>(fa ρ st).bind fun x st=>match x with
 |.bl k=>.ok k st
 |_=>.bad
theorem pf{σ:St}{H:Hp}{Q:Bool->Hp->Prop}(h:tT X (gp fa) σ H Q):tE X fa σ H fun x H1=>∃k,x=.bl k/\Q k H1:=by
 obtain⟨μ,ρ,st,l,h⟩:=h
 refine⟨μ,ρ,st,l,RK.bind h l fun μ1 st1 x v H1 p1 x1 l1 q1 h1=>?_⟩
 cases x with
 |bl k=>exact⟨k,q1.blE,h1 μ1 k H1 (aj _) ej.refl l1.sto rfl⟩
 |_=>exact h1.elim
theorem cH{op:CmpOp}{f:W->W->List ao->R W}(ho:rY X (compareOp op) f)(ha:SE X a fa)(hb:SE X b fb)(hm:behindInMarks op b=false:=by first|exact C8 _|rfl):ST X (.Compare a [op] [b] pos) (gp (e2 f fa fb)):=⟨(GL ho.h ha.h hb.h hm).imp fun σ H Q h=>by
 have h':tE X (e2 f fa fb) σ H fun x H1=>∃k,x=.bl k/\Q k H1:=pf h
 exact AD ho.n h'⟩
theorem np(h:SE X e fe)(he:∀qS,isTrue e X.env qS=(do let v <- qS;standAt e.pos;holding [v] (truthy v)):=by intro _;rfl):ST X e (gp fe):=⟨(JU h.h he).imp fun σ H Q h=>pf h⟩
def Gk(t u:FT):FT:=fun ρ st=>(t ρ st).bind fun k st=>if k then u ρ st else .ok false st
def Gm(t u:FT):FT:=fun ρ st=>(t ρ st).bind fun k st=>if k then .ok true st else u ρ st
def ID(t:FT):FT:=fun ρ st=>(t ρ st).bind fun k st=>.ok (!k) st
theorem AE(ha:ST X a ft):SW X (.BoolOp .And [a] pos) ft:=⟨Gz ha.h⟩
theorem y_(ha:ST X a ft):SW X (.BoolOp .Or [a] pos) ft:=⟨JV ha.h⟩
theorem Dx(ha:ST X a ft)(hb:SW X (.BoolOp .And (b::cZ) pos) fu):SW X (.BoolOp .And (a::b::cZ) pos) (Gk ft fu):=⟨(JW ha.h hb.h).imp fun σ H Q h=>by
 obtain⟨μ,ρ,st,l,h⟩:=h
 refine⟨μ,ρ,st,l,RK.bind h l fun μ1 st1 x v H1 p1 x1 l1 q1 h1=>?_⟩
 cases q1
 cases x with
 |true=>exact⟨μ1,ρ,st1,l1,h1⟩
 |false=>exact h1 μ1 false H1 (aj _) ej.refl l1.sto rfl⟩
theorem Dy(ha:ST X a ft)(hb:SW X (.BoolOp .Or (b::cZ) pos) fu):SW X (.BoolOp .Or (a::b::cZ) pos) (Gm ft fu):=⟨(MM ha.h hb.h).imp fun σ H Q h=>by
 obtain⟨μ,ρ,st,l,h⟩:=h
 refine⟨μ,ρ,st,l,RK.bind h l fun μ1 st1 x v H1 p1 x1 l1 q1 h1=>?_⟩
 cases q1
 cases x with
 |false=>exact⟨μ1,ρ,st1,l1,h1⟩
 |true=>exact h1 μ1 true H1 (aj _) ej.refl l1.sto rfl⟩
theorem Dz(h:SW X e ft):ST X e ft:=⟨h.h.pt⟩
theorem vE(ha:ST X a ft):ST X (.UnaryOp .Not a pos) (ID ft):=⟨(JX ha.h).imp fun σ H Q h=>by
 obtain⟨μ,ρ,st,l,h⟩:=h
 refine⟨μ,ρ,st,l,RK.bind h l fun μ1 st1 x v H1 p1 x1 l1 q1 h1=>?_⟩
 cases q1
 exact h1 μ1 _ H1 (aj _) ej.refl l1.sto rfl⟩
def za(fa fb:FE):FE:=fun ρ st=>(fa ρ st).bind fun x st=>match x with
 |.bl true=>fb ρ st
 |.bl false=>.ok (.bl false) st
 |_=>.bad
def Ha(fa:FE):FE:=fun ρ st=>(fa ρ st).bind fun x st=>match x with
 |.bl k=>.ok (.bl (!k)) st
 |_=>.bad
theorem DA{op:BoolOp}(h:SE X a fa):SE X (.BoolOp op [a] pos) fa:=⟨JY h.h⟩
theorem AF(ha:SE X a fa)(hb:SE X (.BoolOp .And (b::cZ) pos) fb):SE X (.BoolOp .And (a::b::cZ) pos) (za fa fb):=⟨(JZ ha.h hb.h).imp fun σ H Q h=>by
 obtain⟨μ,ρ,st,l,h⟩:=h
 refine⟨μ,ρ,st,l,RK.bind h l fun μ1 st1 x v H1 p1 x1 l1 q1 h1=>?_⟩
 cases x with
 |bl k=>
  refine⟨k,q1.blE,?_⟩
  cases k with
  |true=>exact⟨μ1,ρ,st1,l1,h1⟩
  |false=>exact h1 μ1 _ H1 (aj _) ej.refl l1.sto .bl
 |_=>exact h1.elim⟩
theorem Nz(ha:SE X a fa):SE X (.UnaryOp .Not a pos) (Ha fa):=⟨(J0 ha.h).imp fun σ H Q h=>by
 obtain⟨μ,ρ,st,l,h⟩:=h
 refine⟨μ,ρ,st,l,RK.bind h l fun μ1 st1 x v H1 p1 x1 l1 q1 h1=>?_⟩
 cases x with
 |bl k=>exact⟨k,q1.blE,h1 μ1 _ H1 (aj _) ej.refl l1.sto .bl⟩
 |_=>exact h1.elim⟩
def W.isNon:W->Bool
 |.non=>true
 |_=>false
def zb(fa:FE):FE:=fun ρ st=>(fa ρ st).bind fun x st=>.ok (.bl x.isNon) st
def uH(fa:FE):FE:=fun ρ st=>(fa ρ st).bind fun x st=>.ok (.bl (!x.isNon)) st
theorem IE{μ:List Addr}{H:Hp}{w:W}{v:V}(r:bh X.K μ H w v):decide (v=.non)=w.isNon:=by
 cases w with
 |non=>rw[r.nonE];rfl
 |bl b=>rw[r.blE];rfl
 |int b=>rw[r.intE];rfl
 |str b=>rw[r.strE];rfl
 |tup b=>obtain⟨p,vs,rfl,_⟩:=r.tupE;rfl
 |loc b=>obtain⟨p,_,rfl⟩:=r.locE;rfl
theorem IF{σ:St}{H:Hp}{Q:VK}(h:tE X (zb fa) σ H Q):ML (tE X fa) σ H Q:=by
 obtain⟨μ,ρ,st,l,h⟩:=h
 refine⟨μ,ρ,st,l,RK.bind h l fun μ1 st1 x v H1 p1 x1 l1 q1 h1=>?_⟩
 show Q (.bl (decide (v=.non))) H1
 rw[IE q1]
 exact h1 μ1 _ H1 (aj _) ej.refl l1.sto .bl
theorem KF{σ:St}{H:Hp}{Q:VK}(h:tE X (uH fa) σ H Q):Iu (tE X fa) σ H Q:=by
 obtain⟨μ,ρ,st,l,h⟩:=h
 refine⟨μ,ρ,st,l,RK.bind h l fun μ1 st1 x v H1 p1 x1 l1 q1 h1=>?_⟩
 show Q (.bl (!decide (v=.non))) H1
 rw[IE q1]
 exact h1 μ1 _ H1 (aj _) ej.refl l1.sto .bl
theorem NA{iD:Pos}(ha:SE X a fa):SE X (.Compare a [.Is] [.Constant .none j iD] pos) (zb fa):=⟨(JT (CZ ha.h)).imp fun _ _ _ h=>IF h⟩
theorem KG{iD:Pos}(ha:SE X a fa):ST X (.Compare a [.Is] [.Constant .none j iD] pos) (gp (zb fa)):=⟨(C0 (CZ ha.h)).imp fun _ _ _ h=>IF (pf h)⟩
theorem Hb{iD:Pos}(ha:SE X a fa):ST X (.Compare a [.IsNot] [.Constant .none j iD] pos) (gp (uH fa)):=⟨(C0 (Gy ha.h)).imp fun _ _ _ h=>KF (pf h)⟩
def aE:FA:=fun _ st=>.ok [] st
def ai(fa:FE)(fs:FA):FA:=fun ρ st=>(fa ρ st).bind fun x st=>(fs ρ st).bind fun xs st=>.ok (x::xs) st
theorem au:SA X [] aE:=⟨yU.imp fun σ H Q h=>by
 obtain⟨μ,ρ,st,l,h⟩:=h
 exact h μ [] H (aj _) ej.refl l.sto .nilI⟩
theorem ac(ha:SE X e fe)(hr:SA X es fs)(hs:starEach (e::es) X.env=(false,eval e X.env)::starEach es X.env:=by rfl):SA X (e::es) (ai fe fs):=⟨(rf ha.h hr.h hs).imp fun σ H Q h=>by
 obtain⟨μ,ρ,st,l,h⟩:=h
 refine⟨μ,ρ,st,l,RK.bind h l fun μ1 st1 x v H1 p1 x1 l1 q1 h1=>⟨μ1,ρ,st1,l1,RK.bind h1 l1 fun μ2 cQ xs vs H2 p2 x2 l2 q2 h2=>?_⟩⟩
 exact h2 μ2 _ H2 (aj _) ej.refl l2.sto (.consI (q1.mono p2 x2) q2)⟩
def NB(zs:List (List Nat)):FA:=fun _ st=>.ok (zs.map W.str) st
def on(ws:List W)(st:List ao):R W:=if ws.length<=jE then .ok (.tup ws) st else .bad
def mL(ws:List W)(st:List ao):R W:=if ws.length<=jE then .ok (.loc st.length) (st++[.lst ws])else .bad
def dk(fs:FA):FE:=fun ρ st=>(fs ρ st).bind fun ws st=>on ws st
def lv(fs:FA):FE:=fun ρ st=>(fs ρ st).bind fun ws st=>mL ws st
theorem ia.newLst{K:Frag}{mg:Str->Option Value}{μ:List Addr}{st:List ao}{H:Hp}(S:ia K mg μ st H){p:Addr}{ws:List W}{vs:List V}(hp:H p=none)(r:RelWs K μ H ws vs):ia K mg (μ++[p]) (st++[.lst ws]) (fx H p (.lst vs)):=
 S.push hp ⟨vs,eD,r.mono (aC _ _) (fF.same (cS hp _))⟩
theorem nq{K:Frag}{mg:Str->Option Value}{μ:List Addr}{st:List ao}{H H':Hp}(S:ia K mg μ st H){p:Addr}:bh K (μ++[p]) H' (.loc st.length) (.ref p):=.locI (by rw[S.len];simp)
theorem DB{μ:List Addr}{st:List ao}{σ:St}{H:Hp}{Q:VK}{ws:List W}{vs:List V}(S:ia X.K X.mg μ st H)(q:RelWs X.K μ H ws vs)(h:RK X (t8 X) μ σ H Q (on ws st)):vs.length<=sizeLine/\∀p H2,H p=none->H2=fx H p (.tup vs)->Q (.ref p) H2:=by
 unfold on at h
 by_cases hz:ws.length<=jE
 ·rw[ax hz]at h
  refine⟨by rw[<- q.len];exact iV hz,fun p H2 hp e=>?_⟩
  subst e
  have x:=fF.same (K:=X.K) (cS hp (.tup vs))
  exact h μ _ _ (aj _) x (S.same (cS hp _)) (.tupI fF.new (q.mono (aj _) x))
 ·rw[aD hz]at h;exact h.elim
theorem r6{μ:List Addr}{st:List ao}{σ:St}{H:Hp}{Q:VK}{ws:List W}{vs:List V}(S:ia X.K X.mg μ st H)(q:RelWs X.K μ H ws vs)(h:RK X (t8 X) μ σ H Q (mL ws st)):vs.length<=sizeLine/\∀p H2,H p=none->H2=fx H p (.lst vs)->Q (.ref p) H2:=by
 unfold mL at h
 by_cases hz:ws.length<=jE
 ·rw[ax hz]at h
  refine⟨by rw[<- q.len];exact iV hz,fun p H2 hp e=>?_⟩
  subst e
  exact h (μ++[p]) _ _ (aC _ _) (fF.same (cS hp _)) (S.newLst hp q) (nq S)
 ·rw[aD hz]at h;exact h.elim
theorem c7{k:Nat}(h:SA X es fs):SE X (.Tuple es k pos) (dk fs):=⟨(G6 h.h).imp fun σ H Q h=>by
 obtain⟨μ,ρ,st,l,h⟩:=h
 exact⟨μ,ρ,st,l,RK.bind h l fun μ1 st1 x v H1 p1 x1 l1 q1 h1=>DB l1.sto q1 h1⟩⟩
theorem jF(h:SA X es fs):SE X (.List es pos) (lv fs):=⟨(G7 h.h).imp fun σ H Q h=>by
 obtain⟨μ,ρ,st,l,h⟩:=h
 exact⟨μ,ρ,st,l,RK.bind h l fun μ1 st1 x v H1 p1 x1 l1 q1 h1=>r6 l1.sto q1 h1⟩⟩
end
section
variable{X:Cx}
theorem lW{μ:List Addr}{st:List ao}{H:Hp}{Q:VK}{i:Int}(S:ia X.K X.mg μ st H)(h:CP X μ H Q (.ok (.int i) st)):Q (.int i) H:=h μ _ H (aj _) ej.refl S .int
theorem lX{μ:List Addr}{st:List ao}{H:Hp}{Q:VK}{i:Bool}(S:ia X.K X.mg μ st H)(h:CP X μ H Q (.ok (.bl i) st)):Q (.bl i) H:=h μ _ H (aj _) ej.refl S .bl
theorem ph{μ:List Addr}{st:List ao}{H:Hp}{Q:VK}{i:List Nat}(S:ia X.K X.mg μ st H)(h:CP X μ H Q (.ok (.str i) st)):Q (.str (tx i)) H:=h μ _ H (aj _) ej.refl S .str
theorem KH{μ:List Addr}{σ:St}{H:Hp}{Q:VK}{r:R W}(h:CP X μ H Q r):RK X (t8 X) μ σ H Q r:=by
 cases r with
 |ok a st=>exact h
 |ex c st=>exact h.elim
 |bad=>exact h
def DC(C:Int->Int->Prop)[∀i j,Decidable (C i j)](f:Int->Int->Int):W->W->List ao->R W
 |.int i,.int j,st=>if C i j then .ok (.int (f i j)) st else .bad
 |_,_,_=>.bad
theorem BW{g:Value->Value->Sem Value}{C C':Int->Int->Prop}[∀i j,Decidable (C' i j)]{f:Int->Int->Int}(h:mJ X g (rI C fun i j=>.int (f i j)))(hC:∀i j,C' i j->C i j):rY X g (DC C' f):=⟨h.imp fun x y H Q ⟨μ,st,wx,wy,S,rx,ry,q⟩=>by
 cases wx with
 |int i=>
  cases wy with
  |int j=>
   simp only[DC]at q
   by_cases c:C' i j
   ·rw[ax c]at q;exact⟨i,j,rx.intE,ry.intE,hC i j c,lW S q⟩
   ·rw[aD c]at q;exact q.elim
  |_=>exact q.elim
 |_=>cases wy<;>exact q.elim,fun x y st=>by
 unfold DC
 split
 ·split<;>trivial
 ·trivial⟩
def BX(f:Int->Int->Bool):W->W->List ao->R W
 |.int i,.int j,st=>.ok (.bl (f i j)) st
 |_,_,_=>.bad
theorem DD{g:Value->Value->Sem Value}{f:Int->Int->Bool}(h:mJ X g (GI fun i j=>.bl (f i j))):rY X g (BX f):=⟨h.imp fun x y H Q ⟨μ,st,wx,wy,S,rx,ry,q⟩=>by
 cases wx with
 |int i=>
  cases wy with
  |int j=>exact⟨i,j,rx.intE,ry.intE,lX S q⟩
  |_=>exact q.elim
 |_=>cases wy<;>exact q.elim,fun x y st=>by
 unfold BX
 split<;>trivial⟩
abbrev xq(i j:Int):Prop:=(-(2^64)<i/\i<2^64)\/(-(2^64)<j/\j<2^64)
abbrev lY:=DC (fun _ _=>True) fun i j=>i-j
abbrev NC:=DC xq fun i j=>i*j
abbrev eK:=DC (fun _ j=>0<j) fun i j=>i%j
abbrev pi:=DC (fun _ j=>0<j/\j<1073741824) fun i j=>i/j
abbrev ND:=DC (fun i j=>0<=j/\j<=1000000/\i.natAbs<2^64) fun i j=>i^j.toNat
abbrev xt:=DC (fun i j=>0<=j/\j<=1000000/\i.natAbs<2^64) fun i j=>i*2^j.toNat
theorem KI{g:Value->Value->Sem Value}{f:Int->Int->V}(h:mJ X g (GI f)):mJ X g (rI (fun _ _=>True) f):=h.imp fun _ _ _ _ ⟨i,j,a,b,_,q⟩=>⟨i,j,a,b,q⟩
theorem pj:rY X (binaryOp .Sub) lY:=BW (KI Ka) fun _ _ _=>trivial
theorem NE:rY X (binaryOp .Mult) NC:=BW Kb fun _ _ h=>h
theorem eE:rY X (binaryOp .Mod) eK:=BW Kc fun _ _ h=>h
theorem r_:rY X (binaryOp .FloorDiv) pi:=BW GJ fun _ _ h=>h
theorem NF:rY X (binaryOp .Pow) ND:=BW Kd fun _ _ h=>h
theorem DE:rY X (binaryOp .LShift) xt:=BW C7 fun _ _ h=>h
def dR:W->W->List ao->R W
 |.int i,.int j,st=>.ok (.int (i+j)) st
 |.str a,.str b,st=>if a.length+b.length<=jE then .ok (.str (a++b)) st else .bad
 |.tup a,.tup b,st=>on (a++b) st
 |.loc n,.loc m,st=>match st[n]?,st[m]? with
  |some (.lst a),some (.lst b)=>mL (a++b) st
  |_,_=>.bad
 |_,_,_=>.bad
theorem Hc(ws:List W)(st:List ao):qe (on ws st):=by unfold on;split<;>trivial
theorem Hd(ws:List W)(st:List ao):qe (mL ws st):=by unfold mL;split<;>trivial
theorem dN:rY X (binaryOp .Add) dR:=⟨fun pins s σ H x y v u Q I rv ru ⟨μ,st,wx,wy,S,rx,ry,q⟩=>by
 cases wx with
 |int i=>
  cases wy with
  |int j=>exact J' pins s σ H x y v u Q I rv ru ⟨i,j,rx.intE,ry.intE,lW S q⟩
  |_=>exact q.elim
 |str a=>
  cases wy with
  |str b=>
   simp only[dR]at q
   by_cases c:a.length+b.length<=jE
   ·rw[ax c]at q
    exact yT pins s σ H x y v u Q I rv ru ⟨_,_,rx.strE,ry.strE,by rw[jq,jq];exact iV c,by rw[y0];exact ph S q⟩
   ·rw[aD c]at q;exact q.elim
  |_=>exact q.elim
 |tup a=>
  cases wy with
  |tup b=>
   obtain⟨p1,vs1,rfl,h1,r1⟩:=rx.tupE
   obtain⟨p2,vs2,rfl,h2,r2⟩:=ry.tupE
   have q':CP X μ H Q (on (a++b) st):=q
   unfold on at q'
   by_cases c:(a++b).length<=jE
   ·rw[ax c]at q'
    refine KA.h pins s σ H _ _ v u Q I rv ru ⟨p1,p2,vs1,vs2,rfl,rfl,h1,h2,by rw[<- r1.len,<- r2.len,<- aH];exact iV c,fun p H2 e t=>?_⟩
    exact q' μ _ _ (aj _) (fF.same e) (S.same e) (.tupI t ((r1.app r2).mono (aj _) (fF.same e)))
   ·rw[aD c]at q';exact q'.elim
  |_=>exact q.elim
 |loc n=>
  cases wy with
  |loc m=>
   simp only[dR]at q
   cases e1:st[n]? with
   |none=>rw[e1]at q;exact q.elim
   |some c1=>
    cases e2:st[m]? with
    |none=>rw[e1,e2]at q;cases c1<;>exact q.elim
    |some c2=>
     cases c1 with
     |lst a=>
      cases c2 with
      |lst b=>
       rw[e1,e2]at q
       obtain⟨a1,g1,vs1,k1,r1⟩:=S.get e1
       obtain⟨a2,g2,vs2,k2,r2⟩:=S.get e2
       obtain⟨b1,f1,rfl⟩:=rx.locE
       obtain⟨b2,f2,rfl⟩:=ry.locE
       rw[g1]at f1;cases f1
       rw[g2]at f2;cases f2
       obtain⟨hz,qq⟩:=r6 (σ:=σ) S (r1.app r2) (KH q)
       exact G9 pins s σ H _ _ v u Q I rv ru ⟨a1,a2,vs1,vs2,rfl,rfl,k1,k2,by rw[<- aH];exact hz,qq⟩
      |_=>rw[e1,e2]at q;exact q.elim
     |_=>rw[e1,e2]at q;exact q.elim
  |_=>exact q.elim
 |_=>cases wy<;>exact q.elim,fun x y st=>by
 unfold dR
 split
 ·trivial
 ·split<;>trivial
 ·exact Hc _ _
 ·split
  ·exact Hd _ _
  ·trivial
 ·trivial⟩
abbrev vF:=BX fun i j=>decide (i<j)
abbrev BY:=BX fun i j=>decide (j<i)
abbrev Qu:=BX fun i j=>decide (j<=i)
theorem w_lt:rY X (compareOp .Lt) vF:=DD M6
theorem DF:rY X (compareOp .Gt) BY:=DD M7
theorem NG:rY X (compareOp .GtE) Qu:=DD M8
end
mutual
def c9:W->W->Option Bool
 |.non,.non=>some true
 |.bl a,.bl b=>some (a==b)
 |.bl a,.int b=>some ((if a then 1 else 0)==b)
 |.int a,.bl b=>some (a==(if b then 1 else 0))
 |.int a,.int b=>some (a==b)
 |.str a,.str b=>some (a==b)
 |.tup a,.tup b=>eqWs a b
 |.loc _,_=>none
 |.non,.loc _=>none
 |.bl _,.loc _=>none
 |.int _,.loc _=>none
 |.str _,.loc _=>none
 |.tup _,.loc _=>none
 |.non,.bl _=>some false
 |.non,.int _=>some false
 |.non,.str _=>some false
 |.non,.tup _=>some false
 |.bl _,.non=>some false
 |.bl _,.str _=>some false
 |.bl _,.tup _=>some false
 |.int _,.non=>some false
 |.int _,.str _=>some false
 |.int _,.tup _=>some false
 |.str _,.non=>some false
 |.str _,.bl _=>some false
 |.str _,.int _=>some false
 |.str _,.tup _=>some false
 |.tup _,.non=>some false
 |.tup _,.bl _=>some false
 |.tup _,.int _=>some false
 |.tup _,.str _=>some false
def eqWs:List W->List W->Option Bool
 |[],[]=>some true
 |[],_::_=>some false
 |_::_,[]=>some false
 |x::xs,y::ys=>match c9 x y,eqWs xs ys with
  |some a,some b=>some (a&&b)
  |_,_=>none
end
mutual
def W.dep:W->Nat
 |.tup ws=>depWs ws+1
 |_=>0
def depWs:List W->Nat
 |[]=>0
 |w::ws=>max w.dep (depWs ws)
end
theorem lZ:∀(xs ys:List W) (b:Bool),eqWs xs ys=some b->∃e:Nat->Bool,(∀j (h1:j<xs.length) (h2:j<ys.length),c9 xs[j] ys[j]=some (e j))/\((List.range (min xs.length ys.length)).all e&&xs.length==ys.length)=b
 |[],[],b,h=>by unfold eqWs at h;cases h;exact⟨fun _=>true,fun j h1=>absurd h1 (cC _),rfl⟩
 |[],y::ys,b,h=>by unfold eqWs at h;cases h;exact⟨fun _=>true,fun j h1=>absurd h1 (cC _),by simp⟩
 |x::xs,[],b,h=>by unfold eqWs at h;cases h;exact⟨fun _=>true,fun j _ h1=>absurd h1 (cC _),by simp⟩
 |x::xs,y::ys,b,h=>by
  unfold eqWs at h
  cases e1:c9 x y with
  |none=>rw[e1]at h;simp at h
  |some a=>
   cases e2:eqWs xs ys with
   |none=>rw[e1,e2]at h;simp at h
   |some c=>
    rw[e1,e2]at h
    simp at h
    obtain⟨e,he,hb⟩:=lZ xs ys c e2
    refine⟨fun j=>match j with|0=>a|j+1=>e j,fun j h1 h2=>?_,?_⟩
    ·cases j with
     |zero=>exact e1
     |succ j=>exact he j (iK h1) (iK h2)
    ·have m:min (x::xs).length (y::ys).length=min xs.length ys.length+1:=by simp only[bu];omega
     rw[m,iH,lg,List.all_map,<- h,<- hb]
     simp[cN,Bool.and_assoc]
theorem DG{X:Cx}{pins:List (Addr×Obj)}{σ:St}{H:Hp}{s:Shared}{μ:List Addr}(I:bi X pins σ H s):∀(n:Nat) (a b:W) (x:V) (k:Bool),a.dep<=n->bh X.K μ H a x->bh X.K μ H b x->c9 a b=some k->k=true:=by
 intro n
 induction n with
 |zero=>
  intro a b x k hn ra rb he
  cases a with
  |tup i=>unfold W.dep at hn;omega
  |non=>cases ra.nonE;cases b<;>first|(unfold c9 at he;cases he;rfl)|cases rb.blE|cases rb.intE|cases rb.strE|(obtain⟨_,_,z,_⟩:=rb.tupE;cases z)|(unfold c9 at he;cases he)
  |bl i=>cases ra.blE;cases b<;>first|(cases rb.blE;unfold c9 at he;simp at he;exact he)|cases rb.nonE|cases rb.intE|cases rb.strE|(obtain⟨_,_,z,_⟩:=rb.tupE;cases z)|(unfold c9 at he;cases he)
  |int i=>cases ra.intE;cases b<;>first|(cases rb.intE;unfold c9 at he;simp at he;exact he)|cases rb.nonE|cases rb.blE|cases rb.strE|(obtain⟨_,_,z,_⟩:=rb.tupE;cases z)|(unfold c9 at he;cases he)
  |str i=>cases ra.strE;cases b<;>first|(have z:=rb.strE;injection z with z;rw[y4.mp z]at he;unfold c9 at he;simp at he;exact he)|cases rb.nonE|cases rb.blE|cases rb.intE|(obtain⟨_,_,z,_⟩:=rb.tupE;cases z)|(unfold c9 at he;cases he)
  |loc i=>cases b<;>(unfold c9 at he;cases he)
 |succ n ih=>
  intro a b x k hn ra rb he
  cases a with
  |non=>cases ra.nonE;cases b<;>first|(unfold c9 at he;cases he;rfl)|cases rb.blE|cases rb.intE|cases rb.strE|(obtain⟨_,_,z,_⟩:=rb.tupE;cases z)|(unfold c9 at he;cases he)
  |bl i=>cases ra.blE;cases b<;>first|(cases rb.blE;unfold c9 at he;simp at he;exact he)|cases rb.nonE|cases rb.intE|cases rb.strE|(obtain⟨_,_,z,_⟩:=rb.tupE;cases z)|(unfold c9 at he;cases he)
  |int i=>cases ra.intE;cases b<;>first|(cases rb.intE;unfold c9 at he;simp at he;exact he)|cases rb.nonE|cases rb.blE|cases rb.strE|(obtain⟨_,_,z,_⟩:=rb.tupE;cases z)|(unfold c9 at he;cases he)
  |str i=>cases ra.strE;cases b<;>first|(have z:=rb.strE;injection z with z;rw[y4.mp z]at he;unfold c9 at he;simp at he;exact he)|cases rb.nonE|cases rb.blE|cases rb.intE|(obtain⟨_,_,z,_⟩:=rb.tupE;cases z)|(unfold c9 at he;cases he)
  |loc i=>cases b<;>(unfold c9 at he;cases he)
  |tup i=>
   obtain⟨p',JF,rfl,hS',r'⟩:=ra.tupE
   cases b with
   |tup z=>
    obtain⟨p,vs,e,hS,r⟩:=rb.tupE
    cases e
    obtain rfl:=I.tuple_inj hS hS'
    have he':eqWs i z=some k:=by unfold c9 at he;exact he
    have dn:depWs i<=n:=by unfold W.dep at hn;omega
    have key:∀(i z:List W) (vs:List V) (k:Bool),depWs i<=n->RelWs X.K μ H i vs->RelWs X.K μ H z vs->eqWs i z=some k->k=true:=by
     intro i
     induction i with
     |nil=>
      intro z vs k _ r' r he
      have e1:=r'.nilE
      subst e1
      cases z with
      |nil=>unfold eqWs at he;cases he;rfl
      |cons _ _=>have e2:=r.len;simp at e2
     |cons w i ih2=>
      intro z vs k dn r' r he
      obtain⟨x,xs,rfl,rx,rxs⟩:=r'.consE
      cases z with
      |nil=>have e2:=r.len;simp at e2
      |cons y z=>
       obtain⟨x2,xs2,e3,ry,rys⟩:=r.consE
       cases e3
       unfold eqWs at he
       cases e1:c9 w y with
       |none=>rw[e1]at he;simp at he
       |some k1=>
        cases e2:eqWs i z with
        |none=>rw[e1,e2]at he;simp at he
        |some k2=>
         rw[e1,e2]at he
         simp at he
         unfold depWs at dn
         have q1:=ih w y x k1 (by omega) rx ry e1
         have q2:=ih2 z xs k2 (by omega) rxs rys e2
         rw[<- he,q1,q2];rfl
    exact key i z _ k dn r' r he'
   |non=>cases rb.nonE
   |bl z=>cases rb.blE
   |int z=>cases rb.intE
   |str z=>cases rb.strE
   |loc z=>unfold c9 at he;cases he
theorem lw:∀{ws:List W} {j:Nat} (h:j<ws.length),ws[j].dep<=depWs ws
 |w::ws,0,_=>by unfold depWs;exact Nat.le_max_left _ _
 |w::ws,j+1,h=>by unfold depWs;exact aV (lw (j:=j) (iK h)) (Nat.le_max_right _ _)
theorem uI{X:Cx}{pins:List (Addr×Obj)}{σ:St}{H:Hp}{s:Shared}{μ:List Addr}(I:bi X pins σ H s)(n:Nat)
  (ih:∀m,m+1=n->∀(a b:W) (A:Around) (x y:V) (u v:Value) (k:Bool),a.dep<=m->bh X.K μ H a x->bh X.K μ H b y->bN x u->bN y v->A.units+m<cLine->c9 a b=some k->SeqAt.EqAt A s u v k) :
  ∀(a b:W) (A:Around) (x y:V) (u v:Value) (k:Bool),a.dep<=n->bh X.K μ H a x->bh X.K μ H b y->bN x u->bN y v->A.units+n<cLine->c9 a b=some k->SeqAt.EqAt A s u v k:=by
 intro a b A x y u v k hn ra rb ru rv hu he
 have hu0:A.units<cLine:=by omega
 cases a with
 |non=>
  cases ra.nonE;cases ru
  cases b with
  |non=>cases rb.nonE;cases rv;unfold c9 at he;cases he;exact SeqAt.EqAt.same _
  |bl z=>cases rb.blE;cases rv;unfold c9 at he;cases he;exact SeqAt.EqAt.none_bool z
  |int z=>cases rb.intE;obtain⟨t,rfl⟩:=rv;unfold c9 at he;cases he;exact SeqAt.EqAt.none_int z t
  |str z=>cases rb.strE;obtain⟨t,rfl⟩:=rv;unfold c9 at he;cases he;exact SeqAt.EqAt.none_str _ t
  |tup z=>obtain⟨p,vs,rfl,hS,_⟩:=rb.tupE;cases rv;obtain⟨bj,_,ht,_⟩:=I.tuple hS;unfold c9 at he;cases he;exact SeqAt.EqAt.none_tuple ht hu0
  |loc z=>unfold c9 at he;cases he
 |bl i=>
  cases ra.blE;cases ru
  cases b with
  |non=>cases rb.nonE;cases rv;unfold c9 at he;cases he;exact SeqAt.EqAt.bool_none i
  |bl z=>cases rb.blE;cases rv;unfold c9 at he;cases he;exact SeqAt.EqAt.bool_bool i z
  |int z=>cases rb.intE;obtain⟨t,rfl⟩:=rv;unfold c9 at he;cases he;exact SeqAt.EqAt.bool_int i z t
  |str z=>cases rb.strE;obtain⟨t,rfl⟩:=rv;unfold c9 at he;cases he;exact SeqAt.EqAt.bool_str i _ t
  |tup z=>obtain⟨p,vs,rfl,hS,_⟩:=rb.tupE;cases rv;obtain⟨bj,_,ht,_⟩:=I.tuple hS;unfold c9 at he;cases he;exact SeqAt.EqAt.bool_tuple i ht hu0
  |loc z=>unfold c9 at he;cases he
 |int i=>
  cases ra.intE;obtain⟨t',rfl⟩:=ru
  cases b with
  |non=>cases rb.nonE;cases rv;unfold c9 at he;cases he;exact SeqAt.EqAt.int_none i t'
  |bl z=>cases rb.blE;cases rv;unfold c9 at he;cases he;exact SeqAt.EqAt.int_bool i t' z
  |int z=>cases rb.intE;obtain⟨t,rfl⟩:=rv;unfold c9 at he;cases he;exact SeqAt.EqAt.int_int i t' z t
  |str z=>cases rb.strE;obtain⟨t,rfl⟩:=rv;unfold c9 at he;cases he;exact SeqAt.EqAt.int_str i t' _ t
  |tup z=>obtain⟨p,vs,rfl,hS,_⟩:=rb.tupE;cases rv;obtain⟨bj,_,ht,_⟩:=I.tuple hS;unfold c9 at he;cases he;exact SeqAt.EqAt.int_tuple i t' ht hu0
  |loc z=>unfold c9 at he;cases he
 |str i=>
  cases ra.strE;obtain⟨t',rfl⟩:=ru
  cases b with
  |non=>cases rb.nonE;cases rv;unfold c9 at he;cases he;exact SeqAt.EqAt.str_none _ t'
  |bl z=>cases rb.blE;cases rv;unfold c9 at he;cases he;exact SeqAt.EqAt.str_bool _ t' z
  |int z=>cases rb.intE;obtain⟨t,rfl⟩:=rv;unfold c9 at he;cases he;exact SeqAt.EqAt.str_int _ t' z t
  |str z=>
   cases rb.strE;obtain⟨t,rfl⟩:=rv;unfold c9 at he;cases he
   have:=SeqAt.EqAt.str_str (A:=A) (s:=s) (tx i) t' (tx z) t
   rw[<- oE]at this
   exact this
  |tup z=>obtain⟨p,vs,rfl,hS,_⟩:=rb.tupE;cases rv;obtain⟨bj,_,ht,_⟩:=I.tuple hS;unfold c9 at he;cases he;exact SeqAt.EqAt.str_tuple _ t' ht hu0
  |loc z=>unfold c9 at he;cases he
 |tup i=>
  obtain⟨p',JF,rfl,hS',r'⟩:=ra.tupE;cases ru;obtain⟨its',w',ht',_⟩:=I.tuple hS'
  cases b with
  |non=>cases rb.nonE;cases rv;unfold c9 at he;cases he;exact SeqAt.EqAt.tuple_none ht' hu0
  |bl z=>cases rb.blE;cases rv;unfold c9 at he;cases he;exact SeqAt.EqAt.tuple_bool z ht' hu0
  |int z=>cases rb.intE;obtain⟨t,rfl⟩:=rv;unfold c9 at he;cases he;exact SeqAt.EqAt.tuple_int z t ht' hu0
  |str z=>cases rb.strE;obtain⟨t,rfl⟩:=rv;unfold c9 at he;cases he;exact SeqAt.EqAt.tuple_str _ t ht' hu0
  |tup z=>
   obtain⟨p,vs,rfl,hS,r⟩:=rb.tupE;cases rv;obtain⟨bj,w,ht,_⟩:=I.tuple hS
   have he':eqWs i z=some k:=by unfold c9 at he;exact he
   by_cases hpp:p'=p
   ·subst hpp
    rw[DG I n (.tup i) (.tup z) (.ref p') k hn ra rb he]
    exact SeqAt.EqAt.same _
   ·obtain⟨e,h1,h2⟩:=lZ i z k he'
    have l1:its'.length=i.length:=by rw[<- w'.length,<- r'.len]
    have l2:bj.length=z.length:=by rw[<- w.length,<- r.len]
    have hd:depWs i+1<=n:=by unfold W.dep at hn;exact hn
    obtain⟨m,rfl⟩:∃m,n=m+1:=⟨n-1,by omega⟩
    have R:=SeqAt.RcAt.tuples (A:=A) (e:=e) ht' ht hu0 (fun j j1 j2=>by
     have j1':j<i.length:=by rw[<- l1];simpa using j1
     have j2':j<z.length:=by rw[<- l2];simpa using j2
     obtain⟨x1,g1,q1⟩:=r'.get (ae j1')
     obtain⟨x2,g2,q2⟩:=r.get (ae j2')
     obtain⟨u1,f1,v1⟩:=w'.get g1
     obtain⟨u2,f2,v2⟩:=w.get g2
     have E:=ih m rfl i[j] z[j] A.in1 x1 x2 u1 u2 (e j) (aV (lw j1') (by omega)) q1 q2 v1 v2 (by show A.units+1+m<cLine;omega) (h1 j j1' j2')
     have t1:its'.toArray[j]=u1:=by
      have:=(aa.mp f1).2
      simpa using this
     have t2:bj.toArray[j]=u2:=by
      have:=(aa.mp f2).2
      simpa using this
     rw[t1,t2];exact E)
    have sz1:its'.toArray.size=i.length:=by simp[l1]
    have sz2:bj.toArray.size=z.length:=by simp[l2]
    rw[sz1,sz2,h2]at R
    exact SeqAt.EqAt.of_refs hpp R
  |loc z=>unfold c9 at he;cases he
 |loc i=>cases b<;>(unfold c9 at he;cases he)
theorem zc{X:Cx}{pins:List (Addr×Obj)}{σ:St}{H:Hp}{s:Shared}{μ:List Addr}(I:bi X pins σ H s):∀(n:Nat) (a b:W) (A:Around) (x y:V) (u v:Value) (k:Bool),a.dep<=n->bh X.K μ H a x->bh X.K μ H b y->bN x u->bN y v->A.units+n<cLine->c9 a b=some k->SeqAt.EqAt A s u v k:=by
 intro n
 induction n with
 |zero=>exact uI I 0 fun m h=>absurd h (by omega)
 |succ n ih=>exact uI I (n+1) fun m h=>(show m=n by omega)▸ih
theorem KJ{X:Cx}{pins:List (Addr×Obj)}{σ:St}{H:Hp}{s:Shared}{μ:List Addr}(I:bi X pins σ H s)(n:Nat) :
  ∀(a b:W) (A:Around) (x y:V) (u v:Value) (k:Bool),(b.dep=0\/a.dep<=n)->bh X.K μ H a x->bh X.K μ H b y->bN x u->bN y v->A.units+n<cLine->c9 a b=some k->SeqAt.RcAt A s u v k:=by
 intro a b A x y u v k hn ra rb ru rv hu he
 have hu0:A.units<cLine:=by omega
 cases a with
 |non=>
  cases ra.nonE;cases ru
  cases b with
  |non=>cases rb.nonE;cases rv;unfold c9 at he;cases he;exact SeqAt.RcAt.none_none
  |bl z=>cases rb.blE;cases rv;unfold c9 at he;cases he;exact SeqAt.RcAt.none_bool z
  |int z=>cases rb.intE;obtain⟨t,rfl⟩:=rv;unfold c9 at he;cases he;exact SeqAt.RcAt.none_int z t
  |str z=>cases rb.strE;obtain⟨t,rfl⟩:=rv;unfold c9 at he;cases he;exact SeqAt.RcAt.none_str _ t
  |tup z=>obtain⟨p,vs,rfl,hS,_⟩:=rb.tupE;cases rv;obtain⟨bj,_,ht,_⟩:=I.tuple hS;unfold c9 at he;cases he;exact SeqAt.RcAt.none_tuple ht hu0
  |loc z=>unfold c9 at he;cases he
 |bl i=>
  cases ra.blE;cases ru
  cases b with
  |non=>cases rb.nonE;cases rv;unfold c9 at he;cases he;exact SeqAt.RcAt.bool_none i
  |bl z=>cases rb.blE;cases rv;unfold c9 at he;cases he;exact SeqAt.RcAt.bool_bool i z
  |int z=>cases rb.intE;obtain⟨t,rfl⟩:=rv;unfold c9 at he;cases he;exact SeqAt.RcAt.bool_int i z t
  |str z=>cases rb.strE;obtain⟨t,rfl⟩:=rv;unfold c9 at he;cases he;exact SeqAt.RcAt.bool_str i _ t
  |tup z=>obtain⟨p,vs,rfl,hS,_⟩:=rb.tupE;cases rv;obtain⟨bj,_,ht,_⟩:=I.tuple hS;unfold c9 at he;cases he;exact SeqAt.RcAt.bool_tuple i ht hu0
  |loc z=>unfold c9 at he;cases he
 |int i=>
  cases ra.intE;obtain⟨t',rfl⟩:=ru
  cases b with
  |non=>cases rb.nonE;cases rv;unfold c9 at he;cases he;exact SeqAt.RcAt.int_none i t'
  |bl z=>cases rb.blE;cases rv;unfold c9 at he;cases he;exact SeqAt.RcAt.int_bool i t' z
  |int z=>cases rb.intE;obtain⟨t,rfl⟩:=rv;unfold c9 at he;cases he;exact SeqAt.RcAt.int_int i t' z t
  |str z=>cases rb.strE;obtain⟨t,rfl⟩:=rv;unfold c9 at he;cases he;exact SeqAt.RcAt.int_str i t' _ t
  |tup z=>obtain⟨p,vs,rfl,hS,_⟩:=rb.tupE;cases rv;obtain⟨bj,_,ht,_⟩:=I.tuple hS;unfold c9 at he;cases he;exact SeqAt.RcAt.int_tuple i t' ht hu0
  |loc z=>unfold c9 at he;cases he
 |str i=>
  cases ra.strE;obtain⟨t',rfl⟩:=ru
  cases b with
  |non=>cases rb.nonE;cases rv;unfold c9 at he;cases he;exact SeqAt.RcAt.str_none _ t'
  |bl z=>cases rb.blE;cases rv;unfold c9 at he;cases he;exact SeqAt.RcAt.str_bool _ t' z
  |int z=>cases rb.intE;obtain⟨t,rfl⟩:=rv;unfold c9 at he;cases he;exact SeqAt.RcAt.str_int _ t' z t
  |str z=>
   cases rb.strE;obtain⟨t,rfl⟩:=rv;unfold c9 at he;cases he
   have:=SeqAt.RcAt.str_str (A:=A) (s:=s) (tx i) t' (tx z) t
   rw[<- oE]at this
   exact this
  |tup z=>obtain⟨p,vs,rfl,hS,_⟩:=rb.tupE;cases rv;obtain⟨bj,_,ht,_⟩:=I.tuple hS;unfold c9 at he;cases he;exact SeqAt.RcAt.str_tuple _ t' ht hu0
  |loc z=>unfold c9 at he;cases he
 |tup i=>
  obtain⟨p',JF,rfl,hS',r'⟩:=ra.tupE;cases ru;obtain⟨its',w',ht',_⟩:=I.tuple hS'
  cases b with
  |non=>cases rb.nonE;cases rv;unfold c9 at he;cases he;exact SeqAt.RcAt.tuple_none ht' hu0
  |bl z=>cases rb.blE;cases rv;unfold c9 at he;cases he;exact SeqAt.RcAt.tuple_bool z ht' hu0
  |int z=>cases rb.intE;obtain⟨t,rfl⟩:=rv;unfold c9 at he;cases he;exact SeqAt.RcAt.tuple_int z t ht' hu0
  |str z=>cases rb.strE;obtain⟨t,rfl⟩:=rv;unfold c9 at he;cases he;exact SeqAt.RcAt.tuple_str _ t ht' hu0
  |tup z=>
   obtain⟨p,vs,rfl,hS,r⟩:=rb.tupE;cases rv;obtain⟨bj,w,ht,_⟩:=I.tuple hS
   have he':eqWs i z=some k:=by unfold c9 at he;exact he
   obtain⟨e,h1,h2⟩:=lZ i z k he'
   have l1:its'.length=i.length:=by rw[<- w'.length,<- r'.len]
   have l2:bj.length=z.length:=by rw[<- w.length,<- r.len]
   have hd:depWs i+1<=n:=by
    rcases hn with hn|hn
    ·unfold W.dep at hn;omega
    ·unfold W.dep at hn;exact hn
   obtain⟨m,rfl⟩:∃m,n=m+1:=⟨n-1,by omega⟩
   have R:=SeqAt.RcAt.tuples (A:=A) (e:=e) ht' ht hu0 (fun j j1 j2=>by
    have j1':j<i.length:=by rw[<- l1];simpa using j1
    have j2':j<z.length:=by rw[<- l2];simpa using j2
    obtain⟨x1,g1,q1⟩:=r'.get (ae j1')
    obtain⟨x2,g2,q2⟩:=r.get (ae j2')
    obtain⟨u1,f1,v1⟩:=w'.get g1
    obtain⟨u2,f2,v2⟩:=w.get g2
    have E:=zc I m i[j] z[j] A.in1 x1 x2 u1 u2 (e j) (aV (lw j1') (by omega)) q1 q2 v1 v2 (by show A.units+1+m<cLine;omega) (h1 j j1' j2')
    have t1:its'.toArray[j]=u1:=by
     have:=(aa.mp f1).2
     simpa using this
    have t2:bj.toArray[j]=u2:=by
     have:=(aa.mp f2).2
     simpa using this
    rw[t1,t2];exact E)
   have sz1:its'.toArray.size=i.length:=by simp[l1]
   have sz2:bj.toArray.size=z.length:=by simp[l2]
   rw[sz1,sz2,h2]at R
   exact R
  |loc z=>unfold c9 at he;cases he
 |loc i=>cases b<;>(unfold c9 at he;cases he)
def lp:W->W->List ao->R W:=fun x y st=>match c9 x y with
 |some k=>if y.dep=0\/x.dep<=64 then .ok (.bl k) st else .bad
 |none=>.bad
theorem jr{X:Cx}{k:Nat}(hr:gD k X.A):rY X (compareOp .Eq) lp:=⟨fun pins s σ H x y v u Q I rv ru ⟨μ,st,wx,wy,S,rx,ry,q⟩=>by
 unfold lp at q
 cases e:c9 wx wy with
 |none=>rw[e]at q;exact q.elim
 |some b=>
  rw[e]at q
  simp only at q
  by_cases c:wy.dep=0\/wx.dep<=64
  ·rw[ax c]at q
   have:=hr.units
   exact KJ I 64 wx wy X.A x y v u b c rx ry rv ru this e X.prog X.w X.xe _ ⟨.bl b,H,I,rfl,lX S q⟩
  ·rw[aD c]at q;exact q.elim,fun x y st=>by
 unfold lp
 split
 ·split<;>trivial
 ·trivial⟩
theorem DH{X:Cx}{pins:List (Addr×Obj)}{σ:St}{H:Hp}{s:Shared}{μ:List Addr}(I:bi X pins σ H s)(n:Nat) :
  ∀(a b:W) (A:Around) (x y:V) (u v:Value) (k:Bool),(b.dep=0\/a.dep<=n)->bh X.K μ H a x->bh X.K μ H b y->bN x u->bN y v->A.units+n<cLine->c9 a b=some k->SeqAt.RcNeAt A s u v (!k):=by
 intro a b A x y u v k hn ra rb ru rv hu he
 have hu0:A.units<cLine:=by omega
 cases a with
 |non=>
  cases ra.nonE;cases ru
  cases b with
  |non=>cases rb.nonE;cases rv;unfold c9 at he;cases he;exact SeqAt.RcNeAt.none_none
  |bl z=>cases rb.blE;cases rv;unfold c9 at he;cases he;exact SeqAt.RcNeAt.none_bool z
  |int z=>cases rb.intE;obtain⟨t,rfl⟩:=rv;unfold c9 at he;cases he;exact SeqAt.RcNeAt.none_int z t
  |str z=>cases rb.strE;obtain⟨t,rfl⟩:=rv;unfold c9 at he;cases he;exact SeqAt.RcNeAt.none_str _ t
  |tup z=>obtain⟨p,vs,rfl,hS,_⟩:=rb.tupE;cases rv;obtain⟨bj,_,ht,_⟩:=I.tuple hS;unfold c9 at he;cases he;exact SeqAt.RcNeAt.none_tuple ht hu0
  |loc z=>unfold c9 at he;cases he
 |bl i=>
  cases ra.blE;cases ru
  cases b with
  |non=>cases rb.nonE;cases rv;unfold c9 at he;cases he;exact SeqAt.RcNeAt.bool_none i
  |bl z=>cases rb.blE;cases rv;unfold c9 at he;cases he;exact SeqAt.RcNeAt.bool_bool i z
  |int z=>cases rb.intE;obtain⟨t,rfl⟩:=rv;unfold c9 at he;cases he;exact SeqAt.RcNeAt.bool_int i z t
  |str z=>cases rb.strE;obtain⟨t,rfl⟩:=rv;unfold c9 at he;cases he;exact SeqAt.RcNeAt.bool_str i _ t
  |tup z=>obtain⟨p,vs,rfl,hS,_⟩:=rb.tupE;cases rv;obtain⟨bj,_,ht,_⟩:=I.tuple hS;unfold c9 at he;cases he;exact SeqAt.RcNeAt.bool_tuple i ht hu0
  |loc z=>unfold c9 at he;cases he
 |int i=>
  cases ra.intE;obtain⟨t',rfl⟩:=ru
  cases b with
  |non=>cases rb.nonE;cases rv;unfold c9 at he;cases he;exact SeqAt.RcNeAt.int_none i t'
  |bl z=>cases rb.blE;cases rv;unfold c9 at he;cases he;exact SeqAt.RcNeAt.int_bool i t' z
  |int z=>cases rb.intE;obtain⟨t,rfl⟩:=rv;unfold c9 at he;cases he;exact SeqAt.RcNeAt.int_int i t' z t
  |str z=>cases rb.strE;obtain⟨t,rfl⟩:=rv;unfold c9 at he;cases he;exact SeqAt.RcNeAt.int_str i t' _ t
  |tup z=>obtain⟨p,vs,rfl,hS,_⟩:=rb.tupE;cases rv;obtain⟨bj,_,ht,_⟩:=I.tuple hS;unfold c9 at he;cases he;exact SeqAt.RcNeAt.int_tuple i t' ht hu0
  |loc z=>unfold c9 at he;cases he
 |str i=>
  cases ra.strE;obtain⟨t',rfl⟩:=ru
  cases b with
  |non=>cases rb.nonE;cases rv;unfold c9 at he;cases he;exact SeqAt.RcNeAt.str_none _ t'
  |bl z=>cases rb.blE;cases rv;unfold c9 at he;cases he;exact SeqAt.RcNeAt.str_bool _ t' z
  |int z=>cases rb.intE;obtain⟨t,rfl⟩:=rv;unfold c9 at he;cases he;exact SeqAt.RcNeAt.str_int _ t' z t
  |str z=>
   cases rb.strE;obtain⟨t,rfl⟩:=rv;unfold c9 at he;cases he
   have:=SeqAt.RcNeAt.str_str (A:=A) (s:=s) (tx i) t' (tx z) t
   rw[<- oE]at this
   exact this
  |tup z=>obtain⟨p,vs,rfl,hS,_⟩:=rb.tupE;cases rv;obtain⟨bj,_,ht,_⟩:=I.tuple hS;unfold c9 at he;cases he;exact SeqAt.RcNeAt.str_tuple _ t' ht hu0
  |loc z=>unfold c9 at he;cases he
 |tup i=>
  obtain⟨p',JF,rfl,hS',r'⟩:=ra.tupE;cases ru;obtain⟨its',w',ht',_⟩:=I.tuple hS'
  cases b with
  |non=>cases rb.nonE;cases rv;unfold c9 at he;cases he;exact SeqAt.RcNeAt.tuple_none ht' hu0
  |bl z=>cases rb.blE;cases rv;unfold c9 at he;cases he;exact SeqAt.RcNeAt.tuple_bool z ht' hu0
  |int z=>cases rb.intE;obtain⟨t,rfl⟩:=rv;unfold c9 at he;cases he;exact SeqAt.RcNeAt.tuple_int z t ht' hu0
  |str z=>cases rb.strE;obtain⟨t,rfl⟩:=rv;unfold c9 at he;cases he;exact SeqAt.RcNeAt.tuple_str _ t ht' hu0
  |tup z=>
   obtain⟨p,vs,rfl,hS,r⟩:=rb.tupE;cases rv;obtain⟨bj,w,ht,_⟩:=I.tuple hS
   have he':eqWs i z=some k:=by unfold c9 at he;exact he
   obtain⟨e,h1,h2⟩:=lZ i z k he'
   have l1:its'.length=i.length:=by rw[<- w'.length,<- r'.len]
   have l2:bj.length=z.length:=by rw[<- w.length,<- r.len]
   have hd:depWs i+1<=n:=by
    rcases hn with hn|hn
    ·unfold W.dep at hn;omega
    ·unfold W.dep at hn;exact hn
   obtain⟨m,rfl⟩:∃m,n=m+1:=⟨n-1,by omega⟩
   have R:=SeqAt.RcNeAt.tuples (A:=A) (e:=e) ht' ht hu0 (fun j j1 j2=>by
    have j1':j<i.length:=by rw[<- l1];simpa using j1
    have j2':j<z.length:=by rw[<- l2];simpa using j2
    obtain⟨x1,g1,q1⟩:=r'.get (ae j1')
    obtain⟨x2,g2,q2⟩:=r.get (ae j2')
    obtain⟨u1,f1,v1⟩:=w'.get g1
    obtain⟨u2,f2,v2⟩:=w.get g2
    have E:=zc I m i[j] z[j] A.in1 x1 x2 u1 u2 (e j) (aV (lw j1') (by omega)) q1 q2 v1 v2 (by show A.units+1+m<cLine;omega) (h1 j j1' j2')
    have t1:its'.toArray[j]=u1:=by
     have:=(aa.mp f1).2
     simpa using this
    have t2:bj.toArray[j]=u2:=by
     have:=(aa.mp f2).2
     simpa using this
    rw[t1,t2];exact E)
   have sz1:its'.toArray.size=i.length:=by simp[l1]
   have sz2:bj.toArray.size=z.length:=by simp[l2]
   rw[sz1,sz2,h2]at R
   exact R
  |loc z=>unfold c9 at he;cases he
 |loc i=>cases b<;>(unfold c9 at he;cases he)
def Gn:W->W->List ao->R W:=fun x y st=>match c9 x y with
 |some k=>if y.dep=0\/x.dep<=64 then .ok (.bl (!k)) st else .bad
 |none=>.bad
theorem KL{X:Cx}{k:Nat}(hr:gD k X.A):rY X (compareOp .NotEq) Gn:=⟨fun pins s σ H x y v u Q I rv ru ⟨μ,st,wx,wy,S,rx,ry,q⟩=>by
 unfold Gn at q
 cases e:c9 wx wy with
 |none=>rw[e]at q;exact q.elim
 |some b=>
  rw[e]at q
  simp only at q
  by_cases c:wy.dep=0\/wx.dep<=64
  ·rw[ax c]at q
   have:=hr.units
   exact DH I 64 wx wy X.A x y v u b c rx ry rv ru this e X.prog X.w X.xe _ ⟨.bl (!b),H,I,rfl,lX S q⟩
  ·rw[aD c]at q;exact q.elim,fun x y st=>by
 unfold Gn
 split
 ·split<;>trivial
 ·trivial⟩
def qf(x:W):List W->Option Bool
 |[]=>some false
 |y::ys=>match c9 y x,qf x ys with
  |some a,some b=>some (a||b)
  |_,_=>none
def BZ(Ac:Bool)(x y:W)(st:List ao):R W:=match y with
 |.str l=>(match x with
  |.str [c]=>.ok (.bl (if Ac then !decide (c∈l)else decide (c∈l))) st
  |_=>.bad)
 |.tup ys=>(match qf x ys with
  |some k=>if depWs ys<=63 then .ok (.bl (if Ac then !k else k)) st else .bad
  |none=>.bad)
 |.loc n=>(match st[n]? with
  |some (.lst ys)=>(match qf x ys with
   |some k=>if depWs ys<=63 then .ok (.bl (if Ac then !k else k)) st else .bad
   |none=>.bad)
  |_=>.bad)
 |_=>.bad
theorem xu{x:W}:∀{ys:List W} {k:Bool},qf x ys=some k->(∀(j:Nat) w,ys[j]?=some w->∃b,c9 w x=some b)/\(k=true↔∃(j:Nat) (w:W),ys[j]?=some w/\c9 w x=some true)
 |[],k,h=>by
  unfold qf at h;cases h
  exact⟨fun j w e=>by simp at e,fun z=>(by cases z),fun⟨j,w,e,_⟩=>(by simp at e)⟩
 |y::ys,k,h=>by
  unfold qf at h
  cases e1:c9 y x with
  |none=>rw[e1]at h;simp at h
  |some a=>
   cases e2:qf x ys with
   |none=>rw[e1,e2]at h;simp at h
   |some b=>
    rw[e1,e2]at h
    simp at h
    obtain⟨q1,q2⟩:=xu e2
    refine⟨fun j w e=>?_,fun z=>?_,fun⟨j,w,e,f⟩=>?_⟩
    ·cases j with
     |zero=>simp at e;subst e;exact⟨a,e1⟩
     |succ j=>exact q1 j w (by simpa using e)
    ·rw[<- h]at z
     cases a with
     |true=>exact⟨0,y,rfl,e1⟩
     |false=>
      obtain⟨j,w,p,q⟩:=q2.mp (by simpa using z)
      exact⟨j+1,w,by simpa using p,q⟩
    ·rw[<- h]
     cases j with
     |zero=>simp at e;subst e;rw[e1]at f;cases f;rfl
     |succ j=>rw[q2.mpr ⟨j,w,by simpa using e,f⟩];simp
theorem se{X:Cx}{pins:List (Addr×Obj)}{σ:St}{H:Hp}{s:Shared}{μ:List Addr}(I:bi X pins σ H s){wx:W}{x:V}{v:Value}(rx:bh X.K μ H wx x)(rv:bN x v)(n:Nat){A:Around}(hu:A.units+n<cLine)
  {ys:List W} {vs:List V} {us:List Value} {k:Bool} (hd:depWs ys<=n) (rs:RelWs X.K μ H ys vs) (kJ:b9 vs us) (ha:qf wx ys=some k):∃e:Value->Bool,(∀u,u∈us.toArray->SeqAt.EqAt A s u v (e u))/\us.toArray.any e=k:=by
 classical
 obtain⟨q1,q2⟩:=xu ha
 have at':∀(j:Nat) (u:Value),us[j]?=some u->∃w b,ys[j]?=some w/\c9 w wx=some b/\SeqAt.EqAt A s u v b:=fun j u e=>by
  have hj:j<ys.length:=by
   have h1:=(aa.mp e).1
   rw[rs.len,kJ.length];exact h1
  obtain⟨b,hb⟩:=q1 j ys[j] (ae hj)
  obtain⟨y,g1,r1⟩:=rs.get (ae hj)
  obtain⟨u',f1,v1⟩:=kJ.get g1
  rw[e]at f1;cases f1
  exact⟨_,b,ae hj,hb,zc I n ys[j] wx A y x u v b (aV (lw hj) hd) r1 rx v1 rv hu hb⟩
 refine⟨fun u=>decide (∃(j:Nat) (w:W),us[j]?=some u/\ys[j]?=some w/\c9 w wx=some true),fun u hu=>?_,?_⟩
 ·by_cases c:∃(j:Nat) (w:W),us[j]?=some u/\ys[j]?=some w/\c9 w wx=some true
  ·show SeqAt.EqAt A s u v (decide _)
   rw[bv c]
   obtain⟨j,w,e1,e2,e3⟩:=c
   obtain⟨w',b,f1,f2,f3⟩:=at' j u e1
   rw[e2]at f1;cases f1
   rw[e3]at f2;cases f2
   exact f3
  ·show SeqAt.EqAt A s u v (decide _)
   rw[be c]
   obtain⟨j,hj,e⟩:=List.mem_iff_getElem.mp (show u∈us by simpa using hu)
   have e':us[j]?=some u:=by rw[ae hj,e]
   obtain⟨w',b,f1,f2,f3⟩:=at' j u e'
   cases b with
   |false=>exact f3
   |true=>exact absurd ⟨j,w',e',f1,f2⟩ c
 ·rw[List.any_toArray]
  cases k with
  |true=>
   obtain⟨j,w,e1,e2⟩:=q2.mp rfl
   have hj:j<us.length:=by rw[<- kJ.length,<- rs.len];exact(aa.mp e1).1
   exact i8.mpr ⟨us[j],fq hj,bv ⟨j,w,ae hj,e1,e2⟩⟩
  |false=>
   refine gR.mpr fun u _ c=>?_
   obtain⟨j,w,_,e1,e2⟩:=iL c
   have:=q2.mpr ⟨j,w,e1,e2⟩
   cases this
theorem DI{X:Cx}{k:Nat}(hr:gD k X.A):rY X (compareOp .NotIn) (BZ true):=⟨fun pins s σ H x y v u Q I rv ru ⟨μ,st,wx,wy,S,rx,ry,q⟩=>by
 have hu:=hr.units
 cases wy with
 |str l=>
  simp only[BZ]at q
  split at q
  ·exact vB pins s σ H x y v u Q I rv ru ⟨_,_,rx.strE,ry.strE,lX S q⟩
  ·exact q.elim
 |tup ys=>
  simp only[BZ]at q
  cases hk:qf wx ys with
  |none=>rw[hk]at q;exact q.elim
  |some kk=>
   rw[hk]at q
   simp only at q
   by_cases c:depWs ys<=63
   ·rw[ax c]at q
    obtain⟨p,vs,rfl,hS,r⟩:=ry.tupE
    cases ru
    obtain⟨bj,w,ht,_⟩:=I.tuple hS
    obtain⟨e,he,ha⟩:=se (A:=X.A.in1) I rx rv 63 (by show X.A.units+1+63<cLine;omega) c r w hk
    exact SeqAt.notIn_tupleAt e ht he ⟨.bl _,H,I,rfl,by rw[ha];exact lX S q⟩
   ·rw[aD c]at q;exact q.elim
 |loc n=>
  simp only[BZ]at q
  cases e1:st[n]? with
  |none=>rw[e1]at q;exact q.elim
  |some cc=>
   rw[e1]at q
   cases cc with
   |lst ys=>
    simp only at q
    cases hk:qf wx ys with
    |none=>rw[hk]at q;exact q.elim
    |some kk=>
     rw[hk]at q
     simp only at q
     by_cases c:depWs ys<=63
     ·rw[ax c]at q
      obtain⟨a1,g1,vs,k1,r⟩:=S.get e1
      obtain⟨b1,f1,rfl⟩:=ry.locE
      rw[g1]at f1;cases f1
      cases ru
      obtain⟨bj,w,ht,_⟩:=I.list (nL.of k1)
      obtain⟨e,he,ha⟩:=se (A:=X.A.in1) I rx rv 63 (by show X.A.units+1+63<cLine;omega) c r w hk
      exact SeqAt.notIn_listAt e ht.isList he ⟨.bl _,H,I,rfl,by rw[ha];exact lX S q⟩
     ·rw[aD c]at q;exact q.elim
   |_=>exact q.elim
 |_=>exact q.elim,fun x y st=>by
 unfold BZ
 repeat' split
 all_goals trivial⟩
section
variable{prog:Program}{w:World}{A:Around}{E:Value->Shared->Prop}{s:Shared}
theorem xy{t sl:Addr}{items:Array Value}{vl vu:Value}{lo hi:Option Int}{Q:Value->Shared->Prop}(ht:IsTup s.heap t items)(hs:s.heap.IsSliceOf sl vl vu .none)(pl:IsPart vl lo)(pu:IsPart vu hi)
  (hw:HT.sIx items.size 0 lo=0/\HT.sIx items.size items.size hi=items.size) (h:Q (.ref t) s):wpAny (model prog w) A (getItem (.ref t) (.ref sl)) Q E s:=by
 obtain⟨os,hos,hcs,Bs⟩:=id hs
 have hTs:s.TypeIs (.ref sl) "slice":=⟨os,hos,hcs⟩
 unfold getItem
 try with_reducible refine cF ?_
 first|refine ah (av ?_)|skip
 refine ah (wpAny_sequenceKey ht.typeIs (by decide) ?_)
 refine ah (cP (name:=Str.ofString "__getitem__") ht.typeIs dZ
  (cY dZ ht.typeIs entry_tuple_getitem ?_ (args_tuple_getitem _ _)))
 show wpAny _ _ (Builtin.Tuple.tupleItemsOf (.ref t) >>= _) _ _ s
 refine ah (tupleItemsOf_ ht ?_)
 refine ah (pY hTs ?_)
 rw[ax (by decide)]
 refine ah (HT.sliceApplied_gen hs pl pu ?_)
 have hyes:(((HT.sIx items.size 0 lo:Nat):Int)==0&&(1:Int)==1&&(HT.sIx items.size items.size hi-HT.sIx items.size 0 lo)==items.size)=true:=by
  rw[hw.1,hw.2];simp
 show wpAny _ _ (if (((HT.sIx items.size 0 lo:Nat):Int)==0&&(1:Int)==1&&(HT.sIx items.size items.size hi-HT.sIx items.size 0 lo)==items.size)=true then _ else _) _ _ s
 rw[ax hyes]
 unfold Builtin.Tuple.tupleIsExact
 obtain⟨ot,hot,PR,nt,hdt⟩:=id ht
 refine ah (ah (pY (T:="tuple") ht.typeIs ?_))
 refine av ?_
 rw[ax (by decide)]
 exact ah (io (av ⟨_,rfl,av h⟩))
end
section
variable{X:Cx}{a b c e o:Expr}{es:List Expr}{pos p p2 fT du:Pos}{x name:Str}{j:Nat}{fa fb fc fe:FE}{fs:FA}
def lstOf(st:List ao)(n:Nat):Option (List W):=match st[n]? with
 |some (.lst ws)=>some ws
 |some (.ro ws)=>some ws
 |_=>none
theorem ia.lstOf{K:Frag}{mg:Str->Option Value}{μ:List Addr}{st:List ao}{H:Hp}(S:ia K mg μ st H){n:Nat}{ws:List W}(h:lstOf st n=some ws):∃a vs,μ[n]?=some a/\nL K H a vs/\RelWs K μ H ws vs:=by
 unfold L2.lstOf at h
 cases e:st[n]? with
 |none=>rw[e]at h;cases h
 |some cc=>
  rw[e]at h
  cases cc with
  |lst zs=>cases h;obtain⟨a,g,vs,k,r⟩:=S.get e;exact⟨a,vs,g,nL.of k,r⟩
  |ro zs=>cases h;obtain⟨a,g,vs,k,r⟩:=S.get e;exact⟨a,vs,g,k.sq,r⟩
  |exc zs=>cases h
  |dct zs=>cases h
  |rod zs=>cases h
  |dcx zs=>cases h
  |tab _ _ _=>cases h
def pq{α:Type}(o:Option α)(k:α->R W):R W:=match o with
 |some a=>k a
 |none=>.bad
@[simp] theorem cJ{α:Type}(a:α)(k:α->R W):pq (some a) k=k a:=rfl
@[simp] theorem NH{α:Type}(k:α->R W):pq none k=.bad:=rfl
def bH(x y:W)(st:List ao):R W:=match x,y with
 |.tup ws,.int i=>pq (qb ws i) fun w=>.ok w st
 |.str l,.int i=>if l.length<=jE then pq (qb l i) (fun c=>.ok (.str [c]) st)else .bad
 |.loc n,.int i=>pq (lstOf st n) fun ws=>pq (qb ws i) fun w=>.ok w st
 |_,_=>.bad
theorem AG{K:Frag}{μ:List Addr}{H:Hp}{ws:List W}{vs:List V}{i:Int}{w:W}(r:RelWs K μ H ws vs)(h:qb ws i=some w):∃v,qb vs i=some v/\bh K μ H w v:=by
 unfold qb at h ⊢
 rw[<- r.len]
 cases e:Aq ws.length i with
 |none=>rw[e]at h;cases h
 |some k=>rw[e]at h;exact r.get h
theorem Qw:Gj X (Qt X bH):=fun value slice pins s σ H x y v u Q I rv ru ⟨μ,st,wx,wy,S,rx,ry,q⟩ hs=>by
 refine Kl value slice pins s σ H x y v u Q I rv ru ?_ hs
 cases wy with
 |int i=>
  cases wx with
  |tup ws=>
   simp only[bH]at q
   cases e1:qb ws i with
   |none=>rw[e1]at q;exact q.elim
   |some w=>
    rw[e1]at q
    obtain⟨p,vs,rfl,hS,r⟩:=rx.tupE
    obtain⟨z,f,g⟩:=AG r e1
    exact .inr (.inl ⟨p,vs,i,z,rfl,ry.intE,hS,f,q μ z H (aj _) ej.refl S g⟩)
  |str l=>
   simp only[bH]at q
   by_cases c:l.length<=jE
   ·rw[ax c]at q
    cases e1:qb l i with
    |none=>rw[e1]at q;exact q.elim
    |some w=>
     rw[e1]at q
     exact .inr (.inr ⟨_,i,w,rx.strE,ry.intE,by rw[jq];exact iV c,by rw[Kr];exact e1,ph S q⟩)
   ·rw[aD c]at q;exact q.elim
  |loc n=>
   simp only[bH]at q
   cases e0:lstOf st n with
   |none=>rw[e0]at q;exact q.elim
   |some ws=>
    rw[e0]at q
    cases e1:qb ws i with
    |none=>rw[cJ,e1]at q;exact q.elim
    |some w=>
     rw[cJ,e1]at q
     obtain⟨a,vs,g,hS,r⟩:=S.lstOf e0
     obtain⟨b1,f1,rfl⟩:=rx.locE
     rw[g]at f1;cases f1
     obtain⟨z,f,g⟩:=AG r e1
     exact .inl ⟨_,vs,i,z,rfl,ry.intE,hS,f,q μ z H (aj _) ej.refl S g⟩
  |_=>exact q.elim
 |_=>cases wx<;>exact q.elim
theorem oo{α:Type}{o:Option α}{k:α->R W}(h:∀a,qe (k a)):qe (pq o k):=by
 unfold pq
 split
 ·exact h _
 ·trivial
theorem NI(x y:W)(st:List ao):qe (bH x y st):=by
 unfold bH
 split
 ·exact oo fun _=>trivial
 ·split
  ·exact oo fun _=>trivial
  ·trivial
 ·exact oo fun _=>oo fun _=>trivial
 ·trivial
theorem bz(ha:SE X a fa)(hb:SE X b fb)(hs:As b:=by intro _ _;rfl):SE X (.Subscript a b pos) (e2 bH fa fb):=⟨(Nc Qw ha.h hb.h hs).imp fun _ _ _ h=>AD NI h⟩
abbrev FO:=bS->List ao->R (Option Int)
abbrev Qx:List Addr->Hp->Option Int->Option Int->Prop:=fun _ _ a b=>a=b
structure SO(X:Cx)(e:Option Expr)(f:FO):Prop where
 h:PO X e (tG X Qx f)
def qH:FO:=fun _ st=>.ok none st
def lx(fa:FE):FO:=fun ρ st=>(fa ρ st).bind fun x st=>match x with
 |.int i=>.ok (some i) st
 |_=>.bad
theorem PO.imp{X:Cx}{e:Option Expr}{t t':TO}(h:PO X e t)(i:∀σ H Q,t' σ H Q->t σ H Q):PO X e t':=fun pins s σ H Q I q=>h pins s σ H Q I (i _ _ _ q)
theorem py:SO X none qH:=⟨GO.imp fun σ H Q h=>by
 obtain⟨μ,ρ,st,l,h⟩:=h
 exact h μ none H (aj _) ej.refl l.sto rfl⟩
theorem jM(ha:SE X a fa):SO X (some a) (lx fa):=⟨(GP ha.h).imp fun σ H Q h=>by
 obtain⟨μ,ρ,st,l,h⟩:=h
 refine⟨μ,ρ,st,l,RK.bind h l fun μ1 st1 x v H1 p1 x1 l1 q1 h1=>?_⟩
 cases x with
 |int k=>exact⟨k,q1.intE,h1 μ1 _ H1 (aj _) ej.refl l1.sto rfl⟩
 |_=>exact h1.elim⟩
def jN{α:Type}(xs:List α)(lo hi:Option Int):List α:=(xs.drop (HT.sIx xs.length 0 lo)).take (HT.sIx xs.length xs.length hi-HT.sIx xs.length 0 lo)
def zd(x:W)(lo hi:Option Int)(st:List ao):R W:=match x with
 |.tup ws=>.ok (.tup (jN ws lo hi)) st
 |.str l=>if l.length<=jE then .ok (.str (jN l lo hi)) st else .bad
 |.loc n=>pq (lstOf st n) fun ws=>.ok (.loc st.length) (st++[.lst (jN ws lo hi)])
 |_=>.bad
theorem NJ(x:W)(lo hi:Option Int)(st:List ao):qe (zd x lo hi st):=by
 unfold zd pq
 repeat' split
 all_goals trivial
def DJ(fa:FE)(fl fh:FO):FE:=fun ρ st=>(fa ρ st).bind fun x st=>(fl ρ st).bind fun l st=>(fh ρ st).bind fun h st=>zd x l h st
theorem Qy:CN X (fun x lo hi H Q=>∃μ st wx,ia X.K X.mg μ st H/\bh X.K μ H wx x/\CP X μ H Q (zd wx lo hi st)):=by
 intro pins s σ H x v vl vu lo hi sl Q I rv hs pl pu ⟨μ,st,wx,S,rx,q⟩
 cases wx with
 |tup ws=>
  obtain⟨p,vs,rfl,hS,r⟩:=rx.tupE
  have hl:=r.len
  by_cases hw:HT.sIx vs.length 0 lo=0/\HT.sIx vs.length vs.length hi=vs.length
  ·cases rv
   obtain⟨bj,w,ht,hz⟩:=I.tuple hS
   have dw:bj.toArray.size=vs.length:=by rw[aJ];exact w.length.symm
   refine⟨"tuple",_,dZ.lookup,ht.typeIs,xy ht hs pl pu (by rw[dw];exact hw) ⟨.ref p,H,I,rfl,?_⟩⟩
   have e:jN ws lo hi=ws:=by
    unfold jN
    rw[hl,hw.1,hw.2,List.drop_zero,Nat.sub_zero,<- hl,fw]
   have q':CP X μ H Q (.ok (.tup (jN ws lo hi)) st):=q
   rw[e]at q'
   exact q' μ _ H (aj _) ej.refl S rx
  ·refine Kh pins s σ H _ v vl vu lo hi sl Q I rv hs pl pu ⟨p,vs,rfl,hS,hw,fun p2 hp2=>?_⟩
   have x:=fF.same (K:=X.K) (cS hp2 (.tup (rP vs lo hi)))
   have rc:RelWs X.K μ H (jN ws lo hi) (rP vs lo hi):=by
    unfold jN rP
    rw[hl]
    exact(r.drop _).take _
   exact q μ _ _ (aj _) x (S.same (cS hp2 _)) (.tupI fF.new (rc.mono (aj _) x))
 |str l=>
  simp only[zd]at q
  by_cases c:l.length<=jE
  ·rw[ax c]at q
   exact Ku pins s σ H _ v vl vu lo hi sl Q I rv hs pl pu ⟨l,rx.strE,iV c,ph S q⟩
  ·rw[aD c]at q;exact q.elim
 |loc n=>
  simp only[zd]at q
  cases e0:lstOf st n with
  |none=>rw[e0]at q;exact q.elim
  |some ws=>
   rw[e0]at q
   obtain⟨a,vs,g,hS,r⟩:=S.lstOf e0
   obtain⟨b1,f1,rfl⟩:=rx.locE
   rw[g]at f1;cases f1
   have hl:=r.len
   refine GS pins s σ H _ v vl vu lo hi sl Q I rv hs pl pu ⟨_,vs,rfl,hS,fun p2 hp2=>?_⟩
   have rc:RelWs X.K μ H (jN ws lo hi) (rP vs lo hi):=by
    unfold jN rP
    rw[hl]
    exact(r.drop _).take _
   exact q (μ++[p2]) _ _ (aC _ _) (fF.same (cS hp2 _)) (S.newLst hp2 rc) (nq S)
 |_=>exact q.elim
theorem ze{lo hi:Option Expr}{fl fh:FO}(ha:SE X a fa)(hl:SO X lo fl)(hh:SO X hi fh):SE X (.Subscript a (.Slice lo hi none p2) pos) (DJ fa fl fh):=⟨(Db Qy ha.h hl.h hh.h).imp fun σ H Q h=>by
 obtain⟨μ,ρ,st,l,h⟩:=h
 refine⟨μ,ρ,st,l,RK.bind h l fun μ1 st1 x v H1 p1 x1 l1 q1 h1=>⟨μ1,ρ,st1,l1,RK.bind h1 l1 fun μ2 cQ y u H2 p2 x2 l2 q2 h2=>⟨μ2,ρ,cQ,l2,RK.bind h2 l2 fun μ3 jH z t H3 p3 x3 l3 q3 h3=>?_⟩⟩⟩
 cases q2;cases q3
 exact⟨μ3,jH,x,l3.sto,(q1.mono p2 x2).mono p3 x3,rZ h3 (NJ _ _ _ _)⟩⟩
def Rc(X:Cx)(F:List W->List ao->R W):List V->Hp->VK->Prop:=fun vs H Q=>∃μ st ws,ia X.K X.mg μ st H/\RelWs X.K μ H ws vs/\CP X μ H Q (F ws st)
structure mM(X:Cx)(f:Value)(F:List W->List ao->R W):Prop where
 h:gU X f (Rc X F)
 n:∀ws st,qe (F ws st)
def bD(F:List W->List ao->R W)(fs:FA):FE:=fun ρ st=>(fs ρ st).bind fun ws st=>F ws st
theorem AH{F:List W->List ao->R W}{σ:St}{H:Hp}{Q:VK}(n:∀ws st,qe (F ws st))(h:tE X (bD F fs) σ H Q):Qe (Rc X F) (Qs X fs) σ H Q:=by
 obtain⟨μ,ρ,st,l,h⟩:=h
 exact⟨μ,ρ,st,l,RK.bind h l fun μ1 st1 x v H1 p1 x1 l1 q1 h1=>⟨μ1,st1,x,l1.sto,q1,rZ h1 (n _ _)⟩⟩
theorem cv{id:String}{F:List W->List ao->R W}(hc:mM X (.builtin id) F)(hm:X.mg x=none)(hv:bootBuiltins x=some (.builtin id))(ha:SA X (e::es) fs)(hg:Gl X x:=by rfl)(hn:x ≠ "__name__":=by decide)(Gh:(x==("__debug__":Str))=false:=by decide)
  (he:starEach (e::es) X.env=(false,eval e X.env)::starEach es X.env:=by rfl) (qR:(backTo pos (starEach es X.env)).any (·.1)=false:=by rfl):SE X (.Call (.Name x p) (e::es) [] pos) (bD F fs):=⟨(xc hc.h hg hm hv ha.h hn Gh he qR).imp fun _ _ _ h=>AH hc.n h⟩
theorem ca{T:String}{F:List W->List ao->R W}(hc:mM X (.type T) F)(hm:X.mg x=none)(hv:bootBuiltins x=some (.type T))(ha:SA X (e::es) fs)(hg:Gl X x:=by rfl)(hn:x ≠ "__name__":=by decide)(Gh:(x==("__debug__":Str))=false:=by decide)
  (he:starEach (e::es) X.env=(false,eval e X.env)::starEach es X.env:=by rfl) (qR:(backTo pos (starEach es X.env)).any (·.1)=false:=by rfl):SE X (.Call (.Name x p) (e::es) [] pos) (bD F fs):=⟨(BG hc.h hg hm hv ha.h hn Gh he qR).imp fun _ _ _ h=>AH hc.n h⟩
theorem RelWs.two{K:Frag}{μ:List Addr}{H:Hp}{a b:W}{vs:List V}(r:RelWs K μ H [a,b] vs):∃x y,vs=[x,y]/\bh K μ H a x/\bh K μ H b y:=by
 obtain⟨x,xs,rfl,rx,rn⟩:=r.consE
 obtain⟨y,ys,rfl,ry,rm⟩:=rn.consE
 rw[rm.nilE];exact⟨x,y,rfl,rx,ry⟩
theorem RelWs.one{K:Frag}{μ:List Addr}{H:Hp}{a:W}{vs:List V}(r:RelWs K μ H [a] vs):∃x,vs=[x]/\bh K μ H a x:=by
 obtain⟨x,xs,rfl,rx,rn⟩:=r.consE
 rw[rn.nilE];exact⟨x,rfl,rx⟩
def fQ(ws:List W)(st:List ao):R W:=match ws with
 |[.tup xs]=>.ok (.int xs.length) st
 |[.str l]=>if l.length<=jE then .ok (.int l.length) st else .bad
 |[.loc n]=>pq (lstOf st n) fun xs=>.ok (.int xs.length) st
 |_=>.bad
theorem fJ:mM X (.builtin "len") fQ:=⟨fun pins s σ H vs us Q I rv ⟨μ,st,ws,S,r,q⟩=>by
 unfold fQ at q
 split at q
 ·obtain⟨x,rfl,rx⟩:=r.one
  obtain⟨p,ys,rfl,hS,r'⟩:=rx.tupE
  exact o1 pins s σ H _ us Q I rv ⟨p,ys,rfl,.inr hS,by rw[<- r'.len];exact lW S q⟩
 ·obtain⟨x,rfl,rx⟩:=r.one
  split at q
  ·rename_i c
   exact vt pins s σ H _ us Q I rv ⟨_,by rw[rx.strE],by rw[jq];exact iV c,by rw[jq];exact lW S q⟩
  ·exact q.elim
 ·obtain⟨x,rfl,rx⟩:=r.one
  unfold pq at q
  split at q
  ·rename_i ys e0
   obtain⟨a,vs,g,hS,r'⟩:=S.lstOf e0
   obtain⟨b1,f1,rfl⟩:=rx.locE
   rw[g]at f1;cases f1
   exact o1 pins s σ H _ us Q I rv ⟨_,vs,rfl,.inl hS,by rw[<- r'.len];exact lW S q⟩
  ·exact q.elim
 ·exact q.elim,fun ws st=>by
 unfold fQ pq
 repeat' split
 all_goals trivial⟩
def DL(ws:List W)(st:List ao):R W:=match ws with
 |[.int i,.int j]=>.ok (.int (if j>i then j else i)) st
 |_=>.bad
def zf(ws:List W)(st:List ao):R W:=match ws with
 |[.int i,.int j]=>.ok (.int (if j<i then j else i)) st
 |_=>.bad
theorem NK(hc:X.calm=true:=by rfl):mM X (.builtin "max") DL:=⟨fun pins s σ H vs us Q I rv ⟨μ,st,ws,S,r,q⟩=>by
 unfold DL at q
 split at q
 ·obtain⟨x,y,rfl,rx,ry⟩:=r.two
  exact BC hc pins s σ H _ us Q I rv ⟨_,_,by rw[rx.intE,ry.intE],lW S q⟩
 ·exact q.elim,fun ws st=>by unfold DL;split<;>trivial⟩
theorem IG(hc:X.calm=true:=by rfl):mM X (.builtin "min") zf:=⟨fun pins s σ H vs us Q I rv ⟨μ,st,ws,S,r,q⟩=>by
 unfold zf at q
 split at q
 ·obtain⟨x,y,rfl,rx,ry⟩:=r.two
  exact BD hc pins s σ H _ us Q I rv ⟨_,_,by rw[rx.intE,ry.intE],lW S q⟩
 ·exact q.elim,fun ws st=>by unfold zf;split<;>trivial⟩
def dJ(ws:List W)(st:List ao):R W:=match ws with
 |[.tup xs]=>.ok (.tup xs) st
 |[.loc n]=>pq (lstOf st n) fun xs=>.ok (.tup xs) st
 |_=>.bad
theorem d5:mM X (.type "tuple") dJ:=⟨fun pins s σ H vs us Q I rv ⟨μ,st,ws,S,r,q⟩=>by
 unfold dJ at q
 split at q
 ·obtain⟨x,rfl,rx⟩:=r.one
  obtain⟨p,ys,rfl,hS,r'⟩:=id rx.tupE
  exact xf pins s σ H _ us Q I rv ⟨p,ys,rfl,hS,q μ _ H (aj _) ej.refl S rx⟩
 ·obtain⟨x,rfl,rx⟩:=r.one
  unfold pq at q
  split at q
  ·rename_i ys e0
   obtain⟨a,vs,g,hS,r'⟩:=S.lstOf e0
   obtain⟨b1,f1,rfl⟩:=rx.locE
   rw[g]at f1;cases f1
   refine xo pins s σ H _ us Q I rv ⟨_,vs,rfl,hS,fun l H2 hl e=>?_⟩
   subst e
   have x:=fF.same (K:=X.K) (cS hl (.tup vs))
   exact q μ _ _ (aj _) x (S.same (cS hl _)) (.tupI fF.new (r'.mono (aj _) x))
  ·exact q.elim
 ·exact q.elim,fun ws st=>by
 unfold dJ pq
 repeat' split
 all_goals trivial⟩
def nr(ws:List W)(st:List ao):R W:=match ws with
 |[.tup xs]=>.ok (.loc st.length) (st++[.lst xs])
 |[.loc n]=>pq (lstOf st n) fun xs=>.ok (.loc st.length) (st++[.lst xs])
 |_=>.bad
theorem vG:mM X (.type "list") nr:=⟨fun pins s σ H vs us Q I rv ⟨μ,st,ws,S,r,q⟩=>by
 unfold nr at q
 split at q
 ·obtain⟨x,rfl,rx⟩:=r.one
  obtain⟨p,ys,rfl,hS,r'⟩:=id rx.tupE
  refine rT pins s σ H _ us Q I rv ⟨p,ys,rfl,.inr hS,fun l H2 hl e=>?_⟩
  subst e
  exact q (μ++[l]) _ _ (aC _ _) (fF.same (cS hl _)) (S.newLst hl r') (nq S)
 ·obtain⟨x,rfl,rx⟩:=r.one
  unfold pq at q
  split at q
  ·rename_i ys e0
   obtain⟨a,vs,g,hS,r'⟩:=S.lstOf e0
   obtain⟨b1,f1,rfl⟩:=rx.locE
   rw[g]at f1;cases f1
   refine rT pins s σ H _ us Q I rv ⟨_,vs,rfl,.inl hS,fun l H2 hl e=>?_⟩
   subst e
   exact q (μ++[l]) _ _ (aC _ _) (fF.same (cS hl _)) (S.newLst hl r') (nq S)
  ·exact q.elim
 ·exact q.elim,fun ws st=>by
 unfold nr pq
 repeat' split
 all_goals trivial⟩
end
section
variable{X:Cx}{a b c e o:Expr}{es:List Expr}{pos p p2 fT du:Pos}{x name:Str}{j:Nat}{fa fb fc fe:FE}{fs:FA}{ft:FT}{st1:Stmt}{sr sa sb:List Stmt}{g g':FS}
def aW(g g':FS):FS:=fun ρ st=>match g ρ st with
 |.nx ρ' bG=>g' ρ' bG
 |r=>r
def cV:FS:=fun ρ st=>.nx ρ st
theorem db:SB X [] cV:=⟨GA.imp fun D σ H h=>by
 obtain⟨μ,ρ,st,l,h⟩:=h
 exact h μ σ H (aj _) ej.refl l⟩
theorem aU(h1:SS X st1 g):SB X [st1] g:=⟨GB h1.h⟩
theorem aw(h1:SS X st1 g)(h2:SB X sr g'):SB X (st1::sr) (aW g g'):=⟨(C1 h1.h h2.h).imp fun D σ H h=>by
 obtain⟨μ,ρ,st,l,h⟩:=h
 refine⟨μ,ρ,st,l,?_⟩
 unfold aW at h
 cases e:g ρ st with
 |nx ρ' bG=>rw[e]at h;exact fun μ' σ' H' p x l'=>⟨μ',ρ',bG,l',SK.mono h p x⟩
 |rt w bG=>rw[e]at h;exact h
 |bk ρ' bG=>rw[e]at h;exact h
 |ct ρ' bG=>rw[e]at h;exact h
 |ex c ρ' bG=>rw[e]at h;exact h
 |bad=>rw[e]at h;exact h⟩
def R.stmt{α:Type}(r:R α)(ρ:bS)(k:α->List ao->RS):RS:=match r with
 |.ok a st=>k a st
 |.ex c st=>.ex c ρ st
 |.bad=>.bad
@[simp] theorem R.stmt_ok{α:Type}(a:α)(st:List ao)(ρ:bS)(k:α->List ao->RS):(R.ok a st).stmt ρ k=k a st:=rfl
@[simp] theorem R.stmt_ex{α:Type}(c:Str)(st:List ao)(ρ:bS)(k:α->List ao->RS):(R.ex c st:R α).stmt ρ k=.ex c ρ st:=rfl
@[simp] theorem R.stmt_bad{α:Type}(ρ:bS)(k:α->List ao->RS):(R.bad:R α).stmt ρ k=.bad:=rfl
theorem RK.stmt{α β:Type}{jl:List Addr->Hp->α->β->Prop}{μ:List Addr}{ρ:bS}{st:List ao}{σ:St}{H:Hp}{D:tV}{r:R α}{k:α->List ao->RS}{T:β->Hp->Prop}
  (h:SK X μ H D (r.stmt ρ k)) (l:Rl X μ ρ st σ H)
  (hk:∀μ' bG x v H',μ <+: μ'->ej X.K H H'->Rl X μ' ρ bG σ H'->jl μ' H' x v->SK X μ' H' D (k x bG)->T v H'):RK X jl μ σ H T r:=by
 cases r with
 |ok a bG=>exact fun μ' b H' p x s q=>hk μ' bG a b H' p x (l.to p x s) q (SK.mono h p x)
 |ex c bG=>exact XS.toE h l
 |bad=>exact h
def fy(fe:FE):FS:=fun ρ st=>(fe ρ st).stmt ρ fun _ st=>.nx ρ st
theorem eN(he:SE X e fe)(hs:swapsWith e none pos.line X.env=pure false:=by rfl):SS X (.Expr e pos) (fy fe):=⟨(GC he.h hs).imp fun D σ H h=>by
 obtain⟨μ,ρ,st,l,h⟩:=h
 exact⟨μ,ρ,st,l,RK.stmt h l fun μ1 st1 x v H1 p1 x1 l1 q1 h1=>h1 μ1 σ H1 (aj _) ej.refl l1⟩⟩
def d8(fe:FE):FS:=fun ρ st=>(fe ρ st).stmt ρ fun w st=>.rt w st
theorem bT(he:SE X e fe):SS X (.Return (some e) pos) (d8 fe):=⟨(J1 he.h).imp fun D σ H h=>by
 obtain⟨μ,ρ,st,l,h⟩:=h
 exact⟨μ,ρ,st,l,RK.stmt h l fun μ1 st1 x v H1 p1 x1 l1 q1 h1=>h1 μ1 v H1 (aj _) ej.refl l1.sto q1⟩⟩
def jf(t:FT)(g g':FS):FS:=fun ρ st=>(t ρ st).stmt ρ fun k st=>if k then g ρ st else g' ρ st
theorem eO(hc:ST X c ft)(ha:SB X sa g)(hb:SB X sb g'):SS X (.If c sa sb pos) (jf ft g g'):=⟨(MR hc.h ha.h hb.h).imp fun D σ H h=>by
 obtain⟨μ,ρ,st,l,h⟩:=h
 refine⟨μ,ρ,st,l,RK.stmt h l fun μ1 st1 x v H1 p1 x1 l1 q1 h1=>?_⟩
 cases q1
 cases x with
 |true=>exact⟨μ1,ρ,st1,l1,h1⟩
 |false=>exact⟨μ1,ρ,st1,l1,h1⟩⟩
abbrev FG:=W->bS->Option bS
abbrev IH:=List W->bS->Option bS
def NL(X:Cx)(f:FG):TG:=fun v σ H Q=>∃μ ρ st w ρ',Rl X μ ρ st σ H/\bh X.K μ H w v/\f w ρ=some ρ'/\∀σ',Rl X μ ρ' st σ' H->Q σ' H
def Qz(X:Cx)(f:IH):GD:=fun vs σ H Q=>∃μ ρ st ws ρ',Rl X μ ρ st σ H/\RelWs X.K μ H ws vs/\f ws ρ=some ρ'/\∀σ',Rl X μ ρ' st σ' H->Q σ' H
theorem PG.imp{X:Cx}{e:Expr}{t t':TG}(h:PG X e t)(i:∀v σ H Q,t' v σ H Q->t v σ H Q):PG X e t':=fun pins s σ H x u Q I r q=>h pins s σ H x u Q I r (i _ _ _ _ q)
theorem Iv.imp{X:Cx}{e:List Expr}{t t':GD}(h:Iv X e t)(i:∀v σ H Q,t' v σ H Q->t v σ H Q):Iv X e t':=fun pins s σ H x u Q I r q=>h pins s σ H x u Q I r (i _ _ _ _ q)
structure SG(X:Cx)(e:Expr)(f:FG):Prop where
 h:PG X e (NL X f)
structure Pw(X:Cx)(e:List Expr)(f:IH):Prop where
 h:Iv X e (Qz X f)
def eJ(i:Nat):FG:=fun w ρ=>some (ρ.set i (some w))
theorem AI{i:Nat}(hN:X.N.Nodup)(hi:X.N[i]?=some x)(hx:Gv X.env.scope x)(hf:X.fn x=true\/X.env.scope.names.lookup x=some .local:=by first|exact .inl rfl|exact .inr rfl|assumption):SG X (.Name x pos) (eJ i):=⟨(GF hN hi hx hf).imp fun v σ H Q h=>by
 obtain⟨μ,ρ,st,w,ρ',l,r,e,q⟩:=h
 cases e
 exact q _ ⟨rX r i l.env,l.sto⟩⟩
def kA:IH:=fun ws ρ=>match ws with
 |[]=>some ρ
 |_=>none
def dY(f:FG)(fs:IH):IH:=fun ws ρ=>match ws with
 |w::ws=>(f w ρ).bind fun ρ'=>fs ws ρ'
 |[]=>none
theorem kB:Pw X [] kA:=⟨GG.imp fun vs σ H Q h=>by
 obtain⟨μ,ρ,st,ws,ρ',l,r,e,q⟩:=h
 cases ws with
 |nil=>cases e;exact⟨r.nilE,q σ l⟩
 |cons _ _=>cases e⟩
theorem eR{f:FG}{fs:IH}(h1:SG X e f)(h2:Pw X es fs)(hs:(assignEach (e::es) X.env).map (·.2)=assign e X.env::(assignEach es X.env).map (·.2):=by rfl):Pw X (e::es) (dY f fs):=⟨(C2 h1.h h2.h hs).imp fun vs σ H Q h=>by
 obtain⟨μ,ρ,st,ws,ρ',l,r,e,q⟩:=h
 cases ws with
 |nil=>cases e
 |cons w ws=>
  obtain⟨x,xs,rfl,rx,rs⟩:=r.consE
  simp only[dY]at e
  cases e1:f w ρ with
  |none=>rw[e1]at e;cases e
  |some ρ1=>
   rw[e1]at e
   exact⟨x,xs,rfl,μ,ρ,st,w,ρ1,l,rx,e1,fun σ1 l1=>⟨μ,ρ1,st,ws,ρ',l1,rs,e,q⟩⟩⟩
def zg(n:Nat)(fs:IH):FG:=fun w ρ=>match w with
 |.tup ws=>if ws.length=n then fs ws ρ else none
 |_=>none
theorem nu{k n:Nat}{fs:IH}(hc:X.calm=true)(h:Pw X es fs)(hn:(assignEach es X.env).length=n:=by rfl)(rK:(assignEach es X.env).findIdx? (·.1)=none:=by rfl):SG X (.Tuple es k pos) (zg n fs):=⟨(J2 hc h.h hn rK).imp fun v σ H Q h=>by
 obtain⟨μ,ρ,st,w,ρ',l,r,e,q⟩:=h
 cases w with
 |tup ws=>
  obtain⟨p,vs,rfl,hS,rs⟩:=r.tupE
  simp only[zg]at e
  by_cases c:ws.length=n
  ·rw[ax c]at e
   exact⟨p,vs,rfl,hS,by rw[<- rs.len];exact c,μ,ρ,st,ws,ρ',l,rs,e,q⟩
  ·rw[aD c]at e;cases e
 |_=>cases e⟩
def vH(fe:FE)(f:FG):FS:=fun ρ st=>(fe ρ st).stmt ρ fun w st=>match f w ρ with
 |some ρ'=>.nx ρ' st
 |none=>.bad
theorem NM{f:FG}{D:tV}{σ:St}{H:Hp}(h:Pu X (vH fe f) D σ H):C3 (tE X fe) (NL X f) D σ H:=by
 obtain⟨μ,ρ,st,l,h⟩:=h
 refine⟨μ,ρ,st,l,RK.stmt h l fun μ1 st1 x v H1 p1 x1 l1 q1 h1=>?_⟩
 cases e1:f x ρ with
 |none=>rw[e1]at h1;exact h1.elim
 |some ρ'=>rw[e1]at h1;exact⟨μ1,ρ,st1,x,ρ',l1,q1,e1,fun σ' l'=>h1 μ1 σ' H1 (aj _) ej.refl l'⟩
theorem KM{tg:Expr}{f:FG}(he:SE X e fe)(hg:SG X tg f)(hs:swapsWithSole [tg] e pos.line X.env=pure false:=by rfl)(hw:swappedStores [tg] e X.env=pure none:=by rfl)(h1:(assignEach [tg] X.env).map (·.2)=[assign tg X.env]:=by rfl):SS X (.Assign [tg] e pos) (vH fe f):=⟨(C4 he.h hg.h hs hw h1).imp fun D σ H h=>NM h⟩
def bF(i:Nat)(fe:FE):FS:=fun ρ st=>(fe ρ st).stmt ρ fun w st=>.nx (ρ.set i (some w)) st
theorem KN{i:Nat}{iD:Pos}(hN:X.N.Nodup)(hi:X.N[i]?=some x)(hx:Gv X.env.scope x)(he:SE X e fe)(hs:swapsWith e (some (.Name x iD)) pos.line X.env=pure false:=by rfl)(hf:X.fn x=true\/X.env.scope.names.lookup x=some .local:=by first|exact .inl rfl|exact .inr rfl|assumption) :
  SS X (.Assign [.Name x iD] e pos) (bF i fe):=⟨(J4 hN hi hx he.h hs hf).imp fun D σ H h=>by
 obtain⟨μ,ρ,st,l,h⟩:=h
 exact⟨μ,ρ,st,l,RK.stmt h l fun μ1 st1 x v H1 p1 x1 l1 q1 h1=>h1 μ1 _ H1 (aj _) ej.refl ⟨rX q1 i l1.env,l1.sto⟩⟩⟩
def mN(x i v:W)(st:List ao):Option (List ao):=match x,i with
 |.loc n,.int k=>(match st[n]? with
  |some (.lst ws)=>(Aq ws.length k).map fun j=>st.set n (.lst (ws.set j v))
  |_=>none)
 |_,_=>none
def kT(fo fi fe:FE)(f:W->W->W->List ao->Option (List ao)):FS:=fun ρ st=>(fe ρ st).stmt ρ fun v st=>(fo ρ st).stmt ρ fun x st=>(fi ρ st).stmt ρ fun i st=>match f x i v st with
 |some bG=>.nx ρ bG
 |none=>.bad
def AJ(X:Cx)(f:W->W->W->List ao->Option (List ao)):GE:=fun o i v H Q=>∃μ st wo wi wv bG,ia X.K X.mg μ st H/\bh X.K μ H wo o/\bh X.K μ H wi i/\bh X.K μ H wv v/\f wo wi wv st=some bG/\∀H',ej X.K H H'->ia X.K X.mg μ bG H'->Q H'
theorem sf:yP X (AJ X mN):=fun pins s σ H o i v ov iv u Q I r1 r2 r3 ⟨μ,st,wo,wi,wv,bG,S,ro,ri,rv,e,q⟩=>by
 cases wo with
 |loc n=>
  cases wi with
  |int k=>
   simp only[mN]at e
   cases e1:st[n]? with
   |none=>rw[e1]at e;cases e
   |some cc=>
    rw[e1]at e
    cases cc with
    |lst ws=>
     simp only at e
     cases e2:Aq ws.length k with
     |none=>rw[e2]at e;cases e
     |some jj=>
      rw[e2]at e
      cases e
      obtain⟨a1,g1,vs,k1,r⟩:=S.get e1
      obtain⟨b1,f1,rfl⟩:=ro.locE
      rw[g1]at f1;cases f1
      refine BU pins s σ H _ i v ov iv u Q I r1 r2 r3 ⟨a1,vs,k,jj,rfl,ri.intE,k1,by rw[<- r.len];exact e2,fun H2 eH=>?_⟩
      subst eH
      exact q _ (fF.but gv k1) (S.set e1 g1 k1 (r.setI jj rv))
    |_=>cases e
  |_=>cases e
 |_=>cases wi<;>cases e
theorem iW{f:W->W->W->List ao->Option (List ao)}{i:Expr}{iD:Pos}{fi:FE}{fo:FE}(QV:yP X (AJ X f))(he:SE X e fe)(ho:SE X o fo)(hi:SE X i fi)
  (ha:∀v,assign (.Subscript o i iD) X.env v=(do
   let ov <- holding [v] (eval o X.env)
   let iv <- holding [v,ov] (eval i X.env)
   standAt iD
   holding [v,ov,iv] (setItem ov iv v)
   release [v,ov,iv] []):=by intro _;rfl)
  (hs:swapsWithSole [.Subscript o i iD] e pos.line X.env=pure false:=by rfl) (hw:swappedStores [.Subscript o i iD] e X.env=pure none:=by rfl) (h1:(assignEach [.Subscript o i iD] X.env).map (·.2)=[assign (.Subscript o i iD) X.env]:=by rfl) :
  SS X (.Assign [.Subscript o i iD] e pos) (kT fo fi fe f):=⟨(C4 he.h (J3 ho.h hi.h QV ha) hs hw h1).imp fun D σ H h=>by
 obtain⟨μ,ρ,st,l,h⟩:=h
 refine⟨μ,ρ,st,l,RK.stmt h l fun μ1 st1 v vv H1 p1 x1 l1 q1 h1=>⟨μ1,ρ,st1,l1,RK.stmt h1 l1 fun μ2 cQ x xv H2 p2 x2 l2 q2 h2=>⟨μ2,ρ,cQ,l2,RK.stmt h2 l2 fun μ3 jH i iv H3 p3 x3 l3 q3 h3=>?_⟩⟩⟩
 cases e1:f x i v jH with
 |none=>rw[e1]at h3;exact h3.elim
 |some bG=>
  rw[e1]at h3
  exact⟨μ3,jH,x,i,v,bG,l3.sto,q2.mono p3 x3,q3,(q1.mono p2 x2).mono p3 x3,e1,fun H' xx S'=>h3 μ3 σ H' (aj _) xx (l3.to (aj _) xx S')⟩⟩
end
def iB(st:List ao):Option (Nat×List W)->Prop
 |none=>True
 |some (n,ws)=>lstOf st n=some ws
abbrev zh:=List W×Option (Nat×List W)
abbrev FI:=bS->List ao->R zh
def zl(X:Cx)(J:It)(k:zh)(μ:List Addr)(H:Hp):Prop:=
 ∀(i:Nat) μ' bG H',μ <+: μ'->ej X.K H H'->ia X.K X.mg μ' bG H'->iB bG k.2 ->
  (∀w,k.1[i]?=some w->J.go i H'/\∀x H'',J.yld i H' x H''->ej X.K H' H''/\ia X.K X.mg μ' bG H''/\bh X.K μ' H'' w x)/\(k.1.length<=i->J.stop i H')
abbrev NN(X:Cx):List Addr->Hp->zh->It->Prop:=fun μ H k J=>zl X J k μ H
structure SI(X:Cx)(tg it:Expr)(f:FI):Prop where
 h:PI X tg it (fun σ H R=>tG X (NN X) f σ H R)
theorem PI.imp{X:Cx}{tg it:Expr}{t t':TI}(h:PI X tg it t)(i:∀σ H Q,t' σ H Q->t σ H Q):PI X tg it t':=fun pins s σ H Q I q=>h pins s σ H Q I (i _ _ _ q)
open Classical in
def pz(f:FG)(body:FS)(ck:Option (Nat×List W)):List W->FS
 |[],ρ,st=>if iB st ck then .nx ρ st else .bad
 |w::ws,ρ,st=>if iB st ck then(match f w ρ with
  |none=>.bad
  |some ρ'=>(match body ρ' st with
   |.nx ρ2 cQ=>pz f body ck ws ρ2 cQ
   |.ct ρ2 cQ=>pz f body ck ws ρ2 cQ
   |.bk ρ2 cQ=>.nx ρ2 cQ
   |.rt w cQ=>.rt w cQ
   |.ex c ρ2 cQ=>.ex c ρ2 cQ
   |.bad=>.bad))else .bad
def e_(fi:FI)(f:FG)(body:FS):FS:=fun ρ st=>(fi ρ st).stmt ρ fun k st=>pz f body k.2 k.1 ρ st
section
variable{X:Cx}{a b c e o tg iter:Expr}{es:List Expr}{pos p p2:Pos}{fa fb fe:FE}{fs:FA}{ft:FT}{body:List Stmt}{g:FS}{f:FG}{fi:FI}
theorem dL(hi:SI X tg iter fi)(hg:SG X tg f)(hb:SB X body g)(hc:X.calm=true:=by rfl)(hp:PassesOwn (model X.prog X.w) X.A X.env X.xe:=by passes_own)(hs:∀x,foldedSetIterable iter X.env x=pure x:=by intro _;rfl):SS X (.For tg iter body [] pos) (e_ fi f g):=⟨(J6 hp hc hi.h hg.h hb.h hs).imp fun D σ H h=>by
 obtain⟨μ,ρ,st,l,h⟩:=h
 refine⟨μ,ρ,st,l,RK.stmt h l fun μ1 st1 k J H1 p1 x1 l1 wk h1=>?_⟩
 refine⟨fun i m σ' H'=>i<=k.1.length/\m=k.1.length-i/\∃μ' ρ' bG,μ1 <+: μ'/\ej X.K H1 H'/\Rl X μ' ρ' bG σ' H'/\SK X μ' H' D (pz f g k.2 (k.1.drop i) ρ' bG),
  ⟨_,df _,rfl,μ1,ρ,st1,aj _,ej.refl,l1,h1⟩,?_⟩
 rintro i m σ' H' ⟨hi,rfl,μ',ρ',bG,pm,xm,lm,hm⟩
 by_cases hlt:i<k.1.length
 ·rw[d7 hlt]at hm
  unfold pz at hm
  by_cases ck:iB bG k.2
  ·rw[ax ck]at hm
   obtain⟨go,yld⟩:=(wk i μ' bG H' pm xm lm.sto ck).1 _ (ae hlt)
   cases hf:f k.1[i] ρ' with
   |none=>rw[hf]at hm;exact hm.elim
   |some ρ2=>
    rw[hf]at hm
    simp only at hm
    refine .inr ⟨go,fun σ2 H2=>∃μ2 ρ3 cQ,μ' <+: μ2/\ej X.K H' H2/\Rl X μ2 ρ3 cQ σ2 H2/\SK X μ2 H2 D (pz f g k.2 (k.1.drop (i+1)) ρ3 cQ),fun σ2 H2 ⟨μ2,ρ3,cQ,q1,q2,q3,q4⟩=>
     ⟨_,by omega,hlt,rfl,μ2,ρ3,cQ,pm.trans q1,xm.trans q2,q3,q4⟩,fun x H2 hy=>?_⟩
    obtain⟨y1,y2,y3⟩:=yld x H2 hy
    refine⟨μ',ρ',bG,k.1[i],ρ2,lm.to (aj _) y1 y2,y3,hf,fun σ2 l2=>⟨μ',ρ2,bG,l2,?_⟩⟩
    cases e:g ρ2 bG with
    |nx ρ3 jH=>rw[e]at hm;exact fun μ4 σ4 H4 p4 x4 l4=>⟨μ4,ρ3,jH,p4,y1.trans x4,l4,SK.mono hm p4 (y1.trans x4)⟩
    |ct ρ3 jH=>rw[e]at hm;exact fun μ4 σ4 H4 p4 x4 l4=>⟨μ4,ρ3,jH,p4,y1.trans x4,l4,SK.mono hm p4 (y1.trans x4)⟩
    |bk ρ3 jH=>rw[e]at hm;exact fun μ4 σ4 H4 p4 x4 l4=>hm μ4 σ4 H4 p4 (y1.trans x4) l4
    |rt w jH=>rw[e]at hm;exact fun μ4 v4 H4 p4 x4=>hm μ4 v4 H4 p4 (y1.trans x4)
    |ex c ρ3 jH=>rw[e]at hm;exact XS.mono hm (aj _) y1
    |bad=>rw[e]at hm;exact hm
  ·rw[aD ck]at hm;exact hm.elim
 ·have hi':i=k.1.length:=by omega
  subst hi'
  rw[mF (aB _)]at hm
  unfold pz at hm
  by_cases ck:iB bG k.2
  ·rw[ax ck]at hm
   exact .inl ⟨(wk _ μ' bG H' pm xm lm.sto ck).2 (aB _),hm μ' σ' H' (aj _) ej.refl lm⟩
  ·rw[aD ck]at hm;exact hm.elim⟩
def fz(t:FT)(body:FS):Nat->FS
 |0,_,_=>.bad
 |n+1,ρ,st=>(t ρ st).stmt ρ fun k st=>if k then(match body ρ st with
   |.nx ρ2 cQ=>fz t body n ρ2 cQ
   |.ct ρ2 cQ=>fz t body n ρ2 cQ
   |.bk ρ2 cQ=>.nx ρ2 cQ
   |.rt w cQ=>.rt w cQ
   |.ex c ρ2 cQ=>.ex c ρ2 cQ
   |.bad=>.bad)else .nx ρ st
open Classical in
def js(t:FT)(body:FS):FS:=fun ρ st=>if h:∃n,fz t body n ρ st≠.bad then fz t body h.choose ρ st else .bad
theorem nv(t:FT)(g:FS):∀(n:Nat) (ρ:bS) (st:List ao),fz t g n ρ st≠.bad->fz t g (n+1) ρ st=fz t g n ρ st
 |0,_,_,h=>absurd rfl h
 |n+1,ρ,st,h=>by
  unfold fz at h ⊢
  cases e:t ρ st with
  |ex c st1=>rfl
  |bad=>rfl
  |ok k st1=>
   rw[e]at h
   simp only[R.stmt_ok]at h ⊢
   cases k with
   |false=>rfl
   |true=>
    simp only[d6]at h ⊢
    cases e2:g ρ st1 with
    |nx ρ2 cQ=>rw[e2]at h;exact nv t g n ρ2 cQ h
    |ct ρ2 cQ=>rw[e2]at h;exact nv t g n ρ2 cQ h
    |_=>rfl
theorem uJ{t:FT}{g:FS}{n m:Nat}{ρ:bS}{st:List ao}(h:fz t g n ρ st≠.bad)(hm:n<=m):fz t g m ρ st=fz t g n ρ st:=by
 induction hm with
 |refl=>rfl
 |@step m _ ih=>rw[nv t g m ρ st (by rw[ih];exact h),ih]
theorem uK{t:FT}{g:FS}{n:Nat}{ρ:bS}{st:List ao}{r:RS}(h:fz t g n ρ st=r)(hr:r≠.bad):js t g ρ st=r:=by
 have hx:∃n,fz t g n ρ st≠.bad:=⟨n,by rw[h];exact hr⟩
 unfold js
 rw[dif_pos hx]
 have c:=hx.choose_spec
 have a:=uJ c (Nat.le_max_left hx.choose n)
 have b:=uJ (n:=n) (m:=max hx.choose n) (by rw[h];exact hr) (Nat.le_max_right _ _)
 rw[<- a,b,h]
theorem xz{X:Cx}{t:FT}{g:FS}{D:tV}:∀(n:Nat) (σ:St) (H:Hp) (μ:List Addr) (ρ:bS) (st:List ao),Rl X μ ρ st σ H->SK X μ H D (fz t g n ρ st)->C5 (tT X t) (Pu X g) D σ H:=by
 intro n σ H μ ρ st l h
 refine⟨fun m σ' H'=>∃μ' ρ' bG,Rl X μ' ρ' bG σ' H'/\SK X μ' H' D (fz t g m ρ' bG),⟨n,μ,ρ,st,l,h⟩,?_⟩
 rintro m σ' H' ⟨μ',ρ',bG,l',h'⟩
 cases m with
 |zero=>exact h'.elim
 |succ m=>
  refine⟨μ',ρ',bG,l',RK.stmt h' l' fun μ1 st1 k v H1 p1 x1 l1 q1 h1=>?_⟩
  cases q1
  cases k with
  |false=>exact h1 μ1 σ' H1 (aj _) ej.refl l1
  |true=>
   refine⟨fun σ2 H2=>∃μ2 ρ2 cQ,Rl X μ2 ρ2 cQ σ2 H2/\SK X μ2 H2 D (fz t g m ρ2 cQ),fun σ2 H2 z=>⟨m,gm m,z⟩,μ1,ρ',st1,l1,?_⟩
   simp only[d6]at h1
   cases e:g ρ' st1 with
   |nx ρ3 jH=>rw[e]at h1;exact fun μ4 σ4 H4 p4 x4 l4=>⟨μ4,ρ3,jH,l4,SK.mono h1 p4 x4⟩
   |ct ρ3 jH=>rw[e]at h1;exact fun μ4 σ4 H4 p4 x4 l4=>⟨μ4,ρ3,jH,l4,SK.mono h1 p4 x4⟩
   |bk ρ3 jH=>rw[e]at h1;exact h1
   |rt w jH=>rw[e]at h1;exact h1
   |ex c ρ3 jH=>rw[e]at h1;exact h1
   |bad=>rw[e]at h1;exact h1
theorem nw{t:FT}(hc:ST X c t)(hb:SB X body g)(hp:PassesOwn (model X.prog X.w) X.A X.env X.xe:=by passes_own):SS X (.While c body [] pos) (js t g):=⟨(C6 hp hc.h hb.h).imp fun D σ H h=>by
 obtain⟨μ,ρ,st,l,h⟩:=h
 unfold js at h
 by_cases hx:∃n,fz t g n ρ st≠.bad
 ·rw[dif_pos hx]at h;exact xz _ σ H μ ρ st l h
 ·rw[dif_neg hx]at h;exact h.elim⟩
def DM(fe:FE):FI:=fun ρ st=>(fe ρ st).bind fun x st=>match x with
 |.tup ws=>.ok (ws,none) st
 |_=>.bad
theorem DN(he:SE X e fe):SI X tg e (DM fe):=⟨(J5 he.h).imp fun σ H R h=>by
 obtain⟨μ,ρ,st,l,h⟩:=h
 refine⟨μ,ρ,st,l,RK.bind h l fun μ1 st1 x v H1 p1 x1 l1 q1 h1=>?_⟩
 cases x with
 |tup ws=>
  obtain⟨p,vs,rfl,hS,r⟩:=q1.tupE
  refine⟨p,rfl,⟨vs,hS⟩,h1 μ1 _ H1 (aj _) ej.refl l1.sto fun i μ' bG H' pp xx S _=>⟨fun w hw=>?_,fun hl=>⟨vs,xx _ _ hS,by rw[<- r.len];exact hl⟩⟩⟩
  have r':=r.mono pp xx
  obtain⟨v,g1,g2⟩:=r'.get hw
  refine⟨⟨vs,v,xx _ _ hS,g1⟩,fun y H'' hy=>?_⟩
  obtain⟨rfl,hy⟩:=hy
  have:=hy vs (xx _ _ hS)
  rw[g1]at this;cases this
  exact⟨ej.refl,S,g2⟩
 |_=>exact h1.elim⟩
def II(fe:FE):FI:=fun ρ st=>(fe ρ st).bind fun x st=>match x with
 |.loc n=>(match lstOf st n with
  |some ws=>.ok (ws,some (n,ws)) st
  |none=>.bad)
 |_=>.bad
theorem KO(he:SE X e fe):SI X tg e (II fe):=⟨(GH he.h).imp fun σ H R h=>by
 obtain⟨μ,ρ,st,l,h⟩:=h
 refine⟨μ,ρ,st,l,RK.bind h l fun μ1 st1 x v H1 p1 x1 l1 q1 h1=>?_⟩
 cases x with
 |loc n=>
  obtain⟨a,ha,rfl⟩:=q1.locE
  simp only at h1
  cases e1:lstOf st1 n with
  |none=>rw[e1]at h1;exact h1.elim
  |some ws=>
   rw[e1]at h1
   obtain⟨a',vs0,g0,hS0,r0⟩:=l1.sto.lstOf e1
   rw[ha]at g0;cases g0
   refine⟨a,rfl,⟨vs0,hS0⟩,h1 μ1 _ H1 (aj _) ej.refl l1.sto fun i μ' bG H' pp xx S ck=>?_⟩
   obtain⟨a2,vs,g2,hS,r⟩:=S.lstOf (show lstOf bG n=some ws from ck)
   have:μ'[n]?=some a:=pre_get pp ha
   rw[g2]at this;cases this
   refine⟨fun w hw=>?_,fun hl=>⟨vs,hS,by rw[<- r.len];exact hl⟩⟩
   obtain⟨v,g1,g3⟩:=r.get hw
   refine⟨⟨vs,v,hS,g1⟩,fun y H'' hy=>?_⟩
   obtain⟨rfl,hy⟩:=hy
   have:=hy vs hS
   rw[g1]at this;cases this
   exact⟨ej.refl,S,g3⟩
 |_=>exact h1.elim⟩
def cx(lo:Int)(n:Nat):List W:=(List.range n).map fun(i:Nat)=>W.int (lo+i)
theorem bZ(lo:Int)(n:Nat):(cx lo n).length=n:=by simp[cx]
theorem sg{μ:List Addr}{H:Hp}{lo:Int}{n:Nat}:zl X (MT lo n) (cx lo n,none) μ H:=fun i μ' bG H' pp xx S _=>by
 refine⟨fun w hw=>?_,fun hl=>by rw[bZ]at hl;exact hl⟩
 have hi:i<n:=by
  have:=(aa.mp hw).1
  rw[bZ]at this;exact this
 refine⟨hi,fun y H'' hy=>?_⟩
 obtain⟨rfl,rfl⟩:=hy
 have e:w=.int (lo+i):=by
  unfold cx at hw
  rw[ar,h9 hi]at hw
  exact(a9 hw).symm
 subst e
 exact⟨ej.refl,S,.int⟩
def bA(fs:FA):FI:=fun ρ st=>(fs ρ st).bind fun ws st=>match ws with
 |[.int j]=>if -(2^62)<=j/\j<2^62 then .ok (cx 0 j.toNat,none) st else .bad
 |_=>.bad
def pA(fs:FA):FI:=fun ρ st=>(fs ρ st).bind fun ws st=>match ws with
 |[.int i,.int j]=>if -(2^62)<=i/\i<2^62/\-(2^62)<=j/\j<2^62 then .ok (cx i (j-i).toNat,none) st else .bad
 |_=>.bad
theorem cD(hm:X.mg "range"=none)(ha:SA X [a] fs)(hg:Gl X "range":=by rfl)(hs:starEach [a] X.env=[(false,eval a X.env)]:=by rfl):SI X tg (.Call (.Name "range" p) [a] [] pos) (bA fs):=⟨(Bz hg hm ha.h hs).imp fun σ H R h=>by
 obtain⟨μ,ρ,st,l,h⟩:=h
 refine⟨μ,ρ,st,l,RK.bind h l fun μ1 st1 x v H1 p1 x1 l1 q1 h1=>?_⟩
 split at h1
 ·obtain⟨y,rfl,ry⟩:=q1.one
  split at h1
  ·rename_i c
   exact⟨_,by rw[ry.intE],c.1,c.2,h1 μ1 _ H1 (aj _) ej.refl l1.sto sg⟩
  ·exact h1.elim
 ·exact h1.elim⟩
theorem B4(hm:X.mg "range"=none)(ha:SA X [a,b] fs)(hg:Gl X "range":=by rfl)(hs:starEach [a,b] X.env=[(false,eval a X.env),(false,eval b X.env)]:=by rfl)(wR:starEach [b] X.env=[(false,eval b X.env)]:=by rfl):SI X tg (.Call (.Name "range" p) [a,b] [] pos) (pA fs):=⟨(BA hg hm ha.h hs wR).imp fun σ H R h=>by
 obtain⟨μ,ρ,st,l,h⟩:=h
 refine⟨μ,ρ,st,l,RK.bind h l fun μ1 st1 x v H1 p1 x1 l1 q1 h1=>?_⟩
 split at h1
 ·obtain⟨y,z,rfl,ry,rz⟩:=q1.two
  split at h1
  ·rename_i c
   exact⟨_,_,by rw[ry.intE,rz.intE],c,h1 μ1 _ H1 (aj _) ej.refl l1.sto sg⟩
  ·exact h1.elim
 ·exact h1.elim⟩
end
mutual
def W.und(n:Nat):W->Bool
 |.loc m=>decide (m<n)
 |.tup ws=>undWs n ws
 |_=>true
def undWs(n:Nat):List W->Bool
 |[]=>true
 |w::ws=>w.und n&&undWs n ws
end
def ao.und(n:Nat):ao->Bool
 |.lst ws=>undWs n ws
 |.ro ws=>undWs n ws
 |.exc _=>true
 |.dct kvs=>undWs n (kvs.map fun p=>p.2)
 |.rod kvs=>undWs n (kvs.map fun p=>p.2)
 |.dcx kvs=>undWs n (kvs.map fun p=>p.2)
 |.tab _ _ _=>true
section
variable{K:Frag}{mg:Str->Option Value}{μ μ':List Addr}{H H':Hp}
mutual
theorem bh.und:∀{w:W} {v:V},bh K μ H w v->w.und μ.length=true
 |.non,_,_=>by simp[W.und]
 |.bl _,_,_=>by simp[W.und]
 |.int _,_,_=>by simp[W.und]
 |.str _,_,_=>by simp[W.und]
 |.tup _,_,r=>by obtain⟨p,vs,_,_,c⟩:=r.tupE;unfold W.und;exact RelWs.und c
 |.loc _,_,r=>by obtain⟨a,e,_⟩:=r.locE;unfold W.und;exact bv (aa.mp e).1
theorem RelWs.und:∀{ws:List W} {vs:List V},RelWs K μ H ws vs->undWs μ.length ws=true
 |[],_,_=>by unfold undWs;rfl
 |_::_,_,r=>by obtain⟨x,xs,_,b,c⟩:=r.consE;unfold undWs;rw[bh.und b,RelWs.und c];rfl
end
mutual
theorem bh.take{n:Nat}:∀{w:W} {v:V},bh K μ H w v->w.und n=true->bh K (μ.take n) H w v
 |.non,_,r,_=>by rw[r.nonE];exact .non
 |.bl _,_,r,_=>by rw[r.blE];exact .bl
 |.int _,_,r,_=>by rw[r.intE];exact .int
 |.str _,_,r,_=>by rw[r.strE];exact .str
 |.tup _,_,r,b=>by obtain⟨p,vs,rfl,h,c⟩:=r.tupE;unfold W.und at b;exact .tupI h (RelWs.takeN c b)
 |.loc _,_,r,b=>by obtain⟨a,e,rfl⟩:=r.locE;unfold W.und at b;exact .locI (by rw[eA (iL b)];exact e)
theorem RelWs.takeN{n:Nat}:∀{ws:List W} {vs:List V},RelWs K μ H ws vs->undWs n ws=true->RelWs K (μ.take n) H ws vs
 |[],_,r,_=>by rw[r.nilE];exact .nilI
 |_::_,_,r,b=>by
  obtain⟨x,xs,rfl,b1,c1⟩:=r.consE
  unfold undWs at b
  rw[aX]at b
  exact .consI (bh.take b1 b.1) (RelWs.takeN c1 b.2)
end
theorem KX.und_w(k:KX)(n:Nat):k.w.und n=true:=by
 have hi:∀ks:List Int,undWs n (ks.map W.int)=true:=fun ks=>by
  induction ks with
  |nil=>rfl
  |cons a l ih=>show(true&&undWs n (l.map W.int))=true;rw[ih];rfl
 cases k with
 |bo b=>rfl
 |fl ks=>unfold KX.w W.und;exact hi ks
 |pr i ks=>unfold KX.w W.und undWs;rw[show(W.int i).und n=true from rfl];unfold undWs;rw[show(W.tup (ks.map W.int)).und n=true by unfold W.und;exact hi ks];rfl
theorem xA:∀{kvs:List (KX×W)} {es:List DictEntry},Paired (qW K μ H) kvs es->undWs μ.length (kvs.map fun p=>p.2)=true
 |_,_,.nil=>rfl
 |_,_,.cons r t=>by
  obtain⟨_,_,v,h,_⟩:=r
  show(_&&undWs _ _)=true
  rw[h.und,xA t];rfl
theorem uL{n:Nat}:∀{kvs:List (KX×W)} {es:List DictEntry},Paired (qW K μ H) kvs es->undWs n (kvs.map fun p=>p.2)=true->Paired (qW K (μ.take n) H) kvs es
 |_,_,.nil,_=>.nil
 |_,_,.cons r t,b=>by
  obtain⟨a,⟨u,c,d⟩,v,h,g⟩:=r
  have b:(_&&undWs n _)=true:=b
  rw[aX]at b
  exact .cons ⟨a,⟨u,bh.take c (KX.und_w _ n),d⟩,v,bh.take h b.1,g⟩ (uL t b.2)
theorem ky.und{c:ao}{a:Addr}(r:ky K mg μ H c a):c.und μ.length=true:=by
 cases c with
 |lst ws=>obtain⟨vs,_,y⟩:=r;exact y.und
 |ro ws=>obtain⟨vs,_,y⟩:=r;exact y.und
 |exc c=>rfl
 |dct kvs=>obtain⟨vs,_,y⟩:=r;exact y.und
 |rod kvs=>obtain⟨vs,_,_,y⟩:=r;exact y.und
 |dcx kvs=>obtain⟨es,_,_,y,_⟩:=r;exact xA y
 |tab _ _ _=>rfl
theorem ky.take{n:Nat}{c:ao}{a:Addr}(r:ky K mg μ H c a)(b:c.und n=true):ky K mg (μ.take n) H c a:=by
 cases c with
 |lst ws=>obtain⟨vs,x,y⟩:=r;exact⟨vs,x,y.takeN b⟩
 |ro ws=>obtain⟨vs,x,y⟩:=r;exact⟨vs,x,y.takeN b⟩
 |exc c=>exact r
 |dct kvs=>obtain⟨vs,x,y⟩:=r;exact⟨vs,x,y.takeN b⟩
 |rod kvs=>obtain⟨vs,o,x,y⟩:=r;exact⟨vs,o,x,y.takeN b⟩
 |dcx kvs=>obtain⟨es,x,d,y,z⟩:=r;exact⟨es,x,d,uL y b,z⟩
 |tab _ _ _=>exact r
end
theorem eZ.ex{P:Program}{w:World}{H:Hp}{h:Heap}{a:Addr}{o:HO}(x:eZ P w H h a o):∃ob,h.get? a=some ob:=by
 cases o with
 |lst xs=>obtain⟨_,_,_,_,e⟩:=x;exact⟨_,e⟩
 |tup xs=>obtain⟨_,_,_,o,e,_⟩:=x;exact⟨_,e⟩
 |dK kvs=>obtain⟨_,_,_,_,o,_,_,e,_⟩:=x;exact⟨_,e⟩
 |dT kvs=>obtain⟨_,_,_,_,o,_,_,e,_⟩:=x;exact⟨_,e⟩
 |set S n=>obtain⟨o,_,_,_,e,_⟩:=x;exact⟨_,e⟩
 |ins C dx fs=>obtain⟨_,_,_,e,_⟩:=x;exact⟨_,e⟩
 |own y=>obtain⟨_,e⟩:=x;exact⟨_,e⟩
 |xd fs=>obtain⟨_,⟨_,_,_,e,_⟩,_⟩:=x;exact⟨_,e⟩
 |rng lo hi=>obtain⟨_,_,_,e⟩:=x;exact⟨_,e⟩
 |frz ob u=>obtain⟨e,_⟩:=x;exact⟨_,e⟩
 |tbl ps=>exact⟨_,(show h.get? a=some _ from x)⟩
 |met f y=>exact⟨_,(show h.get? a=some _ from x)⟩
 |ext φ=>obtain⟨_,⟨_,e⟩,_⟩:=x;exact⟨_,e⟩
def IJ(st bG:List ao)(ws:List W):Prop:=undWs st.length ws=true/\st.length<=bG.length/\∀(i:Nat),i<st.length->bG[i]?=st[i]?\/∃c,bG[i]?=some c/\c.und st.length=true
open Classical in
def kC(st bG:List ao)(ws:List W):List ao:=if IJ st bG ws then bG.take st.length else bG
theorem si{K:Frag}{mg:Str->Option Value}{μ μ':List Addr}{H H':Hp}{st bG:List ao}{ws:List W}{vs:List V}(S:ia K mg μ st H)(S':ia K mg μ' bG H')(p:μ <+: μ')(r:RelWs K μ' H' ws vs) :
  ∃μ2,μ <+: μ2/\ia K mg μ2 (kC st bG ws) H'/\RelWs K μ2 H' ws vs:=by
 unfold kC
 by_cases k:IJ st bG ws
 ·rw[ax k]
  obtain⟨k1,k2,k3⟩:=k
  have e:μ'.take st.length=μ:=by
   obtain⟨t,rfl⟩:=p
   rw[S.len,List.take_left]
  refine⟨μ'.take st.length,by rw[e];exact aj _,⟨fun i j a ci cj h1 h2 r1 r2 m1 m2=>?_,by rw[bp,bp,S'.len],fun i c a h1 h2=>?_⟩,r.takeN k1⟩
  ·have hi:i<st.length:=by have:=(aa.mp h1).1;rw[bp]at this;omega
   have hj:j<st.length:=by have:=(aa.mp h2).1;rw[bp]at this;omega
   rw[eA hi]at h1 m1
   rw[eA hj]at h2 m2
   exact S'.nd i j a ci cj h1 h2 r1 r2 m1 m2
  ·have hi:i<st.length:=by have:=(aa.mp h1).1;rw[bp]at this;omega
   rw[eA hi]at h1 h2
   refine(S'.at' i c a h1 h2).take ?_
   rcases k3 i hi with q|⟨c',q,b⟩
   ·rw[h1]at q
    obtain⟨a0,g0,r0⟩:=S.get q.symm
    have:=r0.und
    rw[S.len];exact this
   ·rw[h1]at q;cases q;exact b
 ·rw[aD k]
  exact⟨μ',p,S',r⟩
def fI(N:Nat)(body:FS)(ws:List W)(st:List ao):R W:=match body (ws.map some++List.replicate (N-ws.length) none) st with
 |.rt w bG=>.ok w (kC st bG [w])
 |.nx _ bG=>.ok .non (kC st bG [])
 |.ex c _ bG=>.ex c (kC st bG [])
 |_=>.bad
def kD(P:Program)(w:World):Ao:=fun outer H s E e s'=>∃x C t B H',e=.ref x/\E C none H'/\s'.os=s.os/\AllBare s'.gens/\Un (mI outer) [] H H' s.heap s'.heap/\n6 P w H' s'.heap/\H' x=none/\Heap.FlyingW B outer x C (.ref t) s'.heap /\
 ∀b o,s'.heap.get? b=some o->(H' b≠none\/((∃o0,s.heap.get? b=some o0)/\b∉mI outer))->B.get? b=some o
def ly(K:Frag)(mg:Str->Option Value)(n:Nat)(F:List W->List ao->R W):Sp:=fun vs H Q E=>vs.length=n/\∃μ ws st,ia K mg μ st H/\RelWs K μ H ws vs/\(match F ws st with
 |.ok w bG=>∀μ' v H',μ <+: μ'->ej K H H'->ia K mg μ' bG H'->bh K μ' H' w v->Q v H'
 |.ex c bG=>∀C μ' H',mg c=some C->μ <+: μ'->ej K H H'->ia K mg μ' bG H'->E C none H'
 |.bad=>False)
theorem qG.noted{X:Cx}{pins:List (Addr×Obj)}{σ:St}{c:Str}{H:Hp}{e:Value}{s:Shared}{Q:Unit->Shared->Prop}{E:Value->Shared->Prop}{M:Model}{outer:List Env}(f:qG X pins σ c H e s)(rK:X.stack=X.env::outer)(vj:X.env.frame=some X.env.locals)(hA:X.A.frames=some X.stack)
  (h:∀x C t B h',e=.ref x->X.mg c=some C->H x=none->Heap.FlyingW B X.stack x C (.ref t) h'->s.heap.UpToSlots h' ->
   (∀b o,s.heap.get? b=some o->(H b≠none\/((∃o0,X.s₀.heap.get? b=some o0)/\b∉X.fs/\b∉X.ex)\/((∃y,X.env.cells.lookup y=some b)/\b∉mI X.stack)\/∃p∈X.pn++pins,p.1=b)->B.get? b=some o)->Q () { s with heap:=h' }) :
  wpAny M X.A (leaving X.env e) Q E s:=by
 obtain⟨x,C,t,B,rfl,hC,hx,st,nx,ff,tr,cov⟩:=f.ex
 rw[rK]at ff hA
 rcases tr with tr|⟨oe,vs,he,rfl,_,hd,h1,h0⟩|⟨L,hL,tr⟩
 ·refine wpAny_leaving_nextW hA ff vj tr st nx fun h' hL=>?_
  obtain⟨k1,k2,k3,k4⟩:=hL
  exact h x C t B h' rfl hC hx ⟨k1,nx,by rw[rK];exact k2,k3⟩ k4 cov
 ·refine wpAny_leaving_firstW hA ff vj he st nx hd h1 h0 fun h' hL=>?_
  obtain⟨k1,k2,k3,k4⟩:=hL
  exact h x _ t B h' rfl hC hx ⟨k1,nx,by rw[rK];exact k2,k3⟩ k4 cov
 ·unfold leaving
  refine ah (mG hL tr (wpAny_landsW ⟨st,nx,ff,tr⟩ fun h' fl up=>?_))
  exact h x C t B h' rfl hC hx (by rw[rK];exact fl) up cov
theorem qG.leaves{X:Cx}{pins:List (Addr×Obj)}{σ:St}{c:Str}{H:Hp}{e:Value}{s:Shared}{E:XK}{E':Value->Shared->Prop}{M:Model}(f:qG X pins σ c H e s)(rK:X.stack=X.env::X.outer)(vj:X.env.frame=some X.env.locals)(hA:X.A.frames=some X.stack)(QU:X.ex=[])
  (hE:∀C,X.mg c=some C->E C none H):wpAny M X.A (leaving X.env e) (fun _ s''=>kD X.prog X.w X.outer X.H₀ X.s₀ E e s'') E' s:=by
 refine f.noted rK vj hA fun x C t B h' he hC hx fl up cov=>?_
 have I:=f.inv
 have un:=I.base
 rw[QU]at un
 have fsE:X.fs=mI X.outer:=rfl
 obtain⟨f1,f2,f3,f4⟩:=fl
 rw[rK]at f3
 obtain⟨_,_,f3'⟩:=f3
 have frames:∀b∈mI X.outer,∀o,s.heap.get? b=some o->∃sl,h'.get? b=some { o with slots:=sl }:=fun b hb o ho=>by
  obtain⟨_,o',ho',hd⟩:=I.funs.mem hb
  rw[ho]at ho';cases ho'
  exact up b o ho hd
 have kept:∀b o,s.heap.get? b=some o->(∃o0,X.s₀.heap.get? b=some o0)->b∉mI X.outer->h'.get? b=some o:=fun b o ho h0 hb=>f1 b o (cov b o ho (.inr (.inl ⟨h0,hb,by rw[QU];simp⟩)))
 have keptH:∀b o,s.heap.get? b=some o->H b≠none->h'.get? b=some o:=fun b o ho h0=>f1 b o (cov b o ho (.inl h0))
 refine⟨x,C,t,B,H,he,hE C hC,I.os,I.bare,⟨fun b o q n hb hx=>?_,fun b o q n hb hx=>?_,fun b o q n hx=>un.free b o q n hx,fun b o q hx=>?_,un.tups,un.frzs,un.tbls⟩,fun b u hb=>?_,hx,⟨f1,f2,f3',f4⟩,fun b o ho hr=>?_⟩
 ·exact kept b o (un.keep b o q n hb hx) ⟨o,q⟩ hb
 ·obtain⟨sl,q1⟩:=un.slot b o q n hb hx
  obtain⟨Ir,q2⟩:=frames b hb _ q1
  exact⟨Ir,q2⟩
 ·obtain⟨o',q1⟩:=un.there b o q hx
  by_cases hb:b∈mI X.outer
  ·obtain⟨Ir,q2⟩:=frames b hb _ q1;exact⟨_,q2⟩
  ·exact⟨o',kept b o' q1 ⟨o,q⟩ hb⟩
 ·refine(I.hok b u hb).stay (fun c v hc q=>?_) (fun _ q=>q) fun _ _ q=>q
  refine keptH c v q ?_
  rcases hc with rfl|hc
  ·rw[hb];simp
  ·rw[hc];simp
 ·rcases hr with hr|⟨⟨o0,h0⟩,hb⟩
  ·cases hu:H b with
   |none=>exact absurd hu hr
   |some u=>
    have lt:=I.hok.lt hu
    obtain⟨ob,Ip⟩:∃ob,s.heap.get? b=some ob:=by
     exact(I.hok b u hu).ex
    have:=keptH b ob Ip hr
    rw[ho]at this;cases this
    exact cov b o Ip (.inl hr)
  ·obtain⟨o',q1⟩:=un.there b o0 h0 (by simp)
   have:=kept b o' q1 ⟨o0,h0⟩ hb
   rw[ho]at this;cases this
   exact cov b o q1 (.inr (.inl ⟨⟨o0,h0⟩,hb,by rw[QU];simp⟩))
structure cE(P:Program)(w:World)(K:Frag)(mg:Str->Option Value)(base:Heap)(k:Nat)(x:Str)(n:Nat)(F:List W->List ao->R W):Prop where
 ex:∃(f:Addr) (fd:FuncData) (ps:List Str),mg x=some (.ref f)/\keepIn K (.ref f)=true/\ps.length=n/\rL K fd ps []/\eV P w K mg base (kD P w) k f fd ps (ly K mg n F)
theorem cE.mono{P:Program}{w:World}{K:Frag}{mg:Str->Option Value}{base:Heap}{j k:Nat}{x:Str}{n:Nat}{F:List W->List ao->R W}(h:cE P w K mg base j x n F)(hj:j<=k):cE P w K mg base k x n F:=by
 obtain⟨f,fd,ps,a,b,c,d,e⟩:=h.ex
 exact⟨f,fd,ps,a,b,c,d,e.mono hj⟩
def c8(n:Nat)(F:List W->List ao->R W)(fs:FA):FE:=fun ρ st=>(fs ρ st).bind fun ws st=>if ws.length=n then F ws st else .bad
section
variable{X:Cx}
theorem NO{k n:Nat}{f:Addr}{fd:FuncData}{ps:List Str}{F:List W->List ao->R W}{pins:List (Addr×Obj)}{σ:St}{H:Hp}{s:Shared}{Q:VK}{us:List Value}{vs:List V}{μ:List Addr}{st:List ao}{ws:List W}
  (Fn:eV X.prog X.w X.K X.mg X.base (kD X.prog X.w) k f fd ps (ly X.K X.mg n F)) (hn:ps.length=n) (hr:gD k X.A) (hb:rL X.K fd ps []) (I:bi X pins σ H s) (S:ia X.K X.mg μ st H) (r:RelWs X.K μ H ws vs) (rv:b9 vs us) (hl:ws.length=n)
  (h:RK X (t8 X) μ σ H Q (F ws st)):wpAny (model X.prog X.w) X.A (call (.ref f) us) (EP X pins σ Q) X.xe s:=by
 have hl':(us++([]:List Value)).length=ps.length:=by rw[dy,<- rv.length,<- r.len,hl,hn]
 cases e:F ws st with
 |bad=>rw[e]at h;exact h.elim
 |ok w bG=>
  rw[e]at h
  refine wpAny_call (my (Fn.run X.A X.stack s H ⟨us,[]⟩ us vs Q (fun _ _ _=>False) hr I.env0 (by have:=hb s us I.kIn hl';rwa[dy]at this) rv ⟨by rw[<- r.len];exact hl,μ,ws,st,S,r,by rw[e];exact h⟩) fun r s' hq=>?_)
  cases r with
  |error e=>obtain⟨_,_,_,_,_,_,z,_⟩:=hq;exact z.elim
  |ok fl=>
   cases fl with
   |ret u=>exact I.after hq
   |next=>exact False.elim hq
   |brk=>exact False.elim hq
   |cont=>exact False.elim hq
 |ex c bG=>
  rw[e]at h
  refine wpAny_call (my (Fn.run X.A X.stack s H ⟨us,[]⟩ us vs (fun _ _=>False) (fun C _ H'=>X.mg c=some C/\∃μ',μ <+: μ'/\ej X.K H H'/\ia X.K X.mg μ' bG H') hr I.env0 (by have:=hb s us I.kIn hl';rwa[dy]at this) rv
   ⟨by rw[<- r.len];exact hl,μ,ws,st,S,r,by rw[e];exact fun C μ' H' hC p x S'=>⟨hC,μ',p,x,S'⟩⟩) fun r s' hq=>?_)
  cases r with
  |ok fl=>
   cases fl with
   |ret u=>obtain⟨_,_,_,_,_,_,_,z⟩:=hq;exact z.elim
   |next=>exact False.elim hq
   |brk=>exact False.elim hq
   |cont=>exact False.elim hq
  |error ev=>
   obtain⟨x,C,t,B,H',rfl,⟨hC,μ',p,xx,S'⟩,os,bare,un,hok,hx,fl,cov⟩:=hq
   have I':bi X pins σ H' s':=I.call' os un hok bare fun b hb=>absurd hb (by simp)
   refine h pins μ' H' (.ref x) s' p xx S' ⟨I',x,C,t,B,rfl,hC,hx,fl.1,fl.2.1,fl.2.2.1,.inl fl.2.2.2,fun b o ho hrel=>?_⟩
   refine cov b o ho ?_
   rcases hrel with q|⟨⟨o0,h0⟩,hb,hbx⟩|⟨⟨y,hy⟩,hb⟩|⟨pp,hp,rfl⟩
   ·exact .inl q
   ·refine .inr ⟨?_,fun z=>?_⟩
    ·obtain⟨o',q1⟩:=I.base.there b o0 h0 hbx
     exact⟨o',q1⟩
    ·rcases a7.mp (I.stkSub b z)with z|z
     ·rw[z]at h0
      exact absurd (a6 (aF h0) I.ok.above) (bx _)
     ·exact hb z
   ·obtain⟨v,ov,hov,_⟩:=I.cell y b hy
    exact .inr ⟨⟨_,hov⟩,hb⟩
   ·obtain⟨g1,g2,g3,g4,_⟩:=I.pin pp hp
    refine .inr ⟨⟨_,g1⟩,fun z=>?_⟩
    rcases a7.mp (I.stkSub _ z)with z|z
    ·exact g3 z
    ·exact g4 z
variable{e:Expr}{es:List Expr}{pos p:Pos}{x:Str}{fs:FA}
theorem cz{k k' n:Nat}{F:List W->List ao->R W}(Fn:cE X.prog X.w X.K X.mg X.base k x n F)(hr:gD k' X.A)(hk:k<=k')(ha:SA X (e::es) fs)(hg:Gl X x:=by rfl)(Gh:(x==("__debug__":Str))=false:=by decide)
  (he:starEach (e::es) X.env=(false,eval e X.env)::starEach es X.env:=by rfl) (qR:(backTo pos (starEach es X.env)).any (·.1)=false:=by rfl):SE X (.Call (.Name x p) (e::es) [] pos) (c8 n F fs):=⟨by
 intro pins s σ H Q I h
 obtain⟨f,fd,ps,hm,hkp,hn,hb,Fo⟩:=(Fn.mono hk).ex
 refine im (Gw I hg hm ?_ Gh)
 obtain⟨μ,ρ,st,l,h⟩:=h
 have h':Qs X fs σ H fun vs H1=>∃μ1 st1 ws,Rl X μ1 ρ st1 σ H1/\RelWs X.K μ1 H1 ws vs/\RK X (t8 X) μ1 σ H1 Q (if ws.length=n then F ws st1 else .bad):=
  ⟨μ,ρ,st,l,RK.bind h l fun μ1 st1 x v H1 p1 x1 l1 q1 h1=>⟨μ1,st1,x,l1,q1,h1⟩⟩
 refine PySem.W.callWith_K (h₀:=X.base) I.ok.mod.kin hkp (gq (ha.h pos pins s σ H _ I h') fun us s1 ⟨vs,H1,I1,r,μ1,st1,ws,l1,r1,q⟩=>⟨I1.kIn,?_⟩) he qR
 by_cases c:ws.length=n
 ·rw[ax c]at q
  exact NO Fo hn hr hb I1 l1.sto r1 r c q
 ·rw[aD c]at q;exact q.elim⟩
end
theorem AK{P:Program}{w:World}{K:Frag}{mg:Str->Option Value}{base:Heap}{x qual:Str}{st:Stmt}{f:Addr}{fd:FuncData}{N ps:List Str}{k n:Nat}{g:FS}(F:kS K x qual st f fd)(S:bO N ps (bc st))(hn:ps.length=n)
  (tM:∀(gJ:Value) (A:Around) (outer:List Env) (s:Shared) (H:Hp) (E:XK),fd.code=gJ->gD k (A.deeper (envOfC qual (bc st) s.heap.objs.size f gJ)) ->
   SB (xa (kD P w) P w K mg base N qual (bc st) f gJ A outer s H E) (gQ st) g):eV P w K mg base (kD P w) (k+1) f fd ps (ly K mg n (fI N.length g)):=by
 obtain⟨oc,od,kV,re,pm,an,gJ,ct,Io,rfl,lk,nZ⟩:=F.ex
 refine Iz lk nZ S (fun vs H Q E h=>by rw[hn];exact h.1) fun A outer s H vs Q E hr JG=>?_
 obtain⟨hl,μ,ws,F1,Sr,r,h⟩:=JG
 refine⟨_,(tM gJ A outer s H E rfl hr).h,μ,ws.map some++List.replicate (N.length-ws.length) none,F1,⟨?_,Sr⟩,?_⟩
 ·unfold oZ
  rw[<- r.len]
  have base:∀(ws:List W) (vs:List V) (m:Nat),RelWs K μ H ws vs->Paired (fun(o:Option W) (s:Option V)=>∀w,o=some w->∃v,s=some v/\bh K μ H w v) (ws.map some++List.replicate m none) (vs.map some++List.replicate m none):=by
   intro ws
   induction ws with
   |nil=>
    intro vs m r
    rw[r.nilE]
    induction m with
    |zero=>exact .nil
    |succ m ih=>exact .cons (fun w z=>nomatch z) ih
   |cons w ws ih=>
    intro vs m r
    obtain⟨y,ys,rfl,ry,rys⟩:=r.consE
    exact .cons (fun w' z=>⟨y,rfl,by cases z;exact ry⟩) (ih ys m rys)
  exact base ws vs _ r
 ·unfold fI at h
  cases e:g (ws.map some++List.replicate (N.length-ws.length) none) F1 with
  |rt w bG=>
   rw[e]at h
   intro μ' v H' p x S' kJ
   obtain⟨μ2,p2,S2,r2⟩:=si Sr S' p (.consI kJ .nilI)
   obtain⟨_,e2,r3⟩:=r2.one
   cases e2
   exact h μ2 v H' p2 x S2 r3
  |nx ρ' bG=>
   rw[e]at h
   intro μ' σ' H' p x l'
   obtain⟨μ2,p2,S2,_⟩:=si (ws:=[]) (vs:=[]) Sr l'.sto p .nilI
   exact h μ2 .non H' p2 x S2 .non
  |ex c ρ' bG=>
   rw[e]at h
   intro pins μ' σ' H' ev s' p x l' fl
   obtain⟨μ2,p2,S2,_⟩:=si (ws:=[]) (vs:=[]) Sr l'.sto p .nilI
   exact fl.leaves rfl rfl fl.inv.ok.frames rfl fun C hC=>h C μ2 H' hC p2 x S2
  |bk ρ' bG=>rw[e]at h;exact h.elim
  |ct ρ' bG=>rw[e]at h;exact h.elim
  |bad=>rw[e]at h;exact h.elim
theorem dA{P:Program}{w:World}{K:Frag}{mg:Str->Option Value}{base:Heap}{x qual:Str}{st:Stmt}{f:Addr}{fd:FuncData}{N ps:List Str}{k n:Nat}{g:FS}(F:kS K x qual st f fd)(S:bO N ps (bc st))(hn:ps.length=n)
  (tM:∀(gJ:Value) (A:Around) (outer:List Env) (s:Shared) (H:Hp) (E:XK),gD k (A.deeper (envOfC qual (bc st) s.heap.objs.size f gJ)) ->
   SB (xa (kD P w) P w K mg base N qual (bc st) f gJ A outer s H E) (gQ st) g):eV P w K mg base (kD P w) (k+1) f fd ps (ly K mg n (fI N.length g)):=AK F S hn fun gJ A outer s H E _ hr=>tM gJ A outer s H E hr
theorem vI{P:Program}{w:World}{K:Frag}{mg:Str->Option Value}{base:Heap}{k n:Nat}{x:Str}{st:Stmt}{f:Addr}{fd:FuncData}{ps:List Str}{G:List W->List ao->R W}
  (F:kS K x x st f fd) (hm:mg x=some (.ref f)) (hn:ps.length=n)
  (hb:∀(kV re pm:Value) (an:Option Addr) (gJ ct:Value) (us:List Value),us.length=ps.length->bindArgs (fnOf x x (iA st) (gQ st) (bc st) .none kV re pm an gJ ct) ⟨us,[]⟩=pure (ps.zip us))
  (ok:eV P w K mg base (kD P w) k f fd ps (ly K mg n G)):cE P w K mg base k x n G:=⟨f,fd,ps,hm,F.kp,hn,F.binds hb,ok⟩
theorem RelWs.split{K:Frag}{μ:List Addr}{H:Hp}:∀{as bs:List W} {vs:List V},RelWs K μ H (as++bs) vs->∃xs ys,vs=xs++ys/\RelWs K μ H as xs/\RelWs K μ H bs ys
 |[],_,vs,r=>⟨[],vs,rfl,.nilI,r⟩
 |w::as,bs,vs,r=>by
  obtain⟨x,xs,rfl,rx,rs⟩:=r.consE
  obtain⟨ys,zs,rfl,r1,r2⟩:=RelWs.split rs
  exact⟨x::ys,zs,rfl,.consI rx r1,r2⟩
section
variable{X:Cx}{a b c e o tg:Expr}{es:List Expr}{pos p p2 fT du:Pos}{x name:Str}{fa fb fe fo:FE}{fs:FA}{id:String}
structure KP(X:Cx)(id:String)(F:W->List W->List ao->R W):Prop where
 h:At X id (fun x vs H Q=>∃μ st wx ws,ia X.K X.mg μ st H/\bh X.K μ H wx x/\RelWs X.K μ H ws vs/\CP X μ H Q (F wx ws st))
 n:∀x ws st,qe (F x ws st)
def sj(st:List ao):W->Bool
 |.loc n=>(match st[n]? with|some (.lst _)=>true|_=>false)
 |_=>false
def DO:W->Bool
 |.str _=>true
 |_=>false
theorem DP{μ:List Addr}{st:List ao}{H:Hp}{w:W}{v:V}(S:ia X.K X.mg μ st H)(r:bh X.K μ H w v)(h:sj st w=true):∃l ys,v=.ref l/\H l=some (.lst ys):=by
 cases w with
 |loc n=>
  obtain⟨a,ha,rfl⟩:=r.locE
  simp only[sj]at h
  cases e1:st[n]? with
  |none=>rw[e1]at h;cases h
  |some cc=>
   rw[e1]at h
   cases cc with
   |lst ws=>obtain⟨a1,g1,vs,k1,_⟩:=S.get e1;rw[ha]at g1;cases g1;exact⟨_,vs,rfl,k1⟩
   |_=>cases h
 |_=>cases h
def qI(F:W->List W->List ao->R W)(fo:FE)(fs:FA):FE:=fun ρ st=>(fo ρ st).bind fun x st=>if sj st x then(fs ρ st).bind fun ws st=>F x ws st else .bad
def NP(F:W->List W->List ao->R W)(fo:FE)(fs:FA):FE:=fun ρ st=>(fo ρ st).bind fun x st=>if DO x then(fs ρ st).bind fun ws st=>F x ws st else .bad
theorem ny{F:W->List W->List ao->R W}(slot:Slot "list" name id)(CI:typeOf (.builtin id)=pure (.type "method_descriptor"))(hm:KP X id F)(ho:SE X o fo)(ha:SA X (e::es) fs)
  (pW:attributeBase o name X.env (eval o X.env)=eval o X.env:=by rfl)
  (wN:((backTo du (starEach (e::es) X.env)).all (fun x=>!x.1)&&(backToKw du (keywordEach [] X.env)).all (fun x=>x.1.isSome)
   && decide ((e::es).length+([]:List Keyword).length+(if ([]:List Keyword).isEmpty then 0 else 1)<30))=true:=by rfl)
  (pV:(fT.endLine==du.line)=true:=by rfl) (hs:starEach (e::es) X.env=(false,eval e X.env)::starEach es X.env:=by rfl) (mh:(backTo du (starEach es X.env)).any (·.1)=false:=by rfl) :
  SE X (.Call (.Attribute o name fT) (e::es) [] du) (qI F fo fs):=⟨(Np slot CI hm.h ho.h ha.h pW wN pV hs mh).imp fun σ H Q h=>by
 obtain⟨μ,ρ,st,l,h⟩:=h
 refine⟨μ,ρ,st,l,RK.bind h l fun μ1 st1 x v H1 p1 x1 l1 q1 h1=>?_⟩
 by_cases c:sj st1 x=true
 ·rw[ax c]at h1
  refine⟨DP l1.sto q1 c,μ1,ρ,st1,l1,RK.bind h1 l1 fun μ2 cQ ws vs H2 p2 x2 l2 q2 h2=>?_⟩
  exact⟨μ2,cQ,x,ws,l2.sto,q1.mono p2 x2,q2,rZ h2 (hm.n _ _ _)⟩
 ·rw[aD c]at h1;exact h1.elim⟩
theorem QB{F:W->List W->List ao->R W}(slot:Slot "str" name id)(CI:typeOf (.builtin id)=pure (.type "method_descriptor"))(hm:KP X id F)(ho:SE X o fo)(ha:SA X (e::es) fs)
  (pW:attributeBase o name X.env (eval o X.env)=eval o X.env:=by rfl)
  (wN:((backTo du (starEach (e::es) X.env)).all (fun x=>!x.1)&&(backToKw du (keywordEach [] X.env)).all (fun x=>x.1.isSome)
   && decide ((e::es).length+([]:List Keyword).length+(if ([]:List Keyword).isEmpty then 0 else 1)<30))=true:=by rfl)
  (pV:(fT.endLine==du.line)=true:=by rfl) (hs:starEach (e::es) X.env=(false,eval e X.env)::starEach es X.env:=by rfl) (mh:(backTo du (starEach es X.env)).any (·.1)=false:=by rfl) :
  SE X (.Call (.Attribute o name fT) (e::es) [] du) (NP F fo fs):=⟨(Nq slot CI hm.h ho.h ha.h pW wN pV hs mh).imp fun σ H Q h=>by
 obtain⟨μ,ρ,st,l,h⟩:=h
 refine⟨μ,ρ,st,l,RK.bind h l fun μ1 st1 x v H1 p1 x1 l1 q1 h1=>?_⟩
 cases x with
 |str z=>
  rw[ax (show DO (W.str z)=true from rfl)]at h1
  refine⟨⟨z,q1.strE⟩,μ1,ρ,st1,l1,RK.bind h1 l1 fun μ2 cQ ws vs H2 p2 x2 l2 q2 h2=>?_⟩
  exact⟨μ2,cQ,_,ws,l2.sto,q1.mono p2 x2,q2,rZ h2 (hm.n _ _ _)⟩
 |_=>exact h1.elim⟩
def dH(x:W)(ws:List W)(st:List ao):R W:=match x,ws with
 |.loc n,[y]=>(match st[n]? with
  |some (.lst zs)=>if zs.length<jE then .ok .non (st.set n (.lst (zs++[y])))else .bad
  |_=>.bad)
 |_,_=>.bad
theorem fL:KP X "list.append" dH:=⟨fun pins s σ H x vs v us Q I rv rus ⟨μ,st,wx,ws,S,rx,rs,q⟩=>by
 unfold dH at q
 split at q
 ·rename_i n y
  obtain⟨y1,rfl,ry⟩:=rs.one
  split at q
  ·rename_i zs e1
   split at q
   ·rename_i c
    obtain⟨a1,g1,vs,k1,r⟩:=S.get e1
    obtain⟨b1,f1,rfl⟩:=rx.locE
    rw[g1]at f1;cases f1
    refine y7 pins s σ H _ _ v us Q I rv rus ⟨a1,vs,y1,rfl,rfl,k1,by rw[<- r.len];exact KB (eX c),fun H2 e=>?_⟩
    subst e
    exact q μ _ _ (aj _) (fF.but gv k1) (S.set e1 g1 k1 (r.app (.consI ry .nilI))) .non
   ·exact q.elim
  ·exact q.elim
 ·exact q.elim,fun x ws st=>by
 unfold dH
 repeat' split
 all_goals trivial⟩
def pB(x:W)(ws:List W)(st:List ao):R W:=match x,ws with
 |.loc n,[.loc m]=>(match st[n]?,st[m]? with
  |some (.lst zs),some (.lst ys)=>if zs.length+ys.length<=jE then .ok .non (st.set n (.lst (zs++ys)))else .bad
  |_,_=>.bad)
 |_,_=>.bad
theorem uM:KP X "list.extend" pB:=⟨fun pins s σ H x vs v us Q I rv rus ⟨μ,st,wx,ws,S,rx,rs,q⟩=>by
 unfold pB at q
 split at q
 ·rename_i n m
  obtain⟨y1,rfl,ry⟩:=rs.one
  split at q
  ·rename_i zs ys e1 e2
   split at q
   ·rename_i c
    obtain⟨a1,g1,vs1,k1,r1⟩:=S.get e1
    obtain⟨a2,g2,vs2,k2,r2⟩:=S.get e2
    obtain⟨b1,f1,rfl⟩:=rx.locE
    obtain⟨b2,f2,rfl⟩:=ry.locE
    rw[g1]at f1;cases f1
    rw[g2]at f2;cases f2
    refine BI pins s σ H _ _ v us Q I rv rus ⟨a1,a2,vs1,vs2,rfl,rfl,k1,k2,by rw[<- r1.len,<- r2.len];exact iV c,?_⟩
    exact q μ _ _ (aj _) (fF.but gv k1) (S.set e1 g1 k1 (r1.app r2)) .non
   ·exact q.elim
  ·exact q.elim
 ·exact q.elim,fun x ws st=>by
 unfold pB
 repeat' split
 all_goals trivial⟩
def mO:List W->Option (List (List Nat))
 |[]=>some []
 |.str l::ws=>(mO ws).map (l :: ·)
 |_=>none
theorem sk{K:Frag}{μ:List Addr}{H:Hp}:∀{ws:List W} {ls:List (List Nat)} {vs:List V},mO ws=some ls->RelWs K μ H ws vs->vs=ls.map fun l=>V.str (tx l)
 |[],ls,vs,h,r=>by simp only[mO]at h;cases h;exact r.nilE
 |w::ws,ls,vs,h,r=>by
  obtain⟨x,xs,rfl,rx,rs⟩:=r.consE
  cases w with
  |str l=>
   simp only[mO]at h
   cases e:mO ws with
   |none=>rw[e]at h;cases h
   |some ls'=>rw[e]at h;cases h;rw[rx.strE,sk e rs];rfl
  |_=>simp only[mO]at h;cases h
theorem uN(ls:List (List Nat)):mO (ls.map W.str)=some ls:=by
 induction ls with
 |nil=>rfl
 |cons a r ih=>show(mO (r.map W.str)).map (a :: ·)=_;rw[ih];rfl
def su(x:W)(ws:List W)(st:List ao):R W:=match x,ws with
 |.str sep,[.loc n]=>pq (lstOf st n) fun zs=>pq (mO zs) fun ls=>if (ls.map List.length).sum+ls.length*sep.length<=jE then .ok (.str (om sep ls)) st else .bad
 |_,_=>.bad
theorem He:KP X "str.join" su:=⟨fun pins s σ H x vs v us Q I rv rus ⟨μ,st,wx,ws,S,rx,rs,q⟩=>by
 unfold su at q
 split at q
 ·rename_i sep n
  obtain⟨y1,rfl,ry⟩:=rs.one
  cases e1:lstOf st n with
  |none=>rw[e1]at q;exact q.elim
  |some zs=>
   rw[e1,cJ]at q
   cases e2:mO zs with
   |none=>rw[e2]at q;exact q.elim
   |some ls=>
    rw[e2,cJ]at q
    split at q
    ·rename_i c
     obtain⟨a,vs,g,hS,r⟩:=S.lstOf e1
     obtain⟨b1,f1,rfl⟩:=ry.locE
     rw[g]at f1;cases f1
     have:=sk e2 r
     subst this
     exact G4 pins s σ H _ _ v us Q I rv rus ⟨sep,_,ls,rx.strE,rfl,hS,aV c (by decide),ph S q⟩
    ·exact q.elim
 ·exact q.elim,fun x ws st=>by
 unfold su
 split
 ·exact oo fun _=>oo fun _=>by split<;>trivial
 ·trivial⟩
end
def pD(cap:List (Option Nat))(ρ:bS):bS:=cap.map fun o=>o.bind fun j=>(ρ[j]?).join
theorem NQ{X:Cx}{μ:List Addr}{H:Hp}{ρ:bS}{σ:St}(r:Paired (fun(o:Option W) (s:Option V)=>∀w,o=some w->∃v,s=some v/\bh X.K μ H w v) ρ σ):∀cap:List (Option Nat),
  Paired (fun(o:Option W) (s:Option V)=>∀w,o=some w->∃v,s=some v/\bh X.K μ H w v) (pD cap ρ) (lr cap σ)
 |[]=>.nil
 |o::cap=>by
  refine .cons (fun w e=>?_) (NQ r cap)
  cases o with
  |none=>cases e
  |some j=>
   have e':(ρ[j]?).join=some w:=e
   have e2:ρ[j]?=some (some w):=by
    cases h:ρ[j]? with
    |none=>rw[h]at e';cases e'
    |some ow=>rw[h]at e';simp at e';rw[e']
   obtain⟨v,g1,g2⟩:=pe r e2
   exact⟨v,by show(σ[j]?).join=some v;rw[g1];rfl,g2⟩
open Classical in
def mP(f:FG)(t:FT)(el:FE)(ck:Option (Nat×List W))(ρ0:bS):List W->List W->List ao->R (List W)
 |[],acc,st=>if iB st ck then .ok acc st else .bad
 |w::ws,acc,st=>if iB st ck then(match f w ρ0 with
  |none=>.bad
  |some ρ'=>(match t ρ' st with
   |.ok true st1=>(match el ρ' st1 with
    |.ok y cQ=>mP f t el ck ρ0 ws (acc++[y]) cQ
    |_=>.bad)
   |.ok false st1=>mP f t el ck ρ0 ws acc st1
   |_=>.bad))else .bad
def dD(cap:List (Option Nat))(fi:FI)(f:FG)(t:FT)(el:FE):FE:=fun ρ st=>(fi ρ st).bind fun k st=>if k.1.length<=jE then(mP f t el k.2 (pD cap ρ) k.1 [] st).bind fun ys st=>mL ys st else .bad
def Px{α β:Type}(X:Cx)(jl:List Addr->Hp->α->β->Prop)(f:bS->List ao->R α)(σ:St)(H:Hp)(Q:β->Hp->Prop):Prop:=
 ∃μ ρ st a bG,Rl X μ ρ st σ H/\f ρ st=.ok a bG/\∀μ' b H',μ <+: μ'->ej X.K H H'->ia X.K X.mg μ' bG H'->jl μ' H' a b->Q b H'
def ij:FT:=fun _ st=>.ok true st
structure My(X:Cx)(es:List Expr)(f:FT):Prop where
 h:GY X es (tT X f)
theorem GY.imp{X:Cx}{e:List Expr}{t t':TT}(h:GY X e t)(i:∀σ H Q,t' σ H Q->t σ H Q):GY X e t':=fun pins s σ H Q I q=>h pins s σ H Q I (i _ _ _ q)
theorem fG{X:Cx}:My X [] ij:=⟨GZ.imp fun σ H Q h=>by
 obtain⟨μ,ρ,st,l,h⟩:=h
 exact h μ true H (aj _) ej.refl l.sto rfl⟩
theorem vJ{X:Cx}{c:Expr}{t:FT}(hc:ST X c t):My X [c] t:=⟨G0 hc.h⟩
theorem zm{X:Cx}{cap:List (Option Nat)}{fi:FI}{f:FG}{t:FT}{el:FE}{σ:St}{H:Hp}{Q:VK}(h:tE X (dD cap fi f t el) σ H Q) :
  uE cap (fun σ H R=>tG X (NN X) fi σ H R) (NL X f) (Px X KD t) (Px X (t8 X) el) σ H Q:=by
 obtain⟨μ,ρ,st,l,h⟩:=h
 refine⟨μ,ρ,st,l,RK.bind h l fun μ1 st1 k J H1 p1 x1 l1 wk h1=>?_⟩
 by_cases hz:k.1.length<=jE
 ·rw[ax hz]at h1
  refine⟨fun i m ys H'=>i<=k.1.length/\m=k.1.length-i/\ys.length<=i/\∃μ' acc bG,μ1 <+: μ'/\ej X.K H1 H'/\Rl X μ' ρ bG σ H'/\RelWs X.K μ' H' acc ys/\RK X (t8 X) μ' σ H' Q ((mP f t el k.2 (pD cap ρ) (k.1.drop i) acc bG).bind fun ys st=>mL ys st),
   ⟨_,df _,rfl,aB _,μ1,[],st1,aj _,ej.refl,l1,.nilI,h1⟩,?_⟩
  rintro i m ys H' ⟨hi,rfl,hy,μ',acc,bG,pm,xm,lm,ra,hm⟩
  by_cases hlt:i<k.1.length
  ·rw[d7 hlt]at hm
   unfold mP at hm
   by_cases ck:iB bG k.2
   ·rw[ax ck]at hm
    obtain⟨go,yld⟩:=(wk i μ' bG H' pm xm lm.sto ck).1 _ (ae hlt)
    refine .inr ⟨go,fun x H2 hy2=>?_⟩
    obtain⟨y1,y2,y3⟩:=yld x H2 hy2
    cases hf:f k.1[i] (pD cap ρ)with
    |none=>rw[hf]at hm;exact hm.elim
    |some ρ2=>
     rw[hf]at hm
     simp only at hm
     have lb:Rl X μ' (pD cap ρ) bG (lr cap σ) H2:=⟨NQ (lm.to (aj _) y1 y2).env cap,y2⟩
     refine⟨μ',pD cap ρ,bG,k.1[i],ρ2,lb,y3,hf,fun σ2 l2=>?_⟩
     cases ht:t ρ2 bG with
     |bad=>rw[ht]at hm;exact hm.elim
     |ex c s=>rw[ht]at hm;exact hm.elim
     |ok kk cQ=>
      rw[ht]at hm
      refine⟨μ',ρ2,bG,kk,cQ,l2,ht,fun μ3 b3 H3 p3 x3 S3 q3=>?_⟩
      cases q3
      cases kk with
      |false=>
       exact⟨_,by omega,hlt,rfl,by omega,μ3,acc,cQ,pm.trans p3,xm.trans (y1.trans x3),lm.to p3 (y1.trans x3) S3,ra.mono p3 (y1.trans x3),RK.mono hm p3 (y1.trans x3)⟩
      |true=>
       rw[ax rfl]
       simp only at hm
       cases he:el ρ2 cQ with
       |bad=>rw[he]at hm;exact hm.elim
       |ex c s=>rw[he]at hm;exact hm.elim
       |ok w jH=>
        rw[he]at hm
        refine⟨μ3,ρ2,cQ,w,jH,l2.to p3 x3 S3,he,fun μ4 b4 H4 p4 x4 S4 q4=>?_⟩
        have pp:=p3.trans p4
        have xx:=y1.trans (x3.trans x4)
        exact⟨j_ hy (a6 hlt (iV hz)),_,by omega,hlt,rfl,by simp;omega,μ4,acc++[w],jH,pm.trans pp,xm.trans xx,lm.to pp xx S4,(ra.mono pp xx).app (.consI q4 .nilI),RK.mono hm pp xx⟩
   ·rw[aD ck]at hm;exact hm.elim
  ·have hi':i=k.1.length:=by omega
   subst hi'
   rw[mF (aB _)]at hm
   unfold mP at hm
   by_cases ck:iB bG k.2
   ·rw[ax ck]at hm
    obtain⟨z1,z2⟩:=r6 lm.sto ra hm
    exact .inl ⟨(wk _ μ' bG H' pm xm lm.sto ck).2 (aB _),z1,fun p hp=>z2 p _ hp rfl⟩
   ·rw[aD ck]at hm;exact hm.elim
 ·rw[aD hz]at h1;exact h1.elim
section
variable{X:Cx}{oh tg iter:Expr}{nh:List Expr}{scope:Scope}{pos:Pos}{nm:List Str}{cap:List (Option Nat)}{fi:FI}{f:FG}{t:FT}{el:FE}{m:Nat}
theorem QC{X X':Cx}{e:Expr}{f:FE}(hK:X'.K=X.K)(hm:X'.mg=X.mg)(h:SE X' e f):QE X' e (Px X (t8 X) f):=⟨h.h.imp fun σ H Q ⟨μ,ρ,st,a,bG,l,e,q⟩=>⟨μ,ρ,st,⟨by rw[hK];exact l.env,by rw[hK,hm];exact l.sto⟩,by rw[e];exact fun μ' b H' p x S r=>q μ' b H' p (by rw[<- hK];exact x) (by rw[<- hK,<- hm];exact S) (by show bh X.K μ' H' a b;rw[<- hK];exact r)⟩⟩
theorem QD{X X':Cx}{e:List Expr}{f:FT}(hK:X'.K=X.K)(hm:X'.mg=X.mg)(h:My X' e f):Ps X' e (Px X KD f):=⟨h.h.imp fun σ H Q ⟨μ,ρ,st,a,bG,l,e,q⟩=>⟨μ,ρ,st,⟨by rw[hK];exact l.env,by rw[hK,hm];exact l.sto⟩,by rw[e];exact fun μ' b H' p x S r=>q μ' b H' p (by rw[<- hK];exact x) (by rw[<- hK,<- hm];exact S) r⟩⟩
theorem QF{X X':Cx}{e:Expr}{f:FG}(hK:X'.K=X.K)(hm:X'.mg=X.mg)(h:SG X' e f):QG X' e (NL X f):=⟨h.h.imp fun v σ H Q ⟨μ,ρ,st,w,ρ',l,r,e,q⟩=>⟨μ,ρ,st,w,ρ',⟨by rw[hK];exact l.env,by rw[hK,hm];exact l.sto⟩,by rw[hK];exact r,e,fun σ' l'=>q σ' ⟨by rw[<- hK];exact l'.env,by rw[<- hK,<- hm];exact l'.sto⟩⟩⟩
theorem gW(hB:vC X.env.scope.names scope.names nm cap X.N=true)(mf:X.env.cells=cellsFrom m X.env.scope.names [])(hi:SI X tg iter fi)(hg:∀cl C s0 H0 fp,SG (bI X nm scope cl C s0 H0 fp) tg f)(ht:∀cl C s0 H0 fp,My (bI X nm scope cl C s0 H0 fp) nh t)
  (he:∀cl C s0 H0 fp,SE (bI X nm scope cl C s0 H0 fp) oh el) (iE:X.calm=true:=by rfl) (h_:scope.kind=.function:=by rfl) (hs:∀x,foldedSetIterable iter X.env x=pure x:=by intro _;rfl) :
  SE X (.ListComp oh [⟨tg,iter,nh,0⟩] scope pos) (dD cap fi f t el):=
 ⟨(Kx iE mf h_ hB ⟨hi.h⟩ (fun cl C s0 H0 fp=>QF (X:=X) rfl rfl (hg cl C s0 H0 fp)) (fun cl C s0 H0 fp=>QD (X:=X) rfl rfl (ht cl C s0 H0 fp)) (fun cl C s0 H0 fp=>QC (X:=X) rfl rfl (he cl C s0 H0 fp)) hs).h.imp fun _ _ _ h=>zm h⟩
theorem oO{x0:Str}{p0 p1:Pos}{i:Nat}(O6:SG X (.Name x0 p0) (eJ i))(hB:vC X.env.scope.names scope.names nm cap X.N=true)(mf:X.env.cells=cellsFrom m X.env.scope.names [])(hi:SI X tg iter fi)(hg:∀cl C s0 H0 fp,SG (bI X nm scope cl C s0 H0 fp) tg f)(ht:∀cl C s0 H0 fp,My (bI X nm scope cl C s0 H0 fp) nh t)
  (he:∀cl C s0 H0 fp,SE (bI X nm scope cl C s0 H0 fp) oh el) (iE:X.calm=true:=by rfl) (h_:scope.kind=.function:=by rfl) (hs:∀x,foldedSetIterable iter X.env x=pure x:=by intro _;rfl)
  (Pa:swapsWith (.ListComp oh [⟨tg,iter,nh,0⟩] scope pos) (some (.Name x0 p0)) p1.line X.env=pure true:=by first|rfl|kernel_rfl) :
  SS X (.Assign [.Name x0 p0] (.ListComp oh [⟨tg,iter,nh,0⟩] scope pos) p1) (vH (dD cap fi f t el) (eJ i)):=
 ⟨(y9 ⟨O6.h⟩ iE mf h_ hB ⟨hi.h⟩ (fun cl C s0 H0 fp=>QF (X:=X) rfl rfl (hg cl C s0 H0 fp)) (fun cl C s0 H0 fp=>QD (X:=X) rfl rfl (ht cl C s0 H0 fp)) (fun cl C s0 H0 fp=>QC (X:=X) rfl rfl (he cl C s0 H0 fp)) hs Pa).h.imp fun D σ H h=>by
  obtain⟨μ,ρ,st,l,h⟩:=h
  have h':tE X (dD cap fi f t el) σ H fun x H1=>NL X (eJ i) x σ H1 D.nx:=⟨μ,ρ,st,l,RK.stmt h l fun μ1 st1 x v H1 p1 x1 l1 q1 h1=>⟨μ1,ρ,st1,x,ρ.set i (some x),l1,q1,rfl,fun σ' l'=>h1 μ1 σ' H1 (aj _) ej.refl l'⟩⟩
  exact zm h'⟩
end
section
variable{X:Cx}{a b c e o tg:Expr}{es:List Expr}{pos p p2 fT du:Pos}{x name:Str}{fa fb fc fe fo:FE}{fs:FA}
theorem uO{μ:List Addr}{H:Hp}{ws:List W}{mi:List V}(hr:∀μ H,RelWs X.K μ H ws mi):zl X (Pq mi) (ws,none) μ H:=fun i μ' bG H' pp xx S _=>by
 have hl:ws.length=mi.length:=(hr μ H).len
 refine⟨fun w hw=>?_,fun h=>by show mi.length<=i;rw[<- hl];exact h⟩
 obtain⟨v,g1,g2⟩:=(hr μ' H').get hw
 refine⟨(aa.mp g1).1,fun y H'' hy=>?_⟩
 obtain⟨rfl,hy⟩:=hy
 rw[g1]at hy;cases hy
 exact⟨ej.refl,S,g2⟩
def zn(l:List Nat):List W:=l.map fun c=>.str [c]
theorem B5(l:List Nat)(μ:List Addr)(H:Hp):RelWs X.K μ H (zn l) (oK l):=by
 induction l with
 |nil=>exact .nilI
 |cons a r ih=>exact .consI .str ih
def IK(fe:FE):FI:=fun ρ st=>(fe ρ st).bind fun x st=>match x with
 |.str l=>.ok (zn l,none) st
 |_=>.bad
theorem KQ(he:SE X e fe):SI X tg e (IK fe):=⟨(Ks he.h).imp fun σ H R h=>by
 obtain⟨μ,ρ,st,l,h⟩:=h
 refine⟨μ,ρ,st,l,RK.bind h l fun μ1 st1 x v H1 p1 x1 l1 q1 h1=>?_⟩
 cases x with
 |str z=>exact⟨z,q1.strE,h1 μ1 _ H1 (aj _) ej.refl l1.sto (uO (B5 z))⟩
 |_=>exact h1.elim⟩
def ce(fe:FE):FI:=fun ρ st=>(fe ρ st).bind fun x st=>match x with
 |.tup ws=>.ok (ws,none) st
 |.loc n=>(match lstOf st n with
  |some ws=>.ok (ws,some (n,ws)) st
  |none=>.bad)
 |.str l=>.ok (zn l,none) st
 |_=>.bad
theorem eF(he:SE X e fe):SI X tg e (ce fe):=⟨fun pins s σ H Rr I h=>by
 obtain⟨μ,ρ,st,l,h⟩:=h
 cases e1:fe ρ st with
 |bad=>simp only[ce,e1,R.bind_bad]at h;exact h.elim
 |ex c st1=>
  refine(DN (tg:=tg) he).h pins s σ H Rr I ⟨μ,ρ,st,l,?_⟩
  simp only[ce,DM,e1,R.bind_ex]at h ⊢;exact h
 |ok w st1=>
  cases w with
  |tup ws=>
   refine(DN (tg:=tg) he).h pins s σ H Rr I ⟨μ,ρ,st,l,?_⟩
   simp only[ce,DM,e1,R.bind_ok]at h ⊢;exact h
  |loc n=>
   refine(KO (tg:=tg) he).h pins s σ H Rr I ⟨μ,ρ,st,l,?_⟩
   simp only[ce,II,e1,R.bind_ok]at h ⊢;exact h
  |str z=>
   refine(KQ (tg:=tg) he).h pins s σ H Rr I ⟨μ,ρ,st,l,?_⟩
   simp only[ce,IK,e1,R.bind_ok]at h ⊢;exact h
  |_=>simp only[ce,e1,R.bind_ok]at h;exact h.elim⟩
def mQ(ws:List W):List W:=(List.range ws.length).map fun(i:Nat)=>W.tup [.int i,ws.getD i .non]
theorem nO{ws:List W}{i:Nat}{w:W}(h:(mQ ws)[i]?=some w):∃y,ws[i]?=some y/\w=.tup [.int i,y]:=by
 unfold mQ at h
 rw[ar]at h
 by_cases hi:i<ws.length
 ·rw[h9 hi]at h
  refine⟨ws[i],ae hi,?_⟩
  have:=(a9 h).symm
  rw[this]
  show W.tup [W.int i,ws.getD i W.non]=_
  rw[aZ,ae hi];rfl
 ·rw[gN (by simpa using hi)]at h;cases h
theorem qg(ws:List W):(mQ ws).length=ws.length:=by simp[mQ]
def qh(fs:FA):FI:=fun ρ st=>(fs ρ st).bind fun ws st=>match ws with
 |[.tup zs]=>.ok (mQ zs,none) st
 |_=>.bad
theorem vK{qB:List Expr}{kk:Nat}{tp:Pos}(hm:X.mg "enumerate"=none)(ha:SA X [a] fs)(hg:Gl X "enumerate":=by rfl)(hs:starEach [a] X.env=[(false,eval a X.env)]:=by rfl) :
  SI X (.Tuple qB kk tp) (.Call (.Name "enumerate" p) [a] [] pos) (qh fs):=⟨(Dt hm ⟨ha.h⟩ hg hs).h.imp fun σ H R h=>by
 obtain⟨μ,ρ,st,l,h⟩:=h
 refine⟨μ,ρ,st,l,RK.bind h l fun μ1 st1 x v H1 p1 x1 l1 q1 h1=>?_⟩
 split at h1
 ·rename_i zs
  obtain⟨y,rfl,ry⟩:=q1.one
  obtain⟨p,vs,rfl,hS,r⟩:=ry.tupE
  refine⟨p,rfl,⟨vs,hS⟩,h1 μ1 _ H1 (aj _) ej.refl l1.sto fun i μ' bG H' pp xx S _=>⟨fun w hw=>?_,fun hl=>⟨vs,xx _ _ hS,by rw[qg]at hl;rw[<- r.len];exact hl⟩⟩⟩
  obtain⟨y,hy,rfl⟩:=nO hw
  have r':=r.mono pp xx
  obtain⟨v,g1,g2⟩:=r'.get hy
  refine⟨⟨vs,v,xx _ _ hS,g1⟩,fun z H'' hz=>?_⟩
  obtain⟨q,hq,rfl,hH⟩:=hz
  have e:=hH vs v (xx _ _ hS) g1
  subst e
  have ex:=fF.same (K:=X.K) (cS hq (.tup [.int i,v]))
  exact⟨ex,S.same (cS hq _),.tupI fF.new (.consI .int (.consI (g2.mono (aj _) ex) .nilI))⟩
 ·exact h1.elim⟩
def vL(fa:FE):FE:=fun ρ st=>(fa ρ st).bind fun x st=>match x with
 |.int i=>.ok (.int (-i)) st
 |_=>.bad
theorem IL(ha:SE X a fa):SE X (.UnaryOp .USub a pos) (vL fa):=⟨(MZ Ke ha.h).imp fun σ H Q h=>by
 obtain⟨μ,ρ,st,l,h⟩:=h
 refine⟨μ,ρ,st,l,RK.bind h l fun μ1 st1 x v H1 p1 x1 l1 q1 h1=>?_⟩
 cases x with
 |int k=>exact⟨k,q1.intE,h1 μ1 _ H1 (aj _) ej.refl l1.sto .int⟩
 |_=>exact h1.elim⟩
def QH(x y:W)(st:List ao):R W:=match x,y with
 |.int i,.int j=>.ok (.bl (decide (i<=j))) st
 |.str [c],.str [d]=>.ok (.bl (decide (c<=d))) st
 |_,_=>.bad
end
theorem zo:∀{l m:List Nat},l.Pairwise (· < ·)->m.Pairwise (· < ·)->(∀x,x∈l↔x∈m)->l=m
 |[],[],_,_,_=>rfl
 |[],b::m,_,_,h=>by have:=(h b).mpr (by simp);simp at this
 |a::l,[],_,_,h=>by have:=(h a).mp (by simp);simp at this
 |a::l,b::m,h1,h2,h=>by
  obtain⟨p1,p2⟩:=bY.mp h1
  obtain⟨q1,q2⟩:=bY.mp h2
  have e:a=b:=by
   rcases a7.mp ((h a).mp (by simp))with z|z
   ·exact z
   ·rcases a7.mp ((h b).mpr (by simp))with y|y
    ·exact y.symm
    ·have:=p1 b y;have:=q1 a z;omega
  subst e
  rw[zo p2 q2 fun x=>?_]
  constructor
  ·intro hx
   rcases a7.mp ((h x).mp (aT _ hx))with z|z
   ·subst z;exact absurd (p1 x hx) (bx _)
   ·exact z
  ·intro hx
   rcases a7.mp ((h x).mpr (aT _ hx))with z|z
   ·subst z;exact absurd (q1 x hx) (bx _)
   ·exact z
def zp(c:List Nat):List (List Nat)->List (List Nat)
 |[]=>[c]
 |d::r=>if c<d then c::d::r else d::zp c r
def kE(l:List (List Nat)):List (List Nat):=l.foldr zp []
theorem qi(c:List Nat):∀l:List (List Nat),(zp c l).Perm (c::l)
 |[]=>ki _
 |d::r=>by
  unfold zp
  split
  ·exact ki _
  ·exact((qi c r).cons d).trans (List.Perm.swap c d r)
theorem ik(l:List (List Nat)):(kE l).Perm l:=by
 induction l with
 |nil=>exact ki _
 |cons a r ih=>exact(qi a _).trans (ih.cons a)
def Hf:List (List Nat)->Prop:=List.Pairwise fun a b=>¬ b<a
theorem AL(c:List Nat):∀{l:List (List Nat)},Hf l->Hf (zp c l)
 |[],_=>by simp[zp,Hf]
 |d::r,h=>by
  obtain⟨h1,h2⟩:=bY.mp h
  unfold zp
  split
  ·rename_i hc
   refine bY.mpr ⟨fun x hx=>?_,h⟩
   rcases a7.mp hx with rfl|hx
   ·exact fun z=>List.lt_irrefl _ (List.lt_trans z hc)
   ·exact fun z=>h1 x hx (List.lt_trans z hc)
  ·rename_i hc
   refine bY.mpr ⟨fun x hx=>?_,AL c h2⟩
   rcases a7.mp ((qi c r).mem_iff.mp hx)with rfl|hx
   ·exact hc
   ·exact h1 x hx
theorem xB(l:List (List Nat)):Hf (kE l):=by
 induction l with
 |nil=>exact List.Pairwise.nil
 |cons a r ih=>exact AL a ih
theorem vM:∀{l m:List (List Nat)},Hf l->Hf m->l.Perm m->l=m
 |[],m,_,_,h=>(List.Perm.nil_eq h)
 |a::l,[],_,_,h=>(by have:=h.length_eq;simp at this)
 |a::l,b::m,h1,h2,h=>by
  obtain⟨p1,p2⟩:=bY.mp h1
  obtain⟨q1,q2⟩:=bY.mp h2
  have e:a=b:=by
   rcases a7.mp (h.mem_iff.mp (by simp:a∈a::l))with z|z
   ·exact z
   ·rcases a7.mp (h.mem_iff.mpr (by simp:b∈b::m))with y|y
    ·exact y.symm
    ·exact List.le_antisymm (show a<=b from p1 b y) (show b<=a from q1 a z)
  subst e
  rw[vM p2 q2 (List.perm_cons a |>.mp h)]
theorem sv:∀{zs:List (List Nat)},sortedS (zs.map tx)=true->Hf zs:=by
 have key:∀(zs:List (List Nat)) (p:List Nat),risingS (tx p) (zs.map tx)=true->Hf (p::zs):=by
  intro zs
  induction zs with
  |nil=>intro p _;simp[Hf]
  |cons a r ih=>
   intro p h
   have h':(!ltCps a p&&risingS (tx a) (r.map tx))=true:=h
   rw[aX,iI,ltCps_eq,decide_eq_false_iff_not]at h'
   have u:=ih a h'.2
   refine bY.mpr ⟨fun x hx=>?_,u⟩
   rcases a7.mp hx with rfl|hx
   ·exact h'.1
   ·have:=(bY.mp u).1 x hx
    exact List.not_lt.mpr (List.le_trans (List.not_lt.mp h'.1) (List.not_lt.mp this))
 intro zs h
 cases zs with
 |nil=>exact List.Pairwise.nil
 |cons a r=>exact key r a h
section
variable{X:Cx}{a b c e o tg:Expr}{es:List Expr}{pos p p2 fT du:Pos}{x name:Str}{fa fb fc fe fo:FE}{fs:FA}
def nP(ws:List W)(st:List ao):R W:=match ws with
 |[.loc n]=>pq (lstOf st n) fun zs=>pq (mO zs) fun ls=>if ls.length<64 then .ok (.loc st.length) (st++[.lst ((kE ls).map W.str)])else .bad
 |_=>.bad
theorem xC{K:Frag}{μ:List Addr}{H:Hp}(ls:List (List Nat)):RelWs K μ H (ls.map W.str) (ls.map fun l=>V.str (tx l)):=by
 induction ls with
 |nil=>exact .nilI
 |cons a r ih=>exact .consI .str ih
theorem xD:mM X (.builtin "sorted") nP:=⟨fun pins s σ H vs us Q I rv ⟨μ,st,ws,S,r,q⟩=>by
 unfold nP at q
 split at q
 ·rename_i n
  obtain⟨y,rfl,ry⟩:=r.one
  cases e1:lstOf st n with
  |none=>rw[e1]at q;exact q.elim
  |some zs=>
   rw[e1,cJ]at q
   cases e2:mO zs with
   |none=>rw[e2]at q;exact q.elim
   |some ls=>
    rw[e2,cJ]at q
    split at q
    ·rename_i c
     obtain⟨a,vs,g,hS,rz⟩:=S.lstOf e1
     obtain⟨b1,f1,rfl⟩:=ry.locE
     rw[g]at f1;cases f1
     have:=sk e2 rz
     subst this
     refine t5.h pins s σ H _ us Q I rv ⟨_,ls,rfl,hS,c,fun zs hp hs l H2 hl eH=>?_⟩
     subst eH
     have ez:zs=kE ls:=vM (sv hs) (xB ls) (hp.trans (ik ls).symm)
     subst ez
     exact q (μ++[l]) _ _ (aC _ _) (fF.same (cS hl _)) (S.newLst hl (xC _)) (nq S)
    ·exact q.elim
 ·exact q.elim,fun ws st=>by
 unfold nP
 split
 ·exact oo fun _=>oo fun _=>by split<;>trivial
 ·trivial⟩
theorem jb{m l:List Nat}(hm:m.Nodup)(h:∀c∈m,c∈l):m.length<=l.length:=by
 induction m generalizing l with
 |nil=>exact df _
 |cons a r ih=>
  obtain⟨h1,h2⟩:=fN.mp hm
  have ha:a∈l:=h a (by simp)
  have:=ih h2 (l:=l.erase a) fun c hc=>by
   have:c≠a:=fun z=>h1 (z▸hc)
   exact(List.mem_erase_of_ne this).mpr (h c (aT _ hc))
  rw[List.length_erase_of_mem ha]at this
  have:0<l.length:=gB ha
  simp;omega
end
def W.ty:W->Option String
 |.non=>some "NoneType" | .bl _=>some "bool" | .int _=>some "int" | .str _=>some "str" | .tup _=>some "tuple" | .loc _=>none
def Hg(t T:String):Bool:=(t==T)||(t == "bool" && T == "int")
theorem NR{K:Frag}{T:String}(h:Dr T){w:W}{t:String}(hw:w.ty=some t):PySem.W.kitOne K (.type t) (.type T)=some (Hg t T):=by
 cases w<;>simp only[W.ty]at hw<;>cases hw<;>(rcases h with rfl|rfl|rfl|rfl<;>rfl)
def sy(T:String)(fa:FE):FE:=fun ρ st=>(fa ρ st).bind fun x st=>match x.ty with
 |some t=>.ok (.bl (Hg t T)) st
 |none=>.bad
section
variable{X:Cx}{a b c e o tg:Expr}{es:List Expr}{pos p p2 fT du:Pos}{x name:Str}{fa fb fc fe fo:FE}{fs:FA}
theorem qJ{T:String}{xT:Str}(hm:X.mg "isinstance"=none)(hT:X.mg xT=none)(hv:bootBuiltins xT=some (.type T))(ha:SE X a fa)(hk:Dr T:=by first|exact .inl rfl|exact .inr (.inl rfl)|exact .inr (.inr (.inl rfl))|exact .inr (.inr (.inr rfl)))
  (hg:Gl X "isinstance":=by rfl) (RH:Gl X xT:=by rfl) (hn:xT ≠ "__name__":=by decide) (hd:(xT==("__debug__":Str))=false:=by decide)
  (he:starEach [a,.Name xT p2] X.env=(false,eval a X.env)::starEach [.Name xT p2] X.env:=by rfl) (Pi:starEach [.Name xT p2] X.env=(false,eval (.Name xT p2) X.env)::starEach [] X.env:=by rfl) (qR:(backTo pos (starEach [.Name xT p2] X.env)).any (·.1)=false:=by rfl) :
  SE X (.Call (.Name "isinstance" p) [a,.Name xT p2] [] pos) (sy T fa):=by
 have C:gU X (.builtin "isinstance") (fun xs H Q=>∃x μ st w t,xs=[x,.ty T]/\ia X.K X.mg μ st H/\bh X.K μ H w x/\w.ty=some t/\Q (.bl (Hg t T)) H):=by
  intro pins s σ H xs us Q I r h
  obtain⟨x,μ,st,w,t,rfl,S,rx,ht,q⟩:=h
  obtain⟨u,u2,rfl,r1,r2⟩:=b9.two r
  obtain rfl:u2=.type T:=r2
  have e:=NR (K:=X.K) hk ht
  cases w with
  |tup ws=>
   cases ht
   obtain⟨p,vs,rfl,hS,_⟩:=rx.tupE
   cases(show u=Value.ref p from r1)
   obtain⟨bj,_,hp,_⟩:=I.tuple hS
   obtain⟨o,h1,h2,_⟩:=hp
   exact kia_one PySem.W.kitx_tuple I.kIn ⟨o,h1,h2⟩ e (fun z=>nomatch z) fun tk=>⟨.bl _,H,I.tok tk,rfl,q⟩
  |non=>cases ht;cases rx.nonE;exact nM I r1 .non e fun tk=>⟨.bl _,H,I.tok tk,rfl,q⟩
  |bl b=>cases ht;cases rx.blE;exact nM I r1 (.bl _) e fun tk=>⟨.bl _,H,I.tok tk,rfl,q⟩
  |int b=>cases ht;cases rx.intE;exact nM I r1 (.int _) e fun tk=>⟨.bl _,H,I.tok tk,rfl,q⟩
  |str b=>cases ht;cases rx.strE;exact nM I r1 (.str _) e fun tk=>⟨.bl _,H,I.tok tk,rfl,q⟩
  |loc b=>cases ht
 refine⟨(xc C hg hm boot_isinstance (rf ha.h (rf (Gx RH hT hv (v:=.ty T) rfl hn hd) yU Pi) he) (by decide) (by decide) he qR).imp fun σ H Q h=>?_⟩
 obtain⟨μ,ρ,st,l,h⟩:=h
 refine⟨μ,ρ,st,l,RK.bind h l fun μ1 st1 x v H1 p1 x1 l1 q1 h1=>?_⟩
 cases ht:x.ty with
 |none=>rw[ht]at h1;exact h1.elim
 |some t=>
  rw[ht]at h1
  exact⟨v,μ1,st1,x,t,rfl,l1.sto,q1,ht,h1 μ1 _ H1 (aj _) ej.refl l1.sto .bl⟩
theorem DQ{P:Program}{w:World}{K:Frag}{mg:Str->Option Value}{base:Heap}{k n:Nat}{x:Str}{st:Stmt}{f:Addr}{fd:FuncData}{ps:List Str}
  (F:kS K x x st f fd) (hm:mg x=some (.ref f)) (hn:ps.length=n)
  (hb:∀(kV re pm:Value) (an:Option Addr) (gJ ct:Value) (us:List Value),us.length=ps.length->bindArgs (fnOf x x (iA st) (gQ st) (bc st) .none kV re pm an gJ ct) ⟨us,[]⟩=pure (ps.zip us)) :
  cE P w K mg base k x n (fun _ _=>.bad):=vI F hm hn hb ⟨fun vs H Q E h=>by rw[hn];exact h.1,fun _ _ _ _ _ _ _ _ _ _ _ _ _ h=>by obtain⟨_,_,_,_,_,_,z⟩:=h;exact z.elim⟩
end
abbrev Cx.within(X:Cx)(v:Value):Cx:={ X with A:=X.A.mark (some v),calm:=false,xe:=fun _ _=>False }
theorem Cx.Ok.within{X:Cx}(k:X.Ok)(v:Value):(X.within v).Ok:=⟨k.mod,k.kind,k.glob,k.blt,k.above,k.inj,k.has,k.cab,(fun z=>by cases z),k.frames,k.stk,k.exf,k.bs,k.bsz,k.noex,k.exfs,k.funs,k.frf⟩
section
variable{X:Cx}{pins:List (Addr×Obj)}{σ:St}{H:Hp}{s:Shared}
theorem bi.within(I:bi X pins σ H s)(v:Value):bi (X.within v) pins σ H s:=⟨I.ok.within v,I.os,I.bare,I.base,I.loc,I.cell,I.free,I.freeC,I.pin,I.hok,I.len⟩
theorem bi.out{v:Value}(ok:X.Ok)(I:bi (X.within v) pins σ H s):bi X pins σ H s:=⟨ok,I.os,I.bare,I.base,I.loc,I.cell,I.free,I.freeC,I.pin,I.hok,I.len⟩
end
open AutoSeq1 (wpAny_loadPart')
theorem xE(l:Addr)(items:Array Value)(n:Nat)(b:Addr)(hZ:Array Value)(n2:Nat)(dd:Option Addr)(sl:Array (Option Value))(JH:¬(!items.isEmpty&&Builtin.List.listTooLong (items.size+hZ.size))=true)(wF:items.size<=sizeLine)(wR:items.size+hZ.size<=sizeLine+1) :
  Meets (Builtin.«list.extend» ⟨[.ref l,.ref b],[]⟩) (fun _ R s=>s.heap.get? l=some { cls:=.type "list",dict:=none,data:=.seq items n,slots:=#[] }/\s.heap.get? b=some { cls:=.type "tuple",dict:=dd,data:=.seq hZ n2,slots:=sl }
   /\ R (.ok (.ret Value.none)) { s with heap:=s.heap.update l (Obj.mapSeq fun x=>x++hZ),toks:=s.toks }):=
 .of_wp fun prog w A R s h=>by
  have g1:=AutoSeq1.idx_int
  have g2:=k_
  have g3:=AutoSeq1.sub_list_list
  have g4:=AutoSeq1.sub_tuple_list
  have g5:=AutoSeq1.sub_list_tuple
  obtain⟨hp,gl,ds,tk,os⟩:=s
  obtain⟨ha,hb,q⟩:=h
  have fits:(items++hZ).size<=sizeLine+1:=by
   rw[Array.size_append]
   exact wR
  wp_walk using (jB ha rfl (hz:=wF) (_hz':=fits)),bq ha,bq hb
  exact⟨_,rfl,q⟩
def DR(K:Frag):V->List V->Hp->VK->Prop:=fun x vs H Q=>∃l b xs zs,x=.ref l/\vs=[.ref b]/\H l=some (.lst xs)/\fF K H b zs/\xs.length+zs.length<=sizeLine/\Q .non (fx H l (.lst (xs++zs)))
section
variable{X:Cx}
theorem zq:Pp X "list.extend" (DR X.K):=by
 intro pins s σ H x vs v us Q I rx rv h
 obtain⟨l,b,xs,zs,rfl,rfl,hH,hB,hz,q⟩:=h
 cases rx
 obtain⟨u,rfl,ru⟩:=rv.one
 cases ru
 obtain⟨z,bj,n,r,hl,e⟩:=I.lstM hH
 obtain⟨its2,r2,⟨o,e2,hc,n2,hd⟩,z2⟩:=I.tuple hB
 have hl2:=r2.length
 have hsz:bj.toArray.size+its2.toArray.size<=sizeLine:=by rw[aJ,aJ];omega
 have hlong:¬ (!bj.toArray.isEmpty&&Builtin.List.listTooLong (bj.toArray.size+its2.toArray.size))=true:=by
  rw[xg hsz,Bool.and_false]
  exact bK
 obtain⟨cls,dd,data,sl⟩:=o
 dsimp only at hc hd
 subst hc hd
 refine mw F.slot_list_extend ⟨_,e,rfl⟩ F.entry_list_extend (F.args_list_extend_2 _ _)
  (xE l bj.toArray n b its2.toArray n2 dd sl hlong (by rw[aJ];omega) (by omega)) ⟨e,e2,?_⟩
 refine⟨.non,_,I.lset (its':=bj++its2) hH e (by simp) (r.append r2) ?_,rfl,q⟩
 rw[aH]
 omega
def gX(x:W)(ws:List W)(st:List ao):R W:=match x,ws with
 |.loc n,[.tup ys]=>(match st[n]? with
  |some (.lst zs)=>if zs.length+ys.length<=jE then .ok .non (st.set n (.lst (zs++ys)))else .bad
  |_=>.bad)
 |_,_=>pB x ws st
theorem l7:KP X "list.extend" gX:=⟨fun pins s σ H x vs v us Q I rv rus ⟨μ,st,wx,ws,S,rx,rs,q⟩=>by
 unfold gX at q
 split at q
 ·rename_i n ys
  obtain⟨y1,rfl,ry⟩:=rs.one
  split at q
  ·rename_i zs e1
   split at q
   ·rename_i c
    obtain⟨a1,g1,vs1,k1,r1⟩:=S.get e1
    obtain⟨b1,f1,rfl⟩:=rx.locE
    rw[g1]at f1;cases f1
    obtain⟨p,vs2,rfl,hS,r2⟩:=ry.tupE
    refine zq pins s σ H _ _ v us Q I rv rus ⟨a1,p,vs1,vs2,rfl,rfl,k1,hS,by rw[<- r1.len,<- r2.len];exact iV c,?_⟩
    exact q μ _ _ (aj _) (fF.but gv k1) (S.set e1 g1 k1 (r1.app r2)) .non
   ·exact q.elim
  ·exact q.elim
 ·exact uM.h pins s σ H x vs v us Q I rv rus ⟨μ,st,wx,ws,S,rx,rs,q⟩,fun x ws st=>by
 unfold gX
 split
 ·repeat' split
  all_goals trivial
 ·exact(uM (X:=X)).n x ws st⟩
end
section
variable{X:Cx}{a b c e o tg:Expr}{es:List Expr}{pos p p2:Pos}{fa fb fe fo:FE}{fs:FA}
theorem DS{α:Type}(xs:List α)(k:Nat)(y:α):((xs.toArray.extract 0 k).push y++xs.toArray.extract k).toList=xs.take k++y::xs.drop k:=by
 simp
 exact gA (by simp)
def Hh:V->List V->Hp->VK->Prop:=fun x vs H Q=>∃(l:Addr) (xs:List V) (k:Nat) (y:V),x=.ref l/\vs=[.int k,y]/\H l=some (.lst xs)/\k<=xs.length/\xs.length+1<=sizeLine/\k<1000000/\Q .non (fx H l (.lst (xs.take k++y::xs.drop k)))
theorem B6:Pp X "list.insert" Hh:=by
 intro pins s σ H x vs v us Q I rx rv h
 obtain⟨l,xs,k,y,rfl,rfl,hH,hk,hz,Gr,q⟩:=h
 cases rx
 obtain⟨u,u2,rfl,r1,r2⟩:=b9.two rv
 obtain⟨t,rfl⟩:=r1
 obtain⟨z,bj,n,r,hl,e⟩:=I.lstM hH
 have Mj:¬ (!Builtin.List.listFitsIndex (k:Int))=true:=by
  unfold Builtin.List.listFitsIndex
  simp;omega
 have hsz:bj.toArray.size<=sizeLine:=by rw[aJ];omega
 obtain⟨q0,hq0⟩:∃q0:Int,q0=k:=⟨_,rfl⟩
 rw[<- hq0]at Mj ⊢
 have M:=AutoSeq1.list_insert_list_int_val_1 l bj.toArray n q0 t u2 Mj hsz
 refine mw F.slot_list_insert ⟨_,e,rfl⟩ F.entry_list_insert (F.args_list_insert_3 _ _ _) M ⟨e,?_⟩
 refine⟨.non,_,I.lset (its':=bj.take k++u2::bj.drop k) hH e ?_ ((r.take k).append (.cons r2 (r.drop k))) ?_,rfl,q⟩
 ·have h0:¬ (q0<0):=by omega
  have hm:min q0.toNat bj.toArray.size=k:=by rw[aJ];omega
  simp only[aD h0,hm]
  apply Array.toList_inj.mp
  rw[DS]
 ·rw[aH,bp,bu,fm]
  omega
def nQ(x:W)(ws:List W)(st:List ao):R W:=match x,ws with
 |.loc n,[.int k,y]=>(match st[n]? with
  |some (.lst zs)=>if 0<=k/\k.toNat<=zs.length/\zs.length<jE/\k<1000000 then .ok .non (st.set n (.lst (zs.take k.toNat++y::zs.drop k.toNat)))else .bad
  |_=>.bad)
 |_,_=>.bad
theorem B7:KP X "list.insert" nQ:=⟨fun pins s σ H x vs v us Q I rv rus ⟨μ,st,wx,ws,S,rx,rs,q⟩=>by
 unfold nQ at q
 split at q
 ·rename_i n k y
  obtain⟨y1,y2,rfl,ry1,ry2⟩:=rs.two
  split at q
  ·rename_i zs e1
   split at q
   ·rename_i cc
    obtain⟨c1,c2,c3,c4⟩:=cc
    obtain⟨k,rfl⟩:=lN c1
    rw[bB]at c2 q
    obtain⟨a1,g1,vs1,k1,r1⟩:=S.get e1
    obtain⟨b1,f1,rfl⟩:=rx.locE
    rw[g1]at f1;cases f1
    have hl:=r1.len
    have hL:vs1.length+1<=sizeLine:=by rw[<- hl];exact iV c3
    refine B6 pins s σ H _ _ v us Q I rv rus ⟨a1,vs1,k,y2,rfl,by rw[ry1.intE],k1,by omega,hL,by omega,?_⟩
    exact q μ _ _ (aj _) (fF.but gv k1) (S.set e1 g1 k1 ((r1.take k).app (.consI ry2 (r1.drop k)))) .non
   ·exact q.elim
  ·exact q.elim
 ·exact q.elim,fun x ws st=>by
 unfold nQ
 repeat' split
 all_goals trivial⟩
end
def QJ(i:Nat):RS->RS
 |.nx ρ st=>.nx (ρ.set i none) st
 |.bk ρ st=>.bk (ρ.set i none) st
 |.ct ρ st=>.ct (ρ.set i none) st
 |.rt w st=>.rt w st
 |_=>.bad
section
variable{prog:Program}{w:World}{A:Around}{E:Value->Shared->Prop}{h:Heap}{g:Array GenState}{d:Drawn}{t:Nat}{os:OsState}{a:Addr}{o:Obj}
 {nm q:Str} {C N:Addr} {bs bm:List Value} {RO:Bool} {sn:List Str} {RZ:List Value} {ab:Bool} {col:Option Bool} {dd:Option Addr} {k0 k1 k2 k3 k5:Option Value} {Rk:String} {K:Frag}
end
section
variable{X:Cx}{a:Expr}{pos p p2:Pos}{fa:FE}
end
section
variable{X:Cx}{a:Expr}{pos p p2:Pos}{fa:FE}{es:List Expr}{k:Nat}
end
section
variable{X:Cx}
end
section
variable{X:Cx}
theorem sA{α:Type}(l:List α):∀(k:Nat) (acc:List α),List.foldl (fun x1 x2=>x1++x2) acc.toArray (List.replicate k l.toArray)=(acc++(List.replicate k l).flatten).toArray
 |0,acc=>by simp
 |k+1,acc=>by
  have e:acc.toArray++l.toArray=(acc++l).toArray:=by simp
  rw[jI,List.foldl_cons,e,sA l k (acc++l),jI,List.flatten_cons,aA]
theorem KR(l:List Nat)(n:Int):Txt.mul (tx l) n=tx (List.replicate n.toNat l).flatten:=by
 unfold Txt.mul
 by_cases h:n<1
 ·rw[ax h,show n.toNat=0 by omega];rfl
 ·rw[aD h]
  split
  ·rename_i hc
   rw[fP,dB,dB,jq]at hc
   rcases hc with rfl|hc
   ·simp
   ·have:l=[]:=List.length_eq_zero_iff.mp hc
    subst this
    simp
  ·have:=sA l n.toNat []
   rw[ig]at this
   show Str.mk _=Str.mk _
   congr 1
theorem Hi:mJ X (binaryOp .Mult) (fun x y H Q=>∃(l:List Nat) (k:Int),x=.str (tx l)/\y=.int k/\-(2^62)<=k/\k<2^62/\l.length*k.toNat<=1000000/\Q (.str (tx (List.replicate k.toNat l).flatten)) H):=by
 intro pins s σ H x y v u Q I rx ry h
 obtain⟨l,k,rfl,rfl,h1,h2,h3,q⟩:=h
 obtain⟨t,rfl⟩:=rx
 obtain⟨t',rfl⟩:=ry
 refine SB.mul ⟨?_,?_,?_⟩ fun t2 tk=>⟨.str _,H,I.tok _,⟨t2,?_⟩,q⟩
 ·simp;omega
 ·intro hk hx
  rw[jq]
  intro hg
  have hk1:1<=k:=by omega
  have:k*((2^63-1)/k)<=2^63-1:=Int.mul_ediv_self_le (by omega)
  have h4:(2^63-1)<k*(l.length:Int):=by
   have:=Int.lt_mul_of_ediv_lt (a:=2^63-1) (b:=(l.length:Int)) (c:=k) (by omega) hg
   rw[Int.mul_comm];exact this
  have h5:k*(l.length:Int)=((l.length*k.toNat:Nat):Int):=by
   rw[mV,Int.toNat_of_nonneg (by omega),Int.mul_comm]
  rw[h5]at h4
  omega
 ·intro hk hx
  rw[jq]
  unfold Builtin.Str.tooLong
  rw[be]
  have:(1000000:Nat)<=sizeLine:=by decide
  omega
 ·rw[KR]
def iC:W->W->List ao->R W
 |.int i,.int j,st=>if xq i j then .ok (.int (i*j)) st else .bad
 |.str l,.int k,st=>if -(2^62)<=k/\k<2^62/\l.length*k.toNat<=jE then .ok (.str (List.replicate k.toNat l).flatten) st else .bad
 |_,_,_=>.bad
theorem iX:rY X (binaryOp .Mult) iC:=⟨fun pins s σ H x y v u Q I rv ru ⟨μ,st,wx,wy,S,rx,ry,q⟩=>by
 cases wx with
 |int i=>
  cases wy with
  |int j=>
   have q':CP X μ H Q (NC (.int i) (.int j) st):=q
   exact NE.h pins s σ H x y v u Q I rv ru ⟨μ,st,.int i,.int j,S,rx,ry,q'⟩
  |_=>exact q.elim
 |str l=>
  cases wy with
  |int k=>
   simp only[iC]at q
   split at q
   ·rename_i cc
    exact Hi pins s σ H x y v u Q I rv ru ⟨l,k,rx.strE,ry.intE,cc.1,cc.2.1,cc.2.2,ph S q⟩
   ·exact q.elim
  |_=>exact q.elim
 |_=>cases wy<;>exact q.elim,fun x y st=>by
 unfold iC
 repeat' split
 all_goals trivial⟩
end
structure sB(k:Nat)(A:Around):Prop where
 dp:A.depth+2*k+5<recursionLimit
 un:A.units+16*k+200<cLine
theorem gD.h{k:Nat}{A:Around}(r:gD k A)(v:Option Value):sB k (A.mark v):=⟨r.dp,r.un⟩
theorem sB.mono{j k:Nat}{A:Around}(r:sB k A)(h:j<=k):sB j A:=⟨by have:=r.dp;omega,by have:=r.un;omega⟩
theorem sB.units{k:Nat}{A:Around}(r:sB k A):A.units+64<cLine:=by have:=r.un;omega
structure AM(P:Program)(w:World)(K:Frag)(mg:Str->Option Value)(base:Heap)(CX:Ao)(k:Nat)(f:Addr)(fd:FuncData)(ps:List Str)(sp:Sp):Prop where
 len:∀vs H Q E,sp vs H Q E->vs.length=ps.length
 run:∀(A:Around) (outer:List Env) (s:Shared) (H:Hp) (args:Args) (us:List Value) (vs:List V) (Q:VK) (E:XK),sB k A->w_ P w K mg base A outer s H->BindsTo s fd args (ps.zip us)->b9 vs us->sp vs H Q E ->
  codeAny (model P w) A (.call (.ref f) args) (CR CX outer P w H s Q E) s
theorem AM.mono{P:Program}{w:World}{K:Frag}{mg:Str->Option Value}{base:Heap}{CX:Ao}{j k:Nat}{f:Addr}{fd:FuncData}{ps:List Str}{sp:Sp}(F:AM P w K mg base CX j f fd ps sp)(h:j<=k) :
  AM P w K mg base CX k f fd ps sp:=⟨F.len,fun A outer s H args us vs Q E hr=>F.run A outer s H args us vs Q E (hr.mono h)⟩
structure KS(P:Program)(w:World)(K:Frag)(mg:Str->Option Value)(base:Heap)(k:Nat)(x:Str)(n:Nat)(F:List W->List ao->R W):Prop where
 ex:∃(f:Addr) (fd:FuncData) (ps:List Str),mg x=some (.ref f)/\keepIn K (.ref f)=true/\ps.length=n/\rL K fd ps []/\AM P w K mg base (kD P w) k f fd ps (ly K mg n F)
theorem KS.mono{P:Program}{w:World}{K:Frag}{mg:Str->Option Value}{base:Heap}{j k:Nat}{x:Str}{n:Nat}{F:List W->List ao->R W}(h:KS P w K mg base j x n F)(hj:j<=k):KS P w K mg base k x n F:=by
 obtain⟨f,fd,ps,a,b,c,d,e⟩:=h.ex
 exact⟨f,fd,ps,a,b,c,d,e.mono hj⟩
section
variable{X:Cx}
variable{e:Expr}{es:List Expr}{pos p:Pos}{x:Str}{fs:FA}
end
section
variable{prog:Program}{w:World}{A:Around}{E:Value->Shared->Prop}{s:Shared}
theorem sD:∀(l:List Nat) (vs:List Value),vs.length=l.length->(∀(j:Nat) (v:Value),vs[j]?=some v->∃c u,l[j]?=some c/\v=.str (tx [c]) u)->StrsAre vs (l.map fun c=>tx [c])
 |[],[],_,_=>.nil
 |c::l,v::vs,hl,h=>by
  obtain⟨d,u,e,rfl⟩:=h 0 v rfl
  cases e
  exact .cons _ _ (sD l vs (Nat.succ.inj hl) fun j v hj=>h (j+1) v hj)
 |[],_::_,hl,_=>nomatch hl
 |_::_,[],hl,_=>nomatch hl
theorem xF{l:List Nat}{t:Tok}{Q:Value->Shared->Prop}(few:l.length<64)(hh:A.handled=none)
  (q:∀(s1:Shared) (g1:Heap) (out:Array Value) (ss:List Str) (e:Nat),(∀b o,s.heap.get? b=some o->s1.heap.get? b=some o)->s1.gens=s.gens->s1.drawn=s.drawn->s1.os=s.os->(∀b o,s1.heap.get? b=some o->g1.get? b=some o)->g1.get? s1.heap.objs.size=some (seqObj "list" out e) ->
   StrsAre out.toList ss->ss.Perm (l.map fun c=>tx [c])->sortedS ss=true->Q (.ref s1.heap.objs.size) { s1 with heap:=g1 }):wpAny (model prog w) A (call (.builtin "sorted") [.str (tx l) t]) Q E s:=by
 have hn:(tx l).cps.size=l.length:=by simp[tx]
 apply ku kind_sorted plain_sorted entry_sorted (args_sorted1 _)
 show wpAny _ _ (checkCount "sorted" 1 1 _ >>= _) _ _ _
 refine ah (av (ah (wpAny_collect_str (by simpa using hh) _ _ (fun s1 acc kp eg ed eo ha=>?_) (by rw[kL];omega))))
 have rK:StrsAre acc.toList (l.map fun c=>tx [c]):=by
  refine sD l _ (by rw[gb,ha.1,hn]) fun j v hj=>?_
  obtain⟨c,u,hc,e⟩:=ha.2 j v (by simpa using hj)
  exact⟨c,u,by simpa[tx]using hc,e⟩
 have hvl:acc.toList.length<64:=by rw[gb,ha.1,hn];exact few
 refine ah (wpAny_newList ?_ (by rw[kL];omega))
 have oL:(s1.heap.push (seqObj "list" acc.toList.toArray 0)).get? s1.heap.objs.size=some (seqObj "list" acc.toList.toArray 0):=aL _ rfl
 refine ah (cF (cY slot_list_sort ⟨_,oL,rfl⟩ entry_list_sort (list_sort_treeK strKind_oneLt oL rK.keysOf (fun a b r e=>keyKind_strs (by rw[<- e];exact rK)) hvl fun st a1 a2=>⟨_,rfl,?_⟩) (args_list_sort _)))
 obtain⟨ss,h1,h2,h3⟩:=sorted_out_str rK a1 a2
 obtain⟨e,he⟩:=sortedHeap_at (out:=(arrOf st).map (·.2)) oL
 refine av ⟨_,rfl,q s1 _ _ ss e kp eg ed eo (fun b o hb=>?_) he h1 h2 h3⟩
 rw[sortedHeap_old (a8 (aF hb)) (by rw[fC];exact fW (aF hb))]
 exact aq _ hb
end
section
variable{X:Cx}
def qj(ws:List W)(st:List ao):R W:=match ws with
 |[.str l]=>if l.length<64 then .ok (.loc st.length) (st++[.lst ((kE (l.map fun c=>[c])).map W.str)])else .bad
 |[.loc n]=>nP [.loc n] st
 |_=>.bad
theorem Hj(hc:X.calm=true:=by rfl):mM X (.builtin "sorted") qj:=⟨fun pins s σ H vs us Q I rv ⟨μ,st,ws,S,r,q⟩=>by
 unfold qj at q
 split at q
 ·rename_i l
  split at q
  ·rename_i c
   obtain⟨y,rfl,ry⟩:=r.one
   have:=ry.strE;subst this
   obtain⟨u,rfl,ru⟩:=lq rv
   obtain⟨t,rfl⟩:=ru
   refine xF c (I.ok.hd hc) fun s1 g1 out ss e kp eg ed eo k1 gL rK hp hsr=>?_
   have es:s1={ s with heap:=s1.heap,toks:=s1.toks }:=by cases s1;cases s;cases eg;cases ed;cases eo;rfl
   generalize s1.heap=g0,s1.toks=tk at es kp k1 gL ⊢
   subst es
   have I2:bi X pins σ H { s with heap:=g0,toks:=tk }:=I.kept2 (d':=s.drawn) fun b o e=>kp b o e
   have vj:H g0.objs.size=none:=I2.hok.fresh (aB _)
   have hmap:(ss.map fun z=>z.cps.toList).map tx=ss:=by
    rw[bb]
    have:(tx∘fun z:Str=>z.cps.toList)=id:=funext fun z=>AB z
    rw[this,nI]
   have hperm:(ss.map fun z=>z.cps.toList).Perm (l.map fun c=>[c]):=by
    have e:=hp.map fun z:Str=>z.cps.toList
    rw[bb]at e
    exact e
   have ez:(ss.map fun z=>z.cps.toList)=kE (l.map fun c=>[c]):=vM (sv (by rw[hmap];exact hsr)) (xB _) (hperm.trans (ik _).symm)
   have hvals:b9 ((kE (l.map fun c=>[c])).map fun l=>V.str (tx l)) out.toList:=by
    have e:=oN rK
    rw[<- hmap,ez,bb]at e
    exact e
   refine⟨.ref g0.objs.size,_,I2.laid (o:=.lst ((kE (l.map fun c=>[c])).map fun l=>V.str (tx l))) (t':=tk) k1 (aB _) ⟨?_,out.toList,e,hvals,gL⟩,rfl,?_⟩
   ·rw[al,(ik _).length_eq,al]
    exact aV (eX c) (by decide)
   ·exact q (μ++[g0.objs.size]) _ _ (aC _ _) (fF.same (cS vj _)) (S.newLst vj (xC _)) (nq S)
  ·exact q.elim
 ·exact xD.h pins s σ H _ us Q I rv ⟨μ,st,_,S,r,q⟩
 ·exact q.elim,fun ws st=>by
 unfold qj
 split
 ·split<;>trivial
 ·exact(xD (X:=X)).n _ _
 ·trivial⟩
end
def oq(a b k:Int):Nat:=if a<b then((b-a-1)/k+1).toNat else 0
theorem uP{a b k:Int}(hk:0<k):Builtin.Range.rangeSize a b k=(oq a b k:Int):=by
 unfold Builtin.Range.rangeSize oq
 rw[ax hk]
 split
 ·have:=Int.ediv_nonneg (a:=b-a-1) (b:=k) (by omega) (by omega)
  omega
 ·rfl
theorem Hk{a b k:Int}(hk:0<k)(h:a<b):(b-a-1)/k<=b-a-1:=Int.ediv_le_self _ (by omega)
theorem zr{a b k:Int}(h1:-(2^60)<=a)(h2:a<2^60)(h3:-(2^60)<=b)(h4:b<2^60)(hk:0<k)(Gr:k<=1000):Builtin.Range.small a b k=true:=by
 unfold Builtin.Range.small
 rw[uP hk]
 simp only[Builtin.Range.rangeFitsLong,aX,fP,decide_eq_true_eq,dB,ax hk]
 unfold oq
 split
 ·have:=Hk hk (by assumption)
  have:=Int.ediv_nonneg (a:=b-a-1) (b:=k) (by omega) (by omega)
  have:=Int.ediv_mul_le (a:=b-a-1) (b:=k) (by omega)
  omega
 ·omega
def uQ(i k:Int)(n:Nat):List V:=(List.range n).map fun m:Nat=>V.int (i+m*k)
def NS(ta:TA):TI:=fun σ H R=>ta σ H fun vs H1=>∃i j k:Int,vs=[.int i,.int j,.int k]/\(-(2^60)<=i/\i<2^60/\-(2^60)<=j/\j<2^60/\0<k/\k<=1000)/\R (Pq (uQ i k (oq i j k))) H1
theorem vN{X:Cx}{tg a b c:Expr}{ta:TA}{p pos:Pos}(hm:X.mg "range"=none)(ha:QA X [a,b,c] ta)(hg:Gl X "range":=by rfl)(hs:starEach [a,b,c] X.env=(false,eval a X.env)::starEach [b,c] X.env:=by rfl)
  (wR:(backTo pos (starEach [b,c] X.env)).any (·.1)=false:=by rfl):QI X tg (.Call (.Name "range" p) [a,b,c] [] pos) (NS ta):=⟨by
 intro pins s σ H R I h
 refine Call_ (lQ I hg hm boot_range (cK (gq (ha.h pos pins s σ H _ I h) fun us s1 ⟨vs,H1,I1,r1,q1⟩=>?_) hs wR))
 obtain⟨i,j,k,e,⟨b1,b2,b3,b4,b5,b6⟩,q⟩:=q1
 subst e
 cases r1 with
 |cons x1 r1=>cases r1 with
  |cons x2 r1=>cases r1 with
   |cons x3 r1=>
    cases r1
    obtain⟨t1,rfl⟩:=x1
    obtain⟨t2,rfl⟩:=x2
    obtain⟨t3,rfl⟩:=x3
    refine call_range_3 (by omega) ?_ (Or.inl (mq (by omega)))
    refine wpAny_pyIter_range (IsRange.new ..) (zr b1 b2 b3 b4 b5 b6) ?_
    generalize hN:oq i j k=n at q
    have hl:(uQ i k n).length=n:=by unfold uQ;simp
    have I2:bi X pins σ H1 { s1 with heap:=s1.heap.push { cls:=.type "range",data:=.fields #[.int i t1,.int j t2,.int k t3] },toks:=s1.toks }:=I1.kept fun b o e=>aq _ e
    refine⟨(s1.heap.push { cls:=.type "range",data:=.fields #[.int i t1,.int j t2,.int k t3] }).objs.size,[(s1.heap.push { cls:=.type "range",data:=.fields #[.int i t1,.int j t2,.int k t3] }).objs.size],_,_,H1,rfl,
     I2.kept (t':=s1.toks) fun b o e=>aq _ e,rS (ty:="range_iterator") (fun A hA=>by rw[hl];exact Walks.range hA _ i k n) (fun m v hk hp=>?_) (fun k h st=>⟨_,_,st,rfl,rfl⟩) (by decide) (fun A k s Q E st h=>mn st h),⟨df _,?_⟩,fun b hb=>?_,q⟩
    ·obtain⟨t,rfl⟩:=hp
     rw[hl]at hk
     refine⟨.int (i+m*k),?_,t,rfl⟩
     unfold uQ
     rw[ar,h9 hk]
     rfl
    ·have e1:i+((0:Nat):Int)*k=i:=by simp
     have e2:((n:Nat):Int)-((0:Nat):Int)=Builtin.Range.rangeSize i j k:=by rw[uP b5,hN];simp
     rw[e1,e2]
     exact aL _ rfl
    ·have e:b=(s1.heap.push { cls:=.type "range",data:=.fields #[.int i t1,.int j t2,.int k t3] }).objs.size:=by simpa using hb
     subst e
     exact I2.fpOk (aB _) (I2.hok.fresh (aB _))⟩
section
variable{X:Cx}{a b c tg:Expr}{fs:FA}{p pos:Pos}
def qK(i k:Int)(n:Nat):List W:=(List.range n).map fun m:Nat=>W.int (i+m*k)
theorem DT(i k:Int)(n:Nat)(μ:List Addr)(H:Hp):RelWs X.K μ H (qK i k n) (uQ i k n):=by
 unfold qK uQ
 induction (List.range n)with
 |nil=>exact .nilI
 |cons a r ih=>exact .consI .int ih
def vO(fs:FA):FI:=fun ρ st=>(fs ρ st).bind fun ws st=>match ws with
 |[.int i,.int j,.int k]=>if -(2^60)<=i/\i<2^60/\-(2^60)<=j/\j<2^60/\0<k/\k<=1000 then .ok (qK i k (oq i j k),none) st else .bad
 |_=>.bad
theorem Hl(hm:X.mg "range"=none)(ha:SA X [a,b,c] fs)(hg:Gl X "range":=by rfl)(hs:starEach [a,b,c] X.env=(false,eval a X.env)::starEach [b,c] X.env:=by rfl)(qR:(backTo pos (starEach [b,c] X.env)).any (·.1)=false:=by rfl) :
  SI X tg (.Call (.Name "range" p) [a,b,c] [] pos) (vO fs):=⟨(vN hm ⟨ha.h⟩ hg hs qR).h.imp fun σ H R h=>by
 obtain⟨μ,ρ,st,l,h⟩:=h
 refine⟨μ,ρ,st,l,RK.bind h l fun μ1 st1 x v H1 p1 x1 l1 q1 h1=>?_⟩
 split at h1
 ·rename_i i j k
  obtain⟨y,ys,rfl,ry,r1⟩:=q1.consE
  obtain⟨z,zs,rfl,rz,r2⟩:=r1.consE
  obtain⟨w,rfl,kJ⟩:=r2.one
  split at h1
  ·rename_i cc
   exact⟨_,_,_,by rw[ry.intE,rz.intE,kJ.intE],cc,h1 μ1 _ H1 (aj _) ej.refl l1.sto (uO (DT _ _ _))⟩
  ·exact h1.elim
 ·exact h1.elim⟩
end
theorem Hm{X:Cx}{oh tg iter:Expr}{nh:List Expr}{scope:Scope}{pos:Pos}{nm:List Str}{cap:List (Option Nat)}{wi:TI}{g:TG}{tc:TT}{te:TE}(iE:X.calm=true)
  (h_:scope.kind=.function) (hB:vC X.env.scope.names scope.names nm cap X.N=true)
  (hi:QI X tg iter wi) (hg:∀cl C s0 H0 fp,QG (bI X nm scope cl C s0 H0 fp) tg g) (ht:∀cl C s0 H0 fp,Ps (bI X nm scope cl C s0 H0 fp) nh tc)
  (he:∀cl C s0 H0 fp,QE (bI X nm scope cl C s0 H0 fp) oh te) (hs:∀x,foldedSetIterable iter X.env x=pure x:=by intro _;rfl) :
  QE X (.ListComp oh [⟨tg,iter,nh,0⟩] scope pos) (uE cap wi g tc te):=by
 simp only[vC,aX,dG,fP,iI,dB,ba]at hB
 obtain⟨⟨⟨⟨b1,b2⟩,b3⟩,b4⟩,b5⟩:=hB
 refine⟨fun pins s σ H Q I h=>?_⟩
 have has:∀x∈scope.names,x.2=.free->∃c,X.env.cells.lookup x.1=some c:=fun x hx hk=>by
  rcases b3 x hx with z|z
  ·exact absurd hk z
  ·exact I.ok.has x.1 (.inl z)
 have k6:∀x c,(gG X.env scope.names []).lookup x=some c->X.env.cells.lookup x=some c:=fun x c h=>nN scope.names [] has (by simp) (x,c) (dC h)
 have hin:∀x,(x,NameKind.free)∈scope.names->∃c,(gG X.env scope.names []).lookup x=some c:=fun x h=>let ⟨_,q⟩:=lU (env:=X.env) scope.names [] x h;lV q
 have hmap:(relabel scope X.env).names=scope.names.map fun y=>if (y.2==.free&&X.env.scope.kind==.function&&X.env.kindOf y.1==some .cell)then(y.1,NameKind.cell)else y:=by
  show scope.names.map _=_
  refine bC fun y _=>?_
  obtain⟨a,b⟩:=y
  rfl
 have fr:∀x,((relabel scope X.env).names.lookup x=some .cell\/(relabel scope X.env).names.lookup x=some .free)->(x,NameKind.free)∈scope.names:=fun x h=>by
  have h':∃k,(x,k)∈(relabel scope X.env).names/\(k=.cell\/k=.free):=by
   rcases h with h|h
   ·exact⟨_,dC h,.inl rfl⟩
   ·exact⟨_,dC h,.inr rfl⟩
  obtain⟨k,hm,hk⟩:=h'
  rw[hmap]at hm
  obtain⟨y,hy,e⟩:=aS.mp hm
  obtain⟨a,b⟩:=y
  by_cases hb:b=.free
  ·subst hb
   have:a=x:=by split at e<;>(cases e;rfl)
   subst this;exact hy
  ·rw[aD (by simp[hb])]at e
   cases e
   rcases hk with rfl|rfl
   ·exact absurd rfl (b2 _ hy)
   ·exact absurd rfl hb
 refine Ax (cl:=gG X.env scope.names []) (cap:=cap) (nm:=nm) iE (AA has) k6 h_ (fun x hx hk=>(b1 x hx).resolve_left fun z=>z hk) (fun y hy=>b2 y hy) (fun x hx=>hin x (fr x hx)) (fun i j e=>?_) b4 hi.h (fun C s0 H0 fp=>(hg _ C s0 H0 fp).h) (fun C s0 H0 fp=>(ht _ C s0 H0 fp).h) (fun C s0 H0 fp=>(he _ C s0 H0 fp).h) hs pins s σ H Q I h
 have hi':i<cap.length:=(aa.mp e).1
 have q:=b5 i (bt.mpr hi')
 rw[e]at q
 dsimp only at q
 cases hx:nm[i]? with
 |none=>rw[hx]at q;simp at q
 |some x=>
  cases hy:X.N[j]? with
  |none=>rw[hx,hy]at q;simp at q
  |some y=>
   rw[hx,hy]at q
   simp only[aX,dB]at q
   obtain⟨⟨rfl,q1⟩,q2⟩:=q
   refine⟨x,rfl,rfl,.inr (.inl q1),(by rw[q1];decide),?_,?_⟩
   ·obtain⟨c,hc⟩:=hin x (dC q2)
    rw[hc,k6 _ _ hc]
   ·rw[hmap];exact kx (env:=X.env) q2
section
variable{X:Cx}{oh tg iter:Expr}{nh:List Expr}{scope:Scope}{pos:Pos}{nm:List Str}{cap:List (Option Nat)}{fi:FI}{f:FG}{t:FT}{el:FE}
theorem Hn(hB:vC X.env.scope.names scope.names nm cap X.N=true)(hi:SI X tg iter fi)(hg:∀cl C s0 H0 fp,SG (bI X nm scope cl C s0 H0 fp) tg f)(ht:∀cl C s0 H0 fp,My (bI X nm scope cl C s0 H0 fp) nh t)
  (he:∀cl C s0 H0 fp,SE (bI X nm scope cl C s0 H0 fp) oh el) (iE:X.calm=true:=by rfl) (h_:scope.kind=.function:=by rfl) (hs:∀x,foldedSetIterable iter X.env x=pure x:=by intro _;rfl) :
  SE X (.ListComp oh [⟨tg,iter,nh,0⟩] scope pos) (dD cap fi f t el):=
 ⟨(Hm iE h_ hB ⟨hi.h⟩ (fun cl C s0 H0 fp=>QF (X:=X) rfl rfl (hg cl C s0 H0 fp)) (fun cl C s0 H0 fp=>QD (X:=X) rfl rfl (ht cl C s0 H0 fp)) (fun cl C s0 H0 fp=>QC (X:=X) rfl rfl (he cl C s0 H0 fp)) hs).h.imp fun _ _ _ h=>zm h⟩
end
section
variable{prog:Program}{w:World}{A:Around}{E:Value->Shared->Prop}{s:Shared}
variable{z P O i j a b:Addr}{n m:Nat}{xs ys:Array Value}{x y u v:Value}
end
open AutoSeq1 (wpAny_loadPart')
section
variable{prog:Program}{w:World}{A:Around}{E:Value->Shared->Prop}{s:Shared}
end
section
variable{X:Cx}{a b:Expr}{fs:FA}{p pos:Pos}
end
open Builtin.Str (tooLong)
section
variable{prog:Program}{w:World}{A:Around}{E:Value->Shared->Prop}{s:Shared}
end
section
variable{X:Cx}
end
section
variable{X:Cx}
def gs:List W->Option (List Int)
 |[]=>some []
 |.int z::ws=>(gs ws).map (z :: ·)
 |_=>none
theorem nz{K:Frag}{μ:List Addr}{H:Hp}:∀{ws:List W} {l:List Int} {vs:List V},gs ws=some l->RelWs K μ H ws vs->vs=l.map V.int
 |[],l,vs,h,r=>by simp only[gs]at h;cases h;exact r.nilE
 |w::ws,l,vs,h,r=>by
  obtain⟨x,xs,rfl,rx,rs⟩:=r.consE
  unfold gs at h
  split at h
  ·rename_i e;cases e
  ·rename_i z Ph e
   cases e
   cases e2:gs ws with
   |none=>rw[e2]at h;cases h
   |some l'=>rw[e2]at h;cases h;rw[rx.intE,nz e2 rs];rfl
  ·cases h
end
section
variable{X:Cx}
end
abbrev NT:=List W×List (Nat×List W)
abbrev RC:=bS->List ao->R NT
section
variable{X:Cx}{oh tg iter:Expr}{nh:List Expr}{scope:Scope}{pos:Pos}{nm:List Str}{cap:List (Option Nat)}{fi:RC}{f:FG}{t:FT}{el:FE}{m:Nat}
end
section
variable{X:Cx}{a b:Expr}{fs:FA}{p pos:Pos}
end
section
variable{X:Cx}
end
theorem qG.held{X:Cx}{pins:List (Addr×Obj)}{σ:St}{c:Str}{H:Hp}{e:Value}{s:Shared}{Q:Unit->Shared->Prop}{E:Value->Shared->Prop}{M:Model}{Me:Env}{outer:List Env}{L:Addr}(f:qG X pins σ c H e s)
  (rK:X.stack=Me::outer) (PQ:Me.frame=some L) (RJ:X.env.frame=some L) (hA:X.A.frames=some X.stack)
  (h:∀x C t B h',e=.ref x->X.mg c=some C->H x=none->Heap.HeldW B X.stack x C (.ref t) L h'->s.heap.UpToSlots h' ->
   (∀b o,s.heap.get? b=some o->(H b≠none\/((∃o0,X.s₀.heap.get? b=some o0)/\b∉X.fs/\b∉X.ex)\/((∃y,X.env.cells.lookup y=some b)/\b∉mI X.stack)\/∃p∈X.pn++pins,p.1=b)->B.get? b=some o)->Q () { s with heap:=h' }) :
  wpAny M X.A (noteFrame e Me) Q E s:=by
 obtain⟨x,C,t,B,rfl,hC,hx,st,nx,ff,tr,cov⟩:=f.ex
 rw[rK]at ff hA
 rcases tr with tr|⟨oe,vs,he,rfl,_,hd,h1,h0⟩|⟨L',hL,tr⟩
 ·exact wpAny_looks_onW hA PQ ⟨st,nx,ff,tr⟩ fun h1 hh u1=>h x C t B h1 rfl hC hx (by rw[rK];exact hh) u1 cov
 ·unfold noteFrame
  simp only[PQ]
  refine ah (fV he hd h1 ?_)
  rw[aD (by decide)]
  refine wpAny_entryW hA ff PQ he st nx hd (Array.getElem?_eq_some_iff.mp h1).1 h0 fun h' hN=>?_
  obtain⟨k1,k2,k3,k4⟩:=hN
  exact h x _ t B h' rfl hC hx ⟨k1,nx,by rw[rK];exact k2,k3⟩ k4 cov
 ·rw[RJ]at hL
  cases hL
  exact mG PQ tr (h x C t B s.heap rfl hC hx ⟨st,nx,by rw[rK];exact ff,tr⟩ (Heap.UpToSlots.refl _) cov)
section
variable{X:Cx}{oh tg iter:Expr}{scope:Scope}{pos:Pos}{nm:List Str}{wi:TI}{g:TG}{te:Cx->TE}
end
section
variable{X:Cx}{oh tg iter:Expr}{scope:Scope}{pos:Pos}{nm:List Str}{fi:FI}{f:FG}{el:FE}
end
theorem DK.key_inj{a b:DK}:a.key=b.key↔a=b:=by
 cases a<;>cases b<;>simp[DK.key,y4]
def DK.w:DK->W
 |.i z=>.int z
 |.s l=>.str l
def jZ:W->Option DK
 |.int z=>some (.i z)
 |.str l=>some (.s l)
 |_=>none
theorem pE{K:Frag}{μ:List Addr}{H:Hp}{w:W}{k:DK}{v:V}(h:jZ w=some k)(r:bh K μ H w v):v=kV k.key:=by
 cases w with
 |int z=>cases h;exact r.intE
 |str l=>cases h;exact r.strE
 |_=>cases h
theorem DK.w_rel{K:Frag}{μ:List Addr}{H:Hp}(k:DK):bh K μ H k.w (kV k.key):=by
 cases k with
 |i z=>exact .int
 |s l=>exact .str
def kt(kvs:List (DK×W))(k:DK):Option W:=(kvs.find? fun p=>decide (p.1=k)).map fun p=>p.2
def sE(kvs:List (DK×W))(k:DK)(v:W):List (DK×W):=if (kvs.any fun p=>decide (p.1=k))=true then kvs.map fun p=>if p.1=k then(p.1,v)else p else kvs++[(k,v)]
def j0(kvs:List (DK×W))(k:DK):List (DK×W):=kvs.filter fun p=>decide (p.1≠k)
abbrev dV(kvs:List (DK×W))(vs:List V):List (gc×V):=(kvs.map fun p=>p.1.key).zip vs
section
variable{K:Frag}{μ:List Addr}{H:Hp}
theorem vP:∀{kvs:List (DK×W)} {vs:List V} (k:DK),RelWs K μ H (kvs.map fun p=>p.2) vs->(∃w v,kt kvs k=some w/\jp (dV kvs vs) k.key=some v/\bh K μ H w v)\/(kt kvs k=none/\jp (dV kvs vs) k.key=none)
 |[],vs,k,r=>.inr ⟨rfl,rfl⟩
 |p::kvs,vs,k,r=>by
  obtain⟨x,xs,rfl,a,b⟩:=RelWs.consE r
  have ih:=vP (kvs:=kvs) k b
  by_cases h:p.1=k
  ·refine .inl ⟨p.2,x,?_,?_,a⟩
   ·unfold kt;rw[br];simp[h]
   ·show jp ((p.1.key,x)::dV kvs xs) k.key=some x
    exact nj (by rw[h])
  ·have e1:kt (p::kvs) k=kt kvs k:=by unfold kt;rw[br];simp[h]
   have e2:jp (dV (p::kvs) (x::xs)) k.key=jp (dV kvs xs) k.key:=o_ (p:=(p.1.key,x)) fun z=>h (DK.key_inj.mp z)
   rw[e1,e2];exact ih
theorem DU:∀{kvs:List (DK×W)} {vs:List V} (k:DK),RelWs K μ H (kvs.map fun p=>p.2) vs->((dV kvs vs).any fun kv=>decide (kv.1=k.key))=(kvs.any fun p=>decide (p.1=k))
 |[],vs,k,r=>rfl
 |p::kvs,vs,k,r=>by
  obtain⟨x,xs,rfl,a,b⟩:=RelWs.consE r
  show(decide (p.1.key=k.key)||(dV kvs xs).any _)=(decide (p.1=k)||kvs.any _)
  rw[DU k b]
  congr 1
  rw[decide_eq_decide];exact DK.key_inj
theorem DV{k:DK}{w:W}{v:V}:∀{kvs:List (DK×W)} {vs:List V},RelWs K μ H (kvs.map fun p=>p.2) vs->bh K μ H w v->∃us,(dV kvs vs).map (fun kv=>if kv.1=k.key then(kv.1,v)else kv)=dV (kvs.map fun p=>if p.1=k then(p.1,w)else p) us/\RelWs K μ H ((kvs.map fun p=>if p.1=k then(p.1,w)else p).map fun p=>p.2) us
 |[],vs,r,kJ=>⟨[],rfl,.nilI⟩
 |p::kvs,vs,r,kJ=>by
  obtain⟨x,xs,rfl,a,b⟩:=RelWs.consE r
  obtain⟨us,e,q⟩:=DV (k:=k) b kJ
  by_cases h:p.1=k
  ·refine⟨v::us,?_,?_⟩
   ·show(if p.1.key=k.key then(p.1.key,v)else(p.1.key,x))::(dV kvs xs).map _=_
    rw[ax (by rw[h]),e,aR,ax h];rfl
   ·rw[aR,ax h];exact .consI kJ q
  ·refine⟨x::us,?_,?_⟩
   ·show(if p.1.key=k.key then(p.1.key,v)else(p.1.key,x))::(dV kvs xs).map _=_
    rw[aD (fun z=>h (DK.key_inj.mp z)),e,aR,aD h];rfl
   ·rw[aR,aD h];exact .consI a q
theorem DW{kvs:List (DK×W)}{vs:List V}{k:DK}{w:W}{v:V}(r:RelWs K μ H (kvs.map fun p=>p.2) vs)(kJ:bh K μ H w v):∃us,lS (dV kvs vs) k.key v=dV (sE kvs k w) us/\RelWs K μ H ((sE kvs k w).map fun p=>p.2) us:=by
 unfold lS sE
 rw[DU k r]
 by_cases h:(kvs.any fun p=>decide (p.1=k))=true
 ·rw[ax h,ax h]
  exact DV r kJ
 ·rw[aD h,aD h]
  refine⟨vs++[v],?_,?_⟩
  ·unfold dV
   rw[dz,List.zip_append (by rw[al,<- r.len,al])];rfl
  ·rw[dz];exact r.app (.consI kJ .nilI)
theorem AN{k:DK}:∀{kvs:List (DK×W)} {vs:List V},RelWs K μ H (kvs.map fun p=>p.2) vs->∃us,mK (dV kvs vs) k.key=dV (j0 kvs k) us/\RelWs K μ H ((j0 kvs k).map fun p=>p.2) us
 |[],vs,r=>⟨[],rfl,.nilI⟩
 |p::kvs,vs,r=>by
  obtain⟨x,xs,rfl,a,b⟩:=RelWs.consE r
  obtain⟨us,e,q⟩:=AN (k:=k) b
  by_cases h:p.1=k
  ·refine⟨us,?_,?_⟩
   ·have e1:j0 (p::kvs) k=j0 kvs k:=by unfold j0;rw[bU];simp[h]
    rw[e1]
    exact(BO (p:=(p.1.key,x)) (by rw[h])).trans e
   ·have e1:j0 (p::kvs) k=j0 kvs k:=by unfold j0;rw[bU];simp[h]
    rw[e1];exact q
  ·have e1:j0 (p::kvs) k=p::j0 kvs k:=by unfold j0;rw[bU];simp[h]
   refine⟨x::us,?_,?_⟩
   ·rw[e1]
    exact(BP (p:=(p.1.key,x)) fun z=>h (DK.key_inj.mp z)).trans (fB (List.cons (p.1.key,x)) e)
   ·rw[e1];exact .consI a q
theorem vQ{kvs:List (DK×W)}{vs:List V}(r:RelWs K μ H (kvs.map fun p=>p.2) vs):(dV kvs vs).length=kvs.length:=by
 unfold dV;rw[List.length_zip,al,<- r.len,al,Nat.min_self]
theorem fF.butD{l:Addr}{xs:List (gc×V)}{H':Hp}(e:BS l H H')(hl:H l=some (.dK xs)):ej K H H':=by
 have m5:∀{p:Addr} {o:HO},H p=some o->(∀zs,o≠.dK zs)->p≠l:=fun{p o} q hn z=>by subst z;rw[hl]at q;cases q;exact hn _ rfl
 refine⟨fun p ys h=>?_,fun b o u h=>e _ _ (m5 h (fun _ z=>by cases z)) h⟩
 rcases h with(h|⟨o,h⟩)|h
 ·exact .inl (.inl (e _ _ (m5 h (fun _ z=>by cases z)) h))
 ·exact .inl (.inr ⟨o,e _ _ (m5 h (fun _ z=>by cases z)) h⟩)
 ·exact .inr h
end
theorem ia.setD{K:Frag}{mg:Str->Option Value}{μ:List Addr}{st:List ao}{H:Hp}(S:ia K mg μ st H){n:Nat}{a:Addr}{kvs kY:List (DK×W)}{xs:List (gc×V)}{us:List V}(hn:st[n]?=some (.dct kvs))(hm:μ[n]?=some a)(ha:H a=some (.dK xs))(hr:RelWs K μ H (kY.map fun p=>p.2) us) :
  ia K mg μ (st.set n (.dct kY)) (fx H a (.dK (dV kY us))):=
 S.setG hn rfl hm ha (fun _ _ z=>by cases z) (fun _ z=>by cases z) (fF.butD gv ha) rfl ⟨us,eD,hr.mono (aj _) (fF.butD gv ha)⟩
def jG(st:List ao):W->Option (Nat×List (DK×W))
 |.loc n=>(match st[n]? with
  |some (.dct kvs)=>some (n,kvs)
  |some (.rod kvs)=>some (n,kvs)
  |_=>none)
 |_=>none
def qX(st:List ao):W->Option (Nat×List (DK×W))
 |.loc n=>(match st[n]? with
  |some (.dct kvs)=>some (n,kvs)
  |_=>none)
 |_=>none
theorem sF{K:Frag}{mg:Str->Option Value}{μ:List Addr}{st:List ao}{H:Hp}(S:ia K mg μ st H){x:W}{v:V}{n:Nat}{kvs:List (DK×W)}(h:jG st x=some (n,kvs))(r:bh K μ H x v) :
  ∃a vs,(st[n]?=some (.dct kvs)\/st[n]?=some (.rod kvs))/\μ[n]?=some a/\v=.ref a/\Rd H a (.dK (dV kvs vs))/\RelWs K μ H (kvs.map fun p=>p.2) vs:=by
 cases x with
 |loc m=>
  simp only[jG]at h
  cases e:st[m]? with
  |none=>rw[e]at h;cases h
  |some c=>
   rw[e]at h
   cases c with
   |dct z=>
    cases h
    obtain⟨a,g,vs,k,rr⟩:=S.get e
    obtain⟨b,f,rfl⟩:=r.locE
    rw[g]at f;cases f
    exact⟨a,vs,.inl e,g,rfl,.inl k,rr⟩
   |rod z=>
    cases h
    obtain⟨a,g,vs,o,k,rr⟩:=S.get e
    obtain⟨b,f,rfl⟩:=r.locE
    rw[g]at f;cases f
    exact⟨a,vs,.inr e,g,rfl,.inr ⟨o,k⟩,rr⟩
   |_=>cases h
 |_=>cases h
theorem rg{K:Frag}{mg:Str->Option Value}{μ:List Addr}{st:List ao}{H:Hp}(S:ia K mg μ st H){x:W}{v:V}{n:Nat}{kvs:List (DK×W)}(h:qX st x=some (n,kvs))(r:bh K μ H x v) :
  ∃a vs,st[n]?=some (.dct kvs)/\μ[n]?=some a/\v=.ref a/\H a=some (.dK (dV kvs vs))/\RelWs K μ H (kvs.map fun p=>p.2) vs:=by
 cases x with
 |loc m=>
  simp only[qX]at h
  cases e:st[m]? with
  |none=>rw[e]at h;cases h
  |some c=>
   rw[e]at h
   cases c with
   |dct z=>
    cases h
    obtain⟨a,g,vs,k,rr⟩:=S.get e
    obtain⟨b,f,rfl⟩:=r.locE
    rw[g]at f;cases f
    exact⟨a,vs,e,g,rfl,k,rr⟩
   |_=>cases h
 |_=>cases h
theorem qV.r{H:Hp}{a:Addr}{kvs:List (gc×V)}{k:gc}(e:Rd H a (.dK kvs)):qV H a (kV k) (jp kvs k):=.inl ⟨kvs,k,e,rfl,rfl⟩
section
variable{X:Cx}{a b c d e o i:Expr}{es:List Expr}{pos p p2 iD fT du:Pos}{x name:Str}{fa fb fc fe fo fi:FE}{fs:FA}{kk:Nat}
def vR(Ac:Bool)(x y:W)(st:List ao):R W:=match jG st y with
 |some (_,kvs)=>(match jZ x with
  |some k=>.ok (.bl (if Ac then !(kt kvs k).isSome else(kt kvs k).isSome)) st
  |none=>.bad)
 |none=>BZ Ac x y st
theorem B8{K:Frag}{μ:List Addr}{H:Hp}{kvs:List (DK×W)}{vs:List V}{k:DK}(r:RelWs K μ H (kvs.map fun p=>p.2) vs):(jp (dV kvs vs) k.key).isSome=(kt kvs k).isSome:=by
 rcases vP k r with⟨w,v,e1,e2,_⟩|⟨e1,e2⟩<;>rw[e1,e2]<;>rfl
theorem xG(hr:gD kk X.A)(ho:rY X (compareOp .NotIn) (BZ true)):rY X (compareOp .NotIn) (vR true):=⟨fun pins s σ H x y v u Q I rv ru ⟨μ,st,wx,wy,S,rx,ry,q⟩=>by
 unfold vR at q
 cases e:jG st wy with
 |none=>rw[e]at q;exact ho.h pins s σ H x y v u Q I rv ru ⟨μ,st,wx,wy,S,rx,ry,q⟩
 |some nk=>
  obtain⟨n,kvs⟩:=nk
  rw[e]at q
  cases ek:jZ wx with
  |none=>simp only[ek]at q;exact q.elim
  |some k=>
   simp only[ek]at q
   obtain⟨a,vs,_,_,rfl,ha,r⟩:=sF S e ry
   have:=pE ek rx
   subst this
   obtain rfl:u=Value.ref a:=ru
   refine GU (De hr) I (qV.r ha) rv fun s' I'=>?_
   rw[B8 r]
   exact⟨.bl _,H,I',rfl,lX S q⟩,fun x y st=>by
 unfold vR
 split
 ·split<;>trivial
 ·exact ho.n x y st⟩
def iY(x y:W)(st:List ao):R W:=match jG st x,jZ y with
 |some (_,kvs),some k=>pq (kt kvs k) fun w=>.ok w st
 |_,_=>.bad
theorem lz(hr:gD kk X.A)(ha:SE X a fa)(hb:SE X b fb)(hs:Dg b:=by intro _ _;rfl):SE X (.Subscript a b pos) (e2 iY fa fb):=⟨(GV (De hr) ha.h hb.h hs).imp fun σ H Q h=>by
 obtain⟨μ,ρ,st,l,h⟩:=h
 refine⟨μ,ρ,st,l,RK.bind h l fun μ1 st1 x v H1 p1 x1 l1 q1 h1=>⟨μ1,ρ,st1,l1,RK.bind h1 l1 fun μ2 cQ y u H2 p2 x2 l2 q2 h2=>?_⟩⟩
 unfold iY at h2
 cases e1:jG cQ x with
 |none=>rw[e1]at h2;exact h2.elim
 |some nk=>
  obtain⟨n,kvs⟩:=nk
  cases e2:jZ y with
  |none=>rw[e1,e2]at h2;exact h2.elim
  |some k=>
   rw[e1,e2]at h2
   simp only at h2
   obtain⟨a,vs,_,_,rfl,ha,r⟩:=sF l2.sto e1 (q1.mono p2 x2)
   have:=pE e2 q2
   subst this
   rcases vP k r with⟨w,z,g1,g2,g3⟩|⟨g1,g2⟩
   ·rw[g1]at h2
    exact⟨a,z,rfl,by rw[<- g2];exact qV.r ha,h2 μ2 z H2 (aj _) ej.refl l2.sto g3⟩
   ·rw[g1]at h2;exact h2.elim⟩
def kF(x i v:W)(st:List ao):Option (List ao):=match qX st x,jZ i with
 |some (n,kvs),some k=>if kvs.length<jE then some (st.set n (.dct (sE kvs k v)))else none
 |_,_=>none
theorem qk(hr:gD kk X.A):yP X (AJ X kF):=fun pins s σ H o i v ov iv u Q I r1 r2 r3 ⟨μ,st,wo,wi,wv,bG,S,ro,ri,rv,e,q⟩=>by
 unfold kF at e
 cases e1:qX st wo with
 |none=>rw[e1]at e;cases e
 |some nk=>
  obtain⟨n,kvs⟩:=nk
  cases e2:jZ wi with
  |none=>rw[e1,e2]at e;cases e
  |some k=>
   rw[e1,e2]at e
   simp only at e
   split at e
   ·rename_i hl
    cases e
    obtain⟨a,vs,hn,hm,rfl,ha,r⟩:=rg S e1 ro
    have:=pE e2 ri
    subst this
    obtain rfl:ov=Value.ref a:=r1
    obtain⟨us,g1,g2⟩:=DW (k:=k) r rv
    refine BN (De hr) I (BL.k ha (by rw[vQ r];exact a6 hl (by decide))) r2 r3 fun s' I'=>⟨_,I',?_⟩
    rw[g1]
    exact q _ (fF.butD gv ha) (S.setD hn hm ha g2)
   ·cases e
def sH(ws:List W)(st:List ao):R W:=match ws with
 |[x]=>(match jG st x with
  |some (_,kvs)=>.ok (.int kvs.length) st
  |none=>fQ ws st)
 |_=>fQ ws st
theorem KU:mM X (.builtin "len") sH:=⟨fun pins s σ H vs us Q I rv ⟨μ,st,ws,S,r,q⟩=>by
 unfold sH at q
 split at q
 ·rename_i x
  split at q
  ·rename_i n kvs e
   obtain⟨y,rfl,ry⟩:=r.one
   obtain⟨a,vs,_,_,rfl,ha,rr⟩:=sF S e ry
   obtain⟨u,rfl,ru⟩:=lq rv
   obtain rfl:u=Value.ref a:=ru
   refine Nk I ha fun t s' I'=>⟨.int kvs.length,H,I',⟨t,by rw[vQ rr]⟩,?_⟩
   exact q μ _ H (aj _) ej.refl S .int
  ·exact fJ.h pins s σ H _ us Q I rv ⟨μ,st,_,S,r,q⟩
 ·exact fJ.h pins s σ H _ us Q I rv ⟨μ,st,_,S,r,q⟩,fun ws st=>by
 unfold sH
 split
 ·split
  ·trivial
  ·exact(fJ (X:=X)).n _ _
 ·exact(fJ (X:=X)).n _ _⟩
def pF:FE:=fun _ st=>.ok (.loc st.length) (st++[.dct []])
theorem oP:SE X (.Dict [] [] pos) pF:=⟨Dh.imp fun σ H Q h=>by
 obtain⟨μ,ρ,st,l,h⟩:=h
 intro p hp
 have hs:kr H (fx H p (.dK [])):=cS hp _
 exact h (μ++[p]) (.ref p) _ (aC _ _) (fF.same hs) (l.sto.push (c:=.dct []) hp ⟨[],eD,.nilI⟩) (nq l.sto)⟩
abbrev FP:=bS->List ao->R (List (W×W))
def sI:FP:=fun _ st=>.ok [] st
def oQ(fk fv:FE)(fr:FP):FP:=fun ρ st=>(fk ρ st).bind fun k st=>(fv ρ st).bind fun v st=>(fr ρ st).bind fun ps st=>.ok ((k,v)::ps) st
abbrev QK(X:Cx):List Addr->Hp->List (W×W)->List (V×V)->Prop:=fun μ H ws vs=>RelWs X.K μ H (ws.map fun p=>p.1) (vs.map fun p=>p.1)/\RelWs X.K μ H (ws.map fun p=>p.2) (vs.map fun p=>p.2)
structure Py(X:Cx)(pos:Pos)(keys:List (Option Expr))(j7:List Expr)(f:FP):Prop where
 h:∃Am,Nm X pos keys j7 Am/\∀σ H Q,tG X (QK X) f σ H Q->vA Am σ H Q
theorem KW:Py X pos [] [] sI:=⟨[],GW,fun σ H Q h=>by
 obtain⟨μ,ρ,st,l,h⟩:=h
 exact h μ [] H (aj _) ej.refl l.sto ⟨.nilI,.nilI⟩⟩
theorem Ho{k v:Expr}{fk fv:FE}{fr:FP}{ks:List (Option Expr)}{vs:List Expr}(hk:SE X k fk)(hv:SE X v fv)(hr:Py X pos ks vs fr):Py X pos (some k::ks) (v::vs) (oQ fk fv fr):=by
 obtain⟨Am,h1,h2⟩:=hr.h
 refine⟨(tE X fk,tE X fv)::Am,Di hk.h hv.h h1,fun σ H Q h=>?_⟩
 obtain⟨μ,ρ,st,l,h⟩:=h
 refine⟨μ,ρ,st,l,RK.bind h l fun μ1 st1 x1 v1 H1 p1 e1 l1 q1 h1=>⟨μ1,ρ,st1,l1,RK.bind h1 l1 fun μ2 cQ x2 v2 H2 p2 e2 l2 q2 h2'=>h2 _ _ _ ⟨μ2,ρ,cQ,l2,RK.bind h2' l2 fun μ3 jH x3 v3 H3 p3 e3 l3 q3 h3=>?_⟩⟩⟩
 exact h3 μ3 _ H3 (aj _) ej.refl l3.sto ⟨.consI (q1.mono (p2.trans p3) (e2.trans e3)) q3.1,.consI (q2.mono p3 e3) q3.2⟩
def keysOf:List (W×W)->Option (List (DK×W))
 |[]=>some []
 |(k,v)::r=>match jZ k,keysOf r with
  |some k,some r=>some ((k,v)::r)
  |_,_=>none
theorem uR{K:Frag}{μ:List Addr}{H:Hp}:∀{ps:List (W×W)} {kvs:List (DK×W)} {vs:List (V×V)},keysOf ps=some kvs->RelWs K μ H (ps.map fun p=>p.1) (vs.map fun p=>p.1)->RelWs K μ H (ps.map fun p=>p.2) (vs.map fun p=>p.2) ->
  ∃us,vs=(dV kvs us).map (fun kv=>(kV kv.1,kv.2))/\RelWs K μ H (kvs.map fun p=>p.2) us
 |[],kvs,vs,h,r1,r2=>by
  cases h
  have:vs=[]:=by simpa using r1.nilE
  subst this
  exact⟨[],rfl,.nilI⟩
 |(k,v)::r,kvs,vs,h,r1,r2=>by
  unfold keysOf at h
  cases e1:jZ k with
  |none=>rw[e1]at h;cases h
  |some k'=>
   cases e2:keysOf r with
   |none=>rw[e1,e2]at h;cases h
   |some r'=>
    rw[e1,e2]at h
    cases h
    cases vs with
    |nil=>obtain⟨_,_,z,_⟩:=r1.consE;cases z
    |cons q vs=>
     obtain⟨x,xs,z,a1,b1⟩:=r1.consE
     cases z
     obtain⟨x,xs,z,a2,b2⟩:=r2.consE
     cases z
     obtain⟨us,f1,f2⟩:=uR e2 b1 b2
     refine⟨q.2::us,?_,.consI a2 f2⟩
     obtain⟨q1,q2⟩:=q
     show(q1,q2)::vs=(kV k'.key,q2)::_
     rw[f1,show q1=kV k'.key from pE e1 a1]
     rfl
def zt(acc kvs:List (DK×W)):List (DK×W):=kvs.foldl (fun acc p=>sE acc p.1 p.2) acc
theorem xH{K:Frag}{μ:List Addr}{H:Hp}:∀{kvs acc:List (DK×W)} {vs us:List V},RelWs K μ H (kvs.map fun p=>p.2) vs->RelWs K μ H (acc.map fun p=>p.2) us->∃zs,no (dV acc us) (dV kvs vs)=dV (zt acc kvs) zs/\RelWs K μ H ((zt acc kvs).map fun p=>p.2) zs
 |[],acc,vs,us,r1,r2=>⟨us,rfl,r2⟩
 |p::kvs,acc,vs,us,r1,r2=>by
  obtain⟨x,xs,rfl,a,b⟩:=RelWs.consE r1
  obtain⟨zs,e,q⟩:=DW (k:=p.1) r2 a
  obtain⟨ys,e2,q2⟩:=xH b q
  refine⟨ys,?_,q2⟩
  show no (lS (dV acc us) p.1.key x) (dV kvs xs)=_
  rw[e,e2];rfl
def uS(f:FP):FE:=fun ρ st=>(f ρ (st++[.dct []])).bind fun ps cQ=>match cQ[st.length]?,keysOf ps with
 |some (.dct []),some kvs=>if kvs.length<=15 then .ok (.loc st.length) (cQ.set st.length (.dct (zt [] kvs)))else .bad
 |_,_=>.bad
theorem KY{keys:List (Option Expr)}{j7:List Expr}{f:FP}(h:Py X pos keys j7 f)(m3:keys.all (·.isSome)=true:=by rfl)(hl:keys.length=j7.length:=by rfl)(h0:keys≠[]:=by intro z;cases z)(QX:keys.length<=15:=by decide) :
  SE X (.Dict keys j7 pos) (uS f):=by
 obtain⟨Am,h1,h2⟩:=h.h
 refine⟨(GX h1 m3 hl h0 QX).imp fun σ H Q hh=>?_⟩
 obtain⟨μ,ρ,st,l,hh⟩:=hh
 intro p hp
 have hs:kr H (fx H p (.dK [])):=cS hp _
 have S0:ia X.K X.mg (μ++[p]) (st++[.dct []]) (fx H p (.dK [])):=l.sto.push (c:=.dct []) hp ⟨[],eD,.nilI⟩
 have l0:Rl X (μ++[p]) ρ (st++[.dct []]) σ (fx H p (.dK [])):=l.to (aC _ _) (fF.same hs) S0
 refine h2 σ _ _ ⟨μ++[p],ρ,st++[.dct []],l0,RK.bind (RK.mono hh (aC _ _) (fF.same hs)) l0 fun μ2 cQ ps vs H2 p2 e2 l2 q2 h2'=>?_⟩
 have hm:μ2[st.length]?=some p:=L2.pre_get p2 (by rw[l.sto.len];simp)
 split at h2'
 ·rename_i kvs ec ek
  split at h2'
  ·rename_i hle
   obtain⟨us,f1,f2⟩:=uR ek q2.1 q2.2
   have hd:H2 p=some (.dK []):=by
    obtain⟨a,g,vs0,k,_⟩:=l2.sto.get ec
    rw[hm]at g;cases g
    exact k
   obtain⟨zs,g1,g2⟩:=xH (acc:=[]) (us:=[]) f2 .nilI
   have dw:(dV kvs us).length=kvs.length:=vQ f2
   refine⟨hd,dV kvs us,f1,by rw[dw];exact hle,?_⟩
   rw[show no ([]:List (gc×V)) (dV kvs us)=_ from g1]
   exact h2' μ2 (.ref p) _ (aj _) (fF.butD gv hd) (l2.sto.setD ec hm hd g2) (.locI hm)
  ·exact h2'.elim
 ·exact h2'.elim
def AO(fo fk:FE):FE:=fun ρ st=>(fo ρ st).bind fun x st=>match qX st x with
 |some _=>(fk ρ st).bind fun y st=>(match qX st x,jZ y with
  |some (n,kvs),some k=>pq (kt kvs k) fun w=>.ok w (st.set n (.dct (j0 kvs k)))
  |_,_=>.bad)
 |none=>.bad
theorem KZ(ho:SE X o fo)(he:SE X e fe)(m:M1 X o "pop" fT e du:=by exact⟨by rfl,by rfl,by rfl,by rfl⟩):SE X (.Call (.Attribute o "pop" fT) [e] [] du) (AO fo fe):=⟨(Dj ho.h he.h m).imp fun σ H Q h=>by
 obtain⟨μ,ρ,st,l,h⟩:=h
 refine⟨μ,ρ,st,l,RK.bind h l fun μ1 st1 x v H1 p1 x1 l1 q1 h1=>?_⟩
 cases e0:qX st1 x with
 |none=>rw[e0]at h1;exact h1.elim
 |some nk0=>
  obtain⟨n0,kvs0⟩:=nk0
  rw[e0]at h1
  simp only at h1
  obtain⟨a0,vs0,_,PV,rfl,ha0,_⟩:=rg l1.sto e0 q1
  refine⟨a0,rfl,.inl ⟨_,.inl ha0⟩,μ1,ρ,st1,l1,RK.bind h1 l1 fun μ2 cQ y u H2 p2 x2 l2 q2 h2=>?_⟩
  cases e1:qX cQ x with
  |none=>rw[e1]at h2;exact h2.elim
  |some nk=>
   obtain⟨n,kvs⟩:=nk
   cases e2:jZ y with
   |none=>rw[e1,e2]at h2;exact h2.elim
   |some k=>
    rw[e1,e2]at h2
    simp only at h2
    obtain⟨a,vs,hn,hm,ea,ha,r⟩:=rg l2.sto e1 (q1.mono p2 x2)
    cases ea
    have:=pE e2 q2
    subst this
    rcases vP k r with⟨w,z,g1,g2,g3⟩|⟨g1,g2⟩
    ·rw[g1]at h2
     obtain⟨us,f1,f2⟩:=AN (k:=k) r
     refine⟨_,k.key,z,ha,rfl,g2,?_⟩
     rw[f1]
     exact h2 μ2 z _ (aj _) (fF.butD gv ha) (l2.sto.setD hn hm ha f2) (g3.mono (aj _) (fF.butD gv ha))
    ·rw[g1]at h2;exact h2.elim⟩
end
def xI(h:Heap)(mg:Str->Option Value):Prop:=∃bm o,mg "__builtins__"=some (.ref bm)/\bm≠builtinsNs/\h.get? bm=some o/\o.cls=.type "module"/\o.dict=some builtinsNs/\o.data=.plain
structure IM(ts:List Addr)(H:Hp):Prop where
 all:∀b,H b=none\/(∃o xs,H b=some (.frz o (.lst xs)))\/(b∈ts/\H b=some (.tbl #[]))
 tab:∀T∈ts,H T=some (.tbl #[])
theorem B9{P:Program}{w:World}{K:Frag}{mg mb:Str->Option Value}{CX:Ao}{k:Nat}{fa a:Addr}{fd:FuncData}{x:Str}{sp:Sp}{s₁:Shared}{vs:List Value}{ns:List Int}{ts:List Addr}
  (KX:K.In s₁.heap) (MA:s₁.heap.Ns mainGlobals mg) (hb:s₁.heap.Ns builtinsNs mb) (RI:∀x:Str,x ≠ "__name__"->mb x=bootBuiltins x) (Q1:s₁.heap.NoLimit) (hg:s₁.gens=#[])
  (ha:s₁.heap.get? a=some { cls:=.type "list",data:=.seq vs.toArray }) (hi:IntsAre vs ns) (hl:ns.length<=sizeLine) (hr:gD k callerA)
  (ht:∀T∈ts,s₁.heap.get? T=some { cls:=.none,data:=.fields #[] }) (Q4:∀T∈ts,K.lookup T=none) (PR:∀T∈ts,isCodeTable s₁.heap T)
  (RP:xI s₁.heap mg) (F:∀base:Heap,K.In base->base.Ns mainGlobals mg->xI base mg->eV P w K mg base CX k fa fd [x] sp) (O_:∀(s:Shared) (u:Value),BindsTo s fd ⟨[u],[]⟩ [(x,u)])
  (JG:∀H:Hp,IM ts H->nL K H a (ns.map V.int)->sp [.ref a] H (fun v _=>v=.bl true) fun _ _ _=>False)
  (RL:∀H e s',CX [] H s₁ (fun _ _ _=>False) e s'->False) :
  codeAny (model P w) callerA (.call (.ref fa) ⟨[.ref a],[]⟩) (fun r s'=>r=.ok (.ret (.bool true))/\OldK s₁.heap s'.heap/\s'.os=s₁.os/\AllBare s'.gens) s₁:=by
 have rv:=uC hi
 have lenV:=hi.length
 have hta:∀T∈ts,T≠a:=fun T hT z=>by
  have:=ht T hT
  rw[z,ha]at this
  have h2:=fB Obj.cls (a9 this)
  cases h2
 have core:∀H:Hp,IM ts H->nL K H a (ns.map V.int)->n6 P w H s₁.heap->(∀b,H b≠none->b=a\/b∈ts)->(H a≠none->K.lookup a=none) ->
   codeAny (model P w) callerA (.call (.ref fa) ⟨[.ref a],[]⟩) (fun r s'=>r=.ok (.ret (.bool true))/\OldK s₁.heap s'.heap/\s'.os=s₁.os/\AllBare s'.gens) s₁:=by
  intro H hO hS hok hA hK
  have base_of:∀{b:Addr} {o:Obj},s₁.heap.get? b=some o->H b=none->(tU s₁.heap H).get? b=some o:=fun e n=>CY e n
  have noA:∀{b:Addr} {o:Obj} {es:Array DictEntry} {ep:Nat},s₁.heap.get? b=some o->o.data=.dict es ep->H b=none:=fun{b o es ep} e d=>by
   cases q:H b with
   |none=>rfl
   |some u=>
    rcases hA b (by rw[q];simp)with e'|e'
    ·subst e'
     rw[ha]at e;cases e
     have d':Data.seq vs.toArray _=Data.dict es ep:=d
     cases d'
    ·rw[ht b e']at e;cases e
     have d':Data.fields _=Data.dict es ep:=d
     cases d'
  have nsK:∀{b:Addr} {m:Str->Option Value},s₁.heap.Ns b m->(tU s₁.heap H).Ns b m:=fun{b m} ⟨o,es,ep,e,d,r⟩=>⟨o,es,ep,base_of e (noA e d),d,r⟩
  have hKb:K.In (tU s₁.heap H):=fun b o e=>base_of (KX b o e) (by
   cases q:H b with
   |none=>rfl
   |some u=>
    rcases hA b (by rw[q];simp)with e'|e'
    ·subst e'
     rw[hK (by rw[q];simp)]at e;cases e
    ·rw[Q4 b e']at e;cases e)
  have hbk':xI (tU s₁.heap H) mg:=by
   obtain⟨bm,o,b1,b2,b3,b4,b5,b6⟩:=RP
   refine⟨bm,o,b1,b2,base_of b3 ?_,b4,b5,b6⟩
   cases q:H bm with
   |none=>rfl
   |some u=>
    rcases hA bm (by rw[q];simp)with e'|e'
    ·subst e'
     rw[ha]at b3;cases b3;exact absurd b4 (by simp)
    ·rw[ht bm e']at b3;cases b3;cases b4
  have hM:Mod K mg (tU s₁.heap H):=⟨hKb,nsK MA,⟨mb,nsK hb,RI⟩,let ⟨mc,h1,h2⟩:=Q1;⟨mc,nsK h1,h2⟩⟩
  have e0:w_ P w K mg (tU s₁.heap H) callerA [] s₁ H:=⟨rfl,hM,fun b o e=>Gs e,Nat.le_of_eq (Bw _ _),trivial,fun b hb=>absurd (show b∈([]:List Addr)from hb) (by simp),hok,.of_eq hg⟩
  refine my ((F _ hKb (nsK MA) hbk').run callerA [] s₁ H ⟨[.ref a],[]⟩ [.ref a] [.ref a] _ _ hr e0 (O_ s₁ (.ref a)) (.cons rfl .nil) (JG H hO hS)) fun r s' h=>?_
  cases r with
  |error e=>exact(RL H e s' h).elim
  |ok fl=>
   cases fl with
   |next=>exact False.elim h
   |brk=>exact False.elim h
   |cont=>exact False.elim h
   |ret u=>
    obtain⟨v,H',os,bare,un,hok',r',q⟩:=h
    have q':v=.bl true:=q
    subst q'
    obtain rfl:u=Value.bool true:=r'
    have was:∀b o,s₁.heap.get? b=some o->asItWas s₁.heap s'.heap b o/\∃o',s'.heap.get? b=some o':=fun b o e=>by
     cases q:H b with
     |none=>
      have:=un.keep b o e q (by intro z;exact absurd (show b∈([]:List Addr)from z) (by simp)) (by simp)
      exact⟨.inl this,_,this⟩
     |some u=>
      rcases hO.all b with z|⟨ob,xs,z⟩|⟨hbt,z⟩
      ·rw[q]at z;cases z
      ·have z2:=un.frzs b ob _ z
       obtain⟨e1,_⟩:=hok b _ z
       obtain⟨e2,_⟩:=hok' b _ z2
       rw[e]at e1;cases e1
       exact⟨.inl e2,_,e2⟩
      ·obtain⟨kZ,z2⟩:=un.tbls b _ z
       have e2:s'.heap.get? b=some { cls:=.none,data:=.fields (#[]++kZ) }:=hok' b _ z2
       rw[ht b hbt]at e
       cases e
       exact⟨.inr (.inl ⟨PR b hbt,rfl,#[],kZ,rfl,e2⟩),_,e2⟩
    exact⟨rfl,⟨fun b o e=>(was b o e).1,fun b o e=>(was b o e).2⟩,os,bare⟩
 have tb:∀(f:Hp),(∀T∈ts,f T=some (.tbl #[]))->∀T∈ts,eZ P w f s₁.heap T (.tbl #[]):=fun f _ T hT=>ht T hT
 have dec:∀b:Addr,b∈ts\/b∉ts:=fun b=>Classical.em _
 open Classical in
 cases hk:K.lookup a with
 |some o=>
  have e:=KX a o hk
  rw[ha]at e
  cases e
  refine core (fun b=>if b∈ts then some (.tbl #[])else none) ⟨fun b=>?_,fun T hT=>ax hT⟩ (.inr ⟨_,vs.toArray,_,hk,rfl,rfl,rfl,by rw[aJ,lenV];exact hl,by simpa using rv⟩) (fun b u z=>?_) (fun b z=>?_) (fun z=>?_)
  ·by_cases hb:b∈ts
   ·exact .inr (.inr ⟨hb,ax hb⟩)
   ·exact .inl (aD hb)
  ·by_cases hb:b∈ts
   ·have z':=(ax hb).symm.trans z
    cases z'
    exact ht b hb
   ·have z':=(aD hb).symm.trans z
    cases z'
  ·by_cases hb:b∈ts
   ·exact .inr hb
   ·exact absurd (aD hb) z
  ·exact absurd (aD (fun q=>hta a q rfl)) z
 |none=>
  refine core (fun b=>if b=a then some (.frz { cls:=.type "list",data:=.seq vs.toArray } (.lst (ns.map V.int)))else if b∈ts then some (.tbl #[])else none) ⟨fun b=>?_,fun T hT=>(aD (hta T hT)).trans (ax hT)⟩ (.inl (.inr ⟨{ cls:=.type "list",data:=.seq vs.toArray },ax rfl⟩)) (fun b u z=>?_) (fun b z=>?_) (fun _=>hk)
  ·by_cases hb:b=a
   ·exact .inr (.inl ⟨_,_,ax hb⟩)
   ·by_cases hb2:b∈ts
    ·exact .inr (.inr ⟨hb2,(aD hb).trans (ax hb2)⟩)
    ·exact .inl ((aD hb).trans (aD hb2))
  ·by_cases hb:b=a
   ·have z':=(ax hb).symm.trans z
    cases z'
    subst hb
    exact⟨ha,by rw[al];exact hl,vs,_,rv,ha⟩
   ·by_cases hb2:b∈ts
    ·have z':=((aD hb).trans (ax hb2)).symm.trans z
     cases z'
     exact ht b hb2
    ·have z':=((aD hb).trans (aD hb2)).symm.trans z
     cases z'
  ·by_cases hb:b=a
   ·exact .inl hb
   ·by_cases hb2:b∈ts
    ·exact .inr hb2
    ·exact absurd ((aD hb).trans (aD hb2)) z
def DY(tc:List ao)(F:List W->List ao->R W):Prop:=∀ns:List Int,ns.length<=63->∃bG,F [.loc 0] (.ro (ns.map W.int)::tc)=.ok (.bl true) bG
def vS(L:List (Addr×Pos×Str)):List ao:=L.map fun t=>.tab t.1 t.2.1 t.2.2
theorem walkT{l:PySem.W.OpenLaw}{k:Nat}{q:Program}{Bq:List Str}{XP:(Str->Option Value)->Heap->Prop}{YP:World->Heap->Prop}{d:DefRec}{K:Params->Frag}{x:Str}{G:List W->List ao->R W}(L:List (Addr×Pos×Str))(hL:(L.map fun t=>t.1).Nodup)(hn:l.most=some 63)(QT:d.params.defaults=[])(hr:gD k callerA)
  (hY:∀(w:World) (h:Heap),YP w h->(K w.params).In h) (hT:∀(w:World) (h:Heap),YP w h->∀T∈L.map (fun t=>t.1),h.get? T=some { cls:=.none,data:=.fields #[] })
  (Q4:∀(w:World),∀T∈L.map (fun t=>t.1),(K w.params).lookup T=none) (PR:∀(w:World),∀T∈L.map (fun t=>t.1),∃c,codeHdIn (K w.params) c T=true)
  (F:∀(w:World) (mg:Str->Option Value) (fa:Addr) (h:Heap),(K w.params).In h->h.Ns mainGlobals mg->mg d.name=some (.ref fa) ->
   ∃fd:FuncData,(∀(s:Shared) (u:Value),BindsTo s fd ⟨[u],[]⟩ [(x,u)])/\∀base:Heap,(K w.params).In base->base.Ns mainGlobals mg->xI base mg->eV l.prog w (K w.params) mg base (kD l.prog w) k fa fd [x] (ly (K w.params) mg 1 G))
  (ok:DY (vS L) G):PySem.W.WalkO q Bq XP YP l.row.toRowW d [] (fun f vs=>PySem.call f vs):=by
 refine Att.attach_call hn QT fun w s₀ s₁ mg mb fa o pm cd re a vs ns G' Y ho hd nZ hmg hobj hints dw hg=>?_
 have KX:=hY w _ Y
 obtain⟨fd,hb,hF⟩:=F w mg fa _ KX G'.T.g hmg
 refine B9 (ts:=L.map fun t=>t.1) (CX:=kD l.prog w) (sp:=ly (K w.params) mg 1 G) KX G'.T.g G'.T.b G'.T.builtins G'.T.nolimit hg hobj hints (aV dw (by decide)) hr (hT w _ Y) (Q4 w) (fun T hT'=>?_) G'.T.bmain hF hb (fun H hO hS=>?_) fun H e s' z=>?_
 ·obtain⟨c,hc⟩:=PR w T hT'
  obtain⟨o,vs,_,_,_,_,_,_,_,e1,e2,e3,e4,_⟩:=PySem.W.codeHd_of_K KX hc
  exact⟨c,o,vs,e1,e2,e3,e4⟩
 ·obtain⟨bG,e⟩:=ok ns dw
  have tS:Pt (K w.params) H a (ns.map V.int):=by
   rcases hS with(z|⟨o,z⟩)|z
   ·rcases hO.all a with y|⟨o,xs,y⟩|⟨_,y⟩
    ·rw[z]at y;cases y
    ·rw[z]at y;cases y
    ·rw[z]at y;cases y
   ·exact .inl ⟨o,z⟩
   ·exact .inr z
  have hta:∀T∈L.map (fun t=>t.1),T≠a:=fun T hT' z=>by
   have:=hT w _ Y T hT'
   rw[z,hobj]at this
   have h2:=fB Obj.cls (a9 this)
   cases h2
  have hri:∀μ:List Addr,RelWs (K w.params) μ H (ns.map W.int) (ns.map V.int):=fun μ=>by
   clear hS tS e dw hints
   induction ns with
   |nil=>exact .nilI
   |cons n r ih=>exact .consI .int ih
  refine⟨rfl,a::L.map (fun t=>t.1),[.loc 0],.ro (ns.map W.int)::vS L,⟨fun i j b ci cj c1 c2 r1 r2 m1 m2=>?_,by simp[vS],fun i c b c1 c2=>?_⟩,.consI (.locI rfl) .nilI,?_⟩
  ·cases i with
   |zero=>cases c1;cases r1
   |succ i=>
    cases j with
    |zero=>cases c2;cases r2
    |succ j=>
     simp only[iy]at m1 m2
     rw[(List.getElem?_inj (aa.mp m1).1 hL).mp (m1.trans m2.symm)]
  ·cases i with
   |zero=>cases c1;cases c2;exact⟨_,tS,hri _⟩
   |succ i=>
    simp only[iy]at c1 c2
    unfold vS at c1
    rw[ar]at c1 c2
    cases e1:L[i]? with
    |none=>rw[e1]at c1;cases c1
    |some t=>
     rw[e1]at c1 c2
     cases c1;cases c2
     exact⟨rfl,#[],hO.tab _ (aS.mpr ⟨t,aN e1,rfl⟩),trivial,.inl rfl⟩
  ·rw[e]
   intro μ' v H' _ _ _ rv
   exact rv.blE
 ·obtain⟨_,_,_,_,_,_,z,_⟩:=z
  exact z
structure DZ(en dn:Str)(pr:Arguments)(b:Expr)(sc:Scope):Prop where
 co:sc.isCoroutine=false
 gen:sc.isGenerator=false
 kind:sc.kind=.function
 cell:∀x∈sc.names,x.2≠.cell
 ke:sc.names.lookup en=some .local
 kd:sc.names.lookup dn=some .free
 bind:∀(nm q:Str) (cl:List (Str×Addr)) (pm gJ ct v:Value),bindArgs (PySem.W.kla_fn nm q pr b sc cl pm gJ ct) ⟨[v],[]⟩=pure [(en,v)]
 nd:(dn==("__classdict__":Str))=false
 d1:(en==("__debug__":Str))=false
 d2:(dn==("__debug__":Str))=false
section
variable{X:Cx}{pins:List (Addr×Obj)}{σ:St}{H:Hp}{s:Shared}{A:Around}{E:Value->Shared->Prop}{Q:Value->Shared->Prop}
theorem xJ{f c0 cd a:Addr}{en dn nm q:Str}{pr:Arguments}{p2 p3 p4:Pos}{sc:Scope}{pm ct u:Value}{kvs:List (gc×V)}{k:gc}{v:V}
  (T:DZ en dn pr (.Subscript (.Name dn p2) (.Name en p3) p4) sc) (I:bi X pins σ H s)
  (hf:s.heap.get? f=some (kla_obj nm q pr (.Subscript (.Name dn p2) (.Name en p3) p4) sc [(dn,c0)] pm cd ct)) (nZ:s.heap.CodeRec (.ref cd) q)
  (Ii:s.heap.IsCell c0 (some (.ref a))) (ha:H a=some (.dK kvs)) (hv:jp kvs k=some v) (ru:bN (kV k) u) (vm:A.depth<recursionLimit) (hu:A.units+8<cLine)
  (h:∀z h' t,(∀b o,s.heap.get? b=some o->h'.get? b=some o)->bi X pins σ H { s with heap:=h',toks:=t }->bN v z->Q z { s with heap:=h',toks:=t }) :
  wpAny (model X.prog X.w) A (call (.ref f) [u]) Q E s:=by
 refine wpAny_call ?_
 refine PySem.W.kla_callFunE vm hf rfl T.co T.gen rfl nZ ?_
 rw[T.bind]
 refine av (jm T.cell (fun y hy=>?_) (fun h₁ MA hsb=>?_) T.kind)
 ·have:y=(en,u):=by simpa using hy
  rw[this];exact T.ke
 ·have hk1:∀b o,s.heap.get? b=some o->h₁.get? b=some o:=fun b o e=>hsb.extBut b o (a8 (aF e)) (aq _ e)
  have I1:bi X pins σ H { s with heap:=h₁,toks:=s.toks+[(en,u)].length }:=I.kept hk1
  refine⟨I1.nolimit,PySem.W.kla_codeExpr ?_⟩
  obtain⟨z0,hd,vs,jl,dd⟩:=qF I1.hok (.inl ha)
  refine vz PySem.F.slot_dict_getitem.lookup (fun _ _=>rfl) (mj ?_ T.d2)
  refine wpAny_loadName_free (c:=c0) (v:=.ref a) T.kind ?_ ?_ (Ii.keeps hk1) ?_ T.nd
  ·show List.lookup dn sc.names=some .free
   exact T.kd
  ·show List.lookup dn [(dn,c0)]=some c0
   simp[List.lookup]
  refine mj ?_ T.d1
  refine wpAny_loadName_local (v:=u) T.kind ?_ MA ?_ ?_
  ·show List.lookup en sc.names=some .local
   exact T.ke
  ·simp[List.lookup]
  obtain⟨z,hz,rz⟩:=oJ.some_of (v:=v) (o:=valueAt vs k) (by rw[<- hv];exact jl.val k)
  refine⟨dd.typeIs,lK (rQ ru) dd.mapOf hz ?_⟩
  exact h z h₁ _ hk1 (I1.tok _) rz
def j3(kf:Nat->List Int):Nat->Nat
 |0=>0
 |j+1=>if HT.lexLt (kf (j+1)) (kf (j3 kf j))=true then j+1 else j3 kf j
theorem vT(kf:Nat->List Int):∀j,j3 kf j<=j
 |0=>aB _
 |j+1=>by unfold j3;have:=vT kf j;split<;>omega
theorem AQ{P:Program}{w:World}{k:gc}{v:Value}(h:(eU P w).is k v=true):bN (kV k) v:=by
 rcases eY h with⟨i,t,rfl,rfl⟩|⟨x,t,rfl,rfl⟩
 ·exact⟨t,rfl⟩
 ·exact⟨t,rfl⟩
structure nA(X:Cx)(pins:List (Addr×Obj))(σ:St)(H:Hp)(s:Shared)(f c0 cd a it:Addr)(fo:Obj)(q:Str)(vs:List (gc×Value))(ep j:Nat):Prop where
 inv:bi X pins σ H s
 fn:s.heap.get? f=some fo
 code:s.heap.CodeRec (.ref cd) q
 cell:s.heap.IsCell c0 (some (.ref a))
 dict:s.heap.DictAt (eU X.prog X.w) a vs ep
 iter:s.heap.IsKeyIter it a j vs.length ep
theorem nA.go{f c0 cd a it:Addr}{fo:Obj}{q:Str}{vs:List (gc×Value)}{ep j j':Nat}{h':Heap}{t':Nat}{b0:Addr}(M:nA X pins σ H s f c0 cd a it fo q vs ep j)(I:bi X pins σ H { s with heap:=h',toks:=t' })
  (k:∀b o,b≠b0->s.heap.get? b=some o->h'.get? b=some o) (n1:f≠b0) (n2:cd≠b0) (n3:c0≠b0) (n4:a≠b0) (hi:h'.IsKeyIter it a j' vs.length ep):nA X pins σ H { s with heap:=h',toks:=t' } f c0 cd a it fo q vs ep j':=by
 obtain⟨c2,oc,ws,tt,e2,hoc,hd,hv⟩:=M.code
 cases e2
 refine⟨I,k f _ n1 M.fn,⟨_,oc,ws,tt,rfl,k _ _ n2 hoc,hd,hv⟩,?_,M.dict.at' fun o e=>k a o n4 e,hi⟩
 obtain⟨o,ho,hd⟩:=M.cell
 exact⟨o,k c0 o n3 ho,hd⟩
theorem D0{f c0 cd a it ls:Addr}{en dn nm q:Str}{pr:Arguments}{p2 p3 p4:Pos}{sc:Scope}{pm ct:Value}{kvs:List (gc×V)}{vs:List (gc×Value)}{ep:Nat}{kf:Nat->List Int}{tv:Nat->Addr}{R:Result->Shared->Prop}{g0:Array GenState}{d0:Drawn}{rJ:OsState}
  (T:DZ en dn pr (.Subscript (.Name dn p2) (.Name en p3) p4) sc) (hh:A.handled=none) (vm:A.depth<recursionLimit) (hu:A.units+16<cLine) (ha:H a=some (.dK kvs)) (jl:KV kvs vs) (p_:(kvs.map (·.1)).Nodup)
  (Ab:∀(i:Nat) (k:gc) (x:V),kvs[i]?=some (k,x)->x=.ref (tv i)/\fF X.K H (tv i) ((kf i).map V.int))
  (wU:n9 X pins H it) (wS:n9 X pins H ls) (Mq:it≠ls) (nf:f≠it/\f≠ls) (ME:cd≠it/\cd≠ls) (MC:c0≠it/\c0≠ls)
  (hR:∀v h t k x,kvs[j3 kf (kvs.length-1)]?=some (k,x)->bN (kV k) v->bi X pins σ H ⟨h,g0,d0,t,rJ⟩->R (.ok (.ret v)) ⟨h,g0,d0,t,rJ⟩) :
  ∀(r j:Nat) (h:Heap) (t:Nat) (vb:Value) (c:Nat),kvs.length-(j+1)=r->j+1<=kvs.length->nA X pins σ H ⟨h,g0,d0,t,rJ⟩ f c0 cd a it (kla_obj nm q pr (.Subscript (.Name dn p2) (.Name en p3) p4) sc [(dn,c0)] pm cd ct) q vs ep (j+1) ->
   h.get? ls=some (seqObj "list" #[vb,.ref (tv (j3 kf j))] c)->(∀k x,kvs[j3 kf j]?=some (k,x)->bN (kV k) vb) ->
   codeAny (model X.prog X.w) A (.builtin "min.loop" ⟨[.ref it,.ref f,.ref ls],[]⟩) R ⟨h,g0,d0,t,rJ⟩:=by
 have hname:(toString "min"++toString ".loop":String)="min.loop":=by decide
 have hna:a≠it/\a≠ls:=⟨fun z=>(by rw[z,wU.1]at ha;cases ha),fun z=>(by rw[z,wS.1]at ha;cases ha)⟩
 have dw:kvs.length=vs.length:=jl.length
 intro r
 induction r with
 |zero=>
  intro j h t vb c hr hj M hls hvb
  have hin:j+1=kvs.length:=by omega
  refine mW PySem.F.entry_min_loop ?_
  rw[jn PySem.F.plain_min_loop _]
  show wpAny _ A.in1 (seqItems? (.ref ls) >>= _) _ _ _
  refine ah (gn hls rfl ?_)
  show wpAny _ A.in1 (tryCatch (pyNext (.ref it)) _ >>= _) _ _ _
  refine ah (gZ (wpAny_pyNext_dict_end hh M.iter M.dict (by rw[gN];omega) fun h1 hk1=>?_))
  have I1:bi X pins σ H ⟨h1,g0,d0,t,rJ⟩:=M.inv.turned (it:=it) (fun b o hb e=>hk1 b o hb e) wU.1 wU.2.1 wU.2.2.2.1 wU.2.2.2.2.1 wU.2.2.2.2.2
  have hls1:=hk1 ls _ (Ne.symm Mq) hls
  show wpAny _ A.in1 (updateSeq ls (fun _=>#[]) >>= _) _ _ _
  refine ah ?_
  refine jB hls1 rfl (ah (kO (av ?_)))
  have sb:=cG h1 ls (Obj.mapSeq fun _=>(#[]:Array Value))
  obtain⟨⟨k,x⟩,hx⟩:∃p,kvs[j3 kf j]?=some p:=⟨_,ae (by have:=vT kf j;omega)⟩
  refine hR vb _ _ k x (by rw[show kvs.length-1=j by omega];exact hx) (hvb k x hx) ?_
  exact I1.turned (it:=ls) (fun b o hb e=>sb.extBut b o hb e) wS.1 wS.2.1 wS.2.2.2.1 wS.2.2.2.2.1 wS.2.2.2.2.2
 |succ r ih=>
  intro j h t vb c hr hj M hls hvb
  have hlt:j+1<kvs.length:=by omega
  obtain⟨⟨k,x⟩,hx⟩:∃p,kvs[j+1]?=some p:=⟨_,ae hlt⟩
  obtain⟨⟨k',y⟩,hy⟩:∃p,vs[j+1]?=some p:=⟨_,ae (by omega)⟩
  have ek:k=k':=by
   have:=fB (fun l:List gc=>l[j+1]?) jl.keys
   simp only[ar,hx,hy]at this
   exact a9 this
  subst ek
  obtain⟨rfl,hS⟩:=Ab (j+1) k x hx
  refine mW PySem.F.entry_min_loop ?_
  rw[jn PySem.F.plain_min_loop _]
  show wpAny _ A.in1 (seqItems? (.ref ls) >>= _) _ _ _
  refine ah (gn hls rfl ?_)
  show wpAny _ A.in1 (tryCatch (pyNext (.ref it)) _ >>= _) _ _ _
  refine ah (gZ (mH M.iter M.dict hy fun v h1 hv hit1 wF=>?_))
  have rv:bN (kV k) v:=AQ hv
  have I1:bi X pins σ H ⟨h1,g0,d0,t,rJ⟩:=M.inv.turned (it:=it) (fun b o hb e=>wF.extBut b o hb e) wU.1 wU.2.1 wU.2.2.2.1 wU.2.2.2.2.1 wU.2.2.2.2.2
  have M1:nA X pins σ H ⟨h1,g0,d0,t,rJ⟩ f c0 cd a it _ q vs ep (j+1+1):=M.go (s:=⟨h,g0,d0,t,rJ⟩) (b0:=it) I1 (fun b o hb e=>wF.extBut b o hb e) nf.1 ME.1 MC.1 hna.1 hit1
  have hls1:=wF.extBut ls _ (Ne.symm Mq) hls
  have hvk:jp kvs k=some (.ref (tv (j+1))):=by
   unfold jp
   have hm:(k,V.ref (tv (j+1)))∈kvs:=aN hx
   cases hf:kvs.find? (fun kv=>decide (kv.1=k))with
   |none=>
    have:=ip.mp hf _ hm
    simp at this
   |some p=>
    have h1:=List.find?_some hf
    have h2:=kw hf
    have e1:p.1=k:=by simpa using h1
    obtain⟨i1,hi1⟩:=bw h2
    have e2:i1=j+1:=by
     refine(List.getElem?_inj (l:=kvs.map (·.1)) (by rw[al];exact(aa.mp hi1).1) p_).mp ?_
     rw[ar,ar,hi1,hx]
     show some p.1=some k
     rw[e1]
    subst e2
    rw[hx]at hi1;cases hi1;rfl
  show wpAny _ A.in1 (tryCatch (holding [v] (call (.ref f) [v])) _ >>= _) _ _ _
  refine ah (gZ (cF (xJ T M1.inv M1.fn M1.code M1.cell ha hvk rv vm (by show A.units+1+8<cLine;omega) fun z h2 t2 Gr I2 rz=>?_)))
  obtain rfl:z=Value.ref (tv (j+1)):=rz
  have M2:nA X pins σ H ⟨h2,g0,d0,t2,rJ⟩ f c0 cd a it _ q vs ep (j+1+1):=M1.go (s:=⟨h1,g0,d0,t,rJ⟩) (b0:=h1.objs.size) I2 (fun b o _ e=>Gr b o e)
   (fun q=>by have:=aF M1.fn;rw[q]at this;exact bx _ this) (fun q=>by obtain⟨_,_,_,_,e2,ho,_⟩:=M1.code;cases e2;have:=aF ho;rw[q]at this;exact bx _ this) (fun q=>by have:=M1.cell.lt;rw[q]at this;exact bx _ this)
   (fun q=>by obtain⟨o,_,ho,_⟩:=M1.dict;have:=aF ho;rw[q]at this;exact bx _ this) (by obtain⟨o,ho,r1,r2⟩:=hit1;exact⟨o,Gr _ _ ho,r1,r2⟩)
  have hls2:=Gr ls _ hls1
  obtain⟨⟨kb,xb⟩,hxb⟩:∃p,kvs[j3 kf j]?=some p:=⟨_,ae (by have:=vT kf j;omega)⟩
  obtain⟨rfl,hSb⟩:=Ab (j3 kf j) kb xb hxb
  obtain⟨bj,r1,p1,_⟩:=I2.tuple hS
  obtain⟨its2,r2,p2,_⟩:=I2.tuple hSb
  have i1:IntsAre bj.toArray.toList (kf (j+1)):=lR r1
  have i2:IntsAre its2.toArray.toList (kf (j3 kf j)):=lR r2
  show wpAny _ A.in1 (tryCatch (holding [v,.ref (tv (j+1))] (richCompare .Lt (.ref (tv (j+1))) (.ref (tv (j3 kf j))) >>= _)) _ >>= _) _ _ _
  refine ah (gZ (cF (ah ?_)))
  refine HT.lt_tupInts p1 p2 i1 i2 (by show A.units+1<cLine;omega) ?_
  refine ah (cF (eQ ?_))
  refine ah (kO (av ?_))
  by_cases hb:HT.lexLt (kf (j+1)) (kf (j3 kf j))=true
  ·have em:j3 kf (j+1)=j+1:=by show(if _ then _ else _)=_;rw[ax hb]
   have sb:=cG h2 ls (Obj.mapSeq fun _=>#[v,Value.ref (tv (j+1))])
   obtain⟨c2,hc2⟩:∃c2,(h2.update ls (Obj.mapSeq fun _=>#[v,Value.ref (tv (j+1))])).get? ls=some (seqObj "list" #[v,.ref (tv (j+1))] c2):=⟨_,get?_update_seq hls2 fun _=>#[v,Value.ref (tv (j+1))]⟩
   simp only[hb,d6]
   refine ah ?_
   refine jB hls2 rfl (ah (kO ?_))
   rw[hname]
   have I3:bi X pins σ H ⟨h2.update ls (Obj.mapSeq fun _=>#[v,Value.ref (tv (j+1))]),g0,d0,t2,rJ⟩:=I2.turned (it:=ls) (fun b o hb e=>sb.extBut b o hb e) wS.1 wS.2.1 wS.2.2.2.1 wS.2.2.2.2.1 wS.2.2.2.2.2
   have M3:nA X pins σ H ⟨h2.update ls (Obj.mapSeq fun _=>#[v,Value.ref (tv (j+1))]),g0,d0,t2,rJ⟩ f c0 cd a it _ q vs ep (j+1+1):=
    M2.go (s:=⟨h2,g0,d0,t2,rJ⟩) (b0:=ls) I3 (fun b o hb e=>sb.extBut b o hb e) nf.2 ME.2 MC.2 hna.2 (by obtain⟨o,ho,r1,r2⟩:=M2.iter;exact⟨o,sb.extBut _ _ Mq ho,r1,r2⟩)
   exact av ⟨lh PySem.F.plain_min_loop _,ih (j+1) _ _ v c2 (by omega) hlt M3 (by rw[em];exact hc2) fun k2 x2 e2=>by rw[em,hx]at e2;cases e2;exact rv⟩
  ·have em:j3 kf (j+1)=j3 kf j:=by show(if _ then _ else _)=_;rw[aD hb]
   simp only[hb,cy,gE]
   refine ah (kO ?_)
   rw[hname]
   exact av ⟨lh PySem.F.plain_min_loop _,ih (j+1) _ _ vb c (by omega) hlt M2 (by rw[em];exact hls2) fun k2 x2 e2=>by rw[em]at e2;exact hvb k2 x2 e2⟩
theorem D1{f c0 cd a:Addr}{en dn nm q:Str}{pr:Arguments}{p2 p3 p4:Pos}{sc:Scope}{pm ct:Value}{kvs:List (gc×V)}{kf:Nat->List Int}{tv:Nat->Addr}
  (T:DZ en dn pr (.Subscript (.Name dn p2) (.Name en p3) p4) sc) (hh:A.handled=none) (vm:A.depth<recursionLimit) (hu:A.units+16<cLine) (I:bi X pins σ H s) (ha:H a=some (.dK kvs))
  (hf:s.heap.get? f=some (kla_obj nm q pr (.Subscript (.Name dn p2) (.Name en p3) p4) sc [(dn,c0)] pm cd ct)) (nZ:s.heap.CodeRec (.ref cd) q) (Ii:s.heap.IsCell c0 (some (.ref a))) (m5:0<kvs.length)
  (Ab:∀(i:Nat) (k:gc) (x:V),kvs[i]?=some (k,x)->x=.ref (tv i)/\fF X.K H (tv i) ((kf i).map V.int))
  (hQ:∀v h t k x,kvs[j3 kf (kvs.length-1)]?=some (k,x)->bN (kV k) v->bi X pins σ H { s with heap:=h,toks:=t }->Q v { s with heap:=h,toks:=t }) :
  wpAny (model X.prog X.w) A (call (.builtin "min") [.ref a] [(Str.ofString "key",.ref f)]) Q E s:=by
 have hname:(toString "min"++toString ".loop":String)="min.loop":=by decide
 obtain⟨hz,hsys,vs,jl,o,es,ep,hdo⟩:=qF I.hok (.inl ha)
 have dd:s.heap.DictAt (eU X.prog X.w) a vs ep:=⟨o,es,hdo⟩
 have p_:(kvs.map (·.1)).Nodup:=by rw[jl.keys];exact hdo.2.2.2.2.2
 have dw:kvs.length=vs.length:=jl.length
 obtain⟨h0,g0,d0,t0,rJ⟩:=s
 refine kmk_tree PySem.F.kind_min PySem.F.plain_min PySem.F.entry_min (kmk_min_key _ _) ?_
 show wpAny _ A.in1 (Builtin.Builtins.bindParams "min" ["key","default"] 0 ⟨[],[(Str.ofString "key",.ref f)]⟩ >>= _) _ _ _
 refine ah (wpAny_of_eq (show Builtin.Builtins.bindParams "min" ["key","default"] 0 ⟨[],[(Str.ofString "key",.ref f)]⟩=pure [some (.ref f),none]from rfl) ?_)
 refine ah (av ?_)
 refine ah (wpAny_pyIter_dict hsys dd ?_)
 refine ah (wpAny_newList ?_ (df _))
 rw[hname]
 dsimp only
 generalize hG1:h0.push { cls:=.type "dict_keyiterator",data:=.fields #[.ref a,.int 0 0,.int vs.length 0,.int ep 0] }=G1
 have sz1:G1.objs.size=h0.objs.size+1:=by rw[<- hG1,fC]
 have k1:∀b o,h0.get? b=some o->(G1.push { cls:=.type "list",data:=.seq ([]:List Value).toArray }).get? b=some o:=fun b o e=>aq _ (hG1▸aq _ e)
 have git:(G1.push { cls:=.type "list",data:=.seq ([]:List Value).toArray }).get? h0.objs.size=some { cls:=.type "dict_keyiterator",data:=.fields #[.ref a,.int 0 0,.int vs.length 0,.int ep 0] }:=aq _ (hG1▸aL _ rfl)
 have gls:(G1.push { cls:=.type "list",data:=.seq ([]:List Value).toArray }).get? G1.objs.size=some (seqObj "list" #[] 0):=aL _ rfl
 generalize hG2:G1.push { cls:=.type "list",data:=.seq ([]:List Value).toArray }=G2 at k1 git gls
 have I2:bi X pins σ H ⟨G2,g0,d0,t0,rJ⟩:=I.kept k1
 have Mq:h0.objs.size≠G1.objs.size:=by omega
 have wU:n9 X pins H h0.objs.size:=I.fpOk (aB _) I.fresh
 have wS:n9 X pins H G1.objs.size:=I.fpOk (by show h0.objs.size<=_;omega) (I.hok.fresh (by show h0.objs.size<=_;omega))
 have old:∀b o,h0.get? b=some o->b≠h0.objs.size/\b≠G1.objs.size:=fun b o e=>⟨a8 (aF e),a8 (by rw[sz1];exact fW (aF e))⟩
 obtain⟨c2,oc,ws,tt,e2,hoc,hdc,hvc⟩:=id nZ
 cases e2
 obtain⟨oc0,hoc0,hdc0⟩:=id Ii
 have M0:nA X pins σ H ⟨G2,g0,d0,t0,rJ⟩ f c0 cd a h0.objs.size (kla_obj nm q pr (.Subscript (.Name dn p2) (.Name en p3) p4) sc [(dn,c0)] pm cd ct) q vs ep 0:=
  ⟨I2,k1 _ _ hf,⟨_,oc,ws,tt,rfl,k1 _ _ hoc,hdc,hvc⟩,Ii.keeps k1,dd.at' fun o e=>k1 a o e,⟨_,git,rfl,rfl⟩⟩
 refine av ⟨lh PySem.F.plain_min_loop _,?_⟩
 obtain⟨⟨k,x⟩,hx⟩:∃p,kvs[0]?=some p:=⟨_,ae m5⟩
 obtain⟨⟨k',y⟩,hy⟩:∃p,vs[0]?=some p:=⟨_,ae (by omega)⟩
 have ek:k=k':=by
  have:=fB (fun l:List gc=>l[0]?) jl.keys
  simp only[ar,hx,hy]at this
  exact a9 this
 subst ek
 obtain⟨rfl,hS⟩:=Ab 0 k x hx
 have hvk:jp kvs k=some (.ref (tv 0)):=by
  cases kvs with
  |nil=>cases hx
  |cons p r=>
   have:p=(k,.ref (tv 0)):=a9 hx
   subst this
   exact nj rfl
 refine mW PySem.F.entry_min_loop ?_
 rw[jn PySem.F.plain_min_loop _]
 show wpAny _ A.in1 (seqItems? (.ref G1.objs.size) >>= _) _ _ _
 refine ah (gn gls rfl ?_)
 show wpAny _ A.in1 (tryCatch (pyNext (.ref h0.objs.size)) _ >>= _) _ _ _
 refine ah (gZ (mH M0.iter M0.dict hy fun v h1 hv hit1 wF=>?_))
 have rv:bN (kV k) v:=AQ hv
 have I1:bi X pins σ H ⟨h1,g0,d0,t0,rJ⟩:=M0.inv.turned (it:=h0.objs.size) (fun b o hb e=>wF.extBut b o hb e) wU.1 wU.2.1 wU.2.2.2.1 wU.2.2.2.2.1 wU.2.2.2.2.2
 have nf:=old f _ hf
 have ME:=old cd _ hoc
 have MC:=old c0 _ hoc0
 have na:=old a _ hdo.1
 have M1:nA X pins σ H ⟨h1,g0,d0,t0,rJ⟩ f c0 cd a h0.objs.size _ q vs ep (0+1):=M0.go (s:=⟨G2,g0,d0,t0,rJ⟩) (b0:=h0.objs.size) I1 (fun b o hb e=>wF.extBut b o hb e) nf.1 ME.1 MC.1 na.1 hit1
 have hls1:=wF.extBut _ _ (Ne.symm Mq) gls
 show wpAny _ A.in1 (tryCatch (holding [v] (call (.ref f) [v])) _ >>= _) _ _ _
 refine ah (gZ (cF (xJ T M1.inv M1.fn M1.code M1.cell ha hvk rv vm (by show A.units+1+8<cLine;omega) fun z h2 t2 Gr I2' rz=>?_)))
 obtain rfl:z=Value.ref (tv 0):=rz
 have M2:nA X pins σ H ⟨h2,g0,d0,t2,rJ⟩ f c0 cd a h0.objs.size _ q vs ep (0+1):=M1.go (s:=⟨h1,g0,d0,t0,rJ⟩) (b0:=h1.objs.size) I2' (fun b o _ e=>Gr b o e)
  (fun q=>by have:=aF M1.fn;rw[q]at this;exact bx _ this) (fun q=>by obtain⟨_,_,_,_,e2,ho,_⟩:=M1.code;cases e2;have:=aF ho;rw[q]at this;exact bx _ this) (fun q=>by have:=M1.cell.lt;rw[q]at this;exact bx _ this)
  (fun q=>by obtain⟨o,_,ho,_⟩:=M1.dict;have:=aF ho;rw[q]at this;exact bx _ this) (by obtain⟨o,ho,r1,r2⟩:=hit1;exact⟨o,Gr _ _ ho,r1,r2⟩)
 have hls2:=Gr _ _ hls1
 have sb:=cG h2 G1.objs.size (Obj.mapSeq fun _=>#[v,Value.ref (tv 0)])
 obtain⟨c3,hc3⟩:∃c3,(h2.update G1.objs.size (Obj.mapSeq fun _=>#[v,Value.ref (tv 0)])).get? G1.objs.size=some (seqObj "list" #[v,.ref (tv 0)] c3):=⟨_,get?_update_seq hls2 fun _=>#[v,Value.ref (tv 0)]⟩
 show wpAny _ A.in1 (updateSeq G1.objs.size (fun _=>#[v,Value.ref (tv 0)]) >>= _) _ _ _
 refine ah ?_
 refine jB hls2 rfl ?_
 rw[hname]
 have I3:bi X pins σ H ⟨h2.update G1.objs.size (Obj.mapSeq fun _=>#[v,Value.ref (tv 0)]),g0,d0,t2,rJ⟩:=I2'.turned (it:=G1.objs.size) (fun b o hb e=>sb.extBut b o hb e) wS.1 wS.2.1 wS.2.2.2.1 wS.2.2.2.2.1 wS.2.2.2.2.2
 have M3:nA X pins σ H ⟨h2.update G1.objs.size (Obj.mapSeq fun _=>#[v,Value.ref (tv 0)]),g0,d0,t2,rJ⟩ f c0 cd a h0.objs.size _ q vs ep (0+1):=
  M2.go (s:=⟨h2,g0,d0,t2,rJ⟩) (b0:=G1.objs.size) I3 (fun b o hb e=>sb.extBut b o hb e) nf.2 ME.2 MC.2 na.2 (by obtain⟨o,ho,r1,r2⟩:=M2.iter;exact⟨o,sb.extBut _ _ Mq ho,r1,r2⟩)
 exact av ⟨lh PySem.F.plain_min_loop _,D0 T hh vm hu ha jl p_ Ab wU wS Mq nf ME MC (fun v h t k x e1 e2 e3=>hQ v h t k x e1 e2 e3) _ 0 _ _ v c3 rfl (by omega) M3 hc3 fun k2 x2 e2=>by rw[show j3 kf 0=0 from rfl,hx]at e2;cases e2;exact rv⟩
end
abbrev D2(ns:List (Str×NameKind)):Scope:=⟨.function,ns,false,false,[]⟩
def QL(K:Frag)(fd:FuncData)(P:Addr):Prop:=∃c,fd.code=.ref c/\codeHdIn K c P=true/\K.lookup P=none
theorem vU{a b:Int}{t u:Tok}{c:Value}(l:List Value)(h:TriplesOk l):TriplesOk (l++[.int a t,.int b u,c]):=by
 fun_induction TriplesOk l with
 |case1=>exact trivial
 |case2 _ _ _ _ _ cZ ih=>exact ih h
 |case3=>exact h.elim
section
variable{K:Frag}{mg:Str->Option Value}{μ:List Addr}{st:List ao}{H:Hp}
abbrev t9(H:Hp)(P cd:Addr)(q:Str)(ps:Array Value)(pos:Pos):Hp:=fx (fx H cd (lu cd q)) P (.tbl (ps++#[rawInt pos.line,rawInt pos.col,.ref cd]))
theorem rh{P cd b:Addr}{q:Str}{ps:Array Value}{pos:Pos}(n1:b≠P)(n2:b≠cd):t9 H P cd q ps pos b=H b:=by
 show fx (fx H cd _) P _ b=_
 rw[bV n1,bV n2]
theorem D3{P cd:Addr}{q:Str}{ps:Array Value}{pos:Pos}:t9 H P cd q ps pos P=some (.tbl (ps++#[rawInt pos.line,rawInt pos.col,.ref cd])):=eD
theorem AR{P cd:Addr}{q:Str}{ps:Array Value}{pos:Pos}(h:P≠cd):t9 H P cd q ps pos cd=some (lu cd q):=by
 show fx (fx H cd _) P _ cd=_
 rw[bV (Ne.symm h),eD]
theorem fF.butT{l:Addr}{xs:Array Value}{H':Hp}(e:BS l H H')(hl:H l=some (.tbl xs)):ej K H H':=by
 have m5:∀{p:Addr} {o:HO},H p=some o->(∀zs,o≠.tbl zs)->p≠l:=fun{p o} q hn z=>by subst z;rw[hl]at q;cases q;exact hn _ rfl
 refine⟨fun p ys h=>?_,fun b o u h=>e _ _ (m5 h (fun _ z=>by cases z)) h⟩
 rcases h with(h|⟨o,h⟩)|h
 ·exact .inl (.inl (e _ _ (m5 h (fun _ z=>by cases z)) h))
 ·exact .inl (.inr ⟨o,e _ _ (m5 h (fun _ z=>by cases z)) h⟩)
 ·exact .inr h
theorem D4{α:Type}{l:List α}{i:Nat}{x:α}(h:l[i]?=some x):l.set i x=l:=by
 refine kP fun j=>?_
 by_cases e:i=j
 ·subst e;rw[bg (aa.mp h).1,h]
 ·rw[a_ e]
theorem ia.tabbed{i:Nat}{P cd:Addr}{pos:Pos}{q:Str}{ps:Array Value}(S:ia K mg μ st H)(hi:st[i]?=some (.tab P pos q))(hP:H P=some (.tbl ps))(nZ:H cd=none)(ht:TriplesOk ps.toList)(hn:codeAmong pos ps.toList=none) :
  ia K mg μ st (t9 H P cd q ps pos)/\ej K H (t9 H P cd q ps pos):=by
 have hs:kr H (fx H cd (lu cd q)):=cS nZ _
 have m5:P≠cd:=fun z=>by rw[z,nZ]at hP;cases hP
 have hP1:fx H cd (lu cd q) P=some (.tbl ps):=hs _ _ hP
 have hx:ej K (fx H cd (lu cd q)) (t9 H P cd q ps pos):=fF.butT gv hP1
 obtain⟨a,hm,ea,_⟩:=S.get hi
 subst ea
 have:=(S.same hs).setG (c':=.tab a pos q) hi rfl hm hP1 (fun _ _ z=>by cases z) (fun _ z=>by cases z) hx rfl ⟨rfl,_,eD,?_,.inr ⟨cd,?_,?_⟩⟩
 ·rw[D4 hi]at this
  exact⟨this,(fF.same hs).trans hx⟩
 ·rw[Array.toList_append];exact vU _ ht
 ·rw[Array.toList_append];exact codeAmong_snoc _ ht hn
 ·exact AR m5
end
section
variable{X:Cx}{pins:List (Addr×Obj)}{σ:St}{H:Hp}{s:Shared}{E:Value->Shared->Prop}{Q:Value->Shared->Prop}
theorem bi.tabbed{h':Heap}{t':Nat}{P cd:Addr}{pos:Pos}{q:Str}{ps:Array Value}(I:bi X pins σ H s)(hP:H P=some (.tbl ps))(MD:s.heap.objs.size<=cd)(hx:∀b o,b≠P->s.heap.get? b=some o->h'.get? b=some o)
  (FY:h'.CodeRec (.ref cd) q) (PJ:h'.get? P=some { cls:=.none,data:=.fields (ps++#[rawInt pos.line,rawInt pos.col,.ref cd]) }):bi X pins σ (t9 H P cd q ps pos) { s with heap:=h',toks:=t' }:=by
 have nZ:H cd=none:=I.hok.fresh MD
 have m5:P≠cd:=fun z=>by rw[z,nZ]at hP;cases hP
 have notP:∀b,H b=none->b≠P:=fun b n z=>by rw[z,hP]at n;cases n
 have old:∀b o,s.heap.get? b=some o->b≠cd:=fun b o e=>a8 (a6 (aF e) MD)
 have keepH:∀b u,H b=some u->b≠P->t9 H P cd q ps pos b=some u:=fun b u e n=>by
  rw[rh n (fun z=>by rw[z,nZ]at e;cases e)];exact e
 have Hcd:t9 H P cd q ps pos cd=some (lu cd q):=AR m5
 refine I.call' (ch:=[]) rfl ⟨fun b o e n hb hx'=>hx b o (notP b n) e,fun b o e n hb hx'=>⟨o.slots,hx b o (notP b n) e⟩,fun b o e n hx'=>?_,fun b o e hx'=>?_,fun b xs e=>?_,fun b o u e=>?_,fun b ps' e=>?_⟩ (fun b u e=>?_) I.bare fun b hb=>absurd hb (by simp)
 ·rw[rh (notP b n) (old b o e)];exact n
 ·by_cases hb:b=P
  ·subst hb;exact⟨_,PJ⟩
  ·exact⟨o,hx b o hb e⟩
 ·exact keepH b _ e fun z=>by rw[z,hP]at e;cases e
 ·exact keepH b _ e fun z=>by rw[z,hP]at e;cases e
 ·by_cases hb:b=P
  ·subst hb
   rw[hP]at e;cases e
   exact⟨_,D3⟩
  ·exact⟨#[],by rw[keepH b _ e hb];simp⟩
 ·by_cases hb:b=P
  ·subst hb
   rw[D3]at e;cases e
   exact PJ
  ·by_cases hb2:b=cd
   ·subst hb2
    rw[Hcd]at e;cases e
    obtain⟨c2,oc,vs,t,e2,hoc,hd,hv⟩:=FY
    cases e2
    refine⟨⟨oc,vs,t,hoc,hd,hv⟩,⟨oc,hoc⟩,fun h1 h2 p k=>?_⟩
    obtain⟨o,vs,t,ho,r⟩:=p
    exact⟨o,vs,t,k o ho,r⟩
   ·rw[rh hb hb2]at e
    refine(I.hok b u e).stay (fun c v hc q'=>hx c v (fun z=>?_) q') (fun c q'=>keepH c _ q' fun z=>by rw[z,hP]at q';cases q') fun c xs q'=>keepH c _ q' fun z=>by rw[z,hP]at q';cases q'
    rcases hc with rfl|hc
    ·exact hb z
    ·rw[z,hP]at hc;cases hc
theorem D5{P c:Addr}{pr:Arguments}{b:Expr}{sc:Scope}{ul:Pos}{cl:List (Str×Addr)}{q:Str}{ps:Array Value}(Mx:defaultsOf pr X.env=([],[]))(hq:X.env.qual++"<lambda>"=q)(Bo:X.env.code=.ref c)(Q3:codeHdIn X.K c P=true)(Rn:X.K.lookup P=none)(hB:xI X.base X.mg)
  (k6:closureFor sc X.env=pure cl) (I:bi X pins σ H s) (hP:H P=some (.tbl ps)) (ht:TriplesOk ps.toList) (Q6:codeAmong ul ps.toList=none\/∃cd,codeAmong ul ps.toList=some (.ref cd)/\H cd=some (lu cd q))
  (h:∀f cd ct pm h' t H',((codeAmong ul ps.toList=none/\H cd=none/\H'=t9 H P cd q ps ul)\/H'=H)->bi X pins σ H' { s with heap:=h',toks:=t }->h'.get? f=some (kla_obj "<lambda>" q pr b sc cl pm cd ct)->h'.CodeRec (.ref cd) q ->
   (∀b o,b≠P->s.heap.get? b=some o->h'.get? b=some o)->Q (.ref f) { s with heap:=h',toks:=t }) :
  wpAny (model X.prog X.w) X.A (eval (.Lambda pr b sc ul) X.env) Q E s:=by
 subst hq
 have hPo:s.heap.get? P=some { cls:=.none,data:=.fields ps }:=I.hok P _ hP
 have hgs:s.heap.Ns mainGlobals X.mg:=I.mod.glob.keeps I.bk
 have hgP:mainGlobals≠P:=fun z=>by
  obtain⟨o,es,ep,e,hd,_⟩:=hgs
  rw[z,hPo]at e;cases e;cases hd
 obtain⟨bm,ob,b1,b2,b4,b5,b6,b7⟩:=hB
 have b4':=I.bk _ _ b4
 have hbP:bm≠P:=fun z=>by rw[z,hPo]at b4';cases b4';cases b5
 have b3:bm≠mainGlobals:=fun z=>by
  obtain⟨o,es,ep,e,hd,_⟩:=hgs
  rw[z,e]at b4';cases b4';rw[b7]at hd;cases hd
 have hb:s.heap.BuiltinsAt X.mg P:=⟨bm,ob,b1,b2,b3,hbP,b4',b5,b6,b7⟩
 have CH:=PySem.W.codeHd_of_K I.kIn Q3
 refine PySem.W.kla_eval Mx ?_
 rcases Q6 with hn|⟨cd,hhit,hH⟩
 ·refine PySem.W.kla_makeFunction (mg:=X.mg) k6 I.ok.glob hgs Bo CH hPo ht hn hgP hb fun cd ct h' tk hx MD hlt FY PJ=>?_
  have hx':∀b o,b≠P->s.heap.get? b=some o->h'.get? b=some o:=fun b o hb e=>hx b o hb e
  have hrec2:(h'.push (kla_obj "<lambda>" (X.env.qual++"<lambda>") pr b sc cl ((X.mg "__name__").getD .none) cd ct)).CodeRec (.ref cd) (X.env.qual++"<lambda>"):=by
   obtain⟨c2,oc,vs,t,e2,hoc,hd,hv⟩:=FY
   exact⟨c2,oc,vs,t,e2,aq _ hoc,hd,hv⟩
  exact h _ cd ct _ _ tk _ (.inl ⟨hn,I.hok.fresh MD,rfl⟩) (I.tabbed hP MD (fun b o hb e=>aq _ (hx' b o hb e)) hrec2 (aq _ PJ)) (aL _ rfl) hrec2 fun b o hb e=>aq _ (hx' b o hb e)
 ·refine PySem.W.kla_makeFunctionHit (mg:=X.mg) k6 I.ok.glob hgs Bo CH hPo ht hhit hb fun ct h' tk hk hsz=>?_
  obtain⟨⟨oc,vs,t,hoc,hd,hv⟩,_⟩:=I.hok cd _ hH
  exact h _ cd ct _ _ tk _ (.inr rfl) (I.kept fun b o e=>aq _ (hk b o e)) (aL _ rfl) ⟨cd,oc,vs,t,rfl,aq _ (hk _ _ hoc),hd,hv⟩ fun b o _ e=>aq _ (hk b o e)
end
def zv:W->Option (List Int)
 |.tup ws=>gs ws
 |_=>none
def jO:List (DK×W)->Option (List (List Int))
 |[]=>some []
 |p::r=>match zv p.2,jO r with
  |some a,some b=>some (a::b)
  |_,_=>none
def D6(st:List ao)(j:Nat)(P:Addr)(pos:Pos)(q:Str):Prop:=st[j]?=some (.tab P pos q)
open Classical in
def sJ(i j:Nat)(P:Addr)(pos:Pos)(q:Str):FE:=fun ρ st=>match ρ[i]? with
 |some (some x)=>(match qX st x with
  |some (_,kvs)=>(match jO kvs with
   |some ks=>if D6 st j P pos q then pq (kvs[j3 (fun a=>ks.getD a []) (kvs.length-1)]?) fun p=>.ok p.1.w st else .bad
   |none=>.bad)
  |none=>.bad)
 |_=>.bad
theorem sK{K:Frag}{μ:List Addr}{H:Hp}:∀{kvs:List (DK×W)} {ks:List (List Int)} {vs:List V},jO kvs=some ks->RelWs K μ H (kvs.map fun p=>p.2) vs->∃ts:List Addr,vs=ts.map V.ref/\∀(i:Nat) (t:Addr),ts[i]?=some t->fF K H t ((ks.getD i []).map V.int)
 |[],ks,vs,h,r=>by
  have:=r.nilE
  subst this
  exact⟨[],rfl,fun i t e=>by simp at e⟩
 |p::r,ks,vs,h,rr=>by
  unfold jO at h
  cases e1:zv p.2 with
  |none=>rw[e1]at h;cases h
  |some a=>
   cases e2:jO r with
   |none=>rw[e1,e2]at h;cases h
   |some b=>
    rw[e1,e2]at h;cases h
    obtain⟨x,xs,rfl,q1,q2⟩:=RelWs.consE rr
    obtain⟨ts,rfl,ht⟩:=sK e2 q2
    obtain⟨k,w⟩:=p
    cases w with
    |tup ws=>
     obtain⟨t,us,rfl,hS,r1⟩:=bh.tupE q1
     have:=nz (show gs ws=some a from e1) r1
     subst this
     refine⟨t::ts,rfl,fun i t' e=>?_⟩
     cases i with
     |zero=>cases e;exact hS
     |succ i=>exact ht i t' (by simpa using e)
    |_=>cases e1
theorem D7{K:Frag}{μ:List Addr}{H:Hp}{kvs:List (DK×W)}{ts:List Addr}(r:RelWs K μ H (kvs.map fun p=>p.2) (ts.map V.ref)){i:Nat}{k:gc}{x:V}(h:(dV kvs (ts.map V.ref))[i]?=some (k,x)) :
  ∃p t,kvs[i]?=some p/\k=p.1.key/\ts[i]?=some t/\x=.ref t:=by
 unfold dV at h
 rw[List.getElem?_zip_eq_some]at h
 obtain⟨h1,h2⟩:=h
 rw[ar]at h1 h2
 obtain⟨p,e1,e2⟩:=aY.mp h1
 obtain⟨t,e3,e4⟩:=aY.mp h2
 exact⟨p,t,e1,e2.symm,e3,e4.symm⟩
section
variable{X:Cx}{en dn q:Str}{pr:Arguments}{p p1 p2 p3 p4 ul O2 pos:Pos}{sc:Scope}{i j kk m:Nat}{c P:Addr}
theorem Hq(hr:gD kk X.A)(T:DZ en dn pr (.Subscript (.Name dn p2) (.Name en p3) p4) sc)(Bo:X.env.code=.ref c)(Q3:codeHdIn X.K c P=true)(Rn:X.K.lookup P=none)(hB:xI X.base X.mg)(hm:X.mg "min"=none)
  (mf:X.env.cells=cellsFrom m X.env.scope.names []) (hN:X.N[i]?=some dn:=by rfl) (hk:X.env.scope.names.lookup dn=some .cell:=by rfl) (QZ:∀env:Env,gG env sc.names []=[(dn,(env.cells.lookup dn).getD 0)]:=by intro _;rfl) (vj:∀x∈sc.names,x.2=.free->x.1=dn:=by decide)
  (hq:X.env.qual++"<lambda>"=q:=by rfl) (Mx:defaultsOf pr X.env=([],[]):=by rfl) (iE:X.calm=true:=by rfl) (hg:Gl X "min":=by rfl) (Mw:(dn==("__debug__":Str))=false:=by decide) (Bp:(dn==("__classdict__":Str))=false:=by decide)
  (he:starEach [.Name dn p1] X.env=(false,eval (.Name dn p1) X.env)::starEach [] X.env:=by rfl) :
  SE X (.Call (.Name "min" p) [.Name dn p1] [⟨some "key",.Lambda pr (.Subscript (.Name dn p2) (.Name en p3) p4) sc ul,O2⟩] pos) (sJ i j P ul q):=⟨fun pins s σ H Q I h=>by
 obtain⟨μ,ρ,st,l,h⟩:=h
 unfold sJ at h
 cases e1:ρ[i]? with
 |none=>rw[e1]at h;exact h.elim
 |some ox=>
  cases ox with
  |none=>rw[e1]at h;exact h.elim
  |some x=>
   rw[e1]at h
   simp only at h
   cases e2:qX st x with
   |none=>rw[e2]at h;exact h.elim
   |some nk=>
    obtain⟨n,kvs⟩:=nk
    rw[e2]at h
    simp only at h
    cases e3:jO kvs with
    |none=>rw[e3]at h;exact h.elim
    |some ks=>
     rw[e3]at h
     simp only at h
     by_cases e4:D6 st j P ul q
     ·rw[ax e4]at h
      cases e5:kvs[j3 (fun a=>ks.getD a []) (kvs.length-1)]? with
      |none=>rw[e5]at h;exact h.elim
      |some pk=>
       rw[e5]at h
       simp only[cJ]at h
       obtain⟨v,hσ,rx⟩:=pe l.env e1
       obtain⟨a,vs,hn,hmu,rfl,ha,rr⟩:=rg l.sto e2 rx
       obtain⟨ts,rfl,hts⟩:=sK e3 rr
       have hc:∃c0,X.env.cells.lookup dn=some c0:=by rw[mf];exact ni hk
       obtain⟨c0,Ii⟩:=hc
       obtain⟨aP,hP0,eP,ps,hP,ht,Q6⟩:=l.sto.get e4
       subst eP
       refine im (lQ I hg hm (by rfl) ?_ (by decide) (by decide))
       refine callWith_builtin_kwB (by rfl) (by rfl) (evalArgs_kw2 (by rfl) ?_ he)
       refine gq ((rf (pv i hN (.inr (.inl hk)) Mw Bp) yU) pos pins s σ H (fun vs H1=>vs=[.ref a]/\H1=H) I ⟨_,hσ,rfl,rfl⟩) fun us s1 wF=>?_
       obtain⟨vs1,H1,I1,r1,rfl,rfl⟩:=wF
       obtain⟨u1,rfl,ru1⟩:=lq r1
       obtain rfl:u1=Value.ref a:=ru1
       obtain⟨mm,MA,hlk⟩:=id I1.loc
       obtain⟨u,ru,lk⟩:=hlk i dn (.ref a) hN hσ (.inr (.inl hk))
       obtain rfl:u=Value.ref a:=ru
       have iT:s1.heap.IsCell c0 (some (.ref a)):=by
        rcases lk with⟨kl,_⟩|⟨_,c1,hc1,hcc⟩
        ·have:X.env.scope.names.lookup dn=some .local:=kl
         rw[hk]at this;cases this
        ·rw[Ii]at hc1;cases hc1;exact hcc
       have k6:closureFor sc X.env=pure [(dn,c0)]:=by
        rw[AA (fun x hx hf=>by rw[vj x hx hf];exact⟨c0,Ii⟩),QZ,Ii];rfl
       show wpAny _ _ (evalAll ((do let v <- eval (.Lambda pr (.Subscript (.Name dn p2) (.Name en p3) p4) sc ul) X.env;standAt pos;pure v)::[])) _ _ s1
       refine wpAny_evalAll_cons (ah (D5 Mx hq Bo Q3 Rn hB k6 I1 hP ht Q6 fun f cd ct pm h' t H' hH I2 hf FY hx=>ah (je (av (wpAny_evalAll_nil ?_)))))
       have hS':ia X.K X.mg μ st H'/\ej X.K H1 H':=by
        rcases hH with⟨g1,g2,rfl⟩|rfl
        ·exact l.sto.tabbed e4 hP g2 ht g1
        ·exact⟨l.sto,ej.refl⟩
       obtain⟨S',X'⟩:=hS'
       have ha':H' a=some (.dK (dV kvs (ts.map V.ref))):=by
        rcases hH with⟨g1,g2,rfl⟩|rfl
        ·rw[rh (fun z=>by rw[z,hP]at ha;cases ha) (fun z=>by rw[z,g2]at ha;cases ha)];exact ha
        ·exact ha
       have hcell':h'.IsCell c0 (some (.ref a)):=by
        obtain⟨o,ho,hd⟩:=iT
        exact⟨o,hx c0 o (fun z=>by have:=I1.freeC _ _ Ii;rw[z,hP]at this;cases this) ho,hd⟩
       have dw:(dV kvs (ts.map V.ref)).length=kvs.length:=vQ rr
       have CL:0<kvs.length:=by
        cases kvs with
        |nil=>simp at e5
        |cons _ _=>simp
       have Ab:∀(i:Nat) (k:gc) (x:V),(dV kvs (ts.map V.ref))[i]?=some (k,x)->x=.ref (ts.getD i 0)/\fF X.K H' (ts.getD i 0) ((ks.getD i []).map V.int):=fun i k x e=>by
        obtain⟨p',t',f1,f2,f3,f4⟩:=D7 rr e
        have:ts.getD i 0=t':=by rw[aZ,f3];rfl
        rw[this]
        exact⟨f4,X' _ _ (hts i t' f3)⟩
       refine D1 (pins:=pins) (H:=H') (kvs:=dV kvs (ts.map V.ref)) (kf:=fun a=>ks.getD a []) (tv:=fun a=>ts.getD a 0) T (I.ok.hd iE) (by have:=hr.dp;omega) (by have:=hr.un;omega) I2 ha' hf FY hcell' (by rw[dw];exact CL) Ab fun v h2 t2 k x ek rk I3=>?_
       rw[dw]at ek
       obtain⟨p',t',f1,f2,_,_⟩:=D7 rr ek
       rw[e5]at f1;cases f1
       subst f2
       exact⟨_,H',I3,rk,h μ _ H' (aj _) X' S' (DK.w_rel _)⟩
     ·rw[aD e4]at h;exact h.elim⟩
end
def B_(x y:W)(st:List ao):R W:=match x,y with
 |.int i,.int j=>.ok (.bl (decide (i<j))) st
 |.tup a,.tup b=>(match gs a,gs b with
  |some ns,some ms=>.ok (.bl (HT.lexLt ns ms)) st
  |_,_=>.bad)
 |_,_=>.bad
theorem NU{X:Cx}{k:Nat}(hr:gD k X.A):rY X (compareOp .Lt) B_:=⟨fun pins s σ H x y v u Q I rv ru ⟨μ,st,wx,wy,S,rx,ry,q⟩=>by
 cases wx with
 |int i=>
  cases wy with
  |int j=>exact w_lt.h pins s σ H x y v u Q I rv ru ⟨μ,st,.int i,.int j,S,rx,ry,q⟩
  |_=>exact q.elim
 |tup a=>
  cases wy with
  |tup b=>
   simp only[B_]at q
   cases e1:gs a with
   |none=>rw[e1]at q;exact q.elim
   |some ns=>
    cases e2:gs b with
    |none=>rw[e1,e2]at q;exact q.elim
    |some ms=>
     rw[e1,e2]at q
     obtain⟨p,vs,rfl,hS,r⟩:=rx.tupE
     obtain⟨p2,vs2,rfl,hS2,r2⟩:=ry.tupE
     have:=nz e1 r;subst this
     have:=nz e2 r2;subst this
     exact Ki (by have:=hr.un;omega) pins s σ H _ _ v u Q I rv ru ⟨p,p2,ns,ms,rfl,rfl,hS,hS2,lX S q⟩
  |_=>exact q.elim
 |_=>cases wy<;>exact q.elim,fun x y st=>by
 unfold B_
 split
 ·trivial
 ·split<;>trivial
 ·trivial⟩
section
variable{X:Cx}{o e f:Expr}{fo fk fd fe:FE}{fT du:Pos}{kk:Nat}
end
section
variable{X:Cx}{x y:Str}{a b:Expr}{fs:FA}{pos:Pos}
end
inductive DefIn(K:Frag)(x:Str)(st:Stmt):Prop
 |mk {ad:Addr} {od an:Option Addr} {sl:Array (Option Value)} {oc kV dc pm cd ct:Value} (a:nsIn K mainGlobals x=some (some (.ref ad)))
   (l:K.lookup ad=some ⟨oc,od,.func (fnOf x x (iA st) (gQ st) (bc st) .none kV dc pm an cd ct),sl⟩) (c:codeIn K cd x=true) (k:keepIn K (.ref ad)=true):DefIn K x st
theorem DefIn.fn{K:Frag}{x:Str}{st:Stmt}{h:Heap}{mg:Str->Option Value}(d:DefIn K x st)(X:K.In h)(G:h.Ns mainGlobals mg):∃f fd,kS K x x st f fd/\mg x=some (.ref f):=by
 obtain⟨a,l,c,k⟩:=d
 exact⟨_,_,yY (st:=st) l c k,mg_of X G a⟩
section
variable{P:Program}{w:World}{K:Frag}{mg:Str->Option Value}{base:Heap}{k n:Nat}{x:Str}{st:Stmt}{f:Addr}{fd:FuncData}{ps:List Str}{G:List W->List ao->R W}
theorem dM(F:kS K x x st f fd)(hm:mg x=some (.ref f))(ok:eV P w K mg base (kD P w) k f fd ps (ly K mg n G))(hn:ps.length=n:=by rfl)
  (hb:∀(kV re pm:Value) (an:Option Addr) (gJ ct:Value) (us:List Value),us.length=ps.length->bindArgs (fnOf x x (iA st) (gQ st) (bc st) .none kV re pm an gJ ct) ⟨us,[]⟩=pure (ps.zip us):=by walk_at "hb"):cE P w K mg base k x n G:=vI F hm hn hb ok
end
section
variable{X:Cx}{e:Expr}{pos:Pos}{x:Str}{fe:FE}{ps:List Str}{sp scope:Scope}
theorem ou{N:List Str}(a:sp.kind=.function:=by rfl)(b:sp.isCoroutine=false:=by rfl)(c:sp.isGenerator=false:=by rfl)(d:N.Nodup:=by decide +kernel)(f:N.take ps.length=ps:=by rfl)(g:∀x∈ps,sp.names.lookup x=some .local\/sp.names.lookup x=some .cell:=by decide +kernel)(h:∀y∈sp.names,y.2≠.free:=by decide +kernel):bO N ps sp:=⟨a,b,c,d,f,g,h⟩
theorem sS(i:Nat){iD:Pos}(sc:bO X.N ps sp)(he:SE X e fe)(hi:X.N[i]?=some x:=by rfl)(hx:Gv X.env.scope x:=by first|exact .inl rfl|exact .inr rfl)(hs:swapsWith e (some (.Name x iD)) pos.line X.env=pure false:=by rfl)(hf:X.fn x=true\/X.env.scope.names.lookup x=some .local:=by first|exact .inl rfl|exact .inr rfl|assumption) :
  SS X (.Assign [.Name x iD] e pos) (bF i fe):=KN sc.nd hi hx he hs hf
theorem sG(i:Nat)(sc:bO X.N ps sp)(hi:X.N[i]?=some x:=by rfl)(hx:Gv X.env.scope x:=by first|exact .inl rfl|exact .inr rfl)(hf:X.fn x=true\/X.env.scope.names.lookup x=some .local:=by first|exact .inl rfl|exact .inr rfl|assumption):SG X (.Name x pos) (eJ i):=AI sc.nd hi hx hf
theorem sC{nm:List Str}{cl:List (Str×Addr)}{C s0 H0 fp}(i:Nat)(hN:nm.Nodup:=by decide +kernel)(hi:nm[i]?=some x:=by rfl)(hx:Gv (bI X nm scope cl C s0 H0 fp).env.scope x:=by first|exact .inl rfl|exact .inr rfl)(hf:(bI X nm scope cl C s0 H0 fp).fn x=true\/(bI X nm scope cl C s0 H0 fp).env.scope.names.lookup x=some .local:=by first|exact .inl rfl|exact .inr rfl|assumption) :
  SG (bI X nm scope cl C s0 H0 fp) (.Name x pos) (eJ i):=AI (X:=bI X nm scope cl C s0 H0 fp) hN hi hx hf
end
end L2
namespace HT
open PySem PyProof.Rows
section
open PySem.SeqAt
open PySem.AutoSeq1 (wpAny_loadPart')
open PySem.MeetsSeq PySem.MeetsSeq2 PySem.MeetsSeq3
end
end HT
namespace L2
open PySem PySem.Spec PyProof.Rows
section
variable{X:Cx}{pins:List (Addr×Obj)}{σ:St}{H:Hp}{s:Shared}{μ:List Addr}
end
end L2
namespace PK
open PySem
section
variable{prog:Program}{w:World}{K1 K2:Type}[DecidableEq K1][DecidableEq K2](knd:KeyKind prog w K1)(hk:HeapKind prog w K2)
def Is(h:Heap)(k:K1×K2)(a:Addr):Prop:=∃o v b n,h.get? a=some o/\o.cls=.type "tuple"/\o.data=.seq #[v,.ref b] n/\knd.is k.1 v=true/\hk.is h k.2 b
def hash(k:K1×K2):Int:=reduceHash (Builtin.Tuple.tupleHashOf [knd.hash k.1,hk.hash k.2])
variable{knd hk}
theorem Is.typeIs{s:Shared}{k:K1×K2}{a:Addr}(x:Is knd hk s.heap k a):s.TypeIs (.ref a) "tuple":=let ⟨o,_,_,_,ho,hc,_⟩:=x;⟨o,ho,hc⟩
theorem Is.inj{h:Heap}{a:Addr}{x y:K1×K2}(hx:Is knd hk h x a)(hy:Is knd hk h y a):x=y:=by
 obtain⟨o,v,b,n,ho,_,hd,h1,h2⟩:=hx
 obtain⟨o',v',b',n',ho',_,hd',h1',h2'⟩:=hy
 obtain rfl:o=o':=a9 (ho.symm.trans ho')
 rw[hd]at hd'
 injection hd' with e _
 have e:=fB Array.toList e
 simp only[List.cons.injEq,Value.ref.injEq,and_true]at e
 obtain⟨rfl,rfl⟩:=e
 exact Prod.ext (knd.inj _ _ _ h1 h1') (hk.inj h2 h2')
theorem Is.keeps{h h':Heap}{k:K1×K2}{a d:Addr}{o:Obj}{es ep}(x:Is knd hk h k a)(ho:h.get? d=some o)(hd:o.data=.dict es ep)(hs:Heap.SameBut d h h'):Is knd hk h' k a:=by
 obtain⟨o',v,b,n,ho',hc,hd',h1,h2⟩:=x
 have m5:a≠d:=by
  rintro rfl
  obtain rfl:o'=o:=a9 (ho'.symm.trans ho)
  rw[hd]at hd';exact nomatch hd'
 exact⟨o',v,b,n,(hs.2 a m5).trans ho',hc,hd',h1,hk.keeps h2 ho hd hs⟩
variable{A:Around}{E:Value->Shared->Prop}{s:Shared}
theorem pyHash{k:K1×K2}{a:Addr}{Q:Int->Shared->Prop}(hu:A.units<cLine)(hr:hk.room A.in1)(hx:Is knd hk s.heap k a)(h:Q (hash knd hk k) { s with toks:=s.toks+(1+hk.draws k.2+1) }) :
  wpAny (model prog w) A (PySem.pyHash (.ref a)) Q E s:=by
 have hT:=hx.typeIs
 obtain⟨o,v,b,n,ho,_,hd,h1,h2⟩:=hx
 unfold PySem.pyHash
 first|unfold pyHashByItsType|skip
 first|refine ah (wpAny_cRoomFor_or (.inr hu) ?_)|skip
 refine ah (fO hT F.slot_tuple_hash.lookup ?_)
 show wpAny _ _ (if (some (Value.builtin "tuple.__hash__")==some Value.none)=true then _ else _) Q E s
 rw[aD (by rw[beq_builtin_none];exact bK)]
 refine ah (fO hT F.slot_tuple_hash.lookup ?_)
 show wpAny _ _ (callSpecialIfBoundUnlessNone? (.ref a) "__hash__" _ >>= _) Q E s
 refine ah (gP hT F.slot_tuple_hash (cY F.slot_tuple_hash hT F.entry_tuple_hash ?_ (F.args_tuple_hash_1 _)))
 show wpAny _ _ (Builtin.Tuple.tupleItemsOf (.ref a) >>= _) _ _ s
 refine ah (kj ho hd ?_)
 refine ah ?_
 rw[<- km]
 refine g_ _
  (fun cZ (c:Array Int) s'=>(cZ=[v,.ref b]/\c.toList=[]/\s'=s)\/(cZ=[.ref b]/\c.toList=[knd.hash k.1]/\s'={ s with toks:=s.toks+1 })\/(cZ=[]/\c.toList=[knd.hash k.1,hk.hash k.2]/\s'={ s with toks:=s.toks+1+hk.draws k.2 }))
  _ ?_ ?_ _ _ (.inl ⟨rfl,rfl,rfl⟩)
 ·rintro x cZ c s' (⟨e,hc,rfl⟩|⟨e,hc,rfl⟩|⟨e,_⟩)
  ·injection e with e1 e2
   subst e1;subst e2
   refine ah (knd.pyHash h1 ?_)
   first
    |exact av (.inr (.inl ⟨rfl,by simp[hc],rfl⟩))
    |exact ah (av (av (.inr (.inl ⟨rfl,by simp[hc],rfl⟩))))
  ·injection e with e1 e2
   subst e1;subst e2
   refine ah (hk.pyHash (k:=k.2) hr h2 ?_)
   first
    |exact av (.inr (.inr ⟨rfl,by simp[hc],rfl⟩))
    |exact ah (av (av (.inr (.inr ⟨rfl,by simp[hc],rfl⟩))))
  ·cases e
 ·rintro c s' (⟨e,_⟩|⟨e,_⟩|⟨_,hc,rfl⟩)
  ·cases e
  ·cases e
  show wpAny _ _ (retInt (Builtin.Tuple.tupleHashOf c.toList)) _ _ _
  rw[hc]
  refine mX ?_
  show wpAny _ _ (if (decide (-(2:Int)^63<=Builtin.Tuple.tupleHashOf [knd.hash k.1,hk.hash k.2])&&decide (Builtin.Tuple.tupleHashOf [knd.hash k.1,hk.hash k.2]<2^63))=true then _ else _) Q E _
  unfold hash reduceHash at h
  by_cases hr:(decide (-(2:Int)^63<=Builtin.Tuple.tupleHashOf [knd.hash k.1,hk.hash k.2])&&decide (Builtin.Tuple.tupleHashOf [knd.hash k.1,hk.hash k.2]<2^63))=true
  ·rw[ax hr]
   rw[ax hr]at h
   exact av (by simpa[oF]using h)
  ·rw[aD hr]
   rw[aD hr]at h
   exact ah (io (av (by simpa[oF]using h)))
theorem Hr{x y:K1×K2}{a b:Addr}{P:Fin->Shared->Prop}(hr:hk.room A)(hx:Is knd hk s.heap x a)(hy:Is knd hk s.heap y b)(h:P (.done (.ret (.bool (decide (x=y))))) s) :
  wpAny (model prog w) A (Builtin.«tuple.__eq__» ⟨[.ref a,.ref b],[]⟩) P E s:=by
 have hTb:=hy.typeIs
 obtain⟨oa,v,c,na,hoa,_,hda,h1,h2⟩:=hx
 obtain⟨ob,u,d,nb,Ip,_,Gh,g1,g2⟩:=hy
 show wpAny _ _ (isInstance (.ref b) (.type "tuple") >>= _) _ _ s
 refine ah (hG hTb iU ?_)
 simp only[f6,cy,gE]
 refine ah (kj hoa hda ?_)
 refine ah (kj Ip Gh ?_)
 refine ah ?_
 refine g_ _
  (fun cZ r s'=>r.1=none/\s'=s/\((cZ=[(v,u),(.ref c,.ref d)])\/(cZ=[(.ref c,.ref d)]/\x.1=y.1)\/(cZ=[]/\x=y)))
  _ ?_ ?_ _ _ ⟨rfl,rfl,.inl rfl⟩
 ·rintro⟨p,q⟩ cZ r s' ⟨hr0,rfl,e|⟨e,e0⟩|⟨e,_⟩⟩
  ·injection e with e1 e2
   injection e1 with e3 e4
   subst e3;subst e4;subst e2
   refine ah (knd.eqBool (a:=x.1) (b:=y.1) h1 g1 ?_)
   by_cases z:x.1=y.1
   ·rw[bv z]
    simp only[f6,cy,gE]
    exact av ⟨rfl,rfl,.inr (.inl ⟨by first|rfl|trivial,z⟩)⟩
   ·rw[be z]
    simp only[Bool.not_false,d6]
    have hf:decide (x=y)=false:=be fun e=>z (by rw[e])
    rw[hf]at h
    exact ah (av (av (av h)))
  ·injection e with e1 e2
   injection e1 with e3 e4
   subst e3;subst e4;subst e2
   refine ah (hk.eqBool (x:=x.2) (y:=y.2) hr h2 g2 ?_)
   by_cases z:x.2=y.2
   ·rw[bv z]
    simp only[f6,cy,gE]
    exact av ⟨rfl,rfl,.inr (.inr ⟨by first|rfl|trivial,Prod.ext e0 z⟩)⟩
   ·rw[be z]
    simp only[Bool.not_false,d6]
    have hf:decide (x=y)=false:=be fun e=>z (by rw[e])
    rw[hf]at h
    exact ah (av (av (av h)))
  ·cases e
 ·rintro⟨r1,r2⟩ s' ⟨hr0,rfl,e|⟨e,_⟩|⟨_,e⟩⟩
  ·cases e
  ·cases e
  simp only at hr0
  subst hr0
  refine av ?_
  rw[bv e]at h
  exact h
theorem eqBool{x y:K1×K2}{a b:Addr}{Q:Bool->Shared->Prop}(hu:A.units<cLine)(hr:hk.room A.in1)(hx:Is knd hk s.heap x a)(hy:Is knd hk s.heap y b)(h:Q (decide (x=y)) s) :
  wpAny (model prog w) A (PySem.eqBool (.ref a) (.ref b)) Q E s:=by
 unfold PySem.eqBool
 try with_reducible refine cF ?_
 show wpAny _ _ (if (Value.ref a==Value.ref b)=true then _ else _) Q E s
 by_cases hab:(Value.ref a==Value.ref b)=true
 ·rw[ax hab]
  have e:a=b:=by have:=lJ hab;injection this
  subst e
  obtain rfl:=hx.inj hy
  exact ah (io (av (by simpa using h)))
 ·rw[aD hab]
  exact ah (wpAny_richCompare_same_room (op:=.Eq) hx.typeIs hy.typeIs F.slot_tuple_eq
   (cY F.slot_tuple_eq hx.typeIs F.entry_tuple_eq (Hr hr hx hy ⟨_,rfl,(fun e=>nomatch e),eQ h⟩) (F.args_tuple_eq_2 _ _)) hu)
theorem quiet{k:K1×K2}{a:Addr}{Q:Bool->Shared->Prop}(hq:∀{b:Addr} {Q:Bool->Shared->Prop},hk.is s.heap k.2 b->Q true s->wpAny (model prog w) A (eqIsQuiet 7 (.ref b)) Q E s)(hx:Is knd hk s.heap k a)(h:Q true s):wpAny (model prog w) A (eqIsQuiet 8 (.ref a)) Q E s:=by
 have hT:=hx.typeIs
 obtain⟨o,v,b,n,ho,_,hd,h1,h2⟩:=hx
 unfold eqIsQuiet
 refine ah (fO hT F.slot_tuple_eq.lookup ?_)
 show wpAny _ _ (isInstance (.ref a) (.type "tuple") >>= _) _ _ s
 refine ah (hG hT iU ?_)
 simp only[f6,cy,gE]
 refine ah (gn ho hd ?_)
 refine ah ?_
 show wpAny _ _ (forIn #[v,Value.ref b] _ _) _ _ s
 rw[<- km]
 refine g_ _ (fun cZ r s'=>r.1=none/\s'=s/\(cZ=[v,.ref b]\/cZ=[.ref b]\/cZ=[])) _ ?_ ?_ _ _ ⟨rfl,rfl,.inl rfl⟩
 ·rintro x cZ r s' ⟨hr,rfl,e|e|e⟩
  ·injection e with e1 e2
   subst e1;subst e2
   rw[eqIsQuiet_byValue _ (knd.byValue _ _ h1)]
   refine ah (av ?_)
   simp only[f6,cy,gE]
   exact av ⟨rfl,rfl,.inr (.inl (by first|rfl|trivial))⟩
  ·injection e with e1 e2
   subst e1;subst e2
   refine ah (hq h2 ?_)
   simp only[f6,cy,gE]
   exact av ⟨rfl,rfl,.inr (.inr (by first|rfl|trivial))⟩
  ·cases e
 ·rintro⟨r1,r2⟩ s' ⟨hr,rfl,_⟩
  simp only at hr
  subst hr
  exact av h
end
theorem Ca{prog:Program}{w:World}{K:Type}[DecidableEq K]{knd:KeyKind prog w K}{A:Around}{E:Value->Shared->Prop}{s:Shared}(f:Nat){ks:List K}{a:Addr}{Q:Bool->Shared->Prop}(hk:IsTupleKey knd s.heap ks a)(h:Q true s):wpAny (model prog w) A (eqIsQuiet (f+1) (.ref a)) Q E s:=by
 have hT:=hk.typeIs
 obtain⟨o,items,n,ho,_,hd,hi⟩:=hk
 unfold eqIsQuiet
 refine ah (fO hT F.slot_tuple_eq.lookup ?_)
 show wpAny _ _ (isInstance (.ref a) (.type "tuple") >>= _) _ _ s
 refine ah (hG hT iU ?_)
 simp only[f6,cy,gE]
 refine ah (gn ho hd ?_)
 refine ah ?_
 show wpAny _ _ (forIn items _ _) _ _ s
 rw[<- km]
 refine g_ _ (fun cZ r s'=>r.1=none/\s'=s/\∀v∈cZ,carriedByValue v=true) _ ?_ ?_ _ _ ⟨rfl,rfl,hi.byValue⟩
 ·rintro v cZ r s' ⟨hr,rfl,m3⟩
  rw[eqIsQuiet_byValue _ (m3 v bf)]
  refine ah (av ?_)
  simp only[f6,cy,gE]
  exact av ⟨rfl,rfl,fun u hu'=>m3 u (aT _ hu')⟩
 ·rintro⟨r1,r2⟩ s' ⟨hr,rfl,_⟩
  simp only at hr
  subst hr
  exact av h
def kind{prog:Program}{w:World}{K1 K:Type}[DecidableEq K1][DecidableEq K](knd:KeyKind prog w K1)(kd:KeyKind prog w K):HeapKind prog w (K1×List K) where
 is:=Is knd (tupleKind kd)
 hash:=hash knd (tupleKind kd)
 draws:=fun k=>1+(k.2.length+1)+1
 room:=fun A=>A.units+1<cLine
 inj:=fun hx hy=>hx.inj hy
 keeps:=fun x ho hd hs=>x.keeps ho hd hs
 pyHash:=fun hu hk h=>pyHash (Nat.lt_of_succ_lt hu) hu hk h
 eqBool:=fun hu hx hy h=>eqBool (Nat.lt_of_succ_lt hu) hu hx hy h
 quiet:=fun hk h=>quiet (fun hb hq=>Ca 6 hb hq) hk h
section
variable{prog:Program}{w:World}{K:Type}[DecidableEq K]{knd:HeapKind prog w K}{A:Around}{E:Value->Shared->Prop}{s:Shared}
theorem zw{d a:Addr}{xs:List (K×Addr×Value)}{k:K}{dflt:Value}{Q:Value->Shared->Prop}(hu:knd.room A)(q_:knd.is s.heap k a)(hm:s.heap.DictOfH knd d xs)
  (Ad:∀p,atKey xs k=some p->Q p.2 { s with toks:=s.toks+knd.draws k })
  (qC:atKey xs k=none->∀h',h'.DictOfH knd d (xs++[(k,a,dflt)])->Heap.SameBut d s.heap h'->Q dflt { s with heap:=h',toks:=s.toks+knd.draws k })
  (hsz:xs.length<=sizeLine):wpAny (model prog w) A (dictSetDefault d (.ref a) dflt) Q E s:=by
 obtain⟨o,es,ep,ho,hc,hd,he,wT,hn⟩:=hm
 unfold dictSetDefault
 try with_reducible refine cF ?_
 refine ah (knd.pyHash hu q_ ?_)
 refine ah (wpAny_dictFind_heap (s:={ s with toks:=s.toks+knd.draws k }) hu q_ ho hd he wT hn ?_ ?_)
 ·intro hno
  have hnot:k∉xs.map (·.1):=not_mem_keys_of_get hno
  refine ah (io (ah (wpAny_updateDictKeys (hz:=by have e:=size_of_entries he;omega) (s:={ s with toks:=s.toks+knd.draws k }) ho hd (av (qC (atKey_none_of_get hno) _ ⟨_,_,ep+1,gK _ ho (Obj.isFreed_of_dict (g6 hd _)),
   hc.mapDictKeys _,g6 hd _,?_,?_,?_⟩ (cG ..))))))
  ·simp[he,entryOfKey]
  ·intro x hx
   rcases aQ.mp hx with hx|hx
   ·exact knd.keeps (wT x hx) ho hd (cG ..)
   ·simp only[bL]at hx
    subst hx
    exact knd.keeps q_ ho hd (cG ..)
  ·rw[dz,dg]
   refine⟨hn,by simp,?_⟩
   intro x hx y hy
   simp only[aR,eB,bL]at hy
   subst hy
   exact fun e=>hnot (e▸hx)
 ·intro j p hj
  refine ah (kQ (s:={ s with toks:=s.toks+knd.draws k }) ho hd ?_)
  rw[entry_at he j,hj]
  exact ah (io (av (Ad p (atKey_of_get hn hj))))
theorem meets_setdefault(d a:Addr)(hd:(d==sysModules)=false)(dflt:Value) :
  MeetsIn prog w (Builtin.«dict.setdefault» ⟨[.ref d,.ref a,dflt],[]⟩) (fun A R s=>knd.room A.in1/\∃k xs,knd.is s.heap k a/\s.heap.DictOfH knd d xs/\xs.length<=sizeLine /\
   (∀p,atKey xs k=some p->R (.ok (.ret p.2)) { s with toks:=s.toks+knd.draws k }) /\
   (atKey xs k=none->∀h',h'.DictOfH knd d (xs++[(k,a,dflt)])->Heap.SameBut d s.heap h'->R (.ok (.ret dflt)) { s with heap:=h',toks:=s.toks+knd.draws k })):=
 .of_wp fun A R s ⟨hu,k,xs,q_,hm,hz,h1,h2⟩=>by
  unfold Builtin.«dict.setdefault»
  refine ah ?_
  unfold Builtin.Dict.keyAndDefault
  refine ah (m9 hm.typeIs ?_)
  show wpAny _ _ (pure (d,Value.ref a,some dflt)) _ _ s
  refine av ?_
  show wpAny _ _ (if (d==sysModules)=true then _ else(dictSetDefault d (.ref a) dflt >>= _)) _ _ s
  rw[aD (by rw[hd];exact bK)]
  exact ah (zw hu q_ hm (fun p hp=>av ⟨p.2,rfl,h1 p hp⟩) (fun hn h' hm' hs'=>av ⟨dflt,rfl,h2 hn h' hm' hs'⟩) hz)
end
end PK
namespace L2
open PySem PySem.Spec PyProof.Rows
section
variable{P:Program}{w:World}{H:Hp}{h:Heap}{a:Addr}{es:List DictEntry}
theorem NV(ok:n6 P w H h)(e:H a=some (KC a es)):DX a es h:=(show eZ P w H h a (.ext (DX a es))from ok a _ e).1
theorem zx(d:DX a es h):eZ P w H h a (KC a es):=by
 refine⟨d,?_,fun h1 h2 ⟨o,ep,e,x,y⟩ k=>⟨o,ep,k o e,x,y⟩⟩
 obtain⟨o,ep,e,_⟩:=d
 exact⟨o,e⟩
theorem K0(ok:n6 P w H h)(e:H a=some (.dK [])):DX a [] h/\(a==sysModules)=false:=by
 obtain⟨_,hd,vs,jl,dd⟩:=Av ok e
 cases jl
 obtain⟨o,es,ep,h1,h2,h3,_,h4,_⟩:=dd
 refine⟨⟨o,ep,h1,h2,?_⟩,hd⟩
 rw[h3]
 have:es.toList=[]:=by
  cases hh:es.toList with
  |nil=>rfl
  |cons x l=>rw[hh]at h4;cases h4
 rw[show es=[].toArray from by apply Array.ext';rw[this]]
theorem Hs(d:DX a es h)(q:Str):KC a es≠lu a q:=fun z=>by
 injection z with z
 have:=congrFun z h
 have c:∃o vs t,h.get? a=some o/\o.data=.fields vs/\vs[1]?=some (.str q t):=this▸d
 obtain⟨o,ep,e,_,y⟩:=d
 obtain⟨o',vs,t,e',y',_⟩:=c
 rw[e]at e';cases e'
 rw[y]at y';cases y'
end
section
variable{X:Cx}{K:Type}[DecidableEq K]{knd:HeapKind X.prog X.w K}{pins:List (Addr×Obj)}{σ:St}{H:Hp}{s:Shared}{a b:Addr}{xs:List (K×Addr×Value)}{k:K}{A:Around}{E:Value->Shared->Prop}
abbrev xK(knd:HeapKind X.prog X.w K)(xs:List (K×Addr×Value)):List DictEntry:=xs.map (entryOfKey knd)
theorem xL(d:DX a (xK knd xs) s.heap)(wT:∀x∈xs,knd.is s.heap x.1 x.2.1)(hn:(xs.map (·.1)).Nodup):s.heap.DictOfH knd a xs:=by
 obtain⟨o,ep,h1,h2,h3⟩:=d
 exact⟨o,_,ep,h1,h2,h3,by simp,wT,hn⟩
theorem AS{h':Heap}{ys:List (K×Addr×Value)}(d:h'.DictOfH knd a ys):DX a (xK knd ys) h':=by
 obtain⟨o,es,ep,h1,h2,h3,h4,_⟩:=d
 refine⟨o,ep,h1,h2,?_⟩
 rw[h3,show es=(xK knd ys).toArray from by apply Array.ext';rw[h4]]
structure XD(knd:HeapKind X.prog X.w K)(H:Hp)(s:Shared)(a:Addr)(xs:List (K×Addr×Value)):Prop where
 d:DX a (xK knd xs) s.heap
 is:∀x∈xs,knd.is s.heap x.1 x.2.1
 nd:(xs.map (·.1)).Nodup
 sm:(a==sysModules)=false
 z:xs.length<=sizeLine
 mu:JO (H a)
theorem NW{Q:Value->Shared->Prop}(hu:knd.room A.in1)(I:bi X pins σ H s)(x:XD knd H s a xs)(hk:knd.is s.heap k b){p:Addr×Value}(hp:atKey xs k=some p)(h:∀s',bi X pins σ H s'->Q p.2 s'):wpAny (model X.prog X.w) A (getItem (.ref a) (.ref b)) Q E s:=
 wpAny_getItem_heap hu hk (xL x.d x.is x.nd) hp (h _ (I.tok _))
theorem Ht{Q:Value->Shared->Prop}(hu:knd.room A.in1)(I:bi X pins σ H s)(x:XD knd H s a xs)(hk:knd.is s.heap k b)(h:∀s',bi X pins σ H s'->Q (.bool (!(atKey xs k).isSome)) s'):wpAny (model X.prog X.w) A (compareOp .NotIn (.ref b) (.ref a)) Q E s:=
 wpAny_notIn_heap hu hk x.sm (xL x.d x.is x.nd) (h _ (I.tok _))
theorem NX{v:Value}{Q:Unit->Shared->Prop}(hu:knd.room A.in1)(I:bi X pins σ H s)(x:XD knd H s a xs)(hk:knd.is s.heap k b)(h:∀s',bi X pins σ (fx H a (KC a (xK knd (storedH xs k b v)))) s'->Q () s'):wpAny (model X.prog X.w) A (setItem (.ref a) (.ref b) v) Q E s:=by
 refine wpAny_setItem_heap (hsz:=x.z) hu hk (xL x.d x.is x.nd) fun h' dd hs=>h _ ?_
 have d:=AS dd
 exact lT I x.mu hs (let ⟨q,_,hq,_⟩:=d;⟨q,hq⟩) (zx d)
end
theorem sL:∀{ws:List W} {l:List Int},gs ws=some l->ws=l.map W.int
 |[],l,h=>by simp only[gs]at h;cases h;rfl
 |w::ws,l,h=>by
  cases w with
  |int z=>
   unfold gs at h
   cases e:gs ws with
   |none=>rw[e]at h;cases h
   |some r=>
    rw[e]at h
    cases h
    rw[sL e];rfl
  |_=>unfold gs at h;cases h
def jP:W->Option KX
 |.bl b=>some (.bo b)
 |.tup ws=>(match gs ws,ws with
  |some ks,_=>some (.fl ks)
  |none,[.int i,.tup vs]=>(gs vs).map (KX.pr i)
  |_,_=>none)
 |_=>none
theorem sM{w:W}{k:KX}(h:jP w=some k):w=k.w:=by
 cases w with
 |bl b=>cases h;rfl
 |tup ws=>
  simp only[jP]at h
  cases e:gs ws with
  |some ks=>rw[e]at h;cases h;show _=W.tup _;rw[sL e]
  |none=>
   rw[e]at h
   split at h
   ·rename_i z
    cases z
   ·rename_i i vs e2
    cases e3:gs vs with
    |none=>rw[e3]at h;cases h
    |some ks=>rw[e3]at h;cases h;show _=W.tup [_,.tup _];rw[sL e3]
   ·cases h
 |_=>cases h
structure HV(X:Cx)(K:Type)[DecidableEq K] where
 knd:HeapKind X.prog X.w K
 em:K->KX
 inj:∀{a b:K},em a=em b->a=b
 hash:∀k,(em k).hash=knd.hash k
 is:∀{pins:List (Addr×Obj)} {σ:St} {H:Hp} {s:Shared} {μ:List Addr} {k:K} {v:V} {u:Value},bi X pins σ H s->bh X.K μ H (em k).w v->bN v u->∃b,u=.ref b/\knd.is s.heap k b
 room:∀{A:Around},A.units+2<cLine->knd.room A.in1
theorem items_int{P:Program}{w:World}:∀{ks:List Int} {bj:List Value},b9 (ks.map V.int) bj->ItemsAre (intKind P w) ks bj
 |[],_,r=>by cases r;exact .nil
 |k::ks,_,r=>by
  cases r with
  |cons h t=>
   obtain⟨q,rfl⟩:=h
   exact .cons (by simp[intKind,Value.isInt]) (items_int t)
theorem D8{K:Frag}{μ:List Addr}{H:Hp}:∀{ks:List Int} {vs:List V},RelWs K μ H (ks.map W.int) vs->vs=ks.map V.int
 |[],vs,r=>r.nilE
 |k::ks,vs,r=>by
  obtain⟨x,xs,rfl,a,b⟩:=r.consE
  rw[a.intE,D8 b];rfl
theorem D9{X:Cx}{pins:List (Addr×Obj)}{σ:St}{H:Hp}{s:Shared}{μ:List Addr}{ks:List Int}{v:V}{u:Value}(I:bi X pins σ H s)(r:bh X.K μ H (.tup (ks.map W.int)) v)(ru:bN v u):∃b,u=.ref b/\IsTupleKey (intKind X.prog X.w) s.heap ks b:=by
 obtain⟨p,vs,rfl,hS,q⟩:=r.tupE
 cases ru
 rw[D8 q]at hS
 obtain⟨bj,r,⟨o,ho,hc,n,hd⟩,_⟩:=I.tuple hS
 exact⟨p,rfl,o,bj.toArray,n,ho,hc,hd,items_int r⟩
def Pz(X:Cx):HV X (List Int) where
 knd:=tupleKind (intKind X.prog X.w)
 em:=KX.fl
 inj:=fun h=>by injection h
 hash:=fun k=>rfl
 is:=fun I r ru=>D9 I r ru
 room:=fun{A} h=>by show A.units+1<cLine;omega
def PB(X:Cx):HV X (Int×List Int) where
 knd:=PK.kind (intKind X.prog X.w) (intKind X.prog X.w)
 em:=fun k=>.pr k.1 k.2
 inj:=fun{a b} h=>by injection h with h1 h2;exact Prod.ext h1 h2
 hash:=fun k=>rfl
 is:=fun{pins σ H s μ k v u} I r ru=>by
  obtain⟨p,vs,rfl,hS,q⟩:=bh.tupE r
  cases ru
  obtain⟨x,xs,rfl,a,b⟩:=q.consE
  obtain⟨y,ys,rfl,c,d⟩:=b.consE
  have:=d.nilE;subst this
  cases a.intE
  obtain⟨bj,r',⟨o,ho,hc,n,hd⟩,_⟩:=I.tuple hS
  obtain⟨u1,us,rfl,r1,r2⟩:∃u1 us,bj=u1::us/\bN (.int k.1) u1/\b9 [y] us:=by cases r' with|cons h t=>exact⟨_,_,rfl,h,t⟩
  obtain⟨u2,rfl,r3⟩:∃u2,us=[u2]/\bN y u2:=by
   cases r2 with
   |cons h t=>cases t;exact⟨_,rfl,h⟩
  obtain⟨b,rfl,hb⟩:=D9 I c r3
  obtain⟨t,rfl⟩:=r1
  exact⟨p,rfl,o,_,b,n,ho,hc,hd,by simp[intKind,Value.isInt],hb⟩
 room:=fun{A} h=>by show A.units+1+1<cLine;omega
def fg(kvs:List (KX×W))(k:KX):Option W:=(kvs.find? fun p=>decide (p.1=k)).map fun p=>p.2
def iQ(kvs:List (KX×W))(k:KX)(v:W):List (KX×W):=if (fg kvs k).isSome=true then kvs.map fun p=>if p.1=k then(p.1,v)else p else kvs++[(k,v)]
section
variable{X:Cx}{K:Type}[DecidableEq K](G:HV X K){pins:List (Addr×Obj)}{σ:St}{H:Hp}{s:Shared}{μ:List Addr}
def Vw(μ:List Addr)(H:Hp):List (KX×W)->List (K×Addr×Value)->Prop:=Paired fun p x=>p.1=G.em x.1/\bh X.K μ H p.1.w (.ref x.2.1)/\∃v,bh X.K μ H p.2 v/\bN v x.2.2
theorem sN{v:V}{b:Addr}(h:bN v (.ref b)):v=.ref b:=by
 cases v with
 |ref a=>cases h;rfl
 |non=>cases h
 |bl _=>cases h
 |ty _=>cases h
 |int _=>obtain⟨_,h⟩:=h;cases h
 |str _=>obtain⟨_,h⟩:=h;cases h
 |byt _=>obtain⟨_,h⟩:=h;cases h
 |flt _=>obtain⟨_,h⟩:=h;cases h
theorem AT(I:bi X pins σ H s):∀{kvs:List (KX×W)} {es:List DictEntry},Paired (qW X.K μ H) kvs es->(∀p∈kvs,∃k,p.1=G.em k)->∃xs,es=xK G.knd xs/\Vw G μ H kvs xs/\∀x∈xs,G.knd.is s.heap x.1 x.2.1
 |_,_,.nil,_=>⟨[],rfl,.nil,fun x hx=>by cases hx⟩
 |_,_,.cons (a:=p) (b:=e) r t,hk=>by
  obtain⟨xs,e1,vw,wT⟩:=AT I t fun p hp=>hk p (aT _ hp)
  obtain⟨k,hpk⟩:=hk p (bf ..)
  obtain⟨hh,⟨v,rk,rv⟩,u,ru,kJ⟩:=r
  obtain⟨b,hb,hi⟩:=G.is (k:=k) I (by rw[<- hpk];exact rk) rv
  have ev:v=.ref b:=sN (by rw[<- hb];exact rv)
  subst ev
  refine⟨(k,b,e.val)::xs,?_,.cons ⟨hpk,rk,u,ru,kJ⟩ vw,fun x hx=>?_⟩
  ·rw[e1]
   show e::_=entryOfKey G.knd (k,b,e.val)::_
   congr 1
   obtain⟨eh,ek,ev⟩:=e
   simp only at hh hb
   subst hb
   rw[hh,hpk,G.hash];rfl
  ·rcases a7.mp hx with rfl|hx
   ·exact hi
   ·exact wT x hx
variable{G}
theorem l8:∀{kvs:List (KX×W)} {xs:List (K×Addr×Value)} (k:K),Vw G μ H kvs xs->(∃w p v,fg kvs (G.em k)=some w/\atKey xs k=some p/\bh X.K μ H w v/\bN v p.2)\/(fg kvs (G.em k)=none/\atKey xs k=none)
 |_,_,k,.nil=>.inr ⟨rfl,rfl⟩
 |_,_,k,.cons (a:=p) (b:=x) (l₁:=kvs) (l₂:=xs) ⟨h1,_,v,h3,h4⟩ t=>by
  by_cases e:x.1=k
  ·refine .inl ⟨p.2,x.2,v,?_,?_,h3,h4⟩
   ·unfold fg;rw[br];simp[h1,e]
   ·unfold atKey;rw[br];simp[e]
  ·have e2:p.1≠G.em k:=fun z=>e (G.inj (h1.symm.trans z))
   have a1:fg (p::kvs) (G.em k)=fg kvs (G.em k):=by unfold fg;rw[br];simp[e2]
   have a2:atKey (x::xs) k=atKey xs k:=by unfold atKey;rw[br];simp[e]
   rw[a1,a2]
   exact l8 k t
theorem uU:∀{kvs:List (KX×W)} {xs:List (K×Addr×Value)},Vw G μ H kvs xs->kvs.map (fun p=>p.1)=(xs.map (·.1)).map G.em
 |_,_,.nil=>rfl
 |_,_,.cons ⟨h1,_⟩ t=>by
  simp only[aR]
  rw[h1,uU t]
theorem uV:∀{kvs:List (KX×W)} {xs:List (K×Addr×Value)},Vw G μ H kvs xs->Paired (qW X.K μ H) kvs (xK G.knd xs)
 |_,_,.nil=>.nil
 |_,_,.cons ⟨h1,h2,h3⟩ t=>.cons ⟨by rw[h1,G.hash];rfl,⟨_,h2,rfl⟩,h3⟩ (uV t)
theorem xM{k:K}{w:W}{v:V}{u:Value}(kJ:bh X.K μ H w v)(ru:bN v u):∀{kvs:List (KX×W)} {xs:List (K×Addr×Value)},Vw G μ H kvs xs->Vw G μ H (kvs.map fun p=>if p.1=G.em k then(p.1,w)else p) (xs.map (putAt k u))
 |_,_,.nil=>.nil
 |_,_,.cons (a:=p) (b:=x) ⟨h1,h2,h3⟩ t=>by
  refine .cons ?_ (xM kJ ru t)
  by_cases e:x.1=k
  ·simp only[]
   rw[ax (by rw[h1,e])]
   unfold putAt
   rw[ax e]
   exact⟨h1,h2,v,kJ,ru⟩
  ·simp only[]
   rw[aD fun z=>e (G.inj (h1.symm.trans z))]
   unfold putAt
   rw[aD e]
   exact⟨h1,h2,h3⟩
theorem D_{k:K}{b:Addr}{w:W}{v:V}{u:Value}{kvs:List (KX×W)}{xs:List (K×Addr×Value)}(vw:Vw G μ H kvs xs)(rk:bh X.K μ H (G.em k).w (.ref b))(kJ:bh X.K μ H w v)(ru:bN v u):Vw G μ H (iQ kvs (G.em k) w) (storedH xs k b u):=by
 unfold iQ storedH
 rcases l8 (G:=G) k vw with⟨w',p,v',e1,e2,_⟩|⟨e1,e2⟩
 ·rw[e1,e2]
  exact xM kJ ru vw
 ·rw[e1,e2]
  simp only[Option.isSome_none,cy,gE]
  exact Paired.snoc vw ⟨rfl,rk,v,kJ,ru⟩
end
def KX.tag:KX->Nat
 |.bo _=>0
 |.fl _=>1
 |.pr _ _=>2
def sO(kvs:List (KX×W))(k:KX):Bool:=decide (k.tag≠0)&&kvs.all fun p=>p.1.tag==k.tag
def cW(st:List ao):W->Option (Nat×List (KX×W))
 |.loc n=>(match st[n]? with
  |some (.dcx kvs)=>some (n,kvs)
  |some (.dct [])=>some (n,[])
  |_=>none)
 |_=>none
section
variable{X:Cx}{pins:List (Addr×Obj)}{σ:St}{H:Hp}{s:Shared}{μ:List Addr}{st:List ao}
structure Dc(X:Cx)(μ:List Addr)(H:Hp)(s:Shared)(st:List ao)(n:Nat)(kvs:List (KX×W))(a:Addr)(es:List DictEntry):Prop where
 m:μ[n]?=some a
 c:∃c,st[n]?=some c/\c.isRo=false
 o:∃o,H a=some o/\(∀q u,o≠.frz q u)/\∀q,o≠lu a q
 d:DX a es s.heap
 sm:(a==sysModules)=false
 p:Paired (qW X.K μ H) kvs es
 nd:(kvs.map fun p=>p.1).Nodup
 mu:JO (H a)
 sq:∀es',ej X.K H (fx H a (KC a es'))
theorem fF.butE{K:Frag}{H:Hp}{l:Addr}{φ:Heap->Prop}{H':Hp}(e:BS l H H')(hl:H l=some (.ext φ)):ej K H H':=by
 have m5:∀{p:Addr} {o:HO},H p=some o->(∀zs,o≠.ext zs)->p≠l:=fun{p o} q hn z=>by subst z;rw[hl]at q;cases q;exact hn _ rfl
 refine⟨fun p ys h=>?_,fun b o u h=>e _ _ (m5 h (fun _ z=>by cases z)) h⟩
 rcases h with(h|⟨o,h⟩)|h
 ·exact .inl (.inl (e _ _ (m5 h (fun _ z=>by cases z)) h))
 ·exact .inl (.inr ⟨o,e _ _ (m5 h (fun _ z=>by cases z)) h⟩)
 ·exact .inr h
theorem j4(I:bi X pins σ H s)(S:ia X.K X.mg μ st H){x:W}{v:V}{n:Nat}{kvs:List (KX×W)}(h:cW st x=some (n,kvs))(r:bh X.K μ H x v):∃a es,v=.ref a/\Dc X μ H s st n kvs a es:=by
 cases x with
 |loc m=>
  simp only[cW]at h
  cases e:st[m]? with
  |none=>rw[e]at h;cases h
  |some c=>
   rw[e]at h
   cases c with
   |dcx z=>
    cases h
    obtain⟨a,g,es,k,hd,p,nd⟩:=S.get e
    obtain⟨b,f,rfl⟩:=r.locE
    rw[g]at f;cases f
    have d:=NV I.hok k
    exact⟨a,es,rfl,g,⟨_,e,rfl⟩,⟨_,k,(fun _ _ z=>by cases z),Hs d⟩,d,hd,p,nd,by rw[k];trivial,fun es'=>fF.butE gv k⟩
   |dct z=>
    cases z with
    |cons _ _=>cases h
    |nil=>
     cases h
     obtain⟨a,g,vs,k,rr⟩:=S.get e
     obtain⟨b,f,rfl⟩:=r.locE
     rw[g]at f;cases f
     have k:H a=some (.dK []):=k
     obtain⟨d,hd⟩:=K0 I.hok k
     exact⟨a,[],rfl,g,⟨_,e,rfl⟩,⟨_,k,(fun _ _ z=>by cases z),fun _ z=>by cases z⟩,d,hd,.nil,List.nodup_nil,by rw[k];trivial,fun es'=>fF.butD gv k⟩
   |_=>cases h
 |_=>cases h
theorem AU{K:Type}[DecidableEq K](G:HV X K){n:Nat}{kvs:List (KX×W)}{a:Addr}{es:List DictEntry}(I:bi X pins σ H s)(D:Dc X μ H s st n kvs a es)(hk:∀p∈kvs,∃k,p.1=G.em k)(hl:kvs.length<=sizeLine):∃xs,XD G.knd H s a xs/\Vw G μ H kvs xs:=by
 obtain⟨xs,e,vw,wT⟩:=AT G I D.p hk
 have hn:(xs.map (·.1)).Nodup:=by
  have:=D.nd
  rw[uU vw]at this
  exact(iM.mp this).imp fun h e=>h (fB _ e)
 exact⟨xs,⟨by rw[<- e];exact D.d,wT,hn,D.sm,by rw[<- Paired.length vw];exact hl,D.mu⟩,vw⟩
theorem Ea{kvs:List (KX×W)}{k:KX}(h:sO kvs k=true):(∃ks,k=.fl ks/\∀p∈kvs,∃q,p.1=(Pz X).em q)\/∃i ks,k=.pr i ks/\∀p∈kvs,∃q,p.1=(PB X).em q:=by
 unfold sO at h
 rw[aX,dG]at h
 obtain⟨h0,h1⟩:=h
 cases k with
 |bo b=>simp[KX.tag]at h0
 |fl ks=>
  refine .inl ⟨ks,rfl,fun p hp=>?_⟩
  have:=h1 p hp
  cases e:p.1 with
  |fl q=>exact⟨q,rfl⟩
  |bo _=>rw[e]at this;simp[KX.tag]at this
  |pr _ _=>rw[e]at this;simp[KX.tag]at this
 |pr i ks=>
  refine .inr ⟨i,ks,rfl,fun p hp=>?_⟩
  have:=h1 p hp
  cases e:p.1 with
  |pr j q=>exact⟨(j,q),rfl⟩
  |bo _=>rw[e]at this;simp[KX.tag]at this
  |fl _=>rw[e]at this;simp[KX.tag]at this
def qY(kvs:List (KX×W))(k:KX):Bool:=sO kvs k&&decide (kvs.length<jE)
theorem xN{Pr:Prop}{n:Nat}{kvs:List (KX×W)}{a:Addr}{es:List DictEntry}{k:KX}{v:V}{u:Value}(I:bi X pins σ H s)(D:Dc X μ H s st n kvs a es)(h:qY kvs k=true)(rk:bh X.K μ H k.w v)(ru:bN v u)
  (hh:∀(K:Type) [DecidableEq K] (G:HV X K) (q:K) (b:Addr) (xs:List (K×Addr×Value)),k=G.em q->v=.ref b->u=.ref b->G.knd.is s.heap q b->XD G.knd H s a xs->Vw G μ H kvs xs->Pr):Pr:=by
 unfold qY at h
 rw[aX,bM]at h
 have hl:kvs.length<=sizeLine:=iV (eX h.2)
 rcases Ea (X:=X) h.1 with⟨ks,rfl,hk⟩|⟨i,ks,rfl,hk⟩
 ·obtain⟨xs,xd,vw⟩:=AU (Pz X) I D hk hl
  obtain⟨b,rfl,hb⟩:=(Pz X).is (k:=ks) I rk ru
  exact hh _ (Pz X) ks b xs rfl (sN ru) rfl hb xd vw
 ·obtain⟨xs,xd,vw⟩:=AU (PB X) I D hk hl
  obtain⟨b,rfl,hb⟩:=(PB X).is (k:=(i,ks)) I rk ru
  exact hh _ (PB X) (i,ks) b xs rfl (sN ru) rfl hb xd vw
def vV(Ac:Bool)(x y:W)(st:List ao):R W:=match cW st y,jP x with
 |some (_,kvs),some k=>if qY kvs k=true then .ok (.bl (if Ac then !(fg kvs k).isSome else(fg kvs k).isSome)) st else .bad
 |_,_=>.bad
theorem K3(Ac:Bool)(x y:W)(st:List ao):qe (vV Ac x y st):=by
 unfold vV
 split
 ·split<;>trivial
 ·trivial
theorem Cb{K:Type}[DecidableEq K]{G:HV X K}{kvs:List (KX×W)}{xs:List (K×Addr×Value)}(k:K)(vw:Vw G μ H kvs xs):(atKey xs k).isSome=(fg kvs (G.em k)).isSome:=by
 rcases l8 k vw with⟨w,p,v,e1,e2,_⟩|⟨e1,e2⟩<;>rw[e1,e2]<;>rfl
theorem Eb{kk:Nat}(hr:gD kk X.A):rY X (compareOp .NotIn) (vV true):=⟨fun pins s σ H x y v u Q I rv ru ⟨μ,st,wx,wy,S,rx,ry,q⟩=>by
 unfold vV at q
 cases e:cW st wy with
 |none=>rw[e]at q;exact q.elim
 |some nk=>
  obtain⟨n,kvs⟩:=nk
  cases ek:jP wx with
  |none=>rw[e,ek]at q;exact q.elim
  |some k=>
   rw[e,ek]at q
   simp only at q
   by_cases hx:qY kvs k=true
   ·rw[ax hx]at q
    obtain⟨a,es,rfl,D⟩:=j4 I S e ry
    obtain rfl:u=Value.ref a:=ru
    have:=sM ek
    subst this
    refine xN I D hx rx rv fun K inst G z b xs hk _ hb wT xd vw=>?_
    subst hb
    refine Ht (G.room (by have:=hr.units;omega)) I xd wT fun s' I'=>?_
    rw[Cb z vw,<- hk]
    exact⟨.bl _,H,I',rfl,lX S q⟩
   ·rw[aD hx]at q;exact q.elim,K3 true⟩
end
theorem Cc{kvs:List (KX×W)}{k:KX}(h:fg kvs k=none):k∉kvs.map fun p=>p.1:=fun z=>by
 obtain⟨p,hp,e⟩:=aS.mp z
 unfold fg at h
 rw[Option.map_eq_none_iff,ip]at h
 exact h p hp (bv e)
theorem AV{kvs:List (KX×W)}(k:KX)(v:W)(h:(kvs.map fun p=>p.1).Nodup):((iQ kvs k v).map fun p=>p.1).Nodup:=by
 unfold iQ
 by_cases z:(fg kvs k).isSome=true
 ·rw[ax z,bb]
  have:((fun p:KX×W=>p.1)∘fun p:KX×W=>if p.1=k then(p.1,v)else p)=fun p=>p.1:=by
   funext p
   show(if p.1=k then(p.1,v)else p).1=p.1
   split<;>rfl
  rw[this];exact h
 ·rw[aD z,dz,dg]
  have hn:fg kvs k=none:=by
   cases e:fg kvs k with
   |none=>rfl
   |some _=>rw[e]at z;exact(z rfl).elim
  refine⟨h,by simp,fun a ha b hb=>?_⟩
  have:b=k:=by simpa using hb
  subst this
  exact fun e=>Cc hn (e▸ha)
def qL(x i v:W)(st:List ao):Option (List ao):=match cW st x,jP i with
 |some (n,kvs),some k=>if qY kvs k=true then some (st.set n (.dcx (iQ kvs k v)))else none
 |_,_=>none
section
variable{X:Cx}{kk:Nat}
theorem Dc.put{K:Type}[DecidableEq K]{G:HV X K}{H:Hp}{s:Shared}{μ:List Addr}{st:List ao}{n:Nat}{kvs:List (KX×W)}{a:Addr}{es:List DictEntry}(D:Dc X μ H s st n kvs a es)(S:ia X.K X.mg μ st H)
  {xs:List (K×Addr×Value)} {z:K} {b:Addr} {wv:W} {v:V} {u:Value} (vw:Vw G μ H kvs xs) (rk:bh X.K μ H (G.em z).w (.ref b)) (rv:bh X.K μ H wv v) (ru:bN v u) :
  ia X.K X.mg μ (st.set n (.dcx (iQ kvs (G.em z) wv))) (fx H a (KC a (xK G.knd (storedH xs z b u)))):=by
 obtain⟨c,hc,tS⟩:=D.c
 obtain⟨o,ho,hf,hg⟩:=D.o
 exact S.setG hc tS D.m ho hf hg (D.sq _) rfl ⟨_,eD,D.sm,Paired.imp' (fun _ _ q=>q.mono (aj _) (D.sq _)) (uV (D_ vw rk rv ru)),AV _ _ D.nd⟩
theorem Ec(hr:gD kk X.A):yP X (AJ X qL):=fun pins s σ H o i v ov iv u Q I r1 r2 r3 ⟨μ,st,wo,wi,wv,bG,S,ro,ri,rv,e,q⟩=>by
 unfold qL at e
 cases e1:cW st wo with
 |none=>rw[e1]at e;cases e
 |some nk=>
  obtain⟨n,kvs⟩:=nk
  cases e2:jP wi with
  |none=>rw[e1,e2]at e;cases e
  |some k=>
   rw[e1,e2]at e
   simp only at e
   split at e
   ·rename_i hx
    cases e
    obtain⟨a,es,rfl,D⟩:=j4 I S e1 ro
    obtain rfl:ov=Value.ref a:=r1
    have:=sM e2
    subst this
    refine xN I D hx ri r2 fun K inst G z b xs hk hv hb wT xd vw=>?_
    subst hk;subst hv;subst hb
    refine NX (G.room (by have:=hr.units;omega)) I xd wT fun s' I'=>⟨_,I',?_⟩
    exact q _ (D.sq _) (D.put S vw ri rv r3)
   ·cases e
def PX(X:Cx)(x y:V)(H:Hp)(Q:VK):Prop:=∃a,x=.ref a/\∀(pins:List (Addr×Obj)) (σ:St) (s:Shared) (u:Value) (E:Value->Shared->Prop) (Qv:Value->Shared->Prop),bi X pins σ H s->bN y u ->
 (∀v w' s',bi X pins σ H s'->bN v w'->Q v H->Qv w' s')->s.TypeIs (.ref a) "dict"/\wpAny (model X.prog X.w) X.A (getItem (.ref a) u) Qv E s
def NY(X:Cx)(td ty:TE):TE:=fun σ H Q=>td σ H fun x H1=>ty σ H1 fun y H2=>PX X x y H2 Q
theorem Hu{o i:Expr}{pos:Pos}{td ty:TE}(ho:PE X o td)(hi:PE X i ty)(hs:Dg i):PE X (.Subscript o i pos) (NY X td ty):=by
 intro pins s σ H Q I h
 refine vz PySem.F.slot_dict_getitem.lookup hs (gq (ho pins s σ H _ I h) fun u s1 ⟨x,H1,I1,rx,q1⟩=>gq (hi pins s1 σ H1 _ I1 q1) fun iv s2 ⟨y,H2,I2,ry,a,ex,g⟩=>?_)
 subst ex
 obtain rfl:u=Value.ref a:=rx
 exact g pins σ s2 iv _ _ I2 ry fun v w' s3 I3 kJ q2=>⟨v,H2,I3,kJ,q2⟩
theorem lA{μ:List Addr}{H:Hp}{s:Shared}{st:List ao}{n:Nat}{kvs:List (KX×W)}{a:Addr}{es:List DictEntry}(D:Dc X μ H s st n kvs a es):s.TypeIs (.ref a) "dict":=by
 obtain⟨o,ep,h1,h2,_⟩:=D.d
 exact⟨o,h1,h2.1⟩
def RD(X:Cx)(id:String)(x y z:V)(H:Hp)(Q:VK):Prop:=∃a,x=.ref a/\∀(pins:List (Addr×Obj)) (σ:St) (s:Shared) (u r:Value) (E:Value->Shared->Prop) (Qv:Value->Shared->Prop),bi X pins σ H s->bN y u->bN z r ->
 (∀v w' H' s',bi X pins σ H' s'->bN v w'->Q v H'->Qv w' s')->wpAny (model X.prog X.w) X.A (call (.builtin id) [.ref a,u,r]) Qv E s
def Re(X:Cx)(x:V)(H:Hp):Prop:=∃a,x=.ref a/\∀(pins:List (Addr×Obj)) (σ:St) (s:Shared),bi X pins σ H s->s.TypeIs (.ref a) "dict"/\∀b,Value.ref a=.ref b->∃ob,s.heap.get? b=some ob/\ob.dict=none
def Ed(X:Cx)(id:String)(td ty tx:TE):TE:=fun σ H Q=>td σ H fun x H1=>Re X x H1/\ty σ H1 fun y H2=>tx σ H2 fun z H3=>RD X id x y z H3 Q
theorem Ee{o e f:Expr}{fT du:Pos}{td ty tx:TE}(ho:PE X o td)(he:PE X e ty)(hf:PE X f tx)(m:M2 X o "get" fT e f du):PE X (.Call (.Attribute o "get" fT) [e,f] [] du) (Ed X "dict.get" td ty tx):=by
 intro pins s σ H Q I h
 refine kN m.base m.few m.line PySem.F.plainAttrs_dict PySem.F.slot_dict_get PySem.F.type_dict_get (gq (ho pins s σ H _ I h) fun u s1 ⟨x,H1,I1,rx,⟨a,ex,d⟩,q1⟩=>?_)
 subst ex
 obtain rfl:u=Value.ref a:=rx
 obtain⟨t1,t2⟩:=d pins σ s1 I1
 refine⟨t1,t2,?_⟩
 rw[m.trees]
 refine gz rfl (gY (fD (gq (he pins s1 σ H1 _ I1 q1) fun iv s2 ⟨y,H2,I2,ry,q2⟩=>
  fD (gq (hf pins s2 σ H2 _ I2 q2) fun fv s3 ⟨z,H3,I3,rz,a',ea,g⟩=>iF ?_))))
 cases ea
 exact g pins σ s3 iv fv _ _ I3 ry rz fun v w' H' s4 I4 kJ q3=>⟨v,H',I4,kJ,q3⟩
theorem Ef{o e f:Expr}{fT du:Pos}{td ty tx:TE}(ho:PE X o td)(he:PE X e ty)(hf:PE X f tx)(m:M2 X o "setdefault" fT e f du):PE X (.Call (.Attribute o "setdefault" fT) [e,f] [] du) (Ed X "dict.setdefault" td ty tx):=by
 intro pins s σ H Q I h
 refine kN m.base m.few m.line PySem.F.plainAttrs_dict PySem.F.slot_dict_setdefault PySem.F.type_dict_setdefault (gq (ho pins s σ H _ I h) fun u s1 ⟨x,H1,I1,rx,⟨a,ex,d⟩,q1⟩=>?_)
 subst ex
 obtain rfl:u=Value.ref a:=rx
 obtain⟨t1,t2⟩:=d pins σ s1 I1
 refine⟨t1,t2,?_⟩
 rw[m.trees]
 refine gz rfl (gY (fD (gq (he pins s1 σ H1 _ I1 q1) fun iv s2 ⟨y,H2,I2,ry,q2⟩=>
  fD (gq (hf pins s2 σ H2 _ I2 q2) fun fv s3 ⟨z,H3,I3,rz,a',ea,g⟩=>iF ?_))))
 cases ea
 exact g pins σ s3 iv fv _ _ I3 ry rz fun v w' H' s4 I4 kJ q3=>⟨v,H',I4,kJ,q3⟩
def sP(fo fk fd:FE):FE:=fun ρ st=>(fo ρ st).bind fun x st=>match cW st x with
 |some _=>(fk ρ st).bind fun y st=>(fd ρ st).bind fun z st=>(match cW st x,jP y with
  |some (_,kvs),some k=>if qY kvs k=true then .ok ((fg kvs k).getD z) st else .bad
  |_,_=>.bad)
 |none=>.bad
theorem sQ{μ:List Addr}{st:List ao}{H:Hp}{x:W}{v:V}{nk:Nat×List (KX×W)}(S:ia X.K X.mg μ st H)(e:cW st x=some nk)(r:bh X.K μ H x v):Re X v H:=by
 have⟨a,ea,_⟩:∃a,v=.ref a/\True:=by
  cases x with
  |loc m=>obtain⟨a,_,e⟩:=r.locE;exact⟨a,e,trivial⟩
  |_=>simp only[cW]at e;cases e
 subst ea
 refine⟨a,rfl,fun pins σ s I=>?_⟩
 obtain⟨a',es,ea,D⟩:=j4 I S (n:=nk.1) (kvs:=nk.2) e r
 cases ea
 refine⟨lA D,fun b hb=>?_⟩
 cases hb
 obtain⟨o,ep,h1,h2,_⟩:=D.d
 exact⟨o,h1,h2.2.1⟩
theorem Hv{o e f:Expr}{fo fe fd:FE}{fT du:Pos}(hr:gD kk X.A)(ho:SE X o fo)(he:SE X e fe)(hf:SE X f fd)(m:M2 X o "get" fT e f du:=by exact⟨by rfl,by rfl,by rfl,by rfl⟩):SE X (.Call (.Attribute o "get" fT) [e,f] [] du) (sP fo fe fd):=⟨(Ee ho.h he.h hf.h m).imp fun σ H Q h=>by
 obtain⟨μ,ρ,st,l,h⟩:=h
 refine⟨μ,ρ,st,l,RK.bind h l fun μ1 st1 x v H1 p1 x1 l1 q1 h1=>?_⟩
 cases e0:cW st1 x with
 |none=>rw[e0]at h1;exact h1.elim
 |some nk0=>
  rw[e0]at h1
  simp only at h1
  obtain⟨a0,ea0,_⟩:=sQ l1.sto e0 q1
  refine⟨sQ l1.sto e0 q1,μ1,ρ,st1,l1,RK.bind h1 l1 fun μ2 cQ y u H2 p2 x2 l2 q2 h2=>⟨μ2,ρ,cQ,l2,RK.bind h2 l2 fun μ3 jH d t H3 p3 x3 l3 q3 h3=>?_⟩⟩
  cases e1:cW jH x with
  |none=>rw[e1]at h3;exact h3.elim
  |some nk=>
   obtain⟨n,kvs⟩:=nk
   cases e2:jP y with
   |none=>rw[e1,e2]at h3;exact h3.elim
   |some k=>
    rw[e1,e2]at h3
    simp only at h3
    by_cases hx:qY kvs k=true
    ·rw[ax hx]at h3
     have:=sM e2
     subst this
     refine⟨a0,ea0,fun pins σ s iv r E Qv I ry rz hq=>?_⟩
     obtain⟨a',es,ea,D⟩:=j4 I l3.sto e1 ((q1.mono p2 x2).mono p3 x3)
     rw[ea0]at ea
     cases ea
     refine xN I D hx (q2.mono p3 x3) ry fun K inst G z b xs hk hv hb wT xd vw=>?_
     subst hk;subst hb
     refine jT PySem.F.slot_dict_get (lA D) PySem.F.entry_dict_get (PySem.F.args_dict_get_3 _ _ _) (meetsH_dict_get_default G.knd a0 b xd.sm r) ⟨G.room (by have:=hr.units;omega),z,xs,wT,xL xd.d xd.is xd.nd,?_⟩
     rcases l8 z vw with⟨w,p,v',g1,g2,g3,g4⟩|⟨g1,g2⟩
     ·rw[g1]at h3
      rw[g2]
      exact hq v' _ _ _ (I.tok _) g4 (h3 μ3 v' H3 (aj _) ej.refl l3.sto g3)
     ·rw[g1]at h3
      rw[g2]
      exact hq t _ _ _ (I.tok _) rz (h3 μ3 t H3 (aj _) ej.refl l3.sto q3)
    ·rw[aD hx]at h3;exact h3.elim⟩
end
end L2
namespace PK
open PySem
section
variable{prog:Program}{w:World}{A:Around}{E:Value->Shared->Prop}{s:Shared}
theorem Cd{b:Bool}{Q:Int->Shared->Prop}(h:Q (hashInt (if b then 1 else 0)) { s with toks:=s.toks+1 }):wpAny (model prog w) A (PySem.pyHash (.bool b)) Q E s:=by
 have hr:=rawHash_range (if b then 1 else 0)
 unfold PySem.pyHash
 have hv:[Value.bool b].any Value.onHeap=false:=rfl
 refine ah ?_
 rw[cRoomFor,aD (by rw[hv];exact bK)];refine av ?_
 refine ah (fO (typeIs_bool s b) F.slot_bool_hash.lookup ?_)
 show wpAny _ _ (if (some (Value.builtin "int.__hash__")==some Value.none)=true then _ else _) Q E s
 rw[aD (by rw[beq_builtin_none];exact bK)]
 refine ah (fO (typeIs_bool s b) F.slot_bool_hash.lookup ?_)
 show wpAny _ _ (callSpecialIfBoundUnlessNone? (.bool b) "__hash__" _ >>= _) Q E s
 refine ah (gP (typeIs_bool s b) F.slot_bool_hash
  (cY F.slot_bool_hash (typeIs_bool s b) entry_int_hash
   (show wpAny _ _ (do ret (<- mkInt (rawHash (if b then 1 else 0)))) _ _ s from mX ?_) (args_int_hash _)))
 show wpAny _ _ (if (decide (-(2:Int)^63<=rawHash (if b then 1 else 0))&&decide (rawHash (if b then 1 else 0)<2^63))=true then _ else _) Q E _
 rw[ax (by rw[bv hr.1,bv hr.2];rfl)]
 exact av h
end
def isBool:Bool->Value->Bool
 |b,.bool c=>b==c
 |_,_=>false
theorem g8           {b : Bool} {v : Value} (h : isBool b v = true) : v = .bool b := by
  cases v with
  | bool c => have : b = c := by simpa [isBool] using h
              rw [this]
  | _ => cases h
def boolKind(prog:Program)(w:World):KeyKind prog w Bool where
 is:=isBool
 hash:=fun b=>hashInt (if b then 1 else 0)
 inj:=fun v a b ha hb=>by
  have h1:=g8 ha
  have h2:=g8 hb
  rw[h1]at h2
  injection h2
 byValue:=fun k v h=>by rw[g8 h];rfl
 pyHash:=fun hv h=>by rw[g8 hv];exact Cd h
 eqBool:=fun{A E s a b u v Q} hu hv h=>by
  rw[g8 hu,g8 hv]
  have:decide (a=b)=(a==b):=by cases a<;>cases b<;>rfl
  rw[this]at h
  exact SeqAt.EqAt.bool_bool a b _ _ _ _ h
 «strs»:=fun k x t v h=>by cases h
end PK
namespace L2
open PySem PySem.Spec PyProof.Rows
section
variable{prog:Program}{w:World}{K:Type}[DecidableEq K]{knd:KeyKind prog w K}{A:Around}{E:Value->Shared->Prop}{s:Shared}{a:Addr}{es:List DictEntry}{k:K}{key dflt:Value}
theorem Hw{Q:Value->Shared->Prop}(q_:knd.is k key=true)(d:DX a es s.heap)(hk:KeysOf knd es.toArray)
  (Ad:∀e,(es.find? fun e=>knd.is k e.key)=some e->Q e.val { s with toks:=s.toks+1 })
  (qC:(es.find? fun e=>knd.is k e.key)=none->∀h',DX a (es++[⟨knd.hash k,key,dflt⟩]) h'->Heap.SameBut a s.heap h'->Q dflt { s with heap:=h',toks:=s.toks+1 })
  (hz:es.length<=sizeLine):wpAny (model prog w) A (dictSetDefault a key dflt) Q E s:=by
 obtain⟨o,ep,ho,hc,hd⟩:=d
 unfold dictSetDefault
 try with_reducible refine cF ?_
 refine ah (knd.pyHash q_ ?_)
 refine ah (wpAny_dictFind_of (s:={ s with toks:=s.toks+1 }) q_ ho hd hk ?_)
 have ef:(es.toArray.find? fun e=>knd.is k e.key)=es.find? fun e=>knd.is k e.key:=by simp
 cases hi:es.toArray.findIdx? fun e=>knd.is k e.key with
 |some i=>
  refine ah (kQ (s:={ s with toks:=s.toks+1 }) ho hd ?_)
  have hlt:i<es.toArray.size:=(Array.findIdx?_eq_some_iff_findIdx_eq.mp hi).1
  rw[Array.getElem?_eq_getElem hlt]
  have hfi:(es.find? fun e=>knd.is k e.key)=some es.toArray[i]:=by
   have h1:es.findIdx? (fun e=>knd.is k e.key)=some i:=by rw[<- m_];exact hi
   obtain⟨h2,h3,h4⟩:=List.findIdx?_eq_some_iff_getElem.mp h1
   rw[i9]
   exact⟨h3,i,h2,by simp,fun j hj=>by simpa using h4 j hj⟩
  exact ah (io (av (Ad _ hfi)))
 |none=>
  have hfn:(es.find? fun e=>knd.is k e.key)=none:=by
   have h1:es.findIdx? (fun e=>knd.is k e.key)=none:=by rw[<- m_];exact hi
   rw[ip]
   intro x hx
   have:=List.findIdx?_eq_none_iff.mp h1 x hx
   simpa using this
  refine ah (io (ah (wpAny_updateDictKeys (hz:=by simpa using hz) (s:={ s with toks:=s.toks+1 }) ho hd (av (qC hfn _ ⟨_,ep+1,gK _ ho (Obj.isFreed_of_dict (g6 hd _)),hc.mapDictKeys _,?_⟩ (cG ..))))))
  rw[g6 hd]
  congr 1
  simp
theorem zy(q_:knd.is k key=true)(hd:(a==sysModules)=false) :
  MeetsIn prog w (Builtin.«dict.setdefault» ⟨[.ref a,key,dflt],[]⟩) (fun _ R s=>∃es,DX a es s.heap/\KeysOf knd es.toArray/\es.length<=sizeLine /\
   (∀e,(es.find? fun e=>knd.is k e.key)=some e->R (.ok (.ret e.val)) { s with toks:=s.toks+1 }) /\
   ((es.find? fun e=>knd.is k e.key)=none->∀h',DX a (es++[⟨knd.hash k,key,dflt⟩]) h'->Heap.SameBut a s.heap h'->R (.ok (.ret dflt)) { s with heap:=h',toks:=s.toks+1 })):=
 .of_wp fun A R s ⟨es,d,hk,hz,h1,h2⟩=>by
  have ht:s.TypeIs (.ref a) "dict":=let ⟨o,ep,e,c,_⟩:=d;⟨o,e,c.1⟩
  unfold Builtin.«dict.setdefault»
  refine ah ?_
  unfold Builtin.Dict.keyAndDefault
  refine ah (m9 ht ?_)
  show wpAny _ _ (pure (a,key,some dflt)) _ _ s
  refine av ?_
  show wpAny _ _ (if (a==sysModules)=true then _ else(dictSetDefault a key dflt >>= _)) _ _ s
  rw[aD (by rw[hd];exact bK)]
  exact ah (Hw q_ d hk (fun e he=>av ⟨e.val,rfl,h1 e he⟩) (fun hn h' d' hs=>av ⟨dflt,rfl,h2 hn h' d' hs⟩) hz)
end
section
variable{X:Cx}{μ:List Addr}{H:Hp}
def Eg(kvs:List (KX×W))(k:KX):Bool:=decide (k.tag=0)&&(kvs.all fun p=>p.1.tag==0)&&decide (kvs.length<jE)
theorem zz:∀{kvs:List (KX×W)} {es:List DictEntry},Paired (qW X.K μ H) kvs es->(kvs.all fun p=>p.1.tag==0)=true->∀e∈es,∃b,(PK.boolKind X.prog X.w).is b e.key=true/\e.hash=(PK.boolKind X.prog X.w).hash b
 |_,_,.nil,_=>fun e he=>by cases he
 |_,_,.cons (a:=p) (b:=e) r t,h=>fun e' he=>by
  rw[lg,aX]at h
  rcases a7.mp he with rfl|he
  ·obtain⟨hh,⟨v,rk,rv⟩,_⟩:=r
   obtain⟨pk,pw⟩:=p
   cases pk with
   |bo b=>
    cases bh.blE rk
    have hk:_=Value.bool b:=rv
    exact⟨b,by rw[hk];simp[PK.boolKind,PK.isBool],hh⟩
   |fl _=>simp[KX.tag]at h
   |pr _ _=>simp[KX.tag]at h
  ·exact zz t h.2 e' he
theorem vW(b:Bool):∀{kvs:List (KX×W)} {es:List DictEntry},Paired (qW X.K μ H) kvs es->(kvs.all fun p=>p.1.tag==0)=true ->
  (∃w e v,fg kvs (.bo b)=some w/\(es.find? fun e=>(PK.boolKind X.prog X.w).is b e.key)=some e/\bh X.K μ H w v/\bN v e.val)\/(fg kvs (.bo b)=none/\(es.find? fun e=>(PK.boolKind X.prog X.w).is b e.key)=none)
 |_,_,.nil,_=>.inr ⟨rfl,rfl⟩
 |_,_,.cons (a:=p) (b:=e) (l₁:=kvs) (l₂:=es) r t,h=>by
  rw[lg,aX]at h
  obtain⟨hh,⟨v,rk,rv⟩,u,ru,kJ⟩:=r
  obtain⟨pk,pw⟩:=p
  cases pk with
  |bo c=>
   cases bh.blE rk
   have hek:e.key=.bool c:=rv
   by_cases z:c=b
   ·subst z
    refine .inl ⟨pw,e,u,?_,?_,ru,kJ⟩
    ·unfold fg;rw[br];simp
    ·rw[br,hek];simp[PK.boolKind,PK.isBool]
   ·have a1:fg ((KX.bo c,pw)::kvs) (.bo b)=fg kvs (.bo b):=by unfold fg;rw[br];simp[z]
    have a2:((e::es).find? fun e=>(PK.boolKind X.prog X.w).is b e.key)=es.find? fun e=>(PK.boolKind X.prog X.w).is b e.key:=by
     rw[br,hek,show(PK.boolKind X.prog X.w).is b (.bool c)=false by simp[PK.boolKind,PK.isBool,Ne.symm z]]
    rw[a1,a2]
    exact vW b t h.2
  |fl _=>simp[KX.tag]at h
  |pr _ _=>simp[KX.tag]at h
end
section
variable{prog:Program}{w:World}{A:Around}{E:Value->Shared->Prop}{s:Shared}{a:Addr}{es:List DictEntry}
theorem vX(hd:(a==sysModules)=false):MeetsIn prog w (Builtin.«dict.__len__» ⟨[.ref a],[]⟩) (fun _ R s=>∃es,DX a es s.heap/\R (.ok (.ret (.int es.length s.toks))) { s with toks:=s.toks+1 }):=
 .of_wp fun A R s ⟨es,⟨o,ep,ho,hc,hdat⟩,h⟩=>by
  show wpAny _ _ (dictSize a >>= _) _ _ s
  unfold dictSize
  refine ah (ah (kQ ho hdat (av ?_)))
  show wpAny _ _ (Builtin.Dict.pendingCount a >>= _) _ _ s
  refine ah (wpAny_pendingCount_other hd ?_)
  refine mX ?_
  rw[mB,aJ];exact h
theorem xO{Q:Value->Shared->Prop}(hd:(a==sysModules)=false)(d:DX a es s.heap)(Mj:(es.length:Int)<2^63)(h:Q (.int es.length (s.toks+1)) { s with toks:=s.toks+1+1 }):wpAny (model prog w) A (call (.builtin "len") [.ref a]) Q E s:=by
 have ht:s.TypeIs (.ref a) "dict":=let ⟨o,ep,e,c,_⟩:=d;⟨o,e,c.1⟩
 refine ku kind_len plain_len entry_len (args_len1 _) ?_
 unfold Builtin.«len»
 refine ah (m:=oneArg "len" _) (av ?_)
 refine ah (m:=callSpecial? (.ref a) (Str.ofString "__len__")) (cP (name:=Str.ofString "__len__") ht F.slot_dict_len
  (jT F.slot_dict_len ht F.entry_dict_len (F.args_dict_len_1 _) (vX hd) ⟨es,d,?_⟩))
 show wpAny _ _ _ _ _ { s with toks:=s.toks+1 }
 refine ah (cF (av ?_))
 refine ah (kO ?_)
 show wpAny _ _ (if ((es.length:Nat):Int)<0 then _ else _) _ _ _
 rw[aD (by omega)]
 show wpAny _ _ (if ((es.length:Nat):Int)≥2^63 then _ else _) _ _ _
 rw[aD (by omega)]
 exact ah (wpAny_mkInt (av ⟨_,rfl,h⟩))
end
section
variable{X:Cx}{kk:Nat}
theorem NZ{μ:List Addr}{H:Hp}{s:Shared}{st:List ao}{n:Nat}{kvs:List (KX×W)}{a:Addr}{es:List DictEntry}(D:Dc X μ H s st n kvs a es)(h:(kvs.all fun p=>p.1.tag==0)=true):s.heap.MapOf (PK.boolKind X.prog X.w) a (findBy (PK.boolKind X.prog X.w).is es.toArray):=by
 obtain⟨o,ep,h1,h2,h3⟩:=D.d
 exact⟨o,_,ep,h1,h2,h3,fun e he=>zz D.p h e (by simpa using he),fun _=>rfl⟩
theorem IN{kvs:List (KX×W)}{k:KX}(h:Eg kvs k=true):(∃b,k=.bo b)/\(kvs.all fun p=>p.1.tag==0)=true/\kvs.length<=sizeLine:=by
 unfold Eg at h
 rw[aX,aX,bM,bM]at h
 refine⟨?_,h.1.2,iV (eX h.2)⟩
 cases k with
 |bo b=>exact⟨b,rfl⟩
 |fl _=>simp[KX.tag]at h
 |pr _ _=>simp[KX.tag]at h
def Eh(x y:W)(st:List ao):R W:=match cW st x,jP y with
 |some (_,kvs),some k=>if (qY kvs k||Eg kvs k)=true then pq (fg kvs k) fun w=>.ok w st else .bad
 |_,_=>.bad
theorem N0{a b:Expr}{fa fb:FE}{pos:Pos}(hr:gD kk X.A)(ha:SE X a fa)(hb:SE X b fb)(hs:Dg b:=by intro _ _;rfl):SE X (.Subscript a b pos) (e2 Eh fa fb):=⟨(Hu ha.h hb.h hs).imp fun σ H Q h=>by
 obtain⟨μ,ρ,st,l,h⟩:=h
 refine⟨μ,ρ,st,l,RK.bind h l fun μ1 st1 x v H1 p1 x1 l1 q1 h1=>⟨μ1,ρ,st1,l1,RK.bind h1 l1 fun μ2 cQ y u H2 p2 x2 l2 q2 h2=>?_⟩⟩
 unfold Eh at h2
 cases e1:cW cQ x with
 |none=>rw[e1]at h2;exact h2.elim
 |some nk=>
  obtain⟨n,kvs⟩:=nk
  cases e2:jP y with
  |none=>rw[e1,e2]at h2;exact h2.elim
  |some k=>
   rw[e1,e2]at h2
   simp only at h2
   by_cases hx:(qY kvs k||Eg kvs k)=true
   ·rw[ax hx]at h2
    have:=sM e2
    subst this
    obtain⟨a,ea,_⟩:=sQ l2.sto e1 (q1.mono p2 x2)
    refine⟨a,ea,fun pins σ s iv E Qv I ry hq=>?_⟩
    obtain⟨a',es,ea',D⟩:=j4 I l2.sto e1 (q1.mono p2 x2)
    rw[ea]at ea'
    cases ea'
    refine⟨lA D,?_⟩
    rw[fP]at hx
    rcases hx with hx|hx
    ·refine xN I D hx q2 ry fun K inst G z b xs hk hv hb wT xd vw=>?_
     subst hk;subst hb
     rcases l8 z vw with⟨w,p,v',g1,g2,g3,g4⟩|⟨g1,g2⟩
     ·rw[g1]at h2
      exact NW (G.room (by have:=hr.units;omega)) I xd wT g2 fun s' I'=>hq v' _ s' I' g4 (h2 μ2 v' H2 (aj _) ej.refl l2.sto g3)
     ·rw[g1]at h2;exact h2.elim
    ·obtain⟨⟨b,rfl⟩,m3,_⟩:=IN hx
     cases bh.blE q2
     obtain rfl:iv=Value.bool b:=ry
     rcases vW b D.p m3 with⟨w,e,v',g1,g2,g3,g4⟩|⟨g1,g2⟩
     ·rw[g1]at h2
      refine lK (knd:=PK.boolKind X.prog X.w) (k:=b) (by simp[PK.boolKind,PK.isBool]) (NZ D m3) (v:=e.val) ?_ (hq v' _ _ (I.tok _) g4 (h2 μ2 v' H2 (aj _) ej.refl l2.sto g3))
      unfold findBy
      rw[show(es.toArray.find? fun e=>(PK.boolKind X.prog X.w).is b e.key)=es.find? fun e=>(PK.boolKind X.prog X.w).is b e.key by simp,g2];rfl
     ·rw[g1]at h2;exact h2.elim
   ·rw[aD hx]at h2;exact h2.elim⟩
def vY(fo fk fd:FE):FE:=fun ρ st=>(fo ρ st).bind fun x st=>match cW st x with
 |some _=>(fk ρ st).bind fun y st=>(fd ρ st).bind fun z st=>(match cW st x,jP y with
  |some (n,kvs),some k=>if (qY kvs k||Eg kvs k)=true then(match fg kvs k with
   |some w=>.ok w st
   |none=>.ok z (st.set n (.dcx (iQ kvs k z))))else .bad
  |_,_=>.bad)
 |none=>.bad
theorem Hy{o e f:Expr}{fo fe fd:FE}{fT du:Pos}(hr:gD kk X.A)(ho:SE X o fo)(he:SE X e fe)(hf:SE X f fd)(m:M2 X o "setdefault" fT e f du:=by exact⟨by rfl,by rfl,by rfl,by rfl⟩):SE X (.Call (.Attribute o "setdefault" fT) [e,f] [] du) (vY fo fe fd):=⟨(Ef ho.h he.h hf.h m).imp fun σ H Q h=>by
 obtain⟨μ,ρ,st,l,h⟩:=h
 refine⟨μ,ρ,st,l,RK.bind h l fun μ1 st1 x v H1 p1 x1 l1 q1 h1=>?_⟩
 cases e0:cW st1 x with
 |none=>rw[e0]at h1;exact h1.elim
 |some nk0=>
  rw[e0]at h1
  simp only at h1
  obtain⟨a0,ea0,_⟩:=sQ l1.sto e0 q1
  refine⟨sQ l1.sto e0 q1,μ1,ρ,st1,l1,RK.bind h1 l1 fun μ2 cQ y u H2 p2 x2 l2 q2 h2=>⟨μ2,ρ,cQ,l2,RK.bind h2 l2 fun μ3 jH dW t H3 p3 x3 l3 q3 h3=>?_⟩⟩
  cases e1:cW jH x with
  |none=>rw[e1]at h3;exact h3.elim
  |some nk=>
   obtain⟨n,kvs⟩:=nk
   cases e2:jP y with
   |none=>rw[e1,e2]at h3;exact h3.elim
   |some k=>
    rw[e1,e2]at h3
    simp only at h3
    by_cases hx:(qY kvs k||Eg kvs k)=true
    ·rw[ax hx]at h3
     have:=sM e2
     subst this
     refine⟨a0,ea0,fun pins σ s iv r E Qv I ry rz hq=>?_⟩
     obtain⟨a',es,ea,D⟩:=j4 I l3.sto e1 ((q1.mono p2 x2).mono p3 x3)
     rw[ea0]at ea
     cases ea
     rw[fP]at hx
     rcases hx with hx|hx
     ·refine xN I D hx (q2.mono p3 x3) ry fun K inst G z b xs hk hv hb wT xd vw=>?_
      subst hk;subst hb
      refine jT PySem.F.slot_dict_setdefault (lA D) PySem.F.entry_dict_setdefault (PySem.F.args_dict_setdefault_3 _ _ _) (PK.meets_setdefault (knd:=G.knd) a0 b xd.sm r) ⟨G.room (by have:=hr.units;omega),z,xs,wT,xL xd.d xd.is xd.nd,xd.z,?_,?_⟩
      ·intro p hp
       rcases l8 z vw with⟨w,p',v',g1,g2,g3,g4⟩|⟨g1,g2⟩
       ·rw[g1]at h3
        rw[g2]at hp;cases hp
        exact hq v' _ _ _ (I.tok _) g4 (h3 μ3 v' H3 (aj _) ej.refl l3.sto g3)
       ·rw[g2]at hp;cases hp
      ·intro hn h' dd hs
       rcases l8 z vw with⟨w,p',v',g1,g2,g3,g4⟩|⟨g1,g2⟩
       ·rw[g2]at hn;cases hn
       ·rw[g1]at h3
        have d:=AS dd
        have I':=lT (t':=s.toks+G.knd.draws z) I xd.mu hs (let ⟨q,_,hq,_⟩:=d;⟨q,hq⟩) (zx d)
        rw[<- storedH_new g2 b r]at I'
        exact hq t _ _ _ I' rz (h3 μ3 t _ (aj _) (D.sq _) (D.put l3.sto vw (by have:=q2.mono p3 x3;rw[hv]at this;exact this) q3 rz) (q3.mono (aj _) (D.sq _)))
     ·obtain⟨⟨b,rfl⟩,m3,dw⟩:=IN hx
      cases bh.blE q2
      obtain rfl:iv=Value.bool b:=ry
      refine jT PySem.F.slot_dict_setdefault (lA D) PySem.F.entry_dict_setdefault (PySem.F.args_dict_setdefault_3 _ _ _) (zy (knd:=PK.boolKind X.prog X.w) (k:=b) (by simp[PK.boolKind,PK.isBool]) D.sm) ⟨es,D.d,fun e he=>zz D.p m3 e (by simpa using he),by rw[<- Paired.length D.p];exact dw,?_,?_⟩
      ·intro e he
       rcases vW b D.p m3 with⟨w,e',v',g1,g2,g3,g4⟩|⟨g1,g2⟩
       ·rw[g1]at h3
        rw[g2]at he;cases he
        exact hq v' _ _ _ (I.tok _) g4 (h3 μ3 v' H3 (aj _) ej.refl l3.sto g3)
       ·rw[g2]at he;cases he
      ·intro hn h' d hs
       rcases vW b D.p m3 with⟨w,e',v',g1,g2,g3,g4⟩|⟨g1,g2⟩
       ·rw[g2]at hn;cases hn
       ·rw[g1]at h3
        have I':=lT (t':=s.toks+1) I D.mu hs (let ⟨q,_,hq,_⟩:=d;⟨q,hq⟩) (zx d)
        obtain⟨c,hc,tS⟩:=D.c
        obtain⟨o,ho,hf,hg⟩:=D.o
        have ep:iQ kvs (.bo b) dW=kvs++[(.bo b,dW)]:=by unfold iQ;rw[g1];rfl
        have S':=l3.sto.setG (c':=.dcx (iQ kvs (.bo b) dW)) hc tS D.m ho hf hg (D.sq (es++[⟨(PK.boolKind X.prog X.w).hash b,.bool b,r⟩])) rfl ⟨_,eD,D.sm,by
         rw[ep]
         exact Paired.snoc (Paired.imp' (fun _ _ q=>q.mono (aj _) (D.sq _)) D.p) ⟨rfl,⟨_,.bl,rfl⟩,_,q3.mono (aj _) (D.sq _),rz⟩,AV _ _ D.nd⟩
        exact hq t _ _ _ I' rz (h3 μ3 t _ (aj _) (D.sq _) S' (q3.mono (aj _) (D.sq _)))
    ·rw[aD hx]at h3;exact h3.elim⟩
def uW(ws:List W)(st:List ao):R W:=match ws with
 |[x]=>(match cW st x with
  |some (_,kvs)=>if kvs.length<=jE then .ok (.int kvs.length) st else .bad
  |none=>fQ ws st)
 |_=>fQ ws st
theorem K4:mM X (.builtin "len") uW:=⟨fun pins s σ H vs us Q I rv ⟨μ,st,ws,S,r,q⟩=>by
 unfold uW at q
 split at q
 ·rename_i x
  split at q
  ·rename_i n kvs e
   split at q
   ·rename_i hl
    obtain⟨y,rfl,ry⟩:=r.one
    obtain⟨a,es,rfl,D⟩:=j4 I S e ry
    obtain⟨u,rfl,ru⟩:=lq rv
    obtain rfl:u=Value.ref a:=ru
    have hle:es.length=kvs.length:=(Paired.length D.p).symm
    refine xO D.sm D.d (by rw[hle];have:kvs.length<=1000000:=hl;omega) ?_
    refine⟨.int kvs.length,H,I.tok _,⟨_,by rw[hle]⟩,?_⟩
    exact q μ _ H (aj _) ej.refl S .int
   ·exact q.elim
  ·exact fJ.h pins s σ H _ us Q I rv ⟨μ,st,_,S,r,q⟩
 ·exact fJ.h pins s σ H _ us Q I rv ⟨μ,st,_,S,r,q⟩,fun ws st=>by
 unfold uW
 split
 ·split
  ·split<;>trivial
  ·exact(fJ (X:=X)).n _ st
 ·exact(fJ (X:=X)).n _ st⟩
end
def N1(K:Frag)(a:Addr):It:=
 ⟨fun i H=>∃xs x,nL K H a xs/\xs[i]?=some x,fun i H v H'=>∃p,H p=none/\v=.ref p/\∀xs x,nL K H a xs->xs[i]?=some x->H'=fx H p (.tup [.int i,x]),fun i H=>∃xs,nL K H a xs/\xs.length<=i⟩
theorem zA{P:Program}{w:World}{K:Frag}{qB:List Expr}{kk:Nat}{pos:Pos}(a it e:Addr)(Mi:e≠it) :
  yQ P w K (.Tuple qB kk pos) (N1 K a) [e,it] e (fun i h=>(∃old,IsEnum h e it i old)/\h.IsListIter it a i) where
 mem:=by simp
 obj:=fun i h st b hb=>by
  have z:b=e\/b=it:=by simpa using hb
  rcases z with rfl|rfl
  ·obtain⟨old,q⟩:=st.1
   exact⟨_,q,fun v z=>by cases z⟩
  ·obtain⟨o,q,c,d⟩:=st.2
   exact⟨o,q,fun v z=>by rw[d]at z;cases z⟩
 keep:=fun i h h' st k=>⟨let ⟨old,q⟩:=st.1;⟨old,k e (by simp) _ q⟩,st.2.at fun o q=>k it (by simp) o q⟩
 item:=by
  intro X hP hw hK hc i pins s σ H E I hf st hg
  subst hP hw hK
  obtain⟨xs,x,hq,hx⟩:=hg
  obtain⟨bj,rv,p,hz⟩:=I.list hq
  obtain⟨u,hu,ru⟩:=rv.get hx
  obtain⟨⟨old,he⟩,hit⟩:=st
  have hT:s.heap.IsList a bj.toArray:=p.isList
  obtain⟨oa,ha,hca,_⟩:=id hT
  obtain⟨oi,hi,hci,_⟩:=id hit
  have nai:a≠it:=fun z=>by
   rw[z,hi]at ha;cases ha
   rw[hci]at hca;injection hca with z;exact absurd z (by decide)
  have nae:a≠e:=fun z=>by
   rw[z,he]at ha;cases ha
   injection hca with z;exact absurd z (by decide)
  have hlt:i<bj.toArray.size:=by
   have:=(aa.mp hu).1
   simpa using this
  refine lL (Draws.list (A:=X.A.in1) (I.ok.hd hc) it a nai bj.toArray) he ⟨hit,hT⟩ hlt Mi (by simp[Mi,Ne.symm nae]) fun x' g tk hx' ho' bG htup hsz hk=>⟨_,rfl,?_⟩
  have ex:x'=u:=by
   have e1:bj[i]?=some x':=by simpa using hx'
   rw[hu]at e1;exact(a9 e1).symm
  subst ex
  refine kh ho' fun g2 Pi wR=>?_
  have vj:H s.heap.objs.size=none:=I.hok.fresh (aB _)
  have I1:bi X pins σ (fx H s.heap.objs.size (.tup [.int i,x])) { s with heap:=s.heap.push { cls:=.type "tuple",data:=.seq #[.int i tk,x'] },toks:=tk+1 }:=I.laid (fun b o q=>aq _ q) (aB _)
   ⟨by show 2<=sizeLine;decide,[.int i tk,x'],.cons ⟨tk,rfl⟩ (.cons ru .nil),⟨_,aL _ rfl,rfl,_,rfl⟩⟩
  have nf:∀b∈[e,it],b≠s.heap.objs.size:=fun b hb=>by
   have z:b=e\/b=it:=by simpa using hb
   rcases z with rfl|rfl
   ·exact a8 (aF he)
   ·exact a8 (aF hi)
  have fp:∀b∈[e,it],n9 X pins (fx H s.heap.objs.size (.tup [.int i,x])) b:=fun b hb=>by
   obtain⟨f0,f⟩:=hf b hb
   exact⟨by rw[bV (nf b hb)];exact f0,f⟩
  have he2':IsEnum g2 e it ((i:Int)+1) x':=Pi
  have I2:bi X pins σ (fx H s.heap.objs.size (.tup [.int i,x])) { s with heap:=g2,toks:=tk+1 }:=I1.turned2 (t':=tk+1) (fun b o hbe hbi q=>?_) ⟨_,he2'⟩ (fp e (by simp)) (fp it (by simp))
  ·refine⟨.ref s.heap.objs.size,_,I2,rfl,⟨_,vj,rfl,fun ys y hy hy'=>?_⟩,⟨⟨x',by simpa using he2'⟩,bG.1.extBut wR.extBut (Ne.symm Mi)⟩,fun b hb=>(fp b hb).1⟩
   have e1:=I.list_inj hy hq
   subst e1
   rw[hx]at hy';cases hy';rfl
  ·have q':(s.heap.push { cls:=.type "tuple",data:=.seq #[.int i tk,x'] }).get? b=some o:=q
   refine wR.extBut b o hbe ?_
   by_cases hb:b=s.heap.objs.size
   ·subst hb
    have e1:=aL s.heap (o:={ cls:=.type "tuple",data:=.seq #[.int i tk,x'] }) rfl
    rw[e1]at q';cases q'
    exact htup
   ·rw[Heap.get?_push_ne _ _ _ hb]at q'
    exact hk b o hbe hbi q'
 done:=by
  intro X hP hw hK hc i pins s σ H E I hf st hg
  subst hP hw hK
  obtain⟨xs,hq,hx⟩:=hg
  obtain⟨bj,rv,p,hz⟩:=I.list hq
  obtain⟨⟨old,he⟩,hit⟩:=st
  have hT:s.heap.IsList a bj.toArray:=p.isList
  have hl:=rv.length
  have hT':Shared.TypeIs s (.ref e) "enumerate":=⟨_,he,rfl⟩
  unfold pyNext
  refine ah (wpAny_attempt (cP (name:=Str.ofString "__next__") hT' gO (cY gO hT' mD ?_ (lM _))))
  show wpAny _ _ (field (.ref e) 2 >>= _) _ _ _
  refine ah (fV he rfl (x:=.ref it) rfl (ah (wpAny_nextOf_list_end (show X.A.in1.handled=none from I.ok.hd hc) hit hT (by simp;omega) fun g y hx' hy=>?_)))
  obtain⟨o,ho,k6⟩:=hy
  refine ah (hG (T:="StopIteration") (b:=true) ⟨o,ho,k6⟩ isSubtype_stop (av ⟨rfl,?_⟩))
  obtain⟨f0,f1,f2,f3,f4,f5⟩:=hf it (by simp)
  exact I.turned (t':=s.toks) (fun b o hb q=>hx' b o hb q) f0 f1 f3 f4 f5
 self:=fun A i s Q E st h=>let ⟨_,q⟩:=st.1;iJ q h
open AutoSeq1 (wpAny_loadPart')
abbrev pG(t:Addr):Obj:={ cls:=.type "list_iterator",data:=.fields #[.ref t,.int 0 0] }
theorem Hz(t:Addr)(bj:Array Value)(n:Nat)(dc:Option Addr)(sl:Array (Option Value)) :
  Meets (Builtin.«enumerate.__new__» ⟨[.type "enumerate",.ref t],[]⟩) (fun _ R s=>s.heap.get? t=some { cls:=.type "list",dict:=dc,data:=.seq bj n,slots:=sl } /\
   R (.ok (.ret (.ref (s.heap.push (pG t)).objs.size))) { s with heap:=(s.heap.push (pG t)).push (qd s.heap.objs.size) }):=
 .of_wp fun prog w A R s h=>by
  obtain⟨hp,g,d,tk,os⟩:=s
  obtain⟨ht,h⟩:=h
  have sb:=sub_enumerate
  have hT:Heap.IsList (Shared.heap ⟨hp,g,d,tk,os⟩) t bj:=⟨_,ht,rfl,n,rfl⟩
  wp_walk using bq ht
  refine wpAny_stack_any fun st=>av ?_
  split
  ·rename_i c _ _ _ _ _
   cases(c==Value.type "enumerate")<;>(wp_walk using bq ht,kK hT;exact⟨_,rfl,h⟩)
  ·wp_walk using bq ht,kK hT
   exact⟨_,rfl,h⟩
section
variable{prog:Program}{w:World}{A:Around}{E:Value->Shared->Prop}{s:Shared}
theorem sR{t:Addr}{bj:Array Value}{Q:Value->Shared->Prop}(hT:s.heap.IsList t bj)
  (q:∀g,IsEnum g (s.heap.objs.size+1) s.heap.objs.size 0 .none->g.IsListIter s.heap.objs.size t 0->(∀b o,s.heap.get? b=some o->g.get? b=some o)->Q (.ref (s.heap.objs.size+1)) { s with heap:=g }) :
  wpAny (model prog w) A (call (.type "enumerate") [.ref t]) Q E s:=by
 obtain⟨⟨c,dc,dt,sl⟩,ht,hc,n,hd⟩:=hT
 obtain rfl:c=.type "list":=hc
 obtain rfl:dt=.seq bj n:=hd
 refine callType_new F.called_enumerate (by decide) (mE _) (m7 _) (fun ob=>F.args_object_init_2 ob _) m8 (Hz t bj n dc sl) ⟨ht,?_⟩
 have z:(s.heap.push (pG t)).objs.size=s.heap.objs.size+1:=fC ..
 show _/\_
 rw[z]
 have e1:IsEnum ((s.heap.push (pG t)).push (qd s.heap.objs.size)) (s.heap.objs.size+1) s.heap.objs.size 0 .none:=by
  have y:=aL (s.heap.push (pG t)) (o:=qd s.heap.objs.size) rfl
  rw[z]at y;exact y
 exact⟨⟨_,e1,rfl⟩,q _ e1 ⟨_,aq _ (aL _ rfl),rfl,rfl⟩ fun b o y=>aq _ (aq _ y)⟩
end
section
variable{X:Cx}
def QM(K:Frag)(ta:TA):TI:=fun σ H R=>ta σ H fun vs H1=>∃a,vs=[.ref a]/\(∃xs,nL K H1 a xs)/\R (N1 K a) H1
theorem Ei{a:Expr}{ta:TA}{p pos tp:Pos}{qB:List Expr}{kk:Nat}(hm:X.mg "enumerate"=none)(ha:QA X [a] ta)(hg:Gl X "enumerate":=by rfl)(hs:starEach [a] X.env=[(false,eval a X.env)]:=by rfl) :
  QI X (.Tuple qB kk tp) (.Call (.Name "enumerate" p) [a] [] pos) (QM X.K ta):=⟨by
 intro pins s σ H R I h
 refine Call_ (lQ I hg hm nJ (cK (gq (ha.h pos pins s σ H _ I h) fun us s1 ⟨vs,H1,I1,r1,q1⟩=>?_) hs rfl))
 obtain⟨t,e,⟨xs,hq⟩,q⟩:=q1
 subst e
 obtain⟨u,rfl,ru⟩:=lq r1
 cases ru
 obtain⟨bj,rv,pt,hz⟩:=I1.list hq
 refine sR pt.isList fun g e1 e2 kp=>?_
 refine iJ e1 ?_
 refine⟨s1.heap.objs.size+1,[s1.heap.objs.size+1,s1.heap.objs.size],_,_,H1,rfl,I1.kept (t':=s1.toks) kp,zA t _ _ (Nat.succ_ne_self _),⟨⟨_,e1⟩,e2⟩,fun b hb=>?_,q⟩
 have z:b=s1.heap.objs.size+1\/b=s1.heap.objs.size:=by simpa using hb
 rcases z with rfl|rfl
 ·exact I1.fpOk (gu _) (I1.hok.fresh (gu _))
 ·exact I1.fpOk (aB _) (I1.hok.fresh (aB _))⟩
end
section
variable{X:Cx}{a:Expr}{pos p:Pos}{fs:FA}
def l9(fs:FA):FI:=fun ρ st=>(fs ρ st).bind fun ws st=>match ws with
 |[.tup zs]=>.ok (mQ zs,none) st
 |[.loc n]=>(match lstOf st n with
  |some zs=>.ok (mQ zs,some (n,zs)) st
  |none=>.bad)
 |_=>.bad
def AW(fs:FA):FI:=fun ρ st=>(fs ρ st).bind fun ws st=>match ws with
 |[.loc n]=>(match lstOf st n with
  |some zs=>.ok (mQ zs,some (n,zs)) st
  |none=>.bad)
 |_=>.bad
theorem Ej{qB:List Expr}{kk:Nat}{tp:Pos}(hm:X.mg "enumerate"=none)(ha:SA X [a] fs)(hg:Gl X "enumerate":=by rfl)(hs:starEach [a] X.env=[(false,eval a X.env)]:=by rfl) :
  SI X (.Tuple qB kk tp) (.Call (.Name "enumerate" p) [a] [] pos) (AW fs):=⟨(Ei hm ⟨ha.h⟩ hg hs).h.imp fun σ H R h=>by
 obtain⟨μ,ρ,st,l,h⟩:=h
 refine⟨μ,ρ,st,l,RK.bind h l fun μ1 st1 x v H1 p1 x1 l1 q1 h1=>?_⟩
 split at h1
 ·rename_i n
  obtain⟨y,rfl,ry⟩:=q1.one
  obtain⟨a,ha,rfl⟩:=ry.locE
  cases e1:lstOf st1 n with
  |none=>rw[e1]at h1;exact h1.elim
  |some zs=>
   rw[e1]at h1
   obtain⟨a',vs0,g0,hS0,r0⟩:=l1.sto.lstOf e1
   rw[ha]at g0;cases g0
   refine⟨a,rfl,⟨vs0,hS0⟩,h1 μ1 _ H1 (aj _) ej.refl l1.sto fun i μ' bG H' pp xx S ck=>?_⟩
   obtain⟨a2,vs,g2,hS,r⟩:=S.lstOf (show lstOf bG n=some zs from ck)
   have:μ'[n]?=some a:=pre_get pp ha
   rw[g2]at this;cases this
   refine⟨fun w hw=>?_,fun hl=>⟨vs,hS,by rw[qg]at hl;rw[<- r.len];exact hl⟩⟩
   obtain⟨y,hy,rfl⟩:=nO hw
   obtain⟨v,g1,g3⟩:=r.get hy
   refine⟨⟨vs,v,hS,g1⟩,fun z H'' hz=>?_⟩
   obtain⟨q,hq,rfl,hH⟩:=hz
   have e:=hH vs v hS g1
   subst e
   have ex:=fF.same (K:=X.K) (cS hq (.tup [.int i,v]))
   exact⟨ex,S.same (cS hq _),.tupI fF.new (.consI .int (.consI (g3.mono (aj _) ex) .nilI))⟩
 ·exact h1.elim⟩
theorem Ek{qB:List Expr}{kk:Nat}{tp:Pos}(hm:X.mg "enumerate"=none)(ha:SA X [a] fs)(hg:Gl X "enumerate":=by rfl)(hs:starEach [a] X.env=[(false,eval a X.env)]:=by rfl) :
  SI X (.Tuple qB kk tp) (.Call (.Name "enumerate" p) [a] [] pos) (l9 fs):=⟨fun pins s σ H Rr I h=>by
 obtain⟨μ,ρ,st,l,h⟩:=h
 cases e1:fs ρ st with
 |bad=>simp only[l9,e1,R.bind_bad]at h;exact h.elim
 |ex c st1=>
  refine(vK hm ha hg hs).h pins s σ H Rr I ⟨μ,ρ,st,l,?_⟩
  simp only[l9,qh,e1,R.bind_ex]at h ⊢;exact h
 |ok ws st1=>
  simp only[l9,e1,R.bind_ok]at h
  split at h
  ·refine(vK hm ha hg hs).h pins s σ H Rr I ⟨μ,ρ,st,l,?_⟩
   simp only[qh,e1,R.bind_ok];exact h
  ·refine(Ej hm ha hg hs).h pins s σ H Rr I ⟨μ,ρ,st,l,?_⟩
   simp only[AW,e1,R.bind_ok];exact h
  ·exact h.elim⟩
end
section
variable{X:Cx}
theorem qM:∀{ys:List Int} {bj:List Value},b9 (ys.map V.int) bj->IntsAre bj ys
 |[],_,r=>by cases r;exact .nil
 |y::ys,_,r=>by
  cases r with
  |cons r rr=>
   obtain⟨t,rfl⟩:=r
   exact .cons _ _ (qM rr)
theorem sT:∀{bj:List Value} {ns:List Int},IntsAre bj ns->b9 (ns.map V.int) bj
 |_,_,.nil=>.nil
 |_,_,.cons y t r=>.cons ⟨t,rfl⟩ (sT r)
theorem Ce{K:Frag}{μ:List Addr}{H:Hp}(l:List Int):RelWs K μ H (l.map W.int) (l.map V.int):=by
 induction l with
 |nil=>exact .nilI
 |cons a r ih=>exact .consI .int ih
def l_(ws:List W)(st:List ao):R W:=match ws with
 |[.loc n]=>pq (lstOf st n) fun zs=>pq (gs zs) fun l=>if l.length<64 then .ok (.loc st.length) (st++[.lst ((sortI l).map W.int)])else .bad
 |_=>.bad
theorem vZ:mM X (.builtin "sorted") l_:=⟨fun pins s σ H vs us Q I rv ⟨μ,st,ws,S,r,q⟩=>by
 unfold l_ at q
 split at q
 ·rename_i n
  obtain⟨y,rfl,ry⟩:=r.one
  cases e1:lstOf st n with
  |none=>rw[e1]at q;exact q.elim
  |some zs=>
   rw[e1,cJ]at q
   cases e2:gs zs with
   |none=>rw[e2]at q;exact q.elim
   |some l=>
    rw[e2,cJ]at q
    split at q
    ·rename_i c
     obtain⟨a,vs,g,hS,rz⟩:=S.lstOf e1
     obtain⟨b1,f1,rfl⟩:=ry.locE
     rw[g]at f1;cases f1
     have ev:=nz e2 rz
     subst ev
     obtain⟨u,rfl,ru⟩:=lq rv
     cases ru
     obtain⟨bj,rv',pl,hz⟩:=I.list hS
     have hl:=rv'.length
     rw[al]at hl
     refine sorted_ints (ns:=l) pl.isList (qM (by simpa using rv')) (by omega) fun out Mh h1 h2 h3=>?_
     have en:=PySem.W.eq_sortI h2 h3
     subst en
     obtain⟨ep,hat⟩:=sortedAll_at s.heap bj out
     have vj:H (s.heap.objs.size+1)=none:=I.hok.fresh (gu _)
     refine⟨.ref (s.heap.objs.size+1),_,I.laid (o:=.lst ((sortI l).map V.int)) (t':=s.toks) (fun b o e=>sortedAll_old e) (gu _) ?_,rfl,q (μ++[s.heap.objs.size+1]) _ _ (aC _ _) (fF.same (cS vj _)) (S.newLst vj (Ce _)) (nq S)⟩
     refine⟨?_,out.toList,ep,sT h1,hat⟩
     rw[al,h2.length_eq]
     exact aV (eX c) (by decide)
    ·exact q.elim
 ·exact q.elim,fun ws st=>by
 unfold l_
 split
 ·exact oo fun _=>oo fun _=>by split<;>trivial
 ·trivial⟩
end
theorem f9(st x:List ao)(k:Nat):(st++x)[st.length+k]?=x[k]?:=by rw[b8 (by omega)];congr 1;omega
theorem cu(st x:List ao):(st++x)[st.length]?=x[0]?:=f9 st x 0
theorem jg(st x:List ao)(k:Nat)(c:ao):(st++x).set (st.length+k) c=st++x.set k c:=by rw[fH _ _ (by omega)];congr 2;omega
theorem fj(st x:List ao)(c:ao):(st++x).set st.length c=st++x.set 0 c:=jg st x 0 c
theorem aG{st x:List ao}{n:Nat}{c:ao}(h:st[n]?=some c):(st++x)[n]?=some c:=by
 rw[az (aa.mp h).1];exact h
theorem zB(st:List ao)(ws:List W):kC st st ws=st:=by unfold kC;split<;>simp
theorem Cf{st x:List ao}{ws:List W}(h:undWs st.length ws=true):kC st (st++x) ws=st:=by
 unfold kC
 rw[ax ⟨h,by simp,fun i hi=>.inl (az hi)⟩]
 simp
theorem Cg{st bG:List ao}{ws:List W}(h:undWs st.length ws=false):kC st bG ws=bG:=by
 unfold kC
 rw[aD fun k=>by have:=k.1;rw[h]at this;cases this]
theorem rj{N:Nat}{body:FS}{ws:List W}{st bG:List ao}{w:W}(h:body (ws.map some++List.replicate (N-ws.length) none) st=.rt w bG):fI N body ws st=.ok w (kC st bG [w]):=by
 unfold fI;rw[h]
theorem nR{N:Nat}{body:FS}{ws:List W}{st:List ao}{w:W}(h:body (ws.map some++List.replicate (N-ws.length) none) st=.rt w st):fI N body ws st=.ok w st:=by
 rw[rj h,zB]
theorem xP{N:Nat}{body:FS}{ws:List W}{st x:List ao}{w:W}(h:body (ws.map some++List.replicate (N-ws.length) none) st=.rt w (st++x))(hu:undWs st.length [w]=true):fI N body ws st=.ok w st:=by
 rw[rj h,Cf hu]
theorem pH{N:Nat}{body:FS}{ws:List W}{st x:List ao}{k:Nat}(h:body (ws.map some++List.replicate (N-ws.length) none) st=.rt (.loc (st.length+k)) (st++x)):fI N body ws st=.ok (.loc (st.length+k)) (st++x):=by
 rw[rj h,Cg (by simp[undWs,W.und])]
theorem zC{g g':FS}{ρ ρ':bS}{st bG:List ao}(h:g ρ st=.nx ρ' bG):aW g g' ρ st=g' ρ' bG:=by unfold aW;rw[h]
theorem v5{fi:FI}{f:FG}{body:FS}{ρ:bS}{st bG:List ao}{k:zh}(h:fi ρ st=.ok k bG):e_ fi f body ρ st=pz f body k.2 k.1 ρ bG:=by unfold e_;rw[h];rfl
theorem sU{f:FG}{body:FS}{ck:Option (Nat×List W)}(I:Nat->bS->List ao->Prop):∀{ws:List W} {ρ:bS} {st:List ao} (i0:Nat),I i0 ρ st->(∀i ρ st,I i ρ st->iB st ck) ->
  (∀i w ρ st,ws[i]?=some w->I (i0+i) ρ st->∃ρ' ρ2 cQ,f w ρ=some ρ'/\body ρ' st=.nx ρ2 cQ/\I (i0+i+1) ρ2 cQ) ->
  ∃ρ2 cQ,pz f body ck ws ρ st=.nx ρ2 cQ/\I (i0+ws.length) ρ2 cQ
 |[],ρ,st,i0,h0,hc,hs=>⟨ρ,st,by unfold pz;rw[ax (hc _ _ _ h0)],h0⟩
 |w::ws,ρ,st,i0,h0,hc,hs=>by
  obtain⟨ρ',ρ2,cQ,e1,e2,h1⟩:=hs 0 w ρ st rfl h0
  obtain⟨ρ3,jH,e3,h3⟩:=sU I (ws:=ws) (ρ:=ρ2) (st:=cQ) (i0+1) h1 hc fun i w ρ st hw hI=>by
   obtain⟨a,b,c,d,e,g⟩:=hs (i+1) w ρ st (by simpa using hw) (by rw[show i0+(i+1)=i0+1+i by omega];exact hI)
   exact⟨a,b,c,d,e,by rw[show i0+1+i+1=i0+(i+1)+1 by omega];exact g⟩
  refine⟨ρ3,jH,?_,by rw[bu,show i0+(ws.length+1)=i0+1+ws.length by omega];exact h3⟩
  unfold pz
  rw[ax (hc _ _ _ h0),e1]
  simp only[e2]
  exact e3
theorem Ch{t:FT}{g:FS}(I:Nat->bS->List ao->Prop):∀(n:Nat) {ρ:bS} {st:List ao},I n ρ st ->
  (∀n ρ st,I n ρ st->t ρ st=.ok false st\/(t ρ st=.ok true st/\∃ρ2 cQ m,g ρ st=.nx ρ2 cQ/\m<n/\I m ρ2 cQ)) ->
  ∃m ρ2 cQ,js t g ρ st=.nx ρ2 cQ/\I m ρ2 cQ/\t ρ2 cQ=.ok false cQ:=by
 intro n ρ st h hs
 have key:∀(k n:Nat) (ρ:bS) (st:List ao),n<k->I n ρ st->∃m ρ2 cQ,fz t g k ρ st=.nx ρ2 cQ/\I m ρ2 cQ/\t ρ2 cQ=.ok false cQ:=by
  intro k
  induction k with
  |zero=>intro n _ _ h;exact absurd h (cC _)
  |succ k ih=>
   intro n ρ st hk hI
   rcases hs n ρ st hI with e|⟨e,ρ2,cQ,m,e2,hm,h2⟩
   ·exact⟨n,ρ,st,by unfold fz;rw[e];rfl,hI,e⟩
   ·obtain⟨m',ρ3,jH,e3,h3⟩:=ih m ρ2 cQ (by omega) h2
    exact⟨m',ρ3,jH,by unfold fz;rw[e];simp only[R.stmt_ok,d6,e2];exact e3,h3⟩
 obtain⟨m,ρ2,cQ,e,h2⟩:=key (n+1) n ρ st (gm n) h
 exact⟨m,ρ2,cQ,uK e (by simp),h2⟩
section
variable{ρ ρ':bS}{st st1 cQ jH PP:List ao}{fa fb fe fo fi:FE}{fs:FA}{t u:FT}{x y z w v:W}{ws xs zs:List W}{i j n m:Nat}{a b k:Bool}{g g':FS}
theorem ak(h:ρ[i]?=some (some w)):ag i ρ st=.ok w st:=by unfold ag;rw[h]
theorem cR:eC w ρ st=.ok w st:=rfl
theorem bE{f:W->W->List ao->R W}(h1:fa ρ st=.ok x st1)(h2:fb ρ st1=.ok y cQ)(h3:f x y cQ=.ok z jH):e2 f fa fb ρ st=.ok z jH:=by unfold e2;rw[h1];simp only[R.bind_ok];rw[h2];exact h3
theorem aM:aE ρ st=.ok [] st:=rfl
theorem am(h1:fa ρ st=.ok x st1)(h2:fs ρ st1=.ok xs cQ):ai fa fs ρ st=.ok (x::xs) cQ:=by unfold ai;rw[h1];simp only[R.bind_ok];rw[h2];rfl
theorem K5{ls:List (List Nat)}:NB ls ρ st=.ok (ls.map W.str) st:=rfl
theorem fR(h1:fs ρ st=.ok ws st1)(h2:ws.length<=jE):dk fs ρ st=.ok (.tup ws) st1:=by unfold dk;rw[h1];simp only[R.bind_ok,on];rw[ax h2]
theorem uX(h1:fs ρ st=.ok ws st1)(h2:ws.length<=jE):lv fs ρ st=.ok (.loc st1.length) (st1++[.lst ws]):=by unfold lv;rw[h1];simp only[R.bind_ok,mL];rw[ax h2]
theorem bP{F:List W->List ao->R W}(h1:fs ρ st=.ok ws st1)(h2:F ws st1=.ok w cQ):bD F fs ρ st=.ok w cQ:=by unfold bD;rw[h1];exact h2
theorem dm{F:List W->List ao->R W}(h1:fs ρ st=.ok ws st1)(h2:F ws st1=.ok w cQ)(hn:ws.length=n):c8 n F fs ρ st=.ok w cQ:=by unfold c8;rw[h1];simp only[R.bind_ok];rw[ax hn];exact h2
theorem dE(h:fa ρ st=.ok (.bl k) st1):gp fa ρ st=.ok k st1:=by unfold gp;rw[h];rfl
theorem pI(h1:t ρ st=.ok true st1)(h2:u ρ st1=.ok k cQ):Gk t u ρ st=.ok k cQ:=by unfold Gk;rw[h1];exact h2
theorem v6(h1:t ρ st=.ok false st1):Gk t u ρ st=.ok false st1:=by unfold Gk;rw[h1];rfl
theorem pJ(h1:t ρ st=.ok false st1)(h2:u ρ st1=.ok k cQ):Gm t u ρ st=.ok k cQ:=by unfold Gm;rw[h1];exact h2
theorem v7(h1:t ρ st=.ok true st1):Gm t u ρ st=.ok true st1:=by unfold Gm;rw[h1];rfl
theorem AX(h1:t ρ st=.ok a st1)(h2:(!a)=k):ID t ρ st=.ok k st1:=by unfold ID;rw[h1,<- h2];rfl
theorem AY(h1:fa ρ st=.ok (.bl true) st1)(h2:fb ρ st1=.ok w cQ):za fa fb ρ st=.ok w cQ:=by unfold za;rw[h1];exact h2
theorem N2(h1:fa ρ st=.ok (.bl a) st1)(h2:(!a)=k):Ha fa ρ st=.ok (.bl k) st1:=by unfold Ha;rw[h1,<- h2];rfl
theorem n_{F:W->List W->List ao->R W}(h1:fo ρ st=.ok x st1)(hl:sj st1 x=true)(h2:fs ρ st1=.ok ws cQ)(h3:F x ws cQ=.ok w jH):qI F fo fs ρ st=.ok w jH:=by unfold qI;rw[h1];simp only[R.bind_ok];rw[ax hl,h2];exact h3
theorem N3{F:W->List W->List ao->R W}(h1:fo ρ st=.ok x st1)(hl:DO x=true)(h2:fs ρ st1=.ok ws cQ)(h3:F x ws cQ=.ok w jH):NP F fo fs ρ st=.ok w jH:=by unfold NP;rw[h1];simp only[R.bind_ok];rw[ax hl,h2];exact h3
theorem fS(h:st[n]?=some (.lst ws)):sj st (.loc n)=true:=by simp only[sj,h]
theorem El{q:Int}(h:fa ρ st=.ok (.int q) st1):vL fa ρ st=.ok (.int (-q)) st1:=by unfold vL;rw[h];rfl
theorem N4{T c:String}(h:fa ρ st=.ok x st1)(hx:x.ty=some c)(hk:Hg c T=k):sy T fa ρ st=.ok (.bl k) st1:=by unfold sy;rw[h];simp only[R.bind_ok,hx,hk]
theorem N5(h:fa ρ st=.ok x st1)(hk:x.isNon=k):zb fa ρ st=.ok (.bl k) st1:=by unfold zb;rw[h,<- hk];rfl
theorem zD(h:fa ρ st=.ok x st1)(hk:(!x.isNon)=k):uH fa ρ st=.ok (.bl k) st1:=by unfold uH;rw[h,<- hk];rfl
theorem HA:qH ρ st=.ok none st:=rfl
theorem xQ{q:Int}(h:fa ρ st=.ok (.int q) st1):lx fa ρ st=.ok (some q) st1:=by unfold lx;rw[h];rfl
theorem Ci{fl fh:FO}{l h:Option Int}(h1:fa ρ st=.ok x st1)(h2:fl ρ st1=.ok l cQ)(h3:fh ρ cQ=.ok h jH)(h4:zd x l h jH=.ok w PP):DJ fa fl fh ρ st=.ok w PP:=by unfold DJ;rw[h1];simp only[R.bind_ok];rw[h2];simp only[R.bind_ok];rw[h3];exact h4
theorem bR(h:fe ρ st=.ok w st1):bF i fe ρ st=.nx (ρ.set i (some w)) st1:=by unfold bF;rw[h];rfl
theorem gf(h:fe ρ st=.ok w st1):fy fe ρ st=.nx ρ st1:=by unfold fy;rw[h];rfl
theorem jh(h:fe ρ st=.ok w st1):d8 fe ρ st=.rt w st1:=by unfold d8;rw[h];rfl
theorem kG{f:W->W->W->List ao->Option (List ao)}(h1:fe ρ st=.ok v st1)(h2:fo ρ st1=.ok x cQ)(h3:fi ρ cQ=.ok y jH)(h4:f x y v jH=some PP):kT fo fi fe f ρ st=.nx ρ PP:=by
 unfold kT;rw[h1];simp only[R.stmt_ok];rw[h2];simp only[R.stmt_ok];rw[h3];simp only[R.stmt_ok];rw[h4]
theorem nB{r:RS}(h1:t ρ st=.ok true st1)(h2:g ρ st1=r):jf t g g' ρ st=r:=by unfold jf;rw[h1];exact h2
theorem nC{r:RS}(h1:t ρ st=.ok false st1)(h2:g' ρ st1=r):jf t g g' ρ st=r:=by unfold jf;rw[h1];exact h2
theorem v8:cV ρ st=.nx ρ st:=rfl
theorem IP{r:RS}(h:g ρ st=.nx ρ' st1)(h2:g' ρ' st1=r):aW g g' ρ st=r:=by rw[zC h];exact h2
theorem zE(h:g ρ st=.rt w st1):aW g g' ρ st=.rt w st1:=by unfold aW;rw[h]
theorem fA{p q:Int}:dR (.int p) (.int q) st=.ok (.int (p+q)) st:=rfl
theorem Em{p q:List Nat}(h:p.length+q.length<=jE):dR (.str p) (.str q) st=.ok (.str (p++q)) st:=by simp only[dR];rw[ax h]
theorem zF(h1:st[n]?=some (.lst ws))(h2:st[m]?=some (.lst xs))(h:(ws++xs).length<=jE):dR (.loc n) (.loc m) st=.ok (.loc st.length) (st++[.lst (ws++xs)]):=by
 unfold dR;simp only[h1,h2,mL];rw[ax h]
theorem jt{C:Int->Int->Prop}[∀i j,Decidable (C i j)]{f:Int->Int->Int}{p q:Int}(h:C p q):DC C f (.int p) (.int q) st=.ok (.int (f p q)) st:=by simp only[DC];rw[ax h]
theorem sV{p q:Int}(h:xq p q):iC (.int p) (.int q) st=.ok (.int (p*q)) st:=by simp only[iC];rw[ax h]
theorem mR{f:Int->Int->Bool}{p q:Int}(h:f p q=k):BX f (.int p) (.int q) st=.ok (.bl k) st:=by rw[<- h];rfl
theorem N6{p q:Int}(h:decide (p<=q)=k):QH (.int p) (.int q) st=.ok (.bl k) st:=by rw[<- h];rfl
theorem iu{p q:Int}(h:(p==q)=k):lp (.int p) (.int q) st=.ok (.bl k) st:=by rw[<- h];rfl
theorem IQ{p q:Int}(h:(!(p==q))=k):Gn (.int p) (.int q) st=.ok (.bl k) st:=by rw[<- h];rfl
theorem N7{p q:List Nat}(h:(p==q)=k):lp (.str p) (.str q) st=.ok (.bl k) st:=by rw[<- h];rfl
theorem dq{q:Int}(h:qb ws q=some w):bH (.tup ws) (.int q) st=.ok w st:=by unfold bH;simp only[h,cJ]
theorem IR{l:List Nat}{q:Int}{c:Nat}(hl:l.length<=jE)(h:qb l q=some c):bH (.str l) (.int q) st=.ok (.str [c]) st:=by unfold bH;simp only[h,cJ];rw[ax hl]
theorem lB{q:Int}(hl:lstOf st n=some ws)(h:qb ws q=some w):bH (.loc n) (.int q) st=.ok w st:=by unfold bH;simp only[hl,h,cJ]
theorem zG:fQ [.tup ws] st=.ok (.int ws.length) st:=rfl
theorem zH{l:List Nat}(h:l.length<=jE):fQ [.str l] st=.ok (.int l.length) st:=by unfold fQ;simp only;rw[ax h]
theorem il(hl:lstOf st n=some ws):fQ [.loc n] st=.ok (.int ws.length) st:=by unfold fQ;simp only[hl,cJ]
theorem aO(h:st[n]?=some (.lst ws)):lstOf st n=some ws:=by unfold lstOf;rw[h]
theorem rp(h:st[n]?=some (.ro ws)):lstOf st n=some ws:=by unfold lstOf;rw[h]
theorem uY(h:st[n]?=some (.lst ws))(hl:ws.length<jE):dH (.loc n) [y] st=.ok .non (st.set n (.lst (ws++[y]))):=by unfold dH;simp only[h];rw[ax hl]
theorem K6{q:Int}(h:st[n]?=some (.lst ws))(hi:Aq ws.length q=some j):mN (.loc n) (.int q) v st=some (st.set n (.lst (ws.set j v))):=by unfold mN;simp only[h,hi];rfl
theorem K7{sep:List Nat}{ls:List (List Nat)}(h:lstOf st n=some (ls.map W.str))(hl:(ls.map List.length).sum+ls.length*sep.length<=jE):su (.str sep) [.loc n] st=.ok (.str (om sep ls)) st:=by
 unfold su;simp only[h,cJ,uN];rw[ax hl]
theorem xR{l h:Option Int}(hl:lstOf st n=some ws):zd (.loc n) l h st=.ok (.loc st.length) (st++[.lst (jN ws l h)]):=by unfold zd;simp only[hl,cJ]
theorem N8{l h:Option Int}{z:List Nat}(hl:z.length<=jE):zd (.str z) l h st=.ok (.str (jN z l h)) st:=by unfold zd;simp only;rw[ax hl]
theorem N9{l h:Option Int}:zd (.tup ws) l h st=.ok (.tup (jN ws l h)) st:=rfl
theorem nS(h:fe ρ st=.ok (.tup ws) st1):ce fe ρ st=.ok (ws,none) st1:=by unfold ce;rw[h];rfl
theorem eW(h:fe ρ st=.ok (.loc n) st1)(hl:lstOf st1 n=some ws):ce fe ρ st=.ok (ws,some (n,ws)) st1:=by unfold ce;rw[h];simp only[R.bind_ok,hl]
theorem eG{q:Int}(h:fs ρ st=.ok [.int q] st1)(hq:-(2^62)<=q/\q<2^62):bA fs ρ st=.ok (cx 0 q.toNat,none) st1:=by unfold bA;rw[h];simp only[R.bind_ok];rw[ax hq]
theorem K8{l:List W}{q:Nat}{x:W}(h:l.reverse[q]?=some x):qb l (-((q:Int)+1))=some x:=by
 have hq:q<l.length:=by have:=(aa.mp h).1;simpa using this
 unfold qb Aq
 rw[aD (by omega),ax (by omega)]
 rw[nc hq]at h
 simp only[Option.bind_some]
 rw[show((-((q:Int)+1))+(l.length:Int)).toNat=l.length-1-q by omega]
 exact h
theorem dO{α:Type}{l:List α}{q:Nat}{x:α}(h:l[q]?=some x):qb l (q:Int)=some x:=by
 have hq:q<l.length:=(aa.mp h).1
 unfold qb Aq
 rw[ax (by omega),ax (by omega)]
 simpa using h
def gH(P:RS->Prop)(r:RS):Prop:=P r
def En(I:bS->List ao->Prop):RS->Prop:=fun r=>∃ρ st,r=.nx ρ st/\I ρ st
def ql(I:W->List ao->Prop):RS->Prop:=fun r=>∃w st,r=.rt w st/\I w st
variable{P:RS->Prop}{cZ:FS}
theorem fY{r r':RS}(h:r=r')(h2:P r'):gH P r:=by rw[h];exact h2
theorem aI(h:g ρ st=.nx ρ' st1)(h2:gH P (g' ρ' st1)):gH P (aW g g' ρ st):=by rw[zC h];exact h2
theorem lD(h1:t ρ st=.ok true st1)(h2:gH P (g ρ st1)):gH P (jf t g g' ρ st):=by rw[nB h1 rfl];exact h2
theorem kH(h1:t ρ st=.ok false st1)(h2:gH P (g' ρ st1)):gH P (jf t g g' ρ st):=by rw[nC h1 rfl];exact h2
theorem gi(h1:t ρ st=.ok true st1)(h2:gH P (aW g cZ ρ st1)):gH P (aW (jf t g g') cZ ρ st):=by
 unfold aW at h2 ⊢;rw[nB h1 rfl];exact h2
theorem cX(h1:t ρ st=.ok false st1)(h2:gH P (aW g' cZ ρ st1)):gH P (aW (jf t g g') cZ ρ st):=by
 unfold aW at h2 ⊢;rw[nC h1 rfl];exact h2
theorem lE{h:FS}(h2:gH P (aW g (aW g' h) ρ st)):gH P (aW (aW g g') h ρ st):=by
 unfold aW at h2 ⊢
 cases e:g ρ st<;>simp only[e]at h2 ⊢ <;> exact h2
theorem dP(h2:gH P (cZ ρ st)):gH P (aW cV cZ ρ st):=h2
theorem gw(h:fe ρ st=.ok w st1)(h2:P (.rt w st1)):gH P (d8 fe ρ st):=by rw[jh h];exact h2
theorem e7(h:fe ρ st=.ok w st1)(h2:P (.rt w st1)):gH P (aW (d8 fe) cZ ρ st):=by rw[zE (jh h)];exact h2
theorem eu{fi:FI}{f:FG}{body:FS}{k:zh}(I:Nat->bS->List ao->Prop)(h:fi ρ st=.ok k st1)(h0:I 0 ρ st1)(hc:∀i ρ st,I i ρ st->iB st k.2)
  (hs:∀i w ρ st,k.1[i]?=some w->I i ρ st->∃ρ',f w ρ=some ρ'/\gH (En (I (i+1))) (body ρ' st)) (he:∀ρ st,I k.1.length ρ st->gH P (cZ ρ st)):gH P (aW (e_ fi f body) cZ ρ st):=by
 obtain⟨ρ2,cQ,e,h2⟩:=sU (f:=f) (body:=body) (ck:=k.2) I (ws:=k.1) (ρ:=ρ) (st:=st1) 0 h0 hc fun i w ρ st hw hI=>by
  rw[hV]at hI ⊢
  obtain⟨ρ',e1,ρ2,cQ,e2,h2⟩:=hs i w ρ st hw hI
  exact⟨ρ',ρ2,cQ,e1,e2,h2⟩
 rw[hV]at h2
 exact aI (by rw[v5 h];exact e) (he _ _ h2)
theorem nT{body:FS}(I:Nat->bS->List ao->Prop)(n:Nat)(h0:I n ρ st)
  (hs:∀n ρ st,I n ρ st->t ρ st=.ok false st\/(t ρ st=.ok true st/\gH (En fun ρ2 cQ=>∃m,m<n/\I m ρ2 cQ) (body ρ st))) (he:∀m ρ st,I m ρ st->t ρ st=.ok false st->gH P (cZ ρ st)):gH P (aW (js t body) cZ ρ st):=by
 obtain⟨m,ρ2,cQ,e,h2,h3⟩:=Ch (t:=t) (g:=body) I n h0 fun n ρ st hI=>by
  rcases hs n ρ st hI with e|⟨e,ρ2,cQ,e2,m,hm,h2⟩
  ·exact .inl e
  ·exact .inr ⟨e,ρ2,cQ,m,e2,hm,h2⟩
 exact aI e (he _ _ _ h2 h3)
theorem jc{N:Nat}{body:FS}{Q:W->Prop}(h:gH (ql fun w bG=>(∃x,bG=st++x)/\undWs st.length [w]=true/\Q w) (body (ws.map some++List.replicate (N-ws.length) none) st)):∃w,Q w/\fI N body ws st=.ok w st:=by
 obtain⟨w,bG,e,⟨x,rfl⟩,hu,q⟩:=h
 exact⟨w,q,xP e hu⟩
theorem sW{N:Nat}{body:FS}(h:gH (ql fun w' bG=>w'=w/\∃x,bG=st++x) (body (ws.map some++List.replicate (N-ws.length) none) st))(hu:undWs st.length [w]=true):fI N body ws st=.ok w st:=by
 obtain⟨w,bG,e,rfl,x,rfl⟩:=h
 exact xP e hu
theorem jQ{N:Nat}{body:FS}{Q:Nat->List ao->Prop}(h:gH (ql fun w bG=>∃j x,w=.loc (st.length+j)/\bG=st++x/\Q j x) (body (ws.map some++List.replicate (N-ws.length) none) st)):∃j x,Q j x/\fI N body ws st=.ok (.loc (st.length+j)) (st++x):=by
 obtain⟨w,bG,e,j,x,rfl,rfl,q⟩:=h
 exact⟨j,x,q,pH e⟩
theorem gF{q i:Nat}{lo:Int}{w:W}(h:(cx lo q)[i]?=some w):i<q/\w=.int (lo+i):=by
 unfold cx at h
 obtain⟨h1,h2⟩:=aa.mp h
 simp only[al,cM]at h1
 exact⟨h1,by rw[<- h2];simp⟩
theorem rq{α:Type}{l:List α}{q:Nat}(h:q<=l.length):jN l none (some (q:Int))=l.take q:=by
 unfold jN;rw[HT.sIx_none,HT.sIx_nat,jC h];simp
theorem pK{α:Type}{l:List α}{q:Nat}(h:q<=l.length):jN l (some (q:Int)) none=l.drop q:=by
 unfold jN;rw[HT.sIx_none,HT.sIx_nat,jC h];rw[gA (by simp)]
theorem gy{q:Int}{n:Nat}(h:0<n):∃m:Nat,m<n/\q%(n:Int)=m:=by
 have h0:0<=q%(n:Int):=ii _ (by omega)
 have h1:q%(n:Int)<n:=kn _ (by omega)
 exact⟨(q%(n:Int)).toNat,by omega,by omega⟩
end
section
variable{ρ:bS}{st st1:List ao}{t u:FT}{a b k:Bool}{P:RS->Prop}{g g' cZ:FS}{w:W}{ws:List W}
theorem Eo(h1:t ρ st=.ok a st)(h2:u ρ st=.ok b st):Gk t u ρ st=.ok (a&&b) st:=by cases a;exact v6 h1;exact pI h1 h2
theorem Ep(h1:t ρ st=.ok a st)(h2:u ρ st=.ok b st):Gm t u ρ st=.ok (a||b) st:=by cases a;exact pJ h1 h2;exact v7 h1
theorem K9(h1:t ρ st=.ok a st):ID t ρ st=.ok (!a) st:=AX h1 rfl
theorem jX{N:Nat}{body:FS}(h:gH (ql fun w' bG=>w'=w/\bG=st) (body (ws.map some++List.replicate (N-ws.length) none) st)):fI N body ws st=.ok w st:=by
 obtain⟨w,bG,e,rfl,rfl⟩:=h
 exact nR e
end
end L2
open L2
local macro_rules | `(tactic| walk_at "ev1") => `(tactic| first
 | (with_reducible apply ak) <;> rfl
 | (with_reducible apply dq) <;> rfl
 | with_reducible first
  | exact cR | exact aM | exact K5 | exact HA | exact fA | exact zG | exact v8 | exact N9
  | apply bE | apply am | apply fR | apply uX | apply bP | apply dm | apply dE | apply AX | apply N2
  | apply n_ | apply N3 | apply El | apply N4 | apply N5 | apply zD | apply xQ | apply Ci | apply bR | apply gf | apply jh | apply kG
  | apply jt | apply sV | apply mR | apply N6 | apply iu | apply IQ | apply N7 | apply Em
 | decide
 | (show List.length _ <= jE; exact cI rfl)
 | (show @Eq Nat _ _; exact rfl)
 | (show @Eq Bool _ _; exact rfl)
 | (show @Eq (Option String) _ _; exact rfl)
 | (show @Eq _ _ _; with_reducible assumption))
local macro_rules | `(tactic| walk_at "evs") => `(tactic| repeat' walk_at "ev1")
local macro_rules | `(tactic| walk_at "tst") => `(tactic| first
 | (walk_at "evs"; done)
 | (apply v6; (focus walk_at "tst"); done)
 | (apply pI; (focus walk_at "tst"); (focus walk_at "tst"); done)
 | (apply v7; (focus walk_at "tst"); done)
 | (apply pJ; (focus walk_at "tst"); (focus walk_at "tst"); done))
local macro_rules | `(tactic| walk_at "go1") => `(tactic| first
 | apply dP
 | (apply e7; (focus (walk_at "evs"; done)))
 | (apply gw; (focus (walk_at "evs"; done)))
 | (apply gi; (focus walk_at "tst"))
 | (apply cX; (focus walk_at "tst"))
 | (apply lD; (focus walk_at "tst"))
 | (apply kH; (focus walk_at "tst"))
 | (apply aI; (focus (walk_at "evs"; done))))
local macro_rules | `(tactic| walk_at "go") => `(tactic| repeat walk_at "go1")
local macro_rules | `(tactic| walk_at "tb") => `(tactic| repeat' (first | with_reducible apply Eo | with_reducible apply Ep | with_reducible apply K9 | walk_at "ev1"))
local macro_rules | `(tactic| walk_at "len") => `(tactic| (simp only [aH, bu, dU]; show _ <= 1000000; omega))
namespace L2
open PySem PySem.Spec PyProof.Rows
section
variable{ρ ρ' ρ2:bS}{st st1 cQ:List ao}{fa fe:FE}{fs:FA}{g gh cZ:FS}{ws:List W}{w:W}{n i:Nat}{c:Str}{cs:List Str}{P:RS->Prop}{b:Bool}
theorem Er{zs:List W}{k:Nat}{y:W}(h:st[n]?=some (.lst zs))(hk:k<=zs.length)(hl:zs.length<jE)(Gr:k<1000000):nQ (.loc n) [.int k,y] st=.ok .non (st.set n (.lst (zs.take k++y::zs.drop k))):=by
 unfold nQ;simp only[h,bB];rw[ax ⟨by omega,hk,hl,by omega⟩]
theorem nU(I:bS->List ao->Prop)(h:gH (En I) (g ρ st))(h2:∀ρ st,I ρ st->gH P (cZ ρ st)):gH P (aW g cZ ρ st):=by
 obtain⟨ρ',bG,e,hi⟩:=h
 exact aI e (h2 _ _ hi)
end
section
variable{ρ:bS}{st st1:List ao}{fi:FI}{f:FG}{t:FT}{el:FE}{cap:List (Option Nat)}
theorem xS{ck:Option (Nat×List W)}{ρ0:bS}(hc:iB st ck)(T:W->Bool)(Y:W->W):∀(ws acc:List W),(∀w∈ws,∃ρ',f w ρ0=some ρ'/\t ρ' st=.ok (T w) st/\(T w=true->el ρ' st=.ok (Y w) st)) ->
  mP f t el ck ρ0 ws acc st=.ok (acc++(ws.filter T).map Y) st
 |[],acc,_=>by unfold mP;rw[ax hc];simp
 |w::ws,acc,h=>by
  obtain⟨ρ',e1,e2,e3⟩:=h w (by simp)
  have ih:=fun acc=>xS hc T Y ws acc fun w' hw'=>h w' (by simp[hw'])
  unfold mP
  rw[ax hc,e1]
  simp only[e2]
  cases hT:T w with
  |true=>
   simp only[e3 hT]
   rw[ih]
   simp[bU,hT]
  |false=>
   simp only
   rw[ih]
   simp[bU,hT]
theorem v9{ws:List W}{ck:Option (Nat×List W)}(T:W->Bool)(Y:W->W)(h:fi ρ st=.ok (ws,ck) st1)(hl:ws.length<=jE)(hc:iB st1 ck)
  (hs:∀w∈ws,∃ρ',f w (pD cap ρ)=some ρ'/\t ρ' st1=.ok (T w) st1/\(T w=true->el ρ' st1=.ok (Y w) st1)):dD cap fi f t el ρ st=.ok (.loc st1.length) (st1++[.lst ((ws.filter T).map Y)]):=by
 unfold dD
 rw[h]
 simp only[R.bind_ok]
 rw[ax hl,xS hc T Y ws [] hs]
 simp only[R.bind_ok,ig,mL]
 rw[ax]
 rw[al]
 exact aV (d9 _ _) hl
theorem g9{ws:List W}{ck:Option (Nat×List W)}(Y:W->W)(h:fi ρ st=.ok (ws,ck) st1)(hl:ws.length<=jE)(hc:iB st1 ck)
  (hs:∀w∈ws,∃ρ',f w (pD cap ρ)=some ρ'/\el ρ' st1=.ok (Y w) st1):dD cap fi f ij el ρ st=.ok (.loc st1.length) (st1++[.lst (ws.map Y)]):=by
 have:=v9 (fi:=fi) (f:=f) (t:=ij) (el:=el) (cap:=cap) (fun _=>true) Y h hl hc fun w hw=>by
  obtain⟨ρ',e1,e2⟩:=hs w hw
  exact⟨ρ',e1,rfl,fun _=>e2⟩
 rw[jJ.mpr (fun _ _=>rfl)]at this
 exact this
theorem nV{q:Nat}{lo:Int}{w:W}(h:w∈cx lo q):∃i:Nat,i<q/\w=.int (lo+i):=by
 unfold cx at h
 obtain⟨i,hi,rfl⟩:=aS.mp h
 exact⟨i,bt.mp hi,rfl⟩
theorem gI{n:Nat}{ws:List W}(h:lstOf st n=some ws):dJ [.loc n] st=.ok (.tup ws) st:=by unfold dJ;simp only[h,cJ]
theorem K_{α:Type}{l:List α}{i j:Nat}(hj:j<=l.length)(hi:i<=j):jN l (some (i:Int)) (some (j:Int))=(l.drop i).take (j-i):=by
 unfold jN;rw[HT.sIx_nat,HT.sIx_nat,jC hj,jC (by omega)]
end
end L2
namespace P
open PySem L2
open PyProof.Rows (boot_sorted boot_set boot_ord boot_all boot_enumerate boot_int boot_str boot_bool boot_list boot_tuple boot_isinstance boot_max boot_min)
def top(i:Nat):Stmt:=PySem.Challenge.pw_trunksay_k27_rooms_apart.main.body.getD i (.Pass ⟨0,0,0,0⟩)
abbrev K':Stmt:=top 1
abbrev v_:List Str:=["newest"]
abbrev N_:List Str:=["newest"]
theorem N':bO v_ N_ (bc K'):=ou
abbrev La:Stmt:=top 2
abbrev zJ:List Str:=["rooms","keys","numbers","blocks","room"]
abbrev Oa:List Str:=["rooms","keys"]
theorem AZ:bO zJ Oa (bc La):=ou
abbrev Lb:Stmt:=top 3
abbrev t_:List Str:=["machine","rooms","keys","room"]
abbrev Ob:List Str:=["machine","rooms"]
theorem Es:bO t_ Ob (bc Lb):=ou
abbrev Lc:Stmt:=top 4
abbrev zK:List Str:=["machine","rooms","blocks","views","room","view","leads"]
abbrev Oc:List Str:=["machine","rooms","blocks"]
theorem xU:bO zK Oc (bc Lc):=ou
abbrev Ld:Stmt:=top 5
abbrev sX:List Str:=["rooms","blocks","views","keys","room"]
abbrev Od:List Str:=["rooms","blocks","views"]
theorem Et:bO sX Od (bc Ld):=ou
abbrev Le:Stmt:=top 7
abbrev zL:List Str:=["machine","rows","told","best","left","right","size","letter","leads","room","way"]
abbrev Oe:List Str:=["machine","rows","told","best"]
theorem qN:bO zL Oe (bc Le):=ou
abbrev Cj:Stmt:=top 8
abbrev xV:List Str:=["machine","rows","told","best","room","way"]
abbrev Of:List Str:=["machine"]
theorem uZ:bO xV Of (bc Cj):=ou
abbrev Lf:Stmt:=top 10
abbrev zM:List Str:=["rooms","pairs","number","one"]
abbrev Og:List Str:=["rooms"]
theorem A0:bO zM Og (bc Lf):=ou
abbrev Lg:Stmt:=top 11
abbrev xW:List Str:=["one","other","rooms","number","many"]
abbrev Oh:List Str:=["one","other","rooms"]
theorem A1:bO xW Oh (bc Lg):=ou
abbrev Lh:Stmt:=top 12
abbrev xX:List Str:=["blocks","pairs"]
abbrev Oi:List Str:=["blocks","pairs"]
theorem Oj:bO xX Oi (bc Lh):=ou
abbrev Eu:Stmt:=top 13
abbrev ua:List Str:=["blocks","pairs"]
abbrev IS:List Str:=["blocks","pairs"]
theorem Li:bO ua IS (bc Eu):=ou
abbrev Ev:Stmt:=top 14
abbrev ub:List Str:=["machine","rooms","pairs","steps","blocks","parted","rows","views"]
abbrev IT:List Str:=["machine"]
theorem ju:bO ub IT (bc Ev):=ou
abbrev Ew:Stmt:=top 16
abbrev wa:List Str:=["_law_cell_here","_law_k","_law_salt","_law_first"]
abbrev IU:List Str:=["_law_cell_here","_law_k","_law_salt"]
theorem Ex:bO wa IU (bc Ew):=ou
abbrev Ey:Stmt:=top 17
abbrev wb:List Str:=["_law_cell_here","_law_many","_law_salt","_law_found","_law_rest","_law_k"]
abbrev IV:List Str:=["_law_cell_here","_law_many","_law_salt"]
theorem qm:bO wb IV (bc Ey):=ou
abbrev Ez:Stmt:=top 18
abbrev xY:List Str:=["_law_cell_here","_law_many","_law_salt","_law_rest","_law_found","_law_d","_law_at"]
abbrev IW:List Str:=["_law_cell_here","_law_many","_law_salt"]
theorem oR:bO xY IW (bc Ez):=ou
abbrev EA:Stmt:=top 19
abbrev xZ:List Str:=["_law_script","_law_k"]
abbrev IX:List Str:=["_law_script","_law_k"]
theorem Lj:bO xZ IX (bc EA):=ou
abbrev EB:Stmt:=top 20
abbrev wc:List Str:=["_law_d","_law_shapes"]
abbrev IY:List Str:=["_law_d"]
theorem EC:bO wc IY (bc EB):=ou
abbrev ED:Stmt:=top 21
abbrev wd:List Str:=["_law_pool_here","_law_many"]
abbrev IZ:List Str:=["_law_pool_here","_law_many"]
theorem Lk:bO wd IZ (bc ED):=ou
abbrev EE:Stmt:=top 22
abbrev uc:List Str:=["_law_script","_law_at","_law_many","_law_salt","_law_found","_law_k"]
abbrev I0:List Str:=["_law_script","_law_at","_law_many","_law_salt"]
theorem we:bO uc I0 (bc EE):=ou
abbrev EF:Stmt:=top 23
abbrev wf:List Str:=["_law_way","_law_l","_law_r"]
abbrev I_:List Str:=["_law_way","_law_l","_law_r"]
theorem Ll:bO wf I_ (bc EF):=ou
abbrev EG:Stmt:=top 24
abbrev ud:List Str:=["_law_names_here","_law_many","_law_draws_here","_law_table","_law_letter","_law_more","_law_rows","_law_l","_law_only"]
abbrev Ja:List Str:=["_law_names_here","_law_many","_law_draws_here"]
theorem ma:bO ud Ja (bc EG):=ou
abbrev EH:Stmt:=top 25
abbrev sY:List Str:=["_law_machine_here","_law_spot","_law_many","_law_table","_law_at","_law_rows","_law_row"]
abbrev Jb:List Str:=["_law_machine_here","_law_spot"]
theorem qo:bO sY Jb (bc EH):=ou
abbrev EI:Stmt:=top 26
abbrev wg:List Str:=["_law_machine_here","_law_owner_here","_law_draws_here","_law_many","_law_at","_law_table","_law_rows","_law_made","_law_x","_law_row","_law_y","_law_due","_law_some"]
abbrev Jc:List Str:=["_law_machine_here","_law_owner_here","_law_draws_here"]
theorem jv:bO wg Jc (bc EI):=ou
abbrev EJ:Stmt:=top 27
abbrev wj:List Str:=["_law_many","_law_extra","_law_draws_here","_law_row","_law_k","_law_room"]
abbrev Jd:List Str:=["_law_many","_law_extra","_law_draws_here"]
theorem sZ:bO wj Jd (bc EJ):=ou
abbrev EK:Stmt:=top 28
abbrev s_:List Str:=["_law_names_here","_law_many","_law_top","_law_draws_here","_law_good","_law_table","_law_at","_law_letter","_law_rows","_law_l"]
abbrev Je:List Str:=["_law_names_here","_law_many","_law_top","_law_draws_here"]
theorem nD:bO s_ Je (bc EK):=ou
abbrev EL:Stmt:=top 29
abbrev zN:List Str:=["_law_script","_law_at","_law_pool_here","_law_head","_law_count","_law_many","_law_names_here","_law_draws_here","_law_machine_here","_law_top"]
abbrev Jf:List Str:=["_law_script","_law_at","_law_pool_here"]
theorem kU:bO zN Jf (bc EL):=ou
abbrev EM:Stmt:=top 30
abbrev zO:List Str:=["_law_machine_here","_law_met_here","_law_done","_law_pair","_law_steps","_law_letter","_law_rows","_law_side","_law_third","_law_led"]
abbrev Jg:List Str:=["_law_machine_here","_law_met_here","_law_done","_law_pair","_law_steps"]
theorem oS:bO zO Jg (bc EM):=ou
abbrev EN:Stmt:=top 31
abbrev ue:List Str:=["_law_machine_here","_law_met_here","_law_found","_law_done","_law_steps","_law_fresh","_law_a","_law_b","_law_why_here","_law_row"]
abbrev Jh:List Str:=["_law_machine_here","_law_met_here"]
theorem j5:bO ue Jh (bc EN):=ou
abbrev EO:Stmt:=top 32
abbrev zP:List Str:=["_law_machine_here","_law_met_here","_law_at","_law_other","_law_rows","_law_led"]
abbrev Ji:List Str:=["_law_machine_here"]
theorem oT:bO zP Ji (bc EO):=ou
abbrev EQ:Stmt:=top 33
abbrev x5:List Str:=["_law_found","_law_due","_law_k"]
abbrev ER:List Str:=["_law_found","_law_due"]
theorem ES:bO x5 ER (bc EQ):=ou
abbrev ET:Stmt:=top 34
abbrev uf:List Str:=["_law_draws_here","_law_many","_law_place","_law_rows","_law_k","_law_only"]
abbrev Jj:List Str:=["_law_draws_here"]
theorem oU:bO uf Jj (bc ET):=ou
abbrev pL:Stmt:=top 35
abbrev Ol:List Str:=["_law_script","_law_pool_here","_law_one","_law_other","_law_due"]
abbrev EU:List Str:=["_law_script"]
theorem qp:bO Ol EU (bc pL):=ou
structure Bl(mg:Str->Option Value):Prop where
 bool:mg "bool"=Option.none
 enumerate:mg "enumerate"=Option.none
 int:mg "int"=Option.none
 isinstance:mg "isinstance"=Option.none
 len:mg "len"=Option.none
 list:mg "list"=Option.none
 max:mg "max"=Option.none
 min:mg "min"=Option.none
 range:mg "range"=Option.none
 sorted:mg "sorted"=Option.none
 str:mg "str"=Option.none
 tuple:mg "tuple"=Option.none
def tabL:List (Addr×Pos×Str):=[(54,⟨45,29,45,52⟩,"firsts_of.<locals>.<lambda>")]
section
variable{P:Program}{w:World}{K:Frag}{mg:Str->Option Value}{base:Heap}{f:Addr}{fd:FuncData}
def Om:FS:=(d8 (e2 dR (dD [none,some 0] (bA (ai (e2 dR (ag 0) (eI 1)) aE)) (eJ 0) ij (dk (ai (ag 1) (ai (ag 0) aE)))) (dD [none,some 0] (bA (ai (ag 0) aE)) (eJ 0) ij (dk (ai (ag 0) (ai (ag 1) aE))))))
def Ck:List W->List ao->R W:=fI 1 Om
theorem On(F:kS K "pairs_with" "pairs_with" K' f fd)(B:Bl mg) :eV P w K mg base (kD P w) 1 f fd N_ (ly K mg 1 Ck):=
 dA (k:=0) F N' rfl fun gJ A outer s H E hr=>(aU (bT (bJ dN (gW (nm:=["other","newest"]) (cap:=[none,some 0]) (by first|rfl|kernel_rfl) rfl (cD B.range (ac (bJ dN (af 0) ay) au)) (fun _ _ _ _ _=>(sC 0)) (fun _ _ _ _ _=>fG) (fun _ _ _ _ _=>(c7 (ac (af 1) (ac (af 0) au))))) (gW (nm:=["other","newest"]) (cap:=[none,some 0]) (by first|rfl|kernel_rfl) rfl (cD B.range (ac (af 0) au)) (fun _ _ _ _ _=>(sC 0)) (fun _ _ _ _ _=>fG) (fun _ _ _ _ _=>(c7 (ac (af 0) (ac (af 1) au))))))))
def Oo:FS:=(aW (bF 2 pF) (aW (bF 3 pF) (aW (e_ (ce (ag 0)) (eJ 4) (aW (fy (vY (ag 2) (e2 iY (ag 1) (ag 4)) (bD uW (ai (ag 2) aE)))) (kT (ag 3) (ag 4) (e2 Eh (ag 2) (e2 iY (ag 1) (ag 4))) kF))) (d8 (ag 3)))))
def zQ:List W->List ao->R W:=fI 5 Oo
theorem Op(F:kS K "numbered" "numbered" La f fd)(B:Bl mg) :eV P w K mg base (kD P w) 1 f fd Oa (ly K mg 2 zQ):=
 dA (k:=0) F AZ rfl fun gJ A outer s H E hr=>(aw (sS 2 AZ oP) (aw (sS 3 AZ oP) (aw (dL (eF (af 0)) (sG 4 AZ) (aw (eN (Hy hr (af 2) (lz hr (af 1) (af 4)) (cv K4 B.len cU (ac (af 2) au)))) (aU (iW (qk hr) (N0 hr (af 2) (lz hr (af 1) (af 4))) (af 3) (af 4))))) (aU (bT (af 3))))))
def Oq:FS:=(aW (bF 2 pF) (aW (e_ (ce (ag 1)) (eJ 3) (kT (ag 2) (ag 3) (e2 bH (e2 bH (ag 0) (eI 1)) (ag 3)) kF)) (d8 (c8 2 zQ (ai (ag 1) (ai (ag 2) aE))))))
def EV:List W->List ao->R W:=fI 4 Oq
theorem Os(F:kS K "good_blocks" "good_blocks" Lb f fd) (CJ:cE P w K mg base 1 "numbered" 2 zQ):eV P w K mg base (kD P w) 2 f fd Ob (ly K mg 2 EV):=
 dA (k:=1) F Es rfl fun gJ A outer s H E hr=>(aw (sS 2 Es oP) (aw (dL (eF (af 1)) (sG 3 Es) (aU (iW (qk hr) (bz (bz (af 0) ay) (af 3)) (af 2) (af 3)))) (aU (bT (cz CJ hr (by omega) (ac (af 1) (ac (af 2) au)))))))
def Ot:FS:=(aW (bF 3 pF) (aW (e_ (ce (ag 1)) (eJ 4) (aW (bF 5 (lv aE)) (aW (e_ (ce (e2 bH (ag 0) (eI 2))) (eJ 6) (aW (fy (qI gX (ag 5) (ai (dD [none,some 2,some 6,some 4] (ce (ag 1)) (eJ 0) ij (e2 iY (ag 1) (e2 bH (e2 bH (ag 2) (ag 3)) (ag 0)))) aE))) (fy (qI gX (ag 5) (ai (dD [none,some 2,some 4,some 6] (ce (ag 1)) (eJ 0) ij (e2 iY (ag 1) (e2 bH (e2 bH (ag 3) (ag 0)) (ag 2)))) aE))))) (kT (ag 3) (ag 4) (bD dJ (ai (ag 5) aE)) kF)))) (d8 (ag 3))))
def Cm:List W->List ao->R W:=fI 7 Ot
theorem Ou(F:kS K "views_of" "views_of" Lc f fd)(B:Bl mg) :eV P w K mg base (kD P w) 1 f fd Oc (ly K mg 3 Cm):=
 dA (k:=0) F xU rfl fun gJ A outer s H E hr=>(aw (sS 3 xU oP) (aw (dL (eF (af 1)) (sG 4 xU) (aw (sS 5 xU (jF au)) (aw (dL (eF (bz (af 0) ay)) (sG 6 xU) (aw (eN (ny PySem.F.slot_list_extend PySem.F.type_list_extend l7 (af 5) (ac (gW (nm:=["third","blocks","leads","room"]) (cap:=[none,some 2,some 6,some 4]) (by first|rfl|kernel_rfl) rfl (eF (af 1)) (fun _ _ _ _ _=>(sC 0)) (fun _ _ _ _ _=>fG) (fun _ _ _ _ _=>(lz hr (af 1) (bz (bz (af 2) (af 3)) (af 0))))) au))) (aU (eN (ny PySem.F.slot_list_extend PySem.F.type_list_extend l7 (af 5) (ac (gW (nm:=["third","blocks","room","leads"]) (cap:=[none,some 2,some 4,some 6]) (by first|rfl|kernel_rfl) rfl (eF (af 1)) (fun _ _ _ _ _=>(sC 0)) (fun _ _ _ _ _=>fG) (fun _ _ _ _ _=>(lz hr (af 1) (bz (bz (af 3) (af 0)) (af 2))))) au)))))) (aU (iW (qk hr) (ca d5 B.tuple bQ (ac (af 5) au)) (af 3) (af 4)))))) (aU (bT (af 3)))))
def Ov:FS:=(aW (bF 3 pF) (aW (e_ (ce (ag 0)) (eJ 4) (kT (ag 3) (ag 4) (dk (ai (e2 iY (ag 1) (ag 4)) (ai (e2 iY (ag 2) (ag 4)) aE))) kF)) (d8 (c8 2 zQ (ai (ag 0) (ai (ag 3) aE))))))
def Cn:List W->List ao->R W:=fI 5 Ov
theorem Ow(F:kS K "split_blocks" "split_blocks" Ld f fd) (CJ:cE P w K mg base 1 "numbered" 2 zQ):eV P w K mg base (kD P w) 2 f fd Od (ly K mg 3 Cn):=
 dA (k:=1) F Et rfl fun gJ A outer s H E hr=>(aw (sS 3 Et oP) (aw (dL (eF (af 0)) (sG 4 Et) (aU (iW (qk hr) (c7 (ac (lz hr (af 1) (af 4)) (ac (lz hr (af 2) (af 4)) au))) (af 3) (af 4)))) (aU (bT (cz CJ hr (by omega) (ac (af 0) (ac (af 3) au)))))))
def Ox:FS:=(e_ (ce (c8 1 Ck (ai (e2 lY (bD fQ (ai (ag 1) aE)) (eI 1)) aE))) (zg 2 (dY (eJ 4) (dY (eJ 5) kA))) (aW (bF 6 (e2 dR (e2 dR (e2 bH (e2 bH (ag 1) (ag 4)) (eI 1)) (e2 bH (e2 bH (ag 1) (ag 5)) (eI 1))) (eI 1))) (e_ (qh (ai (e2 bH (ag 0) (eI 2)) aE)) (zg 2 (dY (eJ 7) (dY (eJ 8) kA))) (aW (bF 9 (e2 bH (e2 bH (ag 8) (e2 bH (e2 bH (ag 1) (ag 4)) (eI 0))) (e2 bH (e2 bH (ag 1) (ag 5)) (eI 0)))) (aW (bF 10 (dk (ai (ag 6) (ai (ag 4) (ai (ag 5) (ai (ag 7) aE)))))) (jf (Gk (gp (e2 (vR true) (ag 9) (ag 2))) (Gm (gp (e2 (vR true) (ag 9) (ag 3))) (gp (e2 B_ (ag 10) (e2 iY (ag 3) (ag 9)))))) (kT (ag 3) (ag 9) (ag 10) kF) cV))))))
def Co:List W->List ao->R W:=fI 11 Ox
theorem Oy(F:kS K "put_ways" "put_ways" Le f fd)(B:Bl mg)(Mg:cE P w K mg base 1 "pairs_with" 1 Ck):eV P w K mg base (kD P w) 2 f fd Oe (ly K mg 4 Co):=
 dA (k:=1) F qN rfl fun gJ A outer s H E hr=>(aU (dL (eF (cz Mg hr (by omega) (ac (bJ pj (cv fJ B.len cU (ac (af 1) au)) ay) au))) (nu rfl (eR (sG 4 qN) (eR (sG 5 qN) kB))) (aw (sS 6 qN (bJ dN (bJ dN (bz (bz (af 1) (af 4)) ay) (bz (bz (af 1) (af 5)) ay)) ay)) (aU (dL (vK B.enumerate (ac (bz (af 0) ay) au)) (nu rfl (eR (sG 7 qN) (eR (sG 8 qN) kB))) (aw (sS 9 qN (bz (bz (af 8) (bz (bz (af 1) (af 4)) ay)) (bz (bz (af 1) (af 5)) ay))) (aw (sS 10 qN (c7 (ac (af 6) (ac (af 4) (ac (af 5) (ac (af 7) au)))))) (aU (eO (Dz (Dx (cH (xG hr (DI hr)) (af 9) (af 2)) (AE (Dz (Dy (cH (xG hr (DI hr)) (af 9) (af 3)) (y_ (cH (NU hr) (af 10) (lz hr (af 3) (af 9))))))))) (aU (iW (qk hr) (af 10) (af 3) (af 9))) db)))))))))
theorem ug(p2 p3 p4:Pos):DZ "each" "best" ⟨[],[⟨"each",none,⟨45,36,45,40⟩⟩],none,[],[],none,[]⟩ (.Subscript (.Name "best" p2) (.Name "each" p3) p4) (D2 [("each",.local),("best",.free)]):=⟨rfl,rfl,rfl,by decide,rfl,rfl,fun _ _ _ _ _ _ _=>rfl,by decide,by decide,by decide⟩
def Oz:FS:=(aW (bF 1 (lv (ai (dk (ai (eI 0) (ai (eI 0) (ai (dk aE) aE)))) aE))) (aW (bF 2 (uS (oQ (eI 0) (eC (.bl true)) sI))) (aW (bF 3 pF) (aW (fy (c8 4 Co (ai (ag 0) (ai (ag 1) (ai (ag 2) (ai (ag 3) aE)))))) (aW (js (gp (e2 BY (bD sH (ai (ag 3) aE)) (eI 0))) (aW (bF 4 (sJ 3 1 54 ⟨45,29,45,52⟩ "firsts_of.<locals>.<lambda>")) (aW (bF 5 (AO (ag 3) (ag 4))) (aW (fy (qI dH (ag 1) (ai (dk (ai (ag 4) (ai (e2 bH (ag 5) (eI 0)) (ai (dk (ai (e2 bH (e2 bH (ag 1) (e2 bH (ag 5) (eI 1))) (eI 0)) (ai (e2 bH (e2 bH (ag 1) (e2 bH (ag 5) (eI 2))) (eI 0)) (ai (e2 bH (ag 5) (eI 3)) aE)))) aE)))) aE))) (aW (kT (ag 2) (ag 4) (eC (.bl true)) kF) (fy (c8 4 Co (ai (ag 0) (ai (ag 1) (ai (ag 2) (ai (ag 3) aE))))))))))) (d8 (bD dJ (ai (ag 1) aE))))))))
def Cp:List W->List ao->R W:=fI 6 Oz
theorem OA(F:kS K "firsts_of" "firsts_of" Cj f fd)(Tc:QL K fd 54)(Bk:xI base mg)(B:Bl mg)(Iq:cE P w K mg base 2 "put_ways" 4 Co):eV P w K mg base (kD P w) 3 f fd Of (ly K mg 1 Cp):=
 Tc.elim fun cT hT=>AK (k:=2) F uZ rfl fun gJ A outer s H E nZ hr=>(aw (sS 1 uZ (jF (ac (c7 (ac ay (ac ay (ac (c7 au) au)))) au))) (aw (sS 2 uZ (KY (Ho ay xp KW))) (aw (sS 3 uZ oP) (aw (eN (cz Iq hr (by omega) (ac (af 0) (ac (af 1) (ac (af 2) (ac (af 3) au)))))) (aw (nw (cH DF (cv KU B.len cU (ac (af 3) au)) ay) (aw (sS 4 uZ (Hq (i:=3) (j:=1) hr (ug _ _ _) (nZ.symm.trans hT.1) hT.2.1 hT.2.2 Bk B.min rfl)) (aw (sS 5 uZ (KZ (af 3) (af 4))) (aw (eN (ny PySem.F.slot_list_append PySem.F.type_list_append fL (af 1) (ac (c7 (ac (af 4) (ac (bz (af 5) ay) (ac (c7 (ac (bz (bz (af 1) (bz (af 5) ay)) ay) (ac (bz (bz (af 1) (bz (af 5) ay)) ay) (ac (bz (af 5) ay) au)))) au)))) au))) (aw (iW (qk hr) xp (af 2) (af 4)) (aU (eN (cz Iq hr (by omega) (ac (af 0) (ac (af 1) (ac (af 2) (ac (af 3) au)))))))))))) (aU (bT (ca d5 B.tuple bQ (ac (af 1) au)))))))))
def OB:FS:=(aW (bF 1 (lv aE)) (aW (e_ (l9 (ai (ag 0) aE)) (zg 2 (dY (eJ 2) (dY (eJ 3) kA))) (fy (qI gX (ag 1) (ai (dD [none,some 3] (ce (DJ (ag 0) (lx (e2 dR (ag 2) (eI 1))) qH)) (eJ 0) ij (dk (ai (ag 1) (ai (ag 0) aE)))) aE)))) (d8 (ag 1))))
def EW:List W->List ao->R W:=fI 4 OB
theorem OC(F:kS K "pairs_of" "pairs_of" Lf f fd)(B:Bl mg) :eV P w K mg base (kD P w) 1 f fd Og (ly K mg 1 EW):=
 dA (k:=0) F A0 rfl fun gJ A outer s H E hr=>(aw (sS 1 A0 (jF au)) (aw (dL (Ek B.enumerate (ac (af 0) au)) (nu rfl (eR (sG 2 A0) (eR (sG 3 A0) kB))) (aU (eN (ny PySem.F.slot_list_extend PySem.F.type_list_extend l7 (af 1) (ac (gW (nm:=["other","one"]) (cap:=[none,some 3]) (by first|rfl|kernel_rfl) rfl (eF (ze (af 0) (jM (bJ dN (af 2) ay)) py)) (fun _ _ _ _ _=>(sC 0)) (fun _ _ _ _ _=>fG) (fun _ _ _ _ _=>(c7 (ac (af 1) (ac (af 0) au))))) au))))) (aU (bT (af 1)))))
def QN:FS:=(aW (bF 3 (eI 0)) (aW (js (gp (e2 lp (e2 bH (ag 0) (ag 3)) (e2 bH (ag 1) (ag 3)))) (bF 3 (e2 dR (ag 3) (eI 1)))) (aW (bF 4 (bD fQ (ai (ag 2) aE))) (d8 (dk (ai (e2 pi (ag 3) (e2 iC (ag 4) (eI 2))) (ai (e2 eK (e2 pi (ag 3) (ag 4)) (eI 2)) (ai (e2 bH (ag 2) (e2 eK (ag 3) (ag 4))) aE))))))))
def x6:List W->List ao->R W:=fI 5 QN
theorem OD(F:kS K "why_apart" "why_apart" Lg f fd)(B:Bl mg) :eV P w K mg base (kD P w) 1 f fd Oh (ly K mg 3 x6):=
 dA (k:=0) F A1 rfl fun gJ A outer s H E hr=>(aw (sS 3 A1 ay) (aw (nw (cH (jr hr) (bz (af 0) (af 3)) (bz (af 1) (af 3))) (aU (sS 3 A1 (bJ dN (af 3) ay)))) (aw (sS 4 A1 (cv fJ B.len cU (ac (af 2) au))) (aU (bT (c7 (ac (bJ r_ (af 3) (bJ iX (af 4) ay)) (ac (bJ eE (bJ r_ (af 3) (af 4)) ay) (ac (bz (af 2) (bJ eE (af 3) (af 4))) au)))))))))
def OE:FS:=(d8 (dD [none,none,some 0] (ce (ag 1)) (zg 2 (dY (eJ 0) (dY (eJ 1) kA))) (gp (e2 Gn (e2 iY (ag 2) (ag 0)) (e2 iY (ag 2) (ag 1)))) (dk (ai (ag 0) (ai (ag 1) aE)))))
def zR:List W->List ao->R W:=fI 2 OE
theorem OF(F:kS K "parted_by" "parted_by" Lh f fd)  :eV P w K mg base (kD P w) 1 f fd Oi (ly K mg 2 zR):=
 dA (k:=0) F Oj rfl fun gJ A outer s H E hr=>(aU (bT (gW (nm:=["a","b","blocks"]) (cap:=[none,none,some 0]) (by first|rfl|kernel_rfl) rfl (eF (af 1)) (fun _ _ _ _ _=>(nu rfl (eR (sC 0) (eR (sC 1) kB)))) (fun _ _ _ _ _=>(vJ (cH (KL hr) (lz hr (af 2) (af 0)) (lz hr (af 2) (af 1))))) (fun _ _ _ _ _=>(c7 (ac (af 0) (ac (af 1) au)))))))
def Jk:FS:=(d8 (dD [none,none,some 0] (ce (ag 1)) (zg 2 (dY (eJ 0) (dY (eJ 1) kA))) (gp (e2 lp (e2 iY (ag 2) (ag 0)) (e2 iY (ag 2) (ag 1)))) (dk (ai (ag 0) (ai (ag 1) aE)))))
def u0:List W->List ao->R W:=fI 2 Jk
theorem Lm(F:kS K "together_in" "together_in" Eu f fd)  :eV P w K mg base (kD P w) 1 f fd IS (ly K mg 2 u0):=
 dA (k:=0) F Li rfl fun gJ A outer s H E hr=>(aU (bT (gW (nm:=["a","b","blocks"]) (cap:=[none,none,some 0]) (by first|rfl|kernel_rfl) rfl (eF (af 1)) (fun _ _ _ _ _=>(nu rfl (eR (sC 0) (eR (sC 1) kB)))) (fun _ _ _ _ _=>(vJ (cH (jr hr) (lz hr (af 2) (af 0)) (lz hr (af 2) (af 1))))) (fun _ _ _ _ _=>(c7 (ac (af 0) (ac (af 1) au)))))))
def Jl:FS:=(aW (bF 1 (bD l_ (ai (dD [none] (ce (c8 1 Cp (ai (ag 0) aE))) (eJ 0) ij (e2 bH (ag 0) (eI 0))) aE))) (aW (bF 2 (c8 1 EW (ai (ag 1) aE))) (aW (bF 3 (eI 0)) (aW (bF 4 (c8 2 EV (ai (ag 0) (ai (ag 1) aE)))) (aW (bF 5 (c8 2 zR (ai (ag 4) (ai (ag 2) aE)))) (aW (vH (dD [none,none] (ce (ag 5)) (zg 2 (dY (eJ 0) (dY (eJ 1) kA))) ij (dk (ai (ag 0) (ai (ag 1) (ai (eI 0) (ai (dk aE) aE)))))) (eJ 6)) (aW (js (gp (e2 BY (bD fQ (ai (ag 5) aE)) (eI 0))) (aW (bF 2 (c8 2 u0 (ai (ag 4) (ai (ag 2) aE)))) (aW (bF 7 (c8 3 Cm (ai (ag 0) (ai (ag 1) (ai (ag 4) aE))))) (aW (bF 3 (e2 dR (ag 3) (eI 1))) (aW (bF 4 (c8 3 Cn (ai (ag 1) (ai (ag 4) (ai (ag 7) aE))))) (aW (bF 5 (c8 2 zR (ai (ag 4) (ai (ag 2) aE)))) (fy (qI gX (ag 6) (ai (dD [none,none,some 3,some 1,some 7] (ce (ag 5)) (zg 2 (dY (eJ 0) (dY (eJ 1) kA))) ij (dk (ai (ag 0) (ai (ag 1) (ai (ag 2) (ai (c8 3 x6 (ai (e2 iY (ag 4) (ag 0)) (ai (e2 iY (ag 4) (ag 1)) (ai (ag 3) aE)))) aE)))))) aE))))))))) (d8 (bD dJ (ai (ag 6) aE))))))))))
def qO:List W->List ao->R W:=fI 8 Jl
theorem Ln(F:kS K "unlike_rows" "unlike_rows" Ev f fd)(B:Bl mg)(Mv:cE P w K mg base 3 "firsts_of" 1 Cp)(Mn:cE P w K mg base 2 "good_blocks" 2 EV)(Mu:cE P w K mg base 1 "pairs_of" 1 EW)(Ij:cE P w K mg base 1 "parted_by" 2 zR)(Mp:cE P w K mg base 2 "split_blocks" 3 Cn)(F4:cE P w K mg base 1 "together_in" 2 u0)(Mo:cE P w K mg base 1 "views_of" 3 Cm)(Ml:cE P w K mg base 1 "why_apart" 3 x6):eV P w K mg base (kD P w) 4 f fd IT (ly K mg 1 qO):=
 dA (k:=3) F ju rfl fun gJ A outer s H E hr=>(aw (sS 1 ju (cv vZ B.sorted kR (ac (gW (nm:=["row"]) (cap:=[none]) (by first|rfl|kernel_rfl) rfl (eF (cz Mv hr (by omega) (ac (af 0) au))) (fun _ _ _ _ _=>(sC 0)) (fun _ _ _ _ _=>fG) (fun _ _ _ _ _=>(bz (af 0) ay))) au))) (aw (sS 2 ju (cz Mu hr (by omega) (ac (af 1) au))) (aw (sS 3 ju ay) (aw (sS 4 ju (cz Mn hr (by omega) (ac (af 0) (ac (af 1) au)))) (aw (sS 5 ju (cz Ij hr (by omega) (ac (af 4) (ac (af 2) au)))) (aw (oO (sG 6 ju) (nm:=["a","b"]) (cap:=[none,none]) (by first|rfl|kernel_rfl) rfl (eF (af 5)) (fun _ _ _ _ _=>(nu rfl (eR (sC 0) (eR (sC 1) kB)))) (fun _ _ _ _ _=>fG) (fun _ _ _ _ _=>(c7 (ac (af 0) (ac (af 1) (ac ay (ac (c7 au) au))))))) (aw (nw (cH DF (cv fJ B.len cU (ac (af 5) au)) ay) (aw (sS 2 ju (cz F4 hr (by omega) (ac (af 4) (ac (af 2) au)))) (aw (sS 7 ju (cz Mo hr (by omega) (ac (af 0) (ac (af 1) (ac (af 4) au))))) (aw (sS 3 ju (bJ dN (af 3) ay)) (aw (sS 4 ju (cz Mp hr (by omega) (ac (af 1) (ac (af 4) (ac (af 7) au))))) (aw (sS 5 ju (cz Ij hr (by omega) (ac (af 4) (ac (af 2) au)))) (aU (eN (ny PySem.F.slot_list_extend PySem.F.type_list_extend l7 (af 6) (ac (gW (nm:=["a","b","steps","rooms","views"]) (cap:=[none,none,some 3,some 1,some 7]) (by first|rfl|kernel_rfl) rfl (eF (af 5)) (fun _ _ _ _ _=>(nu rfl (eR (sC 0) (eR (sC 1) kB)))) (fun _ _ _ _ _=>fG) (fun _ _ _ _ _=>(c7 (ac (af 0) (ac (af 1) (ac (af 2) (ac (cz Ml hr (by omega) (ac (lz hr (af 4) (af 0)) (ac (lz hr (af 4) (af 1)) (ac (af 3) au)))) au))))))) au)))))))))) (aU (bT (ca d5 B.tuple bQ (ac (af 6) au)))))))))))
def OG:FS:=(aW (bF 3 (e2 eK (e2 iC (e2 dR (e2 dR (e2 dR (ag 0) (e2 iC (e2 iC (eI 7) (ag 1)) (ag 1))) (e2 iC (eI 13) (ag 1))) (ag 2)) (eI 69621)) (eI 2147483647))) (d8 (e2 eK (e2 iC (e2 eK (e2 dR (e2 dR (e2 iC (ag 3) (e2 dR (e2 pi (ag 3) (eI 1009)) (eI 3))) (e2 iC (eI 31) (ag 1))) (ag 2)) (eI 2147483629)) (eI 48271)) (eI 1000000007))))
def u3:List W->List ao->R W:=fI 4 OG
theorem Lo(F:kS K "_law_mixed" "_law_mixed" Ew f fd)  :eV P w K mg base (kD P w) 1 f fd IU (ly K mg 3 u3):=
 dA (k:=0) F Ex rfl fun gJ A outer s H E hr=>(aw (sS 3 Ex (bJ eE (bJ iX (bJ dN (bJ dN (bJ dN (af 0) (bJ iX (bJ iX ay (af 1)) (af 1))) (bJ iX ay (af 1))) (af 2)) ay) ay)) (aU (bT (bJ eE (bJ iX (bJ eE (bJ dN (bJ dN (bJ iX (af 3) (bJ dN (bJ r_ (af 3) ay) ay)) (bJ iX ay (af 1))) (af 2)) ay) ay) ay))))
def Jm:FS:=(aW (bF 3 (lv aE)) (aW (bF 4 (eI 0)) (aW (jf (gp (e2 Qu (ag 0) (e2 ND (eI 10) (eI 18)))) (bF 4 (ag 0)) cV) (aW (e_ (bA (ai (ag 1) aE)) (eJ 5) (jf (gp (e2 BY (ag 4) (eI 0))) (aW (fy (qI dH (ag 3) (ai (e2 eK (ag 4) (eI 64)) aE))) (bF 4 (e2 pi (ag 4) (eI 64)))) (fy (qI dH (ag 3) (ai (c8 3 u3 (ai (ag 0) (ai (ag 5) (ai (ag 2) aE)))) aE))))) (d8 (ag 3))))))
def kI:List W->List ao->R W:=fI 6 Jm
theorem Lp(F:kS K "_law_draws" "_law_draws" Ey f fd)(B:Bl mg)(F5:cE P w K mg base 1 "_law_mixed" 3 u3):eV P w K mg base (kD P w) 2 f fd IV (ly K mg 3 kI):=
 dA (k:=1) F qm rfl fun gJ A outer s H E hr=>(aw (sS 3 qm (jF au)) (aw (sS 4 qm ay) (aw (eO (cH NG (af 0) (bJ NF ay ay)) (aU (sS 4 qm (af 0))) db) (aw (dL (cD B.range (ac (af 1) au)) (sG 5 qm) (aU (eO (cH DF (af 4) ay) (aw (eN (ny PySem.F.slot_list_append PySem.F.type_list_append fL (af 3) (ac (bJ eE (af 4) ay) au))) (aU (sS 4 qm (bJ r_ (af 4) ay)))) (aU (eN (ny PySem.F.slot_list_append PySem.F.type_list_append fL (af 3) (ac (cz F5 hr (by omega) (ac (af 0) (ac (af 5) (ac (af 2) au)))) au))))))) (aU (bT (af 3)))))))
def Jn:FS:=(aW (bF 3 (eC (.str [65,66,67,68,69,70,71,72,73,74,75,76,77,78,79,80,81,82,83,84,85,86,87,88,89,90,97,98,99,100,101,102,103,104,105,106,107,108,109,110,111,112,113,114,115,116,117,118,119,120,121,122]))) (aW (bF 4 (eC (.str []))) (aW (e_ (ce (c8 3 kI (ai (ag 0) (ai (ag 1) (ai (ag 2) aE))))) (eJ 5) (aW (bF 6 (e2 eK (ag 5) (bD fQ (ai (ag 3) aE)))) (aW (bF 4 (e2 dR (ag 4) (e2 bH (ag 3) (ag 6)))) (bF 3 (e2 dR (DJ (ag 3) qH (lx (ag 6))) (DJ (ag 3) (lx (e2 dR (ag 6) (eI 1))) qH)))))) (d8 (ag 4)))))
def x8:List W->List ao->R W:=fI 7 Jn
theorem Lq(F:kS K "_law_pool" "_law_pool" Ez f fd)(B:Bl mg)(lH:cE P w K mg base 2 "_law_draws" 3 kI):eV P w K mg base (kD P w) 3 f fd IW (ly K mg 3 x8):=
 dA (k:=2) F oR rfl fun gJ A outer s H E hr=>(aw (sS 3 oR AC) (aw (sS 4 oR AC) (aw (dL (eF (cz lH hr (by omega) (ac (af 0) (ac (af 1) (ac (af 2) au))))) (sG 5 oR) (aw (sS 6 oR (bJ eE (af 5) (cv fJ B.len cU (ac (af 3) au)))) (aw (sS 4 oR (bJ dN (af 4) (bz (af 3) (af 6)))) (aU (sS 3 oR (bJ dN (ze (af 3) py (jM (af 6))) (ze (af 3) (jM (bJ dN (af 6) ay)) py))))))) (aU (bT (af 4))))))
def OH:FS:=(aW (jf (gp (e2 lp (bD fQ (ai (ag 0) aE)) (eI 0))) (d8 (eI 0)) cV) (d8 (e2 bH (ag 0) (e2 eK (ag 1) (bD fQ (ai (ag 0) aE))))))
def mS:List W->List ao->R W:=fI 2 OH
theorem Lr(F:kS K "_law_cell" "_law_cell" EA f fd)(B:Bl mg) :eV P w K mg base (kD P w) 1 f fd IX (ly K mg 2 mS):=
 dA (k:=0) F Lj rfl fun gJ A outer s H E hr=>(aw (eO (cH (jr hr) (cv fJ B.len cU (ac (af 0) au)) ay) (aU (bT ay)) db) (aU (bT (bz (af 0) (bJ eE (af 1) (cv fJ B.len cU (ac (af 0) au)))))))
def Jo:FS:=(aW (bF 1 (dk (ai (dk (ai (eI 0) (ai (eI 1) aE))) (ai (dk (ai (eI 0) (ai (eI 5) aE))) (ai (dk (ai (eI 0) (ai (eI 9) aE))) (ai (dk (ai (eI 1) (ai (eI 2) aE))) (ai (dk (ai (eI 1) (ai (eI 4) aE))) (ai (dk (ai (eI 1) (ai (eI 6) aE))) (ai (dk (ai (eI 2) (ai (eI 1) aE))) (ai (dk (ai (eI 2) (ai (eI 3) aE))) (ai (dk (ai (eI 2) (ai (eI 5) aE))) (ai (dk (ai (eI 3) (ai (eI 2) aE))) (ai (dk (ai (eI 3) (ai (eI 4) aE))) (ai (dk (ai (eI 5) (ai (eI 2) aE))) aE)))))))))))))) (d8 (e2 bH (ag 1) (e2 eK (ag 0) (eI 12)))))
def x9:List W->List ao->R W:=fI 2 Jo
theorem Ls(F:kS K "_law_shape" "_law_shape" EB f fd)  :eV P w K mg base (kD P w) 1 f fd IY (ly K mg 1 x9):=
 dA (k:=0) F EC rfl fun gJ A outer s H E hr=>(aw (sS 1 EC (c7 (ac (c7 (ac ay (ac ay au))) (ac (c7 (ac ay (ac ay au))) (ac (c7 (ac ay (ac ay au))) (ac (c7 (ac ay (ac ay au))) (ac (c7 (ac ay (ac ay au))) (ac (c7 (ac ay (ac ay au))) (ac (c7 (ac ay (ac ay au))) (ac (c7 (ac ay (ac ay au))) (ac (c7 (ac ay (ac ay au))) (ac (c7 (ac ay (ac ay au))) (ac (c7 (ac ay (ac ay au))) (ac (c7 (ac ay (ac ay au))) au)))))))))))))) (aU (bT (bz (af 1) (bJ eE (af 0) ay)))))
def Jp:FS:=(d8 (NP su (eC (.str [])) (ai (bD qj (ai (dD [none,some 0] (bA (ai (ag 1) aE)) (eJ 0) ij (e2 bH (ag 1) (ag 0))) aE)) aE)))
def x_:List W->List ao->R W:=fI 2 Jp
theorem Lu(F:kS K "_law_names" "_law_names" ED f fd)(B:Bl mg) :eV P w K mg base (kD P w) 1 f fd IZ (ly K mg 2 x_):=
 dA (k:=0) F Lk rfl fun gJ A outer s H E hr=>(aU (bT (QB PySem.F.slot_str_join PySem.F.type_str_join He AC (ac (cv Hj B.sorted kR (ac (gW (nm:=["_law_k","_law_pool_here"]) (cap:=[none,some 0]) (by first|rfl|kernel_rfl) rfl (cD B.range (ac (af 1) au)) (fun _ _ _ _ _=>(sC 0)) (fun _ _ _ _ _=>fG) (fun _ _ _ _ _=>(bz (af 1) (af 0)))) au)) au))))
def Jq:FS:=(aW (bF 4 (lv aE)) (aW (e_ (vO (ai (eI 0) (ai (ag 2) (ai (eI 50) aE)))) (eJ 5) (bF 4 (e2 dR (ag 4) (c8 3 kI (ai (c8 2 mS (ai (ag 0) (ai (e2 dR (ag 1) (e2 pi (ag 5) (eI 50))) aE))) (ai (bD zf (ai (eI 50) (ai (e2 lY (ag 2) (ag 5)) aE))) (ai (e2 dR (ag 3) (e2 iC (eI 1009) (ag 5))) aE))))))) (d8 (ag 4))))
def ya:List W->List ao->R W:=fI 6 Jq
theorem Lv(F:kS K "_law_blocks" "_law_blocks" EE f fd)(B:Bl mg)(nH:cE P w K mg base 1 "_law_cell" 2 mS)(lH:cE P w K mg base 2 "_law_draws" 3 kI):eV P w K mg base (kD P w) 3 f fd I0 (ly K mg 4 ya):=
 dA (k:=2) F we rfl fun gJ A outer s H E hr=>(aw (sS 4 we (jF au)) (aw (dL (Hl B.range (ac ay (ac (af 2) (ac ay au)))) (sG 5 we) (aU (sS 4 we (bJ dN (af 4) (cz lH hr (by omega) (ac (cz nH hr (by omega) (ac (af 0) (ac (bJ dN (af 1) (bJ r_ (af 5) ay)) au))) (ac (cv IG B.min boot_min (ac ay (ac (bJ pj (af 2) (af 5)) au))) (ac (bJ dN (af 3) (bJ iX ay (af 5))) au)))))))) (aU (bT (af 4)))))
def OI:FS:=(aW (jf (gp (e2 lp (ag 0) (eI 0))) (d8 (e2 dR (ag 1) (ag 2))) cV) (aW (jf (gp (e2 lp (ag 0) (eI 1))) (d8 (bD DL (ai (ag 1) (ai (ag 2) aE)))) cV) (aW (jf (gp (e2 lp (ag 0) (eI 2))) (d8 (ag 1)) cV) (d8 (ag 2)))))
def u4:List W->List ao->R W:=fI 3 OI
theorem Lw(F:kS K "_law_grown" "_law_grown" EF f fd)(B:Bl mg) :eV P w K mg base (kD P w) 1 f fd I_ (ly K mg 3 u4):=
 dA (k:=0) F Ll rfl fun gJ A outer s H E hr=>(aw (eO (cH (jr hr) (af 0) ay) (aU (bT (bJ dN (af 1) (af 2)))) db) (aw (eO (cH (jr hr) (af 0) ay) (aU (bT (cv NK B.max boot_max (ac (af 1) (ac (af 2) au))))) db) (aw (eO (cH (jr hr) (af 0) ay) (aU (bT (af 1))) db) (aU (bT (af 2))))))
def Jr:FS:=(aW (bF 3 (lv aE)) (aW (e_ (bA (ai (e2 xt (eI 1) (bD fQ (ai (ag 0) aE))) aE)) (eJ 4) (aW (bF 5 (e2 dR (e2 eK (ag 4) (eI 2)) (e2 eK (e2 bH (ag 2) (eI 1)) (eI 2)))) (aW (jf (gp (e2 lp (bD fQ (ai (ag 0) aE)) (eI 0))) (bF 5 (eI 1)) cV) (aW (bF 6 (lv aE)) (aW (e_ (bA (ai (ag 1) aE)) (eJ 7) (fy (qI dH (ag 6) (ai (bD dJ (ai (dD [none,some 1,some 5,some 7,some 2] (bA (ai (ag 1) aE)) (eJ 0) ij (bD zf (ai (e2 lY (ag 1) (eI 1)) (ai (e2 dR (c8 3 u4 (ai (e2 eK (e2 bH (ag 4) (eI 0)) (eI 4)) (ai (ag 3) (ai (ag 0) aE)))) (ag 2)) aE)))) aE)) aE)))) (fy (qI dH (ag 3) (ai (bD dJ (ai (ag 6) aE)) aE)))))))) (aW (bF 8 (e2 lY (ag 1) (eI 1))) (aW (jf (gp (e2 lp (e2 eK (e2 bH (ag 2) (eI 2)) (eI 2)) (eI 1))) (bF 8 (e2 eK (e2 bH (ag 2) (eI 3)) (ag 1))) cV) (d8 (dk (ai (ag 0) (ai (bD dJ (ai (dD [none,some 8] (bA (ai (ag 1) aE)) (eJ 0) ij (e2 lp (ag 0) (ag 1))) aE)) (ai (bD dJ (ai (ag 3) aE)) aE)))))))))
def yb:List W->List ao->R W:=fI 9 Jr
theorem Lx(F:kS K "_law_graded" "_law_graded" EG f fd)(B:Bl mg)(FU:cE P w K mg base 1 "_law_grown" 3 u4):eV P w K mg base (kD P w) 2 f fd Ja (ly K mg 3 yb):=
 dA (k:=1) F ma rfl fun gJ A outer s H E hr=>(aw (sS 3 ma (jF au)) (aw (dL (cD B.range (ac (bJ DE ay (cv fJ B.len cU (ac (af 0) au))) au)) (sG 4 ma) (aw (sS 5 ma (bJ dN (bJ eE (af 4) ay) (bJ eE (bz (af 2) ay) ay))) (aw (eO (cH (jr hr) (cv fJ B.len cU (ac (af 0) au)) ay) (aU (sS 5 ma ay)) db) (aw (sS 6 ma (jF au)) (aw (dL (cD B.range (ac (af 1) au)) (sG 7 ma) (aU (eN (ny PySem.F.slot_list_append PySem.F.type_list_append fL (af 6) (ac (ca d5 B.tuple bQ (ac (gW (nm:=["_law_r","_law_many","_law_more","_law_l","_law_draws_here"]) (cap:=[none,some 1,some 5,some 7,some 2]) (by first|rfl|kernel_rfl) rfl (cD B.range (ac (af 1) au)) (fun _ _ _ _ _=>(sC 0)) (fun _ _ _ _ _=>fG) (fun _ _ _ _ _=>(cv IG B.min boot_min (ac (bJ pj (af 1) ay) (ac (bJ dN (cz FU hr (by omega) (ac (bJ eE (bz (af 4) ay) ay) (ac (af 3) (ac (af 0) au)))) (af 2)) au))))) au)) au))))) (aU (eN (ny PySem.F.slot_list_append PySem.F.type_list_append fL (af 3) (ac (ca d5 B.tuple bQ (ac (af 6) au)) au))))))))) (aw (sS 8 ma (bJ pj (af 1) ay)) (aw (eO (cH (jr hr) (bJ eE (bz (af 2) ay) ay) ay) (aU (sS 8 ma (bJ eE (bz (af 2) ay) (af 1)))) db) (aU (bT (c7 (ac (af 0) (ac (ca d5 B.tuple bQ (ac (gW (nm:=["_law_room","_law_only"]) (cap:=[none,some 8]) (by first|rfl|kernel_rfl) rfl (cD B.range (ac (af 1) au)) (fun _ _ _ _ _=>(sC 0)) (fun _ _ _ _ _=>fG) (fun _ _ _ _ _=>(uG (jr hr) (af 0) (af 1)))) au)) (ac (ca d5 B.tuple bQ (ac (af 3) au)) au))))))))))
def Js:FS:=(aW (bF 2 (bD fQ (ai (e2 bH (ag 0) (eI 1)) aE))) (aW (bF 3 (bD nr (ai (e2 bH (ag 0) (eI 2)) aE))) (aW (bF 4 (e2 eK (e2 bH (ag 1) (eI 0)) (bD fQ (ai (ag 3) aE)))) (aW (bF 5 (bD nr (ai (e2 bH (ag 3) (ag 4)) aE))) (aW (bF 6 (bD nr (ai (e2 bH (ag 5) (e2 eK (e2 bH (ag 1) (eI 1)) (ag 2))) aE))) (aW (kT (ag 6) (e2 eK (e2 bH (ag 1) (eI 2)) (ag 2)) (e2 eK (e2 bH (ag 1) (eI 3)) (ag 2)) mN) (aW (kT (ag 5) (e2 eK (e2 bH (ag 1) (eI 1)) (ag 2)) (bD dJ (ai (ag 6) aE)) mN) (aW (kT (ag 3) (ag 4) (bD dJ (ai (ag 5) aE)) mN) (d8 (dk (ai (e2 bH (ag 0) (eI 0)) (ai (e2 bH (ag 0) (eI 1)) (ai (bD dJ (ai (ag 3) aE)) aE)))))))))))))
def yc:List W->List ao->R W:=fI 7 Js
theorem Ly(F:kS K "_law_spotted" "_law_spotted" EH f fd)(B:Bl mg) :eV P w K mg base (kD P w) 1 f fd Jb (ly K mg 2 yc):=
 dA (k:=0) F qo rfl fun gJ A outer s H E hr=>(aw (sS 2 qo (cv fJ B.len cU (ac (bz (af 0) ay) au))) (aw (sS 3 qo (ca vG B.list n5 (ac (bz (af 0) ay) au))) (aw (sS 4 qo (bJ eE (bz (af 1) ay) (cv fJ B.len cU (ac (af 3) au)))) (aw (sS 5 qo (ca vG B.list n5 (ac (bz (af 3) (af 4)) au))) (aw (sS 6 qo (ca vG B.list n5 (ac (bz (af 5) (bJ eE (bz (af 1) ay) (af 2))) au))) (aw (iW sf (bJ eE (bz (af 1) ay) (af 2)) (af 6) (bJ eE (bz (af 1) ay) (af 2))) (aw (iW sf (ca d5 B.tuple bQ (ac (af 6) au)) (af 5) (bJ eE (bz (af 1) ay) (af 2))) (aw (iW sf (ca d5 B.tuple bQ (ac (af 5) au)) (af 3) (af 4)) (aU (bT (c7 (ac (bz (af 0) ay) (ac (bz (af 0) ay) (ac (ca d5 B.tuple bQ (ac (af 3) au)) au))))))))))))))
def Jt:FS:=(aW (bF 3 (bD fQ (ai (ag 1) aE))) (aW (bF 4 (eI 0)) (aW (bF 5 (lv aE)) (aW (e_ (ce (e2 bH (ag 0) (eI 2))) (eJ 6) (aW (bF 7 (lv aE)) (aW (e_ (bA (ai (ag 3) aE)) (eJ 8) (aW (bF 9 (lv aE)) (aW (e_ (bA (ai (ag 3) aE)) (eJ 10) (aW (bF 11 (e2 bH (e2 bH (ag 6) (e2 bH (ag 1) (ag 8))) (e2 bH (ag 1) (ag 10)))) (aW (vH (dD [none,some 11,some 1] (bA (ai (ag 3) aE)) (eJ 0) (gp (e2 lp (e2 bH (ag 2) (ag 0)) (ag 1))) (ag 0)) (eJ 12)) (aW (fy (qI dH (ag 9) (ai (e2 bH (ag 12) (e2 eK (e2 bH (ag 2) (e2 eK (ag 4) (bD fQ (ai (ag 2) aE)))) (bD fQ (ai (ag 12) aE)))) aE))) (bF 4 (e2 dR (ag 4) (eI 1))))))) (fy (qI dH (ag 7) (ai (bD dJ (ai (ag 9) aE)) aE)))))) (fy (qI dH (ag 5) (ai (bD dJ (ai (ag 7) aE)) aE)))))) (d8 (dk (ai (e2 bH (ag 0) (eI 0)) (ai (bD dJ (ai (dD [none,some 0] (ce (ag 1)) (eJ 0) ij (e2 bH (e2 bH (ag 1) (eI 1)) (ag 0))) aE)) (ai (bD dJ (ai (ag 5) aE)) aE)))))))))
def yd:List W->List ao->R W:=fI 13 Jt
theorem Lz(F:kS K "_law_blown" "_law_blown" EI f fd)(B:Bl mg) :eV P w K mg base (kD P w) 1 f fd Jc (ly K mg 3 yd):=
 dA (k:=0) F jv rfl fun gJ A outer s H E hr=>(aw (sS 3 jv (cv fJ B.len cU (ac (af 1) au))) (aw (sS 4 jv ay) (aw (sS 5 jv (jF au)) (aw (dL (eF (bz (af 0) ay)) (sG 6 jv) (aw (sS 7 jv (jF au)) (aw (dL (cD B.range (ac (af 3) au)) (sG 8 jv) (aw (sS 9 jv (jF au)) (aw (dL (cD B.range (ac (af 3) au)) (sG 10 jv) (aw (sS 11 jv (bz (bz (af 6) (bz (af 1) (af 8))) (bz (af 1) (af 10)))) (aw (oO (sG 12 jv) (nm:=["_law_z","_law_due","_law_owner_here"]) (cap:=[none,some 11,some 1]) (by first|rfl|kernel_rfl) rfl (cD B.range (ac (af 3) au)) (fun _ _ _ _ _=>(sC 0)) (fun _ _ _ _ _=>(vJ (cH (jr hr) (bz (af 2) (af 0)) (af 1)))) (fun _ _ _ _ _=>(af 0))) (aw (eN (ny PySem.F.slot_list_append PySem.F.type_list_append fL (af 9) (ac (bz (af 12) (bJ eE (bz (af 2) (bJ eE (af 4) (cv fJ B.len cU (ac (af 2) au)))) (cv fJ B.len cU (ac (af 12) au)))) au))) (aU (sS 4 jv (bJ dN (af 4) ay))))))) (aU (eN (ny PySem.F.slot_list_append PySem.F.type_list_append fL (af 7) (ac (ca d5 B.tuple bQ (ac (af 9) au)) au))))))) (aU (eN (ny PySem.F.slot_list_append PySem.F.type_list_append fL (af 5) (ac (ca d5 B.tuple bQ (ac (af 7) au)) au))))))) (aU (bT (c7 (ac (bz (af 0) ay) (ac (ca d5 B.tuple bQ (ac (gW (nm:=["_law_room","_law_machine_here"]) (cap:=[none,some 0]) (by first|rfl|kernel_rfl) rfl (eF (af 1)) (fun _ _ _ _ _=>(sC 0)) (fun _ _ _ _ _=>fG) (fun _ _ _ _ _=>(bz (bz (af 1) ay) (af 0)))) au)) (ac (ca d5 B.tuple bQ (ac (af 5) au)) au))))))))))
def Ju:FS:=(aW (bF 3 (lv (ai (eI 0) aE))) (aW (e_ (pA (ai (eI 1) (ai (e2 dR (ag 0) (ag 1)) aE))) (eJ 4) (aW (bF 5 (ag 4)) (aW (jf (gp (e2 Qu (ag 4) (ag 0))) (bF 5 (e2 eK (e2 bH (ag 2) (e2 dR (e2 iC (eI 2) (ag 4)) (eI 1))) (ag 0))) cV) (fy (qI nQ (ag 3) (ai (e2 dR (eI 1) (e2 eK (e2 bH (ag 2) (e2 iC (eI 2) (ag 4))) (bD fQ (ai (ag 3) aE)))) (ai (ag 5) aE))))))) (d8 (ag 3))))
def tf:List W->List ao->R W:=fI 6 Ju
theorem LA(F:kS K "_law_owner" "_law_owner" EJ f fd)(B:Bl mg) :eV P w K mg base (kD P w) 1 f fd Jd (ly K mg 3 tf):=
 dA (k:=0) F sZ rfl fun gJ A outer s H E hr=>(aw (sS 3 sZ (jF (ac ay au))) (aw (dL (B4 B.range (ac ay (ac (bJ dN (af 0) (af 1)) au))) (sG 4 sZ) (aw (sS 5 sZ (af 4)) (aw (eO (cH NG (af 4) (af 0)) (aU (sS 5 sZ (bJ eE (bz (af 2) (bJ dN (bJ iX ay (af 4)) ay)) (af 0)))) db) (aU (eN (ny PySem.F.slot_list_insert PySem.F.type_list_insert B7 (af 3) (ac (bJ dN ay (bJ eE (bz (af 2) (bJ iX ay (af 4))) (cv fJ B.len cU (ac (af 3) au)))) (ac (af 5) au)))))))) (aU (bT (af 3)))))
def Jv:FS:=(aW (bF 4 (bD dJ (ai (dD [none,some 3] (bA (ai (ag 1) aE)) (eJ 0) ij (e2 lp (e2 eK (e2 bH (ag 1) (ag 0)) (eI 2)) (eI 1))) aE))) (aW (bF 5 (lv aE)) (aW (bF 6 (ag 1)) (aW (e_ (bA (ai (e2 xt (eI 1) (bD fQ (ai (ag 0) aE))) aE)) (eJ 7) (aW (bF 8 (lv aE)) (aW (e_ (bA (ai (ag 1) aE)) (eJ 9) (aW (fy (qI dH (ag 8) (ai (bD dJ (ai (dD [none,some 2,some 3,some 6] (bA (ai (ag 1) aE)) (eJ 0) ij (e2 eK (e2 bH (ag 2) (e2 dR (ag 3) (ag 0))) (ag 1))) aE)) aE))) (bF 6 (e2 dR (ag 6) (ag 1))))) (fy (qI dH (ag 5) (ai (bD dJ (ai (ag 8) aE)) aE)))))) (d8 (dk (ai (ag 0) (ai (ag 4) (ai (bD dJ (ai (ag 5) aE)) aE)))))))))
def ye:List W->List ao->R W:=fI 10 Jv
theorem LB(F:kS K "_law_machine" "_law_machine" EK f fd)(B:Bl mg) :eV P w K mg base (kD P w) 1 f fd Je (ly K mg 4 ye):=
 dA (k:=0) F nD rfl fun gJ A outer s H E hr=>(aw (sS 4 nD (ca d5 B.tuple bQ (ac (gW (nm:=["_law_k","_law_draws_here"]) (cap:=[none,some 3]) (by first|rfl|kernel_rfl) rfl (cD B.range (ac (af 1) au)) (fun _ _ _ _ _=>(sC 0)) (fun _ _ _ _ _=>fG) (fun _ _ _ _ _=>(uG (jr hr) (bJ eE (bz (af 1) (af 0)) ay) ay))) au))) (aw (sS 5 nD (jF au)) (aw (sS 6 nD (af 1)) (aw (dL (cD B.range (ac (bJ DE ay (cv fJ B.len cU (ac (af 0) au))) au)) (sG 7 nD) (aw (sS 8 nD (jF au)) (aw (dL (cD B.range (ac (af 1) au)) (sG 9 nD) (aw (eN (ny PySem.F.slot_list_append PySem.F.type_list_append fL (af 8) (ac (ca d5 B.tuple bQ (ac (gW (nm:=["_law_r","_law_top","_law_draws_here","_law_at"]) (cap:=[none,some 2,some 3,some 6]) (by first|rfl|kernel_rfl) rfl (cD B.range (ac (af 1) au)) (fun _ _ _ _ _=>(sC 0)) (fun _ _ _ _ _=>fG) (fun _ _ _ _ _=>(bJ eE (bz (af 2) (bJ dN (af 3) (af 0))) (af 1)))) au)) au))) (aU (sS 6 nD (bJ dN (af 6) (af 1)))))) (aU (eN (ny PySem.F.slot_list_append PySem.F.type_list_append fL (af 5) (ac (ca d5 B.tuple bQ (ac (af 8) au)) au))))))) (aU (bT (c7 (ac (af 0) (ac (af 4) (ac (ca d5 B.tuple bQ (ac (af 5) au)) au))))))))))
def Jw:FS:=(aW (bF 3 (c8 3 kI (ai (c8 2 mS (ai (ag 0) (ai (ag 1) aE))) (ai (eI 10) (ai (eI 1000003) aE))))) (aW (vH (c8 1 x9 (ai (e2 bH (ag 3) (eI 0)) aE)) (zg 2 (dY (eJ 4) (dY (eJ 5) kA)))) (aW (bF 6 (c8 2 x_ (ai (ag 2) (ai (ag 4) aE)))) (aW (bF 7 (c8 4 ya (ai (ag 0) (ai (e2 dR (ag 1) (eI 1)) (ai (e2 dR (e2 dR (ag 5) (e2 iC (e2 iC (ag 5) (ag 5)) (e2 xt (eI 1) (ag 4)))) (eI 40)) (ai (eI 3000017) aE)))))) (aW (jf (gp (e2 lp (e2 eK (e2 bH (ag 3) (eI 3)) (eI 3)) (eI 0))) (aW (bF 8 (c8 3 yb (ai (ag 6) (ai (ag 5) (ai (ag 7) aE))))) (aW (jf (gp (e2 lp (e2 eK (e2 bH (ag 3) (eI 4)) (eI 3)) (eI 0))) (bF 8 (c8 2 yc (ai (ag 8) (ai (DJ (ag 7) (lx (eI 4)) (lx (eI 8))) aE)))) cV) (d8 (c8 3 yd (ai (ag 8) (ai (c8 3 tf (ai (ag 5) (ai (eI 0) (ai (DJ (ag 7) (lx (eI 8)) (lx (eI 30))) aE)))) (ai (ag 7) aE))))))) cV) (aW (bF 9 (ag 5)) (aW (jf (gp (e2 lp (e2 eK (e2 bH (ag 3) (eI 1)) (eI 3)) (eI 0))) (bF 9 (e2 dR (eI 1) (e2 eK (e2 bH (ag 3) (eI 2)) (ag 5)))) cV) (d8 (c8 4 ye (ai (ag 6) (ai (ag 5) (ai (ag 9) (ai (ag 7) aE)))))))))))))
def u5:List W->List ao->R W:=fI 10 Jw
theorem LC(F:kS K "_law_any" "_law_any" EL f fd) (F_:cE P w K mg base 3 "_law_blocks" 4 ya)(F8:cE P w K mg base 1 "_law_blown" 3 yd)(nH:cE P w K mg base 1 "_law_cell" 2 mS)(lH:cE P w K mg base 2 "_law_draws" 3 kI)(Ga:cE P w K mg base 2 "_law_graded" 3 yb)(F3:cE P w K mg base 1 "_law_machine" 4 ye)(Gc:cE P w K mg base 1 "_law_names" 2 x_)(vi:cE P w K mg base 1 "_law_owner" 3 tf)(Gd:cE P w K mg base 1 "_law_shape" 1 x9)(FW:cE P w K mg base 1 "_law_spotted" 2 yc):eV P w K mg base (kD P w) 4 f fd Jf (ly K mg 3 u5):=
 dA (k:=3) F kU rfl fun gJ A outer s H E hr=>(aw (sS 3 kU (cz lH hr (by omega) (ac (cz nH hr (by omega) (ac (af 0) (ac (af 1) au))) (ac ay (ac ay au))))) (aw (KM (cz Gd hr (by omega) (ac (bz (af 3) ay) au)) (nu rfl (eR (sG 4 kU) (eR (sG 5 kU) kB)))) (aw (sS 6 kU (cz Gc hr (by omega) (ac (af 2) (ac (af 4) au)))) (aw (sS 7 kU (cz F_ hr (by omega) (ac (af 0) (ac (bJ dN (af 1) ay) (ac (bJ dN (bJ dN (af 5) (bJ iX (bJ iX (af 5) (af 5)) (bJ DE ay (af 4)))) ay) (ac ay au)))))) (aw (eO (cH (jr hr) (bJ eE (bz (af 3) ay) ay) ay) (aw (sS 8 kU (cz Ga hr (by omega) (ac (af 6) (ac (af 5) (ac (af 7) au))))) (aw (eO (cH (jr hr) (bJ eE (bz (af 3) ay) ay) ay) (aU (sS 8 kU (cz FW hr (by omega) (ac (af 8) (ac (ze (af 7) (jM ay) (jM ay)) au))))) db) (aU (bT (cz F8 hr (by omega) (ac (af 8) (ac (cz vi hr (by omega) (ac (af 5) (ac ay (ac (ze (af 7) (jM ay) (jM ay)) au)))) (ac (af 7) au)))))))) db) (aw (sS 9 kU (af 5)) (aw (eO (cH (jr hr) (bJ eE (bz (af 3) ay) ay) ay) (aU (sS 9 kU (bJ dN ay (bJ eE (bz (af 3) ay) (af 5))))) db) (aU (bT (cz F3 hr (by omega) (ac (af 6) (ac (af 5) (ac (af 9) (ac (af 7) au))))))))))))))
def OJ:FS:=(aW (jf (gp (e2 lp (ag 4) (eI 0))) (aW (jf (gp (e2 Gn (e2 bH (e2 bH (ag 0) (eI 1)) (e2 bH (ag 3) (eI 0))) (e2 bH (e2 bH (ag 0) (eI 1)) (e2 bH (ag 3) (eI 1))))) (d8 (dk aE)) cV) (d8 (eC .non))) cV) (aW (e_ (bA (ai (bD fQ (ai (e2 bH (ag 0) (eI 2)) aE)) aE)) (eJ 5) (aW (bF 6 (e2 bH (e2 bH (ag 0) (eI 2)) (ag 5))) (e_ (ce (dk (ai (eI 0) (ai (eI 1) aE)))) (eJ 7) (e_ (ce (ag 1)) (eJ 8) (aW (bF 9 (dk (ai (e2 bH (e2 bH (ag 6) (ag 8)) (e2 bH (ag 3) (eI 0))) (ai (e2 bH (e2 bH (ag 6) (ag 8)) (e2 bH (ag 3) (eI 1))) aE)))) (aW (jf (gp (e2 lp (ag 7) (eI 0))) (bF 9 (dk (ai (e2 bH (e2 bH (ag 6) (e2 bH (ag 3) (eI 0))) (ag 8)) (ai (e2 bH (e2 bH (ag 6) (e2 bH (ag 3) (eI 1))) (ag 8)) aE)))) cV) (jf (gp (e2 lp (sP (ag 2) (ag 9) (vL (eI 1))) (e2 lY (ag 4) (eI 1)))) (d8 (dk (ai (ag 5) (ai (ag 7) (ai (ag 8) aE))))) cV))))))) (d8 (eC .non))))
def u6:List W->List ao->R W:=fI 10 OJ
theorem LD(F:kS K "_law_why" "_law_why" EM f fd)(B:Bl mg) :eV P w K mg base (kD P w) 1 f fd Jg (ly K mg 5 u6):=
 dA (k:=0) F oS rfl fun gJ A outer s H E hr=>(aw (eO (cH (jr hr) (af 4) ay) (aw (eO (cH (KL hr) (bz (bz (af 0) ay) (bz (af 3) ay)) (bz (bz (af 0) ay) (bz (af 3) ay))) (aU (bT (c7 au))) db) (aU (bT IC))) db) (aw (dL (cD B.range (ac (cv fJ B.len cU (ac (bz (af 0) ay) au)) au)) (sG 5 oS) (aw (sS 6 oS (bz (bz (af 0) ay) (af 5))) (aU (dL (eF (c7 (ac ay (ac ay au)))) (sG 7 oS) (aU (dL (eF (af 1)) (sG 8 oS) (aw (sS 9 oS (c7 (ac (bz (bz (af 6) (af 8)) (bz (af 3) ay)) (ac (bz (bz (af 6) (af 8)) (bz (af 3) ay)) au)))) (aw (eO (cH (jr hr) (af 7) ay) (aU (sS 9 oS (c7 (ac (bz (bz (af 6) (bz (af 3) ay)) (af 8)) (ac (bz (bz (af 6) (bz (af 3) ay)) (af 8)) au))))) db) (aU (eO (cH (jr hr) (Hv hr (af 2) (af 9) (IL ay)) (bJ pj (af 4) ay)) (aU (bT (c7 (ac (af 5) (ac (af 7) (ac (af 8) au)))))) db)))))))))) (aU (bT IC))))
def Jx:FS:=(aW (bF 2 (lv aE)) (aW (bF 3 pF) (js (gp (eC (.bl true))) (aW (bF 4 (eI 0)) (aW (jf (gp (e2 BY (bD fQ (ai (ag 2) aE)) (eI 0))) (bF 4 (e2 dR (e2 bH (e2 bH (ag 2) (vL (eI 1))) (eI 2)) (eI 1))) cV) (aW (bF 5 (lv aE)) (aW (e_ (ce (ag 1)) (eJ 6) (e_ (ce (ag 1)) (eJ 7) (jf (Gk (gp (e2 vF (ag 6) (ag 7))) (gp (e2 (vV true) (dk (ai (ag 6) (ai (ag 7) aE))) (ag 3)))) (aW (bF 8 (c8 5 u6 (ai (ag 0) (ai (ag 1) (ai (ag 3) (ai (dk (ai (ag 6) (ai (ag 7) aE))) (ai (ag 4) aE))))))) (jf (gp (uH (ag 8))) (fy (qI dH (ag 5) (ai (dk (ai (ag 6) (ai (ag 7) (ai (ag 4) (ai (ag 8) aE))))) aE))) cV)) cV))) (aW (jf (gp (e2 lp (bD fQ (ai (ag 5) aE)) (eI 0))) (d8 (bD dJ (ai (ag 2) aE))) cV) (aW (e_ (ce (ag 5)) (eJ 9) (aW (kT (ag 3) (dk (ai (e2 bH (ag 9) (eI 0)) (ai (e2 bH (ag 9) (eI 1)) aE))) (ag 4) qL) (kT (ag 3) (dk (ai (e2 bH (ag 9) (eI 1)) (ai (e2 bH (ag 9) (eI 0)) aE))) (ag 4) qL))) (bF 2 (e2 dR (ag 2) (ag 5))))))))))))
def tj:List W->List ao->R W:=fI 10 Jx
theorem LF(F:kS K "_law_unlike" "_law_unlike" EN f fd)(B:Bl mg)(F':cE P w K mg base 1 "_law_why" 5 u6):eV P w K mg base (kD P w) 2 f fd Jh (ly K mg 2 tj):=
 dA (k:=1) F j5 rfl fun gJ A outer s H E hr=>(aw (sS 2 j5 (jF au)) (aw (sS 3 j5 oP) (aU (nw (np xp) (aw (sS 4 j5 ay) (aw (eO (cH DF (cv fJ B.len cU (ac (af 2) au)) ay) (aU (sS 4 j5 (bJ dN (bz (bz (af 2) (IL ay)) ay) ay))) db) (aw (sS 5 j5 (jF au)) (aw (dL (eF (af 1)) (sG 6 j5) (aU (dL (eF (af 1)) (sG 7 j5) (aU (eO (Dz (Dx (cH w_lt (af 6) (af 7)) (AE (cH (Eb hr) (c7 (ac (af 6) (ac (af 7) au))) (af 3))))) (aw (sS 8 j5 (cz F' hr (by omega) (ac (af 0) (ac (af 1) (ac (af 3) (ac (c7 (ac (af 6) (ac (af 7) au))) (ac (af 4) au))))))) (aU (eO (Hb (af 8)) (aU (eN (ny PySem.F.slot_list_append PySem.F.type_list_append fL (af 5) (ac (c7 (ac (af 6) (ac (af 7) (ac (af 4) (ac (af 8) au))))) au)))) db))) db))))) (aw (eO (cH (jr hr) (cv fJ B.len cU (ac (af 5) au)) ay) (aU (bT (ca d5 B.tuple bQ (ac (af 2) au)))) db) (aw (dL (eF (af 5)) (sG 9 j5) (aw (iW (Ec hr) (af 4) (af 3) (c7 (ac (bz (af 9) ay) (ac (bz (af 9) ay) au)))) (aU (iW (Ec hr) (af 4) (af 3) (c7 (ac (bz (af 9) ay) (ac (bz (af 9) ay) au))))))) (aU (sS 2 j5 (bJ dN (af 2) (af 5))))))))))))))
def Jy:FS:=(aW (bF 1 (lv (ai (eI 0) aE))) (aW (bF 2 (eI 0)) (aW (js (gp (e2 vF (ag 2) (bD fQ (ai (ag 1) aE)))) (aW (e_ (ce (bD nr (ai (DJ (ag 1) qH (lx (e2 dR (ag 2) (eI 1)))) aE))) (eJ 3) (e_ (ce (e2 bH (ag 0) (eI 2))) (eJ 4) (e_ (ce (dk (ai (e2 bH (e2 bH (ag 4) (e2 bH (ag 1) (ag 2))) (ag 3)) (ai (e2 bH (e2 bH (ag 4) (ag 3)) (e2 bH (ag 1) (ag 2))) aE)))) (eJ 5) (jf (gp (e2 (BZ true) (ag 5) (ag 1))) (fy (qI dH (ag 1) (ai (ag 5) aE))) cV)))) (bF 2 (e2 dR (ag 2) (eI 1))))) (d8 (ag 1)))))
def tm:List W->List ao->R W:=fI 6 Jy
theorem LG(F:kS K "_law_met" "_law_met" EO f fd)(B:Bl mg) :eV P w K mg base (kD P w) 1 f fd Ji (ly K mg 1 tm):=
 dA (k:=0) F oT rfl fun gJ A outer s H E hr=>(aw (sS 1 oT (jF (ac ay au))) (aw (sS 2 oT ay) (aw (nw (cH w_lt (af 2) (cv fJ B.len cU (ac (af 1) au))) (aw (dL (eF (ca vG B.list n5 (ac (ze (af 1) py (jM (bJ dN (af 2) ay))) au))) (sG 3 oT) (aU (dL (eF (bz (af 0) ay)) (sG 4 oT) (aU (dL (eF (c7 (ac (bz (bz (af 4) (bz (af 1) (af 2))) (af 3)) (ac (bz (bz (af 4) (af 3)) (bz (af 1) (af 2))) au)))) (sG 5 oT) (aU (eO (cH (DI hr) (af 5) (af 1)) (aU (eN (ny PySem.F.slot_list_append PySem.F.type_list_append fL (af 1) (ac (af 5) au)))) db))))))) (aU (sS 2 oT (bJ dN (af 2) ay))))) (aU (bT (af 1))))))
def EX(O3:List W->List ao->R W):FS:=(aW (jf (gp (sy "tuple" (ag 1))) (aW (jf (Gm (ID (gp (sy "tuple" (ag 0)))) (gp (e2 Gn (bD fQ (ai (ag 0) aE)) (bD fQ (ai (ag 1) aE))))) (d8 (eC (.bl false))) cV) (aW (e_ (bA (ai (bD fQ (ai (ag 1) aE)) aE)) (eJ 2) (jf (ID (gp (c8 2 O3 (ai (e2 bH (ag 0) (ag 2)) (ai (e2 bH (ag 1) (ag 2)) aE))))) (d8 (eC (.bl false))) cV)) (d8 (eC (.bl true))))) cV) (aW (jf (gp (zb (ag 1))) (d8 (zb (ag 0))) cV) (aW (jf (gp (sy "bool" (ag 1))) (d8 (za (sy "bool" (ag 0)) (e2 lp (ag 0) (ag 1)))) cV) (aW (jf (gp (sy "int" (ag 1))) (d8 (za (sy "int" (ag 0)) (za (Ha (sy "bool" (ag 0))) (e2 lp (ag 0) (ag 1))))) cV) (d8 (za (sy "str" (ag 0)) (e2 lp (ag 0) (ag 1))))))))
def j6:Nat->List W->List ao->R W
 |0=>fun _ _=>.bad
 |k+1=>fI 3 (EX (j6 k))
theorem A2{FZ:Addr}{Mf:FuncData}(vk:kS K "_law_same" "_law_same" EQ FZ Mf)(yN:mg "_law_same"=some (.ref FZ))(B:Bl mg) :∀k:Nat,cE P w K mg base (0+k) "_law_same" 2 (j6 k)
 |0=>DQ (ps:=ER) vk yN rfl (fun _ _ _ _ _ _ us hl=>match us,hl with|[_,_],_=>rfl)
 |k+1=>by
  have tQ:=A2 vk yN B  k
  exact vI (ps:=ER) vk yN rfl (fun _ _ _ _ _ _ us hl=>match us,hl with|[_,_],_=>rfl) (dA (k:=0+k) vk ES rfl fun gJ A outer s H E hr=>(aw (eO (np (qJ B.isinstance B.tuple bQ (af 1))) (aw (eO (Dz (Dy (vE (np (qJ B.isinstance B.tuple bQ (af 0)))) (y_ (cH (KL hr) (cv fJ B.len cU (ac (af 0) au)) (cv fJ B.len cU (ac (af 1) au)))))) (aU (bT xp)) db) (aw (dL (cD B.range (ac (cv fJ B.len cU (ac (af 1) au)) au)) (sG 2 ES) (aU (eO (vE (np (cz tQ hr (by omega) (ac (bz (af 0) (af 2)) (ac (bz (af 1) (af 2)) au))))) (aU (bT xp)) db))) (aU (bT xp)))) db) (aw (eO (KG (af 1)) (aU (bT (NA (af 0)))) db) (aw (eO (np (qJ B.isinstance B.bool qD (af 1))) (aU (bT (AF (qJ B.isinstance B.bool qD (af 0)) (DA (uG (jr hr) (af 0) (af 1)))))) db) (aw (eO (np (qJ B.isinstance B.int boot_int (af 1))) (aU (bT (AF (qJ B.isinstance B.int boot_int (af 0)) (AF (Nz (qJ B.isinstance B.bool qD (af 0))) (DA (uG (jr hr) (af 0) (af 1))))))) db) (aU (bT (AF (qJ B.isinstance B.str boot_str (af 0)) (DA (uG (jr hr) (af 0) (af 1)))))))))))
def Jz:FS:=(aW (bF 1 (e2 dR (eI 12) (e2 eK (e2 bH (ag 0) (eI 0)) (eI 9)))) (aW (bF 2 (c8 3 tf (ai (ag 1) (ai (eI 0) (ai (DJ (ag 0) (lx (eI 8)) qH) aE))))) (aW (vH (dD [none,some 2,some 1] (bA (ai (ag 1) aE)) (eJ 0) ij (dD [none,some 1,some 2] (bA (ai (ag 2) aE)) (eJ 0) ij (e2 bH (ag 1) (e2 lY (ag 2) (eI 1))))) (eJ 3)) (aW (e_ (bA (ai (e2 lY (ag 1) (eI 2)) aE)) (eJ 4) (aW (jf (Gm (gp (e2 BY (e2 eK (e2 bH (ag 0) (eI 1)) (eI 3)) (eI 0))) (gp (e2 lp (ag 4) (eI 0)))) (kT (e2 bH (ag 3) (e2 bH (ag 2) (ag 4))) (eI 0) (e2 bH (ag 2) (e2 dR (ag 4) (eI 1))) mN) cV) (jf (gp (e2 vF (e2 eK (e2 bH (ag 0) (eI 1)) (eI 3)) (eI 2))) (kT (e2 bH (ag 3) (eI 0)) (e2 bH (ag 2) (ag 4)) (e2 bH (ag 2) (e2 dR (ag 4) (eI 1))) mN) cV))) (aW (bF 5 (e2 lY (ag 1) (eI 2))) (aW (jf (gp (e2 lp (e2 eK (e2 bH (ag 0) (eI 2)) (eI 2)) (eI 1))) (bF 5 (e2 dR (eI 1) (e2 eK (e2 bH (ag 0) (eI 3)) (e2 lY (ag 1) (eI 2))))) cV) (d8 (dk (ai (eC (.str [])) (ai (bD dJ (ai (dD [none,some 2,some 5] (bA (ai (ag 1) aE)) (eJ 0) ij (e2 lp (ag 0) (e2 bH (ag 1) (ag 2)))) aE)) (ai (dk (ai (bD dJ (ai (dD [none] (ce (ag 3)) (eJ 0) ij (bD dJ (ai (ag 0) aE))) aE)) aE)) aE)))))))))))
def yf:List W->List ao->R W:=fI 6 Jz
theorem LH(F:kS K "_law_ladder" "_law_ladder" ET f fd)(B:Bl mg)(vi:cE P w K mg base 1 "_law_owner" 3 tf):eV P w K mg base (kD P w) 2 f fd Jj (ly K mg 1 yf):=
 dA (k:=1) F oU rfl fun gJ A outer s H E hr=>(aw (sS 1 oU (bJ dN ay (bJ eE (bz (af 0) ay) ay))) (aw (sS 2 oU (cz vi hr (by omega) (ac (af 1) (ac ay (ac (ze (af 0) (jM ay) py) au))))) (aw (oO (sG 3 oU) (nm:=["_law_l","_law_place","_law_many"]) (cap:=[none,some 2,some 1]) (by first|rfl|kernel_rfl) rfl (cD B.range (ac (af 1) au)) (fun _ _ _ _ _=>(sC 0)) (fun _ _ _ _ _=>fG) (fun _ _ _ _ _=>(Hn (nm:=["_law_r","_law_place","_law_many"]) (cap:=[none,some 1,some 2]) (by first|rfl|kernel_rfl) (cD B.range (ac (af 2) au)) (fun _ _ _ _ _=>(sC 0)) (fun _ _ _ _ _=>fG) (fun _ _ _ _ _=>(bz (af 1) (bJ pj (af 2) ay)))))) (aw (dL (cD B.range (ac (bJ pj (af 1) ay) au)) (sG 4 oU) (aw (eO (Dz (Dy (cH DF (bJ eE (bz (af 0) ay) ay) ay) (y_ (cH (jr hr) (af 4) ay)))) (aU (iW sf (bz (af 2) (bJ dN (af 4) ay)) (bz (af 3) (bz (af 2) (af 4))) ay)) db) (aU (eO (cH w_lt (bJ eE (bz (af 0) ay) ay) ay) (aU (iW sf (bz (af 2) (bJ dN (af 4) ay)) (bz (af 3) ay) (bz (af 2) (af 4)))) db)))) (aw (sS 5 oU (bJ pj (af 1) ay)) (aw (eO (cH (jr hr) (bJ eE (bz (af 0) ay) ay) ay) (aU (sS 5 oU (bJ dN ay (bJ eE (bz (af 0) ay) (bJ pj (af 1) ay))))) db) (aU (bT (c7 (ac AC (ac (ca d5 B.tuple bQ (ac (gW (nm:=["_law_room","_law_place","_law_only"]) (cap:=[none,some 2,some 5]) (by first|rfl|kernel_rfl) rfl (cD B.range (ac (af 1) au)) (fun _ _ _ _ _=>(sC 0)) (fun _ _ _ _ _=>fG) (fun _ _ _ _ _=>(uG (jr hr) (af 0) (bz (af 1) (af 2))))) au)) (ac (c7 (ac (ca d5 B.tuple bQ (ac (gW (nm:=["_law_row"]) (cap:=[none]) (by first|rfl|kernel_rfl) rfl (eF (af 3)) (fun _ _ _ _ _=>(sC 0)) (fun _ _ _ _ _=>fG) (fun _ _ _ _ _=>(ca d5 B.tuple bQ (ac (af 0) au)))) au)) au)) au))))))))))))
def JA:FS:=(aW (bF 1 (c8 3 x8 (ai (c8 2 mS (ai (ag 0) (ai (eI 0) aE))) (ai (eI 6) (ai (eI 2000003) aE))))) (aW (bF 2 (c8 3 u5 (ai (ag 0) (ai (eI 1) (ai (ag 1) aE))))) (aW (bF 3 (c8 3 u5 (ai (ag 0) (ai (eI 8) (ai (ag 1) aE))))) (aW (jf (gp (e2 lp (e2 eK (e2 bH (c8 3 kI (ai (c8 2 mS (ai (ag 0) (ai (eI 20) aE))) (ai (eI 1) (ai (eI 4000037) aE)))) (eI 0)) (eI 8)) (eI 3))) (bF 3 (c8 1 yf (ai (c8 3 kI (ai (c8 2 mS (ai (ag 0) (ai (eI 21) aE))) (ai (eI 50) (ai (eI 5000011) aE)))) aE))) cV) (aW (bF 4 (c8 2 tj (ai (ag 2) (ai (bD l_ (ai (c8 1 tm (ai (ag 2) aE)) aE)) aE)))) (aW (jf (ID (gp (c8 2 (j6 40) (ai (c8 1 qO (ai (ag 2) aE)) (ai (ag 4) aE))))) (d8 (eC (.bl false))) cV) (aW (jf (ID (gp (c8 2 (j6 40) (ai (c8 1 qO (ai (ag 3) aE)) (ai (c8 2 tj (ai (ag 3) (ai (bD l_ (ai (c8 1 tm (ai (ag 3) aE)) aE)) aE))) aE))))) (d8 (eC (.bl false))) cV) (d8 (c8 2 (j6 40) (ai (c8 1 qO (ai (ag 2) aE)) (ai (ag 4) aE)))))))))))
def f_q31:List W->List ao->R W:=fI 5 JA
theorem LI(F:kS K "law" "law" pL f fd)(B:Bl mg)(Br:cE P w K mg base 4 "_law_any" 3 u5)(nH:cE P w K mg base 1 "_law_cell" 2 mS)(lH:cE P w K mg base 2 "_law_draws" 3 kI)(F2:cE P w K mg base 2 "_law_ladder" 1 yf)(Bm:cE P w K mg base 1 "_law_met" 1 tm)(FR:cE P w K mg base 3 "_law_pool" 3 x8)(tQ:cE P w K mg base 40 "_law_same" 2 (j6 40))(Bt:cE P w K mg base 2 "_law_unlike" 2 tj)(yL:cE P w K mg base 4 "unlike_rows" 1 qO):eV P w K mg base (kD P w) 41 f fd EU (ly K mg 1 f_q31):=
 dA (k:=40) F qp rfl fun gJ A outer s H E hr=>(aw (sS 1 qp (cz FR hr (by omega) (ac (cz nH hr (by omega) (ac (af 0) (ac ay au))) (ac ay (ac ay au))))) (aw (sS 2 qp (cz Br hr (by omega) (ac (af 0) (ac ay (ac (af 1) au))))) (aw (sS 3 qp (cz Br hr (by omega) (ac (af 0) (ac ay (ac (af 1) au))))) (aw (eO (cH (jr hr) (bJ eE (bz (cz lH hr (by omega) (ac (cz nH hr (by omega) (ac (af 0) (ac ay au))) (ac ay (ac ay au)))) ay) ay) ay) (aU (sS 3 qp (cz F2 hr (by omega) (ac (cz lH hr (by omega) (ac (cz nH hr (by omega) (ac (af 0) (ac ay au))) (ac ay (ac ay au)))) au)))) db) (aw (sS 4 qp (cz Bt hr (by omega) (ac (af 2) (ac (cv vZ B.sorted kR (ac (cz Bm hr (by omega) (ac (af 2) au)) au)) au)))) (aw (eO (vE (np (cz tQ hr (by omega) (ac (cz yL hr (by omega) (ac (af 2) au)) (ac (af 4) au))))) (aU (bT xp)) db) (aw (eO (vE (np (cz tQ hr (by omega) (ac (cz yL hr (by omega) (ac (af 3) au)) (ac (cz Bt hr (by omega) (ac (af 3) (ac (cv vZ B.sorted kR (ac (cz Bm hr (by omega) (ac (af 3) au)) au)) au))) au))))) (aU (bT xp)) db) (aU (bT (cz tQ hr (by omega) (ac (cz yL hr (by omega) (ac (af 2) au)) (ac (af 4) au))))))))))))
end
theorem LJ{α:Type}(ns:List α)(hl:0<ns.length)(k:Int):∃c∈ns,qb ns (k%((ns.length:Nat):Int))=some c:=by
 have h0:0<=k%((ns.length:Nat):Int):=ii _ (by omega)
 have h1:k%((ns.length:Nat):Int)<ns.length:=kn _ (by omega)
 obtain⟨m,hm⟩:=lN h0
 rw[hm]at h1 ⊢
 have h2:m<ns.length:=by omega
 exact⟨ns[m],fq _,dO (by simp[h2])⟩
theorem pM{n:Nat}{st:List ao}{ns:List Int}(h:st[n]?=some (.ro (ns.map W.int)))(k:Int):∃c,mS [.loc n,.int k] st=.ok (.int c) st:=by
 by_cases hn:ns=[]
 ·subst hn
  refine⟨0,?_⟩
  apply nR;apply zE;apply nB
  ·(repeat' (first|with_reducible exact il (rp h)|walk_at "ev1"))
  ·(walk_at "evs")
 ·have hl:0<ns.length:=eS.mpr hn
  obtain⟨c,hc,e⟩:=LJ (ns.map W.int) (by simpa using hl) k
  obtain⟨c,_,rfl⟩:=aS.mp hc
  refine⟨c,?_⟩
  apply nR;apply IP
  ·apply nC
   ·(repeat' (first|with_reducible exact il (rp h)|walk_at "ev1"))
    rw[ba,al];omega
   ·(walk_at "evs")
  ·(repeat' (first|with_reducible exact il (rp h)|with_reducible exact lB (rp h) e|walk_at "ev1"))
   rw[al];omega
theorem EY(c k s:Int)(hk:-(2^64)<k/\k<2^64)(st:List ao):∃r,0<=r/\u3 [.int c,.int k,.int s] st=.ok (.int r) st:=by
 have big:∀q:Int,0<=q%2147483647/\q%2147483647<2147483647:=fun q=>⟨ii _ (by decide),kn _ (by decide)⟩
 refine⟨(((c+7*k*k+13*k+s)*69621%2147483647*((c+7*k*k+13*k+s)*69621%2147483647/1009+3)+31*k+s)%2147483629*48271)%1000000007,ii _ (by decide),?_⟩
 apply nR;apply IP
 ·(walk_at "evs")<;>first|exact .inl (by decide)|exact .inr (by decide)|exact .inr hk
 ·(walk_at "evs")<;>first|exact .inl (by decide)|exact .inr (by decide)|exact .inl (by have:=big ((c+7*k*k+13*k+s)*69621);omega)
theorem nE(c s:Int)(m:Nat)(hm:m<=1000)(st:List ao):∃ds:List Int,ds.length=m/\(∀d∈ds,0<=d)/\kI [.int c,.int m,.int s] st=.ok (.loc st.length) (st++[.lst (ds.map W.int)]):=by
 suffices hh:gH (ql fun w bG=>∃j x,w=.loc (st.length+j)/\bG=st++x/\j=0/\∃ds:List Int,x=[.lst (ds.map W.int)]/\ds.length=m/\∀d∈ds,0<=d) (Jm ([W.int c,.int m,.int s].map some++List.replicate (6-3) none) st) by
  obtain⟨j,x,⟨rfl,ds,rfl,h1,h2⟩,e⟩:=jQ hh
  exact⟨ds,h1,h2,e⟩
 apply aI
 ·(walk_at "evs")
 apply aI
 ·(walk_at "evs")
 have main:∀r0:Int,gH (ql fun w bG=>∃j x,w=.loc (st.length+j)/\bG=st++x/\j=0/\∃ds:List Int,x=[.lst (ds.map W.int)]/\ds.length=m/\∀d∈ds,0<=d)
   (aW (e_ (bA (ai (ag 1) aE)) (eJ 5) (jf (gp (e2 BY (ag 4) (eI 0))) (aW (fy (qI dH (ag 3) (ai (e2 eK (ag 4) (eI 64)) aE))) (bF 4 (e2 pi (ag 4) (eI 64)))) (fy (qI dH (ag 3) (ai (c8 3 u3 (ai (ag 0) (ai (ag 5) (ai (ag 2) aE)))) aE))))) (d8 (ag 3))
   [some (.int c),some (.int m),some (.int s),some (.loc st.length),some (.int r0),none] (st++[.lst []])):=by
  intro r0
  refine eu (fun i ρ bG=>∃(r:Int) (o:Option W) (ds:List Int),ρ=[some (.int c),some (.int m),some (.int s),some (.loc st.length),some (.int r),o]/\bG=st++[.lst (ds.map W.int)]/\ds.length=i/\∀d∈ds,0<=d) (eG (by(walk_at "evs");rfl) (by omega))
   ⟨r0,none,[],rfl,rfl,rfl,by simp⟩ (fun _ _ _ _=>trivial) ?_ ?_
  ·rintro i w ρ bG hw ⟨r,o,ds,rfl,rfl,hd,h⟩
   obtain⟨hi,rfl⟩:=gF hw
   refine⟨_,rfl,?_⟩
   have iT:(st++[ao.lst (ds.map W.int)])[st.length]?=some (.lst (ds.map W.int)):=by rw[cu];rfl
   have hsh:(ds.map W.int).length<jE:=by rw[al,hd];show i<1000000;omega
   by_cases hr:0<r
   ·apply lD
    ·(walk_at "evs");simpa using hr
    apply aI
    ·(repeat' (first|with_reducible exact fS iT|with_reducible exact uY iT hsh|walk_at "ev1"))
    rw[fj]
    apply fY
    ·(walk_at "evs")
    ·refine⟨_,_,rfl,r/64,_,ds++[r%64],rfl,by simp,by simp[hd],fun d hd'=>?_⟩
     rcases aQ.mp hd' with hd'|hd'
     ·exact h d hd'
     ·rw[bL.mp hd'];exact ii _ (by decide)
   ·obtain⟨q,hq,e⟩:=EY c (0+i) s (by omega) (st++[ao.lst (ds.map W.int)])
    apply kH
    ·(walk_at "evs");simpa using hr
    apply fY
    ·(repeat' (first|with_reducible exact fS iT|with_reducible exact uY iT hsh|with_reducible exact e|walk_at "ev1"))
    ·refine⟨_,_,rfl,r,_,ds++[q],rfl,by rw[fj];simp,by simp[hd],fun d hd'=>?_⟩
     rcases aQ.mp hd' with hd'|hd'
     ·exact h d hd'
     ·rw[bL.mp hd'];exact hq
  ·rintro ρ bG ⟨r,o,ds,rfl,rfl,hd,h⟩
   apply gw
   ·(walk_at "evs")
   ·exact⟨_,_,rfl,0,_,rfl,rfl,rfl,ds,rfl,by rw[hd];simpa using bZ 0 m,h⟩
 by_cases hc:(10:Int)^18<=c
 ·apply aI
  ·apply nB
   ·(walk_at "evs")<;>simpa using hc
   ·(walk_at "evs")
  ·exact main c
 ·apply aI
  ·apply nC
   ·(walk_at "evs")<;>simpa using hc
   ·(walk_at "evs")
  ·exact main 0
abbrev LL:List Nat:=[65,66,67,68,69,70,71,72,73,74,75,76,77,78,79,80,81,82,83,84,85,86,87,88,89,90,97,98,99,100,101,102,103,104,105,106,107,108,109,110,111,112,113,114,115,116,117,118,119,120,121,122]
theorem HB(c s:Int)(m:Nat)(hm:m<=52)(st:List ao):∃l:List Nat,l.length=m/\l.Nodup/\(∀d∈l,d∈LL)/\x8 [.int c,.int m,.int s] st=.ok (.str l) st:=by
 suffices hh:gH (ql fun w bG=>(∃x,bG=st++x)/\undWs st.length [w]=true/\∃l:List Nat,w=.str l/\l.length=m/\l.Nodup/\∀d∈l,d∈LL) (Jn ([W.int c,.int m,.int s].map some++List.replicate (7-3) none) st) by
  obtain⟨w,⟨l,rfl,h1,h2,h3⟩,e⟩:=jc hh
  exact⟨l,h1,h2,h3,e⟩
 obtain⟨ds,h1,h2,e⟩:=nE c s m (by omega) st
 apply aI
 ·(walk_at "evs")
 apply aI
 ·(walk_at "evs")
 have iT:lstOf (st++[ao.lst (ds.map W.int)]) st.length=some (ds.map W.int):=aO (by rw[cu];rfl)
 refine eu (fun i ρ bG=>∃(r f:List Nat) (o o2:Option W),ρ=[some (.int c),some (.int m),some (.int s),some (.str r),some (.str f),o,o2]/\bG=st++[.lst (ds.map W.int)]/\f.length=i/\r.length+i=52/\(f++r).Perm LL) (eW (by(repeat' (first|with_reducible exact e|walk_at "ev1"))) iT)
  ⟨LL,[],none,none,rfl,rfl,rfl,rfl,.refl _⟩ (fun i ρ bG h=>?_) ?_ ?_
 ·obtain⟨r,f,o,o2,rfl,rfl,_⟩:=h
  exact iT
 ·rintro i w ρ bG hw ⟨r,f,o,o2,rfl,rfl,hf,hr,hfl⟩
  obtain⟨d,hd,rfl⟩:∃d,ds[i]?=some d/\w=.int d:=by
   simp only[ar,aY]at hw
   obtain⟨d,h1,rfl⟩:=hw
   exact⟨d,h1,rfl⟩
  have hi:i<m:=by rw[<- h1];exact(aa.mp hd).1
  obtain⟨q,hq,eq⟩:=gy (q:=d) (n:=r.length) (by omega)
  have hL:r.length<=jE:=by show _<=1000000;omega
  have hLf:f.length<=jE:=by show _<=1000000;omega
  have hat:qb r (d%(r.length:Int))=some r[q]:=by rw[eq];exact dO (by simp[hq])
  refine⟨_,rfl,?_⟩
  apply aI
  ·(repeat' (first|with_reducible exact zH hL|walk_at "ev1"))
   show 0<(r.length:Int);omega
  apply aI
  ·have ha:f.length+[r[q]].length<=jE:=by show _+1<=1000000;omega
   (repeat' (first|with_reducible exact IR hL hat|with_reducible exact Em ha|walk_at "ev1"))
  apply fY
  ·(repeat' (first|with_reducible exact N8 hL|walk_at "ev1"))
   rw[eq,rq (by omega),show((q:Int)+1)=((q+1:Nat):Int)from rfl,pK (by omega),bp,fm]
   show _<=1000000;omega
  ·refine⟨_,_,rfl,_,_,_,_,rfl,rfl,by simp[hf],?_,?_⟩
   ·rw[eq,rq (by omega),show((q:Int)+1)=((q+1:Nat):Int)from rfl,pK (by omega),aH,bp,fm]
    omega
   ·rw[eq,rq (by omega),show((q:Int)+1)=((q+1:Nat):Int)from rfl,pK (by omega)]
    refine List.Perm.trans ?_ hfl
    rw[aA]
    refine List.Perm.append_left f ?_
    have e:r=r.take q++r[q]::r.drop (q+1):=by rw[<- d7 hq,ng]
    have e2:(r[q]::(r.take q++r.drop (q+1))).Perm r:=(List.perm_middle.symm).trans (by rw[<- e])
    exact e2
 ·rintro ρ bG ⟨r,f,o,o2,rfl,rfl,hf,hr,hfl⟩
  apply gw
  ·(walk_at "evs")
  ·exact⟨_,_,rfl,⟨_,rfl⟩,rfl,f,rfl,by rw[hf];simpa using h1,(dg.mp (hfl.nodup_iff.mpr (by decide))).1,fun d hd=>hfl.mem_iff.mp (fU _ hd)⟩
theorem jd{st s:List ao}{p:Nat}{c:ao}(h:st <+: s)(hp:st.length<=p):st <+: s.set p c:=by
 obtain⟨x,rfl⟩:=h
 rw[show p=st.length+(p-st.length) by omega,jg]
 exact aC _ _
theorem nX{st s y:List ao}(h:st <+: s):st <+: s++y:=h.trans (aC _ _)
theorem pre_get{st s:List ao}{i:Nat}{c:ao}(h:st <+: s)(e:st[i]?=some c):s[i]?=some c:=by
 obtain⟨x,rfl⟩:=h
 exact aG e
theorem kW{s:List ao}{p:Nat}{c d:ao}(h:s[p]?=some d):(s.set p c)[p]?=some c:=by
 rw[bg (aa.mp h).1]
theorem zS{s:List ao}{p q:Nat}{c:ao}(h:p≠q):(s.set p c)[q]?=s[q]?:=a_ h
theorem LK{s:List ao}{p:Nat}{c:ao}(h:s[p]?=some c):p<s.length:=(aa.mp h).1
theorem bn{s:List ao}{c:ao}:(s++[c])[s.length]?=some c:=by rw[cu];rfl
def mZ(l:List Int):List W:=l.map W.int
theorem f_{s:List ao}{p i:Nat}{ds:List Int}{d:Int}(h:s[p]?=some (.lst (mZ ds)))(e:ds[i]?=some d):bH (.loc p) (.int i) s=.ok (.int d) s:=lB (aO h) (dO (by rw[mZ,ar,e];rfl))
theorem EZ(d:Int)(st:List ao):∃c n:Nat,c<=5/\1<=n/\n<=9/\n*n*2^c<=200/\x9 [.int d] st=.ok (.tup [.int c,.int n]) st:=by
 suffices hh:gH (ql fun w bG=>(∃x,bG=st++x)/\undWs st.length [w]=true/\∃c n:Nat,w=.tup [.int c,.int n]/\c<=5/\1<=n/\n<=9/\n*n*2^c<=200) (Jo ([W.int d].map some++List.replicate (2-1) none) st) by
  obtain⟨w,⟨c,n,rfl,h1,h2,h3,h4⟩,e⟩:=jc hh
  exact⟨c,n,h1,h2,h3,h4,e⟩
 apply aI
 ·(walk_at "evs")
 have hd:d%12=0\/d%12=1\/d%12=2\/d%12=3\/d%12=4\/d%12=5\/d%12=6\/d%12=7\/d%12=8\/d%12=9\/d%12=10\/d%12=11:=by
  obtain⟨m,hm,em⟩:=gy (q:=d) (n:=12) (by decide)
  rw[show d%12=_ from em]
  clear em
  revert m
  decide
 have hm:e2 eK (ag 0) (eI 12) (([W.int d].map some++List.replicate (2-1) none).set 1 (some (.tup [.tup [.int 0,.int 1],.tup [.int 0,.int 5],.tup [.int 0,.int 9],.tup [.int 1,.int 2],.tup [.int 1,.int 4],.tup [.int 1,.int 6],.tup [.int 2,.int 1],.tup [.int 2,.int 3],.tup [.int 2,.int 5],.tup [.int 3,.int 2],.tup [.int 3,.int 4],.tup [.int 5,.int 2]]))) st=.ok (.int (d%12)) st:=bE (ak rfl) cR (jt (by decide))
 have fin:∀(c n:Nat),c<=5->1<=n->n<=9->n*n*2^c<=200->qb [W.tup [.int 0,.int 1],.tup [.int 0,.int 5],.tup [.int 0,.int 9],.tup [.int 1,.int 2],.tup [.int 1,.int 4],.tup [.int 1,.int 6],.tup [.int 2,.int 1],.tup [.int 2,.int 3],.tup [.int 2,.int 5],.tup [.int 3,.int 2],.tup [.int 3,.int 4],.tup [.int 5,.int 2]] (d%12)=some (.tup [.int c,.int n]) ->
   gH (ql fun w bG=>(∃x,bG=st++x)/\undWs st.length [w]=true/\∃c n:Nat,w=.tup [.int c,.int n]/\c<=5/\1<=n/\n<=9/\n*n*2^c<=200) (d8 (e2 bH (ag 1) (e2 eK (ag 0) (eI 12))) (([W.int d].map some++List.replicate (2-1) none).set 1 (some (.tup [.tup [.int 0,.int 1],.tup [.int 0,.int 5],.tup [.int 0,.int 9],.tup [.int 1,.int 2],.tup [.int 1,.int 4],.tup [.int 1,.int 6],.tup [.int 2,.int 1],.tup [.int 2,.int 3],.tup [.int 2,.int 5],.tup [.int 3,.int 2],.tup [.int 3,.int 4],.tup [.int 5,.int 2]]))) st):=fun c n h1 h2 h3 h4 e=>by
  apply gw
  ·exact bE (ak rfl) hm (dq e)
  ·exact⟨_,_,rfl,⟨[],by simp⟩,rfl,c,n,rfl,h1,h2,h3,h4⟩
 rcases hd with h|h|h|h|h|h|h|h|h|h|h|h
 ·exact fin 0 1 (by decide) (by decide) (by decide) (by decide) (by rw[h];rfl)
 ·exact fin 0 5 (by decide) (by decide) (by decide) (by decide) (by rw[h];rfl)
 ·exact fin 0 9 (by decide) (by decide) (by decide) (by decide) (by rw[h];rfl)
 ·exact fin 1 2 (by decide) (by decide) (by decide) (by decide) (by rw[h];rfl)
 ·exact fin 1 4 (by decide) (by decide) (by decide) (by decide) (by rw[h];rfl)
 ·exact fin 1 6 (by decide) (by decide) (by decide) (by decide) (by rw[h];rfl)
 ·exact fin 2 1 (by decide) (by decide) (by decide) (by decide) (by rw[h];rfl)
 ·exact fin 2 3 (by decide) (by decide) (by decide) (by decide) (by rw[h];rfl)
 ·exact fin 2 5 (by decide) (by decide) (by decide) (by decide) (by rw[h];rfl)
 ·exact fin 3 2 (by decide) (by decide) (by decide) (by decide) (by rw[h];rfl)
 ·exact fin 3 4 (by decide) (by decide) (by decide) (by decide) (by rw[h];rfl)
 ·exact fin 5 2 (by decide) (by decide) (by decide) (by decide) (by rw[h];rfl)
theorem E0{st:List ao}{n:Nat}{ls:List (List Nat)}(h:lstOf st n=some (ls.map W.str))(hl:ls.length<64):qj [.loc n] st=.ok (.loc st.length) (st++[.lst ((kE ls).map W.str)]):=by
 show nP [.loc n] st=_
 unfold nP
 simp only[h,cJ,uN]
 rw[ax hl]
theorem yg{a b:List (List Nat)}(h:a.Perm b):(a.map List.length).sum=(b.map List.length).sum:=by
 induction h with
 |nil=>rfl
 |cons x _ ih=>simp only[aR,oG,ih]
 |swap x y l=>simp only[aR,oG];omega
 |trans _ _ ih1 ih2=>rw[ih1,ih2]
theorem yh(l:List Nat):(((l.map fun c=>[c])).map List.length).sum=l.length:=by
 induction l with
 |nil=>rfl
 |cons a r ih=>simp only[aR,oG,bu,ih,dU];omega
def Cq(l:List Nat):List Nat:=om [] (kE (l.map fun c=>[c]))
theorem HC(l:List Nat):(Cq l).length=l.length:=by
 unfold Cq;rw[qc,List.length_flatten,yg (ik _),yh]
theorem OK(l:List Nat):(Cq l).Perm l:=by
 unfold Cq;rw[qc]
 have h:(kE (l.map fun c=>[c])).flatten.Perm (l.map fun c=>[c]).flatten:=(ik _).flatten
 refine h.trans (.of_eq ?_)
 induction l with
 |nil=>rfl
 |cons a r ih=>
  have ih':=ih ((ik _).flatten)
  simp only[aR,List.flatten_cons,ih',i_,ig]
theorem HD{fe:FE}{ρ:bS}{st s1:List ao}{n:Nat}{l:List Nat}(h:fe ρ st=.ok (.loc n) s1)(hc:lstOf s1 n=some ((l.map fun c=>[c]).map W.str))(hl:l.length<64) :
  NP su (eC (.str [])) (ai (bD qj (ai fe aE)) aE) ρ st=.ok (.str (Cq l)) (s1++[.lst ((kE (l.map fun c=>[c])).map W.str)]):=by
 have hs:=E0 hc (by simpa using hl)
 have hcell2:lstOf (s1++[ao.lst ((kE (l.map fun c=>[c])).map W.str)]) s1.length=some ((kE (l.map fun c=>[c])).map W.str):=aO bn
 have hj:=K7 (sep:=[]) hcell2 (by rw[yg (ik _),yh];show _<=1000000;simp;omega)
 exact N3 cR rfl (am (bP (am h aM) hs) aM) hj
theorem E1(gr:List Nat)(c:Nat)(hp:gr.length<=50)(hc:c<=gr.length)(st:List ao):x_ [.str gr,.int c] st=.ok (.str (Cq (gr.take c))) st:=by
 have hL:gr.length<=jE:=by show _<=1000000;omega
 have hcm:dD [none,some 0] (bA (ai (ag 1) aE)) (eJ 0) ij (e2 bH (ag 1) (ag 0)) [some (.str gr),some (.int c)] st=.ok (.loc st.length) (st++[.lst (((gr.take c).map fun c=>[c]).map W.str)]):=by
  have:=g9 (fi:=bA (ai (ag 1) aE)) (f:=eJ 0) (el:=e2 bH (ag 1) (ag 0)) (cap:=[none,some 0]) (ρ:=[some (.str gr),some (.int c)]) (st:=st) (st1:=st) (ws:=cx 0 c) (ck:=none) (fun w=>match w with|.int i=>.str [gr.getD i.toNat 0]|_=>.non)
   (by
    have:=eG (fs:=ai (ag 1) aE) (ρ:=[some (.str gr),some (.int c)]) (st:=st) (st1:=st) (q:=(c:Int)) (am (ak rfl) aM) (by omega)
    rw[bB]at this
    exact this) (by rw[bZ];show _<=1000000;omega) trivial ?_
  ·have e:(cx 0 c).map (fun w=>match w with|.int i=>W.str [gr.getD i.toNat 0]|_=>.non)=((gr.take c).map fun c=>[c]).map W.str:=by
    refine lO (by simp[bZ];omega) fun i h1 h2=>?_
    have hi:i<c:=by simpa[bZ]using h1
    rw[d_,d_,d_,List.getElem_take]
    unfold cx
    rw[d_,ko]
    show W.str [gr.getD ((0:Int)+(i:Int)).toNat 0]=_
    rw[show((0:Int)+(i:Int)).toNat=i by omega,aZ,ae (by omega)];rfl
   rw[this,e]
  ·intro w hw
   obtain⟨i,hi,rfl⟩:=nV hw
   refine⟨[some (.int (0+(i:Int))),some (.str gr)],rfl,bE (ak rfl) (ak rfl) ?_⟩
   rw[show((0:Int)+(i:Int))=(i:Int) by omega]
   have e2:qb gr (i:Int)=some (gr.getD i 0):=dO (by rw[aZ,ae (by omega)];rfl)
   rw[IR hL e2]
   simp
 have dw:(gr.take c).length=c:=by rw[bp];omega
 have hj:=HD hcm (aO bn) (by omega)
 refine sW (N:=2) (ws:=[.str gr,.int c]) (body:=Jp) ?_ rfl
 apply gw
 ·exact hj
 ·exact⟨_,_,rfl,rfl,_,by rw[aA]⟩
theorem LM{fs:FA}{ρ:bS}{st st1:List ao}{i j k:Int}(h:fs ρ st=.ok [.int i,.int j,.int k] st1)(hq:-(2^60)<=i/\i<2^60/\-(2^60)<=j/\j<2^60/\0<k/\k<=1000):vO fs ρ st=.ok (qK i k (oq i j k),none) st1:=by
 unfold vO;rw[h];simp only[R.bind_ok];rw[ax hq]
theorem E2{i k:Int}{n m:Nat}{w:W}(h:(qK i k n)[m]?=some w):m<n/\w=.int (i+m*k):=by
 unfold qK at h
 obtain⟨h1,h2⟩:=aa.mp h
 simp only[al,cM]at h1
 exact⟨h1,by rw[<- h2];simp⟩
theorem Cr(i k:Int)(n:Nat):(qK i k n).length=n:=by simp[qK]
theorem Cs{n0:Nat}{st:List ao}{ns:List Int}(h0:st[n0]?=some (.ro (ns.map W.int)))(a:Int)(og:Nat)(Ih:Int)(hm:og<=1000) :
  ∃(j:Nat) (x:List ao) (ds:List Int),ds.length=og/\(∀d∈ds,0<=d)/\x[j]?=some (.lst (mZ ds))/\ya [.loc n0,.int a,.int og,.int Ih] st=.ok (.loc (st.length+j)) (st++x):=by
 suffices hh:gH (ql fun w bG=>∃j x,w=.loc (st.length+j)/\bG=st++x/\∃ds:List Int,ds.length=og/\(∀d∈ds,0<=d)/\x[j]?=some (.lst (mZ ds))) (Jq ([W.loc n0,.int a,.int og,.int Ih].map some++List.replicate (6-4) none) st) by
  obtain⟨j,x,⟨ds,h1,h2,h3⟩,e⟩:=jQ hh
  exact⟨j,x,ds,h1,h2,h3,e⟩
 apply aI
 ·(walk_at "evs")
 refine eu (fun i ρ s=>∃(p:Nat) (ds:List Int) (o5:Option W),ρ=[some (.loc n0),some (.int a),some (.int og),some (.int Ih),some (.loc p),o5]/\st <+: s/\st.length<=p/\s[p]?=some (.lst (mZ ds))/\ds.length=min og (50*i)/\∀d∈ds,0<=d) (LM (i:=0) (j:=og) (k:=50) (st1:=st++[ao.lst []]) (by(walk_at "evs")) (by omega))
  ⟨st.length,[],none,rfl,aC _ _,aB _,bn,by simp,by simp⟩ (fun _ _ _ _=>trivial) ?_ ?_
 ·rintro i w ρ s hw ⟨p,ds,o5,rfl,hp,qR,hc,hl,CL⟩
  obtain⟨hi,rfl⟩:=E2 hw
  refine⟨_,rfl,?_⟩
  have hlt:(50:Int)*i<og:=by
   unfold oq at hi
   split at hi
   ·omega
   ·omega
  obtain⟨c,ec⟩:=pM (pre_get hp h0) (a+(0+(i:Int)*50)/50)
  obtain⟨mm,hmm,emm⟩:∃mm:Nat,mm=min 50 (og-50*i)/\zf [.int 50,.int ((og:Int)-(0+(i:Int)*50))] s=.ok (.int mm) s:=by
   refine⟨min 50 (og-50*i),rfl,?_⟩
   show R.ok (W.int (if (og:Int)-(0+(i:Int)*50)<50 then(og:Int)-(0+(i:Int)*50)else 50)) s=_
   congr 2
   split<;>omega
  obtain⟨es,hes,hep,ee⟩:=nE c (Ih+1009*(0+(i:Int)*50)) mm (by omega) s
  have ad:=zF (st:=s++[ao.lst (es.map W.int)]) (pre_get (aC _ _) hc) bn (by simp[mZ];show _<=1000000;omega)
  have cm:xq 1009 (0+(i:Int)*50):=.inl (by decide)
  apply fY
  ·(walk_at "evs")
   all_goals first|exact cm|exact(by decide)
  ·refine⟨_,_,rfl,_,ds++es,_,rfl,nX (nX hp),?_,?_,?_,?_⟩
   ·have:=LK hc;simp;omega
   ·rw[bn];simp[mZ]
   ·rw[aH];omega
   ·intro d hd
    rcases aQ.mp hd with z|z
    ·exact CL d z
    ·exact hep d z
 ·rintro ρ s ⟨p,ds,o5,rfl,⟨x,rfl⟩,qR,hc,hl,CL⟩
  rw[Cr]at hl
  have hmn:og<=50*oq 0 og 50:=by
   unfold oq
   split
   ·omega
   ·omega
  apply gw
  ·(walk_at "evs")
  ·refine⟨_,_,rfl,p-st.length,x,by rw[show st.length+(p-st.length)=p by omega],rfl,ds,by omega,CL,?_⟩
   rw[b8 qR]at hc
   exact hc
theorem E3(g l r:Nat)(st:List ao):∃k:Nat,u4 [.int g,.int l,.int r] st=.ok (.int k) st:=by
 by_cases h0:g=0
 ·subst h0
  refine⟨l+r,?_⟩
  apply jX
  apply gi
  ·(walk_at "evs")
  apply e7
  ·(walk_at "evs")
  ·exact⟨_,_,rfl,rfl,rfl⟩
 ·have t0:((g:Int)==0)=false:=by rw[ba];omega
  by_cases h1:g=1
  ·subst h1
   refine⟨if r>l then r else l,?_⟩
   have mx:DL [.int l,.int r] st=.ok (.int ((if r>l then r else l:Nat):Int)) st:=by
    show R.ok (W.int (if (r:Int)>(l:Int)then(r:Int)else(l:Int))) st=_
    congr 2
    split<;>split<;>omega
   apply jX
   apply cX
   ·(walk_at "evs")
   apply dP
   apply gi
   ·(walk_at "evs")
   apply e7
   ·(walk_at "evs")
   ·exact⟨_,_,rfl,rfl,rfl⟩
  ·have t1:((g:Int)==1)=false:=by rw[ba];omega
   by_cases h2:g=2
   ·subst h2
    refine⟨l,?_⟩
    apply jX
    apply cX
    ·(walk_at "evs")
    apply dP
    apply cX
    ·(walk_at "evs")
    apply dP
    apply gi
    ·(walk_at "evs")
    apply e7
    ·(walk_at "evs")
    ·exact⟨_,_,rfl,rfl,rfl⟩
   ·have t2:((g:Int)==2)=false:=by rw[ba];omega
    refine⟨r,?_⟩
    apply jX
    apply cX
    ·(walk_at "evs")
    apply dP
    apply cX
    ·(walk_at "evs")
    apply dP
    apply cX
    ·(walk_at "evs")
    apply dP
    apply gw
    ·(walk_at "evs")
    ·exact⟨_,_,rfl,rfl,rfl⟩
section
variable{cap:List (Option Nat)}{ρ:bS}{st:List ao}{el:FE}{fs:FA}{n:Nat}
theorem HE{β:Type}(V:β->W)(Pb:Nat->β->Prop)(hr:fs ρ st=.ok [.int n] st)(hn:n<=100000)(h:∀i:Nat,i<n->∃b,Pb i b/\el ((pD cap ρ).set 0 (some (.int i))) st=.ok (V b) st) :
  ∃r:List β,r.length=n/\(∀i b,r[i]?=some b->Pb i b)/\dD cap (bA fs) (eJ 0) ij el ρ st=.ok (.loc st.length) (st++[.lst (r.map V)]):=by
 let f:Fin n->β:=fun i=>Classical.choose (h i i.2)
 have hf:∀i:Fin n,Pb i (f i)/\el ((pD cap ρ).set 0 (some (.int (i:Nat)))) st=.ok (V (f i)) st:=fun i=>Classical.choose_spec (h i i.2)
 let Y:W->W:=fun w=>match w with
  |.int z=>if hz:z.toNat<n then V (f ⟨z.toNat,hz⟩)else .non
  |_=>.non
 have ir:bA fs ρ st=.ok (cx 0 n,none) st:=by
  have:=eG hr (by omega)
  rw[bB]at this
  exact this
 have hc:=g9 (fi:=bA fs) (f:=eJ 0) (el:=el) (cap:=cap) (ρ:=ρ) Y ir (by rw[bZ];show _<=1000000;omega) trivial fun w hw=>by
  obtain⟨i,hi,rfl⟩:=nV hw
  refine⟨_,rfl,?_⟩
  rw[show((0:Int)+(i:Int))=(i:Int) by omega]
  show _=R.ok (if hz:(i:Int).toNat<n then V (f ⟨(i:Int).toNat,hz⟩)else .non) st
  rw[dif_pos (show(i:Int).toNat<n by omega)]
  exact(hf ⟨i,hi⟩).2
 refine⟨List.ofFn f,by simp,fun i b hb=>?_,?_⟩
 ·obtain⟨h1,h2⟩:=aa.mp hb
  rw[List.getElem_ofFn]at h2
  rw[<- h2]
  exact(hf ⟨i,by simpa using h1⟩).1
 ·rw[hc]
  have e:(cx 0 n).map Y=(List.ofFn f).map V:=by
   refine lO (by simp[bZ]) fun i h1 h2=>?_
   have hi:i<n:=by simpa[bZ]using h1
   rw[d_,d_,List.getElem_ofFn]
   unfold cx
   rw[d_,ko,show((0:Int)+(i:Int))=(i:Int) by omega]
   show(if hz:(i:Int).toNat<n then V (f ⟨(i:Int).toNat,hz⟩)else .non)=_
   rw[dif_pos (show(i:Int).toNat<n by omega)]
  rw[e]
theorem tq{β:Type}(V:β->W)(Pb:Nat->β->Prop)(hr:fs ρ st=.ok [.int n] st)(hn:n<=100000)(h:∀i:Nat,i<n->∃b,Pb i b/\el ((pD cap ρ).set 0 (some (.int i))) st=.ok (V b) st) :
  ∃r:List β,r.length=n/\(∀i b,r[i]?=some b->Pb i b)/\bD dJ (ai (dD cap (bA fs) (eJ 0) ij el) aE) ρ st=.ok (.tup (r.map V)) (st++[.lst (r.map V)]):=by
 obtain⟨r,h1,h2,e⟩:=HE (cap:=cap) (el:=el) V Pb hr hn h
 exact⟨r,h1,h2,bP (am e aM) (gI (aO bn))⟩
end
structure Mc where
 nm:List Nat
 gd:List Bool
 tb:List (List (List Nat))
def iZ(r:List Nat):W:=.tup (r.map fun k=>W.int (k:Nat))
def fK(t:List (List Nat)):W:=.tup (t.map iZ)
def Mc.w(M:Mc):W:=.tup [.str M.nm,.tup (M.gd.map W.bl),.tup (M.tb.map fK)]
def CQ(n:Nat)(t:List (List Nat)):Prop:=t.length=n/\∀r∈t,r.length=n/\∀k∈r,k<n
structure qP(M:Mc)(n:Nat):Prop where
 gd:M.gd.length=n
 tb:M.tb.length=2^M.nm.length
 t:∀t∈M.tb,CQ n t
theorem HF(r:List Nat)(n:Nat):(iZ r).und n=true:=by
 unfold iZ W.und
 induction r with
 |nil=>rfl
 |cons x r ih=>simp only[aR,undWs,ih,b_];rfl
theorem A3(t:List (List Nat))(n:Nat):(fK t).und n=true:=by
 unfold fK W.und
 induction t with
 |nil=>rfl
 |cons x r ih=>simp only[aR,undWs,ih,b_];exact HF x n
theorem E4(t:List (List (List Nat)))(n:Nat):undWs n (t.map fK)=true:=by
 induction t with
 |nil=>rfl
 |cons x r ih=>simp only[aR,undWs,ih,b_];exact A3 x n
theorem A4(t:List Bool)(n:Nat):undWs n (t.map W.bl)=true:=by
 induction t with
 |nil=>rfl
 |cons x r ih=>simp only[aR,undWs,ih,b_];rfl
theorem qr(M:Mc)(n:Nat):M.w.und n=true:=by
 unfold Mc.w
 simp[W.und,undWs,E4,A4]
theorem Az{c:Nat}{st:List ao}(h:c<=100):xt (.int 1) (.int c) st=.ok (.int ((2^c:Nat):Int)) st:=by
 have:=jt (C:=fun i j=>0<=j/\j<=1000000/\i.natAbs<2^64) (f:=fun i j=>i*2^j.toNat) (p:=1) (q:=(c:Int)) (st:=st) ⟨by omega,by omega,by decide⟩
 rw[show xt (.int 1) (.int c) st=_ from this]
 simp
theorem oV{s:List ao}{p:Nat}{ws:List W}{y:W}(h:s[p]?=some (.lst ws))(hl:ws.length<1000000):dH (.loc p) [y] s=.ok .non (s.set p (.lst (ws++[y]))):=uY h hl
theorem Ct(nm:List Nat)(n dl:Nat)(ds:List Int)(st:List ao)(Bn:nm.length<=6)(hn:1<=n)(CV:n<=9)(hd:st[dl]?=some (.lst (mZ ds)))(Bs:4<=ds.length)(CL:∀d∈ds,0<=d) :
  ∃M:Mc,M.nm=nm/\qP M n/\yb [.str nm,.int n,.loc dl] st=.ok M.w st:=by
 suffices hh:gH (ql fun w bG=>(∃x,bG=st++x)/\undWs st.length [w]=true/\∃M:Mc,w=M.w/\M.nm=nm/\qP M n) (Jr ([W.str nm,.int n,.loc dl].map some++List.replicate (9-3) none) st) by
  obtain⟨w,⟨M,rfl,h1,h2⟩,e⟩:=jc hh
  exact⟨M,h1,h2,e⟩
 obtain⟨d0,d1,d2,d3,dr,rfl⟩:∃a b c d r,ds=a::b::c::d::r:=by
  match ds,Bs with
  |a::b::c::d::r,_=>exact⟨_,_,_,_,_,rfl⟩
 have dw:∀s:List ao,fQ [.str nm] s=.ok (.int nm.length) s:=fun s=>zH (by show _<=1000000;omega)
 have p2:2^nm.length<=64:=jo (by omega) Bn
 obtain⟨N,hN⟩:∃N,N=2^nm.length:=⟨_,rfl⟩
 have sh:∀s:List ao,xt (.int 1) (.int nm.length) s=.ok (.int N) s:=fun s=>by rw[hN];exact Az (by omega)
 rw[<- hN]at p2
 have ix0:∀s:List ao,st <+: s->bH (.loc dl) (.int 0) s=.ok (.int d0) s:=fun s h=>f_ (i:=0) (pre_get h hd) rfl
 have ix1:∀s:List ao,st <+: s->bH (.loc dl) (.int 1) s=.ok (.int d1) s:=fun s h=>f_ (i:=1) (pre_get h hd) rfl
 have ix2:∀s:List ao,st <+: s->bH (.loc dl) (.int 2) s=.ok (.int d2) s:=fun s h=>f_ (i:=2) (pre_get h hd) rfl
 have ix3:∀s:List ao,st <+: s->bH (.loc dl) (.int 3) s=.ok (.int d3) s:=fun s h=>f_ (i:=3) (pre_get h hd) rfl
 apply aI
 ·(walk_at "evs")
 refine eu (fun i ρ s=>∃(tb:List (List (List Nat))) (o4 o5 o6 o7:Option W),ρ=[some (.str nm),some (.int n),some (.loc dl),some (.loc st.length),o4,o5,o6,o7,none]/\st <+: s/\s[st.length]?=some (.lst (tb.map fK))/\tb.length=i/\∀t∈tb,CQ n t)
  (eG (q:=(N:Int)) (st1:=st++[ao.lst []]) (am (bE cR (bP (am (ak rfl) aM) (dw _)) (sh _)) aM) (by omega))
  ⟨[],none,none,none,none,rfl,aC _ _,bn,rfl,by simp⟩ (fun _ _ _ _=>trivial) ?_ ?_
 ·rintro i w ρ s hw ⟨tb,o4,o5,o6,o7,rfl,hp,hc,hl,ht⟩
  obtain⟨hi,rfl⟩:=gF hw
  refine⟨_,rfl,?_⟩
  have hl1:=dw s
  have i1:=ix1 s hp
  apply aI
  ·(walk_at "evs")
  refine nU (fun ρ s'=>∃(m:Nat) (o4:Option W),ρ=[some (.str nm),some (.int n),some (.loc dl),some (.loc st.length),o4,some (.int m),o6,o7,none]/\s'=s) ?_ ?_
  ·by_cases h0:nm.length=0
   ·have t0:((nm.length:Int)==0)=true:=by rw[dB];omega
    apply lD
    ·(walk_at "evs")
    apply fY
    ·(walk_at "evs")
    ·exact⟨_,_,rfl,1,_,rfl,rfl⟩
   ·have t0:((nm.length:Int)==0)=false:=by rw[ba];omega
    apply kH
    ·(walk_at "evs")
    apply fY
    ·(walk_at "evs")
    ·exact⟨_,_,rfl,((0+(i:Int))%2+d1%2).toNat,_,by rw[Int.toNat_of_nonneg (by omega)];rfl,rfl⟩
  rintro ρ s' ⟨m,o4,rfl,rfl⟩
  apply aI
  ·(walk_at "evs")
  refine eu (fun j ρ z=>∃(gk:List (List Nat)) (o7:Option W),ρ=[some (.str nm),some (.int n),some (.loc dl),some (.loc st.length),o4,some (.int m),some (.loc s'.length),o7,none]/\s' <+: z/\z[s'.length]?=some (.lst (gk.map iZ))/\gk.length=j/\∀r∈gk,r.length=n/\∀k∈r,k<n)
   (eG (q:=(n:Int)) (st1:=s'++[ao.lst []]) (by(walk_at "evs")) (by omega)) ⟨[],_,rfl,aC _ _,bn,rfl,by simp⟩ (fun _ _ _ _=>trivial) ?_ ?_
  ·rintro j w ρ z hw ⟨gk,o7,rfl,hz,hcz,hrl,hr⟩
   obtain⟨hj,rfl⟩:=gF hw
   refine⟨_,rfl,?_⟩
   obtain⟨g,hg,eg⟩:=gy (q:=d0) (n:=4) (by omega)
   have eg:d0%4=(g:Int):=eg
   obtain⟨r,hrn,hrb,er⟩:=tq (cap:=[none,some 1,some 5,some 7,some 2]) (ρ:=[some (.str nm),some (.int n),some (.loc dl),some (.loc st.length),o4,some (.int m),some (.loc s'.length),some (.int (0+(j:Int))),none]) (st:=z) (fs:=ai (ag 1) aE) (n:=n)
    (el:=bD zf (ai (e2 lY (ag 1) (eI 1)) (ai (e2 dR (c8 3 u4 (ai (e2 eK (e2 bH (ag 4) (eI 0)) (eI 4)) (ai (ag 3) (ai (ag 0) aE)))) (ag 2)) aE))) (fun k:Nat=>W.int (k:Nat)) (fun _ k=>k<n) (am (ak rfl) aM) (by omega) fun q hq=>by
     obtain⟨k,ek⟩:=E3 g j q z
     rw[<- eg,show(j:Int)=0+(j:Int) by omega]at ek
     refine⟨min (n-1) (k+m),by omega,?_⟩
     refine bP (am (bE (ak rfl) cR (jt trivial)) (am (bE (dm (am (bE (bE (ak rfl) cR (ix0 z (hp.trans hz))) cR (jt (by decide))) (am (ak rfl) (am (ak rfl) aM))) ek rfl) (ak rfl) fA) aM)) ?_
     show R.ok (W.int (if (k:Int)+(m:Int)<(n:Int)-1 then(k:Int)+(m:Int)else(n:Int)-1)) z=_
     congr 2
     split<;>omega
   have ap:=oV (y:=iZ r) (pre_get (s:=z++[.lst (r.map fun k:Nat=>W.int k)]) (aC _ _) hcz) (by rw[al];omega)
   apply fY
   ·exact gf (n_ (ak rfl) (fS hcz) (am er aM) ap)
   ·refine⟨_,_,rfl,gk++[r],_,rfl,jd (nX hz) (aB _),?_,by simp[hrl],?_⟩
    ·rw[kW (pre_get (aC _ _) hcz)];simp
    ·intro x hx
     rcases aQ.mp hx with y|y
     ·exact hr x y
     ·simp at y;subst y
      refine⟨hrn,fun k hk=>?_⟩
      obtain⟨q,hq⟩:=bw hk
      exact hrb q k hq
  ·rintro ρ z ⟨gk,o7,rfl,hz,hcz,hrl,hr⟩
   have hrl:gk.length=n:=by rw[hrl];simp[bZ]
   have hcp:=pre_get hz hc
   have ap:=oV (y:=fK gk) hcp (by rw[al,hl];omega)
   apply fY
   ·exact gf (n_ (ak rfl) (fS hcp) (am (bP (am (ak rfl) aM) (gI (aO hcz))) aM) ap)
   ·refine⟨_,_,rfl,tb++[gk],_,_,_,_,rfl,jd (hp.trans hz) (aB _),?_,by simp[hl],?_⟩
    ·rw[kW hcp];simp
    ·intro x hx
     rcases aQ.mp hx with y|y
     ·exact ht x y
     ·simp at y;subst y
      exact⟨hrl,hr⟩
 ·rintro ρ s ⟨tb,o4,o5,o6,o7,rfl,hp,hc,hl,ht⟩
  have hl:tb.length=N:=by rw[hl];simp[bZ]
  have i2:=ix2 s hp
  have i3:=ix3 s hp
  apply aI
  ·(walk_at "evs")
  refine nU (fun ρ s'=>∃k:Int,ρ=[some (.str nm),some (.int n),some (.loc dl),some (.loc st.length),o4,o5,o6,o7,some (.int k)]/\s'=s) ?_ ?_
  ·by_cases h1:d2%2=1
   ·have t1:(d2%2==1)=true:=dB.mpr h1
    have pn:(0:Int)<(n:Int):=by omega
    apply lD
    ·(walk_at "evs")
    apply fY
    ·(walk_at "evs")
     all_goals exact pn
    ·exact⟨_,_,rfl,_,rfl,rfl⟩
   ·have t1:(d2%2==1)=false:=ba.mpr h1
    apply kH
    ·(walk_at "evs")
    apply fY
    ·(walk_at "evs")
    ·exact⟨_,_,rfl,_,rfl,rfl⟩
  rintro ρ s' ⟨k,rfl,rfl⟩
  obtain⟨gd,hgl,_,eg⟩:=tq (cap:=[none,some 8]) (ρ:=[some (.str nm),some (.int n),some (.loc dl),some (.loc st.length),o4,o5,o6,o7,some (.int k)]) (st:=s') (fs:=ai (ag 1) aE) (n:=n)
   (el:=e2 lp (ag 0) (ag 1)) W.bl (fun _ _=>True) (am (ak rfl) aM) (by omega) fun q hq=>⟨_,trivial,bE (ak rfl) (ak rfl) (iu rfl)⟩
  obtain⟨x,rfl⟩:=hp
  apply gw
  ·exact fR (am (ak rfl) (am eg (am (bP (am (ak rfl) aM) (gI (aO (pre_get (aC _ _) hc)))) aM))) (cI rfl)
  ·exact⟨_,_,rfl,⟨_,by rw[aA]⟩,by simp only[undWs,b_];exact qr ⟨nm,gd,tb⟩ _,⟨nm,gd,tb⟩,rfl,rfl,hgl,by rw[hl,hN],ht⟩
theorem LN{n q:Nat}(h:q<n):Aq n (q:Int)=some q:=by
 unfold Aq
 rw[ax (by omega),ax (by omega)];simp
theorem wm{s:List ao}{p q:Nat}{ws:List W}{v:W}(h:s[p]?=some (.lst ws))(hq:q<ws.length):mN (.loc p) (.int q) v s=some (s.set p (.lst (ws.set q v))):=K6 h (LN hq)
theorem E5{fs:FA}{ρ:bS}{st st1:List ao}{i j:Int}(h:fs ρ st=.ok [.int i,.int j] st1)(hq:-(2^62)<=i/\i<2^62/\-(2^62)<=j/\j<2^62):pA fs ρ st=.ok (cx i (j-i).toNat,none) st1:=by
 unfold pA;rw[h];simp only[R.bind_ok];rw[ax hq]
theorem zT{ws:List W}{s:List ao}:nr [.tup ws] s=.ok (.loc s.length) (s++[.lst ws]):=rfl
theorem pO{α:Type}{l:List α}{i:Nat}{x y:α}(h:y∈l.set i x):y∈l\/y=x:=List.mem_or_eq_of_mem_set h
theorem zU(M:Mc)(n sl:Nat)(ds:List Int)(st:List ao)(hM:qP M n)(hn:1<=n)(CV:n<=9)(hd:st[sl]?=some (.lst (mZ ds)))(Bs:ds.length=4) :
  ∃M':Mc,M'.nm=M.nm/\qP M' n/\yc [M.w,.loc sl] st=.ok M'.w st:=by
 obtain⟨d0,d1,d2,d3,rfl⟩:∃a b c d,ds=[a,b,c,d]:=by
  match ds,Bs with
  |[a,b,c,d],_=>exact⟨_,_,_,_,rfl⟩
 have hT:0<M.tb.length:=by rw[hM.tb];exact Nat.pow_pos (by omega)
 obtain⟨a,ha,ea⟩:=gy (q:=d0) (n:=M.tb.length) hT
 obtain⟨b,hb,eb⟩:=gy (q:=d1) (n:=n) (by omega)
 obtain⟨c,hc,ec⟩:=gy (q:=d2) (n:=n) (by omega)
 obtain⟨v,hv,ev⟩:=gy (q:=d3) (n:=n) (by omega)
 have pT:(0:Int)<(M.tb.length:Int):=by omega
 have pn:(0:Int)<(n:Int):=by omega
 obtain⟨gk,hrows⟩:∃r,M.tb[a]?=some r:=⟨_,ae ha⟩
 obtain⟨r1,r2⟩:=hM.t gk (aN hrows)
 obtain⟨row,q9⟩:∃r,gk[b]?=some r:=⟨_,ae (by omega)⟩
 obtain⟨q1,q2⟩:=r2 row (aN q9)
 have g0:bH M.w (.int 0) st=.ok (.str M.nm) st:=rfl
 have g1:∀s,bH M.w (.int 1) s=.ok (.tup (M.gd.map W.bl)) s:=fun _=>rfl
 have g2:∀s,bH M.w (.int 2) s=.ok (.tup (M.tb.map fK)) s:=fun _=>rfl
 generalize hs3:st++[ao.lst (M.tb.map fK)]=s3
 have c3:s3[st.length]?=some (.lst (M.tb.map fK)):=by rw[<- hs3];exact bn
 have h3:st <+: s3:=by rw[<- hs3];exact aC _ _
 generalize hs5:s3++[ao.lst (gk.map iZ)]=s5
 have c5:s5[s3.length]?=some (.lst (gk.map iZ)):=by rw[<- hs5];exact bn
 have h5:s3 <+: s5:=by rw[<- hs5];exact aC _ _
 generalize hs6:s5++[ao.lst (row.map fun k:Nat=>W.int k)]=s6
 have c6:s6[s5.length]?=some (.lst (row.map fun k:Nat=>W.int k)):=by rw[<- hs6];exact bn
 have h6:s5 <+: s6:=by rw[<- hs6];exact aC _ _
 have l3:st.length<s3.length:=by rw[<- hs3];simp
 have l5:s3.length<s5.length:=by rw[<- hs5];simp
 have l6:s5.length<s6.length:=by rw[<- hs6];simp
 have dx:∀(s:List ao) (i:Nat) (d:Int),st <+: s->[d0,d1,d2,d3][i]?=some d->bH (.loc sl) (.int i) s=.ok (.int d) s:=fun s i d h e=>f_ (pre_get h hd) e
 have ix4:∀s:List ao,st <+: s->bH (.loc sl) (.int 0) s=.ok (.int d0) s:=fun s h=>dx s 0 d0 h rfl
 have ix1:∀s:List ao,st <+: s->bH (.loc sl) (.int 1) s=.ok (.int d1) s:=fun s h=>dx s 1 d1 h rfl
 have ix2:∀s:List ao,st <+: s->bH (.loc sl) (.int 2) s=.ok (.int d2) s:=fun s h=>dx s 2 d2 h rfl
 have ix3:∀s:List ao,st <+: s->bH (.loc sl) (.int 3) s=.ok (.int d3) s:=fun s h=>dx s 3 d3 h rfl
 have p6:=wm (v:=.int v) c6 (q:=c) (by rw[al];omega)
 generalize hs7:s6.set s5.length (.lst ((row.map fun k:Nat=>W.int k).set c (.int v)))=s7 at p6
 have k7:st <+: s7:=by rw[<- hs7];exact jd (h3.trans (h5.trans h6)) (by omega)
 have e6:s7[s5.length]?=some (.lst ((row.set c v).map fun k:Nat=>W.int k)):=by rw[<- hs7,kW c6];simp[jV]
 have e5:s7[s3.length]?=some (.lst (gk.map iZ)):=by rw[<- hs7,zS (by omega)];exact pre_get h6 c5
 have e3:s7[st.length]?=some (.lst (M.tb.map fK)):=by rw[<- hs7,zS (by omega)];exact pre_get (h5.trans h6) c3
 have p7:=wm (v:=iZ (row.set c v)) e5 (q:=b) (by rw[al];omega)
 generalize hs8:s7.set s3.length (.lst ((gk.map iZ).set b (iZ (row.set c v))))=s8 at p7
 have k8:st <+: s8:=by rw[<- hs8];exact jd k7 (by omega)
 have f5:s8[s3.length]?=some (.lst ((gk.set b (row.set c v)).map iZ)):=by rw[<- hs8,kW e5];simp[jV]
 have f3:s8[st.length]?=some (.lst (M.tb.map fK)):=by rw[<- hs8,zS (by omega)];exact e3
 have p8:=wm (v:=fK (gk.set b (row.set c v))) f3 (q:=a) (by rw[al];omega)
 generalize hs9:s8.set st.length (.lst ((M.tb.map fK).set a (fK (gk.set b (row.set c v)))))=s9 at p8
 have k9:st <+: s9:=by rw[<- hs9];exact jd k8 (by omega)
 have z3:s9[st.length]?=some (.lst ((M.tb.set a (gk.set b (row.set c v))).map fK)):=by rw[<- hs9,kW f3];simp[jV]
 refine⟨⟨M.nm,M.gd,M.tb.set a (gk.set b (row.set c v))⟩,rfl,⟨hM.gd,by rw[<- hM.tb];simp,?_⟩,?_⟩
 ·intro t ht
  rcases pO ht with h|rfl
  ·exact hM.t t h
  ·refine⟨by simpa using r1,fun r hr=>?_⟩
   rcases pO hr with h|rfl
   ·exact r2 r h
   ·refine⟨by simpa using q1,fun k hk=>?_⟩
    rcases pO hk with h|rfl
    ·exact q2 k h
    ·exact hv
 ·refine sW (N:=7) (ws:=[M.w,.loc sl]) (body:=Js) ?_ (by simp only[undWs,b_];exact qr _ _)
  apply aI
  ·exact bR (bP (am (bE (ak rfl) cR (g1 st)) aM) zG)
  rw[al,hM.gd]
  apply aI
  ·exact bR (bP (am (bE (ak rfl) cR (g2 st)) aM) zT)
  rw[hs3]
  apply aI
  ·refine bR (bE (bE (ak rfl) cR (ix4 s3 h3)) (bP (am (ak rfl) aM) (il (aO c3))) (jt ?_))
   rw[al];exact pT
  rw[al,ea]
  apply aI
  ·exact bR (bP (am (bE (ak rfl) (ak rfl) (lB (aO c3) (dO (by rw[ar,hrows];rfl)))) aM) zT)
  rw[hs5]
  apply aI
  ·have iv:bH (.loc s3.length) (.int (d1%(n:Int))) s5=.ok (.tup (row.map fun k:Nat=>W.int k)) s5:=by
    rw[eb]
    exact lB (aO c5) (dO (by rw[ar,q9];rfl))
   exact bR (bP (am (bE (ak rfl) (bE (bE (ak rfl) cR (ix1 s5 (h3.trans h5))) (ak rfl) (jt pn)) iv) aM) zT)
  rw[hs6]
  apply aI
  ·rw[<- ec,<- ev]at p6
   exact kG (bE (bE (ak rfl) cR (ix3 s6 (h3.trans (h5.trans h6)))) (ak rfl) (jt pn)) (ak rfl) (bE (bE (ak rfl) cR (ix2 s6 (h3.trans (h5.trans h6)))) (ak rfl) (jt pn)) p6
  apply aI
  ·rw[<- eb]at p7
   exact kG (bP (am (ak rfl) aM) (gI (aO e6))) (ak rfl) (bE (bE (ak rfl) cR (ix1 s7 k7)) (ak rfl) (jt pn)) p7
  apply aI
  ·exact kG (bP (am (ak rfl) aM) (gI (aO f5))) (ak rfl) (ak rfl) p8
  obtain⟨x,rfl⟩:=k9
  apply gw
  ·exact fR (am (bE (ak rfl) cR rfl) (am (bE (ak rfl) cR (g1 _)) (am (bP (am (ak rfl) aM) (gI (aO z3))) aM))) (cI rfl)
  ·exact⟨_,_,rfl,rfl,x,rfl⟩
def nW(l:List Nat):List W:=l.map fun k=>W.int (k:Nat)
theorem tu{s:List ao}{p i:Nat}{l:List Nat}{k:Nat}(h:s[p]?=some (.lst (nW l)))(e:l[i]?=some k):bH (.loc p) (.int i) s=.ok (.int k) s:=lB (aO h) (dO (by rw[nW,ar,e];rfl))
theorem LO{s:List ao}{i:Nat}{l:List Nat}{k:Nat}(e:l[i]?=some k):bH (iZ l) (.int i) s=.ok (.int k) s:=dq (dO (by rw[ar,e];rfl))
theorem LP{s:List ao}{i:Nat}{t:List (List Nat)}{r:List Nat}(e:t[i]?=some r):bH (fK t) (.int i) s=.ok (iZ r) s:=dq (dO (by rw[ar,e];rfl))
def QO(n:Nat)(zs:List Nat):Prop:=zs.length=n/\∀r,r∈zs↔r<n
theorem yi(n dl:Nat)(ds:List Int)(st:List ao)(hn:1<=n)(CV:n<=100)(hd:st[dl]?=some (.lst (mZ ds)))(Bs:2*n<=ds.length) :
  ∃zs,QO n zs/\tf [.int n,.int 0,.loc dl] st=.ok (.loc st.length) (st++[.lst (nW zs)]):=by
 suffices hh:gH (ql fun w bG=>∃j x,w=.loc (st.length+j)/\bG=st++x/\j=0/\∃zs,QO n zs/\x=[.lst (nW zs)]) (Ju ([W.int n,.int 0,.loc dl].map some++List.replicate (6-3) none) st) by
  obtain⟨j,x,⟨rfl,zs,h1,rfl⟩,e⟩:=jQ hh
  exact⟨zs,h1,e⟩
 apply aI
 ·(walk_at "evs")
 refine eu (fun i ρ s=>∃(zs:List Nat) (o4 o5:Option W),ρ=[some (.int n),some (.int 0),some (.loc dl),some (.loc st.length),o4,o5]/\s=st++[.lst (nW zs)]/\zs.length=i+1/\∀r,r∈zs↔r<i+1)
  (E5 (i:=1) (j:=(n:Int)+0) (st1:=st++[ao.lst [.int 0]]) (by(walk_at "evs")) (by omega))
  ⟨[0],none,none,rfl,rfl,rfl,by simp⟩ (fun _ _ _ _=>trivial) ?_ ?_
 ·rintro i w ρ s hw ⟨zs,o4,o5,rfl,rfl,hl,hm⟩
  obtain⟨hi,rfl⟩:=gF hw
  refine⟨_,rfl,?_⟩
  have hc:(st++[ao.lst (nW zs)])[st.length]?=some (.lst (nW zs)):=bn
  have t0:decide ((n:Int)<=1+(i:Int))=false:=be (by omega)
  apply aI
  ·(walk_at "evs")
  apply cX
  ·(walk_at "evs")
  apply dP
  obtain⟨d,hdd⟩:∃d,ds[2*(1+i)]?=some d:=⟨_,ae (by omega)⟩
  have id:=f_ (s:=st++[ao.lst (nW zs)]) (aG hd) hdd
  rw[show((2*(1+i):Nat):Int)=2*(1+(i:Int)) by omega]at id
  obtain⟨q,hq,eq⟩:=gy (q:=d) (n:=zs.length) (by omega)
  have ll:=il (aO hc)
  rw[show(nW zs).length=zs.length by simp[nW]]at ll
  have pl:(0:Int)<(zs.length:Int):=by omega
  have ins:=Er (y:=.int (1+(i:Int))) hc (k:=1+q) (by simp[nW];omega) (by simp[nW];show _<1000000;omega) (by omega)
  rw[fj,show((1+q:Nat):Int)=1+d%(zs.length:Int) by omega]at ins
  have cm:xq 2 (1+(i:Int)):=.inl (by decide)
  apply fY
  ·exact gf (n_ (ak rfl) (fS hc) (am (bE cR (bE (bE (ak rfl) (bE cR (ak rfl) (sV cm)) id) (bP (am (ak rfl) aM) ll) (jt pl)) fA) (am (ak rfl) aM)) ins)
  ·refine⟨_,_,rfl,zs.take (1+q)++(1+i)::zs.drop (1+q),_,_,rfl,?_,?_,?_⟩
   ·simp[nW,oH,li]
   ·simp;omega
   ·intro r
    rw[aQ,a7]
    have:=hm r
    have h2:r∈zs↔r∈zs.take (1+q)\/r∈zs.drop (1+q):=by
     rw[<- aQ,ng]
    constructor
    ·rintro(h|h|h)
     ·have:=this.mp (h2.mpr (.inl h));omega
     ·omega
     ·have:=this.mp (h2.mpr (.inr h));omega
    ·intro h
     by_cases e:r=1+i
     ·exact .inr (.inl e)
     ·rcases h2.mp (this.mpr (by omega))with h|h
      ·exact .inl h
      ·exact .inr (.inr h)
 ·rintro ρ s ⟨zs,o4,o5,rfl,rfl,hl,hm⟩
  rw[show(cx 1 ((n:Int)+0-1).toNat,(none:Option (Nat×List W))).fst.length=n-1 by simp[bZ]]at hl hm
  apply gw
  ·(walk_at "evs")
  ·exact⟨_,_,rfl,0,_,rfl,rfl,rfl,zs,⟨by omega,fun r=>by rw[hm r];omega⟩,rfl⟩
theorem HG{cap:List (Option Nat)}{ρ:bS}{st:List ao}{t:FT}{fs:FA}{n:Nat}(Pb:Nat->Bool)(hr:fs ρ st=.ok [.int n] st)(hn:n<=100000)(h0:0<cap.length)(h:∀i:Nat,i<n->t ((pD cap ρ).set 0 (some (.int i))) st=.ok (Pb i) st) :
  dD cap (bA fs) (eJ 0) t (ag 0) ρ st=.ok (.loc st.length) (st++[.lst (nW ((List.range n).filter Pb))]):=by
 have ir:bA fs ρ st=.ok (cx 0 n,none) st:=by
  have:=eG hr (by omega)
  rw[bB]at this
  exact this
 rw[v9 (fi:=bA fs) (f:=eJ 0) (t:=t) (el:=ag 0) (cap:=cap) (ρ:=ρ) (fun w=>match w with|.int z=>Pb z.toNat|_=>false) id ir (by rw[bZ];show _<=1000000;omega) trivial fun w hw=>by
  obtain⟨i,hi,rfl⟩:=nV hw
  rw[show((0:Int)+(i:Int))=(i:Int) by omega]
  exact⟨_,rfl,h i hi,fun _=>ak (by rw[bg (by simp[pD];exact h0)];rfl)⟩]
 congr 4
 unfold cx nW
 rw[jD,bb]
 have e:((fun w=>match w with|W.int z=>Pb z.toNat|_=>false)∘fun k:Nat=>W.int (0+(k:Int)))=Pb:=by
  funext k
  show Pb (0+(k:Int)).toNat=Pb k
  congr 1;omega
 rw[e]
 refine bC fun k _=>?_
 show W.int (0+(k:Int))=_
 rw[gC]
theorem A5{fe:FE}{f:FG}{ρ ρ':bS}{st st1:List ao}{w:W}(h:fe ρ st=.ok w st1)(h2:f w ρ=some ρ'):vH fe f ρ st=.nx ρ' st1:=by
 unfold vH;rw[h];simp only[R.stmt_ok];rw[h2]
theorem E6(M:Mc)(n ow dl:Nat)(zs:List Nat)(ds:List Int)(st:List ao)(hM:qP M n)(CV:n<=200)(ho:QO n zs)(hc:st[ow]?=some (.lst (nW zs)))(hd:st[dl]?=some (.lst (mZ ds)))(Bs:0<ds.length)(RF:ds.length<=1000)(Bn:M.nm.length<=10) :
  ∃M':Mc,M'.nm=M.nm/\qP M' n/\yd [M.w,.loc ow,.loc dl] st=.ok M'.w st:=by
 suffices hh:gH (ql fun w bG=>(∃x,bG=st++x)/\undWs st.length [w]=true/\∃M':Mc,w=M'.w/\M'.nm=M.nm/\qP M' n) (Jt ([M.w,.loc ow,.loc dl].map some++List.replicate (13-3) none) st) by
  obtain⟨w,⟨M',rfl,h1,h2⟩,e⟩:=jc hh
  exact⟨M',h1,h2,e⟩
 obtain⟨hz,hm⟩:=ho
 have p2:M.tb.length<=1024:=by rw[hM.tb];exact aV (jo (by omega) Bn) (by decide)
 have ll:=il (aO hc)
 rw[show(nW zs).length=n by simp[nW,hz]]at ll
 have g2:bH M.w (.int 2) (st++[ao.lst []])=.ok (.tup (M.tb.map fK)) (st++[ao.lst []]):=rfl
 apply aI
 ·(walk_at "evs")
 apply aI
 ·(walk_at "evs")
 apply aI
 ·(walk_at "evs")
 refine eu (fun i ρ s=>∃(tb:List (List (List Nat))) (a:Nat) (o6 o7 o8 o9 um CS CF:Option W),ρ=[some M.w,some (.loc ow),some (.loc dl),some (.int n),some (.int a),some (.loc st.length),o6,o7,o8,o9,um,CS,CF]/\st <+: s/\s[st.length]?=some (.lst (tb.map fK))/\tb.length=i/\∀t∈tb,CQ n t)
  (nS (st1:=st++[ao.lst []]) (bE (ak rfl) cR g2))
  ⟨[],0,none,none,none,none,none,none,none,rfl,aC _ _,bn,rfl,by simp⟩ (fun _ _ _ _=>trivial) ?_ ?_
 ·rintro i w ρ s hw ⟨tb,a,o6,o7,o8,o9,um,CS,CF,rfl,hp,hcT,hl,ht⟩
  obtain⟨t,hti,rfl⟩:∃t,M.tb[i]?=some t/\w=fK t:=by
   simp only[ar,aY]at hw
   obtain⟨t,h1,rfl⟩:=hw
   exact⟨t,h1,rfl⟩
  obtain⟨t1,t2⟩:=hM.t t (aN hti)
  have hi:i<M.tb.length:=(aa.mp hti).1
  refine⟨_,rfl,?_⟩
  apply aI
  ·(walk_at "evs")
  refine eu (fun j ρ z=>∃(gk:List (List Nat)) (a:Nat) (o8 o9 um CS CF:Option W),ρ=[some M.w,some (.loc ow),some (.loc dl),some (.int n),some (.int a),some (.loc st.length),some (fK t),some (.loc s.length),o8,o9,um,CS,CF]/\s <+: z/\z[s.length]?=some (.lst (gk.map iZ))/\gk.length=j/\∀r∈gk,r.length=n/\∀k∈r,k<n)
   (eG (q:=(n:Int)) (st1:=s++[ao.lst []]) (by(walk_at "evs")) (by omega)) ⟨[],a,_,_,_,_,_,rfl,aC _ _,bn,rfl,by simp⟩ (fun _ _ _ _=>trivial) ?_ ?_
  ·rintro x w ρ s1 hw ⟨gk,a,o8,o9,um,CS,CF,rfl,h1,hc1,hrl,hr⟩
   obtain⟨hx,rfl⟩:=gF hw
   rw[bB]at hx
   refine⟨_,rfl,?_⟩
   apply aI
   ·(walk_at "evs")
   obtain⟨ox,hox⟩:∃k,zs[x]?=some k:=⟨_,ae (by omega)⟩
   have hox':ox<n:=(hm ox).mp (aN hox)
   obtain⟨rx,hrx⟩:∃r,t[ox]?=some r:=⟨_,ae (by omega)⟩
   obtain⟨rx1,rx2⟩:=t2 rx (aN hrx)
   refine eu (fun j ρ z=>∃(row:List Nat) (a:Nat) (um CS CF:Option W),ρ=[some M.w,some (.loc ow),some (.loc dl),some (.int n),some (.int a),some (.loc st.length),some (fK t),some (.loc s.length),some (.int (0+(x:Int))),some (.loc s1.length),um,CS,CF]/\s1 <+: z/\z[s1.length]?=some (.lst (nW row))/\row.length=j/\∀k∈row,k<n)
    (eG (q:=(n:Int)) (st1:=s1++[ao.lst []]) (by(walk_at "evs")) (by omega)) ⟨[],a,_,_,_,rfl,aC _ _,bn,rfl,by simp⟩ (fun _ _ _ _=>trivial) ?_ ?_
   ·rintro y w ρ z hw ⟨row,a,um,CS,CF,rfl,h2,hc2,CW,hr2⟩
    obtain⟨hy,rfl⟩:=gF hw
    rw[bB]at hy
    refine⟨_,rfl,?_⟩
    have hz0:st <+: z:=hp.trans (h1.trans h2)
    obtain⟨oy,hoy⟩:∃k,zs[y]?=some k:=⟨_,ae (by omega)⟩
    have hoy':oy<n:=(hm oy).mp (aN hoy)
    obtain⟨O1,hdue⟩:∃k,rx[oy]?=some k:=⟨_,ae (by omega)⟩
    have hdue':=rx2 O1 (aN hdue)
    have wx:bH (.loc ow) (.int (0+(x:Int))) z=.ok (.int ox) z:=by rw[gC];exact tu (pre_get hz0 hc) hox
    have wy:bH (.loc ow) (.int (0+(y:Int))) z=.ok (.int oy) z:=by rw[gC];exact tu (pre_get hz0 hc) hoy
    apply aI
    ·exact bR (bE (bE (ak rfl) (bE (ak rfl) (ak rfl) wx) (LP hrx)) (bE (ak rfl) (ak rfl) wy) (LO hdue))
    have hcomp:=HG (cap:=[none,some 11,some 1]) (ρ:=[some M.w,some (.loc ow),some (.loc dl),some (.int n),some (.int a),some (.loc st.length),some (fK t),some (.loc s.length),some (.int (0+(x:Int))),some (.loc s1.length),some (.int (0+(y:Int))),some (.int O1),CF]) (st:=z) (t:=gp (e2 lp (e2 bH (ag 2) (ag 0)) (ag 1))) (fs:=ai (ag 3) aE) (n:=n) (fun i=>((zs.getD i 0:Nat):Int)==(O1:Int)) (am (ak rfl) aM) (by omega) (by simp) fun q hq=>by
     have:zs[q]?=some (zs.getD q 0):=by rw[aZ,ae (by omega)];rfl
     exact dE (bE (bE (ak rfl) (ak rfl) (tu (pre_get hz0 hc) this)) (ak rfl) (iu rfl))
    generalize hso:(List.range n).filter (fun i=>((zs.getD i 0:Nat):Int)==(O1:Int))=some' at hcomp
    have hsn:0<some'.length:=by
     obtain⟨q,hq⟩:=bw ((hm O1).mpr hdue')
     have hqn:q<n:=by have:=(aa.mp hq).1;omega
     refine gB (a:=q) ?_
     rw[<- hso]
     exact cB.mpr ⟨bt.mpr hqn,by rw[aZ,hq];simp⟩
    have hsm:∀k∈some',k<n:=fun k hk=>by
     rw[<- hso]at hk
     exact bt.mp (cB.mp hk).1
    have hsl:some'.length<=n:=by rw[<- hso];exact aV (d9 _ _) (by simp)
    apply aI
    ·exact A5 hcomp rfl
    obtain⟨q,hq,eq⟩:=gy (q:=(a:Int)) (n:=ds.length) (by omega)
    obtain⟨d,hdd⟩:∃d,ds[q]?=some d:=⟨_,ae hq⟩
    obtain⟨k,hk,ek⟩:=gy (q:=d) (n:=some'.length) hsn
    obtain⟨c,hcc⟩:∃c,some'[k]?=some c:=⟨_,ae hk⟩
    have hz3:st <+: z++[ao.lst (nW some')]:=nX hz0
    have ld:=il (aO (pre_get hz3 hd))
    rw[show(mZ ds).length=ds.length by simp[mZ]]at ld
    have ls:=il (st:=z++[ao.lst (nW some')]) (n:=z.length) (aO bn)
    rw[show(nW some').length=some'.length by simp[nW]]at ls
    have id:=f_ (pre_get hz3 hd) hdd
    rw[<- eq]at id
    have ic:=tu (s:=z++[ao.lst (nW some')]) (p:=z.length) bn hcc
    rw[<- ek]at ic
    have pl:(0:Int)<(ds.length:Int):=by omega
    have ps:(0:Int)<(some'.length:Int):=by omega
    have hc3:(z++[ao.lst (nW some')])[s1.length]?=some (.lst (nW row)):=aG hc2
    have ap:=oV (y:=.int c) hc3 (by simp[nW];omega)
    apply aI
    ·exact gf (n_ (ak rfl) (fS hc3) (am (bE (ak rfl) (bE (bE (ak rfl) (bE (ak rfl) (bP (am (ak rfl) aM) ld) (jt pl)) id) (bP (am (ak rfl) aM) ls) (jt ps)) ic) aM) ap)
    apply fY
    ·exact bR (bE (ak rfl) cR fA)
    ·refine⟨_,_,rfl,row++[c],a+1,_,_,_,rfl,jd (nX h2) (aB _),?_,by simp[CW],?_⟩
     ·rw[kW hc3];simp[nW]
     ·intro k' hk'
      rcases aQ.mp hk' with u|u
      ·exact hr2 k' u
      ·simp at u;subst u;exact hsm _ (aN hcc)
   ·rintro ρ z ⟨row,a,um,CS,CF,rfl,h2,hc2,CW,hr2⟩
    have CW:row.length=n:=by rw[CW];simp[bZ]
    have hc3:=pre_get h2 hc1
    have ap:=oV (y:=iZ row) hc3 (by rw[al,hrl];omega)
    apply fY
    ·exact gf (n_ (ak rfl) (fS hc3) (am (bP (am (ak rfl) aM) (gI (aO hc2))) aM) ap)
    ·refine⟨_,_,rfl,gk++[row],a,_,_,_,_,_,rfl,jd (h1.trans h2) (aB _),?_,by simp[hrl],?_⟩
     ·rw[kW hc3];simp
     ·intro r hr'
      rcases aQ.mp hr' with u|u
      ·exact hr r u
      ·simp at u;subst u;exact⟨CW,hr2⟩
  ·rintro ρ z ⟨gk,a,o8,o9,um,CS,CF,rfl,h1,hc1,hrl,hr⟩
   have hrl:gk.length=n:=by rw[hrl];simp[bZ]
   have hc3:=pre_get h1 hcT
   have ap:=oV (y:=fK gk) hc3 (by rw[al,hl];omega)
   apply fY
   ·exact gf (n_ (ak rfl) (fS hc3) (am (bP (am (ak rfl) aM) (gI (aO hc1))) aM) ap)
   ·refine⟨_,_,rfl,tb++[gk],a,_,_,_,_,_,_,_,rfl,jd (hp.trans h1) (aB _),?_,by simp[hl],?_⟩
    ·rw[kW hc3];simp
    ·intro r hr'
     rcases aQ.mp hr' with u|u
     ·exact ht r u
     ·simp at u;subst u;exact⟨hrl,hr⟩
 ·rintro ρ s ⟨tb,a,o6,o7,o8,o9,um,CS,CF,rfl,hp,hcT,hl,ht⟩
  have hl:tb.length=M.tb.length:=by rw[hl];simp
  have hc':=pre_get hp hc
  have cg:=g9 (cap:=[none,some 0]) (ρ:=[some M.w,some (.loc ow),some (.loc dl),some (.int n),some (.int a),some (.loc st.length),o6,o7,o8,o9,um,CS,CF]) (st:=s) (st1:=s) (f:=eJ 0) (el:=e2 bH (e2 bH (ag 1) (eI 1)) (ag 0)) (fun w=>match w with|.int z=>W.bl (M.gd.getD z.toNat false)|_=>.non)
   (eW (fe:=ag 1) (ak rfl) (aO hc')) (by simp[nW];show _<=1000000;omega) (aO hc') fun w hw=>by
    obtain⟨r,hr,rfl⟩:=aS.mp hw
    have hrn:=(hm r).mp hr
    have hg:M.gd[r]?=some (M.gd.getD r false):=by rw[aZ,ae (by rw[hM.gd];exact hrn)];rfl
    have g1:bH M.w (.int 1) s=.ok (.tup (M.gd.map W.bl)) s:=rfl
    exact⟨_,rfl,bE (bE (ak rfl) cR g1) (ak rfl) (dq (dO (by rw[ar,hg];rfl)))⟩
  rw[show(nW zs).map (fun w=>match w with|.int z=>W.bl (M.gd.getD z.toNat false)|_=>.non)=(zs.map fun r=>M.gd.getD r false).map W.bl by
   unfold nW;rw[bb,bb];refine bC fun k _=>?_;show W.bl (M.gd.getD (k:Int).toNat false)=_;rw[bB];rfl]at cg
  obtain⟨x,rfl⟩:=hp
  apply gw
  ·exact fR (am (bE (ak rfl) cR rfl) (am (bP (am cg aM) (gI (aO bn))) (am (bP (am (ak rfl) aM) (gI (aO (aG hcT)))) aM))) (cI rfl)
  ·exact⟨_,_,rfl,⟨_,by rw[aA]⟩,by simp only[undWs,b_];exact qr ⟨M.nm,zs.map fun r=>M.gd.getD r false,tb⟩ _,⟨M.nm,zs.map fun r=>M.gd.getD r false,tb⟩,rfl,rfl,by simp[hz],by rw[hl,hM.tb],ht⟩
theorem zV(nm:List Nat)(n top dl:Nat)(ds:List Int)(st:List ao)(Bn:nm.length<=6)(hn:1<=n)(CV:n<=9)(Rj:1<=top)(RW:top<=n)(hd:st[dl]?=some (.lst (mZ ds)))(Bs:n+2^nm.length*(n*n)<=ds.length) :
  ∃M:Mc,M.nm=nm/\qP M n/\ye [.str nm,.int n,.int top,.loc dl] st=.ok M.w st:=by
 suffices hh:gH (ql fun w bG=>(∃x,bG=st++x)/\undWs st.length [w]=true/\∃M:Mc,w=M.w/\M.nm=nm/\qP M n) (Jv ([W.str nm,.int n,.int top,.loc dl].map some++List.replicate (10-4) none) st) by
  obtain⟨w,⟨M,rfl,h1,h2⟩,e⟩:=jc hh
  exact⟨M,h1,h2,e⟩
 have dw:∀s:List ao,fQ [.str nm] s=.ok (.int nm.length) s:=fun s=>zH (by show _<=1000000;omega)
 have p2:2^nm.length<=64:=jo (by omega) Bn
 obtain⟨N,hN⟩:∃N,N=2^nm.length:=⟨_,rfl⟩
 have sh:∀s:List ao,xt (.int 1) (.int nm.length) s=.ok (.int N) s:=fun s=>by rw[hN];exact Az (by omega)
 rw[<- hN]at p2 Bs
 have hdn:n<=ds.length:=by omega
 obtain⟨gd,hgl,_,eg⟩:=tq (cap:=[none,some 3]) (ρ:=[some (.str nm),some (.int n),some (.int top),some (.loc dl),none,none,none,none,none,none]) (st:=st) (fs:=ai (ag 1) aE) (n:=n)
  (el:=e2 lp (e2 eK (e2 bH (ag 1) (ag 0)) (eI 2)) (eI 1)) W.bl (fun _ _=>True) (am (ak rfl) aM) (by omega) fun q hq=>by
   obtain⟨d,hdd⟩:∃d,ds[q]?=some d:=⟨_,ae (by omega)⟩
   exact⟨_,trivial,bE (bE (bE (ak rfl) (ak rfl) (f_ hd hdd)) cR (jt (by decide))) cR (iu rfl)⟩
 apply aI
 ·exact bR eg
 generalize JH:st++[ao.lst (gd.map W.bl)]=s0
 have hst0:st <+: s0:=by rw[<- JH];exact aC _ _
 apply aI
 ·(walk_at "evs")
 apply aI
 ·(walk_at "evs")
 refine eu (fun i ρ s=>∃(tb:List (List (List Nat))) (a:Nat) (o7 o8 o9:Option W),ρ=[some (.str nm),some (.int n),some (.int top),some (.loc dl),some (.tup (gd.map W.bl)),some (.loc s0.length),some (.int a),o7,o8,o9]/\s0 <+: s/\s[s0.length]?=some (.lst (tb.map fK))/\tb.length=i/\(∀t∈tb,CQ n t)/\a+(N-i)*(n*n)<=ds.length)
  (eG (q:=(N:Int)) (st1:=s0++[ao.lst []]) (am (bE cR (bP (am (ak rfl) aM) (dw _)) (sh _)) aM) (by omega))
  ⟨[],n,none,none,none,rfl,aC _ _,bn,rfl,by simp,by simpa using Bs⟩ (fun _ _ _ _=>trivial) ?_ ?_
 ·rintro i w ρ s hw ⟨tb,a,o7,o8,o9,rfl,hp,hc,hl,ht,hal⟩
  obtain⟨hi,rfl⟩:=gF hw
  rw[bB]at hi
  refine⟨_,rfl,?_⟩
  rw[show N-i=(N-(i+1))+1 by omega,Nat.succ_mul]at hal
  apply aI
  ·(walk_at "evs")
  refine eu (fun j ρ z=>∃(gk:List (List Nat)) (a:Nat) (o9:Option W),ρ=[some (.str nm),some (.int n),some (.int top),some (.loc dl),some (.tup (gd.map W.bl)),some (.loc s0.length),some (.int a),some (.int (0+(i:Int))),some (.loc s.length),o9]/\s <+: z/\z[s.length]?=some (.lst (gk.map iZ))/\gk.length=j/\(∀r∈gk,r.length=n/\∀k∈r,k<n)/\a+((N-(i+1))*(n*n)+(n-j)*n)<=ds.length)
   (eG (q:=(n:Int)) (st1:=s++[ao.lst []]) (by(walk_at "evs")) (by omega)) ⟨[],a,_,rfl,aC _ _,bn,rfl,by simp,by simpa using hal⟩ (fun _ _ _ _=>trivial) ?_ ?_
  ·rintro j w ρ z hw ⟨gk,a,o9,rfl,hz,hcz,hrl,hr,hal⟩
   obtain⟨hj,rfl⟩:=gF hw
   rw[bB]at hj
   refine⟨_,rfl,?_⟩
   rw[show n-j=(n-(j+1))+1 by omega,Nat.succ_mul]at hal
   have pt:(0:Int)<(top:Int):=by omega
   obtain⟨r,hrn,hrb,er⟩:=tq (cap:=[none,some 2,some 3,some 6]) (ρ:=[some (.str nm),some (.int n),some (.int top),some (.loc dl),some (.tup (gd.map W.bl)),some (.loc s0.length),some (.int a),some (.int (0+(i:Int))),some (.loc s.length),some (.int (0+(j:Int)))]) (st:=z) (fs:=ai (ag 1) aE) (n:=n)
    (el:=e2 eK (e2 bH (ag 2) (e2 dR (ag 3) (ag 0))) (ag 1)) (fun k:Nat=>W.int (k:Nat)) (fun _ k=>k<n) (am (ak rfl) aM) (by omega) fun q hq=>by
     obtain⟨d,hdd⟩:∃d,ds[a+q]?=some d:=⟨_,ae (by omega)⟩
     obtain⟨k,hk,ek⟩:=gy (q:=d) (n:=top) (by omega)
     refine⟨k,by omega,?_⟩
     rw[<- ek]
     exact bE (bE (ak rfl) (bE (ak rfl) (ak rfl) fA) (f_ (pre_get (hst0.trans (hp.trans hz)) hd) hdd)) (ak rfl) (jt pt)
   have ap:=oV (y:=iZ r) (pre_get (s:=z++[.lst (r.map fun k:Nat=>W.int k)]) (aC _ _) hcz) (by rw[al];omega)
   apply aI
   ·exact gf (n_ (ak rfl) (fS hcz) (am er aM) ap)
   apply fY
   ·exact bR (bE (ak rfl) (ak rfl) fA)
   ·refine⟨_,_,rfl,gk++[r],a+n,_,rfl,jd (nX hz) (aB _),?_,by simp[hrl],?_,by omega⟩
    ·rw[kW (pre_get (aC _ _) hcz)];simp
    ·intro x hx
     rcases aQ.mp hx with y|y
     ·exact hr x y
     ·simp at y;subst y
      refine⟨hrn,fun k hk=>?_⟩
      obtain⟨q,hq⟩:=bw hk
      exact hrb q k hq
  ·rintro ρ z ⟨gk,a,o9,rfl,hz,hcz,hrl,hr,hal⟩
   have hrl:gk.length=n:=by rw[hrl];simp[bZ]
   have hcp:=pre_get hz hc
   have ap:=oV (y:=fK gk) hcp (by rw[al,hl];omega)
   apply fY
   ·exact gf (n_ (ak rfl) (fS hcp) (am (bP (am (ak rfl) aM) (gI (aO hcz))) aM) ap)
   ·refine⟨_,_,rfl,tb++[gk],a,_,_,_,rfl,jd (hp.trans hz) (aB _),?_,by simp[hl],?_,by omega⟩
    ·rw[kW hcp];simp
    ·intro x hx
     rcases aQ.mp hx with y|y
     ·exact ht x y
     ·simp at y;subst y
      exact⟨hrl,hr⟩
 ·rintro ρ s ⟨tb,a,o7,o8,o9,rfl,hp,hc,hl,ht,hal⟩
  have hl:tb.length=N:=by rw[hl];simp[bZ]
  obtain⟨x,rfl⟩:=hst0.trans hp
  apply gw
  ·exact fR (am (ak rfl) (am (ak rfl) (am (bP (am (ak rfl) aM) (gI (aO hc))) aM))) (cI rfl)
  ·exact⟨_,_,rfl,⟨_,rfl⟩,by simp only[undWs,b_];exact qr ⟨nm,gd,tb⟩ _,⟨nm,gd,tb⟩,rfl,rfl,hgl,by rw[hl,hN],ht⟩
theorem A6{ds:List Int}{i j:Nat}(hj:j<=ds.length)(hi:i<=j):jN (mZ ds) (some (i:Int)) (some (j:Int))=mZ ((ds.drop i).take (j-i)):=by
 rw[K_ (by simpa[mZ]using hj) hi]
 simp[mZ,oH,li]
theorem E7{n0:Nat}{st:List ao}{ns:List Int}(h0:st[n0]?=some (.ro (ns.map W.int)))(a:Int)(gr:List Nat)(RY:5<=gr.length)(hp:gr.length<=50) :
  ∃(M:Mc) (n:Nat),qP M n/\1<=n/\n<=9/\M.nm.length<=5/\n*n*2^M.nm.length<=200/\M.nm=Cq (gr.take M.nm.length)/\u5 [.loc n0,.int a,.str gr] st=.ok M.w st:=by
 suffices hh:gH (ql fun w bG=>(∃x,bG=st++x)/\undWs st.length [w]=true/\∃(M:Mc) (n:Nat),w=M.w/\qP M n/\1<=n/\n<=9/\M.nm.length<=5/\n*n*2^M.nm.length<=200/\M.nm=Cq (gr.take M.nm.length)) (Jw ([W.loc n0,.int a,.str gr].map some++List.replicate (10-3) none) st) by
  obtain⟨w,⟨M,n,rfl,h1,h2,h3,h4,h5,h6⟩,e⟩:=jc hh
  exact⟨M,n,h1,h2,h3,h4,h5,h6,e⟩
 obtain⟨c0,e0⟩:=pM h0 a
 obtain⟨hs,hhl,hhp,e1⟩:=nE c0 1000003 10 (by omega) st
 have e1:kI [.int c0,.int 10,.int 1000003] st=_:=e1
 obtain⟨d0,d1,d2,d3,d4,dr,rfl⟩:∃a b c d e r,hs=a::b::c::d::e::r:=by
  match hs,hhl with
  |a::b::c::d::e::r,_=>exact⟨_,_,_,_,_,_,rfl⟩
 apply aI
 ·(walk_at "evs")
 generalize wF:st++[ao.lst ((d0::d1::d2::d3::d4::dr).map W.int)]=s1
 have k1:st <+: s1:=by rw[<- wF];exact aC _ _
 have hc1:s1[st.length]?=some (.lst (mZ (d0::d1::d2::d3::d4::dr))):=by rw[<- wF];exact bn
 clear e0 e1 wF
 have i0:∀s:List ao,s1 <+: s->bH (.loc st.length) (.int 0) s=.ok (.int d0) s:=fun s h=>f_ (i:=0) (pre_get h hc1) rfl
 have i1:∀s:List ao,s1 <+: s->bH (.loc st.length) (.int 1) s=.ok (.int d1) s:=fun s h=>f_ (i:=1) (pre_get h hc1) rfl
 have i2:∀s:List ao,s1 <+: s->bH (.loc st.length) (.int 2) s=.ok (.int d2) s:=fun s h=>f_ (i:=2) (pre_get h hc1) rfl
 have i3:∀s:List ao,s1 <+: s->bH (.loc st.length) (.int 3) s=.ok (.int d3) s:=fun s h=>f_ (i:=3) (pre_get h hc1) rfl
 have i4:∀s:List ao,s1 <+: s->bH (.loc st.length) (.int 4) s=.ok (.int d4) s:=fun s h=>f_ (i:=4) (pre_get h hc1) rfl
 obtain⟨c,n,hc5,hn1,CV,hcn,es⟩:=EZ d0 s1
 apply aI
 ·exact A5 (dm (am (bE (ak rfl) cR (i0 s1 (aj _))) aM) es rfl) rfl
 have en:=E1 gr c hp (by omega) s1
 have Bn:(Cq (gr.take c)).length=c:=by rw[HC,bp];omega
 have hnm2:Cq (gr.take c)=Cq (gr.take (Cq (gr.take c)).length):=by rw[Bn]
 generalize Cq (gr.take c)=nm at en Bn hnm2
 apply aI
 ·exact bR (dm (am (ak rfl) (am (ak rfl) aM)) en rfl)
 obtain⟨T,hT⟩:∃T,T=n+n*n*2^c+40:=⟨_,rfl⟩
 have hnn:n*n<=81:=g7 CV CV
 obtain⟨j,x,ds,hdl,hdp,hxj,eb⟩:=Cs (pre_get k1 h0) (a+1) T 3000017 (by omega)
 have eT:(n:Int)+(n:Int)*(n:Int)*((2^c:Nat):Int)+40=(T:Int):=by rw[hT];simp only[Int.natCast_add,mV];rfl
 have cm1:xq (n:Int) (n:Int):=.inl ⟨by omega,by omega⟩
 have cm2:xq ((n:Int)*(n:Int)) ((2^c:Nat):Int):=.inl (by rw[<- mV];omega)
 rw[<- eT]at eb
 apply aI
 ·exact bR (dm (am (ak rfl) (am (bE (ak rfl) cR fA) (am (bE (bE (ak rfl) (bE (bE (ak rfl) (ak rfl) (sV cm1)) (bE cR (ak rfl) (Az (by omega))) (sV cm2)) fA) cR fA) (am cR aM)))) eb rfl)
 clear eb en es
 generalize wR:s1++x=s2
 have k2:s1 <+: s2:=by rw[<- wR];exact aC _ _
 have nZ:s2[s1.length+j]?=some (.lst (mZ ds)):=by rw[<- wR,f9];exact hxj
 generalize hdlo:s1.length+j=dl at nZ
 have kk2:st <+: s2:=k1.trans k2
 have hT2:n+2^nm.length*(n*n)+40<=ds.length:=by rw[Bn,iN,hdl,hT];omega
 have h3:=i3 s2 k2
 have hnc:n*n*2^nm.length<=200:=by rw[Bn];exact hcn
 generalize n*n*2^c=q1 at hcn hT
 by_cases w3:d3%3=0
 ·have t3:(d3%3==0)=true:=dB.mpr w3
  obtain⟨M,eM,hM,egr⟩:=Ct nm n dl ds s2 (by omega) hn1 CV nZ (by omega) hdp
  apply gi
  ·(walk_at "evs")
  apply lE
  apply aI
  ·exact bR (dm (am (ak rfl) (am (ak rfl) (am (ak rfl) aM))) egr rfl)
  apply lE
  refine nU (fun ρ s=>∃M':Mc,M'.nm=nm/\qP M' n/\ρ=[some (.loc n0),some (.int a),some (.str gr),some (.loc st.length),some (.int c),some (.int n),some (.str nm),some (.loc dl),some M'.w,none]/\s2 <+: s) ?_ ?_
  ·have h4:=i4 s2 k2
   by_cases w4:d4%3=0
   ·have t4:(d4%3==0)=true:=dB.mpr w4
    have sl:=xR (st:=s2) (n:=dl) (l:=some 4) (h:=some 8) (aO nZ)
    rw[show(some (4:Int))=some ((4:Nat):Int)from rfl,show(some (8:Int))=some ((8:Nat):Int)from rfl,A6 (by omega) (by omega)]at sl
    obtain⟨M',eM',hM',esp⟩:=zU M n s2.length ((ds.drop 4).take (8-4)) (s2++[.lst (mZ ((ds.drop 4).take (8-4)))]) hM hn1 (by omega) bn (by simp;omega)
    apply lD
    ·(walk_at "evs")
    apply fY
    ·exact bR (dm (am (ak rfl) (am (Ci (ak rfl) (xQ cR) (xQ cR) sl) aM)) esp rfl)
    ·exact⟨_,_,rfl,M',by rw[eM',eM],hM',rfl,aC _ _⟩
   ·have t4:(d4%3==0)=false:=ba.mpr w4
    apply kH
    ·(walk_at "evs")
    apply fY
    ·(walk_at "evs")
    ·exact⟨_,_,rfl,M,eM,hM,rfl,aj _⟩
  rintro ρ s3 ⟨M',eM',hM',rfl,k3⟩
  have sl:=xR (st:=s3) (n:=dl) (l:=some 8) (h:=some 30) (aO (pre_get k3 nZ))
  rw[show(some (8:Int))=some ((8:Nat):Int)from rfl,show(some (30:Int))=some ((30:Nat):Int)from rfl,A6 (by omega) (by omega)]at sl
  obtain⟨zs,hzs,eo⟩:=yi n s3.length ((ds.drop 8).take (30-8)) (s3++[.lst (mZ ((ds.drop 8).take (30-8)))]) hn1 (by omega) bn (by simp;omega)
  obtain⟨M2,eM2,hM2,ebl⟩:=E6 M' n _ dl zs ds (s3++[.lst (mZ ((ds.drop 8).take (30-8)))]++[.lst (nW zs)]) hM' (by omega) hzs bn (aG (aG (pre_get k3 nZ))) (by omega) (by omega) (by rw[eM',Bn];omega)
  obtain⟨y,rfl⟩:=kk2.trans k3
  apply e7
  ·exact dm (am (ak rfl) (am (dm (am (ak rfl) (am cR (am (Ci (ak rfl) (xQ cR) (xQ cR) sl) aM))) eo rfl) (am (ak rfl) aM))) ebl rfl
  ·exact⟨_,_,rfl,⟨_,by rw[aA,aA]⟩,by simp only[undWs,b_];exact qr _ _,M2,n,rfl,hM2,hn1,CV,by rw[eM2,eM',Bn];exact hc5,by rw[eM2,eM'];exact hnc,by rw[eM2,eM'];exact hnm2⟩
 ·have t3:(d3%3==0)=false:=ba.mpr w3
  apply cX
  ·(walk_at "evs")
  apply dP
  apply aI
  ·(walk_at "evs")
  have h1:=i1 s2 k2
  have h2:=i2 s2 k2
  have pn:(0:Int)<(n:Int):=by omega
  refine nU (fun ρ s=>∃top:Nat,1<=top/\top<=n/\ρ=[some (.loc n0),some (.int a),some (.str gr),some (.loc st.length),some (.int c),some (.int n),some (.str nm),some (.loc dl),none,some (.int top)]/\s=s2) ?_ ?_
  ·by_cases w1:d1%3=0
   ·have t1:(d1%3==0)=true:=dB.mpr w1
    obtain⟨q,hq,eq⟩:=gy (q:=d2) (n:=n) (by omega)
    apply lD
    ·(walk_at "evs")
    apply fY
    ·exact bR (bE cR (bE (bE (ak rfl) cR h2) (ak rfl) (jt pn)) fA)
    ·rw[eq];exact⟨_,_,rfl,1+q,by omega,by omega,rfl,rfl⟩
   ·have t1:(d1%3==0)=false:=ba.mpr w1
    apply kH
    ·(walk_at "evs")
    apply fY
    ·(walk_at "evs")
    ·exact⟨_,_,rfl,n,hn1,aB _,rfl,rfl⟩
  rintro ρ s3 ⟨top,Rj,ht2,rfl,rfl⟩
  obtain⟨M,eM,hM,em⟩:=zV nm n top dl ds s3 (by omega) hn1 CV Rj ht2 nZ (by omega)
  obtain⟨y,rfl⟩:=kk2
  apply gw
  ·exact dm (am (ak rfl) (am (ak rfl) (am (ak rfl) (am (ak rfl) aM)))) em rfl
  ·exact⟨_,_,rfl,⟨_,rfl⟩,by simp only[undWs,b_];exact qr _ _,M,n,rfl,hM,hn1,CV,by rw[eM,Bn];exact hc5,by rw[eM];exact hnc,by rw[eM];exact hnm2⟩
structure Wy where
 s:Nat
 l:Nat
 r:Nat
 a:Nat
def Wy.z(p:Wy):List Int:=[(p.s:Int),(p.l:Int),(p.r:Int),(p.a:Int)]
def Wy.lt(p q:Wy):Prop:=p.s<q.s\/p.s=q.s/\(p.l<q.l\/p.l=q.l/\(p.r<q.r\/p.r=q.r/\p.a<q.a))
theorem Wy.lex(p q:Wy):HT.lexLt p.z q.z=true↔p.lt q:=by
 obtain⟨a,b,c,d⟩:=p
 obtain⟨e,f,g,h⟩:=q
 simp only[Wy.z,Wy.lt,HT.lexLt_cons,HT.lexLt_nil_nil]
 by_cases h1:(a:Int)=e
 ·rw[ax h1]
  by_cases h2:(b:Int)=f
  ·rw[ax h2]
   by_cases h3:(c:Int)=g
   ·rw[ax h3]
    by_cases h4:(d:Int)=h
    ·rw[ax h4];constructor
     ·intro z;cases z
     ·intro z;omega
    ·rw[aD h4,bM];omega
   ·rw[aD h3,bM];omega
  ·rw[aD h2,bM];omega
 ·rw[aD h1,bM];omega
theorem LQ{a b c:Nat}{A B C:Prop}(t:A->B->C)(h1:a<b\/a=b/\A)(h2:b<c\/b=c/\B):a<c\/a=c/\C:=by
 rcases h1 with z|⟨rfl,p⟩
 ·rcases h2 with y|⟨rfl,_⟩
  ·exact .inl (p5 z y)
  ·exact .inl z
 ·rcases h2 with y|⟨rfl,q⟩
  ·exact .inl y
  ·exact .inr ⟨rfl,t p q⟩
theorem Wy.trans{p q r:Wy}(h1:p.lt q)(h2:q.lt r):p.lt r:=LQ (LQ (LQ p5)) h1 h2
theorem Wy.irr(p:Wy):¬ p.lt p:=fun h=>by
 rcases h with z|⟨_,z|⟨_,z|⟨_,z⟩⟩⟩<;>exact bx _ z
theorem Wy.tri{p q:Wy}(h1:¬ p.lt q)(h2:¬ q.lt p):p=q:=by
 obtain⟨a,b,c,d⟩:=p
 obtain⟨e,f,g,h⟩:=q
 obtain rfl:a=e:=ie (dF fun z=>h2 (.inl z)) (dF fun z=>h1 (.inl z))
 obtain rfl:b=f:=ie (dF fun z=>h2 (.inr ⟨rfl,.inl z⟩)) (dF fun z=>h1 (.inr ⟨rfl,.inl z⟩))
 obtain rfl:c=g:=ie (dF fun z=>h2 (.inr ⟨rfl,.inr ⟨rfl,.inl z⟩⟩)) (dF fun z=>h1 (.inr ⟨rfl,.inr ⟨rfl,.inl z⟩⟩))
 obtain rfl:d=h:=ie (dF fun z=>h2 (.inr ⟨rfl,.inr ⟨rfl,.inr ⟨rfl,z⟩⟩⟩)) (dF fun z=>h1 (.inr ⟨rfl,.inr ⟨rfl,.inr ⟨rfl,z⟩⟩⟩))
 rfl
theorem Wy.ge{p q r:Wy}(h:p.lt q)(n:¬ r.lt q):p.lt r:=by
 by_cases z:q.lt r
 ·exact Wy.trans h z
 ·exact Wy.tri z n▸h
theorem Wy.gt{p q r:Wy}(n:¬ q.lt p)(h:q.lt r):p.lt r:=by
 by_cases z:p.lt q
 ·exact Wy.trans z h
 ·exact Wy.tri z n▸h
abbrev Ro:=Nat×Wy
abbrev LR(T:Nat->Nat->Nat->Nat)(L:Nat)(E:List Ro)(p:Ro):Prop:=∃el er:Ro,E[p.2.l]?=some el/\E[p.2.r]?=some er/\p.2.a<L/\T p.2.a el.1 er.1=p.1/\p.2.s=el.2.s+er.2.s+1
structure lF(T:Nat->Nat->Nat->Nat)(L N:Nat)(E:List Ro):Prop where
 zero:∃r,E=(0,⟨0,0,0,0⟩)::r
 lt:∀e∈E,e.1<N
 nd:(E.map Prod.fst).Nodup
 row:∀(i:Nat) (e:Ro),E[i]?=some e->0<i->e.2.l<i/\e.2.r<i/\LR T L E e
 rise:∀(i:Nat) (e f:Ro),E[i]?=some e->E[i+1]?=some f->e.2.lt f.2
structure yj(T:Nat->Nat->Nat->Nat)(L N:Nat)(E B:List Ro):Prop where
 nd:(B.map Prod.fst).Nodup
 ok:∀p∈B,LR T L E p/\p.1∉E.map Prod.fst/\p.1<N
 up:∀p∈B,∀e,E[E.length-1]?=some e->e.2.lt p.2
abbrev qZ(l r a:Nat)(el er:Ro):Wy:=⟨el.2.s+er.2.s+1,l,r,a⟩
def HH(T:Nat->Nat->Nat->Nat)(E B:List Ro)(l r a:Nat):Prop:=∀el er,E[l]?=some el->E[r]?=some er->(∃(i:Nat) (e:Ro),E[i]?=some e/\e.1=T a el.1 er.1/\¬ (qZ l r a el er).lt e.2)\/∃p∈B,p.1=T a el.1 er.1/\¬ (qZ l r a el er).lt p.2
section
variable{T:Nat->Nat->Nat->Nat}{L N:Nat}{E B:List Ro}
theorem lF.mono(h:lF T L N E):∀(k i:Nat) (e f:Ro),E[i]?=some e->E[i+k]?=some f->e.2.s<=f.2.s
 |0,i,e,f,h1,h2=>by rw[mB,h1]at h2;cases h2;exact aB _
 |k+1,i,e,f,h1,h2=>by
  have hk:i+k<E.length:=by have:=(aa.mp h2).1;omega
  have e1:E[i+k]?=some E[i+k]:=ae hk
  have a:=h.mono k i e _ h1 e1
  have b:=h.rise (i+k) _ f e1 (by rw[<- h2];congr 1)
  unfold Wy.lt at b
  omega
theorem lF.top(h:lF T L N E){i:Nat}{e f:Ro}(h1:E[i]?=some e)(h2:E[E.length-1]?=some f):e.2.s<=f.2.s:=by
 have hi:=(aa.mp h1).1
 exact h.mono (E.length-1-i) i e f h1 (by rw[show i+(E.length-1-i)=E.length-1 by omega];exact h2)
theorem lF.len(h:lF T L N E):E.length<=N:=by
 have:=jb (l:=List.range N) h.nd fun c hc=>by
  obtain⟨e,he,rfl⟩:=aS.mp hc
  exact bt.mpr (h.lt e he)
 simpa using this
theorem lF.len0(h:lF T L N E):0<E.length:=by obtain⟨r,e⟩:=h.zero;rw[e];simp
theorem yj.len(h:yj T L N E B):B.length<=N:=by
 have:=jb (l:=List.range N) h.nd fun c hc=>by
  obtain⟨e,he,rfl⟩:=aS.mp hc
  exact bt.mpr (h.ok e he).2.2
 simpa using this
theorem A7{B:List Ro}(h:(B.map Prod.fst).Nodup):∀{p q:Ro},p∈B->q∈B->p.1=q.1->p=q:=by
 induction B with
 |nil=>intro p q hp;cases hp
 |cons b B ih=>
  intro p q hp hq e
  simp only[aR,fN]at h
  rcases a7.mp hp with rfl|hp'<;>rcases a7.mp hq with rfl|hq'
  ·rfl
  ·exact(h.1 (aS.mpr ⟨q,hq',e.symm⟩)).elim
  ·exact(h.1 (aS.mpr ⟨p,hp',e⟩)).elim
  ·exact ih h.2 hp' hq' e
theorem LR.app{E x:List Ro}{p:Ro}(h:LR T L E p):LR T L (E++x) p:=by
 obtain⟨el,er,h1,h2,h3⟩:=h
 exact⟨el,er,by rw[az (aa.mp h1).1];exact h1,by rw[az (aa.mp h2).1];exact h2,h3⟩
def qt(B:List Ro)(p:Ro):List Ro:=if p.1∈B.map Prod.fst then B.map fun q=>if q.1=p.1 then p else q else B++[p]
theorem yk{p q:Ro}(h:q∈qt B p):q=p\/q∈B/\q.1≠p.1:=by
 unfold qt at h
 split at h
 ·obtain⟨x,hx,e⟩:=aS.mp h
  split at e
  ·exact .inl e.symm
  ·rename_i hn;subst e;exact .inr ⟨hx,hn⟩
 ·rename_i hn
  rcases aQ.mp h with h|h
  ·exact .inr ⟨h,fun e=>hn (aS.mpr ⟨q,h,e⟩)⟩
  ·exact .inl (bL.mp h)
theorem yl{p:Ro}:p∈qt B p:=by
 unfold qt
 split
 ·rename_i h
  obtain⟨x,hx,e⟩:=aS.mp h
  exact aS.mpr ⟨x,hx,by rw[ax e]⟩
 ·exact aQ.mpr (.inr (bL.mpr rfl))
theorem E8{p q:Ro}(h:q∈B)(hn:q.1≠p.1):q∈qt B p:=by
 unfold qt
 split
 ·exact aS.mpr ⟨q,h,by rw[aD hn]⟩
 ·exact aQ.mpr (.inl h)
theorem HI{p:Ro}(h:(B.map Prod.fst).Nodup):((qt B p).map Prod.fst).Nodup:=by
 unfold qt
 split
 ·rw[bb]
  have e:B.map (Prod.fst∘fun q:Ro=>if q.1=p.1 then p else q)=B.map Prod.fst:=by
   refine bC fun q _=>?_
   show(if q.1=p.1 then p else q).1=q.1
   split
   ·rename_i e;exact e.symm
   ·rfl
  rw[e];exact h
 ·rename_i hn
  rw[dz,dg]
  refine⟨h,by simp,fun a ha b hb=>?_⟩
  simp only[aR,eB,bL]at hb
  subst hb
  exact fun z=>hn (z▸ha)
def E9(E B:List Ro)(p:Ro)(B':List Ro):Prop:=(p.1∈E.map Prod.fst/\B'=B)\/(p.1∉E.map Prod.fst/\(∃q∈B,q.1=p.1/\¬ p.2.lt q.2)/\B'=B)\/(p.1∉E.map Prod.fst/\(∀q∈B,q.1=p.1->p.2.lt q.2)/\B'=qt B p)
theorem E_(h:lF T L N E)(b:yj T L N E B){B':List Ro}{p:Ro}(hw:LR T L E p)(hN:p.1<N)(qC:p.2.l=E.length-1\/p.2.r=E.length-1)(o:E9 E B p B'):yj T L N E B':=by
 rcases o with⟨_,rfl⟩|⟨_,_,rfl⟩|⟨h1,h2,rfl⟩
 ·exact b
 ·exact b
 ·refine⟨HI b.nd,fun q hq=>?_,fun q hq e he=>?_⟩
  ·rcases yk hq with rfl|⟨hq,_⟩
   ·exact⟨hw,h1,hN⟩
   ·exact b.ok q hq
  ·rcases yk hq with rfl|⟨hq,_⟩
   ·obtain⟨el,er,e1,e2,_,_,e5⟩:=hw
    rcases qC with z|z
    ·rw[z,he]at e1;cases e1
     unfold Wy.lt;omega
    ·rw[z,he]at e2;cases e2
     unfold Wy.lt;omega
   ·exact b.up q hq e he
theorem HJ{l r a:Nat}{B':List Ro}{p:Ro}(o:E9 E B p B')(b:(B.map Prod.fst).Nodup)(c:HH T E B l r a):HH T E B' l r a:=by
 rcases o with⟨_,rfl⟩|⟨_,_,rfl⟩|⟨h1,h2,rfl⟩
 ·exact c
 ·exact c
 ·intro el er e1 e2
  rcases c el er e1 e2 with x|⟨q,hq,e,n⟩
  ·exact .inl x
  ·by_cases z:q.1=p.1
   ·have:=h2 q hq z
    exact .inr ⟨p,yl,z▸e,fun y=>n (Wy.trans y this)⟩
   ·exact .inr ⟨q,E8 hq z,e,n⟩
theorem Fa(h:lF T L N E){l r a:Nat}{B':List Ro}{el er:Ro}(e1:E[l]?=some el)(e2:E[r]?=some er)(qC:l=E.length-1\/r=E.length-1)(o:E9 E B (T a el.1 er.1,qZ l r a el er) B'):HH T E B' l r a:=by
 intro el' er' f1 f2
 rw[e1]at f1;rw[e2]at f2
 cases f1;cases f2
 rcases o with⟨h1,rfl⟩|⟨_,⟨q,hq,e,n⟩,rfl⟩|⟨h1,h2,rfl⟩
 ·obtain⟨x,hx,e⟩:=aS.mp h1
  obtain⟨i,hi⟩:=bw hx
  refine .inl ⟨i,x,hi,e,fun z=>?_⟩
  rcases qC with y|y
  ·have:=h.top hi (by rw[<- y];exact e1)
   unfold Wy.lt at z;simp only at z;omega
  ·have:=h.top hi (by rw[<- y];exact e2)
   unfold Wy.lt at z;simp only at z;omega
 ·exact .inr ⟨q,hq,e,n⟩
 ·exact .inr ⟨_,yl,rfl,fun z=>by unfold Wy.lt at z;simp only at z;omega⟩
theorem Cu(h:lF T L N E)(b:yj T L N E B){p:Ro}(hp:p∈B):lF T L N (E++[p]):=by
 obtain⟨w,hn,hN⟩:=b.ok p hp
 obtain⟨r,hr⟩:=h.zero
 refine⟨⟨r++[p],by rw[hr];rfl⟩,fun e he=>?_,?_,fun i e he hi=>?_,fun i e f h1 h2=>?_⟩
 ·rcases aQ.mp he with he|he
  ·exact h.lt e he
  ·rw[bL.mp he];exact hN
 ·rw[dz,dg]
  refine⟨h.nd,by simp,fun a ha c hc=>?_⟩
  simp only[aR,eB,bL]at hc
  subst hc
  exact fun z=>hn (z▸ha)
 ·by_cases hl:i<E.length
  ·rw[az hl]at he
   obtain⟨a,c,d⟩:=h.row i e he hi
   exact⟨a,c,d.app⟩
  ·have:i=E.length:=by have:=(aa.mp he).1;simp at this;omega
   subst this
   rw[cO]at he;cases he
   obtain⟨el,er,e1,e2,e3⟩:=w
   exact⟨(aa.mp e1).1,(aa.mp e2).1,LR.app ⟨el,er,e1,e2,e3⟩⟩
 ·by_cases hl:i+1<E.length
  ·rw[az hl]at h2
   rw[az (by omega)]at h1
   exact h.rise i e f h1 h2
  ·have:i+1=E.length:=by have:=(aa.mp h2).1;simp at this;omega
   rw[this,cO]at h2;cases h2
   rw[az (by omega)]at h1
   exact b.up p hp e (by rw[<- h1];congr 1;omega)
theorem Cv(h:lF T L N E)(b:yj T L N E B){p:Ro}(hp:p∈B)(L_:∀q∈B,¬ q.2.lt p.2):yj T L N (E++[p]) (B.filter fun q=>decide (q.1≠p.1)):=by
 refine⟨(List.Nodup.sublist (List.filter_sublist.map _) b.nd),fun q hq=>?_,fun q hq e he=>?_⟩
 ·obtain⟨hq,m5⟩:=cB.mp hq
  obtain⟨w,hn,hN⟩:=b.ok q hq
  refine⟨w.app,?_,hN⟩
  rw[dz,aQ]
  rintro(z|z)
  ·exact hn z
  ·simp only[aR,eB,bL]at z
   exact iL m5 z
 ·obtain⟨hq,m5⟩:=cB.mp hq
  have he:(E++[p])[E.length]?=some e:=by rw[<- he];congr 1;simp
  rw[cO]at he;cases he
  have h1:=L_ q hq
  obtain⟨el,er,a1,a2,a3,a4,a5⟩:=(b.ok q hq).1
  obtain⟨fl,fr,c1,c2,c3,c4,c5⟩:=(b.ok p hp).1
  obtain⟨q1,⟨s,l,r,a⟩⟩:=q
  obtain⟨p1,⟨s',l',r',a'⟩⟩:=p
  simp only at a1 a2 a3 a4 a5 c1 c2 c3 c4 c5
  by_cases z:l=l'/\r=r'/\a=a'
  ·obtain⟨rfl,rfl,rfl⟩:=z
   rw[a1]at c1;rw[a2]at c2
   cases c1;cases c2
   exact(iL m5 (a4.symm.trans c4)).elim
  ·by_cases y:Wy.lt ⟨s',l',r',a'⟩ ⟨s,l,r,a⟩
   ·exact y
   ·have:=Wy.tri h1 y
    cases this
    exact(z ⟨rfl,rfl,rfl⟩).elim
theorem Fb{l r a:Nat}{p:Ro}(hp:p∈B)(nd:(B.map Prod.fst).Nodup)(hl:l<E.length)(hr:r<E.length)(c:HH T E B l r a):HH T (E++[p]) (B.filter fun q=>decide (q.1≠p.1)) l r a:=by
 intro el er e1 e2
 rw[az hl]at e1
 rw[az hr]at e2
 rcases c el er e1 e2 with⟨i,e,f1,f2,f3⟩|⟨q,hq,f2,f3⟩
 ·exact .inl ⟨i,e,by rw[az (aa.mp f1).1];exact f1,f2,f3⟩
 ·by_cases z:q.1=p.1
  ·obtain rfl:=A7 nd hq hp z
   exact .inl ⟨E.length,q,cO,f2,f3⟩
  ·exact .inr ⟨q,cB.mpr ⟨hq,bv z⟩,f2,f3⟩
end
def dI{α:Type}(f:α->Nat)(g:α->W)(l:List α):List (DK×W):=l.map fun a=>(DK.i (f a:Nat),g a)
section
variable{α:Type}{f:α->Nat}{g:α->W}{l:List α}
theorem zW(q:Nat)(a:α):decide ((DK.i (f a:Nat))=DK.i (q:Nat))=decide (f a=q):=by
 rw[dX,bM,bM]
 constructor
 ·intro h;injection h with h;omega
 ·intro h;rw[h]
theorem Fc(q:Nat):kt (dI f g l) (.i q)=(l.find? fun a=>decide (f a=q)).map g:=by
 unfold kt dI
 rw[List.find?_map]
 simp only[cN,zW,Option.map_map]
theorem A8(q:Nat):(kt (dI f g l) (.i q)).isSome=decide (q∈l.map f):=by
 rw[Fc,gS,dX,List.find?_isSome,bM,aS]
 simp
theorem Fd{a:α}(h:(l.map f).Nodup)(ha:a∈l):kt (dI f g l) (.i (f a:Nat))=some (g a):=by
 rw[Fc]
 induction l with
 |nil=>cases ha
 |cons b l ih=>
  simp only[aR,fN]at h
  rw[br]
  rcases a7.mp ha with rfl|ha'
  ·simp
  ·have:f b≠f a:=fun z=>h.1 (z▸aS.mpr ⟨a,ha',rfl⟩)
   rw[show decide (f b=f a)=false from be this]
   exact ih h.2 ha'
theorem wn{a:α}(h:f a∉l.map f):sE (dI f g l) (.i (f a:Nat)) (g a)=dI f g (l++[a]):=by
 unfold sE
 rw[aD]
 ·unfold dI;rw[dz];rfl
 ·intro z
  unfold dI at z
  rw[List.any_map,i8]at z
  obtain⟨x,hx,e⟩:=z
  simp only[cN,zW,bM]at e
  exact h (aS.mpr ⟨x,hx,e⟩)
theorem HK(q:Nat):j0 (dI f g l) (.i q)=dI f g (l.filter fun a=>decide (f a≠q)):=by
 unfold j0 dI
 rw[jD]
 congr 1
 refine iO fun a _=>?_
 show decide ((DK.i (f a:Nat))≠DK.i (q:Nat))=decide (f a≠q)
 rw[decide_not,zW,decide_not]
theorem oW:(dI f g l).length=l.length:=by simp[dI]
end
def wp(w:Wy):W:=.tup (w.z.map W.int)
abbrev bW(B:List Ro):List (DK×W):=dI (fun p:Ro=>p.1) (fun p=>wp p.2) B
abbrev tW(E:List Ro):List (DK×W):=dI (fun p:Ro=>p.1) (fun _=>W.bl true) E
theorem LS(B:List Ro)(p:Ro):sE (bW B) (.i (p.1:Nat)) (wp p.2)=bW (qt B p):=by
 by_cases h:p.1∈B.map Prod.fst
 ·unfold qt
  rw[ax h]
  unfold sE
  rw[ax]
  ·unfold bW dI
   rw[bb,bb]
   refine bC fun q _=>?_
   show(if DK.i (q.1:Nat)=DK.i (p.1:Nat)then _ else _)=_
   by_cases e:q.1=p.1
   ·rw[ax (by rw[e])]
    show _=(DK.i ((if q.1=p.1 then p else q).1:Nat),wp (if q.1=p.1 then p else q).2)
    rw[ax e];show(DK.i (q.1:Nat),_)=_;rw[e]
   ·rw[aD (by intro z;injection z with z;omega)]
    show _=(DK.i ((if q.1=p.1 then p else q).1:Nat),wp (if q.1=p.1 then p else q).2)
    rw[aD e]
  ·unfold bW dI
   rw[List.any_map,i8]
   obtain⟨x,hx,e⟩:=aS.mp h
   exact⟨x,hx,by simp only[cN,bM];rw[e]⟩
 ·unfold qt
  rw[aD h]
  exact wn (f:=fun p:Ro=>p.1) (g:=fun p=>wp p.2) (a:=p) h
theorem QP(w:Wy):gs (w.z.map W.int)=some w.z:=rfl
theorem tw:∀B:List Ro,jO (bW B)=some (B.map fun p=>p.2.z)
 |[]=>rfl
 |p::B=>by
  show(match zv (wp p.2),jO (bW B)with|some a,some b=>some (a::b)|_,_=>none)=_
  rw[tw B];rfl
theorem ym(B:List Ro):∀j,j<B.length->∃p,B[j3 (fun a=>(B.map fun p=>p.2.z).getD a []) j]?=some p/\∀i q,i<=j->B[i]?=some q->¬ q.2.lt p.2
 |0,h=>⟨B[0],ae h,fun i q hi hq=>by
   obtain rfl:i=0:=by omega
   rw[ae h]at hq;cases hq
   exact Wy.irr _⟩
 |j+1,h=>by
  obtain⟨p,hp,hm⟩:=ym B j (by omega)
  have hj:B[j+1]?=some B[j+1]:=ae h
  have kz:∀(i:Nat) (q:Ro),B[i]?=some q->(B.map fun p=>p.2.z).getD i []=q.2.z:=fun i q e=>by
   rw[aZ,ar,e];rfl
  unfold j3
  simp only[kz _ _ hj,kz _ _ hp]
  split
  ·rename_i z
   rw[Wy.lex]at z
   refine⟨B[j+1],hj,fun i q hi hq=>?_⟩
   rcases jW i (j+1)with y|y
   ·have:=hm i q (by omega) hq
    exact fun y=>this (Wy.trans y z)
   ·obtain rfl:i=j+1:=by omega
    rw[hj]at hq;cases hq
    exact Wy.irr _
  ·rename_i z
   refine⟨p,hp,fun i q hi hq=>?_⟩
   rcases jW i (j+1)with y|y
   ·exact hm i q (by omega) hq
   ·obtain rfl:i=j+1:=by omega
    rw[hj]at hq;cases hq
    intro y;exact z ((Wy.lex _ _).mpr y)
section
variable{st st1:List ao}{n:Nat}{kvs:List (DK×W)}{ρ:bS}
theorem f'(h:st[n]?=some (.dct kvs)):jG st (.loc n)=some (n,kvs):=by simp only[jG,h]
theorem PD(h:st[n]?=some (.rod kvs)):jG st (.loc n)=some (n,kvs):=by simp only[jG,h]
theorem wq(h:st[n]?=some (.dct kvs)):qX st (.loc n)=some (n,kvs):=by simp only[qX,h]
theorem A9{q:Nat}{Ac b:Bool}(h:jG st (.loc n)=some (n,kvs))(hb:(if Ac then !(kt kvs (.i q)).isSome else(kt kvs (.i q)).isSome)=b):vR Ac (.int q) (.loc n) st=.ok (.bl b) st:=by
 rw[<- hb];simp only[vR,h,jZ]
theorem mT{q:Nat}{w:W}(h:jG st (.loc n)=some (n,kvs))(hb:kt kvs (.i q)=some w):iY (.loc n) (.int q) st=.ok w st:=by
 simp only[iY,h,jZ,hb,cJ]
theorem wt{q:Nat}{v:W}(h:st[n]?=some (.dct kvs))(hl:kvs.length<jE):kF (.loc n) (.int q) v st=some (st.set n (.dct (sE kvs (.i q) v))):=by
 simp only[kF,wq h,jZ];rw[ax hl]
theorem zX(h:jG st (.loc n)=some (n,kvs)):sH [.loc n] st=.ok (.int kvs.length) st:=by
 simp only[sH,h]
theorem LU{fo fk:FE}{q:Nat}{w:W}(h1:fo ρ st=.ok (.loc n) st)(h2:fk ρ st=.ok (.int q) st)(h:st[n]?=some (.dct kvs))(hg:kt kvs (.i q)=some w):AO fo fk ρ st=.ok w (st.set n (.dct (j0 kvs (.i q)))):=by
 unfold AO
 rw[h1];simp only[R.bind_ok,wq h]
 rw[h2];simp only[R.bind_ok,wq h,jZ,hg,cJ]
theorem HL{i j:Nat}{T:Addr}{pos:Pos}{q:Str}{ks:List (List Int)}{p:DK×W}(h0:ρ[i]?=some (some (.loc n)))(h:st[n]?=some (.dct kvs))(hk:jO kvs=some ks)(ht:st[j]?=some (.tab T pos q))(hp:kvs[j3 (fun a=>ks.getD a []) (kvs.length-1)]?=some p) :
  sJ i j T pos q ρ st=.ok p.1.w st:=by
 unfold sJ
 rw[h0];simp only[wq h,hk]
 rw[ax (show D6 st j T pos q from ht),hp];rfl
theorem OL{w v:Wy}{b:Bool}(h:HT.lexLt w.z v.z=b):B_ (wp w) (wp v) st=.ok (.bl b) st:=by
 rw[<- h];rfl
theorem HM{N:Nat}{body:FS}{ws:List W}{c:Nat}{d:ao}(hc:c<st.length)(hd:d.und st.length=true)(h:gH (En fun _ bG=>∃x,bG=st.set c d++x) (body (ws.map some++List.replicate (N-ws.length) none) st)):fI N body ws st=.ok .non (st.set c d):=by
 obtain⟨ρ',bG,e,x,rfl⟩:=h
 unfold fI
 rw[e]
 show R.ok W.non (kC st (st.set c d++x) [.non])=_
 unfold kC
 rw[ax]
 ·congr 1
  rw[List.take_append_of_le_length (by simp),gA (by simp)]
 ·refine⟨rfl,by simp,fun i hi=>?_⟩
  rw[az (by simpa using hi)]
  by_cases z:c=i
  ·subst z
   exact .inr ⟨d,by rw[bg hi],hd⟩
  ·exact .inl (by rw[a_ z])
end
theorem nF{ρ:bS}{st st1:List ao}{P:RS->Prop}{fi:FI}{f:FG}{body:FS}{k:zh}(I:Nat->bS->List ao->Prop)(h:fi ρ st=.ok k st1)(h0:I 0 ρ st1)(hc:∀i ρ st,I i ρ st->iB st k.2)
  (hs:∀i w ρ st,k.1[i]?=some w->I i ρ st->∃ρ',f w ρ=some ρ'/\gH (En (I (i+1))) (body ρ' st)) (he:∀ρ st,I k.1.length ρ st->P (.nx ρ st)):gH P (e_ fi f body ρ st):=by
 obtain⟨ρ2,cQ,e,h2⟩:=sU (f:=f) (body:=body) (ck:=k.2) I (ws:=k.1) (ρ:=ρ) (st:=st1) 0 h0 hc fun i w ρ st hw hI=>by
  rw[hV]at hI ⊢
  obtain⟨ρ',e1,ρ2,cQ,e2,h2⟩:=hs i w ρ st hw hI
  exact⟨ρ',ρ2,cQ,e1,e2,h2⟩
 rw[hV]at h2
 rw[v5 h,e];exact he _ _ h2
def wQ(n:Nat):List (Nat×Nat):=(List.range (n+1)).map (fun o=>(n,o))++(List.range n).map (fun o=>(o,n))
def iR(p:Nat×Nat):W:=.tup [.int (p.1:Nat),.int (p.2:Nat)]
theorem tz{β:Type}(q:Nat)(F:W->β):(cx 0 q).map F=(List.range q).map fun i=>F (.int (i:Nat)):=by
 unfold cx
 rw[bb]
 refine bC fun i _=>?_
 show F (.int (0+(i:Int)))=_
 rw[gC]
theorem Fe(n:Nat)(hn:n<=1000)(st:List ao):∃x y,Ck [.int n] st=.ok (.loc (st.length+2)) (st++[.lst x,.lst y,.lst ((wQ n).map iR)]):=by
 refine⟨List.map (fun w=>W.tup [.int n,w]) (cx 0 ((n:Int)+1).toNat),List.map (fun w=>W.tup [w,.int n]) (cx 0 (n:Int).toNat),pH (N:=1) (body:=Om) (ws:=[.int n]) (k:=2) ?_⟩
 refine jh ?_
 refine bE (g9 (fun w=>.tup [.int n,w]) (eG (am (bE (ak rfl) cR fA) aM) (by omega)) ?_ trivial ?_) (g9 (fun w=>.tup [w,.int n]) (eG (am (ak rfl) aM) (by omega)) ?_ trivial ?_) ?_
 ·rw[cx,al,cM];show _<=1000000;omega
 ·intro w hw
  exact⟨_,rfl,(by(walk_at "evs"))⟩
 ·rw[cx,al,cM];show _<=1000000;omega
 ·intro w hw
  exact⟨_,rfl,(by(walk_at "evs"))⟩
 ·have ea:(wQ n).map iR=List.map (fun w=>W.tup [.int n,w]) (cx 0 ((n:Int)+1).toNat)++List.map (fun w=>W.tup [w,.int n]) (cx 0 (n:Int).toNat):=by
   rw[tz,tz,wQ,dz,bb,bb]
   rfl
  rw[zF (ws:=List.map (fun w=>W.tup [.int n,w]) (cx 0 ((n:Int)+1).toNat)) (xs:=List.map (fun w=>W.tup [w,.int n]) (cx 0 (n:Int).toNat)) (aG (by rw[cu];rfl)) (by rw[cu];rfl),ea]
  ·simp
  ·simp[cx];show _<=1000000;omega
theorem LV{n i:Nat}{p:Nat×Nat}(h:(wQ n)[i]?=some p):p.1<=n/\p.2<=n/\(p.1=n\/p.2=n):=by
 have:=aN h
 unfold wQ at this
 rcases aQ.mp this with h|h
 ·obtain⟨o,ho,rfl⟩:=aS.mp h
  have:=bt.mp ho
  exact⟨aB _,by simp only;omega,.inl rfl⟩
 ·obtain⟨o,ho,rfl⟩:=aS.mp h
  have:=bt.mp ho
  exact⟨by simp only;omega,aB _,.inr rfl⟩
theorem HN{n l r:Nat}(hl:l<=n)(hr:r<=n)(h:l=n\/r=n):∃i:Nat,i<(wQ n).length/\(wQ n)[i]?=some (l,r):=by
 have:(l,r)∈wQ n:=by
  unfold wQ
  rw[aQ]
  by_cases z:l=n
  ·subst z
   exact .inl (aS.mpr ⟨r,bt.mpr (by omega),rfl⟩)
  ·have:r=n:=by omega
   subst this
   exact .inr (aS.mpr ⟨l,bt.mpr (by omega),rfl⟩)
 obtain⟨i,hi⟩:=bw this
 exact⟨i,(aa.mp hi).1,hi⟩
def u7(E:List Ro)(i:Nat)(e:Ro)(w:W):Prop:=(i=0/\w=.tup [.int (e.1:Nat),.int (e.2.s:Nat),.tup []])\/(0<i/\∃el er:Ro,E[e.2.l]?=some el/\E[e.2.r]?=some er/\w=.tup [.int (e.1:Nat),.int (e.2.s:Nat),.tup [.int (el.1:Nat),.int (er.1:Nat),.int (e.2.a:Nat)]])
structure Rows(E:List Ro)(R:List W):Prop where
 len:R.length=E.length
 at':∀(i:Nat) (e:Ro),E[i]?=some e->∃w,R[i]?=some w/\u7 E i e w
theorem u7.sh{E:List Ro}{i:Nat}{e:Ro}{w:W}(h:u7 E i e w):∃t,w=.tup [.int (e.1:Nat),.int (e.2.s:Nat),t]:=by
 rcases h with⟨_,rfl⟩|⟨_,_,_,_,_,rfl⟩<;>exact⟨_,rfl⟩
theorem u7.app{E x:List Ro}{i:Nat}{e:Ro}{w:W}(h:u7 E i e w):u7 (E++x) i e w:=by
 rcases h with h|⟨h0,el,er,h1,h2,h3⟩
 ·exact .inl h
 ·exact .inr ⟨h0,el,er,by rw[az (aa.mp h1).1];exact h1,by rw[az (aa.mp h2).1];exact h2,h3⟩
def bd(M:Mc)(a l r:Nat):Nat:=((M.tb.getD a []).getD l []).getD r 0
section
variable{M:Mc}{N:Nat}
theorem u8(hM:qP M N){a:Nat}{t:List (List Nat)}(ht:M.tb[a]?=some t){l r:Nat}(hl:l<N)(hr:r<N):∃row,t[l]?=some row/\row[r]?=some (bd M a l r)/\bd M a l r<N:=by
 obtain⟨t1,t2⟩:=hM.t t (aN ht)
 have hl':l<t.length:=by omega
 have e1:t[l]?=some t[l]:=ae hl'
 obtain⟨r1,r2⟩:=t2 t[l] (fq hl')
 have hr':r<t[l].length:=by omega
 have e2:t[l][r]?=some t[l][r]:=ae hr'
 have e3:bd M a l r=t[l][r]:=by
  unfold bd
  rw[aZ,aZ,aZ,ht]
  simp only[Option.getD_some,e1,e2]
 exact⟨t[l],e1,by rw[e2,e3],by rw[e3];exact r2 _ (fq hr')⟩
theorem u9{t:List (List Nat)}{l:Nat}{row:List Nat}{st:List ao}(h:t[l]?=some row):bH (fK t) (.int (l:Nat)) st=.ok (iZ row) st:=by
 unfold fK;exact dq (dO (by rw[ar,h];rfl))
theorem u_{row:List Nat}{r k:Nat}{st:List ao}(h:row[r]?=some k):bH (iZ row) (.int (r:Nat)) st=.ok (.int (k:Nat)) st:=by
 unfold iZ;exact dq (dO (by rw[ar,h];rfl))
end
structure Go(T:Nat->Nat->Nat->Nat)(L N:Nat)(E B:List Ro)(D:Nat->Nat->Nat->Prop):Prop where
 best:yj T L N E B
 cov:∀l r a,D l r a->HH T E B l r a
theorem Go.imp{T:Nat->Nat->Nat->Nat}{L N:Nat}{E B:List Ro}{D D':Nat->Nat->Nat->Prop}(g:Go T L N E B D)(h:∀l r a,D' l r a->D l r a):Go T L N E B D':=⟨g.best,fun l r a d=>g.cov l r a (h l r a d)⟩
theorem Go.one{T:Nat->Nat->Nat->Nat}{L N:Nat}{E B B':List Ro}{D:Nat->Nat->Nat->Prop}(h:lF T L N E)(g:Go T L N E B D){l r a:Nat}{el er:Ro}(e1:E[l]?=some el)(e2:E[r]?=some er)(ha:a<L)(hN:T a el.1 er.1<N)
  (qC:l=E.length-1\/r=E.length-1) (o:E9 E B (T a el.1 er.1,qZ l r a el er) B'):Go T L N E B' (fun l' r' a'=>D l' r' a'\/l'=l/\r'=r/\a'=a):=
 ⟨E_ h g.best ⟨el,er,e1,e2,ha,rfl,rfl⟩ hN qC o,fun l' r' a' d=>by
  rcases d with d|⟨rfl,rfl,rfl⟩
  ·exact HJ o g.best.nd (g.cov _ _ _ d)
  ·exact Fa h e1 e2 qC o⟩
theorem yn(n:Nat):∀l:List Int,undWs n (l.map W.int)=true
 |[]=>rfl
 |_::l=>by simp only[aR,undWs,yn n l,b_];rfl
theorem LW(n:Nat)(B:List Ro):(ao.dct (bW B)).und n=true:=by
 show undWs n ((bW B).map fun p=>p.2)=true
 unfold bW dI
 rw[bb]
 induction B with
 |nil=>rfl
 |cons b B ih=>
  simp only[aR,undWs,ih,b_]
  show(wp b.2).und n=true
  unfold wp W.und
  exact yn n _
section
variable{M:Mc}{N:Nat}{E B:List Ro}{R:List W}{st:List ao}{ra rb rc:Nat}
theorem A_(hM:qP M N)(hN:N<=100)(q9:st[ra]?=some (.lst R))(Pj:st[rb]?=some (.dct (tW E)))(Gi:st[rc]?=some (.dct (bW B)))(n1:rc≠ra)(n2:rc≠rb)(hR:Rows E R)(h:lF (bd M) M.tb.length N E)
  (g:Go (bd M) M.tb.length N E B fun l r a=>l<E.length-1/\r<E.length-1/\a<M.tb.length) :
  ∃B',Go (bd M) M.tb.length N E B' (fun l r a=>l<E.length/\r<E.length/\a<M.tb.length)/\Co [M.w,.loc ra,.loc rb,.loc rc] st=.ok .non (st.set rc (.dct (bW B'))):=by
 have hE:=h.len
 have hE0:=h.len0
 suffices hh:gH (En fun _ bG=>∃B',Go (bd M) M.tb.length N E B' (fun l r a=>l<E.length/\r<E.length/\a<M.tb.length)/\∃x,bG=st.set rc (.dct (bW B'))++x) (Ox ([M.w,W.loc ra,.loc rb,.loc rc].map some++List.replicate (11-4) none) st) by
  obtain⟨ρ',bG,e,B',hg,hx⟩:=hh
  exact⟨B',hg,HM (aa.mp Gi).1 (LW _ _) ⟨ρ',bG,e,hx⟩⟩
 obtain⟨x,y,ep⟩:=Fe (E.length-1) (by omega) st
 have hc:=(aa.mp Gi).1
 have elen:((R.length:Int)-1)=((E.length-1:Nat):Int):=by rw[hR.len];omega
 generalize wF:st++[ao.lst x,.lst y,.lst ((wQ (E.length-1)).map iR)]=s1 at ep
 have qR:s1[st.length+2]?=some (.lst ((wQ (E.length-1)).map iR)):=by rw[<- wF,f9];rfl
 have p1:st <+: s1:=by rw[<- wF];exact aC _ _
 have hq:∀(B':List Ro) (i:Nat) (c:ao),i≠rc->s1[i]?=some c->(s1.set rc (.dct (bW B')))[i]?=some c:=fun B' i c hi e=>by rw[a_ (Ne.symm hi)];exact e
 have hq':∀(B':List Ro),(s1.set rc (.dct (bW B')))[rc]?=some (.dct (bW B')):=fun B'=>bg (a6 hc p1.length_le)
 have yI:s1.set rc (.dct (bW B))=s1:=by
  refine kP fun i=>?_
  by_cases z:rc=i
  ·subst z;rw[hq',pre_get p1 Gi]
  ·rw[a_ z]
 refine nF (fun i ρ s=>∃(B':List Ro) (o4 o5 o6 o7 o8 o9 um:Option W),ρ=[some M.w,some (.loc ra),some (.loc rb),some (.loc rc),o4,o5,o6,o7,o8,o9,um]/\s=s1.set rc (.dct (bW B')) /\
   Go (bd M) M.tb.length N E B' fun l r a=>(l<E.length-1/\r<E.length-1\/∃j,j<i/\(wQ (E.length-1))[j]?=some (l,r))/\a<M.tb.length) (k:=((wQ (E.length-1)).map iR,some (st.length+2,(wQ (E.length-1)).map iR))) (st1:=s1)
  (eW (dm (am (bE (bP (am (ak rfl) aM) (il (aO q9))) cR rfl) aM) (by show Ck [W.int ((R.length:Int)-1)] st=_;rw[elen];exact ep) rfl) (aO qR))
  ⟨B,_,_,_,_,_,_,_,rfl,yI.symm,g.imp fun l r a d=>?_⟩ ?_ ?_ ?_
 ·obtain⟨d|⟨j,z,_⟩,da⟩:=d
  ·exact⟨d.1,d.2,da⟩
  ·exact absurd z (cC _)
 ·rintro i ρ s ⟨B',o4,o5,o6,o7,o8,o9,um,rfl,rfl,gg⟩
  exact aO (hq B' _ _ (by omega) qR)
 ·rintro i w ρ s hw ⟨B0,o4,o5,o6,o7,o8,o9,um,rfl,rfl,gg⟩
  rw[ar]at hw
  cases hp:(wQ (E.length-1))[i]? with
  |none=>rw[hp]at hw;cases hw
  |some p=>
   obtain⟨l,r⟩:=p
   rw[hp]at hw
   cases hw
   obtain⟨hl,hr,qC⟩:=LV hp
   simp only at hl hr qC
   have hl':l<E.length:=by omega
   have hr':r<E.length:=by omega
   obtain⟨el,hel⟩:∃el,E[l]?=some el:=⟨_,ae hl'⟩
   obtain⟨er,her⟩:∃er,E[r]?=some er:=⟨_,ae hr'⟩
   obtain⟨wl,CW,rl⟩:=hR.at' l el hel
   obtain⟨wr,hwr,rr⟩:=hR.at' r er her
   obtain⟨tl,rfl⟩:=rl.sh
   obtain⟨tr,rfl⟩:=rr.sh
   clear rl rr
   have hlN:el.1<N:=h.lt el (aN hel)
   have PM:er.1<N:=h.lt er (aN her)
   have xl:∀B',bH (.loc ra) (.int (l:Nat)) (s1.set rc (.dct (bW B')))=.ok _ _:=fun B'=>lB (aO (hq B' _ _ (Ne.symm n1) (pre_get p1 q9))) (dO CW)
   have xr:∀B',bH (.loc ra) (.int (r:Nat)) (s1.set rc (.dct (bW B')))=.ok _ _:=fun B'=>lB (aO (hq B' _ _ (Ne.symm n1) (pre_get p1 q9))) (dO hwr)
   refine⟨_,rfl,?_⟩
   apply aI
   ·exact bR (bE (bE (bE (bE (ak rfl) (ak rfl) (xl B0)) cR (dq rfl)) (bE (bE (ak rfl) (ak rfl) (xr B0)) cR (dq rfl)) fA) cR fA)
   refine nF (fun k ρ s=>∃(B':List Ro) (o7 o8 o9 um:Option W),ρ=[some M.w,some (.loc ra),some (.loc rb),some (.loc rc),some (.int (l:Nat)),some (.int (r:Nat)),some (.int ((el.2.s:Int)+(er.2.s:Int)+1)),o7,o8,o9,um]/\s=s1.set rc (.dct (bW B')) /\
     Go (bd M) M.tb.length N E B' fun l' r' a'=>((l'<E.length-1/\r'<E.length-1\/∃j,j<i/\(wQ (E.length-1))[j]?=some (l',r'))/\a'<M.tb.length)\/l'=l/\r'=r/\a'<k) (k:=(mQ (M.tb.map fK),none)) (st1:=s1.set rc (.dct (bW B0)))
    (by show qh (ai (e2 bH (ag 0) (eI 2)) aE) _ _=_;unfold qh;rfl) ⟨B0,_,_,_,_,rfl,rfl,gg.imp fun l' r' a' d=>?_⟩ (fun _ _ _ _=>trivial) ?_ ?_
   ·rcases d with d|⟨_,_,d⟩
    ·exact d
    ·exact absurd d (cC _)
   ·rintro k w ρ s hw ⟨B1,o7,o8,o9,um,rfl,rfl,gg⟩
    obtain⟨y,hy,rfl⟩:=nO hw
    rw[ar]at hy
    cases ht:M.tb[k]? with
    |none=>rw[ht]at hy;cases hy
    |some t=>
     rw[ht]at hy
     cases hy
     have hk:k<M.tb.length:=(aa.mp ht).1
     obtain⟨row,t1e,t2e,t3e⟩:=u8 hM ht hlN PM
     refine⟨_,rfl,?_⟩
     apply aI
     ·exact bR (bE (bE (ak rfl) (bE (bE (ak rfl) (ak rfl) (xl B1)) cR (dq rfl)) (u9 t1e)) (bE (bE (ak rfl) (ak rfl) (xr B1)) cR (dq rfl)) (u_ t2e))
     apply aI
     ·exact bR (fR (am (ak rfl) (am (ak rfl) (am (ak rfl) (am (ak rfl) aM)))) (cI rfl))
     have ew:W.tup [.int ((el.2.s:Int)+(er.2.s:Int)+1),.int (l:Nat),.int (r:Nat),.int (k:Nat)]=wp (qZ l r k el er):=by
      unfold wp Wy.z
      simp only[aR,eB,Int.natCast_add];rfl
     have hto:jG (s1.set rc (.dct (bW B1))) (.loc rb)=some (rb,tW E):=f' (hq B1 _ _ (Ne.symm n2) (pre_get p1 Pj))
     have hbo:jG (s1.set rc (.dct (bW B1))) (.loc rc)=some (rc,bW B1):=f' (hq' B1)
     have fin:∀B',E9 E B1 (bd M k el.1 er.1,qZ l r k el er) B'->Go (bd M) M.tb.length N E B' fun l' r' a'=>((l'<E.length-1/\r'<E.length-1\/∃j,j<i/\(wQ (E.length-1))[j]?=some (l',r'))/\a'<M.tb.length)\/l'=l/\r'=r/\a'<k+1:=fun B' o=>
      (Go.one h gg hel her hk t3e qC o).imp fun l' r' a' d=>by
       rcases d with d|⟨rfl,rfl,d⟩
       ·exact .inl (.inl d)
       ·rcases jW a' k with z|z
        ·exact .inl (.inr ⟨rfl,rfl,z⟩)
        ·exact .inr ⟨rfl,rfl,by omega⟩
     have put:∀ρ:bS,ρ[3]?=some (some (.loc rc))->ρ[9]?=some (some (.int (bd M k el.1 er.1:Nat)))->ρ[10]?=some (some (wp (qZ l r k el er)))->kT (ag 3) (ag 9) (ag 10) kF ρ (s1.set rc (.dct (bW B1)))=.nx ρ (s1.set rc (.dct (bW (qt B1 (bd M k el.1 er.1,qZ l r k el er))))):=fun ρ r3 r9 r10=>by
      refine kG (ak r10) (ak r3) (ak r9) ?_
      rw[wt (hq' B1) (by rw[oW];have:=gg.best.len;show _<1000000;omega),p9,LS B1 (bd M k el.1 er.1,qZ l r k el er)]
     rw[ew]
     by_cases c1:bd M k el.1 er.1∈E.map Prod.fst
     ·refine kH (v6 (dE (bE (ak rfl) (ak rfl) (A9 (b:=false) hto (by rw[A8];simp only[d6];rw[bv c1];rfl))))) ?_
      exact⟨_,_,rfl,B1,_,_,_,_,rfl,rfl,fin B1 (.inl ⟨c1,rfl⟩)⟩
     ·have t1:∀ρ:bS,ρ[9]?=some (some (.int (bd M k el.1 er.1:Nat)))->ρ[2]?=some (some (.loc rb))->gp (e2 (vR true) (ag 9) (ag 2)) ρ (s1.set rc (.dct (bW B1)))=.ok true _:=fun ρ r9 r2=>
       dE (bE (ak r9) (ak r2) (A9 (b:=true) hto (by rw[A8];simp only[d6];rw[be c1];rfl)))
      by_cases c2:bd M k el.1 er.1∈B1.map Prod.fst
      ·obtain⟨q,hqB,hq1⟩:=aS.mp c2
       have t2:∀ρ:bS,ρ[9]?=some (some (.int (bd M k el.1 er.1:Nat)))->ρ[3]?=some (some (.loc rc))->gp (e2 (vR true) (ag 9) (ag 3)) ρ (s1.set rc (.dct (bW B1)))=.ok false _:=fun ρ r9 r2=>
        dE (bE (ak r9) (ak r2) (A9 (b:=false) hbo (by rw[A8];simp only[d6];rw[bv c2];rfl)))
       have gt:kt (bW B1) (.i (bd M k el.1 er.1:Nat))=some (wp q.2):=by
        rw[<- hq1];exact Fd (f:=fun p:Ro=>p.1) (g:=fun p=>wp p.2) gg.best.nd hqB
       have t3:∀(b:Bool) (ρ:bS),HT.lexLt (qZ l r k el er).z q.2.z=b->ρ[9]?=some (some (.int (bd M k el.1 er.1:Nat)))->ρ[3]?=some (some (.loc rc))->ρ[10]?=some (some (wp (qZ l r k el er)))->gp (e2 B_ (ag 10) (e2 iY (ag 3) (ag 9))) ρ (s1.set rc (.dct (bW B1)))=.ok b _:=fun b ρ hb r9 r3 r10=>
        dE (bE (ak r10) (bE (ak r3) (ak r9) (mT hbo gt)) (OL hb))
       cases hb:HT.lexLt (qZ l r k el er).z q.2.z with
       |true=>
        refine lD (pI (t1 _ rfl rfl) (pJ (t2 _ rfl rfl) (t3 true _ hb rfl rfl rfl))) ?_
        exact⟨_,_,put _ rfl rfl rfl,_,_,_,_,_,rfl,rfl,fin _ (.inr (.inr ⟨c1,fun q' hq' e'=>by
         obtain rfl:=A7 gg.best.nd hqB hq' (hq1.trans e'.symm)
         exact(Wy.lex _ _).mp hb,rfl⟩))⟩
       |false=>
        refine kH (pI (t1 _ rfl rfl) (pJ (t2 _ rfl rfl) (t3 false _ hb rfl rfl rfl))) ?_
        exact⟨_,_,rfl,B1,_,_,_,_,rfl,rfl,fin B1 (.inr (.inl ⟨c1,⟨q,hqB,hq1,fun z=>by rw[(Wy.lex _ _).mpr z]at hb;cases hb⟩,rfl⟩))⟩
      ·refine lD (pI (t1 _ rfl rfl) (v7 (dE (bE (ak rfl) (ak rfl) (A9 (b:=true) hbo (by rw[A8];simp only[d6];rw[be c2];rfl)))))) ?_
       exact⟨_,_,put _ rfl rfl rfl,_,_,_,_,_,rfl,rfl,fin _ (.inr (.inr ⟨c1,fun q' hq' e'=>(c2 (aS.mpr ⟨q',hq',e'⟩)).elim,rfl⟩))⟩
   ·rintro ρ s ⟨B1,o7,o8,o9,um,rfl,rfl,gg⟩
    refine⟨_,_,rfl,B1,_,_,_,_,_,_,_,rfl,rfl,gg.imp fun l' r' a' d=>?_⟩
    obtain⟨d|⟨j,hj,d⟩,da⟩:=d
    ·exact .inl ⟨.inl d,da⟩
    ·rcases jW j i with z|z
     ·exact .inl ⟨.inr ⟨j,z,d⟩,da⟩
     ·obtain rfl:j=i:=by omega
      rw[hp]at d;cases d
      exact .inr ⟨rfl,rfl,by simpa[mQ]using da⟩
 ·rintro ρ s ⟨B',o4,o5,o6,o7,o8,o9,um,rfl,rfl,gg⟩
  refine⟨_,_,rfl,B',gg.imp fun l r a d=>?_,[ao.lst x,.lst y,.lst ((wQ (E.length-1)).map iR)],by rw[<- wF,List.set_append_left _ _ hc]⟩
  obtain⟨dl,dr,da⟩:=d
  refine⟨?_,da⟩
  by_cases z:l<E.length-1/\r<E.length-1
  ·exact .inl z
  ·obtain⟨j,hj,e⟩:=HN (n:=E.length-1) (l:=l) (r:=r) (by omega) (by omega) (by omega)
   exact .inr ⟨j,by simpa using hj,e⟩
end
theorem HP{ρ:bS}{st:List ao}{z:Int}{v:W}:uS (oQ (eC (.int z)) (eC v) sI) ρ st=.ok (.loc st.length) (st++[.dct [(.i z,v)]]):=by
 unfold uS
 have e1:oQ (eC (.int z)) (eC v) sI ρ (st++[.dct []])=.ok [(.int z,v)] (st++[.dct []]):=rfl
 rw[e1]
 simp only[R.bind_ok,cu,fj]
 rfl
theorem PF{ρ:bS}{st:List ao}{z:Int}:uS (oQ (eC (.int z)) (dk aE) sI) ρ st=.ok (.loc st.length) (st++[.dct [(.i z,.tup [])]]):=by
 unfold uS
 have e1:oQ (eC (.int z)) (dk aE) sI ρ (st++[.dct []])=.ok [(.int z,.tup [])] (st++[.dct []]):=by unfold oQ dk on;simp[aE,eC,sI,R.bind]
 rw[e1]
 simp only[R.bind_ok,cu,fj]
 rfl
theorem LX{ρ:bS}{st:List ao}:pF ρ st=.ok (.loc st.length) (st++[.dct []]):=rfl
theorem Ff{E:List Ro}{R:List W}(h:Rows E R)(n:Nat):undWs n R=true:=by
 have m3:∀w∈R,w.und n=true:=fun w hw=>by
  obtain⟨i,hi⟩:=bw hw
  have hl:=(aa.mp hi).1
  obtain⟨w',hw',ro⟩:=h.at' i (E[i]'(by rw[<- h.len];exact hl)) (ae (by rw[<- h.len];exact hl))
  rw[hi]at hw';cases hw'
  rcases ro with⟨_,rfl⟩|⟨_,_,_,_,_,rfl⟩<;>simp[W.und,undWs]
 clear h
 induction R with
 |nil=>rfl
 |cons w R ih=>
  simp only[undWs,aX]
  exact⟨m3 w (bf ..),ih fun w hw=>m3 w (aT _ hw)⟩
theorem Rows.next{E:List Ro}{R:List W}(h:Rows E R)(h0:0<E.length){p el er:Ro}(e1:E[p.2.l]?=some el)(e2:E[p.2.r]?=some er):Rows (E++[p]) (R++[.tup [.int (p.1:Nat),.int (p.2.s:Nat),.tup [.int (el.1:Nat),.int (er.1:Nat),.int (p.2.a:Nat)]]]):=
 ⟨by simp[h.len],fun i e he=>by
  by_cases hl:i<E.length
  ·rw[az hl]at he
   obtain⟨w,hw,ro⟩:=h.at' i e he
   exact⟨w,by rw[az (by rw[h.len];exact hl)];exact hw,ro.app⟩
  ·have:i=E.length:=by have:=(aa.mp he).1;simp at this;omega
   subst this
   rw[cO]at he;cases he
   exact⟨_,by rw[<- h.len,cO],.inr ⟨h0,el,er,by rw[az (aa.mp e1).1];exact e1,by rw[az (aa.mp e2).1];exact e2,rfl⟩⟩⟩
section
variable{M:Mc}{N:Nat}{st:List ao}
theorem Cw(hM:qP M N)(PU:1<=N)(hN:N<=100)(ht:st[1]?=some (.tab 54 ⟨45,29,45,52⟩ "firsts_of.<locals>.<lambda>")) :
  ∃(E:List Ro) (R:List W),lF (bd M) M.tb.length N E/\Rows E R/\(∀l r a,l<E.length->r<E.length->a<M.tb.length->HH (bd M) E [] l r a)/\Cp [M.w] st=.ok (.tup R) st:=by
 suffices hh:gH (ql fun w bG=>(∃x,bG=st++x)/\undWs st.length [w]=true/\∃(E:List Ro) (R:List W),w=.tup R/\lF (bd M) M.tb.length N E/\Rows E R/\∀l r a,l<E.length->r<E.length->a<M.tb.length->HH (bd M) E [] l r a) (Oz ([M.w].map some++List.replicate (6-1) none) st) by
  obtain⟨w,⟨E,R,rfl,h1,h2,h3⟩,e⟩:=jc hh
  exact⟨E,R,h1,h2,h3,e⟩
 apply aI
 ·(walk_at "evs")
 apply aI
 ·exact bR HP
 apply aI
 ·exact bR LX
 have hlt:1<st.length:=(aa.mp ht).1
 rw[show(st++[ao.lst [W.tup [.int 0,.int 0,.tup []]]]++[ao.dct [(DK.i 0,W.bl true)]]).length=st.length+2 by simp,show(st++[ao.lst [W.tup [.int 0,.int 0,.tup []]]]).length=st.length+1 by simp,
  show st++[ao.lst [W.tup [.int 0,.int 0,.tup []]]]++[ao.dct [(DK.i 0,W.bl true)]]++[ao.dct []]=st++[ao.lst [W.tup [.int 0,.int 0,.tup []]],.dct (tW [(0,⟨0,0,0,0⟩)]),.dct (bW [])] by simp only[aA];rfl]
 have hT0:lF (bd M) M.tb.length N [(0,⟨0,0,0,0⟩)]:=by
  refine⟨⟨[],rfl⟩,fun e he=>?_,by simp,fun i e he hi=>?_,fun i e f h1 h2=>?_⟩
  ·rw[bL.mp he];exact PU
  ·have:=(aa.mp he).1;simp at this;omega
  ·have:=(aa.mp h2).1;simp at this
 have hR0:Rows [(0,⟨0,0,0,0⟩)] [W.tup [.int 0,.int 0,.tup []]]:=⟨rfl,fun i e he=>by
  have:i=0:=by have:=(aa.mp he).1;simp at this;omega
  subst this
  cases he
  exact⟨_,rfl,.inl ⟨rfl,rfl⟩⟩⟩
 have g0:Go (bd M) M.tb.length N [(0,⟨0,0,0,0⟩)] [] fun l r a=>l<[((0:Nat),(⟨0,0,0,0⟩:Wy))].length-1/\r<[((0:Nat),(⟨0,0,0,0⟩:Wy))].length-1/\a<M.tb.length:=
  ⟨⟨by simp,fun p hp=>by simp at hp,fun p hp=>by simp at hp⟩,fun l r a d=>absurd d.1 (by simp)⟩
 obtain⟨B1,g1,ew⟩:=A_ (st:=st++[ao.lst [W.tup [.int 0,.int 0,.tup []]],.dct (tW [(0,⟨0,0,0,0⟩)]),.dct (bW [])]) (ra:=st.length) (rb:=st.length+1) (rc:=st.length+2) hM hN (by rw[cu];rfl) (by rw[f9];rfl) (by rw[f9];rfl) (by omega) (by omega) hR0 hT0 g0
 rw[jg]at ew
 apply aI
 ·exact gf (dm (am (ak rfl) (am (ak rfl) (am (ak rfl) (am (ak rfl) aM)))) ew rfl)
 clear ew g0
 refine nT (fun m ρ s=>∃(E B:List Ro) (R:List W) (o4 o5:Option W),m=N-E.length/\ρ=[some M.w,some (.loc st.length),some (.loc (st.length+1)),some (.loc (st.length+2)),o4,o5]/\s=st++[.lst R,.dct (tW E),.dct (bW B)] /\
   Rows E R/\lF (bd M) M.tb.length N E/\Go (bd M) M.tb.length N E B fun l r a=>l<E.length/\r<E.length/\a<M.tb.length) _ ⟨_,B1,_,_,_,rfl,rfl,rfl,hR0,hT0,g1⟩ ?_ ?_
 ·rintro m ρ s ⟨E,B,R,o4,o5,rfl,rfl,rfl,hR,hT,g⟩
  have hb:(st++[ao.lst R,.dct (tW E),.dct (bW B)])[st.length+2]?=some (.dct (bW B)):=by rw[f9];rfl
  cases B with
  |nil=>exact .inl (dE (bE (bP (am (ak rfl) aM) (zX (f' hb))) cR (mR rfl)))
  |cons b B=>
   refine .inr ⟨dE (bE (bP (am (ak rfl) aM) (zX (f' hb))) cR (mR (by rw[oW];exact bv (by simp only[bu];omega)))),?_⟩
   obtain⟨p,hp,L_⟩:=ym (b::B) B.length (by simp)
   have hpB:p∈b::B:=aN hp
   have hmin':∀q∈b::B,¬ q.2.lt p.2:=fun q hq=>by
    obtain⟨i,hi⟩:=bw hq
    exact L_ i q (by have:=(aa.mp hi).1;simp at this;omega) hi
   apply aI
   ·refine bR (HL (p:=(DK.i (p.1:Nat),wp p.2)) rfl hb (tw _) (aG ht) ?_)
    rw[oW,show(b::B).length-1=B.length from rfl]
    show((b::B).map _)[_]?=_
    rw[ar,hp];rfl
   apply aI
   ·exact bR (LU (n:=st.length+2) (q:=p.1) (ak rfl) (ak rfl) hb (Fd (f:=fun p:Ro=>p.1) (g:=fun p=>wp p.2) g.best.nd hpB))
   rw[jg,HK]
   obtain⟨⟨el,er,w1,w2,w3,w4,w5⟩,pn,pN⟩:=g.best.ok p hpB
   obtain⟨vl,hvl,rl⟩:=hR.at' _ _ w1
   obtain⟨vr,hvr,rr⟩:=hR.at' _ _ w2
   obtain⟨tl,rfl⟩:=rl.sh
   obtain⟨tr,rfl⟩:=rr.sh
   clear rl rr
   have hT2:=Cu hT g.best hpB
   have b2:=Cv hT g.best hpB hmin'
   have hR2:=hR.next hT.len0 w1 w2
   have hel:E.length<N:=by have:=hT2.len;simp at this;omega
   generalize hB2:List.filter (fun q:Ro=>decide (q.1≠p.1)) (b::B)=B2 at b2
   have g2:Go (bd M) M.tb.length N (E++[p]) B2 fun l r a=>l<(E++[p]).length-1/\r<(E++[p]).length-1/\a<M.tb.length:=⟨b2,fun l r a d=>by
    rw[<- hB2]
    simp only[aH,bu,dU]at d
    exact Fb hpB g.best.nd (by omega) (by omega) (g.cov l r a ⟨by omega,by omega,d.2.2⟩)⟩
   show gH _ (aW _ _ _ (st++[ao.lst R,.dct (tW E),.dct (bW B2)]))
   have hr0:(st++[ao.lst R,.dct (tW E),.dct (bW B2)])[st.length]?=some (.lst R):=by rw[cu];rfl
   have xl:bH (.loc st.length) (.int (p.2.l:Nat)) (st++[ao.lst R,.dct (tW E),.dct (bW B2)])=.ok _ _:=lB (aO hr0) (dO hvl)
   have xr:bH (.loc st.length) (.int (p.2.r:Nat)) (st++[ao.lst R,.dct (tW E),.dct (bW B2)])=.ok _ _:=lB (aO hr0) (dO hvr)
   have xw:∀(i:Int) (w:W) (s:List ao),qb (p.2.z.map W.int) i=some w->bH (wp p.2) (.int i) s=.ok w s:=fun i w s e=>dq e
   apply aI
   ·exact gf (n_ (ak rfl) (fS hr0) (am (fR (am (ak rfl) (am (bE (ak rfl) cR (xw 0 _ _ rfl)) (am (fR (am (bE (bE (ak rfl) (bE (ak rfl) cR (xw 1 _ _ rfl)) xl) cR (dq rfl)) (am (bE (bE (ak rfl) (bE (ak rfl) cR (xw 2 _ _ rfl)) xr) cR (dq rfl)) (am (bE (ak rfl) cR (xw 3 _ _ rfl)) aM))) (cI rfl)) aM))) (cI rfl)) aM) (uY hr0 (by rw[hR.len];show _<1000000;omega)))
   rw[fj]
   show gH _ (aW _ _ _ (st++[ao.lst (R++[_]),.dct (tW E),.dct (bW B2)]))
   apply aI
   ·refine kG cR (ak rfl) (ak rfl) (wt (kvs:=tW E) (q:=p.1) (by rw[f9];rfl) (by rw[oW];show _<1000000;omega))
   rw[jg,show sE (tW E) (.i (p.1:Nat)) (W.bl true)=tW (E++[p])from wn (f:=fun p:Ro=>p.1) (g:=fun _=>W.bl true) (a:=p) pn]
   show gH _ (fy _ _ (st++[ao.lst (R++[_]),.dct (tW (E++[p])),.dct (bW B2)]))
   obtain⟨B3,g3,e3⟩:=A_ (st:=st++[ao.lst (R++[W.tup [.int (p.1:Nat),.int (p.2.s:Nat),.tup [.int (el.1:Nat),.int (er.1:Nat),.int (p.2.a:Nat)]]]),.dct (tW (E++[p])),.dct (bW B2)]) (ra:=st.length) (rb:=st.length+1) (rc:=st.length+2) hM hN (by rw[cu];rfl) (by rw[f9];rfl) (by rw[f9];rfl) (by omega) (by omega) hR2 hT2 g2
   rw[jg]at e3
   exact⟨_,_,gf (dm (am (ak rfl) (am (ak rfl) (am (ak rfl) (am (ak rfl) aM)))) e3 rfl),N-(E++[p]).length,by simp only[aH,bu,dU];omega,E++[p],B3,_,_,_,rfl,rfl,rfl,hR2,hT2,g3⟩
 ·rintro m ρ s ⟨E,B,R,o4,o5,rfl,rfl,rfl,hR,hT,g⟩ hf
  have hb:(st++[ao.lst R,.dct (tW E),.dct (bW B)])[st.length+2]?=some (.dct (bW B)):=by rw[f9];rfl
  have hB:B=[]:=by
   cases B with
   |nil=>rfl
   |cons b B=>
    have t:gp (e2 BY (bD sH (ai (ag 3) aE)) (eI 0)) [some M.w,some (.loc st.length),some (.loc (st.length+1)),some (.loc (st.length+2)),o4,o5] (st++[ao.lst R,.dct (tW E),.dct (bW (b::B))])=.ok true _:=
     dE (bE (bP (am (ak rfl) aM) (zX (f' hb))) cR (mR (by rw[oW];exact bv (by simp only[bu];omega))))
    rw[t]at hf
    cases hf
  subst hB
  refine gw (bP (am (ak rfl) aM) (gI (aO (by rw[cu];rfl)))) ⟨_,_,rfl,⟨_,rfl⟩,?_,E,R,rfl,hT,hR,fun l r a h1 h2 h3=>g.cov l r a ⟨h1,h2,h3⟩⟩
  simp only[undWs,b_]
  unfold W.und
  exact Ff hR _
end
section
variable(T:Nat->Nat->Nat->Nat)(L:Nat)(g:Nat->Bool)(rs:List Nat)
def kX:List (Nat×Nat×Nat):=(List.range L).flatMap fun a=>rs.map (fun t=>(a,0,t))++rs.map (fun t=>(a,1,t))
def led(p:Nat×Nat×Nat)(x:Nat):Nat:=if p.2.1=0 then T p.1 x p.2.2 else T p.1 p.2.2 x
def ap:Nat->Nat->Nat->Bool
 |0,a,b=>g a != g b
 |s+1,a,b=>ap s a b||(kX L rs).any fun p=>ap s (led T p a) (led T p b)
def dS:List Nat->List (Nat×Nat)
 |[]=>[]
 |x::r=>r.map (fun y=>(x,y))++dS r
def jR:Nat->Nat->Nat->Bool
 |0,_,_=>true
 |s+1,a,b=>!ap T L g rs s a b
def qu(s:Nat):List (Nat×Nat):=(dS rs).filter fun p=>jR T L g rs s p.1 p.2&&ap T L g rs s p.1 p.2
def yo(p:Nat×Nat×Nat):W:=.tup [.int (p.1:Nat),.int (p.2.1:Nat),.int (p.2.2:Nat)]
def uh:Nat->Nat->Nat->Option W
 |0,a,b=>if ap T L g rs 0 a b=true then some (.tup [])else none
 |s+1,a,b=>((kX L rs).find? fun p=>ap T L g rs s (led T p a) (led T p b)).map yo
def yp(s:Nat)(p:Nat×Nat):W:=.tup [.int (p.1:Nat),.int (p.2:Nat),.int (s:Nat),(uh T L g rs s p.1 p.2).getD .non]
def Fg(n:Nat):List W:=(List.range n).flatMap fun s=>(qu T L g rs s).map (yp T L g rs s)
structure vc(n:Nat):Prop where
 go:∀k,k<n->qu T L g rs k≠[]
 stop:qu T L g rs n=[]
end
section
variable{T:Nat->Nat->Nat->Nat}{L:Nat}{g:Nat->Bool}{rs:List Nat}
theorem vc.one{n m:Nat}(h:vc T L g rs n)(k:vc T L g rs m):n=m:=by
 rcases Nat.lt_trichotomy n m with z|z|z
 ·exact absurd h.stop (k.go n z)
 ·exact z
 ·exact absurd k.stop (h.go m z)
theorem i5(n:Nat):Fg T L g rs (n+1)=Fg T L g rs n++(qu T L g rs n).map (yp T L g rs n):=by
 unfold Fg;rw[mY,jK];simp
theorem zY:∀(s a:Nat),ap T L g rs s a a=false
 |0,a=>by simp[ap]
 |s+1,a=>by
  unfold ap
  rw[zY s a,oD,gR]
  intro p _;rw[zY s];simp
theorem pP:∀(s a b:Nat),ap T L g rs s a b=ap T L g rs s b a
 |0,a,b=>by simp only[ap];cases g a<;>cases g b<;>rfl
 |s+1,a,b=>by
  unfold ap
  rw[pP s a b]
  congr 1
  refine fB _ (funext fun p=>?_)
  exact pP s _ _
theorem A'{s a b:Nat}(h:ap T L g rs (s+1) a b=false):ap T L g rs s a b=false/\∀p∈kX L rs,ap T L g rs s (led T p a) (led T p b)=false:=by
 unfold ap at h
 rw[Bool.or_eq_false_iff,gR]at h
 exact⟨h.1,fun p hp=>by have:=h.2 p hp;simpa using this⟩
theorem OM{s a b:Nat}(h:ap T L g rs s a b=false)(h2:∀p∈kX L rs,ap T L g rs s (led T p a) (led T p b)=false):ap T L g rs (s+1) a b=false:=by
 unfold ap
 rw[Bool.or_eq_false_iff,gR]
 exact⟨h,fun p hp=>by rw[h2 p hp];simp⟩
theorem JB{a b:Nat}:∀(d k:Nat),ap T L g rs (k+d) a b=false->ap T L g rs k a b=false
 |0,_,h=>h
 |d+1,k,h=>JB d k (A' h).1
theorem LY{s a b k:Nat}(h:jR T L g rs s a b=true)(hk:k<s):ap T L g rs k a b=false:=by
 cases s with
 |zero=>omega
 |succ s=>
  have h':ap T L g rs s a b=false:=by simpa[jR]using h
  exact JB (s-k) k (by rw[show k+(s-k)=s by omega];exact h')
theorem LZ{s a b:Nat}(h:∀k,k<s->ap T L g rs k a b=false):jR T L g rs s a b=true:=by
 cases s with
 |zero=>rfl
 |succ s=>simp only[jR];rw[h s (by omega)];rfl
theorem HQ{s a b:Nat}(h:jR T L g rs (s+1) a b=true){p:Nat×Nat×Nat}(hp:p∈kX L rs):jR T L g rs s (led T p a) (led T p b)=true:=by
 have h':ap T L g rs s a b=false:=by simpa[jR]using h
 cases s with
 |zero=>rfl
 |succ s=>simp only[jR];rw[(A' h').2 p hp];rfl
theorem Fh{s a b:Nat}(h:jR T L g rs (s+1) a b=true):ap T L g rs (s+1) a b=((kX L rs).find? fun p=>ap T L g rs s (led T p a) (led T p b)).isSome:=by
 have h':ap T L g rs s a b=false:=by simpa[jR]using h
 conv=>lhs;unfold ap
 rw[h',oD,dX,i8,List.find?_isSome]
theorem yq{s a b:Nat}(h:jR T L g rs s a b=true):(uh T L g rs s a b).isSome=ap T L g rs s a b:=by
 cases s with
 |zero=>
  show(if ap T L g rs 0 a b=true then some (W.tup [])else none).isSome=_
  split<;>simp_all
 |succ s=>
  show(((kX L rs).find? fun p=>ap T L g rs s (led T p a) (led T p b)).map yo).isSome=_
  rw[gS,Fh h]
def qv(T:Nat->Nat->Nat->Nat)(L:Nat)(g:Nat->Bool)(rs:List Nat)(s a b:Nat):Option Nat:=(List.range s).find? fun k=>ap T L g rs k a b
theorem pQ{s a b:Nat}:qv T L g rs s a b=none↔jR T L g rs s a b=true:=by
 unfold qv
 rw[ip]
 constructor
 ·intro h
  exact LZ fun k hk=>by have:=h k (bt.mpr hk);simpa using this
 ·intro h k hk
  rw[LY h (bt.mp hk)];simp
theorem yr(s a b:Nat):qv T L g rs (s+1) a b=match qv T L g rs s a b with
  |some k=>some k
  |none=>if ap T L g rs s a b=true then some s else none:=by
 unfold qv
 rw[mY,List.find?_append]
 cases(List.range s).find? fun k=>ap T L g rs k a b with
 |some k=>rfl
 |none=>
  simp only[Option.none_or,br,List.find?_nil]
  cases ap T L g rs s a b<;>rfl
theorem L3{s a b k:Nat}(h:qv T L g rs s a b=some k):k<s:=bt.mp (kw h)
theorem L4{s a b:Nat}:qv T L g rs (s+1) a b=some s↔jR T L g rs s a b=true/\ap T L g rs s a b=true:=by
 rw[yr]
 constructor
 ·intro h
  cases e:qv T L g rs s a b with
  |some k=>rw[e]at h;cases h;exact absurd (L3 e) (bx _)
  |none=>
   rw[e]at h
   refine⟨pQ.mp e,?_⟩
   by_cases z:ap T L g rs s a b=true
   ·exact z
   ·simp only at h;rw[aD z]at h;cases h
 ·rintro⟨h1,h2⟩
  rw[pQ.mpr h1];simp only;rw[ax h2]
def Fi(T:Nat->Nat->Nat->Nat)(L:Nat)(g:Nat->Bool)(rs:List Nat)(s:Nat):Nat:=((dS rs).filter fun p=>jR T L g rs s p.1 p.2).length
theorem tD(s a b:Nat):jR T L g rs (s+1) a b=(jR T L g rs s a b&&!ap T L g rs s a b):=by
 cases s with
 |zero=>simp[jR]
 |succ s=>
  show(!ap T L g rs (s+1) a b)=((!ap T L g rs s a b)&&!ap T L g rs (s+1) a b)
  cases e:ap T L g rs (s+1) a b with
  |true=>simp
  |false=>rw[(A' e).1];rfl
theorem md{α:Type}(p q:α->Bool):∀l:List α,(l.filter p).length=(l.filter fun x=>p x&&q x).length+(l.filter fun x=>p x&&!q x).length
 |[]=>rfl
 |x::l=>by
  have:=md p q l
  simp only[bU]
  cases p x<;>cases q x<;>simp<;>omega
theorem JC{s:Nat}(h:qu T L g rs s≠[]):Fi T L g rs (s+1)<Fi T L g rs s:=by
 have e:=md (fun p:Nat×Nat=>jR T L g rs s p.1 p.2) (fun p=>ap T L g rs s p.1 p.2) (dS rs)
 have h1:0<(qu T L g rs s).length:=eS.mpr h
 unfold qu at h1
 unfold Fi
 simp only[tD]
 omega
theorem nY:∀l:List Nat,(dS l).length<=l.length*l.length
 |[]=>aB _
 |x::r=>by
  have:=nY r
  simp only[dS,aH,al,bu,Nat.add_mul,Nat.mul_add];omega
theorem me:∀{l:List Nat} {p:Nat×Nat},p∈dS l->p.1∈l/\p.2∈l
 |x::r,p,h=>by
  rcases aQ.mp h with h|h
  ·obtain⟨y,hy,rfl⟩:=aS.mp h
   exact⟨bf,aT _ hy⟩
  ·have:=me h
   exact⟨aT _ this.1,aT _ this.2⟩
theorem Fj:∀{l:List Nat},l.Pairwise (· < ·)->∀{a b:Nat},(a,b)∈dS l↔a∈l/\b∈l/\a<b
 |[],_,a,b=>by simp[dS]
 |x::r,h,a,b=>by
  obtain⟨h1,h2⟩:=bY.mp h
  simp only[dS,aQ,aS,Fj h2,a7]
  constructor
  ·rintro(⟨y,hy,e⟩|⟨q1,q2,q3⟩)
   ·cases e;exact⟨.inl rfl,.inr hy,h1 _ hy⟩
   ·exact⟨.inr q1,.inr q2,q3⟩
  ·rintro⟨q1,q2,q3⟩
   rcases q1 with rfl|q1
   ·rcases q2 with rfl|q2
    ·omega
    ·exact .inl ⟨b,q2,rfl⟩
   ·rcases q2 with rfl|q2
    ·have:=h1 _ q1;omega
    ·exact .inr ⟨q1,q2,q3⟩
theorem rA(L:Nat)(rs:List Nat):(kX L rs).length=L*(2*rs.length):=by
 unfold kX
 rw[List.length_flatMap]
 simp only[aH,al]
 rw[List.map_const',cM,List.sum_replicate_nat]
 congr 1;omega
theorem yt(L:Nat)(rs:List Nat):kX (L+1) rs=kX L rs++(rs.map (fun t=>(L,0,t))++rs.map (fun t=>(L,1,t))):=by
 unfold kX;rw[mY,jK];simp
theorem Fk:∀(L:Nat) {rs:List Nat} {i:Nat},i<L*(2*rs.length)->∃t,rs[i%rs.length]?=some t/\(kX L rs)[i]?=some (i/(rs.length*2),i/rs.length%2,t)
 |0,rs,i,h=>by omega
 |L+1,rs,i,h=>by
  have hm:0<rs.length:=by
   rcases iq rs.length with z|z
   ·rw[z]at h;omega
   ·exact z
  rw[yt]
  by_cases hi:i<L*(2*rs.length)
  ·obtain⟨t,h1,h2⟩:=Fk L hi
   exact⟨t,h1,by rw[az (by rw[rA];exact hi)];exact h2⟩
  ·have hl:(kX L rs).length=L*(2*rs.length):=rA L rs
   obtain⟨j,rfl⟩:∃j,i=L*(2*rs.length)+j:=⟨i-L*(2*rs.length),by omega⟩
   have hj:j<2*rs.length:=by rw[Nat.add_mul]at h;omega
   have e1:(L*(2*rs.length)+j)/rs.length=L*2+j/rs.length:=by
    rw[show L*(2*rs.length)=L*2*rs.length by rw[Nat.mul_assoc],iN,Nat.mul_add_div hm]
   have e2:(L*(2*rs.length)+j)%rs.length=j%rs.length:=by
    rw[show L*(2*rs.length)=L*2*rs.length by rw[Nat.mul_assoc],iN,Nat.mul_add_mod]
   have e3:(L*(2*rs.length)+j)/(rs.length*2)=L:=by
    rw[show L*(2*rs.length)=rs.length*2*L by rw[iN,iN 2],Nat.mul_add_div (by omega),Nat.div_eq_of_lt (by omega)];rfl
   rw[b8 (by omega),hl,e1,e2,e3,iz]
   by_cases hj1:j<rs.length
   ·refine⟨rs[j],by rw[Nat.mod_eq_of_lt hj1];exact ae hj1,?_⟩
    rw[az (by simpa using hj1),ar,ae hj1,Nat.div_eq_of_lt hj1]
    simp
   ·have hj2:j-rs.length<rs.length:=by omega
    refine⟨rs[j-rs.length],?_,?_⟩
    ·rw[Nat.mod_eq_sub_mod (by omega),Nat.mod_eq_of_lt hj2];exact ae hj2
    ·rw[b8 (by simp;omega),al,ar,ae hj2]
     have:j/rs.length=1:=by
      rw[Nat.div_eq_of_lt_le]<;>omega
     rw[this]
     show some (L,1,_)=some (L,(L*2+1)%2,_)
     rw[show(L*2+1)%2=1 by omega]
end
def iS:Nat->List KX->List (KX×W)
 |_,[]=>[]
 |n,k::ks=>(k,.int (n:Nat))::iS (n+1) ks
theorem lG:∀(ks:List KX) (n:Nat),(iS n ks).length=ks.length
 |[],_=>rfl
 |k::ks,n=>by simp only[iS,bu,lG ks]
theorem vd(k:KX):∀(ks:List KX) (n:Nat),iS n (ks++[k])=iS n ks++[(k,.int ((n+ks.length:Nat):Int))]
 |[],n=>rfl
 |x::ks,n=>by
  simp only[i_,iS,vd k ks,bu]
  rw[show n+1+ks.length=n+(ks.length+1) by omega]
theorem i6(p:KX×W)(l:List (KX×W))(k:KX):fg (p::l) k=if p.1=k then some p.2 else fg l k:=by
 unfold fg
 rw[br]
 by_cases h:p.1=k
 ·rw[ax h];simp[h]
 ·rw[aD h];simp[h]
theorem jY(k:KX):∀(ks:List KX) (n:Nat),fg (iS n ks) k=if k∈ks then some (.int ((n+ks.idxOf k:Nat):Int))else none
 |[],n=>rfl
 |x::ks,n=>by
  simp only[iS]
  rw[i6]
  by_cases h:x=k
  ·subst h;simp
  ·rw[aD h,jY k ks]
   have e:(x::ks).idxOf k=ks.idxOf k+1:=by rw[List.idxOf_cons,show(x==k)=false from ba.mpr h];rfl
   rw[e]
   by_cases h2:k∈ks
   ·rw[ax h2,ax (aT _ h2)];rw[show n+1+ks.idxOf k=n+(ks.idxOf k+1) by omega]
   ·rw[aD h2,aD (by simp[h2];exact fun z=>h z.symm)]
theorem Cy(f:KX->Bool):∀(ks:List KX) (n:Nat),((iS n ks).all fun p=>f p.1)=ks.all f
 |[],_=>rfl
 |k::ks,n=>by simp only[iS,lg,Cy f ks]
theorem pR:∀l:List Int,gs (l.map W.int)=some l
 |[]=>rfl
 |z::l=>by simp only[aR,gs,pR l,Option.map_some]
theorem PH(b:Bool):jP (.bl b)=some (.bo b):=rfl
theorem wz(l:List Int):jP (.tup (l.map W.int))=some (.fl l):=by simp only[jP,pR]
theorem HR(i:Int)(l:List Int):jP (.tup [.int i,.tup (l.map W.int)])=some (.pr i l):=by
 simp only[jP,gs,Option.map_none,pR,Option.map_some]
theorem rB(k:KX):jP k.w=some k:=by
 cases k with
 |bo b=>rfl
 |fl l=>exact wz l
 |pr i l=>exact HR i l
theorem L5{kvs:List (KX×W)}{k:KX}(h:∀p∈kvs,p.1.tag=k.tag)(hl:kvs.length<jE):(qY kvs k||Eg kvs k)=true:=by
 unfold qY Eg sO
 have a:(kvs.all fun p=>p.1.tag==k.tag)=true:=by rw[dG];intro p hp;rw[h p hp];simp
 by_cases z:k.tag=0
 ·have b:(kvs.all fun p=>p.1.tag==0)=true:=by rw[dG];intro p hp;rw[h p hp,z];simp
  rw[b];simp[z];exact hl
 ·rw[a];simp[z];exact hl
theorem tF:∀{ks:List KX} {n:Nat} {p:KX×W},p∈iS n ks->p.1∈ks
 |k::ks,n,p,h=>by
  rcases a7.mp h with rfl|h
  ·exact bf
  ·exact aT _ (tF h)
section
variable{st st1:List ao}{n:Nat}{kvs:List (KX×W)}{ρ:bS}{fo fk fd:FE}{y z:W}{k:KX}
theorem Ba(h1:fo ρ st=.ok (.loc n) st)(hd:cW st (.loc n)=some (n,kvs))(h2:fk ρ st=.ok y st)(hk:jP y=some k)(h3:fd ρ st=.ok z st)(ok:(qY kvs k||Eg kvs k)=true) :
  vY fo fk fd ρ st=match fg kvs k with|some w=>.ok w st|none=>.ok z (st.set n (.dcx (iQ kvs k z))):=by
 unfold vY
 rw[h1];simp only[R.bind_ok,hd]
 rw[h2];simp only[R.bind_ok]
 rw[h3];simp only[R.bind_ok,hd,hk,ok,d6]
 all_goals rfl
theorem JD{w:W}(hd:cW st (.loc n)=some (n,kvs))(hk:jP y=some k)(ok:(qY kvs k||Eg kvs k)=true)(hg:fg kvs k=some w):Eh (.loc n) y st=.ok w st:=by
 unfold Eh
 simp only[hd,hk,ok,d6,hg,cJ]
theorem Fl(hd:cW st (.loc n)=some (n,kvs))(hl:kvs.length<=jE):uW [.loc n] st=.ok (.int kvs.length) st:=by
 unfold uW;simp only[hd];rw[ax hl]
end
def ui:List KX->ao
 |[]=>.dct []
 |k::ks=>.dcx (iS 0 (k::ks))
theorem Bb{st:List ao}{n:Nat}{ks:List KX}(h:st[n]?=some (ui ks)):cW st (.loc n)=some (n,iS 0 ks):=by
 unfold cW
 simp only[h]
 cases ks<;>rfl
theorem Fm{ks:List KX}{a b:KX}(ha:a∈ks)(h:ks.idxOf a=ks.idxOf b):a=b:=by
 have hl:=List.idxOf_lt_length_of_mem ha
 have e1:ks[ks.idxOf a]?=some a:=by rw[ae hl];simp
 have hl2:ks.idxOf b<ks.length:=by omega
 have e2:ks[ks.idxOf b]?=some b:=by rw[ae hl2];simp
 rw[h,e2]at e1;cases e1;rfl
abbrev oX(B:Nat->Nat)(l:List Nat):List (DK×W):=dI (fun a:Nat=>a) (fun a=>W.int (B a:Nat)) l
theorem qQ{st:List ao}{r q:Nat}{rs:List Nat}{kvs:List (DK×W)}{kf:Nat->KX}{tg:Nat}(hr:st[r]?=some (.lst (rs.map fun a=>W.int (a:Nat))))(hq:st[q]?=some (.dct kvs))(hk:∀a∈rs,kt kvs (.i (a:Nat))=some (kf a).w)(ht:∀a∈rs,(kf a).tag=tg)(p_:rs.Nodup)(hl:rs.length<=1000) :
  ∃(B:Nat->Nat) (c:ao),(∀a∈rs,∀b∈rs,(B a=B b↔kf a=kf b))/\zQ [.loc r,.loc q] st=.ok (.loc (st.length+1)) (st++[c,.dct (oX B rs)]):=by
 suffices hh:gH (ql fun w bG=>∃j x,w=.loc (st.length+j)/\bG=st++x/\∃(B:Nat->Nat) (c:ao),(∀a∈rs,∀b∈rs,(B a=B b↔kf a=kf b))/\j=1/\x=[c,.dct (oX B rs)]) (Oo ([W.loc r,.loc q].map some++List.replicate (5-2) none) st) by
  obtain⟨j,x,⟨B,c,h1,rfl,rfl⟩,e⟩:=jQ hh
  exact⟨B,c,h1,e⟩
 have hrl:=(aa.mp hr).1
 have hql:=(aa.mp hq).1
 apply aI
 ·exact bR rfl
 apply aI
 ·exact bR rfl
 refine eu (k:=(rs.map fun a=>W.int (a:Nat),some (r,rs.map fun a=>W.int (a:Nat)))) (fun i ρ s=>∃(ks:List KX) (o4:Option W),ks.Nodup/\ks.length<=i/\(∀k∈ks,k.tag=tg)/\(∀a∈rs.take i,kf a∈ks) /\
   ρ=[some (.loc r),some (.loc q),some (.loc st.length),some (.loc (st.length+1)),o4]/\s=st++[ui ks,.dct (oX (fun a=>ks.idxOf (kf a)) (rs.take i))]) (eW (ak rfl) (aO (aG (aG hr)))) ?_ ?_ ?_ ?_
 ·refine⟨[],none,.nil,df _,fun _ h=>(by cases h),fun a h=>(by simp at h),?_,?_⟩
  ·simp
  ·simp[ui,dI]
 ·rintro i ρ s ⟨ks,o4,_,_,_,_,rfl,rfl⟩
  exact aO (aG hr)
 ·rintro i w ρ s hw ⟨ks,o4,h1,h2,h3,h4,rfl,rfl⟩
  rw[ar]at hw
  obtain⟨a,ha,rfl⟩:=aY.mp hw
  have hi:i<rs.length:=(aa.mp ha).1
  have ham:a∈rs:=aN ha
  have CU:rs.take (i+1)=rs.take i++[a]:=by rw[gT,ha];rfl
  have hant:a∉rs.take i:=fun z=>by
   have:(rs.take (i+1)).Nodup:=p_.sublist (kM _ _)
   rw[CU,dg]at this
   exact this.2.2 a z a (by simp) rfl
  refine⟨_,rfl,?_⟩
  generalize hs:st++[ui ks,.dct (oX (fun a=>ks.idxOf (kf a)) (rs.take i))]=s
  have c2:s[st.length]?=some (ui ks):=by rw[<- hs,cu];rfl
  have c3:s[st.length+1]?=some (.dct (oX (fun a=>ks.idxOf (kf a)) (rs.take i))):=by rw[<- hs,f9];rfl
  have cq:s[q]?=some (.dct kvs):=by rw[<- hs];exact aG hq
  have hd:=Bb c2
  have ix:∀{s':List ao},s'[q]?=some (.dct kvs)->iY (.loc q) (.int (a:Nat)) s'=.ok (kf a).w s':=fun z=>mT (f' z) (hk a ham)
  have okk:∀FX:List KX,(∀k∈FX,k.tag=tg)->FX.length<=i+1->(qY (iS 0 FX) (kf a)||Eg (iS 0 FX) (kf a))=true:=fun FX z1 z2=>L5 (fun p hp=>by rw[z1 _ (tF hp),ht a ham]) (by rw[lG];show _<1000000;omega)
  have hb:∀f:Nat->W,(f a)=(fun x=>f x) a:=fun f=>rfl
  have put:∀(FX:List KX) (s':List ao),s'[st.length+1]?=some (.dct (oX (fun a=>FX.idxOf (kf a)) (rs.take i)))->kF (.loc (st.length+1)) (.int (a:Nat)) (.int (FX.idxOf (kf a):Nat)) s'=some (s'.set (st.length+1) (.dct (oX (fun a=>FX.idxOf (kf a)) (rs.take (i+1))))):=fun FX s' z=>by
   rw[wt z (by rw[oW,bp];show _<1000000;omega),CU]
   congr 3
   exact wn (f:=fun a:Nat=>a) (g:=fun a=>W.int (FX.idxOf (kf a):Nat)) (a:=a) (by simpa using hant)
  by_cases hm:kf a∈ks
  ·apply aI
   ·refine gf (w:=.int ((0+ks.idxOf (kf a):Nat):Int)) (st1:=s) ?_
    rw[Ba (ak rfl) hd (bE (ak rfl) (ak rfl) (ix cq)) (rB _) (bP (am (ak rfl) aM) (Fl hd (by rw[lG];show _<=1000000;omega))) (okk ks h3 (by omega)),jY,ax hm]
   refine⟨_,_,kG (bE (ak rfl) (bE (ak rfl) (ak rfl) (ix cq)) (JD hd (rB _) (okk ks h3 (by omega)) (by rw[jY,ax hm]))) (ak rfl) (ak rfl) (by rw[hV];exact put ks s c3),ks,_,h1,by omega,h3,fun b hb=>?_,rfl,?_⟩
   ·rw[CU]at hb
    rcases aQ.mp hb with z|z
    ·exact h4 b z
    ·simp at z;subst z;exact hm
   ·rw[<- hs,fH _ _ (by omega),show st.length+1-st.length=1 by omega];rfl
  ·have rK:s.set st.length (.dcx (iS 0 (ks++[kf a])))=st++[ui (ks++[kf a]),.dct (oX (fun a=>ks.idxOf (kf a)) (rs.take i))]:=by
    rw[<- hs,fH _ _ (by omega),Nat.sub_self]
    have:ui (ks++[kf a])=.dcx (iS 0 (ks++[kf a])):=by cases ks<;>rfl
    rw[this];rfl
   apply aI
   ·refine gf (w:=.int (ks.length:Nat)) (st1:=s.set st.length (.dcx (iS 0 (ks++[kf a])))) ?_
    rw[Ba (ak rfl) hd (bE (ak rfl) (ak rfl) (ix cq)) (rB _) (bP (am (ak rfl) aM) (Fl hd (by rw[lG];show _<=1000000;omega))) (okk ks h3 (by omega)),jY,aD hm]
    simp only[lG]
    congr 3
    unfold iQ
    rw[jY,aD hm,vd,hV];rfl
   rw[rK]
   have bks:oX (fun b=>ks.idxOf (kf b)) (rs.take i)=oX (fun b=>(ks++[kf a]).idxOf (kf b)) (rs.take i):=by
    unfold oX dI
    refine bC fun b hb=>?_
    show(DK.i (b:Nat),W.int ((ks.idxOf (kf b):Nat):Int))=(DK.i (b:Nat),W.int (((ks++[kf a]).idxOf (kf b):Nat):Int))
    rw[List.idxOf_append,ax (h4 b hb)]
   rw[bks]
   have h3':∀k∈ks++[kf a],k.tag=tg:=fun k hk=>by
    rcases aQ.mp hk with z|z
    ·exact h3 k z
    ·simp at z;subst z;exact ht a ham
   have hm':kf a∈ks++[kf a]:=by simp
   generalize hs':st++[ui (ks++[kf a]),.dct (oX (fun b=>(ks++[kf a]).idxOf (kf b)) (rs.take i))]=s'
   have c2':s'[st.length]?=some (ui (ks++[kf a])):=by rw[<- hs',cu];rfl
   have c3':s'[st.length+1]?=some (.dct (oX (fun b=>(ks++[kf a]).idxOf (kf b)) (rs.take i))):=by rw[<- hs',f9];rfl
   have cq':s'[q]?=some (.dct kvs):=by rw[<- hs'];exact aG hq
   have hd':=Bb c2'
   refine⟨_,_,kG (bE (ak rfl) (bE (ak rfl) (ak rfl) (ix cq')) (JD hd' (rB _) (okk (ks++[kf a]) h3' (by simp;omega)) (by rw[jY,ax hm']))) (ak rfl) (ak rfl) (by rw[hV];exact put (ks++[kf a]) s' c3'),ks++[kf a],_,?_,by simp;omega,h3',fun b hb=>?_,rfl,?_⟩
   ·rw[dg]
    exact⟨h1,by simp,fun x hx y hy z=>by simp at hy;subst hy;subst z;exact hm hx⟩
   ·rw[CU]at hb
    rcases aQ.mp hb with z|z
    ·exact fU _ (h4 b z)
    ·simp at z;subst z;exact hm'
   ·rw[<- hs',jg];rfl
 ·rintro ρ s ⟨ks,o4,h1,h2,h3,h4,rfl,rfl⟩
  rw[al,fw]at h4 ⊢
  refine⟨_,_,jh (ak rfl),1,_,rfl,rfl,fun a=>ks.idxOf (kf a),ui ks,fun a ha b hb=>⟨fun z=>Fm (h4 a ha) z,fun z=>by simp only[z]⟩,rfl,rfl⟩
abbrev dh(rs:List Nat):List W:=rs.map fun a=>W.int (a:Nat)
abbrev vD(V:Nat->W)(l:List Nat):List (DK×W):=dI (fun a:Nat=>a) V l
theorem jw{V:Nat->W}{l:List Nat}{a:Nat}(hn:l.Nodup)(h:a∈l):kt (vD V l) (.i (a:Nat))=some (V a):=Fd (f:=fun a:Nat=>a) (g:=V) (by simpa using hn) h
theorem qw{rs:List Nat}{i a:Nat}(p_:rs.Nodup)(ha:rs[i]?=some a):i<rs.length/\a∈rs/\rs.take (i+1)=rs.take i++[a]/\a∉rs.take i:=by
 have CU:rs.take (i+1)=rs.take i++[a]:=by rw[gT,ha];rfl
 refine⟨(aa.mp ha).1,aN ha,CU,fun z=>?_⟩
 have:(rs.take (i+1)).Nodup:=p_.sublist (kM _ _)
 rw[CU,dg]at this
 exact this.2.2 a z a (by simp) rfl
theorem Fp{V:Nat->W}{rs:List Nat}{i a n:Nat}{s:List ao}(p_:rs.Nodup)(ha:rs[i]?=some a)(hl:rs.length<=1000)(hs:s[n]?=some (.dct (vD V (rs.take i)))):kF (.loc n) (.int (a:Nat)) (V a) s=some (s.set n (.dct (vD V (rs.take (i+1))))):=by
 obtain⟨_,_,CU,hant⟩:=qw p_ ha
 rw[wt hs (by rw[oW,bp];show _<1000000;omega),CU]
 congr 3
 exact wn (f:=fun a:Nat=>a) (g:=V) (a:=a) (by simpa using hant)
theorem yu{st:List ao}{r rv dv iv:Nat}{rs:List Nat}{V:Nat->W}{ρ:bS}{e:FE}{P:RS->Prop}{cZ:FS}(hr:st[r]?=some (.lst (dh rs)))(p_:rs.Nodup)(hl:rs.length<=1000)
  (RG:∀o,(ρ.set iv o)[rv]?=some (some (.loc r))) (RN:∀o,(ρ.set iv o)[dv]?=some (some (.loc st.length))) (Ru:iv<ρ.length)
  (he:∀a∈rs,∀c,e (ρ.set iv (some (.int (a:Nat)))) (st++[c])=.ok (V a) (st++[c]))
  (tO:∀o,gH P (cZ (ρ.set iv o) (st++[.dct (vD V rs)]))) :
  gH P (aW (e_ (ce (ag rv)) (eJ iv) (kT (ag dv) (ag iv) e kF)) cZ ρ (st++[.dct []])):=by
 have h0:ρ=ρ.set iv ρ[iv]:=by simp
 refine eu (k:=(dh rs,some (r,dh rs))) (fun i ρ' s=>∃o,ρ'=ρ.set iv o/\s=st++[.dct (vD V (rs.take i))]) (eW (ak (by have:=RG ρ[iv];rwa[<- h0]at this)) (aO (aG hr))) ⟨_,h0,rfl⟩ ?_ ?_ ?_
 ·rintro i ρ' s ⟨o,rfl,rfl⟩
  exact aO (aG hr)
 ·rintro i w ρ' s hw ⟨o,rfl,rfl⟩
  rw[ar]at hw
  obtain⟨a,ha,rfl⟩:=aY.mp hw
  obtain⟨hi,ham,_,_⟩:=qw p_ ha
  refine⟨ρ.set iv (some (.int (a:Nat))),?_,?_⟩
  ·show eJ iv _ _=_
   unfold eJ
   simp[Ru]
  ·refine⟨_,_,kG (he a ham _) (ak (RN _)) (ak (by rw[bg Ru])) (Fp p_ ha hl bn),_,rfl,?_⟩
   rw[fj];rfl
 ·rintro ρ' s ⟨o,rfl,rfl⟩
  rw[al,fw]
  exact tO o
def gM(M:Mc)(a:Nat):Bool:=M.gd.getD a false
theorem HS{M:Mc}{N:Nat}{st:List ao}{r:Nat}{rs:List Nat}(hM:qP M N)(hr:st[r]?=some (.lst (dh rs)))(PM:∀a∈rs,a<N)(p_:rs.Nodup)(hl:rs.length<=1000) :
  ∃(B:Nat->Nat) (x:List ao),(∀a∈rs,∀b∈rs,(B a=B b↔gM M a=gM M b))/\x[2]?=some (.dct (oX B rs))/\EV [M.w,.loc r] st=.ok (.loc (st.length+2)) (st++x):=by
 suffices hh:gH (ql fun w bG=>∃j x,w=.loc (st.length+j)/\bG=st++x/\j=2/\∃(B:Nat->Nat),(∀a∈rs,∀b∈rs,(B a=B b↔gM M a=gM M b))/\x[2]?=some (.dct (oX B rs))) (Oq ([M.w,.loc r].map some++List.replicate (4-2) none) st) by
  obtain⟨j,x,⟨rfl,B,h1,h2⟩,e⟩:=jQ hh
  exact⟨B,x,h1,h2,e⟩
 apply aI
 ·exact bR rfl
 refine yu (V:=fun a=>W.bl (gM M a)) hr p_ hl (fun o=>rfl) (fun o=>rfl) (by simp) (fun a ha c=>?_) fun o=>?_
 ·refine bE (bE (ak rfl) cR (dq rfl)) (ak rfl) (dq (dO ?_))
  rw[ar,ae (by rw[hM.gd];exact PM a ha)]
  simp[gM,aZ,ae (show a<M.gd.length by rw[hM.gd];exact PM a ha)]
 ·obtain⟨B,c,hB,e⟩:=qQ (st:=st++[.dct (vD (fun a=>W.bl (gM M a)) rs)]) (r:=r) (q:=st.length) (rs:=rs) (kf:=fun a=>.bo (gM M a)) (tg:=0) (aG hr) bn (fun a ha=>jw p_ ha) (fun _ _=>rfl) p_ hl
  refine⟨_,_,jh (dm (am (ak rfl) (am (ak rfl) aM)) e rfl),2,[.dct (vD (fun a=>W.bl (gM M a)) rs),c,.dct (oX B rs)],by simp,by simp,rfl,B,fun a ha b hb=>?_,rfl⟩
  rw[hB a ha b hb]
  simp
theorem Fq{st:List ao}{r b v:Nat}{rs:List Nat}{B:Nat->Nat}{vw:Nat->List Int}(hr:st[r]?=some (.lst (dh rs)))(hb:st[b]?=some (.dct (oX B rs)))(hv:st[v]?=some (.dct (vD (fun a=>.tup ((vw a).map W.int)) rs)))(p_:rs.Nodup)(hl:rs.length<=1000) :
  ∃(B':Nat->Nat) (x:List ao),(∀a∈rs,∀b∈rs,(B' a=B' b↔B a=B b/\vw a=vw b))/\x[2]?=some (.dct (oX B' rs))/\Cn [.loc r,.loc b,.loc v] st=.ok (.loc (st.length+2)) (st++x):=by
 suffices hh:gH (ql fun w bG=>∃j x,w=.loc (st.length+j)/\bG=st++x/\j=2/\∃(B':Nat->Nat),(∀a∈rs,∀b∈rs,(B' a=B' b↔B a=B b/\vw a=vw b))/\x[2]?=some (.dct (oX B' rs))) (Ov ([W.loc r,.loc b,.loc v].map some++List.replicate (5-3) none) st) by
  obtain⟨j,x,⟨rfl,B,h1,h2⟩,e⟩:=jQ hh
  exact⟨B,x,h1,h2,e⟩
 apply aI
 ·exact bR rfl
 refine yu (V:=fun a=>(KX.pr (B a:Nat) (vw a)).w) hr p_ hl (fun o=>rfl) (fun o=>rfl) (by simp) (fun a ha c=>?_) fun o=>?_
 ·exact fR (am (bE (ak rfl) (ak rfl) (mT (f' (aG hb)) (jw p_ ha))) (am (bE (ak rfl) (ak rfl) (mT (f' (aG hv)) (jw p_ ha))) aM)) (by show 2<=1000000;decide)
 ·obtain⟨B',c,hB,e⟩:=qQ (st:=st++[.dct (vD (fun a=>(KX.pr (B a:Nat) (vw a)).w) rs)]) (r:=r) (q:=st.length) (rs:=rs) (kf:=fun a=>.pr (B a:Nat) (vw a)) (tg:=2) (aG hr) bn (fun a ha=>jw p_ ha) (fun _ _=>rfl) p_ hl
  refine⟨_,_,jh (dm (am (ak rfl) (am (ak rfl) aM)) e rfl),2,[.dct (vD (fun a=>(KX.pr (B a:Nat) (vw a)).w) rs),c,.dct (oX B' rs)],by simp,by simp,rfl,B',fun a ha b hb=>?_,rfl⟩
  rw[hB a ha b hb,KX.pr.injEq]
  exact⟨fun z=>⟨by omega,z.2⟩,fun z=>⟨by rw[z.1],z.2⟩⟩
theorem wA{st:List ao}{n m:Nat}{zs ys:List W}(h:st[n]?=some (.lst zs))(h2:st[m]?=some (.lst ys))(hl:zs.length+ys.length<=1000000):gX (.loc n) [.loc m] st=.ok .non (st.set n (.lst (zs++ys))):=by
 unfold gX pB
 simp only[h,h2,aO h2,cJ]
 rw[ax hl]
def ji:W->Nat
 |.int z=>z.toNat
 |_=>0
theorem jk(a:Nat):ji (.int (a:Nat))=a:=by show((a:Int)).toNat=a;omega
theorem Fs(rs:List Nat)(f:Nat->W):(dh rs).map (fun w=>f (ji w))=rs.map f:=by
 unfold dh;rw[bb];exact bC fun a _=>by show f (ji (.int (a:Nat)))=f a;rw[jk]
theorem zZ{rs:List Nat}{w:W}(h:w∈dh rs):∃a∈rs,w=.int (a:Nat):=by
 obtain⟨a,ha,rfl⟩:=aS.mp h;exact⟨a,ha,rfl⟩
def rC(M:Mc)(rs:List Nat)(B:Nat->Nat)(a:Nat):List Int:=(kX M.tb.length rs).map fun p=>((B (led (bd M) p a):Nat):Int)
structure Rm(M:Mc)(N:Nat)(rs:List Nat):Prop where
 ok:qP M N
 lt:∀a∈rs,a<N
 nd:rs.Nodup
 len:rs.length<=100
 sz:M.tb.length*(2*rs.length)<=10000
 cl:∀k,k<M.tb.length->∀a∈rs,∀b∈rs,bd M k a b∈rs
theorem Ft{M:Mc}{N:Nat}{st:List ao}{r b:Nat}{rs:List Nat}{B:Nat->Nat}(hM:Rm M N rs)(hr:st[r]?=some (.lst (dh rs)))(hb:st[b]?=some (.dct (oX B rs))) :
  ∃x:List ao,x[0]?=some (.dct (vD (fun a=>.tup ((rC M rs B a).map W.int)) rs))/\Cm [M.w,.loc r,.loc b] st=.ok (.loc st.length) (st++x):=by
 suffices hh:gH (ql fun w bG=>∃j x,w=.loc (st.length+j)/\bG=st++x/\j=0/\x[0]?=some (.dct (vD (fun a=>.tup ((rC M rs B a).map W.int)) rs))) (Ot ([M.w,.loc r,.loc b].map some++List.replicate (7-3) none) st) by
  obtain⟨j,x,⟨rfl,h1⟩,e⟩:=jQ hh
  exact⟨x,h1,e⟩
 have dw:=hM.len
 apply aI
 ·exact bR rfl
 refine eu (k:=(dh rs,some (r,dh rs))) (fun i ρ s=>∃x o4 o5 o6,ρ=[some M.w,some (.loc r),some (.loc b),some (.loc st.length),o4,o5,o6]/\s=st++.dct (vD (fun a=>.tup ((rC M rs B a).map W.int)) (rs.take i))::x) (eW (ak rfl) (aO (aG hr))) ⟨[],none,none,none,rfl,rfl⟩ ?_ ?_ ?_
 ·rintro i ρ' s ⟨x,o4,o5,o6,rfl,rfl⟩
  exact aO (aG hr)
 ·rintro i w ρ' s hw ⟨x,o4,o5,o6,rfl,rfl⟩
  rw[ar]at hw
  obtain⟨a,ha,rfl⟩:=aY.mp hw
  obtain⟨hi,ham,_,_⟩:=qw hM.nd ha
  refine⟨_,rfl,?_⟩
  have c3:(st++.dct (vD (fun a=>.tup ((rC M rs B a).map W.int)) (rs.take i))::x)[st.length]?=some (.dct (vD (fun a=>.tup ((rC M rs B a).map W.int)) (rs.take i))):=by rw[cu];rfl
  have cr:(st++.dct (vD (fun a=>.tup ((rC M rs B a).map W.int)) (rs.take i))::x)[r]?=some (.lst (dh rs)):=aG hr
  have cb:(st++.dct (vD (fun a=>.tup ((rC M rs B a).map W.int)) (rs.take i))::x)[b]?=some (.dct (oX B rs)):=aG hb
  have hss:∀(y:List ao) (c:ao),∃x',(st++.dct (vD (fun a=>.tup ((rC M rs B a).map W.int)) (rs.take i))::x++y).set st.length c=st++c::x':=fun y c=>⟨x++y,by rw[aA,fj];rfl⟩
  generalize st++.dct (vD (fun a=>.tup ((rC M rs B a).map W.int)) (rs.take i))::x=s0 at c3 cr cb hss
  apply aI
  ·exact bR (uX aM (df _))
  refine eu (k:=(M.tb.map fK,none)) (fun k ρ s=>∃y o6,ρ=[some M.w,some (.loc r),some (.loc b),some (.loc st.length),some (.int (a:Nat)),some (.loc s0.length),o6]/\s=s0++.lst ((kX k rs).map fun p=>W.int (B (led (bd M) p a):Nat))::y) (nS (bE (ak rfl) cR (dq rfl))) ⟨[],_,rfl,rfl⟩ (fun _ _ _ _=>trivial) ?_ ?_
  ·rintro k w ρ' s hw ⟨y,o6,rfl,rfl⟩
   rw[ar]at hw
   obtain⟨t,ht,rfl⟩:=aY.mp hw
   have hk:k<M.tb.length:=(aa.mp ht).1
   refine⟨_,rfl,?_⟩
   have qR:(kX k rs).length<=10000:=by
    rw[rA]
    refine aV (Nat.mul_le_mul_right _ (eX hk)) hM.sz
   have c5:(s0++.lst ((kX k rs).map fun p=>W.int (B (led (bd M) p a):Nat))::y)[s0.length]?=some (.lst ((kX k rs).map fun p=>W.int (B (led (bd M) p a):Nat))):=by rw[cu];rfl
   have cr':(s0++.lst ((kX k rs).map fun p=>W.int (B (led (bd M) p a):Nat))::y)[r]?=some (.lst (dh rs)):=aG cr
   have cb':(s0++.lst ((kX k rs).map fun p=>W.int (B (led (bd M) p a):Nat))::y)[b]?=some (.dct (oX B rs)):=aG cb
   apply aI
   ·refine gf (n_ (ak rfl) (fS c5) (am (g9 (fun w=>W.int (B (bd M k a (ji w)):Nat)) (eW (ak rfl) (aO cr')) (by rw[al];show _<=1000000;omega) (aO cr') fun w hw=>?_) aM) (wA (aG c5) bn (by rw[al,al,al];omega)))
    obtain⟨z,hz,rfl⟩:=zZ hw
    obtain⟨row,e1,e2,_⟩:=u8 hM.ok ht (hM.lt a ham) (hM.lt z hz)
    rw[jk]
    exact⟨_,rfl,bE (ak rfl) (bE (bE (ak rfl) (ak rfl) (u9 e1)) (ak rfl) (u_ e2)) (mT (f' cb') (jw hM.nd (hM.cl k hk a ham z hz)))⟩
   rw[aA,fj,Fs rs fun t=>W.int (B (bd M k a t):Nat)]
   generalize hy:(y++[.lst (rs.map fun t=>W.int (B (bd M k a t):Nat))]:List ao)=y1
   generalize hL1:((kX k rs).map fun p=>W.int (B (led (bd M) p a):Nat))++(rs.map fun t=>W.int (B (bd M k a t):Nat))=L1
   have hl1:L1.length<=20000:=by rw[<- hL1];simp;omega
   show gH _ (fy _ _ (s0++.lst L1::(y++[_])))
   rw[hy]
   have c5':(s0++.lst L1::y1)[s0.length]?=some (.lst L1):=by rw[cu];rfl
   have cr2:(s0++.lst L1::y1)[r]?=some (.lst (dh rs)):=aG cr
   have cb2:(s0++.lst L1::y1)[b]?=some (.dct (oX B rs)):=aG cb
   refine⟨_,_,gf (n_ (ak rfl) (fS c5') (am (g9 (fun w=>W.int (B (bd M k (ji w) a):Nat)) (eW (ak rfl) (aO cr2)) (by rw[al];show _<=1000000;omega) (aO cr2) fun w hw=>?_) aM) (wA (aG c5') bn (by rw[al,al];omega))),y1++[.lst (rs.map fun t=>W.int (B (bd M k t a):Nat))],_,rfl,?_⟩
   ·obtain⟨z,hz,rfl⟩:=zZ hw
    obtain⟨row,e1,e2,_⟩:=u8 hM.ok ht (hM.lt z hz) (hM.lt a ham)
    rw[jk]
    exact⟨_,rfl,bE (ak rfl) (bE (bE (ak rfl) (ak rfl) (u9 e1)) (ak rfl) (u_ e2)) (mT (f' cb2) (jw hM.nd (hM.cl k hk z hz a ham)))⟩
   ·rw[aA,fj,Fs rs fun t=>W.int (B (bd M k t a):Nat)]
    show s0++.lst (L1++_)::(y1++_)=s0++.lst _::_
    congr 3
    rw[yt,<- hL1]
    simp[led,bb,cN]
  ·rintro ρ' s ⟨y,o6,rfl,rfl⟩
   rw[al]
   have c5:(s0++.lst ((kX M.tb.length rs).map fun p=>W.int (B (led (bd M) p a):Nat))::y)[s0.length]?=some (.lst ((kX M.tb.length rs).map fun p=>W.int (B (led (bd M) p a):Nat))):=by rw[cu];rfl
   have ev:W.tup ((kX M.tb.length rs).map fun p=>W.int (B (led (bd M) p a):Nat))=.tup ((rC M rs B a).map W.int):=by
    unfold rC;rw[bb];rfl
   obtain⟨x',hx⟩:=hss (.lst ((kX M.tb.length rs).map fun p=>W.int (B (led (bd M) p a):Nat))::y) (.dct (vD (fun a=>.tup ((rC M rs B a).map W.int)) (rs.take (i+1))))
   refine⟨_,_,kG (bP (am (ak rfl) aM) (gI (aO c5))) (ak rfl) (ak rfl) (by rw[ev];exact Fp (V:=fun a=>.tup ((rC M rs B a).map W.int)) hM.nd ha (by omega) (aG c3)),x',_,_,_,rfl,hx⟩
 ·rintro ρ' s ⟨x,o4,o5,o6,rfl,rfl⟩
  rw[al,fw]
  exact⟨_,_,jh (ak rfl),0,_,rfl,rfl,rfl,rfl⟩
theorem HU{fs:FA}{ρ:bS}{st st1:List ao}{n:Nat}{zs:List W}(h:fs ρ st=.ok [.loc n] st1)(hl:lstOf st1 n=some zs):l9 fs ρ st=.ok (mQ zs,some (n,zs)) st1:=by
 unfold l9;rw[h];simp only[R.bind_ok,hl]
theorem HW(rs:List Nat)(i:Nat):(dh rs).drop i=dh (rs.drop i):=by unfold dh;rw[li]
theorem z4{st:List ao}{r:Nat}{rs:List Nat}(hr:st[r]?=some (.lst (dh rs)))(hl:rs.length<=100) :
  ∃x:List ao,x[0]?=some (.lst ((dS rs).map iR))/\EW [.loc r] st=.ok (.loc st.length) (st++x):=by
 suffices hh:gH (ql fun w bG=>∃j x,w=.loc (st.length+j)/\bG=st++x/\j=0/\x[0]?=some (.lst ((dS rs).map iR))) (OB ([W.loc r].map some++List.replicate (4-1) none) st) by
  obtain⟨j,x,⟨rfl,h1⟩,e⟩:=jQ hh
  exact⟨x,h1,e⟩
 have qR:=nY rs
 have hp2:(dS rs).length<=10000:=aV qR (aV (g7 hl hl) (by decide))
 apply aI
 ·exact bR (uX aM (df _))
 refine eu (k:=(mQ (dh rs),some (r,dh rs))) (fun i ρ s=>∃Q y o2 o3,dS rs=Q++dS (rs.drop i)/\ρ=[some (.loc r),some (.loc st.length),o2,o3]/\s=st++.lst (Q.map iR)::y) (HU (am (ak rfl) aM) (aO (aG hr))) ⟨[],[],none,none,rfl,rfl,rfl⟩ ?_ ?_ ?_
 ·rintro i ρ' s ⟨Q,y,o2,o3,_,rfl,rfl⟩
  exact aO (aG hr)
 ·rintro i w ρ' s hw ⟨Q,y,o2,o3,hQ,rfl,rfl⟩
  obtain⟨y',hy',rfl⟩:=nO hw
  rw[ar]at hy'
  obtain⟨a,ha,rfl⟩:=aY.mp hy'
  have hi:i<rs.length:=(aa.mp ha).1
  have hdr:rs.drop i=a::rs.drop (i+1):=by
   rw[d7 hi];congr 1
   rw[ae hi]at ha;exact a9 ha
  refine⟨_,rfl,?_⟩
  have c1:(st++.lst (Q.map iR)::y)[st.length]?=some (.lst (Q.map iR)):=by rw[cu];rfl
  have cr:(st++.lst (Q.map iR)::y)[r]?=some (.lst (dh rs)):=aG hr
  have hcut:jN (dh rs) (some ((i:Int)+1)) none=dh (rs.drop (i+1)):=by
   rw[show((i:Int)+1)=((i+1:Nat):Int) by omega,pK (by rw[al];omega),HW]
  have sl:zd (.loc r) (some ((i:Int)+1)) none (st++.lst (Q.map iR)::y)=.ok (.loc (st++.lst (Q.map iR)::y).length) ((st++.lst (Q.map iR)::y)++[.lst (dh (rs.drop (i+1)))]):=by
   rw[xR (aO cr),hcut]
  have hQl:Q.length+(rs.drop (i+1)).length<=10000:=by
   have:=fB List.length hQ
   rw[hdr]at this
   simp only[dS,aH,al]at this
   omega
  refine⟨_,_,gf (n_ (ak rfl) (fS c1) (am (g9 (fun w=>W.tup [.int (a:Nat),w]) (eW (Ci (ak rfl) (xQ (bE (ak rfl) cR fA)) HA sl) (aO bn)) (by rw[al];show _<=1000000;omega) (aO bn) fun w hw=>⟨_,rfl,fR (am (ak rfl) (am (ak rfl) aM)) (by show 2<=1000000;decide)⟩) aM) (wA (aG (aG c1)) bn (by rw[al,al,al];omega))),Q++(rs.drop (i+1)).map (fun b=>(a,b)),y++[.lst (dh (rs.drop (i+1)))]++[.lst ((dh (rs.drop (i+1))).map fun w=>W.tup [.int (a:Nat),w])],_,_,?_,rfl,?_⟩
  ·rw[hQ,hdr];simp[dS]
  ·rw[aA,aA,fj]
   simp[iR]
   rfl
 ·rintro ρ' s ⟨Q,y,o2,o3,hQ,rfl,rfl⟩
  rw[qg,al,List.drop_length]at hQ
  simp only[dS,dy]at hQ
  exact⟨_,_,jh (ak rfl),0,_,rfl,rfl,rfl,by rw[hQ];rfl⟩
def tH:W->Nat
 |.tup [.int z,_]=>z.toNat
 |_=>0
def tI:W->Nat
 |.tup [_,.int z]=>z.toNat
 |_=>0
theorem qx(p:Nat×Nat):tH (iR p)=p.1:=by show((p.1:Int)).toNat=_;omega
theorem qy(p:Nat×Nat):tI (iR p)=p.2:=by show((p.2:Int)).toNat=_;omega
theorem ve(F:Nat->Nat->Bool)(ps:List (Nat×Nat)):((ps.map iR).filter fun w=>F (tH w) (tI w))=(ps.filter fun p=>F p.1 p.2).map iR:=by
 rw[jD]
 congr 1
section
variable{st:List ao}{b q:Nat}{rs:List Nat}{B:Nat->Nat}{ps:List (Nat×Nat)}
theorem vf(p_:rs.Nodup)(hb:st[b]?=some (.dct (oX B rs)))(hq:st[q]?=some (.lst (ps.map iR)))(hm:∀p∈ps,p.1∈rs/\p.2∈rs)(hl:ps.length<=10000) :
  zR [.loc b,.loc q] st=.ok (.loc st.length) (st++[.lst ((ps.filter fun p=>!(B p.1==B p.2)).map iR)]):=by
 refine pH (N:=2) (body:=OE) (ws:=[.loc b,.loc q]) (k:=0) (x:=[.lst ((ps.filter fun p=>!(B p.1==B p.2)).map iR)]) ?_
 refine jh ?_
 have:=v9 (cap:=[none,none,some 0]) (fi:=ce (ag 1)) (f:=zg 2 (dY (eJ 0) (dY (eJ 1) kA))) (t:=gp (e2 Gn (e2 iY (ag 2) (ag 0)) (e2 iY (ag 2) (ag 1)))) (el:=dk (ai (ag 0) (ai (ag 1) aE))) (ρ:=[W.loc b,.loc q].map some++List.replicate (2-2) none) (st:=st) (st1:=st) (fun w=>!(B (tH w)==B (tI w))) (fun w=>w) (eW (ak rfl) (aO hq)) (by rw[al];show _<=1000000;omega) (aO hq) fun w hw=>by
  obtain⟨p,hp,rfl⟩:=aS.mp hw
  refine⟨_,rfl,dE (bE (bE (ak rfl) (ak rfl) (mT (f' hb) (jw p_ (hm p hp).1))) (bE (ak rfl) (ak rfl) (mT (f' hb) (jw p_ (hm p hp).2))) (IQ ?_)),fun _=>fR (am (ak rfl) (am (ak rfl) aM)) (by show 2<=1000000;decide)⟩
  rw[qx,qy,dX];simp;omega
 rw[ve (fun x y=>!(B x==B y)),List.map_id']at this
 exact this
theorem yv(p_:rs.Nodup)(hb:st[b]?=some (.dct (oX B rs)))(hq:st[q]?=some (.lst (ps.map iR)))(hm:∀p∈ps,p.1∈rs/\p.2∈rs)(hl:ps.length<=10000) :
  u0 [.loc b,.loc q] st=.ok (.loc st.length) (st++[.lst ((ps.filter fun p=>B p.1==B p.2).map iR)]):=by
 refine pH (N:=2) (body:=Jk) (ws:=[.loc b,.loc q]) (k:=0) (x:=[.lst ((ps.filter fun p=>B p.1==B p.2).map iR)]) ?_
 refine jh ?_
 have:=v9 (cap:=[none,none,some 0]) (fi:=ce (ag 1)) (f:=zg 2 (dY (eJ 0) (dY (eJ 1) kA))) (t:=gp (e2 lp (e2 iY (ag 2) (ag 0)) (e2 iY (ag 2) (ag 1)))) (el:=dk (ai (ag 0) (ai (ag 1) aE))) (ρ:=[W.loc b,.loc q].map some++List.replicate (2-2) none) (st:=st) (st1:=st) (fun w=>(B (tH w)==B (tI w))) (fun w=>w) (eW (ak rfl) (aO hq)) (by rw[al];show _<=1000000;omega) (aO hq) fun w hw=>by
  obtain⟨p,hp,rfl⟩:=aS.mp hw
  refine⟨_,rfl,dE (bE (bE (ak rfl) (ak rfl) (mT (f' hb) (jw p_ (hm p hp).1))) (bE (ak rfl) (ak rfl) (mT (f' hb) (jw p_ (hm p hp).2))) (iu ?_)),fun _=>fR (am (ak rfl) (am (ak rfl) aM)) (by show 2<=1000000;decide)⟩
  rw[qx,qy,dX];simp;omega
 rw[ve (fun x y=>B x==B y),List.map_id']at this
 exact this
theorem Fu{f:bS->List ao->R Bool}{ρ:bS}{st a b:List ao}(h1:f ρ st=.ok false a)(h2:f ρ st=.ok true b):False:=by
 rw[h1]at h2;cases h2
theorem L6{r m d:Nat}{va vb:List Int}{x y:Int}{t:Nat}(hr:st[r]?=some (.lst (dh rs)))(hm:rs.length=m)(PV:0<m)(RV:m<=100)(hd:d<=10000)(hs:∀i,i<d->va[i]?=vb[i]?/\i<va.length)(hx:va[d]?=some x)(hy:vb[d]?=some y)(RM:x≠y)(ht:rs[d%m]?=some t) :
  x6 [.tup (va.map W.int),.tup (vb.map W.int),.loc r] st=.ok (yo (d/(m*2),d/m%2,t)) st:=by
 refine sW ?_ rfl
 apply aI
 ·exact bR cR
 refine nT (fun n ρ s=>∃k o4,d=k+n/\s=st/\ρ=[some (.tup (va.map W.int)),some (.tup (vb.map W.int)),some (.loc r),some (.int (k:Nat)),o4]) d ⟨0,none,by omega,rfl,rfl⟩ ?_ ?_
 ·rintro n ρ s ⟨k,o4,hk,rfl,rfl⟩
  rcases iq n with z|z
  ·subst z
   obtain rfl:d=k:=by omega
   refine .inl (dE (bE (bE (ak rfl) (ak rfl) (dq (dO (by rw[ar,hx];rfl)))) (bE (ak rfl) (ak rfl) (dq (dO (by rw[ar,hy];rfl)))) (iu (by simpa using RM))))
  ·obtain⟨h1,h2⟩:=hs k (by omega)
   have e1:va[k]?=some va[k]:=ae h2
   refine .inr ⟨dE (bE (bE (ak rfl) (ak rfl) (dq (dO (by rw[ar,e1];rfl)))) (bE (ak rfl) (ak rfl) (dq (dO (by rw[ar,<- h1,e1];rfl)))) (iu (by simp))),_,_,bR (bE (ak rfl) cR fA),n-1,by omega,k+1,o4,by omega,rfl,?_⟩
   show _=[_,_,_,some (W.int ((k+1:Nat):Int)),_]
   rw[show((k+1:Nat):Int)=(k:Int)+1 by omega];rfl
 ·rintro n ρ s ⟨k,o4,hk,rfl,rfl⟩ hf
  have hkd:k=d:=by
   rcases iq n with z|z
   ·omega
   ·exfalso
    obtain⟨h1,h2⟩:=hs k (by omega)
    have e1:va[k]?=some va[k]:=ae h2
    exact Fu hf (dE (bE (bE (ak rfl) (ak rfl) (dq (dO (by rw[ar,e1];rfl)))) (bE (ak rfl) (ak rfl) (dq (dO (by rw[ar,<- h1,e1];rfl)))) (iu (by simp))))
  subst hkd
  have ln:fQ [.loc r] s=.ok (.int (m:Nat)) s:=by
   have:=il (aO hr)
   rw[al,hm]at this;exact this
  apply aI
  ·exact bR (bP (am (ak rfl) aM) ln)
  have m1:iC (.int (m:Nat)) (.int 2) s=.ok (.int ((m*2:Nat):Int)) s:=by
   rw[show((m*2:Nat):Int)=(m:Int)*2 by omega];exact sV (by unfold xq;omega)
  have d1:pi (.int (k:Nat)) (.int ((m*2:Nat):Int)) s=.ok (.int ((k/(m*2):Nat):Int)) s:=by rw[Int.natCast_ediv];exact jt (by omega)
  have d2:pi (.int (k:Nat)) (.int (m:Nat)) s=.ok (.int ((k/m:Nat):Int)) s:=by rw[Int.natCast_ediv];exact jt (by omega)
  have d3:eK (.int ((k/m:Nat):Int)) (.int 2) s=.ok (.int ((k/m%2:Nat):Int)) s:=by rw[Int.natCast_emod];exact jt (by omega)
  have d4:eK (.int (k:Nat)) (.int (m:Nat)) s=.ok (.int ((k%m:Nat):Int)) s:=by rw[Int.natCast_emod];exact jt (by omega)
  refine⟨_,_,jh (fR (am (bE (ak rfl) (bE (ak rfl) cR m1) d1) (am (bE (bE (ak rfl) (ak rfl) d2) cR d3) (am (bE (ak rfl) (bE (ak rfl) (ak rfl) d4) (lB (aO hr) (dO (by rw[ar,ht];rfl)))) aM))) (by show 3<=1000000;decide)),rfl,[],by simp⟩
end
theorem HX{L:Nat}{rs:List Nat}{p:Nat×Nat×Nat}(h:p∈kX L rs):p.1<L/\p.2.2∈rs:=by
 unfold kX at h
 rw[ja]at h
 obtain⟨a,ha,h⟩:=h
 have:=bt.mp ha
 rcases aQ.mp h with h|h<;>(obtain⟨t,ht,rfl⟩:=aS.mp h;exact⟨this,ht⟩)
section
variable{M:Mc}{N:Nat}{rs:List Nat}{B:Nat->Nat}{s:Nat}
theorem Rm.led(hM:Rm M N rs){p:Nat×Nat×Nat}(hp:p∈kX M.tb.length rs){a:Nat}(ha:a∈rs):led (bd M) p a∈rs:=by
 obtain⟨h1,h2⟩:=HX hp
 unfold P.led
 split
 ·exact hM.cl _ h1 _ ha _ h2
 ·exact hM.cl _ h1 _ h2 _ ha
abbrev q5(M:Mc)(rs:List Nat)(s a b:Nat):Bool:=ap (bd M) M.tb.length (gM M) rs s a b
abbrev jx(M:Mc)(rs:List Nat)(s a b:Nat):Bool:=jR (bd M) M.tb.length (gM M) rs s a b
abbrev cA(M:Mc)(rs:List Nat)(s:Nat):List (Nat×Nat):=qu (bd M) M.tb.length (gM M) rs s
abbrev f7(M:Mc)(rs:List Nat)(s:Nat):List W:=Fg (bd M) M.tb.length (gM M) rs s
abbrev gj(M:Mc)(rs:List Nat)(s:Nat)(p:Nat×Nat):W:=yp (bd M) M.tb.length (gM M) rs s p
abbrev yw(M:Mc)(rs:List Nat)(n:Nat):Prop:=vc (bd M) M.tb.length (gM M) rs n
def Gp(M:Mc)(rs:List Nat)(s:Nat)(B:Nat->Nat):Prop:=∀a∈rs,∀b∈rs,(B a=B b↔q5 M rs s a b=false)
theorem ON(h:∀a∈rs,∀b∈rs,(B a=B b↔gM M a=gM M b)):Gp M rs 0 B:=fun a ha b hb=>by
 rw[h a ha b hb];unfold q5 ap;simp
theorem OO(hM:Rm M N rs){B':Nat->Nat}(h:Gp M rs s B)(h':∀a∈rs,∀b∈rs,(B' a=B' b↔B a=B b/\rC M rs B a=rC M rs B b)):Gp M rs (s+1) B':=fun a ha b hb=>by
 rw[h' a ha b hb,h a ha b hb]
 unfold rC
 rw[List.map_inj_left]
 constructor
 ·rintro⟨z1,z2⟩
  exact OM z1 fun p hp=>(h _ (hM.led hp ha) _ (hM.led hp hb)).mp (by have:=z2 p hp;omega)
 ·intro z
  obtain⟨z1,z2⟩:=A' z
  exact⟨z1,fun p hp=>by rw[(h _ (hM.led hp ha) _ (hM.led hp hb)).mpr (z2 p hp)]⟩
theorem Bc(h:Gp M rs s B){a b:Nat}(ha:a∈rs)(hb:b∈rs):(B a==B b)=!q5 M rs s a b:=by
 rw[dX,dB,h a ha b hb];simp
theorem HY(h:Gp M rs s B):(((dS rs).filter fun p=>jx M rs s p.1 p.2).filter fun p=>B p.1==B p.2)=(dS rs).filter fun p=>jx M rs (s+1) p.1 p.2:=by
 rw[kq]
 refine iO fun p hp=>?_
 obtain⟨h1,h2⟩:=me hp
 rw[Bc h h1 h2,oI];exact(tD s p.1 p.2).symm
theorem yx(h:Gp M rs s B):(((dS rs).filter fun p=>jx M rs s p.1 p.2).filter fun p=>!(B p.1==B p.2))=cA M rs s:=by
 rw[kq]
 refine iO fun p hp=>?_
 obtain⟨h1,h2⟩:=me hp
 rw[Bc h h1 h2,Bool.not_not,oI]
theorem rD{p:Nat×Nat}(hp:p∈cA M rs s):(p.1∈rs/\p.2∈rs)/\jx M rs s p.1 p.2=true/\q5 M rs s p.1 p.2=true:=by
 obtain⟨h1,h2⟩:=cB.mp hp
 rw[aX]at h2
 exact⟨me h1,h2⟩
theorem HZ(hM:Rm M N rs)(h:Gp M rs s B){st:List ao}{r:Nat}(hr:st[r]?=some (.lst (dh rs))){a b:Nat}(hp:(a,b)∈cA M rs (s+1)) :
  ∃w,uh (bd M) M.tb.length (gM M) rs (s+1) a b=some w/\x6 [.tup ((rC M rs B a).map W.int),.tup ((rC M rs B b).map W.int),.loc r] st=.ok w st:=by
 obtain⟨⟨ha,hb⟩,ho,hap⟩:=rD hp
 have ha:a∈rs:=ha
 have hb:b∈rs:=hb
 have hs:=Fh (T:=bd M) (L:=M.tb.length) (g:=gM M) (rs:=rs) ho
 have hap':ap (bd M) M.tb.length (gM M) rs (s+1) a b=true:=hap
 rw[hap']at hs
 obtain⟨p,hfind⟩:=fZ.mp hs.symm
 refine⟨yo p,?_,?_⟩
 ·show(((kX M.tb.length rs).find? fun p=>ap (bd M) M.tb.length (gM M) rs s (led (bd M) p a) (led (bd M) p b)).map yo)=_
  rw[hfind];rfl
 obtain⟨hF,d,hd,hpd,hbe⟩:=i9.mp hfind
 have hd':d<M.tb.length*(2*rs.length):=by rw[<- rA];exact hd
 obtain⟨t,ht,hat⟩:=Fk M.tb.length hd'
 have hat2:(kX M.tb.length rs)[d]?=some p:=by rw[ae hd,hpd]
 rw[hat2]at hat
 cases hat
 have PV:0<rs.length:=gB ha
 have vl:∀x:Nat,(rC M rs B x).length=(kX M.tb.length rs).length:=fun x=>by unfold rC;rw[al]
 have vat:∀(x i:Nat) (q:Nat×Nat×Nat),(kX M.tb.length rs)[i]?=some q->(rC M rs B x)[i]?=some ((B (led (bd M) q x):Nat):Int):=fun x i q e=>by unfold rC;rw[ar,e];rfl
 have hpm:(d/(rs.length*2),d/rs.length%2,t)∈kX M.tb.length rs:=aN hat2
 refine L6 (d:=d) hr rfl PV hM.len (by have:=hM.sz;omega) (fun i hi=>?_) (vat a d _ hat2) (vat b d _ hat2) (fun z=>?_) ht
 ·have hi':i<(kX M.tb.length rs).length:=by omega
  have e1:=ae hi'
  refine⟨?_,by rw[vl];exact hi'⟩
  rw[vat a i _ e1,vat b i _ e1]
  have hq:=fq hi'
  have:=hbe i hi
  rw[(h _ (hM.led hq ha) _ (hM.led hq hb)).mpr (by simpa using this)]
 ·have:=(h _ (hM.led hpm ha) _ (hM.led hpm hb)).mp (by omega)
  have hF':q5 M rs s (led (bd M) (d/(rs.length*2),d/rs.length%2,t) a) (led (bd M) (d/(rs.length*2),d/rs.length%2,t) b)=true:=hF
  rw[this]at hF';cases hF'
end
section
variable{M:Mc}{N:Nat}{rs:List Nat}{st:List ao}
theorem rE(hl:rs.length<=100)(s:Nat):(cA M rs s).length<=10000:=aV (d9 _ _) (aV (nY rs) (aV (g7 hl hl) (by decide)))
theorem wB(hl:rs.length<=100)(s:Nat):((dS rs).filter fun p=>jx M rs s p.1 p.2).length<=10000:=aV (d9 _ _) (aV (nY rs) (aV (g7 hl hl) (by decide)))
theorem wC:∀n:Nat,(f7 M rs n).length+Fi (bd M) M.tb.length (gM M) rs n=(dS rs).length
 |0=>by
  unfold Fi f7 Fg
  rw[List.range_zero,List.flatMap_nil]
  simp[jR]
 |n+1=>by
  have ih:=wC n
  unfold f7 at ih ⊢
  rw[i5,aH,al]
  have e:=md (fun p:Nat×Nat=>jx M rs n p.1 p.2) (fun p=>q5 M rs n p.1 p.2) (dS rs)
  unfold Fi at ih ⊢
  simp only[tD]
  unfold qu
  have e':((dS rs).filter fun p=>jR (bd M) M.tb.length (gM M) rs n p.1 p.2).length=((dS rs).filter fun x=>jR (bd M) M.tb.length (gM M) rs n x.1 x.2&&ap (bd M) M.tb.length (gM M) rs n x.1 x.2).length+((dS rs).filter fun x=>jR (bd M) M.tb.length (gM M) rs n x.1 x.2&&!ap (bd M) M.tb.length (gM M) rs n x.1 x.2).length:=e
  omega
theorem Fv(hl:rs.length<=100)(n:Nat):(f7 M rs n).length<=10000:=by
 have:=wC (M:=M) (rs:=rs) n
 have h2:(dS rs).length<=10000:=aV (nY rs) (aV (g7 hl hl) (by decide))
 omega
structure Uw(M:Mc)(rs:List Nat)(st S:List ao)(ρ:bS)(s:Nat):Prop where
 mk'::ex:∃(r q b p w:Nat) (o7:Option W) (B:Nat->Nat),ρ=[some M.w,some (.loc r),some (.loc q),some (.int (s:Nat)),some (.loc b),some (.loc p),some (.loc w),o7]/\(∃x,S=st++x)/\st.length<=w/\r<w/\Gp M rs s B/\(∀k,k<s->cA M rs k≠[]) /\
  S[r]?=some (.lst (dh rs))/\S[q]?=some (.lst (((dS rs).filter fun p=>jx M rs s p.1 p.2).map iR))/\S[b]?=some (.dct (oX B rs))/\S[p]?=some (.lst ((cA M rs s).map iR))/\S[w]?=some (.lst (f7 M rs (s+1)))
abbrev uT:FT:=gp (e2 BY (bD fQ (ai (ag 5) aE)) (eI 0))
abbrev uB:FS:=(aW (bF 2 (c8 2 u0 (ai (ag 4) (ai (ag 2) aE)))) (aW (bF 7 (c8 3 Cm (ai (ag 0) (ai (ag 1) (ai (ag 4) aE))))) (aW (bF 3 (e2 dR (ag 3) (eI 1))) (aW (bF 4 (c8 3 Cn (ai (ag 1) (ai (ag 4) (ai (ag 7) aE))))) (aW (bF 5 (c8 2 zR (ai (ag 4) (ai (ag 2) aE)))) (fy (qI gX (ag 6) (ai (dD [none,none,some 3,some 1,some 7] (ce (ag 5)) (zg 2 (dY (eJ 0) (dY (eJ 1) kA))) ij (dk (ai (ag 0) (ai (ag 1) (ai (ag 2) (ai (c8 3 x6 (ai (e2 iY (ag 4) (ag 0)) (ai (e2 iY (ag 4) (ag 1)) (ai (ag 3) aE)))) aE)))))) aE))))))))
theorem Bd{S:List ao}{ρ:bS}{s:Nat}(h:Uw M rs st S ρ s):uT ρ S=.ok (!(cA M rs s).isEmpty) S:=by
 obtain⟨r,q,b,p,w,o7,B,rfl,hx,hw,hrw,hB,hgo,cr,cq,cb,cp,cw⟩:=h.ex
 have ln:=il (aO cp)
 rw[al]at ln
 refine dE (bE (bP (am (ak rfl) aM) ln) cR (mR ?_))
 rw[dX,bM]
 cases cA M rs s with
 |nil=>simp
 |cons x l=>simp
theorem H9(hM:Rm M N rs){S:List ao}{ρ:bS}{s:Nat}(h:Uw M rs st S ρ s)(hn:cA M rs s≠[]):gH (En fun ρ2 S2=>Uw M rs st S2 ρ2 (s+1)) (uB ρ S):=by
 obtain⟨r,q,b,p,w,o7,B,rfl,⟨x,hx⟩,hw,hrw,hB,hgo,cr,cq,cb,cp,cw⟩:=h.ex
 have dw:=hM.len
 have CW:=(aa.mp cw).1
 have ev1:=yv hM.nd cb cq (fun p hp=>me (cB.mp hp).1) (wB dw s)
 rw[HY hB]at ev1
 apply aI
 ·exact bR (dm (am (ak rfl) (am (ak rfl) aM)) ev1 rfl)
 have cq1:(S++[.lst (((dS rs).filter fun p=>jx M rs (s+1) p.1 p.2).map iR)])[S.length]?=some (.lst (((dS rs).filter fun p=>jx M rs (s+1) p.1 p.2).map iR)):=bn
 have pre1:∃y,(S++[.lst (((dS rs).filter fun p=>jx M rs (s+1) p.1 p.2).map iR)]:List ao)=S++y:=⟨_,rfl⟩
 generalize S++[.lst (((dS rs).filter fun p=>jx M rs (s+1) p.1 p.2).map iR)]=S1 at cq1 pre1
 obtain⟨y1,hy1⟩:=pre1
 have cr1:S1[r]?=some (.lst (dh rs)):=by rw[hy1];exact aG cr
 have cb1:S1[b]?=some (.dct (oX B rs)):=by rw[hy1];exact aG cb
 obtain⟨xv,hxv,ev2⟩:=Ft hM cr1 cb1
 apply aI
 ·exact bR (dm (am (ak rfl) (am (ak rfl) (am (ak rfl) aM))) ev2 rfl)
 have cv2:(S1++xv)[S1.length]?=some (.dct (vD (fun a=>.tup ((rC M rs B a).map W.int)) rs)):=by rw[cu];exact hxv
 apply aI
 ·exact bR (bE (ak rfl) cR fA)
 obtain⟨B',x3,hB',hx3,ev3⟩:=Fq (aG cr1) (aG cb1) cv2 hM.nd (by omega)
 have hB1:Gp M rs (s+1) B':=OO hM hB hB'
 apply aI
 ·exact bR (dm (am (ak rfl) (am (ak rfl) (am (ak rfl) aM))) ev3 rfl)
 have cb3:(S1++xv++x3)[(S1++xv).length+2]?=some (.dct (oX B' rs)):=by rw[f9];exact hx3
 have ev4:=vf hM.nd cb3 (aG (aG cq1)) (fun p hp=>me (cB.mp hp).1) (wB dw (s+1))
 rw[yx hB1]at ev4
 apply aI
 ·exact bR (dm (am (ak rfl) (am (ak rfl) aM)) ev4 rfl)
 have cp4:(S1++xv++x3++[.lst ((cA M rs (s+1)).map iR)])[(S1++xv++x3).length]?=some (.lst ((cA M rs (s+1)).map iR)):=bn
 have cr4:(S1++xv++x3++[.lst ((cA M rs (s+1)).map iR)])[r]?=some (.lst (dh rs)):=aG (aG (aG cr1))
 have cv4:(S1++xv++x3++[.lst ((cA M rs (s+1)).map iR)])[S1.length]?=some (.dct (vD (fun a=>.tup ((rC M rs B a).map W.int)) rs)):=aG (aG cv2)
 have cq4:(S1++xv++x3++[.lst ((cA M rs (s+1)).map iR)])[S.length]?=_:=aG (aG (aG cq1))
 have cb4:(S1++xv++x3++[.lst ((cA M rs (s+1)).map iR)])[(S1++xv).length+2]?=some (.dct (oX B' rs)):=aG cb3
 have cw4:(S1++xv++x3++[.lst ((cA M rs (s+1)).map iR)])[w]?=some (.lst (f7 M rs (s+1))):=aG (aG (aG (by rw[hy1];exact aG cw)))
 have hwS1:w<S1.length:=by rw[hy1,aH];omega
 have hwq:w≠S.length:=by omega
 have hwb:w≠(S1++xv).length+2:=by rw[aH];omega
 have hwp:w≠(S1++xv++x3).length:=by rw[aH,aH];omega
 have hX:∃z,(S1++xv++x3++[.lst ((cA M rs (s+1)).map iR)]:List ao)=st++z:=⟨x++y1++xv++x3++[.lst ((cA M rs (s+1)).map iR)],by rw[hy1,hx];simp⟩
 generalize hS4:(S1++xv++x3++[.lst ((cA M rs (s+1)).map iR)]:List ao)=S4 at cp4 cr4 cv4 cq4 cb4 cw4 hX
 have hrows:((cA M rs (s+1)).map iR).map (fun w=>gj M rs (s+1) (tH w,tI w))=(cA M rs (s+1)).map (gj M rs (s+1)):=by
  rw[bb]
  refine bC fun p hp=>?_
  show gj M rs (s+1) (tH (iR p),tI (iR p))=_
  rw[qx,qy]
 have hout:f7 M rs (s+1)++(cA M rs (s+1)).map (gj M rs (s+1))=f7 M rs (s+2):=(i5 (s+1)).symm
 have ec:=g9 (cap:=[none,none,some 3,some 1,some 7]) (fi:=ce (ag 5)) (f:=zg 2 (dY (eJ 0) (dY (eJ 1) kA))) (el:=dk (ai (ag 0) (ai (ag 1) (ai (ag 2) (ai (c8 3 x6 (ai (e2 iY (ag 4) (ag 0)) (ai (e2 iY (ag 4) (ag 1)) (ai (ag 3) aE)))) aE))))) (ρ:=[some M.w,some (.loc r),some (.loc S.length),some (.int ((s:Int)+1)),some (.loc ((S1++xv).length+2)),some (.loc (S1++xv++x3).length),some (.loc w),some (.loc S1.length)]) (st:=S4) (st1:=S4) (fun w=>gj M rs (s+1) (tH w,tI w)) (eW (ak rfl) (aO cp4)) (by rw[al];have:=rE (M:=M) dw (s+1);show _<=1000000;omega) (aO cp4) fun v hv=>by
  obtain⟨p,hp,rfl⟩:=aS.mp hv
  obtain⟨⟨ha,hb⟩,_⟩:=rD hp
  obtain⟨ww,h1,h2⟩:=HZ hM hB cr4 (a:=p.1) (b:=p.2) hp
  refine⟨_,rfl,?_⟩
  rw[qx,qy]
  have er:gj M rs (s+1) (p.1,p.2)=.tup [.int (p.1:Nat),.int (p.2:Nat),.int ((s:Int)+1),ww]:=by
   unfold gj yp
   rw[h1];rfl
  rw[er]
  exact fR (am (ak rfl) (am (ak rfl) (am (ak rfl) (am (dm (am (bE (ak rfl) (ak rfl) (mT (f' cv4) (jw hM.nd ha))) (am (bE (ak rfl) (ak rfl) (mT (f' cv4) (jw hM.nd hb))) (am (ak rfl) aM))) h2 rfl) aM)))) (by show 4<=1000000;decide)
 rw[hrows]at ec
 have hol:=Fv (M:=M) dw (s+1)
 have hnl:=rE (M:=M) dw (s+1)
 have ee:=gf (n_ (F:=gX) (ak (i:=6) rfl) (fS cw4) (am ec aM) (wA (aG cw4) bn (by rw[al];omega)))
 rw[hout]at ee
 obtain⟨z,hz⟩:=hX
 have hwS4:w<S4.length:=(aa.mp cw4).1
 refine⟨_,_,ee,⟨r,S.length,(S1++xv).length+2,(S1++xv++x3).length,w,_,B',rfl,?_,hw,hrw,hB1,fun k hk=>?_,?_,?_,?_,?_,?_⟩⟩
 ·refine⟨(z++[ao.lst ((cA M rs (s+1)).map (gj M rs (s+1)))]).set (w-st.length) (.lst (f7 M rs (s+2))),?_⟩
  rw[hz,aA,fH _ _ hw]
 ·by_cases zk:k=s
  ·subst zk;exact hn
  ·exact hgo k (by omega)
 ·rw[a_ (by omega)];exact aG cr4
 ·rw[a_ hwq];exact aG cq4
 ·rw[a_ hwb];exact aG cb4
 ·rw[a_ hwp];exact aG cp4
 ·rw[bg (by rw[aH];omega)]
end
structure Cz(M:Mc)(N:Nat)(rs:List Nat):Prop where
 up:rs.Pairwise (· < ·)
 zero:0∈rs
 lt:∀a∈rs,a<N
 cl:∀k,k<M.tb.length->∀a∈rs,∀b∈rs,bd M k a b∈rs
 least:∀C:Nat->Prop,C 0->(∀k,k<M.tb.length->∀a b,C a->C b->C (bd M k a b))->∀a∈rs,C a
theorem tJ{rs:List Nat}(h:rs.Pairwise (· < ·)):rs.Nodup:=h.imp fun z=>a8 z
abbrev zI(l:List Nat):List Int:=l.map fun a=>((a:Nat):Int)
theorem L7{l l':List Nat}(h:zI l=zI l'):l=l':=by
 have:=fB (List.map Int.toNat) h
 simpa[zI,bb,cN]using this
theorem zo{l l':List Nat}(h:l.Pairwise (· < ·))(h':l'.Pairwise (· < ·))(hm:∀a,a∈l↔a∈l'):l=l':=by
 have hp:l.Perm l':=(List.perm_ext_iff_of_nodup (tJ h) (tJ h')).mpr hm
 have p1:(zI l).Pairwise (· <= ·):=iM.mpr (h.imp fun z=>by omega)
 have p2:(zI l').Pairwise (· <= ·):=iM.mpr (h'.imp fun z=>by omega)
 exact L7 ((PySem.W.eq_sortI (hp.map _) p1).trans (PySem.W.eq_sortI (ki _) p2).symm)
theorem Cz.one{M:Mc}{N:Nat}{rs MF:List Nat}(h:Cz M N rs)(h':Cz M N MF):rs=MF:=
 zo h.up h'.up fun a=>⟨fun z=>h.least (· ∈ MF) h'.zero (fun k hk a b=>fun x y=>h'.cl k hk a x b y) a z,fun z=>h'.least (· ∈ rs) h.zero (fun k hk a b=>fun x y=>h.cl k hk a x b y) a z⟩
theorem JE{l:List Nat}(hn:l.Nodup):∃rs,sortI (zI l)=zI rs/\rs.Perm l/\rs.Pairwise (· < ·):=by
 have hp:=PySem.W.sortI_perm (zI l)
 have e:zI ((sortI (zI l)).map Int.toNat)=sortI (zI l):=by
  unfold zI
  rw[bb]
  conv=>rhs;rw[<- nI (sortI _)]
  refine bC fun z hz=>?_
  obtain⟨a,_,rfl⟩:=aS.mp (hp.mem_iff.mp hz)
  show((((a:Int)).toNat:Nat):Int)=(a:Int)
  omega
 have hq:((sortI (zI l)).map Int.toNat).Perm l:=by
  have:=hp.map Int.toNat
  rw[show(zI l).map Int.toNat=l by simp[zI,bb,cN]]at this
  exact this
 refine⟨(sortI (zI l)).map Int.toNat,e.symm,hq,?_⟩
 have h1:=PySem.W.sortI_rises (zI l)
 rw[<- e]at h1
 have h2:=iM.mp h1
 have h3:((sortI (zI l)).map Int.toNat).Nodup:=hq.nodup_iff.mpr hn
 exact(List.pairwise_and_iff.mpr ⟨h2,h3⟩).imp fun{a b} z=>by have:=z.1;have:=z.2;omega
theorem Be{st:List ao}{n:Nat}{l rs:List Nat}(h:st[n]?=some (.lst (dh l)))(hl:l.length<64)(hs:sortI (zI l)=zI rs):l_ [.loc n] st=.ok (.loc st.length) (st++[.lst (dh rs)]):=by
 unfold l_
 simp only[aO h,cJ]
 rw[show dh l=(zI l).map W.int by unfold dh zI;rw[bb];rfl,pR,cJ,ax (by simpa[zI]using hl),hs]
 unfold zI dh
 rw[bb];rfl
theorem OP{M:Mc}{N:Nat}{E:List Ro}{rs:List Nat}(t:lF (bd M) M.tb.length N E)(cov:∀l r a,l<E.length->r<E.length->a<M.tb.length->HH (bd M) E [] l r a)(hp:rs.Perm (E.map Prod.fst))(hu:rs.Pairwise (· < ·)):Cz M N rs:=by
 have hm:∀a,a∈rs↔∃e∈E,e.1=a:=fun a=>by rw[hp.mem_iff,aS]
 refine⟨hu,?_,fun a ha=>?_,fun k hk a ha b hb=>?_,fun C c0 cc a ha=>?_⟩
 ·obtain⟨r,e⟩:=t.zero
  exact(hm 0).mpr ⟨_,by rw[e];exact bf,rfl⟩
 ·obtain⟨e,he,rfl⟩:=(hm a).mp ha
  exact t.lt e he
 ·obtain⟨e,he,rfl⟩:=(hm a).mp ha
  obtain⟨f,hf,rfl⟩:=(hm b).mp hb
  obtain⟨i,hi⟩:=bw he
  obtain⟨j,hj⟩:=bw hf
  rcases cov i j k (aa.mp hi).1 (aa.mp hj).1 hk e f hi hj with⟨m,g,hg,e1,_⟩|⟨p,hp,_⟩
  ·exact(hm _).mpr ⟨g,aN hg,e1⟩
  ·cases hp
 ·have key:∀(n i:Nat) (e:Ro),i<n->E[i]?=some e->C e.1:=by
   intro n
   induction n with
   |zero=>intro i e h;omega
   |succ n ih=>
    intro i e hi he
    rcases iq i with z|z
    ·subst z
     obtain⟨r,e0⟩:=t.zero
     rw[e0]at he;cases he;exact c0
    ·obtain⟨h1,h2,el,er,h3,h4,h5,h6,_⟩:=t.row i e he z
     rw[<- h6]
     exact cc _ h5 _ _ (ih _ el (by omega) h3) (ih _ er (by omega) h4)
  obtain⟨e,he,rfl⟩:=(hm a).mp ha
  obtain⟨i,hi⟩:=bw he
  exact key (i+1) i e (by omega) hi
theorem Bf{n:Nat}:∀{ws:List W},(∀w∈ws,w.und n=true)->undWs n ws=true
 |[],_=>rfl
 |w::ws,h=>by simp only[undWs,h w bf,Bool.true_and];exact Bf fun v hv=>h v (aT _ hv)
theorem Fw(M:Mc)(rs:List Nat)(s n:Nat)(p:Nat×Nat):(gj M rs s p).und n=true:=by
 unfold gj yp
 cases hw:uh (bd M) M.tb.length (gM M) rs s p.1 p.2 with
 |none=>rfl
 |some w=>
  cases s with
  |zero=>
   have:(if ap (bd M) M.tb.length (gM M) rs 0 p.1 p.2=true then some (W.tup [])else none)=some w:=hw
   split at this
   ·cases this;rfl
   ·cases this
  |succ s=>
   obtain⟨q,_,rfl⟩:=aY.mp (show(((kX M.tb.length rs).find? fun q=>ap (bd M) M.tb.length (gM M) rs s (led (bd M) q p.1) (led (bd M) q p.2)).map yo)=some w from hw)
   rfl
theorem Bg(M:Mc)(rs:List Nat)(k n:Nat):undWs n [.tup (f7 M rs k)]=true:=by
 have:undWs n (f7 M rs k)=true:=Bf fun w hw=>by
  obtain⟨s,_,hw⟩:=ja.mp hw
  obtain⟨p,_,rfl⟩:=aS.mp hw
  exact Fw M rs s n p
 show((W.tup (f7 M rs k)).und n&&true)=true
 rw[b_];unfold W.und;exact this
def Rf:W->W
 |.tup (x::_)=>x
 |w=>w
theorem vg{M:Mc}{N:Nat}{st:List ao}(hM:qP M N)(PU:1<=N)(hN:N<=50)(hsz:M.tb.length*(2*N)<=10000)(ht:st[1]?=some (.tab 54 ⟨45,29,45,52⟩ "firsts_of.<locals>.<lambda>")) :
  ∃rs n,Cz M N rs/\yw M rs n/\qO [M.w] st=.ok (.tup (f7 M rs n)) st:=by
 obtain⟨E,R,t,hR,cov,ef⟩:=Cw hM PU (by omega) ht
 obtain⟨rs,hsrt,hperm,CM⟩:=JE t.nd
 have hrs:=OP t cov hperm CM
 have hlE:=t.len
 have hll:rs.length=E.length:=by rw[hperm.length_eq,al]
 have hRm:Rm M N rs:=⟨hM,hrs.lt,tJ CM,by omega,aV (jL _ (by omega)) hsz,hrs.cl⟩
 suffices hh:gH (ql fun w bG=>(∃x,bG=st++x)/\undWs st.length [w]=true/\∃n,yw M rs n/\w=.tup (f7 M rs n)) (Jl ([M.w].map some++List.replicate (8-1) none) st) by
  obtain⟨w,⟨n,h1,rfl⟩,e⟩:=jc hh
  exact⟨rs,n,hrs,h1,e⟩
 have hRE:R.map Rf=dh (E.map Prod.fst):=by
  refine kP fun i=>?_
  rw[ar,ar,ar]
  cases he:E[i]? with
  |none=>
   rw[gN (by rw[hR.len];exact List.getElem?_eq_none_iff.mp he)];rfl
  |some e=>
   obtain⟨w,hw,tS⟩:=hR.at' i e he
   obtain⟨tt,rfl⟩:=tS.sh
   rw[hw];rfl
 have ec:=g9 (cap:=[none]) (fi:=ce (c8 1 Cp (ai (ag 0) aE))) (f:=eJ 0) (el:=e2 bH (ag 0) (eI 0)) (ρ:=[M.w].map some++List.replicate (8-1) none) (st:=st) (st1:=st) Rf (nS (dm (am (ak rfl) aM) ef rfl)) (by rw[hR.len];show _<=1000000;omega) trivial fun w hw=>by
  obtain⟨i,hi⟩:=bw hw
  have hiE:i<E.length:=by rw[<- hR.len];exact(aa.mp hi).1
  obtain⟨w',hw',tS⟩:=hR.at' i _ (ae hiE)
  rw[hi]at hw';cases hw'
  obtain⟨tt,rfl⟩:=tS.sh
  exact⟨_,rfl,bE (ak rfl) cR (dq rfl)⟩
 rw[hRE]at ec
 apply aI
 ·exact bR (bP (am ec aM) (Be (l:=E.map Prod.fst) bn (by rw[al];omega) hsrt))
 have cr:(st++[.lst (dh (E.map Prod.fst))]++[.lst (dh rs)])[(st++[ao.lst (dh (E.map Prod.fst))]).length]?=some (.lst (dh rs)):=bn
 have hrlen:(st++[ao.lst (dh (E.map Prod.fst))]).length=st.length+1:=by simp
 have JH:(st++[.lst (dh (E.map Prod.fst))]++[.lst (dh rs)]:List ao)=st++[.lst (dh (E.map Prod.fst)),.lst (dh rs)]:=by simp
 rw[hrlen]at cr ⊢
 rw[JH]at cr ⊢
 generalize hS0:(st++[.lst (dh (E.map Prod.fst)),.lst (dh rs)]:List ao)=S0 at cr
 have hl0:S0.length=st.length+2:=by rw[<- hS0];simp
 obtain⟨x1,hx1,ev1⟩:=z4 cr hRm.len
 apply aI
 ·exact bR (dm (am (ak rfl) aM) ev1 rfl)
 have cq:(S0++x1)[S0.length]?=some (.lst ((dS rs).map iR)):=by rw[cu];exact hx1
 have hq0:(dS rs).filter (fun p=>jx M rs 0 p.1 p.2)=dS rs:=jJ.mpr fun _ _=>rfl
 rw[<- hq0]at cq
 apply aI
 ·exact bR cR
 obtain⟨B,x2,hB,hx2,ev2⟩:=HS hM (aG (x:=x1) cr) hrs.lt (tJ CM) (by have:=hRm.len;omega)
 have hB0:Gp M rs 0 B:=ON hB
 apply aI
 ·exact bR (dm (am (ak rfl) (am (ak rfl) aM)) ev2 rfl)
 have cb:(S0++x1++x2)[(S0++x1).length+2]?=some (.dct (oX B rs)):=by rw[f9];exact hx2
 have ev3:=vf (tJ CM) cb (aG (x:=x2) cq) (fun p hp=>me (cB.mp hp).1) (wB hRm.len 0)
 rw[yx hB0]at ev3
 apply aI
 ·exact bR (dm (am (ak rfl) (am (ak rfl) aM)) ev3 rfl)
 have cp:(S0++x1++x2++[.lst ((cA M rs 0).map iR)])[(S0++x1++x2).length]?=some (.lst ((cA M rs 0).map iR)):=bn
 have ew:dD [none,none] (ce (ag 5)) (zg 2 (dY (eJ 0) (dY (eJ 1) kA))) ij (dk (ai (ag 0) (ai (ag 1) (ai (eI 0) (ai (dk aE) aE))))) [some M.w,some (.loc (st.length+1)),some (.loc S0.length),some (.int 0),some (.loc ((S0++x1).length+2)),some (.loc (S0++x1++x2).length),none,none] (S0++x1++x2++[.lst ((cA M rs 0).map iR)])
   = .ok (.loc (S0++x1++x2++[ao.lst ((cA M rs 0).map iR)]).length) (S0++x1++x2++[.lst ((cA M rs 0).map iR)]++[.lst (((cA M rs 0).map iR).map fun w=>gj M rs 0 (tH w,tI w))]):=by
  refine g9 (fun w=>gj M rs 0 (tH w,tI w)) (eW (ak rfl) (aO cp)) (by rw[al];have:=rE (M:=M) hRm.len 0;show _<=1000000;omega) (aO cp) fun v hv=>?_
  obtain⟨p,hp,rfl⟩:=aS.mp hv
  obtain⟨_,_,hap⟩:=rD hp
  refine⟨_,rfl,?_⟩
  rw[qx,qy]
  have er:gj M rs 0 (p.1,p.2)=.tup [.int (p.1:Nat),.int (p.2:Nat),.int 0,.tup []]:=by
   have hy:uh (bd M) M.tb.length (gM M) rs 0 p.1 p.2=some (.tup []):=ax hap
   unfold gj yp
   rw[hy];rfl
  rw[er]
  exact fR (am (ak rfl) (am (ak rfl) (am cR (am (fR aM (by show 0<=1000000;omega)) aM)))) (by show 4<=1000000;decide)
 have hrows:((cA M rs 0).map iR).map (fun w=>gj M rs 0 (tH w,tI w))=f7 M rs 1:=by
  rw[bb]
  have:f7 M rs 1=(cA M rs 0).map (gj M rs 0):=by unfold f7;rw[i5];rfl
  rw[this]
  refine bC fun p hp=>?_
  show gj M rs 0 (tH (iR p),tI (iR p))=_
  rw[qx,qy]
 rw[hrows]at ew
 apply aI
 ·exact A5 ew rfl
 refine nT (fun n ρ S=>∃s,n=Fi (bd M) M.tb.length (gM M) rs s/\Uw M rs st S ρ s) _ ⟨0,rfl,⟨st.length+1,S0.length,(S0++x1).length+2,(S0++x1++x2).length,(S0++x1++x2++[ao.lst ((cA M rs 0).map iR)]).length,none,B,rfl,?_,?_,?_,hB0,fun k hk=>absurd hk (cC _),aG (aG (aG (aG cr))),aG (aG (aG cq)),aG (aG cb),aG cp,bn⟩⟩ ?_ ?_
 ·exact⟨_,by rw[<- hS0,aA,aA,aA,aA]⟩
 ·simp only[aH];omega
 ·simp only[aH];omega
 ·rintro n ρ S ⟨s,rfl,hU⟩
  have hT:=Bd hU
  cases hnil:cA M rs s with
  |nil=>rw[hnil]at hT;exact .inl hT
  |cons p l=>
   rw[hnil]at hT
   have m5:cA M rs s≠[]:=by rw[hnil];simp
   obtain⟨ρ2,S2,e,hU2⟩:=H9 hRm hU m5
   exact .inr ⟨hT,ρ2,S2,e,_,JC m5,s+1,rfl,hU2⟩
 ·rintro n ρ S ⟨s,rfl,hU⟩ hf
  have hT:=Bd hU
  have hnil:cA M rs s=[]:=by
   have:(L2.R.ok (!(cA M rs s).isEmpty) S:L2.R Bool)=.ok false S:=hT.symm.trans hf
   injection this with e1 e2
   simpa using e1
  obtain⟨r,q,b,p,w,o7,B,rfl,⟨x,rfl⟩,hw,hrw,hB,hgo,cr,cq,cb,cp,cw⟩:=hU.ex
  have eo:f7 M rs (s+1)=f7 M rs s:=by unfold f7;rw[i5];rw[show qu (bd M) M.tb.length (gM M) rs s=[]from hnil];simp
  rw[eo]at cw
  refine⟨_,_,jh (bP (am (ak rfl) aM) (gI (aO cw))),⟨x,rfl⟩,Bg M rs s _,s,⟨hgo,hnil⟩,rfl⟩
def CA(I:bS->Prop)(st:List ao)(res:Option W)(r:RS):Prop:=match res with
 |some w=>r=.rt w st
 |none=>∃ρ,r=.nx ρ st/\I ρ
theorem yy{f:FG}{body:FS}{ck:Option (Nat×List W)}{st:List ao}(I:bS->Prop)(F:W->Option W)(hc:iB st ck):∀{ws:List W},(∀w∈ws,∀ρ,I ρ->∃ρ',f w ρ=some ρ'/\CA I st (F w) (body ρ' st))->∀ρ,I ρ->CA I st (ws.findSome? F) (pz f body ck ws ρ st)
 |[],_,ρ,h=>⟨ρ,by unfold pz;rw[ax hc],h⟩
 |w::ws,hs,ρ,h=>by
  obtain⟨ρ',e1,e2⟩:=hs w bf ρ h
  unfold pz
  rw[ax hc,e1,de]
  cases hF:F w with
  |some v=>
   rw[hF]at e2
   have e2':body ρ' st=.rt v st:=e2
   simp only[e2'];rfl
  |none=>
   rw[hF]at e2
   obtain⟨ρ2,e3,h2⟩:=e2
   simp only[e3]
   exact yy I F hc (fun w hw=>hs w (aT _ hw)) ρ2 h2
theorem qz{fi:FI}{f:FG}{body:FS}{st st1:List ao}{k:zh}{ρ:bS}(I:bS->Prop)(F:W->Option W)(h:fi ρ st=.ok k st1)(hc:iB st1 k.2)(h0:I ρ)(hs:∀w∈k.1,∀ρ,I ρ->∃ρ',f w ρ=some ρ'/\CA I st1 (F w) (body ρ' st1)):CA I st1 (k.1.findSome? F) (e_ fi f body ρ st):=by
 rw[v5 h];exact yy I F hc hs ρ h0
theorem CA.imp{I J:bS->Prop}{st:List ao}{res:Option W}{r:RS}(h:CA I st res r)(RQ:∀ρ,I ρ->J ρ):CA J st res r:=by
 cases res with
 |some w=>exact h
 |none=>obtain⟨ρ,e,q⟩:=h;exact⟨ρ,e,RQ ρ q⟩
theorem wD{α β:Type}(G:α->Option β):∀(l l':List α),(l++l').findSome? G=match l.findSome? G with|some b=>some b|none=>l'.findSome? G
 |[],l'=>rfl
 |a::l,l'=>by
  simp only[i_,de]
  cases G a with
  |some b=>rfl
  |none=>exact wD G l l'
theorem yz{α β γ:Type}(G:β->Option γ)(h:α->List β):∀l:List α,(l.flatMap h).findSome? G=l.findSome? fun a=>(h a).findSome? G
 |[]=>rfl
 |a::l=>by
  rw[iP,wD,de,yz G h l]
  cases(h a).findSome? G<;>rfl
theorem Fx{α β:Type}(p:α->Bool)(f:α->β):∀l:List α,(l.findSome? fun a=>if p a=true then some (f a)else none)=(l.find? p).map f
 |[]=>rfl
 |a::l=>by
  rw[de,br]
  cases p a with
  |true=>rfl
  |false=>exact Fx p f l
theorem rF{α β γ:Type}(G:β->Option γ)(f:α->β):∀l:List α,(l.map f).findSome? G=l.findSome? fun a=>G (f a)
 |[]=>rfl
 |a::l=>by rw[aR,de,de,rF G f l]
theorem Fy(L:Nat)(rs:List Nat)(p:Nat×Nat×Nat->Bool):((kX L rs).find? p).map yo=(List.range L).findSome? fun a=>[0,1].findSome? fun sd=>rs.findSome? fun t=>if p (a,sd,t)=true then some (yo (a,sd,t))else none:=by
 rw[<- Fx p yo]
 unfold kX
 rw[yz]
 congr 1
 funext a
 rw[wD,rF,rF]
 simp only[de,List.findSome?_nil]
 cases rs.findSome? fun t=>if p (a,0,t)=true then some (yo (a,0,t))else none with
 |some b=>rfl
 |none=>
  cases rs.findSome? fun t=>if p (a,1,t)=true then some (yo (a,1,t))else none<;>rfl
theorem Fz{I:bS->Prop}{st F1:List ao}{res:Option W}{fi:FI}{f:FG}{body cZ:FS}{ρ:bS}{P:RS->Prop}(h:CA I st res (e_ fi f body ρ F1))(h1:∀w,res=some w->P (.rt w st))(h2:res=none->∀ρ,I ρ->gH P (cZ ρ st)):gH P (aW (e_ fi f body) cZ ρ F1):=by
 cases res with
 |some w=>rw[zE (show e_ fi f body ρ F1=.rt w st from h)];exact h1 w rfl
 |none=>obtain⟨ρ2,e,q⟩:=h;exact aI e (h2 rfl ρ2 q)
theorem rG{I:bS->Prop}{st F1 st1:List ao}{res:Option W}{g g':FS}{ρ ρ':bS}(h:g ρ F1=.nx ρ' st1)(h2:CA I st res (g' ρ' st1)):CA I st res (aW g g' ρ F1):=by rw[zC h];exact h2
structure jy(M:Mc)(rs:List Nat)(s:Nat)(kvs:List (KX×W)):Prop where
 at':∀x∈rs,∀y∈rs,fg kvs (.fl [(x:Nat),(y:Nat)])=(qv (bd M) M.tb.length (gM M) rs s x y).map fun k=>W.int (k:Nat)
 tag:∀p∈kvs,p.1.tag=1
 len:kvs.length<=30000
theorem jy.ok{M:Mc}{rs:List Nat}{s:Nat}{kvs:List (KX×W)}(h:jy M rs s kvs)(l:List Int):qY kvs (.fl l)=true:=by
 unfold qY sO
 have a:(kvs.all fun p=>p.1.tag==(KX.fl l).tag)=true:=by rw[dG];intro p hp;rw[h.tag p hp];rfl
 rw[a]
 have:=h.len
 have hl:kvs.length<jE:=by show _<1000000;omega
 simp[KX.tag,hl]
theorem H_{fo fk fd:FE}{ρ:bS}{st:List ao}{n:Nat}{kvs:List (KX×W)}{y z:W}{k:KX}(h1:fo ρ st=.ok (.loc n) st)(hd:cW st (.loc n)=some (n,kvs))(h2:fk ρ st=.ok y st)(hk:jP y=some k)(h3:fd ρ st=.ok z st)(ok:qY kvs k=true):sP fo fk fd ρ st=.ok ((fg kvs k).getD z) st:=by
 unfold sP
 rw[h1];simp only[R.bind_ok,hd]
 rw[h2];simp only[R.bind_ok]
 rw[h3];simp only[R.bind_ok,hd,hk,ok,d6]
theorem L8{M:Mc}{rs:List Nat}{s:Nat}{kvs:List (KX×W)}(h:jy M rs (s+1) kvs){x y:Nat}(hx:x∈rs)(hy:y∈rs)(ho:jx M rs s x y=true):∃z:Int,(fg kvs (.fl [(x:Nat),(y:Nat)])).getD (.int (-1))=.int z/\(z==(s:Int))=q5 M rs s x y:=by
 rw[h.at' x hx y hy]
 have hi:=L4 (T:=bd M) (L:=M.tb.length) (g:=gM M) (rs:=rs) (s:=s) (a:=x) (b:=y)
 cases e:qv (bd M) M.tb.length (gM M) rs (s+1) x y with
 |none=>
  refine⟨-1,rfl,?_⟩
  rw[e]at hi
  have:q5 M rs s x y=false:=by
   cases hh:q5 M rs s x y with
   |false=>rfl
   |true=>exact absurd (hi.mpr ⟨ho,hh⟩) (by simp)
  rw[this,ba];omega
 |some k=>
  refine⟨(k:Nat),rfl,?_⟩
  rw[e]at hi
  by_cases hk:k=s
  ·subst hk
   have h2:q5 M rs k x y=true:=(hi.mp rfl).2
   rw[h2];simp
  ·have:q5 M rs s x y=false:=by
    cases hh:q5 M rs s x y with
    |false=>rfl
    |true=>exact absurd (hi.mpr ⟨ho,hh⟩) (by simp;exact hk)
   rw[this,ba];omega
theorem Ia{M:Mc}{N:Nat}{rs:List Nat}(hM:Rm M N rs){st:List ao}{r d s:Nat}{kvs:List (KX×W)}(hr:st[r]?=some (.lst (dh rs)))(hd:cW st (.loc d)=some (d,kvs))(hD:jy M rs s kvs){a b:Nat}(ha:a∈rs)(hb:b∈rs)(ho:jx M rs s a b=true)(hs:s<=100000) :
  u6 [M.w,.loc r,.loc d,.tup [.int (a:Nat),.int (b:Nat)],.int (s:Nat)] st=.ok ((uh (bd M) M.tb.length (gM M) rs s a b).getD .non) st:=by
 have gd:∀x∈rs,bH (.tup (M.gd.map W.bl)) (.int (x:Nat)) st=.ok (.bl (gM M x)) st:=fun x hx=>dq (dO (by
  rw[ar,ae (by rw[hM.ok.gd];exact hM.lt x hx)]
  simp[gM,aZ,ae (show x<M.gd.length by rw[hM.ok.gd];exact hM.lt x hx)]))
 cases s with
 |zero=>
  refine jX ?_
  refine gi (dE (bE (ak rfl) cR (iu rfl))) ?_
  have m5:Gn (.bl (gM M a)) (.bl (gM M b)) st=.ok (.bl (gM M a != gM M b)) st:=by cases gM M a<;>cases gM M b<;>rfl
  have tsx:gp (e2 Gn (e2 bH (e2 bH (ag 0) (eI 1)) (e2 bH (ag 3) (eI 0))) (e2 bH (e2 bH (ag 0) (eI 1)) (e2 bH (ag 3) (eI 1)))) ([M.w,.loc r,.loc d,.tup [.int (a:Nat),.int (b:Nat)],.int 0].map some++List.replicate (10-5) none) st=.ok (gM M a != gM M b) st:=
   dE (bE (bE (bE (ak rfl) cR (dq rfl)) (bE (ak rfl) cR (dq rfl)) (gd a ha)) (bE (bE (ak rfl) cR (dq rfl)) (bE (ak rfl) cR (dq rfl)) (gd b hb)) m5)
  have wu:uh (bd M) M.tb.length (gM M) rs 0 a b=if (gM M a != gM M b)=true then some (.tup [])else none:=rfl
  rw[wu]
  refine lE ?_
  cases hg:gM M a != gM M b with
  |true=>
   rw[hg]at tsx
   refine gi tsx ?_
   exact e7 (fR aM (by show 0<=1000000;omega)) ⟨_,_,rfl,rfl,rfl⟩
  |false=>
   rw[hg]at tsx
   refine cX tsx (dP ?_)
   exact e7 cR ⟨_,_,rfl,rfl,rfl⟩
 |succ s=>
  refine jX ?_
  refine cX (dE (bE (ak rfl) cR (iu (by rw[ba];omega)))) (dP ?_)
  have hsub:lY (.int ((s+1:Nat):Int)) (.int 1) st=.ok (.int (s:Nat)) st:=by
   rw[show((s:Nat):Int)=((s+1:Nat):Int)-1 by omega];exact jt (by trivial)
  have eL:fQ [.tup (M.tb.map fK)] st=.ok (.int (M.tb.length:Nat)) st:=by
   have:=zG (ws:=M.tb.map fK) (st:=st)
   rw[al]at this;exact this
  have hLl:M.tb.length<=10000:=by
   have:=hM.sz
   have h0:0<rs.length:=gB ha
   exact aV (lP _ (by omega)) this
  have qR:uh (bd M) M.tb.length (gM M) rs (s+1) a b=(cx 0 M.tb.length).findSome? fun w=>[W.int 0,W.int 1].findSome? fun u=>(dh rs).findSome? fun v=>if q5 M rs s (led (bd M) (ji w,ji u,ji v) a) (led (bd M) (ji w,ji u,ji v) b)=true then some (yo (ji w,ji u,ji v))else none:=by
   show(((kX M.tb.length rs).find? fun p=>ap (bd M) M.tb.length (gM M) rs s (led (bd M) p a) (led (bd M) p b)).map yo)=_
   rw[Fy]
   unfold cx dh
   simp only[rF,de,List.findSome?_nil]
   congr 1
   funext k
   rw[show ji (W.int (0+(k:Int)))=k by rw[gC];exact jk k,show ji (.int 0)=0 from rfl,show ji (.int 1)=1 from rfl]
   simp only[jk]
  rw[qR]
  refine Fz (I:=fun ρ=>∃o5 o6 o7 o8 o9,ρ=[some M.w,some (.loc r),some (.loc d),some (.tup [.int (a:Nat),.int (b:Nat)]),some (.int ((s+1:Nat):Int)),o5,o6,o7,o8,o9]) (st:=st) (qz (k:=(cx 0 M.tb.length,none)) (st1:=st) _ (fun w=>[W.int 0,W.int 1].findSome? fun u=>(dh rs).findSome? fun v=>if q5 M rs s (led (bd M) (ji w,ji u,ji v) a) (led (bd M) (ji w,ji u,ji v) b)=true then some (yo (ji w,ji u,ji v))else none) (by have:=eG (ρ:=([M.w,.loc r,.loc d,.tup [.int (a:Nat),.int (b:Nat)],.int ((s+1:Nat):Int)].map some++List.replicate (10-5) none:bS)) (fs:=ai (bD fQ (ai (e2 bH (ag 0) (eI 2)) aE)) aE) (am (bP (am (bE (ak rfl) cR (dq rfl)) aM) eL) aM) (by omega);rwa[show((M.tb.length:Nat):Int).toNat=M.tb.length by omega]at this) trivial ⟨_,_,_,_,_,rfl⟩ ?_) ?_ ?_
  ·rintro w hw ρ ⟨o5,o6,o7,o8,o9,rfl⟩
   obtain⟨k,hk,rfl⟩:=nV hw
   rw[gC,jk]
   obtain⟨t,ht⟩:∃t,M.tb[k]?=some t:=⟨_,ae hk⟩
   refine⟨_,rfl,?_⟩
   refine rG (bR (bE (bE (ak rfl) cR (dq rfl)) (ak rfl) (dq (dO (by rw[ar,ht];rfl))))) ?_
   refine CA.imp (I:=fun ρ=>∃o7 o8 o9,ρ=[some M.w,some (.loc r),some (.loc d),some (.tup [.int (a:Nat),.int (b:Nat)]),some (.int ((s+1:Nat):Int)),some (.int (k:Nat)),some (fK t),o7,o8,o9]) (qz (k:=([W.int 0,W.int 1],none)) (st1:=st) _ _ (nS (fR (am cR (am cR aM)) (by show 2<=1000000;decide))) trivial ⟨_,_,_,rfl⟩ ?_) fun ρ ⟨_,_,_,e⟩=>⟨_,_,_,_,_,e⟩
   rintro u hu ρ ⟨o7,o8,o9,rfl⟩
   obtain⟨sd,hsd,rfl⟩:∃sd:Nat,sd<=1/\u=.int (sd:Nat):=by
    simp only[a7,hW,nK]at hu
    rcases hu with rfl|rfl
    ·exact⟨0,by omega,rfl⟩
    ·exact⟨1,by omega,rfl⟩
   rw[jk]
   refine⟨_,rfl,?_⟩
   refine CA.imp (I:=fun ρ=>∃o8 o9,ρ=[some M.w,some (.loc r),some (.loc d),some (.tup [.int (a:Nat),.int (b:Nat)]),some (.int ((s+1:Nat):Int)),some (.int (k:Nat)),some (fK t),some (.int (sd:Nat)),o8,o9]) (qz (k:=(dh rs,some (r,dh rs))) (st1:=st) _ _ (eW (ak rfl) (aO hr)) (aO hr) ⟨_,_,rfl⟩ ?_) fun ρ ⟨_,_,e⟩=>⟨_,_,_,e⟩
   rintro v hv ρ ⟨o8,o9,rfl⟩
   obtain⟨c,hc,rfl⟩:=zZ hv
   rw[jk]
   refine⟨_,rfl,?_⟩
   have ix:∀{x y:Nat},x∈rs->y∈rs->∃row,bH (fK t) (.int (x:Nat)) st=.ok (iZ row) st/\bH (iZ row) (.int (y:Nat)) st=.ok (.int (bd M k x y:Nat)) st:=fun hx hy=>by
    obtain⟨row,e1,e2,_⟩:=u8 hM.ok ht (hM.lt _ hx) (hM.lt _ hy)
    exact⟨row,u9 e1,u_ e2⟩
   obtain⟨r1,i1,i1'⟩:=ix hc ha
   obtain⟨r2,i2,i2'⟩:=ix hc hb
   obtain⟨r3,i3,i3'⟩:=ix ha hc
   obtain⟨r4,i4,i4'⟩:=ix hb hc
   refine rG (bR (fR (am (bE (bE (ak rfl) (ak rfl) i1) (bE (ak rfl) cR (dq rfl)) i1') (am (bE (bE (ak rfl) (ak rfl) i2) (bE (ak rfl) cR (dq rfl)) i2') aM)) (by show 2<=1000000;decide))) ?_
   have hp:(k,sd,c)∈kX M.tb.length rs:=by
    unfold kX
    rw[ja]
    refine⟨k,bt.mpr hk,?_⟩
    rw[aQ]
    rcases(show sd=0\/sd=1 by omega)with rfl|rfl
    ·exact .inl (aS.mpr ⟨c,hc,rfl⟩)
    ·exact .inr (aS.mpr ⟨c,hc,rfl⟩)
   obtain⟨z,hz,hze⟩:=L8 hD (hM.led hp ha) (hM.led hp hb) (HQ ho hp)
   have hlw:W.tup [.int (led (bd M) (k,sd,c) a:Nat),.int (led (bd M) (k,sd,c) b:Nat)]=.tup (([(led (bd M) (k,sd,c) a:Nat),(led (bd M) (k,sd,c) b:Nat)]:List Int).map W.int):=rfl
   have fin:∀o8:Option W,CA (fun ρ=>∃o8 o9,ρ=[some M.w,some (.loc r),some (.loc d),some (.tup [.int (a:Nat),.int (b:Nat)]),some (.int ((s+1:Nat):Int)),some (.int (k:Nat)),some (fK t),some (.int (sd:Nat)),o8,o9]) st (if q5 M rs s (led (bd M) (k,sd,c) a) (led (bd M) (k,sd,c) b)=true then some (yo (k,sd,c))else none)
     ((jf (gp (e2 lp (sP (ag 2) (ag 9) (vL (eI 1))) (e2 lY (ag 4) (eI 1)))) (d8 (dk (ai (ag 5) (ai (ag 7) (ai (ag 8) aE))))) cV) [some M.w,some (.loc r),some (.loc d),some (.tup [.int (a:Nat),.int (b:Nat)]),some (.int ((s+1:Nat):Int)),some (.int (k:Nat)),some (fK t),some (.int (sd:Nat)),some (.int (c:Nat)),some (W.tup [.int (led (bd M) (k,sd,c) a:Nat),.int (led (bd M) (k,sd,c) b:Nat)])] st):=fun _=>by
    have tsx:=dE (bE (f:=lp) (ρ:=[some M.w,some (.loc r),some (.loc d),some (.tup [.int (a:Nat),.int (b:Nat)]),some (.int ((s+1:Nat):Int)),some (.int (k:Nat)),some (fK t),some (.int (sd:Nat)),some (.int (c:Nat)),some (W.tup [.int (led (bd M) (k,sd,c) a:Nat),.int (led (bd M) (k,sd,c) b:Nat)])]) (H_ (fo:=ag 2) (fk:=ag 9) (fd:=vL (eI 1)) (ak rfl) hd (ak rfl) (by rw[hlw];exact wz _) (El cR) (hD.ok _)) (bE (fa:=ag 4) (fb:=eC (.int 1)) (ak rfl) cR hsub) (by rw[hz];exact iu hze))
    cases hap:q5 M rs s (led (bd M) (k,sd,c) a) (led (bd M) (k,sd,c) b)with
    |true=>
     rw[hap]at tsx
     rw[nB tsx (jh (fR (am (ak rfl) (am (ak rfl) (am (ak rfl) aM))) (by show 3<=1000000;decide)))]
     rfl
    |false=>
     rw[hap]at tsx
     rw[nC tsx rfl]
     exact⟨_,rfl,_,_,rfl⟩
   rcases(show sd=0\/sd=1 by omega)with rfl|rfl
   ·refine rG (nB (dE (bE (ak rfl) cR (iu rfl))) (bR (fR (am (bE (bE (ak rfl) (bE (ak rfl) cR (dq rfl)) i3) (ak rfl) i3') (am (bE (bE (ak rfl) (bE (ak rfl) cR (dq rfl)) i4) (ak rfl) i4') aM)) (by show 2<=1000000;decide)))) ?_
    exact fin none
   ·refine rG (nC (dE (bE (ak rfl) cR (iu rfl))) v8) ?_
    exact fin none
  ·intro w hw
   exact⟨_,_,rfl,by rw[hw];rfl,rfl⟩
  ·rintro hw ρ ⟨o5,o6,o7,o8,o9,rfl⟩
   exact⟨_,_,jh cR,by rw[hw];rfl,rfl⟩
theorem CB{t:FT}{g:FS}{Pr:RS->Prop}(I:Nat->bS->List ao->Prop)(n:Nat){ρ:bS}{st:List ao}(h:I n ρ st)
  (hs:∀n ρ st,I n ρ st->t ρ st=.ok true st/\((∃w s,g ρ st=.rt w s/\Pr (.rt w s))\/∃ρ2 cQ m,g ρ st=.nx ρ2 cQ/\m<n/\I m ρ2 cQ)):gH Pr (js t g ρ st):=by
 have key:∀(k n:Nat) (ρ:bS) (st:List ao),n<k->I n ρ st->∃w s,fz t g k ρ st=.rt w s/\Pr (.rt w s):=by
  intro k
  induction k with
  |zero=>intro n _ _ h;exact absurd h (cC _)
  |succ k ih=>
   intro n ρ st hk hI
   obtain⟨e,hh⟩:=hs n ρ st hI
   rcases hh with⟨w,s,e2,p⟩|⟨ρ2,cQ,m,e2,hm,h2⟩
   ·exact⟨w,s,by unfold fz;rw[e];simp only[R.stmt_ok,d6,e2],p⟩
   ·obtain⟨w,s,e3,p⟩:=ih m ρ2 cQ (by omega) h2
    exact⟨w,s,by unfold fz;rw[e];simp only[R.stmt_ok,d6,e2];exact e3,p⟩
 obtain⟨w,s,e,p⟩:=key (n+1) n ρ st (gm n) h
 show Pr _
 rw[uK e (by simp)];exact p
theorem tK{α β:Type}{f g:α->List β}:∀{l:List α},(∀a∈l,f a=g a)->l.flatMap f=l.flatMap g
 |[],_=>rfl
 |a::l,h=>by rw[iP,iP,h a bf,tK fun b hb=>h b (aT _ hb)]
theorem yA:∀{l:List Nat},l.Pairwise (· < ·)->dS l=l.flatMap fun a=>(l.filter fun b=>decide (a<b)).map fun b=>(a,b)
 |[],_=>rfl
 |x::r,h=>by
  obtain⟨h1,h2⟩:=bY.mp h
  rw[iP]
  show r.map (fun y=>(x,y))++dS r=_
  congr 1
  ·rw[bU,aD (by simp),jJ.mpr fun a ha=>bv (h1 a ha)]
  ·rw[yA h2]
   refine tK fun a ha=>?_
   rw[bU,aD (by have:=h1 a ha;simp;omega)]
section
variable{M:Mc}{N:Nat}{rs:List Nat}
def mI(M:Mc)(rs:List Nat)(s a:Nat)(l:List Nat):List W:=(l.filter fun b=>decide (a<b)&&(jx M rs s a b&&q5 M rs s a b)).map fun b=>gj M rs s (a,b)
theorem Ib(CM:rs.Pairwise (· < ·))(s:Nat):(rs.flatMap fun a=>mI M rs s a rs)=(cA M rs s).map (gj M rs s):=by
 unfold cA qu
 rw[yA CM,List.filter_flatMap,List.map_flatMap]
 refine tK fun a _=>?_
 unfold mI
 rw[jD,bb,kq]
 show _=List.map (fun b=>gj M rs s (a,b)) _
 congr 1
 refine iO fun b _=>?_
 rw[oI];rfl
theorem yB(s a b:Nat):jx M rs s a b=jx M rs s b a:=by
 cases s with
 |zero=>rfl
 |succ s=>show(!ap _ _ _ _ s a b)=(!ap _ _ _ _ s b a);rw[pP]
theorem yC(k k':KX)(v:W):∀kvs:List (KX×W),fg (kvs.map fun p=>if p.1=k then(p.1,v)else p) k'=if k'=k then(fg kvs k).map (fun _=>v)else fg kvs k'
 |[]=>by simp[fg]
 |p::l=>by
  rw[aR,i6,i6,i6,yC k k' v l]
  by_cases hp:p.1=k
  ·rw[ax hp]
   by_cases hk:k'=k
   ·rw[ax (show(p.1,v).1=k' from hp.trans hk.symm),ax hk,ax hp];rfl
   ·rw[aD (show ¬ (p.1,v).1=k' from fun z=>hk (z.symm.trans hp)),aD hk,aD hk,aD (fun z:p.1=k'=>hk (z.symm.trans hp))]
  ·rw[aD hp]
   by_cases hk:k'=k
   ·rw[aD (fun z=>hp (z.trans hk)),ax hk,ax hk,aD hp]
   ·rw[aD hk,aD hk]
theorem yD(k k':KX)(v:W):∀kvs:List (KX×W),fg (kvs++[(k,v)]) k'=match fg kvs k' with|some w=>some w|none=>if k=k' then some v else none
 |[]=>by rw[ig,i6];rfl
 |p::l=>by
  rw[i_,i6,i6,yD k k' v l]
  by_cases hp:p.1=k'
  ·rw[ax hp,ax hp]
  ·rw[aD hp,aD hp]
theorem yE(kvs:List (KX×W))(k k':KX)(v:W):fg (iQ kvs k v) k'=if k'=k then some v else fg kvs k':=by
 unfold iQ
 by_cases h:(fg kvs k).isSome=true
 ·rw[ax h,yC]
  by_cases hk:k'=k
  ·rw[ax hk,ax hk]
   obtain⟨w,hw⟩:=fZ.mp h
   rw[hw];rfl
  ·rw[aD hk,aD hk]
 ·rw[aD h,yD]
  have hn:fg kvs k=none:=by cases e:fg kvs k with|none=>rfl|some w=>rw[e]at h;exact absurd rfl h
  by_cases hk:k'=k
  ·subst hk;rw[hn,ax rfl]
  ·rw[aD hk]
   cases fg kvs k' with
   |some w=>rfl
   |none=>simp only;rw[aD (fun z=>hk z.symm)]
theorem qA{kvs:List (KX×W)}{k:KX}{v:W}{t:Nat}(h:∀p∈kvs,p.1.tag=t)(hk:k.tag=t):∀p∈iQ kvs k v,p.1.tag=t:=by
 unfold iQ
 intro p hp
 split at hp
 ·obtain⟨q,hq,rfl⟩:=aS.mp hp
  split
  ·exact h q hq
  ·exact h q hq
 ·rcases aQ.mp hp with z|z
  ·exact h p z
  ·simp at z;subst z;exact hk
theorem tL(kvs:List (KX×W))(k:KX)(v:W):(iQ kvs k v).length<=kvs.length+1:=by
 unfold iQ
 split
 ·rw[al];omega
 ·simp
end
theorem rH{S y:List ao}{n:Nat}{z:Nat×List (KX×W)}(h:cW S (.loc n)=some z):cW (S++y) (.loc n)=some z:=by
 unfold cW at h ⊢
 cases e:S[n]? with
 |none=>simp only[e]at h;cases h
 |some c=>simp only[e]at h;simp only[aG e];exact h
theorem OQ{S:List ao}{n:Nat}{kvs:List (KX×W)}{k:KX}{y:W}{b:Bool}(hd:cW S (.loc n)=some (n,kvs))(hk:jP y=some k)(ok:qY kvs k=true)(hb:(!(fg kvs k).isSome)=b):vV true y (.loc n) S=.ok (.bl b) S:=by
 unfold vV
 simp only[hd,hk,ok,d6,hb]
theorem FB{S:List ao}{n:Nat}{kvs:List (KX×W)}{k:KX}{y v:W}(hd:cW S (.loc n)=some (n,kvs))(hk:jP y=some k)(ok:qY kvs k=true):qL (.loc n) y v S=some (S.set n (.dcx (iQ kvs k v))):=by
 unfold qL
 simp only[hd,hk,ok,d6]
theorem OR(a b:Nat):W.tup [.int (a:Nat),.int (b:Nat)]=.tup (([(a:Nat),(b:Nat)]:List Int).map W.int):=rfl
theorem z5(a b:Nat):jP (.tup [.int (a:Nat),.int (b:Nat)])=some (.fl [(a:Nat),(b:Nat)]):=by rw[OR];exact wz _
section
variable{M:Mc}{N:Nat}{rs:List Nat}
theorem jy.not(h:jy M rs s kvs){a b:Nat}(ha:a∈rs)(hb:b∈rs):(!(fg kvs (.fl [(a:Nat),(b:Nat)])).isSome)=jx M rs s a b:=by
 rw[h.at' a ha b hb,gS]
 have hn:=pQ (T:=bd M) (L:=M.tb.length) (g:=gM M) (rs:=rs) (s:=s) (a:=a) (b:=b)
 cases e:qv (bd M) M.tb.length (gM M) rs s a b with
 |none=>exact(hn.mp e).symm
 |some k=>
  cases ho:jx M rs s a b with
  |false=>rfl
  |true=>rw[hn.mpr ho]at e;cases e
theorem OS{s a b:Nat}{w:W}(h:uh (bd M) M.tb.length (gM M) rs s a b=some w):w.isNon=false:=by
 cases s with
 |zero=>
  have h':(if ap (bd M) M.tb.length (gM M) rs 0 a b=true then some (W.tup [])else none)=some w:=h
  split at h'
  ·cases h';rfl
  ·cases h'
 |succ s=>
  obtain⟨q,_,rfl⟩:=aY.mp (show(((kX M.tb.length rs).find? fun q=>ap (bd M) M.tb.length (gM M) rs s (led (bd M) q a) (led (bd M) q b)).map yo)=some w from h)
  rfl
theorem FC{s a i b:Nat}(hb:rs[i]?=some b):mI M rs s a (rs.take (i+1))=mI M rs s a (rs.take i)++if (decide (a<b)&&(jx M rs s a b&&q5 M rs s a b))=true then[gj M rs s (a,b)]else[]:=by
 unfold mI
 rw[gT,hb,List.filter_append,dz]
 congr 1
 show List.map _ (List.filter _ [b])=_
 rw[bU]
 split<;>rfl
theorem Bh(s a:Nat)(l:List Nat):(mI M rs s a l).length<=l.length:=by unfold mI;rw[al];exact d9 _ _
abbrev QQ:FS:=(e_ (ce (ag 1)) (eJ 7) (jf (Gk (gp (e2 vF (ag 6) (ag 7))) (gp (e2 (vV true) (dk (ai (ag 6) (ai (ag 7) aE))) (ag 3)))) (aW (bF 8 (c8 5 u6 (ai (ag 0) (ai (ag 1) (ai (ag 3) (ai (dk (ai (ag 6) (ai (ag 7) aE))) (ai (ag 4) aE))))))) (jf (gp (uH (ag 8))) (fy (qI dH (ag 5) (ai (dk (ai (ag 6) (ai (ag 7) (ai (ag 4) (ai (ag 8) aE))))) aE))) cV)) cV))
theorem FD(hM:Rm M N rs){S:List ao}{r f dn s a:Nat}{kvs:List (KX×W)}{L0:List W}(cr:S[r]?=some (.lst (dh rs)))(hd:cW S (.loc dn)=some (dn,kvs))(hD:jy M rs s kvs)(hs:s<=100000)(ha:a∈rs)(hL:L0.length<=100000)(o7 o8 o9:Option W) :
  gH (En fun ρ s'=>∃o7 o8,ρ=[some M.w,some (.loc r),some (.loc f),some (.loc dn),some (.int (s:Nat)),some (.loc S.length),some (.int (a:Nat)),o7,o8,o9]/\s'=S++[.lst (L0++mI M rs s a rs)])
   (QQ [some M.w,some (.loc r),some (.loc f),some (.loc dn),some (.int (s:Nat)),some (.loc S.length),some (.int (a:Nat)),o7,o8,o9] (S++[.lst L0])):=by
 have dw:=hM.len
 refine nF (k:=(dh rs,some (r,dh rs))) (fun i ρ s'=>∃o7 o8,ρ=[some M.w,some (.loc r),some (.loc f),some (.loc dn),some (.int (s:Nat)),some (.loc S.length),some (.int (a:Nat)),o7,o8,o9]/\s'=S++[.lst (L0++mI M rs s a (rs.take i))]) (eW (ak rfl) (aO (aG cr))) ⟨o7,o8,rfl,by simp[mI]⟩ ?_ ?_ ?_
 ·rintro i ρ s' ⟨o7,o8,rfl,rfl⟩
  exact aO (aG cr)
 ·rintro i w ρ s' hw ⟨o7,o8,rfl,rfl⟩
  rw[ar]at hw
  obtain⟨b,hb,rfl⟩:=aY.mp hw
  have hbm:b∈rs:=aN hb
  refine⟨_,rfl,?_⟩
  rw[FC hb]
  have hfl:=Bh (M:=M) (rs:=rs) s a (rs.take i)
  rw[bp]at hfl
  generalize hL1:mI M rs s a (rs.take i)=L1 at hfl ⊢
  have tsx:Gk (gp (e2 vF (ag 6) (ag 7))) (gp (e2 (vV true) (dk (ai (ag 6) (ai (ag 7) aE))) (ag 3))) ([some M.w,some (.loc r),some (.loc f),some (.loc dn),some (.int (s:Nat)),some (.loc S.length),some (.int (a:Nat)),o7,o8,o9].set 7 (some (.int (b:Nat)))) (S++[.lst (L0++L1)])=.ok (decide (a<b)&&jx M rs s a b) (S++[.lst (L0++L1)]):=
   Eo (dE (bE (ak rfl) (ak rfl) (mR (by rw[dX];simp)))) (dE (bE (fR (am (ak rfl) (am (ak rfl) aM)) (by show 2<=1000000;decide)) (ak rfl) (OQ (rH hd) (z5 a b) (hD.ok _) (hD.not ha hbm))))
  cases hc:decide (a<b)&&jx M rs s a b with
  |false=>
   rw[hc]at tsx
   refine kH tsx ⟨_,_,rfl,_,_,rfl,?_⟩
   rw[aD (by
    intro z
    rw[aX,aX]at z
    rw[z.1,z.2.1]at hc;cases hc)]
   rw[dy]
  |true=>
   rw[hc]at tsx
   have hc2:=hc
   rw[aX]at hc2
   have ho:=hc2.2
   have ew:=Ia hM (st:=S++[.lst (L0++L1)]) (aG cr) (rH hd) hD ha hbm ho hs
   have wso:=yq (T:=bd M) (L:=M.tb.length) (g:=gM M) (rs:=rs) ho
   refine lD tsx ?_
   apply aI
   ·exact bR (dm (am (ak rfl) (am (ak rfl) (am (ak rfl) (am (fR (am (ak rfl) (am (ak rfl) aM)) (by show 2<=1000000;decide)) (am (ak rfl) aM))))) ew rfl)
   cases hwy:uh (bd M) M.tb.length (gM M) rs s a b with
   |none=>
    rw[hwy]at wso
    refine kH (dE (zD (ak rfl) rfl)) ⟨_,_,rfl,_,_,rfl,?_⟩
    rw[aD (by
     intro z
     rw[aX,aX]at z
     have z2:ap (bd M) M.tb.length (gM M) rs s a b=true:=z.2.2
     rw[z2]at wso;cases wso)]
    rw[dy]
   |some ww=>
    rw[hwy]at wso
    have hap:q5 M rs s a b=true:=wso.symm
    refine lD (dE (zD (ak rfl) (by show(!ww.isNon)=true;rw[OS hwy];rfl))) ?_
    refine⟨_,_,gf (n_ (ak rfl) (fS bn) (am (fR (am (ak rfl) (am (ak rfl) (am (ak rfl) (am (ak rfl) aM)))) (by show 4<=1000000;decide)) aM) (uY bn (by rw[aH];show _<1000000;omega))),_,_,rfl,?_⟩
    rw[fj,ax (by rw[hc2.1,ho,hap];rfl)]
    show S++[ao.lst (L0++L1++[_])]=S++[ao.lst (L0++(L1++[gj M rs s (a,b)]))]
    rw[aA]
    unfold gj yp
    rw[hwy]
 ·rintro ρ s' ⟨o7,o8,rfl,rfl⟩
  rw[al,fw]
  exact⟨_,_,rfl,_,_,rfl,rfl⟩
theorem FF(hM:Rm M N rs)(CM:rs.Pairwise (· < ·)){S:List ao}{r f dn s:Nat}{kvs:List (KX×W)}(cr:S[r]?=some (.lst (dh rs)))(hd:cW S (.loc dn)=some (dn,kvs))(hD:jy M rs s kvs)(hs:s<=100000){P:RS->Prop}{cZ:FS}{o6 o7 o8 o9:Option W}
  (tO:∀o6 o7 o8,gH P (cZ [some M.w,some (.loc r),some (.loc f),some (.loc dn),some (.int (s:Nat)),some (.loc S.length),o6,o7,o8,o9] (S++[.lst ((cA M rs s).map (gj M rs s))]))) :
  gH P (aW (e_ (ce (ag 1)) (eJ 6) QQ) cZ [some M.w,some (.loc r),some (.loc f),some (.loc dn),some (.int (s:Nat)),some (.loc S.length),o6,o7,o8,o9] (S++[.lst []])):=by
 have dw:=hM.len
 refine eu (k:=(dh rs,some (r,dh rs))) (fun i ρ s'=>∃o6 o7 o8,ρ=[some M.w,some (.loc r),some (.loc f),some (.loc dn),some (.int (s:Nat)),some (.loc S.length),o6,o7,o8,o9]/\s'=S++[.lst ((rs.take i).flatMap fun a=>mI M rs s a rs)]/\((rs.take i).flatMap fun a=>mI M rs s a rs).length<=i*100) (eW (ak rfl) (aO (aG cr))) ⟨o6,o7,o8,rfl,by simp,by simp⟩ ?_ ?_ ?_
 ·rintro i ρ s' ⟨o6,o7,o8,rfl,rfl,_⟩
  exact aO (aG cr)
 ·rintro i w ρ s' hw ⟨o6,o7,o8,rfl,rfl,hll⟩
  rw[ar]at hw
  obtain⟨a,ha,rfl⟩:=aY.mp hw
  have hi:i<rs.length:=(aa.mp ha).1
  refine⟨_,rfl,?_⟩
  obtain⟨ρ2,s2,e,o7',o8',rfl,rfl⟩:=FD hM (f:=f) cr hd hD hs (aN ha) (L0:=(rs.take i).flatMap fun a=>mI M rs s a rs) (by omega) o7 o8 o9
  have hfl:=Bh (M:=M) (rs:=rs) s a rs
  have et:(rs.take (i+1)).flatMap (fun a=>mI M rs s a rs)=((rs.take i).flatMap fun a=>mI M rs s a rs)++mI M rs s a rs:=by
   rw[gT,ha,jK];simp
  exact⟨_,_,e,_,_,_,rfl,by rw[et],by rw[et,aH];omega⟩
 ·rintro ρ s' ⟨o6,o7,o8,rfl,rfl,_⟩
  rw[al,fw,Ib CM]
  exact tO o6 o7 o8
end
theorem z6{S:List ao}{n m:Nat}{z:Nat×List (KX×W)}{l:List W}(h:cW S (.loc n)=some z)(hm:S[m]?=some (.lst l)):m≠n:=fun e=>by
 subst e
 unfold cW at h
 simp only[hm]at h
 cases h
theorem FH{S:List ao}{n:Nat}{z:Nat×List (KX×W)}(h:cW S (.loc n)=some z):n<S.length:=by
 unfold cW at h
 cases e:S[n]? with
 |none=>simp only[e]at h;cases h
 |some c=>exact(aa.mp e).1
theorem Bi{S:List ao}{n:Nat}{kvs:List (KX×W)}(h:n<S.length):cW (S.set n (.dcx kvs)) (.loc n)=some (n,kvs):=by
 unfold cW
 simp only[bg h]
section
variable{M:Mc}{N:Nat}{rs:List Nat}
abbrev Rg:FS:=(aW (kT (ag 3) (dk (ai (e2 bH (ag 9) (eI 0)) (ai (e2 bH (ag 9) (eI 1)) aE))) (ag 4) qL) (kT (ag 3) (dk (ai (e2 bH (ag 9) (eI 1)) (ai (e2 bH (ag 9) (eI 0)) aE))) (ag 4) qL))
theorem OT{a b c d:Nat}:(KX.fl [(a:Nat),(b:Nat)]=KX.fl [(c:Nat),(d:Nat)])↔a=c/\b=d:=by
 rw[KX.fl.injEq]
 simp only[List.cons.injEq,and_true]
 omega
structure Gq(M:Mc)(rs:List Nat)(s:Nat)(Q:List (Nat×Nat))(m:Nat)(kvs:List (KX×W)):Prop where
 at':∀x∈rs,∀y∈rs,fg kvs (.fl [(x:Nat),(y:Nat)])=if (x,y)∈Q\/(y,x)∈Q then some (.int (s:Nat))else(qv (bd M) M.tb.length (gM M) rs s x y).map fun k=>W.int (k:Nat)
 tag:∀p∈kvs,p.1.tag=1
 len:kvs.length<=m+2*Q.length
theorem Gq.okk{s m:Nat}{Q:List (Nat×Nat)}{kvs:List (KX×W)}(h:Gq M rs s Q m kvs)(hm:m+2*Q.length<=30000)(l:List Int):qY kvs (.fl l)=true:=by
 unfold qY sO
 have a:(kvs.all fun p=>p.1.tag==(KX.fl l).tag)=true:=by rw[dG];intro p hp;rw[h.tag p hp];rfl
 rw[a]
 have:=h.len
 have hl:kvs.length<jE:=by show _<1000000;omega
 simp[KX.tag,hl]
theorem Gq.step{s m:Nat}{Q:List (Nat×Nat)}{kvs:List (KX×W)}(h:Gq M rs s Q m kvs)(p:Nat×Nat):Gq M rs s (Q++[p]) m (iQ (iQ kvs (.fl [(p.1:Nat),(p.2:Nat)]) (.int (s:Nat))) (.fl [(p.2:Nat),(p.1:Nat)]) (.int (s:Nat))):=by
 refine⟨fun x hx y hy=>?_,qA (qA h.tag rfl) rfl,?_⟩
 ·rw[yE,yE,h.at' x hx y hy]
  simp only[OT,aQ,bL]
  by_cases h1:x=p.2/\y=p.1
  ·rw[ax h1,ax (.inr (.inr (by rw[h1.1,h1.2])))]
  ·rw[aD h1]
   by_cases h2:x=p.1/\y=p.2
   ·rw[ax h2,ax (.inl (.inr (by rw[h2.1,h2.2])))]
   ·rw[aD h2]
    have n1:¬ (x,y)=p:=fun z=>h2 (by rw[<- z];exact⟨rfl,rfl⟩)
    have n2:¬ (y,x)=p:=fun z=>h1 (by rw[<- z];exact⟨rfl,rfl⟩)
    simp only[n1,n2,nK]
 ·have a:=tL (iQ kvs (.fl [(p.1:Nat),(p.2:Nat)]) (.int (s:Nat))) (.fl [(p.2:Nat),(p.1:Nat)]) (.int (s:Nat))
  have b:=tL kvs (.fl [(p.1:Nat),(p.2:Nat)]) (.int (s:Nat))
  have:=h.len
  rw[aH];simp;omega
theorem Gq.done{s m:Nat}{kvs:List (KX×W)}(CM:rs.Pairwise (· < ·))(h:Gq M rs s (cA M rs s) m kvs)(hm:m+2*(cA M rs s).length<=30000):jy M rs (s+1) kvs:=by
 refine⟨fun x hx y hy=>?_,h.tag,by have:=h.len;omega⟩
 rw[h.at' x hx y hy,yr]
 have hn:=pQ (T:=bd M) (L:=M.tb.length) (g:=gM M) (rs:=rs) (s:=s) (a:=x) (b:=y)
 have mem:∀{u v:Nat},(u,v)∈cA M rs s↔(u∈rs/\v∈rs/\u<v)/\jx M rs s u v=true/\q5 M rs s u v=true:=fun{u v}=>by
  unfold cA qu
  rw[cB,Fj CM,aX]
 have key:((x,y)∈cA M rs s\/(y,x)∈cA M rs s)↔jx M rs s x y=true/\q5 M rs s x y=true:=by
  rw[mem,mem]
  constructor
  ·rintro(⟨_,z⟩|⟨_,z1,z2⟩)
   ·exact z
   ·exact⟨by rw[yB];exact z1,by unfold q5;rw[pP];exact z2⟩
  ·rintro⟨z1,z2⟩
   rcases Nat.lt_trichotomy x y with c|c|c
   ·exact .inl ⟨⟨hx,hy,c⟩,z1,z2⟩
   ·subst c
    have:q5 M rs s x x=false:=zY s x
    rw[this]at z2;cases z2
   ·exact .inr ⟨⟨hy,hx,c⟩,by rw[yB];exact z1,by unfold q5;rw[pP];exact z2⟩
 cases e:qv (bd M) M.tb.length (gM M) rs s x y with
 |some k=>
  rw[aD]
  intro z
  rw[key]at z
  rw[hn.mpr z.1]at e;cases e
 |none=>
  have ho:jx M rs s x y=true:=hn.mp e
  by_cases z:q5 M rs s x y=true
  ·rw[ax (key.mpr ⟨ho,z⟩)]
   simp only
   rw[ax z];rfl
  ·rw[aD (fun q=>z (key.mp q).2)]
   simp only
   rw[aD z]
theorem CC{S:List ao}{r f dn s fr m:Nat}{kvs:List (KX×W)}(hd:cW S (.loc dn)=some (dn,kvs))(h0:Gq M rs s [] m kvs)(cf:S[fr]?=some (.lst ((cA M rs s).map (gj M rs s))))(hm:m+2*(cA M rs s).length<=29000){P:RS->Prop}{cZ:FS}{o6 o7 o8 o9:Option W}
  (tO:∀c kY o9,cW (S.set dn c) (.loc dn)=some (dn,kY)->Gq M rs s (cA M rs s) m kY->gH P (cZ [some M.w,some (.loc r),some (.loc f),some (.loc dn),some (.int (s:Nat)),some (.loc fr),o6,o7,o8,o9] (S.set dn c))) :
  gH P (aW (e_ (ce (ag 5)) (eJ 9) Rg) cZ [some M.w,some (.loc r),some (.loc f),some (.loc dn),some (.int (s:Nat)),some (.loc fr),o6,o7,o8,o9] S):=by
 have hfd:=z6 hd cf
 have hlt:=FH hd
 refine eu (k:=((cA M rs s).map (gj M rs s),some (fr,(cA M rs s).map (gj M rs s)))) (fun j ρ S'=>∃c kY o9,ρ=[some M.w,some (.loc r),some (.loc f),some (.loc dn),some (.int (s:Nat)),some (.loc fr),o6,o7,o8,o9]/\S'=S.set dn c/\cW S' (.loc dn)=some (dn,kY)/\Gq M rs s ((cA M rs s).take j) m kY) (eW (ak rfl) (aO cf)) ⟨S[dn],kvs,o9,rfl,by simp,hd,h0⟩ ?_ ?_ ?_
 ·rintro j ρ S' ⟨c,kY,o9,rfl,rfl,_,_⟩
  exact aO (by rw[a_ (fun z=>hfd z.symm)];exact cf)
 ·rintro j w ρ S' hw ⟨c,kY,o9,rfl,rfl,hd',hJ⟩
  rw[ar]at hw
  obtain⟨p,hp,rfl⟩:=aY.mp hw
  have hj:j<(cA M rs s).length:=(aa.mp hp).1
  have htl:((cA M rs s).take j).length<=(cA M rs s).length:=by rw[bp];omega
  refine⟨_,rfl,?_⟩
  have ok1:=hJ.okk (by omega) [(p.1:Nat),(p.2:Nat)]
  have hlt':dn<(S.set dn c).length:=by rw[ib];exact hlt
  have Bp:=Bi (S:=S.set dn c) (kvs:=iQ kY (.fl [(p.1:Nat),(p.2:Nat)]) (.int (s:Nat))) hlt'
  have ok2:qY (iQ kY (.fl [(p.1:Nat),(p.2:Nat)]) (.int (s:Nat))) (.fl [(p.2:Nat),(p.1:Nat)])=true:=by
   unfold qY sO
   have a:((iQ kY (.fl [(p.1:Nat),(p.2:Nat)]) (.int (s:Nat))).all fun q=>q.1.tag==(KX.fl [(p.2:Nat),(p.1:Nat)]).tag)=true:=by rw[dG];intro q hq;rw[qA (t:=1) hJ.tag rfl q hq];rfl
   rw[a]
   have b:=tL kY (.fl [(p.1:Nat),(p.2:Nat)]) (.int (s:Nat))
   have:=hJ.len
   have hl:(iQ kY (.fl [(p.1:Nat),(p.2:Nat)]) (.int (s:Nat))).length<jE:=by show _<1000000;omega
   simp[KX.tag,hl]
  apply aI
  ·exact kG (ak rfl) (ak rfl) (fR (am (bE (ak rfl) cR (dq rfl)) (am (bE (ak rfl) cR (dq rfl)) aM)) (by show 2<=1000000;decide)) (FB hd' (z5 p.1 p.2) ok1)
  refine⟨_,_,kG (ak rfl) (ak rfl) (fR (am (bE (ak rfl) cR (dq rfl)) (am (bE (ak rfl) cR (dq rfl)) aM)) (by show 2<=1000000;decide)) (FB Bp (z5 p.2 p.1) ok2),.dcx (iQ (iQ kY (.fl [(p.1:Nat),(p.2:Nat)]) (.int (s:Nat))) (.fl [(p.2:Nat),(p.1:Nat)]) (.int (s:Nat))),_,_,rfl,?_,Bi (by rw[ib];exact hlt'),?_⟩
  ·rw[p9,p9]
  ·rw[gT,hp];exact hJ.step p
 ·rintro ρ S' ⟨c,kY,o9,rfl,rfl,hd',hJ⟩
  rw[al,fw]at hJ
  exact tO c kY o9 hd' hJ
end
section
variable{M:Mc}{N:Nat}{rs:List Nat}
theorem QR{s:Nat}(h:∀k,k<s->cA M rs k≠[]):s<=(f7 M rs s).length:=by
 induction s with
 |zero=>omega
 |succ s ih=>
  have:=ih fun k hk=>h k (by omega)
  have h1:0<(cA M rs s).length:=eS.mpr (h s (by omega))
  unfold f7 at this ⊢
  rw[i5,aH,al]
  have h2:(qu (bd M) M.tb.length (gM M) rs s).length=(cA M rs s).length:=rfl
  omega
theorem FJ{s:Nat}(h:cA M rs s≠[]):∃p,qb (f7 M rs (s+1)) (-1)=some (gj M rs s p):=by
 have e:f7 M rs (s+1)=f7 M rs s++(cA M rs s).map (gj M rs s):=i5 s
 refine⟨(cA M rs s).getLast h,?_⟩
 refine K8 (q:=0) ?_
 rw[e,List.reverse_append,az (by rw[List.length_reverse,al];exact eS.mpr h),nc (by rw[al];exact eS.mpr h),ar,al]
 rw[show(cA M rs s).length-1-0=(cA M rs s).length-1 by omega,<- List.getLast?_eq_getElem?,List.getLast?_eq_getLast h]
 rfl
theorem OU:jy M rs 0 []:=⟨fun _ _ _ _=>rfl,fun p h=>(by cases h),df _⟩
theorem z7(hM:Rm M N rs)(CM:rs.Pairwise (· < ·)){st:List ao}{r:Nat}(hr:st[r]?=some (.lst (dh rs))):∃n,yw M rs n/\tj [M.w,.loc r] st=.ok (.tup (f7 M rs n)) st:=by
 have dw:=hM.len
 suffices hh:gH (ql fun w bG=>(∃x,bG=st++x)/\undWs st.length [w]=true/\∃n,yw M rs n/\w=.tup (f7 M rs n)) (Jx ([M.w,.loc r].map some++List.replicate (10-2) none) st) by
  obtain⟨w,⟨n,h1,rfl⟩,e⟩:=jc hh
  exact⟨n,h1,e⟩
 apply aI
 ·exact bR (uX aM (df _))
 apply aI
 ·exact bR rfl
 refine CB (fun n ρ S=>∃(s f dn:Nat) (kvs:List (KX×W)) (o4 o5 o6 o7 o8 o9:Option W),n=Fi (bd M) M.tb.length (gM M) rs s/\ρ=[some M.w,some (.loc r),some (.loc f),some (.loc dn),o4,o5,o6,o7,o8,o9]/\(∃x,S=st++x)/\st.length<=dn/\S[f]?=some (.lst (f7 M rs s))/\cW S (.loc dn)=some (dn,kvs)/\jy M rs s kvs/\kvs.length<=2*(f7 M rs s).length/\∀k,k<s->cA M rs k≠[]) _ ⟨0,st.length,(st++[ao.lst []]).length,[],none,none,none,none,none,none,rfl,rfl,⟨_,by rw[aA]⟩,by simp,?_,?_,OU,by simp,fun k hk=>absurd hk (cC _)⟩ ?_
 ·rw[aA,cu];rfl
 ·unfold cW;simp only[bn]
 rintro n ρ S ⟨s,f,dn,kvs,o4,o5,o6,o7,o8,o9,rfl,rfl,⟨x,rfl⟩,hdn,cf,hd,hD,hkl,hgo⟩
 refine⟨dE cR,?_⟩
 have cr:(st++x)[r]?=some (.lst (dh rs)):=aG hr
 have hol:=Fv (M:=M) dw s
 have hol1:=Fv (M:=M) dw (s+1)
 have hsl:=QR hgo
 have hnl:=rE (M:=M) dw s
 have ln:=il (aO cf)
 have eo1:f7 M rs (s+1)=f7 M rs s++(cA M rs s).map (gj M rs s):=i5 s
 have hl1:(f7 M rs (s+1)).length=(f7 M rs s).length+(cA M rs s).length:=by rw[eo1,aH,al]
 have hff:=z6 hd cf
 have hdl:=FH hd
 suffices hh:gH (fun rr=>(∃w s',rr=.rt w s'/\ql (fun w bG=>(∃x,bG=st++x)/\undWs st.length [w]=true/\∃n,yw M rs n/\w=.tup (f7 M rs n)) (.rt w s'))\/∃ρ2 cQ m,rr=.nx ρ2 cQ/\m<Fi (bd M) M.tb.length (gM M) rs s/\∃(s f dn:Nat) (kvs:List (KX×W)) (o4 o5 o6 o7 o8 o9:Option W),m=Fi (bd M) M.tb.length (gM M) rs s/\ρ2=[some M.w,some (.loc r),some (.loc f),some (.loc dn),o4,o5,o6,o7,o8,o9]/\(∃x,cQ=st++x)/\st.length<=dn/\cQ[f]?=some (.lst (f7 M rs s))/\cW cQ (.loc dn)=some (dn,kvs)/\jy M rs s kvs/\kvs.length<=2*(f7 M rs s).length/\∀k,k<s->cA M rs k≠[])
   ((aW (bF 4 (eI 0)) (aW (jf (gp (e2 BY (bD fQ (ai (ag 2) aE)) (eI 0))) (bF 4 (e2 dR (e2 bH (e2 bH (ag 2) (vL (eI 1))) (eI 2)) (eI 1))) cV) (aW (bF 5 (lv aE)) (aW (e_ (ce (ag 1)) (eJ 6) QQ) (aW (jf (gp (e2 lp (bD fQ (ai (ag 5) aE)) (eI 0))) (d8 (bD dJ (ai (ag 2) aE))) cV) (aW (e_ (ce (ag 5)) (eJ 9) Rg) (bF 2 (e2 dR (ag 2) (ag 5))))))))) [some M.w,some (.loc r),some (.loc f),some (.loc dn),o4,o5,o6,o7,o8,o9] (st++x))from hh
 apply aI
 ·exact bR cR
 have stp:(jf (gp (e2 BY (bD fQ (ai (ag 2) aE)) (eI 0))) (bF 4 (e2 dR (e2 bH (e2 bH (ag 2) (vL (eI 1))) (eI 2)) (eI 1))) cV) ([some M.w,some (.loc r),some (.loc f),some (.loc dn),o4,o5,o6,o7,o8,o9].set 4 (some (.int 0))) (st++x)=.nx [some M.w,some (.loc r),some (.loc f),some (.loc dn),some (.int (s:Nat)),o5,o6,o7,o8,o9] (st++x):=by
  cases s with
  |zero=>exact nC (dE (bE (bP (am (ak rfl) aM) ln) cR (mR rfl))) v8
  |succ s=>
   obtain⟨p,hp⟩:=FJ (hgo s (by omega))
   have:=nB (g':=cV) (ρ:=[some M.w,some (.loc r),some (.loc f),some (.loc dn),o4,o5,o6,o7,o8,o9].set 4 (some (.int 0))) (dE (bE (f:=BY) (fb:=eC (.int 0)) (bP (am (fa:=ag 2) (ak rfl) aM) ln) cR (mR (k:=true) (by simp;omega)))) (bR (i:=4) (bE (f:=dR) (bE (f:=bH) (bE (f:=bH) (fa:=ag 2) (ak rfl) (El (fa:=eC (.int 1)) cR) (lB (aO cf) hp)) (fb:=eC (.int 2)) cR (dq (w:=.int (s:Nat)) rfl)) (fb:=eC (.int 1)) cR fA))
   exact this
 refine aI stp ?_
 apply aI
 ·exact bR (uX aM (df _))
 refine FF hM CM (f:=f) cr hd hD (by omega) fun o6 o7 o8=>?_
 have cfr:(st++x++[.lst ((cA M rs s).map (gj M rs s))])[(st++x).length]?=some (.lst ((cA M rs s).map (gj M rs s))):=bn
 have lf:=il (aO cfr)
 rw[al]at lf
 by_cases hn:cA M rs s=[]
 ·refine gi (dE (bE (bP (am (ak rfl) aM) lf) cR (iu (by rw[hn];rfl)))) ?_
  exact e7 (bP (am (ak rfl) aM) (gI (aO (aG cf)))) (.inl ⟨_,_,rfl,_,_,rfl,⟨_,by rw[aA]⟩,Bg M rs s _,s,⟨hgo,hn⟩,rfl⟩)
 ·have hnp:0<(cA M rs s).length:=eS.mpr hn
  refine cX (dE (bE (bP (am (ak rfl) aM) lf) cR (iu (by rw[ba];omega)))) (dP ?_)
  have Mw:cW (st++x++[.lst ((cA M rs s).map (gj M rs s))]) (.loc dn)=some (dn,kvs):=rH hd
  refine CC (m:=2*(f7 M rs s).length) Mw ⟨fun a ha b hb=>by rw[aD (by simp)];exact hD.at' a ha b hb,hD.tag,by simp;omega⟩ cfr (by omega) fun c kY o9 Bp hJ=>?_
  have vj:=z6 Mw cfr
  have cf2:((st++x++[ao.lst ((cA M rs s).map (gj M rs s))]).set dn c)[f]?=some (.lst (f7 M rs s)):=by rw[a_ (fun z=>hff z.symm)];exact aG cf
  have cfr2:((st++x++[ao.lst ((cA M rs s).map (gj M rs s))]).set dn c)[(st++x).length]?=some (.lst ((cA M rs s).map (gj M rs s))):=by rw[a_ (fun z=>vj z.symm)];exact cfr
  refine .inr ⟨_,_,Fi (bd M) M.tb.length (gM M) rs (s+1),bR (bE (ak rfl) (ak rfl) (zF cf2 cfr2 (by rw[<- eo1];show _<=1000000;omega))),JC hn,s+1,_,dn,kY,_,_,_,_,_,_,rfl,rfl,?_,hdn,?_,rH Bp,hJ.done CM (by omega),?_,fun k hk=>?_⟩
  ·refine⟨(x++[ao.lst ((cA M rs s).map (gj M rs s))]).set (dn-st.length) c++[ao.lst (f7 M rs s++(cA M rs s).map (gj M rs s))],?_⟩
   rw[aA st x,fH _ _ hdn,aA]
  ·rw[<- eo1];exact bn
  ·have:=hJ.len
   omega
  ·by_cases zk:k=s
   ·subst zk;exact hn
   ·exact hgo k (by omega)
end
theorem FK(z:Nat):∀l:List Nat,qf (.int (z:Nat)) (dh l)=some (decide (z∈l))
 |[]=>rfl
 |a::l=>by
  have ih:=FK z l
  by_cases h:a=z
  ·subst h
   simp[qf,c9,ih]
  ·have h2:¬ z=a:=fun e=>h e.symm
   have h3:¬ ((a:Int)=(z:Int)):=by omega
   simp[qf,c9,ih,h2,h3]
theorem FL:∀l:List Nat,depWs (dh l)<=63
 |[]=>by decide
 |a::l=>by
  have:=FL l
  simp only[dh,aR,depWs,W.dep]at this ⊢
  omega
theorem OV{S:List ao}{n z:Nat}{l:List Nat}(h:S[n]?=some (.lst (dh l))):BZ true (.int (z:Nat)) (.loc n) S=.ok (.bl (!decide (z∈l))) S:=by
 unfold BZ
 simp only[h,FK,FL,d6]
theorem z8{l l':List Nat}{i a:Nat}(h:l <+: l')(e:l[i]?=some a):l'[i]?=some a:=by
 obtain⟨t,rfl⟩:=h
 rw[az (aa.mp e).1];exact e
structure Mt(M:Mc)(N:Nat)(mt:List Nat):Prop where
 zero:∃r,mt=0::r
 nd:mt.Nodup
 lt:∀a∈mt,a<N
 least:∀C:Nat->Prop,C 0->(∀k,k<M.tb.length->∀a b,C a->C b->C (bd M k a b))->∀a∈mt,C a
theorem Mt.len{M:Mc}{N:Nat}{mt:List Nat}(h:Mt M N mt):mt.length<=N:=by
 have:=jb h.nd (l:=List.range N) fun c hc=>bt.mpr (h.lt c hc)
 rwa[cM]at this
def uj(mt:List Nat)(z:Nat):List Nat:=if z∈mt then mt else mt++[z]
theorem nG(mt:List Nat)(z:Nat):mt <+: uj mt z:=by unfold uj;split;exact aj _;exact aC _ _
theorem yF(mt:List Nat)(z:Nat):z∈uj mt z:=by
 unfold uj;split
 ·assumption
 ·simp
theorem Mt.ext{M:Mc}{N:Nat}{mt:List Nat}(h:Mt M N mt){k a b:Nat}(hk:k<M.tb.length)(ha:a∈mt)(hb:b∈mt)(hN:bd M k a b<N):Mt M N (uj mt (bd M k a b)):=by
 unfold uj
 split
 ·exact h
 ·rename_i hn
  obtain⟨r,hr⟩:=h.zero
  refine⟨⟨r++[bd M k a b],by rw[hr];rfl⟩,?_,fun c hc=>?_,fun C c0 cc c hc=>?_⟩
  ·rw[dg]
   exact⟨h.nd,by simp,fun x hx y hy z=>by simp at hy;subst hy;subst z;exact hn hx⟩
  ·rcases aQ.mp hc with z|z
   ·exact h.lt c z
   ·simp at z;subst z;exact hN
  ·rcases aQ.mp hc with z|z
   ·exact h.least C c0 cc c z
   ·simp at z;subst z;exact cc k hk a b (h.least C c0 cc a ha) (h.least C c0 cc b hb)
section
variable{M:Mc}{N:Nat}{st:List ao}
abbrev Rh:FS:=(e_ (ce (dk (ai (e2 bH (e2 bH (ag 4) (e2 bH (ag 1) (ag 2))) (ag 3)) (ai (e2 bH (e2 bH (ag 4) (ag 3)) (e2 bH (ag 1) (ag 2))) aE)))) (eJ 5) (jf (gp (e2 (BZ true) (ag 5) (ag 1))) (fy (qI dH (ag 1) (ai (ag 5) aE))) cV))
abbrev RE:FS:=(e_ (ce (e2 bH (ag 0) (eI 2))) (eJ 4) Rh)
theorem OW(hM:qP M N)(hN:N<=1000){mt:List Nat}{x:List ao}(hm:Mt M N mt){k q c o:Nat}{t:List (List Nat)}(ht:M.tb[k]?=some t)(hc:mt[q]?=some c)(ho:o∈mt)(o5:Option W) :
  gH (En fun ρ S=>∃mt' o5,mt <+: mt'/\Mt M N mt'/\bd M k c o∈mt'/\bd M k o c∈mt'/\ρ=[some M.w,some (.loc st.length),some (.int (q:Nat)),some (.int (o:Nat)),some (fK t),o5]/\S=st++.lst (dh mt')::x)
   (Rh [some M.w,some (.loc st.length),some (.int (q:Nat)),some (.int (o:Nat)),some (fK t),o5] (st++.lst (dh mt)::x)):=by
 have hk:k<M.tb.length:=(aa.mp ht).1
 have hcm:c∈mt:=aN hc
 obtain⟨r1,a1,a2,a3⟩:=u8 hM ht (hm.lt c hcm) (hm.lt o ho)
 obtain⟨r2,b1,b2,b3⟩:=u8 hM ht (hm.lt o ho) (hm.lt c hcm)
 have cm:(st++.lst (dh mt)::x)[st.length]?=some (.lst (dh mt)):=by rw[cu];rfl
 have ic:bH (.loc st.length) (.int (q:Nat)) (st++.lst (dh mt)::x)=.ok (.int (c:Nat)) (st++.lst (dh mt)::x):=lB (aO cm) (dO (by rw[ar,hc];rfl))
 have one:∀{m1:List Nat} {z:Nat} (o5:Option W),m1.length<=1000->(jf (gp (e2 (BZ true) (ag 5) (ag 1))) (fy (qI dH (ag 1) (ai (ag 5) aE))) cV) [some M.w,some (.loc st.length),some (.int (q:Nat)),some (.int (o:Nat)),some (fK t),some (.int (z:Nat))] (st++.lst (dh m1)::x)=.nx [some M.w,some (.loc st.length),some (.int (q:Nat)),some (.int (o:Nat)),some (fK t),some (.int (z:Nat))] (st++.lst (dh (uj m1 z))::x):=fun{m1 z} _ hl=>by
  have c1:(st++.lst (dh m1)::x)[st.length]?=some (.lst (dh m1)):=by rw[cu];rfl
  have tsx:=dE (bE (f:=BZ true) (fa:=ag 5) (fb:=ag 1) (ρ:=[some M.w,some (.loc st.length),some (.int (q:Nat)),some (.int (o:Nat)),some (fK t),some (.int (z:Nat))]) (ak rfl) (ak rfl) (OV (z:=z) c1))
  unfold uj
  by_cases h:z∈m1
  ·rw[bv h]at tsx
   rw[ax h]
   exact nC tsx v8
  ·rw[be h]at tsx
   rw[aD h]
   refine nB tsx ?_
   rw[gf (n_ (F:=dH) (ak (i:=1) rfl) (fS c1) (am (fa:=ag 5) (ak rfl) aM) (uY c1 (by rw[al];show _<1000000;omega))),fj]
   simp[dh]
 have e1:=hm.len
 have m1:=hm.ext hk hcm ho a3
 have e2':=m1.len
 have m2:=m1.ext hk ((nG _ _).subset ho) ((nG _ _).subset hcm) b3
 refine nF (k:=([W.int (bd M k c o:Nat),W.int (bd M k o c:Nat)],none)) (fun j ρ S=>∃o5,ρ=[some M.w,some (.loc st.length),some (.int (q:Nat)),some (.int (o:Nat)),some (fK t),o5]/\S=st++.lst (dh (([bd M k c o,bd M k o c].take j).foldl uj mt))::x) (nS (fR (am (bE (bE (ak rfl) (bE (ak rfl) (ak rfl) ic) (u9 a1)) (ak rfl) (u_ a2)) (am (bE (bE (ak rfl) (ak rfl) (u9 b1)) (bE (ak rfl) (ak rfl) ic) (u_ b2)) aM)) (by show 2<=1000000;decide))) ⟨o5,rfl,rfl⟩ (fun _ _ _ _=>trivial) ?_ ?_
 ·rintro j w ρ S hw ⟨o5,rfl,rfl⟩
  refine⟨_,rfl,?_⟩
  match j,hw with
  |0,hw=>
   cases hw
   exact⟨_,_,one (m1:=mt) none (by omega),_,rfl,rfl⟩
  |1,hw=>
   cases hw
   exact⟨_,_,one (m1:=uj mt (bd M k c o)) none (by omega),_,rfl,rfl⟩
 ·rintro ρ S ⟨o5,rfl,rfl⟩
  exact⟨_,_,rfl,_,o5,(nG _ _).trans (nG _ _),m2,(nG _ _).subset (yF _ _),yF _ _,rfl,rfl⟩
theorem OX(hM:qP M N)(hN:N<=1000){mt:List Nat}{x:List ao}(hm:Mt M N mt){q c o:Nat}(hc:mt[q]?=some c)(ho:o∈mt)(o4 o5:Option W) :
  gH (En fun ρ S=>∃mt' o4 o5,mt <+: mt'/\Mt M N mt'/\(∀k,k<M.tb.length->bd M k c o∈mt'/\bd M k o c∈mt')/\ρ=[some M.w,some (.loc st.length),some (.int (q:Nat)),some (.int (o:Nat)),o4,o5]/\S=st++.lst (dh mt')::x)
   (RE [some M.w,some (.loc st.length),some (.int (q:Nat)),some (.int (o:Nat)),o4,o5] (st++.lst (dh mt)::x)):=by
 refine nF (k:=(M.tb.map fK,none)) (fun i ρ S=>∃mt' o4 o5,mt <+: mt'/\Mt M N mt'/\(∀k,k<i->bd M k c o∈mt'/\bd M k o c∈mt')/\ρ=[some M.w,some (.loc st.length),some (.int (q:Nat)),some (.int (o:Nat)),o4,o5]/\S=st++.lst (dh mt')::x) (nS (bE (ak rfl) cR (dq rfl))) ⟨mt,o4,o5,aj _,hm,fun k hk=>absurd hk (cC _),rfl,rfl⟩ (fun _ _ _ _=>trivial) ?_ ?_
 ·rintro i w ρ S hw ⟨mt',o4,o5,hp,hm',k6,rfl,rfl⟩
  rw[ar]at hw
  obtain⟨t,ht,rfl⟩:=aY.mp hw
  refine⟨_,rfl,?_⟩
  obtain⟨ρ2,S2,e,mt2,o5',p2,m2,z1,z2,rfl,rfl⟩:=OW (st:=st) (x:=x) hM hN hm' ht (z8 hp hc) (hp.subset ho) o5
  refine⟨_,_,e,mt2,_,_,hp.trans p2,m2,fun k hk=>?_,rfl,rfl⟩
  rcases lj.mp hk with z|z
  ·exact⟨p2.subset (k6 k z).1,p2.subset (k6 k z).2⟩
  ·subst z;exact⟨z1,z2⟩
 ·rintro ρ S ⟨mt',o4,o5,hp,hm',k6,rfl,rfl⟩
  rw[al]at k6
  exact⟨_,_,rfl,mt',o4,o5,hp,hm',k6,rfl,rfl⟩
theorem L9(hM:qP M N)(PU:1<=N)(hN:N<=1000):∃mt y,Mt M N mt/\(∀k,k<M.tb.length->∀a∈mt,∀b∈mt,bd M k a b∈mt)/\tm [M.w] st=.ok (.loc st.length) (st++.lst (dh mt)::y):=by
 suffices hh:gH (ql fun w bG=>∃j x,w=.loc (st.length+j)/\bG=st++x/\j=0/\∃mt y,Mt M N mt/\(∀k,k<M.tb.length->∀a∈mt,∀b∈mt,bd M k a b∈mt)/\x=.lst (dh mt)::y) (Jy ([M.w].map some++List.replicate (6-1) none) st) by
  obtain⟨j,x,⟨rfl,mt,y,h1,h2,rfl⟩,e⟩:=jQ hh
  exact⟨mt,y,h1,h2,e⟩
 apply aI
 ·exact bR (uX (am cR aM) (by show 1<=1000000;decide))
 apply aI
 ·exact bR cR
 have m0:Mt M N [0]:=⟨⟨[],rfl⟩,by simp,fun a ha=>by simp at ha;omega,fun C c0 _ a ha=>by simp at ha;subst ha;exact c0⟩
 refine nT (fun n ρ S=>∃q mt x o3 o4 o5,n+q=N/\q<=mt.length/\Mt M N mt/\(∀i j a b,i<q->j<q->mt[i]?=some a->mt[j]?=some b->∀k,k<M.tb.length->bd M k a b∈mt)/\ρ=[some M.w,some (.loc st.length),some (.int (q:Nat)),o3,o4,o5]/\S=st++.lst (dh mt)::x) N ⟨0,[0],[],none,none,none,by omega,by simp,m0,fun i j a b hi=>absurd hi (cC _),rfl,rfl⟩ ?_ ?_
 ·rintro n ρ S ⟨q,mt,x,o3,o4,o5,hnq,hq,hm,k6,rfl,rfl⟩
  have hlm:=hm.len
  have cm:(st++.lst (dh mt)::x)[st.length]?=some (.lst (dh mt)):=by rw[cu];rfl
  have ln:=il (aO cm)
  rw[al]at ln
  have tsx:gp (e2 vF (ag 2) (bD fQ (ai (ag 1) aE))) [some M.w,some (.loc st.length),some (.int (q:Nat)),o3,o4,o5] (st++.lst (dh mt)::x)=.ok (decide (q<mt.length)) (st++.lst (dh mt)::x):=dE (bE (ak rfl) (bP (am (ak rfl) aM) ln) (mR (by rw[dX];simp)))
  by_cases hlt:q<mt.length
  ·refine .inr ⟨by rw[tsx,bv hlt],?_⟩
   obtain⟨c,hc⟩:∃c,mt[q]?=some c:=⟨_,ae hlt⟩
   have hcut:jN (dh mt) none (some ((q:Int)+1))=dh (mt.take (q+1)):=by
    rw[show((q:Int)+1)=((q+1:Nat):Int) by omega,rq (by rw[al];omega)]
    unfold dh;rw[oH]
   have sl:zd (.loc st.length) none (some ((q:Int)+1)) (st++.lst (dh mt)::x)=.ok (.loc (st++.lst (dh mt)::x).length) ((st++.lst (dh mt)::x)++[.lst (dh (mt.take (q+1)))]):=by
    rw[xR (aO cm),hcut]
   have ls:nr [.loc (st++.lst (dh mt)::x).length] ((st++.lst (dh mt)::x)++[.lst (dh (mt.take (q+1)))])=.ok (.loc ((st++.lst (dh mt)::x)++[ao.lst (dh (mt.take (q+1)))]).length) ((st++.lst (dh mt)::x)++[.lst (dh (mt.take (q+1)))]++[.lst (dh (mt.take (q+1)))]):=by
    unfold nr;simp only[aO bn,cJ]
   have hx1:((st++.lst (dh mt)::x)++[.lst (dh (mt.take (q+1)))]++[.lst (dh (mt.take (q+1)))]:List ao)=st++.lst (dh mt)::(x++[.lst (dh (mt.take (q+1)))]++[.lst (dh (mt.take (q+1)))]):=by simp
   have hloc:((st++.lst (dh mt)::x)++[ao.lst (dh (mt.take (q+1)))]).length=st.length+(x.length+2):=by simp
   have CG:∀mt':List Nat,(st++.lst (dh mt')::(x++[.lst (dh (mt.take (q+1)))]++[.lst (dh (mt.take (q+1)))]))[st.length+(x.length+2)]?=some (.lst (dh (mt.take (q+1)))):=fun mt'=>by
    rw[f9,iy,b8 (by simp)];simp
   have ei:ce (bD nr (ai (DJ (ag 1) qH (lx (e2 dR (ag 2) (eI 1)))) aE)) [some M.w,some (.loc st.length),some (.int (q:Nat)),o3,o4,o5] (st++.lst (dh mt)::x)=.ok (dh (mt.take (q+1)),some (st.length+(x.length+2),dh (mt.take (q+1)))) (st++.lst (dh mt)::(x++[.lst (dh (mt.take (q+1)))]++[.lst (dh (mt.take (q+1)))])):=by
    rw[<- hx1,<- hloc]
    refine eW (bP (am (Ci (ak rfl) HA (xQ (bE (ak rfl) cR fA)) sl) aM) ls) (aO bn)
   generalize x++[.lst (dh (mt.take (q+1)))]++[.lst (dh (mt.take (q+1)))]=x1 at CG ei
   refine eu (fun i ρ S=>∃mt' o3 o4 o5,mt <+: mt'/\Mt M N mt'/\(∀i' o,i'<i->mt[i']?=some o->i'<q+1->∀k,k<M.tb.length->bd M k c o∈mt'/\bd M k o c∈mt')/\ρ=[some M.w,some (.loc st.length),some (.int (q:Nat)),o3,o4,o5]/\S=st++.lst (dh mt')::x1) ei ⟨mt,o3,o4,o5,aj _,hm,fun i' o hi=>absurd hi (cC _),rfl,rfl⟩ ?_ ?_ ?_
   ·rintro i ρ S ⟨mt',o3,o4,o5,_,_,_,rfl,rfl⟩
    exact aO (CG mt')
   ·rintro i w ρ S hw ⟨mt',o3,o4,o5,hp,hm',hc',rfl,rfl⟩
    rw[ar]at hw
    obtain⟨o,ho,rfl⟩:=aY.mp hw
    have ho':mt[i]?=some o:=by
     rw[List.getElem?_take]at ho
     split at ho
     ·exact ho
     ·cases ho
    refine⟨_,rfl,?_⟩
    obtain⟨ρ2,S2,e,mt2,o4',o5',p2,m2,z,rfl,rfl⟩:=OX (st:=st) (x:=x1) hM hN hm' (z8 hp hc) (hp.subset (aN ho')) o4 o5
    refine⟨_,_,e,mt2,_,_,_,hp.trans p2,m2,fun i' o' hi' he' hq' k hk=>?_,rfl,rfl⟩
    rcases lj.mp hi' with y|y
    ·exact⟨p2.subset (hc' i' o' y he' hq' k hk).1,p2.subset (hc' i' o' y he' hq' k hk).2⟩
    ·subst y;rw[ho']at he';cases he';exact z k hk
   ·rintro ρ S ⟨mt',o3,o4,o5,hp,hm',hc',rfl,rfl⟩
    have htl:(dh (mt.take (q+1))).length=q+1:=by rw[al,bp];omega
    rw[htl]at hc'
    have hlm':=hm'.len
    refine⟨_,_,bR (bE (ak rfl) cR fA),n-1,by omega,q+1,mt',x1,o3,o4,o5,by omega,?_,hm',fun i j a b hi hj ha hb k hk=>?_,by rw[show((q+1:Nat):Int)=(q:Int)+1 by omega];rfl,rfl⟩
    ·have:=hp.length_le;omega
    ·have old:∀{i a:Nat},i<q+1->mt'[i]?=some a->mt[i]?=some a:=fun{i a} hi he=>by
      have hl:i<mt.length:=by omega
      have:=z8 hp (ae hl)
      rw[he]at this;rw[ae hl,this]
     have ha':=old hi ha
     have hb':=old hj hb
     by_cases zi:i=q
     ·subst zi
      rw[hc]at ha';cases ha'
      exact(hc' j b hj hb' hj k hk).1
     ·by_cases zj:j=q
      ·subst zj
       rw[hc]at hb';cases hb'
       exact(hc' i a hi ha' hi k hk).2
      ·exact hp.subset (k6 i j a b (by omega) (by omega) ha' hb' k hk)
  ·exact .inl (by rw[tsx,be hlt])
 ·rintro n ρ S ⟨q,mt,x,o3,o4,o5,hnq,hq,hm,k6,rfl,rfl⟩ hf
  have cm:(st++.lst (dh mt)::x)[st.length]?=some (.lst (dh mt)):=by rw[cu];rfl
  have ln:=il (aO cm)
  rw[al]at ln
  have MD:mt.length<=q:=by
   rcases jW q mt.length with z|z
   ·exact(Fu hf (dE (bE (ak rfl) (bP (am (ak rfl) aM) ln) (mR (bv (by omega)))))).elim
   ·exact z
  refine⟨_,_,jh (ak rfl),0,_,rfl,rfl,rfl,mt,x,hm,fun k hk a ha b hb=>?_,rfl⟩
  obtain⟨i,hi⟩:=bw ha
  obtain⟨j,hj⟩:=bw hb
  exact k6 i j a b (by have:=(aa.mp hi).1;omega) (by have:=(aa.mp hj).1;omega) hi hj k hk
end
theorem vh{f:FG}{t:FT}{el:FE}{ck:Option (Nat×List W)}{ρ0:bS}{c:ao}(Ri:ck=none):∀(ws acc:List W) (st:List ao),(∀w∈ws,∀x,∃ρ',f w ρ0=some ρ'/\t ρ' (st++x)=.ok true (st++x)/\el ρ' (st++x)=.ok (.loc (st++x).length) (st++x++[c])) ->
  mP f t el ck ρ0 ws acc st=.ok (acc++(List.range ws.length).map fun i=>W.loc (st.length+i)) (st++List.replicate ws.length c)
 |[],acc,st,_=>by subst Ri;unfold mP;rw[ax (show iB st none from trivial)];simp
 |w::ws,acc,st,h=>by
  subst Ri
  obtain⟨ρ',e1,e2,e3⟩:=h w bf []
  rw[dy]at e2 e3
  unfold mP
  rw[ax (show iB st none from trivial),e1]
  simp only[e2,e3]
  rw[vh rfl ws _ (st++[c]) fun v hv x=>by
   have:=h v (aT _ hv) ([c]++x)
   rw[<- aA]at this
   exact this]
  rw[bu,iH,jI,aH]
  simp[cN,oF,Nat.add_comm 1]
abbrev cL(R:List (List Nat)):List ao:=R.map fun r=>ao.lst (nW r)
theorem Ic{s0 y:List ao}{R:List (List Nat)}{l:Nat}{row:List Nat}(hl:l<R.length):(s0++cL R++y).set (s0.length+l) (.lst (nW row))=s0++cL (R.set l row)++y:=by
 rw[aA,jg,List.set_append_left _ _ (by simpa using hl),aA]
 congr 2
 unfold cL
 rw[jV]
theorem Bj{s0 y:List ao}{R:List (List Nat)}{l:Nat}{row:List Nat}(h:R[l]?=some row):(s0++cL R++y)[s0.length+l]?=some (.lst (nW row)):=by
 rw[aA,f9,az (by rw[al];exact(aa.mp h).1),ar,h];rfl
theorem Ie{n:Nat}{R:List (List Nat)}{l j v:Nat}{row:List Nat}(h:CQ n R)(hr:R[l]?=some row)(hv:v<n):CQ n (R.set l (row.set j v)):=by
 refine⟨by rw[ib];exact h.1,fun r hr'=>?_⟩
 rcases pO hr' with z|z
 ·exact h.2 r z
 ·subst z
  obtain⟨a,b⟩:=h.2 row (aN hr)
  refine⟨by rw[ib];exact a,fun k hk=>?_⟩
  rcases pO hk with y|y
  ·exact b k y
  ·omega
theorem CD{dl:Nat}{ds:List Int}{st:List ao}(hd:st[dl]?=some (.lst (mZ ds)))(hl:ds.length=50) :
  ∃(M:Mc) (n:Nat),qP M n/\12<=n/\n<=20/\M.nm=[]/\yf [.loc dl] st=.ok M.w st:=by
 suffices hh:gH (ql fun w bG=>(∃x,bG=st++x)/\undWs st.length [w]=true/\∃(M:Mc) (n:Nat),w=M.w/\qP M n/\12<=n/\n<=20/\M.nm=[]) (Jz ([W.loc dl].map some++List.replicate (6-1) none) st) by
  obtain⟨w,⟨M,n,rfl,h1,h2,h3,h4⟩,e⟩:=jc hh
  exact⟨M,n,h1,h2,h3,h4,e⟩
 have ix:∀(i:Nat) (x:List ao),i<50->∃d,bH (.loc dl) (.int (i:Nat)) (st++x)=.ok (.int d) (st++x):=fun i x hi=>by
  obtain⟨d,hdd⟩:∃d,ds[i]?=some d:=⟨_,ae (by omega)⟩
  exact⟨d,f_ (aG hd) hdd⟩
 obtain⟨d0,i0⟩:=ix 0 [] (by omega)
 rw[dy]at i0
 obtain⟨m0,PV,em0⟩:=gy (q:=d0) (n:=9) (by omega)
 have mo:eK (.int d0) (.int 9) st=.ok (.int (m0:Nat)) st:=by
  have:d0%9=(m0:Int):=em0
  rw[<- this];exact jt (by decide)
 obtain⟨n,hn⟩:∃n:Nat,n=12+m0:=⟨_,rfl⟩
 apply aI
 ·exact bR (bE cR (bE (bE (ak rfl) cR i0) cR mo) fA)
 rw[show(12:Int)+(m0:Int)=((n:Nat):Int) by omega]
 have hcut:jN (mZ ds) (some ((8:Nat):Int)) none=mZ (ds.drop 8):=by
  rw[pK (by unfold mZ;rw[al];omega)];unfold mZ;rw[li]
 have sl:zd (.loc dl) (some 8) none st=.ok (.loc st.length) (st++[.lst (mZ (ds.drop 8))]):=by
  rw[xR (aO hd)]
  have:jN (mZ ds) (some 8) none=mZ (ds.drop 8):=hcut
  rw[this]
 obtain⟨zs,hzs,eo⟩:=yi n st.length (ds.drop 8) (st++[.lst (mZ (ds.drop 8))]) (by omega) (by omega) bn (by rw[fm];omega)
 apply aI
 ·exact bR (dm (am (ak rfl) (am cR (am (Ci (ak rfl) (xQ cR) HA sl) aM))) eo rfl)
 have hzl:=hzs.1
 have zat:∀i,i<n->∃k,zs[i]?=some k/\k<n:=fun i hi=>by
  have e:=ae (l:=zs) (show i<zs.length by omega)
  exact⟨_,e,(hzs.2 _).mp (aN e)⟩
 have c2:(st++[.lst (mZ (ds.drop 8))]++[.lst (nW zs)])[(st++[ao.lst (mZ (ds.drop 8))]).length]?=some (.lst (nW zs)):=bn
 have pre:∃x0,(st++[.lst (mZ (ds.drop 8))]++[.lst (nW zs)]:List ao)=st++x0:=⟨_,by rw[aA]⟩
 generalize (st++[ao.lst (mZ (ds.drop 8))]).length=pl at c2 ⊢
 generalize st++[.lst (mZ (ds.drop 8))]++[.lst (nW zs)]=s0 at c2 pre ⊢
 obtain⟨x0,rfl⟩:=pre
 generalize JH:st++x0=s0 at c2 ⊢
 have zix:∀(i:Nat) (x:List ao),i<n->∃k,k<n/\bH (.loc pl) (.int (i:Nat)) (s0++x)=.ok (.int (k:Nat)) (s0++x):=fun i x hi=>by
  obtain⟨k,hk,hk'⟩:=zat i hi
  exact⟨k,hk',tu (aG c2) hk⟩
 obtain⟨v0,hv0,hv0'⟩:=zat (n-1) (by omega)
 have hsub:∀(j:Nat) (x:List ao),j<=n->lY (.int (n:Nat)) (.int (j:Nat)) x=.ok (.int ((n-j:Nat):Int)) x:=fun j x hj=>by
  rw[show((n-j:Nat):Int)=(n:Int)-(j:Int) by omega];exact jt trivial
 have inner:∀(l:Option W) (x:List ao),dD [none,some 1,some 2] (bA (ai (ag 2) aE)) (eJ 0) ij (e2 bH (ag 1) (e2 lY (ag 2) (eI 1))) [l,some (.loc pl),some (.int (n:Nat))] (s0++x)=.ok (.loc (s0++x).length) (s0++x++[.lst (nW (List.replicate n v0))]):=fun l x=>by
  have ir:=eG (fs:=ai (ag 2) aE) (ρ:=[l,some (.loc pl),some (.int (n:Nat))]) (st:=s0++x) (q:=(n:Nat)) (am (ak rfl) aM) (by omega)
  rw[bB]at ir
  have kc:=g9 (cap:=[none,some 1,some 2]) (fi:=bA (ai (ag 2) aE)) (f:=eJ 0) (el:=e2 bH (ag 1) (e2 lY (ag 2) (eI 1))) (ρ:=[l,some (.loc pl),some (.int (n:Nat))]) (st:=s0++x) (st1:=s0++x) (fun _=>W.int (v0:Nat)) ir (by rw[bZ];show _<=1000000;omega) trivial fun w hw=>⟨_,rfl,bE (ak rfl) (bE (ak rfl) cR (hsub 1 _ (by omega))) (tu (aG c2) hv0)⟩
  rw[kc,show(cx 0 n).map (fun _=>W.int (v0:Nat))=nW (List.replicate n v0)from by
   unfold nW cx
   rw[bb,List.map_replicate]
   simp[cN,List.map_const']]
 have outer:dD [none,some 2,some 1] (bA (ai (ag 1) aE)) (eJ 0) ij (dD [none,some 1,some 2] (bA (ai (ag 2) aE)) (eJ 0) ij (e2 bH (ag 1) (e2 lY (ag 2) (eI 1)))) [some (.loc dl),some (.int (n:Nat)),some (.loc pl),none,none,none] s0
   = .ok (.loc (s0.length+n)) (s0++cL (List.replicate n (List.replicate n v0))++[.lst ((List.range n).map fun i=>W.loc (s0.length+i))]):=by
  have ir:=eG (fs:=ai (ag 1) aE) (ρ:=[some (.loc dl),some (.int (n:Nat)),some (.loc pl),none,none,none]) (st:=s0) (q:=(n:Nat)) (am (ak rfl) aM) (by omega)
  rw[bB]at ir
  unfold dD
  rw[ir]
  simp only[R.bind_ok]
  rw[ax (by rw[bZ];show _<=1000000;omega)]
  have cn:=vh (f:=eJ 0) (t:=ij) (el:=dD [none,some 1,some 2] (bA (ai (ag 2) aE)) (eJ 0) ij (e2 bH (ag 1) (e2 lY (ag 2) (eI 1)))) (ck:=none) (ρ0:=pD [none,some 2,some 1] [some (.loc dl),some (.int (n:Nat)),some (.loc pl),none,none,none]) (c:=.lst (nW (List.replicate n v0))) rfl (cx 0 n) [] s0 fun w hw x=>⟨_,rfl,rfl,inner _ x⟩
  unfold dD at cn
  rw[cn,bZ]
  simp only[R.bind_ok,ig,mL]
  rw[ax (by rw[al,cM];show _<=1000000;omega)]
  unfold cL
  rw[List.map_replicate]
  simp
 apply aI
 ·exact A5 outer rfl
 have tok0:CQ n (List.replicate n (List.replicate n v0)):=⟨by simp,fun r hr=>by
  obtain⟨_,rfl⟩:=List.mem_replicate.mp hr
  exact⟨by simp,fun k hk=>by obtain⟨_,rfl⟩:=List.mem_replicate.mp hk;exact hv0'⟩⟩
 have lc:∀R:List (List Nat),R.length=n->(s0++cL R++[.lst ((List.range n).map fun i=>W.loc (s0.length+i))])[s0.length+n]?=some (.lst ((List.range n).map fun i=>W.loc (s0.length+i))):=fun R hR=>by
  have:=bn (s:=s0++cL R) (c:=.lst ((List.range n).map fun i=>W.loc (s0.length+i)))
  rwa[show(s0++cL R).length=s0.length+n by simp[hR]]at this
 have lix:∀(R:List (List Nat)) (l:Nat),R.length=n->l<n->bH (.loc (s0.length+n)) (.int (l:Nat)) (s0++cL R++[.lst ((List.range n).map fun i=>W.loc (s0.length+i))])=.ok (.loc (s0.length+l)) (s0++cL R++[.lst ((List.range n).map fun i=>W.loc (s0.length+i))]):=fun R l hR hl'=>lB (aO (lc R hR)) (dO (by rw[ar,h9 hl'];rfl))
 have put:∀(R:List (List Nat)) (l j v:Nat),CQ n R->l<n->j<n->v<n->∃R',CQ n R'/\mN (.loc (s0.length+l)) (.int (j:Nat)) (.int (v:Nat)) (s0++cL R++[.lst ((List.range n).map fun i=>W.loc (s0.length+i))])=some (s0++cL R'++[.lst ((List.range n).map fun i=>W.loc (s0.length+i))]):=fun R l j v hR hl' hj hv=>by
  have hlR:l<R.length:=by rw[hR.1];exact hl'
  have q9:=ae hlR
  refine⟨R.set l (R[l].set j v),Ie hR q9 hv,?_⟩
  rw[wm (Bj q9) (by unfold nW;rw[al,(hR.2 _ (fq hlR)).1];exact hj)]
  rw[show(nW R[l]).set j (.int (v:Nat))=nW (R[l].set j v) by unfold nW;rw[jV],Ic hlR]
 have wR:s0.length+n=s0.length+n:=rfl
 have dix:∀(i:Nat) (y:List ao),i<50->∃d,bH (.loc dl) (.int (i:Nat)) (s0++y)=.ok (.int d) (s0++y):=fun i y hi=>by
  obtain⟨d,e⟩:=ix i (x0++y) hi
  rw[<- aA,JH]at e
  exact⟨d,e⟩
 have modp:∀(d:Int) (m:Nat) (y:List ao),0<m->m<=100->∃q:Nat,q<m/\eK (.int d) (.int (m:Nat)) y=.ok (.int (q:Nat)) y:=fun d m y h1 h2=>by
  obtain⟨q,hq,eq⟩:=gy (q:=d) (n:=m) h1
  exact⟨q,hq,by rw[<- eq];exact jt (by omega)⟩
 refine eu (k:=(cx 0 (n-2),none)) (fun i ρ S=>∃R o4,CQ n R/\ρ=[some (.loc dl),some (.int (n:Nat)),some (.loc pl),some (.loc (s0.length+n)),o4,none]/\S=s0++cL R++[.lst ((List.range n).map fun i=>W.loc (s0.length+i))]) (by
   have:=eG (fs:=ai (e2 lY (ag 1) (eI 2)) aE) (ρ:=[some (.loc dl),some (.int (n:Nat)),some (.loc pl),some (.loc (s0.length+n)),none,none]) (st:=s0++cL (List.replicate n (List.replicate n v0))++[.lst ((List.range n).map fun i=>W.loc (s0.length+i))]) (q:=((n-2:Nat):Int)) (am (bE (ak rfl) cR (hsub 2 _ (by omega))) aM) (by omega)
   rw[bB]at this
   exact this) ⟨_,none,tok0,rfl,rfl⟩ (fun _ _ _ _=>trivial) ?_ ?_
 ·rintro i w ρ S hw ⟨R,o4,hR,rfl,rfl⟩
  obtain⟨hi,rfl⟩:=gF hw
  rw[gC]
  refine⟨_,rfl,?_⟩
  obtain⟨d1,i1⟩:=dix 1 (cL R++[.lst ((List.range n).map fun i=>W.loc (s0.length+i))]) (by omega)
  rw[<- aA]at i1
  obtain⟨q1,hq1,eq1⟩:=modp d1 3 (s0++cL R++[.lst ((List.range n).map fun i=>W.loc (s0.length+i))]) (by omega) (by omega)
  obtain⟨a,ha,ea⟩:=zix i (cL R++[.lst ((List.range n).map fun i=>W.loc (s0.length+i))]) (by omega)
  rw[<- aA]at ea
  obtain⟨b,hb,eb⟩:=zix (i+1) (cL R++[.lst ((List.range n).map fun i=>W.loc (s0.length+i))]) (by omega)
  rw[<- aA,show((i+1:Nat):Int)=(i:Int)+1 by omega]at eb
  obtain⟨R1,hR1,p1⟩:=put R a 0 b hR ha (by omega) hb
  have second:∀R2:List (List Nat),CQ n R2->gH (En fun ρ S=>∃R o4,CQ n R/\ρ=[some (.loc dl),some (.int (n:Nat)),some (.loc pl),some (.loc (s0.length+n)),o4,none]/\S=s0++cL R++[.lst ((List.range n).map fun i=>W.loc (s0.length+i))])
    ((jf (gp (e2 vF (e2 eK (e2 bH (ag 0) (eI 1)) (eI 3)) (eI 2))) (kT (e2 bH (ag 3) (eI 0)) (e2 bH (ag 2) (ag 4)) (e2 bH (ag 2) (e2 dR (ag 4) (eI 1))) mN) cV) [some (.loc dl),some (.int (n:Nat)),some (.loc pl),some (.loc (s0.length+n)),some (.int (i:Nat)),none] (s0++cL R2++[.lst ((List.range n).map fun i=>W.loc (s0.length+i))])):=fun R2 hR2=>by
   obtain⟨d1,i1⟩:=dix 1 (cL R2++[.lst ((List.range n).map fun i=>W.loc (s0.length+i))]) (by omega)
   rw[<- aA]at i1
   obtain⟨q1,hq1,eq1⟩:=modp d1 3 (s0++cL R2++[.lst ((List.range n).map fun i=>W.loc (s0.length+i))]) (by omega) (by omega)
   obtain⟨a,ha,ea⟩:=zix i (cL R2++[.lst ((List.range n).map fun i=>W.loc (s0.length+i))]) (by omega)
   rw[<- aA]at ea
   obtain⟨b,hb,eb⟩:=zix (i+1) (cL R2++[.lst ((List.range n).map fun i=>W.loc (s0.length+i))]) (by omega)
   rw[<- aA,show((i+1:Nat):Int)=(i:Int)+1 by omega]at eb
   obtain⟨R3,hR3,p3⟩:=put R2 0 a b hR2 (by omega) ha hb
   have tsx:gp (e2 vF (e2 eK (e2 bH (ag 0) (eI 1)) (eI 3)) (eI 2)) [some (.loc dl),some (.int (n:Nat)),some (.loc pl),some (.loc (s0.length+n)),some (.int (i:Nat)),none] (s0++cL R2++[.lst ((List.range n).map fun i=>W.loc (s0.length+i))])=.ok (decide ((q1:Int)<2)) (s0++cL R2++[.lst ((List.range n).map fun i=>W.loc (s0.length+i))]):=dE (bE (bE (bE (ak rfl) cR i1) cR eq1) cR (mR rfl))
   cases hdec:decide ((q1:Int)<2)with
   |true=>
    rw[hdec]at tsx
    refine lD tsx ?_
    exact⟨_,_,kG (bE (ak rfl) (bE (ak rfl) cR fA) eb) (bE (ak rfl) cR (lix R2 0 hR2.1 (by omega))) (bE (ak rfl) (ak rfl) ea) p3,R3,_,hR3,rfl,rfl⟩
   |false=>
    rw[hdec]at tsx
    exact kH tsx ⟨_,_,rfl,R2,_,hR2,rfl,rfl⟩
  have tsx:Gm (gp (e2 BY (e2 eK (e2 bH (ag 0) (eI 1)) (eI 3)) (eI 0))) (gp (e2 lp (ag 4) (eI 0))) [some (.loc dl),some (.int (n:Nat)),some (.loc pl),some (.loc (s0.length+n)),some (.int (i:Nat)),none] (s0++cL R++[.lst ((List.range n).map fun i=>W.loc (s0.length+i))])=.ok (decide ((q1:Int)>0)||((i:Int)==0)) (s0++cL R++[.lst ((List.range n).map fun i=>W.loc (s0.length+i))]):=
   Ep (dE (bE (bE (bE (ak rfl) cR i1) cR eq1) cR (mR rfl))) (dE (bE (ak rfl) cR (iu rfl)))
  cases hdec:decide ((q1:Int)>0)||((i:Int)==0)with
  |true=>
   rw[hdec]at tsx
   refine gi tsx ?_
   apply aI
   ·exact kG (bE (ak rfl) (bE (ak rfl) cR fA) eb) (bE (ak rfl) (bE (ak rfl) (ak rfl) ea) (lix R a hR.1 ha)) cR p1
   exact second R1 hR1
  |false=>
   rw[hdec]at tsx
   exact cX tsx (dP (second R hR))
 ·rintro ρ S ⟨R,o4,hR,rfl,rfl⟩
  apply aI
  ·exact bR (bE (ak rfl) cR (hsub 2 _ (by omega)))
  have dix':∀i:Nat,i<50->∃d,bH (.loc dl) (.int (i:Nat)) (s0++cL R++[.lst ((List.range n).map fun i=>W.loc (s0.length+i))])=.ok (.int d) (s0++cL R++[.lst ((List.range n).map fun i=>W.loc (s0.length+i))]):=fun i hi=>by
   have:=dix i (cL R++[.lst ((List.range n).map fun i=>W.loc (s0.length+i))]) hi
   rwa[<- aA]at this
  have q9:∀(l:Nat) (row:List Nat) (y:List ao),R[l]?=some row->(s0++cL R++[.lst ((List.range n).map fun i=>W.loc (s0.length+i))]++y)[s0.length+l]?=some (.lst (nW row)):=fun l row y h=>aG (Bj h)
  have hc2:(s0++cL R++[.lst ((List.range n).map fun i=>W.loc (s0.length+i))])[pl]?=some (.lst (nW zs)):=aG (aG c2)
  have hlc:=lc R hR.1
  have wJ:s0++cL R++[.lst ((List.range n).map fun i=>W.loc (s0.length+i))]=st++(x0++cL R++[.lst ((List.range n).map fun i=>W.loc (s0.length+i))]):=by rw[<- JH];simp
  generalize hS:s0++cL R++[.lst ((List.range n).map fun i=>W.loc (s0.length+i))]=S at dix' q9 hc2 hlc wJ ⊢
  refine nU (fun ρ S'=>∃u o4,u<n/\S'=S/\ρ=[some (.loc dl),some (.int (n:Nat)),some (.loc pl),some (.loc (s0.length+n)),o4,some (.int (u:Nat))]) ?_ ?_
  ·obtain⟨d2,i2⟩:=dix' 2 (by omega)
   obtain⟨q2,hq2,eq2⟩:=modp d2 2 S (by omega) (by omega)
   have tsx:gp (e2 lp (e2 eK (e2 bH (ag 0) (eI 2)) (eI 2)) (eI 1)) [some (.loc dl),some (.int (n:Nat)),some (.loc pl),some (.loc (s0.length+n)),o4,some (.int ((n-2:Nat):Int))] S=.ok ((q2:Int)==1) S:=dE (bE (bE (bE (ak rfl) cR i2) cR eq2) cR (iu rfl))
   cases hdec:((q2:Int)==1)with
   |true=>
    rw[hdec]at tsx
    obtain⟨d3,i3⟩:=dix' 3 (by omega)
    obtain⟨q3,hq3,eq3⟩:=modp d3 (n-2) S (by omega) (by omega)
    refine lD tsx ⟨_,_,bR (bE cR (bE (bE (ak rfl) cR i3) (bE (ak rfl) cR (hsub 2 _ (by omega))) eq3) fA),1+q3,o4,by omega,rfl,?_⟩
    rw[show((1+q3:Nat):Int)=1+(q3:Int) by omega];rfl
   |false=>
    rw[hdec]at tsx
    exact kH tsx ⟨_,_,rfl,n-2,o4,by omega,rfl,rfl⟩
  ·rintro ρ S' ⟨u,o4,hu,rfl,rfl⟩
   obtain⟨zu,hzu,_⟩:=zat u hu
   obtain⟨gd,hgl,_,eg⟩:=tq (cap:=[none,some 2,some 5]) (el:=e2 lp (ag 0) (e2 bH (ag 1) (ag 2))) (fs:=ai (ag 1) aE) (ρ:=[some (.loc dl),some (.int (n:Nat)),some (.loc pl),some (.loc (s0.length+n)),o4,some (.int (u:Nat))]) (st:=S') (n:=n) W.bl (fun _ _=>True) (am (ak rfl) aM) (by omega) fun i hi=>⟨((i:Int)==(zu:Int)),trivial,bE (ak rfl) (bE (ak rfl) (ak rfl) (tu hc2 hzu)) (iu rfl)⟩
   have hS1:∀(l:Nat) (row:List Nat),R[l]?=some row->(S'++[.lst (gd.map W.bl)])[s0.length+l]?=some (.lst (nW row)):=fun l row h=>q9 l row _ h
   have er:=g9 (cap:=[none]) (fi:=ce (ag 3)) (f:=eJ 0) (el:=bD dJ (ai (ag 0) aE)) (ρ:=[some (.loc dl),some (.int (n:Nat)),some (.loc pl),some (.loc (s0.length+n)),o4,some (.int (u:Nat))]) (st:=S'++[.lst (gd.map W.bl)]) (st1:=S'++[.lst (gd.map W.bl)]) (fun w=>match w with|.loc p=>iZ (R.getD (p-s0.length) [])|_=>.non) (eW (ak rfl) (aO (aG hlc))) (by rw[al,cM];show _<=1000000;omega) (aO (aG hlc)) fun w hw=>by
    obtain⟨l,hl',rfl⟩:=aS.mp hw
    have hln:=bt.mp hl'
    have e:=ae (l:=R) (show l<R.length by rw[hR.1];exact hln)
    refine⟨_,rfl,?_⟩
    have hg:R.getD (s0.length+l-s0.length) []=R[l]'(by rw[hR.1];exact hln):=by
     rw[iz,aZ,e];rfl
    show _=L2.R.ok (iZ (R.getD (s0.length+l-s0.length) [])) _
    rw[hg]
    exact bP (am (ak rfl) aM) (gI (aO (hS1 l _ e)))
   have hmap:((List.range n).map fun i=>W.loc (s0.length+i)).map (fun w=>match w with|.loc p=>iZ (R.getD (p-s0.length) [])|_=>.non)=R.map iZ:=by
    rw[bb]
    refine lO (by simp[hR.1]) fun i h1 h2=>?_
    have hi:i<R.length:=by simpa using h2
    simp only[d_,ko,cN,iz]
    rw[aZ,ae hi];rfl
   rw[hmap]at er
   refine⟨_,_,jh (fR (am cR (am eg (am (fR (am (bP (am er aM) (gI (aO bn))) aM) (by show 1<=1000000;decide)) aM))) (by show 3<=1000000;decide)),⟨_,by rw[wJ,aA,aA]⟩,?_,⟨[],gd,[R]⟩,n,rfl,⟨hgl,rfl,fun t ht=>?_⟩,by omega,by omega,rfl⟩
   ·have a:=A4 gd st.length
    have b:=A3 R st.length
    unfold fK W.und at b
    simp only[undWs,W.und,a,b,b_]
   ·simp at ht;subst ht;exact hR
theorem pS{ws:List W}{k:Nat}{st:List ao}(hl:ws.length<=1000)(h:∀w∈ws,j6 k [w,w] st=.ok (.bl true) st):j6 (k+1) [.tup ws,.tup ws] st=.ok (.bl true) st:=by
 refine sW (N:=3) (ws:=[.tup ws,.tup ws]) (body:=EX (j6 k)) ?_ rfl
 apply gi
 ·(walk_at "evs")
 apply lE
 apply cX
 ·apply pJ
  ·(walk_at "evs")
  ·(walk_at "evs")
   simp
 apply dP
 apply lE
 refine eu (fun i ρ bG=>∃o,ρ=[some (.tup ws),some (.tup ws),o]/\bG=st) (eG (by(walk_at "evs")) (by omega)) ⟨none,rfl,rfl⟩ (fun _ _ _ _=>trivial) ?_ ?_
 ·rintro i w ρ bG hw ⟨o,rfl,rfl⟩
  obtain⟨hi,rfl⟩:=gF hw
  refine⟨_,rfl,?_⟩
  have hi':i<ws.length:=by simpa using hi
  have hat:bH (.tup ws) (.int (0+(i:Int))) bG=.ok ws[i] bG:=dq (by rw[gC];exact dO (by simp[hi']))
  have hs:=h ws[i] (fq _)
  apply kH
  ·(walk_at "evs")
  apply fY
  ·(walk_at "evs")
  ·exact⟨_,_,rfl,_,rfl,rfl⟩
 ·rintro ρ bG ⟨o,rfl,rfl⟩
  apply e7
  ·(walk_at "evs")
  ·exact⟨_,_,rfl,rfl,[],by simp⟩
theorem pU(z:Int)(k:Nat)(st:List ao):j6 (k+1) [.int z,.int z] st=.ok (.bl true) st:=by
 have hb:lp (.int z) (.int z) st=.ok (.bl true) st:=iu (by simp)
 refine sW (N:=3) (ws:=[.int z,.int z]) (body:=EX (j6 k)) ?_ rfl
 apply cX
 ·(walk_at "evs")
 apply dP
 apply cX
 ·(walk_at "evs")
 apply dP
 apply cX
 ·(walk_at "evs")
 apply dP
 apply gi
 ·(walk_at "evs")
 apply e7
 ·apply AY
  ·(walk_at "evs")
  ·apply AY
   ·(walk_at "evs")
   ·(walk_at "evs")
 ·exact⟨_,_,rfl,by simp,[],by simp⟩
abbrev Ig(st:List ao):Prop:=st[1]?=some (.tab 54 ⟨45,29,45,52⟩ "firsts_of.<locals>.<lambda>")
section
variable{M:Mc}{N:Nat}{rs:List Nat}
theorem FM{s:Nat}{p:Nat×Nat}(hp:p∈cA M rs s)(k:Nat)(st:List ao):j6 (k+3) [gj M rs s p,gj M rs s p] st=.ok (.bl true) st:=by
 obtain⟨_,ho,hap⟩:=rD hp
 have hw:=yq (T:=bd M) (L:=M.tb.length) (g:=gM M) (rs:=rs) (s:=s) (a:=p.1) (b:=p.2) ho
 have hap':ap (bd M) M.tb.length (gM M) rs s p.1 p.2=true:=hap
 rw[hap']at hw
 obtain⟨w,e⟩:=fZ.mp hw
 have sw:j6 (k+2) [w,w] st=.ok (.bl true) st:=by
  cases s with
  |zero=>
   have e':(if ap (bd M) M.tb.length (gM M) rs 0 p.1 p.2=true then some (W.tup [])else none)=some w:=e
   rw[ax hap']at e';cases e'
   exact pS (by simp) fun w hw=>by cases hw
  |succ s=>
   obtain⟨q,_,rfl⟩:=aY.mp (show(((kX M.tb.length rs).find? fun q=>ap (bd M) M.tb.length (gM M) rs s (led (bd M) q p.1) (led (bd M) q p.2)).map yo)=some w from e)
   refine pS (by simp) fun v hv=>?_
   simp only[a7,hW,nK]at hv
   rcases hv with rfl|rfl|rfl<;>exact pU _ _ _
 unfold gj yp
 rw[e]
 refine pS (by simp) fun v hv=>?_
 simp only[a7,hW,nK,Option.getD_some]at hv
 rcases hv with rfl|rfl|rfl|rfl
 ·exact pU _ _ _
 ·exact pU _ _ _
 ·exact pU _ _ _
 ·exact sw
theorem FN(hl:rs.length<=20)(n k:Nat)(st:List ao):j6 (k+4) [.tup (f7 M rs n),.tup (f7 M rs n)] st=.ok (.bl true) st:=by
 refine pS ?_ fun w hw=>?_
 ·have a:=wC (M:=M) (rs:=rs) n
  have b:=nY rs
  have c:rs.length*rs.length<=20*20:=g7 hl hl
  omega
 ·obtain⟨s,_,hw⟩:=ja.mp hw
  obtain⟨p,hp,rfl⟩:=aS.mp hw
  exact FM hp k st
theorem FQ(hM:qP M N)(h1:1<=N)(PN:N<=20)(hsz:M.tb.length*(2*N)<=10000):∃V,(∀st,Ig st->qO [M.w] st=.ok V st)/\(∀(st:List ao) (i:Nat) (ρ:bS),ρ[i]?=some (some M.w)->∃x,c8 2 tj (ai (ag i) (ai (bD l_ (ai (c8 1 tm (ai (ag i) aE)) aE)) aE)) ρ st=.ok V (st++x))/\∀st,j6 40 [V,V] st=.ok (.bl true) st:=by
 obtain⟨rs,n,hrs,hE,_⟩:=vg (st:=[.ro [],.tab 54 ⟨45,29,45,52⟩ "firsts_of.<locals>.<lambda>"]) hM h1 (by omega) hsz rfl
 have hll:rs.length<=N:=by
  have:=jb (tJ hrs.up) (l:=List.range N) fun c hc=>bt.mpr (hrs.lt c hc)
  rwa[cM]at this
 have hRm:Rm M N rs:=⟨hM,hrs.lt,tJ hrs.up,by omega,aV (jL _ (by omega)) hsz,hrs.cl⟩
 refine⟨.tup (f7 M rs n),fun st ht=>?_,fun st i ρ hi=>?_,fun st=>FN (by omega) n 36 st⟩
 ·obtain⟨MF,n',hrs',hE',e⟩:=vg hM h1 (by omega) hsz ht
  obtain rfl:=hrs.one hrs'
  obtain rfl:=vc.one hE hE'
  exact e
 ·obtain⟨mt,y,hm,k6,em⟩:=L9 (st:=st) hM h1 (by omega)
  obtain⟨MF,hs',hp',hu'⟩:=JE hm.nd
  have hrs':Cz M N MF:=⟨hu',hp'.mem_iff.mpr (by obtain⟨r,e⟩:=hm.zero;rw[e];exact bf),fun a ha=>hm.lt a (hp'.mem_iff.mp ha),fun k hk a ha b hb=>hp'.mem_iff.mpr (k6 k hk a (hp'.mem_iff.mp ha) b (hp'.mem_iff.mp hb)),fun C c0 cc a ha=>hm.least C c0 cc a (hp'.mem_iff.mp ha)⟩
  obtain rfl:=hrs.one hrs'
  have hml:=hm.len
  have es:=Be (st:=st++.lst (dh mt)::y) (n:=st.length) (l:=mt) (by rw[cu];rfl) (by omega) hs'
  obtain⟨n',hE',e⟩:=z7 hRm hrs.up (st:=st++.lst (dh mt)::y++[.lst (dh rs)]) (r:=(st++.lst (dh mt)::y).length) bn
  obtain rfl:=vc.one hE hE'
  exact⟨.lst (dh mt)::y++[.lst (dh rs)],by rw[<- aA];exact dm (am (ak hi) (am (bP (am (dm (am (ak hi) aM) em rfl) aM) es) aM)) e rfl⟩
end
theorem law_ok:DY (vS tabL) f_q31:=by
 intro ns MA
 suffices hh:gH (ql fun w bG=>w=.bl true) (JA ([W.loc 0].map some++List.replicate (5-1) none) (.ro (ns.map W.int)::vS tabL)) by
  obtain⟨w,bG,e,rfl⟩:=hh
  exact⟨_,rj e⟩
 have h0:(ao.ro (ns.map W.int)::vS tabL)[0]?=some (.ro (ns.map W.int)):=rfl
 have ht:Ig (ao.ro (ns.map W.int)::vS tabL):=rfl
 generalize JH:(ao.ro (ns.map W.int)::vS tabL:List ao)=s0 at h0 ht
 obtain⟨c0,e0⟩:=pM h0 0
 obtain⟨gr,qR,hpd,_,e1⟩:=HB c0 2000003 6 (by omega) s0
 apply aI
 ·exact bR (dm (am (dm (am (ak rfl) (am cR aM)) e0 rfl) (am cR (am cR aM))) e1 rfl)
 obtain⟨M,n,hM,hn1,CV,Bn,hsz,_,ea⟩:=E7 h0 1 gr (by omega) (by omega)
 apply aI
 ·exact bR (dm (am (ak rfl) (am cR (am (ak rfl) aM))) ea rfl)
 obtain⟨M2,n2,hM2,hn12,hn92,hnm2,hsz2,_,ea2⟩:=E7 h0 8 gr (by omega) (by omega)
 apply aI
 ·exact bR (dm (am (ak rfl) (am cR (am (ak rfl) aM))) ea2 rfl)
 have small:∀{M:Mc} {n:Nat},qP M n->1<=n->n*n*2^M.nm.length<=200->M.tb.length*(2*n)<=10000:=fun{M n} h h1 h2=>by
  rw[h.tb]
  have a:2^M.nm.length*n<=n*n*2^M.nm.length:=by
   rw[iN (n*n)]
   exact jL _ (lP _ h1)
  rw[show 2^M.nm.length*(2*n)=2*(2^M.nm.length*n) by rw[Nat.mul_left_comm]]
  omega
 refine nU (fun ρ S=>∃(M3:Mc) (n3:Nat) (x:List ao),qP M3 n3/\1<=n3/\n3<=20/\M3.tb.length*(2*n3)<=10000/\S=s0++x/\ρ=[some (.loc 0),some (.str gr),some M.w,some M3.w,none]) ?_ ?_
 ·obtain⟨c2,e2'⟩:=pM h0 20
  obtain⟨hs,hhl,_,e3⟩:=nE c2 4000037 1 (by omega) s0
  obtain⟨d,rfl⟩:∃a,hs=[a]:=by
   match hs,hhl with
   |[a],_=>exact⟨_,rfl⟩
  have i0:bH (.loc s0.length) (.int 0) (s0++[.lst ([d].map W.int)])=.ok (.int d) (s0++[.lst ([d].map W.int)]):=f_ (i:=0) (ds:=[d]) bn rfl
  obtain⟨q,hq,eq⟩:=gy (q:=d) (n:=8) (by omega)
  have mo:eK (.int d) (.int 8) (s0++[.lst ([d].map W.int)])=.ok (.int (q:Nat)) (s0++[.lst ([d].map W.int)]):=by
   have:d%8=(q:Int):=eq
   rw[<- this];exact jt (by decide)
  have tsx:gp (e2 lp (e2 eK (e2 bH (c8 3 kI (ai (c8 2 mS (ai (ag 0) (ai (eI 20) aE))) (ai (eI 1) (ai (eI 4000037) aE)))) (eI 0)) (eI 8)) (eI 3)) [some (.loc 0),some (.str gr),some M.w,some M2.w,none] s0=.ok ((q:Int)==3) (s0++[.lst ([d].map W.int)]):=dE (bE (bE (bE (dm (am (dm (am (ak rfl) (am cR aM)) e2' rfl) (am cR (am cR aM))) e3 rfl) cR i0) cR mo) cR (iu rfl))
  cases hdec:((q:Int)==3)with
  |true=>
   rw[hdec]at tsx
   obtain⟨c3,e4⟩:=pM (aG (x:=[.lst ([d].map W.int)]) h0) 21
   obtain⟨hs3,hhl3,_,e5⟩:=nE c3 5000011 50 (by omega) (s0++[.lst ([d].map W.int)])
   obtain⟨M3,n3,hM3,h12,PN,hnm3,e6⟩:=CD (dl:=(s0++[ao.lst ([d].map W.int)]).length) (ds:=hs3) (st:=s0++[.lst ([d].map W.int)]++[.lst (hs3.map W.int)]) bn hhl3
   refine lD tsx ⟨_,_,bR (dm (am (dm (am (dm (am (ak rfl) (am cR aM)) e4 rfl) (am cR (am cR aM))) e5 rfl) aM) e6 rfl),M3,n3,_,hM3,by omega,PN,?_,by rw[aA],rfl⟩
   rw[hM3.tb,hnm3];simp;omega
  |false=>
   rw[hdec]at tsx
   exact kH tsx ⟨_,_,rfl,M2,n2,_,hM2,hn12,by omega,small hM2 hn12 hsz2,rfl,rfl⟩
 ·rintro ρ S ⟨M3,n3,x,hM3,h13,PN,hsz3,rfl,rfl⟩
  obtain⟨V,v1,v2,v3⟩:=FQ hM hn1 (by omega) (small hM hn1 hsz)
  obtain⟨V',w1,w2,w3⟩:=FQ hM3 h13 PN hsz3
  obtain⟨x1,ex1⟩:=v2 (s0++x) 2 [some (.loc 0),some (.str gr),some M.w,some M3.w,none] rfl
  apply aI
  ·exact bR ex1
  have t1:Ig (s0++x++x1):=aG (aG ht)
  refine cX (AX (a:=true) (dE (dm (am (dm (am (ak rfl) aM) (v1 _ t1) rfl) (am (ak rfl) aM)) (v3 _) rfl)) rfl) (dP ?_)
  obtain⟨x2,ex2⟩:=w2 (s0++x++x1) 3 [some (.loc 0),some (.str gr),some M.w,some M3.w,some V] rfl
  refine cX (AX (a:=true) (dE (dm (am (dm (am (ak rfl) aM) (w1 _ t1) rfl) (am ex2 aM)) (w3 _) rfl)) rfl) (dP ?_)
  have t2:Ig (s0++x++x1++x2):=aG t1
  exact gw (dm (am (dm (am (ak rfl) aM) (v1 _ t2) rfl) (am (ak rfl) aM)) (v3 _) rfl) ⟨_,_,rfl,rfl⟩
local macro_rules | `(tactic| walk_at "hb") => `(tactic| first | (exact fun _ _ _ _ _ _ us hl => match us, hl with | [_], _ => rfl) | (exact fun _ _ _ _ _ _ us hl => match us, hl with | [_, _], _ => rfl) | (exact fun _ _ _ _ _ _ us hl => match us, hl with | [_, _, _], _ => rfl) | (exact fun _ _ _ _ _ _ us hl => match us, hl with | [_, _, _, _], _ => rfl) | (exact fun _ _ _ _ _ _ us hl => match us, hl with | [_, _, _, _, _], _ => rfl))
theorem all_mk{l:PySem.W.OpenLaw}{w:World}{K:Frag}{h:Heap}{mg:Str->Option Value}{fa:Addr}(X:K.In h)(G:h.Ns mainGlobals mg)(RT:mg "law"=some (.ref fa))
  {F6 Ai:Addr} {O' O7 Ms F7:Option Addr} {Pe Mk:Array (Option Value)} {O4 OY Pc Pf O9 Mb Ge Gb Gf Aa Gg:Value} {jS:Addr}
  (wP:DefIn K "pairs_with" K')
  (z_:DefIn K "numbered" La)
  (uv:DefIn K "good_blocks" Lb)
  (Al:DefIn K "views_of" Lc)
  (tN:DefIn K "split_blocks" Ld)
  (Ak:DefIn K "put_ways" Le)
  (Aj:DefIn K "pairs_of" Lf)
  (yH:DefIn K "why_apart" Lg)
  (yO:DefIn K "parted_by" Lh)
  (ur:DefIn K "together_in" Eu)
  (uq:DefIn K "unlike_rows" Ev)
  (wM:DefIn K "_law_mixed" Ew)
  (wI:DefIn K "_law_draws" Ey)
  (yJ:DefIn K "_law_pool" Ez)
  (yK:DefIn K "_law_cell" EA)
  (wL:DefIn K "_law_shape" EB)
  (wH:DefIn K "_law_names" ED)
  (uk:DefIn K "_law_blocks" EE)
  (wK:DefIn K "_law_grown" EF)
  (ut:DefIn K "_law_graded" EG)
  (tP:DefIn K "_law_spotted" EH)
  (wG:DefIn K "_law_blown" EI)
  (wE:DefIn K "_law_owner" EJ)
  (tR:DefIn K "_law_machine" EK)
  (z9:DefIn K "_law_any" EL)
  (Ae:DefIn K "_law_why" EM)
  (uo:DefIn K "_law_unlike" EN)
  (Ah:DefIn K "_law_met" EO)
  (yG:DefIn K "_law_same" EQ)
  (uu:DefIn K "_law_ladder" ET)
  (QW:nsIn K mainGlobals "firsts_of"=some (some (.ref F6)))
  (Q0:K.lookup F6=some ⟨O4,O',.func (fnOf "firsts_of" "firsts_of" (iA Cj) (gQ Cj) (bc Cj) .none OY Pc Pf O7 (.ref jS) O9),Pe⟩)
  (FV:codeIn K (.ref jS) "firsts_of"=true)
  (Q5:keepIn K (.ref F6)=true)
  (tc_firsts_of:codeHdIn K jS 54=true)
  (tk_firsts_of:K.lookup 54=none)
  (JJ:nsIn K mainGlobals "law"=some (some (.ref Ai)))
  (Pg:K.lookup Ai=some ⟨Mb,Ms,.func (fnOf "law" "law" (iA pL) (gQ pL) (bc pL) .none Ge Gb Gf F7 Aa Gg),Mk⟩)
  (CK:codeIn K Aa "law"=true)
  (OZ:keepIn K (.ref Ai)=true)
  (Mm:nsIn K mainGlobals "bool"=some none)
  (yM:nsIn K mainGlobals "enumerate"=some none)
  (Pm:nsIn K mainGlobals "int"=some none)
  (wO:nsIn K mainGlobals "isinstance"=some none)
  (O0:nsIn K mainGlobals "len"=some none)
  (Md:nsIn K mainGlobals "list"=some none)
  (O8:nsIn K mainGlobals "max"=some none)
  (Pk:nsIn K mainGlobals "min"=some none)
  (Ik:nsIn K mainGlobals "range"=some none)
  (F0:nsIn K mainGlobals "sorted"=some none)
  (Pd:nsIn K mainGlobals "str"=some none)
  (Im:nsIn K mainGlobals "tuple"=some none) :
  ∃fd:FuncData,(∀(s:Shared) (v:Value),BindsTo s fd ⟨[v],[]⟩ [("_law_script",v)])/\∀base:Heap,K.In base->base.Ns mainGlobals mg->xI base mg->eV l.prog w K mg base (kD l.prog w) 41 fa fd EU (ly K mg 1 f_q31):=by
 have e:=RT.symm.trans (mg_of X G JJ)
 cases e
 obtain⟨_,_,F_q0,m_q0⟩:=wP.fn X G
 obtain⟨_,_,F_q1,m_q1⟩:=z_.fn X G
 obtain⟨_,_,F_q2,m_q2⟩:=uv.fn X G
 obtain⟨_,_,F_q3,m_q3⟩:=Al.fn X G
 obtain⟨_,_,F_q4,m_q4⟩:=tN.fn X G
 obtain⟨_,_,F_q5,m_q5⟩:=Ak.fn X G
 have F_q6:=yY (st:=Cj) Q0 FV Q5
 have m_q6:=mg_of X G QW
 obtain⟨_,_,F_q7,m_q7⟩:=Aj.fn X G
 obtain⟨_,_,F_q8,m_q8⟩:=yH.fn X G
 obtain⟨_,_,F_q9,m_q9⟩:=yO.fn X G
 obtain⟨_,_,F_q10,m_q10⟩:=ur.fn X G
 obtain⟨_,_,F_q11,m_q11⟩:=uq.fn X G
 obtain⟨_,_,F_q12,m_q12⟩:=wM.fn X G
 obtain⟨_,_,F_q13,m_q13⟩:=wI.fn X G
 obtain⟨_,_,F_q14,m_q14⟩:=yJ.fn X G
 obtain⟨_,_,F_q15,m_q15⟩:=yK.fn X G
 obtain⟨_,_,F_q16,m_q16⟩:=wL.fn X G
 obtain⟨_,_,F_q17,m_q17⟩:=wH.fn X G
 obtain⟨_,_,F_q18,m_q18⟩:=uk.fn X G
 obtain⟨_,_,F_q19,m_q19⟩:=wK.fn X G
 obtain⟨_,_,F_q20,m_q20⟩:=ut.fn X G
 obtain⟨_,_,F_q21,m_q21⟩:=tP.fn X G
 obtain⟨_,_,F_q22,m_q22⟩:=wG.fn X G
 obtain⟨_,_,F_q23,m_q23⟩:=wE.fn X G
 obtain⟨_,_,F_q24,m_q24⟩:=tR.fn X G
 obtain⟨_,_,F_q25,m_q25⟩:=z9.fn X G
 obtain⟨_,_,F_q26,m_q26⟩:=Ae.fn X G
 obtain⟨_,_,F_q27,m_q27⟩:=uo.fn X G
 obtain⟨_,_,F_q28,m_q28⟩:=Ah.fn X G
 obtain⟨_,_,vk,yN⟩:=yG.fn X G
 obtain⟨_,_,F_q30,m_q30⟩:=uu.fn X G
 have F_q31:=yY (st:=pL) Pg CK OZ
 have m_q31:=mg_of X G JJ
 have B:Bl mg:=⟨mg_none_of X G Mm,mg_none_of X G yM,mg_none_of X G Pm,mg_none_of X G wO,mg_none_of X G O0,mg_none_of X G Md,mg_none_of X G O8,mg_none_of X G Pk,mg_none_of X G Ik,mg_none_of X G F0,mg_none_of X G Pd,mg_none_of X G Im⟩
 refine⟨fnOf "law" "law" (iA pL) (gQ pL) (bc pL) .none Ge Gb Gf F7 Aa Gg,fun s v=>.of_eq rfl,fun base _ _ Bk=>?_⟩
 have Mg:cE l.prog w K mg base 1 "pairs_with" 1 Ck:=dM F_q0 m_q0 (On F_q0 B)
 have CJ:cE l.prog w K mg base 1 "numbered" 2 zQ:=dM F_q1 m_q1 (Op F_q1 B)
 have Mn:cE l.prog w K mg base 2 "good_blocks" 2 EV:=dM F_q2 m_q2 (Os F_q2  CJ)
 have Mo:cE l.prog w K mg base 1 "views_of" 3 Cm:=dM F_q3 m_q3 (Ou F_q3 B)
 have Mp:cE l.prog w K mg base 2 "split_blocks" 3 Cn:=dM F_q4 m_q4 (Ow F_q4  CJ)
 have Iq:cE l.prog w K mg base 2 "put_ways" 4 Co:=dM F_q5 m_q5 (Oy F_q5 B Mg)
 have Mv:cE l.prog w K mg base 3 "firsts_of" 1 Cp:=dM F_q6 m_q6 (OA F_q6 ⟨jS,rfl,tc_firsts_of,tk_firsts_of⟩ Bk B Iq)
 have Mu:cE l.prog w K mg base 1 "pairs_of" 1 EW:=dM F_q7 m_q7 (OC F_q7 B)
 have Ml:cE l.prog w K mg base 1 "why_apart" 3 x6:=dM F_q8 m_q8 (OD F_q8 B)
 have Ij:cE l.prog w K mg base 1 "parted_by" 2 zR:=dM F_q9 m_q9 (OF F_q9)
 have F4:cE l.prog w K mg base 1 "together_in" 2 u0:=dM F_q10 m_q10 (Lm F_q10)
 have yL:cE l.prog w K mg base 4 "unlike_rows" 1 qO:=dM F_q11 m_q11 (Ln F_q11 B Mv Mn Mu Ij Mp F4 Mo Ml)
 have F5:cE l.prog w K mg base 1 "_law_mixed" 3 u3:=dM F_q12 m_q12 (Lo F_q12)
 have lH:cE l.prog w K mg base 2 "_law_draws" 3 kI:=dM F_q13 m_q13 (Lp F_q13 B F5)
 have FR:cE l.prog w K mg base 3 "_law_pool" 3 x8:=dM F_q14 m_q14 (Lq F_q14 B lH)
 have nH:cE l.prog w K mg base 1 "_law_cell" 2 mS:=dM F_q15 m_q15 (Lr F_q15 B)
 have Gd:cE l.prog w K mg base 1 "_law_shape" 1 x9:=dM F_q16 m_q16 (Ls F_q16)
 have Gc:cE l.prog w K mg base 1 "_law_names" 2 x_:=dM F_q17 m_q17 (Lu F_q17 B)
 have F_:cE l.prog w K mg base 3 "_law_blocks" 4 ya:=dM F_q18 m_q18 (Lv F_q18 B nH lH)
 have FU:cE l.prog w K mg base 1 "_law_grown" 3 u4:=dM F_q19 m_q19 (Lw F_q19 B)
 have Ga:cE l.prog w K mg base 2 "_law_graded" 3 yb:=dM F_q20 m_q20 (Lx F_q20 B FU)
 have FW:cE l.prog w K mg base 1 "_law_spotted" 2 yc:=dM F_q21 m_q21 (Ly F_q21 B)
 have F8:cE l.prog w K mg base 1 "_law_blown" 3 yd:=dM F_q22 m_q22 (Lz F_q22 B)
 have vi:cE l.prog w K mg base 1 "_law_owner" 3 tf:=dM F_q23 m_q23 (LA F_q23 B)
 have F3:cE l.prog w K mg base 1 "_law_machine" 4 ye:=dM F_q24 m_q24 (LB F_q24 B)
 have Br:cE l.prog w K mg base 4 "_law_any" 3 u5:=dM F_q25 m_q25 (LC F_q25  F_ F8 nH lH Ga F3 Gc vi Gd FW)
 have F':cE l.prog w K mg base 1 "_law_why" 5 u6:=dM F_q26 m_q26 (LD F_q26 B)
 have Bt:cE l.prog w K mg base 2 "_law_unlike" 2 tj:=dM F_q27 m_q27 (LF F_q27 B F')
 have Bm:cE l.prog w K mg base 1 "_law_met" 1 tm:=dM F_q28 m_q28 (LG F_q28 B)
 have tQ:=A2 (P:=l.prog) (w:=w) (base:=base) vk yN B  40
 have F2:cE l.prog w K mg base 2 "_law_ladder" 1 yf:=dM F_q30 m_q30 (LH F_q30 B vi)
 exact LI F_q31 B Br nH lH F2 Bm FR tQ Bt yL
end P
end
namespace PySem.W.Fast
def tw17781146373999130495:=0
def tw1584842886325891551:=0
def tw8799424297694498138:=0
def tw8733619305054593845:=0
def tw222124219344647924:=0
def tw15627957882405508432:=0
def tw1636121630420791405:=0
def tw12397758201886091211:=0
def tw15845824273197662123:=0
def tw4369497086830345609:=0
def tw11067736051119529064:=0
def tw5798000719104613871:=0
def tw14534116046431370726:=0
def tw6502005338359210936:=0
def tw15544676965895489786:=0
def tw4018229499211299313:=0
def tw3914263854406577926:=0
def tw9412085806263806116:=0
def tw16322365706143834523:=0
def tw14341638281223219231:=0
def tw725128863739960527:=0
def tw7770212015338480318:=0
def tw8906504891941691326:=0
def tw15114543714661605267:=0
def tw3335254448335569271:=0
def tw6459470761593754707:=0
def tw8425621442805161061:=0
def tw7955710371925101454:=0
def tw8077374028969707266:=0
def tw6360470916804536751:=0
def tw13936423012405101373:=0
def tw15448805314765618319:=0
def tw17278089858294919136:=0
def tw148031261957282153:=0
def tw11963873606555147374:=0
def tw845011732301314889:=0
def tw7622248321343040041:=0
def tw16142673506010465922:=0
def tw16186130958799451448:=0
def tw10236404174869386442:=0
def tw14990852388329779346:=0
def tw9546573430991174745:=0
def tw7975718005946684228:=0
def tw681577832230274449:=0
def tw11910471547140003941:=0
def tw5931685033703680414:=0
def tw5768549485579468087:=0
def tw6105871234248066106:=0
def tw3255961800511298362:=0
def tw13218188433080284948:=0
def tw17106507786437543746:=0
def tw10545193549558584640:=0
def tw15779492947602182164:=0
def tw14013258811270054420:=0
def tw18197901418277036329:=0
def tw6149828508020178524:=0
def tw14731553670952021345:=0
def tw7454582454880466343:=0
def tw12676219967771553150:=0
def tw7811644846511133970:=0
def tw17875327552629330926:=0
def tw5886567710132104236:=0
def tw1985887551512717691:=0
def tw11369739920975588702:=0
def tw17204598556008540294:=0
def tw17301558825489053725:=0
def tw17338647297109005046:=0
def tw13675683450867408814:=0
def tw3342197170199005285:=0
def tw3382313481144104051:=0
def tw15504126201237002689:=0
def tw10225500231248058091:=0
def tw8569170326518948792:=0
def tw6222902035508310281:=0
def tw7938603232084023172:=0
def tw10666404036563526057:=0
def tw1771027118778830317:=0
def tw1319602170421526428:=0
def tw7426096884677639276:=0
def tw7527256721732751924:=0
def tw3487180177548231325:=0
def tw7177715946058938014:=0
def tw10606420223841994304:=0
def tw7853772943234871583:=0
def tw7623248762435177242:=0
def tw1221183776649645000:=0
def tw2224245645877656794:=0
def tw1208435866193573142:=0
def tw6433967985663780358:=0
def tw13337958036408355499:=0
def tw16101727448563233777:=0
def tw3024862528459446563:=0
def tw18392144596630592693:=0
def tw12936537017882328854:=0
def tw14239474606304653960:=0
def tw7921749452590837723:=0
def tw9501835150484678398:=0
def tw7679264636545256375:=0
def tw12994240067491595205:=0
def tw10045612986413210880:=0
def tw17253268754889669858:=0
def tw11735828330981369800:=0
def tw8588793959924652952:=0
def tw6325274658511635045:=0
def tw11499147334317541105:=0
def tw7818443560856805877:=0
def tw1205910591068094851:=0
def tw15806656068237569778:=0
def tw12261481049823658688:=0
def tw10778669583555874331:=0
def tw134978441666035:=0
def tw11529392679071170720:=0
def tw1938802130553023155:=0
def tw15512542216495709891:=0
def tw13945878424529883438:=0
def tw622297370229335557:=0
def tw18043010389971069847:=0
def tw13876120134138384720:=0
def tw16139702117859504248:=0
def tw5548361005199656040:=0
def tw4516163016320240455:=0
def tw1996150326801191571:=0
def tw11758175179210822181:=0
def tw4947965166826251106:=0
def tw4031602406951340437:=0
def tw2949607018017341399:=0
def tw10343979023178740140:=0
def tw2152639416569691392:=0
def tw15081209436627285666:=0
def tw4323420584091286711:=0
def tw16160825182256508122:=0
def tw4268507646237402497:=0
def tw7425063467822586419:=0
def tw4230446510775538478:=0
def tw14246496785351460149:=0
def tw7794609981950835411:=0
end PySem.W.Fast
open PySem PySem.W PyProof.Rows
set_option maxRecDepth 100000 in
set_option maxHeartbeats 0 in
theorem PySem.Challenge.cw_trunksay_k27_rooms_apart_holds : PySem.Challenge.rw_trunksay_k27_rooms_apart.Holds := by
 w_on; o_law; k_head; (case hw => w_witness2)
 k_fill
 refine L2.walkT (l := PySem.Challenge.rw_trunksay_k27_rooms_apart) (k := 41) (x := "_law_script") (G := P.f_q31) P.tabL (by decide) rfl rfl ⟨rfl, by decide, by decide⟩ (fun w h Y => PySem.W.km_in_of Y) (fun w h Y T hT => PySem.W.km_tabs_of Y T hT) (fun w T hT => ?KT) (fun w T hT => ?CT) ?F P.law_ok
 case KT =>
  simp only [P.tabL, aR, eB, a7, hW, nK] at hT
  rcases hT with rfl
  ·kernel_rfl
 case CT =>
  simp only [P.tabL, aR, eB, a7, hW, nK] at hT
  rcases hT with rfl
  ·exact ⟨58, by kernel_rfl⟩
 case F =>
  intro w mg fa h KX G hmg
  refine' P.all_mk KX G hmg ?_ ?_ ?_ ?_ ?_ ?_ ?_ ?_ ?_ ?_ ?_ ?_ ?_ ?_ ?_ ?_ ?_ ?_ ?_ ?_ ?_ ?_ ?_ ?_ ?_ ?_ ?_ ?_ ?_ ?_ ?_ ?_ ?_ ?_ ?tc_firsts_of ?tk_firsts_of ?_ ?_ ?_ ?_ ?_ ?_ ?_ ?_ ?_ ?_ ?_ ?_ ?_ ?_ ?_ ?_
  any_goals (refine' L2.DefIn.mk ?a ?l ?c ?k; (case a => k_is); (case l => k_is); (case c => k_is); (case k => k_is))
  any_goals k_is
  (case tc_firsts_of => kernel_rfl)
  (case tk_firsts_of => kernel_rfl)
