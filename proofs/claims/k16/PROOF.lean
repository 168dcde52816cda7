import PyProof.Rows.All
import Wide.All
import OpenK.AllK
import Wide.FinOn
import Lean
import PyProof.EqAt
import PyProof.EqKinds
import PyProof.TupleCall
import PyProof.StrLawsIn
import PyProof.StationsW
import PyProof.NeData
import OpenK.KOwn
import PyProof.NsDelKeeps
import PyProof.ExcArgsOwn
import PyProof.ExcAttrAll.ValueError
import PyProof.IsiH_tuple
import KE.KIsAll
import PyProof.CollectStr
import PyProof.ZipIter
import PyProof.Rows.ZipGen
import PyProof.JoinWalk
import PyProof.CollectIter
import PyProof.EnumMake
import PyProof.SumAny
import PyProof.MeetsSeq3
import PyProof.ListRange
import PyProof.ListNew
import PyProof.DictUpdate
import PyProof.FitsBits
import PyProof.StrCalls6
import PySem.Challenge.RW_trunksay_k16_plain_going
set_option Elab.async false
set_option linter.all false
set_option maxRecDepth 100000
def af:=@PySem.wpAny_bind
def ak:=@List.getElem?_eq_some_iff
def al:=@List.prefix_refl
def aq:=@List.getElem?_eq_getElem
def ar:=@PySem.Heap.get?_push_of_some
def aw:=@Nat.le_refl
def ax:=@Nat.le_of_ble_eq_true
def ay:=@PySem.wpAny_pure
def az:=@decide_eq_false
def aB:=@decide_eq_true
def aC:=@List.length_map
def aE:=@if_pos
def aF:=@Nat.le_trans
def aG:=@List.getElem?_map
def aI:=@PySem.Heap.get?_push_size
def aK:=@PySem.Heap.lt_size
def aL:=@Nat.lt_of_lt_of_le
def aN:=@if_neg
def aQ:=@List.getD_eq_getElem?_getD
def aS:=@List.size_toArray
def aV:=@List.mem_singleton
def aY:=@List.mem_cons
def aZ:=@Nat.ne_of_lt
def a7:=@List.mem_append_right
def bb:=@List.append_assoc
def bc:=@Option.some.inj
def bh:=@List.map_cons
def bi:=@Nat.le_succ
def bj:=@List.mem_append
def bn:=@List.getElem?_eq_none
def bq:=@List.getElem?_append_left
def bu:=@decide_eq_true_iff
def bv:=@List.mem_cons_of_mem
def bw:=@Int.toNat_natCast
def bA:=@List.map_map
def bC:=@List.length_append
def bI:=@List.getElem?_set_self
def bJ:=@List.prefix_append
def bK:=@Option.map_eq_some_iff
def bQ:=@Nat.zero_le
def bS:=@List.length_take
def bT:=@List.pairwise_cons
def bU:=@List.getElem?_set_ne
def bY:=@beq_eq_false_iff_ne
def bZ:=@PySem.Heap.size_push
def b9:=@List.mem_of_getElem?
def ce:=@PySem.wpAny_newObj_type
def cf:=@Bool.eq_iff_iff
def cr:=@PySem.wpAny_callSpecial?_slot
def cy:=@Nat.lt_succ_self
def cC:=@PySem.wpAny_call_entry
def cD:=@Bool.and_eq_true
def cE:=@List.map_append
def cG:=@PySem.Heap.get?_update_other
def cH:=@List.length_range
def cI:=@PySem.Around.under_plainId
def cL:=@PySem.boot_len
def cP:=@Nat.lt_succ_of_lt
def cR:=@List.take_append_of_le_length
def cS:=@List.mem_map
def cT:=@PySem.codeAny_builtin
def cU:=@List.getElem?_take_of_lt
def cV:=@List.getElem?_range
def cZ:=@PyProof.Rows.callWith_type1
def c_:=@List.mem_cons_self
def da:=@Nat.lt_irrefl
def db:=@PySem.wpAny_holding
def de:=@PySem.wpAny_loadPart'
def df:=@List.find?_cons
def dk:=@List.take_of_length_le
def dm:=@List.getElem_mem
def dw:=@PySem.Heap.get?_update_self
def dy:=@List.length_filter_le
def dz:=@PySem.isSubtype_type
def dB:=@List.append_nil
def dC:=@PySem.Calls.spliced_cons
def dD:=@Nat.zero_testBit
def dE:=@Nat.pow_le_pow_right
def dM:=@PySem.wpAny_truthy_bool
def dN:=@Nat.zero_add
def dP:=@Array.length_toList
def dQ:=@List.map_congr_left
def dS:=@Bool.or_eq_true
def dU:=@PyProof.Rows.slot_tuple_getitem
def dW:=@Array.getElem?_eq_getElem
def d_:=@Bool.false_ne_true
def eh:=@Nat.lt_of_le_of_lt
def eD:=@beq_iff_eq
def eE:=@Nat.ne_of_gt
def eF:=@PySem.plainId_quiet
def eG:=@Int.zero_add
def eP:=@List.mem_range
def eQ:=@List.mem_append_left
def eR:=@PySem.wpAny_loadPart_at
def eW:=@PyProof.Rows.F.plain_set_update_loop
def eZ:=@List.length_eq_one_iff
def e_:=@List.length_cons
def fw:=@List.getElem?_append_right
def fx:=@PySem.F.slot_tuple_iterator_next
def fy:=@PySem.wpAny_setField_rec
def fA:=@Array.getElem?_toList
def fC:=@PySem.wpAny_passesOwn
def fI:=@Nat.le_of_lt
def fJ:=@PySem.Calls.spliced_nil
def fK:=@Bool.not_eq_true'
def fL:=@PySem.wpAny_setState_of
def fM:=@List.ext_getElem?
def fN:=@decide_eq_true_eq
def fO:=@Nat.testBit_eq_decide_div_mod_eq
def fU:=@List.filterMap_cons
def fV:=@PySem.wpAny_setEntries_of
def f9:=@Array.eq_empty_of_size_eq_zero
def f_:=@PySem.wpAny_isInstance
def gb:=@List.not_mem_nil
def gf:=@PySem.wpAny_field
def gg:=@List.eq_nil_of_length_eq_zero
def gl:=@Bool.false_eq_true
def gm:=@PySem.wpAny_Call_Name_kw
def gn:=@PySem.wpAny_typeOf
def gp:=@PySem.Calls.callWith_builtin
def gy:=@List.mem_filter
def gA:=@Bool.and_true
def gC:=@PySem.StrLaws.glued_eq_join
def gH:=@Nat.le_succ_of_le
def gI:=@of_decide_eq_true
def gO:=@PySem.Calls.evalArgs_plain
def gP:=@List.Perm.refl
def gQ:=@PySem.wpAny_nameGoes_keeps
def gR:=@PyProof.Rows.boot_tuple
def gT:=@List.getElem?_of_mem
def gW:=@List.length_drop
def gX:=@Nat.lt_or_ge
def gZ:=@List.drop_eq_getElem_cons
def hZ:=@PySem.Heap.SameBut.update
def h9:=@PyProof.Rows.F.entry_set_update_loop
def h_:=@PySem.wpAny_isSubtype_exc
def ic:=@List.filter_eq_self
def ir:=@congrArg
def iu:=@if_false
def iB:=@PySem.wpAny_execs_nil
def iC:=@List.nodup_cons
def iD:=@List.length_nil
def iE:=@PyProof.Rows.boot_isinstance
def iF:=@List.nil_append
def iG:=@Int.emod_nonneg
def iQ:=@PySem.wpAny_mono
def iR:=@PySem.wpAny_pyIter_tuple
def iS:=@List.lookup_append
def iT:=@Nat.not_lt
def iY:=@List.getElem?_replicate
def iZ:=@PySem.wpAny_pyNext_ascii_item
def jb:=@PySem.codeAny_mono
def jc:=@PySem.wpAny_pyNext_wide_item
def jd:=@Nat.lt_of_succ_lt_succ
def je:=@Nat.lt_trichotomy
def jf:=@Nat.testBit_lt_two_pow
def jp:=@PySem.builtinLookup_eq_fast
def jq:=@PySem.F.typeOf_object_class
def jv:=@PyProof.Rows.callWith_builtin1
def jw:=@List.lookup_cons
def jx:=@List.all_eq_true
def jy:=@List.take_length
def jz:=@List.filter_cons
def jC:=@if_true
def jD:=@Bool.true_and
def jE:=@PySem.wpAny_attempt
def jI:=@List.map_id
def jJ:=@PySem.codeAny_call_builtin
def jK:=@Nat.eq_of_testBit_eq
def jN:=@PySem.pushCells_keeps
def jO:=@List.length_set
def jP:=@PySem.F.args_tuple_iterator_next_1
def jQ:=@Nat.not_lt_zero
def jX:=@PySem.Value.isStrOf_shape
def j8:=@List.map_nil
def j9:=@PySem.F.entry_tuple_iterator_next
def j_:=@Array.getD_eq_getD_getElem?
def kE:=@PySem.Calls.Name_function_global
def kF:=@Bool.false_and
def kG:=@List.mem_filterMap
def kH:=@Int.fdiv_eq_ediv_of_nonneg
def kI:=@PySem.typeIs_str
def kJ:=@PySem.tupleKind_room_in1
def kK:=@PySem.wpAny_pyIter_ascii
def kL:=@PySem.wpAny_seqItems
def kM:=@PySem.wpAny_fieldsOf
def kN:=@List.take_left
def kO:=@List.contains_cons
def kP:=@Int.emod_lt_of_pos
def kQ:=@congrFun
def kR:=@Nat.eq_zero_or_pos
def kS:=@Nat.one_le_two_pow
def kX:=@PySem.Calls.call_function_entry
def kY:=@List.getElem?_eq_none_iff
def lj:=@PySem.sizeLine_eq
def ln:=@List.any_eq_false
def lr:=@PySem.wpAny_pyIter_wide
def lu:=@Array.toList_push
def lv:=@List.flatten_cons
def lD:=@List.mem_range'_1
def lE:=@Option.some.injEq
def lS:=@Bool.or_false
def lT:=@List.any_cons
def lU:=@Bool.false_or
def ma:=@PySem.noFill_tuple_add
def md:=@LawfulBEq.eq_of_beq
def me:=@Nat.le_add_right
def mf:=@PySem.wpAny_askSetting
def mh:=@List.any_eq_true
def mi:=@PyProof.Rows.boot_bool
def mj:=@Nat.le_mul_of_pos_right
def mL:=@PySem.wpAny_pyIter_rangeiter
def mM:=@PyProof.noPylong_small
def mO:=@PyProof.Rows.subscriptTail_builtinR
def mP:=@List.range_succ_eq_map
def mQ:=@List.drop_eq_nil_of_le
def mR:=@PySem.wpAny_Call_method_late
def mS:=@PySem.wpAny_rule
def mT:=@List.drop_of_length_le
def mU:=@PySem.wpAny_noteFrame_againW
def mV:=@Nat.mul_comm
def mW:=@Nat.le_mul_of_pos_left
def na:=@List.of_mem_zip
def ng:=@PySem.typeLookup_type
def nh:=@PySem.codeAny_of_tree
def ni:=@PySem.wpAny_specialOf
def nj:=@PySem.wpAny_ite_split
def nn:=@PySem.wpAny_updateSeq
def no:=@Int.natCast_mul
def nq:=@Nat.testBit_and
def nr:=@and_congr_right
def nv:=@PySem.wpAny_storeName_local
def ny:=@PySem.wpAny_isTrue_Compare1
def nz:=@List.length_replicate
def nA:=@List.length_singleton
def nB:=@PySem.F.slot_enumerate_next
def oy:=@PyProof.Rows.sorted_out_str
def oz:=@PySem.wpAny_of_eq
def oA:=@PySem.isSubtype_stop
def oB:=@PySem.wpAny_runValue
def oD:=@or_false
def oE:=@List.take_zero
def pK:=@PyProof.Rows.Constant_none
def pL:=@PySem.wpAny_standAt
def pM:=@PySem.seq_tuple_add
def pN:=@PyProof.Rows.strKind_oneLt
def pO:=@PySem.SeqAt.str_beq
def pP:=@Bool.not_true
def pQ:=@List.sum_cons
def qj:=@PyProof.Rows.boot_range
def qk:=@PySem.call_meets
def qU:=@PySem.concat_meets
def qV:=@PySem.seqIndex_neg
def qW:=@Bool.true_or
def qX:=@Nat.add_zero
def qY:=@PyProof.Rows.keyKind_strs
def qZ:=@PySem.wpAny_landsW
def q9:=@List.map_set
def q_:=@Nat.pow_succ
def re:=@exists_congr
def se:=@PySem.putSet_of
set_option compiler.extract_closed false
noncomputable section
open PySem.W (Frag)
open PySem.W (hideAll findIn kitOne kia_one fnOf codeIn keepIn excIn kitAny nsIn mg_of mg_none_of)
namespace L2
open PySem PySem.Spec PyProof.Rows
theorem we{M:Model}{Γ:PySem.Ctx}{p:Pos}{t:Sem Fin}{fs:List Frame}{s s':Shared}{e:End}(h:Runs M Γ p t fs s e s'):s.toks<=s'.toks:=by
 induction h
 case fresh ih=>exact aF (bi _) ih
 case call i1 i2=>exact aF i1 i2
 case resumeFresh i1 i2=>exact aF i1 i2
 case resumeSuspended i1 i2=>exact aF i1 i2
 case segRet i1 i2=>exact aF i1 i2
 case segGen i1 i2=>exact aF i1 i2
 case segSuspGen i1 i2=>exact aF i1 i2
 all_goals first|exact aw _|assumption
theorem DY{M:Model}{Γ:PySem.Ctx}{p:Pos}{g:Nat}{r:Resume}{s s':Shared}{res:GenResult}(h:Wakes M Γ p g r s res s'):s.toks<=s'.toks:=by
 unfold Wakes at h
 split at h
 ·exact h.elim
 ·split at h
  ·obtain⟨e,s1,h1,_,_,rfl⟩:=h;have q:=we h1;exact q
  ·rw[h.2];exact aw _
  ·rw[h.2];exact aw _
 ·obtain⟨e,s1,h1,_,_,rfl⟩:=h;have q:=we h1;exact q
 ·rw[h.2];exact aw _
 ·rw[h.2];exact aw _
theorem OE{α:Type}{M:Model}{Γ:PySem.Ctx}(n:Nat)(m:Sem α):∀{Q:α->Pos->Shared->Prop} {E:Value->Pos->Shared->Prop} {p:Pos} {s:Shared},n<=s.toks->Sem.wp M Γ m Q E p s ->
  Sem.wp M Γ m (fun a p' s'=>n<=s'.toks/\Q a p' s') (fun e p' s'=>n<=s'.toks/\E e p' s') p s:=by
 induction m
 all_goals intro Q E p s hn h
 all_goals (first|(rename_i ih)|skip)
 all_goals (try simp only[Sem.wp]at h ⊢)
 all_goals first
  |exact⟨hn,h⟩
  |exact ih _ hn h
  |exact ih _ (gH hn) h
  |(obtain⟨o,h1,h2⟩:=h;exact⟨o,h1,ih _ hn h2⟩)
  |exact⟨h.1,ih _ hn h.2⟩
  |(obtain⟨r,s',h1,h2⟩:=h;exact⟨r,s',h1,ih _ (aF hn (we h1)) h2⟩)
  |(obtain⟨r,s',h1,h2⟩:=h;exact⟨r,s',h1,ih _ (aF hn (DY h1)) h2⟩)
theorem up{α:Type}{M:Model}{A:Around}{m:Sem α}{Q:α->Shared->Prop}{E:Value->Shared->Prop}{s:Shared}(h:wpAny M A m (fun a s'=>s.toks<=s'.toks->Q a s') (fun e s'=>s.toks<=s'.toks->E e s') s):wpAny M A m Q E s:=fun Γ p hΓ=>
 Sem.wp_mono M Γ m (fun a p' s' h'=>h'.2 h'.1) (fun e p' s' h'=>h'.2 h'.1) p s (OE s.toks m (aw _) (h Γ p hΓ))
end L2
namespace L2
variable{nk:Nat}
open PySem PySem.Spec PyProof.Rows
abbrev jF:=Sum Int Str
def vd:jF->Value->Bool
 |.inl k,v=>Value.isInt k v
 |.inr x,v=>Value.isStrOf x v
def RI(w:World):jF->Int
 |.inl k=>hashInt k
 |.inr x=>hashStr w x
theorem fD:∀{k:jF} {v:Value},vd k v=true->(∃i t,k=Sum.inl i/\v=Value.int i t)\/(∃x t,k=Sum.inr x/\v=Value.str x t)
 |.inl i,v,h=>by
  obtain⟨t,e⟩:=Value.isInt_shape (k:=i) (v:=v) h
  exact .inl ⟨i,t,rfl,e⟩
 |.inr x,v,h=>by
  obtain⟨t,e⟩:=jX (x:=x) (v:=v) h
  exact .inr ⟨x,t,rfl,e⟩
theorem CQ(i:Int)(t:Tok):vd (.inl i) (.int i t)=true:=by simp[vd,Value.isInt]
theorem CT(x:Str)(t:Tok):vd (.inr x) (.str x t)=true:=by simp[vd,Value.isStrOf]
theorem Lo(a b:Int):decide ((Sum.inl a:jF)=Sum.inl b)=(a==b):=by
 by_cases e:a=b
 ·subst e;simp
 ·have h:¬ (Sum.inl a:jF)=Sum.inl b:=fun q=>e (Sum.inl.inj q)
  rw[az h]
  exact(bY.mpr e).symm
theorem Lp(a b:Str):decide ((Sum.inr a:jF)=Sum.inr b)=decide (a=b):=by
 by_cases e:a=b
 ·subst e;simp
 ·have h:¬ (Sum.inr a:jF)=Sum.inr b:=fun q=>e (Sum.inr.inj q)
  rw[az h,az e]
theorem Lq(a:Int)(b:Str):decide ((Sum.inl a:jF)=Sum.inr b)=false:=az (fun q=>nomatch q)
theorem Lr(a:Str)(b:Int):decide ((Sum.inr a:jF)=Sum.inl b)=false:=az (fun q=>nomatch q)
def fT(prog:Program)(w:World):PySem.KeyKind prog w jF where
 is:=vd
 hash:=RI w
 inj:=fun v a b ha hb=>by
  rcases fD ha with⟨i,t,rfl,rfl⟩|⟨x,t,rfl,rfl⟩
  ·rcases fD hb with⟨j,u,rfl,e⟩|⟨y,u,rfl,e⟩
   ·injection e with e1 _;rw[e1]
   ·exact nomatch e
  ·rcases fD hb with⟨j,u,rfl,e⟩|⟨y,u,rfl,e⟩
   ·exact nomatch e
   ·injection e with e1 _;rw[e1]
 byValue:=fun k v h=>by
  rcases fD h with⟨i,t,rfl,rfl⟩|⟨x,t,rfl,rfl⟩<;>rfl
 pyHash:=fun hv h=>by
  rcases fD hv with⟨i,t,rfl,rfl⟩|⟨x,t,rfl,rfl⟩
  ·exact wpAny_pyHash_int h
  ·exact wpAny_pyHash_str h
 eqBool:=fun hu hv h=>by
  rcases fD hu with⟨i,t,rfl,rfl⟩|⟨x,t,rfl,rfl⟩
  ·rcases fD hv with⟨j,u,rfl,rfl⟩|⟨y,u,rfl,rfl⟩
   ·rw[Lo]at h;exact wpAny_eqBool_int h
   ·rw[Lq]at h;exact SeqAt.EqAt.int_str i t y u _ _ _ _ h
  ·rcases fD hv with⟨j,u,rfl,rfl⟩|⟨y,u,rfl,rfl⟩
   ·rw[Lr]at h;exact SeqAt.EqAt.str_int x t j u _ _ _ _ h
   ·rw[Lp]at h;exact wpAny_eqBool_str h
 «strs»:=fun k x t v h=>by
  rcases fD h with⟨i,u,rfl,e⟩|⟨y,u,rfl,e⟩
  ·exact nomatch e
  ·injection e with e1 _
   subst e1
   cases v<;>rfl
theorem xM(prog:Program)(w:World)(i:Int)(t:Tok):(fT prog w).is (.inl i) (.int i t)=true:=CQ i t
theorem xN(prog:Program)(w:World)(x:Str)(t:Tok):(fT prog w).is (.inr x) (.str x t)=true:=CT x t
end L2
namespace L2
variable{nk:Nat}
open PySem PySem.Spec PyProof.Rows
inductive V where
 |non|bl (b:Bool)|int (i:Int)|str (x:Str)|byt (b:Array UInt8)|flt (b:UInt64)|ref (a:Addr)|ty (n:String)
 deriving DecidableEq
def Tk(n:Nat)(x:Str):Type:={ t:Tok // x.length=1->0<t/\t<n }
instance {n:Nat} {x:Str}:CoeOut (Tk n x) Tok:=⟨fun t=>t.1⟩
def Tk.up{n n':Nat}{x:Str}(h:n<=n')(t:Tk n x):Tk n' x:=⟨t.1,fun e=>⟨(t.2 e).1,aL (t.2 e).2 h⟩⟩
def cO(n:Nat):V->Value->Prop
 |.non,u=>u=Value.none
 |.bl b,u=>u=Value.bool b
 |.int i,u=>∃t,u=Value.int i t
 |.str x,u=>∃t:Tk n x,u=Value.str x t.1
 |.byt b,u=>∃t,u=Value.bytes b t
 |.flt b,u=>∃t,u=Value.float b t
 |.ref a,u=>u=Value.ref a
 |.ty n,u=>u=Value.type n
theorem cO.up{n n':Nat}(h:n<=n'){v:V}{u:Value}(r:cO n v u):cO n' v u:=by
 cases v with
 |str x=>obtain⟨t,e⟩:=r;exact⟨t.up h,e⟩
 |_=>exact r
abbrev cJ(n:Nat):List V->List Value->Prop:=Paired (cO n)
theorem cJ.up{n n':Nat}(h:n<=n'):∀{xs:List V} {us:List Value},cJ n xs us->cJ n' xs us
 |_,_,.nil=>.nil
 |_,_,.cons r t=>.cons (r.up h) (cJ.up h t)
theorem cJ.length{xs:List V}{us:List Value}(r:cJ nk xs us):xs.length=us.length:=Paired.length r
theorem cJ.get:∀{xs:List V} {us:List Value} {i:Nat} {x:V},cJ nk xs us->xs[i]?=some x->∃u,us[i]?=some u/\cO nk x u
 |_,_,_,_,.nil,e=>by simp at e
 |_,_,0,_,.cons r _,e=>by simp at e;subst e;exact⟨_,rfl,r⟩
 |_,_,i+1,x,.cons _ t,e=>by
  obtain⟨u,h1,h2⟩:=cJ.get (i:=i) (x:=x) t (by simpa using e)
  exact⟨u,by simpa using h1,h2⟩
theorem cJ.set{x:V}{u:Value}(r:cO nk x u):∀{xs:List V} {us:List Value} (i:Nat),cJ nk xs us->cJ nk (xs.set i x) (us.set i u)
 |_,_,_,.nil=>.nil
 |_,_,0,.cons _ t=>.cons r t
 |_,_,i+1,.cons q t=>.cons q (cJ.set r i t)
theorem cJ.append:∀{xs ys:List V} {us ws:List Value},cJ nk xs us->cJ nk ys ws->cJ nk (xs++ys) (us++ws)
 |_,_,_,_,.nil,s=>s
 |_,_,_,_,.cons r t,s=>.cons r (cJ.append t s)
theorem cJ.take:∀{xs:List V} {us:List Value} (n:Nat),cJ nk xs us->cJ nk (xs.take n) (us.take n)
 |_,_,0,_=>.nil
 |_,_,_+1,.nil=>.nil
 |_,_,n+1,.cons r t=>.cons r (cJ.take n t)
theorem cJ.drop:∀{xs:List V} {us:List Value} (n:Nat),cJ nk xs us->cJ nk (xs.drop n) (us.drop n)
 |_,_,0,r=>r
 |_,_,_+1,.nil=>.nil
 |_,_,n+1,.cons _ t=>cJ.drop n t
def sO(n:Nat):Option V->Option Value->Prop
 |some v,some u=>cO n v u
 |none,none=>True
 |_,_=>False
theorem sO.up{n n':Nat}(h:n<=n'):∀{o:Option V} {u:Option Value},sO n o u->sO n' o u
 |some _,some _,r=>cO.up h r
 |none,none,_=>trivial
 |none,some _,r=>r
 |some _,none,r=>r
def KV{κ:Type}(n:Nat):List (κ×V)->List (κ×Value)->Prop:=Paired fun(p:κ×V) (q:κ×Value)=>p.1=q.1/\cO n p.2 q.2
def kV:jF->V
 |.inl i=>.int i
 |.inr x=>.str x
inductive HO where
 /-- a list -/
 |lst (xs:List V)
 /-- a tuple (never changes) -/
 |tup (xs:List V)
 /-- a dict whose keys are ints and texts;one whose keys are tuples of ints and texts (the empty one is both) -/
 |dK (kvs:List (jF×V))|dT (kvs:List (List jF×V))
 /-- a set of ints: bN members,bN size -/
 |set (S:Int->Bool) (n:Nat)
 /-- an instance of the class at C,bN dict at dx,bN attributes -/
 |ins (C dx:Addr) (fs:List (Str×V))
 /-- the dict of the instance at x -/
 |own (x:Addr)
 /-- the dict of an exception -/
 |xd (fs:List (Str×V))
 /-- a bound method,f of x -/
 |met (f x:Addr)
 /-- a range object lo,lo+1,.. below hi -/
 |rng (lo hi:Int)
 /-- a thing that is known to the object (the script;a dict while a loop walks it): read,never written while it is so -/
 |frz (o:Obj) (u:HO)
 /-- a code object's table -/
 |tbl (ps:Array Value)
 /-- any other thing,by what is true of bN one object (a def of TB own: SetO a S n:=HO.ext fun h=>..) -/
 |ext (φ:Heap->Prop)
abbrev Hp:=Addr->Option HO
def eT(H:Hp)(a:Addr)(o:HO):Hp:=fun b=>if b=a then some o else H b
theorem gq{H:Hp}{a:Addr}{o:HO}:eT H a o a=some o:=by unfold eT;rw[aE rfl]
theorem cW{H:Hp}{a b:Addr}{o:HO}(h:b≠a):eT H a o b=H b:=by unfold eT;rw[aN h]
theorem OF{H:Hp}{a b:Addr}{o u:HO}(h:H a=some o)(h':H b=some u)(d:o≠u):a≠b:=by
 intro e;subst e;rw[h]at h';exact d (bc h')
theorem fg{H:Hp}{a b:Addr}{o:HO}(h:H a=some o)(h':H b=none):a≠b:=by
 intro e;subst e;rw[h]at h';cases h'
section
variable(P:Program)(w:World)
def eJ(n:Nat)(H:Hp)(h:Heap)(a:Addr):HO->Prop
 |.lst xs=>xs.length<=sizeLine/\∃(bN:List Value) (m:Nat),cJ n xs bN/\h.get? a=some { cls:=.type "list",data:=.seq bN.toArray m }
 |.tup xs=>xs.length<=sizeLine/\∃bN:List Value,cJ n xs bN/\IsTup h a bN.toArray
 |.dK kvs=>kvs.length<=sizeLine/\(a==sysModules)=false/\∃vs,KV n kvs vs/\h.DictOf (fT P w) a vs
 |.dT kvs=>kvs.length<=sizeLine/\(a==sysModules)=false/\∃xs:List (List jF×Addr×Value),
   Paired (fun(p:List jF×V) (q:List jF×Addr×Value)=>p.1=q.1/\H q.2.1=some (.tup (p.1.map kV))/\cO n p.2 q.2.2) kvs xs /\
   ∃o es ep,h.get? a=some o/\o.ExactDict/\o.data=.dict es ep/\es.toList=xs.map (entryOfKey (tupleKind (fT P w)))/\(xs.map (·.1)).Nodup
 |.set S m=>h.SetOf (intKind P w) a S m
 |.ins C dx fs=>H dx=some (.own a)/\fs.length<=1000/\dx≠a/\h.get? a=some (PySem.W.instObj C dx) /\
   ∃mA,h.Ns1 dx mA/\(∀f,sO n (fs.lookup f) (mA f))/\PySem.Within mA (fs.map (·.1))
 |.own _=>∃o,h.get? a=some o
 |.xd fs=>∃mA,h.Ns1 a mA/\∀f,sO n (fs.lookup f) (mA f)
 |.rng lo hi=>∃t u v,h.get? a=some { cls:=.type "range",data:=.fields #[.int lo t,.int hi u,.int 1 v] }
 |.frz o u=>h.get? a=some o/\eJ n H h a u
 |.tbl ps=>h.get? a=some { cls:=.none,data:=.fields ps }
 |.met f x=>h.get? a=some (PySem.W.methodObj (.ref f) (.ref x))
 |.ext φ=>φ h/\(∃o,h.get? a=some o)/\∀h1 h2:Heap,φ h1->(∀o,h1.get? a=some o->h2.get? a=some o)->φ h2
def oF(n:Nat)(H:Hp)(h:Heap):Prop:=∀a o,H a=some o->eJ P w n H h a o
end
section
variable{P:Program}{w:World}{H H':Hp}{h h':Heap}{a:Addr}{o:HO}
theorem eJ.lt(x:eJ P w nk H h a o):a<h.objs.size:=by
 cases o with
 |lst xs=>obtain⟨_,_,_,_,e⟩:=x;exact aK e
 |tup xs=>obtain⟨_,_,_,p⟩:=x;exact p.lt
 |dK kvs=>obtain⟨_,_,_,_,o,_,_,e,_⟩:=x;exact aK e
 |dT kvs=>obtain⟨_,_,_,_,o,_,_,e,_⟩:=x;exact aK e
 |set S n=>obtain⟨o,_,_,_,e,_⟩:=x;exact aK e
 |ins C dx fs=>obtain⟨_,_,_,e,_⟩:=x;exact aK e
 |own y=>obtain⟨_,e⟩:=x;exact aK e
 |xd fs=>obtain⟨_,⟨_,_,_,e,_⟩,_⟩:=x;exact aK e
 |rng lo hi=>obtain⟨_,_,_,e⟩:=x;exact aK e
 |frz ob u=>obtain⟨e,_⟩:=x;exact aK e
 |tbl ps=>exact aK (show h.get? a=some _ from x)
 |met f y=>exact aK (show h.get? a=some _ from x)
 |ext φ=>obtain⟨_,⟨_,e⟩,_⟩:=x;exact aK e
theorem Paired.mapP{α β:Type}{F G:α->β->Prop}:∀{l₁:List α} {l₂:List β},Paired F l₁ l₂->(∀a b,F a b->G a b)->Paired G l₁ l₂
 |_,_,.nil,_=>.nil
 |_,_,.cons r t,f=>.cons (f _ _ r) (Paired.mapP t f)
theorem Paired.imp'{α β:Type}{F G:α->β->Prop}(f:∀a b,F a b->G a b){l₁:List α}{l₂:List β}(r:Paired F l₁ l₂):Paired G l₁ l₂:=Paired.mapP r f
theorem eJ.stay(x:eJ P w nk H h a o)(k:∀b u,(b=a\/H b=some (.own a))->h.get? b=some u->h'.get? b=some u)
  (ho:∀b,H b=some (.own a)->H' b=some (.own a)) (ht:∀b xs,H b=some (.tup xs)->H' b=some (.tup xs)):eJ P w nk H' h' a o:=by
 induction o with
 |lst xs=>obtain⟨z,bN,n,r,e⟩:=x;exact⟨z,bN,n,r,k _ _ (.inl rfl) e⟩
 |tup xs=>obtain⟨z,bN,r,ob,e,c⟩:=x;exact⟨z,bN,r,ob,k _ _ (.inl rfl) e,c⟩
 |dK kvs=>obtain⟨z,y,vs,r,ob,es,ep,e,c⟩:=x;exact⟨z,y,vs,r,ob,es,ep,k _ _ (.inl rfl) e,c⟩
 |dT kvs=>
  obtain⟨z,y,xs,r,ob,es,ep,e,c⟩:=x
  exact⟨z,y,xs,Paired.mapP r fun p q z=>⟨z.1,ht _ _ z.2.1,z.2.2⟩,ob,es,ep,k _ _ (.inl rfl) e,c⟩
 |set S n=>obtain⟨ob,es,ep,t,e,c⟩:=x;exact⟨ob,es,ep,t,k _ _ (.inl rfl) e,c⟩
 |ins C dx fs=>
  obtain⟨d,z,ne,e,mA,⟨od,es,ep,e2,c⟩,r⟩:=x
  exact⟨ho _ d,z,ne,k _ _ (.inl rfl) e,mA,⟨od,es,ep,k _ _ (.inr d) e2,c⟩,r⟩
 |own y=>obtain⟨ob,e⟩:=x;exact⟨ob,k _ _ (.inl rfl) e⟩
 |xd fs=>obtain⟨mA,⟨od,es,ep,e,c⟩,r⟩:=x;exact⟨mA,⟨od,es,ep,k _ _ (.inl rfl) e,c⟩,r⟩
 |rng lo hi=>obtain⟨t,u,v,e⟩:=x;exact⟨t,u,v,k _ _ (.inl rfl) e⟩
 |frz ob u ih=>obtain⟨e,q⟩:=x;exact⟨k _ _ (.inl rfl) e,ih q⟩
 |tbl ps=>
  have e:h.get? a=some { cls:=.none,data:=.fields ps }:=x
  show h'.get? a=some { cls:=.none,data:=.fields ps }
  exact k a _ (.inl rfl) e
 |met f y=>
  have e:h.get? a=some (PySem.W.methodObj (.ref f) (.ref y)):=x
  show h'.get? a=some (PySem.W.methodObj (.ref f) (.ref y))
  exact k a _ (.inl rfl) e
 |ext φ=>obtain⟨p,⟨o,e⟩,st⟩:=x;exact⟨st _ _ p fun o q=>k _ _ (.inl rfl) q,⟨o,k _ _ (.inl rfl) e⟩,st⟩
theorem Paired.upR{n n':Nat}(h:n<=n'){κ:Type}{l₁:List (κ×V)}{l₂:List (κ×Value)}(r:KV n l₁ l₂):KV n' l₁ l₂:=Paired.mapP r fun _ _ z=>⟨z.1,z.2.up h⟩
theorem eJ.up{n':Nat}(hn:nk<=n')(x:eJ P w nk H h a o):eJ P w n' H h a o:=by
 induction o with
 |lst xs=>obtain⟨z,bN,n,r,e⟩:=x;exact⟨z,bN,n,r.up hn,e⟩
 |tup xs=>obtain⟨z,bN,r,ob⟩:=x;exact⟨z,bN,r.up hn,ob⟩
 |dK kvs=>obtain⟨z,y,vs,r,ob⟩:=x;exact⟨z,y,vs,Paired.upR hn r,ob⟩
 |dT kvs=>obtain⟨z,y,xs,r,ob⟩:=x;exact⟨z,y,xs,Paired.mapP r fun p q z=>⟨z.1,z.2.1,z.2.2.up hn⟩,ob⟩
 |ins C dx fs=>obtain⟨d,z,ne,e,mA,c,r,q⟩:=x;exact⟨d,z,ne,e,mA,c,fun f=>(r f).up hn,q⟩
 |xd fs=>obtain⟨mA,c,r⟩:=x;exact⟨mA,c,fun f=>(r f).up hn⟩
 |frz ob u ih=>obtain⟨e,q⟩:=x;exact⟨e,ih q⟩
 |_=>exact x
theorem oF.up{n':Nat}(hn:nk<=n')(x:oF P w nk H h):oF P w n' H h:=fun a o e=>(x a o e).up hn
theorem oF.lt(x:oF P w nk H h)(e:H a=some o):a<h.objs.size:=(x a o e).lt
theorem oF.fresh(x:oF P w nk H h)(e:h.objs.size<=a):H a=none:=by
 cases q:H a with
 |none=>rfl
 |some u=>exact absurd (aL (x.lt q) e) (da _)
theorem oF.kept(x:oF P w nk H h)(k:∀b u,h.get? b=some u->h'.get? b=some u):oF P w nk H h':=fun a o e=>
 (x a o e).stay (fun b u _ q=>k b u q) (fun _ q=>q) fun _ _ q=>q
theorem oF.laid(x:oF P w nk H h)(k:∀b u,h.get? b=some u->h'.get? b=some u)(hp:h.objs.size<=a)(new:eJ P w nk (eT H a o) h' a o):oF P w nk (eT H a o) h':=fun b u e=>by
 have hn:=x.fresh hp
 by_cases hb:b=a
 ·subst hb;rw[gq]at e;cases e;exact new
 ·rw[cW hb]at e
  exact(x b u e).stay (fun c v _ q=>k c v q) (fun c q=>by rw[cW (fg q hn)];exact q) fun c xs q=>by rw[cW (fg q hn)];exact q
end
def Rd(H:Hp)(a:Addr)(u:HO):Prop:=H a=some u\/∃o,H a=some (.frz o u)
theorem Rd.ok{P:Program}{w:World}{H:Hp}{h:Heap}{a:Addr}{u:HO}(r:Rd H a u)(x:oF P w nk H h):eJ P w nk H h a u:=by
 rcases r with r|⟨o,r⟩
 ·exact x a u r
 ·obtain⟨_,q⟩:=x a _ r
  exact q
def OG:Option HO->Prop
 |some (.lst _)=>True
 |some (.dK _)=>True
 |some (.dT _)=>True
 |some (.set _ _)=>True
 |some (.ins _ _ _)=>True
 |some (.ext _)=>True
 |_=>False
section
variable{P:Program}{w:World}{H:Hp}{h h':Heap}{x e:Addr}{o':HO}
theorem oF.write(ok:oF P w nk H h)(mu:OG (H x))(he:e=x\/H e=some (.own x))(k:∀b u,b≠e->h.get? b=some u->h'.get? b=some u)(HZ:∃u,h'.get? e=some u)
  (new:eJ P w nk (eT H x o') h' x o'):oF P w nk (eT H x o') h':=fun b u q=>by
 have nown:∀c y,H c=some (.own y)->c≠x:=fun c y r z=>by subst z;rw[r]at mu;exact mu
 have ntup:∀c xs,H c=some (.tup xs)->c≠x:=fun c xs r z=>by subst z;rw[r]at mu;exact mu
 by_cases hb:b=x
 ·subst hb;rw[gq]at q;cases q;exact new
 ·rw[cW hb]at q
  by_cases hbe:b=e
  ·have q':H b=some (.own x):=by
    rcases he with z|z
    ·exact absurd (hbe.trans z) hb
    ·rw[hbe];exact z
   rw[q]at q';cases q'
   obtain⟨v,hv⟩:=HZ
   exact⟨v,by rw[hbe];exact hv⟩
  ·refine(ok b u q).stay (fun c v hc r=>k c v ?_ r) (fun c r=>by rw[cW (nown c b r)];exact r) fun c xs r=>by rw[cW (ntup c xs r)];exact r
   rcases hc with rfl|hc
   ·exact hbe
   ·rintro rfl
    rcases he with z|z
    ·exact nown c b hc z
    ·rw[hc]at z;cases z;exact hb rfl
end
structure Un(fs ex:List Addr)(H H':Hp)(h h':Heap):Prop where
 keep:∀b o,h.get? b=some o->H b=none->b∉fs->b∉ex->h'.get? b=some o
 slot:∀b o,h.get? b=some o->H b=none->b∈fs->b∉ex->∃sl,h'.get? b=some { o with slots:=sl }
 free:∀b o,h.get? b=some o->H b=none->b∉ex->H' b=none
 there:∀b o,h.get? b=some o->b∉ex->∃o',h'.get? b=some o'
 tups:∀b xs,H b=some (.tup xs)->H' b=some (.tup xs)
 frzs:∀b o u,H b=some (.frz o u)->H' b=some (.frz o u)
 tbls:∀b ps,H b=some (.tbl ps)->∃xI,H' b=some (.tbl (ps++xI))
section
variable{fs T7 ex Ug:List Addr}{H H1 H2:Hp}{h h1 h2 h':Heap}{a x e:Addr}{o:HO}
theorem Un.any(u:Un fs ex H H1 h h1){b:Addr}{ob:Obj}(q:h.get? b=some ob)(n:H b=none)(hx:b∉ex):∃sl,h1.get? b=some { ob with slots:=sl }:=by
 by_cases hb:b∈fs
 ·exact u.slot b ob q n hb hx
 ·exact⟨ob.slots,u.keep b ob q n hb hx⟩
theorem Un.kept(k:∀b u,h.get? b=some u->h'.get? b=some u):Un fs ex H H h h':=
 ⟨fun b ob q _ _ _=>k b ob q,fun b ob q _ _ _=>⟨ob.slots,k b ob q⟩,fun _ _ _ n _=>n,fun b ob q _=>⟨ob,k b ob q⟩,fun _ _ q=>q,fun _ _ _ q=>q,fun _ ps q=>⟨#[],by rw[q];simp⟩⟩
theorem Un.refl:Un fs ex H H h h:=Un.kept fun _ _ q=>q
theorem Un.laid(k:∀b u,h.get? b=some u->h'.get? b=some u)(hp:h.objs.size<=a)(hn:H a=none):Un fs ex H (eT H a o) h h' where
 keep:=fun b u q _ _ _=>k b u q
 slot:=fun b u q _ _ _=>⟨u.slots,k b u q⟩
 free:=fun b u q n _=>by rw[cW (aZ (aL (aK q) hp))];exact n
 there:=fun b u q _=>⟨u,k b u q⟩
 tups:=fun b xs q=>by rw[cW (fg q hn)];exact q
 frzs:=fun b u xs q=>by rw[cW (fg q hn)];exact q
 tbls:=fun b ps q=>⟨#[],by rw[cW (fg q hn),q];simp⟩
theorem Un.write(mu:OG (H x))(he:e=x\/H e=some (.own x))(k:∀b u,b≠e->h.get? b=some u->h'.get? b=some u)(HZ:∃u,h'.get? e=some u):Un fs ex H (eT H x o) h h':=by
 have hx:∀b,H b=none->b≠x:=fun b n z=>by subst z;rw[n]at mu;exact mu
 have hb:∀b,H b=none->b≠e:=fun b n z=>by
  subst z
  rcases he with r|r
  ·exact hx b n r
  ·rw[n]at r;cases r
 have hm:∀b u,H b=some u->¬ OG (some u)->b≠x:=fun b u q nm z=>by subst z;rw[q]at mu;exact nm mu
 refine⟨fun b u q n _ _=>k b u (hb b n) q,fun b u q n _ _=>⟨u.slots,k b u (hb b n) q⟩,fun b u q n _=>by rw[cW (hx b n)];exact n,fun b u q _=>?_,
  fun b xs q=>by rw[cW (hm b _ q fun z=>z)];exact q,fun b u xs q=>by rw[cW (hm b _ q fun z=>z)];exact q,fun b ps q=>⟨#[],by rw[cW (hm b _ q fun z=>z),q];simp⟩⟩
 by_cases hbe:b=e
 ·subst hbe;exact HZ
 ·exact⟨u,k b u hbe q⟩
end
def Rt(h:Heap)(H:Hp):List Addr:=(List.range h.objs.size).filter fun a=>(H a).isSome
def wf(h:Heap)(H:Hp):Heap:=hideAll h (Rt h H)
theorem CU(h:Heap)(H:Hp):(wf h H).objs.size=h.objs.size:=PySem.W.hideAll_size _ _
theorem DZ{h:Heap}{H:Hp}{b:Addr}{o:Obj}(e:h.get? b=some o)(n:H b=none):(wf h H).get? b=some o:=
 PySem.W.hideAll_get _ e fun hm=>by
  have q:(H b).isSome=true:=(gy.mp hm).2
  rw[n]at q;simp at q
theorem Ia{h:Heap}{H:Hp}{b:Addr}{o:Obj}(e:(wf h H).get? b=some o):h.get? b=some o/\H b=none:=by
 have e':h.get? b=some o:=PySem.W.of_hideAll (Rt h H) e
 refine⟨e',?_⟩
 cases q:H b with
 |none=>rfl
 |some x=>
  have hm:b∈Rt h H:=gy.mpr ⟨eP.mpr (aK e'),by simp[q]⟩
  have z:(wf h H).get? b=none:=PySem.W.hideAll_none (Rt h H) hm
  rw[z]at e;cases e
def Ib(g h:Heap)(L:Addr):List (Addr×Obj):=(List.range h.objs.size).filterMap fun a=>if a=L\/(g.get? a).isSome=true then none else(h.get? a).map fun o=>(a,o)
def fP(g h:Heap)(L d:Addr):List (Addr×Obj):=(Ib g h L).filter fun p=>decide (p.1≠d)
end L2
namespace L2
variable{nk:Nat}
open PySem PySem.Spec PyProof.Rows
structure Mod(K:Frag)(mg:Str->Option Value)(base:Heap):Prop where
 kin:K.In base
 glob:base.Ns mainGlobals mg
 blt:∃mb,base.Ns builtinsNs mb/\∀x:Str,x ≠ "__name__"->mb x=bootBuiltins x
 nolimit:base.NoLimit
structure Cx where
 prog:Program
 w:World
 K:Frag
 mg:Str->Option Value
 base:Heap
 A:Around
 N:List Str
 s₀:Shared
 H₀:Hp
 env:Env
 outer:List Env
 stack:List Env
 ex:List Addr
 fn:Str->Bool
 calm:Bool
 pn:List (Addr×Obj)
 xe:Value->Shared->Prop
def qo(l:List Env):List Addr:=l.filterMap (·.frame)
abbrev Cx.fs(X:Cx):List Addr:=qo X.outer
def OH(sc:Scope)(x:Str):Prop:=sc.names.lookup x=some .local\/sc.names.lookup x=some .cell\/sc.names.lookup x=some .free
def HP(sc:Scope)(x:Str):Prop:=sc.names.lookup x=some .local\/sc.names.lookup x=some .cell
def RJ(env:Env)(h:Heap)(m:Str->Option Value)(x:Str)(u:Value):Prop:=
 (env.kindOf x=some .local/\m x=some u)\/((env.kindOf x=some .cell\/env.kindOf x=some .free)/\∃c,env.cells.lookup x=some c/\h.IsCell c (some u))
structure Cx.Ok(X:Cx):Prop where
 mod:Mod X.K X.mg X.base
 kind:X.env.scope.kind=.function
 glob:X.env.globals=mainGlobals
 blt:X.env.builtins=builtinsNs
 above:X.s₀.heap.objs.size<=X.env.locals
 inj:∀x y c,X.env.cells.lookup x=some c->X.env.cells.lookup y=some c->x=y
 has:∀x,(X.env.kindOf x=some .cell\/X.env.kindOf x=some .free)->∃c,X.env.cells.lookup x=some c
 cab:∀x c,X.fn x=true->X.env.cells.lookup x=some c->X.s₀.heap.objs.size<=c
 hd:X.calm=true->X.A.handled=none
 frames:X.A.frames=some X.stack
 stk:X.stack=X.outer\/(X.stack=X.env::X.outer/\X.env.frame=some X.env.locals)
 exf:∀b∈X.ex,b≠X.env.locals/\∀x c,X.env.cells.lookup x=some c->c≠b
 bs:∀b o,X.base.get? b=some o->X.s₀.heap.get? b=some o/\X.H₀ b=none
 bsz:X.base.objs.size<=X.s₀.heap.objs.size
 noex:∀b o,X.base.get? b=some o->b∉X.ex
 exfs:∀b∈X.ex,b∉X.fs
 funs:X.s₀.heap.FunFrames X.base X.outer
 frf:∀b∈X.fs,X.H₀ b=none
structure bF(X:Cx)(aj:List (Addr×Obj))(σ:List (Option V))(H:Hp)(s:Shared):Prop where
 ok:X.Ok
 os:s.os=X.s₀.os
 bare:AllBare s.gens
 base:Un X.fs X.ex X.H₀ H X.s₀.heap s.heap
 loc:∃m,s.heap.Ns X.env.locals m/\∀(i:Nat) (x:Str) (v:V),X.N[i]?=some x->σ[i]?=some (some v)->OH X.env.scope x->∃u,cO s.toks v u/\RJ X.env s.heap m x u
 cell:∀x c,X.env.cells.lookup x=some c->∃v,s.heap.IsCell c v
 free:H X.env.locals=none
 freeC:∀x c,X.env.cells.lookup x=some c->H c=none
 pin:∀p∈X.pn++aj,s.heap.get? p.1=some p.2/\H p.1=none/\p.1≠X.env.locals/\p.1∉X.fs/\∀v,p.2.data≠.cell v
 hok:oF X.prog X.w s.toks H s.heap
 len:σ.length=X.N.length
 pos:0<s.toks
 tk:X.s₀.toks<=s.toks
section
variable{X:Cx}{aj:List (Addr×Obj)}{σ:List (Option V)}{H H':Hp}{s:Shared}{h':Heap}
theorem Cx.Ok.nofr(ok:X.Ok){b:Addr}{o:Obj}(e:X.base.get? b=some o):b∉X.fs:=fun hb=>by
 have:=(ok.funs.mem hb).1
 rw[e]at this;cases this
theorem bF.bs(I:bF X aj σ H s):∀b o,X.base.get? b=some o->s.heap.get? b=some o/\H b=none:=fun b o e=>
 ⟨I.base.keep b o (I.ok.bs b o e).1 (I.ok.bs b o e).2 (I.ok.nofr e) (I.ok.noex b o e),I.base.free b o (I.ok.bs b o e).1 (I.ok.bs b o e).2 (I.ok.noex b o e)⟩
theorem bF.bk(I:bF X aj σ H s):∀b o,X.base.get? b=some o->s.heap.get? b=some o:=fun b o e=>(I.bs b o e).1
theorem bF.mod(I:bF X aj σ H s):Mod X.K X.mg X.base:=I.ok.mod
theorem bF.kIn(I:bF X aj σ H s):X.K.In s.heap:=I.ok.mod.kin.keeps I.bk
theorem bF.lt(I:bF X aj σ H s):X.env.locals<s.heap.objs.size:=let ⟨_,hn,_⟩:=I.loc;hn.lt
theorem bF.sz(I:bF X aj σ H s):X.s₀.heap.objs.size<=s.heap.objs.size:=aF I.ok.above (fI I.lt)
theorem bF.nofs(I:bF X aj σ H s){a:Addr}(h:s.heap.objs.size<=a):a∉X.fs:=fun hb=>by
 obtain⟨_,o,ho,_⟩:=I.ok.funs.mem hb
 exact absurd (aL (aK ho) (aF I.sz h)) (da _)
theorem bF.cne(I:bF X aj σ H s):∀x c,X.env.cells.lookup x=some c->c≠X.env.locals:=fun x c e z=>by
 obtain⟨v,o,ho,hd⟩:=I.cell x c e
 obtain⟨m,⟨o',es,ep,sN,hd',_⟩,_⟩:=I.loc
 rw[z,sN]at ho;cases ho;rw[hd']at hd;cases hd
theorem bF.funs(I:bF X aj σ H s):s.heap.FunFrames X.base X.outer:=by
 have all:∀(l:List Env),(∀b∈qo l,b∈X.fs)->X.s₀.heap.FunFrames X.base l->s.heap.FunFrames X.base l:=by
  intro l
  induction l with
  |nil=>intro _ _;trivial
  |cons env r ih=>
   intro hs hl
   obtain⟨hk,⟨L,o,hf,hn,ho,hd⟩,hr⟩:=hl
   have hL:L∈X.fs:=hs L (by unfold qo;rw[fU,hf];exact c_)
   obtain⟨sl,e⟩:=I.base.slot L o ho (I.ok.frf L hL) hL fun z=>I.ok.exfs L z hL
   exact⟨hk,⟨L,_,hf,hn,e,hd⟩,ih (fun b hb=>hs b (by unfold qo;rw[fU,hf];exact bv _ hb)) hr⟩
 exact all X.outer (fun _ hb=>hb) I.ok.funs
theorem bF.stack(I:bF X aj σ H s):s.heap.FunFrames X.base X.stack:=by
 rcases I.ok.stk with e|⟨e,hf⟩
 ·rw[e];exact I.funs
 ·rw[e]
  obtain⟨m,hn,_⟩:=I.loc
  refine .cons (by rw[I.ok.kind];decide) hf hn ?_ I.funs
  exact Heap.get?_none_of_le (aF I.ok.bsz I.ok.above)
theorem bF.stkSub(I:bF X aj σ H s):∀b∈qo X.stack,b∈X.env.locals::X.fs:=fun b hb=>by
 rcases I.ok.stk with e|⟨e,hf⟩
 ·rw[e]at hb;exact bv _ hb
 ·rw[e]at hb
  unfold qo at hb
  rw[fU,hf]at hb
  exact hb
theorem bF.stkFree(I:bF X aj σ H s):∀b∈qo X.stack,H b=none:=fun b hb=>by
 rcases aY.mp (I.stkSub b hb)with e|hb
 ·rw[e];exact I.free
 ·obtain⟨_,o,ho,_⟩:=I.ok.funs.mem hb
  exact I.base.free b o ho (I.ok.frf b hb) fun z=>I.ok.exfs b z hb
theorem bF.step{g':Array GenState}{t':Nat}{d':Drawn}{ch:List Addr}(I:bF X aj σ H s)
  (oY:∀b∈ch,(b∈X.ex\/X.s₀.heap.objs.size<=b)/\b≠X.env.locals/\(∀x c,X.env.cells.lookup x=some c->c≠b)/\∀p∈X.pn++aj,p.1≠b)
  (keep:∀b o,b≠X.env.locals->b∉X.fs->b∉ch->s.heap.get? b=some o->H b=none->h'.get? b=some o)
  (slot:∀b o,b≠X.env.locals->b∈X.fs->b∉ch->s.heap.get? b=some o->H b=none->∃sl,h'.get? b=some { o with slots:=sl }) (free:∀b o,b∉ch->s.heap.get? b=some o->H b=none->H' b=none)
  (there:∀b o,b∉ch->s.heap.get? b=some o->∃o',h'.get? b=some o')
  (tups:∀b xs,H b=some (.tup xs)->H' b=some (.tup xs)) (frzs:∀b o u,H b=some (.frz o u)->H' b=some (.frz o u)) (tbls:∀b ps,H b=some (.tbl ps)->∃xI,H' b=some (.tbl (ps++xI)))
  (ns:∀m,s.heap.Ns X.env.locals m->h'.Ns X.env.locals m) (hok:oF X.prog X.w t' H' h') (hg:AllBare g') (hk:s.toks<=t') :
  bF X aj σ H' { s with heap:=h',gens:=g',drawn:=d',toks:=t' }:=by
 have neL:∀b o,X.s₀.heap.get? b=some o->b≠X.env.locals:=fun b o e=>aZ (aL (aK e) I.ok.above)
 have neC:∀b o,X.s₀.heap.get? b=some o->b∉X.ex->b∉ch:=fun b o e hx hb=>by
  rcases(oY b hb).1 with z|z
  ·exact hx z
  ·exact absurd (aL (aK e) z) (da _)
 have cellK:∀x c,X.env.cells.lookup x=some c->∀v,s.heap.IsCell c v->h'.IsCell c v:=fun x c e v ⟨o,ho,hd⟩=>by
  have nch:c∉ch:=fun z=>(oY c z).2.2.1 x c e rfl
  by_cases hc:c∈X.fs
  ·obtain⟨sl,q⟩:=slot c o (I.cne x c e) hc nch ho (I.freeC x c e)
   exact⟨_,q,hd⟩
  ·exact⟨o,keep c o (I.cne x c e) hc nch ho (I.freeC x c e),hd⟩
 refine⟨I.ok,I.os,hg,⟨fun b o e n hb hx=>?_,fun b o e n hb hx=>?_,fun b o e n hx=>?_,fun b o e hx=>?_,fun b xs e=>tups b xs (I.base.tups b xs e),fun b o xs e=>frzs b o xs (I.base.frzs b o xs e),fun b ps e=>?_⟩,?_,fun x c e=>?_,?_,fun x c e=>?_,fun p hp=>?_,hok,I.len,aL I.pos hk,aF I.tk hk⟩
 ·exact keep b o (neL b o e) hb (neC b o e hx) (I.base.keep b o e n hb hx) (I.base.free b o e n hx)
 ·obtain⟨sl,e1⟩:=I.base.slot b o e n hb hx
  obtain⟨sl',e2⟩:=slot b _ (neL b o e) hb (neC b o e hx) e1 (I.base.free b o e n hx)
  exact⟨sl',e2⟩
 ·obtain⟨o',e1⟩:=I.base.there b o e hx
  exact free b o' (neC b o e hx) e1 (I.base.free b o e n hx)
 ·obtain⟨o',e1⟩:=I.base.there b o e hx
  exact there b o' (neC b o e hx) e1
 ·obtain⟨m1,e1⟩:=I.base.tbls b ps e
  obtain⟨m2,e2⟩:=tbls b _ e1
  exact⟨m1++m2,by rw[e2,Array.append_assoc]⟩
 ·obtain⟨m,hn,hl⟩:=I.loc
  refine⟨m,ns m hn,fun i x v e1 e2 e3=>?_⟩
  obtain⟨u,r,l⟩:=hl i x v e1 e2 e3
  refine⟨u,r.up hk,?_⟩
  rcases l with l|⟨k,c,e,z⟩
  ·exact .inl l
  ·exact .inr ⟨k,c,e,cellK x c e _ z⟩
 ·obtain⟨v,z⟩:=I.cell x c e
  exact⟨v,cellK x c e v z⟩
 ·obtain⟨m,⟨o,_,_,ho,_⟩,_⟩:=I.loc
  exact free _ o (fun z=>(oY _ z).2.1 rfl) ho I.free
 ·obtain⟨v,o,ho,hd⟩:=I.cell x c e
  exact free c o (fun z=>(oY c z).2.2.1 x c e rfl) ho (I.freeC x c e)
 ·obtain⟨e,n,ne,nf,d⟩:=I.pin p hp
  have nch:p.1∉ch:=fun z=>(oY p.1 z).2.2.2 p hp rfl
  exact⟨keep p.1 p.2 ne nf nch e n,free p.1 p.2 nch e n,ne,nf,d⟩
theorem bF.un{t':Nat}(I:bF X aj σ H s)(u:Un X.fs [] H H' s.heap h')(hok:oF X.prog X.w t' H' h')(hk:s.toks<=t':=by first|exact aw _|exact bi _|assumption|omega):bF X aj σ H' { s with heap:=h',toks:=t' }:=by
 obtain⟨m,⟨o,es,ep,ho,r⟩,_⟩:=id I.loc
 obtain⟨sl,hL⟩:=u.any ho I.free (by simp)
 exact I.step (g':=s.gens) (d':=s.drawn) (ch:=[]) (fun _ z=>nomatch z) (fun b o _ hb _ e n=>u.keep b o e n hb (by simp)) (fun b o _ hb _ e n=>u.slot b o e n hb (by simp)) (fun b o _ e n=>u.free b o e n (by simp)) (fun b o _ e=>u.there b o e (by simp)) u.tups u.frzs u.tbls (fun m' hm=>by
  obtain⟨o',es',ep',sN,r'⟩:=hm
  rw[ho]at sN;cases sN
  exact⟨_,es',ep',hL,r'⟩) hok I.bare hk
theorem bF.call{g':Array GenState}{t':Nat}{d':Drawn}{ch:List Addr}(I:bF X aj σ H s)(u:Un (qo X.stack) ch H H' s.heap h')(hok:oF X.prog X.w t' H' h')(hg:AllBare g')
  (oY:∀b∈ch,(b∈X.ex\/X.s₀.heap.objs.size<=b)/\b≠X.env.locals/\(∀x c,X.env.cells.lookup x=some c->c≠b)/\∀p∈X.pn++aj,p.1≠b) (hk:s.toks<=t') :
  bF X aj σ H' { s with heap:=h',gens:=g',drawn:=d',toks:=t' }:=by
 obtain⟨m,⟨o,es,ep,ho,r⟩,_⟩:=id I.loc
 obtain⟨sl,hL⟩:=u.any ho I.free fun z=>(oY _ z).2.1 rfl
 exact I.step (ch:=ch) oY (fun b o hL hb hc e n=>u.keep b o e n (fun z=>(aY.mp (I.stkSub b z)).elim hL hb) hc) (fun b o _ _ hc e n=>u.any e n hc) (fun b o hc e n=>u.free b o e n hc) (fun b o hc e=>u.there b o e hc) u.tups u.frzs u.tbls (fun m' hm=>by
  obtain⟨o',es',ep',sN,r'⟩:=hm
  rw[ho]at sN;cases sN
  exact⟨_,es',ep',hL,r'⟩) hok hg hk
theorem bF.turned{t':Nat}{it:Addr}(I:bF X aj σ H s)(k:∀b o,b≠it->s.heap.get? b=some o->h'.get? b=some o)(hn:H it=none)(hL:it≠X.env.locals)
  (h1:it∈X.ex\/X.s₀.heap.objs.size<=it) (h2:∀x c,X.env.cells.lookup x=some c->c≠it) (h3:∀p∈X.pn++aj,p.1≠it) (hk:s.toks<=t':=by first|exact aw _|exact bi _|assumption|omega):bF X aj σ H { s with heap:=h',toks:=t' }:=by
 have nit:∀b u,H b=some u->b≠it:=fun b u e z=>by rw[z,hn]at e;cases e
 refine I.step (g':=s.gens) (d':=s.drawn) (ch:=[it]) (fun b hb=>?_) (fun b o _ _ hc e _=>k b o (fun z=>hc (by simp[z])) e) (fun b o _ _ hc e _=>⟨o.slots,k b o (fun z=>hc (by simp[z])) e⟩) (fun _ _ _ _ n=>n)
  (fun b o hc e=>⟨o,k b o (fun z=>hc (by simp[z])) e⟩) (fun _ _ e=>e) (fun _ _ _ e=>e) (fun b ps e=>⟨#[],by rw[e];simp⟩) (fun m hm=>?_) (fun b u e=>?_) I.bare hk
 ·have e:b=it:=by simpa using hb
  subst e
  exact⟨h1,hL,h2,h3⟩
 ·obtain⟨o,es,ep,ho,r⟩:=hm
  exact⟨o,es,ep,k _ o (Ne.symm hL) ho,r⟩
 ·refine((I.hok b u e).up hk).stay (fun c v hc q=>k c v ?_ q) (fun _ q=>q) fun _ _ q=>q
  rcases hc with z|z
  ·rw[z];exact nit b u e
  ·exact nit c _ z
theorem bF.tok(I:bF X aj σ H s)(t:Nat)(hk:s.toks<=t:=by first|exact aw _|exact bi _|assumption|omega):bF X aj σ H { s with toks:=t }:=I.un (h':=s.heap) (t':=t) Un.refl (I.hok.up hk) hk
theorem bF.kept{t':Nat}(I:bF X aj σ H s)(k:∀b u,s.heap.get? b=some u->h'.get? b=some u)(hk:s.toks<=t':=by first|exact aw _|exact bi _|assumption|omega):bF X aj σ H { s with heap:=h',toks:=t' }:=I.un (Un.kept k) ((I.hok.kept k).up hk) hk
theorem bF.laid{a:Addr}{o:HO}{t':Nat}(I:bF X aj σ H s)(k:∀b u,s.heap.get? b=some u->h'.get? b=some u)(hp:s.heap.objs.size<=a)(new:eJ X.prog X.w t' (eT H a o) h' a o)(hk:s.toks<=t':=by first|exact aw _|exact bi _|assumption|omega) :
  bF X aj σ (eT H a o) { s with heap:=h',toks:=t' }:=I.un (Un.laid k hp (I.hok.fresh hp)) ((I.hok.up hk).laid k hp new) hk
theorem bF.write{x e:Addr}{o:HO}{t':Nat}(I:bF X aj σ H s)(mu:OG (H x))(he:e=x\/H e=some (.own x))(k:∀b u,b≠e->s.heap.get? b=some u->h'.get? b=some u)(HZ:∃u,h'.get? e=some u)
  (new:eJ X.prog X.w t' (eT H x o) h' x o) (hk:s.toks<=t':=by first|exact aw _|exact bi _|assumption|omega):bF X aj σ (eT H x o) { s with heap:=h',toks:=t' }:=I.un (Un.write mu he k HZ) ((I.hok.up hk).write mu he k HZ new) hk
theorem bF.pins_of{pins':List (Addr×Obj)}(I:bF X aj σ H s)(h:∀p∈pins',s.heap.get? p.1=some p.2/\H p.1=none/\p.1≠X.env.locals/\p.1∉X.fs/\∀v,p.2.data≠.cell v):bF X pins' σ H s:=
 ⟨I.ok,I.os,I.bare,I.base,I.loc,I.cell,I.free,I.freeC,fun p hp=>(bj.mp hp).elim (fun z=>I.pin p (eQ _ z)) (h p),I.hok,I.len,I.pos,I.tk⟩
theorem tz{N:List Str}(hN:N.Nodup){i j:Nat}{x:Str}(a:N[i]?=some x)(b:N[j]?=some x):i=j:=by
 obtain⟨h1,e1⟩:=ak.mp a
 obtain⟨h2,e2⟩:=ak.mp b
 exact(List.getElem_inj hN).mp (e1.trans e2.symm)
theorem CV{M:Model}{A:Around}{E:Value->Shared->Prop}{i:Nat}{x:Str}{v:V}{u:Value}{Q:Unit->Shared->Prop}(I:bF X aj σ H s)(hN:X.N.Nodup)(hi:X.N[i]?=some x)(hx:HP X.env.scope x)(r:cO s.toks v u)
  (h:∀s',bF X aj (σ.set i (some v)) H s'->(∃a,Heap.SameBut a s.heap s'.heap/\(a=X.env.locals\/X.env.cells.lookup x=some a))->Q () s') (hf:X.fn x=true\/X.env.scope.names.lookup x=some .local:=by first|exact .inl rfl|exact .inr rfl|assumption):wpAny M A (storeName X.env x u) Q E s:=by
 obtain⟨m,hn,hl⟩:=id I.loc
 have He:(X.env.scope.kind==.class||(X.env.scope.kind==.module&&X.env.locals != X.env.globals))=false:=by rw[I.ok.kind];rfl
 have hiσ:i<σ.length:=by rw[I.len];exact(ak.mp hi).1
 have cne:=I.cne
 have tracked:∀{a:Addr} {h':Heap},(∃o,s.heap.get? a=some o/\H a=none)->Heap.SameBut a s.heap h'->oF X.prog X.w s.toks H h':=fun{a h'} ha hs b ob e=>by
  obtain⟨_,_,hfree⟩:=ha
  refine(I.hok b ob e).stay (fun c w' hc q=>(hs.2 c ?_).trans q) (fun _ q=>q) fun _ _ q=>q
  rintro rfl
  rcases hc with rfl|hc
  ·rw[hfree]at e;cases e
  ·rw[hfree]at hc;cases hc
 rcases hx with hk|hk
 ·refine nv hk hn (fun h' Rp hs=>?_) He
  obtain⟨oL,_,_,hoL,_⟩:=id hn
  refine h { s with heap:=h',toks:=s.toks+1 } ⟨I.ok,I.os,I.bare,⟨fun b o e n hb hx=>?_,fun b o e n hb hx=>?_,I.base.free,fun b o e hx=>?_,I.base.tups,I.base.frzs,I.base.tbls⟩,⟨_,Rp,fun j y v' e1 e2 e3=>?_⟩,fun y c e=>?_,I.free,I.freeC,fun p hp=>?_,(tracked ⟨oL,hoL,I.free⟩ hs).up (bi _),by simpa using I.len,Nat.succ_pos _,gH I.tk⟩ ⟨_,hs,.inl rfl⟩
  ·exact(hs.2 b (aZ (aL (aK e) I.ok.above))).trans (I.base.keep b o e n hb hx)
  ·obtain⟨sl,e1⟩:=I.base.slot b o e n hb hx
   exact⟨sl,(hs.2 b (aZ (aL (aK e) I.ok.above))).trans e1⟩
  ·obtain⟨o',e1⟩:=I.base.there b o e hx
   exact⟨o',(hs.2 b (aZ (aL (aK e) I.ok.above))).trans e1⟩
  ·by_cases hj:j=i
   ·subst hj
    rw[hi]at e1;cases e1
    rw[bI hiσ]at e2
    cases e2
    exact⟨u,r.up (bi _),.inl ⟨hk,by simp⟩⟩
   ·rw[bU (Ne.symm hj)]at e2
    obtain⟨u',r',q⟩:=hl j y v' e1 e2 e3
    refine⟨u',r'.up (bi _),?_⟩
    rcases q with⟨k,e⟩|⟨k,c,e,z⟩
    ·refine .inl ⟨k,?_⟩
     have:y≠x:=fun e=>hj (tz hN e1 (e▸hi))
     simp[this,e]
    ·exact .inr ⟨k,c,e,z.sameBut hs (cne y c e)⟩
  ·obtain⟨w',z⟩:=I.cell y c e
   exact⟨w',z.sameBut hs (cne y c e)⟩
  ·obtain⟨e,n,ne,nf,d⟩:=I.pin p hp
   exact⟨(hs.2 p.1 ne).trans e,n,ne,nf,d⟩
 ·have hfn:X.fn x=true:=by
   rcases hf with z|z
   ·exact z
   ·rw[z]at hk;cases hk
  obtain⟨c,hc⟩:=I.ok.has x (.inl hk)
  obtain⟨w',z⟩:=I.cell x c hc
  refine wpAny_storeName_cell I.ok.kind hk hc z (fun h' hc' hs=>?_)
  obtain⟨oc,hoc,hocd⟩:=id z
  refine h { s with heap:=h' } ⟨I.ok,I.os,I.bare,⟨fun b o e n hb hx=>?_,fun b o e n hb hx=>?_,I.base.free,fun b o e hx=>?_,I.base.tups,I.base.frzs,I.base.tbls⟩,⟨m,hn.sameBut hs (Ne.symm (cne x c hc)),fun j y v' e1 e2 e3=>?_⟩,fun y c' e=>?_,I.free,I.freeC,fun p hp=>?_,tracked ⟨oc,hoc,I.freeC x c hc⟩ hs,by simpa using I.len,I.pos,I.tk⟩ ⟨c,hs,.inr hc⟩
  ·exact(hs.2 b (aZ (aL (aK e) (I.ok.cab x c hfn hc)))).trans (I.base.keep b o e n hb hx)
  ·obtain⟨sl,e1⟩:=I.base.slot b o e n hb hx
   exact⟨sl,(hs.2 b (aZ (aL (aK e) (I.ok.cab x c hfn hc)))).trans e1⟩
  ·obtain⟨o',e1⟩:=I.base.there b o e hx
   exact⟨o',(hs.2 b (aZ (aL (aK e) (I.ok.cab x c hfn hc)))).trans e1⟩
  ·by_cases hj:j=i
   ·subst hj
    rw[hi]at e1;cases e1
    rw[bI hiσ]at e2
    cases e2
    exact⟨u,r,.inr ⟨.inl hk,c,hc,hc'⟩⟩
   ·rw[bU (Ne.symm hj)]at e2
    obtain⟨u',r',q⟩:=hl j y v' e1 e2 e3
    refine⟨u',r',?_⟩
    rcases q with q|⟨k,c',e,z'⟩
    ·exact .inl q
    ·refine .inr ⟨k,c',e,z'.sameBut hs ?_⟩
     rintro rfl
     exact hj (tz hN e1 (I.ok.inj _ _ _ e hc▸hi))
  ·by_cases hcc:c'=c
   ·subst hcc;exact⟨_,hc'⟩
   ·obtain⟨w2,z2⟩:=I.cell y c' e
    exact⟨w2,z2.sameBut hs hcc⟩
  ·obtain⟨e,n,ne,nf,d⟩:=I.pin p hp
   refine⟨(hs.2 p.1 ?_).trans e,n,ne,nf,d⟩
   intro q
   rw[q,hoc]at e
   have q':oc=p.2:=bc e
   exact d w' (by rw[<- q'];exact hocd)
theorem tD{M:Model}{A:Around}{E:Value->Shared->Prop}{i:Nat}{x:Str}{v:V}{u:Value}{Q:Unit->Shared->Prop}(I:bF X aj σ H s)(hN:X.N.Nodup)(hi:X.N[i]?=some x)(hx:HP X.env.scope x)(r:cO s.toks v u)
  (h:∀s',bF X aj (σ.set i (some v)) H s'->Q () s') (hf:X.fn x=true\/X.env.scope.names.lookup x=some .local:=by first|exact .inl rfl|exact .inr rfl|assumption):wpAny M A (storeName X.env x u) Q E s:=
 CV I hN hi hx r (fun s' I' _=>h s' I') hf
theorem bF.call'{s':Shared}{ch:List Addr}(I:bF X aj σ H s)(ho:s'.os=s.os)(u:Un (qo X.stack) ch H H' s.heap s'.heap)(hok:oF X.prog X.w s'.toks H' s'.heap)(hg:AllBare s'.gens)
  (oY:∀b∈ch,(b∈X.ex\/X.s₀.heap.objs.size<=b)/\b≠X.env.locals/\(∀x c,X.env.cells.lookup x=some c->c≠b)/\∀p∈X.pn++aj,p.1≠b) (hk:s.toks<=s'.toks):bF X aj σ H' s':=by
 obtain⟨h',g',d',t',o'⟩:=s'
 have e:o'=s.os:=ho
 subst e
 exact I.call (g':=g') (t':=t') (d':=d') u hok hg oY hk
end
abbrev XK:=Value->Option Addr->Hp->Prop
abbrev St:=List (Option V)
abbrev VK:=V->Hp->Prop
abbrev TE:=St->Hp->VK->Prop
abbrev TT:=St->Hp->(Bool->Hp->Prop)->Prop
abbrev TA:=St->Hp->(List V->Hp->Prop)->Prop
structure wg where
 nx:St->Hp->Prop
 rt:VK
 bk:St->Hp->Prop:=fun _ _=>False
 ct:St->Hp->Prop:=fun _ _=>False
abbrev TS:=wg->St->Hp->Prop
def EP(X:Cx)(aj:List (Addr×Obj))(σ:St)(Q:VK)(u:Value)(s':Shared):Prop:=∃v H',bF X aj σ H' s'/\cO s'.toks v u/\Q v H'
def TP(X:Cx)(aj:List (Addr×Obj))(σ:St)(Q:Bool->Hp->Prop)(b:Bool)(s':Shared):Prop:=∃H',bF X aj σ H' s'/\Q b H'
def AP(X:Cx)(aj:List (Addr×Obj))(σ:St)(Q:List V->Hp->Prop)(us:List Value)(s':Shared):Prop:=∃vs H',bF X aj σ H' s'/\cJ s'.toks vs us/\Q vs H'
def SP(X:Cx)(aj:List (Addr×Obj))(D:wg)(f:Flow)(s':Shared):Prop:=
 match f with
 |.next=>∃σ' H',bF X aj σ' H' s'/\D.nx σ' H'
 |.brk=>∃σ' H',bF X aj σ' H' s'/\D.bk σ' H'
 |.cont=>∃σ' H',bF X aj σ' H' s'/\D.ct σ' H'
 |.ret u=>∃v σ' H',bF X aj σ' H' s'/\cO s'.toks v u/\D.rt v H'
def PE(X:Cx)(e:Expr)(t:TE):Prop:=
 ∀(aj:List (Addr×Obj)) (s:Shared) (σ:St) (H:Hp) (Q:VK),bF X aj σ H s->t σ H Q->wpAny (model X.prog X.w) X.A (eval e X.env) (EP X aj σ Q) X.xe s
def PT(X:Cx)(e:Expr)(t:TT):Prop:=
 ∀(aj:List (Addr×Obj)) (s:Shared) (σ:St) (H:Hp) (Q:Bool->Hp->Prop),bF X aj σ H s->t σ H Q->wpAny (model X.prog X.w) X.A (isTrue e X.env (eval e X.env)) (TP X aj σ Q) X.xe s
def PW(X:Cx)(e:Expr)(t:TT):Prop:=
 ∀(uJ:Sem Value) (aj:List (Addr×Obj)) (s:Shared) (σ:St) (H:Hp) (Q:Bool->Hp->Prop),bF X aj σ H s->t σ H Q->wpAny (model X.prog X.w) X.A (isTrue e X.env uJ) (TP X aj σ Q) X.xe s
theorem PW.pt{X:Cx}{e:Expr}{t:TT}(h:PW X e t):PT X e t:=h _
def PA(X:Cx)(es:List Expr)(t:TA):Prop:=
 ∀(pos:Pos) (aj:List (Addr×Obj)) (s:Shared) (σ:St) (H:Hp) (Q:List V->Hp->Prop),bF X aj σ H s->t σ H Q->wpAny (model X.prog X.w) X.A (spliced (backTo pos (starEach es X.env))) (AP X aj σ Q) X.xe s
def PS(X:Cx)(st:Stmt)(t:TS):Prop:=
 ∀(aj:List (Addr×Obj)) (s:Shared) (σ:St) (H:Hp) (D:wg),bF X aj σ H s->t D σ H->wpAny (model X.prog X.w) X.A (exec st X.env) (SP X aj D) X.xe s
def CW(X:Cx)(st:List Stmt)(t:TS):Prop:=
 ∀(aj:List (Addr×Obj)) (s:Shared) (σ:St) (H:Hp) (D:wg),bF X aj σ H s->t D σ H->wpAny (model X.prog X.w) X.A (execs st X.env) (SP X aj D) X.xe s
theorem i3{α:Type}{t:Sem α}{Q Q':α->Shared->Prop}{M:Model}{A:Around}{E:Value->Shared->Prop}{s:Shared}(h:wpAny M A t Q E s)(hQ:∀a s',s.toks<=s'.toks->Q a s'->Q' a s'):wpAny M A t Q' E s:=
 up (iQ h (fun a s' q k=>hQ a s' k q) fun _ _ x _=>x)
theorem z9{α:Type}{t:Sem α}{Q Q':α->Shared->Prop}{M:Model}{A:Around}{E:Value->Shared->Prop}{s:Shared}(h:wpAny M A t Q E s)(hQ:∀a s,Q a s->Q' a s):wpAny M A t Q' E s:=iQ h hQ fun _ _ x=>x
end L2
namespace L2
variable{nk:Nat}
open PySem PySem.Spec PyProof.Rows
section
variable{X:Cx}
def OI(i:Nat):TE:=fun σ H Q=>∃v,σ[i]?=some (some v)/\Q v H
def tC(v:V):TE:=fun _ H Q=>Q v H
theorem Ls{i:Nat}{x:Str}{pos:Pos}(hN:X.N[i]?=some x)(hv:OH X.env.scope x)(hd:(x==("__debug__":Str))=false:=by decide)(uS:(x==("__classdict__":Str))=false:=by decide):PE X (.Name x pos) (OI i):=by
 intro aj s σ H Q I h
 obtain⟨v,e,h⟩:=h
 obtain⟨m,hn,hl⟩:=I.loc
 obtain⟨u,r,l⟩:=hl i x v hN e hv
 have hV:EP X aj σ Q u s:=⟨v,H,I,r,h⟩
 rcases l with⟨hk,hm⟩|⟨hk,c,hc,dq⟩
 ·exact wpAny_Name (wpAny_loadName_local I.ok.kind hk hn hm hV) hd
 ·rcases hk with hk|hk
  ·exact wpAny_Name (wpAny_loadName_cell I.ok.kind hk hc dq hV) hd
  ·exact wpAny_Name (wpAny_loadName_free I.ok.kind hk hc dq hV uS) hd
theorem Lu{i j pos}:PE X (.Constant (.int i) j pos) (tC (.int i)):=fun _ _ _ H _ I h=>wpAny_Constant_int ⟨.int i,H,I.tok _,⟨_,rfl⟩,h⟩
theorem OJ{b j pos}:PE X (.Constant (.bool b) j pos) (tC (.bl b)):=fun _ _ _ H _ I h=>Constant_bool ⟨.bl b,H,I,rfl,h⟩
theorem Lv{j pos}:PE X (.Constant .none j pos) (tC .non):=fun _ _ _ H _ I h=>pK ⟨.non,H,I,rfl,h⟩
theorem bF.tkS{aj:List (Addr×Obj)}{σ:St}{H:Hp}{s:Shared}{x:Str}(I:bF X aj σ H s):cO (s.toks+1) (.str x) (.str x s.toks):=⟨⟨s.toks,fun _=>⟨I.pos,cy _⟩⟩,rfl⟩
theorem D0{x j pos}:PE X (.Constant (.str x) j pos) (tC (.str x)):=fun _ _ _ H _ I h=>Calls.Constant_str ⟨.str x,H,I.tok _,I.tkS,h⟩
def Gl(X:Cx)(x:Str):Prop:=X.env.kindOf x=some .globalImplicit
theorem s9{E:Value->Shared->Prop}{aj:List (Addr×Obj)}{s:Shared}{σ:St}{H:Hp}{x:Str}{u:Value}{pos:Pos}{Q:Value->Shared->Prop}(I:bF X aj σ H s)(hg:Gl X x)(hm:X.mg x=some u)(h:Q u s)
  (hd:(x==("__debug__":Str))=false:=by decide):wpAny (model X.prog X.w) X.A (eval (.Name x pos) X.env) Q E s:=
 kE I.ok.kind hg (Calls.loadGlobal_global (by rw[I.ok.glob];exact I.mod.glob.keeps I.bk) hm h) hd
theorem mq{E:Value->Shared->Prop}{aj:List (Addr×Obj)}{s:Shared}{σ:St}{H:Hp}{x:Str}{u:Value}{pos:Pos}{Q:Value->Shared->Prop}(I:bF X aj σ H s)(hg:Gl X x)(hm:X.mg x=none)(hv:bootBuiltins x=some u)(h:Q u s)
  (hn:x ≠ "__name__":=by decide) (hd:(x==("__debug__":Str))=false:=by decide):wpAny (model X.prog X.w) X.A (eval (.Name x pos) X.env) Q E s:=by
 obtain⟨mb,h1,h2⟩:=I.mod.blt
 exact kE I.ok.kind hg (Calls.loadGlobal_builtin (by rw[I.ok.glob];exact I.mod.glob.keeps I.bk) hm (by rw[I.ok.blt];exact h1.keeps I.bk) ((h2 x hn).trans hv) h) hd
theorem wj{x:Str}{v:V}{u:Value}{pos:Pos}(hg:Gl X x)(hm:X.mg x=some u)(r:cO 0 v u)(hd:(x==("__debug__":Str))=false:=by decide):PE X (.Name x pos) (tC v):=
 fun _ _ _ H _ I h=>s9 I hg hm ⟨v,H,I,r.up (bQ _),h⟩ hd
theorem Bz{x:Str}{v:V}{u:Value}{pos:Pos}(hg:Gl X x)(hm:X.mg x=none)(hv:bootBuiltins x=some u)(r:cO 0 v u)(hn:x ≠ "__name__":=by decide)(hd:(x==("__debug__":Str))=false:=by decide):PE X (.Name x pos) (tC v):=
 fun _ _ _ H _ I h=>mq I hg hm hv ⟨v,H,I,r.up (bQ _),h⟩ hn hd
variable{a b:Expr}{ta tb:TE}{pos:Pos}
def PC(X:Cx)(op:CmpOp)(a b:Expr)(t:TE):Prop:=
 ∀(aj:List (Addr×Obj)) (s:Shared) (σ:St) (H:Hp) (Q:VK),bF X aj σ H s->t σ H Q ->
  wpAny (model X.prog X.w) X.A (eval a X.env) (fun v s₁=>wpAny (model X.prog X.w) X.A (eval b X.env) (fun u s₂=>wpAny (model X.prog X.w) X.A (compareOp op v u) (EP X aj σ Q) X.xe s₂) X.xe s₁) X.xe s
theorem xO(b:Expr){op:CmpOp}(h:op≠.In)(h2:op≠.NotIn):behindInMarks op b=false:=by
 have e1:(op==CmpOp.In)=false:=by cases op<;>first|rfl|exact absurd rfl h
 have e2:(op==CmpOp.NotIn)=false:=by cases op<;>first|rfl|exact absurd rfl h2
 cases b<;>simp[behindInMarks,e1,e2]
def OK(ta:TE):TE:=fun σ H Q=>ta σ H fun x H1=>Q (.bl (decide (x=.non))) H1
def J5(ta:TE):TE:=fun σ H Q=>ta σ H fun x H1=>Q (.bl (!decide (x=.non))) H1
theorem cO.none_iff{x:V}{v:Value}(r:cO nk x v):(v==Value.none)=decide (x=.non):=by
 cases x with
 |non=>cases r;rfl
 |bl _=>cases r;rfl
 |int _=>obtain⟨t,rfl⟩:=r;rfl
 |str _=>obtain⟨t,rfl⟩:=r;rfl
 |byt _=>obtain⟨t,rfl⟩:=r;rfl
 |flt _=>obtain⟨t,rfl⟩:=r;rfl
 |ref _=>cases r;rfl
 |ty _=>cases r;rfl
theorem D1{j iP}(ha:PE X a ta):PC X .Is a (.Constant .none j iP) (OK ta):=by
 intro aj s σ H Q I h
 refine i3 (ha aj s σ H _ I h) fun v s1 kt1 ⟨x,H1,I1,r1,q1⟩=>?_
 exact pK (is_none_gen ⟨.bl _,H1,I1,by rw[r1.none_iff];rfl,q1⟩)
theorem BA{j iP}(ha:PE X a ta):PC X .IsNot a (.Constant .none j iP) (J5 ta):=by
 intro aj s σ H Q I h
 refine i3 (ha aj s σ H _ I h) fun v s1 kt1 ⟨x,H1,I1,r1,q1⟩=>?_
 exact pK (isnot_none_gen ⟨.bl _,H1,I1,by rw[r1.none_iff];rfl,q1⟩)
def tB(t:TE):TT:=fun σ H Q=>t σ H fun x H1=>∃c,x=.bl c/\Q c H1
theorem D2{op:CmpOp}{t:TE}(h:PC X op a b t)(h1:behindInMarks op b=false:=by first|exact xO _ (by decide) (by decide)|rfl):PE X (.Compare a [op] [b] pos) t:=fun aj s σ H Q I hw=>wpAny_Compare1 (h aj s σ H Q I hw) h1
theorem D3{op:CmpOp}{t:TE}(h:PC X op a b t)(h1:behindInMarks op b=false:=by first|exact xO _ (by decide) (by decide)|rfl):PT X (.Compare a [op] [b] pos) (tB t):=by
 intro aj s σ H Q I hw
 refine ny (z9 (h aj s σ H _ I hw) fun v s1 h1=>z9 h1 fun u s2 h2=>z9 h2 fun c s3 ⟨x,H1,I1,r1,q1⟩=>?_) h1
 obtain⟨d,rfl,q⟩:=q1
 cases r1
 exact dM ⟨H1,I1,q⟩
theorem Lw{e:Expr}{t:TE}(h:PE X e t)(he:∀uJ,isTrue e X.env uJ=(do let v <- uJ;standAt e.pos;holding [v] (truthy v)):=by intro _;rfl):PT X e (tB t):=by
 intro aj s σ H Q I hw
 refine isTrue_plain (i3 (h aj s σ H _ I hw) fun v s1 kt1 ⟨x,H1,I1,r1,q1⟩=>?_) (he _)
 obtain⟨d,rfl,q⟩:=q1
 cases r1
 exact dM ⟨H1,I1,q⟩
variable{tA Q_:TT}{fP:List Expr}
def RL(t u:TT):TT:=fun σ H Q=>t σ H fun c H1=>if c=true then u σ H1 Q else Q false H1
def TL(t u:TT):TT:=fun σ H Q=>t σ H fun c H1=>if c=true then Q true H1 else u σ H1 Q
def RM(t:TT):TT:=fun σ H Q=>t σ H fun c H1=>Q (!c) H1
theorem Ic(ha:PT X a tA):PW X (.BoolOp .And [a] pos) tA:=by
 intro wh aj s σ H Q I h
 refine isTrue_and (z9 (ha aj s σ H Q I h) fun c s1 e=>?_)
 cases c with
 |true=>exact isTrue_and_nil e
 |false=>exact e
theorem Lx(ha:PT X a tA):PW X (.BoolOp .Or [a] pos) tA:=by
 intro wh aj s σ H Q I h
 refine isTrue_or (z9 (ha aj s σ H Q I h) fun c s1 e=>?_)
 cases c with
 |false=>exact isTrue_or_nil e
 |true=>exact e
theorem Ly(ha:PT X a tA)(hb:PW X (.BoolOp .And (b::fP) pos) Q_):PW X (.BoolOp .And (a::b::fP) pos) (RL tA Q_):=by
 intro wh aj s σ H Q I h
 refine isTrue_and (i3 (ha aj s σ H _ I h) fun c s1 kt1 ⟨H1,I1,q1⟩=>?_)
 cases c with
 |true=>exact hb wh aj s1 σ H1 Q I1 q1
 |false=>exact⟨H1,I1,q1⟩
theorem OL(ha:PT X a tA)(hb:PW X (.BoolOp .Or (b::fP) pos) Q_):PW X (.BoolOp .Or (a::b::fP) pos) (TL tA Q_):=by
 intro wh aj s σ H Q I h
 refine isTrue_or (i3 (ha aj s σ H _ I h) fun c s1 kt1 ⟨H1,I1,q1⟩=>?_)
 cases c with
 |true=>exact⟨H1,I1,q1⟩
 |false=>exact hb wh aj s1 σ H1 Q I1 q1
theorem Lz(ha:PT X a tA):PT X (.UnaryOp .Not a pos) (RM tA):=by
 intro aj s σ H Q I h
 exact isTrue_not (ha aj s σ H (fun c H1=>Q (!c) H1) I h)
def OM(ta tb:TE):TE:=fun σ H Q=>ta σ H fun x H1=>∃c,x=.bl c/\if c=true then tb σ H1 Q else Q (.bl false) H1
def RN(ta tb:TE):TE:=fun σ H Q=>ta σ H fun x H1=>∃c,x=.bl c/\if c=true then Q (.bl true) H1 else tb σ H1 Q
def ON(ta:TE):TE:=fun σ H Q=>ta σ H fun x H1=>∃c,x=.bl c/\Q (.bl (!c)) H1
theorem LA{op}{t:TE}(h:PE X a t):PE X (.BoolOp op [a] pos) t:=fun aj s σ H Q I hw=>BoolOp_one (h aj s σ H Q I hw)
theorem LB(ha:PE X a ta)(hb:PE X (.BoolOp .And (b::fP) pos) tb):PE X (.BoolOp .And (a::b::fP) pos) (OM ta tb):=by
 intro aj s σ H Q I h
 refine BoolOp_and (i3 (ha aj s σ H _ I h) fun v s1 kt1 ⟨x,H1,I1,r1,q1⟩=>?_)
 obtain⟨c,rfl,q1⟩:=q1
 cases r1
 refine dM ?_
 cases c with
 |true=>exact hb aj s1 σ H1 Q I1 q1
 |false=>exact⟨.bl false,H1,I1,rfl,q1⟩
theorem OO(ha:PE X a ta)(hb:PE X (.BoolOp .Or (b::fP) pos) tb):PE X (.BoolOp .Or (a::b::fP) pos) (RN ta tb):=by
 intro aj s σ H Q I h
 refine BoolOp_or (i3 (ha aj s σ H _ I h) fun v s1 kt1 ⟨x,H1,I1,r1,q1⟩=>?_)
 obtain⟨c,rfl,q1⟩:=q1
 cases r1
 refine dM ?_
 cases c with
 |false=>exact hb aj s1 σ H1 Q I1 q1
 |true=>exact⟨.bl true,H1,I1,rfl,q1⟩
theorem LD(ha:PE X a ta):PE X (.UnaryOp .Not a pos) (ON ta):=by
 intro aj s σ H Q I h
 refine UnaryOp_ (i3 (ha aj s σ H _ I h) fun v s1 kt1 ⟨x,H1,I1,r1,q1⟩=>?_)
 obtain⟨c,rfl,q1⟩:=q1
 cases r1
 exact not_of (dM ⟨.bl (!c),H1,I1,rfl,q1⟩)
def TM(t:TT)(ta tb:TE):TE:=fun σ H Q=>t σ H fun c H1=>if c=true then ta σ H1 Q else tb σ H1 Q
theorem D4{c:Expr}(hc:PT X c tA)(ha:PE X a ta)(hb:PE X b tb):PE X (.IfExp c a b pos) (TM tA ta tb):=by
 intro aj s σ H Q I h
 refine wpAny_IfExp (i3 (hc aj s σ H _ I h) fun d s1 kt1 ⟨H1,I1,q1⟩=>?_)
 cases d with
 |true=>exact ha aj s1 σ H1 Q I1 q1
 |false=>exact hb aj s1 σ H1 Q I1 q1
end
end L2
namespace L2
variable{nk:Nat}
open PySem PySem.Spec PyProof.Rows
def sf(K:Frag)(H:Hp)(a:Addr)(xs:List V):Prop:=
 Rd H a (.lst xs) \/
  ∃(o:Obj) (bN:Array Value) (n:Nat),K.lookup a=some o/\o.cls=.type "list"/\o.dict=none/\o.data=.seq bN n/\bN.size<=sizeLine/\cJ 0 xs bN.toList
def gK(K:Frag)(H:Hp)(a:Addr)(xs:List V):Prop:=
 Rd H a (.tup xs) \/
  ∃(o:Obj) (bN:Array Value) (n:Nat),K.lookup a=some o/\o.cls=.type "tuple"/\o.data=.seq bN n/\bN.size<=sizeLine/\cJ 0 xs bN.toList
def RO:Value->Option V
 |.none=>some .non
 |.bool b=>some (.bl b)
 |.int i _=>some (.int i)
 |.str x _=>some (.str x)
 |.bytes b _=>some (.byt b)
 |.float b _=>some (.flt b)
 |.ref a=>some (.ref a)
 |.type n=>some (.ty n)
 |_=>none
theorem cO.abs{x:V}{u:Value}(r:cO nk x u):RO u=some x:=by
 cases x with
 |non=>cases r;rfl
 |bl _=>cases r;rfl
 |int _=>obtain⟨t,rfl⟩:=r;rfl
 |str _=>obtain⟨t,rfl⟩:=r;rfl
 |byt _=>obtain⟨t,rfl⟩:=r;rfl
 |flt _=>obtain⟨t,rfl⟩:=r;rfl
 |ref _=>cases r;rfl
 |ty _=>cases r;rfl
theorem cO.inj{x y:V}{u:Value}(r:cO nk x u)(q:cO nk y u):x=y:=bc (r.abs.symm.trans q.abs)
theorem cJ.inj:∀{xs ys:List V} {us:List Value},cJ nk xs us->cJ nk ys us->xs=ys
 |_,_,_,.nil,.nil=>rfl
 |_,_,_,.cons r t,.cons r' t'=>by rw[r.inj r',cJ.inj t t']
section
variable{X:Cx}{aj:List (Addr×Obj)}{σ:St}{H:Hp}{s:Shared}{a:Addr}{xs ys:List V}
theorem sf.of{K:Frag}(h:H a=some (.lst xs)):sf K H a xs:=.inl (.inl h)
theorem gK.of{K:Frag}(h:H a=some (.tup xs)):gK K H a xs:=.inl (.inl h)
theorem bF.list(I:bF X aj σ H s)(h:sf X.K H a xs):∃bN:List Value,cJ s.toks xs bN/\PlainL s.heap a bN.toArray/\xs.length<=sizeLine:=by
 rcases h with h|⟨o,bN,n,hk,hc,hd,hs,hz,r⟩
 ·obtain⟨z,bN,n,r,e⟩:=h.ok I.hok
  exact⟨bN,r,⟨_,n,e,rfl,rfl,rfl⟩,z⟩
 ·refine⟨bN.toList,r.up (bQ _),⟨o,n,I.kIn a o hk,hc,hd,by simpa using hs⟩,?_⟩
  have e:=r.length
  simp only[dP]at e
  omega
theorem bF.tuple(I:bF X aj σ H s)(h:gK X.K H a xs):∃bN:List Value,cJ s.toks xs bN/\IsTup s.heap a bN.toArray/\xs.length<=sizeLine:=by
 rcases h with h|⟨o,bN,n,hk,hc,hs,hz,r⟩
 ·obtain⟨z,bN,r,p⟩:=h.ok I.hok
  exact⟨bN,r,p,z⟩
 ·refine⟨bN.toList,r.up (bQ _),⟨o,I.kIn a o hk,hc,n,by simpa using hs⟩,?_⟩
  have e:=r.length
  simp only[dP]at e
  omega
theorem bF.list_inj(I:bF X aj σ H s)(h:sf X.K H a xs)(h':sf X.K H a ys):xs=ys:=by
 obtain⟨bN,r,⟨o,n,e,_,_,d⟩,_⟩:=I.list h
 obtain⟨its',r',⟨o',n',e',_,_,d'⟩,_⟩:=I.list h'
 rw[e]at e';cases e'
 rw[d]at d'
 injection d' with d1 _
 have:bN=its':=by simpa using ir Array.toList d1
 subst this
 exact r.inj r'
theorem bF.tuple_inj(I:bF X aj σ H s)(h:gK X.K H a xs)(h':gK X.K H a ys):xs=ys:=by
 obtain⟨bN,r,⟨o,e,_,n,d⟩,_⟩:=I.tuple h
 obtain⟨its',r',⟨o',e',_,n',d'⟩,_⟩:=I.tuple h'
 rw[e]at e';cases e'
 rw[d]at d'
 injection d' with d1 _
 have:bN=its':=by simpa using ir Array.toList d1
 subst this
 exact r.inj r'
end
section
variable{X:Cx}{aj:List (Addr×Obj)}{σ:St}{H:Hp}{s:Shared}{E:Value->Shared->Prop}
end
section
variable{X:Cx}{st:Stmt}{fP:List Stmt}{t u:TS}{e:Expr}{te:TE}{pos:Pos}
def OP:TS:=fun D σ H=>D.nx σ H
def RP(t u:TS):TS:=fun D σ H=>t { D with nx:=u D } σ H
theorem Ie:CW X [] OP:=fun _ _ σ H _ I h=>iB ⟨σ,H,I,h⟩
theorem D5(h1:PS X st t)(h2:CW X fP u):CW X (st::fP) (RP t u):=by
 intro aj s σ H D I h
 refine wpAny_execs_cons (z9 (h1 aj s σ H { D with nx:=u D } I h) fun f s1 q=>?_)
 cases f with
 |next=>
  obtain⟨σ',H',I',q⟩:=q
  exact h2 aj s1 σ' H' D I' q
 |ret v=>exact q
 |brk=>exact q
 |cont=>exact q
theorem Ig(h1:PS X st t):CW X [st] t:=by
 intro aj s σ H D I h
 refine wpAny_execs_cons (z9 (h1 aj s σ H D I h) fun f s1 q=>?_)
 cases f with
 |next=>exact iB q
 |ret v=>exact q
 |brk=>exact q
 |cont=>exact q
theorem bF.quiet{aj:List (Addr×Obj)}{σ:St}{H:Hp}{s:Shared}(I:bF X aj σ H s):interactive X.env=false:=by simp[interactive,I.ok.kind]
def OQ(te:TE):TS:=fun D σ H=>te σ H fun _ H1=>D.nx σ H1
theorem Ih(he:PE X e te)(hs:swapsWith e none pos.line X.env=pure false:=by rfl):PS X (.Expr e pos) (OQ te):=by
 intro aj s σ H D I h
 exact wpAny_Expr_any (i3 (he aj s σ H _ I h) fun v s1 kt1 ⟨x,H1,I1,r1,q1⟩=>⟨σ,H1,I1,q1⟩) I.quiet hs
def RQ(te:TE):TS:=fun D σ H=>te σ H D.rt
theorem LF(he:PE X e te):PS X (.Return (some e) pos) (RQ te):=by
 intro aj s σ H D I h
 exact wpAny_Return_some (i3 (he aj s σ H _ I h) fun v s1 kt1 ⟨x,H1,I1,r1,q1⟩=>⟨x,σ,H1,I1,r1,q1⟩)
def RR(c:TT)(t u:TS):TS:=fun D σ H=>c σ H fun b H1=>if b=true then t D σ H1 else u D σ H1
theorem OR{c:Expr}{a b:List Stmt}{tc:TT}(hc:PT X c tc)(ha:CW X a t)(hb:CW X b u):PS X (.If c a b pos) (RR tc t u):=by
 intro aj s σ H D I h
 refine wpAny_If (i3 (hc aj s σ H _ I h) fun d s1 kt1 ⟨H1,I1,q1⟩=>?_)
 cases d with
 |true=>exact ha aj s1 σ H1 D I1 q1
 |false=>exact hb aj s1 σ H1 D I1 q1
end
abbrev TG:=V->St->Hp->(St->Hp->Prop)->Prop
abbrev Ii:=List V->St->Hp->(St->Hp->Prop)->Prop
def PG(X:Cx)(Oo:Expr)(t:TG):Prop:=
 ∀(aj:List (Addr×Obj)) (s:Shared) (σ:St) (H:Hp) (v:V) (u:Value) (Q:St->Hp->Prop),bF X aj σ H s->cO s.toks v u->t v σ H Q ->
  wpAny (model X.prog X.w) X.A (assign Oo X.env u) (fun _ s'=>∃σ' H',bF X aj σ' H' s'/\Q σ' H') X.xe s
def J6(X:Cx)(ts:List Expr)(t:Ii):Prop:=
 ∀(aj:List (Addr×Obj)) (s:Shared) (σ:St) (H:Hp) (vs:List V) (us:List Value) (Q:St->Hp->Prop),bF X aj σ H s->cJ s.toks vs us->t vs σ H Q ->
  wpAny (model X.prog X.w) X.A (assignInOrder ((assignEach ts X.env).map (·.2)) us) (fun _ s'=>∃σ' H',bF X aj σ' H' s'/\Q σ' H') X.xe s
abbrev Ij:=V->V->V->Hp->(Hp->Prop)->Prop
def CY(X:Cx)(t:Ij):Prop:=
 ∀(aj:List (Addr×Obj)) (s:Shared) (σ:St) (H:Hp) (o i v:V) (ov iv u:Value) (Q:Hp->Prop),bF X aj σ H s->cO s.toks o ov->cO s.toks i iv->cO s.toks v u->t o i v H Q ->
  wpAny (model X.prog X.w) X.A (setItem ov iv u) (fun _ s'=>∃H',bF X aj σ H' s'/\Q H') X.xe s
section
variable{X:Cx}{pos:Pos}
def J7(i:Nat):TG:=fun v σ H Q=>Q (σ.set i (some v)) H
theorem Ik{i:Nat}{x:Str}(hN:X.N.Nodup)(hi:X.N[i]?=some x)(hx:HP X.env.scope x)(hf:X.fn x=true\/X.env.scope.names.lookup x=some .local:=by first|exact .inl rfl|exact .inr rfl|assumption):PG X (.Name x pos) (J7 i):=by
 intro aj s σ H v u Q I r h
 exact wpAny_assign_Name (tD I hN hi hx r (fun s' I'=>⟨_,H,I',h⟩) hf)
def RT:Ii:=fun vs σ H Q=>vs=[]/\Q σ H
def OS(t:TG)(u:Ii):Ii:=fun vs σ H Q=>∃v r,vs=v::r/\t v σ H fun σ' H'=>u r σ' H' Q
theorem Il:J6 X [] RT:=by
 intro aj s σ H vs us Q I r h
 obtain⟨e,h⟩:=h
 subst e
 cases r
 exact assignInOrder_nil ⟨σ,H,I,h⟩
theorem D6{e:Expr}{es:List Expr}{t:TG}{u:Ii}(h1:PG X e t)(h2:J6 X es u)
  (hs:(assignEach (e::es) X.env).map (·.2)=assign e X.env::(assignEach es X.env).map (·.2):=by rfl):J6 X (e::es) (OS t u):=by
 intro aj s σ H vs us Q I r h
 obtain⟨v,vr,e1,h⟩:=h
 subst e1
 cases r with
 |cons r rr=>
  rw[hs]
  refine assignInOrder_cons (i3 (h1 aj s σ H _ _ _ I r h) fun _ s1 kt1 ⟨σ1,H1,I1,q1⟩=>?_)
  exact h2 aj s1 σ1 H1 _ _ Q I1 (cJ.up kt1 rr) q1
def RU(K:Frag)(n:Nat)(t:Ii):TG:=fun v σ H Q=>∃a xs,v=.ref a/\gK K H a xs/\xs.length=n/\t xs σ H Q
theorem LG{es:List Expr}{k:Nat}{t:Ii}{n:Nat}(hc:X.calm=true)(h:J6 X es t)
  (hn:(assignEach es X.env).length=n:=by rfl) (kU:(assignEach es X.env).findIdx? (·.1)=none:=by rfl):PG X (.Tuple es k pos) (RU X.K n t):=by
 intro aj s σ H v u Q I r hw
 obtain⟨a,xs,e1,hq,hl,hw⟩:=hw
 subst e1
 cases r
 obtain⟨bN,rv,ht,hz⟩:=I.tuple hq
 refine assign_Tuple_tuple (I.ok.hd hc) ht (by simp[hn,<- hl,rv.length]) kU fun h' hx=>?_
 have I1:bF X aj σ H { s with heap:=h' }:=I.kept (t':=s.toks) fun b o e=>hx b o (aZ (aK e)) e
 exact h aj _ σ H xs _ Q I1 (by simpa using rv) hw
def RW(to ti:TE)(t:Ij):TG:=fun v σ H Q=>to σ H fun o H1=>ti σ H1 fun i H2=>t o i v H2 fun H3=>Q σ H3
theorem LH{o i:Expr}{to ti:TE}{t:Ij}(ho:PE X o to)(hi:PE X i ti)(hs:CY X t)
  (ha:∀v,assign (.Subscript o i pos) X.env v=(do
   let ov <- holding [v] (eval o X.env)
   let iv <- holding [v,ov] (eval i X.env)
   standAt pos
   holding [v,ov,iv] (setItem ov iv v)
   release [v,ov,iv] []):=by intro _;rfl):PG X (.Subscript o i pos) (RW to ti t):=by
 intro aj s σ H v u Q I r h
 rw[ha]
 refine af (db (i3 (ho aj s σ H _ I h) fun ov s1 kt1 ⟨x,H1,I1,r1,q1⟩=>?_))
 refine af (db (i3 (hi aj s1 σ H1 _ I1 q1) fun iv s2 kt2 ⟨y,H2,I2,r2,q2⟩=>?_))
 refine af (pL (af (db (i3 (hs aj s2 σ H2 x y v ov iv u _ I2 (r1.up kt2) r2 (r.up (aF kt1 kt2)) q2) fun _ s3 kt3 ⟨H3,I3,q3⟩=>?_))))
 exact wpAny_release ⟨σ,H3,I3,q3⟩
def D7(te:TE)(g:TG):TS:=fun D σ H=>te σ H fun x H1=>g x σ H1 D.nx
theorem D8{tg e:Expr}{te:TE}{g:TG}(he:PE X e te)(hg:PG X tg g)(hs:swapsWithSole [tg] e pos.line X.env=pure false:=by rfl)(hw:swappedStores [tg] e X.env=pure none:=by rfl)
  (h1:(assignEach [tg] X.env).map (·.2)=[assign tg X.env]:=by rfl):PS X (.Assign [tg] e pos) (D7 te g):=by
 intro aj s σ H D I h
 refine wpAny_Assign_stores (i3 (he aj s σ H _ I h) fun v s1 kt1 ⟨x,H1,I1,r1,q1⟩=>?_) hs hw
 rw[h1]
 exact z9 (hg aj s1 σ H1 x v _ I1 r1 q1) fun _ s2 q=>q
theorem LI{i:Nat}{x:Str}{e:Expr}{te:TE}{iP:Pos}(hN:X.N.Nodup)(hi:X.N[i]?=some x)(hx:HP X.env.scope x)(he:PE X e te)(hs:swapsWith e (some (.Name x iP)) pos.line X.env=pure false:=by rfl)(hf:X.fn x=true\/X.env.scope.names.lookup x=some .local:=by first|exact .inl rfl|exact .inr rfl|assumption) :
  PS X (.Assign [.Name x iP] e pos) (D7 te (J7 i)):=by
 intro aj s σ H D I h
 refine wpAny_Assign_Name (i3 (he aj s σ H _ I h) fun v s1 kt1 ⟨y,H1,I1,r1,q1⟩=>?_) hs
 exact tD I1 hN hi hx r1 (fun s2 I2=>⟨_,H1,I2,q1⟩) hf
end
section
variable{X:Cx}{pos:Pos}
def D9(c:TT)(tb:TS):TS:=fun D σ H=>∃W:Nat->St->Hp->Prop,(∃m,W m σ H)/\∀m σ H,W m σ H ->
 c σ H fun b H1=>if b=true then ∃N:St->Hp->Prop,(∀σ' H',N σ' H'->∃m',m'<m/\W m' σ' H')/\tb { D with nx:=N,ct:=N,bk:=D.nx } σ H1 else D.nx σ H1
theorem D_{c:Expr}{body:List Stmt}{tc:TT}{tb:TS}(hp:PassesOwn (model X.prog X.w) X.A X.env X.xe)(hc:PT X c tc)(hb:CW X body tb):PS X (.While c body [] pos) (D9 tc tb):=by
 intro aj s σ H D I h
 obtain⟨W,⟨m0,w0⟩,turn⟩:=h
 refine wpAny_While (codeAny_whileLoop (fun n s'=>∃σ' H',bF X aj σ' H' s'/\W n σ' H') ?_ m0 ⟨σ,H,I,w0⟩)
 rintro n s1 ⟨σ1,H1,I1,w1⟩
 refine fC hp (i3 (hc aj s1 σ1 H1 _ I1 (turn n σ1 H1 w1)) fun b s2 kt2 ⟨H2,I2,q2⟩=>?_)
 cases b with
 |true=>
  obtain⟨N,hN,q2⟩:=q2
  rw[aE rfl]
  refine fC hp (z9 (hb aj s2 σ1 H2 _ I2 q2) fun f s3 q3=>?_)
  cases f with
  |next=>
   obtain⟨σ3,H3,I3,n3⟩:=q3
   obtain⟨m',hm,w3⟩:=hN σ3 H3 n3
   exact⟨m',hm,σ3,H3,I3,w3⟩
  |cont=>
   obtain⟨σ3,H3,I3,n3⟩:=q3
   obtain⟨m',hm,w3⟩:=hN σ3 H3 n3
   exact⟨m',hm,σ3,H3,I3,w3⟩
  |brk=>exact q3
  |ret v=>exact q3
 |false=>
  rw[aN d_]
  exact iB ⟨σ1,H2,I2,q2⟩
end
structure It where
 go:Nat->Hp->Prop
 yld:Nat->Hp->V->Hp->Prop
 stop:Nat->Hp->Prop
def tF(X:Cx)(aj:List (Addr×Obj))(H:Hp)(b:Addr):Prop:=
 H b=none/\b≠X.env.locals/\b∉X.fs/\(b∈X.ex\/X.s₀.heap.objs.size<=b)/\(∀x c,X.env.cells.lookup x=some c->c≠b)/\∀p∈X.pn++aj,p.1≠b
theorem bF.fpOk{X:Cx}{aj:List (Addr×Obj)}{σ:St}{H H':Hp}{s:Shared}{b:Addr}(I:bF X aj σ H s)(hb:s.heap.objs.size<=b)(hn:H' b=none):tF X aj H' b:=by
 refine⟨hn,eE (aL I.lt hb),I.nofs hb,.inr (aF I.sz hb),fun x c e z=>?_,fun p hp z=>?_⟩
 ·obtain⟨v,q⟩:=I.cell x c e
  exact absurd (aL q.lt (by rw[z];exact hb)) (da _)
 ·exact absurd (aL (aK (I.pin p hp).1) (by rw[z];exact hb)) (da _)
structure z_(P:Program)(w:World)(K:Frag)(tg:Expr)(J:It)(fp:List Addr)(it:Addr)(tn:Nat->Heap->Prop):Prop where
 mem:it∈fp
 obj:∀i h,tn i h->∀b∈fp,∃o,h.get? b=some o/\∀v,o.data≠.cell v
 keep:∀i h h',tn i h->(∀b∈fp,∀o,h.get? b=some o->h'.get? b=some o)->tn i h'
 item:∀(X:Cx),X.prog=P->X.w=w->X.K=K->X.calm=true->∀(i:Nat) (aj:List (Addr×Obj)) (s:Shared) (σ:St) (H:Hp) (E:Value->Shared->Prop),bF X aj σ H s->(∀b∈fp,tF X aj H b)->tn i s.heap->J.go i H ->
  wpAny (model P w) X.A (pyNext (.ref it)) (fun r s1=>∃u,r=some u /\
   wpAny (model P w) X.A (letOwnedTupleGo tg (.ref it) u) (fun _ s2=>∃x H',bF X aj σ H' s2/\cO s2.toks x u/\J.yld i H x H'/\tn (i+1) s2.heap/\∀b∈fp,H' b=none) E s1) E s
 done:∀(X:Cx),X.prog=P->X.w=w->X.K=K->X.calm=true->∀(i:Nat) (aj:List (Addr×Obj)) (s:Shared) (σ:St) (H:Hp) (E:Value->Shared->Prop),bF X aj σ H s->(∀b∈fp,tF X aj H b)->tn i s.heap->J.stop i H ->
  wpAny (model P w) X.A (pyNext (.ref it)) (fun r s1=>r=none/\bF X aj σ H s1) E s
 self:∀(A:Around) (i:Nat) (s:Shared) (Q:Value->Shared->Prop) (E:Value->Shared->Prop),tn i s.heap->Q (.ref it) s->wpAny (model P w) A (pyIter (.ref it)) Q E s
abbrev TI:=St->Hp->(It->Hp->Prop)->Prop
def S8(X:Cx)(aj:List (Addr×Obj))(σ:St)(tg:Expr)(R:It->Hp->Prop)(SX:Value)(s2:Shared):Prop:=
 ∃(it:Addr) (fp:List Addr) (tn:Nat->Heap->Prop) (J:It) (H':Hp),SX=.ref it/\bF X aj σ H' s2/\z_ X.prog X.w X.K tg J fp it tn/\tn 0 s2.heap/\(∀b∈fp,tF X aj H' b)/\R J H'
def PI(X:Cx)(tg dL:Expr)(wi:TI):Prop:=
 ∀(aj:List (Addr×Obj)) (s:Shared) (σ:St) (H:Hp) (R:It->Hp->Prop),bF X aj σ H s->wi σ H R ->
  wpAny (model X.prog X.w) X.A (eval dL X.env) (fun v s1=>wpAny (model X.prog X.w) X.A (pyIter v) (S8 X aj σ tg R) X.xe s1) X.xe s
theorem xP    {M : Model} {A : Around} {E : Value -> Shared -> Prop} {s : Shared} {tg : Expr} {it : Addr} {u : Value} {o : Obj} {n : String} {vs : Array Value} {Q : Unit -> Shared -> Prop} (ho : s.heap.get? it = some o) (hc : o.cls = .type n) (hd : o.data = .fields vs)
    (hn : ["enumerate", "zip", "dict_itemiterator", "dict_reverseitemiterator", "odict_iterator", "itertools.zip_longest", "itertools.pairwise"].contains n = false) (hQ : Q () s) : wpAny M A (letOwnedTupleGo tg (.ref it) u) Q E s := by
  unfold letOwnedTupleGo
  cases tg <;> first
    | exact ay         hQ
    | (cases u <;> first
        | exact ay         hQ
        | (refine af         (wpAny_load ho ?_)
           rw [hc, hd]
           show wpAny M A (if (["enumerate", "zip", "dict_itemiterator", "dict_reverseitemiterator", "odict_iterator", "itertools.zip_longest", "itertools.pairwise"].contains n && vs[0]? == some (rawInt _)) = true then _ else _) Q E s
           rw [aN     (by intro h; rw [hn, kF            ] at h; cases h)]
           exact ay         hQ))
def S9(K:Frag)(a:Addr):It:=
 ⟨fun i H=>∃xs x,sf K H a xs/\xs[i]?=some x,fun i H x H'=>H'=H/\∀xs,sf K H a xs->xs[i]?=some x,fun i H=>∃xs,sf K H a xs/\xs.length<=i⟩
def S_(K:Frag)(a:Addr):It:=
 ⟨fun i H=>∃xs x,gK K H a xs/\xs[i]?=some x,fun i H x H'=>H'=H/\∀xs,gK K H a xs->xs[i]?=some x,fun i H=>∃xs,gK K H a xs/\xs.length<=i⟩
def OT(lo:Int)(n:Nat):It:=⟨fun i _=>i<n,fun i H x H'=>H'=H/\x=.int (lo+i),fun i _=>n<=i⟩
theorem CZ{P:Program}{w:World}{K:Frag}{tg:Expr}(a it:Addr):z_ P w K tg (S9 K a) [it] it (fun i h=>h.IsListIter it a i) where
 mem:=by simp
 obj:=fun i h st b hb=>by
  have e:b=it:=by simpa using hb
  subst e
  obtain⟨o,e,c,d⟩:=st
  exact⟨o,e,fun v z=>by rw[d]at z;cases z⟩
 keep:=fun i h h' st k=>st.at fun o e=>k it (by simp) o e
 item:=by
  intro X hP hw hK hc i aj s σ H E I hf st hg
  subst hP hw hK
  obtain⟨xs,x,hq,hx⟩:=hg
  obtain⟨bN,rv,p,hz⟩:=I.list hq
  obtain⟨u,hu,ru⟩:=rv.get hx
  obtain⟨f0,f1,f2,f3,f4,f5⟩:=hf it (by simp)
  refine wpAny_pyNext_list_item st p.isList (x:=u) (by simpa using hu) fun h' bf sb=>?_
  have I1:bF X aj σ H { s with heap:=h' }:=I.turned (t':=s.toks) (fun b o hb e=>(sb.2 b hb).trans e) f0 f1 f3 f4 f5
  obtain⟨o,e,c,d⟩:=id bf
  exact⟨u,rfl,xP (s:={ s with heap:=h' }) e c d (by decide) ⟨x,H,I1,ru,⟨rfl,fun ys hy=>by rw[I.list_inj hy hq];exact hx⟩,bf,fun b hb=>(hf b hb).1⟩⟩
 done:=by
  intro X hP hw hK hc i aj s σ H E I hf st hg
  subst hP hw hK
  obtain⟨xs,hq,hx⟩:=hg
  obtain⟨bN,rv,p,hz⟩:=I.list hq
  obtain⟨f0,f1,f2,f3,f4,f5⟩:=hf it (by simp)
  have hl:=rv.length
  exact wpAny_pyNext_list_end (I.ok.hd hc) st p.isList (by simp;omega) fun h' eb=>⟨rfl,I.turned (t':=s.toks) (fun b o hb e=>eb b o hb e) f0 f1 f3 f4 f5⟩
 self:=fun _ _ _ _ _ st h=>wpAny_pyIter_listiter st h
theorem Aa{P:Program}{w:World}{K:Frag}{tg:Expr}(a it:Addr):z_ P w K tg (S_ K a) [it] it (fun i h=>h.IsTupleIter it a i) where
 mem:=by simp
 obj:=fun i h st b hb=>by
  have e:b=it:=by simpa using hb
  subst e
  obtain⟨o,e,c,d⟩:=st
  exact⟨o,e,fun v z=>by rw[d]at z;cases z⟩
 keep:=fun i h h' st k=>st.at fun o e=>k it (by simp) o e
 item:=by
  intro X hP hw hK hc i aj s σ H E I hf st hg
  subst hP hw hK
  obtain⟨xs,x,hq,hx⟩:=hg
  obtain⟨bN,rv,p,hz⟩:=I.tuple hq
  obtain⟨u,hu,ru⟩:=rv.get hx
  obtain⟨f0,f1,f2,f3,f4,f5⟩:=hf it (by simp)
  refine wpAny_pyNext_tuple_item st (show s.heap.IsTuple a bN.toArray from p) (x:=u) (by simpa using hu) fun h' bf sb=>?_
  have I1:bF X aj σ H { s with heap:=h' }:=I.turned (t':=s.toks) (fun b o hb e=>(sb.2 b hb).trans e) f0 f1 f3 f4 f5
  obtain⟨o,e,c,d⟩:=id bf
  exact⟨u,rfl,xP (s:={ s with heap:=h' }) e c d (by decide) ⟨x,H,I1,ru,⟨rfl,fun ys hy=>by rw[I.tuple_inj hy hq];exact hx⟩,bf,fun b hb=>(hf b hb).1⟩⟩
 done:=by
  intro X hP hw hK hc i aj s σ H E I hf st hg
  subst hP hw hK
  obtain⟨xs,hq,hx⟩:=hg
  obtain⟨bN,rv,p,hz⟩:=I.tuple hq
  obtain⟨f0,f1,f2,f3,f4,f5⟩:=hf it (by simp)
  have hl:=rv.length
  exact wpAny_pyNext_tuple_end (I.ok.hd hc) st (show s.heap.IsTuple a bN.toArray from p) (by simp;omega) fun h' eb=>⟨rfl,I.turned (t':=s.toks) (fun b o hb e=>eb b o hb e) f0 f1 f3 f4 f5⟩
 self:=fun _ _ _ _ _ st h=>wpAny_pyIter_tupleiter st h
theorem Ab{P:Program}{w:World}{K:Frag}{tg:Expr}(it:Addr)(lo:Int)(n:Nat):z_ P w K tg (OT lo n) [it] it (fun i h=>IsRangeIter h it (lo+(i:Nat)*1) ((n:Int)-(i:Nat)) 1) where
 mem:=by simp
 obj:=fun i h st b hb=>by
  have e:b=it:=by simpa using hb
  subst e
  exact⟨_,st,fun v z=>by
   have z':Data.fields _=Data.cell v:=z
   cases z'⟩
 keep:=fun i h h' st k=>k it (by simp) _ st
 item:=by
  intro X hP hw hK hc i aj s σ H E I hf st hg
  subst hP hw hK
  obtain⟨f0,f1,f2,f3,f4,f5⟩:=hf it (by simp)
  have W:=Walks.range (prog:=X.prog) (w:=X.w) (I.ok.hd hc) it lo 1 n
  refine up (W.item i s _ _ hg st fun v h' tk hv bf kk hk=>?_)
  obtain⟨t,rfl⟩:=hv
  have I1:bF X aj σ H { s with heap:=h',toks:=tk }:=I.turned (fun b o hb e=>kk b o (by simpa using hb) e) f0 f1 f3 f4 f5
  refine⟨_,rfl,xP (s:={ s with heap:=h',toks:=tk }) (n:="range_iterator") bf rfl rfl (by decide) ⟨.int (lo+i),H,I1,⟨t,?_⟩,⟨rfl,rfl⟩,bf,fun b hb=>(hf b hb).1⟩⟩
  rw[Int.mul_one]
 done:=by
  intro X hP hw hK hc i aj s σ H E I hf st hg
  subst hP hw hK
  obtain⟨f0,f1,f2,f3,f4,f5⟩:=hf it (by simp)
  exact wpAny_pyNext_range_end (I.ok.hd hc) st (by have:n<=i:=hg;omega) fun h' eb=>⟨rfl,I.turned (t':=s.toks) (fun b o hb e=>eb b o hb e) f0 f1 f3 f4 f5⟩
 self:=fun _ _ _ _ _ st h=>mL st h
end L2
namespace L2
variable{nk:Nat}
open PySem PySem.Spec PyProof.Rows
section
variable{X:Cx}{tg:Expr}
def OU(K:Frag)(tl:TE):TI:=fun σ H R=>tl σ H fun x H1=>∃a,x=.ref a/\(∃xs,sf K H1 a xs)/\R (S9 K a) H1
def RX(K:Frag)(tl:TE):TI:=fun σ H R=>tl σ H fun x H1=>∃a,x=.ref a/\(∃xs,gK K H1 a xs)/\R (S_ K a) H1
theorem Im{l:Expr}{tl:TE}(hl:PE X l tl):PI X tg l (OU X.K tl):=by
 intro aj s σ H R I h
 refine i3 (hl aj s σ H _ I h) fun v s1 kt1 ⟨x,H1,I1,r1,q1⟩=>?_
 obtain⟨a,e,⟨xs,hq⟩,q⟩:=q1
 subst e
 cases r1
 obtain⟨bN,rv,p,hz⟩:=I1.list hq
 refine wpAny_pyIter_list p.isList ?_
 refine⟨s1.heap.objs.size,[s1.heap.objs.size],_,_,H1,rfl,I1.kept (t':=s1.toks) fun b o e=>ar _ e,CZ a _,⟨_,aI _ rfl,rfl,rfl⟩,fun b hb=>?_,q⟩
 have e:b=s1.heap.objs.size:=by simpa using hb
 subst e
 exact I1.fpOk (aw _) (I1.hok.fresh (aw _))
theorem LJ{l:Expr}{tl:TE}(hl:PE X l tl):PI X tg l (RX X.K tl):=by
 intro aj s σ H R I h
 refine i3 (hl aj s σ H _ I h) fun v s1 kt1 ⟨x,H1,I1,r1,q1⟩=>?_
 obtain⟨a,e,⟨xs,hq⟩,q⟩:=q1
 subst e
 cases r1
 obtain⟨bN,rv,p,hz⟩:=I1.tuple hq
 refine iR (show s1.heap.IsTuple a bN.toArray from p) ?_
 refine⟨s1.heap.objs.size,[s1.heap.objs.size],_,_,H1,rfl,I1.kept (t':=s1.toks) fun b o e=>ar _ e,Aa a _,⟨_,aI _ rfl,rfl,rfl⟩,fun b hb=>?_,q⟩
 have e:b=s1.heap.objs.size:=by simpa using hb
 subst e
 exact I1.fpOk (aw _) (I1.hok.fresh (aw _))
theorem xQ{aj:List (Addr×Obj)}{σ:St}{H:Hp}{s:Shared}{R:It->Hp->Prop}{E:Value->Shared->Prop}{lo hi:Int}{t u v:Tok}{tk:Nat}(I:bF X aj σ H s)(hk:s.toks<=tk)(h1:-(2^62)<=lo)(h2:lo<2^62)(h3:-(2^62)<=hi)(h4:hi<2^62)
  (q:R (OT lo (hi-lo).toNat) H):wpAny (model X.prog X.w) X.A (pyIter (.ref s.heap.objs.size)) (S8 X aj σ tg R) E { s with heap:=s.heap.push { cls:=.type "range",data:=.fields #[.int lo t,.int hi u,.int 1 v] },toks:=tk }:=by
 refine wpAny_pyIter_range (IsRange.new ..) (small_one h1 h2 h3 h4) ?_
 have I1:bF X aj σ H { s with heap:=s.heap.push { cls:=.type "range",data:=.fields #[.int lo t,.int hi u,.int 1 v] },toks:=tk }:=I.kept fun b o e=>ar _ e
 refine⟨(s.heap.push { cls:=.type "range",data:=.fields #[.int lo t,.int hi u,.int 1 v] }).objs.size,[(s.heap.push { cls:=.type "range",data:=.fields #[.int lo t,.int hi u,.int 1 v] }).objs.size],_,_,H,rfl,
  I1.kept (t':=tk) fun b o e=>ar _ e,Ab _ lo (hi-lo).toNat,?_,fun b hb=>?_,q⟩
 ·have e1:lo+((0:Nat):Int)*1=lo:=by simp
  have e2:(((hi-lo).toNat:Nat):Int)-((0:Nat):Int)=Builtin.Range.rangeSize lo hi 1:=by rw[rangeSize_one];split<;>omega
  show IsRangeIter _ _ (lo+((0:Nat):Int)*1) ((((hi-lo).toNat:Nat):Int)-((0:Nat):Int)) 1
  rw[e1,e2]
  exact aI _ rfl
 ·have e:b=(s.heap.push { cls:=.type "range",data:=.fields #[.int lo t,.int hi u,.int 1 v] }).objs.size:=by simpa using hb
  subst e
  exact I1.fpOk (aw _) (I1.hok.fresh (aw _))
def OV(ta:TA):TI:=fun σ H R=>ta σ H fun vs H1=>∃j:Int,vs=[.int j]/\-(2^62)<=j/\j<2^62/\R (OT 0 j.toNat) H1
def OW(ta:TA):TI:=fun σ H R=>ta σ H fun vs H1=>∃i j:Int,vs=[.int i,.int j]/\(-(2^62)<=i/\i<2^62/\-(2^62)<=j/\j<2^62)/\R (OT i (j-i).toNat) H1
theorem C0{a:Expr}{ta:TA}{p pos:Pos}(hg:Gl X "range")(hm:X.mg "range"=none)(ha:PA X [a] ta)(hs:starEach [a] X.env=[(false,eval a X.env)]:=by rfl):PI X tg (.Call (.Name "range" p) [a] [] pos) (OV ta):=by
 intro aj s σ H R I h
 refine Call_ (mq I hg hm qj (cZ (i3 (ha pos aj s σ H _ I h) fun us s1 kt1 ⟨vs,H1,I1,r1,q1⟩=>?_) hs rfl))
 obtain⟨j,e,q1,q2,q⟩:=q1
 subst e
 cases r1 with
 |cons r rr=>
  cases rr
  obtain⟨t,rfl⟩:=r
  exact call_range_1 (xQ I1 (by first|exact aw _|exact bi _|assumption|omega) (by omega) (by omega) q1 q2 (by simpa using q))
theorem C1{a b:Expr}{ta:TA}{p pos:Pos}(hg:Gl X "range")(hm:X.mg "range"=none)(ha:PA X [a,b] ta)(hs:starEach [a,b] X.env=[(false,eval a X.env),(false,eval b X.env)]:=by rfl)(ql:starEach [b] X.env=[(false,eval b X.env)]:=by rfl) :
  PI X tg (.Call (.Name "range" p) [a,b] [] pos) (OW ta):=by
 intro aj s σ H R I h
 refine Call_ (mq I hg hm qj (cZ (i3 (ha pos aj s σ H _ I h) fun us s1 kt1 ⟨vs,H1,I1,r1,q1⟩=>?_) (by rw[hs,ql]) (by rw[ql];rfl)))
 obtain⟨i,j,e,⟨q1,q2,q3,q4⟩,q⟩:=q1
 subst e
 cases r1 with
 |cons r rr=>
  cases rr with
  |cons r' rr=>
   cases rr
   obtain⟨t,rfl⟩:=r
   obtain⟨t',rfl⟩:=r'
   exact call_range_2 (xQ I1 (by first|exact aw _|exact bi _|assumption|omega) q1 q2 q3 q4 q)
def RY(wi:TI)(g:TG)(tb:TS):TS:=fun D σ H=>wi σ H fun J H1=>∃W:Nat->Nat->St->Hp->Prop,(∃m,W 0 m σ H1)/\∀i m σ H,W i m σ H ->
 (J.stop i H/\D.nx σ H)\/(J.go i H/\∃N:St->Hp->Prop,(∀σ' H',N σ' H'->∃m',m'<m/\W (i+1) m' σ' H')/\∀x H',J.yld i H x H'->g x σ H' fun σ2 H2=>tb { D with nx:=N,ct:=N,bk:=D.nx } σ2 H2)
def wl(fp:List Addr)(h:Heap):List (Addr×Obj):=fp.filterMap fun b=>(h.get? b).map fun o=>(b,o)
theorem jr{fp:List Addr}{h:Heap}{b:Addr}{o:Obj}(hb:b∈fp)(e:h.get? b=some o):(b,o)∈wl fp h:=kG.mpr ⟨b,hb,by rw[e];rfl⟩
theorem C2{fp:List Addr}{h:Heap}{p:Addr×Obj}(hp:p∈wl fp h):p.1∈fp/\h.get? p.1=some p.2:=by
 obtain⟨b,hb,e⟩:=kG.mp hp
 cases q:h.get? b with
 |none=>rw[q]at e;cases e
 |some o=>
  rw[q]at e
  have e':(b,o)=p:=bc e
  subst e'
  exact⟨hb,q⟩
theorem bF.pinned{aj:List (Addr×Obj)}{σ:St}{H:Hp}{s:Shared}{fp:List Addr}(I:bF X aj σ H s)(hf:∀b∈fp,tF X aj H b)(ho:∀b∈fp,∃o,s.heap.get? b=some o/\∀v,o.data≠.cell v):bF X (aj++wl fp s.heap) σ H s:=
 I.pins_of fun p hp=>(bj.mp hp).elim (fun z=>I.pin p (a7 _ z)) fun z=>by
  obtain⟨hb,e⟩:=C2 z
  obtain⟨f0,f1,f2,_⟩:=hf p.1 hb
  obtain⟨o,e',d⟩:=ho p.1 hb
  rw[e]at e';cases e'
  exact⟨e,f0,f1,f2,d⟩
theorem bF.unpinned{aj pl:List (Addr×Obj)}{σ:St}{H:Hp}{s:Shared}(I:bF X (aj++pl) σ H s):bF X aj σ H s:=I.pins_of fun p hp=>I.pin p (a7 _ (eQ _ hp))
theorem LK{dL:Expr}{body:List Stmt}{wi:TI}{g:TG}{tb:TS}{pos:Pos}(hp:PassesOwn (model X.prog X.w) X.A X.env X.xe)(hc:X.calm=true)(hi:PI X tg dL wi)(hg:PG X tg g)(hb:CW X body tb)
  (hs:∀x,foldedSetIterable dL X.env x=pure x:=by intro _;rfl):PS X (.For tg dL body [] pos) (RY wi g tb):=by
 intro aj s σ H D I h
 refine wpAny_For (z9 (hi aj s σ H _ I h) fun v s1 h1=>z9 h1 fun SX s2 h2=>?_) hs
 obtain⟨it,fp,tn,J,H2,e,I2,T,cN,f2,W,⟨m0,w0⟩,turn⟩:=h2
 subst e
 have stat:∀{H':Hp},(∀b∈fp,H' b=none)->∀b∈fp,tF X aj H' b:=fun hn b hb=>⟨hn b hb,(f2 b hb).2⟩
 refine codeAny_forLoop_any (fun n s'=>∃i σ' H',bF X aj σ' H' s'/\tn i s'.heap/\(∀b∈fp,H' b=none)/\W i n σ' H') ?_ m0 ⟨0,σ,H2,I2,cN,fun b hb=>(f2 b hb).1,w0⟩
 rintro n s3 ⟨i,σ3,H3,I3,jL,fr3,w3⟩
 rcases turn i n σ3 H3 w3 with⟨stop,qn⟩|⟨go,N,hN,step⟩
 ·refine fC hp (i3 (T.done X rfl rfl rfl hc i aj s3 σ3 H3 X.xe I3 (stat fr3) jL stop) fun r s4 kt4 ⟨hr,I4⟩=>?_)
  subst hr
  exact iB ⟨σ3,H3,I4,qn⟩
 ·refine fC hp (i3 (T.item X rfl rfl rfl hc i aj s3 σ3 H3 X.xe I3 (stat fr3) jL go) fun r s4 kt4 ⟨u,hr,h4⟩=>?_)
  subst hr
  refine fC hp (z9 h4 fun _ s5 ⟨x,H5,I5,r5,y5,Hl,fr5⟩=>?_)
  have I5':=I5.pinned (stat fr5) (T.obj _ _ Hl)
  refine fC hp (i3 (hg _ s5 σ3 H5 x u _ I5' r5 (step x H5 y5)) fun _ s6 kt6 ⟨σ6,H6,I6,q6⟩=>?_)
  refine fC hp (z9 (hb _ s6 σ6 H6 _ I6 q6) fun f s7 q7=>?_)
  have again:∀{σ7:St} {H7:Hp},bF X (aj++wl fp s5.heap) σ7 H7 s7->N σ7 H7->∃m,m<n/\∃i σ' H',bF X aj σ' H' s7/\tn i s7.heap/\(∀b∈fp,H' b=none)/\W i m σ' H':=fun{σ7 H7} I7 n7=>by
   obtain⟨m',hm,w7⟩:=hN σ7 H7 n7
   refine⟨m',hm,i+1,σ7,H7,I7.unpinned,T.keep _ _ _ Hl fun b hb o e=>(I7.pin (b,o) (a7 _ (a7 _ (jr hb e)))).1,fun b hb=>?_,w7⟩
   obtain⟨o,e,d⟩:=T.obj _ _ Hl b hb
   exact(I7.pin (b,o) (a7 _ (a7 _ (jr hb e)))).2.1
  cases f with
  |next=>obtain⟨σ7,H7,I7,n7⟩:=q7;exact again I7 n7
  |cont=>obtain⟨σ7,H7,I7,n7⟩:=q7;exact again I7 n7
  |brk=>obtain⟨σ7,H7,I7,q7⟩:=q7;exact⟨σ7,H7,I7.unpinned,q7⟩
  |ret v=>obtain⟨x7,σ7,H7,I7,r7,q7⟩:=q7;exact⟨x7,σ7,H7,I7.unpinned,r7,q7⟩
end
end L2
namespace L2
variable{nk:Nat}
open PySem PySem.Spec PyProof.Rows
abbrev R2:=V->V->Hp->VK->Prop
def lX(X:Cx)(f:Value->Value->Sem Value)(r:R2):Prop:=
 ∀(aj:List (Addr×Obj)) (s:Shared) (σ:St) (H:Hp) (x y:V) (v u:Value) (Q:VK),bF X aj σ H s->cO s.toks x v->cO s.toks y u->r x y H Q ->
  wpAny (model X.prog X.w) X.A (f v u) (EP X aj σ Q) X.xe s
def RZ(X:Cx)(f:Value->Sem Value)(r:V->Hp->VK->Prop):Prop:=
 ∀(aj:List (Addr×Obj)) (s:Shared) (σ:St) (H:Hp) (x:V) (v:Value) (Q:VK),bF X aj σ H s->cO s.toks x v->r x H Q ->
  wpAny (model X.prog X.w) X.A (f v) (EP X aj σ Q) X.xe s
def i4(X:Cx)(f:Value)(r:List V->Hp->VK->Prop):Prop:=
 ∀(aj:List (Addr×Obj)) (s:Shared) (σ:St) (H:Hp) (xs:List V) (us:List Value) (Q:VK),bF X aj σ H s->cJ s.toks xs us->r xs H Q ->
  wpAny (model X.prog X.w) X.A (call f us) (EP X aj σ Q) X.xe s
def OX(r:R2)(ta tb:TE):TE:=fun σ H Q=>ta σ H fun x H1=>tb σ H1 fun y H2=>r x y H2 Q
def TN(r:V->Hp->VK->Prop)(ta:TE):TE:=fun σ H Q=>ta σ H fun x H1=>r x H1 Q
def rI(C:Int->Int->Prop)(g:Int->Int->V):R2:=fun x y H Q=>∃i j,x=.int i/\y=.int j/\C i j/\Q (g i j) H
def DT(g:Int->Int->V):R2:=fun x y H Q=>∃i j,x=.int i/\y=.int j/\Q (g i j) H
def rU(g:Int->V):V->Hp->VK->Prop:=fun x H Q=>∃i,x=.int i/\Q (g i) H
section
variable{X:Cx}{a b c:Expr}{ta tb tc:TE}{pos:Pos}
theorem LM(ha:PE X a ta)(hb:PE X b tb){aj:List (Addr×Obj)}{s:Shared}{σ:St}{H:Hp}{R:V->V->Hp->Prop}(I:bF X aj σ H s)
  (h:ta σ H fun x H1=>tb σ H1 fun y H2=>R x y H2) {Q:Value->Shared->Prop} {f:Value->Value->Sem Value}
  (hf:∀v u s2 x y H2,bF X aj σ H2 s2->cO s2.toks x v->cO s2.toks y u->R x y H2->wpAny (model X.prog X.w) X.A (f v u) Q X.xe s2) :
  wpAny (model X.prog X.w) X.A (eval a X.env) (fun v s₁=>wpAny (model X.prog X.w) X.A (eval b X.env) (fun u s₂=>wpAny (model X.prog X.w) X.A (f v u) Q X.xe s₂) X.xe s₁) X.xe s:=by
 refine i3 (ha aj s σ H _ I h) fun v s1 kt1 ⟨x,H1,I1,r1,q1⟩=>?_
 refine i3 (hb aj s1 σ H1 _ I1 q1) fun u s2 kt2 ⟨y,H2,I2,r2,q2⟩=>?_
 exact hf v u s2 x y H2 I2 (r1.up kt2) r2 q2
theorem OY{op:Operator}{r:R2}(ho:lX X (binaryOp op) r)(ha:PE X a ta)(hb:PE X b tb):PE X (.BinOp a op b pos) (OX r ta tb):=by
 intro aj s σ H Q I h
 exact wpAny_BinOp (LM ha hb I h fun v u s2 x y H2 I2 rx ry q=>ho aj s2 σ H2 x y v u Q I2 rx ry q)
theorem OZ{op:UnaryOp}{r:V->Hp->VK->Prop}(ho:RZ X (unaryOp op) r)(ha:PE X a ta):PE X (.UnaryOp op a pos) (TN r ta):=by
 intro aj s σ H Q I h
 exact UnaryOp_ (i3 (ha aj s σ H _ I h) fun v s1 kt1 ⟨x,H1,I1,r1,q1⟩=>ho aj s1 σ H1 x v Q I1 r1 q1)
theorem LN{f:Value->Value->Sem Value}{C:Int->Int->Prop}{g:Int->Int->Int}
  (rule:∀(i j:Int) (t u:Tok) (s:Shared) (Q:Value->Shared->Prop) (E:Value->Shared->Prop),C i j->Q (.int (g i j) s.toks) { s with toks:=s.toks+1 }->wpAny (model X.prog X.w) X.A (f (.int i t) (.int j u)) Q E s) :
  lX X f (rI C fun i j=>.int (g i j)):=by
 intro aj s σ H x y v u Q I rx ry h
 obtain⟨i,j,rfl,rfl,hc,q⟩:=h
 obtain⟨t,rfl⟩:=rx
 obtain⟨t',rfl⟩:=ry
 exact rule i j t t' s _ _ hc ⟨.int (g i j),H,I.tok _,⟨_,rfl⟩,q⟩
theorem Io{f:Value->Value->Sem Value}{g:Int->Int->Int}
  (rule:∀(i j:Int) (t u:Tok) (s:Shared) (Q:Value->Shared->Prop) (E:Value->Shared->Prop),Q (.int (g i j) s.toks) { s with toks:=s.toks+1 }->wpAny (model X.prog X.w) X.A (f (.int i t) (.int j u)) Q E s) :
  lX X f (DT fun i j=>.int (g i j)):=by
 intro aj s σ H x y v u Q I rx ry h
 obtain⟨i,j,rfl,rfl,q⟩:=h
 obtain⟨t,rfl⟩:=rx
 obtain⟨t',rfl⟩:=ry
 exact rule i j t t' s _ _ ⟨.int (g i j),H,I.tok _,⟨_,rfl⟩,q⟩
theorem Ip{f:Value->Value->Sem Value}{g:Int->Int->Bool}
  (rule:∀(i j:Int) (t u:Tok) (s:Shared) (Q:Value->Shared->Prop) (E:Value->Shared->Prop),Q (.bool (g i j)) s->wpAny (model X.prog X.w) X.A (f (.int i t) (.int j u)) Q E s) :
  lX X f (DT fun i j=>.bl (g i j)):=by
 intro aj s σ H x y v u Q I rx ry h
 obtain⟨i,j,rfl,rfl,q⟩:=h
 obtain⟨t,rfl⟩:=rx
 obtain⟨t',rfl⟩:=ry
 exact rule i j t t' s _ _ ⟨.bl (g i j),H,I,rfl,q⟩
def R0(i j:Int):Prop:=0<j/\j<1073741824
def LO(i j:Int):Prop:=0<=j/\j<=1000000/\i.natAbs<2^64
def LP(i j:Int):Prop:=(-(2^64)<i/\i<2^64)\/(-(2^64)<j/\j<2^64)
theorem LP.ok{i j:Int}(h:LP i j):IntMulOk i j:=by
 rcases h with⟨h1,h2⟩|⟨h1,h2⟩
 ·exact .of_left (intBits_le_64 h1 h2)
 ·exact .of_right (intBits_le_64 h1 h2)
theorem Ac(k:Nat):(0:Int)<=2^k:=by
 rw[two_pow_cast]
 exact Int.natCast_nonneg _
theorem LQ:lX X (binaryOp .Add) (DT fun i j=>.int (i+j)):=Io fun _ _ _ _ _ _ _ q=>add_int q
theorem LR:lX X (binaryOp .Sub) (DT fun i j=>.int (i-j)):=Io fun _ _ _ _ _ _ _ q=>sub_int q
theorem LS:lX X (binaryOp .Mult) (rI LP fun i j=>.int (i*j)):=LN fun _ _ _ _ _ _ _ hc q=>mul_int q hc.ok
theorem Iq:lX X (binaryOp .FloorDiv) (rI R0 fun i j=>.int (i/j)):=LN fun i j _ _ _ _ _ hc q=>by
 have h1:(0:Int)<j:=hc.1
 have h2:j<1073741824:=hc.2
 exact floordiv_int (by omega) (by rw[kH i (by omega)];exact q) (.inl (mM (by omega)))
theorem LU:lX X (binaryOp .Mod) (rI (fun _ j=>0<j) fun i j=>.int (i%j)):=LN fun i j _ _ _ _ _ hc q=>by
 have h1:(0:Int)<j:=hc
 exact mod_int' (by omega) (by rw[Int.fmod_eq_emod_of_nonneg i (by omega)];exact q)
theorem LV:lX X (binaryOp .Pow) (rI LO fun i j=>.int (i^j.toNat)):=LN fun _ _ _ _ _ _ _ hc q=>pow_int_small hc.1 hc.2.1 hc.2.2 q
theorem D':lX X (binaryOp .LShift) (rI LO fun i j=>.int (i*2^j.toNat)):=LN fun _ _ _ _ _ _ _ hc q=>lshift_int_small hc.1 hc.2.1 hc.2.2 q
theorem LW:lX X (binaryOp .RShift) (rI (fun _ j=>0<=j) fun i j=>.int (i/2^j.toNat)):=LN fun i j _ _ _ _ _ hc q=>
 rshift_int hc (by rw[kH i (Ac _)];exact q)
theorem LX:lX X (binaryOp .BitAnd) (DT fun i j=>.int (Builtin.bitAnd i j)):=Io fun _ _ _ _ _ _ _ q=>and_int q
theorem O0:lX X (binaryOp .BitOr) (DT fun i j=>.int (Builtin.bitOr i j)):=Io fun _ _ _ _ _ _ _ q=>or_int q
theorem TQ{f:Value->Sem Value}{g:Int->Int}
  (rule:∀(i:Int) (t:Tok) (s:Shared) (Q:Value->Shared->Prop) (E:Value->Shared->Prop),Q (.int (g i) s.toks) { s with toks:=s.toks+1 }->wpAny (model X.prog X.w) X.A (f (.int i t)) Q E s) :
  RZ X f (rU fun i=>.int (g i)):=by
 intro aj s σ H x v Q I rx h
 obtain⟨i,rfl,q⟩:=h
 obtain⟨t,rfl⟩:=rx
 exact rule i t s _ _ ⟨.int (g i),H,I.tok _,⟨_,rfl⟩,q⟩
theorem LY:RZ X (unaryOp .USub) (rU fun i=>.int (-i)):=TQ fun _ _ _ _ _ q=>neg_int q
end
section
variable{X:Cx}{a b c:Expr}{ta tb tc:TE}{pos:Pos}
theorem LZ{aj:List (Addr×Obj)}{σ:St}{H:Hp}{s:Shared}{Q:VK}{k k':Bool}(I:bF X aj σ H s)(q:Q (.bl k) H)(e:k=k'):EP X aj σ Q (.bool k') s:=by
 subst e
 exact⟨.bl k,H,I,rfl,q⟩
theorem O1:lX X (compareOp .Lt) (DT fun i j=>.bl (decide (i<j))):=Ip fun _ _ _ _ _ _ _ q=>lt_int q
theorem O2:lX X (compareOp .LtE) (DT fun i j=>.bl (decide (i<=j))):=Ip fun _ _ _ _ _ _ _ q=>le_int q
theorem O3:lX X (compareOp .Gt) (DT fun i j=>.bl (decide (j<i))):=Ip fun _ _ _ _ _ _ _ q=>gt_int q
theorem O4:lX X (compareOp .GtE) (DT fun i j=>.bl (decide (j<=i))):=Ip fun _ _ _ _ _ _ _ q=>ge_int q
theorem C3:lX X (compareOp .In) (fun x y H Q=>∃i j,x=.str i/\y=.str j/\Q (.bl (!(Builtin.Str.occurrences j i 0 j.length 1).isEmpty)) H):=by
 intro aj s σ H x y v u Q I rx ry h
 obtain⟨i,j,rfl,rfl,q⟩:=h
 obtain⟨t,rfl⟩:=rx
 obtain⟨t',rfl⟩:=ry
 exact in_str (LZ I q rfl)
theorem Ea(b:Expr){op:CmpOp}(h:op≠.In:=by decide)(h2:op≠.NotIn:=by decide):behindInMarks op b=false:=by
 have e1:(op==CmpOp.In)=false:=by cases op<;>first|rfl|exact absurd rfl h
 have e2:(op==CmpOp.NotIn)=false:=by cases op<;>first|rfl|exact absurd rfl h2
 cases b<;>simp[behindInMarks,e1,e2]
theorem Ir{op:CmpOp}{r:R2}(ho:lX X (compareOp op) r)(ha:PE X a ta)(hb:PE X b tb)(hm:behindInMarks op b=false):PE X (.Compare a [op] [b] pos) (OX r ta tb):=by
 intro aj s σ H Q I h
 exact wpAny_Compare1 (LM ha hb I h fun v u s2 x y H2 I2 rx ry q=>ho aj s2 σ H2 x y v u Q I2 rx ry q) hm
def O5(t:TE):TT:=fun σ H Q=>t σ H fun x H'=>∃k,x=.bl k/\Q k H'
theorem Iu{op:CmpOp}{r:R2}(ho:lX X (compareOp op) r)(ha:PE X a ta)(hb:PE X b tb)(hm:behindInMarks op b=false):PT X (.Compare a [op] [b] pos) (O5 (OX r ta tb)):=by
 intro aj s σ H Q I h
 refine ny (i3 (ha aj s σ H _ I h) fun v s1 kt1 ⟨x,H1,I1,r1,q1⟩=>i3 (hb aj s1 σ H1 _ I1 q1) fun u s2 kt2 ⟨y,H2,I2,r2,q2⟩=>
  i3 (ho aj s2 σ H2 x y v u _ I2 (r1.up kt2) r2 q2) fun c s3 kt3 ⟨z,H3,I3,r3,k,e,q3⟩=>?_) hm
 subst e
 cases r3
 exact dM ⟨H3,I3,q3⟩
def Eb(r r':R2)(ta tb tc:TE):TE:=fun σ H Q=>ta σ H fun x H1=>tb σ H1 fun y H2=>r x y H2 fun z H3=>∃k,z=.bl k /\
 (if k=true then tc σ H3 fun w' H4=>r' y w' H4 Q else Q (.bl false) H3)
theorem Ec{op Oa:CmpOp}{r r':R2}(ho:lX X (compareOp op) r)(sN:lX X (compareOp Oa) r')(ha:PE X a ta)(hb:PE X b tb)(hc:PE X c tc)
  (hm:lastMarks [op,Oa] [b,c]=false:=by with_unfolding_all rfl):PE X (.Compare a [op,Oa] [b,c] pos) (Eb r r' ta tb tc):=by
 intro aj s σ H Q I h
 refine Compare_chain (i3 (ha aj s σ H _ I h) fun v s1 kt1 ⟨x,H1,I1,r1,q1⟩=>chain_link (i3 (hb aj s1 σ H1 _ I1 q1) fun u s2 kt2 ⟨y,H2,I2,r2,q2⟩=>
  i3 (ho aj s2 σ H2 x y v u _ I2 (r1.up kt2) r2 q2) fun d s3 kt3 ⟨z,H3,I3,r3,k,e,q3⟩=>?_)) hm
 subst e
 cases r3
 refine dM ?_
 cases k with
 |false=>exact ite_ff ⟨.bl false,H3,I3,rfl,q3⟩
 |true=>exact ite_tt (chain_last (i3 (hc aj s3 σ H3 _ I3 q3) fun w' s4 kt4 ⟨z',H4,I4,r4,q4⟩=>sN aj s4 σ H4 y z' u w' Q I4 (r2.up (by omega)) r4 q4))
theorem rj:(sizeLine:Nat)<2^63:=by rw[lj];decide
theorem bF.addS{aj:List (Addr×Obj)}{σ:St}{H:Hp}{s:Shared}{Q:VK}{i j:Str}{t:Tk s.toks i}{t':Tk s.toks j}(I:bF X aj σ H s)(q:Q (.str (i++j)) H)(hz:i.length+j.length<=sizeLine) :
  (if i.length==0 then Made.val (.str j t'.1)else if j.length==0 then Made.val (.str i t.1)else Made.str (i++j)).post (EP X aj σ Q) s:=by
 split
 ·rename_i h
  have e:i++j=j:=by
   have h0:i.cps=#[]:=f9 (by simpa[Str.length]using h)
   show Str.append i j=j
   cases hj:j;simp[Str.append,h0]
  rw[e]at q
  exact⟨.str j,H,I,⟨t',rfl⟩,q⟩
 ·split
  ·rename_i h
   have e:i++j=i:=by
    have h0:j.cps=#[]:=f9 (by simpa[Str.length]using h)
    show Str.append i j=i
    cases hj:i;simp[Str.append,h0]
   rw[e]at q
   exact⟨.str i,H,I,⟨t,rfl⟩,q⟩
  ·exact⟨by rw[strLen_append];exact hz,⟨.str (i++j),H,I.tok _,I.tkS,q⟩⟩
theorem Ad:lX X (binaryOp .Add) (fun x y H Q=>∃i j,x=.str i/\y=.str j/\i.length+j.length<=sizeLine/\Q (.str (i++j)) H):=by
 intro aj s σ H x y v u Q I rx ry h
 obtain⟨i,j,rfl,rfl,hz,q⟩:=h
 obtain⟨t,rfl⟩:=rx
 obtain⟨t',rfl⟩:=ry
 exact PySem.P.add_str (I.addS q hz)
theorem nC{x:V}{us:List Value}(r:cJ nk [x] us):∃u,us=[u]/\cO nk x u:=by
 cases r with
 |cons r1 r2=>cases r2;exact⟨_,rfl,r1⟩
theorem O6{x y:V}{us:List Value}(r:cJ nk [x,y] us):∃u w',us=[u,w']/\cO nk x u/\cO nk y w':=by
 cases r with
 |cons r1 r2=>
  cases r2 with
  |cons r3 r4=>cases r4;exact⟨_,_,rfl,r1,r3⟩
theorem C4(hc:X.calm=true):i4 X (.builtin "max") (fun xs H Q=>∃i j,xs=[.int i,.int j]/\Q (.int (if j>i then j else i)) H):=by
 intro aj s σ H xs us Q I r h
 obtain⟨i,j,rfl,q⟩:=h
 obtain⟨u,w',rfl,⟨t,rfl⟩,⟨t',rfl⟩⟩:=O6 r
 refine up (max_two_ints (I.ok.hd hc) fun h' tk k hk=>⟨_,H,I.kept k,?_,q⟩)
 by_cases hj:j>i
 ·rw[aE hj,aE hj];exact⟨_,rfl⟩
 ·rw[aN hj,aN hj];exact⟨_,rfl⟩
end
end L2
namespace L2
variable{nk:Nat}
open PySem PySem.Spec PyProof.Rows
structure L0(h:Heap)(x dx C:Addr)(mA:Str->Option Value):Prop where
 obj:h.get? x=some (PySem.W.instObj C dx)
 ns:h.Ns1 dx mA
 ne:dx≠x
theorem C5{h:Heap}{dx:Addr}{mA:Str->Option Value}(n:h.Ns1 dx mA):∃od,h.get? dx=some od/\∀name,PySem.W.lookIn name od=some (mA name):=by
 obtain⟨o,es,ep,ho,hd,hk,_,hm⟩:=n
 refine⟨o,ho,fun name=>?_⟩
 have e:=hm name
 unfold nsFind findBy at e
 rw[<- Array.find?_toList]at e
 unfold PySem.W.lookIn
 rw[hd]
 dsimp only
 split
 ·rename_i y q
  rw[q]at e
  exact ir some e
 ·rename_i q
  rw[q]at e
  have a:es.toList.any (·.refKey)=false:=by
   rw[ln]
   intro y hy
   obtain⟨z,t,hkey⟩:=hk y (Array.mem_toList_iff.mp hy)
   simp[DictEntry.refKey,hkey]
  have a':¬ es.toList.any (·.refKey)=true:=by rw[a];exact d_
  rw[aN a']
  exact ir some e
theorem L0.look{h:Heap}{x dx C:Addr}{mA:Str->Option Value}(I:L0 h x dx C mA):∃od,PySem.W.InstAt h x (PySem.W.instObj C dx) C (some od)/\∀name,PySem.W.lookIn name od=some (mA name):=
 let ⟨od,ho,hl⟩:=C5 I.ns
 ⟨od,⟨I.obj,rfl,rfl,ho⟩,hl⟩
section
variable{prog:Program}{w:World}{A:Around}{E:Value->Shared->Prop}{s:Shared}{K:Frag}{x dx C f:Addr}{mA:Str->Option Value}{name:Str}{v:Value}
end
section
variable{P:Program}{w:World}{H H':Hp}{h h':Heap}{a C dx:Addr}{fs T7:List (Str×V)}
theorem Iv(hok:oF P w nk H h)(e:H a=some (.ins C dx fs)):∃mA,L0 h a dx C mA/\(∀f,sO nk (fs.lookup f) (mA f))/\PySem.Within mA (fs.map (·.1))/\fs.length<=1000/\H dx=some (.own a):=by
 obtain⟨d,z,ne,ob,mA,n,r,q⟩:=(show eJ P w _ H h a (.ins C dx fs)from hok a _ e)
 exact⟨mA,⟨ob,n,ne⟩,r,q,z,d⟩
end
structure J8(K:Frag)(C:Addr):Prop where
 pg:PySem.W.plainGet K C Str.empty=true
 hd:PySem.W.hasDictIn K C=true
 po:PySem.W.plainOver K C=true
 sa:findIn K (.ref C) "__setattr__"=some (some (.builtin "object.__setattr__"))
theorem J8.get{K:Frag}{C:Addr}(c:J8 K C)(f:Str):PySem.W.plainGet K C f=true:=c.pg
section
variable{X:Cx}{aj:List (Addr×Obj)}{σ:St}{H:Hp}{s:Shared}{a C dx:Addr}{fs:List (Str×V)}{f:Str}{v:V}{A:Around}{E:Value->Shared->Prop}
end
section
variable{X:Cx}{o e value:Expr}{f:Str}{pos iP SL:Pos}{ta tv:TE}
end
section
variable{X:Cx}{aj:List (Addr×Obj)}{σ:St}{H:Hp}{s:Shared}{A:Around}{E:Value->Shared->Prop}{Q:Value->Shared->Prop}{c:Value}{b:Bool}
inductive sP(K:Frag)(H:Hp):V->Value->Prop where
 |non:sP K H .non (.type "NoneType")
 |bl (x:Bool):sP K H (.bl x) (.type "bool")
 |int (i:Int):sP K H (.int i) (.type "int")
 |str (x:Str):sP K H (.str x) (.type "str")
 |flt (x:UInt64):sP K H (.flt x) (.type "float")
 |lst {a:Addr} {xs:List V} (e:H a=some (.lst xs)):sP K H (.ref a) (.type "list")
 |frz {a:Addr} {o:Obj} {xs:List V} (e:H a=some (.frz o (.lst xs))):sP K H (.ref a) (.type "list")
 |tup {a:Addr} {xs:List V} (e:H a=some (.tup xs)):sP K H (.ref a) (.type "tuple")
 |dK {a:Addr} {kvs:List (jF×V)} (e:H a=some (.dK kvs)):sP K H (.ref a) (.type "dict")
 |dT {a:Addr} {kvs:List (List jF×V)} (e:H a=some (.dT kvs)):sP K H (.ref a) (.type "dict")
 |ins {a C dx:Addr} {fs:List (Str×V)} (e:H a=some (.ins C dx fs)) (cl:J8 K C) (ha:findIn K (.ref C) "__class__"=some (some (.builtin "object.__class__")))
   (hn:PySem.W.specialIn K (.builtin "object.__class__") "__get__"=some (some (.builtin "getset_descriptor.__get__"))) (RG:PySem.W.takesIn K (.builtin "object.__class__")=some true)
   (hm:PySem.W.mroIn K C (.type "object")=some true):sP K H (.ref a) (.ref C)
theorem oG{x:V}{u t:Value}(I:bF X aj σ H s)(rx:cO s.toks x u)(ty:sP X.K H x t)(e:kitOne X.K t c=some b)(h:∀tk,Q (.bool b) { s with toks:=tk }) :
  wpAny (model X.prog X.w) A (call (.builtin "isinstance") [u,c]) Q E s:=by
 cases ty with
 |non=>cases(show u=Value.none from rx);exact kia_one PySem.W.kitx_none I.kIn True.intro e (fun z=>nomatch z) h
 |bl y=>cases(show u=Value.bool y from rx);exact kia_one PySem.W.kitx_bool I.kIn True.intro e (fun z=>nomatch z) h
 |int i=>obtain⟨t,q⟩:=(show ∃t,u=Value.int i t from rx);cases q;exact kia_one PySem.W.kitx_int I.kIn True.intro e (fun z=>nomatch z) h
 |str y=>obtain⟨t,q⟩:=(show ∃t:Tk _ y,u=Value.str y t.1 from rx);cases q;exact kia_one PySem.W.kitx_str I.kIn True.intro e (fun z=>nomatch z) h
 |flt y=>obtain⟨t,q⟩:=(show ∃t,u=Value.float y t from rx);cases q;exact kia_one PySem.W.kitx_float I.kIn True.intro e (fun z=>nomatch z) h
 |@lst a xs ea=>
  cases(show u=Value.ref a from rx)
  obtain⟨_,_,n,_,h1⟩:=(show eJ X.prog X.w _ H s.heap a (.lst xs)from I.hok a _ ea)
  exact kia_one PySem.W.kitx_list I.kIn ⟨_,h1,rfl⟩ e (fun z=>nomatch z) h
 |@frz a ob xs ea=>
  cases(show u=Value.ref a from rx)
  obtain⟨_,_,_,n,_,h1⟩:=(show eJ X.prog X.w _ H s.heap a (.frz ob (.lst xs))from I.hok a _ ea)
  exact kia_one PySem.W.kitx_list I.kIn ⟨_,h1,rfl⟩ e (fun z=>nomatch z) h
 |@tup a xs ea=>
  cases(show u=Value.ref a from rx)
  obtain⟨_,_,_,p⟩:=(show eJ X.prog X.w _ H s.heap a (.tup xs)from I.hok a _ ea)
  obtain⟨o,h1,h2,_⟩:=p
  exact kia_one PySem.W.kitx_tuple I.kIn ⟨o,h1,h2⟩ e (fun z=>nomatch z) h
 |@dK a kvs ea=>
  cases(show u=Value.ref a from rx)
  obtain⟨_,_,vs,_,p⟩:=(show eJ X.prog X.w _ H s.heap a (.dK kvs)from I.hok a _ ea)
  obtain⟨o,es,ep,h1,h2,_⟩:=p
  exact kia_one PySem.W.kitx_dict I.kIn ⟨o,h1,h2.1⟩ e (fun z=>nomatch z) h
 |@dT a kvs ea=>
  cases(show u=Value.ref a from rx)
  obtain⟨_,_,xs,_,o,es,ep,h1,h2,_⟩:=(show eJ X.prog X.w _ H s.heap a (.dT kvs)from I.hok a _ ea)
  exact kia_one PySem.W.kitx_dict I.kIn ⟨o,h1,h2.1⟩ e (fun z=>nomatch z) h
 |@ins a C dx fs ea cl ha hn RG hm=>
  cases(show u=Value.ref a from rx)
  obtain⟨mA,O,_⟩:=Iv I.hok ea
  obtain⟨od,J,_⟩:=O.look
  exact kia_one (PySem.W.kitx_own (cl.get _) cl.hd ha hn RG hm) I.kIn J e (fun z=>nomatch z) h
end
end L2
namespace L2
variable{nk:Nat}
open PySem PySem.Spec PyProof.Rows
structure js(k:Nat)(A:Around):Prop where
 hd:A.handled=none
 dp:A.depth+2*k+5<recursionLimit
 un:A.units+16*k+200<cLine
theorem js.mono{j k:Nat}{A:Around}(r:js k A)(h:j<=k):js j A:=⟨r.hd,by have:=r.dp;omega,by have:=r.un;omega⟩
theorem js.deeper{k:Nat}{A:Around}(r:js (k+1) A)(env:Env):js k (A.deeper env):=
 ⟨r.hd,by have:=r.dp;show A.depth+1+2*k+5<_;omega,by have:=r.un;show A.units+3+16*k+200<_;omega⟩
theorem js.depth{k:Nat}{A:Around}(r:js k A):A.depth<recursionLimit:=by have:=r.dp;omega
theorem js.units{k:Nat}{A:Around}(r:js k A):A.units+64<cLine:=by have:=r.un;omega
def R1:TA:=fun _ H Q=>Q [] H
def O7(ta:TE)(tr:TA):TA:=fun σ H Q=>ta σ H fun x H1=>tr σ H1 fun xs H2=>Q (x::xs) H2
section
variable{X:Cx}{e:Expr}{es:List Expr}{te:TE}{t:TA}{pos:Pos}
theorem nD:PA X [] R1:=fun _ _ _ _ H Q I h=>fJ ⟨[],H,I,.nil,h⟩
theorem iw(ha:PE X e te)(hr:PA X es t)(hs:starEach (e::es) X.env=(false,eval e X.env)::starEach es X.env:=by rfl):PA X (e::es) (O7 te t):=by
 intro pos aj s σ H Q I h
 rw[hs]
 show wpAny _ _ (spliced ((false,eval e X.env)::backTo pos (starEach es X.env))) _ _ s
 refine dC (i3 (ha aj s σ H _ I h) fun u s1 kt1 ⟨x,H1,I1,r1,q1⟩=>?_)
 exact i3 (hr pos aj s1 σ H1 _ I1 q1) fun us s2 kt2 ⟨xs,H2,I2,r2,q2⟩=>⟨x::xs,H2,I2,.cons (r1.up kt2) r2,q2⟩
end
abbrev Sp:=List V->Hp->VK->XK->Prop
abbrev DU:=List Env->Hp->Shared->XK->Value->Shared->Prop
structure Iw(P:Program)(w:World)(K:Frag)(mg:Str->Option Value)(base:Heap)(A:Around)(outer:List Env)(s:Shared)(H:Hp):Prop where
 frames:A.frames=some outer
 mod:Mod K mg base
 bs:∀b o,base.get? b=some o->s.heap.get? b=some o/\H b=none
 bsz:base.objs.size<=s.heap.objs.size
 funs:s.heap.FunFrames base outer
 frf:∀b∈qo outer,H b=none
 hok:oF P w s.toks H s.heap
 bare:AllBare s.gens
def CE(outer:List Env)(P:Program)(w:World)(H:Hp)(s:Shared)(Q:VK)(u:Value)(s':Shared):Prop:=
 ∃v H',s'.os=s.os/\AllBare s'.gens/\Un (qo outer) [] H H' s.heap s'.heap/\oF P w s'.toks H' s'.heap/\cO s'.toks v u/\Q v H'
def CR(CX:DU)(outer:List Env)(P:Program)(w:World)(H:Hp)(s:Shared)(Q:VK)(E:XK)(r:Result)(s':Shared):Prop:=
 match r with
 |.ok (.ret u)=>CE outer P w H s Q u s'
 |.ok _=>False
 |.error e=>CX outer H s E e s'
structure eK(P:Program)(w:World)(K:Frag)(mg:Str->Option Value)(base:Heap)(CX:DU)(k:Nat)(f:Addr)(fd:FuncData)(ps:List Str)(sp:Sp):Prop where
 len:∀vs H Q E,sp vs H Q E->vs.length=ps.length
 run:∀(A:Around) (outer:List Env) (s:Shared) (H:Hp) (args:Args) (us:List Value) (vs:List V) (Q:VK) (E:XK),js k A->Iw P w K mg base A outer s H->(0<s.toks\/∃n,ps=[n]/\fd.scope.names.lookup n=some .local)->BindsTo s fd args (ps.zip us)->cJ s.toks vs us->sp vs H Q E ->
  codeAny (model P w) A (.call (.ref f) args) (CR CX outer P w H s Q E) s
theorem eK.mono{P:Program}{w:World}{K:Frag}{mg:Str->Option Value}{base:Heap}{CX:DU}{j k:Nat}{f:Addr}{fd:FuncData}{ps:List Str}{sp:Sp}(F:eK P w K mg base CX j f fd ps sp)(h:j<=k) :
  eK P w K mg base CX k f fd ps sp:=⟨F.len,fun A outer s H args us vs Q E hr=>F.run A outer s H args us vs Q E (hr.mono h)⟩
theorem eK.imp{P:Program}{w:World}{K:Frag}{mg:Str->Option Value}{base:Heap}{CX:DU}{k:Nat}{f:Addr}{fd:FuncData}{ps:List Str}{sp TC:Sp}(F:eK P w K mg base CX k f fd ps sp)
  (h:∀vs H Q E,TC vs H Q E->sp vs H Q E):eK P w K mg base CX k f fd ps TC:=
 ⟨fun vs H Q E q=>F.len vs H Q E (h _ _ _ _ q),fun A outer s H args us vs Q E hr he hp hb hv hs=>F.run A outer s H args us vs Q E hr he hp hb hv (h _ _ _ _ hs)⟩
section
variable{X:Cx}{aj:List (Addr×Obj)}{σ:St}{H:Hp}{s s':Shared}
theorem bF.env0(I:bF X aj σ H s):Iw X.prog X.w X.K X.mg X.base X.A X.stack s H:=
 ⟨I.ok.frames,I.ok.mod,I.bs,aF I.ok.bsz I.sz,I.stack,I.stkFree,I.hok,I.bare⟩
theorem bF.after{Q:VK}{u:Value}(I:bF X aj σ H s)(h:CE X.stack X.prog X.w H s Q u s')(hk:s.toks<=s'.toks):EP X aj σ Q u s':=by
 obtain⟨v,H',os,bare,un,hok,r,q⟩:=h
 obtain⟨hh,g,d,t,os'⟩:=s'
 obtain rfl:os'=s.os:=os
 exact⟨v,H',I.call (h':=hh) (g':=g) (d':=d) (t':=t) (ch:=[]) un hok bare (fun b z=>absurd z (by simp)) hk,r,q⟩
end
def xR(K:Frag)(fd:FuncData)(ps:List Str)(ds:List Value):Prop:=
 ∀(s:Shared) (us:List Value),K.In s.heap->(us++ds).length=ps.length->BindsTo s fd ⟨us,[]⟩ (ps.zip (us++ds))
theorem xR.all{K:Frag}{fd:FuncData}{ps:List Str}(h:∀us:List Value,us.length=ps.length->bindArgs fd ⟨us,[]⟩=pure (ps.zip us)):xR K fd ps []:=fun s us _ hl=>by
 rw[dB]at hl ⊢
 exact .of_eq (h us hl)
section
variable{X:Cx}{CX:DU}{k:Nat}{f C:Addr}{fd:FuncData}{ps:List Str}{sp:Sp}{Uf:List V}{ds:List Value}{E:XK}{x m:Str}{p pos gc:Pos}{e o:Expr}{es:List Expr}{ta:TE}{t:TA}
end
section
variable{X:Cx}{CX:DU}{k:Nat}{f C:Addr}{fd:FuncData}{ps ks:List Str}{sp:Sp}{E:XK}{x m:Str}{p pos gc Ua:Pos}{e o:Expr}{es:List Expr}{Uc:List Keyword}{te ta:TE}{t tk:TA}{nm:Option Str}
variable{g:List Value->List Value->List Value}{gV:List V->List V->List V}
end
structure bG(N P:List Str)(sc:Scope):Prop where
 kind:sc.kind=.function
 co:sc.isCoroutine=false
 gen:sc.isGenerator=false
 nd:N.Nodup
 pre:N.take P.length=P
 par:∀x∈P,sc.names.lookup x=some .local\/sc.names.lookup x=some .cell
 nofree:∀y∈sc.names,y.2≠.free
theorem ve{kindOf:Str->Option NameKind}{x:Str}:∀{binds:List (Str×Value)} {m:Str->Option Value},(∀v,(x,v)∉binds)->bindL kindOf binds m x=m x
 |[],_,_=>rfl
 |(n,v)::r,m,h=>by
  unfold bindL
  rw[ve fun w hw=>h w (bv _ hw)]
  split
  ·have:x≠n:=by rintro rfl;exact h v c_
   simp[this]
  ·rfl
theorem vf{kindOf:Str->Option NameKind}{x:Str}:∀{binds:List (Str×Value)} {m:Str->Option Value},(∀v,(x,v)∉binds)->bindC kindOf binds m x=m x
 |[],_,_=>rfl
 |(n,v)::r,m,h=>by
  unfold bindC
  rw[vf fun w hw=>h w (bv _ hw)]
  split
  ·rfl
  ·have:x≠n:=by rintro rfl;exact h v c_
   simp[this]
theorem vg{kindOf:Str->Option NameKind}{x:Str}{v:Value}:∀{P:List Str} {vs:List Value} {i:Nat} {m:Str->Option Value},P.Nodup->P[i]?=some x->vs[i]?=some v->kindOf x=some .local ->
  bindL kindOf (P.zip vs) m x=some v
 |[],_,_,_,_,h,_,_=>by simp at h
 |_::_,[],_,_,_,_,h,_=>by simp at h
 |p::P,w::vs,0,m,nd,h1,h2,hk=>by
  simp at h1 h2;subst h1;subst h2
  show bindL kindOf ((p,w)::P.zip vs) m p=_
  unfold bindL
  rw[ve fun v hv=>(iC.mp nd).1 (na hv).1,aE hk]
  simp
 |p::P,w::vs,i+1,m,nd,h1,h2,hk=>by
  show bindL kindOf ((p,w)::P.zip vs) m x=_
  unfold bindL
  exact vg (i:=i) (iC.mp nd).2 (by simpa using h1) (by simpa using h2) hk
theorem vh{kindOf:Str->Option NameKind}{x:Str}{v:Value}:∀{P:List Str} {vs:List Value} {i:Nat} {m:Str->Option Value},P.Nodup->P[i]?=some x->vs[i]?=some v->kindOf x≠some .local ->
  bindC kindOf (P.zip vs) m x=some v
 |[],_,_,_,_,h,_,_=>by simp at h
 |_::_,[],_,_,_,_,h,_=>by simp at h
 |p::P,w::vs,0,m,nd,h1,h2,hk=>by
  simp at h1 h2;subst h1;subst h2
  show bindC kindOf ((p,w)::P.zip vs) m p=_
  unfold bindC
  rw[vf fun v hv=>(iC.mp nd).1 (na hv).1,aN hk]
  simp
 |p::P,w::vs,i+1,m,nd,h1,h2,hk=>by
  show bindC kindOf ((p,w)::P.zip vs) m x=_
  unfold bindC
  exact vh (i:=i) (iC.mp nd).2 (by simpa using h1) (by simpa using h2) hk
def sg(N:List Str)(vs:List V):St:=vs.map some++List.replicate (N.length-vs.length) none
def Ae(CX:DU)(P:Program)(w:World)(K:Frag)(mg:Str->Option Value)(base:Heap)(N:List Str)(fq:Str)(scope:Scope)(f:Addr)(cd:Value)(A:Around)(outer:List Env)(s:Shared)(H:Hp)(E:XK):Cx where
 prog:=P
 w:=w
 K:=K
 mg:=mg
 base:=base
 A:=A.deeper (envOfC fq scope s.heap.objs.size f cd)
 N:=N
 s₀:=s
 H₀:=H
 env:=envOfC fq scope s.heap.objs.size f cd
 outer:=outer
 stack:=envOfC fq scope s.heap.objs.size f cd::outer
 ex:=[]
 calm:=true
 fn:=fun _=>true
 pn:=[]
 xe:=fun e s'=>wpAny (model P w) (A.deeper (envOfC fq scope s.heap.objs.size f cd)) (leaving (envOfC fq scope s.heap.objs.size f cd) e) (fun _ s''=>CX outer H s E e s'') (fun e' s''=>CX outer H s E e' s'') s'
theorem lY{sc:Scope}{n:Nat}{x:Str}(h:sc.names.lookup x=some .cell):∃c,(cellsFrom n sc.names []).lookup x=some c:=by
 have q:=PySem.W.cellsFrom_some sc.names n [] (.inl h)
 exact Option.isSome_iff_exists.mp q
theorem Af{M:Model}{A:Around}{E:Value->Shared->Prop}{s:Shared}{scope:Scope}{globals:Addr}{n:Str}{v:Value}{fq:Str}{func:Option Addr}{code:Value}{builtins:Addr}{Q:Env->Shared->Prop}
  (hk:scope.kind=.function) (hl:scope.names.lookup n=some .local)
  (hQ:∀env,env=newEnv scope s.heap.objs.size globals (cellsFrom (s.heap.objs.size+1) scope.names []) fq func code none builtins ->
   ∀s',s.toks<s'.toks->InCallC s env.locals (bindL env.kindOf [(n,v)] fun _=>none) env.cells (bindC env.kindOf [(n,v)] fun _=>none) s'->Q env s') :
  wpAny M A (newFunctionEnv scope globals [] [(n,v)] fq func code none builtins) Q E s:=by
 simp only[newFunctionEnv,Option.isSome_none,gl,iu]
 refine af (wpAny_alloc ?_)
 refine af (wpAny_layCells _ (fun name kind cells=>by cases hkc:kind==NameKind.cell<;>simp[hkc]) _ _ _ _ ?_)
 have ok:=cellsFrom_ok scope.names (s.heap.push { cls:=.type "frame",data:=.dict #[] }) (s.heap.objs.size+1) [] ⟨fun _ _ hm=>(nomatch hm),List.Pairwise.nil⟩ (by rw[bZ];exact aw _)
 rw[bZ]at ok
 rw[show({ s with heap:=s.heap.push { cls:=.type "frame",data:=.dict #[] } }:Shared).heap.objs.size=s.heap.objs.size+1 from bZ ..]
 have x:InCallC s s.heap.objs.size (fun _=>none) (cellsFrom (s.heap.objs.size+1) scope.names []) (fun _=>none) { s with heap:=pushCells (s.heap.push { cls:=.type "frame",data:=.dict #[] }) scope.names }:=
  ⟨⟨⟨_,_,rfl⟩,(Heap.Ns.new s.heap (.type "frame")).keeps (jN _ _),fun b o e=>jN _ _ b o (ar _ e),aw _⟩,
   fun n c hc=>(ok.empty n c (PySem.mem_of_lookup hc)).1,ok.apart,fun n c hm=>(ok.empty n c hm).2⟩
 refine af ?_
 rw[List.forIn_cons]
 refine af (af (nv (env:=newEnv scope s.heap.objs.size globals (cellsFrom (s.heap.objs.size+1) scope.names []) fq func code none builtins) hl x.toInCall.ns (fun h' Rp hs'=>ay ?_) (by show(scope.kind==_||(scope.kind==_&&_))=false;rw[hk];rfl)))
 show wpAny M A (forIn [] _ _) _ _ _
 rw[List.forIn_nil]
 refine ay (ay (hQ _ rfl _ (cy _) ?_))
 have e1:bindL (newEnv scope s.heap.objs.size globals (cellsFrom (s.heap.objs.size+1) scope.names []) fq func code none builtins).kindOf [(n,v)] (fun _=>none)=fun y=>if y=n then some v else none:=by
  show(if _=some NameKind.local then _ else _)=_;exact aE hl
 have e2:bindC (newEnv scope s.heap.objs.size globals (cellsFrom (s.heap.objs.size+1) scope.names []) fq func code none builtins).kindOf [(n,v)] (fun _=>none)=fun _=>none:=by
  show(if _=some NameKind.local then _ else _)=_;exact aE hl
 rw[e1,e2]
 refine⟨⟨?_,Rp,fun b o e=>?_,x.toInCall.fresh⟩,fun k c hc=>?_,x.apart,x.above⟩
 ·exact⟨h',_,rfl⟩
 ·exact hs'.extBut b o (aZ (aL (aK e) x.toInCall.fresh)) (x.toInCall.keep b o e)
 ·exact(x.cell k c hc).sameBut hs' (eE (x.above k c (PySem.mem_of_lookup hc)))
theorem C6{CX:DU}{P:Program}{w:World}{K:Frag}{mg:Str->Option Value}{base:Heap}{N ps:List Str}{fq:Str}{scope:Scope}{f:Addr}{cd:Value}{A:Around}{outer:List Env}{s s1:Shared}{H:Hp}{E:XK}{us:List Value}{vs:List V}
  (S:bG N ps scope) (hd:A.handled=none) (e0:Iw P w K mg base A outer s H) (hl:vs.length=ps.length) (r:cJ s.toks vs us) (hW:s.toks<=s1.toks) (OC:0<s1.toks)
  (x:InCallC s s.heap.objs.size (bindL (envOfC fq scope s.heap.objs.size f cd).kindOf (ps.zip us) fun _=>none) (cellsFrom (s.heap.objs.size+1) scope.names []) (bindC (envOfC fq scope s.heap.objs.size f cd).kindOf (ps.zip us) fun _=>none) s1) :
  bF (Ae CX P w K mg base N fq scope f cd A outer s H E) [] (sg N vs) H s1:=by
 have jG:ps.length<=N.length:=by have:=ir List.length S.pre;rw[bS]at this;omega
 obtain⟨h1,tk,rfl,hk⟩:=x.done
 have noA:∀b:Addr,b∉(Ae CX P w K mg base N fq scope f cd A outer s H E).ex:=fun b z=>absurd (show b∈([]:List Addr)from z) (by simp)
 refine⟨⟨e0.mod,S.kind,rfl,rfl,aw _,fun y z c h1 h2=>?_,fun y hy=>?_,fun y c _ h=>?_,fun _=>hd,Around.frames_deeper e0.frames,.inr ⟨rfl,rfl⟩,fun b z=>absurd z (noA b),e0.bs,e0.bsz,fun b _ _=>noA b,fun b z=>absurd z (noA b),e0.funs,e0.frf⟩,
  rfl,e0.bare,Un.kept hk,⟨_,x.toInCall.ns,fun i y v h1 h2 h3=>?_⟩,fun y c h=>⟨_,x.cell y c h⟩,e0.hok.fresh (aw _),fun y c h=>?_,fun p hp=>absurd (show p∈([]:List (Addr×Obj))from hp) (by simp),(e0.hok.kept hk).up hW,?_,OC,hW⟩
 ·exact name_of_addr x.apart (PySem.mem_of_lookup h1) (PySem.mem_of_lookup h2)
 ·have hy:scope.names.lookup y=some .cell\/scope.names.lookup y=some .free:=hy
  rcases hy with hy|hy
  ·exact lY hy
  ·exact absurd rfl (S.nofree _ (PySem.mem_of_lookup hy))
 ·exact fI (x.above y c (PySem.mem_of_lookup h))
 ·have hi:i<vs.length:=by
   unfold sg at h2
   by_cases hi:i<vs.length
   ·exact hi
   ·rw[fw (by simpa using hi)]at h2
    rw[iY]at h2
    split at h2<;>cases h2
  have ha:vs[i]?=some v:=by
   unfold sg at h2
   rw[bq (by simpa using hi),aG]at h2
   cases e:vs[i]? with
   |none=>rw[e]at h2;cases h2
   |some a=>rw[e]at h2;cases h2;rfl
  obtain⟨u,hu,rv⟩:=r.get ha
  have hp:ps[i]?=some y:=by
   rw[<- S.pre,cU (by omega)];exact h1
  have ndP:ps.Nodup:=by rw[<- S.pre];exact S.nd.sublist (List.take_sublist _ _)
  refine⟨u,rv.up hW,?_⟩
  rcases S.par y (b9 hp)with k|k
  ·exact .inl ⟨k,vg ndP hp hu k⟩
  ·obtain⟨c,e⟩:=lY (n:=s.heap.objs.size+1) k
   refine .inr ⟨.inl k,c,e,?_⟩
   have q:=x.cell y c e
   rw[vh ndP hp hu (by show scope.names.lookup y≠_;rw[k];decide)]at q
   exact q
 ·exact e0.hok.fresh (fI (x.above y c (PySem.mem_of_lookup h)))
 ·unfold sg
  show _=N.length
  rw[bC,aC,nz]
  omega
theorem O8{CX:DU}{P:Program}{w:World}{K:Frag}{mg:Str->Option Value}{base:Heap}{k:Nat}{f:Addr}{name fq:Str}{params:Arguments}{body:List Stmt}{scope:Scope}{dV kV tw pm gk ct oc:Value}{an od:Option Addr}
  {Li:Array (Option Value)} {N ps:List Str} {sp:Sp} (lk:K.lookup f=some ⟨oc,od,.func (fnOf name fq params body scope dV kV tw pm an gk ct),Li⟩) (uS:codeIn K gk fq=true) (S:bG N ps scope)
  (len:∀vs H Q E,sp vs H Q E->vs.length=ps.length)
  (zH:∀(A:Around) (outer:List Env) (s:Shared) (H:Hp) (vs:List V) (Q:VK) (E:XK),js k (A.deeper (envOfC fq scope s.heap.objs.size f gk))->sp vs H Q E ->
   ∃t,CW (Ae CX P w K mg base N fq scope f gk A outer s H E) body t/\t { nx:=fun _ H'=>Q .non H',rt:=Q } (sg N vs) H) :
  eK P w K mg base CX (k+1) f (fnOf name fq params body scope dV kV tw pm an gk ct) ps sp:=by
 refine⟨len,fun A outer s H args us vs Q E hr e0 hp hb r Lm=>?_⟩
 have hl:=len _ _ _ _ Lm
 have KX:K.In s.heap:=e0.mod.kin.keeps fun b o e=>(e0.bs b o e).1
 have lim:s.heap.NoLimit:=e0.mod.nolimit.keeps fun b o e=>(e0.bs b o e).1
 have jo:∀y∈ps.zip us,scope.names.lookup y.1=some .local\/(scope.names.lookup y.1=some .cell/\((cellsFrom (s.heap.objs.size+1) scope.names []).lookup y.1).isSome=true):=fun⟨n,v⟩ hy=>by
  rcases S.par n (na hy).1 with q|q
  ·exact .inl q
  ·exact .inr ⟨q,PySem.W.cellsFrom_some _ _ _ (.inl q)⟩
 refine codeAny_call_function hr.depth (KX _ _ lk) rfl S.co S.gen rfl (PySem.W.codeRec_of KX uS) (hb _ _ _ _ ?_)
 suffices hh:∀env,env=newEnv scope s.heap.objs.size mainGlobals (cellsFrom (s.heap.objs.size+1) scope.names []) (fq++".<locals>.") (some f) gk none builtinsNs->∀s1,s.toks<=s1.toks->0<s1.toks->InCallC s env.locals (bindL env.kindOf (ps.zip us) fun _=>none) env.cells (bindC env.kindOf (ps.zip us) fun _=>none) s1->s1.heap.NoLimit/\codeAny (model P w) A (Code.func body env) (CR CX outer P w H s Q E) s1 by
  rcases hp with hp|⟨n,e1,hn⟩
  ·exact up (wpAny_newFunctionEnv_cells S.kind jo fun env he s1 x hW=>hh env he s1 hW (aL hp hW) x)
  ·subst e1
   have uQ:us.length=1:=r.length.symm.trans hl
   obtain⟨u,rfl⟩:∃u,us=[u]:=eZ.mp uQ
   exact Af S.kind hn fun env he s1 hlt x=>hh env he s1 (fI hlt) (eh (bQ _) hlt) x
 intro env he s1 hW OC x
 subst he
 refine⟨lim.keeps x.toInCall.keep,codeAny_func ?_⟩
 obtain⟨t,ht,hq⟩:=zH A outer s H vs Q E (hr.deeper _) Lm
 have I:bF (Ae CX P w K mg base N fq scope f gk A outer s H E) [] (sg N vs) H s1:=C6 S hr.hd e0 hl r hW OC x
 refine iQ (ht [] s1 (sg N vs) H _ I hq) (fun fl s' hs=>?_) fun e s' hs=>hs
 have hV:∀{σ':St} {H':Hp} {v:V} {u:Value},bF (Ae CX P w K mg base N fq scope f gk A outer s H E) [] σ' H' s'->cO _ v u->Q v H'->CE outer P w H s Q u s':=
  fun{σ' H' v u} J rv q=>⟨v,H',J.os,J.bare,J.base,J.hok,rv,q⟩
 cases fl with
 |ret u=>
  obtain⟨v,σ',H',J,rv,q⟩:=hs
  exact hV J rv q
 |next=>
  obtain⟨σ',H',J,q⟩:=hs
  exact hV (v:=V.non) (u:=Value.none) J rfl q
 |brk=>
  obtain⟨_,_,_,q⟩:=hs
  exact False.elim q
 |cont=>
  obtain⟨_,_,_,q⟩:=hs
  exact False.elim q
end L2
namespace L2
variable{nk:Nat}
open PySem PySem.Spec PyProof.Rows
section
variable{X:Cx}{x:Str}{p pos:Pos}{e:Expr}{es:List Expr}{t:TA}{id T:String}{r:List V->Hp->VK->Prop}
def R3(r:List V->Hp->VK->Prop)(t:TA):TE:=fun σ H Q=>t σ H fun vs H1=>r vs H1 Q
theorem nE(hc:i4 X (.builtin id) r)(hg:Gl X x)(hm:X.mg x=none)(hv:bootBuiltins x=some (.builtin id))(ha:PA X (e::es) t)(hn:x ≠ "__name__":=by decide)(J2:(x==("__debug__":Str))=false:=by decide)
  (he:starEach (e::es) X.env=(false,eval e X.env)::starEach es X.env:=by rfl) (jG:(backTo pos (starEach es X.env)).any (·.1)=false:=by rfl):PE X (.Call (.Name x p) (e::es) [] pos) (R3 r t):=by
 intro aj s σ H Q I h
 refine gm (mq I hg hm hv ?_ hn J2)
 exact jv (i3 (ha pos aj s σ H _ I h) fun us s1 kt1 ⟨vs,H1,I1,r1,q1⟩=>hc aj s1 σ H1 vs us Q I1 r1 q1) he jG
theorem rk(hc:i4 X (.type T) r)(hg:Gl X x)(hm:X.mg x=none)(hv:bootBuiltins x=some (.type T))(ha:PA X (e::es) t)(hn:x ≠ "__name__":=by decide)(J2:(x==("__debug__":Str))=false:=by decide)
  (he:starEach (e::es) X.env=(false,eval e X.env)::starEach es X.env:=by rfl) (jG:(backTo pos (starEach es X.env)).any (·.1)=false:=by rfl):PE X (.Call (.Name x p) (e::es) [] pos) (R3 r t):=by
 intro aj s σ H Q I h
 refine gm (mq I hg hm hv ?_ hn J2)
 exact cZ (i3 (ha pos aj s σ H _ I h) fun us s1 kt1 ⟨vs,H1,I1,r1,q1⟩=>hc aj s1 σ H1 vs us Q I1 r1 q1) he jG
end
end L2
namespace HT
open PySem PyProof.Rows
section
open PySem.SeqAt
open PySem.AutoSeq1 (wpAny_loadPart')
open PySem.MeetsSeq PySem.MeetsSeq2 PySem.MeetsSeq3
end
section
variable{prog:Program}{w:World}{A:Around}{E:Value->Shared->Prop}{s:Shared}
theorem cat_tup{t b:Addr}{vs ws:List Value}{Q:Value->Shared->Prop}(ht:IsTup s.heap t vs.toArray)(hb:IsTup s.heap b ws.toArray)(hv:vs≠[])
  (h1:ws=[]->Q (.ref t) s) (h2:ws≠[]->Q (.ref s.heap.objs.size) { s with heap:=s.heap.push { cls:=.type "tuple",data:=.seq (vs++ws).toArray } })
  (hsz:vs.length+ws.length<=sizeLine):wpAny (model prog w) A (binaryOp .Add (.ref t) (.ref b)) Q E s:=by
 obtain⟨⟨cls,dd,data,sl⟩,ho,hc,n,hd⟩:=id ht
 obtain⟨⟨cls2,dd2,data2,sl2⟩,ho2,hc2,n2,hd2⟩:=id hb
 simp only at hc hd hc2 hd2
 subst hc hd hc2 hd2
 have e:vs.toArray++ws.toArray=(vs++ws).toArray:=by simp
 by_cases hw:ws=[]
 ·exact qU ⟨_,ho,rfl⟩ ⟨_,ho2,rfl⟩ ma pM PySem.F.slot_tuple_add PySem.F.entry_tuple_add (PySem.F.args_tuple_add_2 _ _)
   (tuple_addW1 t b vs.toArray ws.toArray n n2 dd dd2 sl sl2 (by simpa using hv) (by simp[hw])) ⟨ho,ho2,h1 hw⟩
 ·refine qU ⟨_,ho,rfl⟩ ⟨_,ho2,rfl⟩ ma pM PySem.F.slot_tuple_add PySem.F.entry_tuple_add (PySem.F.args_tuple_add_2 _ _)
   (tuple_addW2 t b vs.toArray ws.toArray n n2 dd dd2 sl sl2 (by simpa using hv) (by simpa using hw) (by rw[aS,aS];exact hsz)) ⟨ho,ho2,?_⟩
  rw[e]
  exact h2 hw
def sIx(n d:Nat):Option Int->Nat
 |none=>d
 |some v=>if v<0 then(v+(n:Int)).toNat else min v.toNat n
theorem sIx_none(n d:Nat):sIx n d none=d:=rfl
theorem sIx_nat(n d k:Nat):sIx n d (some (k:Int))=min k n:=by
 show(if (k:Int)<0 then((k:Int)+(n:Int)).toNat else min (k:Int).toNat n)=min k n
 rw[aN (by omega),bw]
theorem sIx_le(n d:Nat)(hd:d<=n)(o:Option Int):sIx n d o<=n:=by
 cases o with
 |none=>exact hd
 |some v=>
  show(if v<0 then(v+(n:Int)).toNat else min v.toNat n)<=n
  by_cases hv:v<0
  ·rw[aE hv];omega
  ·rw[aN hv];exact Nat.min_le_right _ _
theorem BB(v:Int)(n d:Nat):(if v<0 then max (v+(n:Int)) 0 else min v (n:Int))=((sIx n d (some v):Nat):Int):=by
 show(if v<0 then max (v+(n:Int)) 0 else min v (n:Int))=(((if v<0 then(v+(n:Int)).toNat else min v.toNat n):Nat):Int)
 by_cases hv:v<0
 ·simp only[aE hv];omega
 ·simp only[aN hv];omega
theorem Ag(lo hi:Option Int)(n:Nat):Builtin.Slice.sliceAdjust lo hi 1 (n:Int)=(((sIx n 0 lo:Nat):Int),((sIx n n hi:Nat):Int)):=by
 have h1:¬ ((1:Int)<0):=by omega
 unfold Builtin.Slice.sliceAdjust
 simp only[h1,iu]
 refine Prod.ext ?_ ?_
 ·cases lo with
  |none=>rfl
  |some v=>exact BB v n 0
 ·cases hi with
  |none=>rfl
  |some v=>exact BB v n n
theorem Ah(i j:Nat):Builtin.Slice.slicePlaces (i:Int) (j:Int) 1=j-i:=by
 unfold Builtin.Slice.slicePlaces
 have h1:(1:Int)>0:=by omega
 simp only[h1,jC,Int.ediv_one]
 split<;>omega
theorem tH{v:Value}{o:Option Int}{Q:Option Int->Shared->Prop}(p:IsPart v o)(h:Q o s):wpAny (model prog w) A (Builtin.Slice.slicePartIndex v) Q E s:=by
 cases p with
 |none=>exact slicePart_none h
 |int i t=>exact slicePart_int h
theorem sliceApplied_gen{sl:Addr}{vl vu:Value}{lo hi:Option Int}{n:Nat}{Q:Int×Int×Nat->Shared->Prop}(hs:s.heap.IsSliceOf sl vl vu .none)(pl:IsPart vl lo)(pu:IsPart vu hi)
  (h:Q (((sIx n 0 lo:Nat):Int),1,sIx n n hi-sIx n 0 lo) s):wpAny (model prog w) A (Builtin.Slice.sliceApplied (.ref sl) (pure (n:Int))) Q E s:=by
 obtain⟨os,hos,hcs,hds⟩:=id hs
 unfold Builtin.Slice.sliceApplied Builtin.Slice.sliceFields
 refine af (af (gf hos hds (x:=vl) rfl (af (gf hos hds (x:=vu) rfl (af (gf hos hds (x:=.none) rfl (ay ?_)))))))
 refine af (slicePart_none ?_)
 show wpAny _ _ (if ((1:Int)==0)=true then _ else _) _ _ s
 rw[aN (by decide)]
 refine af (tH pl (af (tH pu (af (ay ?_)))))
 show wpAny _ _ (match Builtin.Slice.sliceAdjust lo hi 1 (n:Int)with|(lo,hi)=>pure (lo,(1:Int),Builtin.Slice.slicePlaces lo hi 1)) _ _ s
 rw[Ag lo hi n]
 show wpAny _ _ (pure (((sIx n 0 lo:Nat):Int),(1:Int),Builtin.Slice.slicePlaces ((sIx n 0 lo:Nat):Int) ((sIx n n hi:Nat):Int) 1)) _ _ s
 rw[Ah]
 exact ay h
theorem Ed(xs:Array Value)(i k:Nat):((List.range k).filterMap fun(m:Nat)=>xs[((i:Int)+(m:Int)*1).toNat]?).toArray=((xs.toList.drop i).take k).toArray:=by
 have e:(fun(m:Nat)=>xs[((i:Int)+(m:Int)*1).toNat]?)=fun m=>xs[i+m]?:=by
  funext m
  have:((i:Int)+(m:Int)*1).toNat=i+m:=by omega
  rw[this]
 rw[e]
 have:=pick_run xs i k
 rw[List.filterMap_map]at this
 have e2:((fun x=>xs[x]?)∘fun x=>i+x)=fun m=>xs[i+m]?:=rfl
 rw[e2]at this
 rw[this]
theorem getItem_tuple_cut{t sl:Addr}{items:Array Value}{vl vu:Value}{lo hi:Option Int}{Q:Value->Shared->Prop}(ht:IsTup s.heap t items)(hs:s.heap.IsSliceOf sl vl vu .none)(pl:IsPart vl lo)(pu:IsPart vu hi)
  (hw:¬ (sIx items.size 0 lo=0/\sIx items.size items.size hi=items.size))
  (h:Q (.ref s.heap.objs.size) { s with heap:=s.heap.push { cls:=.type "tuple",data:=.seq ((items.toList.drop (sIx items.size 0 lo)).take (sIx items.size items.size hi-sIx items.size 0 lo)).toArray } })
  (hsz:items.size<=sizeLine):wpAny (model prog w) A (getItem (.ref t) (.ref sl)) Q E s:=by
 have htake:sizeOk (.seq ((items.toList.drop (sIx items.size 0 lo)).take (sIx items.size items.size hi-sIx items.size 0 lo)).toArray):=by
  show((items.toList.drop (sIx items.size 0 lo)).take (sIx items.size items.size hi-sIx items.size 0 lo)).toArray.size<=sizeLine
  rw[aS,bS,gW,dP]
  omega
 have hj:sIx items.size items.size hi<=items.size:=sIx_le _ _ (aw _) hi
 obtain⟨os,hos,hcs,hds⟩:=id hs
 have hTs:s.TypeIs (.ref sl) "slice":=⟨os,hos,hcs⟩
 unfold getItem
 try with_reducible refine db ?_
 first|refine af (ay ?_)|skip
 refine af (wpAny_sequenceKey ht.typeIs (by decide) ?_)
 refine af (cr (name:=Str.ofString "__getitem__") ht.typeIs dU
  (cC dU ht.typeIs entry_tuple_getitem ?_ (args_tuple_getitem _ _)))
 show wpAny _ _ (Builtin.Tuple.tupleItemsOf (.ref t) >>= _) _ _ s
 refine af (tupleItemsOf_ ht ?_)
 refine af (gn hTs ?_)
 rw[aE (by decide)]
 refine af (sliceApplied_gen hs pl pu ?_)
 have hno:¬ ((((sIx items.size 0 lo:Nat):Int)==0&&(1:Int)==1&&(sIx items.size items.size hi-sIx items.size 0 lo)==items.size)=true):=by
  intro q
  rw[cD,cD]at q
  have q1:((sIx items.size 0 lo:Nat):Int)=0:=md q.1.1
  have q2:sIx items.size items.size hi-sIx items.size 0 lo=items.size:=md q.2
  exact hw ⟨by omega,by omega⟩
 show wpAny _ _ (if (((sIx items.size 0 lo:Nat):Int)==0&&(1:Int)==1&&(sIx items.size items.size hi-sIx items.size 0 lo)==items.size)=true then _ else _) _ _ s
 rw[aN hno,Ed]
 first
  |exact af (m:=Builtin.Tuple.tupleExact _) (ce (ay ⟨_,rfl,ay h⟩) htake)
  |exact af (m:=Builtin.Tuple.tupleExact _) (ce (af (ay (ay ⟨_,rfl,ay h⟩))) htake)
  |exact af (af (m:=Builtin.Tuple.tupleExact _) (ce (ay (ay ⟨_,rfl,ay h⟩)) htake))
  |exact af (af (m:=Builtin.Tuple.tupleExact _) (ce (ay ⟨_,rfl,ay h⟩) htake))
end
end HT
namespace L2
variable{nk:Nat}
open PySem PySem.Spec PyProof.Rows
abbrev TO:=St->Hp->(Option Int->Hp->Prop)->Prop
def PO(X:Cx)(e:Option Expr)(t:TO):Prop:=
 ∀(aj:List (Addr×Obj)) (s:Shared) (σ:St) (H:Hp) (Q:Option Int->Hp->Prop),bF X aj σ H s->t σ H Q ->
  wpAny (model X.prog X.w) X.A (evalPart e X.env) (fun u s'=>∃o H',bF X aj σ H' s'/\IsPart u o/\Q o H') X.xe s
def Iy:TO:=fun _ H Q=>Q none H
def O9(t:TE):TO:=fun σ H Q=>t σ H fun x H1=>∃i,x=.int i/\Q (some i) H1
section
variable{X:Cx}{e:Expr}{te:TE}{lo hi:Option Expr}{tl th:TO}{pos p2:Pos}
theorem Iz:PO X none Iy:=by
 intro aj s σ H Q I h
 rw[evalPart_none]
 exact ay ⟨none,H,I,.none,h⟩
theorem IA(h:PE X e te):PO X (some e) (O9 te):=by
 intro aj s σ H Q I hw
 rw[evalPart_some]
 refine i3 (h aj s σ H _ I hw) fun u s1 kt1 ⟨x,H1,I1,r1,q1⟩=>?_
 obtain⟨i,rfl,q⟩:=q1
 obtain⟨t,rfl⟩:=r1
 exact⟨some i,H1,I1,.int i t,q⟩
def O_(X:Cx)(r:V->Option Int->Option Int->Hp->VK->Prop):Prop:=
 ∀(aj:List (Addr×Obj)) (s:Shared) (σ:St) (H:Hp) (x:V) (v vl vu:Value) (lo hi:Option Int) (sl:Addr) (Q:VK),bF X aj σ H s->cO s.toks x v->s.heap.IsSliceOf sl vl vu .none->IsPart vl lo->IsPart vu hi->r x lo hi H Q ->
  ∃T id,typeLookup (.type T) "__getitem__"=pure (some (.builtin id))/\s.TypeIs v T/\wpAny (model X.prog X.w) X.A (getItem v (.ref sl)) (EP X aj σ Q) X.xe s
def TR(r:V->Option Int->Option Int->Hp->VK->Prop)(te:TE)(tl th:TO):TE:=fun σ H Q=>te σ H fun x H1=>tl σ H1 fun l H2=>th σ H2 fun u H3=>r x l u H3 Q
theorem Ee{r:V->Option Int->Option Int->Hp->VK->Prop}(hr:O_ X r)(he:PE X e te)(hl:PO X lo tl)(hu:PO X hi th):PE X (.Subscript e (.Slice lo hi none p2) pos) (TR r te tl th):=by
 intro aj s σ H Q I h
 refine Subscript_ (i3 (he aj s σ H _ I h) fun v s1 kt1 ⟨x,H1,I1,r1,q1⟩=>?_)
 refine wpAny_Slice (i3 (hl aj s1 σ H1 _ I1 q1) fun vl s2 kt2 ⟨l,H2,I2,pl,q2⟩=>i3 (hu aj s2 σ H2 _ I2 q2) fun vu s3 kt3 ⟨u,H3,I3,pu,q3⟩=>?_)
 rw[evalPart_none]
 refine ay ?_
 have I4:bF X aj σ H3 { s3 with heap:=s3.heap.push { cls:=.type "slice",data:=.fields #[vl,vu,.none] } }:=I3.kept (t':=s3.toks) fun b ob q=>ar _ q
 obtain⟨T,id,hT,ht,hg⟩:=hr aj { s3 with heap:=s3.heap.push { cls:=.type "slice",data:=.fields #[vl,vu,.none] } } σ H3 x v vl vu l u s3.heap.objs.size Q I4 (r1.up (aF kt2 kt3)) (Heap.IsSliceOf.new ..) pl pu q3
 show wpAny (model X.prog X.w) X.A (subscriptTail e (.Slice lo hi none p2) v (.ref s3.heap.objs.size)) (EP X aj σ Q) X.xe { s3 with heap:=s3.heap.push { cls:=.type "slice",data:=.fields #[vl,vu,.none] } }
 exact tail_any (ops:=[.ref s3.heap.objs.size,v]) ht hT hg (by with_unfolding_all rfl)
def tI(xs:List V)(lo hi:Option Int):List V:=(xs.drop (HT.sIx xs.length 0 lo)).take (HT.sIx xs.length xs.length hi-HT.sIx xs.length 0 lo)
theorem sh(xs:List V)(lo hi:Option Int):(tI xs lo hi).length<=xs.length:=by
 unfold tI
 rw[bS,gW]
 omega
def R4(K:Frag):V->Option Int->Option Int->Hp->VK->Prop:=fun x lo hi H Q=>∃a xs,x=.ref a/\gK K H a xs /\
 ¬ (HT.sIx xs.length 0 lo=0/\HT.sIx xs.length xs.length hi=xs.length)/\∀p,H p=none->Q (.ref p) (eT H p (.tup (tI xs lo hi)))
theorem L1:O_ X (R4 X.K):=by
 intro aj s σ H x v vl vu lo hi sl Q I rx hs pl pu h
 obtain⟨a,xs,rfl,hx,hw,q⟩:=h
 cases rx
 obtain⟨bN,r,ht,hz⟩:=I.tuple hx
 have dr:bN.toArray.size=xs.length:=by rw[aS];exact r.length.symm
 refine⟨"tuple",_,dU.lookup,ht.typeIs,?_⟩
 refine HT.getItem_tuple_cut ht hs pl pu (by rw[dr];exact hw) ?_ (by rw[dr];exact hz)
 rw[dr]
 refine⟨.ref s.heap.objs.size,_,I.laid (t':=s.toks) (o:=.tup (tI xs lo hi)) (fun b ob q=>ar _ q) (aw _) ?_,rfl,q _ (I.hok.fresh (aw _))⟩
 exact⟨aF (sh xs lo hi) hz,_,(r.drop (HT.sIx xs.length 0 lo)).take (HT.sIx xs.length xs.length hi-HT.sIx xs.length 0 lo),IsTup.new _ _⟩
def O'(K:Frag):R2:=fun x y H Q=>∃a b xs ys,x=.ref a/\y=.ref b/\gK K H a xs/\gK K H b ys/\xs≠[]/\xs.length+ys.length<=sizeLine /\
 (ys=[]->Q (.ref a) H)/\(ys≠[]->∀p,H p=none->Q (.ref p) (eT H p (.tup (xs++ys))))
theorem cJ.nil_iff{xs:List V}{us:List Value}(r:cJ nk xs us):us=[]↔xs=[]:=by
 cases r with
 |nil=>simp
 |cons _ _=>simp
theorem IB:lX X (binaryOp .Add) (O' X.K):=by
 intro aj s σ H x y v u Q I rx ry h
 obtain⟨a,b,xs,ys,rfl,rfl,ha,hb,hx,hz,q1,q2⟩:=h
 cases rx
 cases ry
 obtain⟨bN,r1,p1,_⟩:=I.tuple ha
 obtain⟨its2,r2,p2,_⟩:=I.tuple hb
 refine HT.cat_tup p1 p2 (fun z=>hx (r1.nil_iff.mp z)) (fun z=>⟨.ref a,H,I,rfl,q1 (r2.nil_iff.mp z)⟩) (fun z=>?_) (by rw[<- r1.length,<- r2.length];exact hz)
 refine⟨.ref s.heap.objs.size,_,I.laid (t':=s.toks) (o:=.tup (xs++ys)) (fun b ob q=>ar _ q) (aw _) ?_,rfl,q2 (fun w=>z (r2.nil_iff.mpr w)) _ (I.hok.fresh (aw _))⟩
 exact⟨by rw[bC];exact hz,_,r1.append r2,IsTup.new _ _⟩
theorem xS:i4 X (.type "tuple") (fun xs H Q=>∃a ys,xs=[.ref a]/\gK X.K H a ys/\Q (.ref a) H):=by
 intro aj s σ H xs us Q I r h
 obtain⟨a,ys,rfl,ha,q⟩:=h
 obtain⟨u,rfl,ru⟩:=nC r
 cases ru
 obtain⟨bN,_,p1,_⟩:=I.tuple ha
 exact call_tuple_same (items:=bN.toArray) p1 ⟨.ref a,H,I,rfl,q⟩
end
end L2
namespace L2
variable{nk:Nat}
open PySem PySem.Spec PyProof.Rows
def z6(n:Nat)(i:Int):Option Nat:=if 0<=i then(if i<n then some i.toNat else none)else if -(n:Int)<=i then some (i+n).toNat else none
def ph{α:Type}(xs:List α)(i:Int):Option α:=(z6 xs.length i).bind fun j=>xs[j]?
theorem BC{n:Nat}{i:Int}{j:Nat}(h:z6 n i=some j):seqIndex? i n=some j/\j<n/\-(n:Int)<=i/\i<n:=by
 unfold z6 at h
 by_cases h0:0<=i
 ·rw[aE h0]at h
  by_cases h1:i<n
  ·rw[aE h1]at h
   have e:i.toNat=j:=bc h
   exact⟨by rw[seqIndex_of h0 h1,e],by omega,by omega,h1⟩
  ·rw[aN h1]at h;cases h
 ·rw[aN h0]at h
  by_cases h1:-(n:Int)<=i
  ·rw[aE h1]at h
   have e:(i+n).toNat=j:=bc h
   exact⟨by rw[qV (by omega) h1,e],by omega,h1,by omega⟩
  ·rw[aN h1]at h;cases h
theorem wm{α:Type}{xs:List α}{i:Int}{v:α}(h:ph xs i=some v):∃j,seqIndex? i xs.length=some j/\xs[j]?=some v/\j<xs.length/\-(xs.length:Int)<=i/\i<xs.length:=by
 unfold ph at h
 cases e:z6 xs.length i with
 |none=>rw[e]at h;cases h
 |some j=>
  rw[e]at h
  obtain⟨h1,h2,h3,h4⟩:=BC e
  exact⟨j,h1,h,h2,h3,h4⟩
def BD(b:Expr):Prop:=∀o i,subscripted b false o i=operate [o,i] (getItem o i)
def HQ(X:Cx)(r:R2):Prop:=
 ∀(value slice:Expr) (aj:List (Addr×Obj)) (s:Shared) (σ:St) (H:Hp) (x y:V) (v u:Value) (Q:VK),bF X aj σ H s->cO s.toks x v->cO s.toks y u->r x y H Q ->
  subscripted slice false v u=operate [v,u] (getItem v u)->wpAny (model X.prog X.w) X.A (subscriptTail value slice v u) (EP X aj σ Q) X.xe s
def C7(X:Cx)(id:String)(r:V->List V->Hp->VK->Prop):Prop:=
 ∀(aj:List (Addr×Obj)) (s:Shared) (σ:St) (H:Hp) (x:V) (xs:List V) (v:Value) (us:List Value) (Q:VK),bF X aj σ H s->cO s.toks x v->cJ s.toks xs us->r x xs H Q ->
  wpAny (model X.prog X.w) X.A (call (.builtin id) (v::us)) (EP X aj σ Q) X.xe s
section
variable{X:Cx}{a b:Expr}{ta tb:TE}{pos:Pos}
theorem HQ.or{r r':R2}(h:HQ X r)(h':HQ X r'):HQ X (fun x y H Q=>r x y H Q\/r' x y H Q):=by
 intro value slice aj s σ H x y v u Q I rx ry q hs
 rcases q with q|q
 ·exact h value slice aj s σ H x y v u Q I rx ry q hs
 ·exact h' value slice aj s σ H x y v u Q I rx ry q hs
theorem Pa{r:R2}(hr:HQ X r)(ha:PE X a ta)(hb:PE X b tb)(hs:BD b):PE X (.Subscript a b pos) (OX r ta tb):=by
 intro aj s σ H Q I h
 exact Subscript_ (LM ha hb I h fun v u s2 x y H2 I2 rx ry q=>hr a b aj s2 σ H2 x y v u Q I2 rx ry q (hs _ _))
def Pb(K:Frag):R2:=fun x y H Q=>∃p xs i v,x=.ref p/\y=.int i/\sf K H p xs/\ph xs i=some v/\Q v H
def Pc(K:Frag):R2:=fun x y H Q=>∃p xs i v,x=.ref p/\y=.int i/\gK K H p xs/\ph xs i=some v/\Q v H
def Pd:R2:=fun x y H Q=>∃z i c,x=.str z/\y=.int i/\z.length<=sizeLine/\ph z.cps.toList i=some c/\Q (.str ⟨#[c]⟩) H
theorem IC:HQ X (Pb X.K):=by
 intro value slice aj s σ H x y v u Q I rx ry h hs
 obtain⟨p,xs,i,z,rfl,rfl,hq,he,q⟩:=h
 cases rx
 obtain⟨t,rfl⟩:=ry
 obtain⟨bN,r,pl,hz⟩:=I.list hq
 obtain⟨j,h1,h2,h3,h4,h5⟩:=wm he
 obtain⟨w,ew,sd⟩:=r.get h2
 have hl:=r.length
 have hn:=rj
 have hV:EP X aj σ Q w s:=⟨z,H,I,sd,q⟩
 by_cases h0:0<=i
 ·have hj:i.toNat=j:=by
   rw[seqIndex_of h0 h5]at h1
   exact bc h1
  exact item_listR pl.isList h0 (by omega) (by rw[hj];simpa using ew) hV hs
 ·have hj:(i+(bN.toArray.size:Int)).toNat=j:=by
   rw[qV (by omega) h4]at h1
   rw[aS,<- hl]
   exact bc h1
  exact mO (x:=w) pl.isList.typeIs slot_list_getitem.lookup
   (wpAny_getItem_list_neg (Q:=fun r s'=>r=w/\EP X aj σ Q r s') pl.isList (by omega) (by rw[aS]<;>omega) (by omega) (by rw[hj];simpa using ew) ⟨rfl,hV⟩) hs
theorem L3:HQ X (Pc X.K):=by
 intro value slice aj s σ H x y v u Q I rx ry h hs
 obtain⟨p,xs,i,z,rfl,rfl,hq,he,q⟩:=h
 cases rx
 obtain⟨t,rfl⟩:=ry
 obtain⟨bN,r,pl,hz⟩:=I.tuple hq
 obtain⟨j,h1,h2,h3,h4,h5⟩:=wm he
 obtain⟨w,ew,sd⟩:=r.get h2
 have hl:=r.length
 have hn:=rj
 have hV:EP X aj σ Q w s:=⟨z,H,I,sd,q⟩
 exact mO (x:=w) pl.typeIs slot_tuple_getitem.lookup
  (getItem_tuple (j:=j) (Q:=fun r s'=>r=w/\EP X aj σ Q r s') pl (by omega) (by omega) (by rw[aS,<- hl];exact h1) (by simpa using ew) ⟨rfl,hV⟩) hs
theorem L6:HQ X Pd:=by
 intro value slice aj s σ H x y v u Q I rx ry h hs
 obtain⟨z,i,c,rfl,rfl,hz,he,q⟩:=h
 obtain⟨t,rfl⟩:=rx
 obtain⟨t',rfl⟩:=ry
 obtain⟨j,h1,h2,h3,h4,h5⟩:=wm he
 have hl:z.cps.toList.length=z.length:=by simp[Str.length]
 rw[hl]at h1 h4 h5
 have hn:=rj
 exact tail_any (kI s z t) slot_str_getitem.lookup (getItem_str (c:=c) (by
  have e1:decide (i < -(2^63:Int))=false:=az (by omega)
  have e2:decide (i≥2^63)=false:=az (by omega)
  rw[e1,e2,lS]) (by rw[h1];simpa using h2) ⟨.str ⟨#[c]⟩,H,I.tok _,I.tkS,q⟩) hs
def TU(K:Frag):R2:=fun x y H Q=>Pb K x y H Q\/Pc K x y H Q\/Pd x y H Q
theorem L7:HQ X (TU X.K):=IC.or (L3.or L6)
theorem Ai(bN:List Value)(n j:Nat)(u:Value):Obj.mapSeq (·.setIfInBounds j u) { cls:=.type "list",data:=.seq bN.toArray n }={ cls:=.type "list",data:=.seq (bN.set j u).toArray n }:=by
 simp[Obj.mapSeq]
theorem bF.lst{aj:List (Addr×Obj)}{σ:St}{H:Hp}{s:Shared}{p:Addr}{xs:List V}(I:bF X aj σ H s)(h:H p=some (.lst xs)) :
  ∃(bN:List Value) (n:Nat),cJ s.toks xs bN/\s.heap.get? p=some { cls:=.type "list",data:=.seq bN.toArray n }/\xs.length<=sizeLine:=by
 obtain⟨z,bN,n,r,e⟩:=I.hok p _ h
 exact⟨bN,n,r,e,z⟩
theorem bF.lstUpd{aj:List (Addr×Obj)}{σ:St}{H:Hp}{s:Shared}{p:Addr}{xs ys:List V}{bN its':List Value}{n n':Nat}{f:Obj->Obj}(I:bF X aj σ H s)(h:H p=some (.lst xs))
  (ho:s.heap.get? p=some { cls:=.type "list",data:=.seq bN.toArray n }) (hf:f { cls:=.type "list",data:=.seq bN.toArray n }={ cls:=.type "list",data:=.seq its'.toArray n' }) (r:cJ s.toks ys its') (hz:ys.length<=sizeLine) (t:Nat) (hk:s.toks<=t:=by first|exact aw _|exact bi _|assumption|omega) :
  bF X aj σ (eT H p (.lst ys)) { s with heap:=s.heap.update p f,toks:=t }:=by
 have e:(s.heap.update p f).get? p=some { cls:=.type "list",data:=.seq its'.toArray n' }:=by
  rw[dw f ho (by rw[hf]<;>rfl),hf]
 refine I.write (x:=p) (e:=p) (by rw[h];trivial) (.inl rfl) (fun b u hb q=>(cG _ _ (Ne.symm hb)).trans q) ⟨_,e⟩ ?_
 exact⟨hz,its',n',r.up hk,e⟩
def Pe:V->V->V->Hp->(Hp->Prop)->Prop:=fun o i v H Q=>∃p xs k j,o=.ref p/\i=.int k/\H p=some (.lst xs)/\z6 xs.length k=some j/\Q (eT H p (.lst (xs.set j v)))
theorem Ef:CY X Pe:=by
 intro aj s σ H o i v ov iv u Q I ro ri rv h
 obtain⟨p,xs,k,j,rfl,rfl,hp,hj,q⟩:=h
 cases ro
 obtain⟨t,rfl⟩:=ri
 obtain⟨bN,n,r,ho,hz⟩:=I.lst hp
 obtain⟨h1,h2,h3,h4⟩:=BC hj
 have hl:=r.length
 have hn:=rj
 have I':bF X aj σ (eT H p (.lst (xs.set j v))) { s with heap:=s.heap.update p (Obj.mapSeq (·.setIfInBounds j u)) }:=
  I.lstUpd hp ho (Ai bN n j u) (r.set rv j) (by rw[jO];exact hz) s.toks
 by_cases h0:0<=k
 ·have hk:k.toNat=j:=by
   rw[seqIndex_of h0 h4]at h1
   exact bc h1
  exact PySem.W.ki_setAt ho h0 (by omega) (by rw[aS,<- hl];exact h4) (by rw[hk];exact⟨_,I',q⟩)
 ·have hk:(k+(bN.toArray.size:Int)).toNat=j:=by
   rw[qV (by omega) h3]at h1
   rw[aS,<- hl]
   exact bc h1
  exact PySem.W.ki_setBack ho (by omega) (by rw[aS,<- hl];exact h3) (by omega) (by rw[hk];exact⟨_,I',q⟩)
theorem wn(lo hi:Option Int)(n:Nat):(sliceBounds lo hi none n).1=((HT.sIx n 0 lo:Nat):Int)/\(sliceBounds lo hi none n).2.1=((HT.sIx n n hi:Nat):Int)/\(sliceBounds lo hi none n).2.2=1:=by
 refine⟨?_,?_,rfl⟩
 ·cases lo with
  |none=>simp[sliceBounds,HT.sIx]
  |some i=>
   simp only[sliceBounds,HT.sIx,Option.getD_none,show(1:Int)>0 by decide,jC]
   by_cases h:i<0
   ·simp only[h,jC]<;>omega
   ·simp only[h,iu]<;>omega
 ·cases hi with
  |none=>simp[sliceBounds,HT.sIx]
  |some i=>
   simp only[sliceBounds,HT.sIx,Option.getD_none,show(1:Int)>0 by decide,jC]
   by_cases h:i<0
   ·simp only[h,jC]<;>omega
   ·simp only[h,iu]<;>omega
theorem uT(bN:List Value)(lo hi:Option Int):slicePick bN.toArray lo hi none=((bN.drop (HT.sIx bN.length 0 lo)).take (HT.sIx bN.length bN.length hi-HT.sIx bN.length 0 lo)).toArray:=by
 obtain⟨h1,h2,h3⟩:=wn lo hi bN.toArray.size
 unfold slicePick
 rw[h1,h2,h3]
 simp only[sliceRange_one,pick_run,aS]<;>rfl
def R5(K:Frag):V->Option Int->Option Int->Hp->VK->Prop:=fun x lo hi H Q=>∃a xs,x=.ref a/\sf K H a xs/\∀p,H p=none->Q (.ref p) (eT H p (.lst (tI xs lo hi)))
theorem ID:O_ X (R5 X.K):=by
 intro aj s σ H x v vl vu lo hi sl Q I rx hs pl pu h
 obtain⟨a,xs,rfl,hx,q⟩:=h
 cases rx
 obtain⟨bN,r,ht,hz⟩:=I.list hx
 have dr:=r.length
 refine⟨"list",_,slot_list_getitem.lookup,ht.isList.typeIs,?_⟩
 refine wpAny_getItem_list_slice ht.isList hs pl pu .none (by simp) ?_ (by rw[aS]<;>omega)
 rw[uT,<- dr]
 refine⟨.ref s.heap.objs.size,_,I.laid (t':=s.toks) (o:=.lst (tI xs lo hi)) (fun b ob q=>ar _ q) (aw _) ?_,rfl,q _ (I.hok.fresh (aw _))⟩
 exact⟨aF (sh xs lo hi) hz,_,0,(r.drop (HT.sIx xs.length 0 lo)).take (HT.sIx xs.length xs.length hi-HT.sIx xs.length 0 lo),aI _ rfl⟩
theorem qp:i4 X (.builtin "len") (fun xs H Q=>∃p ys,xs=[.ref p]/\(sf X.K H p ys\/gK X.K H p ys)/\Q (.int ys.length) H):=by
 intro aj s σ H xs us Q I r h
 obtain⟨p,ys,rfl,hq,q⟩:=h
 obtain⟨u,rfl,rx⟩:=nC r
 cases rx
 have hn:=rj
 rcases hq with hq|hq
 ·obtain⟨bN,r',pl,hz⟩:=I.list hq
  have dr:=r'.length
  exact Calls.call_len_list pl.isList (by simp only[aS]<;>omega) ⟨.int ys.length,H,I.tok _,⟨s.toks+1,by rw[aS,dr]⟩,q⟩
 ·obtain⟨bN,r',pl,hz⟩:=I.tuple hq
  have dr:=r'.length
  exact len_tuple pl (by simp only[aS]<;>omega) ⟨.int ys.length,H,I.tok _,⟨s.toks+1,by rw[aS,dr]⟩,q⟩
theorem wt:i4 X (.builtin "len") (fun xs H Q=>∃z,xs=[.str z]/\z.length<=sizeLine/\Q (.int z.length) H):=by
 intro aj s σ H xs us Q I r h
 obtain⟨z,rfl,hz,q⟩:=h
 obtain⟨u,rfl,t,rfl⟩:=nC r
 have hn:=rj
 exact len_str (by omega) ⟨.int z.length,H,I.tok _,⟨_,rfl⟩,q⟩
theorem uU:i4 X (.type "tuple") (fun xs H Q=>∃p ys,xs=[.ref p]/\((sf X.K H p ys/\∀l,H l=none->Q (.ref l) (eT H l (.tup ys)))\/(gK X.K H p ys/\Q (.ref p) H))):=by
 intro aj s σ H xs us Q I r h
 obtain⟨p,ys,rfl,h⟩:=h
 obtain⟨u,rfl,rx⟩:=nC r
 cases rx
 rcases h with⟨hq,q⟩|⟨hq,q⟩
 ·obtain⟨bN,r',pl,hz⟩:=I.list hq
  have dr:=r'.length
  refine call_tuple_list pl.isList (fun h' kp=>?_) (by simp only[aS]<;>omega)
  have I1:bF X aj σ H { s with heap:=h' }:=I.kept (t':=s.toks) kp
  have I2:bF X aj σ (eT H h'.objs.size (.tup ys)) { s with heap:=h'.push { cls:=.type "tuple",data:=.seq bN.toArray } }:=
   I1.laid (t':=s.toks) (fun b o e=>ar _ e) (aw _) (show eJ X.prog X.w _ _ _ _ (.tup ys)from⟨hz,bN,r',IsTup.new _ _⟩)
  exact⟨.ref h'.objs.size,_,I2,rfl,q _ (I1.hok.fresh (aw _))⟩
 ·obtain⟨bN,r',pl,hz⟩:=I.tuple hq
  exact call_tuple_same pl ⟨.ref p,H,I,rfl,q⟩
def Ru(K:Frag)(T:String)(x:V)(H:Hp):Prop:=match x with
 |.str _=>T="str"
 |.int _=>T="int"
 |.ref p=>(T="list"/\∃xs,sf K H p xs)\/(T="tuple"/\∃o,K.lookup p=some o/\o.cls=.type "tuple"/\o.dict=none) \/
   (T="dict"/\((∃kvs,H p=some (.dK kvs))\/∃kvs,H p=some (.dT kvs)))\/(T="set"/\∃S n,H p=some (.set S n))
 |_=>False
theorem Aj{aj:List (Addr×Obj)}{σ:St}{H:Hp}{s:Shared}{T:String}{x:V}{v:Value}(I:bF X aj σ H s)(r:cO s.toks x v)(ty:Ru X.K T x H) :
  s.TypeIs v T/\∀a,v=.ref a->∃ob,s.heap.get? a=some ob/\ob.dict=none:=by
 cases x with
 |str z=>
  obtain⟨t,rfl⟩:=r
  cases(show T="str" from ty)
  exact⟨kI s z t,fun _ e=>nomatch e⟩
 |int i=>
  obtain⟨t,rfl⟩:=r
  cases(show T="int" from ty)
  exact⟨typeIs_int s i t,fun _ e=>nomatch e⟩
 |ref p=>
  cases r
  rcases ty with⟨rfl,xs,hq⟩|⟨rfl,o,hk,hc,hd⟩|⟨rfl,hk⟩|⟨rfl,S,n,hk⟩
  ·obtain⟨bN,_,pl,_⟩:=I.list hq
   refine⟨pl.isList.typeIs,fun a e=>?_⟩
   cases e
   obtain⟨o,n,e,c,hd,_⟩:=pl
   exact⟨o,e,hd⟩
  ·refine⟨⟨o,I.kIn p o hk,hc⟩,fun a e=>?_⟩
   cases e
   exact⟨o,I.kIn _ o hk,hd⟩
  ·have z:∃o,s.heap.get? p=some o/\o.ExactDict:=by
    rcases hk with⟨kvs,hk⟩|⟨kvs,hk⟩
    ·obtain⟨_,_,_,_,o,_,_,e,ex,_⟩:=I.hok p _ hk
     exact⟨o,e,ex⟩
    ·obtain⟨_,_,_,_,o,_,_,e,ex,_⟩:=I.hok p _ hk
     exact⟨o,e,ex⟩
   obtain⟨o,e,ex⟩:=z
   refine⟨⟨o,e,ex.1⟩,fun a e2=>?_⟩
   cases e2
   exact⟨o,e,ex.2.1⟩
  ·obtain⟨o,_,_,_,e,ex,_⟩:=I.hok p _ hk
   refine⟨⟨o,e,ex.1⟩,fun a e2=>?_⟩
   cases e2
   exact⟨o,e,ex.2.1⟩
 |_=>exact False.elim ty
variable{o e:Expr}{es:List Expr}{to:TE}{t:TA}{name:Str}{gc du:Pos}{T id:String}{r:V->List V->Hp->VK->Prop}
end
end L2
namespace L2
variable{nk:Nat}
open PySem PySem.Spec PyProof.Rows
def Tb(X:Cx)(id:String)(r:V->List V->Hp->VK->Prop):Prop:=
 ∀(aj:List (Addr×Obj)) (s:Shared) (σ:St) (H:Hp) (x:V) (xs:List V) (v:Value) (us:List Value) (Q:VK),bF X aj σ H s->cO s.toks x v->cJ s.toks xs us->r x xs H Q ->
  wpAny (model X.prog X.w) X.A (call (.builtin id) (v::us)) (EP X aj σ Q) X.xe s
theorem cJ.one{x:V}{us:List Value}(h:cJ nk [x] us):∃u,us=[u]/\cO nk x u:=by cases h with|cons r t=>cases t;exact⟨_,rfl,r⟩
theorem cJ.two{x y:V}{us:List Value}(h:cJ nk [x,y] us):∃u v,us=[u,v]/\cO nk x u/\cO nk y v:=by cases h with|cons r t=>obtain⟨v,rfl,q⟩:=cJ.one t;exact⟨_,v,rfl,r,q⟩
theorem cJ.zero:∀{us:List Value},cJ nk [] us->us=[]
 |_,.nil=>rfl
theorem cJ.dropLast{xs:List V}{us:List Value}(h:cJ nk xs us):cJ nk xs.dropLast us.dropLast:=by
 induction h with
 |nil=>exact .nil
 |cons r t ih=>
  cases t with
  |nil=>exact .nil
  |cons q t'=>exact .cons r ih
theorem Ak{α:Type}(l:List α):l.eraseIdx (l.length-1)=l.dropLast:=by
 induction l with
 |nil=>rfl
 |cons a r ih=>
  cases r with
  |nil=>rfl
  |cons b r=>
   have e:(a::b::r).length-1=((b::r).length-1)+1:=by
    have h1:(a::b::r).length=r.length+2:=rfl
    have h2:(b::r).length=r.length+1:=rfl
    omega
   rw[e,List.eraseIdx_cons_succ,ih]
   all_goals rfl
section
variable{X:Cx}{aj:List (Addr×Obj)}{σ:St}{H:Hp}{s:Shared}{l b:Addr}{xs ys zs:List V}
theorem bF.lset{bN its':List Value}{n:Nat}{f:Array Value->Array Value}{t':Nat}(I:bF X aj σ H s)(hH:H l=some (.lst xs))
  (e:s.heap.get? l=some { cls:=.type "list",data:=.seq bN.toArray n }) (hf:f bN.toArray=its'.toArray) (hv:cJ t' ys its') (hz:ys.length<=sizeLine) (hk:s.toks<=t':=by first|exact aw _|exact bi _|assumption|omega) :
  bF X aj σ (eT H l (.lst ys)) { s with heap:=s.heap.update l (Obj.mapSeq f),toks:=t' }:=by
 have q:=PySem.IsL.update e f
 rw[hf]at q
 refine I.write (x:=l) (e:=l) (by rw[hH];exact trivial) (.inl rfl) (fun b' u hb hu=>(cG s.heap (Obj.mapSeq f) (Ne.symm hb)).trans hu) ⟨_,q⟩ ?_
 exact⟨hz,its',_,hv,q⟩
theorem bF.lnew{bN:List Value}{t':Nat}(I:bF X aj σ H s)(hv:cJ t' ys bN)(hz:ys.length<=sizeLine)(hk:s.toks<=t':=by first|exact aw _|exact bi _|assumption|omega) :
  bF X aj σ (eT H s.heap.objs.size (.lst ys)) { s with heap:=s.heap.push { cls:=.type "list",data:=.seq bN.toArray },toks:=t' }:=
 I.laid (fun _ _ q=>ar _ q) (aw _) ⟨hz,bN,0,hv,aI _ rfl⟩
theorem bF.fresh(I:bF X aj σ H s):H s.heap.objs.size=none:=I.hok.fresh (aw _)
theorem bF.lstM(I:bF X aj σ H s)(hH:H l=some (.lst xs)):xs.length<=sizeLine/\∃(bN:List Value) (n:Nat),cJ s.toks xs bN/\xs.length=bN.length/\s.heap.get? l=some { cls:=.type "list",data:=.seq bN.toArray n }:=by
 obtain⟨z,bN,n,r,e⟩:=I.hok l _ hH
 exact⟨z,bN,n,r,r.length,e⟩
end
section
variable{X:Cx}
def BE:V->List V->Hp->VK->Prop:=fun x vs H Q=>∃l xs y,x=.ref l/\vs=[y]/\H l=some (.lst xs)/\xs.length<sizeLine/\Q .non (eT H l (.lst (xs++[y])))
theorem C8:Tb X "list.append" BE:=by
 intro aj s σ H x vs v us Q I rx rv h
 obtain⟨l,xs,y,rfl,rfl,hH,hz,q⟩:=h
 cases rx
 obtain⟨u,rfl,ru⟩:=rv.one
 obtain⟨z,bN,n,r,hl,e⟩:=I.lstM hH
 refine qk F.slot_list_append ⟨_,e,rfl⟩ F.entry_list_append (F.args_list_append_2 _ _) (PySem.list_append l bN.toArray n u (by rw[aS];omega)) ⟨e,?_⟩
 refine⟨.non,_,I.lset (its':=bN++[u]) hH e (by simp) (r.append (.cons ru .nil)) ?_,rfl,q⟩
 rw[bC,nA]
 omega
def Pf:V->List V->Hp->VK->Prop:=fun x vs H Q=>∃l xs y,x=.ref l/\vs=[]/\H l=some (.lst xs)/\xs[xs.length-1]?=some y/\Q y (eT H l (.lst xs.dropLast))
theorem L8:Tb X "list.pop" Pf:=by
 intro aj s σ H x vs v us Q I rx rv h
 obtain⟨l,xs,y,rfl,rfl,hH,hy,q⟩:=h
 cases rx
 have uQ:=rv.zero
 subst uQ
 obtain⟨z,bN,n,r,hl,e⟩:=I.lstM hH
 obtain⟨u,hu,ru⟩:=r.get hy
 have hy':bN.toArray[bN.toArray.size-1]?=some u:=by
  show bN.toArray[bN.length-1]?=some u
  rw[<- fA,<- hl]
  exact hu
 refine qk F.slot_list_pop ⟨_,e,rfl⟩ F.entry_list_pop (F.args_list_pop_1 _) (MeetsSeq.list_pop_last l bN.toArray n u hy' (by rw[aS];omega)) ⟨e,?_⟩
 refine⟨y,_,I.lset (its':=bN.dropLast) hH e ?_ r.dropLast ?_,ru,q⟩
 ·show bN.toArray.eraseIdxIfInBounds (bN.toArray.size-1)=bN.dropLast.toArray
  rw[aS,List.eraseIdxIfInBounds_toArray,Ak]
 ·rw[List.length_dropLast]
  omega
def R6:R2:=fun x y H Q=>∃l b xs zs,x=.ref l/\y=.ref b/\H l=some (.lst xs)/\H b=some (.lst zs)/\xs.length+zs.length<=sizeLine/\∀p,H p=none->Q (.ref p) (eT H p (.lst (xs++zs)))
theorem L9:lX X (binaryOp .Add) R6:=by
 intro aj s σ H x y v u Q I rx ry h
 obtain⟨l,b,xs,zs,rfl,rfl,hH,hB,hz,q⟩:=h
 cases rx
 cases ry
 obtain⟨z,bN,n,r,hl,e⟩:=I.lstM hH
 obtain⟨z2,its2,n2,r2,hl2,e2⟩:=I.lstM hB
 refine PySem.P.add_list e e2 ?_ (by rw[aS,aS];omega)
 have ea:bN.toArray++its2.toArray=(bN++its2).toArray:=by simp
 rw[ea]
 exact⟨.ref _,_,I.lnew (t':=s.toks) (r.append r2) (by rw[bC];omega),rfl,q _ I.fresh⟩
end
section
variable{prog:Program}{w:World}{A:Around}{E:Value->Shared->Prop}{s:Shared}
end
section
variable{X:Cx}
end
end L2
namespace Att
open PySem PySem.W PySem.Calls PyProof.Rows
theorem sQ{P:Params}{h:Heap}:∀(ns:List Int) (vs:List Value),WellAll P h vs (ns.map WData.int)->IntsAre vs ns:=by
 intro ns
 induction ns with
 |nil=>
  intro vs w
  rw[j8]at w
  cases w
  exact .nil
 |cons n ns ih=>
  intro vs w
  rw[bh]at w
  cases w with
  |cons a b=>
   cases a
   exact .cons _ _ (ih _ b)
theorem C9{l:OpenLaw}{n:Nat}(hn:l.most=some n){P:Params}{h:Heap}{args:List WData}{mK:List Value}
  (DS:l.row.toRowW.claim.pre args=true) (SQ:WellAll P h mK args) :
  ∃a vs ns,mK=[Value.ref a]/\args=[WData.list (ns.map WData.int)]/\h.get? a=some { cls:=.type "list",data:=.seq vs.toArray }/\IntsAre vs ns/\ns.length<=n:=by
 have hsh:WShape.hasAll [] args [.list .int]=true:=(pre_splitW DS).1
 have hc:l.pre.holds [] { args:=args }=true:=(pre_splitW DS).2
 obtain⟨d,r,rfl,h1,h2⟩:=hasAllW_cons hsh
 obtain rfl:=hasAllW_nil h2
 obtain⟨xs,rfl,h3⟩:=hasW_list h1
 obtain⟨ns,rfl⟩:=items_int h3
 have dr:ns.length<=n:=by
  unfold OpenLaw.pre at hc
  have h4:(WTm.not (.lt (.lit (.int (n:Int))) (.len (.arg 0)))).holds [] { args:=[.list (ns.map .int)] }=true:=by
   have h4:=(holds_andW hc).1
   rw[hn]at h4
   exact h4
  have h5:=condW_of h4 (w_not (w_lt w_lit (w_len_list (w_arg rfl))))
  rw[aC]at h5
  refine Nat.le_of_not_lt fun q=>?_
  have q':(n:Int)<((ns.length:Nat):Int):=by omega
  first
   |(rw[aB q']at h5;exact absurd h5 (by decide))
   |(simp at h5;omega)
 cases SQ with
 |cons w1 w2=>
  cases w2
  cases w1 with
  |list ho hall=>exact⟨_,_,ns,rfl,rfl,ho,sQ ns _ hall,dr⟩
theorem C_(l:OpenLaw)(args:List WData):l.row.toRowW.claim.post args (.bool true) args=true:=
 postW_of (r:=l.row.toRowW) (X:=(true==true))
  (show WShape.has [] (.bool true) .bool=true by first|rfl|decide|simp[WShape.has,WShape.arms,WShape.armsAll])
  (show(WTm.eq .res (.lit (.bool true))).value [] { args:=args,res:=some (.bool true),after:=args }=some (.bool (true==true))from w_eq_bool (w_res rfl) w_lit) rfl
theorem attach_call{l:OpenLaw}{n:Nat}{q:Program}{wc:List Str}{XP:(Str->Option Value)->Heap->Prop}{YP:World->Heap->Prop}{d:DefRec}
  (hn:l.most=some n) (Rb:d.params.defaults=[])
  (call:∀(w:World) (s₀ s₁:Shared) (mg mb:Str->Option Value) (fa:Addr) (o:Obj) (pm cd tw:Value) (a:Addr) (vs:List Value) (ns:List Int),
   Ground q wc [] XP w s₀ mg mb s₁.heap->YP w s₁.heap ->
   s₁.heap.get? fa=some o->o.data=.func (docDef d.name d.params d.body d.scope pm cd tw)->s₁.heap.CodeRec cd d.name->mg d.name=some (.ref fa) ->
   s₁.heap.get? a=some { cls:=.type "list",data:=.seq vs.toArray }->IntsAre vs ns->ns.length<=n->s₁.gens=#[] ->
   codeAny (model l.prog w) callerA (.call (.ref fa) ⟨[.ref a],[]⟩) (fun r s'=>r=.ok (.ret (.bool true))/\OldK s₁.heap s'.heap/\s'.os=s₁.os/\AllBare s'.gens) s₁) :
  WalkO q wc XP YP l.row.toRowW d [] (fun f vs=>PySem.call f vs):=by
 intro w s₀ s₁ mg mb G Y fa o pm cd tw dV kV ho hd uS hD hmg hg args mK as DS hlay hrd SQ hlo
 obtain rfl:dV=.none:=Dflts.none hD Rb
 obtain rfl:kV=.none:=Dflts.noKw hD
 obtain⟨a,vs,ns,rfl,rfl,hobj,hints,dr⟩:=C9 hn DS SQ
 refine enter_call (jb (call w s₀ s₁ mg mb fa o pm cd tw a vs ns G Y ho (fd_plain hd) uS hmg hobj hints dr hg) fun r s' hq=>?_)
 obtain⟨rfl,h2,h3,h4⟩:=hq
 exact⟨.inl ⟨.bool true,.bool true,[],rfl,fun _=>rfl,.bool true,C_ l _,fun _=>⟨List.Pairwise.nil,fun _ hm=>(nomatch hm)⟩⟩,h2,h3,h4⟩
section
variable{prog:Program}{w:World}{A:Around}{E:Value->Shared->Prop}{s:Shared}{K:Frag}
end
end Att
namespace L2
variable{nk:Nat}
open PySem PySem.Spec PyProof.Rows
theorem vi:∀{vs:List Value} {ns:List Int},IntsAre vs ns->cJ nk (ns.map V.int) vs
 |_,_,.nil=>.nil
 |_,_,.cons n t h=>.cons ⟨t,rfl⟩ (vi h)
def IE(H:Hp):Prop:=∀b,H b=none\/∃o xs,H b=some (.frz o (.lst xs))
theorem Eg{P:Program}{w:World}{K:Frag}{mg mb:Str->Option Value}{CX:DU}{k:Nat}{fa a:Addr}{fd:FuncData}{x:Str}{sp:Sp}{s₁:Shared}{vs:List Value}{ns:List Int}
  (KX:K.In s₁.heap) (RD:s₁.heap.Ns mainGlobals mg) (hb:s₁.heap.Ns builtinsNs mb) (On:∀x:Str,x ≠ "__name__"->mb x=bootBuiltins x) (S0:s₁.heap.NoLimit) (hg:s₁.gens=#[])
  (ha:s₁.heap.get? a=some { cls:=.type "list",data:=.seq vs.toArray }) (hi:IntsAre vs ns) (hl:ns.length<=sizeLine) (hr:js k callerA)
  (F:∀base:Heap,K.In base->base.Ns mainGlobals mg->eK P w K mg base CX k fa fd [x] sp) (Rq:∀(s:Shared) (u:Value),BindsTo s fd ⟨[u],[]⟩ [(x,u)]) (Om:fd.scope.names.lookup x=some .local)
  (Lm:∀H:Hp,IE H->sf K H a (ns.map V.int)->sp [.ref a] H (fun v _=>v=.bl true) fun _ _ _=>False)
  (SN:∀H e s',CX [] H s₁ (fun _ _ _=>False) e s'->False) :
  codeAny (model P w) callerA (.call (.ref fa) ⟨[.ref a],[]⟩) (fun r s'=>r=.ok (.ret (.bool true))/\OldK s₁.heap s'.heap/\s'.os=s₁.os/\AllBare s'.gens) s₁:=by
 have rv:cJ 0 _ _:=vi hi
 have lenV:=hi.length
 have core:∀H:Hp,IE H->sf K H a (ns.map V.int)->oF P w s₁.toks H s₁.heap->(∀b,H b≠none->b=a)->(H a≠none->K.lookup a=none) ->
   codeAny (model P w) callerA (.call (.ref fa) ⟨[.ref a],[]⟩) (fun r s'=>r=.ok (.ret (.bool true))/\OldK s₁.heap s'.heap/\s'.os=s₁.os/\AllBare s'.gens) s₁:=by
  intro H hO hS hok hA hK
  have base_of:∀{b:Addr} {o:Obj},s₁.heap.get? b=some o->H b=none->(wf s₁.heap H).get? b=some o:=fun e n=>DZ e n
  have noA:∀{b:Addr} {o:Obj} {es:Array DictEntry} {ep:Nat},s₁.heap.get? b=some o->o.data=.dict es ep->H b=none:=fun{b o es ep} e d=>by
   cases q:H b with
   |none=>rfl
   |some u=>
    have e':b=a:=hA b (by rw[q];simp)
    subst e'
    rw[ha]at e;cases e
    have d':Data.seq vs.toArray _=Data.dict es ep:=d
    cases d'
  have nsK:∀{b:Addr} {m:Str->Option Value},s₁.heap.Ns b m->(wf s₁.heap H).Ns b m:=fun{b m} ⟨o,es,ep,e,d,r⟩=>⟨o,es,ep,base_of e (noA e d),d,r⟩
  have hKb:K.In (wf s₁.heap H):=fun b o e=>base_of (KX b o e) (by
   cases q:H b with
   |none=>rfl
   |some u=>
    have e':b=a:=hA b (by rw[q];simp)
    subst e'
    rw[hK (by rw[q];simp)]at e;cases e)
  have hM:Mod K mg (wf s₁.heap H):=⟨hKb,nsK RD,⟨mb,nsK hb,On⟩,let ⟨mc,h1,h2⟩:=S0;⟨mc,nsK h1,h2⟩⟩
  have e0:Iw P w K mg (wf s₁.heap H) callerA [] s₁ H:=⟨rfl,hM,fun b o e=>Ia e,Nat.le_of_eq (CU _ _),trivial,fun b hb=>absurd (show b∈([]:List Addr)from hb) (by simp),hok,.of_eq hg⟩
  refine jb ((F _ hKb (nsK RD)).run callerA [] s₁ H ⟨[.ref a],[]⟩ [.ref a] [.ref a] _ _ hr e0 (.inr ⟨x,rfl,Om⟩) (Rq s₁ (.ref a)) (.cons rfl .nil) (Lm H hO hS)) fun r s' h=>?_
  cases r with
  |error e=>exact(SN H e s' h).elim
  |ok fl=>
   cases fl with
   |next=>exact False.elim h
   |brk=>exact False.elim h
   |cont=>exact False.elim h
   |ret u=>
    obtain⟨v,H',os,bare,un,hok',r',q⟩:=h
    have q':v=.bl true:=q
    subst q'
    obtain rfl:u=Value.bool true:=r'
    refine⟨rfl,OldK.of_keep fun b o e=>?_,os,bare⟩
    cases q:H b with
    |none=>exact un.keep b o e q (by intro z;exact absurd (show b∈([]:List Addr)from z) (by simp)) (by simp)
    |some u=>
     rcases hO b with z|⟨ob,xs,z⟩
     ·rw[q]at z;cases z
     ·have z2:=un.frzs b ob _ z
      obtain⟨e1,_⟩:=hok b _ z
      obtain⟨e2,_⟩:=hok' b _ z2
      rw[e]at e1;cases e1
      exact e2
 cases hk:K.lookup a with
 |some o=>
  have e:=KX a o hk
  rw[ha]at e
  cases e
  refine core (fun _=>none) (fun _=>.inl rfl) (.inr ⟨_,vs.toArray,_,hk,rfl,rfl,rfl,by rw[aS,lenV];exact hl,by simpa using rv⟩) (fun b u z=>by have z':(none:Option HO)=some u:=z;cases z') (fun b z=>absurd rfl z) fun z=>absurd rfl z
 |none=>
  refine core (fun b=>if b=a then some (.frz { cls:=.type "list",data:=.seq vs.toArray } (.lst (ns.map V.int)))else none) (fun b=>?_) (.inl (.inr ⟨{ cls:=.type "list",data:=.seq vs.toArray },aE rfl⟩)) (fun b u z=>?_) (fun b z=>?_) fun _=>hk
  ·by_cases hb:b=a
   ·exact .inr ⟨_,_,aE hb⟩
   ·exact .inl (aN hb)
  ·by_cases hb:b=a
   ·have z':=(aE hb).symm.trans z
    cases z'
    subst hb
    exact⟨ha,by rw[aC];exact hl,vs,_,rv.up (bQ _),ha⟩
   ·have z':=(aN hb).symm.trans z
    cases z'
  ·by_cases hb:b=a
   ·exact hb
   ·exact absurd (aN hb) z
end L2
namespace L2
variable{nk:Nat}
open PySem PySem.Spec PyProof.Rows
theorem walk_of{l:PySem.W.OpenLaw}{n k:Nat}{q:Program}{wc:List Str}{XP:(Str->Option Value)->Heap->Prop}{YP:World->Heap->Prop}{d:DefRec}{K:Params->Frag}{CX:World->DU}{sp:World->Sp}{x:Str}
  (hn:l.most=some n) (Tw:n<=sizeLine) (Rb:d.params.defaults=[]) (hr:js k callerA)
  (hY:∀(w:World) (h:Heap),YP w h->(K w.params).In h)
  (F:∀(w:World) (mg:Str->Option Value) (fa:Addr) (h:Heap),(K w.params).In h->h.Ns mainGlobals mg->mg d.name=some (.ref fa) ->
   ∃fd:FuncData,fd.scope.names.lookup x=some .local/\(∀(s:Shared) (u:Value),BindsTo s fd ⟨[u],[]⟩ [(x,u)]) /\
    ∀base:Heap,(K w.params).In base->base.Ns mainGlobals mg->eK l.prog w (K w.params) mg base (CX w) k fa fd [x] (sp w))
  (Lm:∀(w:World) (H:Hp) (a:Addr) (ns:List Int),ns.length<=n->IE H->sf (K w.params) H a (ns.map V.int)->sp w [.ref a] H (fun v _=>v=.bl true) fun _ _ _=>False)
  (SN:∀(w:World) (H:Hp) (s:Shared) (e:Value) (s':Shared),CX w [] H s (fun _ _ _=>False) e s'->False) :
  PySem.W.WalkO q wc XP YP l.row.toRowW d [] (fun f vs=>PySem.call f vs):=by
 refine Att.attach_call hn Rb fun w s₀ s₁ mg mb fa o pm cd tw a vs ns G Y ho hd uS hmg hobj hints dr hg=>?_
 have KX:=hY w _ Y
 obtain⟨fd,Om,hb,hF⟩:=F w mg fa _ KX G.T.g hmg
 exact Eg KX G.T.g G.T.b G.T.builtins G.T.nolimit hg hobj hints (aF dr Tw) hr hF hb Om (fun H hO hS=>Lm w H a ns dr hO hS) fun H e s'=>SN w H s₁ e s'
end L2
namespace L2
variable{nk:Nat}
open PySem PySem.Spec PyProof.Rows
def jA(s:Stmt):Arguments:=match s with
 |.FunctionDef _ a _ _ _ _ _ _ _ _=>a
 |_=>{ posonlyargs:=[],args:=[],vararg:=none,kwonlyargs:=[],kw_defaults:=[],kwarg:=none,defaults:=[] }
def iy(s:Stmt):List Stmt:=match s with
 |.FunctionDef _ _ b _ _ _ _ _ _ _=>b
 |_=>[]
def aX(s:Stmt):Scope:=match s with
 |.FunctionDef _ _ _ _ _ _ sc _ _ _=>sc
 |_=>{ kind:=.function,names:=[],isGenerator:=false,isCoroutine:=false }
structure jM(K:Frag)(x fq:Str)(st:Stmt)(f:Addr)(fd:FuncData):Prop where
 ex:∃(oc:Value) (od:Option Addr) (kV tw pm:Value) (an:Option Addr) (gk ct:Value) (Li:Array (Option Value)),
  fd=fnOf x fq (jA st) (iy st) (aX st) .none kV tw pm an gk ct/\K.lookup f=some ⟨oc,od,.func fd,Li⟩/\codeIn K gk fq=true
 kp:keepIn K (.ref f)=true
section
variable{P:Program}{w:World}{K:Frag}{mg:Str->Option Value}{base:Heap}
theorem jM.binds{x fq:Str}{st:Stmt}{f:Addr}{fd:FuncData}{ps:List Str}(F:jM K x fq st f fd)
  (h:∀(kV tw pm:Value) (an:Option Addr) (gk ct:Value) (us:List Value),us.length=ps.length->bindArgs (fnOf x fq (jA st) (iy st) (aX st) .none kV tw pm an gk ct) ⟨us,[]⟩=pure (ps.zip us)):xR K fd ps []:=by
 obtain⟨oc,od,kV,tw,pm,an,gk,ct,Li,rfl,lk,uS⟩:=F.ex
 exact .all (h kV tw pm an gk ct)
theorem Eh{x fq:Str}{st:Stmt}{f:Addr}{oc:Value}{od an:Option Addr}{Li:Array (Option Value)}{kV tw pm gk ct:Value}(l:K.lookup f=some ⟨oc,od,.func (fnOf x fq (jA st) (iy st) (aX st) .none kV tw pm an gk ct),Li⟩)
  (c:codeIn K gk fq=true) (k:keepIn K (.ref f)=true):jM K x fq st f (fnOf x fq (jA st) (iy st) (aX st) .none kV tw pm an gk ct):=⟨⟨oc,od,kV,tw,pm,an,gk,ct,Li,rfl,l,c⟩,k⟩
end
theorem Ei{A:Around}{k:Nat}(hr:js k A):A.units+1<cLine:=eh (Nat.add_le_add_left (by decide:1<=64) _) hr.units
section
variable{X:Cx}
theorem pv(i:Nat){x:Str}{pos:Pos}(hN:X.N[i]?=some x:=by rfl)(hv:OH X.env.scope x:=by first|exact Or.inl rfl|exact Or.inr (Or.inl rfl)|exact Or.inr (Or.inr rfl))(hd:(x==("__debug__":Str))=false:=by decide)
  (uS:(x==("__classdict__":Str))=false:=by decide):PE X (.Name x pos) (OI i):=Ls hN hv hd uS
end
def sR(H H':Hp):Prop:=∀b o,H b=some o->H' b=some o
theorem sR.refl(H:Hp):sR H H:=fun _ _ h=>h
end L2
namespace L2
variable{nk:Nat}
open PySem PySem.Spec PyProof.Rows
section
variable{κ:Type}[DecidableEq κ]
def nF(kvs:List (κ×V))(k:κ):Option V:=(kvs.find? fun kv=>decide (kv.1=k)).map (·.2)
def rl(kvs:List (κ×V))(k:κ)(v:V):List (κ×V):=
 if (kvs.any fun kv=>decide (kv.1=k))=true then kvs.map (fun kv=>if kv.1=k then(kv.1,v)else kv)else kvs++[(k,v)]
theorem qr{p:κ×V}{r:List (κ×V)}{k:κ}(e:p.1=k):nF (p::r) k=some p.2:=by simp[nF,df,e]
theorem qt{p:κ×V}{r:List (κ×V)}{k:κ}(e:¬ p.1=k):nF (p::r) k=nF r k:=by simp[nF,df,e]
theorem xU(k:κ):∀kvs:List (κ×V),(kvs.any fun kv=>decide (kv.1=k))=(nF kvs k).isSome
 |[]=>rfl
 |p::r=>by
  rw[lT]
  by_cases e:p.1=k
  ·simp only[qr e,aB e,qW,Option.isSome_some]
  ·rw[qt e,az e,lU];exact xU k r
theorem si(kvs:List (κ×V))(k:κ)(v:V):(rl kvs k v).length<=kvs.length+1:=by
 unfold rl
 split
 ·rw[aC];omega
 ·rw[bC,e_,iD];omega
theorem sO.isSome_eq{o:Option V}{u:Option Value}(r:sO nk o u):o.isSome=u.isSome:=by
 cases o with
 |none=>cases u with
  |none=>rfl
  |some _=>exact(show False from r).elim
 |some _=>cases u with
  |none=>exact(show False from r).elim
  |some _=>rfl
theorem sO.getD{o:Option V}{u:Option Value}{d:V}{d':Value}(r:sO nk o u)(rd:cO nk d d'):cO nk (o.getD d) (u.getD d'):=by
 cases o with
 |none=>cases u with
  |none=>exact rd
  |some _=>exact(show False from r).elim
 |some _=>cases u with
  |none=>exact(show False from r).elim
  |some _=>exact r
theorem KV.val{kvs:List (κ×V)}{vs:List (κ×Value)}(r:KV nk kvs vs)(k:κ):sO nk (nF kvs k) (valueAt vs k):=by
 unfold KV at r
 induction r with
 |nil=>exact True.intro
 |@cons p q ps qs h t ih=>
  obtain⟨h1,h2⟩:=h
  by_cases e:p.1=k
  ·have e':q.1=k:=h1.symm.trans e
   have b:valueAt (q::qs) k=some q.2:=by simp[valueAt,df,e']
   rw[qr e,b];exact h2
  ·have e':¬ q.1=k:=fun z=>e (h1.trans z)
   have b:valueAt (q::qs) k=valueAt qs k:=by simp[valueAt,df,e']
   rw[qt e,b];exact ih
theorem KV.any{kvs:List (κ×V)}{vs:List (κ×Value)}(r:KV nk kvs vs)(k:κ):(kvs.any fun kv=>decide (kv.1=k))=vs.any fun kv=>decide (kv.1=k):=by
 unfold KV at r
 induction r with
 |nil=>rfl
 |cons h t ih=>rw[lT,lT,ih,h.1]
theorem KV.repl{kvs:List (κ×V)}{vs:List (κ×Value)}(r:KV nk kvs vs)(k:κ){y:V}{u:Value}(ry:cO nk y u) :
  KV nk (kvs.map fun kv=>if kv.1=k then(kv.1,y)else kv) (vs.map fun kv=>if kv.1=k then(kv.1,u)else kv):=by
 unfold KV at r ⊢
 induction r with
 |nil=>exact .nil
 |@cons p q ps qs h t ih=>
  rw[bh,bh]
  refine .cons ?_ ih
  obtain⟨h1,h2⟩:=h
  by_cases e:p.1=k
  ·rw[aE e,aE (h1.symm.trans e)];exact⟨h1,ry⟩
  ·rw[aN e,aN (fun z=>e (h1.trans z))];exact⟨h1,h2⟩
theorem KV.put{kvs:List (κ×V)}{vs:List (κ×Value)}(r:KV nk kvs vs)(k:κ){y:V}{u:Value}(ry:cO nk y u):KV nk (rl kvs k y) (stored vs k u):=by
 unfold rl stored
 rw[r.any k]
 by_cases e:(vs.any fun kv=>decide (kv.1=k))=true
 ·rw[aE e,aE e];exact r.repl k ry
 ·rw[aN e,aN e];exact Paired.snoc r ⟨rfl,ry⟩
theorem KV.length{kvs:List (κ×V)}{vs:List (κ×Value)}(r:KV nk kvs vs):kvs.length=vs.length:=Paired.length r
end
theorem BF{P:Program}{w:World}{k:jF}{u:Value}(r:cO nk (kV k) u):(fT P w).is k u=true:=by
 cases k with
 |inl i=>obtain⟨t,e⟩:=(show ∃t,u=Value.int i t from r);subst e;exact xM P w i t
 |inr x=>obtain⟨t,e⟩:=(show ∃t:Tk _ x,u=Value.str x t.1 from r);subst e;exact xN P w x t
theorem vj{P:Program}{w:World}:∀{ks:List jF} {us:List Value},cJ nk (ks.map kV) us->ItemsAre (fT P w) ks us
 |[],_,r=>by rw[j8]at r;cases r;exact .nil
 |k::ks,_,r=>by
  rw[bh]at r
  cases r with
  |cons h t=>exact .cons (BF h) (vj t)
abbrev KT(nk:Nat)(H:Hp):List (List jF×V)->List (List jF×Addr×Value)->Prop:=Paired fun p q=>p.1=q.1/\H q.2.1=some (.tup (p.1.map kV))/\cO nk p.2 q.2.2
theorem KT.val{H:Hp}{kvs:List (List jF×V)}{xs:List (List jF×Addr×Value)}(r:KT nk H kvs xs)(k:List jF):sO nk (nF kvs k) ((atKey xs k).map (·.2)):=by
 induction r with
 |nil=>exact True.intro
 |@cons p q ps qs h t ih=>
  obtain⟨h1,_,h2⟩:=h
  by_cases e:p.1=k
  ·have e':q.1=k:=h1.symm.trans e
   have b:atKey (q::qs) k=some q.2:=by simp[atKey,df,e']
   rw[qr e,b];exact h2
  ·have e':¬ q.1=k:=fun z=>e (h1.trans z)
   have b:atKey (q::qs) k=atKey qs k:=by simp[atKey,df,e']
   rw[qt e,b];exact ih
theorem KT.repl{H:Hp}{kvs:List (List jF×V)}{xs:List (List jF×Addr×Value)}(r:KT nk H kvs xs)(k:List jF){y:V}{u:Value}(ry:cO nk y u) :
  KT nk H (kvs.map fun kv=>if kv.1=k then(kv.1,y)else kv) (xs.map (putAt k u)):=by
 induction r with
 |nil=>exact .nil
 |@cons p q ps qs h t ih=>
  rw[bh,bh]
  refine .cons ?_ ih
  obtain⟨h1,h2,h3⟩:=h
  unfold putAt
  by_cases e:p.1=k
  ·rw[aE e,aE (h1.symm.trans e)];exact⟨h1,h2,ry⟩
  ·rw[aN e,aN (fun z=>e (h1.trans z))];exact⟨h1,h2,h3⟩
theorem KT.put{H:Hp}{kvs:List (List jF×V)}{xs:List (List jF×Addr×Value)}(r:KT nk H kvs xs)(k:List jF){b:Addr}{y:V}{u:Value}(hb:H b=some (.tup (k.map kV)))(ry:cO nk y u) :
  KT nk H (rl kvs k y) (storedH xs k b u):=by
 have e:(kvs.any fun kv=>decide (kv.1=k))=(atKey xs k).isSome:=by
  rw[xU,(r.val k).isSome_eq,Option.isSome_map]
 unfold rl storedH
 rw[e]
 by_cases q:(atKey xs k).isSome=true
 ·rw[aE q,aE q];exact r.repl k ry
 ·rw[aN q,aN q];exact Paired.snoc r ⟨rfl,hb,ry⟩
theorem KT.keeps{H H':Hp}{kvs:List (List jF×V)}{xs:List (List jF×Addr×Value)}(r:KT nk H kvs xs)(ht:∀b ys,H b=some (.tup ys)->H' b=some (.tup ys)):KT nk H' kvs xs:=
 Paired.mapP r fun _ _ z=>⟨z.1,ht _ _ z.2.1,z.2.2⟩
section
variable{P:Program}{w:World}{H:Hp}{h:Heap}{a:Addr}
theorem J9{u:HO}(ok:oF P w nk H h)(e:Rd H a u):eJ P w nk H h a u:=e.ok ok
theorem xV{kvs:List (jF×V)}(ok:oF P w nk H h)(e:Rd H a (.dK kvs)):kvs.length<=sizeLine/\(a==sysModules)=false/\∃vs,KV nk kvs vs/\h.DictOf (fT P w) a vs:=
 show eJ P w _ H h a (.dK kvs)from J9 ok e
theorem Pg{kvs:List (jF×V)}(ok:oF P w nk H h)(e:H a=some (.dK kvs)):kvs.length<=sizeLine/\(a==sysModules)=false/\∃vs,KV nk kvs vs/\h.DictOf (fT P w) a vs:=xV ok (.inl e)
theorem wu{ks:List jF}(ok:oF P w nk H h)(e:H a=some (.tup (ks.map kV))):(tupleKind (fT P w)).is h ks a:=by
 obtain⟨_,bN,r,o,h1,h2,n,h3⟩:=(show eJ P w _ H h a (.tup (ks.map kV))from ok a _ e)
 exact⟨o,bN.toArray,n,h1,h2,h3,by simpa using vj r⟩
theorem BG{kvs:List (List jF×V)}(ok:oF P w nk H h)(e:Rd H a (.dT kvs)):kvs.length<=sizeLine/\(a==sysModules)=false /\
  ∃xs,KT nk H kvs xs/\h.DictOfH (tupleKind (fT P w)) a xs:=by
 obtain⟨z,y,xs,r,o,es,ep,h1,h2,h3,h4,h5⟩:=(show eJ P w _ H h a (.dT kvs)from J9 ok e)
 refine⟨z,y,xs,r,o,es,ep,h1,h2,h3,h4,fun x hx=>?_,h5⟩
 have all:∀{l:List (List jF×V)} {m:List (List jF×Addr×Value)},KT nk H l m->∀x∈m,(tupleKind (fT P w)).is h x.1 x.2.1:=by
  intro l m q
  induction q with
  |nil=>intro x hx;exact nomatch hx
  |@cons p q ps qs hq t ih=>
   intro x hx
   rcases aY.mp hx with e|hx
   ·subst e
    exact wu ok (by rw[<- hq.1];exact hq.2.1)
   ·exact ih x hx
 exact all r x hx
theorem Ph{kvs:List (List jF×V)}(ok:oF P w nk H h)(e:H a=some (.dT kvs)):kvs.length<=sizeLine/\(a==sysModules)=false /\
  ∃xs,KT nk H kvs xs/\h.DictOfH (tupleKind (fT P w)) a xs:=BG ok (.inl e)
end
def xW(H:Hp)(a:Addr)(y:V)(r:Option V):Prop:=
 (∃kvs k,Rd H a (.dK kvs)/\y=kV k/\r=nF kvs k)\/∃kvs k b,Rd H a (.dT kvs)/\y=.ref b/\H b=some (.tup (k.map kV))/\r=nF kvs k
def IF(H:Hp)(a:Addr)(y v:V)(H':Hp):Prop:=
 (∃kvs k,H a=some (.dK kvs)/\y=kV k/\kvs.length<sizeLine/\H'=eT H a (.dK (rl kvs k v))) \/
 ∃kvs k b,H a=some (.dT kvs)/\y=.ref b/\H b=some (.tup (k.map kV))/\kvs.length<sizeLine/\H'=eT H a (.dT (rl kvs k v))
theorem IF.k{H:Hp}{a:Addr}{kvs:List (jF×V)}{k:jF}{v:V}(e:H a=some (.dK kvs))(hl:kvs.length<sizeLine):IF H a (kV k) v (eT H a (.dK (rl kvs k v))):=.inl ⟨kvs,k,e,rfl,hl,rfl⟩
section
variable{X:Cx}{aj:List (Addr×Obj)}{σ:St}{H:Hp}{s:Shared}{a:Addr}{y v:V}{u r:Value}{o:Option V}{A:Around}{E:Value->Shared->Prop}
theorem bF.big(I:bF X aj σ H s):sysModules<s.heap.objs.size:=by
 have h:mainGlobals<s.heap.objs.size:=(I.mod.glob.keeps I.bk).lt
 exact Nat.lt_trans (by decide) h
theorem R7{Q:Value->Shared->Prop}(hu:A.units+1<cLine)(I:bF X aj σ H s)(g:xW H a y o)(ry:cO s.toks y u)(h:∀s',bF X aj σ H s'->Q (.bool o.isSome) s') :
  wpAny (model X.prog X.w) A (compareOp .In u (.ref a)) Q E s:=by
 rcases g with⟨kvs,k,e,ey,l⟩|⟨kvs,k,b,e,ey,eb,l⟩
 ·subst ey
  obtain⟨z,hd,vs,rel,dd⟩:=xV I.hok e
  refine wpAny_in_of (BF ry) hd dd.mapOf ?_
  rw[<- (rel.val k).isSome_eq,<- l]
  exact h _ (I.tok _)
 ·subst ey
  cases(show u=Value.ref b from ry)
  obtain⟨z,hd,xs,rel,dd⟩:=BG I.hok e
  refine wpAny_in_heap (kJ hu) (wu I.hok eb) hd dd ?_
  have q:=(rel.val k).isSome_eq
  rw[Option.isSome_map]at q
  rw[<- q,<- l]
  exact h _ (I.tok _)
theorem BH{h':Heap}{t':Nat}{ob:HO}(I:bF X aj σ H s)(mu:OG (H a))(hs:Heap.SameBut a s.heap h')(he:∃q,h'.get? a=some q)(new:eJ X.prog X.w s.toks (eT H a ob) h' a ob)(hk:s.toks<=t':=by first|exact aw _|exact bi _|assumption|omega) :
  bF X aj σ (eT H a ob) { s with heap:=h',toks:=t' }:=
 I.write (x:=a) (e:=a) mu (.inl rfl) (fun b q hb z=>(hs.2 b hb).trans z) he (new.up hk)
theorem Ej{P:Program}{w:World}{H':Hp}{h':Heap}{kvs:List (jF×V)}{vs:List (jF×Value)}(z:kvs.length<=sizeLine)(hd:(a==sysModules)=false)(rel:KV nk kvs vs)(dd:h'.DictOf (fT P w) a vs) :
  eJ P w nk H' h' a (.dK kvs):=⟨z,hd,vs,rel,dd⟩
theorem Da{H':Hp}{Q:Unit->Shared->Prop}(hu:A.units+1<cLine)(I:bF X aj σ H s)(g:IF H a y v H')(ry:cO s.toks y u)(rv:cO s.toks v r)(h:∀s',bF X aj σ H' s'->Q () s') :
  wpAny (model X.prog X.w) A (setItem (.ref a) u r) Q E s:=by
 rcases g with⟨kvs,k,e,ey,l,eH⟩|⟨kvs,k,b,e,ey,eb,l,eH⟩
 ·subst ey eH
  obtain⟨z,hd,vs,rel,dd⟩:=Pg I.hok e
  have hz:vs.length<=sizeLine:=by rw[<- rel.length];exact z
  have hl:(rl kvs k v).length<=sizeLine:=by have:=si kvs k v;omega
  refine wpAny_setItem_pairs (hsz:=hz) (BF ry) dd fun h' Ln hs=>h _ ?_
  have he:∃q,h'.get? a=some q:=let ⟨q,_,_,hq,_⟩:=Ln;⟨q,hq⟩
  exact BH I (by rw[e];exact True.intro) hs he (Ej hl hd (rel.put k rv) Ln)
 ·subst ey eH
  cases(show u=Value.ref b from ry)
  obtain⟨z,hd,xs,rel,dd⟩:=Ph I.hok e
  have hz:xs.length<=sizeLine:=by rw[<- Paired.length rel];exact z
  have hl:(rl kvs k v).length<=sizeLine:=by have:=si kvs k v;omega
  refine wpAny_setItem_heap (hsz:=hz) (kJ hu) (wu I.hok eb) dd fun h' Ln hs=>h _ ?_
  obtain⟨q,es,ep,hq,h2,h3,h4,_,h5⟩:=Ln
  refine BH I (by rw[e];exact True.intro) hs ⟨q,hq⟩ ⟨hl,hd,_,(rel.put k eb rv).keeps fun c ys ec=>?_,q,es,ep,hq,h2,h3,h4,h5⟩
  rw[cW (OF ec e (fun z=>nomatch z))]
  exact ec
end
section
variable{X:Cx}{aj:List (Addr×Obj)}{σ:St}{H:Hp}{s:Shared}{a:Addr}{kvs:List (jF×V)}{k:jF}{u:Value}{A:Around}{E:Value->Shared->Prop}
end
section
variable{X:Cx}{o i e value:Expr}{pos iP SL:Pos}{td ty tv:TE}
end
theorem Ek{P:Program}{w:World}{H:Hp}(h:Heap)(hb:sysModules<h.objs.size):eJ P w nk H (h.push { cls:=.type "dict",data:=.dict #[] }) h.objs.size (.dK []):=
 ⟨bQ _,bY.mpr (Ne.symm (aZ hb)),[],.nil,Heap.DictOf.new h⟩
def L_:TE:=fun _ H Q=>∀p,H p=none->Q (.ref p) (eT H p (.dK []))
section
variable{X:Cx}{pos:Pos}
theorem El:PE X (.Dict [] [] pos) L_:=fun aj s σ H Q I h=>
 wpAny_Dict_empty ⟨.ref s.heap.objs.size,_,I.laid (a:=s.heap.objs.size) (o:=.dK []) (t':=s.toks) (fun _ _ q=>ar _ q) (aw _) (Ek s.heap I.big),rfl,h _ (I.hok.fresh (aw _))⟩
end
structure M2(X:Cx)(o:Expr)(m:Str)(gc:Pos)(e f:Expr)(du:Pos):Prop where
 base:attributeBase o m X.env (eval o X.env)=eval o X.env
 few:((backTo du (starEach [e,f] X.env)).all (fun x=>!x.1)&&(backToKw du (keywordEach [] X.env)).all (fun x=>x.1.isSome)
  && decide (([e,f]:List Expr).length+([]:List Keyword).length+(if ([]:List Keyword).isEmpty then 0 else 1)<30))=true
 line:(gc.endLine==du.line)=true
 trees:backTo du (starEach [e,f] X.env)=[(false,eval e X.env),(false,eval f X.env)]
def Tc(H:Hp)(a:Addr):Prop:=(∃kvs,Rd H a (.dK kvs))\/∃kvs,Rd H a (.dT kvs)
theorem Ma{X:Cx}{aj:List (Addr×Obj)}{σ:St}{H:Hp}{s:Shared}{a:Addr}(I:bF X aj σ H s)(d:Tc H a) :
  s.TypeIs (.ref a) "dict"/\(∀b,Value.ref a=.ref b->∃ob,s.heap.get? b=some ob/\ob.dict=none)/\(a==sysModules)=false:=by
 rcases d with⟨kvs,e⟩|⟨kvs,e⟩
 ·obtain⟨_,hd,vs,_,dd⟩:=xV I.hok e
  refine⟨dd.typeIs,fun b q=>?_,hd⟩
  cases q
  obtain⟨ob,_,_,h1,h2,_⟩:=dd
  exact⟨ob,h1,h2.2.1⟩
 ·obtain⟨_,hd,xs,_,dd⟩:=BG I.hok e
  refine⟨dd.typeIs,fun b q=>?_,hd⟩
  cases q
  obtain⟨ob,_,_,h1,h2,_⟩:=dd
  exact⟨ob,h1,h2.2.1⟩
section
variable{X:Cx}{aj:List (Addr×Obj)}{σ:St}{H:Hp}{s:Shared}{a:Addr}{y d:V}{u r:Value}{o:Option V}{A:Around}{E:Value->Shared->Prop}
theorem Mb{Q:Value->Shared->Prop}(hu:A.units+1<cLine)(I:bF X aj σ H s)(g:xW H a y o)(ry:cO s.toks y u)(rd:cO s.toks d r)(h:∀w' s',bF X aj σ H s'->cO s'.toks (o.getD d) w'->Q w' s') :
  wpAny (model X.prog X.w) A (call (.builtin "dict.get") [.ref a,u,r]) Q E s:=by
 rcases g with⟨kvs,k,e,ey,l⟩|⟨kvs,k,b,e,ey,eb,l⟩
 ·subst ey
  obtain⟨z,hd,vs,rel,dd⟩:=xV I.hok e
  refine call_meetsIn PySem.F.slot_dict_get dd.typeIs PySem.F.entry_dict_get (PySem.F.args_dict_get_3 _ _ _) (meets_dict_get_default (fT X.prog X.w) a (BF ry) hd r) ⟨_,dd.mapOf,h _ _ (I.tok _) ?_⟩
  rw[l]
  exact((rel.val k).getD rd).up (me _ _)
 ·subst ey
  cases(show u=Value.ref b from ry)
  obtain⟨z,hd,xs,rel,dd⟩:=BG I.hok e
  refine call_meetsIn PySem.F.slot_dict_get dd.typeIs PySem.F.entry_dict_get (PySem.F.args_dict_get_3 _ _ _) (meetsH_dict_get_default (tupleKind (fT X.prog X.w)) a b hd r) ⟨kJ hu,k,xs,wu I.hok eb,dd,h _ _ (I.tok _) ?_⟩
  rw[l]
  exact((rel.val k).getD rd).up (me _ _)
end
def Mc(td ty tx:TE):TE:=fun σ H Q=>td σ H fun x H1=>∃a,x=.ref a/\Tc H1 a/\ty σ H1 fun y H2=>tx σ H2 fun z H3=>∃o,xW H3 a y o/\Q (o.getD z) H3
section
variable{X:Cx}{o e f:Expr}{gc du:Pos}{td ty tx:TE}
theorem Em(hu:X.A.units+1<cLine)(ho:PE X o td)(he:PE X e ty)(hf:PE X f tx)(m:M2 X o "get" gc e f du):PE X (.Call (.Attribute o "get" gc) [e,f] [] du) (Mc td ty tx):=by
 intro aj s σ H Q I h
 refine wpAny_Call_method m.base m.few m.line PySem.F.plainAttrs_dict PySem.F.slot_dict_get PySem.F.type_dict_get (i3 (ho aj s σ H _ I h) fun u s1 kt1 ⟨x,H1,I1,rx,a,ex,d,q1⟩=>?_)
 subst ex
 obtain rfl:u=Value.ref a:=rx
 obtain⟨t1,t2,_⟩:=Ma I1 d
 refine⟨t1,t2,?_⟩
 rw[m.trees]
 refine gp rfl (gO (dC (i3 (he aj s1 σ H1 _ I1 q1) fun iv s2 kt2 ⟨y,H2,I2,ry,q2⟩=>
  dC (i3 (hf aj s2 σ H2 _ I2 q2) fun fv s3 kt3 ⟨z,H3,I3,rz,ov,g,q3⟩=>fJ ?_))))
 exact Mb hu I3 g (ry.up kt3) rz fun w' s4 I4 sd=>⟨_,H3,I4,sd,q3⟩
end
section
variable{X:Cx}{aj:List (Addr×Obj)}{σ:St}{H:Hp}{s:Shared}{a:Addr}{kvs:List (jF×V)}{A:Around}{E:Value->Shared->Prop}
end
section
variable{X:Cx}{aj:List (Addr×Obj)}{σ:St}{H:Hp}{s:Shared}{a:Addr}{y:V}{u:Value}{A:Around}{E:Value->Shared->Prop}
end
end L2
namespace L2
variable{nk:Nat}
open PySem PySem.Spec PyProof.Rows
section
variable{X:Cx}
end
section
variable{κ:Type}[DecidableEq κ]
end
end L2
set_option maxHeartbeats 4000000
namespace L2
open PySem PySem.Spec PyProof.Rows
theorem rq{α:Type}{t:Sem α}{Q Q':α->Shared->Prop}{M:Model}{A:Around}{E:Value->Shared->Prop}{s:Shared}(h:wpAny M A t Q (fun _ _=>False) s)(hQ:∀a s',s.toks<=s'.toks->Q a s'->Q' a s'):wpAny M A t Q' E s:=
 up (iQ h (fun a s' q k=>hQ a s' k q) fun _ _ z=>z.elim)
abbrev dG(X:Cx)(nm:List Str)(scope:Scope)(cl:List (Str×Addr))(C:Addr)(s0:Shared)(H0:Hp)(fp:List Addr):Cx:=
 { X with N:=nm,s₀:=s0,H₀:=H0,env:=compEnvC scope cl C X.env,outer:=X.stack,stack:=X.stack,ex:=fp,fn:=fun _=>false,pn:=[],xe:=fun _ _=>False }
def En(X:Cx)(ml:List Expr)(t:TT):Prop:=
 ∀(aj:List (Addr×Obj)) (s:Shared) (σ:St) (H:Hp) (Q:Bool->Hp->Prop),bF X aj σ H s->t σ H Q ->
  wpAny (model X.prog X.w) X.A (forIn ml true fun c r=>if r=true then do let ok <- isTrue c X.env (eval c X.env);pure (ForInStep.yield ok)else pure (ForInStep.yield r)) (TP X aj σ Q) X.xe s
def R8:TT:=fun _ H Q=>Q true H
theorem IG{X:Cx}:En X [] R8:=fun _ _ _ H _ I h=>wpAny_tests_nil ⟨H,I,h⟩
theorem IH{X:Cx}{c:Expr}{t:TT}(hc:PT X c t):En X [c] t:=fun aj s σ H Q I h=>wpAny_tests_one (hc aj s σ H Q I h)
def pi(cap:List (Option Nat))(σ:St):St:=cap.map fun o=>o.bind fun j=>(σ[j]?).join
def tJ(cap:List (Option Nat))(wi:TI)(g:TG)(tc:TT)(te:TE):TE:=fun σ H Q=>wi σ H fun J H1=>∃W:Nat->Nat->List V->Hp->Prop,(∃m,W 0 m [] H1)/\∀i m ys H2,W i m ys H2 ->
 (J.stop i H2/\ys.length<=sizeLine/\∀p,H2 p=none->Q (.ref p) (eT H2 p (.lst ys))) \/
 (J.go i H2/\∀x H3,J.yld i H2 x H3->g x (pi cap σ) H3 fun σ2 H4=>tc σ2 H4 fun b H5=>if b=true then te σ2 H5 fun y H6=>ys.length<sizeLine/\∃m',m'<m/\W (i+1) m' (ys++[y]) H6 else ∃m',m'<m/\W (i+1) m' ys H5)
theorem Un.cellK{fs ex:List Addr}{H H':Hp}{h h':Heap}(u:Un fs ex H H' h h'){c:Addr}{v:Option Value}(x:h.IsCell c v)(n:H c=none)(he:c∉ex):h'.IsCell c v:=by
 obtain⟨o,ho,hd⟩:=x
 obtain⟨sl,q⟩:=u.any ho n he
 exact⟨_,q,hd⟩
structure tK(X:Cx)(scope:Scope)(cl:List (Str×Addr))(x:Str):Prop where
 vis:OH X.env.scope x
 nl:X.env.scope.names.lookup x≠some .local
 cl:cl.lookup x=X.env.cells.lookup x
 kd:(relabel scope X.env).names.lookup x=some .cell\/(relabel scope X.env).names.lookup x=some .free
theorem lF:∀(names:List (Str×NameKind)) (n:Nat) (gG:List (Str×Addr)) {y:Str} {c:Addr},(y,c)∈cellsFrom n names gG->(y,NameKind.cell)∈names\/(y,c)∈gG
 |[],_,_,_,_,h=>.inr h
 |(x,k)::r,n,gG,y,c,h=>by
  have h:(y,c)∈(if k==.cell then cellsFrom (n+1) r ((x,n)::gG)else cellsFrom n r gG):=h
  split at h
  ·rename_i hk
   rcases lF r _ _ h with q|q
   ·exact .inl (bv _ q)
   ·rcases aY.mp q with e|q
    ·cases e
     exact .inl (by rw[md hk];exact c_)
    ·exact .inr q
  ·rcases lF r _ _ h with q|q
   ·exact .inl (bv _ q)
   ·exact .inr q
theorem iU{β:Type}:∀{l:List (Str×β)} {x:Str} {b:β},l.lookup x=some b->(x,b)∈l
 |[],_,_,h=>by simp at h
 |(y,c)::r,x,b,h=>by
  rw[jw]at h
  cases hx:x==y with
  |true=>rw[hx]at h;have:=md hx;subst this;cases h;exact c_
  |false=>rw[hx]at h;exact bv _ (iU h)
theorem jB:∀(names:List (Str×NameKind)) (n:Nat) (gG:List (Str×Addr)),cellsFrom n names gG=cellsFrom n names []++gG
 |[],_,_=>rfl
 |(x,k)::r,n,gG=>by
  show(if k==.cell then cellsFrom (n+1) r ((x,n)::gG)else cellsFrom n r gG)=(if k==.cell then cellsFrom (n+1) r [(x,n)]else cellsFrom n r [])++gG
  split
  ·rw[jB r (n+1) ((x,n)::gG),jB r (n+1) [(x,n)],bb];rfl
  ·exact jB r n gG
abbrev eY(X:Cx)(nm:List Str)(scope:Scope)(cl:List (Str×Addr))(C:Addr)(s0:Shared)(H0:Hp)(fp:List Addr):Cx:=
 { dG X nm scope cl C s0 H0 fp with fn:=fun y=>scope.names.lookup y==some .cell }
theorem II{M:Model}{A:Around}{E:Value->Shared->Prop}{s:Shared}{scope:Scope}{globals:Addr}{cl:List (Str×Addr)}{fq:Str}{env:Env}{Q:Env->Shared->Prop}
  (hQ:∀h':Heap,h'.Ns s.heap.objs.size (fun x=>([]:List (Str×Value)).reverse.lookup x)->(∀b o,s.heap.get? b=some o->h'.get? b=some o)->CellsOk h' (s.heap.objs.size+1) (cellsFrom (s.heap.objs.size+1) scope.names []) ->
   Q (newEnv scope s.heap.objs.size globals (cellsFrom (s.heap.objs.size+1) scope.names []++cl) fq none .none (some env) builtinsNs) { s with heap:=h' }) :
  wpAny M A (newFunctionEnv scope globals cl [] fq none .none (some env)) Q E s:=by
 simp only[newFunctionEnv,Option.isSome_some,jC]
 refine af (wpAny_alloc ?_)
 refine af (wpAny_layCells _ (fun name kind cells=>by cases hkc:kind==NameKind.cell<;>simp[hkc]) _ _ _ _ ?_)
 have ok:=cellsFrom_ok scope.names (s.heap.push { cls:=.type "dict",data:=.dict #[] }) (s.heap.objs.size+1) [] ⟨fun _ _ hm=>(nomatch hm),List.Pairwise.nil⟩ (by rw[bZ];exact aw _)
 rw[bZ]at ok
 rw[show({ s with heap:=s.heap.push { cls:=.type "dict",data:=.dict #[] } }:Shared).heap.objs.size=s.heap.objs.size+1 from bZ ..,jB _ _ cl]
 exact af (ay (ay (hQ _ ((Heap.Ns.new s.heap (.type "dict")).keeps (jN _ _)) (fun b o e=>jN _ _ b o (ar _ e)) ok)))
section
variable{X:Cx}{qe tg dL:Expr}{ml:List Expr}{scope:Scope}{pos:Pos}{nm:List Str}{cl:List (Str×Addr)}{cap:List (Option Nat)}{wi:TI}{g:TG}{tc:TT}{te:TE}
theorem ww{prog:Program}{w:World}{A:Around}{E:Value->Shared->Prop}{s:Shared}{l:Addr}{bN:List Value}{n:Nat}{u:Value}{Q:Value->Shared->Prop}
  (e:s.heap.get? l=some { cls:=.type "list",data:=.seq bN.toArray n }) (hz:bN.length<sizeLine)
  (h:∀(h':Heap) (n' tk:Nat),h'.get? l=some { cls:=.type "list",data:=.seq (bN++[u]).toArray n' }->(∀b o,b≠l->s.heap.get? b=some o->h'.get? b=some o)->Q .none { s with heap:=h',toks:=tk }) :
  wpAny (model prog w) A (call (.builtin "list.append") [.ref l,u]) Q E s:=by
 refine qk F.slot_list_append ⟨_,e,rfl⟩ F.entry_list_append (F.args_list_append_2 _ _) (PySem.list_append l bN.toArray n u (by rw[aS];omega)) ⟨e,?_⟩
 have q:=PySem.IsL.update e (fun a=>a.push u)
 have q2:(s.heap.update l (Obj.mapSeq fun x=>x.push u)).get? l=some { cls:=.type "list",data:=.seq (bN++[u]).toArray (if ((bN.toArray.push u).size==bN.toArray.size)=true then n else n+1) }:=by
  rw[show(s.heap.update l (Obj.mapSeq fun x=>x.push u)).get? l=_ from q];simp
 exact h _ _ s.toks q2 fun b o hb ho=>(cG s.heap (Obj.mapSeq _) (Ne.symm hb)).trans ho
structure xX(X:Cx)(aj:List (Addr×Obj))(H:Hp)(s:Shared)(C:Addr)(m:Str->Option Value):Prop where
 ns:s.heap.Ns C m
 fr:H C=none
 nl:C≠X.env.locals
 nf:C∉X.fs
 hi:X.s₀.heap.objs.size<=C
 nc:∀x c,X.env.cells.lookup x=some c->c≠C
 np:∀p∈X.pn++aj,p.1≠C
theorem xX.off{aj:List (Addr×Obj)}{σ:St}{H:Hp}{s:Shared}{C:Addr}{m:Str->Option Value}{h':Heap}(B:xX X aj H s C m)(I:bF X aj σ H s)(hs:Heap.SameBut C s.heap h'):bF X aj σ H { s with heap:=h' }:=I.turned (t':=s.toks) (it:=C) (fun b o hb e=>hs.extBut b o hb e) B.fr B.nl (.inr B.hi) B.nc B.np
theorem Eo{aj Ll:List (Addr×Obj)}{σ σ2:St}{H1 H:Hp}{s2 s:Shared}{C:Addr}{fp:List Addr}
  (sY:∀(i j:Nat),cap[i]?=some (some j)->∃x,nm[i]?=some x/\X.N[j]?=some x/\tK X scope cl x) (dr:cap.length=nm.length)
  (I2:bF X aj σ H1 s2) (Ra:∀b∈fp,∀x c,X.env.cells.lookup x=some c->c≠b)
  (I:bF (eY X nm scope cl C s2 H1 fp) Ll σ2 H s):bF (eY X nm scope cl C s2 H1 fp) Ll (pi cap σ) H s:=by
 refine⟨I.ok,I.os,I.bare,I.base,?_,I.cell,I.free,I.freeC,I.pin,I.hok,by show(pi cap σ).length=nm.length;unfold pi;rw[aC];exact dr,I.pos,I.tk⟩
 obtain⟨m,hn,_⟩:=I.loc
 refine⟨m,hn,fun i x v e1 e2 e3=>?_⟩
 unfold pi at e2
 rw[aG]at e2
 cases hc:cap[i]? with
 |none=>rw[hc]at e2;cases e2
 |some oj=>
  cases oj with
  |none=>rw[hc]at e2;cases e2
  |some j=>
   rw[hc]at e2
   have e2':(σ[j]?).join=some v:=by simpa using e2
   have e2:σ[j]?=some (some v):=by
    cases hs:σ[j]? with
    |none=>rw[hs]at e2';cases e2'
    |some ov=>rw[hs]at e2';simp at e2';rw[e2']
   obtain⟨x',f1,f2,k⟩:=sY i j hc
   have hx:x'=x:=by
    have z:nm[i]?=some x:=e1
    rw[f1]at z;exact bc z
   subst hx
   obtain⟨m2,_,hl2⟩:=I2.loc
   obtain⟨u,r,l⟩:=hl2 j x' v f2 e2 k.vis
   refine⟨u,r.up I.tk,?_⟩
   rcases l with⟨kl,_⟩|⟨_,c,hcc,dq⟩
   ·exact absurd kl k.nl
   ·refine .inr ⟨k.kd,c,by rw[<- hcc];exact k.cl,?_⟩
    exact I.base.cellK dq (I2.freeC _ _ hcc) fun z=>Ra c z _ _ hcc rfl
theorem Al{aj:List (Addr×Obj)}{σ:St}{H:Hp}{s:Shared}{use:Option (Value->Sem Unit)}{Qk:VK}{Qv:Value->Shared->Prop}(jm:X.calm=true)(uP:closureFor scope X.env=pure cl)(uR:∀x c,cl.lookup x=some c->X.env.cells.lookup x=some c)
  (jo:scope.kind=.function) (qf:∀x∈scope.names,x.2=.local->scope.names.lookup x.1=some .local) (T8:∀y∈scope.names,y.2=.cell->cl.lookup y.1=none)
  (Bw:∀x,scope.names.lookup x≠some .cell->((relabel scope X.env).names.lookup x=some .cell\/(relabel scope X.env).names.lookup x=some .free)->∃c,cl.lookup x=some c)
  (sY:∀(i j:Nat),cap[i]?=some (some j)->∃x,nm[i]?=some x/\X.N[j]?=some x/\tK X scope cl x/\(x,NameKind.cell)∉scope.names) (dr:cap.length=nm.length)
  (hi:PI X tg dL wi) (hg:∀k C s0 H0 fp,PG (eY X nm scope (cellsFrom k scope.names []++cl) C s0 H0 fp) tg g) (ht:∀k C s0 H0 fp,En (eY X nm scope (cellsFrom k scope.names []++cl) C s0 H0 fp) ml tc)
  (he:∀k C s0 H0 fp,PE (eY X nm scope (cellsFrom k scope.names []++cl) C s0 H0 fp) qe te) (hs:∀x,foldedSetIterable dL X.env x=pure x)
  (I:bF X aj σ H s) (h:tJ cap wi g tc te σ H Qk) (hV:∀(s4:Shared) (C D:Addr) (m4:Str->Option Value) (Hn:Hp),bF X aj σ Hn s4->xX X aj Hn s4 C m4->Qk (.ref D) Hn->compPost (model X.prog X.w) X.A X.xe use Qv (.ref D) C (.ok .next) s4) :
  wpAny (model X.prog X.w) X.A (comprehension (.ListComp qe [⟨tg,dL,ml,0⟩] scope pos) scope X.env (firstIterPos [⟨tg,dL,ml,0⟩] pos) (newList []) (firstAsync [⟨tg,dL,ml,0⟩]) (firstIter [⟨tg,dL,ml,0⟩] X.env) use) Qv X.xe s:=by
 refine wpAny_comprehension_free (use:=use) rfl hs uP jo qf (z9 (hi aj s σ H _ I h) fun v s1 h1=>z9 h1 fun SX s2 h2=>?_)
 obtain⟨it,fp,tn,J,H1,e,I2,T,cN,f2,W,⟨m0,w0⟩,turn⟩:=h2
 subst e
 have hfpn:∀b∈fp,b<s2.heap.objs.size:=fun b hb=>let ⟨o,ho,_⟩:=T.obj _ _ cN b hb;aK ho
 have hfpc:∀b∈fp,∀x c,X.env.cells.lookup x=some c->c≠b:=fun b hb=>(f2 b hb).2.2.2.2.1
 refine ce (II (fun h₁ hns₁ hsb₁ cok=>?_))
 dsimp only at hns₁ hsb₁ cok ⊢
 generalize hH2:s2.heap.push { cls:=.type "list",dict:=none,data:=.seq ([]:List Value).toArray }=G2 at hns₁ hsb₁ cok ⊢
 have hC:G2.objs.size=s2.heap.objs.size+1:=by rw[<- hH2,bZ]
 have hDC:s2.heap.objs.size≠G2.objs.size:=by rw[hC];exact aZ (cy _)
 have old:∀b o,s2.heap.get? b=some o->h₁.get? b=some o:=fun b o e=>hsb₁ b o (hH2▸ar _ e)
 have hacc:h₁.get? s2.heap.objs.size=some { cls:=.type "list",data:=.seq ([]:List Value).toArray }:=hsb₁ _ _ (hH2▸aI _ rfl)
 have both:∀y c,(cellsFrom (G2.objs.size+1) scope.names []++cl).lookup y=some c->(cellsFrom (G2.objs.size+1) scope.names []).lookup y=some c\/cl.lookup y=some c:=fun y c e=>by
  rw[iS]at e
  cases h:(cellsFrom (G2.objs.size+1) scope.names []).lookup y with
  |none=>rw[h]at e;exact .inr e
  |some b=>rw[h]at e;exact .inl e
 have ownhi:∀y c,(cellsFrom (G2.objs.size+1) scope.names []).lookup y=some c->h₁.IsCell c none/\G2.objs.size+1<=c:=fun y c e=>cok.empty y c (PySem.mem_of_lookup e)
 have cllow:∀y c,cl.lookup y=some c->c<s2.heap.objs.size:=fun y c e=>by obtain⟨v,hv⟩:=I2.cell y c (uR _ _ e);exact hv.lt
 have hcap0:=sY
 have sY:∀(i j:Nat),cap[i]?=some (some j)->∃x,nm[i]?=some x/\X.N[j]?=some x/\tK X scope (cellsFrom (G2.objs.size+1) scope.names []++cl) x:=fun i j e=>by
  obtain⟨x,q1,q2,k,q3⟩:=hcap0 i j e
  refine⟨x,q1,q2,k.vis,k.nl,?_,k.kd⟩
  rw[iS]
  cases h:(cellsFrom (G2.objs.size+1) scope.names []).lookup x with
  |none=>exact k.cl
  |some c=>
   rcases lF _ _ _ (PySem.mem_of_lookup h)with z|z
   ·exact absurd z q3
   ·cases z
 have okB:(eY X nm scope (cellsFrom (G2.objs.size+1) scope.names []++cl) G2.objs.size s2 H1 fp).Ok:=by
  refine⟨I2.ok.mod,jo,I2.ok.glob,I2.ok.blt,by show s2.heap.objs.size<=G2.objs.size;omega,fun x y c h1 h2=>?_,fun x hx=>?_,fun x c h0 hc=>?_,fun hc=>I2.ok.hd jm,I2.ok.frames,.inl rfl,?_,?_,?_,?_,?_,?_,?_⟩
  ·rcases both x c h1 with q1|q1<;>rcases both y c h2 with q2|q2
   ·exact name_of_addr cok.apart (PySem.mem_of_lookup q1) (PySem.mem_of_lookup q2)
   ·exact absurd (cllow y c q2) (iT.mpr (aF (by omega) (ownhi x c q1).2))
   ·exact absurd (cllow x c q1) (iT.mpr (aF (by omega) (ownhi y c q2).2))
   ·exact I2.ok.inj x y c (uR _ _ q1) (uR _ _ q2)
  ·show ∃c,(cellsFrom (G2.objs.size+1) scope.names []++cl).lookup x=some c
   rw[iS]
   by_cases hq:scope.names.lookup x=some .cell
   ·obtain⟨c,e⟩:=lY (n:=G2.objs.size+1) hq
    exact⟨c,by rw[e];rfl⟩
   ·obtain⟨c,e⟩:=Bw x hq hx
    cases h:(cellsFrom (G2.objs.size+1) scope.names []).lookup x with
    |none=>exact⟨c,e⟩
    |some b=>exact⟨b,rfl⟩
  ·have hq:scope.names.lookup x=some .cell:=by simpa using h0
   obtain⟨b,e⟩:=lY (n:=G2.objs.size+1) hq
   have hc:(cellsFrom (G2.objs.size+1) scope.names []++cl).lookup x=some c:=hc
   rw[iS,e]at hc
   cases hc
   have:=(ownhi x _ e).2
   show s2.heap.objs.size<=_
   omega
  ·intro b hb
   exact⟨aZ (aL (hfpn b hb) (by show _<=G2.objs.size;omega)),fun x c hx=>(both x c hx).elim (fun q=>eE (aL (hfpn b hb) (aF (by omega) (ownhi x c q).2))) fun q=>hfpc b hb x c (uR _ _ q)⟩
  ·exact fun b o hb=>I2.bs b o hb
  ·exact aF I2.ok.bsz I2.sz
  ·intro b o hb z
   rcases(f2 b z).2.2.2.1 with q|q
   ·exact I2.ok.noex b o hb q
   ·exact absurd (aK (I2.ok.bs b o hb).1) (iT.mpr q)
  ·intro b hb z
   rcases aY.mp (I2.stkSub b z)with q|q
   ·exact(f2 b hb).2.1 q
   ·exact(f2 b hb).2.2.1 q
  ·exact I2.stack
  ·exact I2.stkFree
 have I4:bF (eY X nm scope (cellsFrom (G2.objs.size+1) scope.names []++cl) G2.objs.size s2 H1 fp) [] (pi cap σ) H1 { s2 with heap:=h₁ }:=by
  refine Eo sY dr I2 hfpc (σ2:=List.replicate nm.length none) ⟨okB,rfl,I2.bare,Un.kept old,⟨_,hns₁,fun i x v _ e2=>?_⟩,fun x c hx=>?_,?_,fun x c hx=>(both x c hx).elim (fun q=>I2.hok.fresh (by have:=(ownhi x c q).2;omega)) fun q=>I2.freeC x c (uR _ _ q),fun p hp=>absurd hp (by simp),I2.hok.kept old,by simp,I2.pos,aw _⟩
  ·rw[iY]at e2;split at e2<;>cases e2
  ·rcases both x c hx with q|q
   ·exact⟨none,(ownhi x c q).1⟩
   ·obtain⟨v,hv⟩:=I2.cell x c (uR _ _ q)
    exact⟨v,hv.keeps old⟩
  ·exact I2.hok.fresh (by show _<=G2.objs.size;omega)
 have hsz0:∀{Hx:Hp} {sx:Shared} {px:List (Addr×Obj)} {σx:St},bF (eY X nm scope (cellsFrom (G2.objs.size+1) scope.names []++cl) G2.objs.size s2 H1 fp) px σx Hx sx->Hx s2.heap.objs.size=none->∀{oa:Obj},sx.heap.get? s2.heap.objs.size=some oa->(∀v,oa.data≠.cell v) ->
   bF (eY X nm scope (cellsFrom (G2.objs.size+1) scope.names []++cl) G2.objs.size s2 H1 fp) [(s2.heap.objs.size,oa)] σx Hx sx:=fun{Hx sx px σx} Ix hn {oa} ho hd=>Ix.pins_of fun p hp=>by
  have e:p=(s2.heap.objs.size,oa):=by simpa using hp
  subst e
  exact⟨ho,hn,hDC,fun z=>by
   obtain⟨_,o,q,_⟩:=I2.stack.mem z
   exact absurd (aK q) (da _),hd⟩
 have hfpB:∀{Hx:Hp} {oa:Obj},(∀b∈fp,Hx b=none)->∀b∈fp,tF (eY X nm scope (cellsFrom (G2.objs.size+1) scope.names []++cl) G2.objs.size s2 H1 fp) [(s2.heap.objs.size,oa)] Hx b:=fun{Hx oa} hn b hb=>
  ⟨hn b hb,(okB.exf b hb).1,okB.exfs b hb,.inl hb,(okB.exf b hb).2,fun p hp=>by
   have e:p=(s2.heap.objs.size,oa):=by simpa using hp
   subst e
   exact eE (hfpn b hb)⟩
 have hcalmB:(eY X nm scope (cellsFrom (G2.objs.size+1) scope.names []++cl) G2.objs.size s2 H1 fp).calm=true:=jm
 have loop:∀sx:Shared,sx={ s2 with heap:=h₁ } ->
   codeAny (model X.prog X.w) X.A (.compLoop (.ListComp qe [⟨tg,dL,ml,0⟩] scope pos) 0 (.ref it) (.ref s2.heap.objs.size) (compEnvC scope (cellsFrom (G2.objs.size+1) scope.names []++cl) G2.objs.size X.env))
    (compPost (model X.prog X.w) X.A X.xe use Qv (.ref s2.heap.objs.size) G2.objs.size) sx:=by
  rintro sx rfl
  refine codeAny_loop rfl (fun n s'=>∃i ys H',bF (eY X nm scope (cellsFrom (G2.objs.size+1) scope.names []++cl) G2.objs.size s2 H1 fp) [] (pi cap σ) H' s'/\tn i s'.heap/\(∀b∈fp,H' b=none)/\H' s2.heap.objs.size=none /\
   (∃bN k,cJ s'.toks ys bN/\s'.heap.get? s2.heap.objs.size=some { cls:=.type "list",data:=.seq bN.toArray k })/\W i n ys H') ?_ m0
   ⟨0,[],H1,I4,T.keep _ _ _ cN (fun b _ o e=>old b o e),fun b hb=>(f2 b hb).1,I2.fresh,⟨[],0,.nil,hacc⟩,w0⟩
  rintro n s3 ⟨i,ys,H3,I3,jL,fr3,na3,⟨bN,ka,rv,ea⟩,w3⟩
  show wpAny _ X.A ((compTurn (.ListComp qe [⟨tg,dL,ml,0⟩] scope pos) 0 (.ref it) (.ref s2.heap.objs.size) (compEnvC scope (cellsFrom (G2.objs.size+1) scope.names []++cl) G2.objs.size X.env)).onRaise (fun x=>do noteFrame x (compEnvC scope (cellsFrom (G2.objs.size+1) scope.names []++cl) G2.objs.size X.env);theTreesLotGoes x)) _ _ s3
  refine wpAny_noted ?_
  rw[compTurn_list]
  refine af (pL ?_)
  have I3p:=hsz0 I3 na3 ea (fun v z=>by cases z)
  rcases turn i n ys H3 w3 with⟨stop,hz,qn⟩|⟨go,step⟩
  ·refine af (rq (T.done (eY X nm scope (cellsFrom (G2.objs.size+1) scope.names []++cl) G2.objs.size s2 H1 fp) rfl rfl rfl hcalmB i _ s3 _ H3 (fun _ _=>False) I3p (hfpB fr3) jL stop) (fun r s4 kt4 hr=>?_))
   obtain⟨hr,I4'⟩:=hr
   subst hr
   refine ay ?_
   obtain⟨m4,hn4,_⟩:=id I4'.loc
   have pa:=I4'.pin (s2.heap.objs.size,{ cls:=.type "list",data:=.seq bN.toArray ka }) (by simp)
   have ne:∀b o,s2.heap.get? b=some o->b≠s2.heap.objs.size/\b≠G2.objs.size:=fun b o e=>⟨aZ (aK e),aZ (by rw[hC];exact cP (aK e))⟩
   have I5:bF X aj σ (eT H3 s2.heap.objs.size (.lst ys)) s4:=by
    refine I2.call' (ch:=fp) I4'.os ⟨fun b o e n hb hx=>?_,fun b o e n hb hx=>?_,fun b o e n hx=>?_,fun b o e hx=>?_,fun b xs e=>?_,fun b o u e=>?_,fun b ps e=>?_⟩ ?_ I4'.bare (fun b hb=>?_) I4'.tk
    ·exact I4'.base.keep b o e n hb hx
    ·exact I4'.base.slot b o e n hb hx
    ·rw[cW (ne b o e).1];exact I4'.base.free b o e n hx
    ·exact I4'.base.there b o e hx
    ·have q:=I4'.base.tups b xs e
     rw[cW (fg q na3)];exact q
    ·have q:=I4'.base.frzs b o u e
     rw[cW (fg q na3)];exact q
    ·obtain⟨mr,q⟩:=I4'.base.tbls b ps e
     exact⟨mr,by rw[cW (fg q na3)];exact q⟩
    ·intro b o e
     by_cases hb:b=s2.heap.objs.size
     ·subst hb
      rw[gq]at e;cases e
      exact⟨hz,bN,ka,rv.up kt4,pa.1⟩
     ·rw[cW hb]at e
      exact(I4'.hok b o e).stay (fun c u hc q=>q) (fun c q=>by rw[cW (fg q na3)];exact q) fun c xs q=>by rw[cW (fg q na3)];exact q
    ·obtain⟨_,g1,_,g3,g4,g5⟩:=f2 b hb
     exact⟨g3,g1,g4,g5⟩
   have lC:s2.heap.objs.size<=G2.objs.size:=by rw[hC];exact bi _
   exact hV s4 G2.objs.size _ m4 _ I5 ⟨hn4,by rw[cW (Ne.symm hDC)];exact I4'.free,eE (aL I2.lt lC),I2.nofs lC,aF I2.sz lC,fun x c hx z=>(by
    obtain⟨v,o,ho,_⟩:=I2.cell x c hx
    exact absurd (aK ho) (by rw[z];exact iT.mpr lC)),fun p hp z=>(by
    have:=(I2.pin p hp).1
    exact absurd (aK this) (by rw[z];exact iT.mpr lC))⟩ (qn _ na3)
  ·refine af (rq (T.item (eY X nm scope (cellsFrom (G2.objs.size+1) scope.names []++cl) G2.objs.size s2 H1 fp) rfl rfl rfl hcalmB i _ s3 _ H3 (fun _ _=>False) I3p (hfpB fr3) jL go) (fun r s4 kt4 hr=>?_))
   obtain⟨u,hr,h4⟩:=hr
   subst hr
   dsimp only
   refine af (rq h4 (fun _ s5 kt5 h5=>?_))
   obtain⟨x,H5,I5,r5,y5,Hl,fr5⟩:=h5
   have I5':=I5.pinned (hfpB fr5) (T.obj _ _ Hl)
   refine af (rq (hg _ _ _ _ _ _ s5 _ H5 x u _ I5' r5 (step x H5 y5)) (fun _ s6 kt6 h6=>?_))
   obtain⟨σ6,H6,I6,q6⟩:=h6
   refine af (rq (ht _ _ _ _ _ _ s6 σ6 H6 _ I6 q6) (fun ok s7 kt7 h7=>?_))
   obtain⟨H7,I7,q7⟩:=h7
   have back:∀{H8:Hp} {s8:Shared} {Ri:List V} {its':List Value} {k':Nat},bF (eY X nm scope (cellsFrom (G2.objs.size+1) scope.names []++cl) G2.objs.size s2 H1 fp) [] σ6 H8 s8->(∀b∈fp,∀o,s5.heap.get? b=some o->s8.heap.get? b=some o)->(∀b∈fp,H8 b=none)->H8 s2.heap.objs.size=none ->
     cJ s8.toks Ri its'->s8.heap.get? s2.heap.objs.size=some { cls:=.type "list",data:=.seq its'.toArray k' }->(∃m',m'<n/\W (i+1) m' Ri H8) ->
     ∃m,m<n/\∃i ys H',bF (eY X nm scope (cellsFrom (G2.objs.size+1) scope.names []++cl) G2.objs.size s2 H1 fp) [] (pi cap σ) H' s8/\tn i s8.heap/\(∀b∈fp,H' b=none)/\H' s2.heap.objs.size=none /\
      (∃bN k,cJ s8.toks ys bN/\s8.heap.get? s2.heap.objs.size=some { cls:=.type "list",data:=.seq bN.toArray k })/\W i m ys H':=
    fun{H8 s8 Ri its' k'} I8 kf f8 n8 rv8 e8 ⟨m',hm,w8⟩=>⟨m',hm,i+1,Ri,H8,Eo sY dr I2 hfpc I8,T.keep _ _ _ Hl kf,f8,n8,⟨its',k',rv8,e8⟩,w8⟩
   cases ok with
   |false=>
    refine ay ⟨rfl,?_⟩
    have q7':∃m',m'<n/\W (i+1) m' ys H7:=by simpa using q7
    have pa:=I7.pin (s2.heap.objs.size,{ cls:=.type "list",data:=.seq bN.toArray ka }) (by simp)
    refine back (I7.pins_of fun p hp=>absurd hp (by simp)) (fun b hb o e=>?_) (fun b hb=>?_) pa.2.1 (rv.up (by omega)) pa.1 q7'
    ·exact(I7.pin (b,o) (a7 _ (a7 _ (jr hb e)))).1
    ·obtain⟨o,e,d⟩:=T.obj _ _ Hl b hb
     exact(I7.pin (b,o) (a7 _ (a7 _ (jr hb e)))).2.1
   |true=>
    rw[aE rfl]at q7
    refine af (af (rq (he _ _ _ _ _ _ s7 σ6 H7 _ I7 q7) (fun xv s8 kt8 h8=>?_)))
    obtain⟨y,H8,I8,r8,hzy,q8⟩:=h8
    have pa:=I8.pin (s2.heap.objs.size,{ cls:=.type "list",data:=.seq bN.toArray ka }) (by simp)
    refine af (up (ww pa.1 (by rw[<- rv.length];exact hzy) fun h' k' tk e9 sb hk=>?_))
    refine ay (ay ⟨rfl,?_⟩)
    have I9:bF (eY X nm scope (cellsFrom (G2.objs.size+1) scope.names []++cl) G2.objs.size s2 H1 fp) [] σ6 H8 { s8 with heap:=h',toks:=tk }:=
     (bF.pins_of (pins':=[]) I8 fun p hp=>absurd hp (by simp)).turned (it:=s2.heap.objs.size) (fun b o hb e=>sb b o hb e) pa.2.1 hDC (.inr (aw _)) (fun x c hx z=>by
      rcases both x c hx with q|q
      ·exact iT.mpr (ownhi x c q).2 (by rw[z];omega)
      ·exact da _ (by have:=cllow x c q;rw[z]at this;exact this)) (fun p hp=>absurd hp (by simp))
    refine back I9 (fun b hb o e=>?_) (fun b hb=>?_) pa.2.1 ((rv.up (by omega)).append (.cons (r8.up hk) .nil)) e9 q8
    ·exact sb b o (aZ (hfpn b hb)) (I8.pin (b,o) (a7 _ (a7 _ (jr hb e)))).1
    ·obtain⟨o,e,d⟩:=T.obj _ _ Hl b hb
     exact(I8.pin (b,o) (a7 _ (a7 _ (jr hb e)))).2.1
 exact codeAny_compStart_list (loop _ rfl) (T.self _ _ _ _ _ (T.keep _ _ _ cN fun b _ o e=>old b o e) (loop _ rfl))
theorem qu:∀(names:List (Str×NameKind)) (n:Nat),(∀y∈names,y.2≠.cell)->cellsFrom n names []=[]
 |[],_,_=>rfl
 |(x,k)::r,n,h=>by
  show(if k==.cell then cellsFrom (n+1) r [(x,n)]else cellsFrom n r [])=[]
  rw[aN (by have:=h (x,k) (by simp);simpa using this)]
  exact qu r n fun y hy=>h y (by simp[hy])
theorem vk{aj:List (Addr×Obj)}{σ:St}{H:Hp}{s:Shared}{use:Option (Value->Sem Unit)}{Qk:VK}{Qv:Value->Shared->Prop}(jm:X.calm=true)(uP:closureFor scope X.env=pure cl)(uR:∀x c,cl.lookup x=some c->X.env.cells.lookup x=some c)
  (jo:scope.kind=.function) (qf:∀x∈scope.names,x.2=.local->scope.names.lookup x.1=some .local) (dq:∀y∈scope.names,y.2≠.cell)
  (Bw:∀x,((relabel scope X.env).names.lookup x=some .cell\/(relabel scope X.env).names.lookup x=some .free)->∃c,cl.lookup x=some c)
  (sY:∀(i j:Nat),cap[i]?=some (some j)->∃x,nm[i]?=some x/\X.N[j]?=some x/\tK X scope cl x) (dr:cap.length=nm.length)
  (hi:PI X tg dL wi) (hg:∀C s0 H0 fp,PG (dG X nm scope cl C s0 H0 fp) tg g) (ht:∀C s0 H0 fp,En (dG X nm scope cl C s0 H0 fp) ml tc)
  (he:∀C s0 H0 fp,PE (dG X nm scope cl C s0 H0 fp) qe te) (hs:∀x,foldedSetIterable dL X.env x=pure x)
  (I:bF X aj σ H s) (h:tJ cap wi g tc te σ H Qk) (hV:∀(s4:Shared) (C D:Addr) (m4:Str->Option Value) (Hn:Hp),bF X aj σ Hn s4->xX X aj Hn s4 C m4->Qk (.ref D) Hn->compPost (model X.prog X.w) X.A X.xe use Qv (.ref D) C (.ok .next) s4) :
  wpAny (model X.prog X.w) X.A (comprehension (.ListComp qe [⟨tg,dL,ml,0⟩] scope pos) scope X.env (firstIterPos [⟨tg,dL,ml,0⟩] pos) (newList []) (firstAsync [⟨tg,dL,ml,0⟩]) (firstIter [⟨tg,dL,ml,0⟩] X.env) use) Qv X.xe s:=by
 have nc:∀k,cellsFrom k scope.names []++cl=cl:=fun k=>by rw[qu _ _ dq];rfl
 have nx:∀C s0 H0 fp,eY X nm scope cl C s0 H0 fp=dG X nm scope cl C s0 H0 fp:=fun C s0 H0 fp=>by
  have:(fun y=>scope.names.lookup y==some .cell)=fun _=>false:=funext fun y=>by
   rw[bY]
   exact fun e=>dq _ (iU e) rfl
  unfold eY dG
  rw[this]
 exact Al jm uP uR jo qf (fun y hy h=>absurd h (dq y hy)) (fun x _ h=>Bw x h) (fun i j h=>let ⟨x,a,b,d⟩:=sY i j h;⟨x,a,b,d,fun z=>dq _ z rfl⟩) dr hi
  (fun k C s0 H0 fp=>by rw[nc,nx];exact hg C s0 H0 fp) (fun k C s0 H0 fp=>by rw[nc,nx];exact ht C s0 H0 fp) (fun k C s0 H0 fp=>by rw[nc,nx];exact he C s0 H0 fp) hs I h hV
theorem IJ(jm:X.calm=true)(uP:closureFor scope X.env=pure cl)(uR:∀x c,cl.lookup x=some c->X.env.cells.lookup x=some c)
  (jo:scope.kind=.function) (qf:∀x∈scope.names,x.2=.local->scope.names.lookup x.1=some .local) (dq:∀y∈scope.names,y.2≠.cell)
  (Bw:∀x,((relabel scope X.env).names.lookup x=some .cell\/(relabel scope X.env).names.lookup x=some .free)->∃c,cl.lookup x=some c)
  (sY:∀(i j:Nat),cap[i]?=some (some j)->∃x,nm[i]?=some x/\X.N[j]?=some x/\tK X scope cl x) (dr:cap.length=nm.length)
  (hi:PI X tg dL wi) (hg:∀C s0 H0 fp,PG (dG X nm scope cl C s0 H0 fp) tg g) (ht:∀C s0 H0 fp,En (dG X nm scope cl C s0 H0 fp) ml tc)
  (he:∀C s0 H0 fp,PE (dG X nm scope cl C s0 H0 fp) qe te) (hs:∀x,foldedSetIterable dL X.env x=pure x:=by intro _;rfl) :
  PE X (.ListComp qe [⟨tg,dL,ml,0⟩] scope pos) (tJ cap wi g tc te):=by
 intro aj s σ H Q I h
 rw[eval_ListComp]
 exact vk jm uP uR jo qf dq Bw sY dr hi hg ht he hs I h fun s4 C D m4 Hn I4 B q=>⟨m4,B.ns,fun h' hs'=>⟨.ref D,Hn,B.off I4 hs',rfl,q⟩⟩
end
end L2
namespace L2
variable{nk:Nat}
open PySem PySem.Spec PyProof.Rows
def tx(l:List Nat):Str:=⟨l.toArray⟩
theorem Md(l:List Nat):(tx l).cps.toList=l:=rfl
theorem Pi(z:Str):tx z.cps.toList=z:=by cases z;rfl
theorem iH(l:List Nat):(tx l).length=l.length:=by show l.toArray.size=_;simp
theorem Am(a b:List Nat):tx a++tx b=tx (a++b):=by
 show(⟨a.toArray++b.toArray⟩:Str)=⟨(a++b).toArray⟩
 simp
theorem wz{a b:List Nat}:tx a=tx b↔a=b:=⟨fun h=>by have:=ir (fun z:Str=>z.cps.toList) h;exact this,fun h=>by rw[h]⟩
def Pj(mK:List V):It:=⟨fun i _=>i<mK.length,fun i H x H'=>H'=H/\mK[i]?=some x,fun i _=>mK.length<=i⟩
theorem An{P:Program}{w:World}{K:Frag}{tg:Expr}{it:Addr}{mK:List V}{Pr:Nat->Value->Prop}{S:Nat->Heap->Prop}{ty:String}
  (W:∀A:Around,A.handled=none->Walks P w A it [it] [it] mK.length Pr S) (hv:∀i v,i<mK.length->Pr i v->∃x,mK[i]?=some x/\cO 0 x v)
  (HA:∀i h,S i h->∃o vs,h.get? it=some o/\o.cls=.type ty/\o.data=.fields vs)
  (zS:["enumerate","zip","dict_itemiterator","dict_reverseitemiterator","odict_iterator","itertools.zip_longest","itertools.pairwise"].contains ty=false)
  (HE:∀(A:Around) (i:Nat) (s:Shared) (Q:Value->Shared->Prop) (E:Value->Shared->Prop),S i s.heap->Q (.ref it) s->wpAny (model P w) A (pyIter (.ref it)) Q E s) :
  z_ P w K tg (Pj mK) [it] it (fun i h=>i<=mK.length/\S i h) where
 mem:=by simp
 obj:=fun i h st b hb=>by
  have e:b=it:=by simpa using hb
  subst e
  obtain⟨o,vs,e,c,d⟩:=HA i h st.2
  exact⟨o,e,fun v z=>by rw[d]at z;cases z⟩
 keep:=fun i h h' st k=>⟨st.1,(W { depth:=0,handled:=none,frames:=none } rfl).frame i h h' st.2 k⟩
 item:=by
  intro X hP hw hK hc i aj s σ H E I hf st hg
  subst hP hw hK
  obtain⟨f0,f1,f2,f3,f4,f5⟩:=hf it (by simp)
  refine up ((W X.A (I.ok.hd hc)).item i s _ _ hg st.2 fun v h' tk hp bf kk hk=>?_)
  have I1:bF X aj σ H { s with heap:=h',toks:=tk }:=I.turned (fun b o hb e=>kk b o (by simpa using hb) e) f0 f1 f3 f4 f5
  obtain⟨x,hx,rx⟩:=hv i v hg hp
  obtain⟨o,vs,e,c,d⟩:=HA _ _ bf
  exact⟨v,rfl,xP (s:={ s with heap:=h',toks:=tk }) e c d zS ⟨x,H,I1,rx.up (bQ _),⟨rfl,hx⟩,⟨hg,bf⟩,fun b hb=>(hf b hb).1⟩⟩
 done:=by
  intro X hP hw hK hc i aj s σ H E I hf st hg
  subst hP hw hK
  obtain⟨f0,f1,f2,f3,f4,f5⟩:=hf it (by simp)
  have e:i=mK.length:=Nat.le_antisymm st.1 hg
  refine up ((W X.A (I.ok.hd hc)).done s _ _ (e▸st.2) fun h' tk kk hk=>⟨rfl,I.turned (fun b o hb e=>kk b o (by simpa using hb) e) f0 f1 f3 f4 f5⟩)
 self:=fun A i s Q E st h=>HE A i s Q E st.2 h
section
variable{X:Cx}{tg:Expr}
def i5(l:List Nat):List V:=l.map fun c=>.str (tx [c])
def R9(tl:TE):TI:=fun σ H R=>tl σ H fun x H1=>∃l,x=.str (tx l)/\R (Pj (i5 l)) H1
theorem tL{P:Program}{w:World}{K:Frag}{tg:Expr}{it:Addr}{l:List Nat}{t:Tok}{ty:String}(zS:["enumerate","zip","dict_itemiterator","dict_reverseitemiterator","odict_iterator","itertools.zip_longest","itertools.pairwise"].contains ty=false)
  (next:∀{A:Around} {s:Shared} {i c:Nat} {Q:Option Value->Shared->Prop} {E:Value->Shared->Prop},s.heap.IsStrIter it ty (tx l) t i->(tx l).cps[i]?=some c ->
   (∀h',h'.IsStrIter it ty (tx l) t (i+1)->Heap.SameBut it s.heap h'->Q (some (.str ⟨#[c]⟩ s.toks)) { s with heap:=h',toks:=s.toks+1 })->wpAny (model P w) A (pyNext (.ref it)) Q E s)
  (stop:∀{A:Around} {s:Shared} {i:Nat} {Q:Option Value->Shared->Prop} {E:Value->Shared->Prop},A.handled=none->s.heap.IsStrIter it ty (tx l) t i->(tx l).cps[i]?=none ->
   (∀h',Heap.ExtBut it s.heap h'->Q none { s with heap:=h' })->wpAny (model P w) A (pyNext (.ref it)) Q E s)
  (HE:∀(A:Around) (i:Nat) (s:Shared) (Q:Value->Shared->Prop) (E:Value->Shared->Prop),s.heap.IsStrIter it ty (tx l) t i->Q (.ref it) s->wpAny (model P w) A (pyIter (.ref it)) Q E s) :
  z_ P w K tg (Pj (i5 l)) [it] it (fun i h=>h.IsStrIter it ty (tx l) t i) where
 mem:=by simp
 obj:=fun i h st b hb=>by
  have e:b=it:=by simpa using hb
  subst e
  obtain⟨o,e,_,d⟩:=st
  exact⟨o,e,fun v z=>by rw[d]at z;cases z⟩
 keep:=fun i h h' st k=>by
  obtain⟨o,e,r⟩:=st
  exact⟨o,k it (by simp) o e,r⟩
 item:=by
  intro X hP hw hK hc i aj s σ H E I hf st hg
  subst hP hw hK
  obtain⟨f0,f1,f2,f3,f4,f5⟩:=hf it (by simp)
  have hg:i<l.length:=by have hg:i<(i5 l).length:=hg;simpa[i5]using hg
  obtain⟨c,hx⟩:∃c,l[i]?=some c:=⟨_,aq hg⟩
  refine next st (c:=c) (by simpa[tx]using hx) fun h' bf hs=>?_
  have I1:bF X aj σ H { s with heap:=h',toks:=s.toks+1 }:=I.turned (fun b o hb e=>hs.extBut b o hb e) f0 f1 f3 f4 f5
  obtain⟨o,e,cl,d⟩:=id bf
  exact⟨_,rfl,xP (s:={ s with heap:=h',toks:=s.toks+1 }) e cl d zS ⟨.str (tx [c]),H,I1,I.tkS,⟨rfl,by unfold i5;rw[aG,hx];rfl⟩,bf,fun b hb=>(hf b hb).1⟩⟩
 done:=by
  intro X hP hw hK hc i aj s σ H E I hf st hg
  subst hP hw hK
  obtain⟨f0,f1,f2,f3,f4,f5⟩:=hf it (by simp)
  have hg:l.length<=i:=by have hg:(i5 l).length<=i:=hg;simpa[i5]using hg
  exact stop (I.ok.hd hc) st (by simpa[tx]using hg) fun h' hs=>⟨rfl,I.turned (t':=s.toks) (fun b o hb e=>hs b o hb e) f0 f1 f3 f4 f5⟩
 self:=fun A i s Q E st h=>HE A i s Q E st h
theorem Me{l:Expr}{tl:TE}(hl:PE X l tl):PI X tg l (R9 tl):=by
 intro aj s σ H R I h
 refine i3 (hl aj s σ H _ I h) fun v s1 kt1 ⟨x,H1,I1,r1,q1⟩=>?_
 obtain⟨l,e,q⟩:=q1
 subst e
 obtain⟨t,rfl⟩:=r1
 have fp:∀b∈[s1.heap.objs.size],tF X aj H1 b:=fun b hb=>by
  have e:b=s1.heap.objs.size:=by simpa using hb
  subst e
  exact I1.fpOk (aw _) (I1.hok.fresh (aw _))
 cases ha:(tx l).cps.all (· < 128)
 ·exact lr ha ⟨s1.heap.objs.size,[s1.heap.objs.size],_,_,H1,rfl,I1.kept (t':=s1.toks) fun b o e=>ar _ e,tL (l:=l) (t:=t.1) (ty:="str_iterator") (by decide) (fun a b c=>jc a b c) (fun hh a b c=>wpAny_pyNext_wide_end hh a b c) (fun A i s Q E st h=>wpAny_pyIter_striter_wide st h),⟨_,aI _ rfl,rfl,rfl⟩,fp,q⟩
 ·exact kK ha ⟨s1.heap.objs.size,[s1.heap.objs.size],_,_,H1,rfl,I1.kept (t':=s1.toks) fun b o e=>ar _ e,tL (l:=l) (t:=t.1) (ty:="str_ascii_iterator") (by decide) (fun a b c=>iZ a b c) (fun hh a b c=>wpAny_pyNext_ascii_end hh a b c) (fun A i s Q E st h=>wpAny_pyIter_striter_ascii st h),⟨_,aI _ rfl,rfl,rfl⟩,fp,q⟩
def Ao(l:List Nat)(lo hi:Option Int):List Nat:=(l.drop (HT.sIx l.length 0 lo)).take (HT.sIx l.length l.length hi-HT.sIx l.length 0 lo)
theorem xY(l:List Nat)(lo hi:Option Int):(Ao l lo hi).length<=l.length:=by unfold Ao;rw[bS,gW];omega
theorem Ap(l:List Nat)(i k:Nat):((List.range k).map fun(m:Nat)=>i+m).filterMap (fun j=>l[j]?)=(l.drop i).take k:=by
 induction k generalizing i with
 |zero=>simp
 |succ k ih=>
  rw[mP,bh,bA]
  have e:((fun m=>i+m)∘Nat.succ)=fun m=>(i+1)+m:=by funext m;simp[Function.comp];omega
  rw[e]
  by_cases h:i<l.length
  ·rw[fU]
   simp only[qX,aq h]
   rw[ih (i+1),gZ h,List.take_succ_cons]
  ·rw[fU]
   have h':l.length<=i:=by omega
   simp only[qX,bn h']
   rw[ih (i+1),mQ h',mQ (by omega)]
   simp
theorem J_(v:Int)(n d:Nat):(if (1:Int)>0 then max 0 (min (if v<0 then v+(n:Int)else v) (n:Int))else max (-1) (min (if v<0 then v+(n:Int)else v) ((n:Int)-1)))=((HT.sIx n d (some v):Nat):Int):=by
 rw[aE (by omega)]
 show _=(((if v<0 then(v+(n:Int)).toNat else min v.toNat n):Nat):Int)
 by_cases hv:v<0
 ·simp only[aE hv];omega
 ·simp only[aN hv];omega
theorem Mf(lo hi:Option Int)(n:Nat):Builtin.Str.strSliceIndices lo hi 1 n=(List.range (HT.sIx n n hi-HT.sIx n 0 lo)).map fun(m:Nat)=>HT.sIx n 0 lo+m:=by
 have key:∀a b:Nat,sliceRange (a:Int) (b:Int) 1=(List.range (b-a)).map fun(m:Nat)=>a+m:=fun a b=>by
  unfold sliceRange
  have e:(if (1:Int)>0 then(if (a:Int)<(b:Int)then((b:Int)-a+1-1)/1 else 0)else(if (a:Int)>b then((a:Int)-b-1-1)/(-1)else 0)).toNat=b-a:=by
   rw[aE (by omega)]
   by_cases h:(a:Int)<b
   ·rw[aE h];omega
   ·rw[aN h];omega
  dsimp only
  rw[e]
  refine dQ fun k _=>?_
  omega
 unfold Builtin.Str.strSliceIndices
 rw[<- key]
 dsimp only
 congr 1
 ·cases lo with
  |none=>rfl
  |some v=>exact J_ v n 0
 ·cases hi with
  |none=>rfl
  |some v=>exact J_ v n n
theorem Ep(l:List Nat)(lo hi:Option Int):Txt.slice (tx l) lo hi=tx (Ao l lo hi):=by
 unfold Txt.slice
 rw[Mf,iH]
 split
 ·rename_i h
  simp only[beq_self_eq_true,jD,eD,aC,cH]at h
  unfold Ao
  have h1:=HT.sIx_le l.length l.length (aw _) hi
  have h2:=HT.sIx_le l.length 0 (bQ _) lo
  by_cases hz:l.length=0
  ·have:l=[]:=gg hz
   subst this;simp
  ·have e0:HT.sIx l.length 0 lo=0:=by omega
   rw[e0,List.drop_zero,dk (by omega)]
 ·unfold Ao tx
  have:∀j:Nat,(l.toArray)[j]?=l[j]?:=fun j=>by simp
  simp only[this]
  rw[Ap]
def R_:V->Option Int->Option Int->Hp->VK->Prop:=fun x lo hi H Q=>∃l,x=.str (tx l)/\l.length<=sizeLine/\Q (.str (tx (Ao l lo hi))) H
theorem BI{v:Value}{o:Option Int}(p:IsPart v o):∃q:Option (Int×Tok),v=partValue q/\q.map (·.1)=o:=by
 cases p with
 |none=>exact⟨none,rfl,rfl⟩
 |int i t=>exact⟨some (i,t),rfl,rfl⟩
theorem Mg:O_ X R_:=by
 intro aj s σ H x v vl vu lo hi sl Q I rx hs pl pu h
 obtain⟨l,e,hz,q⟩:=h
 subst e
 obtain⟨t,rfl⟩:=rx
 obtain⟨pl',rfl,rfl⟩:=BI pl
 obtain⟨pu',rfl,rfl⟩:=BI pu
 refine⟨"str",_,F.slot_str_getitem.lookup,kI _ _ _,?_⟩
 refine wpAny_getItem_str_slice (l:=pl') (u:=pu') (st:=none) hs rfl ?_
 have e:=Ep l (pl'.map (·.1)) (pu'.map (·.1))
 unfold Txt.slice at e
 have hl:(tx (Ao l (pl'.map (·.1)) (pu'.map (·.1)))).length<=sizeLine:=by rw[iH];exact aF (xY l _ _) hz
 show(if ((1:Int)==1&&(Builtin.Str.strSliceIndices (pl'.map (·.1)) (pu'.map (·.1)) 1 (tx l).length).length==(tx l).length)=true then Made.val (.str (tx l) t.1)else Made.str ⟨((Builtin.Str.strSliceIndices (pl'.map (·.1)) (pu'.map (·.1)) 1 (tx l).length).filterMap ((tx l).cps[·]?)).toArray⟩).post (EP X aj σ Q) s
 split
 ·rename_i hc
  rw[aE hc]at e
  rw[<- e]at q
  exact⟨.str (tx l),H,I,⟨t,rfl⟩,q⟩
 ·rename_i hc
  rw[aN hc]at e
  rw[e]
  exact⟨hl,⟨.str _,H,I.tok _,I.tkS,q⟩⟩
theorem Mh(c:Nat)(l:List Nat):(!(Builtin.Str.occurrences (tx l) (tx [c]) 0 (tx l).length 1).isEmpty)=decide (c∈l):=StrLaws.found_one (tx l) c
def R'(neg:Bool):R2:=fun x y H Q=>∃c l,x=.str (tx [c])/\y=.str (tx l)/\Q (.bl (if neg then !decide (c∈l)else decide (c∈l))) H
theorem Db:lX X (compareOp .In) (R' false):=by
 intro aj s σ H x y v u Q I rx ry h
 obtain⟨c,l,rfl,rfl,q⟩:=h
 exact C3 aj s σ H _ _ v u Q I rx ry ⟨_,_,rfl,rfl,by rw[Mh];exact q⟩
theorem Dc:lX X (compareOp .LtE) (fun x y H Q=>∃c d,x=.str (tx [c])/\y=.str (tx [d])/\Q (.bl (decide (c<=d))) H):=by
 intro aj s σ H x y v u Q I rx ry h
 obtain⟨c,d,rfl,rfl,q⟩:=h
 obtain⟨t,rfl⟩:=rx
 obtain⟨t',rfl⟩:=ry
 refine PySem.P.le_str ⟨.bl _,H,I,?_,q⟩
 show Value.bool _=Value.bool _
 congr 1
 show(!decide ([d]<[c]))=decide (c<=d)
 by_cases uS:c<=d
 ·rw[aB uS,az];rfl
  intro z
  cases z with
  |rel z=>omega
  |cons z=>cases z
 ·rw[az uS,aB];rfl
  exact .rel (by omega)
theorem tM:∀{ys:List (List Nat)} {bN:List Value},cJ nk (ys.map fun l=>V.str (tx l)) bN->StrsAre bN (ys.map tx)
 |[],_,r=>by cases r;exact .nil
 |y::ys,_,r=>by
  cases r with
  |cons r rr=>
   obtain⟨t,rfl⟩:=r
   exact .cons _ _ (tM rr)
def ig(n:Nat)(bN:List Value):Prop:=∀(x:Str) (t:Tok),Value.str x t∈bN->x.length=1->0<t/\t<n
theorem ms:∀{bN:List Value} {ss:List Str},StrsAre bN ss->ig nk bN->cJ nk (ss.map fun z=>V.str z) bN
 |_,_,.nil,_=>.nil
 |_,_,.cons y t r,h=>.cons ⟨⟨t,h y t c_⟩,rfl⟩ (ms r fun x u hx=>h x u (bv _ hx))
theorem qv:∀{vs:List V} {bN:List Value},cJ nk vs bN->ig nk bN
 |_,_,.nil=>fun _ _ h=>nomatch h
 |v::_,_,.cons r t=>fun x u hx=>by
  rcases aY.mp hx with e|hx
  ·subst e
   cases v with
   |str y=>obtain⟨tk,e⟩:=r;cases e;exact tk.2
   |non=>cases r
   |bl b=>cases r
   |int i=>obtain⟨_,e⟩:=r;cases e
   |byt b=>obtain⟨_,e⟩:=r;cases e
   |flt b=>obtain⟨_,e⟩:=r;cases e
   |ref a=>cases r
   |ty n=>cases r
  ·exact qv t x u hx
theorem BJ:∀{ys:List (List Nat)} {bN:List Value},cJ nk (ys.map fun l=>V.str (tx l)) bN->∃zs:List (Str×Tok),bN=strValues zs/\zs.map (·.1)=ys.map tx
 |[],_,r=>by cases r;exact⟨[],rfl,rfl⟩
 |y::ys,_,r=>by
  cases r with
  |cons r rr=>
   obtain⟨t,rfl⟩:=r
   obtain⟨zs,rfl,e⟩:=BJ rr
   exact⟨(tx y,t.1)::zs,rfl,by rw[bh,bh,e]⟩
def kh(sep:List Nat):List (List Nat)->List Nat
 |[]=>[]
 |[x]=>x
 |x::y::r=>x++sep++kh sep (y::r)
theorem lZ:∀ys:List (List Nat),kh [] ys=ys.flatten
 |[]=>rfl
 |[x]=>by simp[kh]
 |x::y::r=>by rw[kh,lZ (y::r)];simp
theorem BK(sep:List Nat):∀ys:List (List Nat),Txt.join (tx sep) (ys.map tx)=tx (kh sep ys):=fun ys=>by
 show Builtin.Str.glued (tx sep) (ys.map tx)=_
 rw[gC]
 induction ys with
 |nil=>rfl
 |cons x r ih=>
  cases r with
  |nil=>rfl
  |cons y r=>
   show tx x++tx sep++Str.join (tx sep) ((y::r).map tx)=tx (x++sep++kh sep (y::r))
   rw[ih,Am,Am]
def Pk(K:Frag):V->List V->Hp->VK->Prop:=fun x vs H Q=>∃(sep:List Nat) (a:Addr) (ys:List (List Nat)),x=.str (tx sep)/\vs=[.ref a]/\sf K H a (ys.map fun l=>V.str (tx l))/\(ys.map List.length).sum+ys.length*sep.length<=16777216/\Q (.str (tx (kh sep ys))) H
theorem bF.joinS{aj:List (Addr×Obj)}{σ:St}{H:Hp}{s:Shared}{Q:VK}{sep:Str}{zs:List (Str×Tok)}(I:bF X aj σ H s)(hl:(Builtin.Str.glued sep (zs.map (·.1))).length<=sizeLine)(hk:ig s.toks (strValues zs))(q:Q (.str (Txt.join sep (zs.map (·.1)))) H):(joinMade sep zs).post (EP X aj σ Q) s:=by
 have hV:(Made.str (Builtin.Str.glued sep (zs.map (·.1)))).post (EP X aj σ Q) s:=⟨hl,⟨.str _,H,I.tok _,I.tkS,q⟩⟩
 cases zs with
 |nil=>exact hV
 |cons p r=>
  cases r with
  |nil=>
   have e:Txt.join sep [p.1]=p.1:=by
    show Builtin.Str.glued sep [p.1]=_
    rw[gC];rfl
   rw[show([p]:List (Str×Tok)).map (·.1)=[p.1]from rfl,e]at q
   exact⟨.str p.1,H,I,⟨⟨p.2,hk p.1 p.2 (by simp[strValues])⟩,rfl⟩,q⟩
  |cons _ _=>exact hV
theorem IK:C7 X "str.join" (Pk X.K):=by
 intro aj s σ H x vs v us Q I rx rv h
 obtain⟨sep,a,ys,rfl,rfl,hS,hz,q⟩:=h
 obtain⟨t,rfl⟩:=rx
 obtain⟨u,rfl,ru⟩:=rv.one
 cases ru
 obtain⟨bN,r,p,_⟩:=I.list hS
 have hk:ig s.toks bN:=qv r
 obtain⟨zs,rfl,ez⟩:=BJ (by simpa using r)
 have hok:JoinOk (tx sep) (zs.map (·.1))=true:=joinOk_of (by
  rw[ez,bA,iH,aC]
  have e:((fun z:Str=>z.length)∘tx)=List.length:=by funext l;exact iH l
  rw[e];exact hz)
 have hj:=hok
 unfold JoinOk at hj
 rw[fK]at hj
 exact qk F.slot_str_join (kI _ _ _) F.entry_str_join (F.args_str_join_2 _ _) (meets_str_join_list (tx sep) t.1 a zs hj) ⟨p.isList,I.joinS (joinFit_length hj) hk (by rw[ez,BK];exact q)⟩
end
end L2
namespace L2
variable{nk:Nat}
open PySem PySem.Spec PyProof.Rows
inductive D where
 |non|bl (b:Bool)|int (i:Int)|str (l:List Nat)|tnil|tcons (d r:D)
 deriving DecidableEq
structure eX(K:Frag)(H H':Hp):Prop where
 t:∀p xs,gK K H p xs->gK K H' p xs
 z:∀b o u,H b=some (.frz o u)->H' b=some (.frz o u)
instance {K:Frag} {H H':Hp}:CoeFun (eX K H H') (fun _=>∀p xs,gK K H p xs->gK K H' p xs):=⟨eX.t⟩
theorem gK.same{K:Frag}{H H':Hp}(e:sR H H'):eX K H H':=⟨fun p xs h=>by
 rcases h with(h|⟨o,h⟩)|h
 ·exact .inl (.inl (e _ _ h))
 ·exact .inl (.inr ⟨o,e _ _ h⟩)
 ·exact .inr h,fun b o u h=>e _ _ h⟩
theorem cQ{H:Hp}{p:Addr}(h:H p=none)(o:HO):sR H (eT H p o):=fun b u q=>by rw[cW (fg q h)];exact q
def Sa(l:Addr)(H H':Hp):Prop:=∀b o,b≠l->H b=some o->H' b=some o
theorem mv{l:Addr}{H:Hp}{o:HO}:Sa l H (eT H l o):=fun b u h q=>by rw[cW h];exact q
theorem gK.but{K:Frag}{l:Addr}{xs:List V}{H H':Hp}(e:Sa l H H')(hl:H l=some (.lst xs)):eX K H H':=by
 have uN:∀{p:Addr} {o:HO},H p=some o->(∀zs,o≠.lst zs)->p≠l:=fun{p o} q hn z=>by subst z;rw[hl]at q;cases q;exact hn _ rfl
 refine⟨fun p ys h=>?_,fun b o u h=>e _ _ (uN h (fun _ z=>by cases z)) h⟩
 rcases h with(h|⟨o,h⟩)|h
 ·exact .inl (.inl (e _ _ (uN h (fun _ z=>by cases z)) h))
 ·exact .inl (.inr ⟨o,e _ _ (uN h (fun _ z=>by cases z)) h⟩)
 ·exact .inr h
theorem eX.refl{K:Frag}{H:Hp}:eX K H H:=⟨fun _ _ h=>h,fun _ _ _ h=>h⟩
theorem eX.trans{K:Frag}{H H1 H2:Hp}(a:eX K H H1)(b:eX K H1 H2):eX K H H2:=⟨fun p xs h=>b p xs (a p xs h),fun c o u h=>b.z c o u (a.z c o u h)⟩
theorem gK.new{K:Frag}{H:Hp}{p:Addr}{xs:List V}:gK K (eT H p (.tup xs)) p xs:=gK.of gq
end L2
namespace L2
variable{nk:Nat}
open PySem PySem.Spec PyProof.Rows
theorem Pm{X:Cx}{x:Str}{v:V}{pos:Pos}(h:∃u,X.mg x=some u/\cO 0 v u)(hg:Gl X x:=by rfl)(hd:(x==("__debug__":Str))=false:=by decide):PE X (.Name x pos) (tC v):=by
 obtain⟨u,a,b⟩:=h
 exact wj hg a b hd
end L2
namespace L2
variable{nk:Nat}
open PySem PySem.Spec PyProof.Rows
section
variable{X:Cx}{o e:Expr}{es:List Expr}{to:TE}{t:TA}{name:Str}{gc du:Pos}{id:String}{r:V->List V->Hp->VK->Prop}
def TV(r:V->List V->Hp->VK->Prop)(to:TE)(t:TA):TE:=fun σ H Q=>to σ H fun x H1=>(∃l ys,x=.ref l/\H1 l=some (.lst ys))/\t σ H1 fun xs H2=>r x xs H2 Q
def TW(r:V->List V->Hp->VK->Prop)(to:TE)(t:TA):TE:=fun σ H Q=>to σ H fun x H1=>(∃l,x=.str (tx l))/\t σ H1 fun xs H2=>r x xs H2 Q
def Sb(r:V->List V->Hp->VK->Prop)(to:TE):TE:=fun σ H Q=>to σ H fun x H1=>(∃l ys,x=.ref l/\H1 l=some (.lst ys))/\r x [] H1 Q
theorem xZ{K:Frag}{x:V}{H:Hp}(h:∃l ys,x=.ref l/\H l=some (.lst ys)):Ru K "list" x H:=by
 obtain⟨l,ys,rfl,h⟩:=h
 exact .inl ⟨rfl,_,.of h⟩
theorem BL{K:Frag}{x:V}{H:Hp}(h:∃l,x=.str (tx l)):Ru K "str" x H:=by
 obtain⟨l,rfl⟩:=h
 exact rfl
theorem Er{T:String}{ty:V->Hp->Prop}(SU:∀x H,ty x H->Ru X.K T x H)(pa:PlainAttrs T)(slot:Slot T name id)(zS:typeOf (.builtin id)=pure (.type "method_descriptor"))(hm:C7 X id r)(ho:PE X o to)(ha:PA X (e::es) t)
  (ja:attributeBase o name X.env (eval o X.env)=eval o X.env)
  (qi:((backTo du (starEach (e::es) X.env)).all (fun x=>!x.1)&&(backToKw du (keywordEach [] X.env)).all (fun x=>x.1.isSome)
   && decide ((e::es).length+([]:List Keyword).length+(if ([]:List Keyword).isEmpty then 0 else 1)<30))=true)
  (jH:(gc.endLine==du.line)=true) (hs:starEach (e::es) X.env=(false,eval e X.env)::starEach es X.env) (mJ:(backTo du (starEach es X.env)).any (·.1)=false) :
  PE X (.Call (.Attribute o name gc) (e::es) [] du) (fun σ H Q=>to σ H fun x H1=>ty x H1/\t σ H1 fun xs H2=>r x xs H2 Q):=by
 intro aj s σ H Q I h
 refine mR ja qi jH rfl (i3 (ho aj s σ H _ I h) fun v s1 kt1 ⟨x,H1,I1,r1,ty,q1⟩=>?_)
 obtain⟨h1,h2⟩:=Aj I1 r1 (SU _ _ ty)
 refine⟨T,id,pa,slot,zS,h1,h2,?_⟩
 have hA:=ha du aj s1 σ H1 _ I1 q1
 rw[hs]at hA ⊢
 refine gp (by show(false||(backTo du (starEach es X.env)).any (·.1))=false;rw[mJ]<;>rfl) (gO ?_)
 exact i3 hA fun us s2 kt2 ⟨vs,H2,I2,r2,q2⟩=>hm aj s2 σ H2 x vs v us Q I2 (r1.up kt2) r2 q2
theorem Pn(slot:Slot "list" name id)(zS:typeOf (.builtin id)=pure (.type "method_descriptor"))(hm:C7 X id r)(ho:PE X o to)(ha:PA X (e::es) t)
  (ja:attributeBase o name X.env (eval o X.env)=eval o X.env:=by rfl)
  (qi:((backTo du (starEach (e::es) X.env)).all (fun x=>!x.1)&&(backToKw du (keywordEach [] X.env)).all (fun x=>x.1.isSome)
   && decide ((e::es).length+([]:List Keyword).length+(if ([]:List Keyword).isEmpty then 0 else 1)<30))=true:=by rfl)
  (jH:(gc.endLine==du.line)=true:=by rfl) (hs:starEach (e::es) X.env=(false,eval e X.env)::starEach es X.env:=by rfl) (mJ:(backTo du (starEach es X.env)).any (·.1)=false:=by rfl) :
  PE X (.Call (.Attribute o name gc) (e::es) [] du) (TV r to t):=Er (ty:=fun x H1=>∃l ys,x=.ref l/\H1 l=some (.lst ys)) (fun _ _ h=>xZ h) F.plainAttrs_list slot zS hm ho ha ja qi jH hs mJ
theorem Po(slot:Slot "str" name id)(zS:typeOf (.builtin id)=pure (.type "method_descriptor"))(hm:C7 X id r)(ho:PE X o to)(ha:PA X (e::es) t)
  (ja:attributeBase o name X.env (eval o X.env)=eval o X.env:=by rfl)
  (qi:((backTo du (starEach (e::es) X.env)).all (fun x=>!x.1)&&(backToKw du (keywordEach [] X.env)).all (fun x=>x.1.isSome)
   && decide ((e::es).length+([]:List Keyword).length+(if ([]:List Keyword).isEmpty then 0 else 1)<30))=true:=by rfl)
  (jH:(gc.endLine==du.line)=true:=by rfl) (hs:starEach (e::es) X.env=(false,eval e X.env)::starEach es X.env:=by rfl) (mJ:(backTo du (starEach es X.env)).any (·.1)=false:=by rfl) :
  PE X (.Call (.Attribute o name gc) (e::es) [] du) (TW r to t):=Er (ty:=fun x H1=>∃l,x=.str (tx l)) (fun _ _ h=>BL h) F.plainAttrs_str slot zS hm ho ha ja qi jH hs mJ
theorem Mi(slot:Slot "list" name id)(zS:typeOf (.builtin id)=pure (.type "method_descriptor"))(hm:C7 X id r)(ho:PE X o to)
  (ja:attributeBase o name X.env (eval o X.env)=eval o X.env:=by rfl) (jH:(gc.endLine==du.line)=true:=by rfl):PE X (.Call (.Attribute o name gc) [] [] du) (Sb r to):=by
 intro aj s σ H Q I h
 refine wpAny_Call_method0_late ja jH (i3 (ho aj s σ H _ I h) fun v s1 kt1 ⟨x,H1,I1,r1,ty,q1⟩=>?_)
 obtain⟨h1,h2⟩:=Aj I1 r1 (xZ ty)
 exact⟨"list",id,F.plainAttrs_list,slot,zS,h1,h2,gp rfl (PySem.evalArgs_none (hm aj s1 σ H1 x [] v [] Q I1 r1 .nil q1))⟩
end
end L2
namespace L2
variable{nk:Nat}
open PySem PySem.Spec PyProof.Rows
end L2
namespace L2
variable{nk:Nat}
open PySem PySem.Spec PyProof.Rows
section
variable{X:Cx}{e:Expr}{es:List Expr}{te:TE}{t:TA}{pos:Pos}
def Pp(t:TA):TE:=fun σ H Q=>t σ H fun xs H1=>xs.length<=sizeLine/\∀p H2,H1 p=none->H2=eT H1 p (.tup xs)->Q (.ref p) H2
def Pq(t:TA):TE:=fun σ H Q=>t σ H fun xs H1=>xs.length<=sizeLine/\∀p H2,H1 p=none->H2=eT H1 p (.lst xs)->Q (.ref p) H2
theorem BM{x1}(h:PA X es t):PE X (.Tuple es x1 pos) (Pp t):=by
 intro aj s σ H Q I hq
 refine wpAny_Tuple_spliced (i3 (h pos aj s σ H _ I hq) fun us s1 kt1 ⟨xs,H1,I1,r,z,q⟩=>⟨by rw[<- r.length];exact z,?_⟩)
 have hf:H1 s1.heap.objs.size=none:=I1.hok.fresh (aw _)
 refine⟨.ref s1.heap.objs.size,eT H1 s1.heap.objs.size (.tup xs),I1.laid (t':=s1.toks) (fun b u e=>ar _ e) (aw _) ?_,rfl,q _ _ hf rfl⟩
 exact⟨z,us,r,⟨_,aI _ rfl,rfl,_,rfl⟩⟩
theorem IL(h:PA X es t):PE X (.List es pos) (Pq t):=by
 intro aj s σ H Q I hq
 refine wpAny_List_spliced (i3 (h pos aj s σ H _ I hq) fun us s1 kt1 ⟨xs,H1,I1,r,z,q⟩=>⟨by rw[<- r.length];exact z,?_⟩)
 have hf:H1 s1.heap.objs.size=none:=I1.hok.fresh (aw _)
 refine⟨.ref s1.heap.objs.size,eT H1 s1.heap.objs.size (.lst xs),I1.laid (t':=s1.toks) (fun b u e=>ar _ e) (aw _) ?_,rfl,q _ _ hf rfl⟩
 exact⟨z,us,0,r,aI _ rfl⟩
theorem C7.imp{id:String}{r r':V->List V->Hp->VK->Prop}(h:C7 X id r)(i:∀x xs H Q,r' x xs H Q->r x xs H Q):C7 X id r':=fun aj s σ H x xs v us Q I rx rv q=>h aj s σ H x xs v us Q I rx rv (i _ _ _ _ q)
theorem i4.imp{f:Value}{r r':List V->Hp->VK->Prop}(h:i4 X f r)(i:∀xs H Q,r' xs H Q->r xs H Q):i4 X f r':=fun aj s σ H xs us Q I rv q=>h aj s σ H xs us Q I rv (i _ _ _ q)
theorem lX.imp{f:Value->Value->Sem Value}{r r':R2}(h:lX X f r)(i:∀x y H Q,r' x y H Q->r x y H Q):lX X f r':=fun aj s σ H x y v u Q I rx ry q=>h aj s σ H x y v u Q I rx ry (i _ _ _ _ q)
def Es:V->List V->Hp->VK->Prop:=fun x vs H Q=>∃l xs y,x=.ref l/\vs=[y]/\H l=some (.lst xs)/\xs.length<sizeLine/\∀H2,H2=eT H l (.lst (xs++[y]))->Q .non H2
theorem Aq:C7 X "list.append" Es:=C7.imp (r:=BE) C8 fun _ _ _ _ ⟨l,xs,y,a,b,c,d,q⟩=>⟨l,xs,y,a,b,c,d,q _ rfl⟩
def Ps:V->List V->Hp->VK->Prop:=fun x vs H Q=>∃l xs y,x=.ref l/\vs=[]/\H l=some (.lst (xs++[y]))/\∀H2,H2=eT H l (.lst xs)->Q y H2
theorem IM:C7 X "list.pop" Ps:=C7.imp (r:=Pf) L8 fun _ _ _ _ ⟨l,xs,y,a,b,c,q⟩=>⟨l,xs++[y],y,a,b,c,by simp,by rw[List.dropLast_concat];exact q _ rfl⟩
def Mj:V->V->V->Hp->(Hp->Prop)->Prop:=fun o i v H Q=>∃p xs k j,o=.ref p/\i=.int k/\H p=some (.lst xs)/\z6 xs.length k=some j/\∀H2,H2=eT H p (.lst (xs.set j v))->Q H2
theorem Dd:CY X Mj:=fun aj s σ H o i v ov iv u Q I r1 r2 r3 q=>by
 obtain⟨p,xs,k,j,a,b,c,d,q⟩:=q
 exact Ef aj s σ H o i v ov iv u Q I r1 r2 r3 ⟨p,xs,k,j,a,b,c,d,q _ rfl⟩
def Et(K:Frag):List V->Hp->VK->Prop:=fun xs H Q=>∃p ys,xs=[.ref p]/\sf K H p ys/\∀l H2,H l=none->H2=eT H l (.tup ys)->Q (.ref l) H2
theorem x5:i4 X (.type "tuple") (Et X.K):=i4.imp uU fun _ _ _ ⟨p,ys,a,b,q⟩=>⟨p,ys,a,.inl ⟨b,fun l hl=>q l _ hl rfl⟩⟩
def Pt:R2:=fun x y H Q=>∃l b xs zs,x=.ref l/\y=.ref b/\H l=some (.lst xs)/\H b=some (.lst zs)/\xs.length+zs.length<=sizeLine/\∀p H2,H p=none->H2=eT H p (.lst (xs++zs))->Q (.ref p) H2
theorem IN:lX X (binaryOp .Add) Pt:=lX.imp L9 fun _ _ _ _ ⟨l,b,xs,zs,h1,h2,h3,h4,h5,q⟩=>⟨l,b,xs,zs,h1,h2,h3,h4,h5,fun p hp=>q p _ hp rfl⟩
end
end L2
namespace L2
variable{nk:Nat}
open PySem PySem.Spec PyProof.Rows
end L2
namespace L2
variable{nk:Nat}
open PySem PySem.Spec PyProof.Rows
def Eu(T:String):Prop:=T="tuple"\/T="bool"\/T="int"\/T="str"
end L2
namespace L2
variable{nk:Nat}
end L2
namespace L2
variable{nk:Nat}
open PySem PySem.Spec PyProof.Rows
inductive CS:List Expr->List Str->Prop where
 |nil:CS [] []
 |cons {x:Str} {j:Nat} {p:Pos} {r:List Expr} {zs:List Str}:CS r zs->CS (.Constant (.str x) j p::r) (x::zs)
def Pu(zs:List Str):TA:=fun _ H Q=>Q (zs.map V.str) H
theorem IP{X:Cx}{es:List Expr}{zs:List Str}(h:CS es zs):PA X es (Pu zs):=by
 induction h with
 |nil=>exact nD
 |@cons x j p r zs _ ih=>
  intro pos aj s σ H Q I hq
  exact iw (X:=X) (D0 (X:=X) (x:=x) (j:=j) (pos:=p)) ih (by rfl) pos aj s σ H Q I hq
end L2
namespace L2
variable{nk:Nat}
open PySem PySem.Spec PyProof.Rows
structure QE(X:Cx)(e:Expr)(t:TE):Prop where
 h:PE X e t
structure QA(X:Cx)(es:List Expr)(t:TA):Prop where
 h:PA X es t
structure QS(X:Cx)(s:Stmt)(t:TS):Prop where
 h:PS X s t
structure QG(X:Cx)(e:Expr)(t:TG):Prop where
 h:PG X e t
structure QI(X:Cx)(tg it:Expr)(t:TI):Prop where
 h:PI X tg it t
structure Sc(X:Cx)(es:List Expr)(t:TT):Prop where
 h:En X es t
structure Td(X:Cx)(f:Value->Value->Sem Value)(r:R2):Prop where
 h:lX X f r
structure J'(X:Cx)(f:Value)(r:List V->Hp->VK->Prop):Prop where
 h:i4 X f r
section
variable{X:Cx}{a b c e o:Expr}{es:List Expr}{ta tb tc te to:TE}{t u:TA}{pos p p2 gc du:Pos}{x name:Str}{j:Nat}{tA Q_:TT}{fP:List Expr}
theorem sj:Td X (binaryOp .LShift) (rI LO fun i j=>.int (i*2^j.toNat)):=⟨D'⟩
variable{st:Stmt}{sr:List Stmt}{ts us:TS}{g:TG}
variable{tg:Expr}
end
section
variable{X:Cx}{tg dL c:Expr}{body:List Stmt}{wi:TI}{g:TG}{tb:TS}{pos:Pos}{tA:TT}
end
end L2
namespace L2
variable{nk:Nat}
open PySem PySem.Spec PyProof.Rows
end L2
namespace L2
variable{nk:Nat}
open PySem PySem.Spec PyProof.Rows
end L2
namespace L2
open PySem PySem.Spec PyProof.Rows
def i6(env:Env):List (Str×NameKind)->List (Str×Addr)->List (Str×Addr)
 |[],cs=>cs
 |(n,k)::r,cs=>i6 env r (if k==.free then(n,(env.cells.lookup n).getD 0)::cs else cs)
theorem Pv{scope:Scope}{env:Env}(h:∀x∈scope.names,x.2=.free->∃c,env.cells.lookup x.1=some c):closureFor scope env=pure (i6 env scope.names []):=by
 unfold closureFor
 have key:∀(ns:List (Str×NameKind)) (cs:List (Str×Addr)),(∀x∈ns,x.2=.free->∃c,env.cells.lookup x.1=some c) ->
   (forIn ns cs fun(x:Str×NameKind) (r:List (Str×Addr))=>if (x.2==NameKind.free)=true then(do let a <- cellOf env x.1;pure (ForInStep.yield ((x.1,a)::r)))else(pure (ForInStep.yield r):Sem _))=pure (i6 env ns cs):=by
  intro ns
  induction ns with
  |nil=>intro cs _;rfl
  |cons y r ih=>
   intro cs hc
   obtain⟨n,k⟩:=y
   rw[List.forIn_cons]
   have ihr:=fun cs=>ih cs fun x hx=>hc x (bv _ hx)
   by_cases hk:(k==NameKind.free)=true
   ·obtain⟨c,e⟩:=hc (n,k) c_ (md hk)
    have e2:cellOf env n=pure c:=by unfold cellOf;rw[e]
    show((if (k==NameKind.free)=true then _ else _) >>= _)=pure (i6 env r (if (k==NameKind.free)=true then _ else _))
    rw[aE hk,aE hk,e2]
    simp only[pure_bind]
    have e3:(env.cells.lookup n).getD 0=c:=by rw[show env.cells.lookup n=some c from e];rfl
    rw[e3]
    exact ihr _
   ·show((if (k==NameKind.free)=true then _ else _) >>= _)=pure (i6 env r (if (k==NameKind.free)=true then _ else _))
    rw[aN hk,aN hk]
    simp only[pure_bind]
    exact ihr _
 have:=key scope.names [] h
 dsimp only
 rw[this];simp only[pure_bind]
theorem vm{env:Env}:∀(ns:List (Str×NameKind)) (cs:List (Str×Addr)),(∀x∈ns,x.2=.free->∃c,env.cells.lookup x.1=some c)->(∀y∈cs,env.cells.lookup y.1=some y.2)->∀y∈i6 env ns cs,env.cells.lookup y.1=some y.2
 |[],cs,_,h=>h
 |(n,k)::r,cs,hf,h=>by
  refine vm r _ (fun x hx=>hf x (bv _ hx)) ?_
  by_cases hk:(k==NameKind.free)=true
  ·rw[aE hk]
   intro y hy
   rcases aY.mp hy with rfl|hy
   ·obtain⟨c,e⟩:=hf (n,k) c_ (md hk)
    show env.cells.lookup n=some ((env.cells.lookup n).getD 0)
    rw[show env.cells.lookup n=some c from e];rfl
   ·exact h y hy
  ·rw[aN hk];exact h
theorem tN{env:Env}:∀(ns:List (Str×NameKind)) (cs:List (Str×Addr)) (y:Str×Addr),y∈cs->y∈i6 env ns cs
 |[],_,_,h=>h
 |(n,k)::r,cs,y,h=>by
  refine tN r _ y ?_
  split
  ·exact bv _ h
  ·exact h
theorem tO{env:Env}:∀(ns:List (Str×NameKind)) (cs:List (Str×Addr)) (x:Str),(x,NameKind.free)∈ns->∃c,(x,c)∈i6 env ns cs
 |[],_,_,h=>by simp at h
 |(n,k)::r,cs,x,h=>by
  rcases aY.mp h with e|h
  ·obtain⟨e1,e2⟩:=Prod.mk.inj e
   subst e1;subst e2
   exact⟨_,tN r _ (x,_) (by rw[aE (by rfl:(NameKind.free==NameKind.free)=true)];exact c_)⟩
  ·exact tO r _ x h
theorem tP{β:Type}:∀{l:List (Str×β)} {x:Str} {b:β},(x,b)∈l->∃c,l.lookup x=some c
 |(y,c)::r,x,b,h=>by
  rw[jw]
  cases hx:x==y with
  |true=>exact⟨c,rfl⟩
  |false=>
   rcases aY.mp h with e|h
   ·cases e;simp at hx
   ·exact tP h
theorem sk{env:Env}{g:Str×NameKind->Bool}:∀{names:List (Str×NameKind)} {x:Str},names.lookup x=some .free ->
  (names.map fun y=>if g y then(y.1,NameKind.cell)else y).lookup x=some .cell\/(names.map fun y=>if g y then(y.1,NameKind.cell)else y).lookup x=some .free
 |[],_,h=>by simp at h
 |(n,k)::r,x,h=>by
  rw[jw]at h
  rw[bh]
  have e1:∀y:Str×NameKind,(if g y then(y.1,NameKind.cell)else y).1=y.1:=fun y=>by split<;>rfl
  have e2:∀(y:Str×NameKind) (l:List (Str×NameKind)),(y::l).lookup x=if (x==y.1)=true then some y.2 else l.lookup x:=fun y l=>by
   obtain⟨a,b⟩:=y
   rw[jw]
   cases x==a<;>rfl
  rw[e2,e1]
  cases hx:x==n with
  |true=>
   rw[hx]at h
   cases h
   rw[aE rfl]
   by_cases hg:g (n,.free)=true
   ·rw[aE hg];exact .inl rfl
   ·rw[aN hg];exact .inr rfl
  |false=>
   rw[hx]at h
   rw[aN (by exact d_)]
   exact sk (env:=env) h
def De(dn:List (Str×NameKind))(sn:List (Str×NameKind))(nm:List Str)(cap:List (Option Nat))(N:List Str):Bool:=
 (sn.all fun x=>!(x.2==.local)||sn.lookup x.1==some .local)&&(sn.all fun y=>!(y.2==.cell))&&(sn.all fun x=>!(x.2==.free)||dn.lookup x.1==some .cell)&&(cap.length==nm.length) &&
 ((List.range cap.length).all fun i=>match cap[i]? with
  |some (some j)=>(match nm[i]?,N[j]? with
   |some x,some y=>x==y&&dn.lookup x==some .cell&&sn.lookup x==some .free
   |_,_=>false)
  |_=>true)
structure Sd(X:Cx)(scope:Scope)(nm:List Str)(cap:List (Option Nat)):Prop where
 clos:closureFor scope X.env=pure (i6 X.env scope.names [])
 cl:∀x c,(i6 X.env scope.names []).lookup x=some c->X.env.cells.lookup x=some c
 nms:∀x∈scope.names,x.2=.local->scope.names.lookup x.1=some .local
 cell:∀y∈scope.names,y.2≠.cell
 has:∀x,((relabel scope X.env).names.lookup x=some .cell\/(relabel scope X.env).names.lookup x=some .free)->∃c,(i6 X.env scope.names []).lookup x=some c
 cp:∀(i j:Nat),cap[i]?=some (some j)->∃x,nm[i]?=some x/\X.N[j]?=some x/\tK X scope (i6 X.env scope.names []) x
 len:cap.length=nm.length
theorem Pw{X:Cx}{scope:Scope}{nm:List Str}{cap:List (Option Nat)}(hf:∀x,X.env.scope.names.lookup x=some .cell->∃c,X.env.cells.lookup x=some c)(hB:De X.env.scope.names scope.names nm cap X.N=true):Sd X scope nm cap:=by
 simp only[De,cD,jx,dS,fK,eD,bY]at hB
 obtain⟨⟨⟨⟨b1,b2⟩,b3⟩,b4⟩,b5⟩:=hB
 have has:∀x∈scope.names,x.2=.free->∃c,X.env.cells.lookup x.1=some c:=fun x hx hk=>by
  rcases b3 x hx with z|z
  ·exact absurd hk z
  ·exact hf _ z
 have uR:∀x c,(i6 X.env scope.names []).lookup x=some c->X.env.cells.lookup x=some c:=fun x c h=>vm scope.names [] has (by simp) (x,c) (iU h)
 have hin:∀x,(x,NameKind.free)∈scope.names->∃c,(i6 X.env scope.names []).lookup x=some c:=fun x h=>let ⟨_,q⟩:=tO (env:=X.env) scope.names [] x h;tP q
 have hmap:(relabel scope X.env).names=scope.names.map fun y=>if (y.2==.free&&X.env.scope.kind==.function&&X.env.kindOf y.1==some .cell)then(y.1,NameKind.cell)else y:=by
  show scope.names.map _=_
  refine dQ fun y _=>?_
  obtain⟨a,b⟩:=y
  rfl
 have fr:∀x,((relabel scope X.env).names.lookup x=some .cell\/(relabel scope X.env).names.lookup x=some .free)->(x,NameKind.free)∈scope.names:=fun x h=>by
  have h':∃k,(x,k)∈(relabel scope X.env).names/\(k=.cell\/k=.free):=by
   rcases h with h|h
   ·exact⟨_,iU h,.inl rfl⟩
   ·exact⟨_,iU h,.inr rfl⟩
  obtain⟨k,hm,hk⟩:=h'
  rw[hmap]at hm
  obtain⟨y,hy,e⟩:=cS.mp hm
  obtain⟨a,b⟩:=y
  by_cases hb:b=.free
  ·subst hb
   have:a=x:=by split at e<;>(cases e;rfl)
   subst this;exact hy
  ·rw[aN (by simp[hb])]at e
   cases e
   rcases hk with rfl|rfl
   ·exact absurd rfl (b2 _ hy)
   ·exact absurd rfl hb
 refine⟨Pv has,uR,fun x hx hk=>(b1 x hx).resolve_left fun z=>z hk,fun y hy=>b2 y hy,fun x hx=>hin x (fr x hx),fun i j e=>?_,b4⟩
 have hi':i<cap.length:=(ak.mp e).1
 have q:=b5 i (eP.mpr hi')
 rw[e]at q
 dsimp only at q
 cases hx:nm[i]? with
 |none=>rw[hx]at q;simp at q
 |some x=>
  cases hy:X.N[j]? with
  |none=>rw[hx,hy]at q;simp at q
  |some y=>
   rw[hx,hy]at q
   simp only[cD,eD]at q
   obtain⟨⟨rfl,q1⟩,q2⟩:=q
   refine⟨x,rfl,rfl,.inr (.inl q1),(by rw[q1];decide),?_,?_⟩
   ·obtain⟨c,hc⟩:=hin x (iU q2)
    rw[hc,uR _ _ hc]
   ·rw[hmap];exact sk (env:=X.env) q2
theorem Mk{X:Cx}{qe tg dL:Expr}{ml:List Expr}{scope:Scope}{pos:Pos}{nm:List Str}{cap:List (Option Nat)}{wi:TI}{g:TG}{tc:TT}{te:TE}{m:Nat}(jm:X.calm=true)
  (qc:X.env.cells=cellsFrom m X.env.scope.names []) (jo:scope.kind=.function) (hB:De X.env.scope.names scope.names nm cap X.N=true)
  (hi:QI X tg dL wi) (hg:∀cl C s0 H0 fp,QG (dG X nm scope cl C s0 H0 fp) tg g) (ht:∀cl C s0 H0 fp,Sc (dG X nm scope cl C s0 H0 fp) ml tc)
  (he:∀cl C s0 H0 fp,QE (dG X nm scope cl C s0 H0 fp) qe te) (hs:∀x,foldedSetIterable dL X.env x=pure x:=by intro _;rfl) :
  QE X (.ListComp qe [⟨tg,dL,ml,0⟩] scope pos) (tJ cap wi g tc te):=by
 have F:=Pw (nm:=nm) (cap:=cap) (fun x z=>by rw[qc];exact lY z) hB
 exact⟨IJ jm F.clos F.cl jo F.nms F.cell F.has F.cp F.len hi.h (fun C s0 H0 fp=>(hg _ C s0 H0 fp).h) (fun C s0 H0 fp=>(ht _ C s0 H0 fp).h) (fun C s0 H0 fp=>(he _ C s0 H0 fp).h) hs⟩
def IQ(K:Frag):List V->Hp->VK->Prop:=fun xs H Q=>∃(p:Addr) (ys:List (List Nat)),xs=[.ref p]/\sf K H p (ys.map fun l=>V.str (tx l))/\ys.length<64 /\
 ∀zs:List (List Nat),zs.Perm ys->sortedS (zs.map tx)=true->∀l H2,H l=none->H2=eT H l (.lst (zs.map fun l=>V.str (tx l)))->Q (.ref l) H2
theorem BN(z:Str):tx z.cps.toList=z:=by cases z;rfl
theorem tQ{vs:List Value}{xs:Array (Value×Value)}(hp:xs.Perm (pairsOf vs)):∀v∈(xs.map (·.2)).toList,v∈vs:=fun v hv=>by
 have hl:xs.toList.Perm (vs.zip vs):=by rw[<- pairsOf_toList];exact Array.perm_iff_toList_perm.mp hp
 rw[Array.toList_map]at hv
 obtain⟨p,hp',rfl⟩:=cS.mp hv
 have:=mem_zip_self (hl.mem_iff.mp hp')
 rw[<- this.1];exact this.2
theorem wA{prog:Program}{w:World}{A:Around}{E:Value->Shared->Prop}{s:Shared}{l:Addr}{vs:List Value}{ss:List Str}{Q:Value->Shared->Prop}(hl:s.heap.IsList l vs.toArray)(hS:StrsAre vs ss)(SZ:vs.length<64)
  (h:∀(out:Array Value) (H9:List Str),(∀v∈out.toList,v∈vs)->StrsAre out.toList H9->H9.Perm ss->sortedS H9=true->Q (.ref (s.heap.objs.size+1)) { s with heap:=sortedAll s.heap vs out }) :
  wpAny (model prog w) A (call (.builtin "sorted") [.ref l]) Q E s:=by
 refine sortedK pN hl hS.keysOf (fun v₁ v₂ fP e=>qY (by rw[<- e];exact hS)) SZ fun bf hp hs=>?_
 obtain⟨H9,h1,h2,h3⟩:=oy hS hp hs
 exact h _ H9 (tQ hp) h1 h2 h3
theorem ig.sub{n:Nat}{vs us:List Value}(h:ig n vs)(hs:∀v∈us,v∈vs):ig n us:=fun x t hx=>h x t (hs _ hx)
theorem uV{X:Cx}:J' X (.builtin "sorted") (IQ X.K):=⟨by
 intro aj s σ H xs us Q I r h
 obtain⟨p,ys,rfl,hS,SZ,q⟩:=h
 obtain⟨u,rfl,ru⟩:=nC r
 cases ru
 obtain⟨bN,rv,pl,hz⟩:=I.list hS
 have hl:=rv.length
 rw[aC]at hl
 refine wA (ss:=ys.map tx) pl.isList (tM (by simpa using rv)) (by omega) fun out H9 hm h1 h2 h3=>?_
 obtain⟨ep,hat⟩:=sortedAll_at s.heap bN out
 have xB:H (s.heap.objs.size+1)=none:=I.hok.fresh (bi _)
 have hmap:(H9.map fun z=>z.cps.toList).map tx=H9:=by
  rw[bA]
  have:(tx∘fun z:Str=>z.cps.toList)=id:=funext fun z=>BN z
  rw[this,jI]
 have hperm:(H9.map fun z=>z.cps.toList).Perm ys:=by
  have e:=h2.map fun z:Str=>z.cps.toList
  rw[bA]at e
  have:((fun z:Str=>z.cps.toList)∘tx)=id:=funext fun l=>by simp[tx]
  rw[this,jI]at e
  exact e
 have hvals:cJ s.toks ((H9.map fun z=>z.cps.toList).map fun l=>V.str (tx l)) out.toList:=by
  have e:=ms h1 ((qv rv).sub hm)
  rw[<- hmap,bA]at e
  exact e
 refine⟨.ref (s.heap.objs.size+1),_,I.laid (t':=s.toks) (fun b o e=>sortedAll_old e) (bi _) ?_,rfl,q _ hperm (by rw[hmap];exact h3) _ _ xB rfl⟩
 refine⟨?_,out.toList,ep,hvals,hat⟩
 rw[aC,hperm.length_eq]
 exact aF (fI SZ) (by decide)⟩
theorem bF.turned2{X:Cx}{aj:List (Addr×Obj)}{σ:St}{H:Hp}{s:Shared}{h':Heap}{t':Nat}{e it:Addr}(I:bF X aj σ H s)(k:∀b o,b≠e->b≠it->s.heap.get? b=some o->h'.get? b=some o)
  (he:∃o,h'.get? e=some o) (f1:tF X aj H e) (f2:tF X aj H it) (hk:s.toks<=t':=by first|exact aw _|exact bi _|assumption|omega):bF X aj σ H { s with heap:=h',toks:=t' }:=by
 have nit:∀b u,H b=some u->b≠e/\b≠it:=fun b u q=>⟨fun z=>(by rw[z,f1.1]at q;cases q),fun z=>(by rw[z,f2.1]at q;cases q)⟩
 have nin:∀b,b∉[e,it]->b≠e/\b≠it:=fun b h=>⟨fun z=>h (by simp[z]),fun z=>h (by simp[z])⟩
 refine I.step (g':=s.gens) (d':=s.drawn) (ch:=[e,it]) (fun b hb=>?_) (fun b o _ _ hc q _=>k b o (nin b hc).1 (nin b hc).2 q) (fun b o _ _ hc q _=>⟨o.slots,k b o (nin b hc).1 (nin b hc).2 q⟩) (fun _ _ _ _ n=>n)
  (fun b o hc q=>⟨o,k b o (nin b hc).1 (nin b hc).2 q⟩) (fun _ _ q=>q) (fun _ _ _ q=>q) (fun b ps q=>⟨#[],by rw[q];simp⟩) (fun m hm=>?_) (fun b u q=>?_) I.bare hk
 ·have z:b=e\/b=it:=by simpa using hb
  rcases z with rfl|rfl
  ·exact⟨f1.2.2.2.1,f1.2.1,f1.2.2.2.2.1,f1.2.2.2.2.2⟩
  ·exact⟨f2.2.2.2.1,f2.2.1,f2.2.2.2.2.1,f2.2.2.2.2.2⟩
 ·obtain⟨o,es,ep,ho,r⟩:=hm
  exact⟨o,es,ep,k _ o (Ne.symm f1.2.1) (Ne.symm f2.2.1) ho,r⟩
 ·refine((I.hok b u q).up hk).stay (fun c v hc z=>?_) (fun _ z=>z) fun _ _ z=>z
  rcases hc with y|y
  ·rw[y]at z ⊢;exact k b v (nit b u q).1 (nit b u q).2 z
  ·exact k c v (nit c _ y).1 (nit c _ y).2 z
section
variable{prog:Program}{w:World}{A:Around}{E:Value->Shared->Prop}{s:Shared}
theorem uW{it t:Addr}{i:Nat}{bN:Array Value}{x:Value}{Q:Value->Shared->Prop}(st:s.heap.IsTupleIter it t i)(ht:s.heap.IsTuple t bN)(hx:bN[i]?=some x)
  (q:∀g,g.IsTupleIter it t (i+1)->Heap.SameBut it s.heap g->Q x { s with heap:=g }):wpAny (model prog w) A (Builtin.SmallTypes.nextOf (.ref it)) Q E s:=by
 obtain⟨ob,e1,e2,e3⟩:=id st
 obtain⟨ot,g1,_,nt,g3⟩:=ht
 have T:=st.typeIs
 unfold Builtin.SmallTypes.nextOf
 refine af (cr (name:=Str.ofString "__next__") T fx (cC fx T j9 ?_ (jP _)))
 show wpAny _ _ (field (.ref it) 0 >>= _) _ _ s
 refine af (gf e1 e3 (x:=.ref t) rfl ?_)
 dsimp only
 rw[aN (show ¬ ((Value.ref t==Value.none)=true)from d_)]
 refine af (gf e1 e3 (x:=.int i 0) rfl ?_)
 dsimp only
 refine af (kL g1 g3 ?_)
 simp only[bw,hx]
 refine af (wpAny_setField e1 e3 (by simp) (ay ⟨x,rfl,ay (q _ ?_ (hZ ..))⟩))
 exact⟨_,dw _ e1 (Obj.isFreed_of_fields (Obj.data_mapFields e3 _)),(Obj.cls_mapFields ..).trans e2,by rw[Obj.data_mapFields e3];simp[rawInt]⟩
theorem qw{it t:Addr}{i:Nat}{bN:Array Value}{Q:Value->Shared->Prop}(hh:A.handled=none)(st:s.heap.IsTupleIter it t i)(ht:s.heap.IsTuple t bN)(hx:bN[i]?=none)
  (q:∀g e,Heap.ExtBut it s.heap g->(∃o,g.get? e=some o/\o.cls=.type "StopIteration")->E (.ref e) { s with heap:=g }):wpAny (model prog w) A (Builtin.SmallTypes.nextOf (.ref it)) Q E s:=by
 obtain⟨ob,e1,e2,e3⟩:=id st
 obtain⟨ot,g1,_,nt,g3⟩:=ht
 have T:=st.typeIs
 unfold Builtin.SmallTypes.nextOf
 refine af (cr (name:=Str.ofString "__next__") T fx (cC fx T j9 ?_ (jP _)))
 show wpAny _ _ (field (.ref it) 0 >>= _) _ _ s
 refine af (gf e1 e3 (x:=.ref t) rfl ?_)
 dsimp only
 rw[aN (show ¬ ((Value.ref t==Value.none)=true)from d_)]
 refine af (gf e1 e3 (x:=.int i 0) rfl ?_)
 dsimp only
 refine af (kL g1 g3 ?_)
 simp only[bw,hx]
 refine af (mS (af (wpAny_setField e1 e3 (by simp) (af ?_))))
 simp only[newExc,newTuple]
 refine af (ce (af (m:=firstArgMember _ _) (oz (a:=Value.none) (by first|rfl|(simp only[firstArgMember];rfl)) (ce ?_ (by size_fits)))) (by size_fits))
 simp only[raiseNew]
 refine af (wpAny_handled ?_)
 rw[show A.in1.handled=none from hh]
 exact af (ay (wpAny_throw (q _ _ (((hZ ..).extBut.push _).push _) ⟨_,aI _ rfl,rfl⟩)))
end
theorem Ev{prog:Program}{w:World}{A:Around}(hh:A.handled=none)(it t:Addr)(uN:t≠it)(bN:Array Value) :
  Draws prog w A it [it,t] bN.size (fun i v=>bN[i]?=some v) (fun i h=>h.IsTupleIter it t i/\h.IsTuple t bN) where
 live:=fun _ _ st=>let ⟨o,e,_⟩:=st.1;⟨o,e⟩
 frame:=fun _ h h' st k=>⟨st.1.at fun o e=>k it (by simp) o e,let ⟨o,e,r⟩:=st.2;⟨o,k t (by simp) o e,r⟩⟩
 item:=fun i s Q E hi st q=>uW st.1 st.2 (x:=bN[i]) (by simp[hi]) fun g a b=>q _ g s.toks (by simp[hi]) ⟨a,st.2.extBut b.extBut uN⟩ b
 done:=fun s Q E st q=>qw hh st.1 st.2 (by simp) q
open AutoSeq1 (wpAny_loadPart')
def Te(K:Frag)(a:Addr):It:=
 ⟨fun i H=>∃xs x,gK K H a xs/\xs[i]?=some x,fun i H v H'=>∃p,H p=none/\v=.ref p/\∀xs x,gK K H a xs->xs[i]?=some x->H'=eT H p (.tup [.int i,x]),fun i H=>∃xs,gK K H a xs/\xs.length<=i⟩
theorem Df{P:Program}{w:World}{K:Frag}{Ht:List Expr}{kk:Nat}{pos:Pos}(a it e:Addr)(S7:e≠it) :
  z_ P w K (.Tuple Ht kk pos) (Te K a) [e,it] e (fun i h=>(∃old,IsEnum h e it i old)/\h.IsTupleIter it a i) where
 mem:=by simp
 obj:=fun i h st b hb=>by
  have z:b=e\/b=it:=by simpa using hb
  rcases z with rfl|rfl
  ·obtain⟨old,q⟩:=st.1
   exact⟨_,q,fun v z=>by cases z⟩
  ·obtain⟨o,q,c,d⟩:=st.2
   exact⟨o,q,fun v z=>by rw[d]at z;cases z⟩
 keep:=fun i h h' st k=>⟨let ⟨old,q⟩:=st.1;⟨old,k e (by simp) _ q⟩,st.2.at fun o q=>k it (by simp) o q⟩
 item:=by
  intro X hP hw hK hc i aj s σ H E I hf st hg
  subst hP hw hK
  obtain⟨xs,x,hq,hx⟩:=hg
  obtain⟨bN,rv,p,hz⟩:=I.tuple hq
  obtain⟨u,hu,ru⟩:=rv.get hx
  obtain⟨⟨old,he⟩,og⟩:=st
  have hT:s.heap.IsTuple a bN.toArray:=p
  obtain⟨oa,ha,hca,_⟩:=id hT
  obtain⟨oi,hi,hci,_⟩:=id og
  have nai:a≠it:=fun z=>by
   rw[z,hi]at ha;cases ha
   rw[hci]at hca;injection hca with z;exact absurd z (by decide)
  have nae:a≠e:=fun z=>by
   rw[z,he]at ha;cases ha
   injection hca with z;exact absurd z (by decide)
  have hlt:i<bN.toArray.size:=by
   have:=(ak.mp hu).1
   simpa using this
  refine up (wpAny_pyNext_enum_itemD (Ev (A:=X.A.in1) (I.ok.hd hc) it a nai bN.toArray) he ⟨og,hT⟩ hlt S7 (by simp[S7,Ne.symm nae]) fun x' g tk hx' sN bf htup hsz hk Oi=>⟨_,rfl,?_⟩)
  have ex:x'=u:=by
   have e1:bN[i]?=some x':=by simpa using hx'
   rw[hu]at e1;exact(bc e1).symm
  subst ex
  refine wpAny_letOwnedTupleGo_enum sN fun g2 DW ql=>?_
  have xB:H s.heap.objs.size=none:=I.hok.fresh (aw _)
  have I1:bF X aj σ (eT H s.heap.objs.size (.tup [.int i,x])) { s with heap:=s.heap.push { cls:=.type "tuple",data:=.seq #[.int i tk,x'] },toks:=tk+1 }:=I.laid (fun b o q=>ar _ q) (aw _)
   ⟨by show 2<=sizeLine;decide,[.int i tk,x'],.cons ⟨tk,rfl⟩ (.cons (ru.up Oi) .nil),⟨_,aI _ rfl,rfl,_,rfl⟩⟩
  have nf:∀b∈[e,it],b≠s.heap.objs.size:=fun b hb=>by
   have z:b=e\/b=it:=by simpa using hb
   rcases z with rfl|rfl
   ·exact aZ (aK he)
   ·exact aZ (aK hi)
  have fp:∀b∈[e,it],tF X aj (eT H s.heap.objs.size (.tup [.int i,x])) b:=fun b hb=>by
   obtain⟨f0,f⟩:=hf b hb
   exact⟨by rw[cW (nf b hb)];exact f0,f⟩
  have he2':IsEnum g2 e it ((i:Int)+1) x':=DW
  have I2:bF X aj σ (eT H s.heap.objs.size (.tup [.int i,x])) { s with heap:=g2,toks:=tk+1 }:=I1.turned2 (t':=tk+1) (fun b o hbe hbi q=>?_) ⟨_,he2'⟩ (fp e (by simp)) (fp it (by simp))
  ·refine⟨.ref s.heap.objs.size,_,I2,rfl,⟨_,xB,rfl,fun ys y hy hy'=>?_⟩,⟨⟨x',by simpa using he2'⟩,bf.1.extBut ql.extBut (Ne.symm S7)⟩,fun b hb=>(fp b hb).1⟩
   have e1:=I.tuple_inj hy hq
   subst e1
   rw[hx]at hy';cases hy';rfl
  ·have q':(s.heap.push { cls:=.type "tuple",data:=.seq #[.int i tk,x'] }).get? b=some o:=q
   refine ql.extBut b o hbe ?_
   by_cases hb:b=s.heap.objs.size
   ·subst hb
    have e1:=aI s.heap (o:={ cls:=.type "tuple",data:=.seq #[.int i tk,x'] }) rfl
    rw[e1]at q';cases q'
    exact htup
   ·rw[Heap.get?_push_ne _ _ _ hb]at q'
    exact hk b o hbe hbi q'
 done:=by
  intro X hP hw hK hc i aj s σ H E I hf st hg
  subst hP hw hK
  obtain⟨xs,hq,hx⟩:=hg
  obtain⟨bN,rv,p,hz⟩:=I.tuple hq
  obtain⟨⟨old,he⟩,og⟩:=st
  have hT:s.heap.IsTuple a bN.toArray:=p
  have hl:=rv.length
  have hT':Shared.TypeIs s (.ref e) "enumerate":=⟨_,he,rfl⟩
  unfold pyNext
  refine af (jE (cr (name:=Str.ofString "__next__") hT' nB (cC nB hT' F.entry_enumerate_next ?_ (F.args_enumerate_next_1 _))))
  show wpAny _ _ (field (.ref e) 2 >>= _) _ _ _
  refine af (gf he rfl (x:=.ref it) rfl (af (qw (show X.A.in1.handled=none from I.ok.hd hc) og hT (by simp;omega) fun g y hx' hy=>?_)))
  obtain⟨o,ho,uR⟩:=hy
  refine af (f_ (T:="StopIteration") (b:=true) ⟨o,ho,uR⟩ oA (ay ⟨rfl,?_⟩))
  obtain⟨f0,f1,f2,f3,f4,f5⟩:=hf it (by simp)
  exact I.turned (t':=s.toks) (fun b o hb q=>hx' b o hb q) f0 f1 f3 f4 f5
 self:=fun A i s Q E st h=>let ⟨_,q⟩:=st.1;wpAny_pyIter_enum q h
open AutoSeq1 (wpAny_loadPart')
abbrev qx(t:Addr):Obj:={ cls:=.type "tuple_iterator",data:=.fields #[.ref t,.int 0 0] }
abbrev Ar(it:Addr):Obj:={ cls:=.type "enumerate",data:=.fields #[.none,.bool false,.ref it,rawInt 0,.none,.none] }
theorem Ml(t:Addr)(bN:Array Value)(n:Nat)(dc:Option Addr)(sl:Array (Option Value)) :
  Meets (Builtin.«enumerate.__new__» ⟨[.type "enumerate",.ref t],[]⟩) (fun _ R s=>s.heap.get? t=some { cls:=.type "tuple",dict:=dc,data:=.seq bN n,slots:=sl } /\
   R (.ok (.ret (.ref (s.heap.push (qx t)).objs.size))) { s with heap:=(s.heap.push (qx t)).push (Ar s.heap.objs.size) }):=
 .of_wp fun prog w A R s h=>by
  obtain⟨hp,g,d,tk,os⟩:=s
  obtain⟨ht,h⟩:=h
  have sb:=sub_enumerate
  have hT:Heap.IsTuple (Shared.heap ⟨hp,g,d,tk,os⟩) t bN:=⟨_,ht,rfl,n,rfl⟩
  wp_walk using de ht
  refine wpAny_stack_any fun st=>ay ?_
  split
  ·rename_i c _ _ _ _ _
   cases(c==Value.type "enumerate")<;>(wp_walk using de ht,iR hT;exact⟨_,rfl,h⟩)
  ·wp_walk using de ht,iR hT
   exact⟨_,rfl,h⟩
section
variable{prog:Program}{w:World}{A:Around}{E:Value->Shared->Prop}{s:Shared}
theorem uX{t:Addr}{bN:Array Value}{Q:Value->Shared->Prop}(hT:s.heap.IsTuple t bN)
  (q:∀g,IsEnum g (s.heap.objs.size+1) s.heap.objs.size 0 .none->g.IsTupleIter s.heap.objs.size t 0->(∀b o,s.heap.get? b=some o->g.get? b=some o)->Q (.ref (s.heap.objs.size+1)) { s with heap:=g }) :
  wpAny (model prog w) A (call (.type "enumerate") [.ref t]) Q E s:=by
 obtain⟨⟨c,dc,dt,sl⟩,ht,hc,n,hd⟩:=hT
 obtain rfl:c=.type "tuple":=hc
 obtain rfl:dt=.seq bN n:=hd
 refine callType_new F.called_enumerate (by decide) (F.typeCall_enumerate_1 _) (F.newCall_enumerate_1 _) (fun ob=>F.args_object_init_2 ob _) F.entry_enumerate_new (Ml t bN n dc sl) ⟨ht,?_⟩
 have z:(s.heap.push (qx t)).objs.size=s.heap.objs.size+1:=bZ ..
 show _/\_
 rw[z]
 have e1:IsEnum ((s.heap.push (qx t)).push (Ar s.heap.objs.size)) (s.heap.objs.size+1) s.heap.objs.size 0 .none:=by
  have y:=aI (s.heap.push (qx t)) (o:=Ar s.heap.objs.size) rfl
  rw[z]at y;exact y
 exact⟨⟨_,e1,rfl⟩,q _ e1 ⟨_,ar _ (aI _ rfl),rfl,rfl⟩ fun b o y=>ar _ (ar _ y)⟩
end
section
variable{X:Cx}
def Se(K:Frag)(ta:TA):TI:=fun σ H R=>ta σ H fun vs H1=>∃a,vs=[.ref a]/\(∃xs,gK K H1 a xs)/\R (Te K a) H1
theorem Ew{a:Expr}{ta:TA}{p pos tp:Pos}{Ht:List Expr}{kk:Nat}(hm:X.mg "enumerate"=none)(ha:QA X [a] ta)(hg:Gl X "enumerate":=by rfl)(hs:starEach [a] X.env=[(false,eval a X.env)]:=by rfl) :
  QI X (.Tuple Ht kk tp) (.Call (.Name "enumerate" p) [a] [] pos) (Se X.K ta):=⟨by
 intro aj s σ H R I h
 refine Call_ (mq I hg hm boot_enumerate (cZ (i3 (ha.h pos aj s σ H _ I h) fun us s1 kt1 ⟨vs,H1,I1,r1,q1⟩=>?_) hs rfl))
 obtain⟨t,e,⟨xs,hq⟩,q⟩:=q1
 subst e
 obtain⟨u,rfl,ru⟩:=nC r1
 cases ru
 obtain⟨bN,rv,pt,hz⟩:=I1.tuple hq
 refine uX (show s1.heap.IsTuple t bN.toArray from pt) fun g e1 e2 kp=>?_
 refine wpAny_pyIter_enum e1 ?_
 refine⟨s1.heap.objs.size+1,[s1.heap.objs.size+1,s1.heap.objs.size],_,_,H1,rfl,I1.kept (t':=s1.toks) kp,Df t _ _ (Nat.succ_ne_self _),⟨⟨_,e1⟩,e2⟩,fun b hb=>?_,q⟩
 have z:b=s1.heap.objs.size+1\/b=s1.heap.objs.size:=by simpa using hb
 rcases z with rfl|rfl
 ·exact I1.fpOk (bi _) (I1.hok.fresh (bi _))
 ·exact I1.fpOk (aw _) (I1.hok.fresh (aw _))⟩
end
section
variable{cap:List (Option Nat)}{g:TG}{tc:TT}{te:TE}{σ:St}{H1:Hp}{Q:VK}{n:Nat}
end
theorem vn:∀(p:Nat) (m:List Nat),risingS (tx [p]) (m.map fun c=>tx [c])=true->(∀c∈m,p<=c)/\m.Pairwise (· <= ·)
 |p,[],_=>⟨fun c h=>by simp at h,.nil⟩
 |p,c::r,h=>by
  have h':(!ltCps (tx [c]).cps.toList (tx [p]).cps.toList&&risingS (tx [c]) (r.map fun c=>tx [c]))=true:=h
  rw[cD]at h'
  obtain⟨a,b⟩:=h'
  obtain⟨b1,b2⟩:=vn c r b
  have hpc:p<=c:=by
   rw[ltCps_eq]at a
   have a':(!decide ([c]<[p]))=true:=a
   have:=of_decide_eq_false (fK _▸a')
   rcases gX c p with z|z
   ·exact absurd (List.Lex.rel z) this
   ·exact z
  refine⟨fun x hx=>?_,bT.mpr ⟨b1,b2⟩⟩
  rcases aY.mp hx with rfl|hx
  ·exact hpc
  ·exact aF hpc (b1 x hx)
theorem x6:∀(m:List Nat),sortedS ((m.map fun c=>[c]).map tx)=true->m.Pairwise (· <= ·)
 |[],_=>.nil
 |c::r,h=>by
  have h':risingS (tx [c]) ((r.map fun c=>[c]).map tx)=true:=h
  rw[bA]at h'
  obtain⟨a,b⟩:=vn c r h'
  exact bT.mpr ⟨a,b⟩
theorem eM:Slot "set_iterator" "__next__" "set_iterator.__next__":=.of (owner:="set_iterator") (n:="__next__") (by rw[ng,jp];kernel_rfl) (by decide +kernel) (by decide +kernel) (by decide +kernel) (by first|exact .inl (by decide +kernel)|exact .inr (by decide +kernel)) (by rw[dz];kernel_rfl)
theorem kZ:entryFor table "set_iterator.__next__"=some Builtin.«set_iterator.__next__»:=entryFor_of_tree (by kernel_rfl)
theorem k6(a:Value):argsOk "set_iterator.__next__" ⟨[a],[]⟩:=by unfold argsOk;kernel_rfl
theorem x8:entryFor table "set.__iter__"=some Builtin.«frozenset.__iter__»:=entryFor_alias (id':="frozenset.__iter__") (by kernel_rfl) (by first|rfl|decide +kernel|(unfold String.splitOn;simp +decide [String.splitOnAux])) (by decide +kernel) (by kernel_rfl)
def sT(w:World):Bool:=w.params.followText "set-order"
def BO(w:World)(n:Nat)(t:SetTable):Prop:=(sT w=true\/t.led=true)/\(n=0\/t.plain=false)
theorem Dg(t:SetTable)(es:Array (Int×Value))(h:Int)(x:Value):(layNew t es h x).2.1.led=t.led/\(t.plain=false->(layNew t es h x).2.1.plain=false):=by
 unfold layNew
 split
 ·dsimp only
  unfold SetTable.orStandIn
  split
  ·exact⟨rfl,fun z=>z⟩
  ·exact⟨rfl,fun _=>rfl⟩
 ·exact⟨rfl,fun _=>rfl⟩
theorem wB{t t':SetTable}{hs:Array Int}{n:Nat}{o:Array Nat}(h:t.relaid hs n=some (t',o)):t'.led=t.led/\t'.plain=t.plain:=by
 unfold SetTable.relaid SetTable.laid at h
 cases hc:SetTable.layClean (SetTable.sizeAbove n-1) hs with
 |none=>rw[hc]at h;cases h
 |some ow=>
  rw[hc]at h
  have h':=bc h
  obtain⟨a,_⟩:=Prod.mk.inj h'
  subst a
  exact⟨rfl,rfl⟩
theorem x9(t:SetTable)(es:Array (Int×Value))(n:Nat):(relayAll t es n).2.1.led=t.led/\(t.plain=false->(relayAll t es n).2.1.plain=false):=by
 unfold relayAll
 split
 ·rename_i t' o he
  obtain⟨a,b⟩:=wB he
  dsimp only
  split
  ·exact⟨a,fun z=>b.trans z⟩
  ·exact⟨rfl,fun _=>rfl⟩
 ·exact⟨rfl,fun _=>rfl⟩
section
variable{prog:Program}{w:World}
def tR(prog:Program)(w:World)(n:Nat)(h:Heap)(a:Addr)(ks:List Str):Prop:=
 ∃o es ep t,h.get? a=some o/\o.ExactSet/\o.data=.set es ep t/\ElemsOf (PySem.strKind prog w) es.toList/\(es.toList.map fun e=>strOf e.2).Perm ks/\es.size<scanBound/\t.fits es.size=true/\BO w es.size t/\ig n (es.toList.map (·.2))
theorem x_{l:List (Int×Value)}(h:ElemsOf (PySem.strKind prog w) l):∀e∈l,∃t,e.2=.str (strOf e.2) t:=fun e he=>by
 obtain⟨⟨k,hk,_⟩,_⟩:=h e he
 obtain⟨t,ht⟩:=jX hk
 exact⟨t,by rw[ht];rfl⟩
theorem vo{k:Str}{e:Int×Value}{l:List (Int×Value)}(h:ElemsOf (PySem.strKind prog w) l)(he:e∈l):(PySem.strKind prog w).is k e.2=true↔k=strOf e.2:=by
 obtain⟨t,ht⟩:=x_ h e he
 constructor
 ·intro z
  obtain⟨u,hu⟩:=jX z
  rw[hu];rfl
 ·intro z
  show Value.isStrOf k e.2=true
  rw[ht,z]
  show Value.isStrOf (strOf e.2) (.str (strOf e.2) t)=true
  unfold Value.isStrOf;simp
theorem tR.keep{n:Nat}{h h':Heap}{a:Addr}{ks:List Str}(z:tR prog w n h a ks)(k:∀o,h.get? a=some o->h'.get? a=some o):tR prog w n h' a ks:=let ⟨o,es,ep,t,ho,r⟩:=z;⟨o,es,ep,t,k o ho,r⟩
theorem ig.up{n n':Nat}{l:List Value}(h:ig n l)(hn:n<=n'):ig n' l:=fun x t hx h1=>⟨(h x t hx h1).1,aL (h x t hx h1).2 hn⟩
theorem tR.up{n n':Nat}{h:Heap}{a:Addr}{ks:List Str}(z:tR prog w n h a ks)(hn:n<=n'):tR prog w n' h a ks:=let ⟨o,es,ep,t,ho,h1,h2,h3,h4,h5,h6,h7,h8⟩:=z;⟨o,es,ep,t,ho,h1,h2,h3,h4,h5,h6,h7,h8.up hn⟩
variable{A:Around}{E:Value->Shared->Prop}{s:Shared}
theorem IR{a:Addr}{ks:List Str}{x:Str}{tk:Tok}{Q:Bool->Shared->Prop}{n:Nat}(z:tR prog w n s.heap a ks)(RG:x.length=1->0<tk/\tk<n)(TF:ks.length+1<scanBound)
  (q:∀b g,Heap.SameBut a s.heap g->tR prog w n g a (if x∈ks then ks else ks++[x])->Q b { s with heap:=g }):wpAny (model prog w) A (setAddHashed a (.str x tk) ((PySem.strKind prog w).hash x)) Q E s:=by
 obtain⟨o,es,ep,t,ho,v5,hd,hel,hp,hb,hf,H_,hta⟩:=z
 have dr:es.size=ks.length:=by have:=hp.length_eq;simpa using this
 have hkey:(PySem.strKind prog w).is x (.str x tk)=true:=by show Value.isStrOf x (.str x tk)=true;unfold Value.isStrOf;simp
 have hsc:(Value.str x tk).scannable=true:=rfl
 unfold setAddHashed setAddHashedIn
 refine db (af (fL ho hd hf ?_))
 dsimp only
 rw[byScan_of hsc hb hel,aE rfl]
 unfold setAddByScan
 refine af (af (mS (af (wpAny_setScan_of hkey ho hd hf hel ?_))))
 cases hr:List.findIdx? (fun e=>(PySem.strKind prog w).is x e.2) es.toList with
 |some j=>
  obtain⟨hj,hpj,_⟩:=List.findIdx?_eq_some_iff_getElem.mp hr
  have hin:x∈ks:=hp.mem_iff.mp (cS.mpr ⟨es.toList[j],dm hj,((vo hel (dm hj)).mp hpj).symm⟩)
  refine ay (ay ?_)
  have e1:=q false s.heap (Heap.SameBut.refl a s.heap) (by rw[aE hin];exact⟨o,es,ep,t,ho,v5,hd,hel,hp,hb,hf,H_,hta⟩)
  exact e1
 |none=>
  have hin:¬ x∈ks:=fun hx=>by
   obtain⟨e,he,hxe⟩:=cS.mp (hp.mem_iff.mpr hx)
   have y:=List.findIdx?_eq_none_iff.mp hr e he
   rw[(vo hel he).mpr hxe.symm]at y
   cases y
  have q':=fun b g h1 h2=>q b g h1 (by rw[aN hin];exact h2)
  dsimp only
  have lp:=layNew_perm t es ((PySem.strKind prog w).hash x) (.str x tk)
  have lf:=layNew_fits t es ((PySem.strKind prog w).hash x) (.str x tk)
  have lm:=Dg t es ((PySem.strKind prog w).hash x) (.str x tk)
  generalize layNew t es ((PySem.strKind prog w).hash x) (.str x tk)=L at lp lf lm ⊢
  obtain⟨es1,t1,wd,gv⟩:=L
  dsimp only at lp lf lm ⊢
  rw[lu]at lp
  have el1:ElemsOf (PySem.strKind prog w) es1.toList:=(hel.push hkey hsc).perm lp
  have sz1:es1.size=es.size+1:=by have:=lp.length_eq;simpa using this
  have b1:es1.size<scanBound:=by omega
  have p1:(es1.toList.map fun e=>strOf e.2).Perm (ks++[x]):=by
   have y:=lp.map fun e:Int×Value=>strOf e.2
   rw[cE]at y
   exact y.trans (hp.append_right _)
  have ta1:ig n (es1.toList.map (·.2)):=fun y u hy=>by
   obtain⟨e,he,ee⟩:=cS.mp hy
   rcases bj.mp (lp.mem_iff.mp he)with z|z
   ·exact hta y u (cS.mpr ⟨e,z,ee⟩)
   ·rw[aV]at z
    subst z
    cases ee
    exact RG
  have gw:∀(b:Bool) {s₁:Shared} {Q':Unit->Shared->Prop},Q' () s₁->wpAny (model prog w) A (match b with|true=>rule "set.scan.the-table-gave-way" | false=>pure ()) Q' E s₁:=fun b _ _ y=>by cases b<;>first|exact ay y|exact mS y
  refine af (gw _ ?_)
  have hV:∀t2:SetTable,t2.fits es1.size=true->t2.led=t.led->t2.plain=false->wpAny (model prog w) A (do
    storeSet a es1 t2
    if (!wd&&t2.tooFull)=true then do
      (match (relayAll t2 es1 (SetTable.grown es1.size)).2.2 with|true=>rule "set.scan.the-table-gave-way" | false=>pure ())
      storeSet a (relayAll t2 es1 (SetTable.grown es1.size)).1 (relayAll t2 es1 (SetTable.grown es1.size)).2.1
      pure (some true)
     else pure (some true)) (fun r s'=>wpAny (model prog w) A (match r with|some added=>pure added|none=>setAddHashedIn a (.str x tk) ((PySem.strKind prog w).hash x) 99999) Q E s') E s:=by
   intro t2 f2 l2 n2
   have to2:BO w es1.size t2:=⟨by rw[l2];exact H_.1,.inr n2⟩
   refine af (wpAny_storeSet_of ho hd ?_ (fits_of_scanBound b1))
   have g1:(s.heap.update a (Obj.putSet es1 t2)).get? a=some { o with data:=.set es1 (ep+1) t2 }:=by
    have y:=dw (Obj.putSet es1 t2) ho (by rw[se es1 t2 hd];rfl)
    rw[se es1 t2 hd]at y;exact y
   have sb:=hZ s.heap a (Obj.putSet es1 t2)
   split
   ·have rp:=relayAll_perm t2 es1 (SetTable.grown es1.size)
    have rf:=relayAll_fits t2 es1 (SetTable.grown es1.size)
    have rm:=x9 t2 es1 (SetTable.grown es1.size)
    generalize relayAll t2 es1 (SetTable.grown es1.size)=R at rp rf rm ⊢
    obtain⟨es2,t3,gv2⟩:=R
    dsimp only at rp rf rm ⊢
    have sz2:es2.size=es1.size:=by have:=rp.length_eq;simpa using this
    refine af (gw _ (af (wpAny_storeSet_of g1 rfl (ay (ay ?_)) (fits_of_scanBound (by omega)))))
    have g2:((s.heap.update a (Obj.putSet es1 t2)).update a (Obj.putSet es2 t3)).get? a=some { o with data:=.set es2 (ep+1+1) t3 }:=by
     have y:=dw (Obj.putSet es2 t3) g1 (by rw[se es2 t3 rfl];rfl)
     rw[se es2 t3 rfl]at y;exact y
    refine q' true _ (sb.trans (hZ _ a _)) ⟨_,es2,_,t3,g2,v5,rfl,el1.perm rp,?_,by omega,rf,?_⟩
    ·exact(rp.map fun e:Int×Value=>strOf e.2).trans p1
    ·exact⟨⟨by rw[rm.1,l2];exact H_.1,.inr (rm.2 n2)⟩,fun y u hy=>ta1 y u ((rp.map _).mem_iff.mp hy)⟩
   ·exact ay (ay (q' true _ sb ⟨_,es1,_,t2,g1,v5,rfl,el1,p1,b1,f2,to2,ta1⟩))
  by_cases jG:t1.plain=true
  ·rw[aE jG,hashByValue_scannable 8 hsc]
   refine af (ay ?_)
   exact hV { t1 with plain:=false } (SetTable.fits_plain_off lf) lm.1 rfl
  ·rw[aN jG]
   refine af (ay ?_)
   exact hV t1 lf lm.1 (by simpa using jG)
end
section
variable{prog:Program}{w:World}{A:Around}{R:Result->Shared->Prop}{I:Addr}{fp wr:List Addr}{n:Nat}{P:Nat->Value->Prop}{St:Nat->Heap->Prop}
def Ka(prog:Program)(w:World)(m:Nat)(val:Nat->Str)(h:Heap)(a:Addr)(i:Nat):Prop:=∃ks,tR prog w m h a ks/\ks.Nodup/\(∀x,x∈ks↔∃j,j<i/\val j=x)/\ks.length<=i
theorem Ex(W:Walks prog w A.in1 I fp wr n P St)(S:Addr)(TK:S∉fp)(val:Nat->Str)(zy:∀i v,P i v->∃t,v=.str (val i) t)(hb:n+1<scanBound){n0:Nat}
  (zx:∀i (s:Shared) (Q:Option Value->Shared->Prop) (E:Value->Shared->Prop),n0<=s.toks->i<n->St i s.heap ->
   (∀v h' tk,s.toks<=tk->ig tk [v]->P i v->St (i+1) h'->(∀b o,b∉wr->s.heap.get? b=some o->h'.get? b=some o)->Q (some v) { s with heap:=h',toks:=tk })->wpAny (model prog w) A.in1 (pyNext (.ref I)) Q E s) :
  ∀(k i:Nat) (s:Shared),n-i=k->i<=n->n0<=s.toks->St i s.heap->Ka prog w s.toks val s.heap S i ->
   (∀g tk,s.toks<=tk->Ka prog w tk val g S n->(∀b o,b≠S->b∉wr->s.heap.get? b=some o->g.get? b=some o)->R (.ok (.ret .none)) { s with heap:=g,toks:=tk }) ->
   codeAny (model prog w) A (.builtin "set.update.loop" ⟨[.ref S,.ref I],[]⟩) R s:=by
 have hSw:S∉wr:=fun h=>TK (W.sub _ h)
 intro k
 induction k with
 |zero=>
  intro i s hk hi hn0 st hM hR
  obtain rfl:i=n:=by omega
  refine cT h9 ?_
  rw[cI eW _]
  show wpAny _ A.in1 (pyNext (.ref I) >>= _) _ _ s
  refine af (up (W.done s _ _ st fun g tk kp hW=>ay (hR g tk hW ?_ fun b o _ hb e=>kp b o hb e)))
  obtain⟨ks,z,r⟩:=hM
  exact⟨ks,(z.keep fun o e=>kp S o hSw e).up hW,r⟩
 |succ k ih=>
  intro i s hk hi hn0 st hM hR
  have hlt:i<n:=by omega
  refine cT h9 ?_
  rw[cI eW _]
  show wpAny _ A.in1 (pyNext (.ref I) >>= _) _ _ s
  refine af (zx i s _ _ hn0 hlt st fun v g tk hW hta hP bf kp=>?_)
  obtain⟨t,rfl⟩:=zy i v hP
  obtain⟨ks,z,nd,mem,len⟩:=hM
  have z':tR prog w (tk+1) g S ks:=(z.keep fun o e=>kp S o hSw e).up (gH hW)
  refine af (db ?_)
  unfold setAdd
  refine db (af ((PySem.strKind prog w).pyHash (k:=val i) (show Value.isStrOf (val i) (.str (val i) t)=true by unfold Value.isStrOf;simp) ?_))
  refine IR (s:={ s with heap:=g,toks:=tk+1 }) z' (fun h1=>⟨(hta _ t (by simp) h1).1,cP (hta _ t (by simp) h1).2⟩) (by omega) fun _ g2 sb z2=>?_
  refine ay ⟨eF eW _,ih (i+1) _ (by omega) hlt (aF hn0 (gH hW)) (W.frame _ _ _ bf fun b hb o e=>?_) ?_ fun g3 tk3 hle3 hM3 kp3=>?_⟩
  ·rw[sb.2 b (fun h:b=S=>TK (by rw[<- h];exact hb))];exact e
  ·refine⟨_,z2,?_,fun x=>?_,?_⟩
   ·by_cases hx:val i∈ks
    ·rw[aE hx];exact nd
    ·rw[aN hx];exact List.nodup_append.mpr ⟨nd,by simp,fun a ha b hb=>by rw[aV]at hb;subst hb;exact fun e=>hx (e▸ha)⟩
   ·by_cases hx:val i∈ks
    ·rw[aE hx,mem x]
     constructor
     ·rintro⟨j,hj,e⟩;exact⟨j,by omega,e⟩
     ·rintro⟨j,hj,e⟩
      by_cases hji:j=i
      ·subst hji;subst e;exact(mem _).mp hx
      ·exact⟨j,by omega,e⟩
    ·rw[aN hx,bj,mem x,aV]
     constructor
     ·rintro(⟨j,hj,e⟩|e)
      ·exact⟨j,by omega,e⟩
      ·exact⟨i,by omega,e.symm⟩
     ·rintro⟨j,hj,e⟩
      by_cases hji:j=i
      ·subst hji;exact .inr e.symm
      ·exact .inl ⟨j,by omega,e⟩
   ·by_cases hx:val i∈ks
    ·rw[aE hx];omega
    ·rw[aN hx,bC,nA];omega
  ·exact hR g3 tk3 (aF (gH hW) hle3) hM3 fun b o hb hw e=>kp3 b o hb hw ((sb.2 b hb).trans (kp b o hw e))
end
section
variable{prog:Program}{w:World}{A:Around}{E:Value->Shared->Prop}{s:Shared}
abbrev dH(w:World):Obj:={ cls:=.type "set",dict:=none,data:=.set #[] 0 (.fresh 0 0 (!sT w)) }
theorem ya(a:Value){Q₁:Value->Shared->Prop}(h:Q₁ (.ref s.heap.objs.size) { s with heap:=s.heap.push (dH w) }) :
  codeAny (model prog w) A (.call (.builtin "set.__new__") ⟨[.type "set",a],[]⟩) (wants Q₁ E) s:=by
 refine nh ?_
 show wpAny _ A.in1 (do checkBuiltinCall "set.__new__" ⟨[.type "set",a],[]⟩;again (.builtin "set.__new__" ⟨[.type "set",a],[]⟩)) _ _ s
 refine af (oz (PySem.F.newCall_set_1 a) (ay ⟨eF PySem.F.plain_set_new _,cT PySem.F.entry_set_new ?_⟩))
 rw[cI PySem.F.plain_set_new _]
 unfold Builtin.«set.__new__» Builtin.Frozenset.newClass
 have sb:=sub_set_self
 obtain⟨hp,g,d,tk,os⟩:=s
 dsimp only
 wp_walk
 refine mf (ay ?_)
 dsimp only
 simp only[newObj]
 exact af (wpAny_alloc (ay (ay h)))
set_option maxHeartbeats 8000000 in
theorem lG{v:Value}{T:String}{RE:Obj}{fp:Addr->List Addr}{n:Nat}{P:Nat->Value->Prop}{St:Addr->Nat->Heap->Prop}{val:Nat->Str}{Q:Value->Shared->Prop}(hT:Shared.TypeIs { s with heap:=s.heap.push (dH w) } v T)
  (n1:isSubtype (.type T) (.type "set")=pure false) (n2:isSubtype (.type T) (.type "frozenset")=pure false) (n3:(Value.type T==Value.type "dict")=false)
  (og:∀(A:Around) (E:Value->Shared->Prop) (Q:Value->Shared->Prop),Q (.ref (s.heap.objs.size+1)) { s with heap:=(s.heap.push (dH w)).push RE }->wpAny (model prog w) A (pyIter v) Q E { s with heap:=s.heap.push (dH w) })
  (W:∀(A:Around) (it:Addr),A.handled=none->it=s.heap.objs.size+1->Walks prog w A it (fp it) [it] n P (St it)) (Ra:s.heap.objs.size∉fp (s.heap.objs.size+1)) (st:St (s.heap.objs.size+1) 0 ((s.heap.push (dH w)).push RE)) (zy:∀i v,P i v->∃t,v=.str (val i) t)
  (hh:A.handled=none) (hb:n+1<scanBound)
  (zx:∀(A:Around),A.handled=none->∀i (s':Shared) (Q:Option Value->Shared->Prop) (E:Value->Shared->Prop),s.toks<=s'.toks->i<n->St (s.heap.objs.size+1) i s'.heap ->
   (∀v h' tk,s'.toks<=tk->ig tk [v]->P i v->St (s.heap.objs.size+1) (i+1) h'->(∀b o,b∉[s.heap.objs.size+1]->s'.heap.get? b=some o->h'.get? b=some o)->Q (some v) { s' with heap:=h',toks:=tk })->wpAny (model prog w) A (pyNext (.ref (s.heap.objs.size+1))) Q E s')
  (q:∀g tk,s.toks<=tk->Ka prog w tk val g s.heap.objs.size n->(∀b o,s.heap.get? b=some o->g.get? b=some o)->Q (.ref s.heap.objs.size) { s with heap:=g,toks:=tk }) :
  wpAny (model prog w) A (call (.type "set") [v]) Q E s:=by
 obtain⟨c,tl,hmro⟩:=PySem.F.called_set.mro
 have hmade:=PySem.F.called_set.made
 have hsub:=PySem.F.called_set.sub
 refine wpAny_call (nh ?_)
 show wpAny _ _ (callAny (.type "set") _) _ _ _
 refine ay ⟨Code.quiet_builtin _ (by decide +kernel),cT PySem.F.entry_type_call ?_⟩
 rw[Around.under_plain (weight_type_call_type "set" [v] []) rfl]
 have h1:=PySem.F.called_set.notType
 have h2:=PySem.F.called_set.canCreate
 have hct:=PySem.F.typeCall_set_1 v
 repeat(any_goals (first|assumption|wp_step))
 refine jb (ya v (E:=E) (Q₁:=fun obj s₁=>obj=.ref s.heap.objs.size/\s₁={ s with heap:=s.heap.push (dH w) }) ⟨rfl,rfl⟩) fun r s₁ hr=>?_
 cases r with
 |error e=>exact hr
 |ok fl=>
  cases fl with
  |ret obj=>
   obtain⟨rfl,rfl⟩:=hr
   have gS:(s.heap.push (dH w)).get? s.heap.objs.size=some (dH w):=aI _ rfl
   have tS:Shared.TypeIs { s with heap:=s.heap.push (dH w) } (.ref s.heap.objs.size) "set":=⟨_,gS,rfl⟩
   have hli:=PySem.F.called_set.init.lookup
   have hbi:=PySem.F.called_set.init.bind (.ref s.heap.objs.size)
   repeat(any_goals (first|assumption|wp_step))
   refine jb (jJ (R:=wants (fun r s₂=>r=.none/\∃g tk,s₂={ s with heap:=g,toks:=tk }/\s.toks<=tk/\Ka prog w tk val g s.heap.objs.size n/\(∀b o,s.heap.get? b=some o->g.get? b=some o)) E) PySem.F.called_set.init.plain PySem.F.entry_set_init (check_set_init_1 tS ?_)) fun r₂ s₂ hr₂=>?_
   ·unfold Builtin.«set.__init__» noKeywords Builtin.Frozenset.updateFrom
    generalize hPI:pyIter=PI
    wp_walk
    subst hPI
    refine og _ _ _ (af (oB ?_))
    have g0:((s.heap.push (dH w)).push RE).get? s.heap.objs.size=some (dH w):=ar _ gS
    have m0:Ka prog w s.toks val ((s.heap.push (dH w)).push RE) s.heap.objs.size 0:=⟨[],⟨_,#[],0,_,g0,⟨rfl,rfl,rfl⟩,rfl,fun e he=>by simp at he,by simp,by unfold scanBound;decide,rfl,?_⟩,List.nodup_nil,fun x=>by simp,aw _⟩
    ·refine Ex (W _ _ (by simpa using hh) rfl) s.heap.objs.size Ra val zy hb (n0:=s.toks) (zx _ (by simpa using hh)) (n-0) 0 _ rfl (bQ _) (aw _) st m0 fun g tk hW hM kp=>?_
     refine ay (ay ⟨rfl,g,tk,rfl,hW,hM,fun b o e=>kp b o (aZ (aK e)) (fun hbm=>?_) (ar _ (ar _ e))⟩)
     rw[aV]at hbm
     exact absurd (aK e) (by rw[hbm];exact iT.mpr (bi _))
    ·refine⟨⟨?_,.inl rfl⟩,fun x t hx=>by simp at hx⟩
     show sT w=true\/(!sT w)=true
     cases sT w<;>simp
   ·cases r₂ with
    |error e=>exact hr₂
    |ok fl₂=>
     cases fl₂ with
     |ret r=>
      obtain⟨rfl,g,tk,rfl,hW,hM,kp⟩:=hr₂
      repeat(any_goals (first|assumption|wp_step))
      exact q g tk hW hM kp
     |_=>exact hr₂.elim
  |_=>exact hr.elim
end
theorem pR{α:Type}:∀{l:List α} {i:Nat} (h:i<l.length),(l[i]::l.eraseIdx i).Perm l
 |x::r,0,_=>gP _
 |x::r,i+1,h=>(List.Perm.swap x (r[i]'(by simpa using h)) (r.eraseIdx i)).trans ((pR (l:=r) (i:=i) (by simpa using h)).cons x)
section
variable{M:Model}{A:Around}{E:Value->Shared->Prop}
theorem uY{s:Shared}{T6:Source}{n:Nat}{Q:Nat->Shared->Prop}(hn:n≠0)(h:∀i,i<n->∀d,Q i { s with drawn:=d }):wpAny M A (choose T6 n) Q E s:=fun _ _ _=>⟨hn,h _ (Nat.mod_lt _ (Nat.pos_of_ne_zero hn)) _⟩
theorem yb{α:Type}:∀(n:Nat) (xs:List α) (s:Shared) (Q:List α->Shared->Prop),xs.length=n->(∀ys,ys.Perm xs->∀d,Q ys { s with drawn:=d })->wpAny M A (drawOrder n xs) Q E s
 |0,xs,s,Q,hl,h=>by
  have e:xs=[]:=gg hl
  subst e
  unfold drawOrder
  exact ay (h [] (gP _) s.drawn)
 |n+1,[],s,Q,hl,h=>by simp at hl
 |n+1,x::r,s,Q,hl,h=>by
  unfold drawOrder
  refine af (uY (by simp) fun i hi d=>?_)
  have e:(x::r)[i]?=some (x::r)[i]:=aq hi
  rw[e]
  dsimp only
  refine af (yb n ((x::r).eraseIdx i) _ _ (by rw[List.length_eraseIdx,aE hi];simp at hl ⊢;omega) fun ys hp d'=>ay (h _ ?_ d'))
  exact(List.Perm.cons _ hp).trans (pR hi)
theorem BP{α:Type}(next:Nat->Nat):∀(J0 k:Nat) (z5:List α) (out:Array α),z5.length=J0->(pickOrder.go next J0 k z5 out).toList.Perm (out.toList++z5)
 |0,k,z5,out,h=>by
  have e:z5=[]:=gg h
  subst e
  unfold pickOrder.go
  simp
 |J0+1,k,z5,out,h=>by
  have hlt:next k%z5.length<z5.length:=Nat.mod_lt _ (by omega)
  unfold pickOrder.go
  rw[aq hlt]
  dsimp only
  refine(BP next J0 (k+1) _ _ (by rw[List.length_eraseIdx,aE hlt];omega)).trans ?_
  rw[lu,bb]
  exact List.Perm.append_left _ (pR hlt)
theorem Dh{α:Type}(next:Nat->Nat)(xs:Array α):(pickOrder next xs).toList.Perm xs.toList:=by
 unfold pickOrder
 have:=BP next xs.size 0 xs.toList #[] (by simp)
 simpa using this
end
abbrev pk(f:Value)(i:Int)(S:Addr)(n ep:Nat):Obj:={ cls:=.type "set_iterator",dict:=none,data:=.fields #[f,rawInt i,.ref S,rawInt n,rawInt ep],slots:=#[] }
section
variable{prog:Program}{w:World}{A:Around}{E:Value->Shared->Prop}{s:Shared}
theorem tU{Q:Fin->Shared->Prop}(hh:A.handled=none)(q:∀g e,(∀b o,s.heap.get? b=some o->g.get? b=some o)->(∃o,g.get? e=some o/\o.cls=.type "StopIteration")->E (.ref e) { s with heap:=g }) :
  wpAny (model prog w) A (do let x <- newExc (.type "StopIteration") [];raiseNew x) Q E s:=by
 refine af ?_
 simp only[newExc,newTuple]
 refine af (ce (af (m:=firstArgMember _ _) (oz (a:=Value.none) (by first|rfl|(simp only[firstArgMember];rfl)) (ce ?_ (by size_fits)))) (by size_fits))
 simp only[raiseNew]
 refine af (wpAny_handled ?_)
 rw[hh]
 exact af (ay (wpAny_throw (q _ _ (fun b o e=>ar _ (ar _ e)) ⟨_,aI _ rfl,rfl⟩)))
structure jh(w:World)(h:Heap)(S:Addr)(es:Array (Int×Value))(ep:Nat)(t:SetTable):Prop where
 ex:∃o,h.get? S=some o/\o.ExactSet/\o.data=.set es ep t
 fits:t.fits es.size=true
theorem jh.keep{h h':Heap}{S:Addr}{es:Array (Int×Value)}{ep:Nat}{t:SetTable}(z:jh w h S es ep t)(k:∀o,h.get? S=some o->h'.get? S=some o):jh w h' S es ep t:=⟨let ⟨o,ho,r⟩:=z.ex;⟨o,k o ho,r⟩,z.fits⟩
theorem Di{it S p:Addr}{i n ep k:Nat}{es:Array (Int×Value)}{t:SetTable}{pv:Array Value}{pn:Nat}{x:Int×Value}{Q:Option Value->Shared->Prop}(og:s.heap.get? it=some (pk (.ref p) i S n ep))(hS:jh w s.heap S es ep t)(hn:es.size=n)
  (hp:∃o,s.heap.get? p=some o/\o.cls=.type "tuple"/\o.data=.seq pv pn) (hk:pv[i]?=some (rawInt k)) (hx:es[k]?=some x)
  (q:∀g,g.get? it=some (pk (.ref p) ((i:Int)+1) S n ep)->Heap.SameBut it s.heap g->Q (some x.2) { s with heap:=g }):wpAny (model prog w) A (pyNext (.ref it)) Q E s:=by
 obtain⟨o,ho,v5,hd⟩:=hS.ex
 obtain⟨op,hop,hcp,hdp⟩:=hp
 have T:Shared.TypeIs s (.ref it) "set_iterator":=⟨_,og,rfl⟩
 unfold pyNext
 refine af (jE (cr (name:=Str.ofString "__next__") T eM (cC eM T kZ ?_ (k6 _))))
 show wpAny _ _ (fieldsOf (.ref it) >>= _) _ _ s
 refine af (kM og rfl ?_)
 dsimp only
 refine af (fV ho hd hS.fits ?_)
 rw[aN (by rw[hn];simp)]
 refine af (kL hop hdp ?_)
 simp only[bw,hk]
 unfold setNextDrawn
 refine af (af (fL ho hd hS.fits ?_))
 dsimp only
 rw[aN (by simp),bw,hx]
 refine ay (af (fy og (by simp) fun g e1 e2=>ay ⟨_,rfl,ay (q g (by simpa using e1) e2)⟩))
theorem uZ{it S p:Addr}{i n ep:Nat}{es:Array (Int×Value)}{t:SetTable}{pv:Array Value}{pn:Nat}{Q:Option Value->Shared->Prop}(hh:A.handled=none)(og:s.heap.get? it=some (pk (.ref p) i S n ep))(hS:jh w s.heap S es ep t)(hn:es.size=n)
  (hp:∃o,s.heap.get? p=some o/\o.cls=.type "tuple"/\o.data=.seq pv pn) (hk:pv[i]?=none)
  (q:∀g,(∀b o,b≠it->s.heap.get? b=some o->g.get? b=some o)->Q none { s with heap:=g }):wpAny (model prog w) A (pyNext (.ref it)) Q E s:=by
 obtain⟨o,ho,v5,hd⟩:=hS.ex
 obtain⟨op,hop,hcp,hdp⟩:=hp
 have T:Shared.TypeIs s (.ref it) "set_iterator":=⟨_,og,rfl⟩
 unfold pyNext
 refine af (jE (cr (name:=Str.ofString "__next__") T eM (cC eM T kZ ?_ (k6 _))))
 show wpAny _ _ (fieldsOf (.ref it) >>= _) _ _ s
 refine af (kM og rfl ?_)
 dsimp only
 refine af (fV ho hd hS.fits ?_)
 rw[aN (by rw[hn];simp)]
 refine af (kL hop hdp ?_)
 simp only[bw,hk]
 refine af (fy og (by simp) fun g e1 e2=>af (fy e1 (by simp) fun g2 e3 e4=>tU (s:={ s with heap:=g2 }) (show A.in1.handled=none from hh) fun g3 e kp hx=>?_))
 obtain⟨ox,hox,hcx⟩:=hx
 refine af (f_ (T:="StopIteration") (b:=true) ⟨ox,hox,hcx⟩ oA (ay (q g3 fun b o hb e=>kp b o ?_)))
 exact e4.extBut b o hb (e2.extBut b o hb e)
theorem Ey{it S:Addr}{i n ep sl sl':Nat}{es:Array (Int×Value)}{t:SetTable}{x:Value}{Q:Option Value->Shared->Prop}(og:s.heap.get? it=some (pk (rawInt sl) i S n ep))(hS:jh w s.heap S es ep t)(hn:es.size=n)
  (hx:∀(Q':Option (Value×Nat)->Shared->Prop) (E':Value->Shared->Prop),Q' (some (x,sl')) s->wpAny (model prog w) A.in1 (setNext S sl i ep) Q' E' s)
  (q:∀g,g.get? it=some (pk (rawInt sl') ((i:Int)+1) S n ep)->Heap.SameBut it s.heap g->Q (some x) { s with heap:=g }):wpAny (model prog w) A (pyNext (.ref it)) Q E s:=by
 obtain⟨o,ho,v5,hd⟩:=hS.ex
 have T:Shared.TypeIs s (.ref it) "set_iterator":=⟨_,og,rfl⟩
 unfold pyNext
 refine af (jE (cr (name:=Str.ofString "__next__") T eM (cC eM T kZ ?_ (k6 _))))
 show wpAny _ _ (fieldsOf (.ref it) >>= _) _ _ s
 refine af (kM og rfl ?_)
 dsimp only
 refine af (fV ho hd hS.fits ?_)
 rw[aN (by rw[hn];simp)]
 show wpAny _ _ (setNext S (sl:Int).toNat (i:Int).toNat (ep:Int).toNat >>= _) _ _ s
 simp only[bw]
 refine af (hx _ _ ?_)
 dsimp only
 refine af (fy og (by simp) fun g e1 e2=>af (fy e1 (by simp) fun g2 e3 e4=>ay ⟨_,rfl,ay (q g2 (by simpa using e3) (e2.trans e4))⟩))
theorem wC{it S:Addr}{i n ep sl:Nat}{es:Array (Int×Value)}{t:SetTable}{Q:Option Value->Shared->Prop}(hh:A.handled=none)(og:s.heap.get? it=some (pk (rawInt sl) i S n ep))(hS:jh w s.heap S es ep t)(hn:es.size=n)
  (hx:∀(Q':Option (Value×Nat)->Shared->Prop) (E':Value->Shared->Prop),Q' none s->wpAny (model prog w) A.in1 (setNext S sl i ep) Q' E' s)
  (q:∀g,(∀b o,b≠it->s.heap.get? b=some o->g.get? b=some o)->Q none { s with heap:=g }):wpAny (model prog w) A (pyNext (.ref it)) Q E s:=by
 obtain⟨o,ho,v5,hd⟩:=hS.ex
 have T:Shared.TypeIs s (.ref it) "set_iterator":=⟨_,og,rfl⟩
 unfold pyNext
 refine af (jE (cr (name:=Str.ofString "__next__") T eM (cC eM T kZ ?_ (k6 _))))
 show wpAny _ _ (fieldsOf (.ref it) >>= _) _ _ s
 refine af (kM og rfl ?_)
 dsimp only
 refine af (fV ho hd hS.fits ?_)
 rw[aN (by rw[hn];simp)]
 show wpAny _ _ (setNext S (sl:Int).toNat (i:Int).toNat (ep:Int).toNat >>= _) _ _ s
 simp only[bw]
 refine af (hx _ _ ?_)
 dsimp only
 refine af (fy og (by simp) fun g e1 e2=>tU (s:={ s with heap:=g }) (show A.in1.handled=none from hh) fun g3 e kp hx=>?_)
 obtain⟨ox,hox,hcx⟩:=hx
 exact af (f_ (T:="StopIteration") (b:=true) ⟨ox,hox,hcx⟩ oA (ay (q g3 fun b o hb e=>kp b o (e2.extBut b o hb e))))
end
theorem su:Slot "set_iterator" "__iter__" "set_iterator.__iter__":=.of (owner:="set_iterator") (n:="__iter__") (by rw[ng,jp];kernel_rfl) (by decide +kernel) (by decide +kernel) (by decide +kernel) (by first|exact .inl (by decide +kernel)|exact .inr (by decide +kernel)) (by rw[dz];kernel_rfl)
theorem yc(a:Value):argsOk "set_iterator.__iter__" ⟨[a],[]⟩:=by unfold argsOk;kernel_rfl
theorem yd:entryFor table "set_iterator.__iter__"=some Builtin.«dict_keyiterator.__iter__»:=entryFor_alias (id':="dict_keyiterator.__iter__") (by kernel_rfl) (by first|rfl|decide +kernel|(unfold String.splitOn;simp +decide [String.splitOnAux])) (by decide +kernel) (by kernel_rfl)
section
variable{prog:Program}{w:World}{A:Around}{E:Value->Shared->Prop}{s:Shared}
theorem ye{it S:Addr}{f:Value}{i:Int}{n ep:Nat}{Q:Value->Shared->Prop}(og:s.heap.get? it=some (pk f i S n ep))(q:Q (.ref it) s):wpAny (model prog w) A (pyIter (.ref it)) Q E s:=by
 have T:Shared.TypeIs s (.ref it) "set_iterator":=⟨_,og,rfl⟩
 exact wpAny_pyIter_slot T su (cC su T yd (ay ⟨_,rfl,"set_iterator",_,T,eM.lookup,q⟩) (yc _))
theorem As(hh:A.handled=none){it S p:Addr}{n ep:Nat}{es:Array (Int×Value)}{t:SetTable}{pl:List Nat}(jG:pl.Perm (List.range n))(hn:es.size=n)(h1:it≠S)(h2:it≠p) :
  Walks prog w A it [it,p,S] [it] n (fun i v=>∃k x,pl[i]?=some k/\es[k]?=some x/\v=x.2) (fun i h=>i<=n/\h.get? it=some (pk (.ref p) i S n ep)/\(∃o,h.get? p=some o/\o.cls=.type "tuple"/\∃e,o.data=.seq (pl.map fun k:Nat=>rawInt k).toArray e)/\jh w h S es ep t) where
 sub:=fun b hb=>by simp at hb;simp[hb]
 frame:=fun i h h' st k=>⟨st.1,k it (by simp) _ st.2.1,(let ⟨o,ho,r⟩:=st.2.2.1;⟨o,k p (by simp) o ho,r⟩),st.2.2.2.keep fun o ho=>k S (by simp) o ho⟩
 item:=fun i s Q E hi st q=>by
  obtain⟨_,og,⟨op,hop,hcp,e,hdp⟩,hS⟩:=st
  have hl:pl.length=n:=by have:=jG.length_eq;simpa using this
  have hk:pl[i]?=some pl[i]:=aq (by omega)
  have hkn:pl[i]<es.size:=by rw[hn];exact eP.mp (jG.mem_iff.mp (dm (by omega)))
  refine Di og hS hn ⟨op,hop,hcp,hdp⟩ (k:=pl[i]) (x:=es[pl[i]]) (by simp[hk]) (by simp[hkn]) fun g a b=>q _ g s.toks ⟨pl[i],es[pl[i]],hk,by simp[hkn],rfl⟩ ⟨hi,?_,⟨op,b.extBut p op (Ne.symm h2) hop,hcp,e,hdp⟩,hS.keep fun o ho=>b.extBut S o (Ne.symm h1) ho⟩ fun c o hc ho=>b.extBut c o (fun z=>hc (by simp[z])) ho
  rw[a];rfl
 done:=fun s Q E st q=>by
  obtain⟨_,og,⟨op,hop,hcp,e,hdp⟩,hS⟩:=st
  have hl:pl.length=n:=by have:=jG.length_eq;simpa using this
  exact uZ hh og hS hn ⟨op,hop,hcp,hdp⟩ (by simp[hl]) fun g kp=>q g s.toks fun c o hc ho=>kp c o (fun z=>hc (by simp[z])) ho
 self:=fun i s Q E st q=>ye st.2.1 q
theorem Dj(hh:A.handled=none){it S:Addr}{n ep:Nat}{es:Array (Int×Value)}{t:SetTable}{vs:List Value}{sl:Nat->Nat}(hv:vs.length=n)(hn:es.size=n)(h1:it≠S)
  (hx:∀(s:Shared) (i:Nat),jh w s.heap S es ep t->i<=n->∀(A:Around) (Q':Option (Value×Nat)->Shared->Prop) (E':Value->Shared->Prop),Q' ((vs[i]?).map fun v=>(v,sl (i+1))) s->wpAny (model prog w) A (setNext S (sl i) i ep) Q' E' s) :
  Walks prog w A it [it,S] [it] n (fun i v=>vs[i]?=some v) (fun i h=>i<=n/\h.get? it=some (pk (rawInt (sl i)) i S n ep)/\jh w h S es ep t) where
 sub:=fun b hb=>by simp at hb;simp[hb]
 frame:=fun i h h' st k=>⟨st.1,k it (by simp) _ st.2.1,st.2.2.keep fun o ho=>k S (by simp) o ho⟩
 item:=fun i s Q E hi st q=>by
  obtain⟨_,og,hS⟩:=st
  have hk:vs[i]?=some vs[i]:=aq (by omega)
  refine Ey (x:=vs[i]) (sl':=sl (i+1)) og hS hn (fun Q' E' y=>hx s i hS (fI hi) _ Q' E' (by rw[hk];exact y)) fun g a b=>q _ g s.toks hk ⟨hi,?_,hS.keep fun o ho=>b.extBut S o (Ne.symm h1) ho⟩ fun c o hc ho=>b.extBut c o (fun z=>hc (by simp[z])) ho
  rw[a];rfl
 done:=fun s Q E st q=>by
  obtain⟨_,og,hS⟩:=st
  have hk:vs[n]?=none:=bn (by omega)
  exact wC hh og hS hn (fun Q' E' y=>hx s n hS (aw _) _ Q' E' (by rw[hk];exact y)) fun g kp=>q g s.toks fun c o hc ho=>kp c o (fun z=>hc (by simp[z])) ho
 self:=fun i s Q E st q=>ye st.2.1 q
end
section
variable{prog:Program}{w:World}{A:Around}{E:Value->Shared->Prop}{s:Shared}
theorem oH{Q:Bool->Shared->Prop}(q:Q (sT w) s):wpAny (model prog w) A setsByText Q E s:=by
 unfold setsByText
 exact af (mf (ay q))
theorem Dk{S:Addr}{es:Array (Int×Value)}{ep:Nat}{t:SetTable}{i:Nat}{Q:Option (Value×Nat)->Shared->Prop}(hb:sT w=true)(hS:jh w s.heap S es ep t)
  (q:Q ((((pickOrder (w.params.setOrder S ep) es).toList.map (·.2))[i]?).map fun v=>(v,0)) s):wpAny (model prog w) A (setNext S 0 i ep) Q E s:=by
 obtain⟨o,ho,v5,hd⟩:=hS.ex
 unfold setNext
 refine af (fL ho hd hS.fits ?_)
 dsimp only
 refine af (oH ?_)
 rw[hb,aE rfl,aN (by simp)]
 unfold setWalk
 refine af (af (fL ho hd hS.fits ?_))
 dsimp only
 refine af (oH ?_)
 rw[hb,aE rfl]
 refine af (mf (ay (ay ?_)))
 have e:((pickOrder (w.params.setOrder S ep) es)[i]?).map (fun e=>(e.2,0))=(((pickOrder (w.params.setOrder S ep) es).toList.map (·.2))[i]?).map fun v=>(v,0):=by
  rw[aG,fA,Option.map_map];rfl
 show Q (((pickOrder (w.params.setOrder S ep) es)[i]?).map fun e=>(e.2,0)) s
 rw[e];exact q
theorem vp(p:Nat):SetTable.below #[p] 0=0/\SetTable.below #[p] (p+1)=1:=by
 unfold SetTable.below
 constructor
 ·simp[SetTable.below.go]
 ·simp[SetTable.below.go]
theorem Ez{S:Addr}{es:Array (Int×Value)}{ep:Nat}{t:SetTable}{i:Nat}{Q:Option (Value×Nat)->Shared->Prop}(hb:sT w=false)(hS:jh w s.heap S es ep t)(N5:t.led=true)(h1:es.size<=1)(hi:i<=es.size)
  (q:Q (((es.toList.map (·.2))[i]?).map fun v=>(v,if i+1=0 then 0 else t.place.getD 0 0+1)) s):wpAny (model prog w) A (setNext S (if i=0 then 0 else t.place.getD 0 0+1) i ep) Q E s:=by
 obtain⟨o,ho,v5,hd⟩:=hS.ex
 have hf:=hS.fits
 have hps:t.place.size=es.size:=by
  unfold SetTable.fits at hf
  simp only[cD,eD]at hf
  exact hf.1
 unfold setNext
 refine af (fL ho hd hS.fits ?_)
 dsimp only
 refine af (oH ?_)
 rw[hb,aN d_]
 show wpAny _ _ (if (!t.plain&&decide (es.size>1))=true then _ else _) _ _ _
 rw[aN (by simp;omega)]
 show wpAny _ _ ((if (!t.led&&!es.isEmpty)=true then _ else pure ()) >>= _) _ _ _
 rw[aN (by simp[N5])]
 refine af (ay (ay ?_))
 by_cases hz:es.size=0
 ·have e1:es=#[]:=f9 hz
  subst e1
  simpa using q
 ·have hs1:es.size=1:=by omega
  obtain⟨x,rfl⟩:∃x,es=#[x]:=by
   obtain⟨l⟩:=es
   obtain⟨x,e⟩:=eZ.mp hs1
   exact⟨x,ir Array.mk e⟩
  obtain⟨p,hp⟩:∃p,t.place=#[p]:=by
   generalize t.place=pl at hps
   obtain⟨l⟩:=pl
   obtain⟨x,e⟩:=eZ.mp hps
   exact⟨x,ir Array.mk e⟩
  rw[hp]at q ⊢
  rcases(show i=0\/i=1 by simp at hi;omega)with rfl|rfl
  ·simp[vp]at q ⊢;exact q
  ·simp[vp]at q ⊢;exact q
end
theorem wD{α β:Type}[Inhabited β](f:Nat->β)(xs:List α)(g:α->β)(n:Nat)(hn:xs.length=n)(hf:∀i x,xs[i]?=some x->f i=g x):(List.range n).map f=xs.map g:=by
 apply fM
 intro i
 rw[aG,aG]
 by_cases h:i<n
 ·rw[cV h,aq (by omega)]
  exact ir some (hf i _ (aq (by omega)))
 ·rw[bn (by simp;omega),bn (by omega)];rfl
section
variable{prog:Program}{w:World}{A:Around}{E:Value->Shared->Prop}{s:Shared}
theorem EA{S:Addr}{es:Array (Int×Value)}{ep:Nat}{t:SetTable}{Q:Value->Shared->Prop}(hS:jh w s.heap S es ep t)(H_:BO w es.size t)(hsz:es.size<=sizeLine)
  (q:∀(g:Heap) (d:Drawn) (it:Addr) (fp:List Addr) (P:Nat->Value->Prop) (St:Nat->Heap->Prop),(∀A:Around,A.handled=none->Walks prog w A it fp [it] es.size P St)->St 0 g->s.heap.objs.size<=it->(∀b∈fp,b=S\/s.heap.objs.size<=b)->(∀b∈fp,b<g.objs.size)->(∀b o,s.heap.get? b=some o->g.get? b=some o) ->
   (∀gG,ItemsOf P gG es.size->gG.toList.Perm (es.toList.map (·.2)))->Q (.ref it) { s with heap:=g,drawn:=d }):wpAny (model prog w) A (pyIter (.ref S)) Q E s:=by
 obtain⟨o,ho,v5,hd⟩:=hS.ex
 have T:Shared.TypeIs s (.ref S) "set":=⟨o,ho,v5.1⟩
 have hSlt:=aK ho
 refine wpAny_pyIter_slot T PySem.F.slot_set_iter (cC PySem.F.slot_set_iter T x8 ?_ (PySem.F.args_set_iter_1 _))
 show wpAny _ _ (Builtin.Frozenset.sizeOf S >>= _) _ _ s
 unfold Builtin.Frozenset.sizeOf
 refine af (af (fV ho hd hS.fits (ay ?_)))
 unfold setDrawn
 refine af (af (fL ho hd hS.fits ?_))
 dsimp only
 refine af (oH (ay ?_))
 by_cases hdr:(!sT w&&(!t.plain&&decide (es.size>1)))=true
 ·show wpAny _ _ (if (!sT w&&(!t.plain&&decide (es.size>1)))=true then _ else _) _ _ _
  rw[aE hdr]
  refine af (yb es.size (List.range es.size) _ _ (by simp) fun pl hp d=>?_)
  have hl:pl.length=es.size:=by have:=hp.length_eq;simpa using this
  refine af (wpAny_newTuple ?_ (by rw[aC,hl];exact hsz))
  have hS1:jh w (s.heap.push { cls:=.type "tuple",data:=.seq (pl.map fun i:Nat=>rawInt i).toArray }) S es ep t:=hS.keep fun o e=>ar _ e
  obtain⟨o1,ho1,_,hd1⟩:=hS1.ex
  refine af (wpAny_setEpoch_of (s:={ s with heap:=s.heap.push { cls:=.type "tuple",data:=.seq (pl.map fun i:Nat=>rawInt i).toArray },drawn:=d }) ho1 hd1 hS.fits ?_)
  refine af (ce (ay ⟨_,rfl,"set_iterator",_,⟨_,aI _ rfl,rfl⟩,eM.lookup,?_⟩))
  have z:(s.heap.push { cls:=.type "tuple",data:=.seq (pl.map fun i:Nat=>rawInt i).toArray }).objs.size=s.heap.objs.size+1:=bZ ..
  refine q _ d _ [_,s.heap.objs.size,S] _ _ (fun A hA=>As (p:=s.heap.objs.size) (t:=t) (ep:=ep) hA hp rfl ?_ ?_) ⟨bQ _,aI _ rfl,⟨_,ar _ (aI _ rfl),rfl,0,rfl⟩,hS1.keep fun o e=>ar _ e⟩ ?_ (fun b hb=>?_) (fun b hb=>?_) (fun b o e=>ar _ (ar _ e)) fun gG hacc=>?_
  ·rw[z];exact eE (cP hSlt)
  ·rw[z];exact Nat.succ_ne_self _
  ·rw[z];exact bi _
  ·simp only[aY,gb,oD]at hb
   rcases hb with rfl|rfl|rfl
   ·rw[z];exact .inr (bi _)
   ·exact .inr (aw _)
   ·exact .inl rfl
  ·simp only[aY,gb,oD]at hb
   have z2:∀o2,((s.heap.push { cls:=.type "tuple",data:=.seq (pl.map fun i:Nat=>rawInt i).toArray }).push o2).objs.size=s.heap.objs.size+2:=fun o2=>by rw[bZ,z]
   rw[z2]
   rcases hb with rfl|rfl|rfl
   ·rw[z];exact cy _
   ·exact cP (cy _)
   ·exact cP (cP hSlt)
  ·have e:gG.toList=pl.map fun k=>(es.getD k (0,.none)).2:=by
    apply fM
    intro i
    rw[aG]
    by_cases hi:i<es.size
    ·have hia:i<gG.size:=by rw[hacc.1];exact hi
     have ha:gG[i]?=some (gG[i]'hia):=dW hia
     obtain⟨k,x,h1,h2,h3⟩:=hacc.2 i _ ha
     rw[fA,ha,h1]
     have:es.getD k (0,.none)=x:=by rw[j_,h2];rfl
     rw[h3]
     show some x.2=some (es.getD k (0,.none)).2
     rw[this]
    ·rw[bn (by rw[dP,hacc.1];omega),bn (by omega)];rfl
   rw[e]
   refine(hp.map _).trans (List.Perm.of_eq ?_)
   exact wD _ es.toList (·.2) es.size (by simp) fun i x hx=>by
    have hx':es[i]?=some x:=by rw[<- fA];exact hx
    rw[j_,hx'];rfl
 ·show wpAny _ _ (if (!sT w&&(!t.plain&&decide (es.size>1)))=true then _ else _) _ _ _
  rw[aN hdr]
  refine af (ay (af (wpAny_setEpoch_of ho hd hS.fits ?_)))
  refine af (ce (ay ⟨_,rfl,"set_iterator",_,⟨_,aI _ rfl,rfl⟩,eM.lookup,?_⟩))
  have hV:∀(vs:List Value) (sl:Nat->Nat),sl 0=0->vs.Perm (es.toList.map (·.2))->(∀(s:Shared) (i:Nat),jh w s.heap S es ep t->i<=es.size->∀(A:Around) (Q':Option (Value×Nat)->Shared->Prop) (E':Value->Shared->Prop),Q' ((vs[i]?).map fun v=>(v,sl (i+1))) s->wpAny (model prog w) A (setNext S (sl i) i ep) Q' E' s) ->
    Q (.ref s.heap.objs.size) { s with heap:=s.heap.push (pk (rawInt 0) 0 S es.size ep) }:=fun vs sl h0 hp hx=>by
   have hl:vs.length=es.size:=by have:=hp.length_eq;simpa using this
   refine q _ s.drawn s.heap.objs.size [s.heap.objs.size,S] _ _ (fun A hA=>Dj (t:=t) (ep:=ep) (vs:=vs) (sl:=sl) hA hl rfl (eE hSlt) hx) ⟨bQ _,?_,hS.keep fun o e=>ar _ e⟩ (aw _) (fun b hb=>?_) (fun b hb=>?_) (fun b o e=>ar _ e) fun gG hacc=>?_
   ·rw[h0];exact aI _ rfl
   ·simp only[aY,gb,oD]at hb
    rcases hb with rfl|rfl
    ·exact .inr (aw _)
    ·exact .inl rfl
   ·simp only[aY,gb,oD]at hb
    rw[bZ]
    rcases hb with rfl|rfl
    ·exact cy _
    ·exact cP hSlt
   ·have e:gG.toList=vs:=by
     apply fM
     intro i
     by_cases hi:i<es.size
     ·have hia:i<gG.size:=by rw[hacc.1];exact hi
      have ha:gG[i]?=some (gG[i]'hia):=dW hia
      rw[fA,ha,hacc.2 i _ ha]
     ·rw[bn (by rw[dP,hacc.1];omega),bn (by omega)]
    rw[e];exact hp
  cases hb:sT w with
  |true=>exact hV ((pickOrder (w.params.setOrder S ep) es).toList.map (·.2)) (fun _=>0) rfl ((Dh _ _).map _) fun s i hS' hi A Q' E' y=>Dk hb hS' y
  |false=>
   have h1:es.size<=1:=by
    rcases H_.2 with z|z
    ·omega
    ·rw[hb,z]at hdr;simp at hdr;omega
   have N5:t.led=true:=H_.1.resolve_left (by rw[hb];exact d_)
   exact hV (es.toList.map (·.2)) (fun i=>if i=0 then 0 else t.place.getD 0 0+1) rfl (gP _) fun s i hS' hi A Q' E' y=>Ez hb hS' N5 h1 hi y
end
section
variable{prog:Program}{w:World}{A:Around}{E:Value->Shared->Prop}{s:Shared}
theorem EB{S:Addr}{Q:Bool->Shared->Prop}(T:s.TypeIs (.ref S) "set")(q:Q false s):wpAny (model prog w) A (Builtin.List.listLengthHint (.ref S)) Q E s:=by
 unfold Builtin.List.listLengthHint
 refine af (ni T PySem.F.slot_set_len.lookup ?_)
 generalize hid:("set.__len__":String)=id0
 wp_delta
 rw[show splitId id0=some ("set","__len__")from by subst hid;decide +kernel]
 subst hid
 refine af (f_ (T:="set") (b:=true) T (by rw[dz];kernel_rfl) ?_)
 refine nj (fun y=>absurd y (by decide)) (fun _=>nj (fun _=>?_) (fun y=>absurd (by decide +kernel) y))
 exact af (gn T (ay q))
theorem yf{S:Addr}{es:Array (Int×Value)}{ep:Nat}{t:SetTable}{Q:List Value->Shared->Prop}(hS:jh w s.heap S es ep t)(H_:BO w es.size t)(hsz:es.size<=sizeLine)(hh:A.handled=none)
  (q:∀(g:Heap) (d:Drawn) (tk:Nat) (vs:List Value),(∀b o,s.heap.get? b=some o->g.get? b=some o)->vs.Perm (es.toList.map (·.2))->Q vs { s with heap:=g,drawn:=d,toks:=tk }):wpAny (model prog w) A (collect (.ref S)) Q E s:=by
 obtain⟨o,ho,v5,hd⟩:=hS.ex
 have hSlt:=aK ho
 unfold collect
 refine af (oB (cT entry_proto_collect' ?_))
 rw[cI PySem.F.plain_proto_collect _]
 show wpAny _ A.in1 (newList [] >>= fun l=>again (.builtin "list.__iadd__" ⟨[l,.ref S],[]⟩)) _ _ s
 refine af (ce (ay ⟨eF PySem.F.plain_list_iadd _,cT entry_list_iadd' ?_⟩))
 rw[cI PySem.F.plain_list_iadd _]
 generalize hL:s.heap.objs.size=L
 have gL:(s.heap.push { cls:=.type "list",data:=.seq ([]:List Value).toArray }).get? L=some { cls:=.type "list",data:=.seq #[] }:=by rw[<- hL];exact aI _ rfl
 have hS1:jh w (s.heap.push { cls:=.type "list",data:=.seq ([]:List Value).toArray }) S es ep t:=hS.keep fun o e=>ar _ e
 have z1:(s.heap.push { cls:=.type "list",data:=.seq ([]:List Value).toArray }).objs.size=L+1:=by rw[bZ,hL]
 have kp1:∀b o,s.heap.get? b=some o->(s.heap.push { cls:=.type "list",data:=.seq ([]:List Value).toArray }).get? b=some o:=fun b o e=>ar _ e
 have bL:∀b o,s.heap.get? b=some o->b≠L:=fun b o e=>by rw[<- hL];exact aZ (aK e)
 generalize s.heap.push { cls:=.type "list",data:=.seq ([]:List Value).toArray }=h1 at gL hS1 z1 kp1 ⊢
 have uN:L≠S:=by rw[<- hL];exact eE hSlt
 obtain⟨o1,ho1,hex1,hd1⟩:=hS1.ex
 have T:Shared.TypeIs { s with heap:=h1 } (.ref S) "set":=⟨o1,ho1,hex1.1⟩
 show wpAny _ A.in1 (Builtin.List.listExtendWith (.ref L) (.ref S) (.ref L)) _ _ _
 unfold Builtin.List.listExtendWith
 refine af (gn (T:="set") T ?_)
 have e1:Builtin.List.listSameRef (.ref L) (.ref S)=false:=by simp[Builtin.List.listSameRef,uN]
 have e2:(Value.type "set" == Value.type "list")=false:=by decide
 have e3:(Value.type "set" == Value.type "tuple")=false:=by decide
 simp only[e1,e2,e3,lS,gl,iu]
 refine af (EA (s:={ s with heap:=h1 }) hS1 H_ hsz fun g d it fp P St W st og Ra hfl kp2 hperm=>?_)
 have gL2:=kp2 _ _ gL
 have hLf:L∉fp:=fun hm=>by
  rcases Ra L hm with y|y
  ·exact uN y
  ·rw[show Shared.heap { s with heap:=h1 }=h1 from rfl,z1]at y;exact absurd y (Nat.not_le.mpr (cy _))
 obtain⟨o2,ho2,hex2,hd2⟩:=(hS1.keep fun o e=>kp2 S o e).ex
 refine af (db (EB (s:={ s with heap:=g,drawn:=d }) ⟨o2,ho2,hex2.1⟩ ?_))
 have itL:it≠L:=fun y=>by
  have:=og
  rw[show Shared.heap { s with heap:=h1 }=h1 from rfl,z1,y]at this
  exact absurd this (Nat.not_le.mpr (cy _))
 have old:∀b o,s.heap.get? b=some o->b≠it:=fun b o e y=>by
  have h2:=aK (kp1 b o e)
  have h3:=og
  rw[show Shared.heap { s with heap:=h1 }=h1 from rfl]at h3
  rw[y]at h2
  exact absurd h2 (iT.mpr h3)
 have key:∀(g':Heap) (c tk:Nat),St 0 g'->(∀b o,b≠L->g.get? b=some o->g'.get? b=some o)->g'.get? L=some { cls:=.type "list",data:=.seq #[] c } ->
   codeAny (model prog w) A (.builtin "list.extend.loop" ⟨[.ref L,.ref it,.ref L],[]⟩) (wants (fun r s'=>wpAny (model prog w) A (match r with|.ref a=>(do match (<- load a).data with|.seq xs _=>pure xs.toList|_=>unsupported "internal:collect")|_=>unsupported "internal:collect") Q E s') E) { s with heap:=g',drawn:=d,toks:=tk }:=by
  intro g' c tk bf kp3 gL3
  refine codeAny_extend_loopS (W A.in1 (by simpa using hh)).toS hsz L hLf (.ref L) es.size 0 _ #[] c rfl (bQ _) bf gL3 (ItemsOf.nil _) fun s' gG c' hm gL4 hacc=>?_
  have ee:s'={ s with heap:=s'.heap,drawn:=d,toks:=s'.toks }:=by
   have h1:=hm.gens
   have h2:=hm.drawn
   have h3:=hm.os
   cases s'
   simp only at h1 h2 h3
   subst h1;subst h2;subst h3;rfl
  refine af (wpAny_load gL4 (ay ?_))
  rw[ee]
  refine q s'.heap d s'.toks gG.toList (fun b o e=>hm.heap b o (fun y=>?_) (kp3 b o (bL b o e) (kp2 b o (kp1 b o e)))) (hperm gG hacc)
  rcases aY.mp y with y|y
  ·exact bL b o e y
  ·exact old b o e (aV.mp y)
 refine nj (fun _=>?_) (fun _=>ay ⟨eF PySem.F.plain_extend_loop _,key g 0 _ st (fun _ _ _ e=>e) gL2⟩)
 refine af (mS (af ?_))
 show wpAny _ _ (updateSeq L (·.push .none) >>= fun _=>updateSeq L (·.pop)) _ _ _
 refine af (nn gL2 rfl ?_)
 have g5:=dw (Obj.mapSeq (·.push Value.none)) gL2 rfl
 refine nn (hz:=by seq_fits) g5 rfl ?_
 have g6:=dw (Obj.mapSeq (·.pop)) g5 rfl
 refine ay ⟨eF PySem.F.plain_extend_loop _,key _ _ _ ((W A hh).frame 0 _ _ st fun b hb o e=>?_) (fun b o hb e=>?_) g6⟩
 ·have hbL:b≠L:=fun y=>hLf (y▸hb)
  exact(cG _ _ (Ne.symm hbL)).trans ((cG _ _ (Ne.symm hbL)).trans e)
 ·exact(cG _ _ (Ne.symm hb)).trans ((cG _ _ (Ne.symm hb)).trans e)
end
end L2
namespace L2
variable{nk:Nat}
open PySem PySem.Spec PyProof.Rows
section
variable{prog:Program}{w:World}{A:Around}{E:Value->Shared->Prop}{s:Shared}
theorem Au{n:Nat}{S:Addr}{ks:List Str}{Q:Value->Shared->Prop}(z:tR prog w n s.heap S ks)(few:ks.length<64)(hh:A.handled=none)
  (q:∀(g0 g1:Heap) (d:Drawn) (tk:Nat) (out:Array Value) (ss:List Str) (e:Nat),(∀b o,s.heap.get? b=some o->g0.get? b=some o)->(∀b o,g0.get? b=some o->g1.get? b=some o)->g1.get? g0.objs.size=some (seqObj "list" out e) ->
   ig n out.toList->StrsAre out.toList ss->ss.Perm ks->sortedS ss=true->Q (.ref g0.objs.size) { s with heap:=g1,drawn:=d,toks:=tk }):wpAny (model prog w) A (call (.builtin "sorted") [.ref S]) Q E s:=by
 obtain⟨o,es,ep,t,ho,v5,hd,hel,hp,hb,hf,H_,hta⟩:=z
 have hS:jh w s.heap S es ep t:=⟨⟨o,ho,v5,hd⟩,hf⟩
 have dr:es.size=ks.length:=by have:=hp.length_eq;simpa using this
 apply kX kind_sorted plain_sorted entry_sorted (args_sorted1 _)
 show wpAny _ _ (checkCount "sorted" 1 1 _ >>= _) _ _ _
 refine af (ay (af (yf hS H_ (by rw[lj];omega) (by simpa using hh) fun g d tk vs kp pv=>?_)))
 have hv:∀v∈vs,∃x t,v=Value.str x t:=fun v hv=>by
  obtain⟨e,he,rfl⟩:=cS.mp (pv.mem_iff.mp hv)
  obtain⟨t,ht⟩:=x_ hel e he
  exact⟨_,t,ht⟩
 have kU:=strsAre_map vs hv
 have hks:(vs.map strOf).Perm ks:=by
  refine(pv.map strOf).trans ?_
  rw[bA];exact hp
 have hvl:vs.length<64:=by have:=hks.length_eq;rw[aC]at this;omega
 refine af (wpAny_newList ?_ (by rw[lj];omega))
 have oL:(g.push (seqObj "list" vs.toArray 0)).get? g.objs.size=some (seqObj "list" vs.toArray 0):=aI _ rfl
 refine af (db (cC slot_list_sort ⟨_,oL,rfl⟩ entry_list_sort (list_sort_treeK pN oL kU.keysOf (fun a b r e=>qY (by rw[<- e];exact kU)) hvl fun st a1 a2=>⟨_,rfl,?_⟩) (args_list_sort _)))
 obtain⟨ss,h1,h2,h3⟩:=oy kU a1 a2
 obtain⟨e,he⟩:=sortedHeap_at (out:=(arrOf st).map (·.2)) oL
 refine ay ⟨_,rfl,q g _ d tk _ ss e kp (fun b o hb=>?_) he (fun x t hx=>hta x t (pv.mem_iff.mp (tQ a1 _ hx))) h1 (h2.trans hks) h3⟩
 rw[sortedHeap_old (aZ (aK hb)) (by rw[bZ];exact cP (aK hb))]
 exact ar _ hb
abbrev Px(ty:String)(x:Str)(t:Tok):Obj:={ cls:=.type ty,data:=.fields #[.str x t,.int 0 0] }
theorem EC{l:List Nat}{t:Tok}{Q:Value->Shared->Prop}(zV:0<s.toks)(hh:A.handled=none)(hb:l.length+1<scanBound)
  (q:∀g tk,s.toks<=tk->Ka prog w tk (fun j=>tx [l.getD j 0]) g s.heap.objs.size l.length->(∀b o,s.heap.get? b=some o->g.get? b=some o)->Q (.ref s.heap.objs.size) { s with heap:=g,toks:=tk }):wpAny (model prog w) A (call (.type "set") [.str (tx l) t]) Q E s:=by
 have z:(s.heap.push (dH w)).objs.size=s.heap.objs.size+1:=bZ ..
 have hn:(tx l).cps.size=l.length:=by simp[tx]
 have zy:∀i v,SignAt (tx l) i v->∃t,v=Value.str (tx [l.getD i 0]) t:=by
  rintro i v ⟨c,u,hc,rfl⟩
  have:l[i]?=some c:=by simpa[tx]using hc
  exact⟨u,by rw[aQ,this];rfl⟩
 have hT:Shared.TypeIs { s with heap:=s.heap.push (dH w) } (.str (tx l) t) "str":=kI _ _ _
 rw[<- hn]at hb q
 cases ha:(tx l).cps.all (· < 128)
 ·refine lG (T:="str") (fp:=fun it=>[it]) (P:=SignAt (tx l)) (St:=fun it i h=>h.IsStrIter it "str_iterator" (tx l) t i) hT (by rw[dz];kernel_rfl) (by rw[dz];kernel_rfl) (by decide)
   (fun A E Q y=>lr ha (by show Q (.ref (s.heap.push (dH w)).objs.size) _;rw[z];exact y)) (fun A it hA _=>Walks.strWide hA it (tx l) t) (by simp) ⟨Px "str_iterator" (tx l) t,?_,rfl,rfl⟩ zy hh hb (fun A hA i s' Q E hn hi st q=>by
    obtain⟨c,hx⟩:∃c,(tx l).cps[i]?=some c:=⟨_,dW hi⟩
    refine jc st hx fun h' bf hs=>q _ h' (s'.toks+1) (bi _) (fun x u hx' _=>?_) ⟨c,_,hx,rfl⟩ bf fun b o hb e=>hs.extBut b o (fun z=>hb (by simp[z])) e
    rw[aV]at hx'
    cases hx'
    exact⟨aL zV hn,cy _⟩) q
  rw[<- z];exact aI _ rfl
 ·refine lG (T:="str") (fp:=fun it=>[it]) (P:=SignAt (tx l)) (St:=fun it i h=>h.IsStrIter it "str_ascii_iterator" (tx l) t i) hT (by rw[dz];kernel_rfl) (by rw[dz];kernel_rfl) (by decide)
   (fun A E Q y=>kK ha (by show Q (.ref (s.heap.push (dH w)).objs.size) _;rw[z];exact y)) (fun A it hA _=>Walks.strAscii hA it (tx l) t) (by simp) ⟨Px "str_ascii_iterator" (tx l) t,?_,rfl,rfl⟩ zy hh hb (fun A hA i s' Q E hn hi st q=>by
    obtain⟨c,hx⟩:∃c,(tx l).cps[i]?=some c:=⟨_,dW hi⟩
    refine iZ st hx fun h' bf hs=>q _ h' (s'.toks+1) (bi _) (fun x u hx' _=>?_) ⟨c,_,hx,rfl⟩ bf fun b o hb e=>hs.extBut b o (fun z=>hb (by simp[z])) e
    rw[aV]at hx'
    cases hx'
    exact⟨aL zV hn,cy _⟩) q
  rw[<- z];exact aI _ rfl
theorem IS{l:List Nat}{a:Addr}{bN:List Value}{Q:Value->Shared->Prop}(hh:A.handled=none)(hb:l.length+1<scanBound)(ht:s.heap.IsTuple a bN.toArray)(hv:cJ s.toks (i5 l) bN)
  (q:∀g tk,s.toks<=tk->Ka prog w tk (fun j=>tx [l.getD j 0]) g s.heap.objs.size l.length->(∀b o,s.heap.get? b=some o->g.get? b=some o)->Q (.ref s.heap.objs.size) { s with heap:=g,toks:=tk }):wpAny (model prog w) A (call (.type "set") [.ref a]) Q E s:=by
 have z:(s.heap.push (dH w)).objs.size=s.heap.objs.size+1:=bZ ..
 have hn:bN.toArray.size=l.length:=by have:=hv.length;unfold i5 at this;simpa using this.symm
 have ha:a<s.heap.objs.size:=by obtain⟨o,ho,_⟩:=ht;exact aK ho
 have ht1:(s.heap.push (dH w)).IsTuple a bN.toArray:=ht.at fun o e=>ar _ e
 have zy:∀i v,bN.toArray[i]?=some v->∃t,v=Value.str (tx [l.getD i 0]) t:=by
  intro i v hi
  have hi':bN[i]?=some v:=by simpa using hi
  have hlt:i<l.length:=by
   have:=(ak.mp hi').1
   rw[<- hn];simpa using this
  have hx:(i5 l)[i]?=some (.str (tx [l.getD i 0])):=by
   unfold i5
   rw[aG,aq hlt,aQ,aq hlt];rfl
  obtain⟨u,hu,t,e⟩:=hv.get hx
  rw[hi']at hu
  exact⟨t.1,(bc hu).trans e⟩
 rw[<- hn]at hb q
 refine lG (T:="tuple") (fp:=fun it=>[it,a]) (P:=fun i v=>bN.toArray[i]?=some v) (St:=fun it i h=>h.IsTupleIter it a i/\h.IsTuple a bN.toArray) ht1.typeIs (by rw[dz];kernel_rfl) (by rw[dz];kernel_rfl) (by decide)
  (fun A E Q y=>iR ht1 (by show Q (.ref (s.heap.push (dH w)).objs.size) _;rw[z];exact y)) (fun A it hA e=>Walks.tuple hA it a (by rw[e];exact aZ (cP ha)) bN.toArray) (by simp;exact fun e=>absurd ha (by rw[<- e];exact da _)) ⟨⟨{ cls:=.type "tuple_iterator",data:=.fields #[.ref a,.int 0 0] },?_,rfl,rfl⟩,?_⟩ zy hh hb (fun A hA i s' Q E hn hi st q=>by
   refine up ((Walks.tuple hA (s.heap.objs.size+1) a (aZ (cP ha)) bN.toArray).item i s' _ _ hi st fun v h' tk hp bf kp hW=>q v h' tk hW (fun x u hx=>?_) hp bf kp)
   rw[aV]at hx
   subst hx
   exact((qv hv).up (aF hn hW)) x u (by have hp:bN.toArray[i]?=some _:=hp;exact b9 (by simpa using hp))) q
 ·rw[<- z];exact aI _ rfl
 ·exact ht1.at fun o e=>ar _ e
end
theorem IT{l:List Nat}{ss ks:List Str}(hp:ss.Perm ks)(SM:ks.Nodup)(hm:∀x,x∈ks↔∃j,j<l.length/\tx [l.getD j 0]=x)(hs:sortedS ss=true) :
  ∃m:List Nat,ss=m.map (fun c=>tx [c])/\m.Nodup/\m.Pairwise (· <= ·)/\∀c,c∈m↔c∈l:=by
 have all:∀z∈ss,tx [z.cps.toList.headD 0]=z:=fun z hz=>by
  obtain⟨j,_,e⟩:=(hm z).mp (hp.mem_iff.mp hz)
  subst e;rfl
 have em:ss=(ss.map fun z=>z.cps.toList.headD 0).map fun c=>tx [c]:=by
  rw[bA]
  conv=>lhs;rw[<- jI ss]
  exact dQ fun z hz=>(all z hz).symm
 refine⟨ss.map fun z=>z.cps.toList.headD 0,em,?_,?_,fun c=>?_⟩
 ·have nd:ss.Nodup:=hp.nodup_iff.mpr SM
  rw[em]at nd
  exact List.Pairwise.of_map (fun c=>tx [c]) (fun a b h e=>h (by rw[e])) nd
 ·refine x6 _ ?_
  rw[bA]
  rw[em]at hs
  exact hs
 ·constructor
  ·intro hc
   obtain⟨z,hz,rfl⟩:=cS.mp hc
   obtain⟨j,hj,e⟩:=(hm z).mp (hp.mem_iff.mp hz)
   subst e
   show l.getD j 0∈l
   rw[aQ,aq hj]
   exact dm hj
  ·intro hc
   obtain⟨j,hj,e⟩:=List.getElem_of_mem hc
   refine cS.mpr ⟨tx [c],hp.mem_iff.mpr ((hm _).mpr ⟨j,hj,?_⟩),rfl⟩
   rw[aQ,aq hj,e];rfl
def IU(K:Frag)(H:Hp)(v:V)(l:List Nat):Prop:=v=.str (tx l)\/∃a,v=.ref a/\gK K H a (i5 l)
def ED(K:Frag)(te:TE):TE:=fun σ H Q=>te σ H fun v H1=>∃l,IU K H1 v l/\l.length<4000/\(∀m:List Nat,m.Nodup->(∀c∈m,c∈l)->m.length<64) /\
 ∀m:List Nat,m.Nodup->m.Pairwise (· <= ·)->(∀c,c∈m↔c∈l)->∀a H2,H1 a=none->H2=eT H1 a (.lst (m.map fun c=>V.str (tx [c])))->Q (.ref a) H2
theorem bF.kept2{X:Cx}{aj:List (Addr×Obj)}{σ:St}{H:Hp}{s:Shared}{h':Heap}{t':Nat}{d':Drawn}(I:bF X aj σ H s)(k:∀b o,s.heap.get? b=some o->h'.get? b=some o)(hk:s.toks<=t':=by first|exact aw _|exact bi _|assumption|omega):bF X aj σ H { s with heap:=h',drawn:=d',toks:=t' }:=
 I.step (g':=s.gens) (ch:=[]) (fun _ z=>nomatch z) (fun b o _ _ _ e _=>k b o e) (fun b o _ _ _ e _=>⟨o.slots,k b o e⟩) (fun _ _ _ _ n=>n) (fun b o _ e=>⟨o,k b o e⟩) (fun _ _ e=>e) (fun _ _ _ e=>e) (fun b ps e=>⟨#[],by rw[e];simp⟩)
  (fun m hm=>let ⟨o,es,ep,ho,r⟩:=hm;⟨o,es,ep,k _ o ho,r⟩) ((I.hok.kept k).up hk) I.bare hk
theorem Dl{X:Cx}{p1 p2 Od z0:Pos}{e:Expr}{te:TE}(h1:X.mg "sorted"=none)(h3:X.mg "set"=none)(he:QE X e te)(hc:X.calm=true:=by rfl)
  (S5:Gl X "sorted":=by rfl) (Rc:Gl X "set":=by rfl) (RC:starEach [e] X.env=(false,eval e X.env)::starEach [] X.env:=by rfl):QE X (.Call (.Name "sorted" p1) [.Call (.Name "set" p2) [e] [] z0] [] Od) (ED X.K te):=⟨by
 intro aj s σ H Q I h
 refine gm (mq I S5 h1 PyProof.Rows.boot_sorted (jv ?_) (by decide) (by decide))
 show wpAny _ _ (spliced ((false,eval (.Call (.Name "set" p2) [e] [] z0) X.env)::[])) _ _ s
 refine dC (gm (mq I Rc h3 PyProof.Rows.boot_set (cZ ?_ RC rfl) (by decide) (by decide)))
 rw[RC]
 show wpAny _ _ (spliced ((false,eval e X.env)::[])) _ _ s
 refine dC (i3 (he.h aj s σ H _ I h) fun u s1 kt1 ⟨v,H1,I1,r1,l,hl,hb,few,q⟩=>fJ ?_)
 have hh:X.A.handled=none:=I1.ok.hd hc
 have hb':l.length+1<scanBound:=by unfold scanBound;omega
 have hV:∀g tk,s1.toks<=tk->Ka X.prog X.w tk (fun j=>tx [l.getD j 0]) g s1.heap.objs.size l.length->(∀b o,s1.heap.get? b=some o->g.get? b=some o) ->
   wpAny (model X.prog X.w) X.A (spliced []) (fun vs s₂=>wpAny (model X.prog X.w) X.A (call (.builtin "sorted") (.ref s1.heap.objs.size::vs)) (EP X aj σ Q) X.xe s₂) X.xe { s1 with heap:=g,toks:=tk }:=fun g tk hW hM kp=>by
  refine fJ ?_
  obtain⟨ks,z,nd,mem,len⟩:=hM
  have qi:ks.length<64:=by
   obtain⟨m,em,mn,_,mm⟩:∃m:List Nat,ks=m.map (fun c=>tx [c])/\m.Nodup/\True/\∀c∈m,c∈l:=by
    have all:∀z∈ks,tx [z.cps.toList.headD 0]=z:=fun z hz=>by
     obtain⟨j,_,e⟩:=(mem z).mp hz
     subst e;rfl
    have em:ks=(ks.map fun z=>z.cps.toList.headD 0).map fun c=>tx [c]:=by
     rw[bA]
     conv=>lhs;rw[<- jI ks]
     exact dQ fun z hz=>(all z hz).symm
    refine⟨_,em,?_,trivial,fun c hc=>?_⟩
    ·have nd':=nd
     rw[em]at nd'
     exact List.Pairwise.of_map (fun c=>tx [c]) (fun a b h e=>h (by rw[e])) nd'
    ·obtain⟨z,hz,rfl⟩:=cS.mp hc
     obtain⟨j,hj,e⟩:=(mem z).mp hz
     subst e
     show l.getD j 0∈l
     rw[aQ,aq hj]
     exact dm hj
   rw[em,aC]
   exact few m mn mm
  refine up (Au z qi hh fun g0 g1 d tk' out ss ep k0 k1 gL hta kU hperm hsrt hle2=>?_)
  have hle2:tk<=tk':=hle2
  have hle3:s1.toks<=tk':=aF hW hle2
  obtain⟨m,em,mn,mp,mm⟩:=IT hperm nd mem hsrt
  have I2:bF X aj σ H1 { s1 with heap:=g0,drawn:=d,toks:=tk' }:=I1.kept2 fun b o e=>k0 b o (kp b o e)
  have xB:H1 g0.objs.size=none:=I2.hok.fresh (aw _)
  have hvals:cJ tk' (m.map fun c=>V.str (tx [c])) out.toList:=by
   have e:=ms kU (hta.up hle2)
   rw[em,bA]at e
   exact e
  refine⟨.ref g0.objs.size,_,I2.laid (o:=.lst (m.map fun c=>V.str (tx [c]))) (t':=tk') k1 (aw _) ?_,rfl,q m mn mp mm _ _ xB rfl⟩
  refine⟨?_,out.toList,ep,hvals,gL⟩
  rw[aC]
  exact aF (fI (few m mn fun c hc=>(mm c).mp hc)) (by decide)
 rcases hl with rfl|⟨a,rfl,hT⟩
 ·obtain⟨t,rfl⟩:=r1
  exact EC I1.pos hh hb' hV
 ·cases r1
  obtain⟨bN,rv,ht,_⟩:=I1.tuple hT
  exact IS hh hb' ht rv hV⟩
end L2
namespace L2
open PySem PySem.Spec PyProof.Rows
def Sf(K:Frag):List V->Hp->VK->Prop:=fun xs H Q=>∃(p:Addr) (bs:List Bool),xs=[.ref p]/\sf K H p (bs.map V.bl)/\Q (.bl (bs.all id)) H
theorem Py{X:Cx}(hc:X.calm=true:=by rfl):J' X (.builtin "all") (Sf X.K):=⟨by
 intro aj s σ H xs us Q I r h
 obtain⟨p,bs,rfl,hS,q⟩:=h
 obtain⟨u,rfl,ru⟩:=nC r
 cases ru
 obtain⟨bN,rv,pl,hz⟩:=I.list hS
 have hh:=I.ok.hd hc
 have hl:s.heap.IsList p bN.toArray:=pl.isList
 have hlt:p<s.heap.objs.size:=by obtain⟨o,ho,_⟩:=hl;exact aK ho
 have dr:bN.toArray.size=bs.length:=by have:=rv.length;rw[aC]at this;simpa using this.symm
 refine up (call_all_walk (wpAny_pyIter_list hl ?_))
 refine⟨_,_,_,_,_,_,fun i=>bs.getD i true,rfl,Walks.list (A:=X.A.in1) (by simpa using hh) _ p (aZ hlt) bN.toArray,⟨⟨_,aI _ rfl,rfl,rfl⟩,hl.at fun o e=>ar _ e⟩,?_,fun h' tk kp hk=>?_⟩
 ·intro i v s Q E hP hQ
  have hi:bN[i]?=some v:=by simpa using hP
  have hlt:i<bs.length:=by
   have:=(ak.mp hi).1
   rw[<- dr];simpa using this
  have hx:(bs.map V.bl)[i]?=some (.bl bs[i]):=by rw[aG,aq hlt];rfl
  obtain⟨u,hu,ru⟩:=rv.get hx
  rw[hi]at hu
  obtain rfl:v=.bool bs[i]:=(bc hu).trans ru
  refine dM ?_
  have e:bs.getD i true=bs[i]:=by rw[aQ,aq hlt];rfl
  rw[<- e];exact hQ
 ·have e:(List.range bN.toArray.size).all (fun i=>bs.getD i true)=bs.all id:=by
   rw[dr]
   conv=>rhs;rw[<- range_getD bs true]
   rw[List.all_map];rfl
  rw[e]
  refine⟨.bl _,H,I.kept (t':=tk) fun b o eb=>kp b o (fun hm=>?_) (ar _ eb),rfl,q⟩
  rw[aV]at hm
  exact absurd (aK eb) (by rw[hm];exact da _)⟩
section
variable{prog:Program}{w:World}{A:Around}{E:Value->Shared->Prop}{s:Shared}
end
theorem vq(a b:Int):Builtin.Range.rangeSize a b (-1)=((a-b).toNat:Int):=by
 unfold Builtin.Range.rangeSize
 rw[aN (by decide)]
 simp only[Int.neg_neg,Int.ediv_one]
 split<;>omega
theorem Av{a b:Int}(h1:-(2^60)<=a)(h2:a<2^60)(h3:-(2^60)<=b)(h4:b<2^60):Builtin.Range.small a b (-1)=true:=by
 unfold Builtin.Range.small
 rw[vq]
 simp only[Builtin.Range.rangeFitsLong,cD,dS,fN,eD,aN (show ¬ ((-1:Int)>0) by decide)]
 omega
def vt(i:Int)(n:Nat):List V:=(List.range n).map fun k:Nat=>V.int (i-k)
def Pz(ta:TA):TI:=fun σ H R=>ta σ H fun vs H1=>∃i j:Int,vs=[.int i,.int j,.int (-1)]/\(-(2^60)<=i/\i<2^60/\-(2^60)<=j/\j<2^60)/\R (Pj (vt i (i-j).toNat)) H1
theorem wE{X:Cx}{tg a b c:Expr}{ta:TA}{p pos:Pos}(hm:X.mg "range"=none)(ha:QA X [a,b,c] ta)(hg:Gl X "range":=by rfl)(hs:starEach [a,b,c] X.env=(false,eval a X.env)::starEach [b,c] X.env:=by rfl)
  (ql:(backTo pos (starEach [b,c] X.env)).any (·.1)=false:=by rfl):QI X tg (.Call (.Name "range" p) [a,b,c] [] pos) (Pz ta):=⟨by
 intro aj s σ H R I h
 refine Call_ (mq I hg hm qj (cZ (i3 (ha.h pos aj s σ H _ I h) fun us s1 kt1 ⟨vs,H1,I1,r1,q1⟩=>?_) hs ql))
 obtain⟨i,j,e,⟨b1,b2,b3,b4⟩,q⟩:=q1
 subst e
 cases r1 with
 |cons x1 r1=>cases r1 with
  |cons x2 r1=>cases r1 with
   |cons x3 r1=>
    cases r1
    obtain⟨t1,rfl⟩:=x1
    obtain⟨t2,rfl⟩:=x2
    obtain⟨t3,rfl⟩:=x3
    refine call_range_3 (by decide) ?_ (Or.inl (mM (by omega)))
    refine wpAny_pyIter_range (IsRange.new ..) (Av b1 b2 b3 b4) ?_
    generalize hN:(i-j).toNat=n at q
    have hl:(vt i n).length=n:=by unfold vt;simp
    have I2:bF X aj σ H1 { s1 with heap:=s1.heap.push { cls:=.type "range",data:=.fields #[.int i t1,.int j t2,.int (-1) t3] },toks:=s1.toks }:=I1.kept fun b o e=>ar _ e
    refine⟨(s1.heap.push { cls:=.type "range",data:=.fields #[.int i t1,.int j t2,.int (-1) t3] }).objs.size,[(s1.heap.push { cls:=.type "range",data:=.fields #[.int i t1,.int j t2,.int (-1) t3] }).objs.size],_,_,H1,rfl,
     I2.kept (t':=s1.toks) fun b o e=>ar _ e,An (ty:="range_iterator") (fun A hA=>by rw[hl];exact Walks.range hA _ i (-1) n) (fun k v hk hp=>?_) (fun k h st=>⟨_,_,st,rfl,rfl⟩) (by decide) (fun A k s Q E st h=>mL st h),⟨bQ _,?_⟩,fun b hb=>?_,q⟩
    ·obtain⟨t,rfl⟩:=hp
     rw[hl]at hk
     refine⟨.int (i+k*(-1)),?_,t,rfl⟩
     unfold vt
     rw[aG,cV hk]
     show some (V.int (i-k))=_
     congr 2;omega
    ·have e1:i+((0:Nat):Int)*(-1)=i:=by simp
     have e2:((n:Nat):Int)-((0:Nat):Int)=Builtin.Range.rangeSize i j (-1):=by rw[vq,hN];simp
     rw[e1,e2]
     exact aI _ rfl
    ·have e:b=(s1.heap.push { cls:=.type "range",data:=.fields #[.int i t1,.int j t2,.int (-1) t3] }).objs.size:=by simpa using hb
     subst e
     exact I2.fpOk (aw _) (I2.hok.fresh (aw _))⟩
section
variable{X:Cx}{qe tg dL:Expr}{ml:List Expr}{scope:Scope}{pos:Pos}{nm:List Str}{cl:List (Str×Addr)}{cap:List (Option Nat)}{wi:TI}{g:TG}{tc:TT}{te:TE}
theorem Aw{x0:Str}{p0 p1:Pos}{gx:TG}(Rk:PG X (.Name x0 p0) gx)(Q6:swapsWith (.ListComp qe [⟨tg,dL,ml,0⟩] scope pos) (some (.Name x0 p0)) p1.line X.env=pure true)(jm:X.calm=true)(uP:closureFor scope X.env=pure cl)(uR:∀x c,cl.lookup x=some c->X.env.cells.lookup x=some c)
  (jo:scope.kind=.function) (qf:∀x∈scope.names,x.2=.local->scope.names.lookup x.1=some .local) (dq:∀y∈scope.names,y.2≠.cell)
  (Bw:∀x,((relabel scope X.env).names.lookup x=some .cell\/(relabel scope X.env).names.lookup x=some .free)->∃c,cl.lookup x=some c)
  (sY:∀(i j:Nat),cap[i]?=some (some j)->∃x,nm[i]?=some x/\X.N[j]?=some x/\tK X scope cl x) (dr:cap.length=nm.length)
  (hi:PI X tg dL wi) (hg:∀C s0 H0 fp,PG (dG X nm scope cl C s0 H0 fp) tg g) (ht:∀C s0 H0 fp,En (dG X nm scope cl C s0 H0 fp) ml tc)
  (he:∀C s0 H0 fp,PE (dG X nm scope cl C s0 H0 fp) qe te) (hs:∀x,foldedSetIterable dL X.env x=pure x:=by intro _;rfl) :
  PS X (.Assign [.Name x0 p0] (.ListComp qe [⟨tg,dL,ml,0⟩] scope pos) p1) (D7 (tJ cap wi g tc te) gx):=by
 intro aj s σ H D I h
 rw[exec_Assign_Name_used _ _ _ _ Q6]
 suffices main:wpAny (model X.prog X.w) X.A (comprehension (.ListComp qe [⟨tg,dL,ml,0⟩] scope pos) scope X.env (firstIterPos [⟨tg,dL,ml,0⟩] pos) (newList []) (firstAsync [⟨tg,dL,ml,0⟩]) (firstIter [⟨tg,dL,ml,0⟩] X.env) (some (assign (.Name x0 p0) X.env))) (fun _ s'=>SP X aj D .next s') X.xe s from
  af (pL (af (af (iQ main (fun _ s' h=>ay (ay h)) fun _ _ z=>z))))
 refine vk jm uP uR jo qf dq Bw sY dr hi hg ht he hs I h fun s4 C D m4 Hn I4 B q=>?_
 obtain⟨oC,es,ep,hoC,hdC,hrC⟩:=B.ns
 refine iQ (Rk _ s4 σ _ (.ref D) (.ref D) _ (I4.pins_of (pins':=aj++[(C,oC)]) fun p hp=>?_) rfl q) (fun _ s5 h5=>?_) fun _ _ z=>z
 ·rcases bj.mp hp with z|z
  ·exact I4.pin p (a7 _ z)
  ·have e:p=(C,oC):=by simpa using z
   subst e
   exact⟨hoC,B.fr,B.nl,B.nf,fun v z=>by rw[hdC]at z;cases z⟩
 obtain⟨σ',H',I6,nx⟩:=h5
 have pC:=I6.pin (C,oC) (a7 _ (a7 _ (aV.mpr rfl)))
 have I7:bF X aj σ' H' s5:=I6.pins_of fun p hp=>I6.pin p (a7 _ (eQ _ hp))
 have B7:xX X aj H' s5 C m4:=⟨⟨oC,es,ep,pC.1,hdC,hrC⟩,pC.2.1,B.nl,B.nf,B.hi,B.nc,B.np⟩
 exact⟨m4,B7.ns,fun h' hs'=>⟨σ',H',B7.off I7 hs',nx⟩⟩
end
theorem Ax{X:Cx}{x0:Str}{p0 p1:Pos}{gx:TG}{qe tg dL:Expr}{ml:List Expr}{scope:Scope}{pos:Pos}{nm:List Str}{cap:List (Option Nat)}{wi:TI}{g:TG}{tc:TT}{te:TE}{m:Nat}(Rk:QG X (.Name x0 p0) gx)(jm:X.calm=true)
  (qc:X.env.cells=cellsFrom m X.env.scope.names []) (jo:scope.kind=.function) (hB:De X.env.scope.names scope.names nm cap X.N=true)
  (hi:QI X tg dL wi) (hg:∀cl C s0 H0 fp,QG (dG X nm scope cl C s0 H0 fp) tg g) (ht:∀cl C s0 H0 fp,Sc (dG X nm scope cl C s0 H0 fp) ml tc)
  (he:∀cl C s0 H0 fp,QE (dG X nm scope cl C s0 H0 fp) qe te) (hs:∀x,foldedSetIterable dL X.env x=pure x:=by intro _;rfl) (Q6:swapsWith (.ListComp qe [⟨tg,dL,ml,0⟩] scope pos) (some (.Name x0 p0)) p1.line X.env=pure true:=by first|rfl|kernel_rfl) :
  QS X (.Assign [.Name x0 p0] (.ListComp qe [⟨tg,dL,ml,0⟩] scope pos) p1) (D7 (tJ cap wi g tc te) gx):=by
 have F:=Pw (nm:=nm) (cap:=cap) (fun x z=>by rw[qc];exact lY z) hB
 exact⟨Aw Rk.h Q6 jm F.clos F.cl jo F.nms F.cell F.has F.cp F.len hi.h (fun C s0 H0 fp=>(hg _ C s0 H0 fp).h) (fun C s0 H0 fp=>(ht _ C s0 H0 fp).h) (fun C s0 H0 fp=>(he _ C s0 H0 fp).h) hs⟩
open AutoSeq1 (wpAny_loadPart')
theorem EE(l b:Addr)(i1 i2:Array Value)(n1 n2:Nat)(d1 d2:Option Addr)(s1 s2:Array (Option Value))(h0:i1.isEmpty=true) :
  Meets (Builtin.«tuple.__add__» ⟨[.ref l,.ref b],[]⟩) (fun _ R s=>s.heap.get? l=some { cls:=.type "tuple",dict:=d1,data:=.seq i1 n1,slots:=s1 }/\s.heap.get? b=some { cls:=.type "tuple",dict:=d2,data:=.seq i2 n2,slots:=s2 }/\R (.ok (.ret (.ref b))) s):=
 .of_wp fun prog w A R s h=>by
  obtain⟨hp,g,d,tk,os⟩:=s
  obtain⟨e1,e2,h⟩:=h
  have a2:=PyProof.Rows.sub_tuple_tuple
  wp_walk using de e1,de e2
  exact⟨_,rfl,h⟩
def PB(K:Frag):R2:=fun x y H Q=>∃a b xs ys,x=.ref a/\y=.ref b/\gK K H a xs/\gK K H b ys/\xs.length+ys.length<=sizeLine/\∀p H2,sR H H2->gK K H2 p (xs++ys)->Q (.ref p) H2
theorem Mm{X:Cx}:Td X (binaryOp .Add) (PB X.K):=⟨by
 intro aj s σ H x y v u Q I rx ry h
 obtain⟨a,b,xs,ys,rfl,rfl,ha,hb,hz,q⟩:=h
 by_cases hx:xs=[]
 ·subst hx
  cases rx
  cases ry
  obtain⟨bN,r1,p1,_⟩:=I.tuple ha
  obtain⟨its2,r2,p2,_⟩:=I.tuple hb
  have e1:bN=[]:=r1.nil_iff.mpr rfl
  obtain⟨⟨c1,d1,g1,l1⟩,f1,hc1,n1,hd1⟩:=id p1
  obtain⟨⟨c2,d2,g2,l2⟩,f2,hc2,n2,hd2⟩:=id p2
  simp only at hc1 hd1 hc2 hd2
  subst hc1 hd1 hc2 hd2
  refine qU ⟨_,f1,rfl⟩ ⟨_,f2,rfl⟩ ma pM PySem.F.slot_tuple_add PySem.F.entry_tuple_add (PySem.F.args_tuple_add_2 _ _) (EE a b bN.toArray its2.toArray n1 n2 d1 d2 l1 l2 (by rw[e1];rfl)) ⟨f1,f2,?_⟩
  exact⟨.ref b,H,I,rfl,q b H (sR.refl H) hb⟩
 ·exact IB aj s σ H _ _ v u Q I rx ry ⟨a,b,xs,ys,rfl,rfl,ha,hb,hx,hz,fun e=>q a H (sR.refl H) (by rw[e,dB];exact ha),fun _ p hp=>q p _ (cQ hp _) (gK.of gq)⟩⟩
end L2
namespace L2
variable{nk:Nat}
open PySem PySem.Spec PyProof.Rows
inductive W where
 |non|bl (b:Bool)|int (i:Int)|str (l:List Nat)|tup (ws:List W)|loc (n:Nat)
inductive DK where
 |i (z:Int)|s (l:List Nat)
deriving DecidableEq
def DK.key:DK->jF
 |.i z=>.inl z
 |.s l=>.inr (tx l)
inductive KX where
 |bo (b:Bool)|fl (ks:List Int)|pr (i:Int) (ks:List Int)
deriving DecidableEq
def KX.w:KX->W
 |.bo b=>.bl b
 |.fl ks=>.tup (ks.map W.int)
 |.pr i ks=>.tup [.int i,.tup (ks.map W.int)]
def EF(ks:List Int):Int:=reduceHash (Builtin.Tuple.tupleHashOf (ks.map hashInt))
def KX.hash:KX->Int
 |.bo b=>hashInt (if b then 1 else 0)
 |.fl ks=>EF ks
 |.pr i ks=>reduceHash (Builtin.Tuple.tupleHashOf [hashInt i,EF ks])
inductive ao where
 |lst (ws:List W)
 |ro (ws:List W)
 |exc (c:Str)
 |dct (kvs:List (DK×W))
 |tab (P:Addr) (pos:Pos) (q:Str)
 |rod (kvs:List (DK×W))
 |dcx (kvs:List (KX×W))
 |rox (kvs:List (KX×W))
 |obj (c:Str) (fs:List (Str×W))
 |pin (k:Bool) (c:Addr) (o:Obj) (w:W)
 |gone
abbrev jY:Nat:=1000000
theorem nG{n:Nat}(h:n<=jY):n<=sizeLine:=aF h (by decide)
theorem Mn{n:Nat}(h:n<=jY):n<sizeLine:=eh h (by decide)
inductive R(α:Type) where
 |ok (a:α) (st:List ao)
 |ex (c:Str) (st:List ao)
 |bad
def R.bind{α β:Type}:R α->(α->List ao->R β)->R β
 |.ok a st,k=>k a st
 |.ex c st,_=>.ex c st
 |.bad,_=>.bad
@[simp] theorem R.bind_ok{α β:Type}(a:α)(st:List ao)(k:α->List ao->R β):(R.ok a st).bind k=k a st:=rfl
@[simp] theorem R.bind_ex{α β:Type}(c:Str)(st:List ao)(k:α->List ao->R β):(R.ex c st:R α).bind k=.ex c st:=rfl
@[simp] theorem R.bind_bad{α β:Type}(k:α->List ao->R β):(R.bad:R α).bind k=.bad:=rfl
abbrev b6:=List (Option W)
inductive RS where
 |nx (ρ:b6) (st:List ao)|rt (w:W) (st:List ao)|bk (ρ:b6) (st:List ao)|ct (ρ:b6) (st:List ao)
 |ex (c:Str) (ρ:b6) (st:List ao)|bad
abbrev FE:=b6->List ao->R W
abbrev FT:=b6->List ao->R Bool
abbrev FA:=b6->List ao->R (List W)
abbrev FS:=b6->List ao->RS
section
variable(K:Frag)
mutual
def bE(μ:List Addr)(H:Hp):W->V->Prop
 |.non,v=>v=.non
 |.bl b,v=>v=.bl b
 |.int i,v=>v=.int i
 |.str l,v=>v=.str (tx l)
 |.tup ws,v=>∃p vs,v=.ref p/\gK K H p vs/\RelWs μ H ws vs
 |.loc n,v=>∃a,μ[n]?=some a/\v=.ref a
def RelWs(μ:List Addr)(H:Hp):List W->List V->Prop
 |[],vs=>vs=[]
 |w::ws,vs=>∃x xs,vs=x::xs/\bE μ H w x/\RelWs μ H ws xs
end
end
theorem wF{μ μ':List Addr}(h:μ <+: μ'){n:Nat}{a:Addr}(e:μ[n]?=some a):μ'[n]?=some a:=by
 obtain⟨t,rfl⟩:=h
 rw[bq (ak.mp e).1];exact e
section
variable{K:Frag}{μ μ':List Addr}{H H':Hp}
mutual
theorem bE.mono(h:μ <+: μ')(e:eX K H H'):∀{w:W} {v:V},bE K μ H w v->bE K μ' H' w v
 |.non,_,r=>by unfold bE at r ⊢;exact r
 |.bl _,_,r=>by unfold bE at r ⊢;exact r
 |.int _,_,r=>by unfold bE at r ⊢;exact r
 |.str _,_,r=>by unfold bE at r ⊢;exact r
 |.tup _,_,r=>by unfold bE at r ⊢;obtain⟨p,vs,a,b,c⟩:=r;exact⟨p,vs,a,e _ _ b,RelWs.mono h e c⟩
 |.loc _,_,r=>by unfold bE at r ⊢;obtain⟨a,b,c⟩:=r;exact⟨a,wF h b,c⟩
theorem RelWs.mono(h:μ <+: μ')(e:eX K H H'):∀{ws:List W} {vs:List V},RelWs K μ H ws vs->RelWs K μ' H' ws vs
 |[],_,r=>by unfold RelWs at r ⊢;exact r
 |_::_,_,r=>by unfold RelWs at r ⊢;obtain⟨x,xs,a,b,c⟩:=r;exact⟨x,xs,a,bE.mono h e b,RelWs.mono h e c⟩
end
theorem RelWs.nilI:RelWs K μ H [] []:=by unfold RelWs;rfl
theorem RelWs.consI{w:W}{ws:List W}{x:V}{xs:List V}(a:bE K μ H w x)(b:RelWs K μ H ws xs):RelWs K μ H (w::ws) (x::xs):=by unfold RelWs;exact⟨x,xs,rfl,a,b⟩
theorem RelWs.nilE{vs:List V}(h:RelWs K μ H [] vs):vs=[]:=by unfold RelWs at h;exact h
theorem RelWs.consE{w:W}{ws:List W}{vs:List V}(h:RelWs K μ H (w::ws) vs):∃x xs,vs=x::xs/\bE K μ H w x/\RelWs K μ H ws xs:=by unfold RelWs at h;exact h
theorem RelWs.pr:∀{ws:List W} {vs:List V},RelWs K μ H ws vs↔Paired (fun w v=>bE K μ H w v) ws vs
 |[],vs=>⟨fun h=>by rw[h.nilE];exact .nil,fun h=>by cases h;exact .nilI⟩
 |w::ws,vs=>⟨fun h=>by obtain⟨x,xs,rfl,a,b⟩:=h.consE;exact .cons a (RelWs.pr.mp b),fun h=>by cases h with|cons a b=>exact .consI a (RelWs.pr.mpr b)⟩
theorem RelWs.len{ws:List W}{vs:List V}(h:RelWs K μ H ws vs):ws.length=vs.length:=Paired.length (RelWs.pr.mp h)
theorem RelWs.app:∀{as:List W} {xs:List V} {bs:List W} {ys:List V},RelWs K μ H as xs->RelWs K μ H bs ys->RelWs K μ H (as++bs) (xs++ys)
 |[],xs,bs,ys,a,b=>by rw[a.nilE];exact b
 |w::as,xs,bs,ys,a,b=>by obtain⟨x,xs,rfl,c,d⟩:=a.consE;exact .consI c (RelWs.app d b)
theorem RelWs.get:∀{ws:List W} {vs:List V} {i:Nat} {w:W},RelWs K μ H ws vs->ws[i]?=some w->∃v,vs[i]?=some v/\bE K μ H w v
 |[],_,_,_,_,e=>by simp at e
 |x::ws,vs,0,w,h,e=>by obtain⟨y,ys,rfl,a,b⟩:=h.consE;simp at e;subst e;exact⟨y,rfl,a⟩
 |x::ws,vs,i+1,w,h,e=>by obtain⟨y,ys,rfl,a,b⟩:=h.consE;simpa using RelWs.get (i:=i) b (by simpa using e)
theorem RelWs.take:∀{ws:List W} {vs:List V} (n:Nat),RelWs K μ H ws vs->RelWs K μ H (ws.take n) (vs.take n)
 |_,_,0,_=>by simp only[oE];exact .nilI
 |[],vs,n+1,h=>by rw[h.nilE];exact .nilI
 |x::ws,vs,n+1,h=>by obtain⟨y,ys,rfl,a,b⟩:=h.consE;exact .consI a (RelWs.take n b)
theorem RelWs.drop:∀{ws:List W} {vs:List V} (n:Nat),RelWs K μ H ws vs->RelWs K μ H (ws.drop n) (vs.drop n)
 |_,_,0,h=>h
 |[],vs,n+1,h=>by rw[h.nilE];exact .nilI
 |x::ws,vs,n+1,h=>by obtain⟨y,ys,rfl,a,b⟩:=h.consE;exact RelWs.drop n b
theorem RelWs.setI:∀{ws:List W} {vs:List V} (i:Nat) {w:W} {v:V},bE K μ H w v->RelWs K μ H ws vs->RelWs K μ H (ws.set i w) (vs.set i v)
 |[],vs,_,_,_,_,h=>by rw[h.nilE];exact .nilI
 |x::ws,vs,0,w,v,r,h=>by obtain⟨y,ys,rfl,a,b⟩:=h.consE;exact .consI r b
 |x::ws,vs,i+1,w,v,r,h=>by obtain⟨y,ys,rfl,a,b⟩:=h.consE;exact .consI a (RelWs.setI i r b)
theorem bE.intE{i:Int}{v:V}(h:bE K μ H (.int i) v):v=.int i:=by unfold bE at h;exact h
theorem bE.blE{b:Bool}{v:V}(h:bE K μ H (.bl b) v):v=.bl b:=by unfold bE at h;exact h
theorem bE.nonE{v:V}(h:bE K μ H .non v):v=.non:=by unfold bE at h;exact h
theorem bE.strE{l:List Nat}{v:V}(h:bE K μ H (.str l) v):v=.str (tx l):=by unfold bE at h;exact h
theorem bE.tupE{ws:List W}{v:V}(h:bE K μ H (.tup ws) v):∃p vs,v=.ref p/\gK K H p vs/\RelWs K μ H ws vs:=by unfold bE at h;exact h
theorem bE.locE{n:Nat}{v:V}(h:bE K μ H (.loc n) v):∃a,μ[n]?=some a/\v=.ref a:=by unfold bE at h;exact h
theorem bE.int{i:Int}:bE K μ H (.int i) (.int i):=by unfold bE;rfl
theorem bE.bl{i:Bool}:bE K μ H (.bl i) (.bl i):=by unfold bE;rfl
theorem bE.non:bE K μ H .non .non:=by unfold bE;rfl
theorem bE.str{l:List Nat}:bE K μ H (.str l) (.str (tx l)):=by unfold bE;rfl
theorem bE.tupI{ws:List W}{p:Addr}{vs:List V}(a:gK K H p vs)(b:RelWs K μ H ws vs):bE K μ H (.tup ws) (.ref p):=by unfold bE;exact⟨p,vs,rfl,a,b⟩
theorem bE.locI{n:Nat}{a:Addr}(e:μ[n]?=some a):bE K μ H (.loc n) (.ref a):=by unfold bE;exact⟨a,e,rfl⟩
end
def tV(a:Addr)(C:Value):HO:=.ext fun h=>∃o vs,h.get? a=some o/\o.cls=C/\o.data=.fields vs
def yg(b:Addr)(q:Str):HO:=.ext fun h=>∃o vs t,h.get? b=some o/\o.data=.fields vs/\vs[1]?=some (.str q t)
def Rv(K:Frag)(H:Hp)(a:Addr)(xs:List V):Prop:=
 (∃o,H a=some (.frz o (.lst xs)))\/∃(o:Obj) (bN:Array Value) (n:Nat),K.lookup a=some o/\o.cls=.type "list"/\o.dict=none/\o.data=.seq bN n/\bN.size<=sizeLine/\cJ 0 xs bN.toList
theorem Rv.sq{K:Frag}{H:Hp}{a:Addr}{xs:List V}(h:Rv K H a xs):sf K H a xs:=by
 rcases h with⟨o,h⟩|h
 ·exact .inl (.inr ⟨o,h⟩)
 ·exact .inr h
def ao.isRo:ao->Bool
 |.ro _=>true
 |.gone=>true
 |_=>false
def DX(a:Addr)(es:List DictEntry):Heap->Prop:=fun h=>∃o ep,h.get? a=some o/\o.ExactDict/\o.data=.dict es.toArray ep
abbrev Tf(a:Addr)(es:List DictEntry):HO:=.ext (DX a es)
def yh(K:Frag)(μ:List Addr)(H:Hp)(p:KX×W)(e:DictEntry):Prop:=e.hash=p.1.hash/\(∃v,bE K μ H p.1.w v/\cO 0 v e.key)/\∃v,bE K μ H p.2 v/\cO 0 v e.val
def Sg(a:Addr)(o:Obj):HO:=.ext fun h=>h.get? a=some o
def k7(K:Frag)(mg:Str->Option Value)(μ:List Addr)(H:Hp):ao->Addr->Prop
 |.lst ws,a=>∃vs,H a=some (.lst vs)/\RelWs K μ H ws vs
 |.ro ws,a=>∃vs,Rv K H a vs/\RelWs K μ H ws vs
 |.exc c,a=>∃C,mg c=some C/\H a=some (tV a C)
 |.dct kvs,a=>∃vs,H a=some (.dK ((kvs.map fun p=>p.1.key).zip vs))/\RelWs K μ H (kvs.map fun p=>p.2) vs
 |.rod kvs,a=>∃vs o,H a=some (.frz o (.dK ((kvs.map fun p=>p.1.key).zip vs)))/\RelWs K μ H (kvs.map fun p=>p.2) vs
 |.dcx kvs,a=>∃es,H a=some (Tf a es)/\(a==sysModules)=false/\Paired (yh K μ H) kvs es/\(kvs.map fun p=>p.1).Nodup
 |.rox kvs,a=>∃es o,H a=some (.frz o (Tf a es))/\(a==sysModules)=false/\Paired (yh K μ H) kvs es/\(kvs.map fun p=>p.1).Nodup
 |.obj c fs,a=>∃C dx vs,mg c=some (.ref C)/\H a=some (.ins C dx ((fs.map fun p=>p.1).zip vs))/\RelWs K μ H (fs.map fun p=>p.2) vs
 |.tab P pos q,a=>a=P/\∃ps,H a=some (.tbl ps)/\TriplesOk ps.toList/\(codeAmong pos ps.toList=none\/∃c,codeAmong pos ps.toList=some (.ref c)/\H c=some (yg c q))
 |.pin k c o w,a=>a=c/\H a=some (Sg a o)/\(k=false->∃fd cd,o.data=.func fd/\fd.code=.ref cd/\H cd=some (yg cd fd.qualname))/\∃v,bE K μ H w v/\(k=true->∃u,o.data=.cell (some u)/\cO 0 v u)
 |.gone,_=>True
structure iI(K:Frag)(mg:Str->Option Value)(μ:List Addr)(st:List ao)(H:Hp):Prop where
 nd:∀(i j:Nat) (a:Addr) (ci cj:ao),st[i]?=some ci->st[j]?=some cj->ci.isRo=false->cj.isRo=false->μ[i]?=some a->μ[j]?=some a->i=j
 len:st.length=μ.length
 at':∀(i:Nat) (c:ao) (a:Addr),st[i]?=some c->μ[i]?=some a->k7 K mg μ H c a
section
variable{K:Frag}{mg:Str->Option Value}{μ μ':List Addr}{H H':Hp}{st:List ao}
theorem yh.mono(h:μ <+: μ')(x:eX K H H'){p:KX×W}{e:DictEntry}(r:yh K μ H p e):yh K μ' H' p e:=by
 obtain⟨a,⟨v,b,c⟩,u,d,g⟩:=r
 exact⟨a,⟨v,b.mono h x,c⟩,u,d.mono h x,g⟩
theorem k7.keep(h:μ <+: μ')(x:eX K H H'){c:ao}{a:Addr}(e:∀o,H a=some o->H' a=some o)(e2:∀b q,H b=some (yg b q)->H' b=some (yg b q))(r:k7 K mg μ H c a):k7 K mg μ' H' c a:=by
 cases c with
 |lst ws=>obtain⟨vs,p,y⟩:=r;exact⟨vs,e _ p,y.mono h x⟩
 |ro ws=>
  obtain⟨vs,p,y⟩:=r
  refine⟨vs,?_,y.mono h x⟩
  rcases p with⟨o,p⟩|p
  ·exact .inl ⟨o,e _ p⟩
  ·exact .inr p
 |exc c=>obtain⟨C,p,y⟩:=r;exact⟨C,p,e _ y⟩
 |dct kvs=>obtain⟨vs,p,y⟩:=r;exact⟨vs,e _ p,y.mono h x⟩
 |rod kvs=>obtain⟨vs,o,p,y⟩:=r;exact⟨vs,o,e _ p,y.mono h x⟩
 |dcx kvs=>obtain⟨es,p,d,y,z⟩:=r;exact⟨es,e _ p,d,Paired.imp' (fun _ _ q=>q.mono h x) y,z⟩
 |rox kvs=>obtain⟨es,o,p,d,y,z⟩:=r;exact⟨es,o,e _ p,d,Paired.imp' (fun _ _ q=>q.mono h x) y,z⟩
 |obj c fs=>obtain⟨C,dx,vs,m,p,y⟩:=r;exact⟨C,dx,vs,m,e _ p,y.mono h x⟩
 |tab P pos q=>
  obtain⟨ea,ps,p,t,y⟩:=r
  refine⟨ea,ps,e _ p,t,?_⟩
  rcases y with y|⟨c,y,z⟩
  ·exact .inl y
  ·exact .inr ⟨c,y,e2 _ _ z⟩
 |pin k c o w=>obtain⟨ea,p,g,v,y,z⟩:=r;exact⟨ea,e _ p,fun q=>let ⟨fd,cd,q1,q2,q3⟩:=g q;⟨fd,cd,q1,q2,e2 _ _ q3⟩,v,y.mono h x,z⟩
 |gone=>trivial
theorem k7.ro_ne{c:ao}{a:Addr}(r:k7 K mg μ H c a)(h:c.isRo=false):∃o,H a=some o:=by
 cases c with
 |lst ws=>obtain⟨vs,p,y⟩:=r;exact⟨_,p⟩
 |ro ws=>cases h
 |exc c=>obtain⟨C,p,y⟩:=r;exact⟨_,y⟩
 |dct kvs=>obtain⟨vs,p,y⟩:=r;exact⟨_,p⟩
 |rod kvs=>obtain⟨vs,o,p,y⟩:=r;exact⟨_,p⟩
 |dcx kvs=>obtain⟨es,p,_⟩:=r;exact⟨_,p⟩
 |rox kvs=>obtain⟨es,o,p,_⟩:=r;exact⟨_,p⟩
 |obj c fs=>obtain⟨C,dx,vs,m,p,y⟩:=r;exact⟨_,p⟩
 |tab P pos q=>obtain⟨_,ps,p,_⟩:=r;exact⟨_,p⟩
 |pin k c o w=>obtain⟨_,p,_⟩:=r;exact⟨_,p⟩
 |gone=>cases h
theorem iI.same(S:iI K mg μ st H)(e:sR H H'):iI K mg μ st H':=⟨S.nd,S.len,fun i c a h1 h2=>(S.at' i c a h1 h2).keep (al _) (gK.same e) (e a) fun b q h=>e b _ h⟩
theorem iI.get(S:iI K mg μ st H){n:Nat}{c:ao}(h:st[n]?=some c):∃a,μ[n]?=some a/\k7 K mg μ H c a:=by
 have hn:n<μ.length:=by rw[<- S.len];exact(ak.mp h).1
 exact⟨μ[n],aq hn,S.at' n c _ h (aq hn)⟩
theorem iI.push(S:iI K mg μ st H){p:Addr}{o:HO}{c:ao}(hp:H p=none)(hc:k7 K mg (μ++[p]) (eT H p o) c p):iI K mg (μ++[p]) (st++[c]) (eT H p o):=by
 have hs:sR H (eT H p o):=cQ hp o
 have DS:μ <+: μ++[p]:=bJ _ _
 have old:∀{i:Nat} {d:ao} {a:Addr},i<st.length->(st++[c])[i]?=some d->(μ++[p])[i]?=some a->st[i]?=some d/\μ[i]?=some a:=fun{i d a} hi h1 h2=>by
  rw[bq hi]at h1
  rw[bq (by rw[<- S.len];exact hi)]at h2
  exact⟨h1,h2⟩
 have new:∀{i:Nat} {d:ao} {a:Addr},¬ i<st.length->(st++[c])[i]?=some d->(μ++[p])[i]?=some a->i=st.length/\d=c/\a=p:=fun{i d a} hi h1 h2=>by
  have hi':i=st.length:=by
   have:=(ak.mp h1).1
   simp at this;omega
  subst hi'
  simp at h1
  rw[S.len,fw (aw _)]at h2
  simp at h2
  exact⟨rfl,h1.symm,h2.symm⟩
 refine⟨fun i j a ci cj h1 h2 r1 r2 m1 m2=>?_,by simp[S.len],fun i d a h1 h2=>?_⟩
 ·by_cases hi:i<st.length
  ·obtain⟨x1,x2⟩:=old hi h1 m1
   by_cases hj:j<st.length
   ·obtain⟨y1,y2⟩:=old hj h2 m2
    exact S.nd i j a ci cj x1 y1 r1 r2 x2 y2
   ·obtain⟨_,_,rfl⟩:=new hj h2 m2
    obtain⟨o',z⟩:=(S.at' i ci a x1 x2).ro_ne r1
    rw[hp]at z;cases z
  ·obtain⟨e1,_,rfl⟩:=new hi h1 m1
   by_cases hj:j<st.length
   ·obtain⟨y1,y2⟩:=old hj h2 m2
    obtain⟨o',z⟩:=(S.at' j cj a y1 y2).ro_ne r2
    rw[hp]at z;cases z
   ·obtain⟨e2,_,_⟩:=new hj h2 m2
    omega
 ·by_cases hi:i<st.length
  ·obtain⟨x1,x2⟩:=old hi h1 h2
   exact(S.at' i d a x1 x2).keep DS (gK.same hs) (hs a) fun b q h=>hs b _ h
  ·obtain⟨_,rfl,rfl⟩:=new hi h1 h2
   exact hc
theorem iI.setG(S:iI K mg μ st H){n:Nat}{a:Addr}{c c':ao}{o o':HO}(hn:st[n]?=some c)(zL:c.isRo=false)(hm:μ[n]?=some a)(ha:H a=some o)(hf:∀q u,o≠.frz q u)(hg:∀q,o≠yg a q)(hx:eX K H (eT H a o'))(T9:c'.isRo=false)(hr:k7 K mg μ (eT H a o') c' a):iI K mg μ (st.set n c') (eT H a o'):=by
 have hl:n<st.length:=(ak.mp hn).1
 have back:∀{i:Nat} {d:ao},(st.set n c')[i]?=some d->∃d',st[i]?=some d'/\(d'=d\/(i=n/\d=c')):=fun{i d} h=>by
  by_cases e:i=n
  ·subst e
   rw[bI hl]at h
   exact⟨_,hn,.inr ⟨rfl,(bc h).symm⟩⟩
  ·rw[bU (Ne.symm e)]at h
   exact⟨d,h,.inl rfl⟩
 refine⟨fun i j b ci cj h1 h2 r1 r2 m1 m2=>?_,by simp[S.len],fun i d b h1 h2=>?_⟩
 ·obtain⟨di,x1,y1⟩:=back h1
  obtain⟨dj,x2,y2⟩:=back h2
  refine S.nd i j b di dj x1 x2 ?_ ?_ m1 m2
  ·rcases y1 with rfl|⟨rfl,rfl⟩
   ·exact r1
   ·rw[hn]at x1;cases x1;exact zL
  ·rcases y2 with rfl|⟨rfl,rfl⟩
   ·exact r2
   ·rw[hn]at x2;cases x2;exact zL
 ·by_cases e:i=n
  ·subst e
   rw[bI hl]at h1
   cases h1
   rw[hm]at h2;cases h2
   exact hr
  ·rw[bU (Ne.symm e)]at h1
   have r:=S.at' i d b h1 h2
   by_cases hrd:d.isRo=true
   ·cases d with
    |ro zs=>
     obtain⟨us,p,q⟩:=r
     refine⟨us,?_,q.mono (al _) hx⟩
     rcases p with⟨o2,p⟩|p
     ·exact .inl ⟨o2,by rw[cW (by rintro rfl;rw[ha]at p;cases p;exact hf _ _ rfl)];exact p⟩
     ·exact .inr p
    |lst _=>cases hrd
    |exc _=>cases hrd
    |dct _=>cases hrd
    |rod _=>cases hrd
    |dcx _=>cases hrd
    |rox _=>cases hrd
    |obj _ _=>cases hrd
    |tab _ _ _=>cases hrd
    |pin _ _ _ _=>cases hrd
    |gone=>trivial
   ·refine r.keep (al _) hx (fun o ho=>?_) fun b' q h=>by rw[cW (by rintro rfl;rw[ha]at h;cases h;exact hg _ rfl)];exact h
    have hb:b≠a:=by
     rintro rfl
     exact e (S.nd i n b d _ h1 hn (by simpa using hrd) zL h2 hm)
    rw[cW hb];exact ho
theorem iI.set(S:iI K mg μ st H){n:Nat}{a:Addr}{ws Rn:List W}{vs HY:List V}(hn:st[n]?=some (.lst ws))(hm:μ[n]?=some a)(ha:H a=some (.lst vs))(hr:RelWs K μ H Rn HY):iI K mg μ (st.set n (.lst Rn)) (eT H a (.lst HY)):=by
 have hx:eX K H (eT H a (.lst HY)):=gK.but mv ha
 have hl:n<st.length:=(ak.mp hn).1
 have back:∀{i:Nat} {d:ao},(st.set n (.lst Rn))[i]?=some d->∃d',st[i]?=some d'/\(d'=d\/(i=n/\d=.lst Rn)):=fun{i d} h=>by
  by_cases e:i=n
  ·subst e
   rw[bI hl]at h
   exact⟨_,hn,.inr ⟨rfl,(bc h).symm⟩⟩
  ·rw[bU (Ne.symm e)]at h
   exact⟨d,h,.inl rfl⟩
 refine⟨fun i j b ci cj h1 h2 r1 r2 m1 m2=>?_,by simp[S.len],fun i d b h1 h2=>?_⟩
 ·obtain⟨di,x1,y1⟩:=back h1
  obtain⟨dj,x2,y2⟩:=back h2
  refine S.nd i j b di dj x1 x2 ?_ ?_ m1 m2
  ·rcases y1 with rfl|⟨rfl,rfl⟩
   ·exact r1
   ·rw[hn]at x1;cases x1;rfl
  ·rcases y2 with rfl|⟨rfl,rfl⟩
   ·exact r2
   ·rw[hn]at x2;cases x2;rfl
 ·by_cases e:i=n
  ·subst e
   rw[bI hl]at h1
   cases h1
   rw[hm]at h2;cases h2
   exact⟨HY,gq,hr.mono (al _) hx⟩
  ·rw[bU (Ne.symm e)]at h1
   have r:=S.at' i d b h1 h2
   by_cases zL:d.isRo=true
   ·cases d with
    |ro zs=>
     obtain⟨us,p,q⟩:=r
     refine⟨us,?_,q.mono (al _) hx⟩
     rcases p with⟨o',p⟩|p
     ·exact .inl ⟨o',by rw[cW (by rintro rfl;rw[ha]at p;cases p)];exact p⟩
     ·exact .inr p
    |lst _=>cases zL
    |exc _=>cases zL
    |dct _=>cases zL
    |rod _=>cases zL
    |dcx _=>cases zL
    |rox _=>cases zL
    |obj _ _=>cases zL
    |tab _ _ _=>cases zL
    |pin _ _ _ _=>cases zL
    |gone=>trivial
   ·refine r.keep (al _) hx (fun o ho=>?_) fun b' q h=>by rw[cW (by rintro rfl;rw[ha]at h;cases h)];exact h
    have hb:b≠a:=by
     rintro rfl
     exact e (S.nd i n b d _ h1 hn (by simpa using zL) rfl h2 hm)
    rw[cW hb];exact ho
end
end L2
namespace L2
variable{nk:Nat}
open PySem PySem.Spec PyProof.Rows
structure Rl(X:Cx)(μ:List Addr)(ρ:b6)(st:List ao)(σ:St)(H:Hp):Prop where
 env:Paired (fun(o:Option W) (s:Option V)=>∀w,o=some w->∃v,s=some v/\bE X.K μ H w v) ρ σ
 sto:iI X.K X.mg μ st H
theorem rA{K:Frag}{μ μ':List Addr}{H H':Hp}(h:μ <+: μ')(x:eX K H H'):∀{ρ:b6} {σ:St},Paired (fun(o:Option W) (s:Option V)=>∀w,o=some w->∃v,s=some v/\bE K μ H w v) ρ σ ->
  Paired (fun(o:Option W) (s:Option V)=>∀w,o=some w->∃v,s=some v/\bE K μ' H' w v) ρ σ
 |_,_,.nil=>.nil
 |_,_,.cons a t=>.cons (fun w e=>let ⟨v,p,q⟩:=a w e;⟨v,p,q.mono h x⟩) (rA h x t)
theorem Rl.to{X:Cx}{μ μ':List Addr}{ρ:b6}{st bf:List ao}{σ:St}{H H':Hp}(r:Rl X μ ρ st σ H)(h:μ <+: μ')(x:eX X.K H H')(s:iI X.K X.mg μ' bf H'):Rl X μ' ρ bf σ H':=⟨rA h x r.env,s⟩
theorem tW{K:Frag}{μ:List Addr}{H:Hp}:∀{ρ:b6} {σ:St} {i:Nat} {w:W},Paired (fun(o:Option W) (s:Option V)=>∀w,o=some w->∃v,s=some v/\bE K μ H w v) ρ σ->ρ[i]?=some (some w)->∃v,σ[i]?=some (some v)/\bE K μ H w v
 |_,_,_,_,.nil,e=>by simp at e
 |_,_,0,w,.cons a t,e=>by simp at e;obtain⟨v,p,q⟩:=a w e;exact⟨v,by simp[p],q⟩
 |_,_,i+1,w,.cons a t,e=>by simpa using tW (i:=i) t (by simpa using e)
theorem qy{K:Frag}{μ:List Addr}{H:Hp}{w:W}{v:V}(r:bE K μ H w v):∀{ρ:b6} {σ:St} (i:Nat),Paired (fun(o:Option W) (s:Option V)=>∀w,o=some w->∃v,s=some v/\bE K μ H w v) ρ σ ->
  Paired (fun(o:Option W) (s:Option V)=>∀w,o=some w->∃v,s=some v/\bE K μ H w v) (ρ.set i (some w)) (σ.set i (some v))
 |_,_,_,.nil=>.nil
 |_,_,0,.cons a t=>.cons (fun w' e=>⟨v,rfl,by cases e;exact r⟩) t
 |_,_,i+1,.cons a t=>.cons a (qy r i t)
structure sv(X:Cx)(aj:List (Addr×Obj))(σ:St)(c:Str)(H:Hp)(e:Value)(s:Shared):Prop where
 inv:bF X aj σ H s
 ex:∃x C t B,e=.ref x/\X.mg c=some C/\H x=none/\B.StaysIn s.heap/\B.get? x=none/\s.heap.FunFrames B X.stack /\
  (s.heap.TracedW B x C (.ref t)\/(∃oe vs,s.heap.get? x=some oe/\oe.cls=C/\oe.dict=none/\oe.data=.fields vs/\vs[1]?=some .none/\vs[0]?=some (.ref t))\/∃L,X.env.frame=some L/\s.heap.TracedAtW B x C (.ref t) (rawInt L)) /\
  ∀b o,s.heap.get? b=some o->(H b≠none\/((∃o0,X.s₀.heap.get? b=some o0)/\b∉X.fs/\b∉X.ex)\/((∃y,X.env.cells.lookup y=some b)/\b∉qo X.stack)\/∃p∈X.pn++aj,p.1=b)->B.get? b=some o
def XS(X:Cx)(c:Str)(μ:List Addr)(ρ:b6)(st:List ao)(H:Hp):Prop:=
 ∀aj μ' σ' H' e s',μ <+: μ'->eX X.K H H'->Rl X μ' ρ st σ' H'->sv X aj σ' c H' e s'->X.xe e s'
def XE(X:Cx)(c:Str)(μ:List Addr)(st:List ao)(σ:St)(H:Hp):Prop:=
 ∀aj μ' H' e s',μ <+: μ'->eX X.K H H'->iI X.K X.mg μ' st H'->sv X aj σ c H' e s'->X.xe e s'
theorem XE.mono{X:Cx}{c:Str}{μ μ1:List Addr}{st:List ao}{σ:St}{H H1:Hp}(h:XE X c μ st σ H)(p:μ <+: μ1)(x:eX X.K H H1):XE X c μ1 st σ H1:=fun aj μ' H' e s' a b=>h aj μ' H' e s' (p.trans a) (x.trans b)
theorem XS.mono{X:Cx}{c:Str}{μ μ1:List Addr}{ρ:b6}{st:List ao}{H H1:Hp}(h:XS X c μ ρ st H)(p:μ <+: μ1)(x:eX X.K H H1):XS X c μ1 ρ st H1:=fun aj μ' σ' H' e s' a b=>h aj μ' σ' H' e s' (p.trans a) (x.trans b)
theorem XS.toE{X:Cx}{c:Str}{μ:List Addr}{ρ:b6}{RH st:List ao}{σ:St}{H:Hp}(h:XS X c μ ρ st H)(r:Rl X μ ρ RH σ H):XE X c μ st σ H:=fun aj μ' H' e s' a b s f=>h aj μ' σ H' e s' a b (r.to a b s) f
def RK{α β:Type}(X:Cx)(rel:List Addr->Hp->α->β->Prop)(μ:List Addr)(σ:St)(H:Hp)(Q:β->Hp->Prop):R α->Prop
 |.ok a bf=>∀μ' b H',μ <+: μ'->eX X.K H H'->iI X.K X.mg μ' bf H'->rel μ' H' a b->Q b H'
 |.ex c bf=>XE X c μ bf σ H
 |.bad=>False
theorem RK.mono{α β:Type}{X:Cx}{rel:List Addr->Hp->α->β->Prop}{μ μ1:List Addr}{σ:St}{H H1:Hp}{Q:β->Hp->Prop}{r:R α}(h:RK X rel μ σ H Q r)(p:μ <+: μ1)(x:eX X.K H H1):RK X rel μ1 σ H1 Q r:=by
 cases r with
 |ok a st=>exact fun μ' b H' a1 b1=>h μ' b H' (p.trans a1) (x.trans b1)
 |ex c st=>exact XE.mono h p x
 |bad=>exact h
def tG{α β:Type}(X:Cx)(rel:List Addr->Hp->α->β->Prop)(f:b6->List ao->R α)(σ:St)(H:Hp)(Q:β->Hp->Prop):Prop:=
 ∃μ ρ st,Rl X μ ρ st σ H/\RK X rel μ σ H Q (f ρ st)
abbrev u0(X:Cx):List Addr->Hp->W->V->Prop:=fun μ H w v=>bE X.K μ H w v
abbrev Si(X:Cx):List Addr->Hp->List W->List V->Prop:=fun μ H w v=>RelWs X.K μ H w v
abbrev Mo:List Addr->Hp->Bool->Bool->Prop:=fun _ _ a b=>a=b
abbrev tE(X:Cx)(f:FE):TE:=tG X (u0 X) f
abbrev tT(X:Cx)(f:FT):TT:=tG X Mo f
abbrev Sj(X:Cx)(f:FA):TA:=tG X (Si X) f
theorem RK.bind{α β α' β':Type}{X:Cx}{rel:List Addr->Hp->α->β->Prop}{Rg:List Addr->Hp->α'->β'->Prop}{μ:List Addr}{ρ:b6}{st:List ao}{σ:St}{H:Hp}{r:R α}{k:α->List ao->R α'}{Q:β'->Hp->Prop}{T:β->Hp->Prop}
  (h:RK X Rg μ σ H Q (r.bind k)) (l:Rl X μ ρ st σ H)
  (hk:∀μ' bf x v H',μ <+: μ'->eX X.K H H'->Rl X μ' ρ bf σ H'->rel μ' H' x v->RK X Rg μ' σ H' Q (k x bf)->T v H'):RK X rel μ σ H T r:=by
 cases r with
 |ok a bf=>exact fun μ' b H' p x s q=>hk μ' bf a b H' p x (l.to p x s) q (RK.mono h p x)
 |ex c bf=>exact h
 |bad=>exact h
def SK(X:Cx)(μ:List Addr)(H:Hp)(D:wg):RS->Prop
 |.nx ρ st=>∀μ' σ' H',μ <+: μ'->eX X.K H H'->Rl X μ' ρ st σ' H'->D.nx σ' H'
 |.bk ρ st=>∀μ' σ' H',μ <+: μ'->eX X.K H H'->Rl X μ' ρ st σ' H'->D.bk σ' H'
 |.ct ρ st=>∀μ' σ' H',μ <+: μ'->eX X.K H H'->Rl X μ' ρ st σ' H'->D.ct σ' H'
 |.rt w st=>∀μ' v H',μ <+: μ'->eX X.K H H'->iI X.K X.mg μ' st H'->bE X.K μ' H' w v->D.rt v H'
 |.ex c ρ st=>XS X c μ ρ st H
 |.bad=>False
theorem SK.mono{X:Cx}{μ μ1:List Addr}{H H1:Hp}{D:wg}{r:RS}(h:SK X μ H D r)(p:μ <+: μ1)(x:eX X.K H H1):SK X μ1 H1 D r:=by
 cases r with
 |nx ρ st=>exact fun μ' b H' a1 b1=>h μ' b H' (p.trans a1) (x.trans b1)
 |bk ρ st=>exact fun μ' b H' a1 b1=>h μ' b H' (p.trans a1) (x.trans b1)
 |ct ρ st=>exact fun μ' b H' a1 b1=>h μ' b H' (p.trans a1) (x.trans b1)
 |rt w st=>exact fun μ' b H' a1 b1=>h μ' b H' (p.trans a1) (x.trans b1)
 |ex c ρ st=>exact XS.mono h p x
 |bad=>exact h
def Rw(X:Cx)(g:FS):TS:=fun D σ H=>∃μ ρ st,Rl X μ ρ st σ H/\SK X μ H D (g ρ st)
structure SE(X:Cx)(e:Expr)(f:FE):Prop where
 h:PE X e (tE X f)
structure ST(X:Cx)(e:Expr)(f:FT):Prop where
 h:PT X e (tT X f)
structure SW(X:Cx)(e:Expr)(f:FT):Prop where
 h:PW X e (tT X f)
structure SA(X:Cx)(es:List Expr)(f:FA):Prop where
 h:PA X es (Sj X f)
structure SS(X:Cx)(s:Stmt)(g:FS):Prop where
 h:PS X s (Rw X g)
structure SB(X:Cx)(s:List Stmt)(g:FS):Prop where
 h:CW X s (Rw X g)
theorem PE.imp{X:Cx}{e:Expr}{t t':TE}(h:PE X e t)(i:∀σ H Q,t' σ H Q->t σ H Q):PE X e t':=fun aj s σ H Q I q=>h aj s σ H Q I (i _ _ _ q)
theorem PT.imp{X:Cx}{e:Expr}{t t':TT}(h:PT X e t)(i:∀σ H Q,t' σ H Q->t σ H Q):PT X e t':=fun aj s σ H Q I q=>h aj s σ H Q I (i _ _ _ q)
theorem PW.imp{X:Cx}{e:Expr}{t t':TT}(h:PW X e t)(i:∀σ H Q,t' σ H Q->t σ H Q):PW X e t':=fun wh aj s σ H Q I q=>h wh aj s σ H Q I (i _ _ _ q)
theorem PA.imp{X:Cx}{e:List Expr}{t t':TA}(h:PA X e t)(i:∀σ H Q,t' σ H Q->t σ H Q):PA X e t':=fun pos aj s σ H Q I q=>h pos aj s σ H Q I (i _ _ _ q)
theorem PS.imp{X:Cx}{e:Stmt}{t t':TS}(h:PS X e t)(i:∀D σ H,t' D σ H->t D σ H):PS X e t':=fun aj s σ H D I q=>h aj s σ H D I (i _ _ _ q)
theorem CW.imp{X:Cx}{e:List Stmt}{t t':TS}(h:CW X e t)(i:∀D σ H,t' D σ H->t D σ H):CW X e t':=fun aj s σ H D I q=>h aj s σ H D I (i _ _ _ q)
section
variable{X:Cx}{a b c e o:Expr}{es:List Expr}{pos p p2 gc du:Pos}{x name:Str}{j:Nat}{fP:List Expr}{fa fb fc fe:FE}{ft fu:FT}{fs:FA}
def ag(i:Nat):FE:=fun ρ st=>match ρ[i]? with
 |some (some w)=>.ok w st
 |_=>.bad
theorem ae(i:Nat){x:Str}{pos:Pos}(hN:X.N[i]?=some x:=by rfl)(hv:OH X.env.scope x:=by first|exact Or.inl rfl|exact Or.inr (Or.inl rfl)|exact Or.inr (Or.inr rfl))(hd:(x==("__debug__":Str))=false:=by decide)
  (uS:(x==("__classdict__":Str))=false:=by decide):SE X (.Name x pos) (ag i):=⟨(pv i hN hv hd uS).imp fun σ H Q h=>by
 obtain⟨μ,ρ,st,r,h⟩:=h
 unfold ag at h
 cases e:ρ[i]? with
 |none=>rw[e]at h;exact h.elim
 |some ow=>
  cases ow with
  |none=>rw[e]at h;exact h.elim
  |some w=>
   rw[e]at h
   obtain⟨v,e1,e2⟩:=tW r.env e
   exact⟨v,e1,h μ v H (al _) eX.refl r.sto e2⟩⟩
def eC(w:W):FE:=fun _ st=>.ok w st
abbrev eI(n:Int):FE:=eC (.int n)
theorem PD{w:W}{v:V}(hc:PE X e (tC v))(hr:∀μ H,bE X.K μ H w v):SE X e (eC w):=⟨hc.imp fun σ H Q h=>by
 obtain⟨μ,ρ,st,r,h⟩:=h
 exact h μ v H (al _) eX.refl r.sto (hr _ _)⟩
theorem au{i:Int}:SE X (.Constant (.int i) j pos) (eC (.int i)):=PD Lu fun _ _=>.int
theorem tX{k:Bool}:SE X (.Constant (.bool k) j pos) (eC (.bl k)):=PD OJ fun _ _=>.bl
theorem tY:SE X (.Constant .none j pos) (eC .non):=PD Lv fun _ _=>.non
theorem cm{l:List Nat}(h:x=tx l:=by decide +kernel):SE X (.Constant (.str x) j pos) (eC (.str l)):=PD D0 fun _ _=>by rw[h];exact .str
theorem Mp{w:W}(h:∃u v,X.mg x=some u/\cO 0 v u/\∀μ H,bE X.K μ H w v)(hg:Gl X x:=by rfl)(hd:(x==("__debug__":Str))=false:=by decide):SE X (.Name x pos) (eC w):=by
 obtain⟨u,v,a,b,c⟩:=h
 exact PD (Pm ⟨u,a,b⟩ hg hd) c
def e2(f:W->W->List ao->R W)(fa fb:FE):FE:=fun ρ st=>(fa ρ st).bind fun x st=>(fb ρ st).bind fun y st=>f x y st
def DV(X:Cx)(μ:List Addr)(H:Hp)(Q:VK):R W->Prop
 |.ok w bf=>∀μ' v H',μ <+: μ'->eX X.K H H'->iI X.K X.mg μ' bf H'->bE X.K μ' H' w v->Q v H'
 |_=>False
def qz{α:Type}:R α->Prop
 |.ex _ _=>False
 |_=>True
def PF(X:Cx)(f:W->W->List ao->R W):R2:=fun x y H Q=>∃μ st wx wy,iI X.K X.mg μ st H/\bE X.K μ H wx x/\bE X.K μ H wy y/\DV X μ H Q (f wx wy st)
structure rh(X:Cx)(g:Value->Value->Sem Value)(f:W->W->List ao->R W):Prop where
 h:lX X g (PF X f)
 n:∀x y st,qz (f x y st)
theorem nH{μ:List Addr}{σ:St}{H:Hp}{Q:VK}{r:R W}(h:RK X (u0 X) μ σ H Q r)(n:qz r):DV X μ H Q r:=by
 cases r with
 |ok a st=>exact h
 |ex c st=>exact n.elim
 |bad=>exact h
theorem BQ{f:W->W->List ao->R W}{σ:St}{H:Hp}{Q:VK}(n:∀x y st,qz (f x y st))(h:tE X (e2 f fa fb) σ H Q):OX (PF X f) (tE X fa) (tE X fb) σ H Q:=by
 obtain⟨μ,ρ,st,l,h⟩:=h
 refine⟨μ,ρ,st,l,RK.bind h l fun μ1 st1 x v H1 p1 x1 l1 q1 h1=>⟨μ1,ρ,st1,l1,RK.bind h1 l1 fun μ2 cN y u H2 p2 x2 l2 q2 h2=>?_⟩⟩
 exact⟨μ2,cN,x,y,l2.sto,q1.mono p2 x2,q2,nH h2 (n _ _ _)⟩
theorem bg{op:Operator}{f:W->W->List ao->R W}(ho:rh X (binaryOp op) f)(ha:SE X a fa)(hb:SE X b fb):SE X (.BinOp a op b pos) (e2 f fa fb):=⟨(OY ho.h ha.h hb.h).imp fun _ _ _ h=>BQ ho.n h⟩
theorem jR{op:CmpOp}{f:W->W->List ao->R W}(ho:rh X (compareOp op) f)(ha:SE X a fa)(hb:SE X b fb)(hm:behindInMarks op b=false:=by first|exact Ea _|rfl):SE X (.Compare a [op] [b] pos) (e2 f fa fb):=⟨(Ir ho.h ha.h hb.h hm).imp fun _ _ _ h=>BQ ho.n h⟩
def dA(fa:FE):FT:=fun ρ st=>(fa ρ st).bind fun x st=>match x with
 |.bl k=>.ok k st
 |_=>.bad
theorem qA{σ:St}{H:Hp}{Q:Bool->Hp->Prop}(h:tT X (dA fa) σ H Q):tE X fa σ H fun x H1=>∃k,x=.bl k/\Q k H1:=by
 obtain⟨μ,ρ,st,l,h⟩:=h
 refine⟨μ,ρ,st,l,RK.bind h l fun μ1 st1 x v H1 p1 x1 l1 q1 h1=>?_⟩
 cases x with
 |bl k=>exact⟨k,q1.blE,h1 μ1 k H1 (al _) eX.refl l1.sto rfl⟩
 |_=>exact h1.elim
theorem br{op:CmpOp}{f:W->W->List ao->R W}(ho:rh X (compareOp op) f)(ha:SE X a fa)(hb:SE X b fb)(hm:behindInMarks op b=false:=by first|exact Ea _|rfl):ST X (.Compare a [op] [b] pos) (dA (e2 f fa fb)):=⟨(Iu ho.h ha.h hb.h hm).imp fun σ H Q h=>by
 have h':tE X (e2 f fa fb) σ H fun x H1=>∃k,x=.bl k/\Q k H1:=qA h
 exact BQ ho.n h'⟩
theorem iJ(h:SE X e fe)(he:∀uJ,isTrue e X.env uJ=(do let v <- uJ;standAt e.pos;holding [v] (truthy v)):=by intro _;rfl):ST X e (dA fe):=⟨(Lw h.h he).imp fun σ H Q h=>qA h⟩
def bnd(t u:FT):FT:=fun ρ st=>(t ρ st).bind fun k st=>if k then u ρ st else .ok false st
def BR(t u:FT):FT:=fun ρ st=>(t ρ st).bind fun k st=>if k then .ok true st else u ρ st
def Kb(t:FT):FT:=fun ρ st=>(t ρ st).bind fun k st=>.ok (!k) st
theorem oI(ha:ST X a ft):SW X (.BoolOp .And [a] pos) ft:=⟨Ic ha.h⟩
theorem tZ(ha:ST X a ft):SW X (.BoolOp .Or [a] pos) ft:=⟨Lx ha.h⟩
theorem rB(ha:ST X a ft)(hb:SW X (.BoolOp .And (b::fP) pos) fu):SW X (.BoolOp .And (a::b::fP) pos) (bnd ft fu):=⟨(Ly ha.h hb.h).imp fun σ H Q h=>by
 obtain⟨μ,ρ,st,l,h⟩:=h
 refine⟨μ,ρ,st,l,RK.bind h l fun μ1 st1 x v H1 p1 x1 l1 q1 h1=>?_⟩
 cases q1
 cases x with
 |true=>exact⟨μ1,ρ,st1,l1,h1⟩
 |false=>exact h1 μ1 false H1 (al _) eX.refl l1.sto rfl⟩
theorem yi(ha:ST X a ft)(hb:SW X (.BoolOp .Or (b::fP) pos) fu):SW X (.BoolOp .Or (a::b::fP) pos) (BR ft fu):=⟨(OL ha.h hb.h).imp fun σ H Q h=>by
 obtain⟨μ,ρ,st,l,h⟩:=h
 refine⟨μ,ρ,st,l,RK.bind h l fun μ1 st1 x v H1 p1 x1 l1 q1 h1=>?_⟩
 cases q1
 cases x with
 |false=>exact⟨μ1,ρ,st1,l1,h1⟩
 |true=>exact h1 μ1 true H1 (al _) eX.refl l1.sto rfl⟩
theorem t0(h:SW X e ft):ST X e ft:=⟨h.h.pt⟩
theorem wG(ha:ST X a ft):ST X (.UnaryOp .Not a pos) (Kb ft):=⟨(Lz ha.h).imp fun σ H Q h=>by
 obtain⟨μ,ρ,st,l,h⟩:=h
 refine⟨μ,ρ,st,l,RK.bind h l fun μ1 st1 x v H1 p1 x1 l1 q1 h1=>?_⟩
 cases q1
 exact h1 μ1 _ H1 (al _) eX.refl l1.sto rfl⟩
def pS(fa fb:FE):FE:=fun ρ st=>(fa ρ st).bind fun x st=>match x with
 |.bl true=>fb ρ st
 |.bl false=>.ok (.bl false) st
 |_=>.bad
def HR(fa fb:FE):FE:=fun ρ st=>(fa ρ st).bind fun x st=>match x with
 |.bl true=>.ok (.bl true) st
 |.bl false=>fb ρ st
 |_=>.bad
def yj(fa:FE):FE:=fun ρ st=>(fa ρ st).bind fun x st=>match x with
 |.bl k=>.ok (.bl (!k)) st
 |_=>.bad
theorem mX{op:BoolOp}(h:SE X a fa):SE X (.BoolOp op [a] pos) fa:=⟨LA h.h⟩
theorem qB(ha:SE X a fa)(hb:SE X (.BoolOp .And (b::fP) pos) fb):SE X (.BoolOp .And (a::b::fP) pos) (pS fa fb):=⟨(LB ha.h hb.h).imp fun σ H Q h=>by
 obtain⟨μ,ρ,st,l,h⟩:=h
 refine⟨μ,ρ,st,l,RK.bind h l fun μ1 st1 x v H1 p1 x1 l1 q1 h1=>?_⟩
 cases x with
 |bl k=>
  refine⟨k,q1.blE,?_⟩
  cases k with
  |true=>exact⟨μ1,ρ,st1,l1,h1⟩
  |false=>exact h1 μ1 _ H1 (al _) eX.refl l1.sto .bl
 |_=>exact h1.elim⟩
theorem IV(ha:SE X a fa)(hb:SE X (.BoolOp .Or (b::fP) pos) fb):SE X (.BoolOp .Or (a::b::fP) pos) (HR fa fb):=⟨(OO ha.h hb.h).imp fun σ H Q h=>by
 obtain⟨μ,ρ,st,l,h⟩:=h
 refine⟨μ,ρ,st,l,RK.bind h l fun μ1 st1 x v H1 p1 x1 l1 q1 h1=>?_⟩
 cases x with
 |bl k=>
  refine⟨k,q1.blE,?_⟩
  cases k with
  |false=>exact⟨μ1,ρ,st1,l1,h1⟩
  |true=>exact h1 μ1 _ H1 (al _) eX.refl l1.sto .bl
 |_=>exact h1.elim⟩
theorem yk(ha:SE X a fa):SE X (.UnaryOp .Not a pos) (yj fa):=⟨(LD ha.h).imp fun σ H Q h=>by
 obtain⟨μ,ρ,st,l,h⟩:=h
 refine⟨μ,ρ,st,l,RK.bind h l fun μ1 st1 x v H1 p1 x1 l1 q1 h1=>?_⟩
 cases x with
 |bl k=>exact⟨k,q1.blE,h1 μ1 _ H1 (al _) eX.refl l1.sto .bl⟩
 |_=>exact h1.elim⟩
def HS(t:FT)(fa fb:FE):FE:=fun ρ st=>(t ρ st).bind fun k st=>if k then fa ρ st else fb ρ st
theorem EG(hc:ST X c ft)(ha:SE X a fa)(hb:SE X b fb):SE X (.IfExp c a b pos) (HS ft fa fb):=⟨(D4 hc.h ha.h hb.h).imp fun σ H Q h=>by
 obtain⟨μ,ρ,st,l,h⟩:=h
 refine⟨μ,ρ,st,l,RK.bind h l fun μ1 st1 x v H1 p1 x1 l1 q1 h1=>?_⟩
 cases q1
 cases x with
 |false=>exact⟨μ1,ρ,st1,l1,h1⟩
 |true=>exact⟨μ1,ρ,st1,l1,h1⟩⟩
def W.isNon:W->Bool
 |.non=>true
 |_=>false
def Ay(fa:FE):FE:=fun ρ st=>(fa ρ st).bind fun x st=>.ok (.bl x.isNon) st
def ii(fa:FE):FE:=fun ρ st=>(fa ρ st).bind fun x st=>.ok (.bl (!x.isNon)) st
theorem Kc{μ:List Addr}{H:Hp}{w:W}{v:V}(r:bE X.K μ H w v):decide (v=.non)=w.isNon:=by
 cases w with
 |non=>rw[r.nonE];rfl
 |bl b=>rw[r.blE];rfl
 |int b=>rw[r.intE];rfl
 |str b=>rw[r.strE];rfl
 |tup b=>obtain⟨p,vs,rfl,_⟩:=r.tupE;rfl
 |loc b=>obtain⟨p,_,rfl⟩:=r.locE;rfl
theorem Kd{σ:St}{H:Hp}{Q:VK}(h:tE X (Ay fa) σ H Q):OK (tE X fa) σ H Q:=by
 obtain⟨μ,ρ,st,l,h⟩:=h
 refine⟨μ,ρ,st,l,RK.bind h l fun μ1 st1 x v H1 p1 x1 l1 q1 h1=>?_⟩
 show Q (.bl (decide (v=.non))) H1
 rw[Kc q1]
 exact h1 μ1 _ H1 (al _) eX.refl l1.sto .bl
theorem EH{σ:St}{H:Hp}{Q:VK}(h:tE X (ii fa) σ H Q):J5 (tE X fa) σ H Q:=by
 obtain⟨μ,ρ,st,l,h⟩:=h
 refine⟨μ,ρ,st,l,RK.bind h l fun μ1 st1 x v H1 p1 x1 l1 q1 h1=>?_⟩
 show Q (.bl (!decide (v=.non))) H1
 rw[Kc q1]
 exact h1 μ1 _ H1 (al _) eX.refl l1.sto .bl
theorem PH{iP:Pos}(ha:SE X a fa):SE X (.Compare a [.Is] [.Constant .none j iP] pos) (Ay fa):=⟨(D2 (D1 ha.h)).imp fun _ _ _ h=>Kd h⟩
theorem EI{iP:Pos}(ha:SE X a fa):SE X (.Compare a [.IsNot] [.Constant .none j iP] pos) (ii fa):=⟨(D2 (BA ha.h)).imp fun _ _ _ h=>EH h⟩
theorem Mq{iP:Pos}(ha:SE X a fa):ST X (.Compare a [.Is] [.Constant .none j iP] pos) (dA (Ay fa)):=⟨(D3 (D1 ha.h)).imp fun _ _ _ h=>Kd (qA h)⟩
theorem mw{iP:Pos}(ha:SE X a fa):ST X (.Compare a [.IsNot] [.Constant .none j iP] pos) (dA (ii fa)):=⟨(D3 (BA ha.h)).imp fun _ _ _ h=>EH (qA h)⟩
def aJ:FA:=fun _ st=>.ok [] st
def ah(fa:FE)(fs:FA):FA:=fun ρ st=>(fa ρ st).bind fun x st=>(fs ρ st).bind fun xs st=>.ok (x::xs) st
theorem av:SA X [] aJ:=⟨nD.imp fun σ H Q h=>by
 obtain⟨μ,ρ,st,l,h⟩:=h
 exact h μ [] H (al _) eX.refl l.sto .nilI⟩
theorem aa(ha:SE X e fe)(hr:SA X es fs)(hs:starEach (e::es) X.env=(false,eval e X.env)::starEach es X.env:=by rfl):SA X (e::es) (ah fe fs):=⟨(iw ha.h hr.h hs).imp fun σ H Q h=>by
 obtain⟨μ,ρ,st,l,h⟩:=h
 refine⟨μ,ρ,st,l,RK.bind h l fun μ1 st1 x v H1 p1 x1 l1 q1 h1=>⟨μ1,ρ,st1,l1,RK.bind h1 l1 fun μ2 cN xs vs H2 p2 x2 l2 q2 h2=>?_⟩⟩
 exact h2 μ2 _ H2 (al _) eX.refl l2.sto (.consI (q1.mono p2 x2) q2)⟩
def EJ(zs:List (List Nat)):FA:=fun _ st=>.ok (zs.map W.str) st
theorem IW{zs:List Str}{ls:List (List Nat)}(h:CS es zs)(hz:zs=ls.map tx:=by decide +kernel):SA X es (EJ ls):=⟨(IP (X:=X) h).imp fun σ H Q q=>by
 obtain⟨μ,ρ,st,l,q⟩:=q
 refine q μ _ H (al _) eX.refl l.sto ?_
 rw[hz]
 clear hz h q
 induction ls with
 |nil=>exact .nilI
 |cons a r ih=>exact .consI .str ih⟩
def pq(ws:List W)(st:List ao):R W:=if ws.length<=jY then .ok (.tup ws) st else .bad
def mY(ws:List W)(st:List ao):R W:=if ws.length<=jY then .ok (.loc st.length) (st++[.lst ws])else .bad
def eN(fs:FA):FE:=fun ρ st=>(fs ρ st).bind fun ws st=>pq ws st
def kW(fs:FA):FE:=fun ρ st=>(fs ρ st).bind fun ws st=>mY ws st
theorem iI.newLst{K:Frag}{mg:Str->Option Value}{μ:List Addr}{st:List ao}{H:Hp}(S:iI K mg μ st H){p:Addr}{ws:List W}{vs:List V}(hp:H p=none)(r:RelWs K μ H ws vs):iI K mg (μ++[p]) (st++[.lst ws]) (eT H p (.lst vs)):=
 S.push hp ⟨vs,gq,r.mono (bJ _ _) (gK.same (cQ hp _))⟩
theorem mx{K:Frag}{mg:Str->Option Value}{μ:List Addr}{st:List ao}{H H':Hp}(S:iI K mg μ st H){p:Addr}:bE K (μ++[p]) H' (.loc st.length) (.ref p):=.locI (by rw[S.len];simp)
theorem EK{μ:List Addr}{st:List ao}{σ:St}{H:Hp}{Q:VK}{ws:List W}{vs:List V}(S:iI X.K X.mg μ st H)(q:RelWs X.K μ H ws vs)(h:RK X (u0 X) μ σ H Q (pq ws st)):vs.length<=sizeLine/\∀p H2,H p=none->H2=eT H p (.tup vs)->Q (.ref p) H2:=by
 unfold pq at h
 by_cases hz:ws.length<=jY
 ·rw[aE hz]at h
  refine⟨by rw[<- q.len];exact nG hz,fun p H2 hp e=>?_⟩
  subst e
  have x:=gK.same (K:=X.K) (cQ hp (.tup vs))
  exact h μ _ _ (al _) x (S.same (cQ hp _)) (.tupI gK.new (q.mono (al _) x))
 ·rw[aN hz]at h;exact h.elim
theorem t5{μ:List Addr}{st:List ao}{σ:St}{H:Hp}{Q:VK}{ws:List W}{vs:List V}(S:iI X.K X.mg μ st H)(q:RelWs X.K μ H ws vs)(h:RK X (u0 X) μ σ H Q (mY ws st)):vs.length<=sizeLine/\∀p H2,H p=none->H2=eT H p (.lst vs)->Q (.ref p) H2:=by
 unfold mY at h
 by_cases hz:ws.length<=jY
 ·rw[aE hz]at h
  refine⟨by rw[<- q.len];exact nG hz,fun p H2 hp e=>?_⟩
  subst e
  exact h (μ++[p]) _ _ (bJ _ _) (gK.same (cQ hp _)) (S.newLst hp q) (mx S)
 ·rw[aN hz]at h;exact h.elim
theorem dh{k:Nat}(h:SA X es fs):SE X (.Tuple es k pos) (eN fs):=⟨(BM h.h).imp fun σ H Q h=>by
 obtain⟨μ,ρ,st,l,h⟩:=h
 exact⟨μ,ρ,st,l,RK.bind h l fun μ1 st1 x v H1 p1 x1 l1 q1 h1=>EK l1.sto q1 h1⟩⟩
theorem ji(h:SA X es fs):SE X (.List es pos) (kW fs):=⟨(IL h.h).imp fun σ H Q h=>by
 obtain⟨μ,ρ,st,l,h⟩:=h
 exact⟨μ,ρ,st,l,RK.bind h l fun μ1 st1 x v H1 p1 x1 l1 q1 h1=>t5 l1.sto q1 h1⟩⟩
end
end L2
namespace L2
open PySem PySem.Spec PyProof.Rows
section
variable{X:Cx}
theorem oJ{μ:List Addr}{st:List ao}{H:Hp}{Q:VK}{i:Int}(S:iI X.K X.mg μ st H)(h:DV X μ H Q (.ok (.int i) st)):Q (.int i) H:=h μ _ H (al _) eX.refl S .int
theorem lH{μ:List Addr}{st:List ao}{H:Hp}{Q:VK}{i:Bool}(S:iI X.K X.mg μ st H)(h:DV X μ H Q (.ok (.bl i) st)):Q (.bl i) H:=h μ _ H (al _) eX.refl S .bl
theorem qC{μ:List Addr}{st:List ao}{H:Hp}{Q:VK}{i:List Nat}(S:iI X.K X.mg μ st H)(h:DV X μ H Q (.ok (.str i) st)):Q (.str (tx i)) H:=h μ _ H (al _) eX.refl S .str
theorem Mr{μ:List Addr}{σ:St}{H:Hp}{Q:VK}{r:R W}(h:DV X μ H Q r):RK X (u0 X) μ σ H Q r:=by
 cases r with
 |ok a st=>exact h
 |ex c st=>exact h.elim
 |bad=>exact h
def Az(C:Int->Int->Prop)[∀i j,Decidable (C i j)](f:Int->Int->Int):W->W->List ao->R W
 |.int i,.int j,st=>if C i j then .ok (.int (f i j)) st else .bad
 |_,_,_=>.bad
theorem u3{g:Value->Value->Sem Value}{C C':Int->Int->Prop}[∀i j,Decidable (C' i j)]{f:Int->Int->Int}(h:lX X g (rI C fun i j=>.int (f i j)))(hC:∀i j,C' i j->C i j):rh X g (Az C' f):=⟨h.imp fun x y H Q ⟨μ,st,wx,wy,S,rx,ry,q⟩=>by
 cases wx with
 |int i=>
  cases wy with
  |int j=>
   simp only[Az]at q
   by_cases c:C' i j
   ·rw[aE c]at q;exact⟨i,j,rx.intE,ry.intE,hC i j c,oJ S q⟩
   ·rw[aN c]at q;exact q.elim
  |_=>exact q.elim
 |_=>cases wy<;>exact q.elim,fun x y st=>by
 unfold Az
 split
 ·split<;>trivial
 ·trivial⟩
def Dm(f:Int->Int->Bool):W->W->List ao->R W
 |.int i,.int j,st=>.ok (.bl (f i j)) st
 |_,_,_=>.bad
theorem EL{g:Value->Value->Sem Value}{f:Int->Int->Bool}(h:lX X g (DT fun i j=>.bl (f i j))):rh X g (Dm f):=⟨h.imp fun x y H Q ⟨μ,st,wx,wy,S,rx,ry,q⟩=>by
 cases wx with
 |int i=>
  cases wy with
  |int j=>exact⟨i,j,rx.intE,ry.intE,lH S q⟩
  |_=>exact q.elim
 |_=>cases wy<;>exact q.elim,fun x y st=>by
 unfold Dm
 split<;>trivial⟩
abbrev EM(i j:Int):Prop:=(-(2^64)<i/\i<2^64)\/(-(2^64)<j/\j<2^64)
abbrev rC:=Az (fun _ _=>True) fun i j=>i-j
abbrev PJ:=Az EM fun i j=>i*j
abbrev dX:=Az (fun _ j=>0<j) fun i j=>i%j
abbrev jk:=Az (fun _ j=>0<j/\j<1073741824) fun i j=>i/j
abbrev PK:=Az (fun i j=>0<=j/\j<=1000000/\i.natAbs<2^64) fun i j=>i^j.toNat
abbrev nI:=Az (fun i j=>0<=j/\j<=1000000/\i.natAbs<2^64) fun i j=>i*2^j.toNat
abbrev yl:=Az (fun _ j=>0<=j) fun i j=>i/2^j.toNat
abbrev nJ:=Az (fun _ _=>True) fun i j=>Builtin.bitAnd i j
theorem AA{g:Value->Value->Sem Value}{f:Int->Int->V}(h:lX X g (DT f)):lX X g (rI (fun _ _=>True) f):=h.imp fun _ _ _ _ ⟨i,j,a,b,_,q⟩=>⟨i,j,a,b,q⟩
theorem qD:rh X (binaryOp .Sub) rC:=u3 (AA LR) fun _ _ _=>trivial
theorem PL:rh X (binaryOp .Mult) PJ:=u3 LS fun _ _ h=>h
theorem c7:rh X (binaryOp .Mod) dX:=u3 LU fun _ _ h=>h
theorem iK:rh X (binaryOp .FloorDiv) jk:=u3 Iq fun _ _ h=>h
theorem PM:rh X (binaryOp .Pow) PK:=u3 LV fun _ _ h=>h
theorem sw:rh X (binaryOp .LShift) nI:=u3 D' fun _ _ h=>h
theorem Ke:rh X (binaryOp .RShift) yl:=u3 LW fun _ _ h=>h
theorem wH:rh X (binaryOp .BitAnd) nJ:=u3 (AA LX) fun _ _ _=>trivial
def e7:W->W->List ao->R W
 |.int i,.int j,st=>.ok (.int (i+j)) st
 |.str a,.str b,st=>if a.length+b.length<=jY then .ok (.str (a++b)) st else .bad
 |.tup a,.tup b,st=>pq (a++b) st
 |.loc n,.loc m,st=>match st[n]?,st[m]? with
  |some (.lst a),some (.lst b)=>mY (a++b) st
  |_,_=>.bad
 |_,_,_=>.bad
theorem IX(ws:List W)(st:List ao):qz (pq ws st):=by unfold pq;split<;>trivial
theorem IY(ws:List W)(st:List ao):qz (mY ws st):=by unfold mY;split<;>trivial
theorem eO:rh X (binaryOp .Add) e7:=⟨fun aj s σ H x y v u Q I rv ru ⟨μ,st,wx,wy,S,rx,ry,q⟩=>by
 cases wx with
 |int i=>
  cases wy with
  |int j=>exact LQ aj s σ H x y v u Q I rv ru ⟨i,j,rx.intE,ry.intE,oJ S q⟩
  |_=>exact q.elim
 |str a=>
  cases wy with
  |str b=>
   simp only[e7]at q
   by_cases c:a.length+b.length<=jY
   ·rw[aE c]at q
    exact Ad aj s σ H x y v u Q I rv ru ⟨_,_,rx.strE,ry.strE,by rw[iH,iH];exact nG c,by rw[Am];exact qC S q⟩
   ·rw[aN c]at q;exact q.elim
  |_=>exact q.elim
 |tup a=>
  cases wy with
  |tup b=>
   obtain⟨p1,vs1,rfl,h1,r1⟩:=rx.tupE
   obtain⟨p2,vs2,rfl,h2,r2⟩:=ry.tupE
   have q':DV X μ H Q (pq (a++b) st):=q
   unfold pq at q'
   by_cases c:(a++b).length<=jY
   ·rw[aE c]at q'
    refine Mm.h aj s σ H _ _ v u Q I rv ru ⟨p1,p2,vs1,vs2,rfl,rfl,h1,h2,by rw[<- r1.len,<- r2.len,<- bC];exact nG c,fun p H2 e t=>?_⟩
    exact q' μ _ _ (al _) (gK.same e) (S.same e) (.tupI t ((r1.app r2).mono (al _) (gK.same e)))
   ·rw[aN c]at q';exact q'.elim
  |_=>exact q.elim
 |loc n=>
  cases wy with
  |loc m=>
   simp only[e7]at q
   cases e1:st[n]? with
   |none=>rw[e1]at q;exact q.elim
   |some c1=>
    cases e2:st[m]? with
    |none=>rw[e1,e2]at q;cases c1<;>exact q.elim
    |some c2=>
     cases c1 with
     |lst a=>
      cases c2 with
      |lst b=>
       rw[e1,e2]at q
       obtain⟨a1,g1,vs1,k1,r1⟩:=S.get e1
       obtain⟨a2,g2,vs2,k2,r2⟩:=S.get e2
       obtain⟨b1,f1,rfl⟩:=rx.locE
       obtain⟨b2,f2,rfl⟩:=ry.locE
       rw[g1]at f1;cases f1
       rw[g2]at f2;cases f2
       obtain⟨hz,qq⟩:=t5 (σ:=σ) S (r1.app r2) (Mr q)
       exact IN aj s σ H _ _ v u Q I rv ru ⟨a1,a2,vs1,vs2,rfl,rfl,k1,k2,by rw[<- bC];exact hz,qq⟩
      |_=>rw[e1,e2]at q;exact q.elim
     |_=>rw[e1,e2]at q;exact q.elim
  |_=>exact q.elim
 |_=>cases wy<;>exact q.elim,fun x y st=>by
 unfold e7
 split
 ·trivial
 ·split<;>trivial
 ·exact IX _ _
 ·split
  ·exact IY _ _
  ·trivial
 ·trivial⟩
abbrev Ms:=Dm fun i j=>decide (i<j)
abbrev BS:=Dm fun i j=>decide (j<i)
abbrev PN:=Dm fun i j=>decide (j<=i)
theorem w_lt:rh X (compareOp .Lt) Ms:=EL O1
theorem sU:rh X (compareOp .Gt) BS:=EL O3
theorem Mt:rh X (compareOp .GtE) PN:=EL O4
end
end L2
namespace L2
variable{nk:Nat}
open PySem PySem.Spec PyProof.Rows
mutual
def jZ:W->W->Option Bool
 |.non,.non=>some true
 |.bl a,.bl b=>some (a==b)
 |.bl a,.int b=>some ((if a then 1 else 0)==b)
 |.int a,.bl b=>some (a==(if b then 1 else 0))
 |.int a,.int b=>some (a==b)
 |.str a,.str b=>some (a==b)
 |.tup a,.tup b=>eqWs a b
 |.loc _,_=>none
 |.non,.loc _=>none
 |.bl _,.loc _=>none
 |.int _,.loc _=>none
 |.str _,.loc _=>none
 |.tup _,.loc _=>none
 |.non,.bl _=>some false
 |.non,.int _=>some false
 |.non,.str _=>some false
 |.non,.tup _=>some false
 |.bl _,.non=>some false
 |.bl _,.str _=>some false
 |.bl _,.tup _=>some false
 |.int _,.non=>some false
 |.int _,.str _=>some false
 |.int _,.tup _=>some false
 |.str _,.non=>some false
 |.str _,.bl _=>some false
 |.str _,.int _=>some false
 |.str _,.tup _=>some false
 |.tup _,.non=>some false
 |.tup _,.bl _=>some false
 |.tup _,.int _=>some false
 |.tup _,.str _=>some false
def eqWs:List W->List W->Option Bool
 |[],[]=>some true
 |[],_::_=>some false
 |_::_,[]=>some false
 |x::xs,y::ys=>match jZ x y,eqWs xs ys with
  |some a,some b=>some (a&&b)
  |_,_=>none
end
mutual
def W.dep:W->Nat
 |.tup ws=>depWs ws+1
 |_=>0
def depWs:List W->Nat
 |[]=>0
 |w::ws=>max w.dep (depWs ws)
end
theorem pT:∀(xs ys:List W) (b:Bool),eqWs xs ys=some b->∃e:Nat->Bool,(∀j (h1:j<xs.length) (h2:j<ys.length),jZ xs[j] ys[j]=some (e j))/\((List.range (min xs.length ys.length)).all e&&xs.length==ys.length)=b
 |[],[],b,h=>by unfold eqWs at h;cases h;exact⟨fun _=>true,fun j h1=>absurd h1 (jQ _),rfl⟩
 |[],y::ys,b,h=>by unfold eqWs at h;cases h;exact⟨fun _=>true,fun j h1=>absurd h1 (jQ _),by simp⟩
 |x::xs,[],b,h=>by unfold eqWs at h;cases h;exact⟨fun _=>true,fun j _ h1=>absurd h1 (jQ _),by simp⟩
 |x::xs,y::ys,b,h=>by
  unfold eqWs at h
  cases e1:jZ x y with
  |none=>rw[e1]at h;simp at h
  |some a=>
   cases e2:eqWs xs ys with
   |none=>rw[e1,e2]at h;simp at h
   |some c=>
    rw[e1,e2]at h
    simp at h
    obtain⟨e,he,hb⟩:=pT xs ys c e2
    refine⟨fun j=>match j with|0=>a|j+1=>e j,fun j h1 h2=>?_,?_⟩
    ·cases j with
     |zero=>exact e1
     |succ j=>exact he j (jd h1) (jd h2)
    ·have m:min (x::xs).length (y::ys).length=min xs.length ys.length+1:=by simp only[e_];omega
     rw[m,mP,List.all_cons,List.all_map,<- h,<- hb]
     simp[Function.comp_def,Bool.and_assoc]
theorem BU{X:Cx}{H:Hp}{μ:List Addr}{a b:W}{x:V}{k:Bool}(hn:a.dep<=0)(ra:bE X.K μ H a x)(rb:bE X.K μ H b x)(he:jZ a b=some k):k=true:=by
 cases a with
 |tup i=>unfold W.dep at hn;omega
 |non=>cases ra.nonE;cases b<;>first|(unfold jZ at he;cases he;rfl)|cases rb.blE|cases rb.intE|cases rb.strE|(obtain⟨_,_,z,_⟩:=rb.tupE;cases z)|(unfold jZ at he;cases he)
 |bl i=>cases ra.blE;cases b<;>first|(cases rb.blE;unfold jZ at he;simp at he;exact he)|cases rb.nonE|cases rb.intE|cases rb.strE|(obtain⟨_,_,z,_⟩:=rb.tupE;cases z)|(unfold jZ at he;cases he)
 |int i=>cases ra.intE;cases b<;>first|(cases rb.intE;unfold jZ at he;simp at he;exact he)|cases rb.nonE|cases rb.blE|cases rb.strE|(obtain⟨_,_,z,_⟩:=rb.tupE;cases z)|(unfold jZ at he;cases he)
 |str i=>cases ra.strE;cases b<;>first|(have z:=rb.strE;injection z with z;rw[wz.mp z]at he;unfold jZ at he;simp at he;exact he)|cases rb.nonE|cases rb.blE|cases rb.intE|(obtain⟨_,_,z,_⟩:=rb.tupE;cases z)|(unfold jZ at he;cases he)
 |loc i=>cases b<;>(unfold jZ at he;cases he)
theorem EN{X:Cx}{aj:List (Addr×Obj)}{σ:St}{H:Hp}{s:Shared}{μ:List Addr}(I:bF X aj σ H s):∀(n:Nat) (a b:W) (x:V) (k:Bool),a.dep<=n->bE X.K μ H a x->bE X.K μ H b x->jZ a b=some k->k=true:=by
 intro n
 induction n with
 |zero=>exact fun a b x k hn ra rb he=>BU hn ra rb he
 |succ n ih=>
  intro a b x k hn ra rb he
  cases a with
  |tup i=>
   obtain⟨p',HY,rfl,hS',r'⟩:=ra.tupE
   cases b with
   |tup z=>
    obtain⟨p,vs,e,hS,r⟩:=rb.tupE
    cases e
    obtain rfl:=I.tuple_inj hS hS'
    have he':eqWs i z=some k:=by unfold jZ at he;exact he
    have dn:depWs i<=n:=by unfold W.dep at hn;omega
    have key:∀(i z:List W) (vs:List V) (k:Bool),depWs i<=n->RelWs X.K μ H i vs->RelWs X.K μ H z vs->eqWs i z=some k->k=true:=by
     intro i
     induction i with
     |nil=>
      intro z vs k _ r' r he
      have e1:=r'.nilE
      subst e1
      cases z with
      |nil=>unfold eqWs at he;cases he;rfl
      |cons _ _=>have e2:=r.len;simp at e2
     |cons w i ih2=>
      intro z vs k dn r' r he
      obtain⟨x,xs,rfl,rx,rxs⟩:=r'.consE
      cases z with
      |nil=>have e2:=r.len;simp at e2
      |cons y z=>
       obtain⟨x2,xs2,e3,ry,rys⟩:=r.consE
       cases e3
       unfold eqWs at he
       cases e1:jZ w y with
       |none=>rw[e1]at he;simp at he
       |some k1=>
        cases e2:eqWs i z with
        |none=>rw[e1,e2]at he;simp at he
        |some k2=>
         rw[e1,e2]at he
         simp at he
         unfold depWs at dn
         have q1:=ih w y x k1 (by omega) rx ry e1
         have q2:=ih2 z xs k2 (by omega) rxs rys e2
         rw[<- he,q1,q2];rfl
    exact key i z _ k dn r' r he'
   |non=>cases rb.nonE
   |bl z=>cases rb.blE
   |int z=>cases rb.intE
   |str z=>cases rb.strE
   |loc z=>unfold jZ at he;cases he
  |_=>exact BU (aw _) ra rb he
theorem rD:∀{ws:List W} {j:Nat} (h:j<ws.length),ws[j].dep<=depWs ws
 |w::ws,0,_=>by unfold depWs;exact Nat.le_max_left _ _
 |w::ws,j+1,h=>by unfold depWs;exact aF (rD (j:=j) (jd h)) (Nat.le_max_right _ _)
inductive Sh(s:Shared):W->Value->Prop
 |non:Sh s .non .none
 |bl (b:Bool):Sh s (.bl b) (.bool b)
 |int (i:Int) (t:Tok):Sh s (.int i) (.int i t)
 |str (l:List Nat) (t:Tok):Sh s (.str l) (.str (tx l) t)
 |tup (ws:List W) (p:Addr) (bN:List Value) (h:IsTup s.heap p bN.toArray):Sh s (.tup ws) (.ref p)
 |loc (n:Nat) (u:Value):Sh s (.loc n) u
section
variable{X:Cx}{aj:List (Addr×Obj)}{σ:St}{H:Hp}{s:Shared}{μ:List Addr}
theorem sy(I:bF X aj σ H s){a:W}{x:V}{u:Value}(ra:bE X.K μ H a x)(ru:cO s.toks x u):Sh s a u:=by
 cases a with
 |non=>cases ra.nonE;cases ru;exact .non
 |bl i=>cases ra.blE;cases ru;exact .bl _
 |int i=>cases ra.intE;obtain⟨t,rfl⟩:=ru;exact .int _ _
 |str i=>cases ra.strE;obtain⟨t,rfl⟩:=ru;exact .str _ _
 |tup i=>obtain⟨p,vs,rfl,hS,_⟩:=ra.tupE;cases ru;obtain⟨bN,_,ht,_⟩:=I.tuple hS;exact .tup _ _ _ ht
 |loc i=>exact .loc _ _
open SeqAt.EqAt in
theorem BV{A:Around}{a b:W}{u v:Value}{k:Bool}(ha:Sh s a u)(hb:Sh s b v)(hu:A.units<cLine)(ht:b.dep=0\/a.dep=0)(he:jZ a b=some k):SeqAt.EqAt A s u v k:=by
 cases ha<;>cases hb<;>first
  |(unfold jZ at he;cases he;done)
  |(unfold jZ at he;cases he;with_reducible first|exact same _|exact bool_none _|exact bool_bool _ _|exact bool_int _ _ _|exact bool_str _ _ _|exact int_none _ _|exact int_bool _ _ _|exact int_int _ _ _ _|exact int_str _ _ _ _|exact str_none _ _|exact str_bool _ _ _|exact str_int _ _ _ _|exact none_bool _|exact none_int _ _|exact none_str _ _)
  |(unfold jZ at he;cases he;(with_reducible first|refine' bool_tuple _ ?_ hu|refine' int_tuple _ _ ?_ hu|refine' str_tuple _ _ ?_ hu|refine' tuple_none ?_ hu|refine' tuple_bool _ ?_ hu|refine' tuple_int _ _ ?_ hu|refine' tuple_str _ _ ?_ hu|refine' none_tuple ?_ hu);rotate_left;assumption)
  |(unfold W.dep at ht;omega)
  |skip
 rename_i i t z r
 unfold jZ at he;cases he
 have:=str_str (A:=A) (s:=s) (tx i) t (tx z) r
 rw[<- pO]at this
 exact this
open SeqAt.RcAt in
theorem IZ{A:Around}{a b:W}{u v:Value}{k:Bool}(ha:Sh s a u)(hb:Sh s b v)(hu:A.units<cLine)(ht:b.dep=0\/a.dep=0)(he:jZ a b=some k):SeqAt.RcAt A s u v k:=by
 cases ha<;>cases hb<;>first
  |(unfold jZ at he;cases he;done)
  |(unfold jZ at he;cases he;with_reducible first|exact none_none|exact bool_none _|exact bool_bool _ _|exact bool_int _ _ _|exact bool_str _ _ _|exact int_none _ _|exact int_bool _ _ _|exact int_int _ _ _ _|exact int_str _ _ _ _|exact str_none _ _|exact str_bool _ _ _|exact str_int _ _ _ _|exact none_bool _|exact none_int _ _|exact none_str _ _)
  |(unfold jZ at he;cases he;(with_reducible first|refine' bool_tuple _ ?_ hu|refine' int_tuple _ _ ?_ hu|refine' str_tuple _ _ ?_ hu|refine' tuple_none ?_ hu|refine' tuple_bool _ ?_ hu|refine' tuple_int _ _ ?_ hu|refine' tuple_str _ _ ?_ hu|refine' none_tuple ?_ hu);rotate_left;assumption)
  |(unfold W.dep at ht;omega)
  |skip
 rename_i i t z r
 unfold jZ at he;cases he
 have:=str_str (A:=A) (s:=s) (tx i) t (tx z) r
 rw[<- pO]at this
 exact this
open SeqAt.RcNeAt in
theorem Dn        {A : Around} {a b : W} {u v : Value} {k : Bool} (ha : Sh s a u) (hb : Sh s b v) (hu : A.units < cLine) (ht : b.dep = 0 \/ a.dep = 0) (he : jZ  a b = some k) : SeqAt.RcNeAt A s u v (!k) := by
  cases ha <;> cases hb <;> first
    | (unfold jZ  at he; cases he; done)
    | (unfold jZ  at he; cases he; try simp only [pP           , Bool.not_false]
       with_reducible first | exact none_none | exact bool_none _ | exact bool_bool _ _ | exact bool_int _ _ _ | exact bool_str _ _ _ | exact int_none _ _ | exact int_bool _ _ _ | exact int_int _ _ _ _ | exact int_str _ _ _ _ | exact str_none _ _ | exact str_bool _ _ _ | exact str_int _ _ _ _ | exact none_bool _ | exact none_int _ _ | exact none_str _ _)
    | (unfold jZ  at he; cases he; try simp only [pP           , Bool.not_false]
       (with_reducible first | refine' bool_tuple _ ?_ hu | refine' int_tuple _ _ ?_ hu | refine' str_tuple _ _ ?_ hu | refine' tuple_none ?_ hu | refine' tuple_bool _ ?_ hu | refine' tuple_int _ _ ?_ hu | refine' tuple_str _ _ ?_ hu | refine' none_tuple ?_ hu); rotate_left; assumption)
    | (unfold W.dep at ht; omega)
    | skip
  rename_i i t z r
  unfold jZ  at he; cases he
  have := str_str (A := A) (s := s) (tx i) t (tx z) r
  rw [<- pO           ] at this
  exact this
theorem ym{i z:List W}{vs HY:List V}{bN its':List Value}{e:Nat->Bool}{A:Around}{m:Nat}(ih:∀(a b:W) (A:Around) (x y:V) (u v:Value) (k:Bool),a.dep<=m->bE X.K μ H a x->bE X.K μ H b y->cO nk x u->cO nk y v->A.units+m<cLine->jZ a b=some k->SeqAt.EqAt A s u v k)
  (r':RelWs X.K μ H i HY) (r:RelWs X.K μ H z vs) (w':cJ nk HY its') (w:cJ nk vs bN) (hd:depWs i<=m) (hu:A.units+1+m<cLine) (h1:∀j (h1:j<i.length) (h2:j<z.length),jZ i[j] z[j]=some (e j)):∀j (j1:j<its'.toArray.size) (j2:j<bN.toArray.size),SeqAt.EqAt A.in1 s its'.toArray[j] bN.toArray[j] (e j):=fun j j1 j2=>by
 have j1':j<i.length:=by rw[r'.len,w'.length];simpa using j1
 have j2':j<z.length:=by rw[r.len,w.length];simpa using j2
 obtain⟨x1,g1,q1⟩:=r'.get (aq j1')
 obtain⟨x2,g2,q2⟩:=r.get (aq j2')
 obtain⟨u1,f1,v1⟩:=w'.get g1
 obtain⟨u2,f2,v2⟩:=w.get g2
 have E:=ih i[j] z[j] A.in1 x1 x2 u1 u2 (e j) (aF (rD j1') hd) q1 q2 v1 v2 hu (h1 j j1' j2')
 have t1:its'.toArray[j]=u1:=by simpa using (ak.mp f1).2
 have t2:bN.toArray[j]=u2:=by simpa using (ak.mp f2).2
 rw[t1,t2];exact E
theorem EO(I:bF X aj σ H s):∀(n:Nat) (a b:W) (A:Around) (x y:V) (u v:Value) (k:Bool),a.dep<=n->bE X.K μ H a x->bE X.K μ H b y->cO s.toks x u->cO s.toks y v->A.units+n<cLine->jZ a b=some k->SeqAt.EqAt A s u v k:=by
 intro n
 induction n with
 |zero=>exact fun a b A x y u v k hn ra rb ru rv hu he=>BV (sy I ra ru) (sy I rb rv) hu (.inr (by omega)) he
 |succ m ih=>
  intro a b A x y u v k hn ra rb ru rv hu he
  by_cases hb:b.dep=0\/a.dep=0
  ·exact BV (sy I ra ru) (sy I rb rv) (by omega) hb he
  ·cases b with
   |tup z=>
    cases a with
    |tup i=>
     obtain⟨p',HY,rfl,hS',r'⟩:=id ra.tupE;cases ru;obtain⟨its',w',ht',_⟩:=I.tuple hS'
     obtain⟨p,vs,rfl,hS,r⟩:=id rb.tupE;cases rv;obtain⟨bN,w,ht,_⟩:=I.tuple hS
     by_cases hpp:p'=p
     ·subst hpp
      rw[EN I (m+1) (.tup i) (.tup z) (.ref p') k hn ra rb he]
      exact SeqAt.EqAt.same _
     ·obtain⟨e,h1,h2⟩:=pT i z k (by unfold jZ at he;exact he)
      have R:=SeqAt.RcAt.tuples (A:=A) (e:=e) ht' ht (by omega) (ym ih r' r w' w (by unfold W.dep at hn;omega) (by omega) h1)
      rw[show its'.toArray.size=i.length by simp[<- w'.length,<- r'.len],show bN.toArray.size=z.length by simp[<- w.length,<- r.len],h2]at R
      exact SeqAt.EqAt.of_refs hpp R
    |_=>exact(hb (.inr rfl)).elim
   |_=>exact(hb (.inl rfl)).elim
theorem EQ(I:bF X aj σ H s){n:Nat}{a b:W}{A:Around}{x y:V}{u v:Value}{k:Bool}(hn:b.dep=0\/a.dep<=n)(ra:bE X.K μ H a x)(rb:bE X.K μ H b y)(ru:cO s.toks x u)(rv:cO s.toks y v)(hu:A.units+n<cLine)(he:jZ a b=some k):SeqAt.RcAt A s u v k/\SeqAt.RcNeAt A s u v (!k):=by
 by_cases hb:b.dep=0\/a.dep=0
 ·exact⟨IZ (sy I ra ru) (sy I rb rv) (by omega) hb he,Dn (sy I ra ru) (sy I rb rv) (by omega) hb he⟩
 cases b with
 |tup z=>
  cases a with
  |tup i=>
   obtain⟨p',HY,rfl,hS',r'⟩:=ra.tupE;cases ru;obtain⟨its',w',ht',_⟩:=I.tuple hS'
   obtain⟨p,vs,rfl,hS,r⟩:=rb.tupE;cases rv;obtain⟨bN,w,ht,_⟩:=I.tuple hS
   obtain⟨e,h1,h2⟩:=pT i z k (by unfold jZ at he;exact he)
   have hd:depWs i+1<=n:=hn.elim (fun z=>(hb (.inl z)).elim) id
   obtain⟨m,rfl⟩:∃m,n=m+1:=⟨n-1,by omega⟩
   have T:=ym (A:=A) (EO I m) r' r w' w (by omega) (by omega) h1
   have R:=SeqAt.RcAt.tuples (A:=A) (e:=e) ht' ht (by omega) T
   have R2:=SeqAt.RcNeAt.tuples (A:=A) (e:=e) ht' ht (by omega) T
   rw[show its'.toArray.size=i.length by simp[<- w'.length,<- r'.len],show bN.toArray.size=z.length by simp[<- w.length,<- r.len],h2]at R R2
   exact⟨R,R2⟩
  |_=>exact(hb (.inr rfl)).elim
 |_=>exact(hb (.inl rfl)).elim
end
def fQ:W->W->List ao->R W:=fun x y st=>match jZ x y with
 |some k=>if y.dep=0\/x.dep<=64 then .ok (.bl k) st else .bad
 |none=>.bad
theorem eU{X:Cx}{k:Nat}(hr:js k X.A):rh X (compareOp .Eq) fQ:=⟨fun aj s σ H x y v u Q I rv ru ⟨μ,st,wx,wy,S,rx,ry,q⟩=>by
 unfold fQ at q
 cases e:jZ wx wy with
 |none=>rw[e]at q;exact q.elim
 |some b=>
  rw[e]at q
  simp only at q
  by_cases c:wy.dep=0\/wx.dep<=64
  ·rw[aE c]at q
   have:=hr.units
   exact(EQ I c rx ry rv ru this e).1 X.prog X.w X.xe _ ⟨.bl b,H,I,rfl,lH S q⟩
  ·rw[aN c]at q;exact q.elim,fun x y st=>by
 unfold fQ
 split
 ·split<;>trivial
 ·trivial⟩
def Do:W->W->List ao->R W:=fun x y st=>match jZ x y with
 |some k=>if y.dep=0\/x.dep<=64 then .ok (.bl (!k)) st else .bad
 |none=>.bad
theorem I_{X:Cx}{k:Nat}(hr:js k X.A):rh X (compareOp .NotEq) Do:=⟨fun aj s σ H x y v u Q I rv ru ⟨μ,st,wx,wy,S,rx,ry,q⟩=>by
 unfold Do at q
 cases e:jZ wx wy with
 |none=>rw[e]at q;exact q.elim
 |some b=>
  rw[e]at q
  simp only at q
  by_cases c:wy.dep=0\/wx.dep<=64
  ·rw[aE c]at q
   have:=hr.units
   exact(EQ I c rx ry rv ru this e).2 X.prog X.w X.xe _ ⟨.bl (!b),H,I,rfl,lH S q⟩
  ·rw[aN c]at q;exact q.elim,fun x y st=>by
 unfold Do
 split
 ·split<;>trivial
 ·trivial⟩
def u4(x:W):List W->Option Bool
 |[]=>some false
 |y::ys=>match jZ y x,u4 x ys with
  |some a,some b=>some (a||b)
  |_,_=>none
def sV(neg:Bool)(x y:W)(st:List ao):R W:=match y with
 |.str l=>(match x with
  |.str [c]=>.ok (.bl (if neg then !decide (c∈l)else decide (c∈l))) st
  |_=>.bad)
 |.tup ys=>(match u4 x ys with
  |some k=>if depWs ys<=63 then .ok (.bl (if neg then !k else k)) st else .bad
  |none=>.bad)
 |.loc n=>(match st[n]? with
  |some (.lst ys)=>(match u4 x ys with
   |some k=>if depWs ys<=63 then .ok (.bl (if neg then !k else k)) st else .bad
   |none=>.bad)
  |_=>.bad)
 |_=>.bad
theorem yn{x:W}:∀{ys:List W} {k:Bool},u4 x ys=some k->(∀(j:Nat) w,ys[j]?=some w->∃b,jZ w x=some b)/\(k=true↔∃(j:Nat) (w:W),ys[j]?=some w/\jZ w x=some true)
 |[],k,h=>by
  unfold u4 at h;cases h
  exact⟨fun j w e=>by simp at e,fun z=>(by cases z),fun⟨j,w,e,_⟩=>(by simp at e)⟩
 |y::ys,k,h=>by
  unfold u4 at h
  cases e1:jZ y x with
  |none=>rw[e1]at h;simp at h
  |some a=>
   cases e2:u4 x ys with
   |none=>rw[e1,e2]at h;simp at h
   |some b=>
    rw[e1,e2]at h
    simp at h
    obtain⟨q1,q2⟩:=yn e2
    refine⟨fun j w e=>?_,fun z=>?_,fun⟨j,w,e,f⟩=>?_⟩
    ·cases j with
     |zero=>simp at e;subst e;exact⟨a,e1⟩
     |succ j=>exact q1 j w (by simpa using e)
    ·rw[<- h]at z
     cases a with
     |true=>exact⟨0,y,rfl,e1⟩
     |false=>
      obtain⟨j,w,p,q⟩:=q2.mp (by simpa using z)
      exact⟨j+1,w,by simpa using p,q⟩
    ·rw[<- h]
     cases j with
     |zero=>simp at e;subst e;rw[e1]at f;cases f;rfl
     |succ j=>rw[q2.mpr ⟨j,w,by simpa using e,f⟩];simp
theorem t6{X:Cx}{aj:List (Addr×Obj)}{σ:St}{H:Hp}{s:Shared}{μ:List Addr}(I:bF X aj σ H s){wx:W}{x:V}{v:Value}(rx:bE X.K μ H wx x)(rv:cO s.toks x v)(n:Nat){A:Around}(hu:A.units+n<cLine)
  {ys:List W} {vs:List V} {us:List Value} {k:Bool} (hd:depWs ys<=n) (rs:RelWs X.K μ H ys vs) (sd:cJ s.toks vs us) (ha:u4 wx ys=some k):∃e:Value->Bool,(∀u,u∈us.toArray->SeqAt.EqAt A s u v (e u))/\us.toArray.any e=k:=by
 classical
 obtain⟨q1,q2⟩:=yn ha
 have at':∀(j:Nat) (u:Value),us[j]?=some u->∃w b,ys[j]?=some w/\jZ w wx=some b/\SeqAt.EqAt A s u v b:=fun j u e=>by
  have hj:j<ys.length:=by
   have h1:=(ak.mp e).1
   rw[rs.len,sd.length];exact h1
  obtain⟨b,hb⟩:=q1 j ys[j] (aq hj)
  obtain⟨y,g1,r1⟩:=rs.get (aq hj)
  obtain⟨u',f1,v1⟩:=sd.get g1
  rw[e]at f1;cases f1
  exact⟨_,b,aq hj,hb,EO I n ys[j] wx A y x u v b (aF (rD hj) hd) r1 rx v1 rv hu hb⟩
 refine⟨fun u=>decide (∃(j:Nat) (w:W),us[j]?=some u/\ys[j]?=some w/\jZ w wx=some true),fun u hu=>?_,?_⟩
 ·by_cases c:∃(j:Nat) (w:W),us[j]?=some u/\ys[j]?=some w/\jZ w wx=some true
  ·show SeqAt.EqAt A s u v (decide _)
   rw[aB c]
   obtain⟨j,w,e1,e2,e3⟩:=c
   obtain⟨w',b,f1,f2,f3⟩:=at' j u e1
   rw[e2]at f1;cases f1
   rw[e3]at f2;cases f2
   exact f3
  ·show SeqAt.EqAt A s u v (decide _)
   rw[az c]
   obtain⟨j,hj,e⟩:=List.mem_iff_getElem.mp (show u∈us by simpa using hu)
   have e':us[j]?=some u:=by rw[aq hj,e]
   obtain⟨w',b,f1,f2,f3⟩:=at' j u e'
   cases b with
   |false=>exact f3
   |true=>exact absurd ⟨j,w',e',f1,f2⟩ c
 ·rw[List.any_toArray]
  cases k with
  |true=>
   obtain⟨j,w,e1,e2⟩:=q2.mp rfl
   have hj:j<us.length:=by rw[<- sd.length,<- rs.len];exact(ak.mp e1).1
   exact mh.mpr ⟨us[j],dm hj,aB ⟨j,w,aq hj,e1,e2⟩⟩
  |false=>
   refine ln.mpr fun u _ c=>?_
   obtain⟨j,w,_,e1,e2⟩:=gI c
   have:=q2.mpr ⟨j,w,e1,e2⟩
   cases this
theorem t7{X:Cx}{k:Nat}(hr:js k X.A):rh X (compareOp .In) (sV false):=⟨fun aj s σ H x y v u Q I rv ru ⟨μ,st,wx,wy,S,rx,ry,q⟩=>by
 have hu:=hr.units
 cases wy with
 |str l=>
  simp only[sV]at q
  split at q
  ·exact Db aj s σ H x y v u Q I rv ru ⟨_,_,rx.strE,ry.strE,lH S q⟩
  ·exact q.elim
 |tup ys=>
  simp only[sV]at q
  cases hk:u4 wx ys with
  |none=>rw[hk]at q;exact q.elim
  |some kk=>
   rw[hk]at q
   simp only at q
   by_cases c:depWs ys<=63
   ·rw[aE c]at q
    obtain⟨p,vs,rfl,hS,r⟩:=ry.tupE
    cases ru
    obtain⟨bN,w,ht,_⟩:=I.tuple hS
    obtain⟨e,he,ha⟩:=t6 (A:=X.A.in1) I rx rv 63 (by show X.A.units+1+63<cLine;omega) c r w hk
    exact SeqAt.in_tupleAt e ht he ⟨.bl _,H,I,rfl,by rw[ha];exact lH S q⟩
   ·rw[aN c]at q;exact q.elim
 |loc n=>
  simp only[sV]at q
  cases e1:st[n]? with
  |none=>rw[e1]at q;exact q.elim
  |some cc=>
   rw[e1]at q
   cases cc with
   |lst ys=>
    simp only at q
    cases hk:u4 wx ys with
    |none=>rw[hk]at q;exact q.elim
    |some kk=>
     rw[hk]at q
     simp only at q
     by_cases c:depWs ys<=63
     ·rw[aE c]at q
      obtain⟨a1,g1,vs,k1,r⟩:=S.get e1
      obtain⟨b1,f1,rfl⟩:=ry.locE
      rw[g1]at f1;cases f1
      cases ru
      obtain⟨bN,w,ht,_⟩:=I.list (sf.of k1)
      obtain⟨e,he,ha⟩:=t6 (A:=X.A.in1) I rx rv 63 (by show X.A.units+1+63<cLine;omega) c r w hk
      exact SeqAt.in_listAt e ht.isList he ⟨.bl _,H,I,rfl,by rw[ha];exact lH S q⟩
     ·rw[aN c]at q;exact q.elim
   |_=>exact q.elim
 |_=>exact q.elim,fun x y st=>by
 unfold sV
 repeat' split
 all_goals trivial⟩
end L2
namespace L2
open PySem PySem.Spec PyProof.Rows
section
variable{prog:Program}{w:World}{A:Around}{E:Value->Shared->Prop}{s:Shared}
theorem yo{t sl:Addr}{items:Array Value}{vl vu:Value}{lo hi:Option Int}{Q:Value->Shared->Prop}(ht:IsTup s.heap t items)(hs:s.heap.IsSliceOf sl vl vu .none)(pl:IsPart vl lo)(pu:IsPart vu hi)
  (hw:HT.sIx items.size 0 lo=0/\HT.sIx items.size items.size hi=items.size) (h:Q (.ref t) s):wpAny (model prog w) A (getItem (.ref t) (.ref sl)) Q E s:=by
 obtain⟨os,hos,hcs,hds⟩:=id hs
 have hTs:s.TypeIs (.ref sl) "slice":=⟨os,hos,hcs⟩
 unfold getItem
 try with_reducible refine db ?_
 first|refine af (ay ?_)|skip
 refine af (wpAny_sequenceKey ht.typeIs (by decide) ?_)
 refine af (cr (name:=Str.ofString "__getitem__") ht.typeIs dU
  (cC dU ht.typeIs entry_tuple_getitem ?_ (args_tuple_getitem _ _)))
 show wpAny _ _ (Builtin.Tuple.tupleItemsOf (.ref t) >>= _) _ _ s
 refine af (tupleItemsOf_ ht ?_)
 refine af (gn hTs ?_)
 rw[aE (by decide)]
 refine af (HT.sliceApplied_gen hs pl pu ?_)
 have hyes:(((HT.sIx items.size 0 lo:Nat):Int)==0&&(1:Int)==1&&(HT.sIx items.size items.size hi-HT.sIx items.size 0 lo)==items.size)=true:=by
  rw[hw.1,hw.2];simp
 show wpAny _ _ (if (((HT.sIx items.size 0 lo:Nat):Int)==0&&(1:Int)==1&&(HT.sIx items.size items.size hi-HT.sIx items.size 0 lo)==items.size)=true then _ else _) _ _ s
 rw[aE hyes]
 unfold Builtin.Tuple.tupleIsExact
 obtain⟨ot,hot,hct,nt,hdt⟩:=id ht
 refine af (af (gn (T:="tuple") ht.typeIs ?_))
 refine ay ?_
 rw[aE (by decide)]
 exact af (mS (ay ⟨_,rfl,ay h⟩))
end
section
variable{X:Cx}{a b c e o:Expr}{es:List Expr}{pos p p2 gc du:Pos}{x name:Str}{j:Nat}{fa fb fc fe:FE}{fs:FA}
def lstOf(st:List ao)(n:Nat):Option (List W):=match st[n]? with
 |some (.lst ws)=>some ws
 |some (.ro ws)=>some ws
 |_=>none
theorem iI.lstOf{K:Frag}{mg:Str->Option Value}{μ:List Addr}{st:List ao}{H:Hp}(S:iI K mg μ st H){n:Nat}{ws:List W}(h:lstOf st n=some ws):∃a vs,μ[n]?=some a/\sf K H a vs/\RelWs K μ H ws vs:=by
 unfold L2.lstOf at h
 cases e:st[n]? with
 |none=>rw[e]at h;cases h
 |some cc=>
  rw[e]at h
  cases cc with
  |lst zs=>cases h;obtain⟨a,g,vs,k,r⟩:=S.get e;exact⟨a,vs,g,sf.of k,r⟩
  |ro zs=>cases h;obtain⟨a,g,vs,k,r⟩:=S.get e;exact⟨a,vs,g,k.sq,r⟩
  |exc zs=>cases h
  |dct zs=>cases h
  |rod zs=>cases h
  |dcx zs=>cases h
  |rox zs=>cases h
  |obj _ _=>cases h
  |tab _ _ _=>cases h
  |pin _ _ _ _=>cases h
  |gone=>cases h
def s_{α:Type}(o:Option α)(k:α->R W):R W:=match o with
 |some a=>k a
 |none=>.bad
@[simp] theorem dY{α:Type}(a:α)(k:α->R W):s_ (some a) k=k a:=rfl
def bp(x y:W)(st:List ao):R W:=match x,y with
 |.tup ws,.int i=>s_ (ph ws i) fun w=>.ok w st
 |.str l,.int i=>if l.length<=jY then s_ (ph l i) (fun c=>.ok (.str [c]) st)else .bad
 |.loc n,.int i=>s_ (lstOf st n) fun ws=>s_ (ph ws i) fun w=>.ok w st
 |_,_=>.bad
theorem BW{K:Frag}{μ:List Addr}{H:Hp}{ws:List W}{vs:List V}{i:Int}{w:W}(r:RelWs K μ H ws vs)(h:ph ws i=some w):∃v,ph vs i=some v/\bE K μ H w v:=by
 unfold ph at h ⊢
 rw[<- r.len]
 cases e:z6 ws.length i with
 |none=>rw[e]at h;cases h
 |some k=>rw[e]at h;exact r.get h
theorem Sk:HQ X (PF X bp):=fun value slice aj s σ H x y v u Q I rv ru ⟨μ,st,wx,wy,S,rx,ry,q⟩ hs=>by
 refine L7 value slice aj s σ H x y v u Q I rv ru ?_ hs
 cases wy with
 |int i=>
  cases wx with
  |tup ws=>
   simp only[bp]at q
   cases e1:ph ws i with
   |none=>rw[e1]at q;exact q.elim
   |some w=>
    rw[e1]at q
    obtain⟨p,vs,rfl,hS,r⟩:=rx.tupE
    obtain⟨z,f,g⟩:=BW r e1
    exact .inr (.inl ⟨p,vs,i,z,rfl,ry.intE,hS,f,q μ z H (al _) eX.refl S g⟩)
  |str l=>
   simp only[bp]at q
   by_cases c:l.length<=jY
   ·rw[aE c]at q
    cases e1:ph l i with
    |none=>rw[e1]at q;exact q.elim
    |some w=>
     rw[e1]at q
     exact .inr (.inr ⟨_,i,w,rx.strE,ry.intE,by rw[iH];exact nG c,by rw[Md];exact e1,qC S q⟩)
   ·rw[aN c]at q;exact q.elim
  |loc n=>
   simp only[bp]at q
   cases e0:lstOf st n with
   |none=>rw[e0]at q;exact q.elim
   |some ws=>
    rw[e0]at q
    cases e1:ph ws i with
    |none=>rw[dY,e1]at q;exact q.elim
    |some w=>
     rw[dY,e1]at q
     obtain⟨a,vs,g,hS,r⟩:=S.lstOf e0
     obtain⟨b1,f1,rfl⟩:=rx.locE
     rw[g]at f1;cases f1
     obtain⟨z,f,g⟩:=BW r e1
     exact .inl ⟨_,vs,i,z,rfl,ry.intE,hS,f,q μ z H (al _) eX.refl S g⟩
  |_=>exact q.elim
 |_=>cases wx<;>exact q.elim
theorem pw{α:Type}{o:Option α}{k:α->R W}(h:∀a,qz (k a)):qz (s_ o k):=by
 unfold s_
 split
 ·exact h _
 ·trivial
theorem PP(x y:W)(st:List ao):qz (bp x y st):=by
 unfold bp
 split
 ·exact pw fun _=>trivial
 ·split
  ·exact pw fun _=>trivial
  ·trivial
 ·exact pw fun _=>pw fun _=>trivial
 ·trivial
theorem a9(ha:SE X a fa)(hb:SE X b fb)(hs:BD b:=by intro _ _;rfl):SE X (.Subscript a b pos) (e2 bp fa fb):=⟨(Pa Sk ha.h hb.h hs).imp fun _ _ _ h=>BQ PP h⟩
abbrev FO:=b6->List ao->R (Option Int)
abbrev Sl:List Addr->Hp->Option Int->Option Int->Prop:=fun _ _ a b=>a=b
structure SO(X:Cx)(e:Option Expr)(f:FO):Prop where
 h:PO X e (tG X Sl f)
def BX:FO:=fun _ st=>.ok none st
def yp(fa:FE):FO:=fun ρ st=>(fa ρ st).bind fun x st=>match x with
 |.int i=>.ok (some i) st
 |_=>.bad
theorem PO.imp{X:Cx}{e:Option Expr}{t t':TO}(h:PO X e t)(i:∀σ H Q,t' σ H Q->t σ H Q):PO X e t':=fun aj s σ H Q I q=>h aj s σ H Q I (i _ _ _ q)
theorem BY:SO X none BX:=⟨Iz.imp fun σ H Q h=>by
 obtain⟨μ,ρ,st,l,h⟩:=h
 exact h μ none H (al _) eX.refl l.sto rfl⟩
theorem BZ(ha:SE X a fa):SO X (some a) (yp fa):=⟨(IA ha.h).imp fun σ H Q h=>by
 obtain⟨μ,ρ,st,l,h⟩:=h
 refine⟨μ,ρ,st,l,RK.bind h l fun μ1 st1 x v H1 p1 x1 l1 q1 h1=>?_⟩
 cases x with
 |int k=>exact⟨k,q1.intE,h1 μ1 _ H1 (al _) eX.refl l1.sto rfl⟩
 |_=>exact h1.elim⟩
def oZ{α:Type}(xs:List α)(lo hi:Option Int):List α:=(xs.drop (HT.sIx xs.length 0 lo)).take (HT.sIx xs.length xs.length hi-HT.sIx xs.length 0 lo)
def HU(x:W)(lo hi:Option Int)(st:List ao):R W:=match x with
 |.tup ws=>.ok (.tup (oZ ws lo hi)) st
 |.str l=>if l.length<=jY then .ok (.str (oZ l lo hi)) st else .bad
 |.loc n=>s_ (lstOf st n) fun ws=>.ok (.loc st.length) (st++[.lst (oZ ws lo hi)])
 |_=>.bad
theorem PQ(x:W)(lo hi:Option Int)(st:List ao):qz (HU x lo hi st):=by
 unfold HU s_
 repeat' split
 all_goals trivial
def PR(fa:FE)(fl fh:FO):FE:=fun ρ st=>(fa ρ st).bind fun x st=>(fl ρ st).bind fun l st=>(fh ρ st).bind fun h st=>HU x l h st
theorem Sm:O_ X (fun x lo hi H Q=>∃μ st wx,iI X.K X.mg μ st H/\bE X.K μ H wx x/\DV X μ H Q (HU wx lo hi st)):=by
 intro aj s σ H x v vl vu lo hi sl Q I rv hs pl pu ⟨μ,st,wx,S,rx,q⟩
 cases wx with
 |tup ws=>
  obtain⟨p,vs,rfl,hS,r⟩:=rx.tupE
  have hl:=r.len
  by_cases hw:HT.sIx vs.length 0 lo=0/\HT.sIx vs.length vs.length hi=vs.length
  ·cases rv
   obtain⟨bN,w,ht,hz⟩:=I.tuple hS
   have dr:bN.toArray.size=vs.length:=by rw[aS];exact w.length.symm
   refine⟨"tuple",_,dU.lookup,ht.typeIs,yo ht hs pl pu (by rw[dr];exact hw) ⟨.ref p,H,I,rfl,?_⟩⟩
   have e:oZ ws lo hi=ws:=by
    unfold oZ
    rw[hl,hw.1,hw.2,List.drop_zero,Nat.sub_zero,<- hl,jy]
   have q':DV X μ H Q (.ok (.tup (oZ ws lo hi)) st):=q
   rw[e]at q'
   exact q' μ _ H (al _) eX.refl S rx
  ·refine L1 aj s σ H _ v vl vu lo hi sl Q I rv hs pl pu ⟨p,vs,rfl,hS,hw,fun p2 Og=>?_⟩
   have x:=gK.same (K:=X.K) (cQ Og (.tup (tI vs lo hi)))
   have rc:RelWs X.K μ H (oZ ws lo hi) (tI vs lo hi):=by
    unfold oZ tI
    rw[hl]
    exact(r.drop _).take _
   exact q μ _ _ (al _) x (S.same (cQ Og _)) (.tupI gK.new (rc.mono (al _) x))
 |str l=>
  simp only[HU]at q
  by_cases c:l.length<=jY
  ·rw[aE c]at q
   exact Mg aj s σ H _ v vl vu lo hi sl Q I rv hs pl pu ⟨l,rx.strE,nG c,qC S q⟩
  ·rw[aN c]at q;exact q.elim
 |loc n=>
  simp only[HU]at q
  cases e0:lstOf st n with
  |none=>rw[e0]at q;exact q.elim
  |some ws=>
   rw[e0]at q
   obtain⟨a,vs,g,hS,r⟩:=S.lstOf e0
   obtain⟨b1,f1,rfl⟩:=rx.locE
   rw[g]at f1;cases f1
   have hl:=r.len
   refine ID aj s σ H _ v vl vu lo hi sl Q I rv hs pl pu ⟨_,vs,rfl,hS,fun p2 Og=>?_⟩
   have rc:RelWs X.K μ H (oZ ws lo hi) (tI vs lo hi):=by
    unfold oZ tI
    rw[hl]
    exact(r.drop _).take _
   exact q (μ++[p2]) _ _ (bJ _ _) (gK.same (cQ Og _)) (S.newLst Og rc) (mx S)
 |_=>exact q.elim
theorem PU{lo hi:Option Expr}{fl fh:FO}(ha:SE X a fa)(hl:SO X lo fl)(hh:SO X hi fh):SE X (.Subscript a (.Slice lo hi none p2) pos) (PR fa fl fh):=⟨(Ee Sm ha.h hl.h hh.h).imp fun σ H Q h=>by
 obtain⟨μ,ρ,st,l,h⟩:=h
 refine⟨μ,ρ,st,l,RK.bind h l fun μ1 st1 x v H1 p1 x1 l1 q1 h1=>⟨μ1,ρ,st1,l1,RK.bind h1 l1 fun μ2 cN y u H2 p2 x2 l2 q2 h2=>⟨μ2,ρ,cN,l2,RK.bind h2 l2 fun μ3 jL z t H3 p3 x3 l3 q3 h3=>?_⟩⟩⟩
 cases q2;cases q3
 exact⟨μ3,jL,x,l3.sto,(q1.mono p2 x2).mono p3 x3,nH h3 (PQ _ _ _ _)⟩⟩
def Tg(X:Cx)(F:List W->List ao->R W):List V->Hp->VK->Prop:=fun vs H Q=>∃μ st ws,iI X.K X.mg μ st H/\RelWs X.K μ H ws vs/\DV X μ H Q (F ws st)
structure qE(X:Cx)(f:Value)(F:List W->List ao->R W):Prop where
 h:i4 X f (Tg X F)
 n:∀ws st,qz (F ws st)
def cw(F:List W->List ao->R W)(fs:FA):FE:=fun ρ st=>(fs ρ st).bind fun ws st=>F ws st
theorem B0{F:List W->List ao->R W}{σ:St}{H:Hp}{Q:VK}(n:∀ws st,qz (F ws st))(h:tE X (cw F fs) σ H Q):R3 (Tg X F) (Sj X fs) σ H Q:=by
 obtain⟨μ,ρ,st,l,h⟩:=h
 exact⟨μ,ρ,st,l,RK.bind h l fun μ1 st1 x v H1 p1 x1 l1 q1 h1=>⟨μ1,st1,x,l1.sto,q1,nH h1 (n _ _)⟩⟩
theorem cF{id:String}{F:List W->List ao->R W}(hc:qE X (.builtin id) F)(hm:X.mg x=none)(hv:bootBuiltins x=some (.builtin id))(ha:SA X (e::es) fs)(hg:Gl X x:=by rfl)(hn:x ≠ "__name__":=by decide)(J2:(x==("__debug__":Str))=false:=by decide)
  (he:starEach (e::es) X.env=(false,eval e X.env)::starEach es X.env:=by rfl) (jG:(backTo pos (starEach es X.env)).any (·.1)=false:=by rfl):SE X (.Call (.Name x p) (e::es) [] pos) (cw F fs):=⟨(nE hc.h hg hm hv ha.h hn J2 he jG).imp fun _ _ _ h=>B0 hc.n h⟩
theorem ki{T:String}{F:List W->List ao->R W}(hc:qE X (.type T) F)(hm:X.mg x=none)(hv:bootBuiltins x=some (.type T))(ha:SA X (e::es) fs)(hg:Gl X x:=by rfl)(hn:x ≠ "__name__":=by decide)(J2:(x==("__debug__":Str))=false:=by decide)
  (he:starEach (e::es) X.env=(false,eval e X.env)::starEach es X.env:=by rfl) (jG:(backTo pos (starEach es X.env)).any (·.1)=false:=by rfl):SE X (.Call (.Name x p) (e::es) [] pos) (cw F fs):=⟨(rk hc.h hg hm hv ha.h hn J2 he jG).imp fun _ _ _ h=>B0 hc.n h⟩
theorem RelWs.two{K:Frag}{μ:List Addr}{H:Hp}{a b:W}{vs:List V}(r:RelWs K μ H [a,b] vs):∃x y,vs=[x,y]/\bE K μ H a x/\bE K μ H b y:=by
 obtain⟨x,xs,rfl,rx,rn⟩:=r.consE
 obtain⟨y,ys,rfl,ry,rm⟩:=rn.consE
 rw[rm.nilE];exact⟨x,y,rfl,rx,ry⟩
theorem RelWs.one{K:Frag}{μ:List Addr}{H:Hp}{a:W}{vs:List V}(r:RelWs K μ H [a] vs):∃x,vs=[x]/\bE K μ H a x:=by
 obtain⟨x,xs,rfl,rx,rn⟩:=r.consE
 rw[rn.nilE];exact⟨x,rfl,rx⟩
def eV(ws:List W)(st:List ao):R W:=match ws with
 |[.tup xs]=>.ok (.int xs.length) st
 |[.str l]=>if l.length<=jY then .ok (.int l.length) st else .bad
 |[.loc n]=>s_ (lstOf st n) fun xs=>.ok (.int xs.length) st
 |_=>.bad
theorem fE:qE X (.builtin "len") eV:=⟨fun aj s σ H vs us Q I rv ⟨μ,st,ws,S,r,q⟩=>by
 unfold eV at q
 split at q
 ·obtain⟨x,rfl,rx⟩:=r.one
  obtain⟨p,ys,rfl,hS,r'⟩:=rx.tupE
  exact qp aj s σ H _ us Q I rv ⟨p,ys,rfl,.inr hS,by rw[<- r'.len];exact oJ S q⟩
 ·obtain⟨x,rfl,rx⟩:=r.one
  split at q
  ·rename_i c
   exact wt aj s σ H _ us Q I rv ⟨_,by rw[rx.strE],by rw[iH];exact nG c,by rw[iH];exact oJ S q⟩
  ·exact q.elim
 ·obtain⟨x,rfl,rx⟩:=r.one
  unfold s_ at q
  split at q
  ·rename_i ys e0
   obtain⟨a,vs,g,hS,r'⟩:=S.lstOf e0
   obtain⟨b1,f1,rfl⟩:=rx.locE
   rw[g]at f1;cases f1
   exact qp aj s σ H _ us Q I rv ⟨_,vs,rfl,.inl hS,by rw[<- r'.len];exact oJ S q⟩
  ·exact q.elim
 ·exact q.elim,fun ws st=>by
 unfold eV s_
 repeat' split
 all_goals trivial⟩
def Dp(ws:List W)(st:List ao):R W:=match ws with
 |[.int i,.int j]=>.ok (.int (if j>i then j else i)) st
 |_=>.bad
theorem Kf(hc:X.calm=true:=by rfl):qE X (.builtin "max") Dp:=⟨fun aj s σ H vs us Q I rv ⟨μ,st,ws,S,r,q⟩=>by
 unfold Dp at q
 split at q
 ·obtain⟨x,y,rfl,rx,ry⟩:=r.two
  exact C4 hc aj s σ H _ us Q I rv ⟨_,_,by rw[rx.intE,ry.intE],oJ S q⟩
 ·exact q.elim,fun ws st=>by unfold Dp;split<;>trivial⟩
def kj(ws:List W)(st:List ao):R W:=match ws with
 |[.tup xs]=>.ok (.tup xs) st
 |[.loc n]=>s_ (lstOf st n) fun xs=>.ok (.tup xs) st
 |_=>.bad
theorem oK:qE X (.type "tuple") kj:=⟨fun aj s σ H vs us Q I rv ⟨μ,st,ws,S,r,q⟩=>by
 unfold kj at q
 split at q
 ·obtain⟨x,rfl,rx⟩:=r.one
  obtain⟨p,ys,rfl,hS,r'⟩:=id rx.tupE
  exact xS aj s σ H _ us Q I rv ⟨p,ys,rfl,hS,q μ _ H (al _) eX.refl S rx⟩
 ·obtain⟨x,rfl,rx⟩:=r.one
  unfold s_ at q
  split at q
  ·rename_i ys e0
   obtain⟨a,vs,g,hS,r'⟩:=S.lstOf e0
   obtain⟨b1,f1,rfl⟩:=rx.locE
   rw[g]at f1;cases f1
   refine x5 aj s σ H _ us Q I rv ⟨_,vs,rfl,hS,fun l H2 hl e=>?_⟩
   subst e
   have x:=gK.same (K:=X.K) (cQ hl (.tup vs))
   exact q μ _ _ (al _) x (S.same (cQ hl _)) (.tupI gK.new (r'.mono (al _) x))
  ·exact q.elim
 ·exact q.elim,fun ws st=>by
 unfold kj s_
 repeat' split
 all_goals trivial⟩
end
section
variable{X:Cx}{a b c e o:Expr}{es:List Expr}{pos p p2 gc du:Pos}{x name:Str}{j:Nat}{fa fb fc fe:FE}{fs:FA}{ft:FT}{st1:Stmt}{sr sa sb:List Stmt}{g g':FS}
def aR(g g':FS):FS:=fun ρ st=>match g ρ st with
 |.nx ρ' bf=>g' ρ' bf
 |r=>r
def b7:FS:=fun ρ st=>.nx ρ st
theorem bO:SB X [] b7:=⟨Ie.imp fun D σ H h=>by
 obtain⟨μ,ρ,st,l,h⟩:=h
 exact h μ σ H (al _) eX.refl l⟩
theorem aH(h1:SS X st1 g):SB X [st1] g:=⟨Ig h1.h⟩
theorem aA(h1:SS X st1 g)(h2:SB X sr g'):SB X (st1::sr) (aR g g'):=⟨(D5 h1.h h2.h).imp fun D σ H h=>by
 obtain⟨μ,ρ,st,l,h⟩:=h
 refine⟨μ,ρ,st,l,?_⟩
 unfold aR at h
 cases e:g ρ st with
 |nx ρ' bf=>rw[e]at h;exact fun μ' σ' H' p x l'=>⟨μ',ρ',bf,l',SK.mono h p x⟩
 |rt w bf=>rw[e]at h;exact h
 |bk ρ' bf=>rw[e]at h;exact h
 |ct ρ' bf=>rw[e]at h;exact h
 |ex c ρ' bf=>rw[e]at h;exact h
 |bad=>rw[e]at h;exact h⟩
def R.stmt{α:Type}(r:R α)(ρ:b6)(k:α->List ao->RS):RS:=match r with
 |.ok a st=>k a st
 |.ex c st=>.ex c ρ st
 |.bad=>.bad
@[simp] theorem R.stmt_ok{α:Type}(a:α)(st:List ao)(ρ:b6)(k:α->List ao->RS):(R.ok a st).stmt ρ k=k a st:=rfl
theorem RK.stmt{α β:Type}{rel:List Addr->Hp->α->β->Prop}{μ:List Addr}{ρ:b6}{st:List ao}{σ:St}{H:Hp}{D:wg}{r:R α}{k:α->List ao->RS}{T:β->Hp->Prop}
  (h:SK X μ H D (r.stmt ρ k)) (l:Rl X μ ρ st σ H)
  (hk:∀μ' bf x v H',μ <+: μ'->eX X.K H H'->Rl X μ' ρ bf σ H'->rel μ' H' x v->SK X μ' H' D (k x bf)->T v H'):RK X rel μ σ H T r:=by
 cases r with
 |ok a bf=>exact fun μ' b H' p x s q=>hk μ' bf a b H' p x (l.to p x s) q (SK.mono h p x)
 |ex c bf=>exact XS.toE h l
 |bad=>exact h
def gs(fe:FE):FS:=fun ρ st=>(fe ρ st).stmt ρ fun _ st=>.nx ρ st
theorem fF(he:SE X e fe)(hs:swapsWith e none pos.line X.env=pure false:=by rfl):SS X (.Expr e pos) (gs fe):=⟨(Ih he.h hs).imp fun D σ H h=>by
 obtain⟨μ,ρ,st,l,h⟩:=h
 exact⟨μ,ρ,st,l,RK.stmt h l fun μ1 st1 x v H1 p1 x1 l1 q1 h1=>h1 μ1 σ H1 (al _) eX.refl l1⟩⟩
def cK(fe:FE):FS:=fun ρ st=>(fe ρ st).stmt ρ fun w st=>.rt w st
theorem be(he:SE X e fe):SS X (.Return (some e) pos) (cK fe):=⟨(LF he.h).imp fun D σ H h=>by
 obtain⟨μ,ρ,st,l,h⟩:=h
 exact⟨μ,ρ,st,l,RK.stmt h l fun μ1 st1 x v H1 p1 x1 l1 q1 h1=>h1 μ1 v H1 (al _) eX.refl l1.sto q1⟩⟩
def fR(t:FT)(g g':FS):FS:=fun ρ st=>(t ρ st).stmt ρ fun k st=>if k then g ρ st else g' ρ st
theorem bV(hc:ST X c ft)(ha:SB X sa g)(hb:SB X sb g'):SS X (.If c sa sb pos) (fR ft g g'):=⟨(OR hc.h ha.h hb.h).imp fun D σ H h=>by
 obtain⟨μ,ρ,st,l,h⟩:=h
 refine⟨μ,ρ,st,l,RK.stmt h l fun μ1 st1 x v H1 p1 x1 l1 q1 h1=>?_⟩
 cases q1
 cases x with
 |true=>exact⟨μ1,ρ,st1,l1,h1⟩
 |false=>exact⟨μ1,ρ,st1,l1,h1⟩⟩
abbrev FG:=W->b6->Option b6
abbrev Kg:=List W->b6->Option b6
def PV(X:Cx)(f:FG):TG:=fun v σ H Q=>∃μ ρ st w ρ',Rl X μ ρ st σ H/\bE X.K μ H w v/\f w ρ=some ρ'/\∀σ',Rl X μ ρ' st σ' H->Q σ' H
def Sn(X:Cx)(f:Kg):Ii:=fun vs σ H Q=>∃μ ρ st ws ρ',Rl X μ ρ st σ H/\RelWs X.K μ H ws vs/\f ws ρ=some ρ'/\∀σ',Rl X μ ρ' st σ' H->Q σ' H
theorem PG.imp{X:Cx}{e:Expr}{t t':TG}(h:PG X e t)(i:∀v σ H Q,t' v σ H Q->t v σ H Q):PG X e t':=fun aj s σ H x u Q I r q=>h aj s σ H x u Q I r (i _ _ _ _ q)
theorem J6.imp{X:Cx}{e:List Expr}{t t':Ii}(h:J6 X e t)(i:∀v σ H Q,t' v σ H Q->t v σ H Q):J6 X e t':=fun aj s σ H x u Q I r q=>h aj s σ H x u Q I r (i _ _ _ _ q)
structure SG(X:Cx)(e:Expr)(f:FG):Prop where
 h:PG X e (PV X f)
structure Rx(X:Cx)(e:List Expr)(f:Kg):Prop where
 h:J6 X e (Sn X f)
def ie(i:Nat):FG:=fun w ρ=>some (ρ.set i (some w))
theorem B1{i:Nat}(hN:X.N.Nodup)(hi:X.N[i]?=some x)(hx:HP X.env.scope x)(hf:X.fn x=true\/X.env.scope.names.lookup x=some .local:=by first|exact .inl rfl|exact .inr rfl|assumption):SG X (.Name x pos) (ie i):=⟨(Ik hN hi hx hf).imp fun v σ H Q h=>by
 obtain⟨μ,ρ,st,w,ρ',l,r,e,q⟩:=h
 cases e
 exact q _ ⟨qy r i l.env,l.sto⟩⟩
def sA:Kg:=fun ws ρ=>match ws with
 |[]=>some ρ
 |_=>none
def g8(f:FG)(fs:Kg):Kg:=fun ws ρ=>match ws with
 |w::ws=>(f w ρ).bind fun ρ'=>fs ws ρ'
 |[]=>none
theorem oM:Rx X [] sA:=⟨Il.imp fun vs σ H Q h=>by
 obtain⟨μ,ρ,st,ws,ρ',l,r,e,q⟩:=h
 cases ws with
 |nil=>cases e;exact⟨r.nilE,q σ l⟩
 |cons _ _=>cases e⟩
theorem gu{f:FG}{fs:Kg}(h1:SG X e f)(h2:Rx X es fs)(hs:(assignEach (e::es) X.env).map (·.2)=assign e X.env::(assignEach es X.env).map (·.2):=by rfl):Rx X (e::es) (g8 f fs):=⟨(D6 h1.h h2.h hs).imp fun vs σ H Q h=>by
 obtain⟨μ,ρ,st,ws,ρ',l,r,e,q⟩:=h
 cases ws with
 |nil=>cases e
 |cons w ws=>
  obtain⟨x,xs,rfl,rx,rs⟩:=r.consE
  simp only[g8]at e
  cases e1:f w ρ with
  |none=>rw[e1]at e;cases e
  |some ρ1=>
   rw[e1]at e
   exact⟨x,xs,rfl,μ,ρ,st,w,ρ1,l,rx,e1,fun σ1 l1=>⟨μ,ρ1,st,ws,ρ',l1,rs,e,q⟩⟩⟩
def Ja(n:Nat)(fs:Kg):FG:=fun w ρ=>match w with
 |.tup ws=>if ws.length=n then fs ws ρ else none
 |_=>none
theorem rE{k n:Nat}{fs:Kg}(hc:X.calm=true)(h:Rx X es fs)(hn:(assignEach es X.env).length=n:=by rfl)(kU:(assignEach es X.env).findIdx? (·.1)=none:=by rfl):SG X (.Tuple es k pos) (Ja n fs):=⟨(LG hc h.h hn kU).imp fun v σ H Q h=>by
 obtain⟨μ,ρ,st,w,ρ',l,r,e,q⟩:=h
 cases w with
 |tup ws=>
  obtain⟨p,vs,rfl,hS,rs⟩:=r.tupE
  simp only[Ja]at e
  by_cases c:ws.length=n
  ·rw[aE c]at e
   exact⟨p,vs,rfl,hS,by rw[<- rs.len];exact c,μ,ρ,st,ws,ρ',l,rs,e,q⟩
  ·rw[aN c]at e;cases e
 |_=>cases e⟩
def wI(fe:FE)(f:FG):FS:=fun ρ st=>(fe ρ st).stmt ρ fun w st=>match f w ρ with
 |some ρ'=>.nx ρ' st
 |none=>.bad
theorem PX{f:FG}{D:wg}{σ:St}{H:Hp}(h:Rw X (wI fe f) D σ H):D7 (tE X fe) (PV X f) D σ H:=by
 obtain⟨μ,ρ,st,l,h⟩:=h
 refine⟨μ,ρ,st,l,RK.stmt h l fun μ1 st1 x v H1 p1 x1 l1 q1 h1=>?_⟩
 cases e1:f x ρ with
 |none=>rw[e1]at h1;exact h1.elim
 |some ρ'=>rw[e1]at h1;exact⟨μ1,ρ,st1,x,ρ',l1,q1,e1,fun σ' l'=>h1 μ1 σ' H1 (al _) eX.refl l'⟩
theorem Mu{tg:Expr}{f:FG}(he:SE X e fe)(hg:SG X tg f)(hs:swapsWithSole [tg] e pos.line X.env=pure false:=by rfl)(hw:swappedStores [tg] e X.env=pure none:=by rfl)(h1:(assignEach [tg] X.env).map (·.2)=[assign tg X.env]:=by rfl):SS X (.Assign [tg] e pos) (wI fe f):=⟨(D8 he.h hg.h hs hw h1).imp fun D σ H h=>PX h⟩
def bM(i:Nat)(fe:FE):FS:=fun ρ st=>(fe ρ st).stmt ρ fun w st=>.nx (ρ.set i (some w)) st
theorem Mv{i:Nat}{iP:Pos}(hN:X.N.Nodup)(hi:X.N[i]?=some x)(hx:HP X.env.scope x)(he:SE X e fe)(hs:swapsWith e (some (.Name x iP)) pos.line X.env=pure false:=by rfl)(hf:X.fn x=true\/X.env.scope.names.lookup x=some .local:=by first|exact .inl rfl|exact .inr rfl|assumption) :
  SS X (.Assign [.Name x iP] e pos) (bM i fe):=⟨(LI hN hi hx he.h hs hf).imp fun D σ H h=>by
 obtain⟨μ,ρ,st,l,h⟩:=h
 exact⟨μ,ρ,st,l,RK.stmt h l fun μ1 st1 x v H1 p1 x1 l1 q1 h1=>h1 μ1 _ H1 (al _) eX.refl ⟨qy q1 i l1.env,l1.sto⟩⟩⟩
def k8(x i v:W)(st:List ao):Option (List ao):=match x,i with
 |.loc n,.int k=>(match st[n]? with
  |some (.lst ws)=>(z6 ws.length k).map fun j=>st.set n (.lst (ws.set j v))
  |_=>none)
 |_,_=>none
def o9(fo fi fe:FE)(f:W->W->W->List ao->Option (List ao)):FS:=fun ρ st=>(fe ρ st).stmt ρ fun v st=>(fo ρ st).stmt ρ fun x st=>(fi ρ st).stmt ρ fun i st=>match f x i v st with
 |some bf=>.nx ρ bf
 |none=>.bad
def ER(X:Cx)(f:W->W->W->List ao->Option (List ao)):Ij:=fun o i v H Q=>∃μ st wo wi wv bf,iI X.K X.mg μ st H/\bE X.K μ H wo o/\bE X.K μ H wi i/\bE X.K μ H wv v/\f wo wi wv st=some bf/\∀H',eX X.K H H'->iI X.K X.mg μ bf H'->Q H'
theorem pU:CY X (ER X k8):=fun aj s σ H o i v ov iv u Q I r1 r2 r3 ⟨μ,st,wo,wi,wv,bf,S,ro,ri,rv,e,q⟩=>by
 cases wo with
 |loc n=>
  cases wi with
  |int k=>
   simp only[k8]at e
   cases e1:st[n]? with
   |none=>rw[e1]at e;cases e
   |some cc=>
    rw[e1]at e
    cases cc with
    |lst ws=>
     simp only at e
     cases e2:z6 ws.length k with
     |none=>rw[e2]at e;cases e
     |some jj=>
      rw[e2]at e
      cases e
      obtain⟨a1,g1,vs,k1,r⟩:=S.get e1
      obtain⟨b1,f1,rfl⟩:=ro.locE
      rw[g1]at f1;cases f1
      refine Dd aj s σ H _ i v ov iv u Q I r1 r2 r3 ⟨a1,vs,k,jj,rfl,ri.intE,k1,by rw[<- r.len];exact e2,fun H2 eH=>?_⟩
      subst eH
      exact q _ (gK.but mv k1) (S.set e1 g1 k1 (r.setI jj rv))
    |_=>cases e
  |_=>cases e
 |_=>cases wi<;>cases e
theorem lI{f:W->W->W->List ao->Option (List ao)}{i:Expr}{iP:Pos}{fi:FE}{fo:FE}(SV:CY X (ER X f))(he:SE X e fe)(ho:SE X o fo)(hi:SE X i fi)
  (ha:∀v,assign (.Subscript o i iP) X.env v=(do
   let ov <- holding [v] (eval o X.env)
   let iv <- holding [v,ov] (eval i X.env)
   standAt iP
   holding [v,ov,iv] (setItem ov iv v)
   release [v,ov,iv] []):=by intro _;rfl)
  (hs:swapsWithSole [.Subscript o i iP] e pos.line X.env=pure false:=by rfl) (hw:swappedStores [.Subscript o i iP] e X.env=pure none:=by rfl) (h1:(assignEach [.Subscript o i iP] X.env).map (·.2)=[assign (.Subscript o i iP) X.env]:=by rfl) :
  SS X (.Assign [.Subscript o i iP] e pos) (o9 fo fi fe f):=⟨(D8 he.h (LH ho.h hi.h SV ha) hs hw h1).imp fun D σ H h=>by
 obtain⟨μ,ρ,st,l,h⟩:=h
 refine⟨μ,ρ,st,l,RK.stmt h l fun μ1 st1 v vv H1 p1 x1 l1 q1 h1=>⟨μ1,ρ,st1,l1,RK.stmt h1 l1 fun μ2 cN x xv H2 p2 x2 l2 q2 h2=>⟨μ2,ρ,cN,l2,RK.stmt h2 l2 fun μ3 jL i iv H3 p3 x3 l3 q3 h3=>?_⟩⟩⟩
 cases e1:f x i v jL with
 |none=>rw[e1]at h3;exact h3.elim
 |some bf=>
  rw[e1]at h3
  exact⟨μ3,jL,x,i,v,bf,l3.sto,q2.mono p3 x3,q3,(q1.mono p2 x2).mono p3 x3,e1,fun H' xx S'=>h3 μ3 σ H' (al _) xx (l3.to (al _) xx S')⟩⟩
end
def i7(st:List ao):Option (Nat×List W)->Prop
 |none=>True
 |some (n,ws)=>lstOf st n=some ws
abbrev Dq:=List W×Option (Nat×List W)
abbrev FI:=b6->List ao->R Dq
def AB(X:Cx)(J:It)(k:Dq)(μ:List Addr)(H:Hp):Prop:=
 ∀(i:Nat) μ' bf H',μ <+: μ'->eX X.K H H'->iI X.K X.mg μ' bf H'->i7 bf k.2 ->
  (∀w,k.1[i]?=some w->J.go i H'/\∀x H'',J.yld i H' x H''->eX X.K H' H''/\iI X.K X.mg μ' bf H''/\bE X.K μ' H'' w x)/\(k.1.length<=i->J.stop i H')
abbrev PY(X:Cx):List Addr->Hp->Dq->It->Prop:=fun μ H k J=>AB X J k μ H
structure SI(X:Cx)(tg it:Expr)(f:FI):Prop where
 h:PI X tg it (fun σ H R=>tG X (PY X) f σ H R)
theorem PI.imp{X:Cx}{tg it:Expr}{t t':TI}(h:PI X tg it t)(i:∀σ H Q,t' σ H Q->t σ H Q):PI X tg it t':=fun aj s σ H Q I q=>h aj s σ H Q I (i _ _ _ q)
open Classical in
def nu(f:FG)(body:FS)(ck:Option (Nat×List W)):List W->FS
 |[],ρ,st=>if i7 st ck then .nx ρ st else .bad
 |w::ws,ρ,st=>if i7 st ck then(match f w ρ with
  |none=>.bad
  |some ρ'=>(match body ρ' st with
   |.nx ρ2 cN=>nu f body ck ws ρ2 cN
   |.ct ρ2 cN=>nu f body ck ws ρ2 cN
   |.bk ρ2 cN=>.nx ρ2 cN
   |.rt w cN=>.rt w cN
   |.ex c ρ2 cN=>.ex c ρ2 cN
   |.bad=>.bad))else .bad
def jg(fi:FI)(f:FG)(body:FS):FS:=fun ρ st=>(fi ρ st).stmt ρ fun k st=>nu f body k.2 k.1 ρ st
section
variable{X:Cx}{a b c e o tg dL:Expr}{es:List Expr}{pos p p2:Pos}{fa fb fe:FE}{fs:FA}{ft:FT}{body:List Stmt}{g:FS}{f:FG}{fi:FI}
theorem fS(hi:SI X tg dL fi)(hg:SG X tg f)(hb:SB X body g)(hc:X.calm=true:=by rfl)(hp:PassesOwn (model X.prog X.w) X.A X.env X.xe:=by passes_own)(hs:∀x,foldedSetIterable dL X.env x=pure x:=by intro _;rfl):SS X (.For tg dL body [] pos) (jg fi f g):=⟨(LK hp hc hi.h hg.h hb.h hs).imp fun D σ H h=>by
 obtain⟨μ,ρ,st,l,h⟩:=h
 refine⟨μ,ρ,st,l,RK.stmt h l fun μ1 st1 k J H1 p1 x1 l1 wk h1=>?_⟩
 refine⟨fun i m σ' H'=>i<=k.1.length/\m=k.1.length-i/\∃μ' ρ' bf,μ1 <+: μ'/\eX X.K H1 H'/\Rl X μ' ρ' bf σ' H'/\SK X μ' H' D (nu f g k.2 (k.1.drop i) ρ' bf),
  ⟨_,bQ _,rfl,μ1,ρ,st1,al _,eX.refl,l1,h1⟩,?_⟩
 rintro i m σ' H' ⟨hi,rfl,μ',ρ',bf,pm,xm,lm,hm⟩
 by_cases hlt:i<k.1.length
 ·rw[gZ hlt]at hm
  unfold nu at hm
  by_cases ck:i7 bf k.2
  ·rw[aE ck]at hm
   obtain⟨go,yld⟩:=(wk i μ' bf H' pm xm lm.sto ck).1 _ (aq hlt)
   cases hf:f k.1[i] ρ' with
   |none=>rw[hf]at hm;exact hm.elim
   |some ρ2=>
    rw[hf]at hm
    simp only at hm
    refine .inr ⟨go,fun σ2 H2=>∃μ2 ρ3 cN,μ' <+: μ2/\eX X.K H' H2/\Rl X μ2 ρ3 cN σ2 H2/\SK X μ2 H2 D (nu f g k.2 (k.1.drop (i+1)) ρ3 cN),fun σ2 H2 ⟨μ2,ρ3,cN,q1,q2,q3,q4⟩=>
     ⟨_,by omega,hlt,rfl,μ2,ρ3,cN,pm.trans q1,xm.trans q2,q3,q4⟩,fun x H2 hy=>?_⟩
    obtain⟨y1,y2,y3⟩:=yld x H2 hy
    refine⟨μ',ρ',bf,k.1[i],ρ2,lm.to (al _) y1 y2,y3,hf,fun σ2 l2=>⟨μ',ρ2,bf,l2,?_⟩⟩
    cases e:g ρ2 bf with
    |nx ρ3 jL=>rw[e]at hm;exact fun μ4 σ4 H4 p4 x4 l4=>⟨μ4,ρ3,jL,p4,y1.trans x4,l4,SK.mono hm p4 (y1.trans x4)⟩
    |ct ρ3 jL=>rw[e]at hm;exact fun μ4 σ4 H4 p4 x4 l4=>⟨μ4,ρ3,jL,p4,y1.trans x4,l4,SK.mono hm p4 (y1.trans x4)⟩
    |bk ρ3 jL=>rw[e]at hm;exact fun μ4 σ4 H4 p4 x4 l4=>hm μ4 σ4 H4 p4 (y1.trans x4) l4
    |rt w jL=>rw[e]at hm;exact fun μ4 v4 H4 p4 x4=>hm μ4 v4 H4 p4 (y1.trans x4)
    |ex c ρ3 jL=>rw[e]at hm;exact XS.mono hm (al _) y1
    |bad=>rw[e]at hm;exact hm
  ·rw[aN ck]at hm;exact hm.elim
 ·have hi':i=k.1.length:=by omega
  subst hi'
  rw[mT (aw _)]at hm
  unfold nu at hm
  by_cases ck:i7 bf k.2
  ·rw[aE ck]at hm
   exact .inl ⟨(wk _ μ' bf H' pm xm lm.sto ck).2 (aw _),hm μ' σ' H' (al _) eX.refl lm⟩
  ·rw[aN ck]at hm;exact hm.elim⟩
def fW(t:FT)(body:FS):Nat->FS
 |0,_,_=>.bad
 |n+1,ρ,st=>(t ρ st).stmt ρ fun k st=>if k then(match body ρ st with
   |.nx ρ2 cN=>fW t body n ρ2 cN
   |.ct ρ2 cN=>fW t body n ρ2 cN
   |.bk ρ2 cN=>.nx ρ2 cN
   |.rt w cN=>.rt w cN
   |.ex c ρ2 cN=>.ex c ρ2 cN
   |.bad=>.bad)else .nx ρ st
open Classical in
def my(t:FT)(body:FS):FS:=fun ρ st=>if h:∃n,fW t body n ρ st≠.bad then fW t body h.choose ρ st else .bad
theorem nK(t:FT)(g:FS):∀(n:Nat) (ρ:b6) (st:List ao),fW t g n ρ st≠.bad->fW t g (n+1) ρ st=fW t g n ρ st
 |0,_,_,h=>absurd rfl h
 |n+1,ρ,st,h=>by
  unfold fW at h ⊢
  cases e:t ρ st with
  |ex c st1=>rfl
  |bad=>rfl
  |ok k st1=>
   rw[e]at h
   simp only[R.stmt_ok]at h ⊢
   cases k with
   |false=>rfl
   |true=>
    simp only[jC]at h ⊢
    cases e2:g ρ st1 with
    |nx ρ2 cN=>rw[e2]at h;exact nK t g n ρ2 cN h
    |ct ρ2 cN=>rw[e2]at h;exact nK t g n ρ2 cN h
    |_=>rfl
theorem vw{t:FT}{g:FS}{n m:Nat}{ρ:b6}{st:List ao}(h:fW t g n ρ st≠.bad)(hm:n<=m):fW t g m ρ st=fW t g n ρ st:=by
 induction hm with
 |refl=>rfl
 |@step m _ ih=>rw[nK t g m ρ st (by rw[ih];exact h),ih]
theorem Dr{t:FT}{g:FS}{n:Nat}{ρ:b6}{st:List ao}{r:RS}(h:fW t g n ρ st=r)(hr:r≠.bad):my t g ρ st=r:=by
 have hx:∃n,fW t g n ρ st≠.bad:=⟨n,by rw[h];exact hr⟩
 unfold my
 rw[dif_pos hx]
 have c:=hx.choose_spec
 have a:=vw c (Nat.le_max_left hx.choose n)
 have b:=vw (n:=n) (m:=max hx.choose n) (by rw[h];exact hr) (Nat.le_max_right _ _)
 rw[<- a,b,h]
theorem yq{X:Cx}{t:FT}{g:FS}{D:wg}:∀(n:Nat) (σ:St) (H:Hp) (μ:List Addr) (ρ:b6) (st:List ao),Rl X μ ρ st σ H->SK X μ H D (fW t g n ρ st)->D9 (tT X t) (Rw X g) D σ H:=by
 intro n σ H μ ρ st l h
 refine⟨fun m σ' H'=>∃μ' ρ' bf,Rl X μ' ρ' bf σ' H'/\SK X μ' H' D (fW t g m ρ' bf),⟨n,μ,ρ,st,l,h⟩,?_⟩
 rintro m σ' H' ⟨μ',ρ',bf,l',h'⟩
 cases m with
 |zero=>exact h'.elim
 |succ m=>
  refine⟨μ',ρ',bf,l',RK.stmt h' l' fun μ1 st1 k v H1 p1 x1 l1 q1 h1=>?_⟩
  cases q1
  cases k with
  |false=>exact h1 μ1 σ' H1 (al _) eX.refl l1
  |true=>
   refine⟨fun σ2 H2=>∃μ2 ρ2 cN,Rl X μ2 ρ2 cN σ2 H2/\SK X μ2 H2 D (fW t g m ρ2 cN),fun σ2 H2 z=>⟨m,cy m,z⟩,μ1,ρ',st1,l1,?_⟩
   simp only[jC]at h1
   cases e:g ρ' st1 with
   |nx ρ3 jL=>rw[e]at h1;exact fun μ4 σ4 H4 p4 x4 l4=>⟨μ4,ρ3,jL,l4,SK.mono h1 p4 x4⟩
   |ct ρ3 jL=>rw[e]at h1;exact fun μ4 σ4 H4 p4 x4 l4=>⟨μ4,ρ3,jL,l4,SK.mono h1 p4 x4⟩
   |bk ρ3 jL=>rw[e]at h1;exact h1
   |rt w jL=>rw[e]at h1;exact h1
   |ex c ρ3 jL=>rw[e]at h1;exact h1
   |bad=>rw[e]at h1;exact h1
theorem t8{t:FT}(hc:ST X c t)(hb:SB X body g)(hp:PassesOwn (model X.prog X.w) X.A X.env X.xe:=by passes_own):SS X (.While c body [] pos) (my t g):=⟨(D_ hp hc.h hb.h).imp fun D σ H h=>by
 obtain⟨μ,ρ,st,l,h⟩:=h
 unfold my at h
 by_cases hx:∃n,fW t g n ρ st≠.bad
 ·rw[dif_pos hx]at h;exact yq _ σ H μ ρ st l h
 ·rw[dif_neg hx]at h;exact h.elim⟩
def ES(fe:FE):FI:=fun ρ st=>(fe ρ st).bind fun x st=>match x with
 |.tup ws=>.ok (ws,none) st
 |_=>.bad
theorem ET(he:SE X e fe):SI X tg e (ES fe):=⟨(LJ he.h).imp fun σ H R h=>by
 obtain⟨μ,ρ,st,l,h⟩:=h
 refine⟨μ,ρ,st,l,RK.bind h l fun μ1 st1 x v H1 p1 x1 l1 q1 h1=>?_⟩
 cases x with
 |tup ws=>
  obtain⟨p,vs,rfl,hS,r⟩:=q1.tupE
  refine⟨p,rfl,⟨vs,hS⟩,h1 μ1 _ H1 (al _) eX.refl l1.sto fun i μ' bf H' pp xx S _=>⟨fun w hw=>?_,fun hl=>⟨vs,xx _ _ hS,by rw[<- r.len];exact hl⟩⟩⟩
  have r':=r.mono pp xx
  obtain⟨v,g1,g2⟩:=r'.get hw
  refine⟨⟨vs,v,xx _ _ hS,g1⟩,fun y H'' hy=>?_⟩
  obtain⟨rfl,hy⟩:=hy
  have:=hy vs (xx _ _ hS)
  rw[g1]at this;cases this
  exact⟨eX.refl,S,g2⟩
 |_=>exact h1.elim⟩
def Kh(fe:FE):FI:=fun ρ st=>(fe ρ st).bind fun x st=>match x with
 |.loc n=>(match lstOf st n with
  |some ws=>.ok (ws,some (n,ws)) st
  |none=>.bad)
 |_=>.bad
theorem Mw(he:SE X e fe):SI X tg e (Kh fe):=⟨(Im he.h).imp fun σ H R h=>by
 obtain⟨μ,ρ,st,l,h⟩:=h
 refine⟨μ,ρ,st,l,RK.bind h l fun μ1 st1 x v H1 p1 x1 l1 q1 h1=>?_⟩
 cases x with
 |loc n=>
  obtain⟨a,ha,rfl⟩:=q1.locE
  simp only at h1
  cases e1:lstOf st1 n with
  |none=>rw[e1]at h1;exact h1.elim
  |some ws=>
   rw[e1]at h1
   obtain⟨a',vs0,g0,hS0,r0⟩:=l1.sto.lstOf e1
   rw[ha]at g0;cases g0
   refine⟨a,rfl,⟨vs0,hS0⟩,h1 μ1 _ H1 (al _) eX.refl l1.sto fun i μ' bf H' pp xx S ck=>?_⟩
   obtain⟨a2,vs,g2,hS,r⟩:=S.lstOf (show lstOf bf n=some ws from ck)
   have:μ'[n]?=some a:=wF pp ha
   rw[g2]at this;cases this
   refine⟨fun w hw=>?_,fun hl=>⟨vs,hS,by rw[<- r.len];exact hl⟩⟩
   obtain⟨v,g1,g3⟩:=r.get hw
   refine⟨⟨vs,v,hS,g1⟩,fun y H'' hy=>?_⟩
   obtain⟨rfl,hy⟩:=hy
   have:=hy vs hS
   rw[g1]at this;cases this
   exact⟨eX.refl,S,g3⟩
 |_=>exact h1.elim⟩
def d8(lo:Int)(n:Nat):List W:=(List.range n).map fun(i:Nat)=>W.int (lo+i)
theorem fj(lo:Int)(n:Nat):(d8 lo n).length=n:=by simp[d8]
theorem t9{μ:List Addr}{H:Hp}{lo:Int}{n:Nat}:AB X (OT lo n) (d8 lo n,none) μ H:=fun i μ' bf H' pp xx S _=>by
 refine⟨fun w hw=>?_,fun hl=>by rw[fj]at hl;exact hl⟩
 have hi:i<n:=by
  have:=(ak.mp hw).1
  rw[fj]at this;exact this
 refine⟨hi,fun y H'' hy=>?_⟩
 obtain⟨rfl,rfl⟩:=hy
 have e:w=.int (lo+i):=by
  unfold d8 at hw
  rw[aG,cV hi]at hw
  exact(bc hw).symm
 subst e
 exact⟨eX.refl,S,.int⟩
def dI(fs:FA):FI:=fun ρ st=>(fs ρ st).bind fun ws st=>match ws with
 |[.int j]=>if -(2^62)<=j/\j<2^62 then .ok (d8 0 j.toNat,none) st else .bad
 |_=>.bad
def qF(fs:FA):FI:=fun ρ st=>(fs ρ st).bind fun ws st=>match ws with
 |[.int i,.int j]=>if -(2^62)<=i/\i<2^62/\-(2^62)<=j/\j<2^62 then .ok (d8 i (j-i).toNat,none) st else .bad
 |_=>.bad
theorem fX(hm:X.mg "range"=none)(ha:SA X [a] fs)(hg:Gl X "range":=by rfl)(hs:starEach [a] X.env=[(false,eval a X.env)]:=by rfl):SI X tg (.Call (.Name "range" p) [a] [] pos) (dI fs):=⟨(C0 hg hm ha.h hs).imp fun σ H R h=>by
 obtain⟨μ,ρ,st,l,h⟩:=h
 refine⟨μ,ρ,st,l,RK.bind h l fun μ1 st1 x v H1 p1 x1 l1 q1 h1=>?_⟩
 split at h1
 ·obtain⟨y,rfl,ry⟩:=q1.one
  split at h1
  ·rename_i c
   exact⟨_,by rw[ry.intE],c.1,c.2,h1 μ1 _ H1 (al _) eX.refl l1.sto t9⟩
  ·exact h1.elim
 ·exact h1.elim⟩
theorem Ds(hm:X.mg "range"=none)(ha:SA X [a,b] fs)(hg:Gl X "range":=by rfl)(hs:starEach [a,b] X.env=[(false,eval a X.env),(false,eval b X.env)]:=by rfl)(ql:starEach [b] X.env=[(false,eval b X.env)]:=by rfl):SI X tg (.Call (.Name "range" p) [a,b] [] pos) (qF fs):=⟨(C1 hg hm ha.h hs ql).imp fun σ H R h=>by
 obtain⟨μ,ρ,st,l,h⟩:=h
 refine⟨μ,ρ,st,l,RK.bind h l fun μ1 st1 x v H1 p1 x1 l1 q1 h1=>?_⟩
 split at h1
 ·obtain⟨y,z,rfl,ry,rz⟩:=q1.two
  split at h1
  ·rename_i c
   exact⟨_,_,by rw[ry.intE,rz.intE],c,h1 μ1 _ H1 (al _) eX.refl l1.sto t9⟩
  ·exact h1.elim
 ·exact h1.elim⟩
end
end L2
namespace L2
variable{nk:Nat}
open PySem PySem.Spec PyProof.Rows
mutual
def W.und(n:Nat):W->Bool
 |.loc m=>decide (m<n)
 |.tup ws=>undWs n ws
 |_=>true
def undWs(n:Nat):List W->Bool
 |[]=>true
 |w::ws=>w.und n&&undWs n ws
end
def ao.und(n:Nat):ao->Bool
 |.lst ws=>undWs n ws
 |.ro ws=>undWs n ws
 |.exc _=>true
 |.dct kvs=>undWs n (kvs.map fun p=>p.2)
 |.rod kvs=>undWs n (kvs.map fun p=>p.2)
 |.dcx kvs=>undWs n (kvs.map fun p=>p.2)
 |.rox kvs=>undWs n (kvs.map fun p=>p.2)
 |.obj _ fs=>undWs n (fs.map fun p=>p.2)
 |.tab _ _ _=>true
 |.pin _ _ _ w=>w.und n
 |.gone=>true
section
variable{K:Frag}{mg:Str->Option Value}{μ μ':List Addr}{H H':Hp}
mutual
theorem bE.und:∀{w:W} {v:V},bE K μ H w v->w.und μ.length=true
 |.non,_,_=>by simp[W.und]
 |.bl _,_,_=>by simp[W.und]
 |.int _,_,_=>by simp[W.und]
 |.str _,_,_=>by simp[W.und]
 |.tup _,_,r=>by obtain⟨p,vs,_,_,c⟩:=r.tupE;unfold W.und;exact RelWs.und c
 |.loc _,_,r=>by obtain⟨a,e,_⟩:=r.locE;unfold W.und;exact aB (ak.mp e).1
theorem RelWs.und:∀{ws:List W} {vs:List V},RelWs K μ H ws vs->undWs μ.length ws=true
 |[],_,_=>by unfold undWs;rfl
 |_::_,_,r=>by obtain⟨x,xs,_,b,c⟩:=r.consE;unfold undWs;rw[bE.und b,RelWs.und c];rfl
end
mutual
theorem bE.take{n:Nat}:∀{w:W} {v:V},bE K μ H w v->w.und n=true->bE K (μ.take n) H w v
 |.non,_,r,_=>by rw[r.nonE];exact .non
 |.bl _,_,r,_=>by rw[r.blE];exact .bl
 |.int _,_,r,_=>by rw[r.intE];exact .int
 |.str _,_,r,_=>by rw[r.strE];exact .str
 |.tup _,_,r,b=>by obtain⟨p,vs,rfl,h,c⟩:=r.tupE;unfold W.und at b;exact .tupI h (RelWs.takeN c b)
 |.loc _,_,r,b=>by obtain⟨a,e,rfl⟩:=r.locE;unfold W.und at b;exact .locI (by rw[cU (gI b)];exact e)
theorem RelWs.takeN{n:Nat}:∀{ws:List W} {vs:List V},RelWs K μ H ws vs->undWs n ws=true->RelWs K (μ.take n) H ws vs
 |[],_,r,_=>by rw[r.nilE];exact .nilI
 |_::_,_,r,b=>by
  obtain⟨x,xs,rfl,b1,c1⟩:=r.consE
  unfold undWs at b
  rw[cD]at b
  exact .consI (bE.take b1 b.1) (RelWs.takeN c1 b.2)
end
theorem KX.und_w(k:KX)(n:Nat):k.w.und n=true:=by
 have hi:∀ks:List Int,undWs n (ks.map W.int)=true:=fun ks=>by
  induction ks with
  |nil=>rfl
  |cons a l ih=>show(true&&undWs n (l.map W.int))=true;rw[ih];rfl
 cases k with
 |bo b=>rfl
 |fl ks=>unfold KX.w W.und;exact hi ks
 |pr i ks=>unfold KX.w W.und undWs;rw[show(W.int i).und n=true from rfl];unfold undWs;rw[show(W.tup (ks.map W.int)).und n=true by unfold W.und;exact hi ks];rfl
theorem t_:∀{kvs:List (KX×W)} {es:List DictEntry},Paired (yh K μ H) kvs es->undWs μ.length (kvs.map fun p=>p.2)=true
 |_,_,.nil=>rfl
 |_,_,.cons r t=>by
  obtain⟨_,_,v,h,_⟩:=r
  show(_&&undWs _ _)=true
  rw[h.und,t_ t];rfl
theorem rF{n:Nat}:∀{kvs:List (KX×W)} {es:List DictEntry},Paired (yh K μ H) kvs es->undWs n (kvs.map fun p=>p.2)=true->Paired (yh K (μ.take n) H) kvs es
 |_,_,.nil,_=>.nil
 |_,_,.cons r t,b=>by
  obtain⟨a,⟨u,c,d⟩,v,h,g⟩:=r
  have b:(_&&undWs n _)=true:=b
  rw[cD]at b
  exact .cons ⟨a,⟨u,bE.take c (KX.und_w _ n),d⟩,v,bE.take h b.1,g⟩ (rF t b.2)
theorem k7.und{c:ao}{a:Addr}(r:k7 K mg μ H c a):c.und μ.length=true:=by
 cases c with
 |lst ws=>obtain⟨vs,_,y⟩:=r;exact y.und
 |ro ws=>obtain⟨vs,_,y⟩:=r;exact y.und
 |exc c=>rfl
 |dct kvs=>obtain⟨vs,_,y⟩:=r;exact y.und
 |rod kvs=>obtain⟨vs,_,_,y⟩:=r;exact y.und
 |dcx kvs=>obtain⟨es,_,_,y,_⟩:=r;exact t_ y
 |rox kvs=>obtain⟨es,_,_,_,y,_⟩:=r;exact t_ y
 |obj _ fs=>obtain⟨_,_,vs,_,_,y⟩:=r;exact y.und
 |tab _ _ _=>rfl
 |pin _ _ _ _=>obtain⟨_,_,_,v,y,_⟩:=r;exact y.und
 |gone=>rfl
theorem k7.take{n:Nat}{c:ao}{a:Addr}(r:k7 K mg μ H c a)(b:c.und n=true):k7 K mg (μ.take n) H c a:=by
 cases c with
 |lst ws=>obtain⟨vs,x,y⟩:=r;exact⟨vs,x,y.takeN b⟩
 |ro ws=>obtain⟨vs,x,y⟩:=r;exact⟨vs,x,y.takeN b⟩
 |exc c=>exact r
 |dct kvs=>obtain⟨vs,x,y⟩:=r;exact⟨vs,x,y.takeN b⟩
 |rod kvs=>obtain⟨vs,o,x,y⟩:=r;exact⟨vs,o,x,y.takeN b⟩
 |dcx kvs=>obtain⟨es,x,d,y,z⟩:=r;exact⟨es,x,d,rF y b,z⟩
 |rox kvs=>obtain⟨es,o,x,d,y,z⟩:=r;exact⟨es,o,x,d,rF y b,z⟩
 |obj _ fs=>obtain⟨C,dx,vs,m,x,y⟩:=r;exact⟨C,dx,vs,m,x,y.takeN b⟩
 |tab _ _ _=>exact r
 |pin _ _ _ _=>obtain⟨ea,p,g,v,y,z⟩:=r;exact⟨ea,p,g,v,y.take b,z⟩
 |gone=>trivial
end
theorem eJ.ex{P:Program}{w:World}{H:Hp}{h:Heap}{a:Addr}{o:HO}(x:eJ P w nk H h a o):∃ob,h.get? a=some ob:=by
 cases o with
 |lst xs=>obtain⟨_,_,_,_,e⟩:=x;exact⟨_,e⟩
 |tup xs=>obtain⟨_,_,_,o,e,_⟩:=x;exact⟨_,e⟩
 |dK kvs=>obtain⟨_,_,_,_,o,_,_,e,_⟩:=x;exact⟨_,e⟩
 |dT kvs=>obtain⟨_,_,_,_,o,_,_,e,_⟩:=x;exact⟨_,e⟩
 |set S n=>obtain⟨o,_,_,_,e,_⟩:=x;exact⟨_,e⟩
 |ins C dx fs=>obtain⟨_,_,_,e,_⟩:=x;exact⟨_,e⟩
 |own y=>obtain⟨_,e⟩:=x;exact⟨_,e⟩
 |xd fs=>obtain⟨_,⟨_,_,_,e,_⟩,_⟩:=x;exact⟨_,e⟩
 |rng lo hi=>obtain⟨_,_,_,e⟩:=x;exact⟨_,e⟩
 |frz ob u=>obtain⟨e,_⟩:=x;exact⟨_,e⟩
 |tbl ps=>exact⟨_,(show h.get? a=some _ from x)⟩
 |met f y=>exact⟨_,(show h.get? a=some _ from x)⟩
 |ext φ=>obtain⟨_,⟨_,e⟩,_⟩:=x;exact⟨_,e⟩
def Ki(st bf:List ao)(ws:List W):Prop:=undWs st.length ws=true/\st.length<=bf.length/\∀(i:Nat),i<st.length->bf[i]?=st[i]?\/∃c,bf[i]?=some c/\c.und st.length=true
open Classical in
def mZ(st bf:List ao)(ws:List W):List ao:=if Ki st bf ws then bf.take st.length else bf
theorem uc{K:Frag}{mg:Str->Option Value}{μ μ':List Addr}{H H':Hp}{st bf:List ao}{ws:List W}{vs:List V}(S:iI K mg μ st H)(S':iI K mg μ' bf H')(p:μ <+: μ')(r:RelWs K μ' H' ws vs) :
  ∃μ2,μ <+: μ2/\iI K mg μ2 (mZ st bf ws) H'/\RelWs K μ2 H' ws vs:=by
 unfold mZ
 by_cases k:Ki st bf ws
 ·rw[aE k]
  obtain⟨k1,k2,k3⟩:=k
  have e:μ'.take st.length=μ:=by
   obtain⟨t,rfl⟩:=p
   rw[S.len,kN]
  refine⟨μ'.take st.length,by rw[e];exact al _,⟨fun i j a ci cj h1 h2 r1 r2 m1 m2=>?_,by rw[bS,bS,S'.len],fun i c a h1 h2=>?_⟩,r.takeN k1⟩
  ·have hi:i<st.length:=by have:=(ak.mp h1).1;rw[bS]at this;omega
   have hj:j<st.length:=by have:=(ak.mp h2).1;rw[bS]at this;omega
   rw[cU hi]at h1 m1
   rw[cU hj]at h2 m2
   exact S'.nd i j a ci cj h1 h2 r1 r2 m1 m2
  ·have hi:i<st.length:=by have:=(ak.mp h1).1;rw[bS]at this;omega
   rw[cU hi]at h1 h2
   refine(S'.at' i c a h1 h2).take ?_
   rcases k3 i hi with q|⟨c',q,b⟩
   ·rw[h1]at q
    obtain⟨a0,g0,r0⟩:=S.get q.symm
    have:=r0.und
    rw[S.len];exact this
   ·rw[h1]at q;cases q;exact b
 ·rw[aN k]
  exact⟨μ',p,S',r⟩
def dR(N:Nat)(body:FS)(ws:List W)(st:List ao):R W:=match body (ws.map some++List.replicate (N-ws.length) none) st with
 |.rt w bf=>.ok w (mZ st bf [w])
 |.nx _ bf=>.ok .non (mZ st bf [])
 |.ex c _ bf=>.ex c (mZ st bf [])
 |_=>.bad
def j'(P:Program)(w:World):DU:=fun outer H s E e s'=>∃x C t B H',e=.ref x/\E C none H'/\s'.os=s.os/\AllBare s'.gens/\Un (qo outer) [] H H' s.heap s'.heap/\oF P w s'.toks H' s'.heap/\H' x=none/\Heap.FlyingW B outer x C (.ref t) s'.heap /\
 ∀b o,s'.heap.get? b=some o->(H' b≠none\/((∃o0,s.heap.get? b=some o0)/\b∉qo outer))->B.get? b=some o
def k9(K:Frag)(mg:Str->Option Value)(n:Nat)(F:List W->List ao->R W):Sp:=fun vs H Q E=>vs.length=n/\∃μ ws st,iI K mg μ st H/\RelWs K μ H ws vs/\(match F ws st with
 |.ok w bf=>∀μ' v H',μ <+: μ'->eX K H H'->iI K mg μ' bf H'->bE K μ' H' w v->Q v H'
 |.ex c bf=>∀C μ' H',mg c=some C->μ <+: μ'->eX K H H'->iI K mg μ' bf H'->E C none H'
 |.bad=>False)
theorem sv.noted{X:Cx}{aj:List (Addr×Obj)}{σ:St}{c:Str}{H:Hp}{e:Value}{s:Shared}{Q:Unit->Shared->Prop}{E:Value->Shared->Prop}{M:Model}{outer:List Env}(f:sv X aj σ c H e s)(kU:X.stack=X.env::outer)(xB:X.env.frame=some X.env.locals)(hA:X.A.frames=some X.stack)
  (h:∀x C t B h',e=.ref x->X.mg c=some C->H x=none->Heap.FlyingW B X.stack x C (.ref t) h'->s.heap.UpToSlots h' ->
   (∀b o,s.heap.get? b=some o->(H b≠none\/((∃o0,X.s₀.heap.get? b=some o0)/\b∉X.fs/\b∉X.ex)\/((∃y,X.env.cells.lookup y=some b)/\b∉qo X.stack)\/∃p∈X.pn++aj,p.1=b)->B.get? b=some o)->Q () { s with heap:=h' }) :
  wpAny M X.A (leaving X.env e) Q E s:=by
 obtain⟨x,C,t,B,rfl,hC,hx,st,nx,ff,tr,cov⟩:=f.ex
 rw[kU]at ff hA
 rcases tr with tr|⟨oe,vs,he,rfl,_,hd,h1,h0⟩|⟨L,hL,tr⟩
 ·refine wpAny_leaving_nextW hA ff xB tr st nx fun h' hL=>?_
  obtain⟨k1,k2,k3,k4⟩:=hL
  exact h x C t B h' rfl hC hx ⟨k1,nx,by rw[kU];exact k2,k3⟩ k4 cov
 ·refine wpAny_leaving_firstW hA ff xB he st nx hd h1 h0 fun h' hL=>?_
  obtain⟨k1,k2,k3,k4⟩:=hL
  exact h x _ t B h' rfl hC hx ⟨k1,nx,by rw[kU];exact k2,k3⟩ k4 cov
 ·unfold leaving
  refine af (mU hL tr (qZ ⟨st,nx,ff,tr⟩ fun h' fl up=>?_))
  exact h x C t B h' rfl hC hx (by rw[kU];exact fl) up cov
theorem sv.leaves{X:Cx}{aj:List (Addr×Obj)}{σ:St}{c:Str}{H:Hp}{e:Value}{s:Shared}{E:XK}{E':Value->Shared->Prop}{M:Model}(f:sv X aj σ c H e s)(kU:X.stack=X.env::X.outer)(xB:X.env.frame=some X.env.locals)(hA:X.A.frames=some X.stack)(v5:X.ex=[])
  (hE:∀C,X.mg c=some C->E C none H):wpAny M X.A (leaving X.env e) (fun _ s''=>j' X.prog X.w X.outer X.H₀ X.s₀ E e s'') E' s:=by
 refine f.noted kU xB hA fun x C t B h' he hC hx fl up cov=>?_
 have I:=f.inv
 have un:=I.base
 rw[v5]at un
 have fsE:X.fs=qo X.outer:=rfl
 obtain⟨f1,f2,f3,f4⟩:=fl
 rw[kU]at f3
 obtain⟨_,_,f3'⟩:=f3
 have frames:∀b∈qo X.outer,∀o,s.heap.get? b=some o->∃sl,h'.get? b=some { o with slots:=sl }:=fun b hb o ho=>by
  obtain⟨_,o',sN,hd⟩:=I.funs.mem hb
  rw[ho]at sN;cases sN
  exact up b o ho hd
 have kept:∀b o,s.heap.get? b=some o->(∃o0,X.s₀.heap.get? b=some o0)->b∉qo X.outer->h'.get? b=some o:=fun b o ho h0 hb=>f1 b o (cov b o ho (.inr (.inl ⟨h0,hb,by rw[v5];simp⟩)))
 have keptH:∀b o,s.heap.get? b=some o->H b≠none->h'.get? b=some o:=fun b o ho h0=>f1 b o (cov b o ho (.inl h0))
 refine⟨x,C,t,B,H,he,hE C hC,I.os,I.bare,⟨fun b o q n hb hx=>?_,fun b o q n hb hx=>?_,fun b o q n hx=>un.free b o q n hx,fun b o q hx=>?_,un.tups,un.frzs,un.tbls⟩,fun b u hb=>?_,hx,⟨f1,f2,f3',f4⟩,fun b o ho hr=>?_⟩
 ·exact kept b o (un.keep b o q n hb hx) ⟨o,q⟩ hb
 ·obtain⟨sl,q1⟩:=un.slot b o q n hb hx
  obtain⟨sl2,q2⟩:=frames b hb _ q1
  exact⟨sl2,q2⟩
 ·obtain⟨o',q1⟩:=un.there b o q hx
  by_cases hb:b∈qo X.outer
  ·obtain⟨sl2,q2⟩:=frames b hb _ q1;exact⟨_,q2⟩
  ·exact⟨o',kept b o' q1 ⟨o,q⟩ hb⟩
 ·refine(I.hok b u hb).stay (fun c v hc q=>?_) (fun _ q=>q) fun _ _ q=>q
  refine keptH c v q ?_
  rcases hc with rfl|hc
  ·rw[hb];simp
  ·rw[hc];simp
 ·rcases hr with hr|⟨⟨o0,h0⟩,hb⟩
  ·cases hu:H b with
   |none=>exact absurd hu hr
   |some u=>
    have lt:=I.hok.lt hu
    obtain⟨ob,HA⟩:∃ob,s.heap.get? b=some ob:=by
     exact(I.hok b u hu).ex
    have:=keptH b ob HA hr
    rw[ho]at this;cases this
    exact cov b o HA (.inl hr)
  ·obtain⟨o',q1⟩:=un.there b o0 h0 (by simp)
   have:=kept b o' q1 ⟨o0,h0⟩ hb
   rw[ho]at this;cases this
   exact cov b o q1 (.inr (.inl ⟨⟨o0,h0⟩,hb,by rw[v5];simp⟩))
structure b8(P:Program)(w:World)(K:Frag)(mg:Str->Option Value)(base:Heap)(k:Nat)(x:Str)(n:Nat)(F:List W->List ao->R W):Prop where
 ex:∃(f:Addr) (fd:FuncData) (ps:List Str),mg x=some (.ref f)/\keepIn K (.ref f)=true/\ps.length=n/\xR K fd ps []/\eK P w K mg base (j' P w) k f fd ps (k9 K mg n F)
theorem b8.mono{P:Program}{w:World}{K:Frag}{mg:Str->Option Value}{base:Heap}{j k:Nat}{x:Str}{n:Nat}{F:List W->List ao->R W}(h:b8 P w K mg base j x n F)(hj:j<=k):b8 P w K mg base k x n F:=by
 obtain⟨f,fd,ps,a,b,c,d,e⟩:=h.ex
 exact⟨f,fd,ps,a,b,c,d,e.mono hj⟩
def bX(n:Nat)(F:List W->List ao->R W)(fs:FA):FE:=fun ρ st=>(fs ρ st).bind fun ws st=>if ws.length=n then F ws st else .bad
section
variable{X:Cx}
theorem PZ{k n:Nat}{f:Addr}{fd:FuncData}{ps:List Str}{F:List W->List ao->R W}{aj:List (Addr×Obj)}{σ:St}{H:Hp}{s:Shared}{Q:VK}{us:List Value}{vs:List V}{μ:List Addr}{st:List ao}{ws:List W}
  (Fn:eK X.prog X.w X.K X.mg X.base (j' X.prog X.w) k f fd ps (k9 X.K X.mg n F)) (hn:ps.length=n) (hr:js k X.A) (hb:xR X.K fd ps []) (I:bF X aj σ H s) (S:iI X.K X.mg μ st H) (r:RelWs X.K μ H ws vs) (rv:cJ s.toks vs us) (hl:ws.length=n)
  (h:RK X (u0 X) μ σ H Q (F ws st)):wpAny (model X.prog X.w) X.A (call (.ref f) us) (EP X aj σ Q) X.xe s:=by
 have hl':(us++([]:List Value)).length=ps.length:=by rw[dB,<- rv.length,<- r.len,hl,hn]
 cases e:F ws st with
 |bad=>rw[e]at h;exact h.elim
 |ok w bf=>
  rw[e]at h
  refine up (wpAny_call (jb (Fn.run X.A X.stack s H ⟨us,[]⟩ us vs Q (fun _ _ _=>False) hr I.env0 (.inl I.pos) (by have:=hb s us I.kIn hl';rwa[dB]at this) rv ⟨by rw[<- r.len];exact hl,μ,ws,st,S,r,by rw[e];exact h⟩) fun r s' hq=>?_))
  cases r with
  |error e=>obtain⟨_,_,_,_,_,_,z,_⟩:=hq;exact z.elim
  |ok fl=>
   cases fl with
   |ret u=>exact fun kt=>I.after hq kt
   |next=>exact False.elim hq
   |brk=>exact False.elim hq
   |cont=>exact False.elim hq
 |ex c bf=>
  rw[e]at h
  refine up (wpAny_call (jb (Fn.run X.A X.stack s H ⟨us,[]⟩ us vs (fun _ _=>False) (fun C _ H'=>X.mg c=some C/\∃μ',μ <+: μ'/\eX X.K H H'/\iI X.K X.mg μ' bf H') hr I.env0 (.inl I.pos) (by have:=hb s us I.kIn hl';rwa[dB]at this) rv
   ⟨by rw[<- r.len];exact hl,μ,ws,st,S,r,by rw[e];exact fun C μ' H' hC p x S'=>⟨hC,μ',p,x,S'⟩⟩) fun r s' hq=>?_))
  cases r with
  |ok fl=>
   cases fl with
   |ret u=>obtain⟨_,_,_,_,_,_,_,z⟩:=hq;exact z.elim
   |next=>exact False.elim hq
   |brk=>exact False.elim hq
   |cont=>exact False.elim hq
  |error ev=>
   obtain⟨x,C,t,B,H',rfl,⟨hC,μ',p,xx,S'⟩,os,bare,un,hok,hx,fl,cov⟩:=hq
   intro kt
   have I':bF X aj σ H' s':=I.call' os un hok bare (fun b hb=>absurd hb (by simp)) kt
   refine h aj μ' H' (.ref x) s' p xx S' ⟨I',x,C,t,B,rfl,hC,hx,fl.1,fl.2.1,fl.2.2.1,.inl fl.2.2.2,fun b o ho hrel=>?_⟩
   refine cov b o ho ?_
   rcases hrel with q|⟨⟨o0,h0⟩,hb,hbx⟩|⟨⟨y,hy⟩,hb⟩|⟨pp,hp,rfl⟩
   ·exact .inl q
   ·refine .inr ⟨?_,fun z=>?_⟩
    ·obtain⟨o',q1⟩:=I.base.there b o0 h0 hbx
     exact⟨o',q1⟩
    ·rcases aY.mp (I.stkSub b z)with z|z
     ·rw[z]at h0
      exact absurd (aL (aK h0) I.ok.above) (da _)
     ·exact hb z
   ·obtain⟨v,ov,hov,_⟩:=I.cell y b hy
    exact .inr ⟨⟨_,hov⟩,hb⟩
   ·obtain⟨g1,g2,g3,g4,_⟩:=I.pin pp hp
    refine .inr ⟨⟨_,g1⟩,fun z=>?_⟩
    rcases aY.mp (I.stkSub _ z)with z|z
    ·exact g3 z
    ·exact g4 z
variable{e:Expr}{es:List Expr}{pos p:Pos}{x:Str}{fs:FA}
theorem bz{k k' n:Nat}{F:List W->List ao->R W}(Fn:b8 X.prog X.w X.K X.mg X.base k x n F)(hr:js k' X.A)(hk:k<=k')(ha:SA X (e::es) fs)(hg:Gl X x:=by rfl)(J2:(x==("__debug__":Str))=false:=by decide)
  (he:starEach (e::es) X.env=(false,eval e X.env)::starEach es X.env:=by rfl) (jG:(backTo pos (starEach es X.env)).any (·.1)=false:=by rfl):SE X (.Call (.Name x p) (e::es) [] pos) (bX n F fs):=⟨by
 intro aj s σ H Q I h
 obtain⟨f,fd,ps,hm,hkp,hn,hb,Fo⟩:=(Fn.mono hk).ex
 refine gm (s9 I hg hm ?_ J2)
 obtain⟨μ,ρ,st,l,h⟩:=h
 have h':Sj X fs σ H fun vs H1=>∃μ1 st1 ws,Rl X μ1 ρ st1 σ H1/\RelWs X.K μ1 H1 ws vs/\RK X (u0 X) μ1 σ H1 Q (if ws.length=n then F ws st1 else .bad):=
  ⟨μ,ρ,st,l,RK.bind h l fun μ1 st1 x v H1 p1 x1 l1 q1 h1=>⟨μ1,st1,x,l1,q1,h1⟩⟩
 refine PySem.W.callWith_K (h₀:=X.base) I.ok.mod.kin hkp (i3 (ha.h pos aj s σ H _ I h') fun us s1 kt1 ⟨vs,H1,I1,r,μ1,st1,ws,l1,r1,q⟩=>⟨I1.kIn,?_⟩) he jG
 by_cases c:ws.length=n
 ·rw[aE c]at q
  exact PZ Fo hn hr hb I1 l1.sto r1 r c q
 ·rw[aN c]at q;exact q.elim⟩
end
theorem Jb{P:Program}{w:World}{K:Frag}{mg:Str->Option Value}{base:Heap}{x fq:Str}{st:Stmt}{f:Addr}{fd:FuncData}{N ps:List Str}{k n:Nat}{g:FS}(F:jM K x fq st f fd)(S:bG N ps (aX st))(hn:ps.length=n)
  (zH:∀(gk:Value) (A:Around) (outer:List Env) (s:Shared) (H:Hp) (E:XK),fd.code=gk->js k (A.deeper (envOfC fq (aX st) s.heap.objs.size f gk)) ->
   SB (Ae (j' P w) P w K mg base N fq (aX st) f gk A outer s H E) (iy st) g):eK P w K mg base (j' P w) (k+1) f fd ps (k9 K mg n (dR N.length g)):=by
 obtain⟨oc,od,kV,tw,pm,an,gk,ct,Li,rfl,lk,uS⟩:=F.ex
 refine O8 lk uS S (fun vs H Q E h=>by rw[hn];exact h.1) fun A outer s H vs Q E hr Lm=>?_
 obtain⟨hl,μ,ws,RH,Sr,r,h⟩:=Lm
 refine⟨_,(zH gk A outer s H E rfl hr).h,μ,ws.map some++List.replicate (N.length-ws.length) none,RH,⟨?_,Sr⟩,?_⟩
 ·unfold sg
  rw[<- r.len]
  have base:∀(ws:List W) (vs:List V) (m:Nat),RelWs K μ H ws vs->Paired (fun(o:Option W) (s:Option V)=>∀w,o=some w->∃v,s=some v/\bE K μ H w v) (ws.map some++List.replicate m none) (vs.map some++List.replicate m none):=by
   intro ws
   induction ws with
   |nil=>
    intro vs m r
    rw[r.nilE]
    induction m with
    |zero=>exact .nil
    |succ m ih=>exact .cons (fun w z=>nomatch z) ih
   |cons w ws ih=>
    intro vs m r
    obtain⟨y,ys,rfl,ry,rys⟩:=r.consE
    exact .cons (fun w' z=>⟨y,rfl,by cases z;exact ry⟩) (ih ys m rys)
  exact base ws vs _ r
 ·unfold dR at h
  cases e:g (ws.map some++List.replicate (N.length-ws.length) none) RH with
  |rt w bf=>
   rw[e]at h
   intro μ' v H' p x S' sd
   obtain⟨μ2,p2,S2,r2⟩:=uc Sr S' p (.consI sd .nilI)
   obtain⟨_,e2,r3⟩:=r2.one
   cases e2
   exact h μ2 v H' p2 x S2 r3
  |nx ρ' bf=>
   rw[e]at h
   intro μ' σ' H' p x l'
   obtain⟨μ2,p2,S2,_⟩:=uc (ws:=[]) (vs:=[]) Sr l'.sto p .nilI
   exact h μ2 .non H' p2 x S2 .non
  |ex c ρ' bf=>
   rw[e]at h
   intro aj μ' σ' H' ev s' p x l' fl
   obtain⟨μ2,p2,S2,_⟩:=uc (ws:=[]) (vs:=[]) Sr l'.sto p .nilI
   exact fl.leaves rfl rfl fl.inv.ok.frames rfl fun C hC=>h C μ2 H' hC p2 x S2
  |bk ρ' bf=>rw[e]at h;exact h.elim
  |ct ρ' bf=>rw[e]at h;exact h.elim
  |bad=>rw[e]at h;exact h.elim
theorem cM{P:Program}{w:World}{K:Frag}{mg:Str->Option Value}{base:Heap}{x fq:Str}{st:Stmt}{f:Addr}{fd:FuncData}{N ps:List Str}{k n:Nat}{g:FS}(F:jM K x fq st f fd)(S:bG N ps (aX st))(hn:ps.length=n)
  (zH:∀(gk:Value) (A:Around) (outer:List Env) (s:Shared) (H:Hp) (E:XK),js k (A.deeper (envOfC fq (aX st) s.heap.objs.size f gk)) ->
   SB (Ae (j' P w) P w K mg base N fq (aX st) f gk A outer s H E) (iy st) g):eK P w K mg base (j' P w) (k+1) f fd ps (k9 K mg n (dR N.length g)):=Jb F S hn fun gk A outer s H E _ hr=>zH gk A outer s H E hr
theorem k_{P:Program}{w:World}{K:Frag}{mg:Str->Option Value}{base:Heap}{k n:Nat}{x:Str}{st:Stmt}{f:Addr}{fd:FuncData}{ps:List Str}{G:List W->List ao->R W}
  (F:jM K x x st f fd) (hm:mg x=some (.ref f)) (hn:ps.length=n)
  (hb:∀(kV tw pm:Value) (an:Option Addr) (gk ct:Value) (us:List Value),us.length=ps.length->bindArgs (fnOf x x (jA st) (iy st) (aX st) .none kV tw pm an gk ct) ⟨us,[]⟩=pure (ps.zip us))
  (ok:eK P w K mg base (j' P w) k f fd ps (k9 K mg n G)):b8 P w K mg base k x n G:=⟨f,fd,ps,hm,F.kp,hn,F.binds hb,ok⟩
end L2
namespace L2
open PySem PySem.Spec PyProof.Rows
theorem RelWs.split{K:Frag}{μ:List Addr}{H:Hp}:∀{as bs:List W} {vs:List V},RelWs K μ H (as++bs) vs->∃xs ys,vs=xs++ys/\RelWs K μ H as xs/\RelWs K μ H bs ys
 |[],_,vs,r=>⟨[],vs,rfl,.nilI,r⟩
 |w::as,bs,vs,r=>by
  obtain⟨x,xs,rfl,rx,rs⟩:=r.consE
  obtain⟨ys,zs,rfl,r1,r2⟩:=RelWs.split rs
  exact⟨x::ys,zs,rfl,.consI rx r1,r2⟩
section
variable{X:Cx}{a b c e o tg:Expr}{es:List Expr}{pos p p2 gc du:Pos}{x name:Str}{fa fb fe fo:FE}{fs:FA}{id:String}
structure Ox(X:Cx)(id:String)(F:W->List W->List ao->R W):Prop where
 h:C7 X id (fun x vs H Q=>∃μ st wx ws,iI X.K X.mg μ st H/\bE X.K μ H wx x/\RelWs X.K μ H ws vs/\DV X μ H Q (F wx ws st))
 n:∀x ws st,qz (F x ws st)
def m3(st:List ao):W->Bool
 |.loc n=>(match st[n]? with|some (.lst _)=>true|_=>false)
 |_=>false
def vx:W->Bool
 |.str _=>true
 |_=>false
theorem yr{μ:List Addr}{st:List ao}{H:Hp}{w:W}{v:V}(S:iI X.K X.mg μ st H)(r:bE X.K μ H w v)(h:m3 st w=true):∃l ys,v=.ref l/\H l=some (.lst ys):=by
 cases w with
 |loc n=>
  obtain⟨a,ha,rfl⟩:=r.locE
  simp only[m3]at h
  cases e1:st[n]? with
  |none=>rw[e1]at h;cases h
  |some cc=>
   rw[e1]at h
   cases cc with
   |lst ws=>obtain⟨a1,g1,vs,k1,_⟩:=S.get e1;rw[ha]at g1;cases g1;exact⟨_,vs,rfl,k1⟩
   |_=>cases h
 |_=>cases h
def pV(F:W->List W->List ao->R W)(fo:FE)(fs:FA):FE:=fun ρ st=>(fo ρ st).bind fun x st=>if m3 st x then(fs ρ st).bind fun ws st=>F x ws st else .bad
def Oy(F:W->List W->List ao->R W)(fo:FE)(fs:FA):FE:=fun ρ st=>(fo ρ st).bind fun x st=>if vx x then(fs ρ st).bind fun ws st=>F x ws st else .bad
theorem o_{F:W->List W->List ao->R W}(slot:Slot "list" name id)(zS:typeOf (.builtin id)=pure (.type "method_descriptor"))(hm:Ox X id F)(ho:SE X o fo)(ha:SA X (e::es) fs)
  (ja:attributeBase o name X.env (eval o X.env)=eval o X.env:=by rfl)
  (qi:((backTo du (starEach (e::es) X.env)).all (fun x=>!x.1)&&(backToKw du (keywordEach [] X.env)).all (fun x=>x.1.isSome)
   && decide ((e::es).length+([]:List Keyword).length+(if ([]:List Keyword).isEmpty then 0 else 1)<30))=true:=by rfl)
  (jH:(gc.endLine==du.line)=true:=by rfl) (hs:starEach (e::es) X.env=(false,eval e X.env)::starEach es X.env:=by rfl) (mJ:(backTo du (starEach es X.env)).any (·.1)=false:=by rfl) :
  SE X (.Call (.Attribute o name gc) (e::es) [] du) (pV F fo fs):=⟨(Pn slot zS hm.h ho.h ha.h ja qi jH hs mJ).imp fun σ H Q h=>by
 obtain⟨μ,ρ,st,l,h⟩:=h
 refine⟨μ,ρ,st,l,RK.bind h l fun μ1 st1 x v H1 p1 x1 l1 q1 h1=>?_⟩
 by_cases c:m3 st1 x=true
 ·rw[aE c]at h1
  refine⟨yr l1.sto q1 c,μ1,ρ,st1,l1,RK.bind h1 l1 fun μ2 cN ws vs H2 p2 x2 l2 q2 h2=>?_⟩
  exact⟨μ2,cN,x,ws,l2.sto,q1.mono p2 x2,q2,nH h2 (hm.n _ _ _)⟩
 ·rw[aN c]at h1;exact h1.elim⟩
theorem vy{F:W->List W->List ao->R W}(slot:Slot "list" name id)(zS:typeOf (.builtin id)=pure (.type "method_descriptor"))(hm:Ox X id F)(ho:SE X o fo)
  (ja:attributeBase o name X.env (eval o X.env)=eval o X.env:=by rfl) (jH:(gc.endLine==du.line)=true:=by rfl):SE X (.Call (.Attribute o name gc) [] [] du) (pV F fo aJ):=⟨(Mi slot zS hm.h ho.h ja jH).imp fun σ H Q h=>by
 obtain⟨μ,ρ,st,l,h⟩:=h
 refine⟨μ,ρ,st,l,RK.bind h l fun μ1 st1 x v H1 p1 x1 l1 q1 h1=>?_⟩
 by_cases c:m3 st1 x=true
 ·rw[aE c]at h1
  exact⟨yr l1.sto q1 c,μ1,st1,x,[],l1.sto,q1,.nilI,nH h1 (hm.n _ _ _)⟩
 ·rw[aN c]at h1;exact h1.elim⟩
theorem P0{F:W->List W->List ao->R W}(slot:Slot "str" name id)(zS:typeOf (.builtin id)=pure (.type "method_descriptor"))(hm:Ox X id F)(ho:SE X o fo)(ha:SA X (e::es) fs)
  (ja:attributeBase o name X.env (eval o X.env)=eval o X.env:=by rfl)
  (qi:((backTo du (starEach (e::es) X.env)).all (fun x=>!x.1)&&(backToKw du (keywordEach [] X.env)).all (fun x=>x.1.isSome)
   && decide ((e::es).length+([]:List Keyword).length+(if ([]:List Keyword).isEmpty then 0 else 1)<30))=true:=by rfl)
  (jH:(gc.endLine==du.line)=true:=by rfl) (hs:starEach (e::es) X.env=(false,eval e X.env)::starEach es X.env:=by rfl) (mJ:(backTo du (starEach es X.env)).any (·.1)=false:=by rfl) :
  SE X (.Call (.Attribute o name gc) (e::es) [] du) (Oy F fo fs):=⟨(Po slot zS hm.h ho.h ha.h ja qi jH hs mJ).imp fun σ H Q h=>by
 obtain⟨μ,ρ,st,l,h⟩:=h
 refine⟨μ,ρ,st,l,RK.bind h l fun μ1 st1 x v H1 p1 x1 l1 q1 h1=>?_⟩
 cases x with
 |str z=>
  rw[aE (show vx (W.str z)=true from rfl)]at h1
  refine⟨⟨z,q1.strE⟩,μ1,ρ,st1,l1,RK.bind h1 l1 fun μ2 cN ws vs H2 p2 x2 l2 q2 h2=>?_⟩
  exact⟨μ2,cN,_,ws,l2.sto,q1.mono p2 x2,q2,nH h2 (hm.n _ _ _)⟩
 |_=>exact h1.elim⟩
def cv(x:W)(ws:List W)(st:List ao):R W:=match x,ws with
 |.loc n,[y]=>(match st[n]? with
  |some (.lst zs)=>if zs.length<jY then .ok .non (st.set n (.lst (zs++[y])))else .bad
  |_=>.bad)
 |_,_=>.bad
theorem dO:Ox X "list.append" cv:=⟨fun aj s σ H x vs v us Q I rv rus ⟨μ,st,wx,ws,S,rx,rs,q⟩=>by
 unfold cv at q
 split at q
 ·rename_i n y
  obtain⟨y1,rfl,ry⟩:=rs.one
  split at q
  ·rename_i zs e1
   split at q
   ·rename_i c
    obtain⟨a1,g1,vs,k1,r⟩:=S.get e1
    obtain⟨b1,f1,rfl⟩:=rx.locE
    rw[g1]at f1;cases f1
    refine Aq aj s σ H _ _ v us Q I rv rus ⟨a1,vs,y1,rfl,rfl,k1,by rw[<- r.len];exact Mn (fI c),fun H2 e=>?_⟩
    subst e
    exact q μ _ _ (al _) (gK.but mv k1) (S.set e1 g1 k1 (r.app (.consI ry .nilI))) .non
   ·exact q.elim
  ·exact q.elim
 ·exact q.elim,fun x ws st=>by
 unfold cv
 repeat' split
 all_goals trivial⟩
def rG(x:W)(ws:List W)(st:List ao):R W:=match x,ws with
 |.loc n,[]=>(match st[n]? with
  |some (.lst zs)=>s_ zs.getLast? fun w=>.ok w (st.set n (.lst zs.dropLast))
  |_=>.bad)
 |_,_=>.bad
theorem rH:Ox X "list.pop" rG:=⟨fun aj s σ H x vs v us Q I rv rus ⟨μ,st,wx,ws,S,rx,rs,q⟩=>by
 unfold rG at q
 split at q
 ·rename_i n
  have e0:=rs.nilE
  subst e0
  split at q
  ·rename_i zs e1
   obtain⟨a1,g1,vs,k1,r⟩:=S.get e1
   obtain⟨b1,f1,rfl⟩:=rx.locE
   rw[g1]at f1;cases f1
   cases hl:zs.getLast? with
   |none=>rw[hl]at q;exact q.elim
   |some w=>
    rw[hl]at q
    have hz:zs=zs.dropLast++[w]:=by
     obtain⟨ys,rfl⟩:=List.getLast?_eq_some_iff.mp hl
     simp
    rw[hz]at r
    obtain⟨xs',Ri,hx,r1,r3⟩:=r.split
    obtain⟨y',rfl,r2⟩:=r3.one
    refine IM aj s σ H _ _ v us Q I rv rus ⟨a1,xs',y',rfl,rfl,by rw[<- hx];exact k1,fun H2 e=>?_⟩
    subst e
    have xx:eX X.K H (eT H a1 (.lst xs')):=gK.but mv k1
    exact q μ _ _ (al _) xx (S.set e1 g1 k1 r1) (r2.mono (al _) xx)
  ·exact q.elim
 ·exact q.elim,fun x ws st=>by
 unfold rG s_
 repeat' split
 all_goals trivial⟩
def m5:List W->Option (List (List Nat))
 |[]=>some []
 |.str l::ws=>(m5 ws).map (l :: ·)
 |_=>none
theorem ud{K:Frag}{μ:List Addr}{H:Hp}:∀{ws:List W} {ls:List (List Nat)} {vs:List V},m5 ws=some ls->RelWs K μ H ws vs->vs=ls.map fun l=>V.str (tx l)
 |[],ls,vs,h,r=>by simp only[m5]at h;cases h;exact r.nilE
 |w::ws,ls,vs,h,r=>by
  obtain⟨x,xs,rfl,rx,rs⟩:=r.consE
  cases w with
  |str l=>
   simp only[m5]at h
   cases e:m5 ws with
   |none=>rw[e]at h;cases h
   |some ls'=>rw[e]at h;cases h;rw[rx.strE,ud e rs];rfl
  |_=>simp only[m5]at h;cases h
theorem vz(ls:List (List Nat)):m5 (ls.map W.str)=some ls:=by
 induction ls with
 |nil=>rfl
 |cons a r ih=>show(m5 (r.map W.str)).map (a :: ·)=_;rw[ih];rfl
def sB(x:W)(ws:List W)(st:List ao):R W:=match x,ws with
 |.str sep,[.loc n]=>s_ (lstOf st n) fun zs=>s_ (m5 zs) fun ls=>if (ls.map List.length).sum+ls.length*sep.length<=jY then .ok (.str (kh sep ls)) st else .bad
 |_,_=>.bad
theorem B2:Ox X "str.join" sB:=⟨fun aj s σ H x vs v us Q I rv rus ⟨μ,st,wx,ws,S,rx,rs,q⟩=>by
 unfold sB at q
 split at q
 ·rename_i sep n
  obtain⟨y1,rfl,ry⟩:=rs.one
  cases e1:lstOf st n with
  |none=>rw[e1]at q;exact q.elim
  |some zs=>
   rw[e1,dY]at q
   cases e2:m5 zs with
   |none=>rw[e2]at q;exact q.elim
   |some ls=>
    rw[e2,dY]at q
    split at q
    ·rename_i c
     obtain⟨a,vs,g,hS,r⟩:=S.lstOf e1
     obtain⟨b1,f1,rfl⟩:=ry.locE
     rw[g]at f1;cases f1
     have:=ud e2 r
     subst this
     exact IK aj s σ H _ _ v us Q I rv rus ⟨sep,_,ls,rx.strE,rfl,hS,aF c (by decide),qC S q⟩
    ·exact q.elim
 ·exact q.elim,fun x ws st=>by
 unfold sB
 split
 ·exact pw fun _=>pw fun _=>by split<;>trivial
 ·trivial⟩
end
def u5(cap:List (Option Nat))(ρ:b6):b6:=cap.map fun o=>o.bind fun j=>(ρ[j]?).join
theorem P1{X:Cx}{μ:List Addr}{H:Hp}{ρ:b6}{σ:St}(r:Paired (fun(o:Option W) (s:Option V)=>∀w,o=some w->∃v,s=some v/\bE X.K μ H w v) ρ σ):∀cap:List (Option Nat),
  Paired (fun(o:Option W) (s:Option V)=>∀w,o=some w->∃v,s=some v/\bE X.K μ H w v) (u5 cap ρ) (pi cap σ)
 |[]=>.nil
 |o::cap=>by
  refine .cons (fun w e=>?_) (P1 r cap)
  cases o with
  |none=>cases e
  |some j=>
   have e':(ρ[j]?).join=some w:=e
   have e2:ρ[j]?=some (some w):=by
    cases h:ρ[j]? with
    |none=>rw[h]at e';cases e'
    |some ow=>rw[h]at e';simp at e';rw[e']
   obtain⟨v,g1,g2⟩:=tW r e2
   exact⟨v,by show(σ[j]?).join=some v;rw[g1];rfl,g2⟩
open Classical in
def m6(f:FG)(t:FT)(el:FE)(ck:Option (Nat×List W))(ρ0:b6):List W->List W->List ao->R (List W)
 |[],gG,st=>if i7 st ck then .ok gG st else .bad
 |w::ws,gG,st=>if i7 st ck then(match f w ρ0 with
  |none=>.bad
  |some ρ'=>(match t ρ' st with
   |.ok true st1=>(match el ρ' st1 with
    |.ok y cN=>m6 f t el ck ρ0 ws (gG++[y]) cN
    |_=>.bad)
   |.ok false st1=>m6 f t el ck ρ0 ws gG st1
   |_=>.bad))else .bad
def gD(cap:List (Option Nat))(fi:FI)(f:FG)(t:FT)(el:FE):FE:=fun ρ st=>(fi ρ st).bind fun k st=>if k.1.length<=jY then(m6 f t el k.2 (u5 cap ρ) k.1 [] st).bind fun ys st=>mY ys st else .bad
def Ry{α β:Type}(X:Cx)(rel:List Addr->Hp->α->β->Prop)(f:b6->List ao->R α)(σ:St)(H:Hp)(Q:β->Hp->Prop):Prop:=
 ∃μ ρ st a bf,Rl X μ ρ st σ H/\f ρ st=.ok a bf/\∀μ' b H',μ <+: μ'->eX X.K H H'->iI X.K X.mg μ' bf H'->rel μ' H' a b->Q b H'
def nL:FT:=fun _ st=>.ok true st
structure P2(X:Cx)(es:List Expr)(f:FT):Prop where
 h:En X es (tT X f)
theorem En.imp{X:Cx}{e:List Expr}{t t':TT}(h:En X e t)(i:∀σ H Q,t' σ H Q->t σ H Q):En X e t':=fun aj s σ H Q I q=>h aj s σ H Q I (i _ _ _ q)
theorem j4{X:Cx}:P2 X [] nL:=⟨IG.imp fun σ H Q h=>by
 obtain⟨μ,ρ,st,l,h⟩:=h
 exact h μ true H (al _) eX.refl l.sto rfl⟩
theorem B3{X:Cx}{c:Expr}{t:FT}(hc:ST X c t):P2 X [c] t:=⟨IH hc.h⟩
theorem EU{X:Cx}{cap:List (Option Nat)}{fi:FI}{f:FG}{t:FT}{el:FE}{σ:St}{H:Hp}{Q:VK}(h:tE X (gD cap fi f t el) σ H Q) :
  tJ cap (fun σ H R=>tG X (PY X) fi σ H R) (PV X f) (Ry X Mo t) (Ry X (u0 X) el) σ H Q:=by
 obtain⟨μ,ρ,st,l,h⟩:=h
 refine⟨μ,ρ,st,l,RK.bind h l fun μ1 st1 k J H1 p1 x1 l1 wk h1=>?_⟩
 by_cases hz:k.1.length<=jY
 ·rw[aE hz]at h1
  refine⟨fun i m ys H'=>i<=k.1.length/\m=k.1.length-i/\ys.length<=i/\∃μ' gG bf,μ1 <+: μ'/\eX X.K H1 H'/\Rl X μ' ρ bf σ H'/\RelWs X.K μ' H' gG ys/\RK X (u0 X) μ' σ H' Q ((m6 f t el k.2 (u5 cap ρ) (k.1.drop i) gG bf).bind fun ys st=>mY ys st),
   ⟨_,bQ _,rfl,aw _,μ1,[],st1,al _,eX.refl,l1,.nilI,h1⟩,?_⟩
  rintro i m ys H' ⟨hi,rfl,hy,μ',gG,bf,pm,xm,lm,ra,hm⟩
  by_cases hlt:i<k.1.length
  ·rw[gZ hlt]at hm
   unfold m6 at hm
   by_cases ck:i7 bf k.2
   ·rw[aE ck]at hm
    obtain⟨go,yld⟩:=(wk i μ' bf H' pm xm lm.sto ck).1 _ (aq hlt)
    refine .inr ⟨go,fun x H2 hy2=>?_⟩
    obtain⟨y1,y2,y3⟩:=yld x H2 hy2
    cases hf:f k.1[i] (u5 cap ρ)with
    |none=>rw[hf]at hm;exact hm.elim
    |some ρ2=>
     rw[hf]at hm
     simp only at hm
     have lb:Rl X μ' (u5 cap ρ) bf (pi cap σ) H2:=⟨P1 (lm.to (al _) y1 y2).env cap,y2⟩
     refine⟨μ',u5 cap ρ,bf,k.1[i],ρ2,lb,y3,hf,fun σ2 l2=>?_⟩
     cases ht:t ρ2 bf with
     |bad=>rw[ht]at hm;exact hm.elim
     |ex c s=>rw[ht]at hm;exact hm.elim
     |ok kk cN=>
      rw[ht]at hm
      refine⟨μ',ρ2,bf,kk,cN,l2,ht,fun μ3 b3 H3 p3 x3 S3 q3=>?_⟩
      cases q3
      cases kk with
      |false=>
       exact⟨_,by omega,hlt,rfl,by omega,μ3,gG,cN,pm.trans p3,xm.trans (y1.trans x3),lm.to p3 (y1.trans x3) S3,ra.mono p3 (y1.trans x3),RK.mono hm p3 (y1.trans x3)⟩
      |true=>
       rw[aE rfl]
       simp only at hm
       cases he:el ρ2 cN with
       |bad=>rw[he]at hm;exact hm.elim
       |ex c s=>rw[he]at hm;exact hm.elim
       |ok w jL=>
        rw[he]at hm
        refine⟨μ3,ρ2,cN,w,jL,l2.to p3 x3 S3,he,fun μ4 b4 H4 p4 x4 S4 q4=>?_⟩
        have pp:=p3.trans p4
        have xx:=y1.trans (x3.trans x4)
        exact⟨eh hy (aL hlt (nG hz)),_,by omega,hlt,rfl,by simp;omega,μ4,gG++[w],jL,pm.trans pp,xm.trans xx,lm.to pp xx S4,(ra.mono pp xx).app (.consI q4 .nilI),RK.mono hm pp xx⟩
   ·rw[aN ck]at hm;exact hm.elim
  ·have hi':i=k.1.length:=by omega
   subst hi'
   rw[mT (aw _)]at hm
   unfold m6 at hm
   by_cases ck:i7 bf k.2
   ·rw[aE ck]at hm
    obtain⟨z1,z2⟩:=t5 lm.sto ra hm
    exact .inl ⟨(wk _ μ' bf H' pm xm lm.sto ck).2 (aw _),z1,fun p hp=>z2 p _ hp rfl⟩
   ·rw[aN ck]at hm;exact hm.elim
 ·rw[aN hz]at h1;exact h1.elim
section
variable{X:Cx}{qe tg dL:Expr}{ml:List Expr}{scope:Scope}{pos:Pos}{nm:List Str}{cap:List (Option Nat)}{fi:FI}{f:FG}{t:FT}{el:FE}{m:Nat}
theorem Th{X X':Cx}{e:Expr}{f:FE}(hK:X'.K=X.K)(hm:X'.mg=X.mg)(h:SE X' e f):QE X' e (Ry X (u0 X) f):=⟨h.h.imp fun σ H Q ⟨μ,ρ,st,a,bf,l,e,q⟩=>⟨μ,ρ,st,⟨by rw[hK];exact l.env,by rw[hK,hm];exact l.sto⟩,by rw[e];exact fun μ' b H' p x S r=>q μ' b H' p (by rw[<- hK];exact x) (by rw[<- hK,<- hm];exact S) (by show bE X.K μ' H' a b;rw[<- hK];exact r)⟩⟩
theorem Ti{X X':Cx}{e:List Expr}{f:FT}(hK:X'.K=X.K)(hm:X'.mg=X.mg)(h:P2 X' e f):Sc X' e (Ry X Mo f):=⟨h.h.imp fun σ H Q ⟨μ,ρ,st,a,bf,l,e,q⟩=>⟨μ,ρ,st,⟨by rw[hK];exact l.env,by rw[hK,hm];exact l.sto⟩,by rw[e];exact fun μ' b H' p x S r=>q μ' b H' p (by rw[<- hK];exact x) (by rw[<- hK,<- hm];exact S) r⟩⟩
theorem Tj{X X':Cx}{e:Expr}{f:FG}(hK:X'.K=X.K)(hm:X'.mg=X.mg)(h:SG X' e f):QG X' e (PV X f):=⟨h.h.imp fun v σ H Q ⟨μ,ρ,st,w,ρ',l,r,e,q⟩=>⟨μ,ρ,st,w,ρ',⟨by rw[hK];exact l.env,by rw[hK,hm];exact l.sto⟩,by rw[hK];exact r,e,fun σ' l'=>q σ' ⟨by rw[<- hK];exact l'.env,by rw[<- hK,<- hm];exact l'.sto⟩⟩⟩
theorem nM(hB:De X.env.scope.names scope.names nm cap X.N=true)(qc:X.env.cells=cellsFrom m X.env.scope.names [])(hi:SI X tg dL fi)(hg:∀cl C s0 H0 fp,SG (dG X nm scope cl C s0 H0 fp) tg f)(ht:∀cl C s0 H0 fp,P2 (dG X nm scope cl C s0 H0 fp) ml t)
  (he:∀cl C s0 H0 fp,SE (dG X nm scope cl C s0 H0 fp) qe el) (jm:X.calm=true:=by rfl) (jo:scope.kind=.function:=by rfl) (hs:∀x,foldedSetIterable dL X.env x=pure x:=by intro _;rfl) :
  SE X (.ListComp qe [⟨tg,dL,ml,0⟩] scope pos) (gD cap fi f t el):=
 ⟨(Mk jm qc jo hB ⟨hi.h⟩ (fun cl C s0 H0 fp=>Tj (X:=X) rfl rfl (hg cl C s0 H0 fp)) (fun cl C s0 H0 fp=>Ti (X:=X) rfl rfl (ht cl C s0 H0 fp)) (fun cl C s0 H0 fp=>Th (X:=X) rfl rfl (he cl C s0 H0 fp)) hs).h.imp fun _ _ _ h=>EU h⟩
theorem pW{x0:Str}{p0 p1:Pos}{i:Nat}(Rk:SG X (.Name x0 p0) (ie i))(hB:De X.env.scope.names scope.names nm cap X.N=true)(qc:X.env.cells=cellsFrom m X.env.scope.names [])(hi:SI X tg dL fi)(hg:∀cl C s0 H0 fp,SG (dG X nm scope cl C s0 H0 fp) tg f)(ht:∀cl C s0 H0 fp,P2 (dG X nm scope cl C s0 H0 fp) ml t)
  (he:∀cl C s0 H0 fp,SE (dG X nm scope cl C s0 H0 fp) qe el) (jm:X.calm=true:=by rfl) (jo:scope.kind=.function:=by rfl) (hs:∀x,foldedSetIterable dL X.env x=pure x:=by intro _;rfl)
  (Q6:swapsWith (.ListComp qe [⟨tg,dL,ml,0⟩] scope pos) (some (.Name x0 p0)) p1.line X.env=pure true:=by first|rfl|kernel_rfl) :
  SS X (.Assign [.Name x0 p0] (.ListComp qe [⟨tg,dL,ml,0⟩] scope pos) p1) (wI (gD cap fi f t el) (ie i)):=
 ⟨(Ax ⟨Rk.h⟩ jm qc jo hB ⟨hi.h⟩ (fun cl C s0 H0 fp=>Tj (X:=X) rfl rfl (hg cl C s0 H0 fp)) (fun cl C s0 H0 fp=>Ti (X:=X) rfl rfl (ht cl C s0 H0 fp)) (fun cl C s0 H0 fp=>Th (X:=X) rfl rfl (he cl C s0 H0 fp)) hs Q6).h.imp fun D σ H h=>by
  obtain⟨μ,ρ,st,l,h⟩:=h
  have h':tE X (gD cap fi f t el) σ H fun x H1=>PV X (ie i) x σ H1 D.nx:=⟨μ,ρ,st,l,RK.stmt h l fun μ1 st1 x v H1 p1 x1 l1 q1 h1=>⟨μ1,ρ,st1,x,ρ.set i (some x),l1,q1,rfl,fun σ' l'=>h1 μ1 σ' H1 (al _) eX.refl l'⟩⟩
  exact EU h'⟩
end
section
variable{X:Cx}{a b c e o tg:Expr}{es:List Expr}{pos p p2 gc du:Pos}{x name:Str}{fa fb fc fe fo:FE}{fs:FA}
theorem vA{μ:List Addr}{H:Hp}{ws:List W}{mK:List V}(hr:∀μ H,RelWs X.K μ H ws mK):AB X (Pj mK) (ws,none) μ H:=fun i μ' bf H' pp xx S _=>by
 have hl:ws.length=mK.length:=(hr μ H).len
 refine⟨fun w hw=>?_,fun h=>by show mK.length<=i;rw[<- hl];exact h⟩
 obtain⟨v,g1,g2⟩:=(hr μ' H').get hw
 refine⟨(ak.mp g1).1,fun y H'' hy=>?_⟩
 obtain⟨rfl,hy⟩:=hy
 rw[g1]at hy;cases hy
 exact⟨eX.refl,S,g2⟩
def i8(l:List Nat):List W:=l.map fun c=>.str [c]
theorem vB(l:List Nat)(μ:List Addr)(H:Hp):RelWs X.K μ H (i8 l) (i5 l):=by
 induction l with
 |nil=>exact .nilI
 |cons a r ih=>exact .consI .str ih
def Kj(fe:FE):FI:=fun ρ st=>(fe ρ st).bind fun x st=>match x with
 |.str l=>.ok (i8 l,none) st
 |_=>.bad
theorem Mx(he:SE X e fe):SI X tg e (Kj fe):=⟨(Me he.h).imp fun σ H R h=>by
 obtain⟨μ,ρ,st,l,h⟩:=h
 refine⟨μ,ρ,st,l,RK.bind h l fun μ1 st1 x v H1 p1 x1 l1 q1 h1=>?_⟩
 cases x with
 |str z=>exact⟨z,q1.strE,h1 μ1 _ H1 (al _) eX.refl l1.sto (vA (vB z))⟩
 |_=>exact h1.elim⟩
def dZ(fe:FE):FI:=fun ρ st=>(fe ρ st).bind fun x st=>match x with
 |.tup ws=>.ok (ws,none) st
 |.loc n=>(match lstOf st n with
  |some ws=>.ok (ws,some (n,ws)) st
  |none=>.bad)
 |.str l=>.ok (i8 l,none) st
 |_=>.bad
theorem iL(he:SE X e fe):SI X tg e (dZ fe):=⟨fun aj s σ H Rr I h=>by
 obtain⟨μ,ρ,st,l,h⟩:=h
 cases e1:fe ρ st with
 |bad=>simp only[dZ,e1,R.bind_bad]at h;exact h.elim
 |ex c st1=>
  refine(ET (tg:=tg) he).h aj s σ H Rr I ⟨μ,ρ,st,l,?_⟩
  simp only[dZ,ES,e1,R.bind_ex]at h ⊢;exact h
 |ok w st1=>
  cases w with
  |tup ws=>
   refine(ET (tg:=tg) he).h aj s σ H Rr I ⟨μ,ρ,st,l,?_⟩
   simp only[dZ,ES,e1,R.bind_ok]at h ⊢;exact h
  |loc n=>
   refine(Mw (tg:=tg) he).h aj s σ H Rr I ⟨μ,ρ,st,l,?_⟩
   simp only[dZ,Kh,e1,R.bind_ok]at h ⊢;exact h
  |str z=>
   refine(Mx (tg:=tg) he).h aj s σ H Rr I ⟨μ,ρ,st,l,?_⟩
   simp only[dZ,Kj,e1,R.bind_ok]at h ⊢;exact h
  |_=>simp only[dZ,e1,R.bind_ok]at h;exact h.elim⟩
def jS(ws:List W):List W:=(List.range ws.length).map fun(i:Nat)=>W.tup [.int i,ws.getD i .non]
theorem oN{ws:List W}{i:Nat}{w:W}(h:(jS ws)[i]?=some w):∃y,ws[i]?=some y/\w=.tup [.int i,y]:=by
 unfold jS at h
 rw[aG]at h
 by_cases hi:i<ws.length
 ·rw[cV hi]at h
  refine⟨ws[i],aq hi,?_⟩
  have:=(bc h).symm
  rw[this]
  show W.tup [W.int i,ws.getD i W.non]=_
  rw[aQ,aq hi];rfl
 ·rw[bn (by simpa using hi)]at h;cases h
theorem rJ(ws:List W):(jS ws).length=ws.length:=by simp[jS]
def lJ(fs:FA):FI:=fun ρ st=>(fs ρ st).bind fun ws st=>match ws with
 |[.tup zs]=>.ok (jS zs,none) st
 |_=>.bad
theorem tf{Ht:List Expr}{kk:Nat}{tp:Pos}(hm:X.mg "enumerate"=none)(ha:SA X [a] fs)(hg:Gl X "enumerate":=by rfl)(hs:starEach [a] X.env=[(false,eval a X.env)]:=by rfl) :
  SI X (.Tuple Ht kk tp) (.Call (.Name "enumerate" p) [a] [] pos) (lJ fs):=⟨(Ew hm ⟨ha.h⟩ hg hs).h.imp fun σ H R h=>by
 obtain⟨μ,ρ,st,l,h⟩:=h
 refine⟨μ,ρ,st,l,RK.bind h l fun μ1 st1 x v H1 p1 x1 l1 q1 h1=>?_⟩
 split at h1
 ·rename_i zs
  obtain⟨y,rfl,ry⟩:=q1.one
  obtain⟨p,vs,rfl,hS,r⟩:=ry.tupE
  refine⟨p,rfl,⟨vs,hS⟩,h1 μ1 _ H1 (al _) eX.refl l1.sto fun i μ' bf H' pp xx S _=>⟨fun w hw=>?_,fun hl=>⟨vs,xx _ _ hS,by rw[rJ]at hl;rw[<- r.len];exact hl⟩⟩⟩
  obtain⟨y,hy,rfl⟩:=oN hw
  have r':=r.mono pp xx
  obtain⟨v,g1,g2⟩:=r'.get hy
  refine⟨⟨vs,v,xx _ _ hS,g1⟩,fun z H'' hz=>?_⟩
  obtain⟨q,hq,rfl,hH⟩:=hz
  have e:=hH vs v (xx _ _ hS) g1
  subst e
  have ex:=gK.same (K:=X.K) (cQ hq (.tup [.int i,v]))
  exact⟨ex,S.same (cQ hq _),.tupI gK.new (.consI .int (.consI (g2.mono (al _) ex) .nilI))⟩
 ·exact h1.elim⟩
def pX(f f':W->W->List ao->R W)(fa fb fc:FE):FE:=fun ρ st=>(fa ρ st).bind fun x st=>(fb ρ st).bind fun y st=>(f x y st).bind fun z st=>match z with
 |.bl true=>(fc ρ st).bind fun w st=>f' y w st
 |.bl false=>.ok (.bl false) st
 |_=>.bad
theorem Jc{f f':W->W->List ao->R W}{σ:St}{H:Hp}{Q:VK}(n:∀x y st,qz (f x y st))(n':∀x y st,qz (f' x y st))(h:tE X (pX f f' fa fb fc) σ H Q):Eb (PF X f) (PF X f') (tE X fa) (tE X fb) (tE X fc) σ H Q:=by
 obtain⟨μ,ρ,st,l,h⟩:=h
 refine⟨μ,ρ,st,l,RK.bind h l fun μ1 st1 x v H1 p1 x1 l1 q1 h1=>⟨μ1,ρ,st1,l1,RK.bind h1 l1 fun μ2 cN y u H2 p2 x2 l2 q2 h2=>⟨μ2,cN,x,y,l2.sto,q1.mono p2 x2,q2,nH (σ:=σ) (RK.bind h2 l2 fun μ3 jL z t H3 p3 x3 l3 q3 h3=>?_) (n _ _ _)⟩⟩⟩
 cases z with
 |bl k=>
  refine⟨k,q3.blE,?_⟩
  cases k with
  |false=>exact h3 μ3 _ H3 (al _) eX.refl l3.sto .bl
  |true=>
   refine⟨μ3,ρ,jL,l3,RK.bind h3 l3 fun μ4 st4 w s H4 p4 x4 l4 q4 h4=>?_⟩
   exact⟨μ4,st4,y,w,l4.sto,(q2.mono p3 x3).mono p4 x4,q4,nH h4 (n' _ _ _)⟩
 |_=>exact h3.elim
theorem Jd{op Oa:CmpOp}{f f':W->W->List ao->R W}(ho:rh X (compareOp op) f)(sN:rh X (compareOp Oa) f')(ha:SE X a fa)(hb:SE X b fb)(hc:SE X c fc)(hm:lastMarks [op,Oa] [b,c]=false:=by with_unfolding_all rfl):SE X (.Compare a [op,Oa] [b,c] pos) (pX f f' fa fb fc):=⟨(Ec ho.h sN.h ha.h hb.h hc.h hm).imp fun _ _ _ h=>Jc ho.n sN.n h⟩
def nN(fa:FE):FE:=fun ρ st=>(fa ρ st).bind fun x st=>match x with
 |.int i=>.ok (.int (-i)) st
 |_=>.bad
theorem py(ha:SE X a fa):SE X (.UnaryOp .USub a pos) (nN fa):=⟨(OZ LY ha.h).imp fun σ H Q h=>by
 obtain⟨μ,ρ,st,l,h⟩:=h
 refine⟨μ,ρ,st,l,RK.bind h l fun μ1 st1 x v H1 p1 x1 l1 q1 h1=>?_⟩
 cases x with
 |int k=>exact⟨k,q1.intE,h1 μ1 _ H1 (al _) eX.refl l1.sto .int⟩
 |_=>exact h1.elim⟩
def AC(x y:W)(st:List ao):R W:=match x,y with
 |.int i,.int j=>.ok (.bl (decide (i<=j))) st
 |.str [c],.str [d]=>.ok (.bl (decide (c<=d))) st
 |_,_=>.bad
theorem EV:rh X (compareOp .LtE) AC:=⟨fun aj s σ H x y v u Q I rv ru ⟨μ,st,wx,wy,S,rx,ry,q⟩=>by
 unfold AC at q
 split at q
 ·exact O2 aj s σ H x y v u Q I rv ru ⟨_,_,rx.intE,ry.intE,lH S q⟩
 ·exact Dc aj s σ H x y v u Q I rv ru ⟨_,_,rx.strE,ry.strE,lH S q⟩
 ·exact q.elim,fun x y st=>by unfold AC;split<;>trivial⟩
end
def wJ(c:Nat):List Nat->List Nat
 |[]=>[c]
 |d::r=>if c<d then c::d::r else if c=d then d::r else d::wJ c r
def km(l:List Nat):List Nat:=l.foldr wJ []
theorem ue{c x:Nat}:∀{l:List Nat},x∈wJ c l↔x=c\/x∈l
 |[]=>by simp[wJ]
 |d::r=>by
  unfold wJ
  split
  ·simp
  ·split
   ·rename_i h;subst h;simp
   ·simp only[aY,ue]
    constructor
    ·rintro(h|h|h)<;>simp[h]
    ·rintro(h|h|h)<;>simp[h]
theorem B4{c:Nat}:∀{l:List Nat},l.Pairwise (· < ·)->(wJ c l).Pairwise (· < ·)
 |[],_=>by simp[wJ]
 |d::r,h=>by
  obtain⟨h1,h2⟩:=bT.mp h
  unfold wJ
  split
  ·rename_i hc
   refine bT.mpr ⟨fun x hx=>?_,h⟩
   rcases aY.mp hx with rfl|hx
   ·exact hc
   ·exact Nat.lt_trans hc (h1 x hx)
  ·split
   ·exact h
   ·rename_i hc hd
    refine bT.mpr ⟨fun x hx=>?_,B4 h2⟩
    rcases ue.mp hx with rfl|hx
    ·omega
    ·exact h1 x hx
theorem oO{x:Nat}{l:List Nat}:x∈km l↔x∈l:=by
 induction l with
 |nil=>simp[km]
 |cons a r ih=>show x∈wJ a (km r)↔_;rw[ue,ih];simp
theorem uf(l:List Nat):(km l).Pairwise (· < ·):=by
 induction l with
 |nil=>exact List.Pairwise.nil
 |cons a r ih=>exact B4 ih
theorem EW:∀{l m:List Nat},l.Pairwise (· < ·)->m.Pairwise (· < ·)->(∀x,x∈l↔x∈m)->l=m
 |[],[],_,_,_=>rfl
 |[],b::m,_,_,h=>by have:=(h b).mpr (by simp);simp at this
 |a::l,[],_,_,h=>by have:=(h a).mp (by simp);simp at this
 |a::l,b::m,h1,h2,h=>by
  obtain⟨p1,p2⟩:=bT.mp h1
  obtain⟨q1,q2⟩:=bT.mp h2
  have e:a=b:=by
   rcases aY.mp ((h a).mp (by simp))with z|z
   ·exact z
   ·rcases aY.mp ((h b).mpr (by simp))with y|y
    ·exact y.symm
    ·have:=p1 b y;have:=q1 a z;omega
  subst e
  rw[EW p2 q2 fun x=>?_]
  constructor
  ·intro hx
   rcases aY.mp ((h x).mp (bv _ hx))with z|z
   ·subst z;exact absurd (p1 x hx) (da _)
   ·exact z
  ·intro hx
   rcases aY.mp ((h x).mpr (bv _ hx))with z|z
   ·subst z;exact absurd (q1 x hx) (da _)
   ·exact z
def AD(c:List Nat):List (List Nat)->List (List Nat)
 |[]=>[c]
 |d::r=>if c<d then c::d::r else d::AD c r
def la(l:List (List Nat)):List (List Nat):=l.foldr AD []
theorem rK(c:List Nat):∀l:List (List Nat),(AD c l).Perm (c::l)
 |[]=>gP _
 |d::r=>by
  unfold AD
  split
  ·exact gP _
  ·exact((rK c r).cons d).trans (List.Perm.swap c d r)
theorem iM(l:List (List Nat)):(la l).Perm l:=by
 induction l with
 |nil=>exact gP _
 |cons a r ih=>exact(rK a _).trans (ih.cons a)
def Je:List (List Nat)->Prop:=List.Pairwise fun a b=>¬ b<a
theorem B5(c:List Nat):∀{l:List (List Nat)},Je l->Je (AD c l)
 |[],_=>by simp[AD,Je]
 |d::r,h=>by
  obtain⟨h1,h2⟩:=bT.mp h
  unfold AD
  split
  ·rename_i hc
   refine bT.mpr ⟨fun x hx=>?_,h⟩
   rcases aY.mp hx with rfl|hx
   ·exact fun z=>List.lt_irrefl _ (List.lt_trans z hc)
   ·exact fun z=>h1 x hx (List.lt_trans z hc)
  ·rename_i hc
   refine bT.mpr ⟨fun x hx=>?_,B5 c h2⟩
   rcases aY.mp ((rK c r).mem_iff.mp hx)with rfl|hx
   ·exact hc
   ·exact h1 x hx
theorem yt(l:List (List Nat)):Je (la l):=by
 induction l with
 |nil=>exact List.Pairwise.nil
 |cons a r ih=>exact B5 a ih
theorem wK:∀{l m:List (List Nat)},Je l->Je m->l.Perm m->l=m
 |[],m,_,_,h=>(List.Perm.nil_eq h)
 |a::l,[],_,_,h=>(by have:=h.length_eq;simp at this)
 |a::l,b::m,h1,h2,h=>by
  obtain⟨p1,p2⟩:=bT.mp h1
  obtain⟨q1,q2⟩:=bT.mp h2
  have e:a=b:=by
   rcases aY.mp (h.mem_iff.mp (by simp:a∈a::l))with z|z
   ·exact z
   ·rcases aY.mp (h.mem_iff.mpr (by simp:b∈b::m))with y|y
    ·exact y.symm
    ·exact List.le_antisymm (show a<=b from p1 b y) (show b<=a from q1 a z)
  subst e
  rw[wK p2 q2 (List.perm_cons a |>.mp h)]
theorem ug:∀{zs:List (List Nat)},sortedS (zs.map tx)=true->Je zs:=by
 have key:∀(zs:List (List Nat)) (p:List Nat),risingS (tx p) (zs.map tx)=true->Je (p::zs):=by
  intro zs
  induction zs with
  |nil=>intro p _;simp[Je]
  |cons a r ih=>
   intro p h
   have h':(!ltCps a p&&risingS (tx a) (r.map tx))=true:=h
   rw[cD,fK,ltCps_eq,decide_eq_false_iff_not]at h'
   have u:=ih a h'.2
   refine bT.mpr ⟨fun x hx=>?_,u⟩
   rcases aY.mp hx with rfl|hx
   ·exact h'.1
   ·have:=(bT.mp u).1 x hx
    exact List.not_lt.mpr (List.le_trans (List.not_lt.mp h'.1) (List.not_lt.mp this))
 intro zs h
 cases zs with
 |nil=>exact List.Pairwise.nil
 |cons a r=>exact key r a h
section
variable{X:Cx}{a b c e o tg:Expr}{es:List Expr}{pos p p2 gc du:Pos}{x name:Str}{fa fb fc fe fo:FE}{fs:FA}
def oP(ws:List W)(st:List ao):R W:=match ws with
 |[.loc n]=>s_ (lstOf st n) fun zs=>s_ (m5 zs) fun ls=>if ls.length<64 then .ok (.loc st.length) (st++[.lst ((la ls).map W.str)])else .bad
 |_=>.bad
theorem yu{K:Frag}{μ:List Addr}{H:Hp}(ls:List (List Nat)):RelWs K μ H (ls.map W.str) (ls.map fun l=>V.str (tx l)):=by
 induction ls with
 |nil=>exact .nilI
 |cons a r ih=>exact .consI .str ih
theorem yv:qE X (.builtin "sorted") oP:=⟨fun aj s σ H vs us Q I rv ⟨μ,st,ws,S,r,q⟩=>by
 unfold oP at q
 split at q
 ·rename_i n
  obtain⟨y,rfl,ry⟩:=r.one
  cases e1:lstOf st n with
  |none=>rw[e1]at q;exact q.elim
  |some zs=>
   rw[e1,dY]at q
   cases e2:m5 zs with
   |none=>rw[e2]at q;exact q.elim
   |some ls=>
    rw[e2,dY]at q
    split at q
    ·rename_i c
     obtain⟨a,vs,g,hS,rz⟩:=S.lstOf e1
     obtain⟨b1,f1,rfl⟩:=ry.locE
     rw[g]at f1;cases f1
     have:=ud e2 rz
     subst this
     refine uV.h aj s σ H _ us Q I rv ⟨_,ls,rfl,hS,c,fun zs hp hs l H2 hl eH=>?_⟩
     subst eH
     have ez:zs=la ls:=wK (ug hs) (yt ls) (hp.trans (iM ls).symm)
     subst ez
     exact q (μ++[l]) _ _ (bJ _ _) (gK.same (cQ hl _)) (S.newLst hl (yu _)) (mx S)
    ·exact q.elim
 ·exact q.elim,fun ws st=>by
 unfold oP
 split
 ·exact pw fun _=>pw fun _=>by split<;>trivial
 ·trivial⟩
def kc:List W->Option (List Nat)
 |[]=>some []
 |.str [c]::ws=>(kc ws).map (c :: ·)
 |_=>none
theorem qG{K:Frag}{μ:List Addr}{H:Hp}:∀{ws:List W} {l:List Nat} {vs:List V},kc ws=some l->RelWs K μ H ws vs->vs=i5 l
 |[],l,vs,h,r=>by simp only[kc]at h;cases h;exact r.nilE
 |w::ws,l,vs,h,r=>by
  obtain⟨x,xs,rfl,rx,rs⟩:=r.consE
  unfold kc at h
  split at h
  ·rename_i e;cases e
  ·rename_i c Rn e
   cases e
   cases e2:kc ws with
   |none=>rw[e2]at h;cases h
   |some l'=>rw[e2]at h;cases h;rw[rx.strE,qG e2 rs];rfl
  ·cases h
def uh:W->Option (List Nat)
 |.str l=>some l
 |.tup ws=>kc ws
 |_=>none
def qH(fe:FE):FE:=fun ρ st=>(fe ρ st).bind fun x st=>s_ (uh x) fun l=>if l.length<4000/\(km l).length<64 then .ok (.loc st.length) (st++[.lst (i8 (km l))])else .bad
theorem lK{m l:List Nat}(hm:m.Nodup)(h:∀c∈m,c∈l):m.length<=l.length:=by
 induction m generalizing l with
 |nil=>exact bQ _
 |cons a r ih=>
  obtain⟨h1,h2⟩:=iC.mp hm
  have ha:a∈l:=h a (by simp)
  have:=ih h2 (l:=l.erase a) fun c hc=>by
   have:c≠a:=fun z=>h1 (z▸hc)
   exact(List.mem_erase_of_ne this).mpr (h c (bv _ hc))
  rw[List.length_erase_of_mem ha]at this
  have:0<l.length:=List.length_pos_of_mem ha
  simp;omega
theorem Dt{p1 p2 Od z0:Pos}(h1:X.mg "sorted"=none)(h3:X.mg "set"=none)(he:SE X e fe)(hc:X.calm=true:=by rfl)
  (S5:Gl X "sorted":=by rfl) (Rc:Gl X "set":=by rfl) (RC:starEach [e] X.env=(false,eval e X.env)::starEach [] X.env:=by rfl):SE X (.Call (.Name "sorted" p1) [.Call (.Name "set" p2) [e] [] z0] [] Od) (qH fe):=⟨(Dl h1 h3 ⟨he.h⟩ hc S5 Rc RC).h.imp fun σ H Q h=>by
 obtain⟨μ,ρ,st,l,h⟩:=h
 refine⟨μ,ρ,st,l,RK.bind h l fun μ1 st1 x v H1 p1 x1 l1 q1 h1=>?_⟩
 cases e1:uh x with
 |none=>rw[e1]at h1;exact h1.elim
 |some ll=>
  rw[e1,dY]at h1
  split at h1
  ·rename_i c
   refine⟨ll,?_,c.1,fun m hm hsub=>?_,fun m SM hup hmem a H2 ha eH=>?_⟩
   ·cases x with
    |str z=>cases e1;exact .inl q1.strE
    |tup ws=>obtain⟨p,vs,rfl,hS,r⟩:=q1.tupE;have:=qG e1 r;subst this;exact .inr ⟨p,rfl,hS⟩
    |_=>cases e1
   ·exact eh (lK hm fun c hc=>oO.mpr (hsub c hc)) c.2
   ·subst eH
    have em:m=km ll:=by
     refine EW ((List.Pairwise.and hup SM).imp fun z=>Nat.lt_of_le_of_ne z.1 z.2) (uf ll) fun x=>?_
     rw[hmem,oO]
    subst em
    exact h1 (μ1++[a]) _ _ (bJ _ _) (gK.same (cQ ha _)) (l1.sto.newLst ha (vB (X:=X) _ _ _)) (mx l1.sto)
  ·exact h1.elim⟩
def u6:List W->Option (List Bool)
 |[]=>some []
 |.bl k::ws=>(u6 ws).map (k :: ·)
 |_=>none
theorem B6{K:Frag}{μ:List Addr}{H:Hp}:∀{ws:List W} {ls:List Bool} {vs:List V},u6 ws=some ls->RelWs K μ H ws vs->vs=ls.map V.bl
 |[],ls,vs,h,r=>by simp only[u6]at h;cases h;exact r.nilE
 |w::ws,ls,vs,h,r=>by
  obtain⟨x,xs,rfl,rx,rs⟩:=r.consE
  cases w with
  |bl l=>
   simp only[u6]at h
   cases e:u6 ws with
   |none=>rw[e]at h;cases h
   |some ls'=>rw[e]at h;cases h;rw[rx.blE,B6 e rs];rfl
  |_=>simp only[u6]at h;cases h
def wL(ws:List W)(st:List ao):R W:=match ws with
 |[.loc n]=>s_ (lstOf st n) fun zs=>s_ (u6 zs) fun ls=>.ok (.bl (ls.all id)) st
 |_=>.bad
theorem EX(hc:X.calm=true:=by rfl):qE X (.builtin "all") wL:=⟨fun aj s σ H vs us Q I rv ⟨μ,st,ws,S,r,q⟩=>by
 unfold wL at q
 split at q
 ·rename_i n
  obtain⟨y,rfl,ry⟩:=r.one
  cases e1:lstOf st n with
  |none=>rw[e1]at q;exact q.elim
  |some zs=>
   rw[e1,dY]at q
   cases e2:u6 zs with
   |none=>rw[e2]at q;exact q.elim
   |some ls=>
    rw[e2,dY]at q
    obtain⟨a,vs,g,hS,rz⟩:=S.lstOf e1
    obtain⟨b1,f1,rfl⟩:=ry.locE
    rw[g]at f1;cases f1
    have:=B6 e2 rz
    subst this
    exact(Py hc).h aj s σ H _ us Q I rv ⟨_,ls,rfl,hS,lH S q⟩
 ·exact q.elim,fun ws st=>by
 unfold wL
 split
 ·exact pw fun _=>pw fun _=>trivial
 ·trivial⟩
end
def W.ty:W->Option String
 |.non=>some "NoneType" | .bl _=>some "bool" | .int _=>some "int" | .str _=>some "str" | .tup _=>some "tuple" | .loc _=>none
def Jf(t T:String):Bool:=(t==T)||(t == "bool" && T == "int")
theorem P3{K:Frag}{T:String}(h:Eu T){w:W}{t:String}(hw:w.ty=some t):kitOne K (.type t) (.type T)=some (Jf t T):=by
 cases w<;>simp only[W.ty]at hw<;>cases hw<;>(rcases h with rfl|rfl|rfl|rfl<;>rfl)
def qI(T:String)(fa:FE):FE:=fun ρ st=>(fa ρ st).bind fun x st=>match x.ty with
 |some t=>.ok (.bl (Jf t T)) st
 |none=>.bad
section
variable{X:Cx}{a b c e o tg:Expr}{es:List Expr}{pos p p2 gc du:Pos}{x name:Str}{fa fb fc fe fo:FE}{fs:FA}
theorem pz{T:String}{xT:Str}(hm:X.mg "isinstance"=none)(hT:X.mg xT=none)(hv:bootBuiltins xT=some (.type T))(ha:SE X a fa)(hk:Eu T:=by first|exact .inl rfl|exact .inr (.inl rfl)|exact .inr (.inr (.inl rfl))|exact .inr (.inr (.inr rfl)))
  (hg:Gl X "isinstance":=by rfl) (Re:Gl X xT:=by rfl) (hn:xT ≠ "__name__":=by decide) (hd:(xT==("__debug__":Str))=false:=by decide)
  (he:starEach [a,.Name xT p2] X.env=(false,eval a X.env)::starEach [.Name xT p2] X.env:=by rfl) (DW:starEach [.Name xT p2] X.env=(false,eval (.Name xT p2) X.env)::starEach [] X.env:=by rfl) (jG:(backTo pos (starEach [.Name xT p2] X.env)).any (·.1)=false:=by rfl) :
  SE X (.Call (.Name "isinstance" p) [a,.Name xT p2] [] pos) (qI T fa):=by
 have C:i4 X (.builtin "isinstance") (fun xs H Q=>∃x μ st w t,xs=[x,.ty T]/\iI X.K X.mg μ st H/\bE X.K μ H w x/\w.ty=some t/\Q (.bl (Jf t T)) H):=by
  intro aj s σ H xs us Q I r h
  obtain⟨x,μ,st,w,t,rfl,S,rx,ht,q⟩:=h
  obtain⟨u,u2,rfl,r1,r2⟩:=cJ.two r
  obtain rfl:u2=.type T:=r2
  have e:=P3 (K:=X.K) hk ht
  cases w with
  |tup ws=>
   cases ht
   obtain⟨p,vs,rfl,hS,_⟩:=rx.tupE
   cases(show u=Value.ref p from r1)
   obtain⟨bN,_,hp,_⟩:=I.tuple hS
   obtain⟨o,h1,h2,_⟩:=hp
   exact up (kia_one PySem.W.kitx_tuple I.kIn ⟨o,h1,h2⟩ e (fun z=>nomatch z) fun tk hk=>⟨.bl _,H,I.tok tk,rfl,q⟩)
  |non=>cases ht;cases rx.nonE;exact up (oG I r1 .non e fun tk hk=>⟨.bl _,H,I.tok tk,rfl,q⟩)
  |bl b=>cases ht;cases rx.blE;exact up (oG I r1 (.bl _) e fun tk hk=>⟨.bl _,H,I.tok tk,rfl,q⟩)
  |int b=>cases ht;cases rx.intE;exact up (oG I r1 (.int _) e fun tk hk=>⟨.bl _,H,I.tok tk,rfl,q⟩)
  |str b=>cases ht;cases rx.strE;exact up (oG I r1 (.str _) e fun tk hk=>⟨.bl _,H,I.tok tk,rfl,q⟩)
  |loc b=>cases ht
 refine⟨(nE C hg hm iE (iw ha.h (iw (Bz Re hT hv (v:=.ty T) rfl hn hd) nD DW) he) (by decide) (by decide) he jG).imp fun σ H Q h=>?_⟩
 obtain⟨μ,ρ,st,l,h⟩:=h
 refine⟨μ,ρ,st,l,RK.bind h l fun μ1 st1 x v H1 p1 x1 l1 q1 h1=>?_⟩
 cases ht:x.ty with
 |none=>rw[ht]at h1;exact h1.elim
 |some t=>
  rw[ht]at h1
  exact⟨v,μ1,st1,x,t,rfl,l1.sto,q1,ht,h1 μ1 _ H1 (al _) eX.refl l1.sto .bl⟩
theorem l5{P:Program}{w:World}{K:Frag}{mg:Str->Option Value}{base:Heap}{k n:Nat}{x:Str}{st:Stmt}{f:Addr}{fd:FuncData}{ps:List Str}
  (F:jM K x x st f fd) (hm:mg x=some (.ref f)) (hn:ps.length=n)
  (hb:∀(kV tw pm:Value) (an:Option Addr) (gk ct:Value) (us:List Value),us.length=ps.length->bindArgs (fnOf x x (jA st) (iy st) (aX st) .none kV tw pm an gk ct) ⟨us,[]⟩=pure (ps.zip us)) :
  b8 P w K mg base k x n (fun _ _=>.bad):=k_ F hm hn hb ⟨fun vs H Q E h=>by rw[hn];exact h.1,fun _ _ _ _ _ _ _ _ _ _ _ _ _ _ h=>by obtain⟨_,_,_,_,_,_,z⟩:=h;exact z.elim⟩
end
def Kk(F:List W->List ao->R W):Prop:=∀ns:List Int,ns.length<=63->∃bf,F [.loc 0] [.ro (ns.map W.int)]=.ok (.bl true) bf
theorem walkW{l:PySem.W.OpenLaw}{k:Nat}{q:Program}{wc:List Str}{XP:(Str->Option Value)->Heap->Prop}{YP:World->Heap->Prop}{d:DefRec}{K:Params->Frag}{x:Str}{G:List W->List ao->R W}(hn:l.most=some 63)(Rb:d.params.defaults=[])(hr:js k callerA)
  (hY:∀(w:World) (h:Heap),YP w h->(K w.params).In h)
  (F:∀(w:World) (mg:Str->Option Value) (fa:Addr) (h:Heap),(K w.params).In h->h.Ns mainGlobals mg->mg d.name=some (.ref fa) ->
   ∃fd:FuncData,fd.scope.names.lookup x=some .local/\(∀(s:Shared) (u:Value),BindsTo s fd ⟨[u],[]⟩ [(x,u)])/\∀base:Heap,(K w.params).In base->base.Ns mainGlobals mg->eK l.prog w (K w.params) mg base (j' l.prog w) k fa fd [x] (k9 (K w.params) mg 1 G))
  (ok:Kk G):PySem.W.WalkO q wc XP YP l.row.toRowW d [] (fun f vs=>PySem.call f vs):=by
 refine L2.walk_of (n:=63) (k:=k) (x:=x) (CX:=fun w=>j' l.prog w)
  (sp:=fun w=>fun vs H Q E=>∃(a:Addr) (ns:List Int),vs=[.ref a]/\sf (K w.params) H a (ns.map V.int)/\IE H/\ns.length<=63/\∀H',Q (.bl true) H') hn (by decide) Rb hr hY (fun w mg fa h h1 h2 h3=>?_)
  (fun w H a ns hl hO hS=>⟨a,ns,rfl,hS,hO,hl,fun _=>rfl⟩) fun w H s e s' z=>?_
 ·obtain⟨fd,hlo,hb,ho⟩:=F w mg fa h h1 h2 h3
  refine⟨fd,hlo,hb,fun base kb nb=>(ho base kb nb).imp fun vs H Q E hh=>?_⟩
  obtain⟨a,ns,rfl,hS,hO,hl,q⟩:=hh
  obtain⟨bf,e⟩:=ok ns hl
  have zL:Rv (K w.params) H a (ns.map V.int):=by
   rcases hS with(z|⟨o,z⟩)|z
   ·rcases hO a with y|⟨o,xs,y⟩
    ·rw[z]at y;cases y
    ·rw[z]at y;cases y
   ·exact .inl ⟨o,z⟩
   ·exact .inr z
  have hr:RelWs (K w.params) [a] H (ns.map W.int) (ns.map V.int):=by
   clear hS zL e hl
   induction ns with
   |nil=>exact .nilI
   |cons n r ih=>exact .consI .int ih
  refine⟨rfl,[a],[.loc 0],[.ro (ns.map W.int)],⟨fun i j b ci cj c1 c2 r1 r2 m1 m2=>?_,rfl,fun i c b c1 c2=>?_⟩,.consI (.locI rfl) .nilI,?_⟩
  ·cases i with
   |zero=>cases c1;cases r1
   |succ i=>simp at c1
  ·cases i with
   |zero=>cases c1;cases c2;exact⟨_,zL,hr⟩
   |succ i=>simp at c1
  ·rw[e]
   intro μ' v H' _ _ _ rv
   rw[rv.blE];exact q H'
 ·obtain⟨_,_,_,_,_,_,z,_⟩:=z
  exact z
abbrev pY:List Value:=[.type "ValueError",.type "Exception",.type "BaseException",.type "object"]
abbrev qJ:String:="ValueError.__new__"
def AE(K:Frag)(C:Addr):List Value:=match K.lookup C with
 |some ⟨_,_,.cls cd,_⟩=>cd.mro
 |_=>[]
theorem oQ{K:Frag}{h:Heap}{C:Addr}{TD:List Value}{on:String}(X:K.In h)(q:excIn K C TD on=true) :
  ∃bm N nm qn bs hdct sn sub ab col dd k0 k1 k2 k3 k5 mN,h.get? C=some (excClassObj nm qn C N bs bm hdct sn sub ab col dd k0 k1 k2 k3 k5 on)/\h.Ns N mN/\mN "__init__"=none/\OwnTail h TD bm/\AE K C=.ref C::bm:=by
 have q0:=q
 unfold excIn at q
 split at q
 ·rename_i dd cd sl ho
  split at q
  ·rename_i C' bm k0 k1 k2 k3 n k5 hm hs
   simp only[cD,eD,fK]at q
   obtain⟨⟨⟨⟨⟨rfl,rfl⟩,hdel⟩,ht⟩,hok⟩,hni⟩:=q
   have hmro:AE K C'=cd.mro:=by unfold AE;rw[ho]
   obtain⟨nm,bs,mro,ns,qn,hd,sn,sub,ab,col,del⟩:=cd
   dsimp only at hm hdel hok hni hmro
   subst hm hdel
   have hsl:sl=#[k0,k1,k2,k3,some (.builtin n),k5]:=by
    obtain⟨l⟩:=sl
    simp only at hs
    rw[hs]
   subst hsl
   exact⟨bm,ns,nm,qn,bs,hd,sn,sub,ab,col,dd,k0,k1,k2,k3,k5,_,X _ _ ho,.of_isNs (PySem.W.isNs_of_in X hok),PySem.W.nsMap_none_of_in X hok hni,PySem.W.tail_of_in X ht,hmro⟩
  ·cases q
 ·cases q
structure Jg(K:Frag)(mg:Str->Option Value)(x:Str):Prop where
 ex:∃C,mg x=some (.ref C)/\excIn K C pY qJ=true
def wM(c:Str):FS:=fun ρ st=>.ex c ρ st
theorem yw{X:Cx}{x:Str}{np du pos p':Pos}{z:Str}{j:Nat}(hC:Jg X.K X.mg x)(jm:X.calm=true:=by rfl)(hg:Gl X x:=by rfl)(hd:(x==("__debug__":Str))=false:=by decide)
  (he:starEach [.Constant (.str z) j p'] X.env=(false,eval (.Constant (.str z) j p') X.env)::starEach [] X.env:=by rfl):SS X (.Raise (some (.Call (.Name x np) [.Constant (.str z) j p'] [] du)) none pos) (wM x):=⟨by
 intro aj s σ H D I h
 obtain⟨μ,ρ,st,l,h⟩:=h
 obtain⟨C,hm,q⟩:=hC.ex
 have hh:X.A.handled=none:=I.ok.hd jm
 obtain⟨bm,N,nm,qn,bs,hdct,sn,sub,ab,col,dd,k0,k1,k2,k3,k5,mN,g1,g2,g3,g4,g5⟩:=oQ I.kIn q
 refine wpAny_Raise_call_subT (C:=C) (nm:=nm) (q:=qn) (N:=N) (bs:=bs) (bm:=bm) (hdct:=hdct) (sn:=sn) (sub:=sub) (ab:=ab) (col:=col) (dd:=dd) (k0:=k0) (k1:=k1) (k2:=k2) (k3:=k3) (k5:=k5)
  F.excBase_ValueError (mN:=mN) (g4.hasType F.excBase_ValueError.hasBase) hh (by rw[he];rfl) g3 (s9 I hg hm ⟨rfl,?_⟩ hd)
 rw[he]
 refine gO ?_
 show wpAny _ _ (spliced ((false,eval (.Constant (.str z) j p') X.env)::[])) _ _ s
 refine dC (wpAny_Constant_str (fJ ?_))
 refine⟨rfl,(by show 1<=sizeLine;decide),g1,g2,g4,fun h' e hx=>?_⟩
 have I2:bF X aj σ H { s with heap:=h',toks:=s.toks+1 }:=I.kept hx.keeps
 have en:H e=none:=by
  cases hu:H e with
  |none=>rfl
  |some u=>
   obtain⟨ob,HA⟩:=(I.hok e u hu).ex
   have:=hx.new
   rw[show({ s with toks:=s.toks+1 }:Shared).heap=s.heap from rfl]at this
   rw[HA]at this;cases this
 obtain⟨t,ht1,ht2,ht3⟩:=hx.there
 have hin:∀env∈X.stack,∀b,env.frame=some b->b∈qo X.stack:=fun env he b hb=>kG.mpr ⟨env,he,hb⟩
 refine h aj μ σ H (.ref e) _ (al _) eX.refl l ⟨I2,e,.ref C,t,hideAll s.heap (qo X.stack),rfl,hm,en,fun b o hb=>hx.keeps b o (PySem.W.of_hideAll _ hb),?_,?_,.inr (.inl ⟨_,_,ht1,rfl,rfl,rfl,rfl,rfl⟩),fun b o hb hr=>?_⟩
 ·cases hq:(hideAll s.heap (qo X.stack)).get? e with
  |none=>rfl
  |some o=>have z:=PySem.W.of_hideAll _ hq;have y:=hx.new;rw[show({ s with toks:=s.toks+1 }:Shared).heap=s.heap from rfl,z]at y;cases y
 ·exact(PySem.W.funFrames_hide I.stack hin).of_keeps fun b o hb _=>⟨o,hx.keeps b o hb,rfl⟩
 ·have old:∀o0,s.heap.get? b=some o0->s.heap.get? b=some o:=fun o0 h0=>by
   have h1:h'.get? b=some o0:=hx.keeps b o0 h0
   have h2:h'.get? b=some o:=hb
   rw[h1]at h2;rw[<- h2];exact h0
  have hV:∀o0,s.heap.get? b=some o0->b∉qo X.stack->(hideAll s.heap (qo X.stack)).get? b=some o:=fun o0 h0 hn=>PySem.W.hideAll_get _ (old o0 h0) hn
  rcases hr with hr|⟨⟨o0,h0⟩,hf,hbx⟩|⟨⟨y,hy⟩,hf⟩|⟨pp,hp,rfl⟩
  ·cases hu:H b with
   |none=>exact absurd hu hr
   |some u=>
    obtain⟨ob,HA⟩:=(I.hok b u hu).ex
    exact hV ob HA fun z=>by have:=I.stkFree b z;rw[hu]at this;cases this
  ·obtain⟨o1,h1⟩:=I.base.there b o0 h0 hbx
   refine hV o1 h1 fun z=>?_
   rcases aY.mp (I.stkSub b z)with z|z
   ·rw[z]at h0;exact absurd (aL (aK h0) I.ok.above) (da _)
   ·exact hf z
  ·obtain⟨v,ov,hov,_⟩:=I.cell y b hy
   exact hV ov hov hf
  ·obtain⟨p1,p2,p3,p4,_⟩:=I.pin pp hp
   refine hV _ p1 fun z=>?_
   rcases aY.mp (I.stkSub _ z)with z|z
   ·exact p3 z
   ·exact p4 z⟩
theorem bF.unbound{X:Cx}{aj:List (Addr×Obj)}{σ:St}{H:Hp}{s:Shared}{h':Heap}{t' i:Nat}{x:Str}{v:Option Value}{m:Str->Option Value}(I:bF X aj σ H s)(hN:X.N.Nodup)(hi:X.N[i]?=some x)(hn:s.heap.Ns X.env.locals m)
  (Rp:h'.Ns X.env.locals (fun y=>if y=x then v else m y)) (hs:Heap.SameBut X.env.locals s.heap h') (Oi:s.toks<=t':=by first|exact aw _|exact bi _|assumption|omega):bF X aj (σ.set i none) H { s with heap:=h',toks:=t' }:=by
 obtain⟨m0,hn0,hl⟩:=id I.loc
 have em:m0=m:=by
  obtain⟨o,es,ep,a1,a2,a3,a4⟩:=hn0
  obtain⟨o',es',ep',b1,b2,b3,b4⟩:=hn
  rw[a1]at b1;cases b1
  rw[a2]at b2;cases b2
  funext y;rw[<- a4,<- b4]
 subst em
 obtain⟨oL,_,_,hoL,_⟩:=id hn0
 have cne:=I.cne
 refine⟨I.ok,I.os,I.bare,⟨fun b o e n hb hx=>?_,fun b o e n hb hx=>?_,I.base.free,fun b o e hx=>?_,I.base.tups,I.base.frzs,I.base.tbls⟩,⟨_,Rp,fun j y w e1 e2 e3=>?_⟩,fun y c e=>?_,I.free,I.freeC,fun p hp=>?_,fun b ob e=>?_,by simpa using I.len,aL I.pos Oi,aF I.tk Oi⟩
 ·exact(hs.2 b (aZ (aL (aK e) I.ok.above))).trans (I.base.keep b o e n hb hx)
 ·obtain⟨sl,e1⟩:=I.base.slot b o e n hb hx
  exact⟨sl,(hs.2 b (aZ (aL (aK e) I.ok.above))).trans e1⟩
 ·obtain⟨o',e1⟩:=I.base.there b o e hx
  exact⟨o',(hs.2 b (aZ (aL (aK e) I.ok.above))).trans e1⟩
 ·by_cases hj:j=i
  ·subst hj
   by_cases hlt:j<σ.length
   ·rw[bI hlt]at e2;cases e2
   ·rw[bn (by simpa using hlt)]at e2;cases e2
  ·rw[bU (Ne.symm hj)]at e2
   obtain⟨u',r',q⟩:=hl j y w e1 e2 e3
   refine⟨u',r'.up Oi,?_⟩
   rcases q with⟨k,e⟩|⟨k,c,e,z⟩
   ·refine .inl ⟨k,?_⟩
    have:y≠x:=fun e=>hj (tz hN e1 (e▸hi))
    simp[this,e]
   ·exact .inr ⟨k,c,e,z.sameBut hs (cne y c e)⟩
 ·obtain⟨w',z⟩:=I.cell y c e
  exact⟨w',z.sameBut hs (cne y c e)⟩
 ·obtain⟨e,n,ne,nf,d⟩:=I.pin p hp
  exact⟨(hs.2 p.1 ne).trans e,n,ne,nf,d⟩
 ·refine((I.hok b ob e).up Oi).stay (fun c w' hc q=>(hs.2 c ?_).trans q) (fun _ q=>q) fun _ _ q=>q
  rintro rfl
  rcases hc with rfl|hc
  ·rw[I.free]at e;cases e
  ·rw[I.free]at hc;cases hc
theorem sv.lands{X:Cx}{aj:List (Addr×Obj)}{σ:St}{c:Str}{H:Hp}{e:Value}{s:Shared}{Q:Unit->Shared->Prop}{E:Value->Shared->Prop}{M:Model}{outer:List Env}(f:sv X aj σ c H e s)(kU:X.stack=X.env::outer)(xB:X.env.frame=some X.env.locals)(hA:X.A.frames=some X.stack)
  (h:∀x C t B h',e=.ref x->X.mg c=some C->H x=none->Heap.FlyingW B X.stack x C (.ref t) h'->s.heap.UpToSlots h' ->
   (∀b o,s.heap.get? b=some o->(H b≠none\/((∃o0,X.s₀.heap.get? b=some o0)/\b∉X.fs/\b∉X.ex)\/((∃y,X.env.cells.lookup y=some b)/\b∉qo X.stack)\/∃p∈X.pn++aj,p.1=b)->B.get? b=some o)->Q () { s with heap:=h' }) :
  wpAny M X.A (noteFrame e X.env) (fun _ s₂=>wpAny M X.A (setFlight e none) Q E s₂) E s:=by
 obtain⟨x,C,t,B,rfl,hC,hx,st,nx,ff,tr,cov⟩:=f.ex
 rw[kU]at ff hA
 rcases tr with tr|⟨oe,vs,he,rfl,_,hd,h1,h0⟩|⟨L,hL,tr⟩
 ·refine wpAny_looks_onW hA xB ⟨st,nx,ff,tr⟩ fun h1 hh u1=>qZ hh fun h2 fl u2=>?_
  exact h x C t B h2 rfl hC hx (by rw[kU];exact fl) (u1.trans u2) cov
 ·unfold noteFrame
  simp only[xB]
  refine af (gf he hd h1 ?_)
  rw[aN (by decide)]
  refine wpAny_newEntryW hA ff xB he st nx hd (Array.getElem?_eq_some_iff.mp h1).1 h0 fun h' hL=>?_
  obtain⟨k1,k2,k3,k4⟩:=hL
  exact h x _ t B h' rfl hC hx ⟨k1,nx,by rw[kU];exact k2,k3⟩ k4 cov
 ·refine mU hL tr (qZ ⟨st,nx,ff,tr⟩ fun h' fl up=>?_)
  exact h x C t B h' rfl hC hx (by rw[kU];exact fl) up cov
theorem bF.landed{X:Cx}{aj:List (Addr×Obj)}{σ:St}{H:Hp}{s:Shared}{h' B:Heap}{x:Addr}{C:Value}{t:Addr}(I:bF X aj σ H s)(fl:Heap.FlyingW B X.stack x C (.ref t) h')(up:s.heap.UpToSlots h')(kU:X.stack=X.env::X.outer)
  (cov:∀b o,s.heap.get? b=some o->(H b≠none\/((∃o0,X.s₀.heap.get? b=some o0)/\b∉X.fs/\b∉X.ex)\/((∃y,X.env.cells.lookup y=some b)/\b∉qo X.stack)\/∃p∈X.pn++aj,p.1=b)->B.get? b=some o) :
  bF X aj σ H { s with heap:=h' }:=by
 obtain⟨f1,f2,f3,f4⟩:=fl
 obtain⟨m,hn,hl⟩:=id I.loc
 have cellK:∀y c,X.env.cells.lookup y=some c->∀v,s.heap.IsCell c v->h'.IsCell c v:=fun y c e v ⟨o,ho,hd⟩=>by
  by_cases hc:c∈qo X.stack
  ·obtain⟨sl,q⟩:=up c o ho fun vs z=>by rw[hd]at z;cases z
   exact⟨_,q,hd⟩
  ·exact⟨o,f1 c o (cov c o ho (.inr (.inr (.inl ⟨⟨y,e⟩,hc⟩)))),hd⟩
 have frames:∀b∈X.fs,∀o,s.heap.get? b=some o->∃sl,h'.get? b=some { o with slots:=sl }:=fun b hb o ho=>by
  obtain⟨_,o',sN,hd⟩:=I.funs.mem hb
  rw[ho]at sN;cases sN
  exact up b o ho hd
 have kept:∀b o,s.heap.get? b=some o->(∃o0,X.s₀.heap.get? b=some o0)->b∉X.fs->b∉X.ex->h'.get? b=some o:=fun b o ho h0 hb hx=>f1 b o (cov b o ho (.inr (.inl ⟨h0,hb,hx⟩)))
 refine⟨I.ok,I.os,I.bare,⟨fun b o q n hb hx=>kept b o (I.base.keep b o q n hb hx) ⟨o,q⟩ hb hx,fun b o q n hb hx=>?_,I.base.free,fun b o q hx=>?_,I.base.tups,I.base.frzs,I.base.tbls⟩,⟨m,up.ns hn,fun i y v e1 e2 e3=>?_⟩,fun y c e=>?_,I.free,I.freeC,fun p hp=>?_,fun b u hb=>?_,I.len,I.pos,I.tk⟩
 ·obtain⟨sl,q1⟩:=I.base.slot b o q n hb hx
  obtain⟨sl2,q2⟩:=frames b hb _ q1
  exact⟨sl2,q2⟩
 ·obtain⟨o',q1⟩:=I.base.there b o q hx
  by_cases hb:b∈X.fs
  ·obtain⟨sl2,q2⟩:=frames b hb _ q1;exact⟨_,q2⟩
  ·exact⟨o',kept b o' q1 ⟨o,q⟩ hb hx⟩
 ·obtain⟨u,r,lk⟩:=hl i y v e1 e2 e3
  refine⟨u,r,?_⟩
  rcases lk with lk|⟨k,c,e,z⟩
  ·exact .inl lk
  ·exact .inr ⟨k,c,e,cellK y c e _ z⟩
 ·obtain⟨v,z⟩:=I.cell y c e
  exact⟨v,cellK y c e v z⟩
 ·obtain⟨e,n,ne,nf,d⟩:=I.pin p hp
  exact⟨f1 _ _ (cov _ _ e (.inr (.inr (.inr ⟨p,hp,rfl⟩)))),n,ne,nf,d⟩
 ·refine(I.hok b u hb).stay (fun c v hc q=>f1 c v (cov c v q (.inl ?_))) (fun _ q=>q) fun _ _ q=>q
  rcases hc with rfl|hc
  ·rw[hb];simp
  ·rw[hc];simp
abbrev Cx.trying(X:Cx)(pn:List (Addr×Obj))(E:Value->Shared->Prop):Cx:={ X with pn:=pn,xe:=E }
abbrev Cx.within(X:Cx)(v:Value):Cx:={ X with A:=X.A.mark (some v),calm:=false,xe:=fun _ _=>False }
theorem Cx.Ok.trying{X:Cx}(k:X.Ok)(pn:List (Addr×Obj))(E:Value->Shared->Prop):(X.trying pn E).Ok:=⟨k.mod,k.kind,k.glob,k.blt,k.above,k.inj,k.has,k.cab,k.hd,k.frames,k.stk,k.exf,k.bs,k.bsz,k.noex,k.exfs,k.funs,k.frf⟩
theorem Cx.Ok.within{X:Cx}(k:X.Ok)(v:Value):(X.within v).Ok:=⟨k.mod,k.kind,k.glob,k.blt,k.above,k.inj,k.has,k.cab,(fun z=>by cases z),k.frames,k.stk,k.exf,k.bs,k.bsz,k.noex,k.exfs,k.funs,k.frf⟩
section
variable{X:Cx}{aj:List (Addr×Obj)}{σ:St}{H:Hp}{s:Shared}
theorem bF.trying(I:bF X aj σ H s)(E:Value->Shared->Prop):bF (X.trying (X.pn++aj) E) [] σ H s:=⟨I.ok.trying _ _,I.os,I.bare,I.base,I.loc,I.cell,I.free,I.freeC,fun p hp=>I.pin p (by simpa using hp),I.hok,I.len,I.pos,I.tk⟩
theorem bF.tried{E:Value->Shared->Prop}{pins':List (Addr×Obj)}(ok:X.Ok)(I:bF (X.trying (X.pn++aj) E) pins' σ H s):bF X aj σ H s:=⟨ok,I.os,I.bare,I.base,I.loc,I.cell,I.free,I.freeC,fun p hp=>I.pin p (eQ _ hp),I.hok,I.len,I.pos,I.tk⟩
theorem bF.within(I:bF X aj σ H s)(v:Value):bF (X.within v) aj σ H s:=⟨I.ok.within v,I.os,I.bare,I.base,I.loc,I.cell,I.free,I.freeC,I.pin,I.hok,I.len,I.pos,I.tk⟩
theorem bF.out{v:Value}(ok:X.Ok)(I:bF (X.within v) aj σ H s):bF X aj σ H s:=⟨ok,I.os,I.bare,I.base,I.loc,I.cell,I.free,I.freeC,I.pin,I.hok,I.len,I.pos,I.tk⟩
theorem bF.adopt{x:Addr}{ob:HO}(I:bF X aj σ H s)(hx:H x=none)(h0:X.s₀.heap.get? x=none)(hL:x≠X.env.locals)(hc:∀y c,X.env.cells.lookup y=some c->c≠x)(hp:∀p∈X.pn++aj,p.1≠x)(ok:eJ X.prog X.w s.toks (eT H x ob) s.heap x ob):bF X aj σ (eT H x ob) s:=by
 have hs:sR H (eT H x ob):=cQ hx ob
 refine⟨I.ok,I.os,I.bare,⟨I.base.keep,I.base.slot,fun b o q n hb=>?_,I.base.there,fun b xs q=>hs _ _ (I.base.tups b xs q),fun b o u q=>hs _ _ (I.base.frzs b o u q),fun b ps q=>?_⟩,I.loc,I.cell,?_,fun y c e=>?_,fun p h=>?_,fun b u hb=>?_,I.len,I.pos,I.tk⟩
 ·rw[cW (fun z=>by rw[z,h0]at q;cases q)];exact I.base.free b o q n hb
 ·obtain⟨m,e⟩:=I.base.tbls b ps q;exact⟨m,hs _ _ e⟩
 ·rw[cW (Ne.symm hL)];exact I.free
 ·rw[cW (hc y c e)];exact I.freeC y c e
 ·obtain⟨a,b,c,d,e⟩:=I.pin p h;exact⟨a,by rw[cW (hp p h)];exact b,c,d,e⟩
 ·by_cases e:b=x
  ·subst e;rw[gq]at hb;cases hb;exact ok
  ·rw[cW e]at hb
   exact(I.hok b u hb).stay (fun _ _ _ q=>q) (fun c q=>hs _ _ q) fun c xs q=>hs _ _ q
end
theorem ui{M:Model}{A:Around}{E:Value->Shared->Prop}{h:Heap}{g:Array GenState}{d:Drawn}{t:Nat}{os:OsState}{e:Addr}{oe:Obj}{Q:Bool->Shared->Prop}{nm qn Tx TJ:Str}{C N D N':Addr}{bs bm TH RF:List Value}{hdct Lh:Bool}{sn Tt:List Str}{sub Q8:List Value}{ab Tu:Bool}{col Rs:Option Bool}{dd Ln:Option Addr}{k0 k1 k2 k3 k5 j0 j1 j2 j3 j5:Option Value}{on Of:String}
  (hC:h.get? C=some (excClassObj nm qn C N bs bm hdct sn sub ab col dd k0 k1 k2 k3 k5 on)) (hD:h.get? D=some (excClassObj Tx TJ D N' TH RF Lh Tt Q8 Tu Rs Ln j0 j1 j2 j3 j5 Of)) (he:h.get? e=some oe) (He:oe.cls=.ref C) (ja:RF.contains (.type "BaseException")=true)
  {b:Bool} (hb:(Value.ref C::bm).contains (.ref D)=b) (hq:Q b ⟨h,g,d,t,os⟩):wpAny M A (excMatches (.ref e) (.ref D)) Q E ⟨h,g,d,t,os⟩:=by
 have hcB:(Value.ref D::RF).contains (.type "BaseException")=true:=by rw[kO,ja,Bool.or_true]
 have f:=tc_notTuple
 unfold excMatches
 repeat(first|(with_reducible refine eR he ?_;rw[He])|with_reducible refine eR hD ?_|(with_reducible refine h_ hD ?_;rw[hcB])|(with_reducible refine h_ hC ?_;rw[hb])|wp_step)
 cases b<;>(wp_walk;exact hq)
open AutoSeq1 (wpAny_loadPart')
section
variable{X:Cx}
end
section
variable{X:Cx}{a b c e o tg:Expr}{es:List Expr}{pos p p2:Pos}{fa fb fe fo:FE}{fs:FA}
def sD(i:Int)(n:Nat):List W:=(List.range n).map fun k:Nat=>W.int (i-k)
theorem EY(i:Int)(n:Nat)(μ:List Addr)(H:Hp):RelWs X.K μ H (sD i n) (vt i n):=by
 unfold sD vt
 induction (List.range n)with
 |nil=>exact .nilI
 |cons a r ih=>exact .consI .int ih
def uj(fs:FA):FI:=fun ρ st=>(fs ρ st).bind fun ws st=>match ws with
 |[.int i,.int j,.int k]=>if k=-1/\(-(2^60)<=i/\i<2^60/\-(2^60)<=j/\j<2^60)then .ok (sD i (i-j).toNat,none) st else .bad
 |_=>.bad
theorem Jh(hm:X.mg "range"=none)(ha:SA X [a,b,c] fs)(hg:Gl X "range":=by rfl)(hs:starEach [a,b,c] X.env=(false,eval a X.env)::starEach [b,c] X.env:=by rfl)(jG:(backTo pos (starEach [b,c] X.env)).any (·.1)=false:=by rfl) :
  SI X tg (.Call (.Name "range" p) [a,b,c] [] pos) (uj fs):=⟨(wE hm ⟨ha.h⟩ hg hs jG).h.imp fun σ H R h=>by
 obtain⟨μ,ρ,st,l,h⟩:=h
 refine⟨μ,ρ,st,l,RK.bind h l fun μ1 st1 x v H1 p1 x1 l1 q1 h1=>?_⟩
 split at h1
 ·rename_i i j k
  obtain⟨y,ys,rfl,ry,r1⟩:=q1.consE
  obtain⟨z,zs,rfl,rz,r2⟩:=r1.consE
  obtain⟨w,rfl,sd⟩:=r2.one
  split at h1
  ·rename_i cc
   obtain⟨rfl,cc⟩:=cc
   exact⟨_,_,by rw[ry.intE,rz.intE,sd.intE],cc,h1 μ1 _ H1 (al _) eX.refl l1.sto (vA (EY _ _))⟩
  ·exact h1.elim
 ·exact h1.elim⟩
end
def My(i:Nat):RS->RS
 |.nx ρ st=>.nx (ρ.set i none) st
 |.bk ρ st=>.bk (ρ.set i none) st
 |.ct ρ st=>.ct (ρ.set i none) st
 |.rt w st=>.rt w st
 |_=>.bad
def AF(g:FS)(cs:List Str)(i:Nat)(gh:FS):FS:=fun ρ st=>match g ρ st with
 |.ex c ρ' bf=>if c∈cs then My i (gh (ρ'.set i (some (.loc bf.length))) (bf++[.exc c]))else .bad
 |r=>r
structure EZ(K:Frag)(mg:Str->Option Value)(T:Str)(cs:List Str):Prop where
 h:∀c∈cs,∃C Ta,mg c=some (.ref C)/\mg T=some (.ref Ta)/\excIn K C pY qJ=true/\excIn K Ta pY qJ=true/\(AE K C).contains (.ref Ta)=true
theorem mz{K:Frag}{μ:List Addr}{H:Hp}:∀{ρ:b6} {σ:St} (i:Nat),Paired (fun(o:Option W) (s:Option V)=>∀w,o=some w->∃v,s=some v/\bE K μ H w v) ρ σ ->
  Paired (fun(o:Option W) (s:Option V)=>∀w,o=some w->∃v,s=some v/\bE K μ H w v) (ρ.set i none) (σ.set i none)
 |_,_,_,.nil=>.nil
 |_,_,0,.cons a t=>.cons (fun w e=>by cases e) t
 |_,_,i+1,.cons a t=>.cons a (mz i t)
theorem iI.pushE{K:Frag}{mg:Str->Option Value}{μ:List Addr}{st:List ao}{H:Hp}(S:iI K mg μ st H){x:Addr}{c:Str}{C:Value}(hx:H x=none)(hc:mg c=some C):iI K mg (μ++[x]) (st++[.exc c]) (eT H x (tV x C)):=
 S.push (c:=.exc c) hx ⟨C,hc,gq⟩
theorem Mz{X:Cx}{body Lj:List Stmt}{b₀:Stmt}{T n:Str}{i:Nat}{g gh:FS}{cs:List Str}{pos zV np:Pos}(hC:EZ X.K X.mg T cs)(hN:X.N.Nodup)(hi:X.N[i]?=some n)(hx:HP X.env.scope n)
  (hb:∀pn E,SB (X.trying pn E) body g) (hs:∀v,SB (X.within v) (b₀::Lj) gh) (v5:X.ex=[]:=by rfl) (kU:X.stack=X.env::X.outer:=by rfl) (xB:X.env.frame=some X.env.locals:=by rfl) (hk:X.env.kindOf n=some .local:=by rfl) (hg:Gl X T:=by rfl) (hd:(T==("__debug__":Str))=false:=by decide)
  (hf:X.fn n=true\/X.env.scope.names.lookup n=some .local:=by first|exact .inl rfl|exact .inr rfl) :
  SS X (.Try body [.ExceptHandler (some (.Name T np)) (some n) (b₀::Lj) zV] [] [] pos) (AF g cs i gh):=⟨by
 intro aj s σ H D I h
 obtain⟨μ,ρ,st,l,h⟩:=h
 refine wpAny_Try_except ?_
 refine iQ ((hb (X.pn++aj) _).h [] s σ H D (I.trying _) ⟨μ,ρ,st,⟨l.env,l.sto⟩,?_⟩) (fun f s1 q=>?_) (fun _ _ q=>q)
 ·unfold AF at h
  cases e:g ρ st with
  |nx ρ' bf=>rw[e]at h;exact fun μ' σ' H' p x r=>h μ' σ' H' p x ⟨r.env,r.sto⟩
  |bk ρ' bf=>rw[e]at h;exact fun μ' σ' H' p x r=>h μ' σ' H' p x ⟨r.env,r.sto⟩
  |ct ρ' bf=>rw[e]at h;exact fun μ' σ' H' p x r=>h μ' σ' H' p x ⟨r.env,r.sto⟩
  |rt w bf=>rw[e]at h;exact h
  |bad=>rw[e]at h;exact h
  |ex c ρ' bf=>
   rw[e]at h
   intro pins' μ' σ' H' ev s' pp xx r f
   dsimp only at h
   split at h
   ·rename_i hc
    obtain⟨Ca,Ta,m1,m2,q1,q2,hsub⟩:=hC.h c hc
    have I0:=f.inv
    refine f.lands kU xB I.ok.frames fun ex C t B h' he hCc hxn fl up cov=>?_
    subst he
    obtain rfl:C=.ref Ca:=by have:=hCc.symm.trans m1;exact bc this
    have I1:=I0.landed fl up kU cov
    have I2:bF X aj σ' H' { s' with heap:=h' }:=bF.tried I.ok I1
    obtain⟨oe,vs,_,_,_,HZ,⟨He,_⟩,hdat,_⟩:=fl.2.2.2
    have cov2:∀b o,h'.get? b=some o->(H' b≠none\/((∃o0,X.s₀.heap.get? b=some o0)/\b∉X.fs/\b∉X.ex)\/((∃y,X.env.cells.lookup y=some b)/\b∉qo X.stack)\/∃p∈X.pn++aj,p.1=b)->B.get? b=some o:=by
     intro b o hbo hr
     have hV:∀o1,s'.heap.get? b=some o1->(H' b≠none\/((∃o0,X.s₀.heap.get? b=some o0)/\b∉X.fs/\b∉X.ex)\/((∃y,X.env.cells.lookup y=some b)/\b∉qo X.stack)\/∃p∈(X.pn++aj)++pins',p.1=b)->B.get? b=some o:=fun o1 h1 hr=>by
      have h2:=cov b o1 h1 hr
      have h3:=fl.1 b o1 h2
      rw[h3]at hbo;cases hbo;exact h2
     rcases hr with hr|⟨⟨o0,h0⟩,hbf,hbx⟩|⟨⟨y,hy⟩,hbf⟩|⟨p,hp,rfl⟩
     ·cases hu:H' b with
      |none=>exact absurd hu hr
      |some u=>obtain⟨ob,HA⟩:=(I0.hok b u hu).ex;exact hV ob HA (.inl hr)
     ·obtain⟨o1,h1⟩:=I0.base.there b o0 h0 hbx
      exact hV o1 h1 (.inr (.inl ⟨⟨o0,h0⟩,hbf,hbx⟩))
     ·obtain⟨v,ov,hov,_⟩:=I0.cell y b hy
      exact hV ov hov (.inr (.inr (.inl ⟨⟨y,hy⟩,hbf⟩)))
     ·obtain⟨p1,_⟩:=I0.pin p (eQ _ hp)
      exact hV _ p1 (.inr (.inr (.inr ⟨p,eQ _ hp,rfl⟩)))
    have noB:∀o,B.get? ex=some o->False:=fun o z=>by have:=fl.2.1;rw[z]at this;cases this
    obtain⟨bm,N,nm,qn,bs,hdct,sn,sub,ab,col,dd,k0,k1,k2,k3,k5,mN,g1,g2,g3,g4,g5⟩:=oQ I2.kIn q1
    obtain⟨RF,N',Tx,TJ,TH,Lh,Tt,Q8,Tu,Rs,Ln,j0,j1,j2,j3,j5,mN',g1',g2',g3',g4',g5'⟩:=oQ I2.kIn q2
    refine wpAny_handleBy_cons (codeAny_handlers_test ?_) (by intro z;cases z)
    refine s9 (X:=X.within (.ref ex)) (I2.within _) hg m2 ?_ hd
    refine ui g1 g1' HZ He (g4'.hasType F.excBase_ValueError.hasBase) (b:=true) (by rw[<- g5];exact hsub) ?_
    refine codeAny_handlers_suite_as ?_
    refine lands_againW fl fun h2 fl2 up2=>?_
    have I3:bF X aj σ' H' { s' with heap:=h2 }:=I2.landed fl2 up2 kU cov2
    obtain⟨oe2,vs2,_,_,_,heo2,⟨hcls2,_⟩,hdat2,_⟩:=fl2.2.2.2
    have I4:bF X aj σ' (eT H' ex (tV ex (.ref Ca))) { s' with heap:=h2 }:=by
     refine I3.adopt hxn ?_ ?_ ?_ ?_ ?_
     ·cases h0:X.s₀.heap.get? ex with
      |none=>rfl
      |some o0=>
       exfalso
       by_cases hfs:ex∈X.fs
       ·obtain⟨_,o',sN,hd'⟩:=I3.funs.mem hfs
        have sN:h2.get? ex=some o':=sN
        rw[heo2]at sN;cases sN
        exact hd' _ hdat2
       ·exact noB _ (cov2 ex oe HZ (.inr (.inl ⟨⟨o0,h0⟩,hfs,by rw[v5];simp⟩)))
     ·rintro rfl
      obtain⟨m,⟨o,es,ep,a1,a2,_⟩,_⟩:=I3.loc
      have a1:h2.get? _=some o:=a1
      rw[heo2]at a1;cases a1
      rw[hdat2]at a2;cases a2
     ·rintro y c' hy rfl
      obtain⟨v,o,a1,a2⟩:=I3.cell y _ hy
      have a1:h2.get? _=some o:=a1
      rw[heo2]at a1;cases a1
      rw[hdat2]at a2;cases a2
     ·rintro p hp rfl
      exact noB _ (cov2 p.1 oe HZ (.inr (.inr (.inr ⟨p,hp,rfl⟩))))
     ·refine⟨⟨oe2,vs2,heo2,hcls2,hdat2⟩,⟨oe2,heo2⟩,?_⟩
      rintro ha hb' ⟨o,vs,z1,z2,z3⟩ keep
      exact⟨o,vs,keep o z1,z2,z3⟩
    have hxt:eX X.K H' (eT H' ex (tV ex (.ref Ca))):=gK.same (cQ hxn _)
    refine tD (X:=X.within (.ref ex)) (I4.within _) hN hi hx (v:=.ref ex) rfl (fun s5 I5=>?_) hf
    have S4:iI X.K X.mg (μ'++[ex]) (bf++[.exc c]) (eT H' ex (tV ex (.ref Ca))):=iI.pushE r.sto hxn m1
    have L4:Rl (X.within (.ref ex)) (μ'++[ex]) (ρ'.set i (some (.loc bf.length))) (bf++[.exc c]) (σ'.set i (some (.ref ex))) (eT H' ex (tV ex (.ref Ca))):=
     ⟨qy (mx r.sto) i (rA (bJ _ _) hxt r.env),S4⟩
    have pm:μ <+: μ'++[ex]:=pp.trans (bJ _ _)
    have xm:eX X.K H (eT H' ex (tV ex (.ref Ca))):=xx.trans hxt
    have hp:(X.env.scope.kind==.class||(X.env.scope.kind==.module&&X.env.locals != X.env.globals))=false:=by rw[I.ok.kind];rfl
    refine iQ ((hs (.ref ex)).h aj s5 _ _ { nx:=fun σ H=>D.nx (σ.set i none) H,rt:=D.rt,bk:=fun σ H=>D.bk (σ.set i none) H,ct:=fun σ H=>D.ct (σ.set i none) H } I5 ⟨μ'++[ex],_,_,L4,?_⟩) (fun f6 s6 q=>?_) (fun _ _ z=>z.elim)
    ·cases e2:gh (ρ'.set i (some (.loc bf.length))) (bf++[.exc c])with
     |nx ρ2 cN=>rw[e2]at h;exact fun μ3 σ3 H3 p3 x3 r3=>h μ3 (σ3.set i none) H3 (pm.trans p3) (xm.trans x3) ⟨mz i r3.env,r3.sto⟩
     |bk ρ2 cN=>rw[e2]at h;exact fun μ3 σ3 H3 p3 x3 r3=>h μ3 (σ3.set i none) H3 (pm.trans p3) (xm.trans x3) ⟨mz i r3.env,r3.sto⟩
     |ct ρ2 cN=>rw[e2]at h;exact fun μ3 σ3 H3 p3 x3 r3=>h μ3 (σ3.set i none) H3 (pm.trans p3) (xm.trans x3) ⟨mz i r3.env,r3.sto⟩
     |rt w cN=>rw[e2]at h;exact fun μ3 v H3 p3 x3 S3 r3=>h μ3 v H3 (pm.trans p3) (xm.trans x3) S3 r3
     |ex c2 ρ2 cN=>rw[e2]at h;exact h.elim
     |bad=>rw[e2]at h;exact h.elim
    ·cases f6 with
     |next=>
      obtain⟨σ6,H6,I6,q⟩:=q
      have I6':bF X aj σ6 H6 s6:=bF.out I.ok I6
      obtain⟨m,hn,hl⟩:=id I6'.loc
      exact gQ hk hn hp fun h7 v hn7 hs7=>⟨_,H6,I6'.unbound hN hi hn hn7 hs7,q⟩
     |brk=>
      obtain⟨σ6,H6,I6,q⟩:=q
      have I6':bF X aj σ6 H6 s6:=bF.out I.ok I6
      obtain⟨m,hn,hl⟩:=id I6'.loc
      exact gQ hk hn hp fun h7 v hn7 hs7=>⟨_,H6,I6'.unbound hN hi hn hn7 hs7,q⟩
     |cont=>
      obtain⟨σ6,H6,I6,q⟩:=q
      have I6':bF X aj σ6 H6 s6:=bF.out I.ok I6
      obtain⟨m,hn,hl⟩:=id I6'.loc
      exact gQ hk hn hp fun h7 v hn7 hs7=>⟨_,H6,I6'.unbound hN hi hn hn7 hs7,q⟩
     |ret u=>
      obtain⟨v6,σ6,H6,I6,rr,q⟩:=q
      have I6':bF X aj σ6 H6 s6:=bF.out I.ok I6
      obtain⟨m,hn,hl⟩:=id I6'.loc
      exact gQ hk hn hp fun h7 v hn7 hs7=>⟨v6,_,H6,I6'.unbound hN hi hn hn7 hs7,rr.up (bi _),q⟩
   ·exact h.elim
 ·cases f with
  |next=>
   obtain⟨σ',H',I',q⟩:=q
   exact iB ⟨σ',H',bF.tried I.ok I',q⟩
  |brk=>obtain⟨σ',H',I',q⟩:=q;exact⟨σ',H',bF.tried I.ok I',q⟩
  |cont=>obtain⟨σ',H',I',q⟩:=q;exact⟨σ',H',bF.tried I.ok I',q⟩
  |ret u=>obtain⟨v,σ',H',I',rr,q⟩:=q;exact⟨v,σ',H',bF.tried I.ok I',rr,q⟩⟩
section
variable{prog:Program}{w:World}{A:Around}{E:Value->Shared->Prop}{h:Heap}{g:Array GenState}{d:Drawn}{t:Nat}{os:OsState}{a:Addr}{o:Obj}
 {nm q:Str} {C N:Addr} {bs bm:List Value} {hdct:Bool} {sn:List Str} {sub:List Value} {ab:Bool} {col:Option Bool} {dd:Option Addr} {k0 k1 k2 k3 k5:Option Value} {on:String} {K:Frag}
theorem MA{R:Result->Shared->Prop}(hC:h.get? C=some (excClassObj nm q C N bs bm hdct sn sub ab col dd k0 k1 k2 k3 k5 on))(T:OwnTail h pY bm)(hx:h.get? a=some o)(hc:o.cls=.ref C)(hq:R (.ok (.ret (.ref C))) ⟨h,g,d,t,os⟩) :
  codeAny (model prog w) A (.call (.builtin "getset_descriptor.__get__") ⟨[.builtin "object.__class__",.ref a,.ref C],[]⟩) R ⟨h,g,d,t,os⟩:=by
 have hT5:(⟨h,g,d,t,os⟩:Shared).TypeIs (.builtin "object.__class__") "getset_descriptor":=jq
 have hcB:(Value.ref C::bm).contains (.type (".".intercalate ("object.__class__".cutAt '.').dropLast))=true:=by
  rw[F.owner_object_class,kO,T.hasType (X:="object") (b:=true) (by decide)]
  rfl
 refine jJ F.slot_gs_get.plain F.entry_gs_get (F.slot_gs_get.check _ _ _ _ _ _ _ _ hT5 (F.args_gs_get _ _ _) ?_)
 repeat(any_goals (first|assumption|(with_reducible refine eR hx ?_;rw[hc])|(with_reducible refine h_ hC ?_;rw[hcB])|wp_step))
 refine⟨Code.quiet_builtin _ (by decide +kernel),cT F.entry_object_class ?_⟩
 repeat(any_goals (first|assumption|(with_reducible refine eR hx ?_;rw[hc])|wp_step))
theorem wN{Q:Option Value->Shared->Prop}{x:Str}{r:Option Value}(X:K.In h)(f:findIn K (.ref C) x=some r)(hq:Q r ⟨h,g,d,t,os⟩):wpAny (model prog w) A (typeLookup (.ref C) x) Q E ⟨h,g,d,t,os⟩:=
 PySem.W.looks_findIn X f A Q E _ (fun _ _ z=>z) hq
theorem E0{tk:Tok}{Q:Fin->Shared->Prop}(X:K.In h)(f2:findIn K (.ref C) "__class__"=some (some (.builtin "object.__class__")))(hC:h.get? C=some (excClassObj nm q C N bs bm hdct sn sub ab col dd k0 k1 k2 k3 k5 on))(T:OwnTail h pY bm)(hx:h.get? a=some o)(hc:o.cls=.ref C)
  (hq:Q (.done (.ret (.ref C))) ⟨h,g,d,t,os⟩):wpAny (model prog w) A (Builtin.«object.__getattribute__» ⟨[.ref a,.str "__class__" tk],[]⟩) Q E ⟨h,g,d,t,os⟩:=by
 have hT5:(⟨h,g,d,t,os⟩:Shared).TypeIs (.builtin "object.__class__") "getset_descriptor":=jq
 have f5:=jq
 have f6:=F.slot_gs_get.lookup
 have f7:=F.slot_gs_set.lookup
 repeat(any_goals (first|assumption|(with_reducible refine eR hx ?_;rw[hc])|with_reducible refine wN X f2 ?_|wp_step))
 refine MA hC T hx hc ?_
 repeat(any_goals (first|assumption|wp_step))
theorem E1{M:Model}{v:Value}{Q:Unit->Shared->Prop}(hC:h.get? C=some (excClassObj nm q C N bs bm hdct sn sub ab col dd k0 k1 k2 k3 k5 on))(T:OwnTail h pY bm)(hx:h.get? a=some o)(hc:o.cls=.ref C)(hq:Q () ⟨h,g,d,t,os⟩) :
  wpAny M A (checkBuiltinCall "BaseException.__getattribute__" ⟨[.ref a,v],[]⟩) Q E ⟨h,g,d,t,os⟩:=by
 have hcB:(Value.ref C::bm).contains (.type "BaseException")=true:=by
  rw[kO,T.hasType (X:="BaseException") (b:=true) (by decide)]
  rfl
 have ha:=F.args_bexc_ga (.ref a) v
 have kd:builtinKind "BaseException.__getattribute__"=some .slot:=by decide +kernel
 have sp:splitId "BaseException.__getattribute__"=some ("BaseException","__getattribute__"):=by decide +kernel
 simp only[checkBuiltinCall,kd,sp]
 refine af ?_
 unfold isInstance
 repeat(first|(with_reducible refine eR hx ?_;rw[hc])|(with_reducible refine h_ hC ?_;rw[hcB])|wp_step)
 exact hq
theorem Ji{tk:Tok}{R:Result->Shared->Prop}(X:K.In h)(f2:findIn K (.ref C) "__class__"=some (some (.builtin "object.__class__")))(hC:h.get? C=some (excClassObj nm q C N bs bm hdct sn sub ab col dd k0 k1 k2 k3 k5 on))(T:OwnTail h pY bm)(hx:h.get? a=some o)(hc:o.cls=.ref C)
  (hq:R (.ok (.ret (.ref C))) ⟨h,g,d,t,os⟩):codeAny (model prog w) A (.call (.builtin "BaseException.__getattribute__") ⟨[.ref a,.str "__class__" tk],[]⟩) R ⟨h,g,d,t,os⟩:=
 jJ F.attrBase_ValueError.ga.plain F.entry_bexc_ga (E1 hC T hx hc (E0 X f2 hC T hx hc hq))
theorem P4{tk:Tok}{Q:Value->Shared->Prop}(X:K.In h)(f1:findIn K (.ref C) "__getattribute__"=some (some (.builtin "BaseException.__getattribute__")))(f3:findIn K (.ref C) "__getattr__"=some none)(f2:findIn K (.ref C) "__class__"=some (some (.builtin "object.__class__")))
  (hC:h.get? C=some (excClassObj nm q C N bs bm hdct sn sub ab col dd k0 k1 k2 k3 k5 on)) (T:OwnTail h pY bm) (hx:h.get? a=some o) (hc:o.cls=.ref C) (hq:Q (.ref C) ⟨h,g,d,t,os⟩) :
  wpAny (model prog w) A (getAttrBy (.ref a) (.str "__class__" tk) false) Q E ⟨h,g,d,t,os⟩:=by
 have f4:=F.attrBase_ValueError.ga.bind (.ref a)
 have hx2:(Value.builtin "BaseException.__getattribute__" == Value.builtin "object.__getattribute__")=false:=by decide +kernel
 have hx1:(onTheHeap (Value.ref C)&&Value.builtin "BaseException.__getattribute__" == Value.builtin "object.__getattribute__")=false:=by rw[hx2];rfl
 repeat(any_goals (first|assumption|(with_reducible refine eR hx ?_;rw[hc])|with_reducible refine wN X f1 ?_|with_reducible refine wN X f3 ?_|wp_step))
 refine Ji X f2 hC T hx hc ?_
 repeat(any_goals (first|assumption|wp_step))
theorem Jj{Q:Option Value->Shared->Prop}(X:K.In h)(f1:findIn K (.ref C) "__getattribute__"=some (some (.builtin "BaseException.__getattribute__")))(f3:findIn K (.ref C) "__getattr__"=some none)(f2:findIn K (.ref C) "__class__"=some (some (.builtin "object.__class__")))
  (hC:h.get? C=some (excClassObj nm q C N bs bm hdct sn sub ab col dd k0 k1 k2 k3 k5 on)) (T:OwnTail h pY bm) (hx:h.get? a=some o) (hc:o.cls=.ref C) (hq:Q (some (.ref C)) ⟨h,g,d,t+1,os⟩) :
  wpAny (model prog w) A (getAttr? (.ref a) "__class__") Q E ⟨h,g,d,t,os⟩:=by
 unfold getAttr? getAttrBy?
 repeat(any_goals (first|assumption|with_reducible apply P4 X f1 f3 f2 hC T hx hc|wp_step))
end
end L2
namespace L2
variable{nk:Nat}
open PySem PySem.Spec PyProof.Rows
structure E2(K:Frag)(C:Addr):Prop where
 ga:findIn K (.ref C) "__getattribute__"=some (some (.builtin "BaseException.__getattribute__"))
 gt:findIn K (.ref C) "__getattr__"=some none
 cl:findIn K (.ref C) "__class__"=some (some (.builtin "object.__class__"))
theorem yx{K:Frag}{x C:Addr}(q:excIn K C pY qJ=true)(n:E2 K C):PySem.W.KitX K (.ref x) (.ref C) (fun h=>∃o,h.get? x=some o/\o.cls=.ref C) where
 ty:=fun M h X ⟨o,h1,h2⟩ A Q E s k z=>by
  unfold typeOf
  refine af (wpAny_loadPart (k _ _ h1) ?_)
  rw[h2]
  exact ay z
 it:=fun M h X _ A Q E s k z=>by
  obtain⟨bm,N,nm,qn,bs,hdct,sn,sub,ab,col,dd,k0,k1,k2,k3,k5,mN,g1,_⟩:=oQ X q
  unfold isType loadHead
  exact af (wpAny_loadPart (k _ _ g1) (ay z))
 ne:=fun h tp dd bN m sl X htp=>by
  obtain⟨bm,N,nm,qn,bs,hdct,sn,sub,ab,col,Ln,k0,k1,k2,k3,k5,mN,g1,_⟩:=oQ X q
  refine Bool.eq_false_iff.mpr fun z=>?_
  have e:C=tp:=Value.ref.inj (eD.mp z)
  subst e
  rw[g1]at htp
  have z2:(Value.type "type")=.type "tuple":=ir Obj.cls (bc htp)
  exact absurd z2 (by decide)
 ca:=fun{prog w A E Q s} X p z=>by
  obtain⟨o,h1,h2⟩:=p
  obtain⟨bm,N,nm,qn,bs,hdct,sn,sub,ab,col,dd,k0,k1,k2,k3,k5,mN,g1,g2,g3,g4,g5⟩:=oQ X q
  obtain⟨h,g,d,t,os⟩:=s
  exact Jj X n.ga n.gt n.cl g1 g4 h1 h2 z
structure E3(K:Frag)(mg:Str->Option Value)(T:Value)(f:Str->Option Bool):Prop where
 h:∀c b,f c=some b->∃C,mg c=some (.ref C)/\excIn K C pY qJ=true/\E2 K C/\kitOne K (.ref C) T=some b
theorem vC{X:Cx}{T:V}{Tv:Value}(hT:∀(nk:Nat) (u:Value),cO nk T u->u=Tv){f:Str->Option Bool}(hI:E3 X.K X.mg Tv f) :
  i4 X (.builtin "isinstance") (fun xs H Q=>∃x μ st n c b,xs=[x,T]/\iI X.K X.mg μ st H/\bE X.K μ H (.loc n) x/\st[n]?=some (.exc c)/\f c=some b/\Q (.bl b) H):=by
 intro aj s σ H xs us Q I r h
 obtain⟨x,μ,st,n,c,b,rfl,S,rx,hn,hf,q⟩:=h
 obtain⟨u,u2,rfl,r1,r2⟩:=cJ.two r
 obtain rfl:=hT _ u2 r2
 obtain⟨C,hm,hq,hnm,hk⟩:=hI.h c b hf
 obtain⟨a,ha,C',hm',hH⟩:=S.get hn
 obtain⟨a',ha',rfl⟩:=rx.locE
 rw[ha]at ha';cases ha'
 rw[hm]at hm';cases hm'
 cases(show u=Value.ref a from r1)
 obtain⟨⟨o,vs,h1,h2,h3⟩,_⟩:=I.hok a _ hH
 exact up (kia_one (yx hq hnm) I.kIn ⟨o,h1,h2⟩ hk (fun z=>nomatch z) fun tk hk=>⟨.bl _,H,I.tok tk,rfl,q⟩)
def wO(f:Str->Option Bool)(fa:FE):FE:=fun ρ st=>(fa ρ st).bind fun x st=>match x with
 |.loc n=>(match st[n]? with
  |some (.exc c)=>(match f c with
   |some b=>.ok (.bl b) st
   |none=>.bad)
  |_=>.bad)
 |_=>.bad
section
variable{X:Cx}{a:Expr}{pos p p2:Pos}{fa:FE}
theorem E4{T:V}{f:Str->Option Bool}{t:TE}{e:Expr}(h:PE X e t)(hi:∀σ H Q,(tE X fa) σ H (fun x H1=>∃x' μ st n c b,([x,T]:List V)=[x',T]/\iI X.K X.mg μ st H1/\bE X.K μ H1 (.loc n) x'/\st[n]?=some (.exc c)/\f c=some b/\Q (.bl b) H1)->t σ H Q):SE X e (wO f fa):=⟨h.imp fun σ H Q z=>by
 refine hi σ H Q ?_
 obtain⟨μ,ρ,st,l,z⟩:=z
 refine⟨μ,ρ,st,l,RK.bind z l fun μ1 st1 x v H1 p1 x1 l1 q1 h1=>?_⟩
 split at h1
 ·rename_i n
  split at h1
  ·rename_i c e1
   split at h1
   ·rename_i b e2
    exact⟨v,μ1,st1,n,c,b,rfl,l1.sto,q1,e1,e2,h1 μ1 _ H1 (al _) eX.refl l1.sto .bl⟩
   ·exact h1.elim
  ·exact h1.elim
 ·exact h1.elim⟩
theorem P5{xT:Str}{Ta:Addr}{f:Str->Option Bool}(hm:X.mg "isinstance"=none)(hT:X.mg xT=some (.ref Ta))(hI:E3 X.K X.mg (.ref Ta) f)(ha:SE X a fa)(hg:Gl X "isinstance":=by rfl)(Re:Gl X xT:=by rfl)(hd:(xT==("__debug__":Str))=false:=by decide)
  (he:starEach [a,.Name xT p2] X.env=(false,eval a X.env)::starEach [.Name xT p2] X.env:=by rfl) (DW:starEach [.Name xT p2] X.env=(false,eval (.Name xT p2) X.env)::starEach [] X.env:=by rfl) (jG:(backTo pos (starEach [.Name xT p2] X.env)).any (·.1)=false:=by rfl) :
  SE X (.Call (.Name "isinstance" p) [a,.Name xT p2] [] pos) (wO f fa):=
 E4 (T:=.ref Ta) (nE (vC (T:=.ref Ta) (Tv:=.ref Ta) (fun _ _ r=>r) hI) hg hm iE (iw ha.h (iw (wj Re hT (v:=.ref Ta) rfl hd) nD DW) he) (by decide) (by decide) he jG) fun _ _ _ z=>z
theorem P6{xT:Str}{T:String}{f:Str->Option Bool}(hm:X.mg "isinstance"=none)(hT:X.mg xT=none)(hv:bootBuiltins xT=some (.type T))(hI:E3 X.K X.mg (.type T) f)(ha:SE X a fa)(hg:Gl X "isinstance":=by rfl)(Re:Gl X xT:=by rfl)(hn:xT ≠ "__name__":=by decide)(hd:(xT==("__debug__":Str))=false:=by decide)
  (he:starEach [a,.Name xT p2] X.env=(false,eval a X.env)::starEach [.Name xT p2] X.env:=by rfl) (DW:starEach [.Name xT p2] X.env=(false,eval (.Name xT p2) X.env)::starEach [] X.env:=by rfl) (jG:(backTo pos (starEach [.Name xT p2] X.env)).any (·.1)=false:=by rfl) :
  SE X (.Call (.Name "isinstance" p) [a,.Name xT p2] [] pos) (wO f fa):=
 E4 (T:=.ty T) (nE (vC (T:=.ty T) (Tv:=.type T) (fun _ _ r=>r) hI) hg hm iE (iw ha.h (iw (Bz Re hT hv (v:=.ty T) rfl hn hd) nD DW) he) (by decide) (by decide) he jG) fun _ _ _ z=>z
end
end L2
namespace L2
variable{nk:Nat}
open PySem PySem.Spec PyProof.Rows
inductive P7(X:Cx):List Expr->List Addr->Prop
 |nil:P7 X [] []
 |cons {x:Str} {p:Pos} {C:Addr} {es:List Expr} {cs:List Addr}:X.mg x=some (.ref C)->Gl X x->(x==("__debug__":Str))=false->P7 X es cs->P7 X (.Name x p::es) (C::cs)
def TX(vs:List V):TA:=fun _ H Q=>Q vs H
theorem MB{X:Cx}{es:List Expr}{cs:List Addr}(h:P7 X es cs):PA X es (TX (cs.map V.ref)):=by
 induction h with
 |nil=>exact nD
 |cons hm hg hd _ ih=>exact(iw (wj hg hm (v:=.ref _) rfl hd) ih rfl).imp fun _ _ _ z=>z
structure E5(K:Frag)(mg:Str->Option Value)(Cs:List Addr)(f:Str->Option Bool):Prop where
 h:∀c b,f c=some b->∃C,mg c=some (.ref C)/\excIn K C pY qJ=true/\E2 K C/\kitAny K (.ref C) (Cs.map Value.ref)=some b
theorem vD:∀{Cs:List Addr} {us:List Value},cJ nk (Cs.map V.ref) us->us=Cs.map Value.ref
 |[],us,r=>by cases r;rfl
 |C::Cs,us,r=>by
  cases r with
  |cons a t=>rw[vD t,show _=Value.ref C from a];rfl
theorem Du{X:Cx}{Cs:List Addr}{f:Str->Option Bool}(hI:E5 X.K X.mg Cs f) :
  i4 X (.builtin "isinstance") (fun xs H Q=>∃x tp μ st n c b,xs=[x,.ref tp]/\iI X.K X.mg μ st H/\bE X.K μ H (.loc n) x/\st[n]?=some (.exc c)/\f c=some b/\gK X.K H tp (Cs.map V.ref)/\Q (.bl b) H):=by
 intro aj s σ H xs us Q I r h
 obtain⟨x,tp,μ,st,n,c,b,rfl,S,rx,hn,hf,hS,q⟩:=h
 obtain⟨u,u2,rfl,r1,r2⟩:=cJ.two r
 cases(show u2=Value.ref tp from r2)
 obtain⟨C,hm,hq,hnm,hk⟩:=hI.h c b hf
 obtain⟨a,ha,C',hm',hH⟩:=S.get hn
 obtain⟨a',ha',rfl⟩:=rx.locE
 rw[ha]at ha';cases ha'
 rw[hm]at hm';cases hm'
 cases(show u=Value.ref a from r1)
 obtain⟨⟨o,vs,h1,h2,h3⟩,_⟩:=I.hok a _ hH
 obtain⟨bN,rt,⟨ot,e2,hc,n2,hd⟩,z2⟩:=I.tuple hS
 have hits:=vD rt
 subst hits
 obtain⟨cls,dd,data,sl⟩:=ot
 dsimp only at hc hd
 subst hc hd
 exact up (PySem.W.kia_tup (yx hq hnm) I.kIn ⟨o,h1,h2⟩ e2 hk (fun z=>nomatch z) fun tk Oi=>⟨.bl _,H,I.tok tk,rfl,q⟩)
section
variable{X:Cx}{a:Expr}{pos p p2:Pos}{fa:FE}{es:List Expr}{k:Nat}
theorem MC{Cs:List Addr}{f:Str->Option Bool}(hm:X.mg "isinstance"=none)(hT:P7 X es Cs)(hI:E5 X.K X.mg Cs f)(hz:Cs.length<=sizeLine)(ha:SE X a fa)(hg:Gl X "isinstance":=by rfl)
  (he:starEach [a,.Tuple es k p2] X.env=(false,eval a X.env)::starEach [.Tuple es k p2] X.env:=by rfl) (DW:starEach [.Tuple es k p2] X.env=(false,eval (.Tuple es k p2) X.env)::starEach [] X.env:=by rfl) (jG:(backTo pos (starEach [.Tuple es k p2] X.env)).any (·.1)=false:=by rfl) :
  SE X (.Call (.Name "isinstance" p) [a,.Tuple es k p2] [] pos) (wO f fa):=⟨(nE (Du hI) hg hm iE (iw ha.h (iw (BM (MB hT)) nD DW) he) (by decide) (by decide) he jG).imp fun σ H Q h=>by
 obtain⟨μ,ρ,st,l,h⟩:=h
 refine⟨μ,ρ,st,l,RK.bind h l fun μ1 st1 x v H1 p1 x1 l1 q1 h1=>?_⟩
 split at h1
 ·rename_i n
  split at h1
  ·rename_i c e1
   split at h1
   ·rename_i b e2
    refine⟨by rw[aC];exact hz,fun tp H2 hp e=>?_⟩
    subst e
    have xx:eX X.K H1 (eT H1 tp (.tup (Cs.map V.ref))):=gK.same (cQ hp _)
    exact⟨v,tp,μ1,st1,n,c,b,rfl,l1.sto.same (cQ hp _),q1.mono (al _) xx,e1,e2,gK.new,h1 μ1 _ _ (al _) xx (l1.sto.same (cQ hp _)) .bl⟩
   ·exact h1.elim
  ·exact h1.elim
 ·exact h1.elim⟩
end
end L2
namespace L2
open PySem PySem.Spec PyProof.Rows
section
variable{X:Cx}
end
section
variable{X:Cx}
theorem uk{α:Type}(l:List α):∀(k:Nat) (gG:List α),List.foldl (fun x1 x2=>x1++x2) gG.toArray (List.replicate k l.toArray)=(gG++(List.replicate k l).flatten).toArray
 |0,gG=>by simp
 |k+1,gG=>by
  have e:gG.toArray++l.toArray=(gG++l).toArray:=by simp
  rw[List.replicate_succ,List.foldl_cons,e,uk l k (gG++l),List.replicate_succ,lv,bb]
theorem MD(l:List Nat)(n:Int):Txt.mul (tx l) n=tx (List.replicate n.toNat l).flatten:=by
 unfold Txt.mul
 by_cases h:n<1
 ·rw[aE h,show n.toNat=0 by omega];rfl
 ·rw[aN h]
  split
  ·rename_i hc
   rw[dS,eD,eD,iH]at hc
   rcases hc with rfl|hc
   ·simp
   ·have:l=[]:=List.length_eq_zero_iff.mp hc
    subst this
    simp
  ·have:=uk l n.toNat []
   rw[iF]at this
   show Str.mk _=Str.mk _
   congr 1
theorem Jk:lX X (binaryOp .Mult) (fun x y H Q=>∃(l:List Nat) (k:Int),x=.str (tx l)/\y=.int k/\-(2^62)<=k/\k<2^62/\l.length*k.toNat<=1000000/\l.length*k.toNat≠1/\Q (.str (tx (List.replicate k.toNat l).flatten)) H):=by
 intro aj s σ H x y v u Q I rx ry h
 obtain⟨l,k,rfl,rfl,h1,h2,h3,h31,q⟩:=h
 obtain⟨t,rfl⟩:=rx
 obtain⟨t',rfl⟩:=ry
 refine up (SB.mul ⟨?_,?_,?_⟩ fun t2 tk hk=>⟨.str _,H,I.tok _,⟨⟨t2,fun e=>absurd e ?_⟩,?_⟩,q⟩)
 ·simp;omega
 ·intro hk hx
  rw[iH]
  intro hg
  have hk1:1<=k:=by omega
  have:k*((2^63-1)/k)<=2^63-1:=Int.mul_ediv_self_le (by omega)
  have h4:(2^63-1)<k*(l.length:Int):=by
   have:=Int.lt_mul_of_ediv_lt (a:=2^63-1) (b:=(l.length:Int)) (c:=k) (by omega) hg
   rw[Int.mul_comm];exact this
  have h5:k*(l.length:Int)=((l.length*k.toNat:Nat):Int):=by
   rw[no,Int.toNat_of_nonneg (by omega),Int.mul_comm]
  rw[h5]at h4
  omega
 ·intro hk hx
  rw[iH]
  unfold Builtin.Str.tooLong
  rw[az]
  have:(1000000:Nat)<=sizeLine:=by decide
  omega
 ·rw[iH];simpa[mV]using h31
 ·rw[MD]
def iV:W->W->List ao->R W
 |.int i,.int j,st=>if EM i j then .ok (.int (i*j)) st else .bad
 |.str l,.int k,st=>if -(2^62)<=k/\k<2^62/\l.length*k.toNat<=jY/\l.length*k.toNat≠1 then .ok (.str (List.replicate k.toNat l).flatten) st else .bad
 |_,_,_=>.bad
theorem iN:rh X (binaryOp .Mult) iV:=⟨fun aj s σ H x y v u Q I rv ru ⟨μ,st,wx,wy,S,rx,ry,q⟩=>by
 cases wx with
 |int i=>
  cases wy with
  |int j=>
   have q':DV X μ H Q (PJ (.int i) (.int j) st):=q
   exact PL.h aj s σ H x y v u Q I rv ru ⟨μ,st,.int i,.int j,S,rx,ry,q'⟩
  |_=>exact q.elim
 |str l=>
  cases wy with
  |int k=>
   simp only[iV]at q
   split at q
   ·rename_i cc
    exact Jk aj s σ H x y v u Q I rv ru ⟨l,k,rx.strE,ry.intE,cc.1,cc.2.1,cc.2.2.1,cc.2.2.2,qC S q⟩
   ·exact q.elim
  |_=>exact q.elim
 |_=>cases wy<;>exact q.elim,fun x y st=>by
 unfold iV
 repeat' split
 all_goals trivial⟩
end
section
variable{X:Cx}
variable{e:Expr}{es:List Expr}{pos p:Pos}{x:Str}{fs:FA}
end
section
variable{prog:Program}{w:World}{A:Around}{E:Value->Shared->Prop}{s:Shared}
theorem ul:∀(l:List Nat) (vs:List Value),vs.length=l.length->(∀(j:Nat) (v:Value),vs[j]?=some v->∃c u,l[j]?=some c/\v=.str (tx [c]) u)->StrsAre vs (l.map fun c=>tx [c])
 |[],[],_,_=>.nil
 |c::l,v::vs,hl,h=>by
  obtain⟨d,u,e,rfl⟩:=h 0 v rfl
  cases e
  exact .cons _ _ (ul l vs (Nat.succ.inj hl) fun j v hj=>h (j+1) v hj)
 |[],_::_,hl,_=>nomatch hl
 |_::_,[],hl,_=>nomatch hl
abbrev ME(gG:Array Value)(c:Nat):Obj:={ cls:=.type "list",data:=.seq gG c }
theorem E6{R:Result->Shared->Prop}{I:Addr}{fp wr:List Addr}{n n0:Nat}{P:Nat->Value->Prop}{St:Nat->Heap->Prop}(W:Walks prog w A.in1 I fp wr n P St)(few:n<=sizeLine)(D:Addr)(hD:D∉fp)(res:Value)
  (zx:∀i (s:Shared) (Q:Option Value->Shared->Prop) (E:Value->Shared->Prop),n0<=s.toks->i<n->St i s.heap ->
   (∀v h' tk,s.toks<=tk->ig tk [v]->P i v->St (i+1) h'->(∀b o,b∉wr->s.heap.get? b=some o->h'.get? b=some o)->Q (some v) { s with heap:=h',toks:=tk })->wpAny (model prog w) A.in1 (pyNext (.ref I)) Q E s) :
  ∀(m i:Nat) (z:Shared) (CJ:Array Value) (c:Nat),i+m=n->n0<=z.toks->St i z.heap->z.heap.get? D=some (ME CJ c)->ItemsOf P CJ i->ig z.toks CJ.toList ->
   (∀g tk got' c',z.toks<=tk->(∀b o,b≠D->b∉wr->z.heap.get? b=some o->g.get? b=some o)->g.get? D=some (ME got' c')->ItemsOf P got' n->ig tk got'.toList->R (.ok (.ret res)) { z with heap:=g,toks:=tk }) ->
   codeAny (model prog w) A (.builtin "list.extend.loop" ⟨[.ref D,.ref I,res],[]⟩) R z:=by
 have nw:D∉wr:=fun h=>hD (W.sub _ h)
 intro m
 induction m with
 |zero=>
  intro i z CJ c e hn0 st hd ac ta q
  obtain rfl:i=n:=e
  refine cT PySem.F.entry_extend_loop ?_
  rw[cI PySem.F.plain_extend_loop _]
  show wpAny _ A.in1 (pyNext (.ref I) >>= _) _ _ z
  exact af (up (W.done z _ _ st fun g tk kp hW=>ay (q g tk CJ c hW (fun b o _ hb h=>kp b o hb h) (kp D _ nw hd) ac (ta.up hW))))
 |succ m ih=>
  intro i z CJ c e hn0 st hd ac ta q
  refine cT PySem.F.entry_extend_loop ?_
  rw[cI PySem.F.plain_extend_loop _]
  show wpAny _ A.in1 (pyNext (.ref I) >>= _) _ _ z
  refine af (zx i z _ _ hn0 (by omega) st fun v g tk hW tv hP bf kp=>?_)
  have hd':=kp D _ nw hd
  show wpAny _ A.in1 (updateSeq D (·.push v) >>= _) _ _ _
  refine af (nn hd' rfl (ay ⟨eF PySem.F.plain_extend_loop _,ih (i+1) _ (CJ.push v) _ (by omega) (aF hn0 hW) (W.frame _ _ _ bf fun b hb o h=>?_) (dw _ hd' rfl) (ac.push hP) (fun x t hx=>?_) fun g2 tk2 got2 c2 hle2 kp2 hd2 ac2 ta2=>?_⟩)
   (by rw[ac.1];omega) (by show(CJ.push v).size<=sizeLine+1;rw[Array.size_push,ac.1];omega))
  ·exact(cG _ _ (fun h:D=b=>hD (by rw[h];exact hb))).trans h
  ·rw[lu,bj]at hx
   rcases hx with hx|hx
   ·exact ta.up hW x t hx
   ·exact tv x t hx
  ·exact q g2 tk2 got2 c2 (aF hW hle2) (fun b o hb hw h=>kp2 b o hb hw ((cG _ _ (Ne.symm hb)).trans (kp b o hw h))) hd2 ac2 ta2
theorem wP{l:List Nat}{t:Tok}{Q:List Value->Shared->Prop}(zV:0<s.toks)(hh:A.handled=none)(few:l.length<=sizeLine)
  (q:∀g tk (CJ:Array Value),s.toks<=tk->(∀b o,s.heap.get? b=some o->g.get? b=some o)->ItemsOf (SignAt (tx l)) CJ (tx l).cps.size->ig tk CJ.toList->Q CJ.toList { s with heap:=g,toks:=tk }):wpAny (model prog w) A (collect (.str (tx l) t)) Q E s:=by
 have hn:(tx l).cps.size=l.length:=by simp[tx]
 unfold collect
 refine af (oB (cT entry_proto_collect' ?_))
 rw[cI PySem.F.plain_proto_collect _]
 show wpAny _ A.in1 (newList [] >>= fun d=>again (.builtin "list.__iadd__" ⟨[d,.str (tx l) t],[]⟩)) _ _ s
 refine af (ce (ay ⟨eF PySem.F.plain_list_iadd _,cT entry_list_iadd' ?_⟩))
 rw[cI PySem.F.plain_list_iadd _]
 show wpAny _ A.in1 (Builtin.List.listExtendWith (.ref s.heap.objs.size) (.str (tx l) t) (.ref s.heap.objs.size)) _ _ _
 unfold Builtin.List.listExtendWith
 refine af (gn (T:="str") (v:=.str (tx l) t) rfl ?_)
 have e1:Builtin.List.listSameRef (.ref s.heap.objs.size) (.str (tx l) t)=false:=rfl
 have e2:(Value.type "str" == Value.type "list")=false:=by decide
 have e3:(Value.type "str" == Value.type "tuple")=false:=by decide
 simp only[e1,e2,e3,lS,gl,iu]
 generalize hL:s.heap.objs.size=L
 have gL:(s.heap.push { cls:=.type "list",data:=.seq ([]:List Value).toArray }).get? L=some (ME #[] 0):=by rw[<- hL];exact aI _ rfl
 have z1:(s.heap.push { cls:=.type "list",data:=.seq ([]:List Value).toArray }).objs.size=L+1:=by rw[bZ,hL]
 have kp1:∀b o,s.heap.get? b=some o->(s.heap.push { cls:=.type "list",data:=.seq ([]:List Value).toArray }).get? b=some o:=fun b o e=>ar _ e
 generalize s.heap.push { cls:=.type "list",data:=.seq ([]:List Value).toArray }=g1 at gL z1 kp1 ⊢
 have hV:∀(ob:Obj) (ty:String),(∀A:Around,A.handled=none->Walks prog w A (L+1) [L+1] [L+1] (tx l).cps.size (SignAt (tx l)) (fun i h=>h.IsStrIter (L+1) ty (tx l) t i))->(g1.push ob).IsStrIter (L+1) ty (tx l) t 0 ->
   (∀{A:Around} {s:Shared} {i c:Nat} {Q:Option Value->Shared->Prop} {E:Value->Shared->Prop},s.heap.IsStrIter (L+1) ty (tx l) t i->(tx l).cps[i]?=some c ->
    (∀h',h'.IsStrIter (L+1) ty (tx l) t (i+1)->Heap.SameBut (L+1) s.heap h'->Q (some (.str ⟨#[c]⟩ s.toks)) { s with heap:=h',toks:=s.toks+1 })->wpAny (model prog w) A (pyNext (.ref (L+1))) Q E s) ->
   codeAny (model prog w) A (.builtin "list.extend.loop" ⟨[.ref L,.ref (L+1),.ref L],[]⟩) (wants (fun r s'=>wpAny (model prog w) A (match r with|.ref a=>(do match (<- load a).data with|.seq xs _=>pure xs.toList|_=>unsupported "internal:collect")|_=>unsupported "internal:collect") Q E s') E) { s with heap:=g1.push ob }:=fun ob ty W h0 next=>by
  refine E6 (n0:=s.toks) (W A.in1 (by simpa using hh)) (by rw[hn];exact few) L (by simp) (.ref L) (fun i s' Q E hn0 hi st q=>?_) (tx l).cps.size 0 _ #[] 0 (by omega) (aw _) h0 (ar _ gL) (ItemsOf.nil _) (fun x u hx=>by simp at hx) fun g tk CJ c hW kp hd ac ta=>?_
  ·obtain⟨c,hx⟩:∃c,(tx l).cps[i]?=some c:=⟨_,dW hi⟩
   refine next st hx fun h' bf hs=>q _ h' (s'.toks+1) (bi _) (fun x u hx' _=>?_) ⟨c,_,hx,rfl⟩ bf fun b o hb e=>hs.extBut b o (fun z=>hb (by simp[z])) e
   rw[aV]at hx'
   cases hx'
   exact⟨aL zV hn0,cy _⟩
  ·refine af (wpAny_load hd (ay (q g tk CJ hW (fun b o e=>kp b o ?_ ?_ (ar _ (kp1 b o e))) ac ta)))
   ·rw[<- hL];exact aZ (aK e)
   ·intro hm
    rw[aV]at hm
    have:=aK e
    rw[hL,hm]at this
    have this:L+1<L:=this
    omega
 have hint:∀(s':Shared) (Q':Bool->Shared->Prop) (E':Value->Shared->Prop),Q' false s'->wpAny (model prog w) A.in1 (Builtin.List.listLengthHint (.str (tx l) t)) Q' E' s':=fun s' Q' E' y=>by
  unfold Builtin.List.listLengthHint
  refine af (ni (T:="str") (v:=.str (tx l) t) rfl PySem.F.str_len ?_)
  wp_delta
  refine af (f_ (T:="str") (v:=.str (tx l) t) (b:=true) rfl (by rw[dz];kernel_rfl) ?_)
  show wpAny _ A.in1 (typeOf (Value.str (tx l) t) >>= _) _ _ _
  exact af (gn (T:="str") (v:=.str (tx l) t) rfl (ay y))
 have key:∀(ob:Obj),codeAny (model prog w) A (.builtin "list.extend.loop" ⟨[.ref L,.ref (L+1),.ref L],[]⟩) (wants (fun r s'=>wpAny (model prog w) A (match r with|.ref a=>(do match (<- load a).data with|.seq xs _=>pure xs.toList|_=>unsupported "internal:collect")|_=>unsupported "internal:collect") Q E s') E) { s with heap:=g1.push ob }->_:=fun ob h=>h
 cases ha:(tx l).cps.all (· < 128)
 ·refine af (lr ha (af (db (hint _ _ _ ?_))))
  show wpAny _ _ _ _ _ _
  rw[show Shared.heap { s with heap:=g1 }=g1 from rfl,z1]
  rw[aN (by decide)]
  exact ay ⟨eF PySem.F.plain_extend_loop _,hV _ "str_iterator" (fun A hA=>Walks.strWide hA _ (tx l) t) ⟨_,by rw[<- z1];exact aI _ rfl,rfl,rfl⟩ fun a b c=>jc a b c⟩
 ·refine af (kK ha (af (db (hint _ _ _ ?_))))
  rw[show Shared.heap { s with heap:=g1 }=g1 from rfl,z1]
  rw[aN (by decide)]
  exact ay ⟨eF PySem.F.plain_extend_loop _,hV _ "str_ascii_iterator" (fun A hA=>Walks.strAscii hA _ (tx l) t) ⟨_,by rw[<- z1];exact aI _ rfl,rfl,rfl⟩ fun a b c=>iZ a b c⟩
theorem yy{l:List Nat}{t:Tok}{Q:Value->Shared->Prop}(zV:0<s.toks)(few:l.length<64)(hh:A.handled=none)
  (q:∀(s1:Shared) (g1:Heap) (out:Array Value) (ss:List Str) (e:Nat),(∀b o,s.heap.get? b=some o->s1.heap.get? b=some o)->s1.gens=s.gens->s1.drawn=s.drawn->s1.os=s.os->(∀b o,s1.heap.get? b=some o->g1.get? b=some o)->g1.get? s1.heap.objs.size=some (seqObj "list" out e) ->
   s.toks<=s1.toks->ig s1.toks out.toList->StrsAre out.toList ss->ss.Perm (l.map fun c=>tx [c])->sortedS ss=true->Q (.ref s1.heap.objs.size) { s1 with heap:=g1 }):wpAny (model prog w) A (call (.builtin "sorted") [.str (tx l) t]) Q E s:=by
 have hn:(tx l).cps.size=l.length:=by simp[tx]
 apply kX kind_sorted plain_sorted entry_sorted (args_sorted1 _)
 show wpAny _ _ (checkCount "sorted" 1 1 _ >>= _) _ _ _
 refine af (ay (af (wP zV (by simpa using hh) (by rw[lj];omega) (fun g tk gG hW kp ha ta=>?_))))
 generalize hs1:({ s with heap:=g,toks:=tk }:Shared)=s1
 have eg:s1.gens=s.gens:=by rw[<- hs1]
 have ed:s1.drawn=s.drawn:=by rw[<- hs1]
 have eo:s1.os=s.os:=by rw[<- hs1]
 have kp:∀b o,s.heap.get? b=some o->s1.heap.get? b=some o:=by rw[<- hs1];exact kp
 have hW:s.toks<=s1.toks:=by rw[<- hs1];exact hW
 have ta:ig s1.toks gG.toList:=by rw[<- hs1];exact ta
 have kU:StrsAre gG.toList (l.map fun c=>tx [c]):=by
  refine ul l _ (by rw[dP,ha.1,hn]) fun j v hj=>?_
  obtain⟨c,u,hc,e⟩:=ha.2 j v (by simpa using hj)
  exact⟨c,u,by simpa[tx]using hc,e⟩
 have hvl:gG.toList.length<64:=by rw[dP,ha.1,hn];exact few
 refine af (wpAny_newList ?_ (by rw[lj];omega))
 have oL:(s1.heap.push (seqObj "list" gG.toList.toArray 0)).get? s1.heap.objs.size=some (seqObj "list" gG.toList.toArray 0):=aI _ rfl
 refine af (db (cC slot_list_sort ⟨_,oL,rfl⟩ entry_list_sort (list_sort_treeK pN oL kU.keysOf (fun a b r e=>qY (by rw[<- e];exact kU)) hvl fun st a1 a2=>⟨_,rfl,?_⟩) (args_list_sort _)))
 obtain⟨ss,h1,h2,h3⟩:=oy kU a1 a2
 obtain⟨e,he⟩:=sortedHeap_at (out:=(arrOf st).map (·.2)) oL
 refine ay ⟨_,rfl,q s1 _ _ ss e kp eg ed eo (fun b o hb=>?_) he hW (ta.sub (tQ a1)) h1 h2 h3⟩
 rw[sortedHeap_old (aZ (aK hb)) (by rw[bZ];exact cP (aK hb))]
 exact ar _ hb
end
section
variable{X:Cx}
def rL(ws:List W)(st:List ao):R W:=match ws with
 |[.str l]=>if l.length<64 then .ok (.loc st.length) (st++[.lst ((la (l.map fun c=>[c])).map W.str)])else .bad
 |[.loc n]=>oP [.loc n] st
 |_=>.bad
theorem Jl(hc:X.calm=true:=by rfl):qE X (.builtin "sorted") rL:=⟨fun aj s σ H vs us Q I rv ⟨μ,st,ws,S,r,q⟩=>by
 unfold rL at q
 split at q
 ·rename_i l
  split at q
  ·rename_i c
   obtain⟨y,rfl,ry⟩:=r.one
   have:=ry.strE;subst this
   obtain⟨u,rfl,ru⟩:=nC rv
   obtain⟨t,rfl⟩:=ru
   refine yy I.pos c (I.ok.hd hc) fun s1 g1 out ss e kp eg ed eo k1 gL hW ta kU hp hsr=>?_
   have es:s1={ s with heap:=s1.heap,toks:=s1.toks }:=by cases s1;cases s;cases eg;cases ed;cases eo;rfl
   generalize s1.heap=g0,s1.toks=tk at es kp k1 gL hW ta ⊢
   subst es
   have I2:bF X aj σ H { s with heap:=g0,toks:=tk }:=I.kept2 (d':=s.drawn) fun b o e=>kp b o e
   have xB:H g0.objs.size=none:=I2.hok.fresh (aw _)
   have hmap:(ss.map fun z=>z.cps.toList).map tx=ss:=by
    rw[bA]
    have:(tx∘fun z:Str=>z.cps.toList)=id:=funext fun z=>BN z
    rw[this,jI]
   have hperm:(ss.map fun z=>z.cps.toList).Perm (l.map fun c=>[c]):=by
    have e:=hp.map fun z:Str=>z.cps.toList
    rw[bA]at e
    exact e
   have ez:(ss.map fun z=>z.cps.toList)=la (l.map fun c=>[c]):=wK (ug (by rw[hmap];exact hsr)) (yt _) (hperm.trans (iM _).symm)
   have hvals:cJ tk ((la (l.map fun c=>[c])).map fun l=>V.str (tx l)) out.toList:=by
    have e:=ms kU ta
    rw[<- hmap,ez,bA]at e
    exact e
   refine⟨.ref g0.objs.size,_,I2.laid (o:=.lst ((la (l.map fun c=>[c])).map fun l=>V.str (tx l))) (t':=tk) k1 (aw _) ⟨?_,out.toList,e,hvals,gL⟩,rfl,?_⟩
   ·rw[aC,(iM _).length_eq,aC]
    exact aF (fI c) (by decide)
   ·exact q (μ++[g0.objs.size]) _ _ (bJ _ _) (gK.same (cQ xB _)) (S.newLst xB (yu _)) (mx S)
  ·exact q.elim
 ·exact yv.h aj s σ H _ us Q I rv ⟨μ,st,_,S,r,q⟩
 ·exact q.elim,fun ws st=>by
 unfold rL
 split
 ·split<;>trivial
 ·exact(yv (X:=X)).n _ _
 ·trivial⟩
end
section
variable{X:Cx}{a b c tg:Expr}{fs:FA}{p pos:Pos}
end
section
variable{X:Cx}{qe tg dL:Expr}{ml:List Expr}{scope:Scope}{pos:Pos}{nm:List Str}{cap:List (Option Nat)}{fi:FI}{f:FG}{t:FT}{el:FE}
end
section
variable{prog:Program}{w:World}{A:Around}{E:Value->Shared->Prop}{s:Shared}
variable{z P O i j a b:Addr}{n m:Nat}{xs ys:Array Value}{x y u v:Value}
end
open AutoSeq1 (wpAny_loadPart')
section
variable{prog:Program}{w:World}{A:Around}{E:Value->Shared->Prop}{s:Shared}
end
section
variable{X:Cx}{a b:Expr}{fs:FA}{p pos:Pos}
end
open Builtin.Str (tooLong)
section
variable{prog:Program}{w:World}{A:Around}{E:Value->Shared->Prop}{s:Shared}
end
section
variable{X:Cx}
end
section
variable{X:Cx}
end
end L2
namespace L2
variable{nk:Nat}
open PySem PySem.Spec PyProof.Rows
section
variable{X:Cx}
end
end L2
namespace L2
variable{nk:Nat}
open PySem PySem.Spec PyProof.Rows
end L2
namespace L2
variable{nk:Nat}
open PySem PySem.Spec PyProof.Rows
abbrev P8:=List W×List (Nat×List W)
abbrev TY:=b6->List ao->R P8
section
variable{X:Cx}{qe tg dL:Expr}{ml:List Expr}{scope:Scope}{pos:Pos}{nm:List Str}{cap:List (Option Nat)}{fi:TY}{f:FG}{t:FT}{el:FE}{m:Nat}
end
section
variable{X:Cx}{a b:Expr}{fs:FA}{p pos:Pos}
end
end L2
namespace L2
open PySem PySem.Spec PyProof.Rows
section
variable{X:Cx}
end
end L2
namespace L2
variable{nk:Nat}
open PySem PySem.Spec PyProof.Rows
section
variable{X:Cx}{qe tg dL:Expr}{scope:Scope}{pos:Pos}{nm:List Str}{wi:TI}{g:TG}{te:Cx->TE}
def noB(sn:List (Str×NameKind)):Bool:=sn.all fun x=>!(x.2==.cell)&&!(x.2==.free)&&(!(x.2==.local)||sn.lookup x.1==some .local)
end
section
variable{X:Cx}{qe tg dL:Expr}{scope:Scope}{pos:Pos}{nm:List Str}{fi:FI}{f:FG}{el:FE}
end
end L2
namespace L2
variable{nk:Nat}
open PySem PySem.Spec PyProof.Rows
theorem DK.key_inj{a b:DK}:a.key=b.key↔a=b:=by
 cases a<;>cases b<;>simp[DK.key,wz]
def pA:W->Option DK
 |.int z=>some (.i z)
 |.str l=>some (.s l)
 |_=>none
theorem wQ{K:Frag}{μ:List Addr}{H:Hp}{w:W}{k:DK}{v:V}(h:pA w=some k)(r:bE K μ H w v):v=kV k.key:=by
 cases w with
 |int z=>cases h;exact r.intE
 |str l=>cases h;exact r.strE
 |_=>cases h
def ko(kvs:List (DK×W))(k:DK):Option W:=(kvs.find? fun p=>decide (p.1=k)).map fun p=>p.2
def j6(kvs:List (DK×W))(k:DK)(v:W):List (DK×W):=if (kvs.any fun p=>decide (p.1=k))=true then kvs.map fun p=>if p.1=k then(p.1,v)else p else kvs++[(k,v)]
abbrev dV(kvs:List (DK×W))(vs:List V):List (jF×V):=(kvs.map fun p=>p.1.key).zip vs
section
variable{K:Frag}{μ:List Addr}{H:Hp}
theorem AG:∀{kvs:List (DK×W)} {vs:List V} (k:DK),RelWs K μ H (kvs.map fun p=>p.2) vs->(∃w v,ko kvs k=some w/\nF (dV kvs vs) k.key=some v/\bE K μ H w v)\/(ko kvs k=none/\nF (dV kvs vs) k.key=none)
 |[],vs,k,r=>.inr ⟨rfl,rfl⟩
 |p::kvs,vs,k,r=>by
  obtain⟨x,xs,rfl,a,b⟩:=RelWs.consE r
  have ih:=AG (kvs:=kvs) k b
  by_cases h:p.1=k
  ·refine .inl ⟨p.2,x,?_,?_,a⟩
   ·unfold ko;rw[df];simp[h]
   ·show nF ((p.1.key,x)::dV kvs xs) k.key=some x
    exact qr (by rw[h])
  ·have e1:ko (p::kvs) k=ko kvs k:=by unfold ko;rw[df];simp[h]
   have e2:nF (dV (p::kvs) (x::xs)) k.key=nF (dV kvs xs) k.key:=qt (p:=(p.1.key,x)) fun z=>h (DK.key_inj.mp z)
   rw[e1,e2];exact ih
theorem E7:∀{kvs:List (DK×W)} {vs:List V} (k:DK),RelWs K μ H (kvs.map fun p=>p.2) vs->((dV kvs vs).any fun kv=>decide (kv.1=k.key))=(kvs.any fun p=>decide (p.1=k))
 |[],vs,k,r=>rfl
 |p::kvs,vs,k,r=>by
  obtain⟨x,xs,rfl,a,b⟩:=RelWs.consE r
  show(decide (p.1.key=k.key)||(dV kvs xs).any _)=(decide (p.1=k)||kvs.any _)
  rw[E7 k b]
  congr 1
  rw[decide_eq_decide];exact DK.key_inj
theorem E8{k:DK}{w:W}{v:V}:∀{kvs:List (DK×W)} {vs:List V},RelWs K μ H (kvs.map fun p=>p.2) vs->bE K μ H w v->∃us,(dV kvs vs).map (fun kv=>if kv.1=k.key then(kv.1,v)else kv)=dV (kvs.map fun p=>if p.1=k then(p.1,w)else p) us/\RelWs K μ H ((kvs.map fun p=>if p.1=k then(p.1,w)else p).map fun p=>p.2) us
 |[],vs,r,sd=>⟨[],rfl,.nilI⟩
 |p::kvs,vs,r,sd=>by
  obtain⟨x,xs,rfl,a,b⟩:=RelWs.consE r
  obtain⟨us,e,q⟩:=E8 (k:=k) b sd
  by_cases h:p.1=k
  ·refine⟨v::us,?_,?_⟩
   ·show(if p.1.key=k.key then(p.1.key,v)else(p.1.key,x))::(dV kvs xs).map _=_
    rw[aE (by rw[h]),e,bh,aE h];rfl
   ·rw[bh,aE h];exact .consI sd q
  ·refine⟨x::us,?_,?_⟩
   ·show(if p.1.key=k.key then(p.1.key,v)else(p.1.key,x))::(dV kvs xs).map _=_
    rw[aN (fun z=>h (DK.key_inj.mp z)),e,bh,aN h];rfl
   ·rw[bh,aN h];exact .consI a q
theorem MF{kvs:List (DK×W)}{vs:List V}{k:DK}{w:W}{v:V}(r:RelWs K μ H (kvs.map fun p=>p.2) vs)(sd:bE K μ H w v):∃us,rl (dV kvs vs) k.key v=dV (j6 kvs k w) us/\RelWs K μ H ((j6 kvs k w).map fun p=>p.2) us:=by
 unfold rl j6
 rw[E7 k r]
 by_cases h:(kvs.any fun p=>decide (p.1=k))=true
 ·rw[aE h,aE h]
  exact E8 r sd
 ·rw[aN h,aN h]
  refine⟨vs++[v],?_,?_⟩
  ·unfold dV
   rw[cE,List.zip_append (by rw[aC,<- r.len,aC])];rfl
  ·rw[cE];exact r.app (.consI sd .nilI)
theorem MG{kvs:List (DK×W)}{vs:List V}(r:RelWs K μ H (kvs.map fun p=>p.2) vs):(dV kvs vs).length=kvs.length:=by
 unfold dV;rw[List.length_zip,aC,<- r.len,aC,Nat.min_self]
theorem gK.butD{l:Addr}{xs:List (jF×V)}{H':Hp}(e:Sa l H H')(hl:H l=some (.dK xs)):eX K H H':=by
 have uN:∀{p:Addr} {o:HO},H p=some o->(∀zs,o≠.dK zs)->p≠l:=fun{p o} q hn z=>by subst z;rw[hl]at q;cases q;exact hn _ rfl
 refine⟨fun p ys h=>?_,fun b o u h=>e _ _ (uN h (fun _ z=>by cases z)) h⟩
 rcases h with(h|⟨o,h⟩)|h
 ·exact .inl (.inl (e _ _ (uN h (fun _ z=>by cases z)) h))
 ·exact .inl (.inr ⟨o,e _ _ (uN h (fun _ z=>by cases z)) h⟩)
 ·exact .inr h
end
theorem iI.setD{K:Frag}{mg:Str->Option Value}{μ:List Addr}{st:List ao}{H:Hp}(S:iI K mg μ st H){n:Nat}{a:Addr}{kvs N_:List (DK×W)}{xs:List (jF×V)}{us:List V}(hn:st[n]?=some (.dct kvs))(hm:μ[n]?=some a)(ha:H a=some (.dK xs))(hr:RelWs K μ H (N_.map fun p=>p.2) us) :
  iI K mg μ (st.set n (.dct N_)) (eT H a (.dK (dV N_ us))):=
 S.setG hn rfl hm ha (fun _ _ z=>by cases z) (fun _ z=>by cases z) (gK.butD mv ha) rfl ⟨us,gq,hr.mono (al _) (gK.butD mv ha)⟩
def jT(st:List ao):W->Option (Nat×List (DK×W))
 |.loc n=>(match st[n]? with
  |some (.dct kvs)=>some (n,kvs)
  |some (.rod kvs)=>some (n,kvs)
  |_=>none)
 |_=>none
def yz(st:List ao):W->Option (Nat×List (DK×W))
 |.loc n=>(match st[n]? with
  |some (.dct kvs)=>some (n,kvs)
  |_=>none)
 |_=>none
theorem qK{K:Frag}{mg:Str->Option Value}{μ:List Addr}{st:List ao}{H:Hp}(S:iI K mg μ st H){x:W}{v:V}{n:Nat}{kvs:List (DK×W)}(h:jT st x=some (n,kvs))(r:bE K μ H x v) :
  ∃a vs,(st[n]?=some (.dct kvs)\/st[n]?=some (.rod kvs))/\μ[n]?=some a/\v=.ref a/\Rd H a (.dK (dV kvs vs))/\RelWs K μ H (kvs.map fun p=>p.2) vs:=by
 cases x with
 |loc m=>
  simp only[jT]at h
  cases e:st[m]? with
  |none=>rw[e]at h;cases h
  |some c=>
   rw[e]at h
   cases c with
   |dct z=>
    cases h
    obtain⟨a,g,vs,k,rr⟩:=S.get e
    obtain⟨b,f,rfl⟩:=r.locE
    rw[g]at f;cases f
    exact⟨a,vs,.inl e,g,rfl,.inl k,rr⟩
   |rod z=>
    cases h
    obtain⟨a,g,vs,o,k,rr⟩:=S.get e
    obtain⟨b,f,rfl⟩:=r.locE
    rw[g]at f;cases f
    exact⟨a,vs,.inr e,g,rfl,.inr ⟨o,k⟩,rr⟩
   |_=>cases h
 |_=>cases h
theorem Jm{K:Frag}{mg:Str->Option Value}{μ:List Addr}{st:List ao}{H:Hp}(S:iI K mg μ st H){x:W}{v:V}{n:Nat}{kvs:List (DK×W)}(h:yz st x=some (n,kvs))(r:bE K μ H x v) :
  ∃a vs,st[n]?=some (.dct kvs)/\μ[n]?=some a/\v=.ref a/\H a=some (.dK (dV kvs vs))/\RelWs K μ H (kvs.map fun p=>p.2) vs:=by
 cases x with
 |loc m=>
  simp only[yz]at h
  cases e:st[m]? with
  |none=>rw[e]at h;cases h
  |some c=>
   rw[e]at h
   cases c with
   |dct z=>
    cases h
    obtain⟨a,g,vs,k,rr⟩:=S.get e
    obtain⟨b,f,rfl⟩:=r.locE
    rw[g]at f;cases f
    exact⟨a,vs,e,g,rfl,k,rr⟩
   |_=>cases h
 |_=>cases h
theorem xW.r{H:Hp}{a:Addr}{kvs:List (jF×V)}{k:jF}(e:Rd H a (.dK kvs)):xW H a (kV k) (nF kvs k):=.inl ⟨kvs,k,e,rfl,rfl⟩
section
variable{X:Cx}{a b c d e o i:Expr}{es:List Expr}{pos p p2 iP gc du:Pos}{x name:Str}{fa fb fc fe fo fi:FE}{fs:FA}{kk:Nat}
def Dv(neg:Bool)(x y:W)(st:List ao):R W:=match jT st y with
 |some (_,kvs)=>(match pA x with
  |some k=>.ok (.bl (if neg then !(ko kvs k).isSome else(ko kvs k).isSome)) st
  |none=>.bad)
 |none=>sV neg x y st
theorem Dw{K:Frag}{μ:List Addr}{H:Hp}{kvs:List (DK×W)}{vs:List V}{k:DK}(r:RelWs K μ H (kvs.map fun p=>p.2) vs):(nF (dV kvs vs) k.key).isSome=(ko kvs k).isSome:=by
 rcases AG k r with⟨w,v,e1,e2,_⟩|⟨e1,e2⟩<;>rw[e1,e2]<;>rfl
theorem P9(hr:js kk X.A)(ho:rh X (compareOp .In) (sV false)):rh X (compareOp .In) (Dv false):=⟨fun aj s σ H x y v u Q I rv ru ⟨μ,st,wx,wy,S,rx,ry,q⟩=>by
 unfold Dv at q
 cases e:jT st wy with
 |none=>rw[e]at q;exact ho.h aj s σ H x y v u Q I rv ru ⟨μ,st,wx,wy,S,rx,ry,q⟩
 |some nk=>
  obtain⟨n,kvs⟩:=nk
  rw[e]at q
  cases ek:pA wx with
  |none=>simp only[ek]at q;exact q.elim
  |some k=>
   simp only[ek]at q
   obtain⟨a,vs,_,_,rfl,ha,r⟩:=qK S e ry
   have:=wQ ek rx
   subst this
   obtain rfl:u=Value.ref a:=ru
   refine R7 (Ei hr) I (xW.r ha) rv fun s' I'=>?_
   rw[Dw r]
   exact⟨.bl _,H,I',rfl,lH S q⟩,fun x y st=>by
 unfold Dv
 split
 ·split<;>trivial
 ·exact ho.n x y st⟩
def l6(x i v:W)(st:List ao):Option (List ao):=match yz st x,pA i with
 |some (n,kvs),some k=>if kvs.length<jY then some (st.set n (.dct (j6 kvs k v)))else none
 |_,_=>none
theorem AH(hr:js kk X.A):CY X (ER X l6):=fun aj s σ H o i v ov iv u Q I r1 r2 r3 ⟨μ,st,wo,wi,wv,bf,S,ro,ri,rv,e,q⟩=>by
 unfold l6 at e
 cases e1:yz st wo with
 |none=>rw[e1]at e;cases e
 |some nk=>
  obtain⟨n,kvs⟩:=nk
  cases e2:pA wi with
  |none=>rw[e1,e2]at e;cases e
  |some k=>
   rw[e1,e2]at e
   simp only at e
   split at e
   ·rename_i hl
    cases e
    obtain⟨a,vs,hn,hm,rfl,ha,r⟩:=Jm S e1 ro
    have:=wQ e2 ri
    subst this
    obtain rfl:ov=Value.ref a:=r1
    obtain⟨us,g1,g2⟩:=MF (k:=k) r rv
    refine Da (Ei hr) I (IF.k ha (by rw[MG r];exact aL hl (by decide))) r2 r3 fun s' I'=>⟨_,I',?_⟩
    rw[g1]
    exact q _ (gK.butD mv ha) (S.setD hn hm ha g2)
   ·cases e
def E9:FE:=fun _ st=>.ok (.loc st.length) (st++[.dct []])
theorem E_:SE X (.Dict [] [] pos) E9:=⟨El.imp fun σ H Q h=>by
 obtain⟨μ,ρ,st,l,h⟩:=h
 intro p hp
 have hs:sR H (eT H p (.dK [])):=cQ hp _
 exact h (μ++[p]) (.ref p) _ (bJ _ _) (gK.same hs) (l.sto.push (c:=.dct []) hp ⟨[],gq,.nilI⟩) (mx l.sto)⟩
end
end L2
namespace L2
open PySem PySem.Spec PyProof.Rows
section
variable{X:Cx}{x y:Str}{a b:Expr}{fs:FA}{pos:Pos}
end
inductive DefIn(K:Frag)(x:Str)(st:Stmt):Prop
 |mk {ad:Addr} {od an:Option Addr} {sl:Array (Option Value)} {oc kV dc pm cd ct:Value} (a:nsIn K mainGlobals x=some (some (.ref ad)))
   (l:K.lookup ad=some ⟨oc,od,.func (fnOf x x (jA st) (iy st) (aX st) .none kV dc pm an cd ct),sl⟩) (c:codeIn K cd x=true) (k:keepIn K (.ref ad)=true):DefIn K x st
theorem DefIn.fn{K:Frag}{x:Str}{st:Stmt}{h:Heap}{mg:Str->Option Value}(d:DefIn K x st)(X:K.In h)(G:h.Ns mainGlobals mg):∃f fd,jM K x x st f fd/\mg x=some (.ref f):=by
 obtain⟨a,l,c,k⟩:=d
 exact⟨_,_,Eh (st:=st) l c k,mg_of X G a⟩
theorem P_{n:Nat}{l:List Value}(h:l.length=n+1):∃a t,l=a::t/\t.length=n:=by
 cases l with
 |nil=>cases h
 |cons a t=>exact⟨a,t,rfl,Nat.succ.inj h⟩
theorem Tl{l:List Value}(h:l.length=1):∃a,l=[a]:=eZ.mp h
theorem Tn{l:List Value}(h:l.length=2):∃a b,l=[a,b]:=by obtain⟨a,t,rfl,k⟩:=P_ h;obtain⟨b,rfl⟩:=Tl k;exact⟨a,b,rfl⟩
theorem To{l:List Value}(h:l.length=3):∃a b c,l=[a,b,c]:=by obtain⟨a,t,rfl,k⟩:=P_ h;obtain⟨b,c,rfl⟩:=Tn k;exact⟨a,b,c,rfl⟩
theorem Tp{l:List Value}(h:l.length=4):∃a b c d,l=[a,b,c,d]:=by obtain⟨a,t,rfl,k⟩:=P_ h;obtain⟨b,c,d,rfl⟩:=To k;exact⟨a,b,c,d,rfl⟩
theorem Tq{l:List Value}(h:l.length=5):∃a b c d e,l=[a,b,c,d,e]:=by obtain⟨a,t,rfl,k⟩:=P_ h;obtain⟨b,c,d,e,rfl⟩:=Tp k;exact⟨a,b,c,d,e,rfl⟩
theorem TZ{l:List Value}(h:l.length=6):∃a b c d e f,l=[a,b,c,d,e,f]:=by obtain⟨a,t,rfl,k⟩:=P_ h;obtain⟨b,c,d,e,f,rfl⟩:=Tq k;exact⟨a,b,c,d,e,f,rfl⟩
section
variable{P:Program}{w:World}{K:Frag}{mg:Str->Option Value}{base:Heap}{k n:Nat}{x:Str}{st:Stmt}{f:Addr}{fd:FuncData}{ps:List Str}{G:List W->List ao->R W}
theorem c9(F:jM K x x st f fd)(hm:mg x=some (.ref f))(ok:eK P w K mg base (j' P w) k f fd ps (k9 K mg n G))(hn:ps.length=n:=by rfl)
  (hb:∀(kV tw pm:Value) (an:Option Addr) (gk ct:Value) (us:List Value),us.length=ps.length->bindArgs (fnOf x x (jA st) (iy st) (aX st) .none kV tw pm an gk ct) ⟨us,[]⟩=pure (ps.zip us):=by(intro _ _ _ _ _ _ _ q;first|(obtain⟨_,rfl⟩:=Tl q;rfl)|(obtain⟨_,_,rfl⟩:=Tn q;rfl)|(obtain⟨_,_,_,rfl⟩:=To q;rfl)|(obtain⟨_,_,_,_,rfl⟩:=Tp q;rfl)|(obtain⟨_,_,_,_,_,rfl⟩:=Tq q;rfl)|(obtain⟨_,_,_,_,_,_,rfl⟩:=TZ q;rfl))):b8 P w K mg base k x n G:=k_ F hm hn hb ok
end
section
variable{X:Cx}{e:Expr}{pos:Pos}{x:Str}{fe:FE}{ps:List Str}{sp scope:Scope}
theorem lV{N:List Str}(a:sp.kind=.function:=by rfl)(b:sp.isCoroutine=false:=by rfl)(c:sp.isGenerator=false:=by rfl)(d:N.Nodup:=by decide +kernel)(f:N.take ps.length=ps:=by rfl)(g:∀x∈ps,sp.names.lookup x=some .local\/sp.names.lookup x=some .cell:=by decide +kernel)(h:∀y∈sp.names,y.2≠.free:=by decide +kernel):bG N ps sp:=⟨a,b,c,d,f,g,h⟩
theorem sS(i:Nat){iP:Pos}(sc:bG X.N ps sp)(he:SE X e fe)(hi:X.N[i]?=some x:=by rfl)(hx:HP X.env.scope x:=by first|exact .inl rfl|exact .inr rfl)(hs:swapsWith e (some (.Name x iP)) pos.line X.env=pure false:=by rfl)(hf:X.fn x=true\/X.env.scope.names.lookup x=some .local:=by first|exact .inl rfl|exact .inr rfl|assumption) :
  SS X (.Assign [.Name x iP] e pos) (bM i fe):=Mv sc.nd hi hx he hs hf
theorem sG(i:Nat)(sc:bG X.N ps sp)(hi:X.N[i]?=some x:=by rfl)(hx:HP X.env.scope x:=by first|exact .inl rfl|exact .inr rfl)(hf:X.fn x=true\/X.env.scope.names.lookup x=some .local:=by first|exact .inl rfl|exact .inr rfl|assumption):SG X (.Name x pos) (ie i):=B1 sc.nd hi hx hf
theorem sC{nm:List Str}{cl:List (Str×Addr)}{C s0 H0 fp}(i:Nat)(hN:nm.Nodup:=by decide +kernel)(hi:nm[i]?=some x:=by rfl)(hx:HP (dG X nm scope cl C s0 H0 fp).env.scope x:=by first|exact .inl rfl|exact .inr rfl)(hf:(dG X nm scope cl C s0 H0 fp).fn x=true\/(dG X nm scope cl C s0 H0 fp).env.scope.names.lookup x=some .local:=by first|exact .inl rfl|exact .inr rfl|assumption) :
  SG (dG X nm scope cl C s0 H0 fp) (.Name x pos) (ie i):=B1 (X:=dG X nm scope cl C s0 H0 fp) hN hi hx hf
end
section
variable{X:Cx}{qe tg dL:Expr}{ml:List Expr}{scope:Scope}{pos:Pos}{cap:List (Option Nat)}{fi:FI}{f:FG}{t:FT}{el:FE}{m:Nat}
end
section
variable{X:Cx}
end
section
variable{X:Cx}{kk:Nat}
end
section
variable{X:Cx}{o e f:Expr}{fo fk fd fe:FE}{gc du:Pos}{kk:Nat}
def mB(fo fk fd:FE):FE:=fun ρ st=>(fo ρ st).bind fun x st=>match jT st x with
 |some _=>(fk ρ st).bind fun y st=>(fd ρ st).bind fun z st=>(match jT st x,pA y with
  |some (_,kvs),some k=>.ok ((ko kvs k).getD z) st
  |_,_=>.bad)
 |none=>.bad
theorem wR{f:Expr}(hr:js kk X.A)(ho:SE X o fo)(he:SE X e fe)(hf:SE X f fd)(m:M2 X o "get" gc e f du:=by exact⟨by rfl,by rfl,by rfl,by rfl⟩):SE X (.Call (.Attribute o "get" gc) [e,f] [] du) (mB fo fe fd):=⟨(Em (Ei hr) ho.h he.h hf.h m).imp fun σ H Q h=>by
 obtain⟨μ,ρ,st,l,h⟩:=h
 refine⟨μ,ρ,st,l,RK.bind h l fun μ1 st1 x v H1 p1 x1 l1 q1 h1=>?_⟩
 cases e0:jT st1 x with
 |none=>rw[e0]at h1;exact h1.elim
 |some nk0=>
  obtain⟨n0,kvs0⟩:=nk0
  rw[e0]at h1
  simp only at h1
  obtain⟨a0,vs0,_,hm0,rfl,ha0,_⟩:=qK l1.sto e0 q1
  refine⟨a0,rfl,.inl ⟨_,ha0⟩,μ1,ρ,st1,l1,RK.bind h1 l1 fun μ2 cN y u H2 p2 x2 l2 q2 h2=>⟨μ2,ρ,cN,l2,RK.bind h2 l2 fun μ3 jL d t H3 p3 x3 l3 q3 h3=>?_⟩⟩
  cases e1:jT jL x with
  |none=>rw[e1]at h3;exact h3.elim
  |some nk=>
   obtain⟨n,kvs⟩:=nk
   cases e2:pA y with
   |none=>rw[e1,e2]at h3;exact h3.elim
   |some k=>
    rw[e1,e2]at h3
    simp only at h3
    obtain⟨a,vs,_,hm,ea,ha,r⟩:=qK l3.sto e1 ((q1.mono p2 x2).mono p3 x3)
    cases ea
    have:=wQ e2 q2
    subst this
    rcases AG k r with⟨w,z,g1,g2,g3⟩|⟨g1,g2⟩
    ·rw[g1]at h3
     exact⟨some z,by rw[<- g2];exact xW.r ha,h3 μ3 z H3 (al _) eX.refl l3.sto g3⟩
    ·rw[g1]at h3
     exact⟨none,by rw[<- g2];exact xW.r ha,h3 μ3 t H3 (al _) eX.refl l3.sto q3⟩⟩
end
section
variable{X:Cx}{a:Expr}{fa:FE}{pos:Pos}
abbrev pb:=Az (fun _ _=>True) fun i j=>Builtin.bitOr i j
theorem sE:rh X (binaryOp .BitOr) pb:=u3 (AA O0) fun _ _ _=>trivial
end
section
variable{X:Cx}
theorem Fa:i4 X (.type "range") (fun xs H Q=>∃j:Int,xs=[.int j]/\∀l,H l=none->Q (.ref l) (eT H l (.rng 0 j))):=by
 intro aj s σ H xs us Q I r h
 obtain⟨j,rfl,q⟩:=h
 obtain⟨u,rfl,rx⟩:=nC r
 obtain⟨t,rfl⟩:=rx
 exact call_range_1 ⟨.ref s.heap.objs.size,_,I.laid (fun b o e=>ar _ e) (aw _) (show eJ X.prog X.w _ _ _ _ (.rng 0 j)from⟨_,_,_,aI _ rfl⟩),rfl,q _ (I.hok.fresh (aw _))⟩
theorem AI(hh:X.A.handled=none):i4 X (.type "list") (fun xs H Q=>∃(p:Addr) (n:Nat),xs=[.ref p]/\H p=some (.rng 0 n)/\n<=1000000/\∀l,H l=none->Q (.ref l) (eT H l (.lst ((List.range n).map fun i:Nat=>V.int (i:Int))))):=by
 intro aj s σ H xs us Q I r h
 obtain⟨p,n,rfl,hp,hn,q⟩:=h
 obtain⟨u,rfl,rx⟩:=nC r
 cases rx
 obtain⟨t,u,v,ho⟩:=(show eJ X.prog X.w s.toks H s.heap p (.rng 0 n)from I.hok p _ hp)
 have hsz:Builtin.Range.rangeSize 0 (n:Int) 1=(n:Int):=by
  rw[rangeSize_one]
  split<;>omega
 refine up (call_list_range hh ho (small_one (by omega) (by omega) (by omega) (by omega)) hsz (aF hn (by decide)) fun h' tk gG c hk hS hacc ht=>?_)
 obtain⟨ha1,ha2⟩:=hacc
 refine⟨.ref s.heap.objs.size,_,I.laid (t':=tk) hk (aw _) (show eJ X.prog X.w tk _ h' _ (.lst ((List.range n).map fun i:Nat=>V.int (i:Int)))from⟨by rw[aC,cH];exact aF hn (by decide),gG.toList,c,?_,by rw[hS]⟩),rfl,q _ (I.hok.fresh (aw _))⟩
 obtain⟨l⟩:=gG
 have hl:l.length=n:=ha1
 have key:∀(k:Nat) (l:List Value),(∀j v,l[j]?=some v->∃t,v=Value.int (((k+j:Nat):Int)) t)->cJ tk ((List.range' k l.length).map fun i:Nat=>V.int (i:Int)) l:=by
  intro k l
  induction l generalizing k with
  |nil=>intro;exact .nil
  |cons a r ih=>
   intro h
   refine .cons (h 0 a rfl) (ih (k+1) fun j v e=>?_)
   have:=h (j+1) v e
   rw[show k+1+j=k+(j+1) by omega]
   exact this
 have:=key 0 l fun j v e=>by
  obtain⟨t,e⟩:=ha2 j v (by simpa using e)
  exact⟨t,by rw[e];congr 1;omega⟩
 rw[hl,<- List.range_eq_range']at this
 exact this
def um(ws:List W)(st:List ao):R W:=match ws with
 |[.int q]=>if 0<=q/\q<=1000000 then .ok (.loc st.length) (st++[.lst (d8 0 q.toNat)])else .bad
 |_=>.bad
theorem Dx{K:Frag}{μ:List Addr}{H:Hp}(n:Nat):RelWs K μ H (d8 0 n) ((List.range n).map fun i:Nat=>V.int (i:Int)):=by
 unfold d8
 generalize List.range n=l
 induction l with
 |nil=>exact .nilI
 |cons a r ih=>
  refine .consI ?_ ih
  show bE K μ H (.int (0+(a:Int))) (.int (a:Int))
  rw[eG]
  exact .int
theorem Jn{a:Expr}{fs:FA}{p p2 pos z0:Pos}{kk:Nat}(hr:js kk X.A)(hl:X.mg "list"=none)(hm:X.mg "range"=none)(ha:SA X [a] fs)(hg:Gl X "list":=by rfl)(Rc:Gl X "range":=by rfl)
  (he:starEach [a] X.env=[(false,eval a X.env)]:=by rfl) (DW:starEach [Expr.Call (.Name "range" p2) [a] [] z0] X.env=[(false,eval (.Call (.Name "range" p2) [a] [] z0) X.env)]:=by rfl) :
  SE X (.Call (.Name "list" p) [.Call (.Name "range" p2) [a] [] z0] [] pos) (cw um fs):=⟨(rk (AI hr.hd) hg hl boot_list (iw (rk Fa Rc hm qj ha.h (by decide) (by decide) he rfl) nD DW) (by decide) (by decide) DW rfl).imp fun σ H Q h=>by
 obtain⟨μ,ρ,st,l,h⟩:=h
 refine⟨μ,ρ,st,l,RK.bind h l fun μ1 st1 x v H1 p1 x1 l1 q1 h1=>?_⟩
 unfold um at h1
 split at h1
 ·rename_i q
  obtain⟨y,rfl,ry⟩:=q1.one
  split at h1
  ·rename_i c
   refine⟨q,by rw[ry.intE],fun l0 hl0=>⟨l0,q.toNat,rfl,?_,by omega,fun l2 hl2=>?_⟩⟩
   ·unfold eT;rw[aE rfl,Int.toNat_of_nonneg c.1]
   ·have S':=l1.sto.same (cQ hl0 (.rng 0 q))
    exact h1 (μ1++[l2]) _ _ (bJ _ _) (gK.same fun b u z=>cQ hl2 _ b u (cQ hl0 _ b u z)) (S'.newLst hl2 (Dx _)) (mx S')
  ·exact h1.elim
 ·exact h1.elim⟩
end
theorem AJ:mroOf (.type "dict")=pure [.type "dict",.type "object"]:=by rw[mroOf_type];kernel_rfl
theorem MH:typeLookup (.type "dict") "__new__"=pure (some (.builtin "dict.__new__")):=by rw[ng,jp];kernel_rfl
theorem Fb:isSubtype (.type "dict") (.type "dict")=pure true:=by rw[dz];kernel_rfl
theorem Dy:TypeCalled "dict" "dict.__new__" "dict.__init__":=
 ⟨by decide +kernel,by decide +kernel,⟨_,_,AJ⟩,madeBy_type AJ MH (by decide +kernel),by decide +kernel,Fb,F.slot_dict_init⟩
theorem Jo(a:Value):checkTypeCall "dict" ⟨[a],[]⟩=pure ():=by kernel_rfl
theorem AK(a:Value):checkBuiltinCall "dict.__new__" ⟨[.type "dict",a],[]⟩=pure ():=by kernel_rfl
theorem Fc:entryFor table "dict.__new__"=some Builtin.«dict.__new__»:=entryFor_of_tree (by kernel_rfl)
theorem yA:plainId "dict.__new__"=true:=by decide +kernel
section
variable{prog:Program}{w:World}{A:Around}{E:Value->Shared->Prop}{s:Shared}
theorem Jp(a:Value){Q₁:Value->Shared->Prop}(h:Q₁ (.ref s.heap.objs.size) { s with heap:=s.heap.push { cls:=.type "dict",data:=.dict #[] } }) :
  codeAny (model prog w) A (.call (.builtin "dict.__new__") ⟨[.type "dict",a],[]⟩) (wants Q₁ E) s:=by
 refine nh ?_
 show wpAny _ A.in1 (do checkBuiltinCall "dict.__new__" ⟨[.type "dict",a],[]⟩;again (.builtin "dict.__new__" ⟨[.type "dict",a],[]⟩)) _ _ s
 refine af (oz (AK a) (ay ⟨eF yA _,cT Fc ?_⟩))
 rw[cI yA _]
 unfold Builtin.«dict.__new__»
 have hsub:=Fb
 have hm:=AJ
 obtain⟨hp,g,d,tk,os⟩:=s
 dsimp only
 wp_walk
 exact h
variable{K:Type}[DecidableEq K]{knd:KeyKind prog w K}
theorem AL{o:Addr}{xI:List (K×Value)}{Q:Value->Shared->Prop}(T_:(o==sysModules)=false)(ho:s.heap.DictOf knd o xI)(hz:xI.length<=sizeLine)
  (hQ:∀g,g.DictOf knd s.heap.objs.size xI->(∀b u,s.heap.get? b=some u->g.get? b=some u)->Q (.ref s.heap.objs.size) { s with heap:=g }) :
  wpAny (model prog w) A (call (.type "dict") [.ref o]) Q E s:=by
 refine callType_codes Dy (Jo _) F.entry_dict_init (Jp _ (Q₁:=fun obj s1=>obj=.ref s.heap.objs.size/\s1={ s with heap:=s.heap.push { cls:=.type "dict",data:=.dict #[] } }) ⟨rfl,rfl⟩) fun obj s1 hq=>?_
 obtain⟨rfl,rfl⟩:=hq
 have hd:(s.heap.push { cls:=.type "dict",data:=.dict #[] }).DictOf knd s.heap.objs.size []:=Heap.DictOf.new _
 have hT:Shared.TypeIs { s with heap:=s.heap.push { cls:=.type "dict",data:=.dict #[] } } (.ref s.heap.objs.size) "dict":=⟨_,aI _ rfl,rfl⟩
 obtain⟨oo,eso,epo,hoo,hco,hdo',hko,hpo,hno⟩:=id ho
 have ho1:(s.heap.push { cls:=.type "dict",data:=.dict #[] }).DictOf knd o xI:=⟨oo,eso,epo,ar _ hoo,hco,hdo',hko,hpo,hno⟩
 have hT2:Shared.TypeIs { s with heap:=s.heap.push { cls:=.type "dict",data:=.dict #[] } } (.ref o) "dict":=ho1.typeIs
 have uN:s.heap.objs.size≠o:=Ne.symm (aZ (aK hoo))
 refine⟨hT,F.args_dict_init_2 _ _,?_⟩
 unfold Builtin.«dict.__init__» Builtin.Dict.selfAndRest
 refine af (af (wpAny_notOrdered_dict hT ?_))
 show wpAny _ _ (pure (s.heap.objs.size,[Value.ref o])) _ _ _
 refine ay ?_
 show wpAny _ _ (Builtin.Dict.updateFrom "dict.__init__" s.heap.objs.size (.ref o) [] .none) _ _ _
 unfold Builtin.Dict.updateFrom
 refine af (gn hT2 ?_)
 rw[aN (by decide)]
 refine af ?_
 unfold Builtin.Dict.merge
 refine af ?_
 unfold Builtin.Dict.readDirectly
 refine af (f_ hT2 isSubtype_dict_dict ?_)
 simp only[pP,gl,iu]
 refine af (ni hT2 F.slot_dict_iter.lookup (ay ?_))
 simp only[beq_self_eq_true,jC]
 refine af (ay ?_)
 refine wpAny_mergeDict (hsz:=by simpa using hz) uN T_ hd ho1 fun h' hd' sN hs'=>?_
 rw[merged_nil_of_nodup xI hno]at hd'
 show wpAny _ _ (Builtin.Dict.addKeywords s.heap.objs.size [] >>= _) _ _ _
 refine af (ay (ay ?_))
 refine⟨rfl,hQ h' hd' fun b u e=>?_⟩
 rw[hs'.2 b (aZ (aK e))]
 exact ar _ e
end
section
variable{X:Cx}
theorem Dz:bootBuiltins "dict"=some (.type "dict"):=by first|rfl|kernel_rfl|decide +kernel
def pZ(ws:List W)(st:List ao):R W:=match ws with
 |[x]=>(match jT st x with
  |some (_,kvs)=>if kvs.length<=1000 then .ok (.loc st.length) (st++[.dct kvs])else .bad
  |none=>.bad)
 |_=>.bad
theorem Jq:qE X (.type "dict") pZ:=⟨fun aj s σ H vs us Q I rv ⟨μ,st,ws,S,r,q⟩=>by
 unfold pZ at q
 split at q
 ·rename_i x
  obtain⟨v,rfl,rx⟩:=r.one
  cases e0:jT st x with
  |none=>rw[e0]at q;exact q.elim
  |some nk=>
   obtain⟨n,kvs⟩:=nk
   rw[e0]at q
   simp only at q
   split at q
   ·rename_i hW
    obtain⟨a,zs,_,hm,rfl,ha,rr⟩:=qK S e0 rx
    obtain⟨hz,hs,ps,hK,hD⟩:=xV I.hok ha
    obtain⟨u,rfl,ru⟩:=nC rv
    obtain rfl:u=Value.ref a:=ru
    have hf:H s.heap.objs.size=none:=I.hok.fresh (aw _)
    refine AL (knd:=fT X.prog X.w) hs hD (by rw[<- hK.length];exact hz) fun g gd kp=>?_
    refine⟨.ref s.heap.objs.size,eT H s.heap.objs.size (.dK (dV kvs zs)),I.laid kp (aw _) (Ej hz (bY.mpr (Ne.symm (aZ I.big))) hK gd),rfl,?_⟩
    have hs:sR H (eT H s.heap.objs.size (.dK (dV kvs zs))):=cQ hf _
    exact q (μ++[s.heap.objs.size]) (.ref s.heap.objs.size) _ (bJ _ _) (gK.same hs) (S.push (c:=.dct kvs) hf ⟨zs,gq,rr.mono (bJ _ _) (gK.same hs)⟩) (mx S)
   ·exact q.elim
 ·exact q.elim,fun ws st=>by
 unfold pZ
 split
 ·split
  ·split<;>trivial
  ·trivial
 ·trivial⟩
end
variable{X:Cx}
def So(i j:Int):Prop:=i.natAbs<2^9000/\j.natAbs<2^9000
theorem B8{i:Int}{n:Nat}(h:i.natAbs<2^n):Builtin.Int.intBits i<=n:=by
 unfold Builtin.Int.intBits
 split
 ·exact bQ _
 ·rename_i z
  have hz:i.natAbs≠0:=by intro e;apply z;simpa using Int.natAbs_eq_zero.mp e
  exact(Nat.log2_lt hz).mpr h
theorem So.ok{i j:Int}(h:So i j):IntMulOk i j:=IntMulOk.of_bits (aF (B8 h.1) (by decide)) (aF (B8 h.2) (by decide))
theorem Jr:lX X (binaryOp .Mult) (rI So fun i j=>.int (i*j)):=LN fun _ _ _ _ _ _ _ hc q=>mul_int q hc.ok
abbrev Kl(i j:Int):Prop:=i.natAbs<2^9000/\j.natAbs<2^9000
abbrev yB:=Az Kl fun i j=>i*j
theorem AM:rh X (binaryOp .Mult) yB:=u3 Jr fun _ _ h=>h
theorem iz(st x:List ao)(k:Nat):(st++x)[st.length+k]?=x[k]?:=by rw[fw (by omega)];congr 1;omega
theorem fY(st x:List ao):(st++x)[st.length]?=x[0]?:=iz st x 0
theorem fZ(st x:List ao)(k:Nat)(c:ao):(st++x).set (st.length+k) c=st++x.set k c:=by rw[List.set_append_right _ _ (by omega)];congr 2;omega
theorem d9(st x:List ao)(c:ao):(st++x).set st.length c=st++x.set 0 c:=fZ st x 0 c
theorem bH{st x:List ao}{n:Nat}{c:ao}(h:st[n]?=some c):(st++x)[n]?=some c:=by
 rw[bq (ak.mp h).1];exact h
theorem AN(st:List ao)(ws:List W):mZ st st ws=st:=by unfold mZ;split<;>simp
theorem rM{st x:List ao}{ws:List W}(h:undWs st.length ws=true):mZ st (st++x) ws=st:=by
 unfold mZ
 rw[aE ⟨h,by simp,fun i hi=>.inl (bq hi)⟩]
 simp
theorem vE{st bf:List ao}{ws:List W}(h:undWs st.length ws=false):mZ st bf ws=bf:=by
 unfold mZ
 rw[aN fun k=>by have:=k.1;rw[h]at this;cases this]
theorem tj{N:Nat}{body:FS}{ws:List W}{st bf:List ao}{w:W}(h:body (ws.map some++List.replicate (N-ws.length) none) st=.rt w bf):dR N body ws st=.ok w (mZ st bf [w]):=by
 unfold dR;rw[h]
theorem oR{N:Nat}{body:FS}{ws:List W}{st:List ao}{w:W}(h:body (ws.map some++List.replicate (N-ws.length) none) st=.rt w st):dR N body ws st=.ok w st:=by
 rw[tj h,AN]
theorem yC{N:Nat}{body:FS}{ws:List W}{st x:List ao}{w:W}(h:body (ws.map some++List.replicate (N-ws.length) none) st=.rt w (st++x))(hu:undWs st.length [w]=true):dR N body ws st=.ok w st:=by
 rw[tj h,rM hu]
theorem Fd{N:Nat}{body:FS}{ws:List W}{st x:List ao}{k:Nat}(h:body (ws.map some++List.replicate (N-ws.length) none) st=.rt (.loc (st.length+k)) (st++x)):dR N body ws st=.ok (.loc (st.length+k)) (st++x):=by
 rw[tj h,vE (by simp[undWs,W.und])]
theorem uo{g g':FS}{ρ ρ':b6}{st bf:List ao}(h:g ρ st=.nx ρ' bf):aR g g' ρ st=g' ρ' bf:=by unfold aR;rw[h]
theorem tm{fi:FI}{f:FG}{body:FS}{ρ:b6}{st bf:List ao}{k:Dq}(h:fi ρ st=.ok k bf):jg fi f body ρ st=nu f body k.2 k.1 ρ bf:=by unfold jg;rw[h];rfl
theorem qL{f:FG}{body:FS}{ck:Option (Nat×List W)}(I:Nat->b6->List ao->Prop):∀{ws:List W} {ρ:b6} {st:List ao} (i0:Nat),I i0 ρ st->(∀i ρ st,I i ρ st->i7 st ck) ->
  (∀i w ρ st,ws[i]?=some w->I (i0+i) ρ st->∃ρ' ρ2 cN,f w ρ=some ρ'/\body ρ' st=.nx ρ2 cN/\I (i0+i+1) ρ2 cN) ->
  ∃ρ2 cN,nu f body ck ws ρ st=.nx ρ2 cN/\I (i0+ws.length) ρ2 cN
 |[],ρ,st,i0,h0,hc,hs=>⟨ρ,st,by unfold nu;rw[aE (hc _ _ _ h0)],h0⟩
 |w::ws,ρ,st,i0,h0,hc,hs=>by
  obtain⟨ρ',ρ2,cN,e1,e2,h1⟩:=hs 0 w ρ st rfl h0
  obtain⟨ρ3,jL,e3,h3⟩:=qL I (ws:=ws) (ρ:=ρ2) (st:=cN) (i0+1) h1 hc fun i w ρ st hw hI=>by
   obtain⟨a,b,c,d,e,g⟩:=hs (i+1) w ρ st (by simpa using hw) (by rw[show i0+(i+1)=i0+1+i by omega];exact hI)
   exact⟨a,b,c,d,e,by rw[show i0+1+i+1=i0+(i+1)+1 by omega];exact g⟩
  refine⟨ρ3,jL,?_,by rw[e_,show i0+(ws.length+1)=i0+1+ws.length by omega];exact h3⟩
  unfold nu
  rw[aE (hc _ _ _ h0),e1]
  simp only[e2]
  exact e3
theorem DA{t:FT}{g:FS}(I:Nat->b6->List ao->Prop):∀(n:Nat) {ρ:b6} {st:List ao},I n ρ st ->
  (∀n ρ st,I n ρ st->t ρ st=.ok false st\/(t ρ st=.ok true st/\∃ρ2 cN m,g ρ st=.nx ρ2 cN/\m<n/\I m ρ2 cN)) ->
  ∃m ρ2 cN,my t g ρ st=.nx ρ2 cN/\I m ρ2 cN/\t ρ2 cN=.ok false cN:=by
 intro n ρ st h hs
 have key:∀(k n:Nat) (ρ:b6) (st:List ao),n<k->I n ρ st->∃m ρ2 cN,fW t g k ρ st=.nx ρ2 cN/\I m ρ2 cN/\t ρ2 cN=.ok false cN:=by
  intro k
  induction k with
  |zero=>intro n _ _ h;exact absurd h (jQ _)
  |succ k ih=>
   intro n ρ st hk hI
   rcases hs n ρ st hI with e|⟨e,ρ2,cN,m,e2,hm,h2⟩
   ·exact⟨n,ρ,st,by unfold fW;rw[e];rfl,hI,e⟩
   ·obtain⟨m',ρ3,jL,e3,h3⟩:=ih m ρ2 cN (by omega) h2
    exact⟨m',ρ3,jL,by unfold fW;rw[e];simp only[R.stmt_ok,jC,e2];exact e3,h3⟩
 obtain⟨m,ρ2,cN,e,h2⟩:=key (n+1) n ρ st (cy n) h
 exact⟨m,ρ2,cN,Dr e (by simp),h2⟩
section
variable{ρ ρ':b6}{st st1 cN jL st4:List ao}{fa fb fe fo fi:FE}{fs:FA}{t u:FT}{x y z w v:W}{ws xs zs:List W}{i j n m:Nat}{a b k:Bool}{g g':FS}
theorem dJ(h:ρ[i]?=some (some w)):ag i ρ st=.ok w st:=by unfold ag;rw[h]
theorem aU:eC w ρ st=.ok w st:=rfl
theorem aT{f:W->W->List ao->R W}(h1:fa ρ st=.ok x st1)(h2:fb ρ st1=.ok y cN)(h3:f x y cN=.ok z jL):e2 f fa fb ρ st=.ok z jL:=by unfold e2;rw[h1];simp only[R.bind_ok];rw[h2];exact h3
theorem a_:aJ ρ st=.ok [] st:=rfl
theorem ai(h1:fa ρ st=.ok x st1)(h2:fs ρ st1=.ok xs cN):ah fa fs ρ st=.ok (x::xs) cN:=by unfold ah;rw[h1];simp only[R.bind_ok];rw[h2];rfl
theorem Fe{ls:List (List Nat)}:EJ ls ρ st=.ok (ls.map W.str) st:=rfl
theorem cY(h1:fs ρ st=.ok ws st1)(h2:ws.length<=jY):eN fs ρ st=.ok (.tup ws) st1:=by unfold eN;rw[h1];simp only[R.bind_ok,pq];rw[aE h2]
theorem nO(h1:fs ρ st=.ok ws st1)(h2:ws.length<=jY):kW fs ρ st=.ok (.loc st1.length) (st1++[.lst ws]):=by unfold kW;rw[h1];simp only[R.bind_ok,mY];rw[aE h2]
theorem cg{F:List W->List ao->R W}(h1:fs ρ st=.ok ws st1)(h2:F ws st1=.ok w cN):cw F fs ρ st=.ok w cN:=by unfold cw;rw[h1];exact h2
theorem a8{F:List W->List ao->R W}(h1:fs ρ st=.ok ws st1)(h2:F ws st1=.ok w cN)(hn:ws.length=n):bX n F fs ρ st=.ok w cN:=by unfold bX;rw[h1];simp only[R.bind_ok];rw[aE hn];exact h2
theorem aO(h:fa ρ st=.ok (.bl k) st1):dA fa ρ st=.ok k st1:=by unfold dA;rw[h];rfl
theorem gE(h1:t ρ st=.ok true st1)(h2:u ρ st1=.ok k cN):bnd t u ρ st=.ok k cN:=by unfold bnd;rw[h1];exact h2
theorem lc(h1:t ρ st=.ok false st1):bnd t u ρ st=.ok false st1:=by unfold bnd;rw[h1];rfl
theorem gi(h1:t ρ st=.ok false st1)(h2:u ρ st1=.ok k cN):BR t u ρ st=.ok k cN:=by unfold BR;rw[h1];exact h2
theorem qM(h1:t ρ st=.ok true st1):BR t u ρ st=.ok true st1:=by unfold BR;rw[h1];rfl
theorem vF(h1:t ρ st=.ok a st1)(h2:(!a)=k):Kb t ρ st=.ok k st1:=by unfold Kb;rw[h1,<- h2];rfl
theorem lg(h1:fa ρ st=.ok (.bl true) st1)(h2:fb ρ st1=.ok w cN):pS fa fb ρ st=.ok w cN:=by unfold pS;rw[h1];exact h2
theorem qN(h1:fa ρ st=.ok (.bl false) st1):pS fa fb ρ st=.ok (.bl false) st1:=by unfold pS;rw[h1];rfl
theorem p5(h1:fa ρ st=.ok (.bl false) st1)(h2:fb ρ st1=.ok w cN):HR fa fb ρ st=.ok w cN:=by unfold HR;rw[h1];exact h2
theorem wS(h1:fa ρ st=.ok (.bl true) st1):HR fa fb ρ st=.ok (.bl true) st1:=by unfold HR;rw[h1];rfl
theorem yD(h1:fa ρ st=.ok (.bl a) st1)(h2:(!a)=k):yj fa ρ st=.ok (.bl k) st1:=by unfold yj;rw[h1,<- h2];rfl
theorem ur(h1:t ρ st=.ok true st1)(h2:fa ρ st1=.ok w cN):HS t fa fb ρ st=.ok w cN:=by unfold HS;rw[h1];exact h2
theorem ut(h1:t ρ st=.ok false st1)(h2:fb ρ st1=.ok w cN):HS t fa fb ρ st=.ok w cN:=by unfold HS;rw[h1];exact h2
theorem kq{F:W->List W->List ao->R W}(h1:fo ρ st=.ok x st1)(hl:m3 st1 x=true)(h2:fs ρ st1=.ok ws cN)(h3:F x ws cN=.ok w jL):pV F fo fs ρ st=.ok w jL:=by unfold pV;rw[h1];simp only[R.bind_ok];rw[aE hl,h2];exact h3
theorem MI{F:W->List W->List ao->R W}(h1:fo ρ st=.ok x st1)(hl:vx x=true)(h2:fs ρ st1=.ok ws cN)(h3:F x ws cN=.ok w jL):Oy F fo fs ρ st=.ok w jL:=by unfold Oy;rw[h1];simp only[R.bind_ok];rw[aE hl,h2];exact h3
theorem fz(h:st[n]?=some (.lst ws)):m3 st (.loc n)=true:=by simp only[m3,h]
theorem nP{q:Int}(h:fa ρ st=.ok (.int q) st1):nN fa ρ st=.ok (.int (-q)) st1:=by unfold nN;rw[h];rfl
theorem yE{T c:String}(h:fa ρ st=.ok x st1)(hx:x.ty=some c)(hk:Jf c T=k):qI T fa ρ st=.ok (.bl k) st1:=by unfold qI;rw[h];simp only[R.bind_ok,hx,hk]
theorem P'(h:fa ρ st=.ok x st1)(hk:x.isNon=k):Ay fa ρ st=.ok (.bl k) st1:=by unfold Ay;rw[h,<- hk];rfl
theorem i9(h:fa ρ st=.ok x st1)(hk:(!x.isNon)=k):ii fa ρ st=.ok (.bl k) st1:=by unfold ii;rw[h,<- hk];rfl
theorem Sq:BX ρ st=.ok none st:=rfl
theorem Ss{q:Int}(h:fa ρ st=.ok (.int q) st1):yp fa ρ st=.ok (some q) st1:=by unfold yp;rw[h];rfl
theorem Su{fl fh:FO}{l h:Option Int}(h1:fa ρ st=.ok x st1)(h2:fl ρ st1=.ok l cN)(h3:fh ρ cN=.ok h jL)(h4:HU x l h jL=.ok w st4):PR fa fl fh ρ st=.ok w st4:=by unfold PR;rw[h1];simp only[R.bind_ok];rw[h2];simp only[R.bind_ok];rw[h3];exact h4
theorem aW(h:fe ρ st=.ok w st1):bM i fe ρ st=.nx (ρ.set i (some w)) st1:=by unfold bM;rw[h];rfl
theorem i_(h:fe ρ st=.ok w st1):gs fe ρ st=.nx ρ st1:=by unfold gs;rw[h];rfl
theorem yF(h:fe ρ st=.ok w st1):cK fe ρ st=.rt w st1:=by unfold cK;rw[h];rfl
theorem nQ{f:W->W->W->List ao->Option (List ao)}(h1:fe ρ st=.ok v st1)(h2:fo ρ st1=.ok x cN)(h3:fi ρ cN=.ok y jL)(h4:f x y v jL=some st4):o9 fo fi fe f ρ st=.nx ρ st4:=by
 unfold o9;rw[h1];simp only[R.stmt_ok];rw[h2];simp only[R.stmt_ok];rw[h3];simp only[R.stmt_ok];rw[h4]
theorem g9{r:RS}(h1:t ρ st=.ok true st1)(h2:g ρ st1=r):fR t g g' ρ st=r:=by unfold fR;rw[h1];exact h2
theorem i'{r:RS}(h1:t ρ st=.ok false st1)(h2:g' ρ st1=r):fR t g g' ρ st=r:=by unfold fR;rw[h1];exact h2
theorem kr:b7 ρ st=.nx ρ st:=rfl
theorem B9{r:RS}(h:g ρ st=.nx ρ' st1)(h2:g' ρ' st1=r):aR g g' ρ st=r:=by rw[uo h];exact h2
theorem AO(h:g ρ st=.rt w st1):aR g g' ρ st=.rt w st1:=by unfold aR;rw[h]
theorem dF{p q:Int}:e7 (.int p) (.int q) st=.ok (.int (p+q)) st:=rfl
theorem AQ{p q:List Nat}(h:p.length+q.length<=jY):e7 (.str p) (.str q) st=.ok (.str (p++q)) st:=by simp only[e7];rw[aE h]
theorem MJ(h1:st[n]?=some (.lst ws))(h2:st[m]?=some (.lst xs))(h:(ws++xs).length<=jY):e7 (.loc n) (.loc m) st=.ok (.loc st.length) (st++[.lst (ws++xs)]):=by
 unfold e7;simp only[h1,h2,mY];rw[aE h]
theorem dg{C:Int->Int->Prop}[∀i j,Decidable (C i j)]{f:Int->Int->Int}{p q:Int}(h:C p q):Az C f (.int p) (.int q) st=.ok (.int (f p q)) st:=by simp only[Az];rw[aE h]
theorem ku{p q:Int}(h:EM p q):iV (.int p) (.int q) st=.ok (.int (p*q)) st:=by simp only[iV];rw[aE h]
theorem fB{f:Int->Int->Bool}{p q:Int}(h:f p q=k):Dm f (.int p) (.int q) st=.ok (.bl k) st:=by rw[<- h];rfl
theorem B_{p q:Int}(h:decide (p<=q)=k):AC (.int p) (.int q) st=.ok (.bl k) st:=by rw[<- h];rfl
theorem pB{p q:Int}(h:(p==q)=k):fQ (.int p) (.int q) st=.ok (.bl k) st:=by rw[<- h];rfl
theorem Km{p q:Int}(h:(!(p==q))=k):Do (.int p) (.int q) st=.ok (.bl k) st:=by rw[<- h];rfl
theorem yG{p q:List Nat}(h:(p==q)=k):fQ (.str p) (.str q) st=.ok (.bl k) st:=by rw[<- h];rfl
theorem vG{q:Int}(h:ph ws q=some w):bp (.tup ws) (.int q) st=.ok w st:=by unfold bp;simp only[h,dY]
theorem kv(h:ρ[i]?=some (some w):=by rfl):ag i ρ st=.ok w st:=dJ h
theorem ox{q:Int}(h:ph ws q=some w:=by rfl):bp (.tup ws) (.int q) st=.ok w st:=vG h
theorem kn(h:ρ[i]?=some (some w):=by rfl):ah (ag i) aJ ρ st=.ok [w] st:=ai (dJ h) a_
theorem kx{q:Int}(h:ρ[i]?=some (some (.tup ws)):=by rfl)(h2:ph ws q=some w:=by rfl):e2 bp (ag i) (eC (.int q)) ρ st=.ok w st:=aT (dJ h) aU (vG h2)
theorem sF{l:List Nat}{q:Int}{c:Nat}(hl:l.length<=jY)(h:ph l q=some c):bp (.str l) (.int q) st=.ok (.str [c]) st:=by unfold bp;simp only[h,dY];rw[aE hl]
theorem e6{q:Int}(hl:lstOf st n=some ws)(h:ph ws q=some w):bp (.loc n) (.int q) st=.ok w st:=by unfold bp;simp only[hl,h,dY]
theorem AR:eV [.tup ws] st=.ok (.int ws.length) st:=rfl
theorem wT{l:List Nat}(h:l.length<=jY):eV [.str l] st=.ok (.int l.length) st:=by unfold eV;simp only;rw[aE h]
theorem kw(hl:lstOf st n=some ws):eV [.loc n] st=.ok (.int ws.length) st:=by unfold eV;simp only[hl,dY]
theorem bd(h:st[n]?=some (.lst ws)):lstOf st n=some ws:=by unfold lstOf;rw[h]
theorem tq(h:st[n]?=some (.ro ws)):lstOf st n=some ws:=by unfold lstOf;rw[h]
theorem jU(h:st[n]?=some (.lst ws))(hl:ws.length<jY):cv (.loc n) [y] st=.ok .non (st.set n (.lst (ws++[y]))):=by unfold cv;simp only[h];rw[aE hl]
theorem B'(h:st[n]?=some (.lst (ws++[y]))):rG (.loc n) [] st=.ok y (st.set n (.lst ws)):=by unfold rG;simp only[h];simp
theorem Ff{q:Int}(h:st[n]?=some (.lst ws))(hi:z6 ws.length q=some j):k8 (.loc n) (.int q) v st=some (st.set n (.lst (ws.set j v))):=by unfold k8;simp only[h,hi];rfl
theorem Fg{sep:List Nat}{ls:List (List Nat)}(h:lstOf st n=some (ls.map W.str))(hl:(ls.map List.length).sum+ls.length*sep.length<=jY):sB (.str sep) [.loc n] st=.ok (.str (kh sep ls)) st:=by
 unfold sB;simp only[h,dY,vz];rw[aE hl]
theorem Qa{l h:Option Int}{z:List Nat}(hl:z.length<=jY):HU (.str z) l h st=.ok (.str (oZ z l h)) st:=by unfold HU;simp only;rw[aE hl]
theorem Qb{l h:Option Int}:HU (.tup ws) l h st=.ok (.tup (oZ ws l h)) st:=rfl
theorem oS(h:fe ρ st=.ok (.tup ws) st1):dZ fe ρ st=.ok (ws,none) st1:=by unfold dZ;rw[h];rfl
theorem mC(h:fe ρ st=.ok (.loc n) st1)(hl:lstOf st1 n=some ws):dZ fe ρ st=.ok (ws,some (n,ws)) st1:=by unfold dZ;rw[h];simp only[R.bind_ok,hl]
theorem gM{q:Int}(h:fs ρ st=.ok [.int q] st1)(hq:-(2^62)<=q/\q<2^62):dI fs ρ st=.ok (d8 0 q.toNat,none) st1:=by unfold dI;rw[h];simp only[R.bind_ok];rw[aE hq]
theorem MK{l:List W}{q:Nat}{x:W}(h:l.reverse[q]?=some x):ph l (-((q:Int)+1))=some x:=by
 have hq:q<l.length:=by have:=(ak.mp h).1;simpa using this
 unfold ph z6
 rw[aN (by omega),aE (by omega)]
 rw[List.getElem?_reverse hq]at h
 simp only[Option.bind_some]
 rw[show((-((q:Int)+1))+(l.length:Int)).toNat=l.length-1-q by omega]
 exact h
theorem g_{α:Type}{l:List α}{q:Nat}{x:α}(h:l[q]?=some x):ph l (q:Int)=some x:=by
 have hq:q<l.length:=(ak.mp h).1
 unfold ph z6
 rw[aE (by omega),aE (by omega)]
 simpa using h
def jl(P:RS->Prop)(r:RS):Prop:=P r
def HV(I:b6->List ao->Prop):RS->Prop:=fun r=>∃ρ st,r=.nx ρ st/\I ρ st
def wU(I:W->List ao->Prop):RS->Prop:=fun r=>∃w st,r=.rt w st/\I w st
variable{P:RS->Prop}{fP:FS}
theorem b_{r r':RS}(h:r=r')(h2:P r'):jl P r:=by rw[h];exact h2
theorem aD(h:g ρ st=.nx ρ' st1)(h2:jl P (g' ρ' st1)):jl P (aR g g' ρ st):=by rw[uo h];exact h2
theorem iW(h1:t ρ st=.ok true st1)(h2:jl P (g ρ st1)):jl P (fR t g g' ρ st):=by rw[g9 h1 rfl];exact h2
theorem gY(h1:t ρ st=.ok false st1)(h2:jl P (g' ρ st1)):jl P (fR t g g' ρ st):=by rw[i' h1 rfl];exact h2
theorem bB(h1:t ρ st=.ok true st1)(h2:jl P (aR g fP ρ st1)):jl P (aR (fR t g g') fP ρ st):=by
 unfold aR at h2 ⊢;rw[g9 h1 rfl];exact h2
theorem aM(h1:t ρ st=.ok false st1)(h2:jl P (aR g' fP ρ st1)):jl P (aR (fR t g g') fP ρ st):=by
 unfold aR at h2 ⊢;rw[i' h1 rfl];exact h2
theorem ke{h:FS}(h2:jl P (aR g (aR g' h) ρ st)):jl P (aR (aR g g') h ρ st):=by
 unfold aR at h2 ⊢
 cases e:g ρ st<;>simp only[e]at h2 ⊢ <;> exact h2
theorem aP(h2:jl P (fP ρ st)):jl P (aR b7 fP ρ st):=h2
theorem bD(h:fe ρ st=.ok w st1)(h2:P (.rt w st1)):jl P (cK fe ρ st):=by rw[yF h];exact h2
theorem ba(h:fe ρ st=.ok w st1)(h2:P (.rt w st1)):jl P (aR (cK fe) fP ρ st):=by rw[AO (yF h)];exact h2
theorem fG{fi:FI}{f:FG}{body:FS}{k:Dq}(I:Nat->b6->List ao->Prop)(h:fi ρ st=.ok k st1)(h0:I 0 ρ st1)(hc:∀i ρ st,I i ρ st->i7 st k.2)
  (hs:∀i w ρ st,k.1[i]?=some w->I i ρ st->∃ρ',f w ρ=some ρ'/\jl (HV (I (i+1))) (body ρ' st)) (he:∀ρ st,I k.1.length ρ st->jl P (fP ρ st)):jl P (aR (jg fi f body) fP ρ st):=by
 obtain⟨ρ2,cN,e,h2⟩:=qL (f:=f) (body:=body) (ck:=k.2) I (ws:=k.1) (ρ:=ρ) (st:=st1) 0 h0 hc fun i w ρ st hw hI=>by
  rw[dN]at hI ⊢
  obtain⟨ρ',e1,ρ2,cN,e2,h2⟩:=hs i w ρ st hw hI
  exact⟨ρ',ρ2,cN,e1,e2,h2⟩
 rw[dN]at h2
 exact aD (by rw[tm h];exact e) (he _ _ h2)
theorem rN{body:FS}(I:Nat->b6->List ao->Prop)(n:Nat)(h0:I n ρ st)
  (hs:∀n ρ st,I n ρ st->t ρ st=.ok false st\/(t ρ st=.ok true st/\jl (HV fun ρ2 cN=>∃m,m<n/\I m ρ2 cN) (body ρ st))) (he:∀m ρ st,I m ρ st->t ρ st=.ok false st->jl P (fP ρ st)):jl P (aR (my t body) fP ρ st):=by
 obtain⟨m,ρ2,cN,e,h2,h3⟩:=DA (t:=t) (g:=body) I n h0 fun n ρ st hI=>by
  rcases hs n ρ st hI with e|⟨e,ρ2,cN,e2,m,hm,h2⟩
  ·exact .inl e
  ·exact .inr ⟨e,ρ2,cN,m,e2,hm,h2⟩
 exact aD e (he _ _ _ h2 h3)
theorem mD{N:Nat}{body:FS}{Q:W->Prop}(h:jl (wU fun w bf=>(∃x,bf=st++x)/\undWs st.length [w]=true/\Q w) (body (ws.map some++List.replicate (N-ws.length) none) st)):∃w,Q w/\dR N body ws st=.ok w st:=by
 obtain⟨w,bf,e,⟨x,rfl⟩,hu,q⟩:=h
 exact⟨w,q,yC e hu⟩
theorem gN{N:Nat}{body:FS}(h:jl (wU fun w' bf=>w'=w/\∃x,bf=st++x) (body (ws.map some++List.replicate (N-ws.length) none) st))(hu:undWs st.length [w]=true):dR N body ws st=.ok w st:=by
 obtain⟨w,bf,e,rfl,x,rfl⟩:=h
 exact yC e hu
theorem qO{N:Nat}{body:FS}{Q:Nat->List ao->Prop}(h:jl (wU fun w bf=>∃j x,w=.loc (st.length+j)/\bf=st++x/\Q j x) (body (ws.map some++List.replicate (N-ws.length) none) st)):∃j x,Q j x/\dR N body ws st=.ok (.loc (st.length+j)) (st++x):=by
 obtain⟨w,bf,e,j,x,rfl,rfl,q⟩:=h
 exact⟨j,x,q,Fd e⟩
theorem gU{q i:Nat}{lo:Int}{w:W}(h:(d8 lo q)[i]?=some w):i<q/\w=.int (lo+i):=by
 unfold d8 at h
 obtain⟨h1,h2⟩:=ak.mp h
 simp only[aC,cH]at h1
 exact⟨h1,by rw[<- h2];simp⟩
theorem wV{α:Type}{l:List α}{q:Nat}(h:q<=l.length):oZ l none (some (q:Int))=l.take q:=by
 unfold oZ;rw[HT.sIx_none,HT.sIx_nat,Nat.min_eq_left h];simp
theorem wW{α:Type}{l:List α}{q:Nat}(h:q<=l.length):oZ l (some (q:Int)) none=l.drop q:=by
 unfold oZ;rw[HT.sIx_none,HT.sIx_nat,Nat.min_eq_left h];rw[dk (by simp)]
theorem iA{q:Int}{n:Nat}(h:0<n):∃m:Nat,m<n/\q%(n:Int)=m:=by
 have h0:0<=q%(n:Int):=iG _ (by omega)
 have h1:q%(n:Int)<n:=kP _ (by omega)
 exact⟨(q%(n:Int)).toNat,by omega,by omega⟩
end
section
variable{ρ:b6}{st st1:List ao}{t u:FT}{a b k:Bool}{P:RS->Prop}{g g' fP:FS}{w:W}{ws:List W}
theorem ML(h1:t ρ st=.ok a st)(h2:u ρ st=.ok b st):bnd t u ρ st=.ok (a&&b) st:=by cases a;exact lc h1;exact gE h1 h2
theorem MM(h1:t ρ st=.ok a st)(h2:u ρ st=.ok b st):BR t u ρ st=.ok (a||b) st:=by cases a;exact gi h1 h2;exact qM h1
theorem MN(h1:t ρ st=.ok a st):Kb t ρ st=.ok (!a) st:=vF h1 rfl
theorem bR{N:Nat}{body:FS}(h:jl (wU fun w' bf=>w'=w/\bf=st) (body (ws.map some++List.replicate (N-ws.length) none) st)):dR N body ws st=.ok w st:=by
 obtain⟨w,bf,e,rfl,rfl⟩:=h
 exact oR e
end
end L2
open L2
local macro_rules | `(tactic| walk_at "ev1") => `(tactic| first
 | (with_reducible apply dJ) <;> rfl
 | (with_reducible apply vG) <;> rfl
 | with_reducible first
  | exact aU | exact a_ | exact Fe | exact Sq | exact dF | exact AR | exact kr | exact Qb
  | apply aT | apply ai | apply cY | apply nO | apply cg | apply a8 | apply aO | apply vF | apply yD
  | apply kq | apply MI | apply nP | apply yE | apply P' | apply i9 | apply Ss | apply Su | apply aW | apply i_ | apply yF | apply nQ
  | apply dg | apply ku | apply fB | apply B_ | apply pB | apply Km | apply yG | apply AQ
 | decide
 | (show List.length _ <= jY; exact ax rfl)
 | (show @Eq Nat _ _; exact rfl)
 | (show @Eq Bool _ _; exact rfl)
 | (show @Eq (Option String) _ _; exact rfl)
 | (show @Eq _ _ _; with_reducible assumption))
local macro_rules | `(tactic| walk_at "evs") => `(tactic| repeat' walk_at "ev1")
local macro_rules | `(tactic| walk_at "tst") => `(tactic| first
 | (walk_at "evs"; done)
 | (apply lc; (focus walk_at "tst"); done)
 | (apply gE; (focus walk_at "tst"); (focus walk_at "tst"); done)
 | (apply qM; (focus walk_at "tst"); done)
 | (apply gi; (focus walk_at "tst"); (focus walk_at "tst"); done))
local macro_rules | `(tactic| walk_at "go1") => `(tactic| first
 | apply aP
 | (apply ba; (focus (walk_at "evs"; done)))
 | (apply bD; (focus (walk_at "evs"; done)))
 | (apply bB; (focus walk_at "tst"))
 | (apply aM; (focus walk_at "tst"))
 | (apply iW; (focus walk_at "tst"))
 | (apply gY; (focus walk_at "tst"))
 | (apply aD; (focus (walk_at "evs"; done))))
local macro_rules | `(tactic| walk_at "go") => `(tactic| repeat walk_at "go1")
local macro_rules | `(tactic| walk_at "tb") => `(tactic| repeat' (first | with_reducible apply ML | with_reducible apply MM | with_reducible apply MN | walk_at "ev1"))
local macro_rules | `(tactic| walk_at "len") => `(tactic| (simp only [bC, e_, iD]; show _ <= 1000000; omega))
namespace L2
open PySem PySem.Spec PyProof.Rows
section
variable{ρ ρ' ρ2:b6}{st st1 cN:List ao}{fa fe:FE}{fs:FA}{g gh fP:FS}{ws:List W}{w:W}{n i:Nat}{c:Str}{cs:List Str}{P:RS->Prop}{b:Bool}
def T0(c:Str)(I:List ao->Prop):RS->Prop:=fun r=>∃ρ st,r=.ex c ρ st/\I st
theorem Js{N:Nat}{body:FS}(h:jl (T0 c fun bf=>∃x,bf=st++x) (body (ws.map some++List.replicate (N-ws.length) none) st)):dR N body ws st=.ex c st:=by
 obtain⟨ρ,bf,e,x,rfl⟩:=h
 unfold dR
 rw[e]
 simp only[rM (st:=st) (x:=x) (ws:=[]) rfl]
theorem Fh{N:Nat}{body:FS}(h:jl (HV fun _ bf=>∃x,bf=st++x) (body (ws.map some++List.replicate (N-ws.length) none) st)):dR N body ws st=.ok .non st:=by
 obtain⟨ρ,bf,e,x,rfl⟩:=h
 unfold dR
 rw[e]
 simp only[rM (st:=st) (x:=x) (ws:=[]) rfl]
theorem u7(h:P (.ex c ρ st)):jl P (aR (wM c) fP ρ st):=h
theorem Fi{F:List W->List ao->R W}(h1:fs ρ st=.ok ws st1)(h2:F ws st1=.ex c cN)(hn:ws.length=n):bX n F fs ρ st=.ex c cN:=by unfold bX;rw[h1];simp only[R.bind_ok];rw[aE hn];exact h2
theorem Fj(h:fe ρ st=.ex c st1):bM i fe ρ st=.ex c ρ st1:=by unfold bM;rw[h];rfl
theorem Fk(h:g ρ st=.nx ρ' st1):AF g cs i gh ρ st=.nx ρ' st1:=by unfold AF;rw[h]
theorem Fl(h:g ρ st=.ex c ρ' st1)(hc:c∈cs)(h2:gh (ρ'.set i (some (.loc st1.length))) (st1++[.exc c])=.nx ρ2 cN):AF g cs i gh ρ st=.nx (ρ2.set i none) cN:=by
 unfold AF;rw[h];simp only;rw[aE hc,h2];rfl
theorem Fm{f:Str->Option Bool}(h:fa ρ st=.ok (.loc n) st1)(hc:st1[n]?=some (.exc c))(hf:f c=some b):wO f fa ρ st=.ok (.bl b) st1:=by
 unfold wO;rw[h];simp only[R.bind_ok,hc,hf]
theorem Kn{p q:Bool}(h:(p==q)=b):fQ (.bl p) (.bl q) st=.ok (.bl b) st:=by rw[<- h];rfl
theorem mE(I:b6->List ao->Prop)(h:jl (HV I) (g ρ st))(h2:∀ρ st,I ρ st->jl P (fP ρ st)):jl P (aR g fP ρ st):=by
 obtain⟨ρ',bf,e,hi⟩:=h
 exact aD e (h2 _ _ hi)
end
section
variable{ρ:b6}{st st1:List ao}{fi:FI}{f:FG}{t:FT}{el:FE}{cap:List (Option Nat)}
theorem yH{ck:Option (Nat×List W)}{ρ0:b6}(hc:i7 st ck)(T:W->Bool)(Y:W->W):∀(ws gG:List W),(∀w∈ws,∃ρ',f w ρ0=some ρ'/\t ρ' st=.ok (T w) st/\(T w=true->el ρ' st=.ok (Y w) st)) ->
  m6 f t el ck ρ0 ws gG st=.ok (gG++(ws.filter T).map Y) st
 |[],gG,_=>by unfold m6;rw[aE hc];simp
 |w::ws,gG,h=>by
  obtain⟨ρ',e1,e2,e3⟩:=h w (by simp)
  have ih:=fun gG=>yH hc T Y ws gG fun w' hw'=>h w' (by simp[hw'])
  unfold m6
  rw[aE hc,e1]
  simp only[e2]
  cases hT:T w with
  |true=>
   simp only[e3 hT]
   rw[ih]
   simp[jz,hT]
  |false=>
   simp only
   rw[ih]
   simp[jz,hT]
theorem Fp{ws:List W}{ck:Option (Nat×List W)}(T:W->Bool)(Y:W->W)(h:fi ρ st=.ok (ws,ck) st1)(hl:ws.length<=jY)(hc:i7 st1 ck)
  (hs:∀w∈ws,∃ρ',f w (u5 cap ρ)=some ρ'/\t ρ' st1=.ok (T w) st1/\(T w=true->el ρ' st1=.ok (Y w) st1)):gD cap fi f t el ρ st=.ok (.loc st1.length) (st1++[.lst ((ws.filter T).map Y)]):=by
 unfold gD
 rw[h]
 simp only[R.bind_ok]
 rw[aE hl,yH hc T Y ws [] hs]
 simp only[R.bind_ok,iF,mY]
 rw[aE]
 rw[aC]
 exact aF (dy _ _) hl
theorem Jt{ws:List W}{ck:Option (Nat×List W)}(Y:W->W)(h:fi ρ st=.ok (ws,ck) st1)(hl:ws.length<=jY)(hc:i7 st1 ck)
  (hs:∀w∈ws,∃ρ',f w (u5 cap ρ)=some ρ'/\el ρ' st1=.ok (Y w) st1):gD cap fi f nL el ρ st=.ok (.loc st1.length) (st1++[.lst (ws.map Y)]):=by
 have:=Fp (fi:=fi) (f:=f) (t:=nL) (el:=el) (cap:=cap) (fun _=>true) Y h hl hc fun w hw=>by
  obtain⟨ρ',e1,e2⟩:=hs w hw
  exact⟨ρ',e1,rfl,fun _=>e2⟩
 rw[ic.mpr (fun _ _=>rfl)]at this
 exact this
theorem DB{q:Nat}{lo:Int}{w:W}(h:w∈d8 lo q):∃i:Nat,i<q/\w=.int (lo+i):=by
 unfold d8 at h
 obtain⟨i,hi,rfl⟩:=cS.mp h
 exact⟨i,eP.mp hi,rfl⟩
theorem rO{n:Nat}{ws:List W}(h:lstOf st n=some ws):kj [.loc n] st=.ok (.tup ws) st:=by unfold kj;simp only[h,dY]
theorem MO{ws xs:List W}(h:(ws++xs).length<=jY):e7 (.tup ws) (.tup xs) st=.ok (.tup (ws++xs)) st:=by simp only[e7,pq];rw[aE h]
theorem Ko{p q:Int}:Dp [.int p,.int q] st=.ok (.int (if q>p then q else p)) st:=rfl
end
open Builtin Builtin.Str
theorem vH{c:Nat}:∀ws:List (List Nat),(∀w∈ws,c∉w)->(kh [c] ws).filter (fun d=>d != c)=ws.flatten
 |[],_=>rfl
 |[x],h=>by
  have hx:c∉x:=h x (by simp)
  show x.filter _=_
  rw[ic.mpr fun d hd=>by simp;rintro rfl;exact hx hd]
  simp
 |x::y::r,h=>by
  have hx:c∉x:=h x (by simp)
  show(x++[c]++kh [c] (y::r)).filter _=_
  rw[List.filter_append,List.filter_append,vH (y::r) fun w hw=>h w (bv _ hw),ic.mpr fun d hd=>by simp;rintro rfl;exact hx hd]
  simp
theorem Ju(l:List Nat)(c:Nat):Txt.replace (tx l) (tx [c]) (tx [])=tx (l.filter fun d=>d != c):=by
 obtain⟨f,hg,hfree⟩:=StrLaws.occ_tight (tx l) (tx [c]) (by simp[tx,Str.length])
 obtain⟨f',hc⟩:=StrLaws.occ_chain (tx l) (tx [c]) ((tx l).length+1)
 have pf:=StrLaws.parts_free (tx l) c _ 0 f hg hfree
 have pj:=StrLaws.join_partsFrom (tx l) (tx [c]) _ 0 f' hc
 rw[StrLaws.sub_whole]at pj
 unfold Txt.replace
 rw[StrLaws.partsBetween_eq]
 have pe:(occurrences (tx l) (tx [c]) 0 (tx l).length ((tx l).length+1)).isEmpty=true->StrLaws.partsFrom (tx l) (tx [c]).length 0 (occurrences (tx l) (tx [c]) 0 (tx l).length ((tx l).length+1))=[tx l]:=fun h=>by
  rw[List.isEmpty_iff.mp h]
  show[strSub (tx l) 0 (tx l).length]=_
  rw[StrLaws.sub_whole]
 generalize occurrences (tx l) (tx [c]) 0 (tx l).length ((tx l).length+1)=os at pf pj pe ⊢
 have pf:∀p∈StrLaws.partsFrom (tx l) (tx [c]).length 0 os,c∉p.cps.toList:=pf
 generalize StrLaws.partsFrom (tx l) (tx [c]).length 0 os=ps at pf pj pe ⊢
 have em:ps=(ps.map fun z=>z.cps.toList).map tx:=by
  rw[bA]
  conv=>lhs;rw[<- jI ps]
  exact dQ fun z _=>(Pi z).symm
 have fr:∀w∈ps.map (fun z=>z.cps.toList),c∉w:=fun w hw=>by
  obtain⟨p,hp,rfl⟩:=cS.mp hw
  exact pf p hp
 generalize ps.map (fun z=>z.cps.toList)=ws at em fr
 subst em
 have ej:∀sep:List Nat,Str.join (tx sep) (ws.map tx)=tx (kh sep ws):=fun sep=>by
  rw[<- BK sep ws]
  show _=glued _ _
  rw[gC]
 rw[ej]at pj
 have el:kh [c] ws=l:=wz.mp pj
 have hfl:=vH ws fr
 rw[el]at hfl
 split
 ·rename_i h
  rw[show((tx [c]).length==0&&(tx []).length==0)=false from rfl,lS]at h
  have e1:=pe h
  have:ws.flatten=l:=by
   have e2:ws=[l]:=by
    cases ws with
    |nil=>cases e1
    |cons a r=>
     cases r with
     |nil=>simp only[bh,j8,List.cons.injEq,and_true]at e1;rw[wz.mp e1]
     |cons _ _=>simp at e1
   rw[e2];simp
  rw[hfl,this]
 ·rw[gC,ej,lZ,hfl]
section
variable{X:Cx}{o e:Expr}{to te:TE}{gc du p2:Pos}{j:Nat}
def Qc(to te:TE):TE:=fun σ H Q=>to σ H fun x H1=>(∃l,x=.str (tx l))/\te σ H1 fun y H2=>∃l c,x=.str (tx l)/\y=.str (tx [c])/\l.length<=1000000/\Q (.str (tx (l.filter fun d=>d != c))) H2
theorem Jv(ho:PE X o to)(he:PE X e te)
  (ja:attributeBase o "replace" X.env (eval o X.env)=eval o X.env)
  (qi:((backTo du (starEach [e,.Constant (.str (tx [])) j p2] X.env)).all (fun x=>!x.1)&&(backToKw du (keywordEach [] X.env)).all (fun x=>x.1.isSome)
   && decide ([e,.Constant (.str (tx [])) j p2].length+([]:List Keyword).length+(if ([]:List Keyword).isEmpty then 0 else 1)<30))=true)
  (jH:(gc.endLine==du.line)=true) (hs:starEach [e,.Constant (.str (tx [])) j p2] X.env=(false,eval e X.env)::starEach [.Constant (.str (tx [])) j p2] X.env) :
  PE X (.Call (.Attribute o "replace" gc) [e,.Constant (.str (tx [])) j p2] [] du) (Qc to te):=by
 intro aj s σ H Q I h
 refine mR ja qi jH rfl (i3 (ho aj s σ H _ I h) fun v s1 kt1 ⟨x,H1,I1,r1,ty,q1⟩=>?_)
 obtain⟨h1,h2⟩:=Aj I1 r1 (BL ty)
 refine⟨"str",_,F.plainAttrs_str,F.slot_str_replace,F.type_str_replace,h1,h2,?_⟩
 rw[hs]
 refine gp rfl (gO ?_)
 show wpAny _ _ (spliced ((false,eval e X.env)::backTo du (starEach [.Constant (.str (tx [])) j p2] X.env))) _ _ s1
 refine dC (i3 (he aj s1 σ H1 _ I1 q1) fun u s2 kt2 ⟨y,H2,I2,r2,l,c,ex,ey,hl,q2⟩=>?_)
 subst ex ey
 obtain⟨t,rfl⟩:=r1.up kt2
 obtain⟨t2,rfl⟩:=r2
 show wpAny _ _ (spliced ((false,eval (.Constant (.str (tx [])) j p2) X.env)::backTo du (starEach [] X.env))) _ _ s2
 refine dC (Calls.Constant_str ?_)
 show wpAny _ _ (spliced []) _ _ _
 refine fJ ?_
 obtain⟨p1,p2⟩:=t2.2 rfl
 have n1:t2.1≠0:=eE p1
 have n2:s2.toks≠0:=eE I2.pos
 have n3:t2.1≠s2.toks:=aZ p2
 have e0:(tx []).length=0:=rfl
 have e1:(1000000:Nat)<=sizeLine:=by decide
 refine call_gives F.slot_str_replace (kI _ _ _) F.entry_str_replace (F.args_str_replace_3 _ _ _)
  (gives_str_replace (tx l) (tx [c]) (tx []) t.1 t2.1 s2.toks fun _=>⟨by simp[n1,n2],by simp[n3],rfl,?_⟩) ?_
 ·rw[e0,Nat.mul_zero,qX,iH]
  unfold tooLong
  exact az (by omega)
 ·have hq:=Ju l c
  unfold Txt.replace at hq
  cases hc:((occurrences (tx l) (tx [c]) 0 (tx l).length ((tx l).length+1)).isEmpty||((tx [c]).length==0&&(tx []).length==0))
  ·rw[hc]at hq
   simp only[gl,iu]at hq ⊢
   rw[hq]
   have I3:=I2.tok (s2.toks+1)
   refine⟨?_,⟨.str _,H2,I3.tok _,I3.tkS,q2⟩⟩
   rw[iH]
   exact aF (dy _ _) (aF hl e1)
  ·rw[hc]at hq
   simp only[jC]at hq ⊢
   rw[<- hq]at q2
   exact⟨.str (tx l),H2,I2.tok _,⟨t.up (bi _),rfl⟩,q2⟩
end
section
variable{X:Cx}{o e:Expr}{fo fe:FE}{gc du p2:Pos}{j:Nat}
def Fq:W->W->List ao->R W
 |.str l,.str [c],st=>if l.length<=jY then .ok (.str (l.filter fun d=>d != c)) st else .bad
 |_,_,_=>.bad
def Cb(fo fe:FE):FE:=fun ρ st=>(fo ρ st).bind fun x st=>if vx x then(fe ρ st).bind fun y st=>Fq x y st else .bad
theorem MP{z:Str}(ho:SE X o fo)(he:SE X e fe)(hz:z=tx []:=by first|rfl|decide +kernel)
  (ja:attributeBase o "replace" X.env (eval o X.env)=eval o X.env:=by rfl)
  (qi:((backTo du (starEach [e,.Constant (.str z) j p2] X.env)).all (fun x=>!x.1)&&(backToKw du (keywordEach [] X.env)).all (fun x=>x.1.isSome)
   && decide ([e,.Constant (.str z) j p2].length+([]:List Keyword).length+(if ([]:List Keyword).isEmpty then 0 else 1)<30))=true:=by rfl)
  (jH:(gc.endLine==du.line)=true:=by rfl) (hs:starEach [e,.Constant (.str z) j p2] X.env=(false,eval e X.env)::starEach [.Constant (.str z) j p2] X.env:=by rfl) :
  SE X (.Call (.Attribute o "replace" gc) [e,.Constant (.str z) j p2] [] du) (Cb fo fe):=⟨by
 subst hz
 refine(Jv ho.h he.h ja qi jH hs).imp fun σ H Q h=>?_
 obtain⟨μ,ρ,st,l,h⟩:=h
 refine⟨μ,ρ,st,l,RK.bind h l fun μ1 st1 x v H1 p1 x1 l1 q1 h1=>?_⟩
 cases x with
 |str z=>
  rw[aE (show vx (W.str z)=true from rfl)]at h1
  refine⟨⟨z,q1.strE⟩,μ1,ρ,st1,l1,RK.bind h1 l1 fun μ2 cN y u H2 p2 x2 l2 q2 h2=>?_⟩
  unfold Fq at h2
  split at h2
  ·rename_i l' c e1
   cases e1
   split at h2
   ·rename_i hl
    exact⟨_,c,q1.strE,q2.strE,hl,h2 μ2 _ H2 (al _) eX.refl l2.sto .str⟩
   ·exact h2.elim
  ·exact h2.elim
 |_=>exact h1.elim⟩
theorem MQ{ρ:b6}{st st1 cN:List ao}{l:List Nat}{c:Nat}(h1:fo ρ st=.ok (.str l) st1)(h2:fe ρ st1=.ok (.str [c]) cN)(hl:l.length<=jY):Cb fo fe ρ st=.ok (.str (l.filter fun d=>d != c)) cN:=by
 unfold Cb
 rw[h1]
 simp only[R.bind_ok]
 rw[aE (show vx (W.str l)=true from rfl),h2]
 simp only[R.bind_ok]
 unfold Fq
 simp only
 rw[aE hl]
end
end L2
namespace P
open PySem L2
open PyProof.Rows (boot_sorted boot_set boot_ord boot_all boot_enumerate boot_int boot_str boot_bool boot_list boot_tuple boot_isinstance boot_max boot_min)
def lW(i:Nat):Stmt:=PySem.Challenge.pw_trunksay_k16_plain_going.main.body.getD i (.Pass ⟨0,0,0,0⟩)
abbrev MR:Stmt:=lW 12
abbrev AS:List Str:=["letter"]
abbrev Qd:List Str:=["letter"]
theorem Qe:bG AS Qd (aX MR):=lV
abbrev MS:Stmt:=lW 13
abbrev AT:List Str:=["letters"]
abbrev Qf:List Str:=["letters"]
theorem Qg:bG AT Qf (aX MS):=lV
abbrev MT:Stmt:=lW 14
abbrev Fs:List Str:=["exponent","power","each"]
abbrev Qh:List Str:=["exponent"]
theorem Cc:bG Fs Qh (aX MT):=lV
abbrev MU:Stmt:=lW 18
abbrev AU:List Str:=["statement"]
abbrev Qi:List Str:=["statement"]
theorem Qj:bG AU Qi (aX MU):=lV
abbrev MV:Stmt:=lW 20
abbrev AV:List Str:=["place"]
abbrev Ql:List Str:=["place"]
theorem Qm:bG AV Ql (aX MV):=lV
abbrev MW:Stmt:=lW 21
abbrev yI:List Str:=["place"]
abbrev Qn:List Str:=["place"]
theorem Qo:bG yI Qn (aX MW):=lV
abbrev MX:Stmt:=lW 22
abbrev AW:List Str:=["tree","links","tops","number","place","right","left"]
abbrev Qp:List Str:=["tree"]
theorem uu:bG AW Qp (aX MX):=lV
abbrev MY:Stmt:=lW 23
abbrev Ft:List Str:=["tree","lefts","rights","number","pair"]
abbrev Qq:List Str:=["tree"]
theorem yJ:bG Ft Qq (aX MY):=lV
abbrev MZ:Stmt:=lW 24
abbrev DC:List Str:=["ups","place"]
abbrev Qr:List Str:=["ups","place"]
theorem Qs:bG DC Qr (aX MZ):=lV
abbrev M0:Stmt:=lW 25
abbrev u8:List Str:=["tree","place"]
abbrev Qt:List Str:=["tree","place"]
theorem Qu:bG u8 Qt (aX M0):=lV
abbrev Fu:Stmt:=lW 27
abbrev AX:List Str:=["tree","letter"]
abbrev Kp:List Str:=["tree","letter"]
theorem M1:bG AX Kp (aX Fu):=lV
abbrev Fv:Stmt:=lW 28
abbrev wX:List Str:=["tree","letter","places","chosen","number","dressed","place","marks"]
abbrev Kq:List Str:=["tree","letter","places"]
theorem nR:bG wX Kq (aX Fv):=lV
abbrev Fw:Stmt:=lW 31
abbrev uv:List Str:=["letter","size"]
abbrev Kr:List Str:=["letter","size"]
theorem M3:bG uv Kr (aX Fw):=lV
abbrev Fx:Stmt:=lW 32
abbrev DD:List Str:=["statement","size","word"]
abbrev Fy:List Str:=["statement","size"]
theorem Fz:bG DD Fy (aX Fx):=lV
abbrev FB:Stmt:=lW 33
abbrev wY:List Str:=["letter","size","choices","place"]
abbrev Ks:List Str:=["letter","size"]
theorem wZ:bG wY Ks (aX FB):=lV
abbrev FC:Stmt:=lW 34
abbrev Jw:List Str:=["tree","number","letter"]
abbrev Kt:List Str:=["tree","number","letter"]
theorem M4:bG Jw Kt (aX FC):=lV
abbrev FD:Stmt:=lW 35
abbrev yK:List Str:=["tree","ups","low","high","below","number","up"]
abbrev Ku:List Str:=["tree","ups","low","high"]
theorem w4:bG yK Ku (aX FD):=lV
abbrev FF:Stmt:=lW 36
abbrev w5:List Str:=["statement","tree","ups","word","borne","side"]
abbrev Kv:List Str:=["statement","tree","ups"]
theorem w6:bG w5 Kv (aX FF):=lV
abbrev FH:Stmt:=lW 37
abbrev w9:List Str:=["statement","tree","ups","settling","places"]
abbrev FJ:List Str:=["statement","tree","ups"]
theorem AY:bG w9 FJ (aX FH):=lV
abbrev FK:Stmt:=lW 38
abbrev yL:List Str:=["statement","tree","ups","word"]
abbrev FL:List Str:=["statement","tree","ups"]
theorem FM:bG yL FL (aX FK):=lV
abbrev FN:Stmt:=lW 39
abbrev Jx:List Str:=["statement","tree"]
abbrev Kw:List Str:=["statement","tree"]
theorem M5:bG Jx Kw (aX FN):=lV
abbrev FP:Stmt:=lW 41
abbrev yM:List Str:=["_law_script","_law_k"]
abbrev Kx:List Str:=["_law_script","_law_k"]
theorem M6:bG yM Kx (aX FP):=lV
abbrev FQ:Stmt:=lW 42
abbrev w_:List Str:=["_law_cell_here","_law_k","_law_salt","_law_first"]
abbrev Ky:List Str:=["_law_cell_here","_law_k","_law_salt"]
theorem FR:bG w_ Ky (aX FQ):=lV
abbrev FU:Stmt:=lW 43
abbrev xa:List Str:=["_law_cell_here","_law_many","_law_salt","_law_found","_law_rest","_law_k"]
abbrev Kz:List Str:=["_law_cell_here","_law_many","_law_salt"]
theorem rP:bG xa Kz (aX FU):=lV
abbrev FV:Stmt:=lW 44
abbrev yN:List Str:=["_law_cell_here","_law_many","_law_salt","_law_rest","_law_found","_law_d","_law_at"]
abbrev KA:List Str:=["_law_cell_here","_law_many","_law_salt"]
theorem p8:bG yN KA (aX FV):=lV
abbrev FW:Stmt:=lW 45
abbrev xb:List Str:=["_law_pool_here","_law_number"]
abbrev KB:List Str:=["_law_pool_here","_law_number"]
theorem M7:bG xb KB (aX FW):=lV
abbrev FX:Stmt:=lW 46
abbrev yO:List Str:=["_law_draws_here","_law_pool_here","_law_found","_law_high","_law_d","_law_branches"]
abbrev KC:List Str:=["_law_draws_here","_law_pool_here"]
theorem nS:bG yO KC (aX FX):=lV
abbrev FY:Stmt:=lW 47
abbrev yP:List Str:=["_law_draws_here","_law_pool_here","_law_most","_law_found","_law_high","_law_d","_law_branches"]
abbrev KD:List Str:=["_law_draws_here","_law_pool_here","_law_most"]
theorem nT:bG yP KD (aX FY):=lV
abbrev FZ:Stmt:=lW 48
abbrev yQ:List Str:=["_law_draws_here","_law_pool_here","_law_words","_law_heap","_law_k","_law_word","_law_a","_law_b","_law_last"]
abbrev KF:List Str:=["_law_draws_here","_law_pool_here"]
theorem mF:bG yQ KF (aX FZ):=lV
abbrev F0:Stmt:=lW 49
abbrev xc:List Str:=["_law_draws_here","_law_many","_law_pool_here","_law_found","_law_k"]
abbrev KG:List Str:=["_law_draws_here","_law_many","_law_pool_here"]
theorem AZ:bG xc KG (aX F0):=lV
abbrev F1:Stmt:=lW 50
abbrev yR:List Str:=["_law_script","_law_pool_here","_law_sizes","_law_great","_law_small","_law_other","_law_going","_law_plain_here","_law_said_here","_law_many"]
abbrev KH:List Str:=["_law_script","_law_pool_here"]
theorem gB:bG yR KH (aX F1):=lV
abbrev F2:Stmt:=lW 51
abbrev yS:List Str:=["_law_script","_law_sizes","_law_pool_here","_law_many","_law_pairs","_law_said_here","_law_draws_here"]
abbrev KI:List Str:=["_law_script"]
theorem lL:bG yS KI (aX F2):=lV
abbrev F3:Stmt:=lW 52
abbrev xf:List Str:=["_law_tree_here","_law_heap","_law_found","_law_k","_law_left","_law_right"]
abbrev KJ:List Str:=["_law_tree_here"]
theorem nU:bG xf KJ (aX F3):=lV
abbrev F4:Stmt:=lW 53
abbrev yT:List Str:=["_law_said_here","_law_many"]
abbrev F5:List Str:=["_law_said_here","_law_many"]
theorem M8:bG yT F5 (aX F4):=lV
abbrev F6:Stmt:=lW 54
abbrev yU:List Str:=["_law_said_here","_law_links_here","_law_under_here","_law_worn_here","_law_word","_law_ways_here","_law_way","_law_kept"]
abbrev F7:List Str:=["_law_said_here","_law_links_here","_law_under_here","_law_worn_here"]
theorem rQ:bG yU F7 (aX F6):=lV
abbrev F8:Stmt:=lW 55
abbrev xg:List Str:=["_law_said_here","_law_links_here","_law_under_here","_law_worn_here","_law_first","_law_other","_law_reach","_law_k"]
abbrev KL:List Str:=["_law_said_here","_law_links_here","_law_under_here","_law_worn_here"]
theorem mG:bG xg KL (aX F8):=lV
abbrev F9:Stmt:=lW 56
abbrev xh:List Str:=["_law_links_here","_law_found","_law_left","_law_right","_law_below"]
abbrev KM:List Str:=["_law_links_here"]
theorem p9:bG xh KM (aX F9):=lV
abbrev F_:Stmt:=lW 57
abbrev yV:List Str:=["_law_tree_here","_law_found","_law_k","_law_letter"]
abbrev KN:List Str:=["_law_tree_here"]
theorem xi:bG yV KN (aX F_):=lV
abbrev F':Stmt:=lW 58
abbrev A8:List Str:=["_law_said_here","_law_tree_here","_law_links_here"]
abbrev KO:List Str:=["_law_said_here","_law_tree_here"]
theorem Ga:bG A8 KO (aX F'):=lV
abbrev Gb:Stmt:=lW 59
abbrev A9:List Str:=["_law_said_here","_law_tree_here","_law_told","e"]
abbrev KP:List Str:=["_law_said_here","_law_tree_here"]
theorem uw:bG A9 KP (aX Gb):=lV
abbrev Gd:Stmt:=lW 60
abbrev yW:List Str:=["_law_found","_law_due_here","_law_k"]
abbrev Ge:List Str:=["_law_found","_law_due_here"]
theorem Gf:bG yW Ge (aX Gd):=lV
abbrev qP:Stmt:=lW 61
abbrev Qw:List Str:=["_law_script","_law_said_here","_law_tree_here","_law_due_here","_law_opposite"]
abbrev Gh:List Str:=["_law_script"]
theorem rR:bG Qw Gh (aX qP):=lV
structure Bl(mg:Str->Option Value):Prop where
 ValueError:mg "ValueError"=Option.none
 all:mg "all"=Option.none
 bool:mg "bool"=Option.none
 dict:mg "dict"=Option.none
 enumerate:mg "enumerate"=Option.none
 int:mg "int"=Option.none
 isinstance:mg "isinstance"=Option.none
 len:mg "len"=Option.none
 list:mg "list"=Option.none
 max:mg "max"=Option.none
 range:mg "range"=Option.none
 set:mg "set"=Option.none
 sorted:mg "sorted"=Option.none
 str:mg "str"=Option.none
 tuple:mg "tuple"=Option.none
def nV:W:=.tup [.str [105,110],.str [108,101,102,116],.str [114,105,103,104,116],.str [98,101,108,111,119]]
def vI:W:=.tup [.str [97,110,100],.str [111,114]]
def sH:W:=.int 4096
structure Gc(K:Frag)(mg:Str->Option Value):Prop where
 TWO_LETTERED:∃u v,mg "TWO_LETTERED"=some u/\cO 0 v u/\∀μ H,bE K μ H nV v
 JOINING:∃u v,mg "JOINING"=some u/\cO 0 v u/\∀μ H,bE K μ H vI v
 MOST_WAYS:∃u v,mg "MOST_WAYS"=some u/\cO 0 v u/\∀μ H,bE K μ H sH v
abbrev pD:List Str:=["TrunkError","NoPlace","TooGreat"]
def iX:Str->Option Bool:=fun c=>if c="TrunkError" then some false else if c="NoPlace" then some false else if c="TooGreat" then some true else none
def vJ:Str->Option Bool:=fun c=>if c="TrunkError" then some false else if c="NoPlace" then some true else if c="TooGreat" then some false else none
def gz:Str->Option Bool:=fun c=>if c="TrunkError" then some true else if c="NoPlace" then some true else if c="TooGreat" then some true else none
theorem Jy:bootBuiltins "ValueError"=some (.type "ValueError"):=by first|rfl|kernel_rfl|decide +kernel
structure J8(K:Frag)(mg:Str->Option Value):Prop where
 TrunkError:Jg K mg "TrunkError"
 NoPlace:Jg K mg "NoPlace"
 TooGreat:Jg K mg "TooGreat"
 isi_TooGreat:∃Ta,mg "TooGreat"=some (.ref Ta)/\E3 K mg (.ref Ta) iX
 isi_t0:∃A0,∃A1,∃A2,∃A3,∃A4,∃A5,∃A6,∃A7,mg "NoTree"=some (.ref A0)/\mg "NoStatement"=some (.ref A1)/\mg "NoPlace"=some (.ref A2)/\mg "NoNumber"=some (.ref A3)/\mg "NoName"=some (.ref A4)/\mg "NoLine"=some (.ref A5)/\mg "NothingDone"=some (.ref A6)/\mg "NothingHeld"=some (.ref A7)/\E5 K mg [A0,A1,A2,A3,A4,A5,A6,A7] vJ
 isi_ValueError:E3 K mg (.type "ValueError") gz
 catch_TrunkError:EZ K mg "TrunkError" pD
section
variable{P:Program}{w:World}{K:Frag}{mg:Str->Option Value}{base:Heap}{f:Addr}{fd:FuncData}
def Sv:FS:=(cK (pX AC AC (eC (.str [97])) (ag 0) (eC (.str [122]))))
def A_:List W->List ao->R W:=dR 1 Sv
theorem Qx(F:jM K "is_small" "is_small" MR f fd)  :eK P w K mg base (j' P w) 1 f fd Qd (k9 K mg 1 A_):=
 cM (k:=0) F Qe rfl fun gk A outer s H E hr=>(aH (be (Jd EV EV cm (ae 0) cm)))
def Sw:FS:=(cK (Oy sB (eC (.str [])) (ah (qH (ag 0)) aJ)))
def Gi:List W->List ao->R W:=dR 1 Sw
theorem Qy(F:jM K "in_order" "in_order" MS f fd)(B:Bl mg) :eK P w K mg base (j' P w) 1 f fd Qf (k9 K mg 1 Gi):=
 cM (k:=0) F Qg rfl fun gk A outer s H E hr=>(aH (be (P0 PySem.F.slot_str_join PySem.F.type_str_join B2 cm (aa (Dt B.sorted B.set (ae 0)) av))))
def Qz:FS:=(aR (bM 1 (eI 1)) (aR (jg (dI (ah (ag 0) aJ)) (ie 2) (bM 1 (e2 iV (ag 1) (eI 2)))) (cK (ag 1))))
def Gj:List W->List ao->R W:=dR 3 Qz
theorem QB(F:jM K "two_to" "two_to" MT f fd)(B:Bl mg) :eK P w K mg base (j' P w) 1 f fd Qh (k9 K mg 1 Gj):=
 cM (k:=0) F Cc rfl fun gk A outer s H E hr=>(aA (sS 1 Cc au) (aA (fS (fX B.range (aa (ae 0) av)) (sG 2 Cc) (aH (sS 1 Cc (bg iN (ae 1) au)))) (aH (be (ae 1)))))
def Sx:FS:=(cK (HR (e2 fQ (e2 bp (ag 0) (eI 0)) (eC (.str [111,110,101]))) (e2 (sV false) (e2 bp (ag 0) (eI 0)) (eC nV))))
def A':List W->List ao->R W:=dR 1 Sx
theorem QC(F:jM K "is_plain" "is_plain" MU f fd)(G:Gc K mg) :eK P w K mg base (j' P w) 1 f fd Qi (k9 K mg 1 A'):=
 cM (k:=0) F Qj rfl fun gk A outer s H E hr=>(aH (be (IV (jR (eU hr) (a9 (ae 0) au) cm) (mX (jR (t7 hr) (a9 (ae 0) au) (Mp G.TWO_LETTERED))))))
def Sy:FS:=(cK (e2 (sV false) (e2 bp (ag 0) (eI 0)) (eN (ah (eI 1) (ah (eI 3) aJ)))))
def xj:List W->List ao->R W:=dR 1 Sy
theorem QD(F:jM K "has_left" "has_left" MV f fd)  :eK P w K mg base (j' P w) 1 f fd Ql (k9 K mg 1 xj):=
 cM (k:=0) F Qm rfl fun gk A outer s H E hr=>(aH (be (jR (t7 hr) (a9 (ae 0) au) (dh (aa au (aa au av))))))
def Sz:FS:=(cK (e2 (sV false) (e2 bp (ag 0) (eI 0)) (eN (ah (eI 2) (ah (eI 3) aJ)))))
def xk:List W->List ao->R W:=dR 1 Sz
theorem QF(F:jM K "has_right" "has_right" MW f fd)  :eK P w K mg base (j' P w) 1 f fd Qn (k9 K mg 1 xk):=
 cM (k:=0) F Qo rfl fun gk A outer s H E hr=>(aH (be (jR (t7 hr) (a9 (ae 0) au) (dh (aa au (aa au av))))))
def QH:FS:=(aR (bM 1 (kW aJ)) (aR (bM 2 (kW aJ)) (aR (jg (lJ (ah (ag 0) aJ)) (Ja 2 (g8 (ie 3) (g8 (ie 4) sA))) (aR (bM 5 (HS (dA (bX 1 xk (ah (ag 4) aJ))) (pV rG (ag 2) aJ) (eC .non))) (aR (bM 6 (HS (dA (bX 1 xj (ah (ag 4) aJ))) (pV rG (ag 2) aJ) (eC .non))) (aR (gs (pV cv (ag 2) (ah (ag 3) aJ))) (gs (pV cv (ag 1) (ah (eN (ah (ag 6) (ah (ag 5) aJ))) aJ))))))) (cK (cw kj (ah (ag 1) aJ))))))
def Gk:List W->List ao->R W:=dR 7 QH
theorem QJ(F:jM K "links_of" "links_of" MX f fd)(B:Bl mg)(Oc:b8 P w K mg base 1 "has_left" 1 xj)(Oj:b8 P w K mg base 1 "has_right" 1 xk):eK P w K mg base (j' P w) 2 f fd Qp (k9 K mg 1 Gk):=
 cM (k:=1) F uu rfl fun gk A outer s H E hr=>(aA (sS 1 uu (ji av)) (aA (sS 2 uu (ji av)) (aA (fS (tf B.enumerate (aa (ae 0) av)) (rE rfl (gu (sG 3 uu) (gu (sG 4 uu) oM))) (aA (sS 5 uu (EG (iJ (bz Oj hr (by omega) (aa (ae 4) av))) (vy PySem.F.slot_list_pop PySem.F.type_list_pop rH (ae 2)) tY)) (aA (sS 6 uu (EG (iJ (bz Oc hr (by omega) (aa (ae 4) av))) (vy PySem.F.slot_list_pop PySem.F.type_list_pop rH (ae 2)) tY)) (aA (fF (o_ PySem.F.slot_list_append PySem.F.type_list_append dO (ae 2) (aa (ae 3) av))) (aH (fF (o_ PySem.F.slot_list_append PySem.F.type_list_append dO (ae 1) (aa (dh (aa (ae 6) (aa (ae 5) av))) av)))))))) (aH (be (ki oK B.tuple gR (aa (ae 1) av)))))))
def M9:FS:=(aR (wI (gD [none] (dZ (ag 0)) (ie 0) nL (eC .non)) (ie 1)) (aR (wI (gD [none] (dZ (ag 0)) (ie 0) nL (eC .non)) (ie 2)) (aR (jg (lJ (ah (bX 1 Gk (ah (ag 0) aJ)) aJ)) (Ja 2 (g8 (ie 3) (g8 (ie 4) sA))) (aR (fR (dA (ii (e2 bp (ag 4) (eI 0)))) (o9 (ag 1) (e2 bp (ag 4) (eI 0)) (ag 3) k8) b7) (fR (dA (ii (e2 bp (ag 4) (eI 1)))) (o9 (ag 2) (e2 bp (ag 4) (eI 1)) (ag 3) k8) b7))) (cK (eN (ah (ag 1) (ah (ag 2) aJ)))))))
def Gm:List W->List ao->R W:=dR 5 M9
theorem QK(F:jM K "ups_of" "ups_of" MY f fd)(B:Bl mg)(N9:b8 P w K mg base 2 "links_of" 1 Gk):eK P w K mg base (j' P w) 3 f fd Qq (k9 K mg 1 Gm):=
 cM (k:=2) F yJ rfl fun gk A outer s H E hr=>(aA (pW (sG 1 yJ) (m:=0) (nm:=["place"]) (cap:=[none]) (by first|rfl|kernel_rfl) rfl (iL (ae 0)) (fun _ _ _ _ _=>(sC 0)) (fun _ _ _ _ _=>j4) (fun _ _ _ _ _=>tY)) (aA (pW (sG 2 yJ) (m:=0) (nm:=["place"]) (cap:=[none]) (by first|rfl|kernel_rfl) rfl (iL (ae 0)) (fun _ _ _ _ _=>(sC 0)) (fun _ _ _ _ _=>j4) (fun _ _ _ _ _=>tY)) (aA (fS (tf B.enumerate (aa (bz N9 hr (by omega) (aa (ae 0) av)) av)) (rE rfl (gu (sG 3 yJ) (gu (sG 4 yJ) oM))) (aA (bV (mw (a9 (ae 4) au)) (aH (lI pU (ae 3) (ae 1) (a9 (ae 4) au))) bO) (aH (bV (mw (a9 (ae 4) au)) (aH (lI pU (ae 3) (ae 2) (a9 (ae 4) au))) bO)))) (aH (be (dh (aa (ae 1) (aa (ae 2) av))))))))
def SC:FS:=(cK (HS (dA (ii (e2 bp (e2 bp (ag 0) (eI 0)) (ag 1)))) (e2 bp (e2 bp (ag 0) (eI 0)) (ag 1)) (e2 bp (e2 bp (ag 0) (eI 1)) (ag 1))))
def Gn:List W->List ao->R W:=dR 2 SC
theorem QL(F:jM K "up_from" "up_from" MZ f fd)  :eK P w K mg base (j' P w) 1 f fd Qr (k9 K mg 2 Gn):=
 cM (k:=0) F Qs rfl fun gk A outer s H E hr=>(aH (be (EG (mw (a9 (a9 (ae 0) au) (ae 1))) (a9 (a9 (ae 0) au) (ae 1)) (a9 (a9 (ae 0) au) (ae 1)))))
def QM:FS:=(fR (BR (dA (e2 Ms (ag 1) (eI 0))) (dA (e2 PN (ag 1) (cw eV (ah (ag 0) aJ))))) (wM "NoPlace") b7)
def Go:List W->List ao->R W:=dR 2 QM
theorem QN(F:jM K "check_place" "check_place" M0 f fd)(B:Bl mg)(C:J8 K mg) :eK P w K mg base (j' P w) 1 f fd Qt (k9 K mg 2 Go):=
 cM (k:=0) F Qu rfl fun gk A outer s H E hr=>(aH (bV (t0 (yi (br w_lt (ae 1) au) (tZ (br Mt (ae 1) (cF fE B.len cL (aa (ae 0) av)))))) (aH (yw C.NoPlace)) bO))
def QO:FS:=(cK (cw kj (ah (gD [none,none,some 1] (lJ (ah (ag 0) aJ)) (Ja 2 (g8 (ie 0) (g8 (ie 1) sA))) (dA (e2 (sV false) (ag 2) (e2 bp (ag 1) (eI 1)))) (ag 0)) aJ)))
def sI:List W->List ao->R W:=dR 2 QO
theorem M_(F:jM K "borne_by" "borne_by" Fu f fd)(B:Bl mg) :eK P w K mg base (j' P w) 1 f fd Kp (k9 K mg 2 sI):=
 cM (k:=0) F M1 rfl fun gk A outer s H E hr=>(aH (be (ki oK B.tuple gR (aa (nM (nm:=["number","place","letter"]) (cap:=[none,none,some 1]) (by first|rfl|kernel_rfl) rfl (tf B.enumerate (aa (ae 0) av)) (fun _ _ _ _ _=>(rE rfl (gu (sC 0) (gu (sC 1) oM)))) (fun _ _ _ _ _=>(B3 (br (t7 hr) (ae 2) (a9 (ae 1) au)))) (fun _ _ _ _ _=>(ae 0))) av))))
def KQ:FS:=(aR (bM 3 E9) (aR (jg (dZ (ag 2)) (ie 4) (aR (gs (bX 2 Go (ah (ag 0) (ah (ag 4) aJ)))) (o9 (ag 3) (ag 4) (eC (.bl true)) l6))) (aR (bM 5 (kW aJ)) (aR (jg (lJ (ah (ag 0) aJ)) (Ja 2 (g8 (ie 4) (g8 (ie 6) sA))) (aR (bM 7 (Cb (e2 bp (ag 6) (eI 1)) (ag 1))) (aR (fR (dA (e2 (Dv false) (ag 4) (ag 3))) (bM 7 (bX 1 Gi (ah (e2 e7 (ag 7) (ag 1)) aJ))) b7) (gs (pV cv (ag 5) (ah (eN (ah (e2 bp (ag 6) (eI 0)) (ah (ag 7) aJ))) aJ)))))) (cK (cw kj (ah (ag 5) aJ)))))))
def vK:List W->List ao->R W:=dR 8 KQ
theorem M'(F:jM K "dressed_in" "dressed_in" Fv f fd)(B:Bl mg)(Oq:b8 P w K mg base 1 "check_place" 2 Go)(Ou:b8 P w K mg base 1 "in_order" 1 Gi):eK P w K mg base (j' P w) 2 f fd Kq (k9 K mg 3 vK):=
 cM (k:=1) F nR rfl fun gk A outer s H E hr=>(aA (sS 3 nR E_) (aA (fS (iL (ae 2)) (sG 4 nR) (aA (fF (bz Oq hr (by omega) (aa (ae 0) (aa (ae 4) av)))) (aH (lI (AH hr) tX (ae 3) (ae 4))))) (aA (sS 5 nR (ji av)) (aA (fS (tf B.enumerate (aa (ae 0) av)) (rE rfl (gu (sG 4 nR) (gu (sG 6 nR) oM))) (aA (sS 7 nR (MP (a9 (ae 6) au) (ae 1))) (aA (bV (br (P9 hr (t7 hr)) (ae 4) (ae 3)) (aH (sS 7 nR (bz Ou hr (by omega) (aa (bg eO (ae 7) (ae 1)) av)))) bO) (aH (fF (o_ PySem.F.slot_list_append PySem.F.type_list_append dO (ae 5) (aa (dh (aa (a9 (ae 6) au) (aa (ae 7) av))) av))))))) (aH (be (ki oK B.tuple gR (aa (ae 5) av))))))))
def QP:FS:=(cK (HS (dA (bX 1 A_ (ah (ag 0) aJ))) (cw Dp (ah (ag 1) (ah (eI 1) aJ))) (bX 1 Gj (ah (ag 1) aJ))))
def yX:List W->List ao->R W:=dR 2 QP
theorem Na(F:jM K "choices_many" "choices_many" Fw f fd)(B:Bl mg)(DN:b8 P w K mg base 1 "is_small" 1 A_)(N2:b8 P w K mg base 1 "two_to" 1 Gj):eK P w K mg base (j' P w) 2 f fd Kr (k9 K mg 2 yX):=
 cM (k:=1) F M3 rfl fun gk A outer s H E hr=>(aH (be (EG (iJ (bz DN hr (by omega) (aa (ae 0) av))) (cF Kf B.max boot_max (aa (ae 1) (aa au av))) (bz N2 hr (by omega) (aa (ae 1) av)))))
def vL(CP:List W->List ao->R W):FS:=(aR (bM 2 (e2 bp (ag 0) (eI 0))) (aR (fR (dA (bX 1 A' (ah (ag 0) aJ))) (cK (eI 1)) b7) (aR (fR (dA (e2 fQ (ag 2) (eC (.str [110,111,116])))) (cK (bX 2 CP (ah (e2 bp (ag 0) (eI 1)) (ah (ag 1) aJ)))) b7) (aR (fR (dA (e2 (sV false) (ag 2) (eC vI))) (cK (e2 e7 (bX 2 CP (ah (e2 bp (ag 0) (eI 1)) (ah (ag 1) aJ))) (bX 2 CP (ah (e2 bp (ag 0) (eI 2)) (ah (ag 1) aJ))))) b7) (cK (e2 yB (bX 2 CP (ah (e2 bp (ag 0) (eI 2)) (ah (ag 1) aJ))) (bX 2 yX (ah (e2 bp (ag 0) (eI 1)) (ah (ag 1) aJ)))))))))
def pE:Nat->List W->List ao->R W
 |0=>fun _ _=>.bad
 |k+1=>dR 3 (vL (pE k))
theorem Cd{Hz:Addr}{Os:FuncData}(wb:jM K "ways_of" "ways_of" Fx Hz Os)(zM:mg "ways_of"=some (.ref Hz))(G:Gc K mg)(CI:b8 P w K mg base 2 "choices_many" 2 yX)(zB:b8 P w K mg base 1 "is_plain" 1 A'):∀k:Nat,b8 P w K mg base (2+k) "ways_of" 2 (pE k)
 |0=>l5 (ps:=Fy) wb zM rfl (fun _ _ _ _ _ _ us hl=>match us,hl with|[_,_],_=>rfl)
 |k+1=>by
  have sM:=Cd wb zM G CI zB k
  exact k_ (ps:=Fy) wb zM rfl (fun _ _ _ _ _ _ us hl=>match us,hl with|[_,_],_=>rfl) (cM (k:=2+k) wb Fz rfl fun gk A outer s H E hr=>(aA (sS 2 Fz (a9 (ae 0) au)) (aA (bV (iJ (bz zB hr (by omega) (aa (ae 0) av))) (aH (be au)) bO) (aA (bV (br (eU hr) (ae 2) cm) (aH (be (bz sM hr (by omega) (aa (a9 (ae 0) au) (aa (ae 1) av))))) bO) (aA (bV (br (t7 hr) (ae 2) (Mp G.JOINING)) (aH (be (bg eO (bz sM hr (by omega) (aa (a9 (ae 0) au) (aa (ae 1) av))) (bz sM hr (by omega) (aa (a9 (ae 0) au) (aa (ae 1) av)))))) bO) (aH (be (bg AM (bz sM hr (by omega) (aa (a9 (ae 0) au) (aa (ae 1) av))) (bz CI hr (by omega) (aa (a9 (ae 0) au) (aa (ae 1) av)))))))))))
def KR:FS:=(aR (fR (dA (bX 1 A_ (ah (ag 0) aJ))) (cK (gD [none] (dI (ah (ag 1) aJ)) (ie 0) nL (eN (ah (ag 0) aJ)))) b7) (aR (bM 2 (kW (ah (eN aJ) aJ))) (aR (jg (dI (ah (ag 1) aJ)) (ie 3) (bM 2 (e2 e7 (ag 2) (gD [none,some 3] (dZ (ag 2)) (ie 0) nL (e2 e7 (ag 0) (eN (ah (ag 1) aJ))))))) (cK (ag 2)))))
def yY:List W->List ao->R W:=dR 4 KR
theorem Nb(F:jM K "choices_of" "choices_of" FB f fd)(B:Bl mg)(DN:b8 P w K mg base 1 "is_small" 1 A_):eK P w K mg base (j' P w) 2 f fd Ks (k9 K mg 2 yY):=
 cM (k:=1) F wZ rfl fun gk A outer s H E hr=>(aA (bV (iJ (bz DN hr (by omega) (aa (ae 0) av))) (aH (be (nM (nm:=["place"]) (cap:=[none]) (by first|rfl|kernel_rfl) rfl (fX B.range (aa (ae 1) av)) (fun _ _ _ _ _=>(sC 0)) (fun _ _ _ _ _=>j4) (fun _ _ _ _ _=>(dh (aa (ae 0) av)))))) bO) (aA (sS 2 wZ (ji (aa (dh av) av))) (aA (fS (fX B.range (aa (ae 1) av)) (sG 3 wZ) (aH (sS 2 wZ (bg eO (ae 2) (nM (nm:=["chosen","place"]) (cap:=[none,some 3]) (by first|rfl|kernel_rfl) rfl (iL (ae 2)) (fun _ _ _ _ _=>(sC 0)) (fun _ _ _ _ _=>j4) (fun _ _ _ _ _=>(bg eO (ae 0) (dh (aa (ae 1) av))))))))) (aH (be (ae 2))))))
def QQ:FS:=(cK (pS (ii (ag 1)) (e2 (sV false) (ag 2) (e2 bp (e2 bp (ag 0) (ag 1)) (eI 1)))))
def m7:List W->List ao->R W:=dR 3 QQ
theorem Nc(F:jM K "bears" "bears" FC f fd)  :eK P w K mg base (j' P w) 1 f fd Kt (k9 K mg 3 m7):=
 cM (k:=0) F M4 rfl fun gk A outer s H E hr=>(aH (be (qB (EI (ae 1)) (mX (jR (t7 hr) (ae 2) (a9 (a9 (ae 0) (ae 1)) au))))))
def KS:FS:=(aR (bM 4 (gD [none] (dZ (ag 0)) (ie 0) nL (eC (.bl false)))) (aR (jg (uj (ah (e2 rC (cw eV (ah (ag 0) aJ)) (eI 1)) (ah (nN (eI 1)) (ah (nN (eI 1)) aJ)))) (ie 5) (aR (bM 6 (bX 2 Gn (ah (ag 1) (ah (ag 5) aJ)))) (o9 (ag 4) (ag 5) (pS (ii (ag 6)) (HR (e2 bp (ag 4) (ag 6)) (bX 3 m7 (ah (ag 0) (ah (ag 6) (ah (ag 3) aJ)))))) k8))) (cK (cw wL (ah (gD [none,some 4] (dZ (bX 2 sI (ah (ag 0) (ah (ag 2) aJ)))) (ie 0) nL (e2 bp (ag 1) (ag 0))) aJ)))))
def yZ:List W->List ao->R W:=dR 7 KS
theorem Nd(F:jM K "all_below" "all_below" FD f fd)(B:Bl mg)(uL:b8 P w K mg base 1 "bears" 3 m7)(v7:b8 P w K mg base 1 "borne_by" 2 sI)(Oh:b8 P w K mg base 1 "up_from" 2 Gn):eK P w K mg base (j' P w) 2 f fd Ku (k9 K mg 4 yZ):=
 cM (k:=1) F w4 rfl fun gk A outer s H E hr=>(aA (sS 4 w4 (nM (nm:=["place"]) (cap:=[none]) (by first|rfl|kernel_rfl) rfl (iL (ae 0)) (fun _ _ _ _ _=>(sC 0)) (fun _ _ _ _ _=>j4) (fun _ _ _ _ _=>tX))) (aA (fS (Jh B.range (aa (bg qD (cF fE B.len cL (aa (ae 0) av)) au) (aa (py au) (aa (py au) av)))) (sG 5 w4) (aA (sS 6 w4 (bz Oh hr (by omega) (aa (ae 1) (aa (ae 5) av)))) (aH (lI pU (qB (EI (ae 6)) (mX (IV (a9 (ae 4) (ae 6)) (mX (bz uL hr (by omega) (aa (ae 0) (aa (ae 6) (aa (ae 3) av)))))))) (ae 4) (ae 5))))) (aH (be (cF EX B.all boot_all (aa (nM (nm:=["number","below"]) (cap:=[none,some 4]) (by first|rfl|kernel_rfl) rfl (iL (bz v7 hr (by omega) (aa (ae 0) (aa (ae 2) av)))) (fun _ _ _ _ _=>(sC 0)) (fun _ _ _ _ _=>j4) (fun _ _ _ _ _=>(a9 (ae 1) (ae 0)))) av))))))
def KU:FS:=(aR (bM 3 (e2 bp (ag 0) (eI 0))) (aR (bM 4 (bX 2 sI (ah (ag 1) (ah (e2 bp (ag 0) (eI 1)) aJ)))) (aR (fR (dA (e2 fQ (ag 3) (eC (.str [111,110,101])))) (cK (e2 fQ (cw eV (ah (ag 4) aJ)) (eI 1))) b7) (aR (fR (dA (e2 fQ (ag 3) (eC (.str [105,110])))) (cK (cw wL (ah (gD [none,some 1,some 0] (dZ (ag 4)) (ie 0) nL (bX 3 m7 (ah (ag 1) (ah (ag 0) (ah (e2 bp (ag 2) (eI 2)) aJ))))) aJ))) b7) (aR (fR (dA (e2 fQ (ag 3) (eC (.str [98,101,108,111,119])))) (cK (bX 4 yZ (ah (ag 1) (ah (ag 2) (ah (e2 bp (ag 0) (eI 1)) (ah (e2 bp (ag 0) (eI 2)) aJ)))))) b7) (aR (bM 5 (HS (dA (e2 fQ (ag 3) (eC (.str [108,101,102,116])))) (e2 bp (ag 2) (eI 0)) (e2 bp (ag 2) (eI 1)))) (cK (cw wL (ah (gD [none,some 1,some 5,some 0] (dZ (ag 4)) (ie 0) nL (bX 3 m7 (ah (ag 1) (ah (e2 bp (ag 2) (ag 0)) (ah (e2 bp (ag 3) (eI 2)) aJ))))) aJ)))))))))
def y0:List W->List ao->R W:=dR 6 KU
theorem Nf(F:jM K "plain_true" "plain_true" FF f fd)(B:Bl mg)(Hk:b8 P w K mg base 2 "all_below" 4 yZ)(uL:b8 P w K mg base 1 "bears" 3 m7)(v7:b8 P w K mg base 1 "borne_by" 2 sI):eK P w K mg base (j' P w) 3 f fd Kv (k9 K mg 3 y0):=
 cM (k:=2) F w6 rfl fun gk A outer s H E hr=>(aA (sS 3 w6 (a9 (ae 0) au)) (aA (sS 4 w6 (bz v7 hr (by omega) (aa (ae 1) (aa (a9 (ae 0) au) av)))) (aA (bV (br (eU hr) (ae 3) cm) (aH (be (jR (eU hr) (cF fE B.len cL (aa (ae 4) av)) au))) bO) (aA (bV (br (eU hr) (ae 3) cm) (aH (be (cF EX B.all boot_all (aa (nM (nm:=["number","tree","statement"]) (cap:=[none,some 1,some 0]) (by first|rfl|kernel_rfl) rfl (iL (ae 4)) (fun _ _ _ _ _=>(sC 0)) (fun _ _ _ _ _=>j4) (fun _ _ _ _ _=>(bz uL hr (by omega) (aa (ae 1) (aa (ae 0) (aa (a9 (ae 2) au) av)))))) av)))) bO) (aA (bV (br (eU hr) (ae 3) cm) (aH (be (bz Hk hr (by omega) (aa (ae 1) (aa (ae 2) (aa (a9 (ae 0) au) (aa (a9 (ae 0) au) av))))))) bO) (aA (sS 5 w6 (EG (br (eU hr) (ae 3) cm) (a9 (ae 2) au) (a9 (ae 2) au))) (aH (be (cF EX B.all boot_all (aa (nM (nm:=["number","tree","side","statement"]) (cap:=[none,some 1,some 5,some 0]) (by first|rfl|kernel_rfl) rfl (iL (ae 4)) (fun _ _ _ _ _=>(sC 0)) (fun _ _ _ _ _=>j4) (fun _ _ _ _ _=>(bz uL hr (by omega) (aa (ae 1) (aa (a9 (ae 2) (ae 0)) (aa (a9 (ae 3) au) av)))))) av))))))))))
def KW(Lg:List W->List ao->R W)(uM:List W->List ao->R W):FS:=(aR (bM 3 (e2 fQ (e2 bp (ag 0) (eI 0)) (eC (.str [115,111,109,101])))) (aR (jg (dZ (bX 2 yY (ah (e2 bp (ag 0) (eI 1)) (ah (cw eV (ah (ag 1) aJ)) aJ)))) (ie 4) (fR (dA (e2 fQ (bX 3 uM (ah (e2 bp (ag 0) (eI 2)) (ah (bX 3 vK (ah (ag 1) (ah (e2 bp (ag 0) (eI 1)) (ah (ag 4) aJ)))) (ah (ag 2) aJ)))) (ag 3))) (cK (ag 3)) b7)) (cK (yj (ag 3)))))
def vM(Lg:List W->List ao->R W)(uM:List W->List ao->R W):FS:=(aR (bM 3 (e2 bp (ag 0) (eI 0))) (aR (fR (dA (bX 1 A' (ah (ag 0) aJ))) (cK (bX 3 y0 (ah (ag 0) (ah (ag 1) (ah (ag 2) aJ))))) b7) (aR (fR (dA (e2 fQ (ag 3) (eC (.str [110,111,116])))) (cK (yj (bX 3 uM (ah (e2 bp (ag 0) (eI 1)) (ah (ag 1) (ah (ag 2) aJ)))))) b7) (aR (fR (dA (e2 fQ (ag 3) (eC (.str [97,110,100])))) (cK (pS (bX 3 uM (ah (e2 bp (ag 0) (eI 1)) (ah (ag 1) (ah (ag 2) aJ)))) (bX 3 uM (ah (e2 bp (ag 0) (eI 2)) (ah (ag 1) (ah (ag 2) aJ)))))) b7) (aR (fR (dA (e2 fQ (ag 3) (eC (.str [111,114])))) (cK (HR (bX 3 uM (ah (e2 bp (ag 0) (eI 1)) (ah (ag 1) (ah (ag 2) aJ)))) (bX 3 uM (ah (e2 bp (ag 0) (eI 2)) (ah (ag 1) (ah (ag 2) aJ)))))) b7) (cK (bX 3 Lg (ah (ag 0) (ah (ag 1) (ah (ag 2) aJ))))))))))
def c8:Nat->(List W->List ao->R W)×(List W->List ao->R W)
 |0=>(fun _ _=>.bad,fun _ _=>.bad)
 |k+1=>(dR 5 (KW (c8 k).1 (c8 k).2),dR 4 (vM (c8 k).1 (c8 k).2))
def sJ(k:Nat):List W->List ao->R W:=(c8 k).1
def nX(k:Nat):List W->List ao->R W:=(c8 k).2
theorem ij{HJ:Addr}{Oe:FuncData}(v9:jM K "bound_true" "bound_true" FH HJ Oe)(zD:mg "bound_true"=some (.ref HJ)){HD:Addr}{Op:FuncData}(v0:jM K "goes_true" "goes_true" FK HD Op)(zI:mg "goes_true"=some (.ref HD))(B:Bl mg)(CK:b8 P w K mg base 2 "choices_of" 2 yY)(CM:b8 P w K mg base 2 "dressed_in" 3 vK)(zB:b8 P w K mg base 1 "is_plain" 1 A')(CN:b8 P w K mg base 3 "plain_true" 3 y0):∀k:Nat,b8 P w K mg base (3+k) "bound_true" 3 (sJ k)/\b8 P w K mg base (3+k) "goes_true" 3 (nX k)
 |0=>⟨l5 (ps:=FJ) v9 zD rfl (fun _ _ _ _ _ _ us hl=>match us,hl with|[_,_,_],_=>rfl),l5 (ps:=FL) v0 zI rfl (fun _ _ _ _ _ _ us hl=>match us,hl with|[_,_,_],_=>rfl)⟩
 |k+1=>by
  obtain⟨h_q18,pH⟩:=ij v9 zD v0 zI B CK CM zB CN k
  exact⟨k_ (ps:=FJ) v9 zD rfl (fun _ _ _ _ _ _ us hl=>match us,hl with|[_,_,_],_=>rfl) (cM (k:=3+k) v9 AY rfl fun gk A outer s H E hr=>(aA (sS 3 AY (jR (eU hr) (a9 (ae 0) au) cm)) (aA (fS (iL (bz CK hr (by omega) (aa (a9 (ae 0) au) (aa (cF fE B.len cL (aa (ae 1) av)) av)))) (sG 4 AY) (aH (bV (br (eU hr) (bz pH hr (by omega) (aa (a9 (ae 0) au) (aa (bz CM hr (by omega) (aa (ae 1) (aa (a9 (ae 0) au) (aa (ae 4) av)))) (aa (ae 2) av)))) (ae 3)) (aH (be (ae 3))) bO))) (aH (be (yk (ae 3))))))),k_ (ps:=FL) v0 zI rfl (fun _ _ _ _ _ _ us hl=>match us,hl with|[_,_,_],_=>rfl) (cM (k:=3+k) v0 FM rfl fun gk A outer s H E hr=>(aA (sS 3 FM (a9 (ae 0) au)) (aA (bV (iJ (bz zB hr (by omega) (aa (ae 0) av))) (aH (be (bz CN hr (by omega) (aa (ae 0) (aa (ae 1) (aa (ae 2) av)))))) bO) (aA (bV (br (eU hr) (ae 3) cm) (aH (be (yk (bz pH hr (by omega) (aa (a9 (ae 0) au) (aa (ae 1) (aa (ae 2) av))))))) bO) (aA (bV (br (eU hr) (ae 3) cm) (aH (be (qB (bz pH hr (by omega) (aa (a9 (ae 0) au) (aa (ae 1) (aa (ae 2) av)))) (mX (bz pH hr (by omega) (aa (a9 (ae 0) au) (aa (ae 1) (aa (ae 2) av)))))))) bO) (aA (bV (br (eU hr) (ae 3) cm) (aH (be (IV (bz pH hr (by omega) (aa (a9 (ae 0) au) (aa (ae 1) (aa (ae 2) av)))) (mX (bz pH hr (by omega) (aa (a9 (ae 0) au) (aa (ae 1) (aa (ae 2) av)))))))) bO) (aH (be (bz h_q18 hr (by omega) (aa (ae 0) (aa (ae 1) (aa (ae 2) av))))))))))))⟩
def Gp:FS:=(aR (fR (dA (e2 BS (bX 2 (pE 40) (ah (ag 0) (ah (cw eV (ah (ag 1) aJ)) aJ))) (eC sH))) (wM "TooGreat") b7) (cK (bX 3 (nX 40) (ah (ag 0) (ah (ag 1) (ah (bX 1 Gm (ah (ag 1) aJ)) aJ))))))
def vN:List W->List ao->R W:=dR 2 Gp
theorem Ng(F:jM K "holds" "holds" FN f fd)(B:Bl mg)(G:Gc K mg)(C:J8 K mg)(pH:b8 P w K mg base 43 "goes_true" 3 (nX 40))(N7:b8 P w K mg base 3 "ups_of" 1 Gm)(sM:b8 P w K mg base 42 "ways_of" 2 (pE 40)):eK P w K mg base (j' P w) 44 f fd Kw (k9 K mg 2 vN):=
 cM (k:=43) F M5 rfl fun gk A outer s H E hr=>(aA (bV (br sU (bz sM hr (by omega) (aa (ae 0) (aa (cF fE B.len cL (aa (ae 1) av)) av))) (Mp G.MOST_WAYS)) (aH (yw C.TooGreat)) bO) (aH (be (bz pH hr (by omega) (aa (ae 0) (aa (ae 1) (aa (bz N7 hr (by omega) (aa (ae 1) av)) av)))))))
def QR:FS:=(aR (fR (dA (e2 fQ (cw eV (ah (ag 0) aJ)) (eI 0))) (cK (eI 0)) b7) (cK (e2 bp (ag 0) (e2 dX (ag 1) (cw eV (ah (ag 0) aJ))))))
def nY:List W->List ao->R W:=dR 2 QR
theorem Nh(F:jM K "_law_cell" "_law_cell" FP f fd)(B:Bl mg) :eK P w K mg base (j' P w) 1 f fd Kx (k9 K mg 2 nY):=
 cM (k:=0) F M6 rfl fun gk A outer s H E hr=>(aA (bV (br (eU hr) (cF fE B.len cL (aa (ae 0) av)) au) (aH (be au)) bO) (aH (be (a9 (ae 0) (bg c7 (ae 1) (cF fE B.len cL (aa (ae 0) av)))))))
def QT:FS:=(aR (bM 3 (e2 dX (e2 iV (e2 e7 (e2 e7 (e2 e7 (ag 0) (e2 iV (e2 iV (eI 7) (ag 1)) (ag 1))) (e2 iV (eI 13) (ag 1))) (ag 2)) (eI 69621)) (eI 2147483647))) (cK (e2 dX (e2 iV (e2 dX (e2 e7 (e2 e7 (e2 iV (ag 3) (e2 e7 (e2 jk (ag 3) (eI 1009)) (eI 3))) (e2 iV (eI 31) (ag 1))) (ag 2)) (eI 2147483629)) (eI 48271)) (eI 1000000007))))
def vO:List W->List ao->R W:=dR 4 QT
theorem Ni(F:jM K "_law_mixed" "_law_mixed" FQ f fd)  :eK P w K mg base (j' P w) 1 f fd Ky (k9 K mg 3 vO):=
 cM (k:=0) F FR rfl fun gk A outer s H E hr=>(aA (sS 3 FR (bg c7 (bg iN (bg eO (bg eO (bg eO (ae 0) (bg iN (bg iN au (ae 1)) (ae 1))) (bg iN au (ae 1))) (ae 2)) au) au)) (aH (be (bg c7 (bg iN (bg c7 (bg eO (bg eO (bg iN (ae 3) (bg eO (bg iK (ae 3) au) au)) (bg iN au (ae 1))) (ae 2)) au) au) au))))
def KY:FS:=(aR (bM 3 (kW aJ)) (aR (bM 4 (eI 0)) (aR (fR (dA (e2 PN (ag 0) (e2 PK (eI 10) (eI 18)))) (bM 4 (ag 0)) b7) (aR (jg (dI (ah (ag 1) aJ)) (ie 5) (fR (dA (e2 BS (ag 4) (eI 0))) (aR (gs (pV cv (ag 3) (ah (e2 dX (ag 4) (eI 64)) aJ))) (bM 4 (e2 jk (ag 4) (eI 64)))) (gs (pV cv (ag 3) (ah (bX 3 vO (ah (ag 0) (ah (ag 5) (ah (ag 2) aJ)))) aJ))))) (cK (ag 3))))))
def jV:List W->List ao->R W:=dR 6 KY
theorem Nj(F:jM K "_law_draws" "_law_draws" FU f fd)(B:Bl mg)(HG:b8 P w K mg base 1 "_law_mixed" 3 vO):eK P w K mg base (j' P w) 2 f fd Kz (k9 K mg 3 jV):=
 cM (k:=1) F rP rfl fun gk A outer s H E hr=>(aA (sS 3 rP (ji av)) (aA (sS 4 rP au) (aA (bV (br Mt (ae 0) (bg PM au au)) (aH (sS 4 rP (ae 0))) bO) (aA (fS (fX B.range (aa (ae 1) av)) (sG 5 rP) (aH (bV (br sU (ae 4) au) (aA (fF (o_ PySem.F.slot_list_append PySem.F.type_list_append dO (ae 3) (aa (bg c7 (ae 4) au) av))) (aH (sS 4 rP (bg iK (ae 4) au)))) (aH (fF (o_ PySem.F.slot_list_append PySem.F.type_list_append dO (ae 3) (aa (bz HG hr (by omega) (aa (ae 0) (aa (ae 5) (aa (ae 2) av)))) av))))))) (aH (be (ae 3)))))))
def KZ:FS:=(aR (bM 3 (eC (.str [65,66,67,68,69,70,71,72,73,74,75,76,77,78,79,80,81,82,83,84,85,86,87,88,89,90,97,98,99,100,101,102,103,104,105,106,107,108,109,110,111,112,113,114,115,116,117,118,119,120,121,122]))) (aR (bM 4 (eC (.str []))) (aR (jg (dZ (bX 3 jV (ah (ag 0) (ah (ag 1) (ah (ag 2) aJ))))) (ie 5) (aR (bM 6 (e2 dX (ag 5) (cw eV (ah (ag 3) aJ)))) (aR (bM 4 (e2 e7 (ag 4) (e2 bp (ag 3) (ag 6)))) (bM 3 (e2 e7 (PR (ag 3) BX (yp (ag 6))) (PR (ag 3) (yp (e2 e7 (ag 6) (eI 1))) BX)))))) (cK (ag 4)))))
def vP:List W->List ao->R W:=dR 7 KZ
theorem Nk(F:jM K "_law_pool" "_law_pool" FV f fd)(B:Bl mg)(m9:b8 P w K mg base 2 "_law_draws" 3 jV):eK P w K mg base (j' P w) 3 f fd KA (k9 K mg 3 vP):=
 cM (k:=2) F p8 rfl fun gk A outer s H E hr=>(aA (sS 3 p8 cm) (aA (sS 4 p8 cm) (aA (fS (iL (bz m9 hr (by omega) (aa (ae 0) (aa (ae 1) (aa (ae 2) av))))) (sG 5 p8) (aA (sS 6 p8 (bg c7 (ae 5) (cF fE B.len cL (aa (ae 3) av)))) (aA (sS 4 p8 (bg eO (ae 4) (a9 (ae 3) (ae 6)))) (aH (sS 3 p8 (bg eO (PU (ae 3) BY (BZ (ae 6))) (PU (ae 3) (BZ (bg eO (ae 6) au)) BY))))))) (aH (be (ae 4))))))
def K0:FS:=(cK (Oy sB (eC (.str [])) (ah (cw rL (ah (gD [none,some 0,some 1] (dI (ah (cw eV (ah (ag 0) aJ)) aJ)) (ie 0) (dA (e2 fQ (e2 nJ (e2 yl (ag 2) (ag 0)) (eI 1)) (eI 1))) (e2 bp (ag 1) (ag 0))) aJ)) aJ)))
def pF:List W->List ao->R W:=dR 2 K0
theorem Nl(F:jM K "_law_marks" "_law_marks" FW f fd)(B:Bl mg) :eK P w K mg base (j' P w) 1 f fd KB (k9 K mg 2 pF):=
 cM (k:=0) F M7 rfl fun gk A outer s H E hr=>(aH (be (P0 PySem.F.slot_str_join PySem.F.type_str_join B2 cm (aa (cF Jl B.sorted boot_sorted (aa (nM (nm:=["_law_k","_law_pool_here","_law_number"]) (cap:=[none,some 0,some 1]) (by first|rfl|kernel_rfl) rfl (fX B.range (aa (cF fE B.len cL (aa (ae 0) av)) av)) (fun _ _ _ _ _=>(sC 0)) (fun _ _ _ _ _=>(B3 (br (eU hr) (bg wH (bg Ke (ae 2) (ae 0)) au) au))) (fun _ _ _ _ _=>(a9 (ae 1) (ae 0)))) av)) av))))
def K1:FS:=(aR (bM 2 (kW aJ)) (aR (bM 3 (eI 0)) (aR (jg (dZ (ag 0)) (ie 4) (aR (bM 5 (e2 dX (ag 4) (eI 4))) (aR (fR (dA (e2 BS (e2 jk (e2 e7 (ag 5) (eI 1)) (eI 2)) (ag 3))) (bM 5 (eI 0)) b7) (aR (gs (pV cv (ag 2) (ah (eN (ah (ag 5) (ah (bX 2 pF (ah (ag 1) (ah (e2 dX (e2 jk (ag 4) (eI 4)) (eI 16)) aJ))) aJ))) aJ))) (bM 3 (e2 rC (e2 e7 (ag 3) (eI 1)) (e2 jk (e2 e7 (ag 5) (eI 1)) (eI 2)))))))) (aR (my (dA (e2 BS (ag 3) (eI 1))) (aR (gs (pV cv (ag 2) (ah (eN (ah (eI 3) (ah (e2 bp (e2 bp (ag 2) (e2 rC (ag 3) (eI 1))) (eI 1)) aJ))) aJ))) (bM 3 (e2 rC (ag 3) (eI 1))))) (cK (cw kj (ah (ag 2) aJ)))))))
def y4:List W->List ao->R W:=dR 6 K1
theorem Nm(F:jM K "_law_tree" "_law_tree" FX f fd)(B:Bl mg)(pG:b8 P w K mg base 1 "_law_marks" 2 pF):eK P w K mg base (j' P w) 2 f fd KC (k9 K mg 2 y4):=
 cM (k:=1) F nS rfl fun gk A outer s H E hr=>(aA (sS 2 nS (ji av)) (aA (sS 3 nS au) (aA (fS (iL (ae 0)) (sG 4 nS) (aA (sS 5 nS (bg c7 (ae 4) au)) (aA (bV (br sU (bg iK (bg eO (ae 5) au) au) (ae 3)) (aH (sS 5 nS au)) bO) (aA (fF (o_ PySem.F.slot_list_append PySem.F.type_list_append dO (ae 2) (aa (dh (aa (ae 5) (aa (bz pG hr (by omega) (aa (ae 1) (aa (bg c7 (bg iK (ae 4) au) au) av))) av))) av))) (aH (sS 3 nS (bg qD (bg eO (ae 3) au) (bg iK (bg eO (ae 5) au) au)))))))) (aA (t8 (br sU (ae 3) au) (aA (fF (o_ PySem.F.slot_list_append PySem.F.type_list_append dO (ae 2) (aa (dh (aa au (aa (a9 (a9 (ae 2) (bg qD (ae 3) au)) au) av))) av))) (aH (sS 3 nS (bg qD (ae 3) au))))) (aH (be (ki oK B.tuple gR (aa (ae 2) av))))))))
def K2:FS:=(aR (bM 3 (kW aJ)) (aR (bM 4 (eI 0)) (aR (jg (dZ (ag 0)) (ie 5) (aR (bM 6 (e2 dX (ag 5) (eI 4))) (aR (fR (dA (e2 BS (e2 jk (e2 e7 (ag 6) (eI 1)) (eI 2)) (ag 4))) (bM 6 (eI 0)) b7) (fR (dA (e2 AC (e2 rC (e2 e7 (e2 e7 (cw eV (ah (ag 3) aJ)) (ag 4)) (eI 1)) (e2 jk (e2 e7 (ag 6) (eI 1)) (eI 2))) (ag 2))) (aR (gs (pV cv (ag 3) (ah (eN (ah (ag 6) (ah (bX 2 pF (ah (ag 1) (ah (e2 dX (e2 jk (ag 5) (eI 4)) (eI 16)) aJ))) aJ))) aJ))) (bM 4 (e2 rC (e2 e7 (ag 4) (eI 1)) (e2 jk (e2 e7 (ag 6) (eI 1)) (eI 2))))) b7)))) (aR (my (dA (e2 BS (ag 4) (eI 1))) (aR (gs (pV cv (ag 3) (ah (eN (ah (eI 3) (ah (e2 bp (e2 bp (ag 3) (e2 rC (ag 4) (eI 1))) (eI 1)) aJ))) aJ))) (bM 4 (e2 rC (ag 4) (eI 1))))) (cK (cw kj (ah (ag 3) aJ)))))))
def y6:List W->List ao->R W:=dR 7 K2
theorem Nn(F:jM K "_law_wood" "_law_wood" FY f fd)(B:Bl mg)(pG:b8 P w K mg base 1 "_law_marks" 2 pF):eK P w K mg base (j' P w) 2 f fd KD (k9 K mg 3 y6):=
 cM (k:=1) F nT rfl fun gk A outer s H E hr=>(aA (sS 3 nT (ji av)) (aA (sS 4 nT au) (aA (fS (iL (ae 0)) (sG 5 nT) (aA (sS 6 nT (bg c7 (ae 5) au)) (aA (bV (br sU (bg iK (bg eO (ae 6) au) au) (ae 4)) (aH (sS 6 nT au)) bO) (aH (bV (br EV (bg qD (bg eO (bg eO (cF fE B.len cL (aa (ae 3) av)) (ae 4)) au) (bg iK (bg eO (ae 6) au) au)) (ae 2)) (aA (fF (o_ PySem.F.slot_list_append PySem.F.type_list_append dO (ae 3) (aa (dh (aa (ae 6) (aa (bz pG hr (by omega) (aa (ae 1) (aa (bg c7 (bg iK (ae 5) au) au) av))) av))) av))) (aH (sS 4 nT (bg qD (bg eO (ae 4) au) (bg iK (bg eO (ae 6) au) au))))) bO))))) (aA (t8 (br sU (ae 4) au) (aA (fF (o_ PySem.F.slot_list_append PySem.F.type_list_append dO (ae 3) (aa (dh (aa au (aa (a9 (a9 (ae 3) (bg qD (ae 4) au)) au) av))) av))) (aH (sS 4 nT (bg qD (ae 4) au))))) (aH (be (ki oK B.tuple gR (aa (ae 3) av))))))))
def K3:FS:=(aR (bM 2 (kW (EJ [[105,110],[111,110,101],[108,101,102,116],[114,105,103,104,116],[98,101,108,111,119],[110,111,116],[115,111,109,101],[97,108,108],[97,110,100],[111,114]]))) (aR (bM 3 (kW aJ)) (aR (jg (dI (ah (e2 jk (cw eV (ah (ag 0) aJ)) (eI 2)) aJ)) (ie 4) (aR (bM 5 (e2 bp (ag 2) (e2 dX (e2 bp (ag 0) (e2 iV (eI 2) (ag 4))) (eI 10)))) (aR (bM 6 (e2 bp (ag 1) (e2 dX (e2 bp (ag 0) (e2 e7 (e2 iV (eI 2) (ag 4)) (eI 1))) (cw eV (ah (ag 1) aJ))))) (aR (bM 7 (e2 bp (ag 1) (e2 dX (e2 jk (e2 bp (ag 0) (e2 e7 (e2 iV (eI 2) (ag 4)) (eI 1))) (eI 4)) (cw eV (ah (ag 1) aJ))))) (fR (bnd (dA (e2 (sV false) (ag 5) (eN (ah (eC (.str [97,110,100])) (ah (eC (.str [111,114])) aJ))))) (dA (e2 BS (cw eV (ah (ag 3) aJ)) (eI 1)))) (aR (bM 8 (pV rG (ag 3) aJ)) (o9 (ag 3) (nN (eI 1)) (eN (ah (ag 5) (ah (e2 bp (ag 3) (nN (eI 1))) (ah (ag 8) aJ)))) k8)) (fR (bnd (dA (e2 (sV false) (ag 5) (eN (ah (eC (.str [115,111,109,101])) (ah (eC (.str [97,108,108])) aJ))))) (dA (e2 BS (cw eV (ah (ag 3) aJ)) (eI 0)))) (o9 (ag 3) (nN (eI 1)) (eN (ah (ag 5) (ah (ag 6) (ah (e2 bp (ag 3) (nN (eI 1))) aJ)))) k8) (fR (bnd (dA (e2 fQ (ag 5) (eC (.str [110,111,116])))) (dA (e2 BS (cw eV (ah (ag 3) aJ)) (eI 0)))) (o9 (ag 3) (nN (eI 1)) (eN (ah (ag 5) (ah (e2 bp (ag 3) (nN (eI 1))) aJ))) k8) (fR (dA (e2 fQ (ag 5) (eC (.str [111,110,101])))) (gs (pV cv (ag 3) (ah (eN (ah (ag 5) (ah (ag 6) aJ))) aJ))) (fR (dA (e2 Ms (e2 dX (e2 bp (ag 0) (e2 iV (eI 2) (ag 4))) (eI 10)) (eI 5))) (gs (pV cv (ag 3) (ah (eN (ah (ag 5) (ah (ag 6) (ah (ag 7) aJ)))) aJ))) (gs (pV cv (ag 3) (ah (eN (ah (e2 bp (ag 2) (e2 bp (kW (ah (eI 0) (ah (eI 2) (ah (eI 3) (ah (eI 4) aJ))))) (e2 dX (e2 jk (e2 bp (ag 0) (e2 iV (eI 2) (ag 4))) (eI 10)) (eI 4)))) (ah (ag 6) (ah (ag 7) aJ)))) aJ)))))))))))) (aR (my (dA (e2 BS (cw eV (ah (ag 3) aJ)) (eI 1))) (aR (bM 8 (pV rG (ag 3) aJ)) (o9 (ag 3) (nN (eI 1)) (eN (ah (e2 bp (ag 2) (e2 e7 (eI 8) (e2 dX (cw eV (ah (ag 3) aJ)) (eI 2)))) (ah (e2 bp (ag 3) (nN (eI 1))) (ah (ag 8) aJ)))) k8))) (cK (e2 bp (ag 3) (eI 0)))))))
def y7:List W->List ao->R W:=dR 9 K3
theorem No(F:jM K "_law_said" "_law_said" FZ f fd)(B:Bl mg) :eK P w K mg base (j' P w) 1 f fd KF (k9 K mg 2 y7):=
 cM (k:=0) F mF rfl fun gk A outer s H E hr=>(aA (sS 2 mF (ji (IW (.cons (.cons (.cons (.cons (.cons (.cons (.cons (.cons (.cons (.cons .nil))))))))))))) (aA (sS 3 mF (ji av)) (aA (fS (fX B.range (aa (bg iK (cF fE B.len cL (aa (ae 0) av)) au) av)) (sG 4 mF) (aA (sS 5 mF (a9 (ae 2) (bg c7 (a9 (ae 0) (bg iN au (ae 4))) au))) (aA (sS 6 mF (a9 (ae 1) (bg c7 (a9 (ae 0) (bg eO (bg iN au (ae 4)) au)) (cF fE B.len cL (aa (ae 1) av))))) (aA (sS 7 mF (a9 (ae 1) (bg c7 (bg iK (a9 (ae 0) (bg eO (bg iN au (ae 4)) au)) au) (cF fE B.len cL (aa (ae 1) av))))) (aH (bV (t0 (rB (br (t7 hr) (ae 5) (dh (aa cm (aa cm av)))) (oI (br sU (cF fE B.len cL (aa (ae 3) av)) au)))) (aA (sS 8 mF (vy PySem.F.slot_list_pop PySem.F.type_list_pop rH (ae 3))) (aH (lI pU (dh (aa (ae 5) (aa (a9 (ae 3) (py au)) (aa (ae 8) av)))) (ae 3) (py au)))) (aH (bV (t0 (rB (br (t7 hr) (ae 5) (dh (aa cm (aa cm av)))) (oI (br sU (cF fE B.len cL (aa (ae 3) av)) au)))) (aH (lI pU (dh (aa (ae 5) (aa (ae 6) (aa (a9 (ae 3) (py au)) av)))) (ae 3) (py au))) (aH (bV (t0 (rB (br (eU hr) (ae 5) cm) (oI (br sU (cF fE B.len cL (aa (ae 3) av)) au)))) (aH (lI pU (dh (aa (ae 5) (aa (a9 (ae 3) (py au)) av))) (ae 3) (py au))) (aH (bV (br (eU hr) (ae 5) cm) (aH (fF (o_ PySem.F.slot_list_append PySem.F.type_list_append dO (ae 3) (aa (dh (aa (ae 5) (aa (ae 6) av))) av)))) (aH (bV (br w_lt (bg c7 (a9 (ae 0) (bg iN au (ae 4))) au) au) (aH (fF (o_ PySem.F.slot_list_append PySem.F.type_list_append dO (ae 3) (aa (dh (aa (ae 5) (aa (ae 6) (aa (ae 7) av)))) av)))) (aH (fF (o_ PySem.F.slot_list_append PySem.F.type_list_append dO (ae 3) (aa (dh (aa (a9 (ae 2) (a9 (ji (aa au (aa au (aa au (aa au av))))) (bg c7 (bg iK (a9 (ae 0) (bg iN au (ae 4))) au) au))) (aa (ae 6) (aa (ae 7) av)))) av)))))))))))))))))) (aA (t8 (br sU (cF fE B.len cL (aa (ae 3) av)) au) (aA (sS 8 mF (vy PySem.F.slot_list_pop PySem.F.type_list_pop rH (ae 3))) (aH (lI pU (dh (aa (a9 (ae 2) (bg eO au (bg c7 (cF fE B.len cL (aa (ae 3) av)) au))) (aa (a9 (ae 3) (py au)) (aa (ae 8) av)))) (ae 3) (py au))))) (aH (be (a9 (ae 3) au)))))))
def K4:FS:=(aR (bM 3 (kW (ah (eN (ah (eI 0) (ah (bX 2 pF (ah (ag 2) (ah (e2 dX (e2 jk (e2 bp (ag 0) (eI 0)) (eI 4)) (eI 4)) aJ))) aJ))) aJ))) (aR (jg (qF (ah (eI 1) (ah (ag 1) aJ))) (ie 4) (gs (pV cv (ag 3) (ah (eN (ah (e2 e7 (eI 1) (e2 dX (e2 bp (ag 0) (ag 4)) (eI 2))) (ah (bX 2 pF (ah (ag 2) (ah (e2 dX (e2 jk (e2 bp (ag 0) (ag 4)) (eI 4)) (eI 4)) aJ))) aJ))) aJ)))) (cK (cw kj (ah (ag 3) aJ)))))
def y8:List W->List ao->R W:=dR 5 K4
theorem Np(F:jM K "_law_chain" "_law_chain" F0 f fd)(B:Bl mg)(pG:b8 P w K mg base 1 "_law_marks" 2 pF):eK P w K mg base (j' P w) 2 f fd KG (k9 K mg 3 y8):=
 cM (k:=1) F AZ rfl fun gk A outer s H E hr=>(aA (sS 3 AZ (ji (aa (dh (aa au (aa (bz pG hr (by omega) (aa (ae 2) (aa (bg c7 (bg iK (a9 (ae 0) au) au) au) av))) av))) av))) (aA (fS (Ds B.range (aa au (aa (ae 1) av))) (sG 4 AZ) (aH (fF (o_ PySem.F.slot_list_append PySem.F.type_list_append dO (ae 3) (aa (dh (aa (bg eO au (bg c7 (a9 (ae 0) (ae 4)) au)) (aa (bz pG hr (by omega) (aa (ae 2) (aa (bg c7 (bg iK (a9 (ae 0) (ae 4)) au) au) av))) av))) av))))) (aH (be (ki oK B.tuple gR (aa (ae 3) av))))))
def K5:FS:=(aR (bM 2 (bX 3 jV (ah (bX 2 nY (ah (ag 0) (ah (eI 4) aJ))) (ah (eI 8) (ah (eI 700001) aJ))))) (aR (bM 3 (e2 bp (eC (.str [65,66,67,68,69,70,71,72,73,74,75,76,77,78,79,80,81,82,83,84,85,86,87,88,89,90])) (e2 dX (e2 bp (ag 2) (eI 0)) (eI 26)))) (aR (bM 4 (e2 bp (eC (.str [97,98,99,100,101,102,103,104,105,106,107,108,109,110,111,112,113,114,115,116,117,118,119,120,121,122])) (e2 dX (e2 bp (ag 2) (eI 1)) (eI 26)))) (aR (bM 5 (e2 bp (eC (.str [97,98,99,100,101,102,103,104,105,106,107,108,109,110,111,112,113,114,115,116,117,118,119,120,121,122])) (e2 dX (e2 e7 (e2 bp (ag 2) (eI 1)) (eI 1)) (eI 26)))) (aR (bM 6 (kW (ah (e2 bp (kW (ah (eC (.str [115,111,109,101])) (ah (eC (.str [97,108,108])) aJ))) (e2 dX (e2 bp (ag 2) (eI 2)) (eI 2))) (ah (e2 bp (kW (ah (eC (.str [115,111,109,101])) (ah (eC (.str [97,108,108])) aJ))) (e2 dX (e2 jk (e2 bp (ag 2) (eI 2)) (eI 2)) (eI 2))) aJ)))) (aR (bM 7 (kW (ah (eN (ah (eC (.str [105,110])) (ah (ag 4) (ah (ag 4) aJ)))) (ah (eN (ah (eC (.str [105,110])) (ah (ag 4) (ah (ag 5) aJ)))) (ah (eN (ah (eC (.str [111,110,101])) (ah (ag 3) aJ))) (ah (eN (ah (eC (.str [111,110,101])) (ah (ag 5) aJ))) (ah (eN (ah (eC (.str [105,110])) (ah (ag 3) (ah (e2 bp (ag 1) (eI 0)) aJ)))) aJ))))))) (aR (bM 8 (eN (ah (e2 bp (ag 6) (eI 0)) (ah (ag 4) (ah (eN (ah (e2 bp (ag 6) (eI 1)) (ah (ag 5) (ah (e2 bp (ag 7) (e2 dX (e2 bp (ag 2) (eI 3)) (eI 5))) aJ)))) aJ))))) (aR (bM 9 (e2 e7 (eI 63) (e2 dX (e2 bp (ag 2) (eI 4)) (eI 3)))) (aR (fR (dA (e2 fQ (e2 dX (e2 bp (ag 2) (eI 5)) (eI 4)) (eI 1))) (aR (bM 8 (eN (ah (e2 bp (ag 6) (eI 0)) (ah (ag 3) (ah (e2 bp (ag 7) (e2 dX (e2 bp (ag 2) (eI 3)) (eI 5))) aJ))))) (bM 9 (e2 e7 (eI 11) (e2 dX (e2 bp (ag 2) (eI 4)) (eI 3))))) (fR (dA (e2 fQ (e2 dX (e2 bp (ag 2) (eI 5)) (eI 4)) (eI 3))) (aR (bM 8 (eN (ah (e2 bp (ag 6) (eI 0)) (ah (ag 4) (ah (e2 bp (ag 7) (e2 dX (e2 bp (ag 2) (eI 3)) (eI 5))) aJ))))) (bM 9 (e2 e7 (eI 98) (e2 dX (e2 bp (ag 2) (eI 4)) (eI 3))))) (fR (dA (e2 fQ (e2 dX (e2 bp (ag 2) (eI 5)) (eI 4)) (eI 2))) (aR (bM 8 (eN (ah (e2 bp (ag 6) (eI 0)) (ah (ag 4) (ah (eN (ah (e2 bp (ag 6) (eI 1)) (ah (ag 3) (ah (e2 bp (ag 7) (e2 dX (e2 bp (ag 2) (eI 3)) (eI 5))) aJ)))) aJ))))) (bM 9 (e2 e7 (eI 7) (e2 dX (e2 bp (ag 2) (eI 4)) (eI 3))))) b7))) (aR (fR (dA (e2 fQ (e2 dX (e2 bp (ag 2) (eI 6)) (eI 4)) (eI 1))) (bM 8 (eN (ah (eC (.str [110,111,116])) (ah (ag 8) aJ)))) (fR (dA (e2 fQ (e2 dX (e2 bp (ag 2) (eI 6)) (eI 4)) (eI 2))) (bM 8 (eN (ah (eC (.str [97,110,100])) (ah (eN (ah (eC (.str [111,110,101])) (ah (e2 bp (ag 1) (eI 0)) aJ))) (ah (ag 8) aJ))))) (fR (dA (e2 fQ (e2 dX (e2 bp (ag 2) (eI 6)) (eI 4)) (eI 3))) (bM 8 (eN (ah (eC (.str [111,114])) (ah (ag 8) (ah (eN (ah (eC (.str [105,110])) (ah (e2 bp (ag 1) (eI 0)) (ah (e2 bp (ag 1) (eI 0)) aJ)))) aJ))))) b7))) (cK (eN (ah (ag 8) (ah (bX 3 y8 (ah (bX 3 jV (ah (bX 2 nY (ah (ag 0) (ah (eI 5) aJ))) (ah (ag 9) (ah (eI 800011) aJ)))) (ah (ag 9) (ah (ag 1) aJ)))) aJ))))))))))))))
def y9:List W->List ao->R W:=dR 10 K5
theorem Nq(F:jM K "_law_edge" "_law_edge" F1 f fd) (pJ:b8 P w K mg base 1 "_law_cell" 2 nY)(HK:b8 P w K mg base 2 "_law_chain" 3 y8)(m9:b8 P w K mg base 2 "_law_draws" 3 jV):eK P w K mg base (j' P w) 3 f fd KH (k9 K mg 2 y9):=
 cM (k:=2) F gB rfl fun gk A outer s H E hr=>(aA (sS 2 gB (bz m9 hr (by omega) (aa (bz pJ hr (by omega) (aa (ae 0) (aa au av))) (aa au (aa au av))))) (aA (sS 3 gB (a9 cm (bg c7 (a9 (ae 2) au) au))) (aA (sS 4 gB (a9 cm (bg c7 (a9 (ae 2) au) au))) (aA (sS 5 gB (a9 cm (bg c7 (bg eO (a9 (ae 2) au) au) au))) (aA (sS 6 gB (ji (aa (a9 (ji (aa cm (aa cm av))) (bg c7 (a9 (ae 2) au) au)) (aa (a9 (ji (aa cm (aa cm av))) (bg c7 (bg iK (a9 (ae 2) au) au) au)) av)))) (aA (sS 7 gB (ji (aa (dh (aa cm (aa (ae 4) (aa (ae 4) av)))) (aa (dh (aa cm (aa (ae 4) (aa (ae 5) av)))) (aa (dh (aa cm (aa (ae 3) av))) (aa (dh (aa cm (aa (ae 5) av))) (aa (dh (aa cm (aa (ae 3) (aa (a9 (ae 1) au) av)))) av))))))) (aA (sS 8 gB (dh (aa (a9 (ae 6) au) (aa (ae 4) (aa (dh (aa (a9 (ae 6) au) (aa (ae 5) (aa (a9 (ae 7) (bg c7 (a9 (ae 2) au) au)) av)))) av))))) (aA (sS 9 gB (bg eO au (bg c7 (a9 (ae 2) au) au))) (aA (bV (br (eU hr) (bg c7 (a9 (ae 2) au) au) au) (aA (sS 8 gB (dh (aa (a9 (ae 6) au) (aa (ae 3) (aa (a9 (ae 7) (bg c7 (a9 (ae 2) au) au)) av))))) (aH (sS 9 gB (bg eO au (bg c7 (a9 (ae 2) au) au))))) (aH (bV (br (eU hr) (bg c7 (a9 (ae 2) au) au) au) (aA (sS 8 gB (dh (aa (a9 (ae 6) au) (aa (ae 4) (aa (a9 (ae 7) (bg c7 (a9 (ae 2) au) au)) av))))) (aH (sS 9 gB (bg eO au (bg c7 (a9 (ae 2) au) au))))) (aH (bV (br (eU hr) (bg c7 (a9 (ae 2) au) au) au) (aA (sS 8 gB (dh (aa (a9 (ae 6) au) (aa (ae 4) (aa (dh (aa (a9 (ae 6) au) (aa (ae 3) (aa (a9 (ae 7) (bg c7 (a9 (ae 2) au) au)) av)))) av))))) (aH (sS 9 gB (bg eO au (bg c7 (a9 (ae 2) au) au))))) bO))))) (aA (bV (br (eU hr) (bg c7 (a9 (ae 2) au) au) au) (aH (sS 8 gB (dh (aa cm (aa (ae 8) av))))) (aH (bV (br (eU hr) (bg c7 (a9 (ae 2) au) au) au) (aH (sS 8 gB (dh (aa cm (aa (dh (aa cm (aa (a9 (ae 1) au) av))) (aa (ae 8) av)))))) (aH (bV (br (eU hr) (bg c7 (a9 (ae 2) au) au) au) (aH (sS 8 gB (dh (aa cm (aa (ae 8) (aa (dh (aa cm (aa (a9 (ae 1) au) (aa (a9 (ae 1) au) av)))) av)))))) bO))))) (aH (be (dh (aa (ae 8) (aa (bz HK hr (by omega) (aa (bz m9 hr (by omega) (aa (bz pJ hr (by omega) (aa (ae 0) (aa au av))) (aa (ae 9) (aa au av)))) (aa (ae 9) (aa (ae 1) av)))) av)))))))))))))))
def K6:FS:=(aR (bM 1 (bX 3 jV (ah (bX 2 nY (ah (ag 0) (ah (eI 0) aJ))) (ah (eI 3) (ah (eI 100003) aJ))))) (aR (bM 2 (bX 3 vP (ah (bX 2 nY (ah (ag 0) (ah (eI 1) aJ))) (ah (eI 4) (ah (eI 200017) aJ))))) (aR (fR (dA (e2 fQ (e2 dX (e2 bp (ag 1) (eI 0)) (eI 4)) (eI 3))) (cK (bX 2 y9 (ah (ag 0) (ah (ag 2) aJ)))) b7) (aR (bM 3 (e2 dX (e2 bp (ag 1) (eI 1)) (eI 6))) (aR (bM 4 (e2 e7 (eI 1) (e2 dX (e2 bp (ag 1) (eI 2)) (eI 6)))) (aR (fR (dA (e2 fQ (e2 dX (e2 bp (ag 1) (eI 0)) (eI 4)) (eI 1))) (bM 4 (e2 e7 (eI 1) (e2 dX (e2 bp (ag 1) (eI 2)) (eI 15)))) b7) (aR (fR (dA (e2 fQ (e2 dX (e2 bp (ag 1) (eI 0)) (eI 4)) (eI 2))) (aR (bM 3 (e2 dX (e2 bp (ag 1) (eI 1)) (eI 34))) (bM 4 (e2 e7 (eI 1) (e2 dX (e2 bp (ag 1) (eI 2)) (eI 3))))) b7) (aR (bM 5 (bX 2 y7 (ah (bX 3 jV (ah (bX 2 nY (ah (ag 0) (ah (eI 2) aJ))) (ah (e2 iV (eI 2) (ag 4)) (ah (eI 300007) aJ)))) (ah (ag 2) aJ)))) (aR (bM 6 (bX 3 jV (ah (bX 2 nY (ah (ag 0) (ah (eI 3) aJ))) (ah (ag 3) (ah (eI 400009) aJ))))) (aR (fR (dA (e2 fQ (e2 dX (e2 bp (ag 1) (eI 0)) (eI 4)) (eI 2))) (cK (eN (ah (ag 5) (ah (bX 2 y4 (ah (ag 6) (ah (ag 2) aJ))) aJ)))) b7) (cK (eN (ah (ag 5) (ah (bX 3 y6 (ah (ag 6) (ah (ag 2) (ah (ag 3) aJ)))) aJ))))))))))))))
def y_:List W->List ao->R W:=dR 7 K6
theorem Nr(F:jM K "_law_pair" "_law_pair" F2 f fd) (pJ:b8 P w K mg base 1 "_law_cell" 2 nY)(m9:b8 P w K mg base 2 "_law_draws" 3 jV)(HN:b8 P w K mg base 3 "_law_edge" 2 y9)(Hh:b8 P w K mg base 3 "_law_pool" 3 vP)(Hc:b8 P w K mg base 1 "_law_said" 2 y7)(HB:b8 P w K mg base 2 "_law_tree" 2 y4)(Hg:b8 P w K mg base 2 "_law_wood" 3 y6):eK P w K mg base (j' P w) 4 f fd KI (k9 K mg 1 y_):=
 cM (k:=3) F lL rfl fun gk A outer s H E hr=>(aA (sS 1 lL (bz m9 hr (by omega) (aa (bz pJ hr (by omega) (aa (ae 0) (aa au av))) (aa au (aa au av))))) (aA (sS 2 lL (bz Hh hr (by omega) (aa (bz pJ hr (by omega) (aa (ae 0) (aa au av))) (aa au (aa au av))))) (aA (bV (br (eU hr) (bg c7 (a9 (ae 1) au) au) au) (aH (be (bz HN hr (by omega) (aa (ae 0) (aa (ae 2) av))))) bO) (aA (sS 3 lL (bg c7 (a9 (ae 1) au) au)) (aA (sS 4 lL (bg eO au (bg c7 (a9 (ae 1) au) au))) (aA (bV (br (eU hr) (bg c7 (a9 (ae 1) au) au) au) (aH (sS 4 lL (bg eO au (bg c7 (a9 (ae 1) au) au)))) bO) (aA (bV (br (eU hr) (bg c7 (a9 (ae 1) au) au) au) (aA (sS 3 lL (bg c7 (a9 (ae 1) au) au)) (aH (sS 4 lL (bg eO au (bg c7 (a9 (ae 1) au) au))))) bO) (aA (sS 5 lL (bz Hc hr (by omega) (aa (bz m9 hr (by omega) (aa (bz pJ hr (by omega) (aa (ae 0) (aa au av))) (aa (bg iN au (ae 4)) (aa au av)))) (aa (ae 2) av)))) (aA (sS 6 lL (bz m9 hr (by omega) (aa (bz pJ hr (by omega) (aa (ae 0) (aa au av))) (aa (ae 3) (aa au av))))) (aA (bV (br (eU hr) (bg c7 (a9 (ae 1) au) au) au) (aH (be (dh (aa (ae 5) (aa (bz HB hr (by omega) (aa (ae 6) (aa (ae 2) av))) av))))) bO) (aH (be (dh (aa (ae 5) (aa (bz Hg hr (by omega) (aa (ae 6) (aa (ae 2) (aa (ae 3) av)))) av)))))))))))))))
def K7:FS:=(aR (bM 1 (kW aJ)) (aR (bM 2 (kW aJ)) (aR (jg (dI (ah (cw eV (ah (ag 0) aJ)) aJ)) (ie 3) (aR (bM 4 (eC .non)) (aR (bM 5 (eC .non)) (aR (fR (dA (e2 PN (e2 bp (e2 bp (ag 0) (ag 3)) (eI 0)) (eI 2))) (bM 5 (pV rG (ag 1) aJ)) b7) (aR (fR (dA (e2 fQ (e2 dX (e2 bp (e2 bp (ag 0) (ag 3)) (eI 0)) (eI 2)) (eI 1))) (bM 4 (pV rG (ag 1) aJ)) b7) (aR (gs (pV cv (ag 2) (ah (eN (ah (ag 4) (ah (ag 5) aJ))) aJ))) (gs (pV cv (ag 1) (ah (ag 3) aJ))))))))) (cK (ag 2)))))
def za:List W->List ao->R W:=dR 6 K7
theorem Nt(F:jM K "_law_links" "_law_links" F3 f fd)(B:Bl mg) :eK P w K mg base (j' P w) 1 f fd KJ (k9 K mg 1 za):=
 cM (k:=0) F nU rfl fun gk A outer s H E hr=>(aA (sS 1 nU (ji av)) (aA (sS 2 nU (ji av)) (aA (fS (fX B.range (aa (cF fE B.len cL (aa (ae 0) av)) av)) (sG 3 nU) (aA (sS 4 nU tY) (aA (sS 5 nU tY) (aA (bV (br Mt (a9 (a9 (ae 0) (ae 3)) au) au) (aH (sS 5 nU (vy PySem.F.slot_list_pop PySem.F.type_list_pop rH (ae 1)))) bO) (aA (bV (br (eU hr) (bg c7 (a9 (a9 (ae 0) (ae 3)) au) au) au) (aH (sS 4 nU (vy PySem.F.slot_list_pop PySem.F.type_list_pop rH (ae 1)))) bO) (aA (fF (o_ PySem.F.slot_list_append PySem.F.type_list_append dO (ae 2) (aa (dh (aa (ae 4) (aa (ae 5) av))) av))) (aH (fF (o_ PySem.F.slot_list_append PySem.F.type_list_append dO (ae 1) (aa (ae 3) av)))))))))) (aH (be (ae 2))))))
def vQ(zz:List W->List ao->R W):FS:=(aR (fR (dA (e2 fQ (e2 bp (ag 0) (eI 0)) (eC (.str [110,111,116])))) (cK (bX 2 zz (ah (e2 bp (ag 0) (eI 1)) (ah (ag 1) aJ)))) b7) (aR (fR (BR (dA (e2 fQ (e2 bp (ag 0) (eI 0)) (eC (.str [97,110,100])))) (dA (e2 fQ (e2 bp (ag 0) (eI 0)) (eC (.str [111,114]))))) (cK (e2 e7 (bX 2 zz (ah (e2 bp (ag 0) (eI 1)) (ah (ag 1) aJ))) (bX 2 zz (ah (e2 bp (ag 0) (eI 2)) (ah (ag 1) aJ))))) b7) (aR (fR (BR (dA (e2 fQ (e2 bp (ag 0) (eI 0)) (eC (.str [115,111,109,101])))) (dA (e2 fQ (e2 bp (ag 0) (eI 0)) (eC (.str [97,108,108]))))) (aR (fR (dA (e2 (sV false) (e2 bp (ag 0) (eI 1)) (eC (.str [97,98,99,100,101,102,103,104,105,106,107,108,109,110,111,112,113,114,115,116,117,118,119,120,121,122])))) (cK (e2 yB (cw Dp (ah (eI 1) (ah (ag 1) aJ))) (bX 2 zz (ah (e2 bp (ag 0) (eI 2)) (ah (ag 1) aJ))))) b7) (cK (e2 yB (e2 nI (eI 1) (ag 1)) (bX 2 zz (ah (e2 bp (ag 0) (eI 2)) (ah (ag 1) aJ)))))) b7) (cK (eI 1)))))
def m8:Nat->List W->List ao->R W
 |0=>fun _ _=>.bad
 |k+1=>dR 2 (vQ (m8 k))
theorem Ce{Hb:Addr}{N8:FuncData}(v_:jM K "_law_ways" "_law_ways" F4 Hb N8)(zC:mg "_law_ways"=some (.ref Hb))(B:Bl mg) :∀k:Nat,b8 P w K mg base (0+k) "_law_ways" 2 (m8 k)
 |0=>l5 (ps:=F5) v_ zC rfl (fun _ _ _ _ _ _ us hl=>match us,hl with|[_,_],_=>rfl)
 |k+1=>by
  have m_:=Ce v_ zC B  k
  exact k_ (ps:=F5) v_ zC rfl (fun _ _ _ _ _ _ us hl=>match us,hl with|[_,_],_=>rfl) (cM (k:=0+k) v_ M8 rfl fun gk A outer s H E hr=>(aA (bV (br (eU hr) (a9 (ae 0) au) cm) (aH (be (bz m_ hr (by omega) (aa (a9 (ae 0) au) (aa (ae 1) av))))) bO) (aA (bV (t0 (yi (br (eU hr) (a9 (ae 0) au) cm) (tZ (br (eU hr) (a9 (ae 0) au) cm)))) (aH (be (bg eO (bz m_ hr (by omega) (aa (a9 (ae 0) au) (aa (ae 1) av))) (bz m_ hr (by omega) (aa (a9 (ae 0) au) (aa (ae 1) av)))))) bO) (aA (bV (t0 (yi (br (eU hr) (a9 (ae 0) au) cm) (tZ (br (eU hr) (a9 (ae 0) au) cm)))) (aA (bV (br (t7 hr) (a9 (ae 0) au) cm) (aH (be (bg AM (cF Kf B.max boot_max (aa au (aa (ae 1) av))) (bz m_ hr (by omega) (aa (a9 (ae 0) au) (aa (ae 1) av)))))) bO) (aH (be (bg AM (bg sw au (ae 1)) (bz m_ hr (by omega) (aa (a9 (ae 0) au) (aa (ae 1) av))))))) bO) (aH (be au))))))
def Cf:FS:=(aR (bM 4 (mB (ag 3) (e2 bp (ag 0) (eI 1)) (eI 0))) (aR (fR (dA (e2 fQ (e2 bp (ag 0) (eI 0)) (eC (.str [111,110,101])))) (cK (pS (e2 Do (ag 4) (eI 0)) (e2 fQ (e2 nJ (ag 4) (e2 rC (ag 4) (eI 1))) (eI 0)))) b7) (aR (bM 5 (mB (ag 3) (e2 bp (ag 0) (eI 2)) (eI 0))) (aR (bM 6 (ag 5)) (aR (fR (dA (e2 Do (e2 bp (ag 0) (eI 0)) (eC (.str [105,110])))) (aR (bM 6 (eI 0)) (jg (dI (ah (cw eV (ah (ag 1) aJ)) aJ)) (ie 7) (fR (dA (e2 fQ (e2 nJ (e2 yl (ag 5) (ag 7)) (eI 1)) (eI 1))) (fR (dA (e2 fQ (e2 bp (ag 0) (eI 0)) (eC (.str [98,101,108,111,119])))) (bM 6 (e2 pb (ag 6) (e2 bp (ag 2) (ag 7)))) (fR (bnd (dA (e2 fQ (e2 bp (ag 0) (eI 0)) (eC (.str [108,101,102,116])))) (dA (ii (e2 bp (e2 bp (ag 1) (ag 7)) (eI 0))))) (bM 6 (e2 pb (ag 6) (e2 nI (eI 1) (e2 bp (e2 bp (ag 1) (ag 7)) (eI 0))))) (fR (bnd (dA (e2 fQ (e2 bp (ag 0) (eI 0)) (eC (.str [114,105,103,104,116])))) (dA (ii (e2 bp (e2 bp (ag 1) (ag 7)) (eI 1))))) (bM 6 (e2 pb (ag 6) (e2 nI (eI 1) (e2 bp (e2 bp (ag 1) (ag 7)) (eI 1))))) b7))) b7))) b7) (cK (e2 fQ (e2 nJ (ag 4) (ag 6)) (ag 4))))))))
def sK:List W->List ao->R W:=dR 8 Cf
theorem Nu(F:jM K "_law_plain" "_law_plain" F8 f fd)(B:Bl mg) :eK P w K mg base (j' P w) 1 f fd KL (k9 K mg 4 sK):=
 cM (k:=0) F mG rfl fun gk A outer s H E hr=>(aA (sS 4 mG (wR hr (ae 3) (a9 (ae 0) au) au)) (aA (bV (br (eU hr) (a9 (ae 0) au) cm) (aH (be (qB (jR (I_ hr) (ae 4) au) (mX (jR (eU hr) (bg wH (ae 4) (bg qD (ae 4) au)) au))))) bO) (aA (sS 5 mG (wR hr (ae 3) (a9 (ae 0) au) au)) (aA (sS 6 mG (ae 5)) (aA (bV (br (I_ hr) (a9 (ae 0) au) cm) (aA (sS 6 mG au) (aH (fS (fX B.range (aa (cF fE B.len cL (aa (ae 1) av)) av)) (sG 7 mG) (aH (bV (br (eU hr) (bg wH (bg Ke (ae 5) (ae 7)) au) au) (aH (bV (br (eU hr) (a9 (ae 0) au) cm) (aH (sS 6 mG (bg sE (ae 6) (a9 (ae 2) (ae 7))))) (aH (bV (t0 (rB (br (eU hr) (a9 (ae 0) au) cm) (oI (mw (a9 (a9 (ae 1) (ae 7)) au))))) (aH (sS 6 mG (bg sE (ae 6) (bg sw au (a9 (a9 (ae 1) (ae 7)) au))))) (aH (bV (t0 (rB (br (eU hr) (a9 (ae 0) au) cm) (oI (mw (a9 (a9 (ae 1) (ae 7)) au))))) (aH (sS 6 mG (bg sE (ae 6) (bg sw au (a9 (a9 (ae 1) (ae 7)) au))))) bO)))))) bO))))) bO) (aH (be (jR (eU hr) (bg wH (ae 4) (ae 6)) (ae 4)))))))))
def vR(v3:List W->List ao->R W):FS:=(aR (bM 4 (e2 bp (ag 0) (eI 0))) (aR (fR (dA (e2 fQ (ag 4) (eC (.str [110,111,116])))) (cK (yj (bX 4 v3 (ah (e2 bp (ag 0) (eI 1)) (ah (ag 1) (ah (ag 2) (ah (ag 3) aJ))))))) b7) (aR (fR (dA (e2 fQ (ag 4) (eC (.str [97,110,100])))) (cK (pS (bX 4 v3 (ah (e2 bp (ag 0) (eI 1)) (ah (ag 1) (ah (ag 2) (ah (ag 3) aJ))))) (bX 4 v3 (ah (e2 bp (ag 0) (eI 2)) (ah (ag 1) (ah (ag 2) (ah (ag 3) aJ))))))) b7) (aR (fR (dA (e2 fQ (ag 4) (eC (.str [111,114])))) (cK (HR (bX 4 v3 (ah (e2 bp (ag 0) (eI 1)) (ah (ag 1) (ah (ag 2) (ah (ag 3) aJ))))) (bX 4 v3 (ah (e2 bp (ag 0) (eI 2)) (ah (ag 1) (ah (ag 2) (ah (ag 3) aJ))))))) b7) (aR (fR (BR (dA (e2 fQ (ag 4) (eC (.str [115,111,109,101])))) (dA (e2 fQ (ag 4) (eC (.str [97,108,108]))))) (aR (fR (dA (e2 (sV false) (e2 bp (ag 0) (eI 1)) (eC (.str [97,98,99,100,101,102,103,104,105,106,107,108,109,110,111,112,113,114,115,116,117,118,119,120,121,122])))) (wI (gD [none] (dI (ah (cw eV (ah (ag 1) aJ)) aJ)) (ie 0) nL (e2 nI (eI 1) (ag 0))) (ie 5)) (bM 5 (cw um (ah (e2 nI (eI 1) (cw eV (ah (ag 1) aJ))) aJ)))) (aR (jg (dZ (ag 5)) (ie 6) (aR (bM 7 (cw pZ (ah (ag 3) aJ))) (aR (o9 (ag 7) (e2 bp (ag 0) (eI 1)) (ag 6) l6) (fR (dA (e2 Do (bX 4 v3 (ah (e2 bp (ag 0) (eI 2)) (ah (ag 1) (ah (ag 2) (ah (ag 7) aJ))))) (e2 fQ (ag 4) (eC (.str [97,108,108]))))) (cK (e2 fQ (ag 4) (eC (.str [115,111,109,101])))) b7)))) (cK (e2 fQ (ag 4) (eC (.str [97,108,108])))))) b7) (cK (bX 4 sK (ah (ag 0) (ah (ag 1) (ah (ag 2) (ah (ag 3) aJ)))))))))))
def l7:Nat->List W->List ao->R W
 |0=>fun _ _=>.bad
 |k+1=>dR 8 (vR (l7 k))
theorem Cg{HH:Addr}{Ow:FuncData}(wa:jM K "_law_true" "_law_true" F6 HH Ow)(zT:mg "_law_true"=some (.ref HH))(B:Bl mg)(CO:b8 P w K mg base 1 "_law_plain" 4 sK):∀k:Nat,b8 P w K mg base (1+k) "_law_true" 4 (l7 k)
 |0=>l5 (ps:=F7) wa zT rfl (fun _ _ _ _ _ _ us hl=>match us,hl with|[_,_,_,_],_=>rfl)
 |k+1=>by
  have pI:=Cg wa zT B CO k
  exact k_ (ps:=F7) wa zT rfl (fun _ _ _ _ _ _ us hl=>match us,hl with|[_,_,_,_],_=>rfl) (cM (k:=1+k) wa rQ rfl fun gk A outer s H E hr=>(aA (sS 4 rQ (a9 (ae 0) au)) (aA (bV (br (eU hr) (ae 4) cm) (aH (be (yk (bz pI hr (by omega) (aa (a9 (ae 0) au) (aa (ae 1) (aa (ae 2) (aa (ae 3) av)))))))) bO) (aA (bV (br (eU hr) (ae 4) cm) (aH (be (qB (bz pI hr (by omega) (aa (a9 (ae 0) au) (aa (ae 1) (aa (ae 2) (aa (ae 3) av))))) (mX (bz pI hr (by omega) (aa (a9 (ae 0) au) (aa (ae 1) (aa (ae 2) (aa (ae 3) av))))))))) bO) (aA (bV (br (eU hr) (ae 4) cm) (aH (be (IV (bz pI hr (by omega) (aa (a9 (ae 0) au) (aa (ae 1) (aa (ae 2) (aa (ae 3) av))))) (mX (bz pI hr (by omega) (aa (a9 (ae 0) au) (aa (ae 1) (aa (ae 2) (aa (ae 3) av))))))))) bO) (aA (bV (t0 (yi (br (eU hr) (ae 4) cm) (tZ (br (eU hr) (ae 4) cm)))) (aA (bV (br (t7 hr) (a9 (ae 0) au) cm) (aH (pW (sG 5 rQ) (m:=0) (nm:=["_law_k"]) (cap:=[none]) (by first|rfl|kernel_rfl) rfl (fX B.range (aa (cF fE B.len cL (aa (ae 1) av)) av)) (fun _ _ _ _ _=>(sC 0)) (fun _ _ _ _ _=>j4) (fun _ _ _ _ _=>(bg sw au (ae 0))))) (aH (sS 5 rQ (Jn hr B.list B.range (aa (bg sw au (cF fE B.len cL (aa (ae 1) av))) av))))) (aA (fS (iL (ae 5)) (sG 6 rQ) (aA (sS 7 rQ (ki Jq B.dict Dz (aa (ae 3) av))) (aA (lI (AH hr) (ae 6) (ae 7) (a9 (ae 0) au)) (aH (bV (br (I_ hr) (bz pI hr (by omega) (aa (a9 (ae 0) au) (aa (ae 1) (aa (ae 2) (aa (ae 7) av))))) (jR (eU hr) (ae 4) cm)) (aH (be (jR (eU hr) (ae 4) cm))) bO))))) (aH (be (jR (eU hr) (ae 4) cm))))) bO) (aH (be (bz CO hr (by omega) (aa (ae 0) (aa (ae 1) (aa (ae 2) (aa (ae 3) av)))))))))))))
def K8:FS:=(aR (bM 1 (kW aJ)) (aR (jg (dZ (ag 0)) (Ja 2 (g8 (ie 2) (g8 (ie 3) sA))) (aR (bM 4 (eI 0)) (aR (fR (dA (ii (ag 2))) (bM 4 (e2 pb (e2 pb (ag 4) (e2 bp (ag 1) (ag 2))) (e2 nI (eI 1) (ag 2)))) b7) (aR (fR (dA (ii (ag 3))) (bM 4 (e2 pb (e2 pb (ag 4) (e2 bp (ag 1) (ag 3))) (e2 nI (eI 1) (ag 3)))) b7) (gs (pV cv (ag 1) (ah (ag 4) aJ))))))) (cK (ag 1))))
def zb:List W->List ao->R W:=dR 5 K8
theorem Nv(F:jM K "_law_under" "_law_under" F9 f fd)  :eK P w K mg base (j' P w) 1 f fd KM (k9 K mg 1 zb):=
 cM (k:=0) F p9 rfl fun gk A outer s H E hr=>(aA (sS 1 p9 (ji av)) (aA (fS (iL (ae 0)) (rE rfl (gu (sG 2 p9) (gu (sG 3 p9) oM))) (aA (sS 4 p9 au) (aA (bV (mw (ae 2)) (aH (sS 4 p9 (bg sE (bg sE (ae 4) (a9 (ae 1) (ae 2))) (bg sw au (ae 2))))) bO) (aA (bV (mw (ae 3)) (aH (sS 4 p9 (bg sE (bg sE (ae 4) (a9 (ae 1) (ae 3))) (bg sw au (ae 3))))) bO) (aH (fF (o_ PySem.F.slot_list_append PySem.F.type_list_append dO (ae 1) (aa (ae 4) av)))))))) (aH (be (ae 1)))))
def K9:FS:=(aR (bM 1 E9) (aR (jg (dI (ah (cw eV (ah (ag 0) aJ)) aJ)) (ie 2) (jg (dZ (e2 bp (e2 bp (ag 0) (ag 2)) (eI 1))) (ie 3) (o9 (ag 1) (ag 3) (e2 pb (mB (ag 1) (ag 3) (eI 0)) (e2 nI (eI 1) (ag 2))) l6))) (cK (ag 1))))
def zc:List W->List ao->R W:=dR 4 K9
theorem Nw(F:jM K "_law_worn" "_law_worn" F_ f fd)(B:Bl mg) :eK P w K mg base (j' P w) 1 f fd KN (k9 K mg 1 zc):=
 cM (k:=0) F xi rfl fun gk A outer s H E hr=>(aA (sS 1 xi E_) (aA (fS (fX B.range (aa (cF fE B.len cL (aa (ae 0) av)) av)) (sG 2 xi) (aH (fS (iL (a9 (a9 (ae 0) (ae 2)) au)) (sG 3 xi) (aH (lI (AH hr) (bg sE (wR hr (ae 1) (ae 3) au) (bg sw au (ae 2))) (ae 1) (ae 3)))))) (aH (be (ae 1)))))
def Gq:FS:=(aR (fR (dA (e2 BS (bX 2 (m8 40) (ah (ag 0) (ah (cw eV (ah (ag 1) aJ)) aJ))) (eI 4096))) (cK (eN (ah (eC (.str [114,101,102,117,115,101,100])) (ah (eC (.bl true)) (ah (eC (.bl true)) (ah (eC (.bl false)) aJ)))))) b7) (aR (bM 2 (bX 1 za (ah (ag 1) aJ))) (cK (bX 4 (l7 40) (ah (ag 0) (ah (ag 2) (ah (bX 1 zb (ah (ag 2) aJ)) (ah (bX 1 zc (ah (ag 1) aJ)) aJ))))))))
def zd:List W->List ao->R W:=dR 3 Gq
theorem Nx(F:jM K "_law_due" "_law_due" F' f fd)(B:Bl mg)(HL:b8 P w K mg base 1 "_law_links" 1 za)(pI:b8 P w K mg base 41 "_law_true" 4 (l7 40))(HI:b8 P w K mg base 1 "_law_under" 1 zb)(m_:b8 P w K mg base 40 "_law_ways" 2 (m8 40))(Hd:b8 P w K mg base 1 "_law_worn" 1 zc):eK P w K mg base (j' P w) 42 f fd KO (k9 K mg 2 zd):=
 cM (k:=41) F Ga rfl fun gk A outer s H E hr=>(aA (bV (br sU (bz m_ hr (by omega) (aa (ae 0) (aa (cF fE B.len cL (aa (ae 1) av)) av))) au) (aH (be (dh (aa cm (aa tX (aa tX (aa tX av))))))) bO) (aA (sS 2 Ga (bz HL hr (by omega) (aa (ae 1) av))) (aH (be (bz pI hr (by omega) (aa (ae 0) (aa (ae 2) (aa (bz HI hr (by omega) (aa (ae 2) av)) (aa (bz Hd hr (by omega) (aa (ae 1) av)) av)))))))))
def Gs:FS:=(aR (bM 2 (eC .non)) (aR (AF (bM 2 (bX 2 vN (ah (ag 0) (ah (ag 1) aJ)))) pD 3 (bM 2 (eN (ah (eC (.str [114,101,102,117,115,101,100])) (ah (wO gz (ag 3)) (ah (wO iX (ag 3)) (ah (wO vJ (ag 3)) aJ))))))) (cK (ag 2))))
def sL:List W->List ao->R W:=dR 4 Gs
theorem Ny(F:jM K "_law_ask" "_law_ask" Gb f fd)(B:Bl mg)(C:J8 K mg)(Hv:b8 P w K mg base 44 "holds" 2 vN):eK P w K mg base (j' P w) 45 f fd KP (k9 K mg 2 sL):=
 cM (k:=44) F uw rfl fun gk A outer s H E hr=>(aA (sS 2 uw tY) (aA (Mz (i:=3) C.catch_TrunkError uw.nd rfl (Or.inl rfl) (fun _ _=>(aH (sS 2 uw (bz Hv hr (by omega) (aa (ae 0) (aa (ae 1) av)))))) (fun _=>(aH (sS 2 uw (dh (aa cm (aa (P6 B.isinstance B.ValueError Jy C.isi_ValueError (ae 3)) (aa (C.isi_TooGreat.elim fun _ h=>P5 B.isinstance h.1 h.2 (ae 3)) (aa (C.isi_t0.elim fun _ h=>h.elim fun _ h=>h.elim fun _ h=>h.elim fun _ h=>h.elim fun _ h=>h.elim fun _ h=>h.elim fun _ h=>h.elim fun _ h=>MC B.isinstance (.cons h.1 rfl (by decide) (.cons h.2.1 rfl (by decide) (.cons h.2.2.1 rfl (by decide) (.cons h.2.2.2.1 rfl (by decide) (.cons h.2.2.2.2.1 rfl (by decide) (.cons h.2.2.2.2.2.1 rfl (by decide) (.cons h.2.2.2.2.2.2.1 rfl (by decide) (.cons h.2.2.2.2.2.2.2.1 rfl (by decide) .nil)))))))) h.2.2.2.2.2.2.2.2 (ax rfl) (ae 3)) av))))))))) (aH (be (ae 2)))))
def Ch(Q4:List W->List ao->R W):FS:=(aR (fR (dA (qI "tuple" (ag 1))) (aR (fR (BR (Kb (dA (qI "tuple" (ag 0)))) (dA (e2 Do (cw eV (ah (ag 0) aJ)) (cw eV (ah (ag 1) aJ))))) (cK (eC (.bl false))) b7) (aR (jg (dI (ah (cw eV (ah (ag 1) aJ)) aJ)) (ie 2) (fR (Kb (dA (bX 2 Q4 (ah (e2 bp (ag 0) (ag 2)) (ah (e2 bp (ag 1) (ag 2)) aJ))))) (cK (eC (.bl false))) b7)) (cK (eC (.bl true))))) b7) (aR (fR (dA (Ay (ag 1))) (cK (Ay (ag 0))) b7) (aR (fR (dA (qI "bool" (ag 1))) (cK (pS (qI "bool" (ag 0)) (e2 fQ (ag 0) (ag 1)))) b7) (aR (fR (dA (qI "int" (ag 1))) (cK (pS (qI "int" (ag 0)) (pS (yj (qI "bool" (ag 0))) (e2 fQ (ag 0) (ag 1))))) b7) (cK (pS (qI "str" (ag 0)) (e2 fQ (ag 0) (ag 1))))))))
def lh:Nat->List W->List ao->R W
 |0=>fun _ _=>.bad
 |k+1=>dR 3 (Ch (lh k))
theorem Ci{HM:Addr}{N3:FuncData}(v8:jM K "_law_same" "_law_same" Gd HM N3)(zJ:mg "_law_same"=some (.ref HM))(B:Bl mg) :∀k:Nat,b8 P w K mg base (0+k) "_law_same" 2 (lh k)
 |0=>l5 (ps:=Ge) v8 zJ rfl (fun _ _ _ _ _ _ us hl=>match us,hl with|[_,_],_=>rfl)
 |k+1=>by
  have uO:=Ci v8 zJ B  k
  exact k_ (ps:=Ge) v8 zJ rfl (fun _ _ _ _ _ _ us hl=>match us,hl with|[_,_],_=>rfl) (cM (k:=0+k) v8 Gf rfl fun gk A outer s H E hr=>(aA (bV (iJ (pz B.isinstance B.tuple gR (ae 1))) (aA (bV (t0 (yi (wG (iJ (pz B.isinstance B.tuple gR (ae 0)))) (tZ (br (I_ hr) (cF fE B.len cL (aa (ae 0) av)) (cF fE B.len cL (aa (ae 1) av)))))) (aH (be tX)) bO) (aA (fS (fX B.range (aa (cF fE B.len cL (aa (ae 1) av)) av)) (sG 2 Gf) (aH (bV (wG (iJ (bz uO hr (by omega) (aa (a9 (ae 0) (ae 2)) (aa (a9 (ae 1) (ae 2)) av))))) (aH (be tX)) bO))) (aH (be tX)))) bO) (aA (bV (Mq (ae 1)) (aH (be (PH (ae 0)))) bO) (aA (bV (iJ (pz B.isinstance B.bool mi (ae 1))) (aH (be (qB (pz B.isinstance B.bool mi (ae 0)) (mX (jR (eU hr) (ae 0) (ae 1)))))) bO) (aA (bV (iJ (pz B.isinstance B.int boot_int (ae 1))) (aH (be (qB (pz B.isinstance B.int boot_int (ae 0)) (qB (yk (pz B.isinstance B.bool mi (ae 0))) (mX (jR (eU hr) (ae 0) (ae 1))))))) bO) (aH (be (qB (pz B.isinstance B.str boot_str (ae 0)) (mX (jR (eU hr) (ae 0) (ae 1)))))))))))
def K_:FS:=(aR (wI (bX 1 y_ (ah (ag 0) aJ)) (Ja 2 (g8 (ie 1) (g8 (ie 2) sA)))) (aR (bM 3 (bX 2 zd (ah (ag 1) (ah (ag 2) aJ)))) (aR (bM 4 (ag 3)) (aR (fR (dA (qI "bool" (ag 3))) (bM 4 (yj (ag 3))) b7) (aR (fR (Kb (dA (bX 2 (lh 40) (ah (bX 2 sL (ah (ag 1) (ah (ag 2) aJ))) (ah (ag 3) aJ))))) (cK (eC (.bl false))) b7) (aR (fR (bnd (dA (qI "bool" (ag 3))) (dA (e2 BS (e2 iV (bX 2 (m8 40) (ah (ag 1) (ah (cw eV (ah (ag 2) aJ)) aJ))) (cw eV (ah (ag 2) aJ))) (eI 30000)))) (cK (eC (.bl true))) b7) (aR (fR (Kb (dA (bX 2 (lh 40) (ah (bX 2 sL (ah (eN (ah (eC (.str [110,111,116])) (ah (ag 1) aJ))) (ah (ag 2) aJ))) (ah (ag 4) aJ))))) (cK (eC (.bl false))) b7) (cK (bX 2 (lh 40) (ah (bX 2 sL (ah (ag 1) (ah (ag 2) aJ))) (ah (ag 3) aJ)))))))))))
def f_q41:List W->List ao->R W:=dR 5 K_
theorem Nz(F:jM K "law" "law" qP f fd)(B:Bl mg)(zY:b8 P w K mg base 45 "_law_ask" 2 sL)(Hq:b8 P w K mg base 42 "_law_due" 2 zd)(Hs:b8 P w K mg base 4 "_law_pair" 1 y_)(uO:b8 P w K mg base 40 "_law_same" 2 (lh 40))(m_:b8 P w K mg base 40 "_law_ways" 2 (m8 40)):eK P w K mg base (j' P w) 46 f fd Gh (k9 K mg 1 f_q41):=
 cM (k:=45) F rR rfl fun gk A outer s H E hr=>(aA (Mu (bz Hs hr (by omega) (aa (ae 0) av)) (rE rfl (gu (sG 1 rR) (gu (sG 2 rR) oM)))) (aA (sS 3 rR (bz Hq hr (by omega) (aa (ae 1) (aa (ae 2) av)))) (aA (sS 4 rR (ae 3)) (aA (bV (iJ (pz B.isinstance B.bool mi (ae 3))) (aH (sS 4 rR (yk (ae 3)))) bO) (aA (bV (wG (iJ (bz uO hr (by omega) (aa (bz zY hr (by omega) (aa (ae 1) (aa (ae 2) av))) (aa (ae 3) av))))) (aH (be tX)) bO) (aA (bV (t0 (rB (iJ (pz B.isinstance B.bool mi (ae 3))) (oI (br sU (bg iN (bz m_ hr (by omega) (aa (ae 1) (aa (cF fE B.len cL (aa (ae 2) av)) av))) (cF fE B.len cL (aa (ae 2) av))) au)))) (aH (be tX)) bO) (aA (bV (wG (iJ (bz uO hr (by omega) (aa (bz zY hr (by omega) (aa (dh (aa cm (aa (ae 1) av))) (aa (ae 2) av))) (aa (ae 4) av))))) (aH (be tX)) bO) (aH (be (bz uO hr (by omega) (aa (bz zY hr (by omega) (aa (ae 1) (aa (ae 2) av))) (aa (ae 3) av))))))))))))
end
theorem rS{α:Type}(ns:List α)(hl:0<ns.length)(k:Int):∃c∈ns,ph ns (k%((ns.length:Nat):Int))=some c:=by
 have h0:0<=k%((ns.length:Nat):Int):=iG _ (by omega)
 have h1:k%((ns.length:Nat):Int)<ns.length:=kP _ (by omega)
 obtain⟨m,hm⟩:=Int.eq_ofNat_of_zero_le h0
 rw[hm]at h1 ⊢
 have h2:m<ns.length:=by omega
 exact⟨ns[m],dm _,g_ (by simp[h2])⟩
theorem oT{n:Nat}{st:List ao}{ns:List Int}(h:st[n]?=some (.ro (ns.map W.int)))(k:Int):∃c,nY [.loc n,.int k] st=.ok (.int c) st:=by
 by_cases hn:ns=[]
 ·subst hn
  refine⟨0,?_⟩
  apply oR;apply AO;apply g9
  ·(repeat' (first|with_reducible exact kw (tq h)|walk_at "ev1"))
  ·(walk_at "evs")
 ·have hl:0<ns.length:=List.length_pos_iff.mpr hn
  obtain⟨c,hc,e⟩:=rS (ns.map W.int) (by simpa using hl) k
  obtain⟨c,_,rfl⟩:=cS.mp hc
  refine⟨c,?_⟩
  apply oR;apply B9
  ·apply i'
   ·(repeat' (first|with_reducible exact kw (tq h)|walk_at "ev1"))
    rw[bY,aC];omega
   ·(walk_at "evs")
  ·(repeat' (first|with_reducible exact kw (tq h)|with_reducible exact e6 (tq h) e|walk_at "ev1"))
   rw[aC];omega
theorem Gu(c k s:Int)(hk:-(2^64)<k/\k<2^64)(st:List ao):∃r,0<=r/\vO [.int c,.int k,.int s] st=.ok (.int r) st:=by
 have big:∀q:Int,0<=q%2147483647/\q%2147483647<2147483647:=fun q=>⟨iG _ (by decide),kP _ (by decide)⟩
 refine⟨(((c+7*k*k+13*k+s)*69621%2147483647*((c+7*k*k+13*k+s)*69621%2147483647/1009+3)+31*k+s)%2147483629*48271)%1000000007,iG _ (by decide),?_⟩
 apply oR;apply B9
 ·(walk_at "evs")<;>first|exact .inl (by decide)|exact .inr (by decide)|exact .inr hk
 ·(walk_at "evs")<;>first|exact .inl (by decide)|exact .inr (by decide)|exact .inl (by have:=big ((c+7*k*k+13*k+s)*69621);omega)
theorem l8(c s:Int)(m:Nat)(hm:m<=1000)(st:List ao):∃ds:List Int,ds.length=m/\(∀d∈ds,0<=d)/\jV [.int c,.int m,.int s] st=.ok (.loc st.length) (st++[.lst (ds.map W.int)]):=by
 suffices hh:jl (wU fun w bf=>∃j x,w=.loc (st.length+j)/\bf=st++x/\j=0/\∃ds:List Int,x=[.lst (ds.map W.int)]/\ds.length=m/\∀d∈ds,0<=d) (KY ([W.int c,.int m,.int s].map some++List.replicate (6-3) none) st) by
  obtain⟨j,x,⟨rfl,ds,rfl,h1,h2⟩,e⟩:=qO hh
  exact⟨ds,h1,h2,e⟩
 apply aD
 ·(walk_at "evs")
 apply aD
 ·(walk_at "evs")
 have main:∀r0:Int,jl (wU fun w bf=>∃j x,w=.loc (st.length+j)/\bf=st++x/\j=0/\∃ds:List Int,x=[.lst (ds.map W.int)]/\ds.length=m/\∀d∈ds,0<=d)
   (aR (jg (dI (ah (ag 1) aJ)) (ie 5) (fR (dA (e2 BS (ag 4) (eI 0))) (aR (gs (pV cv (ag 3) (ah (e2 dX (ag 4) (eI 64)) aJ))) (bM 4 (e2 jk (ag 4) (eI 64)))) (gs (pV cv (ag 3) (ah (bX 3 vO (ah (ag 0) (ah (ag 5) (ah (ag 2) aJ)))) aJ))))) (cK (ag 3))
   [some (.int c),some (.int m),some (.int s),some (.loc st.length),some (.int r0),none] (st++[.lst []])):=by
  intro r0
  refine fG (fun i ρ bf=>∃(r:Int) (o:Option W) (ds:List Int),ρ=[some (.int c),some (.int m),some (.int s),some (.loc st.length),some (.int r),o]/\bf=st++[.lst (ds.map W.int)]/\ds.length=i/\∀d∈ds,0<=d) (gM (by(walk_at "evs");rfl) (by omega))
   ⟨r0,none,[],rfl,rfl,rfl,by simp⟩ (fun _ _ _ _=>trivial) ?_ ?_
  ·rintro i w ρ bf hw ⟨r,o,ds,rfl,rfl,hd,h⟩
   obtain⟨hi,rfl⟩:=gU hw
   refine⟨_,rfl,?_⟩
   have dq:(st++[ao.lst (ds.map W.int)])[st.length]?=some (.lst (ds.map W.int)):=by rw[fY];rfl
   have hsh:(ds.map W.int).length<jY:=by rw[aC,hd];show i<1000000;omega
   by_cases hr:0<r
   ·apply iW
    ·(walk_at "evs");simpa using hr
    apply aD
    ·(repeat' (first|with_reducible exact fz dq|with_reducible exact jU dq hsh|walk_at "ev1"))
    rw[d9]
    apply b_
    ·(walk_at "evs")
    ·refine⟨_,_,rfl,r/64,_,ds++[r%64],rfl,by simp,by simp[hd],fun d hd'=>?_⟩
     rcases bj.mp hd' with hd'|hd'
     ·exact h d hd'
     ·rw[aV.mp hd'];exact iG _ (by decide)
   ·obtain⟨q,hq,e⟩:=Gu c (0+i) s (by omega) (st++[ao.lst (ds.map W.int)])
    apply gY
    ·(walk_at "evs");simpa using hr
    apply b_
    ·(repeat' (first|with_reducible exact fz dq|with_reducible exact jU dq hsh|with_reducible exact e|walk_at "ev1"))
    ·refine⟨_,_,rfl,r,_,ds++[q],rfl,by rw[d9];simp,by simp[hd],fun d hd'=>?_⟩
     rcases bj.mp hd' with hd'|hd'
     ·exact h d hd'
     ·rw[aV.mp hd'];exact hq
  ·rintro ρ bf ⟨r,o,ds,rfl,rfl,hd,h⟩
   apply bD
   ·(walk_at "evs")
   ·exact⟨_,_,rfl,0,_,rfl,rfl,rfl,ds,rfl,by rw[hd];simpa using fj 0 m,h⟩
 by_cases hc:(10:Int)^18<=c
 ·apply aD
  ·apply g9
   ·(walk_at "evs")<;>simpa using hc
   ·(walk_at "evs")
  ·exact main c
 ·apply aD
  ·apply i'
   ·(walk_at "evs")<;>simpa using hc
   ·(walk_at "evs")
  ·exact main 0
abbrev LL:List Nat:=[65,66,67,68,69,70,71,72,73,74,75,76,77,78,79,80,81,82,83,84,85,86,87,88,89,90,97,98,99,100,101,102,103,104,105,106,107,108,109,110,111,112,113,114,115,116,117,118,119,120,121,122]
theorem Jz(c s:Int)(m:Nat)(hm:m<=50)(st:List ao):∃l:List Nat,l.length=m/\(∀d∈l,d∈LL)/\vP [.int c,.int m,.int s] st=.ok (.str l) st:=by
 suffices hh:jl (wU fun w bf=>(∃x,bf=st++x)/\undWs st.length [w]=true/\∃l:List Nat,w=.str l/\l.length=m/\∀d∈l,d∈LL) (KZ ([W.int c,.int m,.int s].map some++List.replicate (7-3) none) st) by
  obtain⟨w,⟨l,rfl,h1,h2⟩,e⟩:=mD hh
  exact⟨l,h1,h2,e⟩
 obtain⟨ds,h1,h2,e⟩:=l8 c s m (by omega) st
 apply aD
 ·(walk_at "evs")
 apply aD
 ·(walk_at "evs")
 have dq:lstOf (st++[ao.lst (ds.map W.int)]) st.length=some (ds.map W.int):=bd (by rw[fY];rfl)
 refine fG (fun i ρ bf=>∃(r f:List Nat) (o o2:Option W),ρ=[some (.int c),some (.int m),some (.int s),some (.str r),some (.str f),o,o2]/\bf=st++[.lst (ds.map W.int)]/\f.length=i/\r.length+i=52/\(∀d∈r,d∈LL)/\∀d∈f,d∈LL) (mC (by(repeat' (first|with_reducible exact e|walk_at "ev1"))) dq)
  ⟨LL,[],none,none,rfl,rfl,rfl,rfl,fun _ h=>h,by simp⟩ (fun i ρ bf h=>?_) ?_ ?_
 ·obtain⟨r,f,o,o2,rfl,rfl,_⟩:=h
  exact dq
 ·rintro i w ρ bf hw ⟨r,f,o,o2,rfl,rfl,hf,hr,hrl,hfl⟩
  obtain⟨d,hd,rfl⟩:∃d,ds[i]?=some d/\w=.int d:=by
   simp only[aG,bK]at hw
   obtain⟨d,h1,rfl⟩:=hw
   exact⟨d,h1,rfl⟩
  have hi:i<m:=by rw[<- h1];exact(ak.mp hd).1
  obtain⟨q,hq,eq⟩:=iA (q:=d) (n:=r.length) (by omega)
  have hL:r.length<=jY:=by show _<=1000000;omega
  have hLf:f.length<=jY:=by show _<=1000000;omega
  have hat:ph r (d%(r.length:Int))=some r[q]:=by rw[eq];exact g_ (by simp[hq])
  refine⟨_,rfl,?_⟩
  apply aD
  ·(repeat' (first|with_reducible exact wT hL|walk_at "ev1"))
   show 0<(r.length:Int);omega
  apply aD
  ·have ha:f.length+[r[q]].length<=jY:=by show _+1<=1000000;omega
   (repeat' (first|with_reducible exact sF hL hat|with_reducible exact AQ ha|walk_at "ev1"))
  apply b_
  ·(repeat' (first|with_reducible exact Qa hL|walk_at "ev1"))
   rw[eq,wV (by omega),show((q:Int)+1)=((q+1:Nat):Int)from rfl,wW (by omega),bS,gW]
   show _<=1000000;omega
  ·refine⟨_,_,rfl,_,_,_,_,rfl,rfl,by simp[hf],?_,?_,?_⟩
   ·rw[eq,wV (by omega),show((q:Int)+1)=((q+1:Nat):Int)from rfl,wW (by omega),bC,bS,gW]
    omega
   ·intro d hd
    rw[eq,wV (by omega),show((q:Int)+1)=((q+1:Nat):Int)from rfl,wW (by omega)]at hd
    rcases bj.mp hd with hd|hd
    ·exact hrl _ (List.mem_of_mem_take hd)
    ·exact hrl _ (List.mem_of_mem_drop hd)
   ·intro d hd
    rcases bj.mp hd with hd|hd
    ·exact hfl _ hd
    ·rw[aV.mp hd];exact hrl _ (dm _)
 ·rintro ρ bf ⟨r,f,o,o2,rfl,rfl,hf,hr,hrl,hfl⟩
  apply bD
  ·(walk_at "evs")
  ·exact⟨_,_,rfl,⟨_,rfl⟩,rfl,f,rfl,by rw[hf];simpa using h1,hfl⟩
structure Pl where
 b:Nat
 m:List Nat
def Pl.w(p:Pl):W:=.tup [.int p.b,.str p.m]
def fm(t:List Pl):W:=.tup (t.map Pl.w)
inductive St(n:Nat):List Nat->Nat->List Nat->Nat->Option Nat×Option Nat->Prop
 |z {S:List Nat}:St n S 0 (1::S) 1 (none,none)
 |l {a:Nat} {S:List Nat}:St n (a::S) 1 ((1+a)::S) (1+a) (some (n-1),none)
 |r {a:Nat} {S:List Nat}:St n (a::S) 2 ((1+a)::S) (1+a) (none,some (n-1))
 |b {c a:Nat} {S:List Nat}:St n (c::a::S) 3 ((1+c+a)::S) (1+c+a) (some (n-1-c),some (n-1))
inductive Gr:List Pl->List Nat->List Nat->List (Option Nat×Option Nat)->Prop
 |nil:Gr [] [] [] []
 |snoc {ps:List Pl} {S S' sz:List Nat} {lk:List (Option Nat×Option Nat)} {b k:Nat} {m:List Nat} {x:Option Nat×Option Nat}:Gr ps S sz lk->St ps.length S b S' k x->Gr (ps++[⟨b,m⟩]) S' (sz++[k]) (lk++[x])
def At(sz:List Nat):List Nat->Nat->Prop
 |[],n=>n=0
 |a::S,n=>sz[n-1]?=some a/\a<=n/\1<=a/\At sz S (n-a)
theorem At.app{sz x:List Nat}:∀{S:List Nat} {n:Nat},n<=sz.length->At sz S n->At (sz++x) S n
 |[],_,_,h=>h
 |a::S,n,hn,⟨h1,h2,h3,h4⟩=>⟨by rw[bq (by omega)];exact h1,h2,h3,At.app (by omega) h4⟩
theorem St.at'{n:Nat}{sz S S':List Nat}{b k:Nat}{x:Option Nat×Option Nat}(h:St n S b S' k x)(hn:sz.length=n)(ha:At sz S n):At (sz++[k]) S' (n+1):=by
 have hk:(sz++[k])[n+1-1]?=some k:=by rw[Nat.add_sub_cancel,<- hn];simp
 cases h with
 |z=>exact⟨hk,by omega,by omega,by rw[Nat.add_sub_cancel];exact ha.app (by omega)⟩
 |@l a S=>exact⟨hk,by have:=ha.2.1;omega,by omega,by rw[show n+1-(1+a)=n-a by omega];exact ha.2.2.2.app (by omega)⟩
 |@r a S=>exact⟨hk,by have:=ha.2.1;omega,by omega,by rw[show n+1-(1+a)=n-a by omega];exact ha.2.2.2.app (by omega)⟩
 |@b c a S=>exact⟨hk,by have:=ha.2.1;have:=ha.2.2.2.2.1;omega,by omega,by rw[show n+1-(1+c+a)=n-c-a by omega];exact ha.2.2.2.2.2.2.app (by omega)⟩
theorem Gr.ok{ps:List Pl}{S sz:List Nat}{lk:List (Option Nat×Option Nat)}(h:Gr ps S sz lk):sz.length=ps.length/\lk.length=ps.length/\At sz S ps.length:=by
 induction h with
 |nil=>exact⟨rfl,rfl,rfl⟩
 |snoc _ hs ih=>
  obtain⟨h1,h2,h3⟩:=ih
  exact⟨by simp[h1],by simp[h2],by rw[bC];exact hs.at' h1 h3⟩
theorem Gr.step{ps:List Pl}{S sz:List Nat}{lk:List (Option Nat×Option Nat)}(h:Gr ps S sz lk):∀i,i<ps.length->∃S1 S2 p k x,Gr (ps.take i) S1 (sz.take i) (lk.take i)/\ps[i]?=some p/\sz[i]?=some k/\lk[i]?=some x/\St i S1 p.b S2 k x/\Gr (ps.take (i+1)) S2 (sz.take (i+1)) (lk.take (i+1)):=by
 induction h with
 |nil=>intro i hi;simp at hi
 |@snoc ps S S' sz lk b k m x hg hs ih=>
  intro i hi
  obtain⟨l1,l2,_⟩:=hg.ok
  by_cases e:i=ps.length
  ·subst e
   refine⟨S,S',⟨b,m⟩,k,x,?_,by simp,by rw[<- l1];simp,by rw[<- l2];simp,hs,?_⟩
   ·rw[kN,<- l1,kN]
    rw[l1,<- l2,kN];exact hg
   ·rw[dk (by simp),dk (by simp[l1]),dk (by simp[l2])]
    exact .snoc hg hs
  ·have hi':i<ps.length:=by simp at hi;omega
   obtain⟨S1,S2,p,k1,x1,g1,q1,q2,q3,hs1,g2⟩:=ih i hi'
   refine⟨S1,S2,p,k1,x1,?_,by rw[bq hi'];exact q1,by rw[bq (by omega)];exact q2,by rw[bq (by omega)];exact q3,hs1,?_⟩
   ·rw[cR (by omega),cR (by omega),cR (by omega)];exact g1
   ·rw[cR (by omega),cR (by omega),cR (by omega)];exact g2
theorem Gr.cut{ps:List Pl}{S sz:List Nat}{lk:List (Option Nat×Option Nat)}(h:Gr ps S sz lk){i:Nat}(hi:i<ps.length):∃(p:Pl) (L R:Nat),ps[i]?=some p/\sz[i]?=some (1+L+R)/\L+R<=i/\p.b<=3/\(0<L↔p.b%2=1)/\(0<R↔2<=p.b)/\(2<=p.b->1<=i/\sz[i-1]?=some R):=by
 obtain⟨S1,S2,p,k,x,g1,q1,q2,q3,hs,_⟩:=h.step i hi
 obtain⟨l1,l2,ha⟩:=g1.ok
 have dr:(ps.take i).length=i:=by rw[bS];omega
 rw[dr]at ha
 obtain⟨b,m⟩:=p
 have get:∀j a,1<=i->j=i-1->(sz.take i)[j]?=some a->sz[j]?=some a:=fun j a hi1 hj e=>by
  rw[cU (by omega)]at e;exact e
 cases hs with
 |z=>exact⟨⟨0,m⟩,0,0,q1,q2,by omega,by simp,by simp,by simp,by simp⟩
 |@l a S=>
  have ha1:(sz.take i)[i-1]?=some a:=ha.1
  have ha2:a<=i:=ha.2.1
  have ha3:1<=a:=ha.2.2.1
  exact⟨⟨1,m⟩,a,0,q1,q2,by omega,by simp,by simp;omega,by simp,by simp⟩
 |@r a S=>
  have ha1:(sz.take i)[i-1]?=some a:=ha.1
  have ha2:a<=i:=ha.2.1
  have ha3:1<=a:=ha.2.2.1
  exact⟨⟨2,m⟩,0,a,q1,by rw[q2],by omega,by simp,by simp,by simp;omega,fun _=>⟨by omega,get _ _ (by omega) rfl ha1⟩⟩
 |@b c a S=>
  have ha1:(sz.take i)[i-1]?=some c:=ha.1
  have ha2:c<=i:=ha.2.1
  have ha3:1<=c:=ha.2.2.1
  have hb2:a<=i-c:=ha.2.2.2.2.1
  have hb3:1<=a:=ha.2.2.2.2.2.1
  exact⟨⟨3,m⟩,a,c,q1,by rw[q2];congr 1<;>omega,by omega,by simp,by simp;omega,by simp;omega,fun _=>⟨by omega,get _ _ (by omega) rfl ha1⟩⟩
theorem QU{b:Nat}(h:b<=3)(st:List ao):sV false (.int b) (.tup [.int 1,.int 3]) st=.ok (.bl (decide (b%2=1))) st:=by
 obtain rfl|rfl|rfl|rfl:b=0\/b=1\/b=2\/b=3:=by omega
 all_goals rfl
theorem QV{b:Nat}(h:b<=3)(st:List ao):sV false (.int b) (.tup [.int 2,.int 3]) st=.ok (.bl (decide (2<=b))) st:=by
 obtain rfl|rfl|rfl|rfl:b=0\/b=1\/b=2\/b=3:=by omega
 all_goals rfl
theorem JA{p:Pl}(h:p.b<=3)(st:List ao):xj [p.w] st=.ok (.bl (decide (p.b%2=1))) st:=by
 have:=QU h st
 have i0:bp p.w (.int 0) st=.ok (.int p.b) st:=rfl
 apply bR
 apply bD
 ·(walk_at "evs")
 ·exact⟨_,_,rfl,rfl,rfl⟩
theorem Gv{p:Pl}(h:p.b<=3)(st:List ao):xk [p.w] st=.ok (.bl (decide (2<=p.b))) st:=by
 have:=QV h st
 have i0:bp p.w (.int 0) st=.ok (.int p.b) st:=rfl
 apply bR
 apply bD
 ·(walk_at "evs")
 ·exact⟨_,_,rfl,rfl,rfl⟩
def oW:Option Nat->W
 |none=>.non
 |some k=>.int k
def jW(x:Option Nat×Option Nat):W:=.tup [oW x.1,oW x.2]
def kT:List Nat->Nat->List Nat
 |[],_=>[]
 |a::S,n=>(n-1)::kT S (n-a)
theorem j7:∀(S:List Nat) (n:Nat),(kT S n).length=S.length
 |[],_=>rfl
 |a::S,n=>by simp[kT,j7 S]
theorem At.le{sz:List Nat}:∀{S:List Nat} {n:Nat},At sz S n->S.length<=n
 |[],_,_=>bQ _
 |a::S,n,⟨_,h2,h3,h4⟩=>by have:=At.le h4;simp;omega
theorem St.det{n:Nat}{S S1 S2:List Nat}{b k1 k2:Nat}{x1 x2:Option Nat×Option Nat}(h1:St n S b S1 k1 x1)(h2:St n S b S2 k2 x2):S1=S2/\k1=k2/\x1=x2:=by
 cases h1<;>cases h2<;>exact⟨rfl,rfl,rfl⟩
theorem Gr.det{ps:List Pl}{S sz:List Nat}{lk:List (Option Nat×Option Nat)}(h:Gr ps S sz lk):∀{RB:List Pl} {S' S6:List Nat} {SY:List (Option Nat×Option Nat)},Gr RB S' S6 SY->ps=RB->S=S':=by
 induction h with
 |nil=>
  intro RB S' S6 SY h' e
  cases h' with
  |nil=>rfl
  |snoc _ _=>simp at e
 |snoc hg hs ih=>
  intro RB S' S6 SY h' e
  cases h' with
  |nil=>simp at e
  |snoc hg' hs'=>
   have e2:=List.append_inj' e rfl
   have:=ih hg' e2.1
   subst this
   have e3:Pl.mk _ _=Pl.mk _ _:=List.head_eq_of_cons_eq e2.2
   injection e3 with eb em
   subst eb
   rw[<- e2.1]at hs'
   exact(hs.det hs').1
def gJ(l:List Nat):List W:=l.map fun k:Nat=>W.int k
section
variable{ps:List Pl}{S sz:List Nat}{lk:List (Option Nat×Option Nat)}
theorem Gw(h:Gr ps S sz lk)(hn:ps.length<=1000)(st:List ao):Gk [fm ps] st=.ok (.tup (lk.map jW)) st:=by
 obtain⟨l1,l2,_⟩:=h.ok
 have hu:∀(l:List (Option Nat×Option Nat)) (n:Nat),undWs n (l.map jW)=true:=by
  intro l n
  induction l with
  |nil=>rfl
  |cons x r ih=>
   obtain⟨a,b⟩:=x
   simp only[bh,undWs,ih,gA,jW,W.und]
   cases a<;>cases b<;>rfl
 refine gN (N:=7) (ws:=[fm ps]) (body:=QH) ?_ (by simp[undWs,W.und,hu])
 apply aD
 ·(walk_at "evs")
 apply aD
 ·(walk_at "evs")
 rw[show(st++[ao.lst []]).length=st.length+1 by simp,show st++[ao.lst []]++[ao.lst []]=st++[ao.lst [],ao.lst []] by simp]
 refine fG (fun i ρ bf=>∃(S1:List Nat) (o3 o4 o5 o6:Option W),ρ=[some (fm ps),some (.loc st.length),some (.loc (st.length+1)),o3,o4,o5,o6]/\bf=st++[.lst ((lk.take i).map jW),.lst (gJ (kT S1 i).reverse)]/\Gr (ps.take i) S1 (sz.take i) (lk.take i)/\i<=ps.length) (k:=(jS (ps.map Pl.w),none))
  (by show lJ (ah (ag 0) aJ) _ _=_;unfold lJ;rfl) ⟨[],none,none,none,none,rfl,rfl,.nil,bQ _⟩ (fun _ _ _ _=>trivial) ?_ ?_
 ·rintro i w ρ bf hw ⟨S1,o3,o4,o5,o6,rfl,rfl,hg,hi⟩
  obtain⟨y,hy,rfl⟩:=oN hw
  have hip:i<ps.length:=by have:=(ak.mp hy).1;simpa using this
  obtain⟨S1',S2,p,k,x,g1,q1,q2,q3,hs,g2⟩:=h.step i hip
  rw[aG,q1]at hy
  cases hy
  refine⟨_,rfl,?_⟩
  have hS:=hg.det g1 rfl
  subst hS
  obtain⟨lz,ll,ha⟩:=g1.ok
  have hti:(ps.take i).length=i:=by rw[bS];omega
  rw[hti]at ha lz ll
  have hSl:=ha.le
  obtain⟨p',L,R,q1',q2',_,hb3,hL,hR,_⟩:=h.cut hip
  rw[q1]at q1';cases q1'
  have hlk:lk.take (i+1)=lk.take i++[x]:=by rw[List.take_add_one,q3];rfl
  have hrt:=fun st=>Gv (p:=p) hb3 st
  have hlf:=fun st=>JA (p:=p) hb3 st
  have pop:∀(A:List W) (B:List Nat) (q:Nat),rG (.loc (st.length+1)) [] (st++[.lst A,.lst (gJ (q::B).reverse)])=.ok (.int q) (st++[.lst A,.lst (gJ B.reverse)]):=fun A B q=>by
   have hc:(st++[ao.lst A,.lst (gJ (q::B).reverse)])[st.length+1]?=some (.lst (gJ B.reverse++[.int q])):=by rw[iz];simp[gJ]
   rw[B' hc,fZ];rfl
  have isl:∀(A:List W) (B:List W),m3 (st++[.lst A,.lst B]) (.loc (st.length+1))=true:=fun A B=>fz (by rw[iz];rfl)
  have isl0:∀(A:List W) (B:List W),m3 (st++[.lst A,.lst B]) (.loc st.length)=true:=fun A B=>fz (by rw[fY];rfl)
  have app:∀(A:List W) (B:List Nat) (q:Nat),B.length<1000->cv (.loc (st.length+1)) [.int q] (st++[.lst A,.lst (gJ B.reverse)])=.ok .non (st++[.lst A,.lst (gJ (q::B).reverse)]):=fun A B q hB=>by
   have hc:(st++[ao.lst A,.lst (gJ B.reverse)])[st.length+1]?=some (.lst (gJ B.reverse)):=by rw[iz];rfl
   rw[jU hc (by simp[gJ];show _<1000000;omega),fZ]
   simp[gJ]
  have app0:∀(B:List W) (w:W),cv (.loc st.length) [w] (st++[.lst ((lk.take i).map jW),.lst B])=.ok .non (st++[.lst ((lk.take i).map jW++[w]),.lst B]):=fun B w=>by
   have hc:(st++[ao.lst ((lk.take i).map jW),.lst B])[st.length]?=some (.lst ((lk.take i).map jW)):=by rw[fY];rfl
   rw[jU hc (by simp;show _<1000000;omega),d9];rfl
  have hV:∀(o3 o4 o5 o6:Option W) (B:List Nat),B=kT S2 (i+1)->HV (fun ρ bf=>∃(S1:List Nat) (o3 o4 o5 o6:Option W),ρ=[some (fm ps),some (.loc st.length),some (.loc (st.length+1)),o3,o4,o5,o6]/\bf=st++[.lst ((lk.take (i+1)).map jW),.lst (gJ (kT S1 (i+1)).reverse)]/\Gr (ps.take (i+1)) S1 (sz.take (i+1)) (lk.take (i+1))/\i+1<=ps.length)
    (.nx [some (fm ps),some (.loc st.length),some (.loc (st.length+1)),o3,o4,o5,o6] (st++[.lst ((lk.take i).map jW++[jW x]),.lst (gJ B.reverse)])):=by
   rintro o3 o4 o5 o6 B rfl
   exact⟨_,_,rfl,S2,_,_,_,_,rfl,by rw[hlk];simp,g2,by omega⟩
  obtain⟨b,m⟩:=p
  have hiS:∀T:List Nat,T.length<=i->(kT T i).length<1000:=fun T hT=>by rw[j7];omega
  cases hs with
  |@z=>
   have hr:xk [(Pl.mk 0 m).w]=fun st=>.ok (.bl false) st:=funext hrt
   have hl:xj [(Pl.mk 0 m).w]=fun st=>.ok (.bl false) st:=funext hlf
   have a1:=app ((lk.take i).map jW) (kT S1 i) i (hiS _ hSl)
   have a2:=app0 (gJ (i::kT S1 i).reverse) (.tup [.non,.non])
   apply aD
   ·apply aW
    apply ut
    ·(repeat' (first|with_reducible exact kQ hr _|walk_at "ev1"))
    ·(walk_at "evs")
   apply aD
   ·apply aW
    apply ut
    ·(repeat' (first|with_reducible exact kQ hl _|walk_at "ev1"))
    ·(walk_at "evs")
   apply aD
   ·(repeat' (first|with_reducible exact isl _ _|walk_at "ev1"))
   apply b_
   ·(repeat' (first|with_reducible exact isl0 _ _|walk_at "ev1"))
   ·exact hV _ _ _ _ (i::kT S1 i) rfl
  |@l a S=>
   have hr:xk [(Pl.mk 1 m).w]=fun st=>.ok (.bl false) st:=funext hrt
   have hl:xj [(Pl.mk 1 m).w]=fun st=>.ok (.bl true) st:=funext hlf
   have hSl':S.length<=i:=by simp at hSl;omega
   have p1:=pop ((lk.take i).map jW) (kT S (i-a)) (i-1)
   have a1:=app ((lk.take i).map jW) (kT S (i-a)) i (by rw[j7];omega)
   have a2:=app0 (gJ (i::kT S (i-a)).reverse) (.tup [.int (i-1:Nat),.non])
   apply aD
   ·apply aW
    apply ut
    ·(repeat' (first|with_reducible exact kQ hr _|walk_at "ev1"))
    ·(walk_at "evs")
   apply aD
   ·apply aW
    apply ur
    ·(repeat' (first|with_reducible exact kQ hl _|walk_at "ev1"))
    ·exact kq kv (isl _ _) a_ p1
   apply aD
   ·(repeat' (first|with_reducible exact isl _ _|walk_at "ev1"))
   apply b_
   ·(repeat' (first|with_reducible exact isl0 _ _|walk_at "ev1"))
   ·exact hV _ _ _ _ (i::kT S (i-a)) (by simp only[kT];congr 1;congr 1;omega)
  |@r a S=>
   have hr:xk [(Pl.mk 2 m).w]=fun st=>.ok (.bl true) st:=funext hrt
   have hl:xj [(Pl.mk 2 m).w]=fun st=>.ok (.bl false) st:=funext fun st=>(hlf st).trans (by rw[show decide ((Pl.mk 2 m).b%2=1)=false from by simp])
   have hSl':S.length<=i:=by simp at hSl;omega
   have p1:=pop ((lk.take i).map jW) (kT S (i-a)) (i-1)
   have a1:=app ((lk.take i).map jW) (kT S (i-a)) i (by rw[j7];omega)
   have a2:=app0 (gJ (i::kT S (i-a)).reverse) (.tup [.non,.int (i-1:Nat)])
   apply aD
   ·apply aW
    apply ur
    ·(repeat' (first|with_reducible exact kQ hr _|walk_at "ev1"))
    ·exact kq kv (isl _ _) a_ p1
   apply aD
   ·apply aW
    apply ut
    ·(repeat' (first|with_reducible exact kQ hl _|walk_at "ev1"))
    ·(walk_at "evs")
   apply aD
   ·(repeat' (first|with_reducible exact isl _ _|walk_at "ev1"))
   apply b_
   ·(repeat' (first|with_reducible exact isl0 _ _|walk_at "ev1"))
   ·exact hV _ _ _ _ (i::kT S (i-a)) (by simp only[kT];congr 1;congr 1;omega)
  |@b c a S=>
   have hr:xk [(Pl.mk 3 m).w]=fun st=>.ok (.bl true) st:=funext hrt
   have hl:xj [(Pl.mk 3 m).w]=fun st=>.ok (.bl true) st:=funext fun st=>(hlf st).trans (by rw[show decide ((Pl.mk 3 m).b%2=1)=true from by simp])
   have hSl':S.length<=i:=by simp at hSl;omega
   have hca:(i-c-1)=(i-1-c):=by omega
   have p1:=pop ((lk.take i).map jW) ((i-1-c)::kT S (i-c-a)) (i-1)
   have p2:=pop ((lk.take i).map jW) (kT S (i-c-a)) (i-1-c)
   have a1:=app ((lk.take i).map jW) (kT S (i-c-a)) i (by rw[j7];omega)
   have a2:=app0 (gJ (i::kT S (i-c-a)).reverse) (.tup [.int (i-1-c:Nat),.int (i-1:Nat)])
   have ht:kT (c::a::S) i=(i-1)::(i-1-c)::kT S (i-c-a):=by simp only[kT,hca]
   rw[ht]
   apply aD
   ·apply aW
    apply ur
    ·(repeat' (first|with_reducible exact kQ hr _|walk_at "ev1"))
    ·exact kq kv (isl _ _) a_ p1
   apply aD
   ·apply aW
    apply ur
    ·(repeat' (first|with_reducible exact kQ hl _|walk_at "ev1"))
    ·exact kq kv (isl _ _) a_ p2
   apply aD
   ·(repeat' (first|with_reducible exact isl _ _|walk_at "ev1"))
   apply b_
   ·(repeat' (first|with_reducible exact isl0 _ _|walk_at "ev1"))
   ·exact hV _ _ _ _ (i::kT S (i-c-a)) (by simp only[kT];congr 1;congr 1;omega)
 ·rintro ρ bf ⟨S1,o3,o4,o5,o6,rfl,rfl,hg,hi⟩
  have dr:(jS (ps.map Pl.w)).length=ps.length:=by simp[jS]
  have hc:(st++[ao.lst ((lk.take (jS (ps.map Pl.w),(none:Option (Nat×List W))).1.length).map jW),.lst (gJ (kT S1 (jS (ps.map Pl.w),(none:Option (Nat×List W))).1.length).reverse)])[st.length]?=some (.lst (lk.map jW)):=by
   rw[fY]
   show some (ao.lst ((lk.take (jS (ps.map Pl.w)).length).map jW))=_
   rw[dr,dk (by omega)]
  apply bD
  ·(repeat' (first|with_reducible exact rO (bd hc)|walk_at "ev1"))
  ·exact⟨_,_,rfl,rfl,_,rfl⟩
end
theorem nZ(t:List Pl)(n:Nat):(fm t).und n=true:=by
 unfold fm W.und
 induction t with
 |nil=>rfl
 |cons x r ih=>simp only[bh,undWs,ih,gA];simp[Pl.w,W.und,undWs]
theorem lM(a:List Pl)(st:List ao):eV [fm a] st=.ok (.int a.length) st:=by
 unfold fm
 rw[AR,aC]
theorem Gx{a:List Pl}{q:Nat}{p:Pl}(h:a[q]?=some p)(st:List ao):bp (fm a) (.int q) st=.ok p.w st:=vG (g_ (by simp[h]))
theorem Gy(p:Pl)(st:List ao):bp p.w (.int 1) st=.ok (.str p.m) st:=rfl
theorem NA(p:Pl)(st:List ao):bp p.w (.int 0) st=.ok (.int p.b) st:=rfl
section
variable{ps:List Pl}{S sz:List Nat}{lk:List (Option Nat×Option Nat)}
theorem DE(h:Gr ps S sz lk)(hn:ps.length<=1000)(st:List ao):∃x,(∃A,x=[ao.lst A,.lst (lk.map jW)])/\za [fm ps] st=.ok (.loc (st.length+1)) (st++x):=by
 obtain⟨l1,l2,_⟩:=h.ok
 suffices hh:jl (wU fun w bf=>∃j x,w=.loc (st.length+j)/\bf=st++x/\j=1/\∃A,x=[ao.lst A,.lst (lk.map jW)]) (K7 ([fm ps].map some++List.replicate (6-1) none) st) by
  obtain⟨j,x,⟨rfl,h1⟩,e⟩:=qO hh
  exact⟨x,h1,e⟩
 apply aD
 ·(walk_at "evs")
 apply aD
 ·(walk_at "evs")
 rw[show(st++[ao.lst []]).length=st.length+1 by simp,show st++[ao.lst []]++[ao.lst []]=st++[ao.lst [],ao.lst []] by simp]
 refine fG (fun i ρ bf=>∃(S1:List Nat) (o3 o4 o5:Option W),ρ=[some (fm ps),some (.loc st.length),some (.loc (st.length+1)),o3,o4,o5]/\bf=st++[.lst (gJ (kT S1 i).reverse),.lst ((lk.take i).map jW)]/\Gr (ps.take i) S1 (sz.take i) (lk.take i)/\i<=ps.length)
  (gM (q:=(ps.length:Int)) (st1:=st++[ao.lst [],ao.lst []]) (ai (cg kn (lM ps _)) a_) (by omega)) ⟨[],none,none,none,rfl,rfl,.nil,bQ _⟩ (fun _ _ _ _=>trivial) ?_ ?_
 ·rintro i w ρ bf hw ⟨S1,o3,o4,o5,rfl,rfl,hg,hi⟩
  obtain⟨hip,rfl⟩:=gU hw
  rw[bw]at hip
  obtain⟨S1',S2,p,k,x,g1,q1,q2,q3,hs,g2⟩:=h.step i hip
  refine⟨_,rfl,?_⟩
  have hS:=hg.det g1 rfl
  subst hS
  obtain⟨lz,ll,ha⟩:=g1.ok
  have hti:(ps.take i).length=i:=by rw[bS];omega
  rw[hti]at ha lz ll
  have hSl:=ha.le
  have hlk:lk.take (i+1)=lk.take i++[x]:=by rw[List.take_add_one,q3];rfl
  have it:∀s:List ao,bp (fm ps) (.int (0+(i:Int))) s=.ok p.w s:=fun s=>by rw[eG];exact Gx q1 s
  have pop:∀(A:List W) (B:List Nat) (q:Nat),rG (.loc st.length) [] (st++[.lst (gJ (q::B).reverse),.lst A])=.ok (.int q) (st++[.lst (gJ B.reverse),.lst A]):=fun A B q=>by
   have hc:(st++[ao.lst (gJ (q::B).reverse),.lst A])[st.length]?=some (.lst (gJ B.reverse++[.int q])):=by rw[fY];simp[gJ]
   rw[B' hc,d9];rfl
  have isl:∀(A:List W) (B:List W),m3 (st++[.lst A,.lst B]) (.loc (st.length+1))=true:=fun A B=>fz (by rw[iz];rfl)
  have isl0:∀(A:List W) (B:List W),m3 (st++[.lst A,.lst B]) (.loc st.length)=true:=fun A B=>fz (by rw[fY];rfl)
  have app:∀(A:List W) (B:List Nat),B.length<1001->cv (.loc st.length) [.int (0+(i:Int))] (st++[.lst (gJ B.reverse),.lst A])=.ok .non (st++[.lst (gJ (i::B).reverse),.lst A]):=fun A B hB=>by
   have hc:(st++[ao.lst (gJ B.reverse),.lst A])[st.length]?=some (.lst (gJ B.reverse)):=by rw[fY];rfl
   rw[jU hc (by simp[gJ];show _<1000000;omega),d9]
   simp[gJ]
  have app1:∀(B:List W) (w:W),cv (.loc (st.length+1)) [w] (st++[.lst B,.lst ((lk.take i).map jW)])=.ok .non (st++[.lst B,.lst ((lk.take i).map jW++[w])]):=fun B w=>by
   have hc:(st++[ao.lst B,.lst ((lk.take i).map jW)])[st.length+1]?=some (.lst ((lk.take i).map jW)):=by rw[iz];rfl
   rw[jU hc (by simp;show _<1000000;omega),fZ];rfl
  have T1:∀(k:Bool) (ρ:b6) (s:List ao),decide ((2:Int)<=(p.b:Int))=k->ρ[0]?=some (some (fm ps))->ρ[3]?=some (some (.int (0+(i:Int))))->dA (e2 PN (e2 bp (e2 bp (ag 0) (ag 3)) (eI 0)) (eI 2)) ρ s=.ok k s:=fun k ρ s e h0 h3=>aO (aT (aT (aT (dJ h0) (dJ h3) (it s)) aU (NA p s)) aU (B_ e))
  have T2:∀(k:Bool) (ρ:b6) (s:List ao),(((p.b:Int)%2)==1)=k->ρ[0]?=some (some (fm ps))->ρ[3]?=some (some (.int (0+(i:Int))))->dA (e2 fQ (e2 dX (e2 bp (e2 bp (ag 0) (ag 3)) (eI 0)) (eI 2)) (eI 1)) ρ s=.ok k s:=fun k ρ s e h0 h3=>aO (aT (aT (aT (aT (dJ h0) (dJ h3) (it s)) aU (NA p s)) aU (dg (by decide))) aU (pB e))
  have hV:∀(o3 o4 o5:Option W) (B:List Nat),i::B=kT S2 (i+1)->HV (fun ρ bf=>∃(S1:List Nat) (o3 o4 o5:Option W),ρ=[some (fm ps),some (.loc st.length),some (.loc (st.length+1)),o3,o4,o5]/\bf=st++[.lst (gJ (kT S1 (i+1)).reverse),.lst ((lk.take (i+1)).map jW)]/\Gr (ps.take (i+1)) S1 (sz.take (i+1)) (lk.take (i+1))/\i+1<=ps.length)
    (.nx [some (fm ps),some (.loc st.length),some (.loc (st.length+1)),o3,o4,o5] (st++[.lst (gJ (i::B).reverse),.lst ((lk.take i).map jW++[jW x])])):=by
   rintro o3 o4 o5 B e
   exact⟨_,_,rfl,S2,_,_,_,rfl,by rw[hlk,e];simp,g2,by omega⟩
  have put:∀(lw sd:W) (o3:Option W) (B:List Nat),o3=some (.int (0+(i:Int)))->B.length<1001->jW x=.tup [lw,sd]->i::B=kT S2 (i+1) ->
    jl (HV (fun ρ bf=>∃(S1:List Nat) (o3 o4 o5:Option W),ρ=[some (fm ps),some (.loc st.length),some (.loc (st.length+1)),o3,o4,o5]/\bf=st++[.lst (gJ (kT S1 (i+1)).reverse),.lst ((lk.take (i+1)).map jW)]/\Gr (ps.take (i+1)) S1 (sz.take (i+1)) (lk.take (i+1))/\i+1<=ps.length))
     (aR (gs (pV cv (ag 2) (ah (eN (ah (ag 4) (ah (ag 5) aJ))) aJ))) (gs (pV cv (ag 1) (ah (ag 3) aJ))) [some (fm ps),some (.loc st.length),some (.loc (st.length+1)),o3,some lw,some sd] (st++[.lst (gJ B.reverse),.lst ((lk.take i).map jW)])):=by
   intro lw sd o3 B e3 hB hx hT
   subst e3
   have a1:=app1 (gJ B.reverse) (.tup [lw,sd])
   have a2:=app ((lk.take i).map jW++[.tup [lw,sd]]) B hB
   have ff:=hV (some (.int (0+(i:Int)))) (some lw) (some sd) B hT
   rw[hx]at ff
   apply aD
   ·exact i_ (kq kv (isl _ _) (ai (cY (ai kv kn) (ax rfl)) a_) a1)
   apply b_
   ·exact i_ (kq kv (isl0 _ _) kn a2)
   ·exact ff
  apply aD
  ·exact aW aU
  apply aD
  ·exact aW aU
  obtain⟨b,m⟩:=p
  cases hs with
  |@z=>
   apply aM
   ·exact T1 false _ _ rfl rfl rfl
   apply aP
   apply aM
   ·exact T2 false _ _ rfl rfl rfl
   apply aP
   exact put _ _ _ (kT S1 i) rfl (by rw[j7];omega) rfl rfl
  |@l a S=>
   apply aM
   ·exact T1 false _ _ rfl rfl rfl
   apply aP
   apply aD
   ·exact g9 (T2 true _ _ rfl rfl rfl) (aW (kq kv (isl0 _ _) a_ (pop _ (kT S (i-a)) (i-1))))
   exact put _ _ _ (kT S (i-a)) rfl (by rw[j7];simp at hSl;omega) rfl (by simp only[kT];congr 1;congr 1;omega)
  |@r a S=>
   apply aD
   ·exact g9 (T1 true _ _ rfl rfl rfl) (aW (kq kv (isl0 _ _) a_ (pop _ (kT S (i-a)) (i-1))))
   apply aM
   ·exact T2 false _ _ (by show((2:Int)%2==1)=false;decide) rfl rfl
   apply aP
   exact put _ _ _ (kT S (i-a)) rfl (by rw[j7];simp at hSl;omega) rfl (by simp only[kT];congr 1;congr 1;omega)
  |@b c a S=>
   apply aD
   ·exact g9 (T1 true _ _ rfl rfl rfl) (aW (kq kv (isl0 _ _) a_ (pop _ (kT (a::S) (i-c)) (i-1))))
   apply aD
   ·exact g9 (T2 true _ _ (by show((3:Int)%2==1)=true;decide) rfl rfl) (aW (kq kv (isl0 _ _) a_ (pop _ (kT S (i-c-a)) (i-c-1))))
   exact put _ _ _ (kT S (i-c-a)) rfl (by rw[j7];simp at hSl;omega) (by show W.tup [.int ((i-1-c:Nat):Int),_]=_;rw[show i-1-c=i-c-1 by omega];rfl) (by simp only[kT];congr 1;congr 1;omega)
 ·rintro ρ bf ⟨S1,o3,o4,o5,rfl,rfl,hg,hi⟩
  rw[show(d8 0 (ps.length:Int).toNat,(none:Option (Nat×List W))).fst.length=lk.length by rw[l2];simp[fj],jy]
  apply bD
  ·(walk_at "evs")
  ·exact⟨_,_,rfl,1,_,rfl,rfl,rfl,_,rfl⟩
end
theorem Cj{st s:List ao}{p:Nat}{c:ao}(h:st <+: s)(hp:st.length<=p):st <+: s.set p c:=by
 obtain⟨x,rfl⟩:=h
 rw[show p=st.length+(p-st.length) by omega,fZ]
 exact bJ _ _
theorem Ck{st s y:List ao}(h:st <+: s):st <+: s++y:=h.trans (bJ _ _)
theorem wF{st s:List ao}{i:Nat}{c:ao}(h:st <+: s)(e:st[i]?=some c):s[i]?=some c:=by
 obtain⟨x,rfl⟩:=h
 exact bH e
theorem xn{s:List ao}{p:Nat}{c d:ao}(h:s[p]?=some d):(s.set p c)[p]?=some c:=by
 rw[bI (ak.mp h).1]
theorem Ba{s:List ao}{p q:Nat}{c:ao}(h:p≠q):(s.set p c)[q]?=s[q]?:=bU h
theorem bP{s:List ao}{c:ao}:(s++[c])[s.length]?=some c:=by rw[fY];rfl
def lN(l:List Int):List W:=l.map W.int
theorem oU{s:List ao}{p i:Nat}{ds:List Int}{d:Int}(h:s[p]?=some (.lst (lN ds)))(e:ds[i]?=some d):bp (.loc p) (.int i) s=.ok (.int d) s:=e6 (bd h) (g_ (by rw[lN,aG,e];rfl))
theorem Gz{st:List ao}{n:Nat}{ls:List (List Nat)}(h:lstOf st n=some (ls.map W.str))(hl:ls.length<64):rL [.loc n] st=.ok (.loc st.length) (st++[.lst ((la ls).map W.str)]):=by
 show oP [.loc n] st=_
 unfold oP
 simp only[h,dY,vz]
 rw[aE hl]
theorem ze{a b:List (List Nat)}(h:a.Perm b):(a.map List.length).sum=(b.map List.length).sum:=by
 induction h with
 |nil=>rfl
 |cons x _ ih=>simp only[bh,pQ,ih]
 |swap x y l=>simp only[bh,pQ];omega
 |trans _ _ ih1 ih2=>rw[ih1,ih2]
theorem ux(l:List Nat):(((l.map fun c=>[c])).map List.length).sum=l.length:=by
 induction l with
 |nil=>rfl
 |cons a r ih=>simp only[bh,pQ,e_,ih,iD];omega
def GA(l:List Nat):List Nat:=kh [] (la (l.map fun c=>[c]))
theorem JB(l:List Nat):(GA l).length=l.length:=by
 unfold GA;rw[lZ,List.length_flatten,ze (iM _),ux]
theorem GB(l:List Nat):(GA l).Perm l:=by
 unfold GA;rw[lZ]
 have h:(la (l.map fun c=>[c])).flatten.Perm (l.map fun c=>[c]).flatten:=(iM _).flatten
 refine h.trans (.of_eq ?_)
 induction l with
 |nil=>rfl
 |cons a r ih=>
  have ih':=ih ((iM _).flatten)
  simp only[bh,lv,ih',List.cons_append,iF]
theorem JC{fe:FE}{ρ:b6}{st s1:List ao}{n:Nat}{l:List Nat}(h:fe ρ st=.ok (.loc n) s1)(hc:lstOf s1 n=some ((l.map fun c=>[c]).map W.str))(hl:l.length<64) :
  Oy sB (eC (.str [])) (ah (cw rL (ah fe aJ)) aJ) ρ st=.ok (.str (GA l)) (s1++[.lst ((la (l.map fun c=>[c])).map W.str)]):=by
 have hs:=Gz hc (by simpa using hl)
 have hcell2:lstOf (s1++[ao.lst ((la (l.map fun c=>[c])).map W.str)]) s1.length=some ((la (l.map fun c=>[c])).map W.str):=bd bP
 have hj:=Fg (sep:=[]) hcell2 (by rw[ze (iM _),ux];show _<=1000000;simp;omega)
 exact MI aU rfl (ai (cg (ai h a_) hs) a_) hj
section
variable{cap:List (Option Nat)}{ρ:b6}{st:List ao}{el:FE}{fs:FA}{n:Nat}
end
theorem sj{c:Nat}{st:List ao}(h:c<=100):nI (.int 1) (.int c) st=.ok (.int ((2^c:Nat):Int)) st:=by
 have:=dg (C:=fun i j=>0<=j/\j<=1000000/\i.natAbs<2^64) (f:=fun i j=>i*2^j.toNat) (p:=1) (q:=(c:Int)) (st:=st) ⟨by omega,by omega,by decide⟩
 rw[show nI (.int 1) (.int c) st=_ from this]
 simp
theorem NB{s:List ao}{p:Nat}{ws:List W}{y:W}(h:s[p]?=some (.lst ws))(hl:ws.length<1000000):cv (.loc p) [y] s=.ok .non (s.set p (.lst (ws++[y]))):=jU h hl
theorem NC{n q:Nat}(h:q<n):z6 n (q:Int)=some q:=by
 unfold z6
 rw[aE (by omega),aE (by omega)];simp
theorem Bb{s:List ao}{p q:Nat}{ws:List W}{v:W}(h:s[p]?=some (.lst ws))(hq:q<ws.length):k8 (.loc p) (.int q) v s=some (s.set p (.lst (ws.set q v))):=Ff h (NC hq)
theorem GC{fs:FA}{ρ:b6}{st st1:List ao}{i j:Int}(h:fs ρ st=.ok [.int i,.int j] st1)(hq:-(2^62)<=i/\i<2^62/\-(2^62)<=j/\j<2^62):qF fs ρ st=.ok (d8 i (j-i).toNat,none) st1:=by
 unfold qF;rw[h];simp only[R.bind_ok];rw[aE hq]
def nW(l:List Nat):List W:=l.map fun k=>W.int (k:Nat)
theorem K'{s:List ao}{p i:Nat}{l:List Nat}{k:Nat}(h:s[p]?=some (.lst (nW l)))(e:l[i]?=some k):bp (.loc p) (.int i) s=.ok (.int k) s:=e6 (bd h) (g_ (by rw[nW,aG,e];rfl))
theorem Cm{fe:FE}{f:FG}{ρ ρ':b6}{st st1:List ao}{w:W}(h:fe ρ st=.ok w st1)(h2:f w ρ=some ρ'):wI fe f ρ st=.nx ρ' st1:=by
 unfold wI;rw[h];simp only[R.stmt_ok];rw[h2]
theorem Cn{c:Nat}{l:List Nat}{st:List ao}:sV false (.str [c]) (.str l) st=.ok (.bl (decide (c∈l))) st:=rfl
theorem JD{fe:FE}{ρ:b6}{st st1:List ao}{l:List Nat}(h:fe ρ st=.ok (.str l) st1):dZ fe ρ st=.ok (i8 l,none) st1:=by unfold dZ;rw[h];rfl
theorem GD{l:List Nat}{i:Nat}{w:W}(h:(i8 l)[i]?=some w):∃c,l[i]?=some c/\w=.str [c]:=by
 simp only[i8,aG,bK]at h
 obtain⟨c,h1,rfl⟩:=h
 exact⟨c,h1,rfl⟩
theorem vS(l:List Nat):(i8 l).length=l.length:=by simp[i8]
theorem oV{α:Type}{l:List α}{i:Nat}{c:α}(h:l[i]?=some c):l.take (i+1)=l.take i++[c]:=by
 rw[List.take_succ,h];rfl
def SD(n:Nat)(x:Option Nat×Option Nat):Prop:=(∀k,x.1=some k->k<n)/\∀k,x.2=some k->k<n
theorem Gr.lk{ps:List Pl}{S sz:List Nat}{lk:List (Option Nat×Option Nat)}(h:Gr ps S sz lk){i:Nat}{x:Option Nat×Option Nat}(hx:lk[i]?=some x):SD i x:=by
 obtain⟨_,l2,_⟩:=h.ok
 have hi:i<ps.length:=by have:=(ak.mp hx).1;omega
 obtain⟨S1,S2,p,k,x',g1,q1,q2,q3,hs,g2⟩:=h.step i hi
 rw[hx]at q3;cases q3
 obtain⟨_,_,ha⟩:=g1.ok
 rw[show(ps.take i).length=i by rw[bS];omega]at ha
 obtain⟨b,m⟩:=p
 cases hs with
 |z=>exact⟨fun k e=>by simp at e,fun k e=>by simp at e⟩
 |@l a S=>have:=ha.2.1;have:=ha.2.2.1;exact⟨fun k e=>by simp at e;omega,fun k e=>by simp at e⟩
 |@r a S=>have:=ha.2.1;have:=ha.2.2.1;exact⟨fun k e=>by simp at e,fun k e=>by simp at e;omega⟩
 |@b c a S=>have:=ha.2.1;have:=ha.2.2.1;exact⟨fun k e=>by simp at e;omega,fun k e=>by simp at e;omega⟩
def lo(sz:List Nat)(i:Nat):Nat:=i+1-sz.getD i 0
structure ND(sz:List Nat)(lk:List (Option Nat×Option Nat))(i L R:Nat):Prop where
 s:sz.getD i 0=1+L+R
 le:L+R<=i
 l0:L=0->(lk.getD i (none,none)).1=none
 l1:0<L->(lk.getD i (none,none)).1=some (i-1-R)/\sz.getD (i-1-R) 0=L
 r0:R=0->(lk.getD i (none,none)).2=none
 r1:0<R->(lk.getD i (none,none)).2=some (i-1)/\sz.getD (i-1) 0=R
theorem gj{α:Type}{l:List α}{i:Nat}{x d:α}(h:l[i]?=some x):l.getD i d=x:=by rw[aQ,h];rfl
theorem GE{ps:List Pl}{S sz:List Nat}{lk:List (Option Nat×Option Nat)}(h:Gr ps S sz lk){i:Nat}(hi:i<ps.length):∃L R,ND sz lk i L R:=by
 obtain⟨S1,S2,p,k,x,g1,q1,q2,q3,hs,_⟩:=h.step i hi
 obtain⟨l1,l2,ha⟩:=g1.ok
 have dr:(ps.take i).length=i:=by rw[bS];omega
 rw[dr]at ha
 have get:∀j a,j<i->(sz.take i)[j]?=some a->sz.getD j 0=a:=fun j a hj e=>by
  rw[cU hj]at e;exact gj e
 have hz:sz.getD i 0=k:=gj q2
 have hx:lk.getD i (none,none)=x:=gj q3
 obtain⟨b,m⟩:=p
 cases hs with
 |z=>exact⟨0,0,⟨hz,by omega,fun _=>by rw[hx],fun z=>absurd z (by omega),fun _=>by rw[hx],fun z=>absurd z (by omega)⟩⟩
 |@l a S=>
  have ha2:a<=i:=ha.2.1
  have ha3:1<=a:=ha.2.2.1
  exact⟨a,0,⟨hz,by omega,fun z=>absurd z (by omega),fun _=>⟨by rw[hx];rfl,get _ _ (by omega) ha.1⟩,fun _=>by rw[hx],fun z=>absurd z (by omega)⟩⟩
 |@r a S=>
  have ha2:a<=i:=ha.2.1
  have ha3:1<=a:=ha.2.2.1
  exact⟨0,a,⟨by rw[hz],by omega,fun _=>by rw[hx],fun z=>absurd z (by omega),fun z=>absurd z (by omega),fun _=>⟨by rw[hx],get _ _ (by omega) ha.1⟩⟩⟩
 |@b c a S=>
  have ha2:c<=i:=ha.2.1
  have ha3:1<=c:=ha.2.2.1
  have hb2:a<=i-c:=ha.2.2.2.2.1
  have hb3:1<=a:=ha.2.2.2.2.2.1
  have hb1:(sz.take i)[i-c-1]?=some a:=ha.2.2.2.1
  exact⟨a,c,⟨by rw[hz];omega,by omega,fun z=>absurd z (by omega),fun _=>⟨by rw[hx],get (i-1-c) a (by omega) (by rw[show i-1-c=i-c-1 by omega];exact hb1)⟩,fun z=>absurd z (by omega),fun _=>⟨by rw[hx],get _ _ (by omega) ha.1⟩⟩⟩
section
variable{ps:List Pl}{S sz:List Nat}{lk:List (Option Nat×Option Nat)}{i L R:Nat}
theorem ND.lo_i(c:ND sz lk i L R):lo sz i=i-R-L:=by unfold lo;rw[c.s];have:=c.le;omega
theorem ND.lo_l(c:ND sz lk i L R)(h:0<L):lo sz (i-1-R)=i-R-L:=by unfold lo;rw[(c.l1 h).2];have:=c.le;omega
theorem ND.lo_r(c:ND sz lk i L R)(h:0<R):lo sz (i-1)=i-R:=by unfold lo;rw[(c.r1 h).2];have:=c.le;omega
theorem La(h:Gr ps S sz lk):∀(i:Nat),i<ps.length->∀k,lo sz i<=k->k<=i->lo sz i<=lo sz k:=by
 intro i
 induction i using Nat.strongRecOn with
 |_ i ih=>
  intro hi k h1 h2
  obtain⟨L,R,c⟩:=GE h hi
  have hW:=c.le
  rw[c.lo_i]at h1 ⊢
  by_cases e:k=i
  ·subst e;rw[c.lo_i];exact aw _
  ·by_cases hr:i-R<=k
   ·have hR:0<R:=by omega
    have:=ih (i-1) (by omega) (by omega) k (by rw[c.lo_r hR];exact hr) (by omega)
    rw[c.lo_r hR]at this
    omega
   ·have hL:0<L:=by omega
    have:=ih (i-1-R) (by omega) (by omega) k (by rw[c.lo_l hL];exact h1) (by omega)
    rw[c.lo_l hL]at this
    exact this
end
structure T3(sz:List Nat)(i:Nat)(x y:Option Nat):Prop where
 cov:∀j,lo sz i<=j->j<i->(∃t,x=some t/\lo sz t<=j/\j<=t)\/∃t,y=some t/\lo sz t<=j/\j<=t
 bx:∀t,x=some t->lo sz i<=lo sz t/\lo sz t<=t/\t<i
 by':∀t,y=some t->lo sz i<=lo sz t/\lo sz t<=t/\t<i
 dis:∀t u,x=some t->y=some u->∀j,lo sz t<=j->j<=t->lo sz u<=j->j<=u->False
theorem xo{ps:List Pl}{S sz:List Nat}{lk:List (Option Nat×Option Nat)}(h:Gr ps S sz lk){i:Nat}(hi:i<ps.length):T3 sz i (lk.getD i (none,none)).1 (lk.getD i (none,none)).2:=by
 obtain⟨L,R,c⟩:=GE h hi
 have hW:=c.le
 have xl:∀t,(lk.getD i (none,none)).1=some t->0<L/\t=i-1-R:=fun t e=>by
  rcases kR L with z|z
  ·rw[c.l0 z]at e;cases e
  ·rw[(c.l1 z).1]at e;exact⟨z,(bc e).symm⟩
 have xr:∀t,(lk.getD i (none,none)).2=some t->0<R/\t=i-1:=fun t e=>by
  rcases kR R with z|z
  ·rw[c.r0 z]at e;cases e
  ·rw[(c.r1 z).1]at e;exact⟨z,(bc e).symm⟩
 refine⟨fun j h1 h2=>?_,fun t e=>?_,fun t e=>?_,fun t u e1 e2 j a1 a2 a3 a4=>?_⟩
 ·rw[c.lo_i]at h1
  by_cases hr:i-R<=j
  ·have z:0<R:=by omega
   exact .inr ⟨i-1,(c.r1 z).1,by rw[c.lo_r z];exact hr,by omega⟩
  ·have z:0<L:=by omega
   exact .inl ⟨i-1-R,(c.l1 z).1,by rw[c.lo_l z];exact h1,by omega⟩
 ·obtain⟨z,rfl⟩:=xl t e
  rw[c.lo_i,c.lo_l z];omega
 ·obtain⟨z,rfl⟩:=xr t e
  rw[c.lo_i,c.lo_r z];omega
 ·obtain⟨z1,rfl⟩:=xl t e1
  obtain⟨z2,rfl⟩:=xr u e2
  rw[c.lo_l z1]at a1
  rw[c.lo_r z2]at a3
  omega
def vl(rm:Nat->Nat):Option Nat->Nat
 |none=>0
 |some t=>rm t
def Lb(l r:Nat)(A B:Bool):Nat:=if l=2\/r≠0\/(l=1/\B=false)then 2 else if A then 1 else 0
def T4(k:Nat)(l r:Nat)(A B:Bool):Nat:=match k with
 |0=>if l=1\/r=1\/(A=true/\B=false)then 1 else 0
 |1=>if 2<l+r+(if A then 1 else 0)then 2 else l+r+(if A then 1 else 0)
 |2=>Lb l r A B
 |3=>Lb r l A B
 |_=>if A=true\/(B=false/\(l=1\/r=1))then 1 else 0
section
variable{ps:List Pl}{S sz:List Nat}{lk:List (Option Nat×Option Nat)}{A B:Nat->Bool}{rm:Nat->Nat}
abbrev lx(lk:List (Option Nat×Option Nat))(i:Nat):Option Nat:=(lk.getD i (none,none)).1
abbrev ly(lk:List (Option Nat×Option Nat))(i:Nat):Option Nat:=(lk.getD i (none,none)).2
end
section
variable{ps:List Pl}{S sz:List Nat}{lk:List (Option Nat×Option Nat)}{A B:Nat->Bool}{rm:Nat->Nat}
def zf(A:Nat->Bool)(a n:Nat):Nat:=(List.range' a n).countP fun j=>A j
theorem tt(A:Nat->Bool)(a n m:Nat):zf A a (n+m)=zf A a n+zf A (a+n) m:=by
 unfold zf
 rw[<- List.countP_append]
 congr 1
 have:=List.range'_append (s:=a) (m:=n) (n:=m) (step:=1)
 rw[Nat.one_mul]at this
 exact this.symm
theorem Co(A:Nat->Bool)(a:Nat):zf A a 1=if A a=true then 1 else 0:=by
 unfold zf
 simp[List.countP_cons]
abbrev bt(x j:Nat):Bool:=x.testBit j
theorem GF{x y:Nat}:(x &&& y=x)↔∀j,bt x j=true->bt y j=true:=by
 constructor
 ·intro h j hj
  rw[<- h]at hj
  unfold bt at hj ⊢
  rw[nq,cD]at hj
  exact hj.2
 ·intro h
  refine jK fun j=>?_
  rw[nq]
  cases hj:x.testBit j with
  |false=>rfl
  |true=>exact h j hj
theorem zg{x i j:Nat}(T5:i<j)(h1:bt x i=true)(h2:bt x j=true):x &&& (x-1)≠0:=by
 have hm:0<x%2^j:=by
  rcases kR (x%2^j)with z|z
  ·have:(x%2^j).testBit i=true:=by rw[Nat.testBit_mod_two_pow,aB T5];exact h1
   rw[z,dD]at this;cases this
  ·exact z
 have hq:(x-1)/2^j=x/2^j:=by
  have hp:0<2^j:=Nat.two_pow_pos j
  have e:=Nat.div_add_mod x (2^j)
  have hlt:=Nat.mod_lt x hp
  refine(Nat.div_eq_iff hp).mpr ?_
  generalize x/2^j=q at e
  generalize x%2^j=r at e hm hlt
  generalize 2^j=p at e hlt hp
  have e2:q*p=p*q:=mV _ _
  omega
 intro z
 have hb:(x &&& (x-1)).testBit j=true:=by
  rw[nq,show x.testBit j=true from h2]
  have:(x-1).testBit j=x.testBit j:=by
   rw[fO,fO,hq]
  rw[this,show x.testBit j=true from h2];rfl
 rw[z,dD]at hb;cases hb
theorem JE{x i:Nat}(h:∀j,bt x j=true↔j=i):x≠0/\x &&& (x-1)=0:=by
 have e:x=2^i:=jK fun j=>by
  rw[Nat.testBit_two_pow]
  cases hj:x.testBit j with
  |true=>exact(aB ((h j).mp hj).symm).symm
  |false=>
   refine(az fun z=>?_).symm
   have:=(h j).mpr z.symm
   rw[show bt x j=x.testBit j from rfl,hj]at this;cases this
 subst e
 refine⟨eE (Nat.two_pow_pos i),?_⟩
 rw[Nat.and_two_pow_sub_one_eq_mod,Nat.mod_self]
theorem GG{x n:Nat}{A:Nat->Bool}(h:∀j,bt x j=true↔j<n/\A j=true):(decide (x≠0)&&decide (x &&& (x-1)=0))=decide (zf A 0 n=1):=by
 rw[cf,cD,fN,fN,fN]
 have cz:∀{a m:Nat},(∀j,a<=j->j<a+m->A j=false)->zf A a m=0:=fun{a m} hz=>by
  unfold zf
  rw[List.countP_eq_zero]
  intro j hj
  rw[lD]at hj
  rw[hz j hj.1 hj.2];simp
 have cp:∀{a m j:Nat},a<=j->j<a+m->A j=true->0<zf A a m:=fun{a m j} h1 h2 h3=>by
  unfold zf
  rw[List.countP_pos_iff]
  exact⟨j,lD.mpr ⟨h1,h2⟩,h3⟩
 constructor
 ·rintro⟨h0,h1⟩
  obtain⟨i,hi⟩:∃i,x.testBit i=true:=Nat.exists_testBit_of_ne_zero h0
  obtain⟨hin,hA⟩:=(h i).mp hi
  have only:∀j,j<n->A j=true->j=i:=fun j hj hAj=>by
   rcases je j i with z|z|z
   ·exact absurd h1 (zg z ((h j).mpr ⟨hj,hAj⟩) hi)
   ·exact z
   ·exact absurd h1 (zg z hi ((h j).mpr ⟨hj,hAj⟩))
  have e:n=i+(1+(n-i-1)):=by omega
  rw[e,tt,tt,dN,Co,aE hA]
  rw[cz fun j _ hj=>?_,cz fun j hj1 hj2=>?_]
  ·cases hAj:A j with
   |false=>rfl
   |true=>have:=only j (by omega) hAj;omega
  ·cases hAj:A j with
   |false=>rfl
   |true=>have:=only j (by omega) hAj;omega
 ·intro hc
  obtain⟨i,hin,hA⟩:∃i,i<n/\A i=true:=by
   have:0<zf A 0 n:=by omega
   unfold zf at this
   rw[List.countP_pos_iff]at this
   obtain⟨j,hj,hAj⟩:=this
   rw[lD]at hj
   exact⟨j,by omega,hAj⟩
  have only:∀j,j<n->A j=true->j=i:=fun j hj hAj=>by
   have e:n=i+(1+(n-i-1)):=by omega
   rw[e,tt,tt,dN,Co,aE hA]at hc
   rcases je j i with z|z|z
   ·have:=cp (a:=0) (m:=i) (bQ j) (by omega) hAj;omega
   ·exact z
   ·have:=cp (a:=i+1) (m:=n-i-1) (j:=j) (by omega) (by omega) hAj;omega
  exact JE (i:=i) fun j=>⟨fun hj=>only j ((h j).mp hj).1 ((h j).mp hj).2,fun e=>by subst e;exact(h j).mpr ⟨hin,hA⟩⟩
end
theorem JF(a b:Nat):Builtin.bitOr (a:Int) (b:Int)=((a ||| b:Nat):Int):=by
 have hn:∀x:Nat,decide (0<=Builtin.bitNot (x:Int))=false:=fun x=>az (by unfold Builtin.bitNot;omega)
 have hnn:∀x:Nat,(Builtin.bitNot (Builtin.bitNot (x:Int))).toNat=x:=fun x=>by unfold Builtin.bitNot;omega
 unfold Builtin.bitOr Builtin.bitAnd
 rw[hn,hn]
 simp only[hnn]
 unfold Builtin.bitNot;omega
theorem GH(a b:Nat):Builtin.bitAnd (a:Int) (b:Int)=((a &&& b:Nat):Int):=by
 unfold Builtin.bitAnd
 rw[aB (by omega),aB (by omega)]
 rfl
theorem vT{a b:Nat}{st:List ao}:pb (.int (a:Nat)) (.int (b:Nat)) st=.ok (.int ((a ||| b:Nat):Int)) st:=by rw[<- JF];exact dg trivial
theorem GI{a b:Nat}{st:List ao}:nJ (.int (a:Nat)) (.int (b:Nat)) st=.ok (.int ((a &&& b:Nat):Int)) st:=by rw[<- GH];exact dg trivial
theorem vU(a b j:Nat):bt (a ||| b) j=(bt a j||bt b j):=Nat.testBit_or a b j
theorem rT(k j:Nat):bt (2^k) j=decide (k=j):=Nat.testBit_two_pow
theorem GJ{kvs:List (DK×W)}{k k':DK}{v:W}(h:k'≠k):ko (kvs.map fun p=>if p.1=k then(p.1,v)else p) k'=ko kvs k':=by
 unfold ko
 induction kvs with
 |nil=>rfl
 |cons p r ih=>
  rw[bh,df,df]
  by_cases e:p.1=k
  ·rw[aE e,az (fun z=>h (by rw[<- z,e]))]
   exact ih
  ·rw[aN e]
   by_cases e2:p.1=k'
   ·rw[aB e2]
   ·rw[az e2];exact ih
theorem uy{kvs:List (DK×W)}{k k':DK}{v:W}:ko (j6 kvs k v) k'=if k'=k then some v else ko kvs k':=by
 by_cases e:k'=k
 ·subst e
  rw[aE rfl]
  unfold j6
  by_cases h:(kvs.any fun p=>decide (p.1=k'))=true
  ·rw[aE h]
   unfold ko
   induction kvs with
   |nil=>simp at h
   |cons p r ih=>
    rw[bh,df]
    by_cases e:p.1=k'
    ·rw[aE e,aB e];rfl
    ·rw[aN e,az e]
     refine ih ?_
     rw[lT,az e,lU]at h
     exact h
  ·rw[aN h]
   unfold ko
   rw[List.find?_append]
   have:kvs.find? (fun p=>decide (p.1=k'))=none:=by
    rw[List.find?_eq_none]
    intro p hp z
    exact h (mh.mpr ⟨p,hp,z⟩)
   rw[this]
   simp
 ·rw[aN e]
  unfold j6
  split
  ·exact GJ e
  ·unfold ko
   rw[List.find?_append]
   cases hf:kvs.find? (fun p=>decide (p.1=k'))with
   |some p=>rfl
   |none=>simp[Ne.symm e]
theorem uz{kvs:List (DK×W)}{k:DK}{v:W}:(j6 kvs k v).length<=kvs.length+1:=by
 unfold j6;split<;>simp
def HW(ps:List Pl)(j:Nat):List Nat:=(ps[j]?.map Pl.m).getD []
def GK(kvs:List (DK×W))(P:Nat->Nat->Prop):Prop:=∀c,∃x:Nat,(ko kvs (.s [c])).getD (.int 0)=.int (x:Nat)/\∀j,bt x j=true↔P c j
theorem JG{ps:List Pl}(hl:ps.length<=100)(hm:∀p∈ps,p.m.length<=4)(st:List ao):∃kvs,kvs.length<=400/\GK kvs (fun c j=>j<ps.length/\c∈HW ps j)/\zc [fm ps] st=.ok (.loc st.length) (st++[.dct kvs]):=by
 suffices hh:jl (wU fun w bf=>∃j x,w=.loc (st.length+j)/\bf=st++x/\j=0/\∃kvs,x=[.dct kvs]/\kvs.length<=400/\GK kvs (fun c j=>j<ps.length/\c∈HW ps j)) (K9 ([fm ps].map some++List.replicate (4-1) none) st) by
  obtain⟨j,x,⟨rfl,kvs,rfl,h0,h1⟩,e⟩:=qO hh
  exact⟨kvs,h0,h1,e⟩
 refine aD (aW (w:=.loc st.length) (st1:=st++[.dct []]) rfl) ?_
 refine fG (fun i ρ s=>∃(kvs:List (DK×W)) (o2 o3:Option W),ρ=[some (fm ps),some (.loc st.length),o2,o3]/\s=st++[.dct kvs]/\kvs.length<=i*4/\GK kvs (fun c j=>j<i/\c∈HW ps j))
  (gM (q:=(ps.length:Int)) (st1:=st++[.dct []]) (ai (cg kn (lM ps _)) a_) (by omega)) ⟨[],none,none,rfl,rfl,by simp,fun c=>⟨0,rfl,fun j=>⟨fun z=>(by rw[show bt 0 j=false from dD j]at z;cases z),fun z=>absurd z.1 (by omega)⟩⟩⟩ (fun _ _ _ _=>trivial) ?_ ?_
 ·rintro i w ρ s hw ⟨kvs0,o2,o3,rfl,rfl,dr,hmk⟩
  obtain⟨hi,rfl⟩:=gU hw
  rw[bw]at hi
  obtain⟨p,hp⟩:∃p,ps[i]?=some p:=⟨_,aq hi⟩
  have hpm:p.m.length<=4:=hm p (b9 hp)
  have hmp:HW ps i=p.m:=by unfold HW;rw[hp];rfl
  refine⟨_,rfl,?_⟩
  have it:∀s:List ao,bp (fm ps) (.int (0+(i:Int))) s=.ok p.w s:=fun s=>by rw[eG];exact Gx hp s
  have hsig:dZ (e2 bp (e2 bp (ag 0) (ag 2)) (eI 1)) [some (fm ps),some (.loc st.length),some (.int (0+(i:Int))),o3] (st++[.dct kvs0])=.ok (i8 p.m,none) (st++[.dct kvs0]):=JD (aT (aT kv kv (it _)) aU rfl)
  obtain⟨ρ2,s2,e,kvs,o3',rfl,rfl,hlen2,hmk2⟩:=qL (f:=ie 3) (body:=o9 (ag 1) (ag 3) (e2 pb (mB (ag 1) (ag 3) (eI 0)) (e2 nI (eI 1) (ag 2))) l6) (ck:=none)
   (fun t ρ s=>∃(kvs:List (DK×W)) (o3:Option W),ρ=[some (fm ps),some (.loc st.length),some (.int (0+(i:Int))),o3]/\s=st++[.dct kvs]/\kvs.length<=i*4+t/\GK kvs (fun c j=>(j<i/\c∈HW ps j)\/(j=i/\c∈p.m.take t))) (ws:=i8 p.m) (ρ:=[some (fm ps),some (.loc st.length),some (.int (0+(i:Int))),o3]) (st:=st++[.dct kvs0]) 0
   ⟨kvs0,o3,rfl,rfl,by omega,fun c=>by
    obtain⟨x,h1,h2⟩:=hmk c
    exact⟨x,h1,fun j=>by rw[h2 j];simp⟩⟩ (fun _ _ _ _=>trivial) (fun t w ρ s hw hI=>by
    rw[dN]at hI ⊢
    obtain⟨kvs,o3,rfl,rfl,hl2,hm2⟩:=hI
    obtain⟨c,hc,rfl⟩:=GD hw
    have ht:t<p.m.length:=(ak.mp hc).1
    obtain⟨x,hx,hxb⟩:=hm2 c
    have dq:(st++[ao.dct kvs])[st.length]?=some (.dct kvs):=bP
    have hg:mB (ag 1) (ag 3) (eI 0) [some (fm ps),some (.loc st.length),some (.int (0+(i:Int))),some (.str [c])] (st++[.dct kvs])=.ok (.int (x:Nat)) (st++[.dct kvs]):=by
     have hd:jT (st++[ao.dct kvs]) (.loc st.length)=some (st.length,kvs):=by simp only[jT,dq]
     unfold mB
     rw[dJ (w:=.loc st.length) rfl]
     simp only[R.bind_ok,hd]
     rw[dJ (w:=.str [c]) rfl]
     simp only[R.bind_ok,eC]
     rw[hd]
     show R.ok ((ko kvs (DK.s [c])).getD (.int 0)) _=_
     rw[hx]
    have hsh:nI (.int 1) (.int (0+(i:Int))) (st++[ao.dct kvs])=.ok (.int ((2^i:Nat):Int)) (st++[.dct kvs]):=by rw[eG];exact sj (by omega)
    refine⟨_,_,_,rfl,nQ (v:=.int ((x ||| 2^i:Nat):Int)) (aT hg (aT aU kv hsh) vT) kv kv (st4:=st++[.dct (j6 kvs (.s [c]) (.int ((x ||| 2^i:Nat):Int)))]) ?_,j6 kvs (.s [c]) (.int ((x ||| 2^i:Nat):Int)),some (.str [c]),rfl,rfl,by have:=uz (kvs:=kvs) (k:=.s [c]) (v:=.int ((x ||| 2^i:Nat):Int));omega,fun c'=>?_⟩
    ·unfold l6
     have hd:yz (st++[ao.dct kvs]) (.loc st.length)=some (st.length,kvs):=by simp only[yz,dq]
     rw[hd]
     show(if kvs.length<jY then some ((st++[ao.dct kvs]).set st.length (.dct (j6 kvs (DK.s [c]) _)))else none)=_
     rw[aE (show kvs.length<1000000 by have:i*4<=99*4:=Nat.mul_le_mul_right _ (by omega);omega),d9]
     rfl
    ·rw[uy]
     by_cases ec:c'=c
     ·subst ec
      rw[aE rfl]
      refine⟨x ||| 2^i,rfl,fun j=>?_⟩
      rw[vU,rT,dS,fN,hxb j,oV hc]
      simp only[bj,aV]
      constructor
      ·rintro((a|⟨a,b⟩)|a)
       ·exact .inl a
       ·exact .inr ⟨a,.inl b⟩
       ·exact .inr ⟨a.symm,.inr trivial⟩
      ·rintro(a|⟨a,b|_⟩)
       ·exact .inl (.inl a)
       ·exact .inl (.inr ⟨a,b⟩)
       ·exact .inr a.symm
     ·rw[aN (fun z=>ec (by injection z with z;exact(List.cons.inj z).1))]
      obtain⟨y,h1,h2⟩:=hm2 c'
      refine⟨y,h1,fun j=>?_⟩
      rw[h2 j,oV hc]
      simp only[bj,aV]
      constructor
      ·rintro(a|⟨a,b⟩)
       ·exact .inl a
       ·exact .inr ⟨a,.inl b⟩
      ·rintro(a|⟨a,b|b⟩)
       ·exact .inl a
       ·exact .inr ⟨a,b⟩
       ·exact absurd b ec)
  refine⟨_,_,(tm hsig).trans e,kvs,_,_,rfl,rfl,?_,fun c=>?_⟩
  ·rw[vS]at hlen2
   rw[Nat.succ_mul];omega
  ·obtain⟨x,h1,h2⟩:=hmk2 c
   refine⟨x,h1,fun j=>?_⟩
   rw[h2 j,dN,vS,jy]
   constructor
   ·rintro(a|⟨rfl,b⟩)
    ·exact⟨by omega,a.2⟩
    ·exact⟨by omega,by rw[hmp];exact b⟩
   ·rintro⟨a,b⟩
    by_cases e:j=i
    ·subst e;rw[hmp]at b;exact .inr ⟨rfl,b⟩
    ·exact .inl ⟨by omega,b⟩
 ·rintro ρ s ⟨kvs,o2,o3,rfl,rfl,dr,hmk⟩
  rw[show(d8 0 (ps.length:Int).toNat,(none:Option (Nat×List W))).fst.length=ps.length by simp[fj]]at hmk dr
  exact bD kv ⟨_,_,rfl,0,_,rfl,rfl,rfl,kvs,rfl,by omega,hmk⟩
theorem rV{fe:FE}{ρ:b6}{s s1:List ao}{k:Nat}(h:fe ρ s=.ok (.int (k:Nat)) s1):dA (ii fe) ρ s=.ok true s1:=aO (i9 h rfl)
theorem rW{fe:FE}{ρ:b6}{s s1:List ao}(h:fe ρ s=.ok .non s1):dA (ii fe) ρ s=.ok false s1:=aO (i9 h rfl)
section
variable{ps:List Pl}{S sz:List Nat}{lk:List (Option Nat×Option Nat)}
def QW(sz:List Nat)(u:Nat->Nat)(k:Nat):Prop:=∀j,bt (u k) j=true↔lo sz k<=j/\j<k
def zh(u:Nat->Nat)(b:Nat):Option Nat->Nat
 |none=>b
 |some t=>b ||| u t ||| 2^t
theorem Cp{us:List Nat}{n q p:Nat}{st:List ao}(hc:st[p]?=some (.lst (nW us)))(hn:us.length=n)(o:Option Nat)(ho:∀t,o=some t->t<n)(Tw:n<=100){ρ:b6}(h1:ρ[1]?=some (some (.loc p)))(hq:ρ[q]?=some (some (oW o)))(b:Nat)(h4:ρ[4]?=some (some (.int (b:Nat))))(Ue:q≠4) :
  fR (dA (ii (ag q))) (bM 4 (e2 pb (e2 pb (ag 4) (e2 bp (ag 1) (ag q))) (e2 nI (eI 1) (ag q)))) b7 ρ st=.nx (ρ.set 4 (some (.int ((zh (fun t=>us.getD t 0) b o:Nat):Int)))) st:=by
 cases o with
 |none=>
  rw[i' (rW (dJ hq)) rfl]
  show RS.nx ρ st=_
  congr 1
  refine(fM fun j=>?_)
  by_cases e:4=j
  ·subst e
   rw[bI (ak.mp h4).1,h4];rfl
  ·rw[bU e]
 |some t=>
  have ht:=ho t rfl
  have hg:us[t]?=some (us.getD t 0):=by rw[aQ,aq (by omega)];rfl
  refine g9 (rV (dJ hq)) (aW (aT (aT (dJ h4) (aT (dJ h1) (dJ hq) (K' hc hg)) vT) (aT aU (dJ hq) (sj (by omega))) vT))
theorem GL(h:Gr ps S sz lk)(hl:ps.length<=100){p:Nat}{st:List ao}(hp:st[p]?=some (.lst (lk.map jW))):∃us:List Nat,us.length=ps.length/\(∀k,k<ps.length->QW sz (fun k=>us.getD k 0) k)/\zb [.loc p] st=.ok (.loc st.length) (st++[.lst (nW us)]):=by
 obtain⟨l1,l2,_⟩:=h.ok
 suffices hh:jl (wU fun w bf=>∃j x,w=.loc (st.length+j)/\bf=st++x/\j=0/\∃us:List Nat,x=[.lst (nW us)]/\us.length=ps.length/\(∀k,k<ps.length->QW sz (fun k=>us.getD k 0) k)) (K8 ([W.loc p].map some++List.replicate (5-1) none) st) by
  obtain⟨j,x,⟨rfl,us,rfl,h1,h2⟩,e⟩:=qO hh
  exact⟨us,h1,h2,e⟩
 apply aD
 ·(walk_at "evs")
 refine fG (fun i ρ s=>∃(us:List Nat) (o2 o3 o4:Option W),ρ=[some (.loc p),some (.loc st.length),o2,o3,o4]/\s=st++[.lst (nW us)]/\us.length=i/\∀k,k<i->QW sz (fun k=>us.getD k 0) k) (k:=(lk.map jW,some (p,lk.map jW))) (st1:=st++[.lst []])
  (mC kv (bd (bH hp))) ⟨[],none,none,none,rfl,rfl,rfl,fun k hk=>absurd hk (by omega)⟩ (fun i ρ s hI=>by obtain⟨us,o2,o3,o4,rfl,rfl,_⟩:=hI;exact bd (bH hp)) ?_ ?_
 ·rintro i w ρ s hw ⟨us,o2,o3,o4,rfl,rfl,uQ,hu⟩
  rw[aG]at hw
  obtain⟨x,hx,rfl⟩:=bK.mp hw
  have hi:i<ps.length:=by rw[<- l2];exact(ak.mp hx).1
  have hxe:lk.getD i (none,none)=x:=gj hx
  obtain⟨lx1,lx2⟩:=h.lk hx
  refine⟨_,rfl,?_⟩
  have hc:(st++[ao.lst (nW us)])[st.length]?=some (.lst (nW us)):=bP
  refine aD (aW aU) ?_
  refine aD (Cp hc uQ x.1 lx1 (by omega) (q:=2) (ρ:=[some (.loc p),some (.loc st.length),some (oW x.1),some (oW x.2),some (.int ((0:Nat):Int))]) rfl rfl 0 rfl (by omega)) ?_
  refine aD (Cp hc uQ x.2 lx2 (by omega) (q:=3) (ρ:=[some (.loc p),some (.loc st.length),some (oW x.1),some (oW x.2),some (.int ((zh (fun t=>us.getD t 0) 0 x.1:Nat):Int))]) rfl rfl _ rfl (by omega)) ?_
  have ap:=NB (y:=.int ((zh (fun t=>us.getD t 0) (zh (fun t=>us.getD t 0) 0 x.1) x.2:Nat):Int)) hc (by unfold nW;rw[aC];omega)
  rw[d9]at ap
  refine b_ (i_ (kq kv (fz hc) kn ap)) ⟨_,_,rfl,us++[zh (fun t=>us.getD t 0) (zh (fun t=>us.getD t 0) 0 x.1) x.2],_,_,_,rfl,by simp[nW],by simp[uQ],fun k hk j=>?_⟩
  have old:∀{t},t<i->(us++[zh (fun t=>us.getD t 0) (zh (fun t=>us.getD t 0) 0 x.1) x.2]).getD t 0=us.getD t 0:=fun{t} ht=>by rw[aQ,aQ,bq (by omega)]
  by_cases ek:k<i
  ·show bt ((us++[zh (fun t=>us.getD t 0) (zh (fun t=>us.getD t 0) 0 x.1) x.2]).getD k 0) j=true↔_
   rw[old ek];exact hu k ek j
  ·have ek:k=i:=by omega
   subst ek
   have hnew:(us++[zh (fun t=>us.getD t 0) (zh (fun t=>us.getD t 0) 0 x.1) x.2]).getD k 0=zh (fun t=>us.getD t 0) (zh (fun t=>us.getD t 0) 0 x.1) x.2:=by rw[aQ,<- uQ,List.getElem?_concat_length];rfl
   show bt ((us++[zh (fun t=>us.getD t 0) (zh (fun t=>us.getD t 0) 0 x.1) x.2]).getD k 0) j=true↔_
   rw[hnew]
   have b:=xo h hi
   rw[hxe]at b
   have ort:∀(c:Nat) (o:Option Nat),(∀t,o=some t->lo sz k<=lo sz t/\lo sz t<=t/\t<k)->(bt (zh (fun t=>us.getD t 0) c o) j=true↔bt c j=true\/∃t,o=some t/\lo sz t<=j/\j<=t):=fun c o ho=>by
    cases o with
    |none=>exact⟨.inl,fun z=>z.elim id fun⟨t,e,_⟩=>by cases e⟩
    |some t=>
     obtain⟨q1,q2,q3⟩:=ho t rfl
     show bt (c ||| us.getD t 0 ||| 2^t) j=true↔_
     rw[vU,vU,rT,dS,dS,fN,hu t q3 j]
     constructor
     ·rintro((a|a)|a)
      ·exact .inl a
      ·exact .inr ⟨t,rfl,a.1,by omega⟩
      ·exact .inr ⟨t,rfl,by omega,by omega⟩
     ·rintro(a|⟨u,e,a1,a2⟩)
      ·exact .inl (.inl a)
      ·cases e
       by_cases e:t=j
       ·exact .inr e
       ·exact .inl (.inr ⟨a1,by omega⟩)
   rw[ort _ _ b.by',ort _ _ b.bx]
   constructor
   ·rintro((a|⟨t,e,a1,a2⟩)|⟨t,e,a1,a2⟩)
    ·rw[show bt 0 j=false from dD j]at a;cases a
    ·have:=b.bx t e;omega
    ·have:=b.by' t e;omega
   ·rintro⟨a1,a2⟩
    rcases b.cov j a1 a2 with z|z
    ·exact .inl (.inr z)
    ·exact .inr z
 ·rintro ρ s ⟨us,o2,o3,o4,rfl,rfl,uQ,hu⟩
  rw[show(lk.map jW,some (p,lk.map jW)).fst.length=ps.length by simp[l2]]at uQ hu
  exact bD kv ⟨_,_,rfl,0,_,rfl,rfl,rfl,us,rfl,uQ,hu⟩
end
theorem GM(l:List Nat)(k:Nat)(st:List ao):lh (k+1) [.str l,.str l] st=.ok (.bl true) st:=by
 refine gN (N:=3) (ws:=[.str l,.str l]) (body:=Ch (lh k)) ?_ rfl
 (walk_at "go")
 apply bD
 ·apply lg
  ·(walk_at "evs")
  ·(walk_at "evs")
 ·exact⟨_,_,rfl,by simp,[],by simp⟩
theorem GN{ws:List W}{k:Nat}{st:List ao}(hl:ws.length<=1000)(h:∀w∈ws,lh k [w,w] st=.ok (.bl true) st):lh (k+1) [.tup ws,.tup ws] st=.ok (.bl true) st:=by
 refine gN (N:=3) (ws:=[.tup ws,.tup ws]) (body:=Ch (lh k)) ?_ rfl
 apply bB
 ·(walk_at "evs")
 apply ke
 apply aM
 ·apply gi
  ·(walk_at "evs")
  ·(walk_at "evs")
   simp
 apply aP
 apply ke
 refine fG (fun i ρ bf=>∃o,ρ=[some (.tup ws),some (.tup ws),o]/\bf=st) (gM (by(walk_at "evs")) (by omega)) ⟨none,rfl,rfl⟩ (fun _ _ _ _=>trivial) ?_ ?_
 ·rintro i w ρ bf hw ⟨o,rfl,rfl⟩
  obtain⟨hi,rfl⟩:=gU hw
  refine⟨_,rfl,?_⟩
  have hi':i<ws.length:=by simpa using hi
  have hat:bp (.tup ws) (.int (0+(i:Int))) bf=.ok ws[i] bf:=vG (by rw[eG];exact g_ (by simp[hi']))
  have hs:=h ws[i] (dm _)
  apply gY
  ·(walk_at "evs")
  apply b_
  ·(walk_at "evs")
  ·exact⟨_,_,rfl,_,rfl,rfl⟩
 ·rintro ρ bf ⟨o,rfl,rfl⟩
  apply ba
  ·(walk_at "evs")
  ·exact⟨_,_,rfl,rfl,[],by simp⟩
theorem l9(b:Bool)(k:Nat)(st:List ao):lh (k+1) [.bl b,.bl b] st=.ok (.bl true) st:=by
 have hb:fQ (.bl b) (.bl b) st=.ok (.bl true) st:=Kn (by simp)
 refine gN (N:=3) (ws:=[.bl b,.bl b]) (body:=Ch (lh k)) ?_ rfl
 apply aM
 ·(walk_at "evs")
 apply aP
 apply aM
 ·(walk_at "evs")
 apply aP
 apply bB
 ·(walk_at "evs")
 apply ba
 ·apply lg
  ·(walk_at "evs")
  ·(walk_at "evs")
 ·exact⟨_,_,rfl,rfl,[],by simp⟩
section
variable{ps:List Pl}{S sz:List Nat}{lk:List (Option Nat×Option Nat)}
abbrev lO(n:Nat):Option W:=some (.loc n)
abbrev iO(q:Int):Option W:=some (.int q)
theorem Bc{fs:FA}{ρ:b6}{st st1:List ao}{ws:List W}(h:fs ρ st=.ok [.tup ws] st1):lJ fs ρ st=.ok (jS ws,none) st1:=by unfold lJ;rw[h];rfl
theorem NE{fs:FA}{ρ:b6}{st st1:List ao}{i j:Int}(h:fs ρ st=.ok [.int i,.int j,.int (-1)] st1)(hq:-(2^60)<=i/\i<2^60/\-(2^60)<=j/\j<2^60):uj fs ρ st=.ok (sD i (i-j).toNat,none) st1:=by
 unfold uj;rw[h];simp only[R.bind_ok];rw[aE ⟨trivial,hq⟩]
end
section
variable{ps:List Pl}{S sz:List Nat}{lk:List (Option Nat×Option Nat)}
theorem Cq(ps:List Pl)(hn:ps.length<=1000){ρ:b6}(hρ:ρ[0]?=some (some (fm ps)))(st:List ao):gD [none] (dZ (ag 0)) (ie 0) nL (eC .non) ρ st=.ok (.loc st.length) (st++[.lst ((List.replicate ps.length none).map oW)]):=by
 have:=Jt (cap:=[none]) (f:=ie 0) (el:=eC .non) (ρ:=ρ) (st:=st) (fun _=>.non) (oS (fe:=ag 0) (ws:=ps.map Pl.w) (st1:=st) (dJ hρ)) (by rw[aC];show _<=1000000;omega) trivial fun w _=>⟨_,rfl,aU⟩
 rw[this,List.map_replicate,bA]
 congr 4
 exact List.map_const' ..
def Up(lk:List (Option Nat×Option Nat))(f:Option Nat×Option Nat->Option Nat)(i:Nat)(l:List (Option Nat)):Prop:=
 (∀p u:Nat,l[p]?=some (some u)->∃x,lk[u]?=some x/\f x=some p)/\∀u x p,u<i->lk[u]?=some x->f x=some p->∃v,l[p]?=some (some v)
theorem Up.zero{lk:List (Option Nat×Option Nat)}{f:Option Nat×Option Nat->Option Nat}{k:Nat}:Up lk f 0 (List.replicate k none):=⟨fun p u e=>by
 rw[iY]at e
 split at e<;>simp at e,fun u x p h=>absurd h (by omega)⟩
theorem Up.skip{lk:List (Option Nat×Option Nat)}{f:Option Nat×Option Nat->Option Nat}{i:Nat}{l:List (Option Nat)}{x:Option Nat×Option Nat}(h:Up lk f i l)(hx:lk[i]?=some x)(hf:f x=none):Up lk f (i+1) l:=⟨h.1,fun u y p hu hy hp=>by
 by_cases e:u=i
 ·subst e;rw[hx]at hy;cases hy;rw[hf]at hp;cases hp
 ·exact h.2 u y p (by omega) hy hp⟩
theorem Up.put{lk:List (Option Nat×Option Nat)}{f:Option Nat×Option Nat->Option Nat}{i q:Nat}{l:List (Option Nat)}{x:Option Nat×Option Nat}(h:Up lk f i l)(hx:lk[i]?=some x)(hf:f x=some q)(hq:q<l.length):Up lk f (i+1) (l.set q (some i)):=⟨fun p u e=>by
 by_cases z:q=p
 ·subst z
  rw[bI hq]at e
  cases e;exact⟨x,hx,hf⟩
 ·rw[bU z]at e;exact h.1 p u e,fun u y p hu hy hp=>by
 by_cases z:q=p
 ·subst z;exact⟨i,bI hq⟩
 ·rw[bU z]
  by_cases e:u=i
  ·subst e;rw[hx]at hy;cases hy;rw[hf]at hp;exact absurd (bc hp) z
  ·exact h.2 u y p (by omega) hy hp⟩
theorem NF(h:Gr ps S sz lk)(hn:ps.length<=900)(st:List ao):∃(A B:List (Option Nat)) (x:List ao),A.length=ps.length/\B.length=ps.length/\Up lk Prod.fst ps.length A/\Up lk Prod.snd ps.length B/\(st++x)[st.length]?=some (.lst (A.map oW))/\(st++x)[st.length+1]?=some (.lst (B.map oW))/\Gm [fm ps] st=.ok (.tup [.loc st.length,.loc (st.length+1)]) (st++x):=by
 obtain⟨l1,l2,_⟩:=h.ok
 suffices hh:jl (wU fun w bf=>w=.tup [.loc st.length,.loc (st.length+1)]/\st <+: bf/\∃(A B:List (Option Nat)),A.length=ps.length/\B.length=ps.length/\Up lk Prod.fst ps.length A/\Up lk Prod.snd ps.length B/\bf[st.length]?=some (.lst (A.map oW))/\bf[st.length+1]?=some (.lst (B.map oW))) (M9 ([fm ps].map some++List.replicate (5-1) none) st) by
  obtain⟨w,s',e,rfl,⟨x,rfl⟩,A,B,a1,a2,a3,a4,a5,a6⟩:=hh
  refine⟨A,B,x,a1,a2,a3,a4,a5,a6,?_⟩
  have:=tj (N:=5) (body:=M9) (ws:=[fm ps]) e
  rw[vE (by simp[undWs,W.und])]at this
  exact this
 have eA:=Cq ps (by omega) (ρ:=[some (fm ps),none,none,none,none]) rfl st
 apply aD
 ·exact Cm eA rfl
 generalize hA0:List.replicate ps.length (none:Option Nat)=A0 at *
 have eB:=Cq ps (by omega) (ρ:=[some (fm ps),lO st.length,none,none,none]) rfl (st++[.lst (A0.map oW)])
 rw[hA0]at eB
 apply aD
 ·exact Cm eB rfl
 rw[show(st++[ao.lst (A0.map oW)]).length=st.length+1 by simp]
 have lA0:A0.length=ps.length:=by rw[<- hA0];simp
 have uA:∀f,Up lk f 0 A0:=fun f=>by rw[<- hA0];exact Up.zero
 have hlk:=Gw h (by omega) (st++[ao.lst (A0.map oW)]++[.lst (A0.map oW)])
 refine fG (fun i ρ s=>∃(o3 o4:Option W) (A B:List (Option Nat)),ρ=[some (fm ps),lO st.length,lO (st.length+1),o3,o4]/\st <+: s/\A.length=ps.length/\B.length=ps.length/\s[st.length]?=some (.lst (A.map oW))/\s[st.length+1]?=some (.lst (B.map oW))/\Up lk Prod.fst i A/\Up lk Prod.snd i B) (k:=(jS (lk.map jW),none))
  (st1:=st++[ao.lst (A0.map oW)]++[.lst (A0.map oW)]) (Bc (ai (a8 kn hlk rfl) a_)) ⟨none,none,A0,A0,rfl,Ck (Ck (al _)),lA0,lA0,bH bP,by rw[show st.length+1=(st++[ao.lst (A0.map oW)]).length by simp];exact bP,uA _,uA _⟩ (fun _ _ _ _=>trivial) ?_ ?_
 ·rintro i w ρ s hw ⟨o3,o4,A,B,rfl,hp,hA,hB,cA,cB,uA,uB⟩
  obtain⟨y,hy,rfl⟩:=oN hw
  rw[aG]at hy
  obtain⟨x,hx,rfl⟩:=bK.mp hy
  obtain⟨k1,k2⟩:=h.lk hx
  have hi:i<ps.length:=by have:=(ak.mp hx).1;omega
  refine⟨_,rfl,?_⟩
  obtain⟨a,b⟩:=x
  have last:∀(s:List ao) (A:List (Option Nat)),st <+: s->A.length=ps.length->s[st.length]?=some (.lst (A.map oW))->s[st.length+1]?=some (.lst (B.map oW))->Up lk Prod.fst (i+1) A->jl (HV fun ρ s=>∃(o3 o4:Option W) (A B:List (Option Nat)),ρ=[some (fm ps),lO st.length,lO (st.length+1),o3,o4]/\st <+: s/\A.length=ps.length/\B.length=ps.length/\s[st.length]?=some (.lst (A.map oW))/\s[st.length+1]?=some (.lst (B.map oW))/\Up lk Prod.fst (i+1) A/\Up lk Prod.snd (i+1) B)
    (fR (dA (ii (e2 bp (ag 4) (eI 1)))) (o9 (ag 2) (e2 bp (ag 4) (eI 1)) (ag 3) k8) b7 [some (fm ps),lO st.length,lO (st.length+1),iO (i:Nat),some (jW (a,b))] s):=by
   intro s A hp hA cA cB uA
   cases b with
   |none=>
    apply gY
    ·exact aO (i9 kx rfl)
    ·exact⟨_,_,rfl,_,_,A,B,rfl,hp,hA,hB,cA,cB,uA,uB.skip hx rfl⟩
   |some q=>
    have:=k2 q rfl
    apply iW
    ·exact aO (i9 kx rfl)
    apply b_
    ·exact nQ kv kv kx (Bb (q:=q) cB (by rw[aC];omega))
    ·exact⟨_,_,rfl,_,_,A,B.set q (some i),rfl,Cj hp (by omega),hA,by rw[jO];exact hB,by rw[Ba (by omega)];exact cA,by rw[xn cB,q9];rfl,uA,uB.put hx rfl (by omega)⟩
  cases a with
  |none=>
   apply aM
   ·exact aO (i9 kx rfl)
   apply aP
   exact last s A hp hA cA cB (uA.skip hx rfl)
  |some q=>
   have:=k1 q rfl
   apply aD
   ·exact g9 (aO (i9 kx rfl)) (nQ kv kv kx (Bb (q:=q) cA (by rw[aC];omega)))
   exact last _ (A.set q (some i)) (Cj hp (aw _)) (by rw[jO];exact hA) (by rw[xn cA,q9];rfl) (by rw[Ba (by omega)];exact cB) (uA.put hx rfl (by omega))
 ·rintro ρ s ⟨o3,o4,A,B,rfl,hp,hA,hB,cA,cB,uA,uB⟩
  rw[show(jS (lk.map jW),(none:Option (Nat×List W))).fst.length=ps.length by rw[rJ,aC,l2]]at uA uB
  apply bD
  ·exact cY (ai kv kn) (ax rfl)
  ·exact⟨_,_,rfl,rfl,hp,A,B,hA,hB,uA,uB,cA,cB⟩
end
theorem DF{α β:Type}(l:List α)(d:α)(f:α->β):(List.range l.length).map (fun i=>f (l.getD i d))=l.map f:=by
 refine fM fun i=>?_
 rw[aG,aG]
 by_cases h:i<l.length
 ·rw[cV h,aq h]
  show some (f (l.getD i d))=_
  rw[aQ,aq h];rfl
 ·rw[bn (by simpa using h),bn (by omega)];rfl
theorem ky{α:Type}{l:List α}{i:Nat}(d:α)(h:i<l.length):l[i]?=some (l.getD i d):=by
 rw[aQ,aq h];rfl
theorem St.ex{n b:Nat}{S:List Nat}(hb:b<=3)(h:(b+1)/2<=S.length):∃S' k x,St n S b S' k x/\S'.length+(b+1)/2=S.length+1:=by
 obtain rfl|rfl|rfl|rfl:b=0\/b=1\/b=2\/b=3:=by omega
 ·exact⟨_,_,_,.z,by simp⟩
 ·match S,h with
  |a::S,_=>exact⟨_,_,_,.l,by simp⟩
 ·match S,h with
  |a::S,_=>exact⟨_,_,_,.r,by simp⟩
 ·match S,h with
  |c::a::S,_=>exact⟨_,_,_,.b,by simp⟩
  |[_],hz=>simp at hz
  |[],hz=>simp at hz
def vV(d:Int)(i:Nat):Bool:=Builtin.bitAnd (d/2^i) 1==1
def kz(pool:List Nat)(d:Int):List Nat:=((List.range pool.length).filter (vV d)).map fun i=>pool.getD i 0
theorem p_(pool:List Nat)(d:Int):(kz pool d).Sublist pool:=by
 unfold kz
 have:((List.range pool.length).map fun i=>pool.getD i 0)=pool:=by
  have:=DF pool 0 (fun x=>x)
  rw[List.map_id']at this;exact this
 conv=>rhs;rw[<- this]
 exact List.Sublist.map _ List.filter_sublist
def xp:W->Nat
 |.int i=>i.toNat
 |_=>0
theorem oX(pool:List Nat)(hp:pool.length<=50)(d:Int)(st:List ao):pF [.str pool,.int d] st=.ok (.str (GA (kz pool d))) st:=by
 have hL:pool.length<=jY:=by show _<=1000000;omega
 have hc:=Fp (fi:=dI (ah (cw eV (ah (ag 0) aJ)) aJ)) (f:=ie 0) (t:=dA (e2 fQ (e2 nJ (e2 yl (ag 2) (ag 0)) (eI 1)) (eI 1))) (el:=e2 bp (ag 1) (ag 0)) (cap:=[none,some 0,some 1]) (ρ:=[some (.str pool),iO d]) (st:=st) (st1:=st) (ws:=d8 0 pool.length) (ck:=none) (fun w=>vV d (xp w)) (fun w=>.str [pool.getD (xp w) 0])
   (by
    have:=gM (fs:=ah (cw eV (ah (ag 0) aJ)) aJ) (ρ:=[some (.str pool),iO d]) (st:=st) (st1:=st) (q:=(pool.length:Int)) (ai (cg kn (wT hL)) a_) (by omega)
    rw[bw]at this
    exact this) (by rw[fj];show _<=1000000;omega) trivial fun w hw=>by
   obtain⟨i,hi,rfl⟩:=DB hw
   refine⟨[iO (0+(i:Int)),some (.str pool),iO d],rfl,?_,fun _=>?_⟩
   ·have h0:(0:Int)<=0+(i:Int):=by omega
    have hk:(Builtin.bitAnd (d/2^(0+(i:Int)).toNat) 1==1)=vV d (xp (.int (0+(i:Int)))):=rfl
    exact aO (aT (aT (aT kv kv (dg h0)) aU (dg trivial)) aU (pB hk))
   ·refine aT kv kv ?_
    rw[show((0:Int)+(i:Int))=(i:Int) by omega]
    have e2:ph pool (i:Int)=some (pool.getD i 0):=g_ (ky 0 hi)
    rw[sF hL e2]
    simp[xp]
 have e:((d8 0 pool.length).filter fun w=>vV d (xp w)).map (fun w=>W.str [pool.getD (xp w) 0])=((kz pool d).map fun c=>[c]).map W.str:=by
  unfold d8 kz
  rw[List.filter_map,bA,bA,bA]
  have e1:((fun w=>vV d (xp w))∘fun k:Nat=>W.int (0+(k:Int)))=vV d:=by funext k;simp[xp]
  rw[e1]
  refine dQ fun k _=>?_
  simp[xp]
 rw[e]at hc
 have hl:(kz pool d).length<=50:=aF (p_ pool d).length_le hp
 refine gN (N:=2) (ws:=[.str pool,.int d]) (body:=K0) ?_ rfl
 apply bD
 ·exact JC hc (bd bP) (by omega)
 ·exact⟨_,_,rfl,rfl,_,by rw[bb]⟩
def rX(pool m:List Nat):Prop:=m.length<=pool.length/\∀d∈m,d∈pool
theorem Cr{pool:List Nat}(hp:pool.length<=50)(d:Int):rX pool (GA (kz pool d)):=
 ⟨by rw[JB];exact(p_ pool d).length_le,fun c hc=>(p_ pool d).subset ((GB _).mem_iff.mp hc)⟩
theorem Bd{f:b6->List ao->R Bool}{ρ:b6}{st a b:List ao}(h1:f ρ st=.ok false a)(h2:f ρ st=.ok true b):False:=by
 rw[h1]at h2;cases h2
theorem JH{st:List ao}{nd:Nat}{ds:List Int}{pool:List Nat}(hd:st[nd]?=some (.lst (lN ds)))(SR:ds.length<=100)(hp:pool.length<=50) :
  ∃ps S sz lk,Gr ps S sz lk/\S.length<=1/\ps.length<=2*ds.length/\(∀p∈ps,rX pool p.m)/\y4 [.loc nd,.str pool] st=.ok (fm ps) st:=by
 suffices hh:jl (wU fun w bf=>(∃x,bf=st++x)/\undWs st.length [w]=true/\∃ps S sz lk,w=fm ps/\Gr ps S sz lk/\S.length<=1/\ps.length<=2*ds.length/\∀p∈ps,rX pool p.m) (K1 ([W.loc nd,.str pool].map some++List.replicate (6-2) none) st) by
  obtain⟨w,⟨ps,S,sz,lk,rfl,h1,h2,h3,h4⟩,e⟩:=mD hh
  exact⟨ps,S,sz,lk,h1,h2,h3,h4,e⟩
 apply aD
 ·(walk_at "evs")
 apply aD
 ·(walk_at "evs")
 have dq:∀A:List W,lstOf (st++[ao.lst A]) nd=some (lN ds):=fun A=>bd (bH hd)
 refine fG (fun i ρ bf=>∃(ps:List Pl) (S sz:List Nat) (lk:List (Option Nat×Option Nat)) (o5 o6:Option W),ρ=[lO nd,some (.str pool),lO st.length,iO S.length,o5,o6]/\bf=st++[.lst (ps.map Pl.w)]/\Gr ps S sz lk/\ps.length=i/\∀p∈ps,rX pool p.m) (mC (st1:=st++[ao.lst []]) (by(walk_at "evs")) (dq []))
  ⟨[],[],[],[],none,none,rfl,rfl,.nil,rfl,by simp⟩ (fun i ρ bf h=>?_) ?_ ?_
 ·obtain⟨ps,S,sz,lk,o5,o6,rfl,rfl,_⟩:=h
  exact dq _
 ·rintro i w ρ bf hw ⟨ps,S,sz,lk,o5,o6,rfl,rfl,hg,hW,hpm⟩
  obtain⟨d,hdd,rfl⟩:∃d,ds[i]?=some d/\w=.int d:=by
   simp only[lN,aG,bK]at hw
   obtain⟨d,h1,rfl⟩:=hw
   exact⟨d,h1,rfl⟩
  have hi:i<ds.length:=(ak.mp hdd).1
  refine⟨_,rfl,?_⟩
  have hc:(st++[ao.lst (ps.map Pl.w)])[st.length]?=some (.lst (ps.map Pl.w)):=bP
  obtain⟨b0,hb0,eb0⟩:=iA (q:=d) (n:=4) (by omega)
  have eb0:d%4=(b0:Int):=eb0
  apply aD
  ·exact aW (aT kv aU (dg (by decide)))
  rw[eb0]
  refine mE (fun ρ bf=>∃b:Nat,b<=3/\(b+1)/2<=S.length/\ρ=[lO nd,some (.str pool),lO st.length,iO S.length,iO d,iO b]/\bf=st++[.lst (ps.map Pl.w)]) ?_ ?_
  ·by_cases h1:S.length<(b0+1)/2
   ·have t1:decide ((S.length:Int)<((b0:Int)+1)/2)=true:=aB (by omega)
    apply iW
    ·exact aO (aT (aT (aT kv aU dF) aU (dg (by decide))) kv (fB t1))
    apply b_
    ·(walk_at "evs")
    ·exact⟨_,_,rfl,0,by omega,by omega,rfl,rfl⟩
   ·have t1:decide ((S.length:Int)<((b0:Int)+1)/2)=false:=az (by omega)
    apply gY
    ·exact aO (aT (aT (aT kv aU dF) aU (dg (by decide))) kv (fB t1))
    apply b_
    ·exact kr
    ·exact⟨_,_,rfl,b0,by omega,by omega,rfl,rfl⟩
  rintro ρ bf ⟨b2,hb2,ql,rfl,rfl⟩
  obtain⟨S',k,x,kU,hlen'⟩:=St.ex (n:=ps.length) hb2 ql
  have em:=oX pool hp (d/4%16) (st++[ao.lst (ps.map Pl.w)])
  have hmk:=Cr hp (d/4%16)
  generalize GA (kz pool (d/4%16))=m at em hmk
  have ap:=jU (y:=(Pl.mk b2 m).w) hc (by rw[aC];show _<1000000;omega)
  rw[d9]at ap
  have ap:cv (.loc st.length) [.tup [.int b2,.str m]] (st++[ao.lst (ps.map Pl.w)])=_:=ap
  apply aD
  ·exact i_ (kq kv (fz hc) (ai (cY (ai kv (ai (a8 (ai kv (ai (aT (aT kv aU (dg (by decide))) aU (dg (by decide))) a_)) em rfl) a_)) (ax rfl)) a_) ap)
  apply b_
  ·exact aW (aT (aT kv aU dF) (aT (aT kv aU dF) aU (dg (by decide))) (dg trivial))
  ·refine⟨_,_,rfl,ps++[⟨b2,m⟩],S',sz++[k],lk++[x],iO d,iO b2,?_,by simp,.snoc hg kU,by simp[hW],?_⟩
   ·show[_,_,_,iO ((S.length:Int)+1-((b2:Int)+1)/2),_,_]=_
    rw[show(S.length:Int)+1-((b2:Int)+1)/2=(S'.length:Int) by omega]
   ·intro p hp'
    rcases bj.mp hp' with z|z
    ·exact hpm p z
    ·simp at z;subst z;exact hmk
 ·rintro ρ bf ⟨ps,S,sz,lk,o5,o6,rfl,rfl,hg,hW,hpm⟩
  rw[show(lN ds,some (nd,lN ds)).fst.length=ds.length by simp[lN]]at hW
  have hSle:=hg.ok.2.2.le
  refine rN (fun n ρ bf=>∃(ps:List Pl) (S sz:List Nat) (lk:List (Option Nat×Option Nat)),ρ=[lO nd,some (.str pool),lO st.length,iO S.length,o5,o6]/\bf=st++[.lst (ps.map Pl.w)]/\Gr ps S sz lk/\ps.length+S.length<=2*ds.length/\(∀p∈ps,rX pool p.m)/\S.length=n) S.length ⟨ps,S,sz,lk,rfl,rfl,hg,by omega,hpm,rfl⟩ ?_ ?_
  ·rintro n ρ bf ⟨ps,S,sz,lk,rfl,rfl,hg,hW,hpm,rfl⟩
   by_cases h1:1<S.length
   ·refine .inr ?_
    have t1:decide ((1:Int)<(S.length:Int))=true:=aB (by omega)
    constructor
    ·exact aO (aT kv aU (fB t1))
    obtain⟨S',k,x,kU,hlen'⟩:=St.ex (n:=ps.length) (b:=3) (S:=S) (by omega) (by omega)
    have hc:(st++[ao.lst (ps.map Pl.w)])[st.length]?=some (.lst (ps.map Pl.w)):=bP
    have hS2:=hg.ok.2.2.le
    obtain⟨p,hpp⟩:∃p,ps[S.length-1]?=some p:=⟨_,aq (by omega)⟩
    have ix:bp (.loc st.length) (.int ((S.length:Int)-1)) (st++[ao.lst (ps.map Pl.w)])=.ok p.w (st++[ao.lst (ps.map Pl.w)]):=by
     rw[show(S.length:Int)-1=((S.length-1:Nat):Int) by omega]
     exact e6 (bd hc) (g_ (by rw[aG,hpp];rfl))
    have hmk:=hpm p (b9 hpp)
    have ap:=jU (y:=(Pl.mk 3 p.m).w) hc (by rw[aC];show _<1000000;omega)
    rw[d9]at ap
    have ap:cv (.loc st.length) [.tup [.int 3,.str p.m]] (st++[ao.lst (ps.map Pl.w)])=_:=ap
    apply aD
    ·exact i_ (kq kv (fz hc) (ai (cY (ai aU (ai (aT (aT kv (aT kv aU (dg trivial)) ix) aU (Gy p _)) a_)) (ax rfl)) a_) ap)
    apply b_
    ·exact aW (aT kv aU (dg trivial))
    ·refine⟨_,_,rfl,S'.length,by omega,ps++[⟨3,p.m⟩],S',sz++[k],lk++[x],?_,by simp,.snoc hg kU,by simp;omega,?_,rfl⟩
     ·show[_,_,_,iO ((S.length:Int)-1),_,_]=_
      rw[show(S.length:Int)-1=(S'.length:Int) by omega]
     ·intro q hq
      rcases bj.mp hq with z|z
      ·exact hpm q z
      ·simp at z;subst z;exact hmk
   ·refine .inl ?_
    have t1:decide ((1:Int)<(S.length:Int))=false:=az (by omega)
    exact aO (aT kv aU (fB t1))
  ·rintro n ρ bf ⟨ps,S,sz,lk,rfl,rfl,hg,hW,hpm,rfl⟩ hno
   have hc:(st++[ao.lst (ps.map Pl.w)])[st.length]?=some (.lst (ps.map Pl.w)):=bP
   have hS1:S.length<=1:=by
    rcases gX 1 S.length with h1|h1
    ·have t1:decide ((1:Int)<(S.length:Int))=true:=aB (by omega)
     exact(Bd hno (aO (aT kv aU (fB t1)))).elim
    ·exact h1
   apply bD
   ·exact cg kn (rO (bd hc))
   ·exact⟨_,_,rfl,⟨_,rfl⟩,by simp only[undWs,gA];exact nZ ps _,ps,S,sz,lk,rfl,hg,hS1,by omega,hpm⟩
theorem JI{st:List ao}{nd:Nat}{ds:List Int}{pool:List Nat}{mo:Nat}(hd:st[nd]?=some (.lst (lN ds)))(SR:ds.length<=100)(hp:pool.length<=50) :
  ∃ps S sz lk,Gr ps S sz lk/\S.length<=1/\ps.length<=2*ds.length/\(∀p∈ps,rX pool p.m)/\y6 [.loc nd,.str pool,.int (mo:Nat)] st=.ok (fm ps) st:=by
 suffices hh:jl (wU fun w bf=>(∃x,bf=st++x)/\undWs st.length [w]=true/\∃ps S sz lk,w=fm ps/\Gr ps S sz lk/\S.length<=1/\ps.length<=2*ds.length/\∀p∈ps,rX pool p.m) (K2 ([W.loc nd,.str pool,.int (mo:Nat)].map some++List.replicate (7-3) none) st) by
  obtain⟨w,⟨ps,S,sz,lk,rfl,h1,h2,h3,h4⟩,e⟩:=mD hh
  exact⟨ps,S,sz,lk,h1,h2,h3,h4,e⟩
 apply aD
 ·(walk_at "evs")
 apply aD
 ·(walk_at "evs")
 have dq:∀A:List W,lstOf (st++[ao.lst A]) nd=some (lN ds):=fun A=>bd (bH hd)
 refine fG (fun i ρ bf=>∃(ps:List Pl) (S sz:List Nat) (lk:List (Option Nat×Option Nat)) (o5 o6:Option W),ρ=[lO nd,some (.str pool),iO mo,lO st.length,iO S.length,o5,o6]/\bf=st++[.lst (ps.map Pl.w)]/\Gr ps S sz lk/\ps.length<=i/\∀p∈ps,rX pool p.m) (mC (st1:=st++[ao.lst []]) (by(walk_at "evs")) (dq []))
  ⟨[],[],[],[],none,none,rfl,rfl,.nil,aw _,by simp⟩ (fun i ρ bf h=>?_) ?_ ?_
 ·obtain⟨ps,S,sz,lk,o5,o6,rfl,rfl,_⟩:=h
  exact dq _
 ·rintro i w ρ bf hw ⟨ps,S,sz,lk,o5,o6,rfl,rfl,hg,hW,hpm⟩
  obtain⟨d,hdd,rfl⟩:∃d,ds[i]?=some d/\w=.int d:=by
   simp only[lN,aG,bK]at hw
   obtain⟨d,h1,rfl⟩:=hw
   exact⟨d,h1,rfl⟩
  have hi:i<ds.length:=(ak.mp hdd).1
  refine⟨_,rfl,?_⟩
  have hc:(st++[ao.lst (ps.map Pl.w)])[st.length]?=some (.lst (ps.map Pl.w)):=bP
  obtain⟨b0,hb0,eb0⟩:=iA (q:=d) (n:=4) (by omega)
  have eb0:d%4=(b0:Int):=eb0
  apply aD
  ·exact aW (aT kv aU (dg (by decide)))
  rw[eb0]
  refine mE (fun ρ bf=>∃b:Nat,b<=3/\(b+1)/2<=S.length/\ρ=[lO nd,some (.str pool),iO mo,lO st.length,iO S.length,iO d,iO b]/\bf=st++[.lst (ps.map Pl.w)]) ?_ ?_
  ·by_cases h1:S.length<(b0+1)/2
   ·have t1:decide ((S.length:Int)<((b0:Int)+1)/2)=true:=aB (by omega)
    apply iW
    ·exact aO (aT (aT (aT kv aU dF) aU (dg (by decide))) kv (fB t1))
    apply b_
    ·(walk_at "evs")
    ·exact⟨_,_,rfl,0,by omega,by omega,rfl,rfl⟩
   ·have t1:decide ((S.length:Int)<((b0:Int)+1)/2)=false:=az (by omega)
    apply gY
    ·exact aO (aT (aT (aT kv aU dF) aU (dg (by decide))) kv (fB t1))
    apply b_
    ·exact kr
    ·exact⟨_,_,rfl,b0,by omega,by omega,rfl,rfl⟩
  rintro ρ bf ⟨b2,hb2,ql,rfl,rfl⟩
  obtain⟨S',k,x,kU,hlen'⟩:=St.ex (n:=ps.length) hb2 ql
  have em:=oX pool hp (d/4%16) (st++[ao.lst (ps.map Pl.w)])
  have hmk:=Cr hp (d/4%16)
  generalize GA (kz pool (d/4%16))=m at em hmk
  have ap:=jU (y:=(Pl.mk b2 m).w) hc (by rw[aC];show _<1000000;omega)
  rw[d9]at ap
  have ap:cv (.loc st.length) [.tup [.int b2,.str m]] (st++[ao.lst (ps.map Pl.w)])=_:=ap
  have hln:=kw (bd hc)
  rw[aC]at hln
  by_cases h1:(ps.length:Int)+(S.length:Int)+1-((b2:Int)+1)/2<=(mo:Int)
  ·have t1:decide ((ps.length:Int)+(S.length:Int)+1-((b2:Int)+1)/2<=(mo:Int))=true:=aB h1
   apply iW
   ·exact aO (aT (aT (aT (aT (cg kn hln) kv dF) aU dF) (aT (aT kv aU dF) aU (dg (by decide))) (dg trivial)) kv (B_ t1))
   apply aD
   ·exact i_ (kq kv (fz hc) (ai (cY (ai kv (ai (a8 (ai kv (ai (aT (aT kv aU (dg (by decide))) aU (dg (by decide))) a_)) em rfl) a_)) (ax rfl)) a_) ap)
   apply b_
   ·exact aW (aT (aT kv aU dF) (aT (aT kv aU dF) aU (dg (by decide))) (dg trivial))
   ·refine⟨_,_,rfl,ps++[⟨b2,m⟩],S',sz++[k],lk++[x],iO d,iO b2,?_,by simp,.snoc hg kU,by simp;omega,?_⟩
    ·show[_,_,_,_,iO ((S.length:Int)+1-((b2:Int)+1)/2),_,_]=_
     rw[show(S.length:Int)+1-((b2:Int)+1)/2=(S'.length:Int) by omega]
    ·intro p hp'
     rcases bj.mp hp' with z|z
     ·exact hpm p z
     ·simp at z;subst z;exact hmk
  ·have t1:decide ((ps.length:Int)+(S.length:Int)+1-((b2:Int)+1)/2<=(mo:Int))=false:=az h1
   apply gY
   ·exact aO (aT (aT (aT (aT (cg kn hln) kv dF) aU dF) (aT (aT kv aU dF) aU (dg (by decide))) (dg trivial)) kv (B_ t1))
   apply b_
   ·exact kr
   ·exact⟨_,_,rfl,ps,S,sz,lk,_,_,rfl,rfl,hg,by omega,hpm⟩
 ·rintro ρ bf ⟨ps,S,sz,lk,o5,o6,rfl,rfl,hg,hW,hpm⟩
  rw[show(lN ds,some (nd,lN ds)).fst.length=ds.length by simp[lN]]at hW
  have hSle:=hg.ok.2.2.le
  refine rN (fun n ρ bf=>∃(ps:List Pl) (S sz:List Nat) (lk:List (Option Nat×Option Nat)),ρ=[lO nd,some (.str pool),iO mo,lO st.length,iO S.length,o5,o6]/\bf=st++[.lst (ps.map Pl.w)]/\Gr ps S sz lk/\ps.length+S.length<=2*ds.length/\(∀p∈ps,rX pool p.m)/\S.length=n) S.length ⟨ps,S,sz,lk,rfl,rfl,hg,by omega,hpm,rfl⟩ ?_ ?_
  ·rintro n ρ bf ⟨ps,S,sz,lk,rfl,rfl,hg,hW,hpm,rfl⟩
   by_cases h1:1<S.length
   ·refine .inr ?_
    have t1:decide ((1:Int)<(S.length:Int))=true:=aB (by omega)
    constructor
    ·exact aO (aT kv aU (fB t1))
    obtain⟨S',k,x,kU,hlen'⟩:=St.ex (n:=ps.length) (b:=3) (S:=S) (by omega) (by omega)
    have hc:(st++[ao.lst (ps.map Pl.w)])[st.length]?=some (.lst (ps.map Pl.w)):=bP
    have hS2:=hg.ok.2.2.le
    obtain⟨p,hpp⟩:∃p,ps[S.length-1]?=some p:=⟨_,aq (by omega)⟩
    have ix:bp (.loc st.length) (.int ((S.length:Int)-1)) (st++[ao.lst (ps.map Pl.w)])=.ok p.w (st++[ao.lst (ps.map Pl.w)]):=by
     rw[show(S.length:Int)-1=((S.length-1:Nat):Int) by omega]
     exact e6 (bd hc) (g_ (by rw[aG,hpp];rfl))
    have hmk:=hpm p (b9 hpp)
    have ap:=jU (y:=(Pl.mk 3 p.m).w) hc (by rw[aC];show _<1000000;omega)
    rw[d9]at ap
    have ap:cv (.loc st.length) [.tup [.int 3,.str p.m]] (st++[ao.lst (ps.map Pl.w)])=_:=ap
    apply aD
    ·exact i_ (kq kv (fz hc) (ai (cY (ai aU (ai (aT (aT kv (aT kv aU (dg trivial)) ix) aU (Gy p _)) a_)) (ax rfl)) a_) ap)
    apply b_
    ·exact aW (aT kv aU (dg trivial))
    ·refine⟨_,_,rfl,S'.length,by omega,ps++[⟨3,p.m⟩],S',sz++[k],lk++[x],?_,by simp,.snoc hg kU,by simp;omega,?_,rfl⟩
     ·show[_,_,_,_,iO ((S.length:Int)-1),_,_]=_
      rw[show(S.length:Int)-1=(S'.length:Int) by omega]
     ·intro q hq
      rcases bj.mp hq with z|z
      ·exact hpm q z
      ·simp at z;subst z;exact hmk
   ·refine .inl ?_
    have t1:decide ((1:Int)<(S.length:Int))=false:=az (by omega)
    exact aO (aT kv aU (fB t1))
  ·rintro n ρ bf ⟨ps,S,sz,lk,rfl,rfl,hg,hW,hpm,rfl⟩ hno
   have hc:(st++[ao.lst (ps.map Pl.w)])[st.length]?=some (.lst (ps.map Pl.w)):=bP
   have hS1:S.length<=1:=by
    rcases gX 1 S.length with h1|h1
    ·have t1:decide ((1:Int)<(S.length:Int))=true:=aB (by omega)
     exact(Bd hno (aO (aT kv aU (fB t1)))).elim
    ·exact h1
   apply bD
   ·exact cg kn (rO (bd hc))
   ·exact⟨_,_,rfl,⟨_,rfl⟩,by simp only[undWs,gA];exact nZ ps _,ps,S,sz,lk,rfl,hg,hS1,by omega,hpm⟩
theorem GO{st:List ao}{nd m:Nat}{ds:List Int}{pool:List Nat}(hd:st[nd]?=some (.lst (lN ds)))(SR:ds.length=m)(Ud:1<=m)(hm:m<=100)(hp:pool.length<=50) :
  ∃ps S sz lk,Gr ps S sz lk/\S.length<=1/\ps.length=m/\(∀p∈ps,rX pool p.m)/\y8 [.loc nd,.int (m:Nat),.str pool] st=.ok (fm ps) st:=by
 suffices hh:jl (wU fun w bf=>(∃x,bf=st++x)/\undWs st.length [w]=true/\∃ps S sz lk,w=fm ps/\Gr ps S sz lk/\S.length<=1/\ps.length=m/\∀p∈ps,rX pool p.m) (K4 ([W.loc nd,.int (m:Nat),.str pool].map some++List.replicate (5-3) none) st) by
  obtain⟨w,⟨ps,S,sz,lk,rfl,h1,h2,h3,h4⟩,e⟩:=mD hh
  exact⟨ps,S,sz,lk,h1,h2,h3,h4,e⟩
 obtain⟨d0,e0⟩:∃d,ds[0]?=some d:=⟨_,aq (by omega)⟩
 have em:=oX pool hp (d0/4%4) st
 have hmk:=Cr hp (d0/4%4)
 generalize GA (kz pool (d0/4%4))=m0 at em hmk
 have i0:bp (.loc nd) (.int 0) st=.ok (.int d0) st:=oU (i:=0) hd e0
 refine aD (aW (nO (ai (cY (ai aU (ai (a8 (ai kv (ai (aT (aT (aT kv aU i0) aU (dg (by decide))) aU (dg (by decide))) a_)) em rfl) a_)) (ax rfl)) a_) (ax rfl))) ?_
 obtain⟨S1,k1,x1,hst1,hl1⟩:=St.ex (n:=0) (b:=0) (S:=[]) (by omega) (by decide)
 refine fG (fun i ρ bf=>∃(ps:List Pl) (S sz:List Nat) (lk:List (Option Nat×Option Nat)) (o4:Option W),ρ=[lO nd,iO m,some (.str pool),lO st.length,o4]/\bf=st++[.lst (ps.map Pl.w)]/\Gr ps S sz lk/\S.length=1/\ps.length=i+1/\∀p∈ps,rX pool p.m) (GC (i:=1) (j:=m) (st1:=st++[.lst ([Pl.mk 0 m0].map Pl.w)]) (ai aU kn) (by omega))
  ⟨[⟨0,m0⟩],S1,[]++[k1],[]++[x1],none,rfl,rfl,.snoc (ps:=[]) .nil hst1,by simpa using hl1,rfl,fun p hp'=>by simp at hp';subst hp';exact hmk⟩ (fun _ _ _ _=>trivial) ?_ ?_
 ·rintro i w ρ bf hw ⟨ps,S,sz,lk,o4,rfl,rfl,hg,hS,hW,hpm⟩
  obtain⟨hi,rfl⟩:=gU hw
  rw[show(1:Int)+(i:Int)=((i+1:Nat):Int) by omega]
  obtain⟨d,hdd⟩:∃d,ds[i+1]?=some d:=⟨_,aq (by omega)⟩
  have hc:(st++[ao.lst (ps.map Pl.w)])[st.length]?=some (.lst (ps.map Pl.w)):=bP
  have ix:bp (.loc nd) (.int ((i+1:Nat):Int)) (st++[ao.lst (ps.map Pl.w)])=.ok (.int d) (st++[ao.lst (ps.map Pl.w)]):=oU (bH hd) hdd
  have em:=oX pool hp (d/4%4) (st++[ao.lst (ps.map Pl.w)])
  have hmk:=Cr hp (d/4%4)
  generalize GA (kz pool (d/4%4))=m at em hmk
  obtain⟨b,hb,eb⟩:∃b:Nat,(b=1\/b=2)/\1+d%2=(b:Int):=⟨(1+d%2).toNat,by omega,by omega⟩
  have am:e7 (.int 1) (.int (d%2)) (st++[ao.lst (ps.map Pl.w)])=.ok (.int (b:Int)) (st++[ao.lst (ps.map Pl.w)]):=by rw[<- eb];exact dF
  obtain⟨S',k,x,kU,hlen'⟩:=St.ex (n:=ps.length) (b:=b) (S:=S) (by omega) (by omega)
  have ap:=jU (y:=(Pl.mk b m).w) hc (by rw[aC];show _<1000000;omega)
  rw[d9]at ap
  have ap:cv (.loc st.length) [.tup [.int b,.str m]] (st++[ao.lst (ps.map Pl.w)])=_:=ap
  refine⟨_,rfl,?_⟩
  apply b_
  ·exact i_ (kq kv (fz hc) (ai (cY (ai (aT aU (aT (aT kv kv ix) aU (dg (by decide))) am) (ai (a8 (ai kv (ai (aT (aT (aT kv kv ix) aU (dg (by decide))) aU (dg (by decide))) a_)) em rfl) a_)) (ax rfl)) a_) ap)
  ·refine⟨_,_,rfl,ps++[⟨b,m⟩],S',sz++[k],lk++[x],_,rfl,by simp,.snoc hg kU,by omega,by simp[hW],?_⟩
   intro p hp'
   rcases bj.mp hp' with z|z
   ·exact hpm p z
   ·simp at z;subst z;exact hmk
 ·rintro ρ bf ⟨ps,S,sz,lk,o4,rfl,rfl,hg,hS,hW,hpm⟩
  rw[show(d8 1 ((m:Int)-1).toNat,(none:Option (Nat×List W))).1.length=m-1 from by simp[fj]]at hW
  have hc:(st++[ao.lst (ps.map Pl.w)])[st.length]?=some (.lst (ps.map Pl.w)):=bP
  apply bD
  ·exact cg kn (rO (bd hc))
  ·exact⟨_,_,rfl,⟨_,rfl⟩,by simp only[undWs,gA];exact nZ ps _,ps,S,sz,lk,rfl,hg,by omega,by omega,hpm⟩
abbrev SF:List Nat:=[111,110,101]
abbrev Tr:List Nat:=[110,111,116]
abbrev QX:List (List Nat):=[[105,110],[108,101,102,116],[114,105,103,104,116],[98,101,108,111,119]]
abbrev Oz:List (List Nat):=[[115,111,109,101],[97,108,108]]
abbrev JN:List (List Nat):=[[97,110,100],[111,114]]
abbrev zi:List (List Nat):=[[105,110],[111,110,101],[108,101,102,116],[114,105,103,104,116],[98,101,108,111,119],[110,111,116],[115,111,109,101],[97,108,108],[97,110,100],[111,114]]
inductive Stm where
 |one (a:Nat)|two (k:List Nat) (a b:Nat)|neg (s:Stm)|bnd (k:List Nat) (a:Nat) (s:Stm)|jn (k:List Nat) (s t:Stm)
namespace Stm
def w:Stm->W
 |one a=>.tup [.str SF,.str [a]]
 |two k a b=>.tup [.str k,.str [a],.str [b]]
 |neg s=>.tup [.str Tr,s.w]
 |bnd k a s=>.tup [.str k,.str [a],s.w]
 |jn k s t=>.tup [.str k,s.w,t.w]
def ok:Stm->Prop
 |one a=>a∈LL
 |two k a b=>k∈QX/\a∈LL/\b∈LL
 |neg s=>s.ok
 |bnd k a s=>k∈Oz/\a∈LL/\s.ok
 |jn k s t=>k∈JN/\s.ok/\t.ok
def dp:Stm->Nat
 |one a=>1
 |two k a b=>1
 |neg s=>s.dp+1
 |bnd k a s=>s.dp+1
 |jn k s t=>s.dp+t.dp
theorem dp_pos:∀s:Stm,1<=s.dp
 |one a=>aw _
 |two k a b=>aw _
 |neg s=>Nat.le_add_left _ _
 |bnd k a s=>Nat.le_add_left _ _
 |jn k s t=>by have:=dp_pos s;simp only[dp];omega
theorem und:∀(s:Stm) (n:Nat),s.w.und n=true
 |one a,n=>by simp[w,W.und,undWs]
 |two k a b,n=>by simp[w,W.und,undWs]
 |neg s,n=>by simp[w,W.und,undWs,und s n]
 |bnd k a s,n=>by simp[w,W.und,undWs,und s n]
 |jn k s t,n=>by simp[w,W.und,undWs,und s n,und t n]
end Stm
theorem JJ{α:Type}{l:List α}{x:α}:z6 (l++[x]).length (-1)=some l.length:=by
 unfold z6
 rw[aN (by omega),aE (by simp;omega)]
 simp only[bC,e_,iD]
 congr 1
 omega
theorem GP{α:Type}{l:List α}{x y:α}:(l++[x]).set l.length y=l++[y]:=by simp
theorem tu{l:List W}{x:W}:ph (l++[x]) (-1)=some x:=MK (q:=0) (by simp)
def pc(h:List Stm):Nat:=(h.map Stm.dp).sum
theorem kA(a b:List Stm):pc (a++b)=pc a+pc b:=by simp[pc]
theorem qQ{s:List ao}{p:Nat}{l:List W}{x v:W}(h:s[p]?=some (.lst (l++[x]))):k8 (.loc p) (.int (-1)) v s=some (s.set p (.lst (l++[v]))):=by rw[Ff h JJ,GP]
theorem qR{α:Type}{h:List α}(hn:0<h.length):∃h' x,h=h'++[x]:=⟨h.dropLast,h.getLast (by intro z;rw[z]at hn;simp at hn),(List.dropLast_concat_getLast _).symm⟩
theorem zj{α:Type}{h:List α}(hn:1<h.length):∃h' x y,h=h'++[x]++[y]:=by
 obtain⟨h1,y,rfl⟩:=qR (h:=h) (by omega)
 obtain⟨h2,x,rfl⟩:=qR (h:=h1) (by simp at hn;omega)
 exact⟨h2,x,y,rfl⟩
abbrev wq(q:Nat):List Nat:=zi.getD q []
theorem NG{q:Nat}(hq:q<10)(s:List ao):sV false (.str (wq q)) (.tup [.str [97,110,100],.str [111,114]]) s=.ok (.bl (decide (8<=q))) s:=by
 obtain rfl|rfl|rfl|rfl|rfl|rfl|rfl|rfl|rfl|rfl:q=0\/q=1\/q=2\/q=3\/q=4\/q=5\/q=6\/q=7\/q=8\/q=9:=by omega
 all_goals rfl
theorem NH{q:Nat}(hq:q<10)(s:List ao):sV false (.str (wq q)) (.tup [.str [115,111,109,101],.str [97,108,108]]) s=.ok (.bl (decide (q=6\/q=7))) s:=by
 obtain rfl|rfl|rfl|rfl|rfl|rfl|rfl|rfl|rfl|rfl:q=0\/q=1\/q=2\/q=3\/q=4\/q=5\/q=6\/q=7\/q=8\/q=9:=by omega
 all_goals rfl
theorem NI{q:Nat}(hq:q<10)(s:List ao):fQ (.str (wq q)) (.str [110,111,116]) s=.ok (.bl (decide (q=5))) s:=by
 obtain rfl|rfl|rfl|rfl|rfl|rfl|rfl|rfl|rfl|rfl:q=0\/q=1\/q=2\/q=3\/q=4\/q=5\/q=6\/q=7\/q=8\/q=9:=by omega
 all_goals rfl
theorem NJ{q:Nat}(hq:q<10)(s:List ao):fQ (.str (wq q)) (.str [111,110,101]) s=.ok (.bl (decide (q=1))) s:=by
 obtain rfl|rfl|rfl|rfl|rfl|rfl|rfl|rfl|rfl|rfl:q=0\/q=1\/q=2\/q=3\/q=4\/q=5\/q=6\/q=7\/q=8\/q=9:=by omega
 all_goals rfl
theorem Lc{q:Nat}(hq:q<10)(h:8<=q):wq q∈JN:=by
 obtain rfl|rfl:q=8\/q=9:=by omega
 all_goals decide
theorem NK{q:Nat}(h:q=6\/q=7):wq q∈Oz:=by rcases h with rfl|rfl<;>decide
theorem GQ{q:Nat}(hq:q<5)(h:q≠1):wq q∈QX:=by
 obtain rfl|rfl|rfl|rfl|rfl:q=0\/q=1\/q=2\/q=3\/q=4:=by omega
 all_goals first|decide|exact absurd rfl h
theorem GR{q:Nat}(hq:q<10):ph (zi.map W.str) (q:Int)=some (.str (wq q)):=by
 obtain rfl|rfl|rfl|rfl|rfl|rfl|rfl|rfl|rfl|rfl:q=0\/q=1\/q=2\/q=3\/q=4\/q=5\/q=6\/q=7\/q=8\/q=9:=by omega
 all_goals rfl
theorem kB{h:List Stm}{s:Stm}(hh:∀x∈h,x.ok)(hs:s.ok):∀x∈h++[s],x.ok:=fun x hx=>by
 rcases bj.mp hx with z|z
 ·exact hh x z
 ·rw[aV.mp z];exact hs
theorem JK{st:List ao}{d m:Nat}{ds:List Int}{pool:List Nat}(hd:st[d]?=some (.lst (lN ds)))(hl:ds.length=2*m)(h1:1<=m)(hm:m<=15)(hp:0<pool.length)(Og:pool.length<=50)(jG:∀c∈pool,c∈LL) :
  ∃s:Stm,s.ok/\s.dp<=15/\y7 [.loc d,.str pool] st=.ok s.w st:=by
 suffices hh:jl (wU fun w bf=>(∃x,bf=st++x)/\undWs st.length [w]=true/\∃s:Stm,w=s.w/\s.ok/\s.dp<=15) (K3 ([W.loc d,.str pool].map some++List.replicate (9-2) none) st) by
  obtain⟨w,⟨l,rfl,h1,h2⟩,e⟩:=mD hh
  exact⟨l,h1,h2,e⟩
 have hdd:d<st.length:=(ak.mp hd).1
 refine aD (aW (nO Fe (by decide))) (aD (aW (nO a_ (by decide))) ?_)
 simp only[bb,bC,e_,iD,List.cons_append,iF,dN]
 have hpL:pool.length<=jY:=by show _<=1000000;omega
 have hlen0:eV [.loc d] (st++[ao.lst (zi.map W.str),ao.lst []])=.ok (.int ((2*m:Nat):Int)) (st++[ao.lst (zi.map W.str),ao.lst []]):=by
  have:=kw (bd (bH (x:=[ao.lst (zi.map W.str),ao.lst []]) hd))
  rw[lN,aC,hl]at this;exact this
 refine fG (fun i ρ bf=>∃(h:List Stm) (y:List ao) (o4 o5 o6 o7 o8:Option W),ρ=[some (.loc d),some (.str pool),some (.loc st.length),some (.loc (st.length+1)),o4,o5,o6,o7,o8]/\bf=st++(.lst (zi.map W.str)::.lst (h.map Stm.w)::y)/\(∀s∈h,s.ok)/\pc h<=i/\h.length<=i/\(0<i->h≠[]))
  (gM (q:=(((2*m:Nat):Int)/2)) (st1:=st++[ao.lst (zi.map W.str),ao.lst []]) (ai (aT (cg kn hlen0) aU (dg (by decide))) a_) (by omega))
  ⟨[],[],none,none,none,none,none,rfl,rfl,by simp,aw _,aw _,by omega⟩ (fun _ _ _ _=>trivial) ?_ ?_
 ·rintro i w ρ bf hw ⟨h,y,o4,o5,o6,o7,o8,rfl,rfl,hok,hsum,hW,uN⟩
  obtain⟨hi,rfl⟩:=gU hw
  have hi':i<m:=by omega
  rw[eG]
  obtain⟨s,hs⟩:∃s,s=st++(.lst (zi.map W.str)::.lst (h.map Stm.w)::y):=⟨_,rfl⟩
  rw[<- hs]
  have uS:s[d]?=some (.lst (lN ds)):=by rw[hs];exact bH hd
  have hcw:s[st.length]?=some (.lst (zi.map W.str)):=by rw[hs,fY];rfl
  have oY:s[st.length+1]?=some (.lst (h.map Stm.w)):=by rw[hs,iz];rfl
  obtain⟨d0,hd0⟩:∃x,ds[2*i]?=some x:=⟨_,aq (by omega)⟩
  obtain⟨d1,hd1⟩:∃x,ds[2*i+1]?=some x:=⟨_,aq (by omega)⟩
  have e0:bp (.loc d) (.int (2*(i:Int))) s=.ok (.int d0) s:=by rw[show(2*(i:Int))=((2*i:Nat):Int) by omega];exact oU uS hd0
  have e1:bp (.loc d) (.int (2*(i:Int)+1)) s=.ok (.int d1) s:=by rw[show(2*(i:Int)+1)=((2*i+1:Nat):Int) by omega];exact oU uS hd1
  obtain⟨q,hq,eq⟩:=iA (q:=d0) (n:=10) (by omega)
  have eq:d0%10=(q:Int):=eq
  obtain⟨qa,hqa,eqa⟩:=rS pool hp d1
  obtain⟨qb,hqb,eqb⟩:=rS pool hp (d1/4)
  have lp:(0:Int)<(pool.length:Int):=by omega
  have ew:bp (.loc st.length) (.int (d0%10)) s=.ok (.str (wq q)) s:=by rw[eq];exact e6 (bd hcw) (GR hq)
  have m2:∀z:Int,EM 2 z:=fun z=>.inl (by decide)
  refine⟨_,rfl,?_⟩
  refine aD (aW (aT kv (aT (aT kv (aT aU kv (ku (m2 _))) e0) aU (dg (by decide))) ew)) ?_
  refine aD (aW (aT kv (aT (aT kv (aT (aT aU kv (ku (m2 _))) aU dF) e1) (cg kn (wT hpL)) (dg lp)) (sF hpL eqa))) ?_
  refine aD (aW (aT kv (aT (aT (aT kv (aT (aT aU kv (ku (m2 _))) aU dF) e1) aU (dg (by decide))) (cg kn (wT hpL)) (dg lp)) (sF hpL eqb))) ?_
  have dr:=kw (bd oY)
  rw[aC]at dr
  have hsm:(h.map Stm.w).length<jY:=by rw[aC];show _<1000000;omega
  have hV:∀(h2:List Stm) (y2:List ao) (o4 o5 o6 o7 o8:Option W),(∀s∈h2,s.ok)->pc h2<=i+1->h2.length<=i+1->h2≠[]->HV (fun ρ bf=>∃(h:List Stm) (y:List ao) (o4 o5 o6 o7 o8:Option W),ρ=[some (.loc d),some (.str pool),some (.loc st.length),some (.loc (st.length+1)),o4,o5,o6,o7,o8]/\bf=st++(.lst (zi.map W.str)::.lst (h.map Stm.w)::y)/\(∀s∈h,s.ok)/\pc h<=i+1/\h.length<=i+1/\(0<i+1->h≠[]))
    (.nx [some (.loc d),some (.str pool),some (.loc st.length),some (.loc (st.length+1)),o4,o5,o6,o7,o8] (st++(.lst (zi.map W.str)::.lst (h2.map Stm.w)::y2))):=fun h2 y2 o4 o5 o6 o7 o8 a b c e=>⟨_,_,rfl,h2,y2,o4,o5,o6,o7,o8,rfl,rfl,a,b,c,fun _=>e⟩
  have t1:=NG hq s
  have t2:=NH hq s
  have t3:=NI hq s
  have t4:=NJ hq s
  by_cases hA:8<=q/\1<h.length
  ·rw[aB hA.1]at t1
   refine iW (gE (aO (aT kv (cY (ai aU (ai aU a_)) (by decide)) t1)) (aO (aT (cg kn dr) aU (fB (aB (by omega)))))) ?_
   obtain⟨h',x,z,rfl⟩:=zj hA.2
   have hch':s[st.length+1]?=some (.lst ((h'.map Stm.w++[x.w])++[z.w])):=by rw[oY];simp
   refine aD (aW (kq kv (fz oY) a_ (B' hch'))) ?_
   have hc2:(s.set (st.length+1) (.lst (h'.map Stm.w++[x.w])))[st.length+1]?=some (.lst (h'.map Stm.w++[x.w])):=xn oY
   refine b_ (nQ (cY (ai kv (ai (aT kv (nP aU) (e6 (bd hc2) tu)) kn)) (ax rfl)) kv (nP aU) (qQ hc2)) ?_
   rw[List.set_set,hs,fZ]
   have:=hV (h'++[.jn (wq q) x z]) y (some (.int (i:Int))) (some (.str (wq q))) (some (.str [qa])) (some (.str [qb])) (some z.w) (kB (s:=.jn (wq q) x z) (fun s hs=>hok s (by simp[hs])) ⟨Lc hq hA.1,hok x (by simp),hok z (by simp)⟩) (by simp[kA,pc,Stm.dp]at hsum ⊢;omega) (by simp at hW ⊢;omega) (by simp)
   rw[cE]at this
   exact this
  refine gY (st1:=s) ?_ ?_
  ·by_cases h8:8<=q
   ·rw[aB h8]at t1
    exact gE (aO (aT kv (cY (ai aU (ai aU a_)) (by decide)) t1)) (aO (aT (cg kn dr) aU (fB (az (by omega)))))
   ·rw[az h8]at t1
    exact lc (aO (aT kv (cY (ai aU (ai aU a_)) (by decide)) t1))
  by_cases hB:(q=6\/q=7)/\0<h.length
  ·rw[aB hB.1]at t2
   refine iW (gE (aO (aT kv (cY (ai aU (ai aU a_)) (by decide)) t2)) (aO (aT (cg kn dr) aU (fB (aB (by omega)))))) ?_
   obtain⟨h',x,rfl⟩:=qR hB.2
   have hch':s[st.length+1]?=some (.lst (h'.map Stm.w++[x.w])):=by rw[oY];simp
   refine b_ (nQ (cY (ai kv (ai kv (ai (aT kv (nP aU) (e6 (bd hch') tu)) a_))) (ax rfl)) kv (nP aU) (qQ hch')) ?_
   rw[hs,fZ]
   have:=hV (h'++[.bnd (wq q) qa x]) y (some (.int (i:Int))) (some (.str (wq q))) (some (.str [qa])) (some (.str [qb])) o8 (kB (s:=.bnd (wq q) qa x) (fun s hs=>hok s (by simp[hs])) ⟨NK hB.1,jG _ hqa,hok x (by simp)⟩) (by simp[kA,pc,Stm.dp]at hsum ⊢;omega) (by simp at hW ⊢;omega) (by simp)
   rw[cE]at this
   exact this
  refine gY (st1:=s) ?_ ?_
  ·by_cases h8:q=6\/q=7
   ·rw[aB h8]at t2
    exact gE (aO (aT kv (cY (ai aU (ai aU a_)) (by decide)) t2)) (aO (aT (cg kn dr) aU (fB (az (by omega)))))
   ·rw[az h8]at t2
    exact lc (aO (aT kv (cY (ai aU (ai aU a_)) (by decide)) t2))
  by_cases hC:q=5/\0<h.length
  ·rw[aB hC.1]at t3
   refine iW (gE (aO (aT kv aU t3)) (aO (aT (cg kn dr) aU (fB (aB (by omega)))))) ?_
   obtain⟨h',x,rfl⟩:=qR hC.2
   have hch':s[st.length+1]?=some (.lst (h'.map Stm.w++[x.w])):=by rw[oY];simp
   refine b_ (nQ (cY (ai kv (ai (aT kv (nP aU) (e6 (bd hch') tu)) a_)) (ax rfl)) kv (nP aU) (qQ hch')) ?_
   rw[hs,fZ]
   have:=hV (h'++[.neg x]) y (some (.int (i:Int))) (some (.str (wq q))) (some (.str [qa])) (some (.str [qb])) o8 (kB (s:=.neg x) (fun s hs=>hok s (by simp[hs])) (hok x (by simp))) (by simp[kA,pc,Stm.dp]at hsum ⊢;omega) (by simp at hW ⊢;omega) (by simp)
   rw[cE]at this
   rw[hC.1]
   rw[hC.1]at this
   exact this
  refine gY (st1:=s) ?_ ?_
  ·by_cases h8:q=5
   ·rw[aB h8]at t3
    exact gE (aO (aT kv aU t3)) (aO (aT (cg kn dr) aU (fB (az (by omega)))))
   ·rw[az h8]at t3
    exact lc (aO (aT kv aU t3))
  by_cases hD:q=1
  ·rw[aB hD]at t4
   refine iW (aO (aT kv aU t4)) ?_
   refine b_ (i_ (kq kv (fz oY) (ai (cY (ai kv kn) (ax rfl)) a_) (jU oY hsm))) ?_
   rw[hs,fZ]
   have:=hV (h++[.one qa]) y (some (.int (i:Int))) (some (.str (wq q))) (some (.str [qa])) (some (.str [qb])) o8 (kB (s:=.one qa) hok (jG _ hqa)) (by simp[kA,pc,Stm.dp]at hsum ⊢;omega) (by simp;omega) (by simp)
   rw[cE]at this
   rw[hD]
   rw[hD]at this
   exact this
  rw[az hD]at t4
  refine gY (aO (aT kv aU t4)) ?_
  by_cases hE:q<5
  ·refine iW (aO (aT (aT (aT kv (aT aU kv (ku (m2 _))) e0) aU (dg (by decide))) aU (fB (aB (by omega))))) ?_
   refine b_ (i_ (kq kv (fz oY) (ai (cY (ai kv (ai kv kn)) (ax rfl)) a_) (jU oY hsm))) ?_
   rw[hs,fZ]
   have:=hV (h++[.two (wq q) qa qb]) y (some (.int (i:Int))) (some (.str (wq q))) (some (.str [qa])) (some (.str [qb])) o8 (kB (s:=.two (wq q) qa qb) hok ⟨GQ hE hD,jG _ hqa,jG _ hqb⟩) (by simp[kA,pc,Stm.dp]at hsum ⊢;omega) (by simp;omega) (by simp)
   rw[cE]at this
   exact this
  ·refine gY (aO (aT (aT (aT kv (aT aU kv (ku (m2 _))) e0) aU (dg (by decide))) aU (fB (az (by omega))))) ?_
   obtain⟨r,hr,er⟩:=iA (q:=d0/10) (n:=4) (by omega)
   have er:d0/10%4=(r:Int):=er
   have hch2:(s++[ao.lst [.int 0,.int 2,.int 3,.int 4]])[st.length+1]?=some (.lst (h.map Stm.w)):=bH oY
   have hcw2:(s++[ao.lst [.int 0,.int 2,.int 3,.int 4]])[st.length]?=some (.lst (zi.map W.str)):=bH hcw
   have e02:bp (.loc d) (.int (2*(i:Int))) (s++[ao.lst [.int 0,.int 2,.int 3,.int 4]])=.ok (.int d0) (s++[ao.lst [.int 0,.int 2,.int 3,.int 4]]):=by rw[show(2*(i:Int))=((2*i:Nat):Int) by omega];exact oU (bH uS) hd0
   obtain⟨g,hg,eg⟩:∃g:Nat,(g<5/\g≠1)/\bp (.loc s.length) (.int (d0/10%4)) (s++[ao.lst [.int 0,.int 2,.int 3,.int 4]])=.ok (.int (g:Int)) (s++[ao.lst [.int 0,.int 2,.int 3,.int 4]]):=by
    rw[er]
    obtain rfl|rfl|rfl|rfl:r=0\/r=1\/r=2\/r=3:=by omega
    ·exact⟨0,by decide,e6 (bd bP) rfl⟩
    ·exact⟨2,by decide,e6 (bd bP) rfl⟩
    ·exact⟨3,by decide,e6 (bd bP) rfl⟩
    ·exact⟨4,by decide,e6 (bd bP) rfl⟩
   have eg2:bp (.loc st.length) (.int (g:Int)) (s++[ao.lst [.int 0,.int 2,.int 3,.int 4]])=.ok (.str (wq g)) (s++[ao.lst [.int 0,.int 2,.int 3,.int 4]]):=e6 (bd hcw2) (GR (by omega))
   refine b_ (i_ (kq kv (fz oY) (ai (cY (ai (aT kv (aT (nO (ai aU (ai aU (ai aU (ai aU a_)))) (by decide)) (aT (aT (aT kv (aT aU kv (ku (m2 _))) e02) aU (dg (by decide))) aU (dg (by decide))) eg) eg2) (ai kv kn)) (ax rfl)) a_) (jU hch2 hsm))) ?_
   rw[hs,bb,fZ]
   have:=hV (h++[.two (wq g) qa qb]) (y++[ao.lst [.int 0,.int 2,.int 3,.int 4]]) (some (.int (i:Int))) (some (.str (wq q))) (some (.str [qa])) (some (.str [qb])) o8 (kB (s:=.two (wq g) qa qb) hok ⟨GQ hg.1 hg.2,jG _ hqa,jG _ hqb⟩) (by simp[kA,pc,Stm.dp]at hsum ⊢;omega) (by simp;omega) (by simp)
   rw[cE]at this
   exact this
 ·rintro ρ bf ⟨h,y,o4,o5,o6,o7,o8,rfl,rfl,hok,hsum,hW,uN⟩
  rw[show(d8 0 (((2*m:Nat):Int)/2).toNat,(none:Option (Nat×List W))).1.length=m from by rw[fj];omega]at hsum hW uN
  have uN:h≠[]:=uN (by omega)
  refine rN (fun n ρ bf=>∃(h:List Stm) (o8:Option W),ρ=[some (.loc d),some (.str pool),some (.loc st.length),some (.loc (st.length+1)),o4,o5,o6,o7,o8]/\bf=st++(.lst (zi.map W.str)::.lst (h.map Stm.w)::y)/\(∀s∈h,s.ok)/\pc h<=m/\h≠[]/\h.length=n) h.length
   ⟨h,o8,rfl,rfl,hok,hsum,uN,rfl⟩ ?_ ?_
  ·rintro n ρ bf ⟨h,o8,rfl,rfl,hok,hW,uN,hn⟩
   obtain⟨s,hs⟩:∃s,s=st++(.lst (zi.map W.str)::.lst (h.map Stm.w)::y):=⟨_,rfl⟩
   rw[<- hs]
   have hcw:s[st.length]?=some (.lst (zi.map W.str)):=by rw[hs,fY];rfl
   have oY:s[st.length+1]?=some (.lst (h.map Stm.w)):=by rw[hs,iz];rfl
   have dr:=kw (bd oY)
   rw[aC]at dr
   by_cases h1:1<h.length
   ·refine .inr ⟨aO (aT (cg kn dr) aU (fB (aB (by omega)))),?_⟩
    obtain⟨h',x,z,rfl⟩:=zj h1
    have hch':s[st.length+1]?=some (.lst ((h'.map Stm.w++[x.w])++[z.w])):=by rw[oY];simp
    refine aD (aW (kq kv (fz oY) a_ (B' hch'))) ?_
    have hc2:(s.set (st.length+1) (.lst (h'.map Stm.w++[x.w])))[st.length+1]?=some (.lst (h'.map Stm.w++[x.w])):=xn oY
    have hcw2:(s.set (st.length+1) (.lst (h'.map Stm.w++[x.w])))[st.length]?=some (.lst (zi.map W.str)):=by rw[Ba (by omega)];exact hcw
    have hl2:=kw (bd hc2)
    obtain⟨g,hg,eg⟩:∃g:Nat,(8<=g/\g<10)/\8+(((h'.map Stm.w++[x.w]).length:Nat):Int)%2=(g:Int):=⟨(8+(((h'.map Stm.w++[x.w]).length:Nat):Int)%2).toNat,by omega,by omega⟩
    have ew:bp (.loc st.length) (.int (8+(((h'.map Stm.w++[x.w]).length:Nat):Int)%2)) (s.set (st.length+1) (.lst (h'.map Stm.w++[x.w])))=.ok (.str (wq g)) (s.set (st.length+1) (.lst (h'.map Stm.w++[x.w]))):=by rw[eg];exact e6 (bd hcw2) (GR hg.2)
    refine b_ (nQ (cY (ai (aT kv (aT aU (aT (cg kn hl2) aU (dg (by decide))) dF) ew) (ai (aT kv (nP aU) (e6 (bd hc2) tu)) kn)) (ax rfl)) kv (nP aU) (qQ hc2)) ?_
    rw[List.set_set,hs,fZ]
    refine⟨_,_,rfl,(h'++[x]).length,by rw[<- hn];simp,h'++[.jn (wq g) x z],_,rfl,?_,kB (s:=.jn (wq g) x z) (fun s hs=>hok s (by simp[hs])) ⟨Lc hg.2 hg.1,hok x (by simp),hok z (by simp)⟩,?_,by simp,by simp⟩
    ·rw[cE (l₁:=h') (l₂:=[Stm.jn (wq g) x z])];rfl
    ·simp[kA,pc,Stm.dp]at hW ⊢;omega
   ·exact .inl (aO (aT (cg kn dr) aU (fB (az (by omega)))))
  ·rintro n ρ bf ⟨h,o8,rfl,rfl,hok,hW,uN,hn⟩ ht
   have oY:(st++(.lst (zi.map W.str)::.lst (h.map Stm.w)::y))[st.length+1]?=some (.lst (h.map Stm.w)):=by rw[iz];rfl
   have dr:=kw (bd oY)
   rw[aC]at dr
   by_cases h1:1<h.length
   ·exact(Bd ht (aO (aT (cg kn dr) aU (fB (aB (by omega)))))).elim
   ·obtain⟨x,rfl⟩:∃x,h=[x]:=eZ.mp (by have:=List.length_pos_iff.mpr uN;omega)
    refine bD (aT kv aU (e6 (bd oY) (show ph ([x].map Stm.w) 0=some x.w from rfl))) ⟨_,_,rfl,⟨_,rfl⟩,by simp[undWs,Stm.und],x,rfl,hok x (by simp),?_⟩
    simp[pc]at hW;omega
end P
namespace P
open PySem L2
abbrev UC:List Nat:=[65,66,67,68,69,70,71,72,73,74,75,76,77,78,79,80,81,82,83,84,85,86,87,88,89,90]
abbrev LC:List Nat:=[97,98,99,100,101,102,103,104,105,106,107,108,109,110,111,112,113,114,115,116,117,118,119,120,121,122]
theorem Ld:∀c∈UC,c∈LL:=by decide
theorem Ct:∀c∈LC,c∈LL:=by decide
abbrev SA:List W:=[.str [115,111,109,101],.str [97,108,108]]
theorem Cu{ρ:b6}{s:List ao}{fi:FE}{z:Int}(h:fi ρ (s++[.lst SA])=.ok (.int (z%2)) (s++[.lst SA])):∃k,k∈Oz/\e2 bp (kW (ah (eC (.str [115,111,109,101])) (ah (eC (.str [97,108,108])) aJ))) fi ρ s=.ok (.str k) (s++[.lst SA]):=by
 have hl:lstOf (s++[ao.lst SA]) s.length=some SA:=bd bP
 obtain e|e:z%2=0\/z%2=1:=by omega
 ·rw[e]at h
  exact⟨[115,111,109,101],by decide,aT (nO (ai aU (ai aU a_)) (by decide)) h (e6 hl rfl)⟩
 ·rw[e]at h
  exact⟨[97,108,108],by decide,aT (nO (ai aU (ai aU a_)) (by decide)) h (e6 hl rfl)⟩
theorem ik{s:List ao}{p:Nat}{ds:List Int}{d:Int}(i:Nat){ρ:b6}{q:Nat}(hρ:ρ[q]?=some (some (.loc p)))(h:s[p]?=some (.lst (lN ds)))(e:ds[i]?=some d):e2 bp (ag q) (eC (.int (i:Int))) ρ s=.ok (.int d) s:=aT (dJ hρ) aU (oU h e)
structure Rz(pool:List Nat)(s:Stm)(ps:List Pl)(S sz:List Nat)(lk:List (Option Nat×Option Nat)):Prop where
 ok:s.ok
 dp:s.dp<=15
 gr:Gr ps S sz lk
 s1:S.length<=1
 len:ps.length<=100
 mks:∀p∈ps,rX pool p.m
theorem JL{n:Nat}{st:List ao}{ns:List Int}{pool:List Nat}(h:st[n]?=some (.ro (ns.map W.int)))(hp:pool.length=4)(jG:∀c∈pool,c∈LL) :
  ∃s ps S sz lk,Rz pool s ps S sz lk/\y9 [.loc n,.str pool] st=.ok (.tup [s.w,fm ps]) st:=by
 suffices hh:jl (wU fun w bf=>(∃x,bf=st++x)/\undWs st.length [w]=true/\∃s ps S sz lk,Rz pool s ps S sz lk/\w=.tup [s.w,fm ps]) (K5 ([W.loc n,.str pool].map some++List.replicate (10-2) none) st) by
  obtain⟨w,⟨s,ps,S,sz,lk,h1,rfl⟩,e⟩:=mD hh
  exact⟨s,ps,S,sz,lk,h1,e⟩
 obtain⟨c4,e4⟩:=oT h 4
 obtain⟨ds,hl,_,ed⟩:=l8 c4 700001 8 (by omega) st
 have ed:jV [.int c4,.int 8,.int 700001] st=.ok (.loc st.length) (st++[.lst (lN ds)]):=ed
 obtain⟨d0,d1,d2,d3,d4,d5,d6,d7,rfl⟩:∃d0 d1 d2 d3 d4 d5 d6 d7,ds=[d0,d1,d2,d3,d4,d5,d6,d7]:=by
  match ds,hl with
  |[d0,d1,d2,d3,d4,d5,d6,d7],_=>exact⟨_,_,_,_,_,_,_,_,rfl⟩
 have g1:(st++[ao.lst (lN [d0,d1,d2,d3,d4,d5,d6,d7])])[st.length]?=some (.lst (lN [d0,d1,d2,d3,d4,d5,d6,d7])):=bP
 have g0:(st++[ao.lst (lN [d0,d1,d2,d3,d4,d5,d6,d7])])[n]?=some (.ro (ns.map W.int)):=bH h
 have gx:∃x,st++[ao.lst (lN [d0,d1,d2,d3,d4,d5,d6,d7])]=st++x:=⟨_,rfl⟩
 refine aD (aW (a8 (ai (a8 (ai kv (ai aU a_)) e4 rfl) (ai aU (ai aU a_))) ed rfl)) ?_
 generalize st++[ao.lst (lN [d0,d1,d2,d3,d4,d5,d6,d7])]=s1 at g1 g0 gx
 obtain⟨gr,hgr,egr⟩:=rS UC (by decide) d0
 have egr:ph UC (d0%26)=some gr:=egr
 obtain⟨sm,hsm,esm⟩:=rS LC (by decide) d1
 have esm:ph LC (d1%26)=some sm:=esm
 obtain⟨ot,hot,eot⟩:=rS LC (by decide) (d1+1)
 have eot:ph LC ((d1+1)%26)=some ot:=eot
 have l26:UC.length<=jY:=by decide
 have l27:LC.length<=jY:=by decide
 refine aD (aW (aT aU (aT (ik 0 rfl g1 rfl) aU (dg (by decide))) (sF l26 egr))) ?_
 refine aD (aW (aT aU (aT (ik 1 rfl g1 rfl) aU (dg (by decide))) (sF l27 esm))) ?_
 refine aD (aW (aT aU (aT (aT (ik 1 rfl g1 rfl) aU dF) aU (dg (by decide))) (sF l27 eot))) ?_
 obtain⟨k0,hk0,ek0⟩:=Cu (ρ:=[some (.loc n),some (.str pool),some (.loc st.length),some (.str [gr]),some (.str [sm]),some (.str [ot]),none,none,none,none]) (s:=s1) (z:=d2) (fi:=e2 dX (e2 bp (ag 2) (eI 2)) (eI 2)) (aT (ik 2 rfl (bH g1) rfl) aU (dg (by decide)))
 obtain⟨k1,hk1,ek1⟩:=Cu (ρ:=[some (.loc n),some (.str pool),some (.loc st.length),some (.str [gr]),some (.str [sm]),some (.str [ot]),none,none,none,none]) (s:=s1++[.lst SA]) (z:=d2/2) (fi:=e2 dX (e2 jk (e2 bp (ag 2) (eI 2)) (eI 2)) (eI 2)) (aT (aT (ik 2 rfl (bH (bH g1)) rfl) aU (dg (by decide))) aU (dg (by decide)))
 refine aD (aW (nO (ai ek0 (ai ek1 a_)) (ax rfl))) ?_
 obtain⟨s2,ql⟩:∃s2,s2=s1++[ao.lst SA]++[ao.lst SA]:=⟨_,rfl⟩
 rw[<- ql]
 have g6:(s2++[ao.lst [.str k0,.str k1]])[s2.length]?=some (.lst [.str k0,.str k1]):=bP
 have g1':(s2++[ao.lst [.str k0,.str k1]])[st.length]?=some (.lst (lN [d0,d1,d2,d3,d4,d5,d6,d7])):=by rw[ql];exact bH (bH (bH g1))
 have g0':(s2++[ao.lst [.str k0,.str k1]])[n]?=some (.ro (ns.map W.int)):=by rw[ql];exact bH (bH (bH g0))
 have gx':∃x,s2++[ao.lst [.str k0,.str k1]]=st++x:=by obtain⟨x,hx⟩:=gx;exact⟨_,by rw[ql,hx,bb,bb,bb]⟩
 generalize s2++[ao.lst [.str k0,.str k1]]=s3 at g6 g1' g0' gx'
 generalize s2.length=p6 at g6
 clear g1 g0 gx ql ek0 ek1
 obtain⟨p0,OC⟩:∃c,pool[0]?=some c:=⟨_,aq (by omega)⟩
 have hp0':=jG p0 (b9 OC)
 have ip:∀s:List ao,bp (.str pool) (.int 0) s=.ok (.str [p0]) s:=fun s=>sF (by show _<=1000000;omega) (g_ (q:=0) OC)
 refine aD (aW (nO (ai (cY (ai aU (ai kv kn)) (ax rfl)) (ai (cY (ai aU (ai kv kn)) (ax rfl)) (ai (cY (ai aU kn) (ax rfl)) (ai (cY (ai aU kn) (ax rfl)) (ai (cY (ai aU (ai kv (ai (aT kv aU (ip _)) a_))) (ax rfl)) a_))))) (ax rfl))) ?_
 obtain⟨L5,hL5⟩:∃L5:List Stm,L5=[.two [105,110] sm sm,.two [105,110] sm ot,.one gr,.one ot,.two [105,110] gr p0]:=⟨_,rfl⟩
 have g7:(s3++[ao.lst (L5.map Stm.w)])[s3.length]?=some (.lst (L5.map Stm.w)):=bP
 have g6':=bH (x:=[ao.lst (L5.map Stm.w)]) g6
 have g1:=bH (x:=[ao.lst (L5.map Stm.w)]) g1'
 have g0:=bH (x:=[ao.lst (L5.map Stm.w)]) g0'
 have gx:∃x,s3++[ao.lst (L5.map Stm.w)]=st++x:=by obtain⟨x,hx⟩:=gx';exact⟨_,by rw[hx,bb]⟩
 rw[show s3++[ao.lst [.tup [.str [105,110],.str [sm],.str [sm]],.tup [.str [105,110],.str [sm],.str [ot]],.tup [.str [111,110,101],.str [gr]],.tup [.str [111,110,101],.str [ot]],.tup [.str [105,110],.str [gr],.str [p0]]]]=s3++[ao.lst (L5.map Stm.w)] by rw[hL5];rfl]
 generalize s3++[ao.lst (L5.map Stm.w)]=s at g7 g6' g1 g0 gx
 generalize s3.length=p7 at g7
 clear g6 g1' g0' gx'
 obtain⟨t,ht,hd1,et⟩:∃t:Stm,t.ok/\t.dp=1/\bp (.loc p7) (.int (d3%5)) s=.ok t.w s:=by
  have a1:=Ct _ hsm
  have a2:=Ct _ hot
  have a3:=Ld _ hgr
  obtain⟨r,hr,er⟩:=iA (q:=d3) (n:=5) (by omega)
  have er:d3%5=(r:Int):=er
  rw[er]
  subst hL5
  obtain rfl|rfl|rfl|rfl|rfl:r=0\/r=1\/r=2\/r=3\/r=4:=by omega
  ·exact⟨.two [105,110] sm sm,⟨by decide,a1,a1⟩,rfl,e6 (bd g7) rfl⟩
  ·exact⟨.two [105,110] sm ot,⟨by decide,a1,a2⟩,rfl,e6 (bd g7) rfl⟩
  ·exact⟨.one gr,a3,rfl,e6 (bd g7) rfl⟩
  ·exact⟨.one ot,a2,rfl,e6 (bd g7) rfl⟩
  ·exact⟨.two [105,110] gr p0,⟨by decide,a3,hp0'⟩,rfl,e6 (bd g7) rfl⟩
 have i60:bp (.loc p6) (.int 0) s=.ok (.str k0) s:=e6 (bd g6') rfl
 have i61:bp (.loc p6) (.int 1) s=.ok (.str k1) s:=e6 (bd g6') rfl
 have a1:=Ct _ hsm
 have a2:=Ct _ hot
 have a3:=Ld _ hgr
 refine aD (aW (cY (ai (aT kv aU i60) (ai kv (ai (cY (ai (aT kv aU i61) (ai kv (ai (aT kv (aT (ik 3 rfl g1 rfl) aU (dg (by decide))) et) a_))) (ax rfl)) a_))) (ax rfl))) ?_
 refine aD (aW (aT aU (aT (ik 4 rfl g1 rfl) aU (dg (by decide))) dF)) ?_
 obtain⟨r4,hr4,er4⟩:=iA (q:=d4) (n:=3) (by omega)
 have er4:d4%3=(r4:Int):=er4
 rw[er4]
 refine mE (fun ρ bf=>∃(x:Stm) (m:Nat),x.ok/\x.dp<=3/\1<=m/\m<=100/\ρ=[some (.loc n),some (.str pool),some (.loc st.length),some (.str [gr]),some (.str [sm]),some (.str [ot]),some (.loc p6),some (.loc p7),some x.w,some (.int (m:Int))]/\s=bf) ?_ ?_
 ·have c5:∀(c:Int) (ρ:b6),ρ[2]?=some (some (.loc st.length))->dA (e2 fQ (e2 dX (e2 bp (ag 2) (eI 5)) (eI 4)) (eC (.int c))) ρ s=.ok (decide (d5%4=c)) s:=fun c ρ hρ=>aO (aT (aT (ik 5 hρ g1 rfl) aU (dg (by decide))) aU (pB (by rw[cf];simp)))
  by_cases h1:d5%4=1
  ·refine iW ((c5 1 _ rfl).trans (by rw[aB h1])) ?_
   refine aD (aW (cY (ai (aT kv aU i60) (ai kv (ai (aT kv (aT (ik 3 rfl g1 rfl) aU (dg (by decide))) et) a_))) (ax rfl))) ?_
   refine b_ (aW (aT aU (aT (ik 4 rfl g1 rfl) aU (dg (by decide))) dF)) ⟨_,_,rfl,.bnd k0 gr t,11+r4,⟨hk0,a3,ht⟩,by simp only[Stm.dp];omega,by omega,by omega,?_,rfl⟩
   rw[er4];rfl
  refine gY ((c5 1 _ rfl).trans (by rw[az h1])) ?_
  by_cases h3:d5%4=3
  ·refine iW ((c5 3 _ rfl).trans (by rw[aB h3])) ?_
   refine aD (aW (cY (ai (aT kv aU i60) (ai kv (ai (aT kv (aT (ik 3 rfl g1 rfl) aU (dg (by decide))) et) a_))) (ax rfl))) ?_
   refine b_ (aW (aT aU (aT (ik 4 rfl g1 rfl) aU (dg (by decide))) dF)) ⟨_,_,rfl,.bnd k0 sm t,98+r4,⟨hk0,a1,ht⟩,by simp only[Stm.dp];omega,by omega,by omega,?_,rfl⟩
   rw[er4];rfl
  refine gY ((c5 3 _ rfl).trans (by rw[az h3])) ?_
  by_cases h2:d5%4=2
  ·refine iW ((c5 2 _ rfl).trans (by rw[aB h2])) ?_
   refine aD (aW (cY (ai (aT kv aU i60) (ai kv (ai (cY (ai (aT kv aU i61) (ai kv (ai (aT kv (aT (ik 3 rfl g1 rfl) aU (dg (by decide))) et) a_))) (ax rfl)) a_))) (ax rfl))) ?_
   refine b_ (aW (aT aU (aT (ik 4 rfl g1 rfl) aU (dg (by decide))) dF)) ⟨_,_,rfl,.bnd k0 sm (.bnd k1 gr t),7+r4,⟨hk0,a1,hk1,a3,ht⟩,by simp only[Stm.dp];omega,by omega,by omega,?_,rfl⟩
   rw[er4];rfl
  refine gY ((c5 2 _ rfl).trans (by rw[az h2])) ?_
  exact b_ kr ⟨_,_,rfl,.bnd k0 sm (.bnd k1 ot t),63+r4,⟨hk0,a1,hk1,a2,ht⟩,by simp only[Stm.dp];omega,by omega,by omega,rfl,rfl⟩
 rintro ρ bf ⟨x,m,hx,hxd,hm1,hm,rfl,rfl⟩
 refine mE (fun ρ bf=>∃(x:Stm),x.ok/\x.dp<=15/\ρ=[some (.loc n),some (.str pool),some (.loc st.length),some (.str [gr]),some (.str [sm]),some (.str [ot]),some (.loc p6),some (.loc p7),some x.w,some (.int (m:Int))]/\s=bf) ?_ ?_
 ·have c6:∀(c:Int) (ρ:b6),ρ[2]?=some (some (.loc st.length))->dA (e2 fQ (e2 dX (e2 bp (ag 2) (eI 6)) (eI 4)) (eC (.int c))) ρ s=.ok (decide (d6%4=c)) s:=fun c ρ hρ=>aO (aT (aT (ik 6 hρ g1 rfl) aU (dg (by decide))) aU (pB (by rw[cf];simp)))
  by_cases h1:d6%4=1
  ·refine iW ((c6 1 _ rfl).trans (by rw[aB h1])) ?_
   exact b_ (aW (cY (ai aU kn) (ax rfl))) ⟨_,_,rfl,.neg x,hx,by simp only[Stm.dp];omega,rfl,rfl⟩
  refine gY ((c6 1 _ rfl).trans (by rw[az h1])) ?_
  by_cases h2:d6%4=2
  ·refine iW ((c6 2 _ rfl).trans (by rw[aB h2])) ?_
   exact b_ (aW (cY (ai aU (ai (cY (ai aU (ai (aT kv aU (ip _)) a_)) (ax rfl)) kn)) (ax rfl))) ⟨_,_,rfl,.jn [97,110,100] (.one p0) x,⟨by decide,hp0',hx⟩,by simp only[Stm.dp];omega,rfl,rfl⟩
  refine gY ((c6 2 _ rfl).trans (by rw[az h2])) ?_
  by_cases h3:d6%4=3
  ·refine iW ((c6 3 _ rfl).trans (by rw[aB h3])) ?_
   exact b_ (aW (cY (ai aU (ai kv (ai (cY (ai aU (ai (aT kv aU (ip _)) (ai (aT kv aU (ip _)) a_))) (ax rfl)) a_))) (ax rfl))) ⟨_,_,rfl,.jn [111,114] x (.two [105,110] p0 p0),⟨by decide,hx,by decide,hp0',hp0'⟩,by simp only[Stm.dp];omega,rfl,rfl⟩
  refine gY ((c6 3 _ rfl).trans (by rw[az h3])) ?_
  exact b_ kr ⟨_,_,rfl,x,hx,by omega,rfl,rfl⟩
 rintro ρ bf ⟨x,hx,hxd,rfl,rfl⟩
 obtain⟨c5,e5⟩:=oT g0 5
 obtain⟨es,hel,_,ee⟩:=l8 c5 800011 m (by omega) s
 obtain⟨ps,S,sz,lk,q1,q2,q3,q4,q5⟩:=GO (st:=s++[.lst (lN es)]) (nd:=s.length) (pool:=pool) bP hel hm1 hm (by omega)
 obtain⟨y,rfl⟩:=gx
 refine bD (cY (ai kv (ai (a8 (ai (a8 (ai (a8 (ai kv (ai aU a_)) e5 rfl) (ai kv (ai aU a_))) ee rfl) (ai kv kn)) q5 rfl) a_)) (ax rfl)) ⟨_,_,rfl,⟨_,bb _ _ _⟩,?_,x,ps,S,sz,lk,⟨hx,hxd,q1,q2,by omega,q4⟩,rfl⟩
 simp[undWs,W.und,Stm.und,nZ]
theorem JM{n:Nat}{st:List ao}{ns:List Int}(h:st[n]?=some (.ro (ns.map W.int))) :
  ∃pool s ps S sz lk,pool.length=4/\(∀c∈pool,c∈LL)/\Rz pool s ps S sz lk/\y_ [.loc n] st=.ok (.tup [s.w,fm ps]) st:=by
 suffices hh:jl (wU fun w bf=>(∃x,bf=st++x)/\undWs st.length [w]=true/\∃pool s ps S sz lk,pool.length=4/\(∀c∈pool,c∈LL)/\Rz pool s ps S sz lk/\w=.tup [s.w,fm ps]) (K6 ([W.loc n].map some++List.replicate (7-1) none) st) by
  obtain⟨w,⟨pool,s,ps,S,sz,lk,h1,h2,h3,rfl⟩,e⟩:=mD hh
  exact⟨pool,s,ps,S,sz,lk,h1,h2,h3,e⟩
 obtain⟨c0,e0⟩:=oT h 0
 obtain⟨ds,hl,_,ed⟩:=l8 c0 100003 3 (by omega) st
 have ed:jV [.int c0,.int 3,.int 100003] st=.ok (.loc st.length) (st++[.lst (lN ds)]):=ed
 obtain⟨d0,d1,d2,rfl⟩:∃d0 d1 d2,ds=[d0,d1,d2]:=by
  match ds,hl with
  |[d0,d1,d2],_=>exact⟨_,_,_,rfl⟩
 have g1:(st++[ao.lst (lN [d0,d1,d2])])[st.length]?=some (.lst (lN [d0,d1,d2])):=bP
 have g0:(st++[ao.lst (lN [d0,d1,d2])])[n]?=some (.ro (ns.map W.int)):=bH h
 refine aD (aW (a8 (ai (a8 (ai kv (ai aU a_)) e0 rfl) (ai aU (ai aU a_))) ed rfl)) ?_
 obtain⟨s1,hs1⟩:∃s1,s1=st++[ao.lst (lN [d0,d1,d2])]:=⟨_,rfl⟩
 rw[<- hs1]at g1 g0 ⊢
 obtain⟨c1,e1⟩:=oT g0 1
 obtain⟨pool,hp,jG,ep⟩:=Jz c1 200017 4 (by omega) s1
 have ep:vP [.int c1,.int 4,.int 200017] s1=.ok (.str pool) s1:=ep
 refine aD (aW (a8 (ai (a8 (ai kv (ai aU a_)) e1 rfl) (ai aU (ai aU a_))) ep rfl)) ?_
 have cq:∀(c:Int) (ρ:b6) (s:List ao),s[st.length]?=some (.lst (lN [d0,d1,d2]))->ρ[1]?=some (some (.loc st.length))->dA (e2 fQ (e2 dX (e2 bp (ag 1) (eI 0)) (eI 4)) (eC (.int c))) ρ s=.ok (decide (d0%4=c)) s:=fun c ρ s g1 hρ=>aO (aT (aT (ik 0 hρ g1 rfl) aU (dg (by decide))) aU (pB (by rw[cf];simp)))
 by_cases h3:d0%4=3
 ·obtain⟨s,ps,S,sz,lk,hb,ee⟩:=JL g0 hp jG
  refine bB ((cq 3 _ _ g1 rfl).trans (by rw[aB h3])) (ba (a8 (ai kv kn) ee rfl) ⟨_,_,rfl,⟨_,hs1⟩,?_,pool,s,ps,S,sz,lk,hp,jG,hb,rfl⟩)
  simp[undWs,W.und,Stm.und,nZ]
 refine aM ((cq 3 _ _ g1 rfl).trans (by rw[az h3])) (aP ?_)
 refine aD (aW (aT (ik 1 rfl g1 rfl) aU (dg (by decide)))) ?_
 refine aD (aW (aT aU (aT (ik 2 rfl g1 rfl) aU (dg (by decide))) dF)) ?_
 obtain⟨m0,hm0,em0⟩:=iA (q:=d1) (n:=6) (by omega)
 have em0:d1%6=(m0:Int):=em0
 obtain⟨r0,hr0,er0⟩:=iA (q:=d2) (n:=6) (by omega)
 have er0:d2%6=(r0:Int):=er0
 rw[em0,er0]
 refine mE (fun ρ bf=>∃r:Nat,1<=r/\r<=15/\ρ=[some (.loc n),some (.loc st.length),some (.str pool),some (.int (m0:Int)),some (.int (r:Int)),none,none]/\s1=bf) ?_ ?_
 ·by_cases h1:d0%4=1
  ·obtain⟨r1,hr1,er1⟩:=iA (q:=d2) (n:=15) (by omega)
   have er1:d2%15=(r1:Int):=er1
   refine iW ((cq 1 _ _ g1 rfl).trans (by rw[aB h1])) ?_
   refine b_ (aW (aT aU (aT (ik 2 rfl g1 rfl) aU (dg (by decide))) dF)) ⟨_,_,rfl,1+r1,by omega,by omega,?_,rfl⟩
   rw[er1];rfl
  ·refine gY ((cq 1 _ _ g1 rfl).trans (by rw[az h1])) ?_
   exact b_ kr ⟨_,_,rfl,1+r0,by omega,by omega,rfl,rfl⟩
 rintro ρ bf ⟨r,hr1,hr,rfl,rfl⟩
 refine mE (fun ρ bf=>∃r m:Nat,1<=r/\r<=15/\m<=33/\ρ=[some (.loc n),some (.loc st.length),some (.str pool),some (.int (m:Int)),some (.int (r:Int)),none,none]/\s1=bf) ?_ ?_
 ·by_cases h1:d0%4=2
  ·obtain⟨r1,hr1,er1⟩:=iA (q:=d2) (n:=3) (by omega)
   have er1:d2%3=(r1:Int):=er1
   obtain⟨m1,hm1,em1⟩:=iA (q:=d1) (n:=34) (by omega)
   have em1:d1%34=(m1:Int):=em1
   refine iW ((cq 2 _ _ g1 rfl).trans (by rw[aB h1])) ?_
   refine aD (aW (aT (ik 1 rfl g1 rfl) aU (dg (by decide)))) ?_
   refine b_ (aW (aT aU (aT (ik 2 rfl g1 rfl) aU (dg (by decide))) dF)) ⟨_,_,rfl,1+r1,m1,by omega,by omega,by omega,?_,rfl⟩
   rw[er1,em1];rfl
  ·refine gY ((cq 2 _ _ g1 rfl).trans (by rw[az h1])) ?_
   exact b_ kr ⟨_,_,rfl,r,m0,by omega,by omega,by omega,rfl,rfl⟩
 rintro ρ bf ⟨r,m,hr1,hr,hm,rfl,rfl⟩
 obtain⟨c2,e2⟩:=oT g0 2
 obtain⟨es,hel,_,ee⟩:=l8 c2 300007 (2*r) (by omega) s1
 have ee:jV [.int c2,.int (2*(r:Int)),.int 300007] s1=.ok (.loc s1.length) (s1++[.lst (lN es)]):=by rw[show(2*(r:Int))=((2*r:Nat):Int) by omega];exact ee
 obtain⟨s,hs,hsd,es'⟩:=JK (st:=s1++[.lst (lN es)]) (d:=s1.length) (m:=r) (pool:=pool) bP hel hr1 hr (by omega) (by omega) jG
 refine aD (aW (a8 (ai (a8 (ai (a8 (ai kv (ai aU a_)) e2 rfl) (ai (aT aU kv (ku (.inl (by decide)))) (ai aU a_))) ee rfl) kn) es' rfl)) ?_
 have g1':=bH (x:=[ao.lst (lN es)]) g1
 have g0':=bH (x:=[ao.lst (lN es)]) g0
 obtain⟨s2,ql⟩:∃s2,s2=s1++[ao.lst (lN es)]:=⟨_,rfl⟩
 rw[<- ql]at g1' g0' ⊢
 obtain⟨c3,e3⟩:=oT g0' 3
 obtain⟨fs,hfl,_,ef⟩:=l8 c3 400009 m (by omega) s2
 have ef:jV [.int c3,.int (m:Int),.int 400009] s2=.ok (.loc s2.length) (s2++[.lst (lN fs)]):=ef
 refine aD (aW (a8 (ai (a8 (ai kv (ai aU a_)) e3 rfl) (ai kv (ai aU a_))) ef rfl)) ?_
 have g1:=bH (x:=[ao.lst (lN fs)]) g1'
 have gx:∃x,s2++[ao.lst (lN fs)]=st++x:=⟨_,by rw[ql,hs1,bb,bb]⟩
 by_cases h1:d0%4=2
 ·obtain⟨ps,S,sz,lk,q1,q2,q3,q4,q5⟩:=JH (st:=s2++[.lst (lN fs)]) (nd:=s2.length) (pool:=pool) bP (by omega) (by omega)
  refine bB ((cq 2 _ _ g1 rfl).trans (by rw[aB h1])) (ba (cY (ai kv (ai (a8 (ai kv kn) q5 rfl) a_)) (ax rfl)) ⟨_,_,rfl,gx,?_,pool,s,ps,S,sz,lk,hp,jG,⟨hs,hsd,q1,q2,by omega,q4⟩,rfl⟩)
  simp[undWs,W.und,Stm.und,nZ]
 ·obtain⟨ps,S,sz,lk,q1,q2,q3,q4,q5⟩:=JI (st:=s2++[.lst (lN fs)]) (nd:=s2.length) (pool:=pool) (mo:=m) bP (by omega) (by omega)
  refine aM ((cq 2 _ _ g1 rfl).trans (by rw[az h1])) (aP (bD (cY (ai kv (ai (a8 (ai kv (ai kv kn)) q5 rfl) a_)) (ax rfl)) ⟨_,_,rfl,gx,?_,pool,s,ps,S,sz,lk,hp,jG,⟨hs,hsd,q1,q2,by omega,q4⟩,rfl⟩))
  simp[undWs,W.und,Stm.und,nZ]
theorem l_{k:List Nat}(h:k∈QX):k=[105,110]\/k=[108,101,102,116]\/k=[114,105,103,104,116]\/k=[98,101,108,111,119]:=by simpa using h
theorem jt{k:List Nat}(h:k∈Oz):k=[115,111,109,101]\/k=[97,108,108]:=by simpa using h
theorem n4{k:List Nat}(h:k∈JN):k=[97,110,100]\/k=[111,114]:=by simpa using h
theorem DG{f f':W->W->List ao->R W}{fa fb fc:FE}{ρ:b6}{st st1 cN jL st4 Hl:List ao}{x y w v:W}(h1:fa ρ st=.ok x st1)(h2:fb ρ st1=.ok y cN)(h3:f x y cN=.ok (.bl true) jL)(h4:fc ρ jL=.ok w st4)(h5:f' y w st4=.ok v Hl):pX f f' fa fb fc ρ st=.ok v Hl:=by
 unfold pX;rw[h1];simp only[R.bind_ok];rw[h2];simp only[R.bind_ok];rw[h3];simp only[R.bind_ok];rw[h4];exact h5
theorem DH{f f':W->W->List ao->R W}{fa fb fc:FE}{ρ:b6}{st st1 cN jL:List ao}{x y:W}(h1:fa ρ st=.ok x st1)(h2:fb ρ st1=.ok y cN)(h3:f x y cN=.ok (.bl false) jL):pX f f' fa fb fc ρ st=.ok (.bl false) jL:=by
 unfold pX;rw[h1];simp only[R.bind_ok];rw[h2];simp only[R.bind_ok];rw[h3];rfl
theorem NL(k:Nat)(hk:k<=1000)(st:List ao):Gj [.int k] st=.ok (.int (2^k:Nat)) st:=by
 refine gN (N:=3) (ws:=[.int k]) (body:=Qz) ?_ rfl
 apply aD
 ·(walk_at "evs")
 refine fG (fun i ρ s=>∃o2:Option W,ρ=[iO k,iO (2^i:Nat),o2]/\s=st) (gM (q:=(k:Int)) (st1:=st) kn (by omega)) ⟨none,rfl,rfl⟩ (fun _ _ _ _=>trivial) ?_ ?_
 ·rintro i w ρ s hw ⟨o4,rfl,rfl⟩
  obtain⟨hi,rfl⟩:=gU hw
  refine⟨_,rfl,?_⟩
  apply b_
  ·exact aW (aT kv aU (ku (.inr (by decide))))
  ·exact⟨_,_,rfl,_,by rw[show((2^i:Nat):Int)*2=((2^(i+1):Nat):Int) by rw[q_,no];rfl];rfl,rfl⟩
 ·rintro ρ s ⟨o2,rfl,rfl⟩
  apply bD
  ·(walk_at "evs")
  ·refine⟨_,_,rfl,?_,[],by simp⟩
   rw[show(d8 0 (k:Int).toNat,(none:Option (Nat×List W))).fst.length=k by simp[fj]]
def z7(a n:Nat):Nat:=if a∈LC then max n 1 else 2^n
def wy(n:Nat):Stm->Nat
 |.one _=>1
 |.two _ _ _=>1
 |.neg s=>wy n s
 |.bnd _ a s=>wy n s*z7 a n
 |.jn _ s t=>wy n s+wy n t
theorem GS{a n:Nat}(h:n<=100):z7 a n<=2^100:=by
 unfold z7
 split
 ·exact aF (show max n 1<=100 by omega) (by decide)
 ·exact dE (by decide) h
theorem Be{x y:Nat}(hx:2<=x)(hy:2<=y):x+y<=x*y:=by
 obtain⟨a,rfl⟩:∃a,x=2+a:=⟨x-2,by omega⟩
 obtain⟨b,rfl⟩:∃b,y=2+b:=⟨y-2,by omega⟩
 have:(2+a)*(2+b)=4+2*a+2*b+a*b:=by rw[Nat.add_mul,Nat.mul_add,Nat.mul_add,mV a 2];omega
 have:=bQ (a*b)
 omega
theorem zk{n:Nat}(h:n<=100):∀s:Stm,wy n s<=2^(101*s.dp)
 |.one _=>kS
 |.two _ _ _=>kS
 |.neg s=>aF (zk h s) (dE (by decide) (by simp only[Stm.dp];omega))
 |.bnd _ a s=>by
  have:=Nat.mul_le_mul (zk h s) (GS (a:=a) h)
  rw[<- Nat.pow_add]at this
  exact aF this (dE (by decide) (by simp only[Stm.dp];omega))
 |.jn _ s t=>by
  have h1:=zk h s
  have h2:=zk h t
  have p1:=s.dp_pos
  have p2:=t.dp_pos
  have e:∀d,1<=d->2<=2^(101*d):=fun d hd=>aF (show 2<=2^1 from aw _) (dE (by decide) (by omega))
  have:=Be (e _ p1) (e _ p2)
  rw[<- Nat.pow_add,<- Nat.mul_add]at this
  exact aF (Nat.add_le_add h1 h2) this
theorem GT{n:Nat}(h:n<=100){s:Stm}(hd:s.dp<=40):wy n s<2^9000:=eh (zk h s) (Nat.pow_lt_pow_right (by decide) (by omega))
theorem GU{a n:Nat}(h:n<=100):z7 a n<2^9000:=eh (GS h) (Nat.pow_lt_pow_right (by decide) (by omega))
theorem xq(a n:Nat):1<=z7 a n:=by
 unfold z7
 split
 ·omega
 ·exact kS
theorem uC(n:Nat):∀s:Stm,1<=wy n s
 |.one _=>aw _
 |.two _ _ _=>aw _
 |.neg s=>uC n s
 |.bnd _ a s=>Nat.mul_pos (uC n s) (xq a n)
 |.jn _ s t=>aF (uC n s) (me _ _)
theorem Bf{a b:Nat}{st:List ao}(ha:a<2^9000)(hb:b<2^9000):yB (.int (a:Nat)) (.int (b:Nat)) st=.ok (.int ((a*b:Nat):Int)) st:=by
 have:=dg (C:=Kl) (f:=fun i j=>i*j) (p:=(a:Int)) (q:=(b:Int)) (st:=st) ⟨by rw[Int.natAbs_natCast];exact ha,by rw[Int.natAbs_natCast];exact hb⟩
 rw[no]
 exact this
theorem JO:∀c∈LL,(decide (97<=c)&&decide (c<=122))=decide (c∈LC):=by decide
theorem zl{c:Nat}(h:c∈LL)(st:List ao):A_ [.str [c]] st=.ok (.bl (decide (c∈LC))) st:=by
 rw[<- JO c h]
 refine bR (bD ?_ ⟨_,_,rfl,rfl,rfl⟩)
 by_cases h1:97<=c
 ·rw[aB h1,jD]
  exact DG aU kv (by show R.ok (W.bl (decide (97<=c))) st=_;rw[aB h1]) aU rfl
 ·rw[az h1,kF]
  exact DH aU kv (by show R.ok (W.bl (decide (97<=c))) st=_;rw[az h1])
theorem JP{c n:Nat}(h:c∈LL)(hn:n<=100)(st:List ao):yX [.str [c],.int (n:Nat)] st=.ok (.int (z7 c n:Nat)) st:=by
 have hs:=zl h st
 refine bR ?_
 unfold z7
 by_cases h1:c∈LC
 ·rw[aB h1]at hs
  rw[aE h1]
  refine bD (ur (aO (a8 kn hs rfl)) (cg (ai kv (ai aU a_)) Ko)) ⟨_,_,rfl,?_,rfl⟩
  congr 1
  split<;>omega
 ·rw[az h1]at hs
  rw[aN h1]
  exact bD (ut (aO (a8 kn hs rfl)) (a8 kn (NL n (by omega) st) rfl)) ⟨_,_,rfl,rfl,rfl⟩
def Stm.pl:Stm->Bool
 |.one _=>true
 |.two _ _ _=>true
 |_=>false
def Stm.wd:Stm->List Nat
 |.one _=>SF
 |.two k _ _=>k
 |.neg _=>Tr
 |.bnd k _ _=>k
 |.jn k _ _=>k
theorem gF(s:Stm)(st:List ao):bp s.w (.int 0) st=.ok (.str s.wd) st:=by cases s<;>exact vG rfl
theorem il{s:Stm}(h:s.ok)(st:List ao):A' [s.w] st=.ok (.bl s.pl) st:=by
 refine bR (bD ?_ ⟨_,_,rfl,rfl,rfl⟩)
 have w0:∀ρ:b6,ρ[0]?=some (some s.w)->e2 bp (ag 0) (eI 0) ρ st=.ok (.str s.wd) st:=fun ρ hρ=>aT (dJ hρ) aU (gF s st)
 cases s with
 |one a=>exact wS (aT (w0 _ rfl) aU rfl)
 |two k a b=>
  have hk:k∈QX:=h.1
  have hk:=l_ hk
  rcases hk with rfl|rfl|rfl|rfl<;>exact p5 (aT (w0 _ rfl) aU rfl) (aT (w0 _ rfl) aU rfl)
 |neg s=>exact p5 (aT (w0 _ rfl) aU rfl) (aT (w0 _ rfl) aU rfl)
 |bnd k a s=>
  have hk:k∈Oz:=h.1
  have hk:=jt hk
  rcases hk with rfl|rfl<;>exact p5 (aT (w0 _ rfl) aU rfl) (aT (w0 _ rfl) aU rfl)
 |jn k s t=>
  have hk:k∈JN:=h.1
  have hk:=n4 hk
  rcases hk with rfl|rfl<;>exact p5 (aT (w0 _ rfl) aU rfl) (aT (w0 _ rfl) aU rfl)
theorem JQ{n:Nat}(hn:n<=100):∀(s:Stm) (k:Nat),s.ok->s.dp<=k->k<=40->∀st:List ao,pE k [s.w,.int (n:Nat)] st=.ok (.int (wy n s:Nat)) st:=by
 intro s
 induction s with
 |one a=>
  intro k hs hd hk st
  obtain⟨k,rfl⟩:∃j,k=j+1:=⟨k-1,by simp only[Stm.dp]at hd;omega⟩
  refine bR (body:=vL (pE k)) (N:=3) ?_
  exact aD (aW (aT kv aU (gF _ st))) (bB (aO (a8 kn (il hs st) rfl)) (ba aU ⟨_,_,rfl,rfl,rfl⟩))
 |two q a b=>
  intro k hs hd hk st
  obtain⟨k,rfl⟩:∃j,k=j+1:=⟨k-1,by simp only[Stm.dp]at hd;omega⟩
  refine bR (body:=vL (pE k)) (N:=3) ?_
  exact aD (aW (aT kv aU (gF _ st))) (bB (aO (a8 kn (il hs st) rfl)) (ba aU ⟨_,_,rfl,rfl,rfl⟩))
 |neg s ih=>
  intro k hs hd hk st
  obtain⟨k,rfl⟩:∃j,k=j+1:=⟨k-1,by simp only[Stm.dp]at hd;omega⟩
  refine bR (body:=vL (pE k)) (N:=3) ?_
  refine aD (aW (aT kv aU (gF _ st))) (aM (aO (a8 kn (il hs st) rfl)) (aP (bB (aO (aT kv aU rfl)) (ba (a8 (ai kx kn) (ih k hs (by simp only[Stm.dp]at hd;omega) (by omega) st) rfl) ⟨_,_,rfl,rfl,rfl⟩))))
 |bnd q a s ih=>
  intro k hs hd hk st
  obtain⟨k,rfl⟩:∃j,k=j+1:=⟨k-1,by simp only[Stm.dp]at hd;omega⟩
  refine bR (body:=vL (pE k)) (N:=3) ?_
  have hp:=il hs st
  obtain⟨hq,ha,hs'⟩:=hs
  have hd':s.dp<=k:=by simp only[Stm.dp]at hd;omega
  have e1:=ih k hs' hd' (by omega) st
  have hm:=JP ha hn st
  have hq:=jt hq
  rcases hq with rfl|rfl<;>exact aD (aW (aT kv aU (gF _ st))) (aM (aO (a8 kn hp rfl)) (aP (aM (aO (aT kv aU rfl)) (aP (aM (aO (aT kv aU rfl)) (aP (bD (aT (a8 (ai kx kn) e1 rfl) (a8 (ai kx kn) hm rfl) (Bf (GT hn (by omega)) (GU hn))) ⟨_,_,rfl,rfl,rfl⟩)))))))
 |jn q s t ih1 ih2=>
  intro k hs hd hk st
  obtain⟨k,rfl⟩:∃j,k=j+1:=⟨k-1,by have:=s.dp_pos;simp only[Stm.dp]at hd;omega⟩
  refine bR (body:=vL (pE k)) (N:=3) ?_
  have hp:=il hs st
  obtain⟨hq,hs1,ql⟩:=hs
  have p1:=s.dp_pos
  have p2:=t.dp_pos
  simp only[Stm.dp]at hd
  have e1:=ih1 k hs1 (by omega) (by omega) st
  have e2:=ih2 k ql (by omega) (by omega) st
  have hq:=n4 hq
  rcases hq with rfl|rfl<;>exact aD (aW (aT kv aU (gF _ st))) (aM (aO (a8 kn hp rfl)) (aP (aM (aO (aT kv aU rfl)) (aP (bB (aO (aT kv aU rfl)) (ba (aT (a8 (ai kx kn) e1 rfl) (a8 (ai kx kn) e2 rfl) dF) ⟨_,_,rfl,rfl,rfl⟩))))))
theorem zm{n:Nat}(hn:n<=100):∀(s:Stm) (k:Nat),s.ok->s.dp<=k->k<=40->∀st:List ao,m8 k [s.w,.int (n:Nat)] st=.ok (.int (wy n s:Nat)) st:=by
 intro s
 induction s with
 |one a=>
  intro k hs hd hk st
  obtain⟨k,rfl⟩:∃j,k=j+1:=⟨k-1,by simp only[Stm.dp]at hd;omega⟩
  refine bR (body:=vQ (m8 k)) (N:=2) ?_
  have w0:∀ρ:b6,ρ[0]?=some (some (Stm.one a).w)->e2 bp (ag 0) (eI 0) ρ st=.ok (.str SF) st:=fun ρ hρ=>aT (dJ hρ) aU (gF _ st)
  exact aM (aO (aT (w0 _ rfl) aU rfl)) (aP (aM (gi (aO (aT (w0 _ rfl) aU rfl)) (aO (aT (w0 _ rfl) aU rfl))) (aP (aM (gi (aO (aT (w0 _ rfl) aU rfl)) (aO (aT (w0 _ rfl) aU rfl))) (aP (bD aU ⟨_,_,rfl,rfl,rfl⟩))))))
 |two q a b=>
  intro k hs hd hk st
  obtain⟨k,rfl⟩:∃j,k=j+1:=⟨k-1,by simp only[Stm.dp]at hd;omega⟩
  refine bR (body:=vQ (m8 k)) (N:=2) ?_
  have w0:∀ρ:b6,ρ[0]?=some (some (Stm.two q a b).w)->e2 bp (ag 0) (eI 0) ρ st=.ok (.str q) st:=fun ρ hρ=>aT (dJ hρ) aU (gF _ st)
  have hq:q∈QX:=hs.1
  have hq:=l_ hq
  rcases hq with rfl|rfl|rfl|rfl<;>exact aM (aO (aT (w0 _ rfl) aU rfl)) (aP (aM (gi (aO (aT (w0 _ rfl) aU rfl)) (aO (aT (w0 _ rfl) aU rfl))) (aP (aM (gi (aO (aT (w0 _ rfl) aU rfl)) (aO (aT (w0 _ rfl) aU rfl))) (aP (bD aU ⟨_,_,rfl,rfl,rfl⟩))))))
 |neg s ih=>
  intro k hs hd hk st
  obtain⟨k,rfl⟩:∃j,k=j+1:=⟨k-1,by simp only[Stm.dp]at hd;omega⟩
  refine bR (body:=vQ (m8 k)) (N:=2) ?_
  exact bB (aO (aT (aT kv aU (gF _ st)) aU rfl)) (ba (a8 (ai kx kn) (ih k hs (by simp only[Stm.dp]at hd;omega) (by omega) st) rfl) ⟨_,_,rfl,rfl,rfl⟩)
 |bnd q a s ih=>
  intro k hs hd hk st
  obtain⟨k,rfl⟩:∃j,k=j+1:=⟨k-1,by simp only[Stm.dp]at hd;omega⟩
  refine bR (body:=vQ (m8 k)) (N:=2) ?_
  have w0:∀ρ:b6,ρ[0]?=some (some (Stm.bnd q a s).w)->e2 bp (ag 0) (eI 0) ρ st=.ok (.str q) st:=fun ρ hρ=>aT (dJ hρ) aU (gF _ st)
  obtain⟨hq,ha,hs'⟩:=hs
  have hd':s.dp<=k:=by simp only[Stm.dp]at hd;omega
  have e1:=ih k hs' hd' (by omega) st
  have hb:∃b:Bool,BR (dA (e2 fQ (e2 bp (ag 0) (eI 0)) (eC (.str [115,111,109,101])))) (dA (e2 fQ (e2 bp (ag 0) (eI 0)) (eC (.str [97,108,108])))) [some (Stm.bnd q a s).w,some (.int (n:Nat))] st=.ok true st/\BR (dA (e2 fQ (e2 bp (ag 0) (eI 0)) (eC (.str [97,110,100])))) (dA (e2 fQ (e2 bp (ag 0) (eI 0)) (eC (.str [111,114])))) [some (Stm.bnd q a s).w,some (.int (n:Nat))] st=.ok false st/\dA (e2 fQ (e2 bp (ag 0) (eI 0)) (eC (.str [110,111,116]))) [some (Stm.bnd q a s).w,some (.int (n:Nat))] st=.ok false st:=by
   have hq:=jt hq
   rcases hq with rfl|rfl
   ·exact⟨true,qM (aO (aT (w0 _ rfl) aU rfl)),gi (aO (aT (w0 _ rfl) aU rfl)) (aO (aT (w0 _ rfl) aU rfl)),aO (aT (w0 _ rfl) aU rfl)⟩
   ·exact⟨true,gi (aO (aT (w0 _ rfl) aU rfl)) (aO (aT (w0 _ rfl) aU rfl)),gi (aO (aT (w0 _ rfl) aU rfl)) (aO (aT (w0 _ rfl) aU rfl)),aO (aT (w0 _ rfl) aU rfl)⟩
  obtain⟨_,b1,b2,b3⟩:=hb
  refine aM b3 (aP (aM b2 (aP (bB b1 ?_))))
  have hin:dA (e2 (sV false) (e2 bp (ag 0) (eI 1)) (eC (.str LC))) [some (Stm.bnd q a s).w,some (.int (n:Nat))] st=.ok (decide (a∈LC)) st:=aO (aT kx aU Cn)
  have hwy:wy n (.bnd q a s)=z7 a n*wy n s:=mV _ _
  rw[hwy]
  have hc:z7 a n<2^9000:=GU hn
  unfold z7 at hc ⊢
  by_cases h1:a∈LC
  ·rw[aB h1]at hin
   rw[aE h1]at hc ⊢
   have hmx:(if (n:Int)>1 then(n:Int)else 1)=((max n 1:Nat):Int):=by split<;>omega
   have om:=Ko (p:=1) (q:=(n:Int)) (st:=st)
   rw[hmx]at om
   exact ke (bB hin (ba (aT (cg (ai aU kn) om) (a8 (ai kx kn) e1 rfl) (Bf hc (GT hn (by omega)))) ⟨_,_,rfl,rfl,rfl⟩))
  ·rw[az h1]at hin
   rw[aN h1]at hc ⊢
   exact ke (aM hin (aP (ba (aT (aT aU kv (sj hn)) (a8 (ai kx kn) e1 rfl) (Bf hc (GT hn (by omega)))) ⟨_,_,rfl,rfl,rfl⟩)))
 |jn q s t ih1 ih2=>
  intro k hs hd hk st
  obtain⟨k,rfl⟩:∃j,k=j+1:=⟨k-1,by have:=s.dp_pos;simp only[Stm.dp]at hd;omega⟩
  refine bR (body:=vQ (m8 k)) (N:=2) ?_
  have w0:∀ρ:b6,ρ[0]?=some (some (Stm.jn q s t).w)->e2 bp (ag 0) (eI 0) ρ st=.ok (.str q) st:=fun ρ hρ=>aT (dJ hρ) aU (gF _ st)
  obtain⟨hq,hs1,ql⟩:=hs
  have p1:=s.dp_pos
  have p2:=t.dp_pos
  simp only[Stm.dp]at hd
  have e1:=ih1 k hs1 (by omega) (by omega) st
  have e2:=ih2 k ql (by omega) (by omega) st
  have hq:=n4 hq
  rcases hq with rfl|rfl
  ·exact aM (aO (aT (w0 _ rfl) aU rfl)) (aP (bB (qM (aO (aT (w0 _ rfl) aU rfl))) (ba (aT (a8 (ai kx kn) e1 rfl) (a8 (ai kx kn) e2 rfl) dF) ⟨_,_,rfl,rfl,rfl⟩)))
  ·exact aM (aO (aT (w0 _ rfl) aU rfl)) (aP (bB (gi (aO (aT (w0 _ rfl) aU rfl)) (aO (aT (w0 _ rfl) aU rfl))) (ba (aT (a8 (ai kx kn) e1 rfl) (a8 (ai kx kn) e2 rfl) dF) ⟨_,_,rfl,rfl,rfl⟩)))
def Ts:Nat->List Nat
 |0=>[105,110]
 |1=>[111,110,101]
 |2=>[108,101,102,116]
 |3=>[114,105,103,104,116]
 |_=>[98,101,108,111,119]
def n5(k a b:Nat):W:=if k=1 then .tup [.str (Ts 1),.str [a]]else .tup [.str (Ts k),.str [a],.str [b]]
def uD(k a b:Nat):Nat:=if k=1 then a else b
theorem JR(m:Nat):Builtin.bitAnd (m:Int) 1=((m%2:Nat):Int):=by
 unfold Builtin.bitAnd
 rw[aB (by omega),aB (by omega)]
 show((((m:Int).toNat &&& 1:Nat)):Int)=_
 rw[bw,Nat.and_one_is_mod]
theorem JS{m:Nat}{st:List ao}:nJ (.int (m:Nat)) (.int 1) st=.ok (.int ((m%2:Nat):Int)) st:=by
 rw[<- JR];exact dg trivial
theorem NM{a c:Nat}{st:List ao}:yl (.int (a:Nat)) (.int (c:Nat)) st=.ok (.int ((a/2^c:Nat):Int)) st:=by
 have:=dg (C:=fun(_ j:Int)=>0<=j) (f:=fun i j=>i/2^j.toNat) (p:=(a:Int)) (q:=(c:Int)) (st:=st) (by omega)
 rw[show yl (.int (a:Nat)) (.int (c:Nat)) st=_ from this,bw]
 simp
theorem NN{x c:Nat}(st:List ao){fa fb:FE}{ρ:b6}(h1:fa ρ st=.ok (.int (x:Nat)) st)(h2:fb ρ st=.ok (.int (c:Nat)) st) :
  e2 fQ (e2 nJ (e2 yl fa fb) (eI 1)) (eI 1) ρ st=.ok (.bl (decide (x/2^c%2=1))) st:=by
 refine aT (aT (aT h1 h2 NM) aU JS) aU (pB ?_)
 by_cases h:x/2^c%2=1
 ·rw[h];rfl
 ·rw[az h,bY];omega
theorem QY{k:Nat}(hk:k<5):k=0\/k=1\/k=2\/k=3\/k=4:=by omega
theorem NO(y q:Nat):decide (y/2^q%2=1)=bt y q:=(fO).symm
def addS(k:Nat)(lk:List (Option Nat×Option Nat))(us:List Nat)(q:Nat):Nat:=match k with
 |2=>(match lx lk q with|none=>0|some t=>2^t)
 |3=>(match ly lk q with|none=>0|some t=>2^t)
 |_=>us.getD q 0
section
variable{ps:List Pl}{S sz:List Nat}{lk:List (Option Nat×Option Nat)}{us:List Nat}
abbrev SH:FS:=fR (dA (e2 fQ (e2 nJ (e2 yl (ag 5) (ag 7)) (eI 1)) (eI 1))) (fR (dA (e2 fQ (e2 bp (ag 0) (eI 0)) (eC (.str [98,101,108,111,119])))) (bM 6 (e2 pb (ag 6) (e2 bp (ag 2) (ag 7)))) (fR (bnd (dA (e2 fQ (e2 bp (ag 0) (eI 0)) (eC (.str [108,101,102,116])))) (dA (ii (e2 bp (e2 bp (ag 1) (ag 7)) (eI 0))))) (bM 6 (e2 pb (ag 6) (e2 nI (eI 1) (e2 bp (e2 bp (ag 1) (ag 7)) (eI 0))))) (fR (bnd (dA (e2 fQ (e2 bp (ag 0) (eI 0)) (eC (.str [114,105,103,104,116])))) (dA (ii (e2 bp (e2 bp (ag 1) (ag 7)) (eI 1))))) (bM 6 (e2 pb (ag 6) (e2 nI (eI 1) (e2 bp (e2 bp (ag 1) (ag 7)) (eI 1))))) b7))) b7
theorem QZ(h:Gr ps S sz lk)(hl:ps.length<=100)(uQ:us.length=ps.length){k a b pl pu q y z:Nat}(hk:k=2\/k=3\/k=4){st:List ao}(jG:st[pl]?=some (.lst (lk.map jW)))(OB:st[pu]?=some (.lst (nW us)))(hq:q<ps.length){o3 o4:Option W} :
  SH [some (n5 k a b),some (.loc pl),some (.loc pu),o3,o4,some (.int (y:Nat)),some (.int (z:Nat)),some (.int (q:Int))] st=.nx [some (n5 k a b),some (.loc pl),some (.loc pu),o3,o4,some (.int (y:Nat)),some (.int ((if bt y q=true then z ||| addS k lk us q else z:Nat):Int)),some (.int (q:Int))] st:=by
 obtain⟨l1,l2,_⟩:=h.ok
 have tbq:=NN (x:=y) (c:=q) st (fa:=ag 5) (fb:=ag 7) (ρ:=[some (n5 k a b),some (.loc pl),some (.loc pu),o3,o4,some (.int (y:Nat)),some (.int (z:Nat)),some (.int (q:Int))]) kv kv
 rw[NO]at tbq
 cases hb:bt y q with
 |false=>
  rw[hb]at tbq
  rw[aN (by decide)]
  exact i' (aO tbq) rfl
 |true=>
  rw[hb]at tbq
  rw[aE rfl]
  obtain⟨x,hx⟩:∃x,lk[q]?=some x:=⟨_,aq (by omega)⟩
  have hxe:lk.getD q (none,none)=x:=gj hx
  obtain⟨lx1,lx2⟩:=h.lk hx
  have hlq:bp (.loc pl) (.int (q:Int)) st=.ok (jW x) st:=e6 (bd jG) (g_ (by rw[aG,hx];rfl))
  refine g9 (aO tbq) ?_
  rcases hk with rfl|rfl|rfl
  ·have l0:∀(ρ:b6),ρ[1]?=some (some (.loc pl))->ρ[7]?=some (some (.int (q:Int)))->e2 bp (e2 bp (ag 1) (ag 7)) (eI 0) ρ st=.ok (oW x.1) st:=fun ρ h1 h7=>aT (aT (dJ h1) (dJ h7) hlq) aU rfl
   refine i' rfl ?_
   have ha:addS 2 lk us q=match x.1 with|none=>0|some t=>2^t:=by show(match lx lk q with|none=>0|some t=>2^t)=_;rw[show lx lk q=x.1 by show(lk.getD q _).1=_;rw[hxe]]
   rw[ha]
   cases hx1:x.1 with
   |none=>
    rw[hx1]at l0
    refine i' (gE rfl (rW (l0 _ rfl rfl))) (i' (lc rfl) ?_)
    show RS.nx _ _=_
    rw[show z ||| 0=z from Nat.or_zero z]
   |some t=>
    rw[hx1]at l0
    have ht:=lx1 t hx1
    exact g9 (gE rfl (rV (l0 _ rfl rfl))) (aW (aT kv (aT aU (l0 _ rfl rfl) (sj (by omega))) vT))
  ·have l0:∀(ρ:b6),ρ[1]?=some (some (.loc pl))->ρ[7]?=some (some (.int (q:Int)))->e2 bp (e2 bp (ag 1) (ag 7)) (eI 1) ρ st=.ok (oW x.2) st:=fun ρ h1 h7=>aT (aT (dJ h1) (dJ h7) hlq) aU rfl
   refine i' rfl (i' (lc rfl) ?_)
   have ha:addS 3 lk us q=match x.2 with|none=>0|some t=>2^t:=by show(match ly lk q with|none=>0|some t=>2^t)=_;rw[show ly lk q=x.2 by show(lk.getD q _).2=_;rw[hxe]]
   rw[ha]
   cases hx1:x.2 with
   |none=>
    rw[hx1]at l0
    refine i' (gE rfl (rW (l0 _ rfl rfl))) ?_
    show RS.nx _ _=_
    rw[show z ||| 0=z from Nat.or_zero z]
   |some t=>
    rw[hx1]at l0
    have ht:=lx2 t hx1
    exact g9 (gE rfl (rV (l0 _ rfl rfl))) (aW (aT kv (aT aU (l0 _ rfl rfl) (sj (by omega))) vT))
  ·have hg:us[q]?=some (us.getD q 0):=by rw[aQ,aq (by omega)];rfl
   exact g9 rfl (aW (aT kv (aT kv kv (K' OB hg)) vT))
def zn(k x y z:Nat):Bool:=if k=1 then decide (x≠0)&&decide (x &&& (x-1)=0)else if k=0 then decide (x &&& y=x)else decide (x &&& z=x)
theorem Bg{kvs:List (DK×W)}{P:Nat->Nat->Prop}(hM:GK kvs P){pd c:Nat}{st:List ao}(hc:st[pd]?=some (.dct kvs)){fe:FE}{ρ:b6}{i:Nat}(hi:ρ[i]?=some (some (.loc pd)))(he:fe ρ st=.ok (.str [c]) st):∃x:Nat,(∀j,bt x j=true↔P c j)/\mB (ag i) fe (eI 0) ρ st=.ok (.int (x:Nat)) st:=by
 obtain⟨x,h1,h2⟩:=hM c
 refine⟨x,h2,?_⟩
 have hd:jT st (.loc pd)=some (pd,kvs):=by simp only[jT,hc]
 unfold mB
 rw[dJ hi]
 simp only[R.bind_ok,hd]
 rw[he]
 simp only[R.bind_ok,eC]
 rw[hd]
 show R.ok ((ko kvs (DK.s [c])).getD (.int 0)) _=_
 rw[h1]
theorem vW(h:Gr ps S sz lk)(hl:ps.length<=100)(uQ:us.length=ps.length){k a b pl pu pd:Nat}(hk:k<5){st:List ao}{kvs:List (DK×W)}{P:Nat->Nat->Prop}(hM:GK kvs P)(jG:st[pl]?=some (.lst (lk.map jW)))(OB:st[pu]?=some (.lst (nW us)))(OD:st[pd]?=some (.dct kvs)) :
  ∃x y z:Nat,(∀j,bt x j=true↔P a j)/\(∀j,bt y j=true↔P (uD k a b) j)/\(∀j,bt z j=true↔∃q,q<ps.length/\bt y q=true/\bt (addS k lk us q) j=true)/\sK [n5 k a b,.loc pl,.loc pu,.loc pd] st=.ok (.bl (zn k x y z)) st:=by
 obtain⟨l1,l2,_⟩:=h.ok
 have e1:∀ρ:b6,ρ[0]?=some (some (n5 k a b))->e2 bp (ag 0) (eI 1) ρ st=.ok (.str [a]) st:=fun ρ h0=>by
  obtain rfl|rfl|rfl|rfl|rfl:=QY hk<;>exact aT (dJ h0) aU rfl
 obtain⟨x,hx,ex⟩:=Bg hM OD (i:=3) (ρ:=[some (n5 k a b),some (.loc pl),some (.loc pu),some (.loc pd),none,none,none,none]) rfl (e1 _ rfl)
 obtain⟨y,hy,_⟩:=Bg hM OD (c:=uD k a b) (i:=3) (ρ:=[some (n5 k a b),some (.loc pl),some (.loc pu),some (.loc pd),some (.int (x:Nat)),none,none,none]) rfl (fe:=eC (.str [uD k a b])) rfl
 by_cases hk1:k=1
 ·subst hk1
  have exz:∃z:Nat,∀j,bt z j=true↔∃q,q<ps.length/\bt y q=true/\bt (addS 1 lk us q) j=true:=by
   have:∀n,∃z:Nat,∀j,bt z j=true↔∃q,q<n/\bt y q=true/\bt (addS 1 lk us q) j=true:=fun n=>by
    induction n with
    |zero=>exact⟨0,fun j=>⟨fun z=>(by rw[show bt 0 j=false from dD j]at z;cases z),fun⟨q,h,_⟩=>absurd h (by omega)⟩⟩
    |succ n ih=>
     obtain⟨z,hz⟩:=ih
     refine⟨if bt y n=true then z ||| addS 1 lk us n else z,fun j=>?_⟩
     by_cases e:bt y n=true
     ·rw[aE e,vU,dS,hz j]
      constructor
      ·rintro(⟨q,a,b⟩|a)
       ·exact⟨q,by omega,b⟩
       ·exact⟨n,by omega,e,a⟩
      ·rintro⟨q,a,b⟩
       by_cases eq:q=n
       ·subst eq;exact .inr b.2
       ·exact .inl ⟨q,by omega,b⟩
     ·rw[aN e,hz j]
      constructor
      ·rintro⟨q,a,b⟩;exact⟨q,by omega,b⟩
      ·rintro⟨q,a,b⟩
       by_cases eq:q=n
       ·subst eq;exact absurd b.1 e
       ·exact⟨q,by omega,b⟩
   exact this _
  obtain⟨z,hz⟩:=exz
  refine⟨x,y,z,hx,hy,hz,?_⟩
  refine bR (N:=8) (body:=Cf) ?_
  refine aD (aW ex) (bB rfl ?_)
  have hn:e2 Do (ag 4) (eI 0) [some (n5 1 a b),some (.loc pl),some (.loc pu),some (.loc pd),some (.int (x:Nat)),none,none,none] st=.ok (.bl (decide (x≠0))) st:=aT kv aU (Km (by
   by_cases e:x=0
   ·subst e;rfl
   ·rw[aB e,fK,bY];omega))
  show jl _ (aR (cK _) _ _ _)
  unfold zn
  rw[aE rfl]
  by_cases e:x=0
  ·rw[az (show ¬ x≠0 by simpa using e)]at hn ⊢
   exact ba (qN hn) ⟨_,_,rfl,rfl,rfl⟩
  ·rw[aB (show x≠0 from e)]at hn ⊢
   have hs:rC (.int (x:Nat)) (.int 1) st=.ok (.int ((x-1:Nat):Int)) st:=by
    show R.ok (W.int ((x:Int)-1)) st=_
    rw[show(x:Int)-1=((x-1:Nat):Int) by omega]
   refine ba (lg hn (aT (aT kv (aT kv aU hs) GI) aU (pB (k:=decide (x &&& (x-1)=0)) ?_))) ⟨_,_,rfl,by rw[jD],rfl⟩
   by_cases e:x &&& (x-1)=0
   ·rw[e];rfl
   ·rw[az e,bY];omega
 ·have hlb:uD k a b=b:=by unfold uD;rw[aN hk1]
  rw[hlb]at hy
  have e2':∀ρ:b6,ρ[0]?=some (some (n5 k a b))->e2 bp (ag 0) (eI 2) ρ st=.ok (.str [b]) st:=fun ρ h0=>by
   obtain rfl|rfl|rfl|rfl|rfl:=QY hk
   ·exact aT (dJ h0) aU rfl
   ·exact absurd rfl hk1
   ·exact aT (dJ h0) aU rfl
   ·exact aT (dJ h0) aU rfl
   ·exact aT (dJ h0) aU rfl
  obtain⟨y',hy',ey⟩:=Bg hM OD (i:=3) (ρ:=[some (n5 k a b),some (.loc pl),some (.loc pu),some (.loc pd),some (.int (x:Nat)),none,none,none]) rfl (e2' _ rfl)
  have hyy:y'=y:=jK fun j=>by rw[cf];exact(hy' j).trans (hy j).symm
  subst hyy
  have hV:∀(z:Nat) (o7:Option W),e2 fQ (e2 nJ (ag 4) (ag 6)) (ag 4) [some (n5 k a b),some (.loc pl),some (.loc pu),some (.loc pd),some (.int (x:Nat)),some (.int (y':Nat)),some (.int (z:Nat)),o7] st=.ok (.bl (decide (x &&& z=x))) st:=fun z o7=>aT (aT kv kv GI) kv (pB (by
   by_cases e:x &&& z=x
   ·rw[e,aB rfl];simp
   ·rw[az e,bY];omega))
  have walk:(k=2\/k=3\/k=4)->∃z:Nat,(∀j,bt z j=true↔∃q,q<ps.length/\bt y' q=true/\bt (addS k lk us q) j=true)/\∃o7:Option W,jg (dI (ah (cw eV (ah (ag 1) aJ)) aJ)) (ie 7) SH [some (n5 k a b),some (.loc pl),some (.loc pu),some (.loc pd),some (.int (x:Nat)),some (.int (y':Nat)),some (.int ((0:Nat):Int)),none] st=.nx [some (n5 k a b),some (.loc pl),some (.loc pu),some (.loc pd),some (.int (x:Nat)),some (.int (y':Nat)),some (.int (z:Nat)),o7] st:=fun hk'=>by
   have dr:eV [.loc pl] st=.ok (.int ((ps.length:Nat):Int)) st:=by
    have:=kw (bd jG)
    rw[aC,l2]at this;exact this
   obtain⟨ρ2,s2,e,z,o7,hρ,hs,hz⟩:=qL (f:=ie 7) (body:=SH) (ck:=none) (fun i ρ s=>∃(z:Nat) (o7:Option W),ρ=[some (n5 k a b),some (.loc pl),some (.loc pu),some (.loc pd),some (.int (x:Nat)),some (.int (y':Nat)),some (.int (z:Nat)),o7]/\s=st/\∀j,bt z j=true↔∃q,q<i/\bt y' q=true/\bt (addS k lk us q) j=true)
    (ws:=d8 0 ps.length) (ρ:=[some (n5 k a b),some (.loc pl),some (.loc pu),some (.loc pd),some (.int (x:Nat)),some (.int (y':Nat)),some (.int ((0:Nat):Int)),none]) (st:=st) 0
    ⟨0,none,rfl,rfl,fun j=>⟨fun z=>(by rw[show bt 0 j=false from dD j]at z;cases z),fun⟨q,h,_⟩=>absurd h (by omega)⟩⟩ (fun _ _ _ _=>trivial) (fun i w ρ s hw hI=>by
     rw[dN]at hI ⊢
     obtain⟨z,o7,rfl,rfl,hz⟩:=hI
     obtain⟨hi,rfl⟩:=gU hw
     rw[eG]
     refine⟨_,_,_,rfl,QZ h hl uQ hk' jG OB hi,_,_,rfl,rfl,fun j=>?_⟩
     by_cases e:bt y' i=true
     ·rw[aE e,vU,dS,hz j]
      constructor
      ·rintro(⟨q,a,b⟩|a)
       ·exact⟨q,by omega,b⟩
       ·exact⟨i,by omega,e,a⟩
      ·rintro⟨q,a,b⟩
       by_cases eq:q=i
       ·subst eq;exact .inr b.2
       ·exact .inl ⟨q,by omega,b⟩
     ·rw[aN e,hz j]
      constructor
      ·rintro⟨q,a,b⟩;exact⟨q,by omega,b⟩
      ·rintro⟨q,a,b⟩
       by_cases eq:q=i
       ·subst eq;exact absurd b.1 e
       ·exact⟨q,by omega,b⟩)
   rw[hρ,hs]at e
   rw[dN,fj]at hz
   refine⟨z,hz,o7,?_⟩
   have hr:=gM (fs:=ah (cw eV (ah (ag 1) aJ)) aJ) (ρ:=[some (n5 k a b),some (.loc pl),some (.loc pu),some (.loc pd),some (.int (x:Nat)),some (.int (y':Nat)),some (.int ((0:Nat):Int)),none]) (st:=st) (q:=((ps.length:Nat):Int)) (st1:=st) (ai (cg kn dr) a_) (by omega)
   rw[bw]at hr
   exact(tm hr).trans e
  by_cases hk0:k=0
  ·subst hk0
   obtain⟨z,hz⟩:∃z:Nat,∀j,bt z j=true↔∃q,q<ps.length/\bt y' q=true/\bt (addS 0 lk us q) j=true:=by
    have:∀n,∃z:Nat,∀j,bt z j=true↔∃q,q<n/\bt y' q=true/\bt (addS 0 lk us q) j=true:=fun n=>by
     induction n with
     |zero=>exact⟨0,fun j=>⟨fun z=>(by rw[show bt 0 j=false from dD j]at z;cases z),fun⟨q,h,_⟩=>absurd h (by omega)⟩⟩
     |succ n ih=>
      obtain⟨z,hz⟩:=ih
      refine⟨if bt y' n=true then z ||| addS 0 lk us n else z,fun j=>?_⟩
      by_cases e:bt y' n=true
      ·rw[aE e,vU,dS,hz j]
       constructor
       ·rintro(⟨q,a,b⟩|a)
        ·exact⟨q,by omega,b⟩
        ·exact⟨n,by omega,e,a⟩
       ·rintro⟨q,a,b⟩
        by_cases eq:q=n
        ·subst eq;exact .inr b.2
        ·exact .inl ⟨q,by omega,b⟩
      ·rw[aN e,hz j]
       constructor
       ·rintro⟨q,a,b⟩;exact⟨q,by omega,b⟩
       ·rintro⟨q,a,b⟩
        by_cases eq:q=n
        ·subst eq;exact absurd b.1 e
        ·exact⟨q,by omega,b⟩
    exact this _
   refine⟨x,y',z,hx,by rw[hlb];exact hy',hz,?_⟩
   refine bR (N:=8) (body:=Cf) ?_
   exact aD (aW ex) (aM rfl (aP (aD (aW ey) (aD (aW kv) (aM rfl (aP (bD (hV y' none) ⟨_,_,rfl,rfl,rfl⟩)))))))
  ·have hk':k=2\/k=3\/k=4:=by omega
   obtain⟨z,hz,o7,ew⟩:=walk hk'
   refine⟨x,y',z,hx,by rw[hlb];exact hy',hz,?_⟩
   refine bR (N:=8) (body:=Cf) ?_
   have ht:zn k x y' z=decide (x &&& z=x):=by unfold zn;rw[aN hk1,aN hk0]
   rw[ht]
   rcases hk' with rfl|rfl|rfl
   ·exact aD (aW ex) (aM rfl (aP (aD (aW ey) (aD (aW kv) (bB rfl (aD (uo (aW aU) |>.trans ew) (bD (hV z o7) ⟨_,_,rfl,rfl,rfl⟩)))))))
   ·exact aD (aW ex) (aM rfl (aP (aD (aW ey) (aD (aW kv) (bB rfl (aD (uo (aW aU) |>.trans ew) (bD (hV z o7) ⟨_,_,rfl,rfl,rfl⟩)))))))
   ·exact aD (aW ex) (aM rfl (aP (aD (aW ey) (aD (aW kv) (bB rfl (aD (uo (aW aU) |>.trans ew) (bD (hV z o7) ⟨_,_,rfl,rfl,rfl⟩)))))))
end
section
variable{ρ:b6}{st st1:List ao}{fi:FI}{f:FG}{t:FT}{el:FE}{cap:List (Option Nat)}{α:Type}
theorem Cv{ck:Option (Nat×List W)}{ρ0:b6}(hc:i7 st ck)(F:α->W)(T:α->Bool)(Y:α->W):∀(L:List α) (gG:List W),(∀a∈L,∃ρ',f (F a) ρ0=some ρ'/\t ρ' st=.ok (T a) st/\(T a=true->el ρ' st=.ok (Y a) st)) ->
  m6 f t el ck ρ0 (L.map F) gG st=.ok (gG++(L.filter T).map Y) st
 |[],gG,_=>by rw[j8];unfold m6;rw[aE hc];simp
 |a::L,gG,h=>by
  obtain⟨ρ',e1,e2,e3⟩:=h a (by simp)
  have ih:=fun gG=>Cv hc F T Y L gG fun w' hw'=>h w' (by simp[hw'])
  rw[bh]
  unfold m6
  rw[aE hc,e1]
  simp only[e2]
  cases hT:T a with
  |true=>
   simp only[e3 hT]
   rw[ih]
   simp[jz,hT]
  |false=>
   simp only
   rw[ih]
   simp[jz,hT]
theorem Cw{ck:Option (Nat×List W)}(L:List α)(F:α->W)(T:α->Bool)(Y:α->W)(h:fi ρ st=.ok (L.map F,ck) st1)(hl:L.length<=1000000)(hc:i7 st1 ck)
  (hs:∀a∈L,∃ρ',f (F a) (u5 cap ρ)=some ρ'/\t ρ' st1=.ok (T a) st1/\(T a=true->el ρ' st1=.ok (Y a) st1)):gD cap fi f t el ρ st=.ok (.loc st1.length) (st1++[.lst ((L.filter T).map Y)]):=by
 have hl':(L.map F).length<=jY:=by rw[aC];exact hl
 unfold gD
 rw[h]
 simp only[R.bind_ok]
 rw[aE hl',Cv hc F T Y L [] hs]
 simp only[R.bind_ok,iF,mY]
 rw[aE]
 rw[aC]
 exact aF (dy _ _) hl
theorem mH{ck:Option (Nat×List W)}(L:List α)(F:α->W)(Y:α->W)(h:fi ρ st=.ok (L.map F,ck) st1)(hl:L.length<=1000000)(hc:i7 st1 ck)
  (hs:∀a∈L,∃ρ',f (F a) (u5 cap ρ)=some ρ'/\el ρ' st1=.ok (Y a) st1):gD cap fi f nL el ρ st=.ok (.loc st1.length) (st1++[.lst (L.map Y)]):=by
 have:=Cw (fi:=fi) (f:=f) (t:=nL) (el:=el) (cap:=cap) L F (fun _=>true) Y h hl hc fun w hw=>by
  obtain⟨ρ',e1,e2⟩:=hs w hw
  exact⟨ρ',e1,rfl,fun _=>e2⟩
 rw[ic.mpr (fun _ _=>rfl)]at this
 exact this
theorem Cy:∀l:List Bool,u6 (l.map W.bl)=some l
 |[]=>rfl
 |b::l=>by simp only[bh,u6,Cy l,Option.map_some]
theorem GV{n:Nat}{l:List Bool}(h:lstOf st n=some (l.map W.bl)):wL [.loc n] st=.ok (.bl (l.all id)) st:=by
 unfold wL
 simp only[h,dY,Cy]
end
def AP(ps:List Pl)(c j:Nat):Bool:=decide (c∈HW ps j)
theorem n6{ps:List Pl}{c j:Nat}(h:AP ps c j=true):j<ps.length:=by
 have h:c∈HW ps j:=gI h
 unfold HW at h
 cases e:ps[j]? with
 |none=>rw[e]at h;simp at h
 |some p=>exact(ak.mp e).1
theorem Cz{ps:List Pl}{j:Nat}{p:Pl}(h:ps[j]?=some p)(c:Nat):AP ps c j=decide (c∈p.m):=by unfold AP HW;rw[h];rfl
def u9(ps:List Pl)(c:Nat):List Nat:=(List.range ps.length).filter (AP ps c)
theorem li{ps:List Pl}{c j:Nat}:j∈u9 ps c↔AP ps c j=true:=by
 unfold u9
 rw[gy,eP]
 exact⟨fun h=>h.2,fun h=>⟨n6 h,h⟩⟩
theorem NP(l:List Nat)(n:Nat):undWs n (nW l)=true:=by
 unfold nW
 induction l with
 |nil=>rfl
 |cons x r ih=>simp[undWs,W.und,ih]
section
variable{ps:List Pl}{S sz:List Nat}{lk:List (Option Nat×Option Nat)}
theorem uE(hn:ps.length<=100)(c:Nat)(st:List ao):sI [fm ps,.str [c]] st=.ok (.tup (nW (u9 ps c))) st:=by
 have hc:=Cw (fi:=lJ (ah (ag 0) aJ)) (f:=Ja 2 (g8 (ie 0) (g8 (ie 1) sA))) (t:=dA (e2 (sV false) (ag 2) (e2 bp (ag 1) (eI 1)))) (el:=ag 0) (cap:=[none,none,some 1]) (ρ:=[some (fm ps),some (.str [c])]) (st:=st) (st1:=st) (ck:=none) (List.range ps.length) (fun i=>W.tup [.int (i:Nat),(ps.map Pl.w).getD i .non]) (AP ps c) (fun i=>.int (i:Nat))
  (by
   have:=Bc (fs:=ah (ag 0) aJ) (ρ:=[some (fm ps),some (.str [c])]) (st:=st) (st1:=st) (ws:=ps.map Pl.w) kn
   unfold jS at this
   rw[aC]at this
   exact this) (by rw[cH];omega) trivial fun i hi=>by
  rw[eP]at hi
  obtain⟨p,hp⟩:∃p,ps[i]?=some p:=⟨_,aq hi⟩
  have e:(ps.map Pl.w).getD i .non=p.w:=gj (by rw[aG,hp];rfl)
  rw[e]
  refine⟨[some (.int (i:Nat)),some p.w,some (.str [c])],rfl,?_,fun _=>dJ rfl⟩
  rw[Cz hp]
  exact aO (aT kv (aT kv aU (Gy p st)) Cn)
 refine gN (bD (cg (ai hc a_) (rO (bd bP))) ⟨_,_,rfl,rfl,_,rfl⟩) ?_
 simp only[undWs,W.und,gA]
 exact NP (u9 ps c) _
def RA(ps:List Pl)(o:Option Nat)(c:Nat):Bool:=match o with
 |none=>false
 |some q=>AP ps c q
theorem uF{o:Option Nat}(ho:∀q,o=some q->q<ps.length)(c:Nat)(st:List ao):m7 [fm ps,oW o,.str [c]] st=.ok (.bl (RA ps o c)) st:=by
 refine bR ?_
 cases o with
 |none=>exact bD (qN (i9 kv rfl)) ⟨_,_,rfl,rfl,rfl⟩
 |some q=>
  obtain⟨p,hp⟩:∃p,ps[q]?=some p:=⟨_,aq (ho q rfl)⟩
  refine bD (lg (i9 kv rfl) (aT kv (aT (aT kv kv (Gx hp st)) aU (Gy p st)) Cn)) ⟨_,_,rfl,?_,rfl⟩
  show W.bl _=W.bl (AP ps c q)
  rw[Cz hp]
def HX(A B:List (Option Nat))(p:Nat):Option Nat:=match A.getD p none with
 |some u=>some u
 |none=>B.getD p none
theorem Q0{A B:List (Option Nat)}{ua ub p:Nat}{st:List ao}(hA:st[ua]?=some (.lst (A.map oW)))(hB:st[ub]?=some (.lst (B.map oW)))(lA:p<A.length)(lB:p<B.length):Gn [.tup [.loc ua,.loc ub],.int (p:Nat)] st=.ok (oW (HX A B p)) st:=by
 have ia:bp (.loc ua) (.int (p:Nat)) st=.ok (oW (A.getD p none)) st:=e6 (bd hA) (g_ (by rw[aG,ky none lA];rfl))
 have ib:bp (.loc ub) (.int (p:Nat)) st=.ok (oW (B.getD p none)) st:=e6 (bd hB) (g_ (by rw[aG,ky none lB];rfl))
 refine bR ?_
 unfold HX
 cases h:A.getD p none with
 |none=>
  rw[h]at ia
  exact bD (ut (aO (i9 (aT kx kv ia) rfl)) (aT kx kv ib)) ⟨_,_,rfl,rfl,rfl⟩
 |some u=>
  rw[h]at ia
  exact bD (ur (aO (i9 (aT kx kv ia) rfl)) (aT kx kv ia)) ⟨_,_,rfl,rfl,rfl⟩
def GW(lk:List (Option Nat×Option Nat))(u j:Nat):Prop:=lx lk u=some j\/ly lk u=some j
theorem qS(h:Gr ps S sz lk){u j:Nat}(hu:u<ps.length)(hc:GW lk u j):lo sz u<=lo sz j/\lo sz j<=j/\j<u:=by
 have b:=xo h hu
 rcases hc with hc|hc
 ·exact b.bx j hc
 ·exact b.by' j hc
theorem vX(h:Gr ps S sz lk){u v j:Nat}(hv:v<ps.length)(Ub:u<v)(h1:GW lk u j)(h2:GW lk v j):False:=by
 obtain⟨a1,a2,a3⟩:=qS h (by omega) h1
 obtain⟨b1,b2,b3⟩:=qS h hv h2
 have b:=xo h hv
 have key:∀t,lo sz t<=u->u<=t->t<v->lo sz t<=j/\j<=t:=fun t c1 c2 c3=>by
  have:=La h t (by omega) u c1 c2
  omega
 rcases b.cov u (by omega) Ub with⟨t,e,c1,c2⟩|⟨t,e,c1,c2⟩
 ·have c3:=(b.bx t e).2.2
  obtain⟨k1,k2⟩:=key t c1 c2 c3
  rcases h2 with h2|h2
  ·have:=h2.symm.trans e;cases this;omega
  ·exact b.dis t j e h2 j k1 k2 b2 (aw _)
 ·have c3:=(b.by' t e).2.2
  obtain⟨k1,k2⟩:=key t c1 c2 c3
  rcases h2 with h2|h2
  ·exact b.dis j t h2 e j b2 (aw _) k1 k2
  ·have:=h2.symm.trans e;cases this;omega
theorem uG(h:Gr ps S sz lk){u v j:Nat}(hu:u<ps.length)(hv:v<ps.length)(h1:GW lk u j)(h2:GW lk v j):u=v:=by
 rcases je u v with c|c|c
 ·exact(vX h hv c h1 h2).elim
 ·exact c
 ·exact(vX h hu c h2 h1).elim
theorem CA(h:Gr ps S sz lk){j:Nat}:∀q,q<ps.length->lo sz q<=j->j<q->∃u,GW lk u j/\(u=q\/(lo sz q<=u/\u<q)):=by
 intro q
 induction q using Nat.strongRecOn with
 |_ q ih=>
  intro hq h1 h2
  have b:=xo h hq
  have key:∀t,(lx lk q=some t\/ly lk q=some t)->lo sz q<=lo sz t->t<q->lo sz t<=j->j<=t->∃u,GW lk u j/\(u=q\/(lo sz q<=u/\u<q)):=fun t e c0 c1 c2 c3=>by
   by_cases ej:j=t
   ·subst ej;exact⟨q,e,.inl rfl⟩
   ·obtain⟨u,hu,hu2⟩:=ih t c1 (by omega) c2 (by omega)
    refine⟨u,hu,.inr ?_⟩
    have:=qS h hq (show GW lk q t from e)
    rcases hu2 with rfl|hu2<;>omega
  rcases b.cov j h1 h2 with⟨t,e,c1,c2⟩|⟨t,e,c1,c2⟩
  ·have:=b.bx t e;exact key t (.inl e) this.1 this.2.2 c1 c2
  ·have:=b.by' t e;exact key t (.inr e) this.1 this.2.2 c1 c2
theorem getD_some{α:Type}{l:List (Option α)}{p:Nat}{u:α}(h:l.getD p none=some u):l[p]?=some (some u):=by
 rw[aQ]at h
 cases e:l[p]? with
 |none=>rw[e]at h;cases h
 |some x=>rw[e]at h;simp only[Option.getD_some]at h;rw[h]
theorem NQ{A:List (Option Nat)}(hU:Up lk Prod.fst ps.length A){j u:Nat}(e:A.getD j none=some u):lx lk u=some j:=by
 obtain⟨x,hx,hf⟩:=hU.1 j u (getD_some e)
 show(lk.getD u _).1=_
 rw[gj hx];exact hf
theorem NR{B:List (Option Nat)}(hU:Up lk Prod.snd ps.length B){j u:Nat}(e:B.getD j none=some u):ly lk u=some j:=by
 obtain⟨x,hx,hf⟩:=hU.1 j u (getD_some e)
 show(lk.getD u _).2=_
 rw[gj hx];exact hf
theorem CB(h:Gr ps S sz lk){u:Nat}(hu:u<ps.length):lk[u]?=some (lk.getD u (none,none)):=by
 rw[aQ,aq (by have:=h.ok.2.1;omega)];rfl
theorem Le(h:Gr ps S sz lk){A:List (Option Nat)}(hU:Up lk Prod.fst ps.length A){j u:Nat}(hu:u<ps.length)(e:lx lk u=some j):∃v,A.getD j none=some v:=by
 obtain⟨v,hv⟩:=hU.2 u _ j hu (CB h hu) e
 exact⟨v,gj hv⟩
theorem Lf(h:Gr ps S sz lk){A:List (Option Nat)}(hU:Up lk Prod.snd ps.length A){j u:Nat}(hu:u<ps.length)(e:ly lk u=some j):∃v,A.getD j none=some v:=by
 obtain⟨v,hv⟩:=hU.2 u _ j hu (CB h hu) e
 exact⟨v,gj hv⟩
theorem vY(h:Gr ps S sz lk){u j:Nat}(e:GW lk u j):u<ps.length:=by
 have hl:=h.ok.2.1
 rcases gX u ps.length with c|c
 ·exact c
 ·exfalso
  have:lk.getD u (none,none)=(none,none):=by rw[aQ,bn (by omega)];rfl
  rcases e with e|e
  ·have e:(lk.getD u (none,none)).1=some j:=e
   rw[this]at e;cases e
  ·have e:(lk.getD u (none,none)).2=some j:=e
   rw[this]at e;cases e
theorem zo{A B:List (Option Nat)}(hA:Up lk Prod.fst ps.length A)(hB:Up lk Prod.snd ps.length B){j u:Nat}(e:HX A B j=some u):GW lk u j:=by
 unfold HX at e
 cases hc:A.getD j none with
 |some v=>rw[hc]at e;simp only at e;cases e;exact .inl (NQ hA hc)
 |none=>rw[hc]at e;exact .inr (NR hB e)
theorem GX(h:Gr ps S sz lk){A B:List (Option Nat)}(hA:Up lk Prod.fst ps.length A)(hB:Up lk Prod.snd ps.length B){j u:Nat}(e:HX A B j=none)(hu:GW lk u j):False:=by
 have hl:=vY h hu
 unfold HX at e
 rcases hu with hu|hu
 ·obtain⟨v,hv⟩:=Le h hA hl hu
  rw[hv]at e;cases e
 ·obtain⟨v,hv⟩:=Lf h hB hl hu
  cases hc:A.getD j none with
  |some v=>rw[hc]at e;cases e
  |none=>rw[hc,hv]at e;cases e
def CC(n:Nat)(sz:List Nat)(B:Nat->Bool)(j:Nat):Prop:=∃q,q<n/\B q=true/\lo sz q<=j/\j<q
theorem GY(h:Gr ps S sz lk){A B:List (Option Nat)}(hA:Up lk Prod.fst ps.length A)(hB:Up lk Prod.snd ps.length B){j:Nat}(e:HX A B j=none)(X:Nat->Bool):¬ CC ps.length sz X j:=fun⟨q,hq,_,h1,h2⟩=>by
 obtain⟨u,hu,_⟩:=CA h q hq h1 h2
 exact GX h hA hB e hu
theorem GZ(h:Gr ps S sz lk){A B:List (Option Nat)}(hA:Up lk Prod.fst ps.length A)(hB:Up lk Prod.snd ps.length B){j u:Nat}(e:HX A B j=some u)(X:Nat->Bool):CC ps.length sz X j↔CC ps.length sz X u\/X u=true:=by
 have hu:=zo hA hB e
 have hl:=vY h hu
 have hb:=qS h hl hu
 constructor
 ·rintro⟨q,hq,hX,h1,h2⟩
  obtain⟨v,hv,hv2⟩:=CA h q hq h1 h2
  have:u=v:=uG h hl (vY h hv) hu hv
  subst this
  rcases hv2 with rfl|hv2
  ·exact .inr hX
  ·exact .inl ⟨q,hq,hX,hv2⟩
 ·rintro(⟨q,hq,hX,h1,h2⟩|hX)
  ·have:=La h q hq u h1 (by omega)
   exact⟨q,hq,hX,by omega,by omega⟩
  ·exact⟨u,hl,hX,by omega,by omega⟩
open Classical in
theorem G0(h:Gr ps S sz lk)(hn:ps.length<=100){A B:List (Option Nat)}(hA:Up lk Prod.fst ps.length A)(hB:Up lk Prod.snd ps.length B)(lA:A.length=ps.length)(lB:B.length=ps.length){ua ub:Nat}(a b:Nat){st:List ao}(ca:st[ua]?=some (.lst (A.map oW)))(cb:st[ub]?=some (.lst (B.map oW))) :
  yZ [fm ps,.tup [.loc ua,.loc ub],.str [a],.str [b]] st=.ok (.bl (decide (∀j,j<ps.length->AP ps a j=true->CC ps.length sz (AP ps b) j))) st:=by
 refine gN (N:=7) (body:=KS) (ws:=[fm ps,.tup [.loc ua,.loc ub],.str [a],.str [b]]) ?_ rfl
 have e0:gD [none] (dZ (ag 0)) (ie 0) nL (eC (.bl false)) [some (fm ps),some (.tup [.loc ua,.loc ub]),some (.str [a]),some (.str [b]),none,none,none] st=.ok (.loc st.length) (st++[.lst ((List.replicate ps.length false).map W.bl)]):=by
  have:=mH (fi:=dZ (ag 0)) (f:=ie 0) (el:=eC (.bl false)) (cap:=[none]) (ρ:=[some (fm ps),some (.tup [.loc ua,.loc ub]),some (.str [a]),some (.str [b]),none,none,none]) (st:=st) (st1:=st) (ck:=none) ps Pl.w (fun _=>.bl false) (oS kv) (by omega) trivial fun p _=>⟨[some p.w],rfl,rfl⟩
  rw[this]
  congr 3
  rw[List.map_replicate,List.map_const']
 refine aD (aW e0) ?_
 have hdn:uj (ah (e2 rC (cw eV (ah (ag 0) aJ)) (eI 1)) (ah (nN (eI 1)) (ah (nN (eI 1)) aJ))) [some (fm ps),some (.tup [.loc ua,.loc ub]),some (.str [a]),some (.str [b]),some (.loc st.length),none,none] (st++[.lst ((List.replicate ps.length false).map W.bl)])=.ok (sD ((ps.length:Int)-1) ps.length,none) (st++[.lst ((List.replicate ps.length false).map W.bl)]):=by
  have:=NE (fs:=ah (e2 rC (cw eV (ah (ag 0) aJ)) (eI 1)) (ah (nN (eI 1)) (ah (nN (eI 1)) aJ))) (ρ:=[some (fm ps),some (.tup [.loc ua,.loc ub]),some (.str [a]),some (.str [b]),some (.loc st.length),none,none]) (st:=st++[.lst ((List.replicate ps.length false).map W.bl)]) (i:=(ps.length:Int)-1) (j:=-1) (ai (aT (cg kn (lM ps _)) aU (dg trivial)) (ai (nP aU) (ai (nP aU) a_))) (by omega)
  rw[show((ps.length:Int)-1 - -1).toNat=ps.length by omega]at this
  exact this
 refine fG (fun i ρ s=>∃(l:List Bool) (o5 o6:Option W),ρ=[some (fm ps),some (.tup [.loc ua,.loc ub]),some (.str [a]),some (.str [b]),some (.loc st.length),o5,o6]/\s=st++[.lst (l.map W.bl)]/\l.length=ps.length/\∀j,ps.length<=j+i->j<ps.length->l[j]?=some (decide (CC ps.length sz (AP ps b) j)))
  hdn ⟨_,none,none,rfl,rfl,nz,fun j h1 h2=>absurd h1 (by omega)⟩ (fun _ _ _ _=>trivial) ?_ ?_
 ·rintro i w ρ s hw ⟨l,o5,o6,rfl,rfl,hl,hI⟩
  obtain⟨hi,rfl⟩:i<ps.length/\w=.int (((ps.length-1-i:Nat)):Int):=by
   unfold sD at hw
   rw[aG]at hw
   have hi:i<ps.length:=by
    rcases gX i ps.length with c|c
    ·exact c
    ·rw[bn (by simpa using c)]at hw;cases hw
   rw[cV hi]at hw
   simp only[Option.map_some,lE]at hw
   exact⟨hi,by rw[<- hw];congr 1;omega⟩
  obtain⟨j,hj⟩:∃j,j=ps.length-1-i:=⟨_,rfl⟩
  rw[<- hj]
  have hjn:j<ps.length:=by omega
  have ca':=bH (x:=[ao.lst (l.map W.bl)]) ca
  have cb':=bH (x:=[ao.lst (l.map W.bl)]) cb
  have hc:(st++[ao.lst (l.map W.bl)])[st.length]?=some (.lst (l.map W.bl)):=bP
  have eu:=Q0 ca' cb' (p:=j) (by omega) (by omega)
  refine⟨_,rfl,aD (aW (a8 (ai kv kn) eu rfl)) ?_⟩
  have ev:pS (ii (ag 6)) (HR (e2 bp (ag 4) (ag 6)) (bX 3 m7 (ah (ag 0) (ah (ag 6) (ah (ag 3) aJ))))) [some (fm ps),some (.tup [.loc ua,.loc ub]),some (.str [a]),some (.str [b]),some (.loc st.length),some (.int (j:Int)),some (oW (HX A B j))] (st++[ao.lst (l.map W.bl)])=.ok (.bl (decide (CC ps.length sz (AP ps b) j))) (st++[ao.lst (l.map W.bl)]):=by
   cases hu:HX A B j with
   |none=>
    rw[az (GY h hA hB hu _)]
    exact qN (i9 kv rfl)
   |some u=>
    have oY:=zo hA hB hu
    have hl':=vY h oY
    have hlt:=(qS h hl' oY).2.2
    have hbs:=GZ h hA hB hu (AP ps b)
    have hlu:=hI u (by omega) hl'
    have ix:bp (.loc st.length) (.int (u:Int)) (st++[ao.lst (l.map W.bl)])=.ok (.bl (decide (CC ps.length sz (AP ps b) u))) (st++[ao.lst (l.map W.bl)]):=e6 (bd hc) (g_ (by rw[aG,hlu];rfl))
    have eb:=uF (ps:=ps) (o:=some u) (fun q e=>by cases e;exact hl') b (st++[ao.lst (l.map W.bl)])
    by_cases hb:CC ps.length sz (AP ps b) u
    ·rw[aB hb]at ix
     rw[aB (hbs.mpr (.inl hb))]
     exact lg (i9 kv rfl) (wS (aT kv kv ix))
    ·rw[az hb]at ix
     have e2:decide (CC ps.length sz (AP ps b) j)=AP ps b u:=by
      rw[cf,bu,hbs]
      exact⟨fun z=>z.resolve_left hb,.inr⟩
     rw[e2]
     exact lg (i9 kv rfl) (p5 (aT kv kv ix) (a8 (ai kv (ai kv kn)) eb rfl))
  have hjl:j<(l.map W.bl).length:=by rw[aC,hl];exact hjn
  refine b_ (nQ ev kv kv (Bb hc hjl)) ⟨_,_,rfl,l.set j (decide (CC ps.length sz (AP ps b) j)),_,_,rfl,?_,by rw[jO];exact hl,fun q h1 h2=>?_⟩
  ·rw[d9,q9];rfl
  ·by_cases e:j=q
   ·subst e;exact bI (by omega)
   ·rw[bU e];exact hI q (by omega) h2
 ·rintro ρ s ⟨l,o5,o6,rfl,rfl,hl,hI⟩
  rw[show(sD ((ps.length:Int)-1) ps.length,(none:Option (Nat×List W))).1.length=ps.length by unfold sD;simp]at hI
  have hc:(st++[ao.lst (l.map W.bl)])[st.length]?=some (.lst (l.map W.bl)):=bP
  have eb:=uE hn a (st++[ao.lst (l.map W.bl)])
  have ec:=mH (fi:=dZ (bX 2 sI (ah (ag 0) (ah (ag 2) aJ)))) (f:=ie 0) (el:=e2 bp (ag 1) (ag 0)) (cap:=[none,some 4]) (ρ:=[some (fm ps),some (.tup [.loc ua,.loc ub]),some (.str [a]),some (.str [b]),some (.loc st.length),o5,o6]) (st:=st++[ao.lst (l.map W.bl)]) (st1:=st++[ao.lst (l.map W.bl)]) (ck:=none) (u9 ps a) (fun j=>W.int (j:Nat)) (fun j=>.bl (decide (CC ps.length sz (AP ps b) j))) (oS (a8 (ai kv kn) eb rfl)) (aF (dy _ _) (by rw[cH];omega)) trivial fun j hj=>by
   have hj':=n6 (li.mp hj)
   refine⟨[some (.int (j:Nat)),some (.loc st.length)],rfl,aT kv kv (e6 (bd hc) (g_ ?_))⟩
   rw[aG,hI j (by omega) hj'];rfl
  have el:lstOf (st++[ao.lst (l.map W.bl)]++[ao.lst ((u9 ps a).map fun j=>W.bl (decide (CC ps.length sz (AP ps b) j)))]) (st++[ao.lst (l.map W.bl)]).length=some (((u9 ps a).map fun j=>decide (CC ps.length sz (AP ps b) j)).map W.bl):=by rw[bd bP,bA];rfl
  refine bD (cg (ai ec a_) (GV el)) ⟨_,_,rfl,?_,_,bb _ _ _⟩
  congr 1
  rw[cf,bu,jx]
  simp only[cS,id]
  constructor
  ·intro hh j hj hj2
   have:=hh _ ⟨j,li.mpr hj2,rfl⟩
   exact gI this
  ·rintro hh x ⟨j,hj,rfl⟩
   exact aB (hh j (n6 (li.mp hj)) (li.mp hj))
end
def RV(n:Nat)(sz:List Nat)(lk:List (Option Nat×Option Nat))(B:Nat->Bool)(k:List Nat)(j:Nat):Prop:=
 if k=[105,110]then B j=true else if k=[108,101,102,116]then ∃q,q<n/\B q=true/\lx lk q=some j else if k=[114,105,103,104,116]then ∃q,q<n/\B q=true/\ly lk q=some j else CC n sz B j
open Classical in
def OA(n:Nat)(sz:List Nat)(lk:List (Option Nat×Option Nat))(A:Nat->Nat->Bool):Stm->Bool
 |.one a=>decide (zf (A a) 0 n=1)
 |.two k a b=>decide (∀j,j<n->A a j=true->RV n sz lk (A b) k j)
 |_=>false
section
variable{ps:List Pl}{S sz:List Nat}{lk:List (Option Nat×Option Nat)}
theorem JT(ps:List Pl)(a:Nat):(u9 ps a).length=zf (AP ps a) 0 ps.length:=by
 unfold u9 zf
 rw[<- List.countP_eq_length_filter,List.range_eq_range']
theorem CD{ps:List Pl}{a:Nat}{T:Nat->Bool}{X:Nat->Prop}(h:∀j,j<ps.length->AP ps a j=true->(T j=true↔X j)):((u9 ps a).map T).all id=true↔∀j,j<ps.length->AP ps a j=true->X j:=by
 rw[jx]
 simp only[cS,id]
 constructor
 ·intro hh j hj hj2
  exact(h j hj hj2).mp (hh _ ⟨j,li.mpr hj2,rfl⟩)
 ·rintro hh x ⟨j,hj,rfl⟩
  have h2:=li.mp hj
  exact(h j (n6 h2) h2).mpr (hh j (n6 h2) h2)
open Classical in
theorem zp(h:Gr ps S sz lk)(hn:ps.length<=100){A B:List (Option Nat)}(hA:Up lk Prod.fst ps.length A)(hB:Up lk Prod.snd ps.length B)(lA:A.length=ps.length)(lB:B.length=ps.length){ua ub:Nat}{st:List ao}(ca:st[ua]?=some (.lst (A.map oW)))(cb:st[ub]?=some (.lst (B.map oW))){s:Stm}(hs:s.ok)(hp:s.pl=true) :
  y0 [s.w,fm ps,.tup [.loc ua,.loc ub]] st=.ok (.bl (OA ps.length sz lk (AP ps) s)) st:=by
 refine gN (N:=6) (body:=KU) (ws:=[s.w,fm ps,.tup [.loc ua,.loc ub]]) ?_ rfl
 have lb:∀a,(u9 ps a).length<=1000000:=fun a=>aF (dy _ _) (by rw[cH];omega)
 cases s with
 |one a=>
  have eb:=uE hn a st
  refine aD (aW (aT kv aU (gF (.one a) st))) (aD (aW (a8 (ai kv (ai kx a_)) eb rfl)) (bB (aO (aT kv aU rfl)) (ba (aT (cg kn AR) aU (pB rfl)) ⟨_,_,rfl,?_,[],(dB _).symm⟩)))
  congr 1
  rw[nW,aC,JT]
  show(_==(1:Int))=decide (zf (AP ps a) 0 ps.length=1)
  rw[cf,eD,bu]
  omega
 |two k a b=>
  have eb:=uE hn a st
  have hk:=l_ hs.1
  have i1:∀(ρ:b6) (s:List ao),ρ[0]?=some (some (Stm.two k a b).w)->e2 bp (ag 0) (eI 1) ρ s=.ok (.str [a]) s:=fun ρ s hρ=>aT (dJ hρ) aU ox
  refine aD (aW (aT kv aU (gF (.two k a b) st))) (aD (aW (a8 (ai kv (ai (i1 _ _ rfl) a_)) eb rfl)) ?_)
  show jl _ (aR _ _ [some (Stm.two k a b).w,some (fm ps),some (.tup [.loc ua,.loc ub]),some (.str k),some (.tup (nW (u9 ps a))),none] st)
  have hpv:OA ps.length sz lk (AP ps) (.two k a b)=decide (∀j,j<ps.length->AP ps a j=true->RV ps.length sz lk (AP ps b) k j):=rfl
  rw[hpv]
  have side:∀(Q:List (Option Nat)) (uq:Nat) (f:Nat->Option Nat),st[uq]?=some (.lst (Q.map oW))->Q.length=ps.length->(∀j u,Q.getD j none=some u->f u=some j/\u<ps.length)->(∀j u,u<ps.length->f u=some j->∃v,Q.getD j none=some v)->(∀u v j,f u=some j->f v=some j->u<ps.length->v<ps.length->u=v)->RV ps.length sz lk (AP ps b) k=(fun j=>∃q,q<ps.length/\AP ps b q=true/\f q=some j) ->
    jl (wU fun w' bf=>w'=W.bl (decide (∀j,j<ps.length->AP ps a j=true->RV ps.length sz lk (AP ps b) k j))/\∃x,bf=st++x) (cK (cw wL (ah (gD [none,some 1,some 5,some 0] (dZ (ag 4)) (ie 0) nL (bX 3 m7 (ah (ag 1) (ah (e2 bp (ag 2) (ag 0)) (ah (e2 bp (ag 3) (eI 2)) aJ))))) aJ)) [some (Stm.two k a b).w,some (fm ps),some (.tup [.loc ua,.loc ub]),some (.str k),some (.tup (nW (u9 ps a))),some (.loc uq)] st):=fun Q uq f cq lq f1 f2 f3 hR=>by
   have ec:=mH (fi:=dZ (ag 4)) (f:=ie 0) (el:=bX 3 m7 (ah (ag 1) (ah (e2 bp (ag 2) (ag 0)) (ah (e2 bp (ag 3) (eI 2)) aJ)))) (cap:=[none,some 1,some 5,some 0]) (ρ:=[some (Stm.two k a b).w,some (fm ps),some (.tup [.loc ua,.loc ub]),some (.str k),some (.tup (nW (u9 ps a))),some (.loc uq)]) (st:=st) (st1:=st) (ck:=none) (u9 ps a) (fun j=>W.int (j:Nat)) (fun j=>.bl (RA ps (Q.getD j none) b)) (oS kv) (lb a) trivial fun j hj=>by
    have hj':=n6 (li.mp hj)
    have ix:bp (.loc uq) (.int (j:Nat)) st=.ok (oW (Q.getD j none)) st:=e6 (bd cq) (g_ (by rw[aG,ky none (by omega)];rfl))
    exact⟨[some (.int (j:Nat)),some (fm ps),some (.loc uq),some (Stm.two k a b).w],rfl,a8 (ai kv (ai (aT kv kv ix) (ai kx a_))) (uF (fun q e=>(f1 j q e).2) b st) rfl⟩
   have el:lstOf (st++[ao.lst ((u9 ps a).map fun j=>W.bl (RA ps (Q.getD j none) b))]) st.length=some (((u9 ps a).map fun j=>RA ps (Q.getD j none) b).map W.bl):=by rw[bd bP,bA];rfl
   refine bD (cg (ai ec a_) (GV el)) ⟨_,_,rfl,?_,_,rfl⟩
   congr 1
   rw[cf,bu]
   refine CD fun j hj hj2=>?_
   rw[hR]
   show _↔∃q,q<ps.length/\AP ps b q=true/\f q=some j
   cases hq:Q.getD j none with
   |none=>
    refine⟨fun z=>Bool.noConfusion z,fun⟨q,q1,q2,q3⟩=>?_⟩
    obtain⟨v,hv⟩:=f2 j q q1 q3
    rw[hv]at hq;cases hq
   |some u=>
    obtain⟨g1,g2⟩:=f1 j u hq
    refine⟨fun z=>⟨u,g2,z,g1⟩,fun⟨q,q1,q2,q3⟩=>?_⟩
    rw[f3 q u j q3 g1 q1 g2]at q2
    exact q2
  rcases hk with rfl|rfl|rfl|rfl
  ·have ec:=mH (fi:=dZ (ag 4)) (f:=ie 0) (el:=bX 3 m7 (ah (ag 1) (ah (ag 0) (ah (e2 bp (ag 2) (eI 2)) aJ)))) (cap:=[none,some 1,some 0]) (ρ:=[some (Stm.two [105,110] a b).w,some (fm ps),some (.tup [.loc ua,.loc ub]),some (.str [105,110]),some (.tup (nW (u9 ps a))),none]) (st:=st) (st1:=st) (ck:=none) (u9 ps a) (fun j=>W.int (j:Nat)) (fun j=>.bl (AP ps b j)) (oS kv) (lb a) trivial fun j hj=>by
    have hj':=n6 (li.mp hj)
    exact⟨[some (.int (j:Nat)),some (fm ps),some (Stm.two [105,110] a b).w],rfl,a8 (ai kv (ai kv (ai kx a_))) (uF (o:=some j) (fun q e=>by cases e;exact hj') b st) rfl⟩
   have el:lstOf (st++[ao.lst ((u9 ps a).map fun j=>W.bl (AP ps b j))]) st.length=some (((u9 ps a).map fun j=>AP ps b j).map W.bl):=by rw[bd bP,bA];rfl
   refine aM (aO (aT kv aU rfl)) (aP (bB (aO (aT kv aU rfl)) (ba (cg (ai ec a_) (GV el)) ⟨_,_,rfl,?_,_,rfl⟩)))
   congr 1
   rw[cf,bu]
   refine CD fun j hj hj2=>?_
   unfold RV
   rw[aE rfl]
  ·refine aM (aO (aT kv aU rfl)) (aP (aM (aO (aT kv aU rfl)) (aP (aM (aO (aT kv aU rfl)) (aP (aD (aW (ur (aO (aT kv aU rfl)) kx)) ?_))))))
   exact side A ua (lx lk) ca lA (fun j u e=>⟨NQ hA e,vY h (.inl (NQ hA e))⟩) (fun j u hu e=>Le h hA hu e) (fun u v j e1 e2 hu hv=>uG h hu hv (.inl e1) (.inl e2)) (by funext j;unfold RV;rw[aN (by decide),aE rfl])
  ·refine aM (aO (aT kv aU rfl)) (aP (aM (aO (aT kv aU rfl)) (aP (aM (aO (aT kv aU rfl)) (aP (aD (aW (ut (aO (aT kv aU rfl)) kx)) ?_))))))
   exact side B ub (ly lk) cb lB (fun j u e=>⟨NR hB e,vY h (.inr (NR hB e))⟩) (fun j u hu e=>Lf h hB hu e) (fun u v j e1 e2 hu hv=>uG h hu hv (.inr e1) (.inr e2)) (by funext j;unfold RV;rw[aN (by decide),aN (by decide),aE rfl])
  ·have e4:=G0 h hn hA hB lA lB a b ca cb
   refine aM (aO (aT kv aU rfl)) (aP (aM (aO (aT kv aU rfl)) (aP (bB (aO (aT kv aU rfl)) (ba (a8 (ai kv (ai kv (ai kx (ai kx a_)))) e4 rfl) ⟨_,_,rfl,?_,[],(dB _).symm⟩)))))
   congr 1
 |neg s=>cases hp
 |bnd k a s=>cases hp
 |jn k s t=>cases hp
open Classical in
theorem vZ(h:Gr ps S sz lk)(hn:ps.length<=100){us:List Nat}(uQ:us.length=ps.length)(DQ:∀k,k<ps.length->QW sz (fun k=>us.getD k 0) k){A:Nat->Nat->Bool}(hA:∀c j,A c j=true->j<ps.length){pl pu pd:Nat}{st:List ao}{kvs:List (DK×W)}(hM:GK kvs (fun c j=>A c j=true))(jG:st[pl]?=some (.lst (lk.map jW)))(OB:st[pu]?=some (.lst (nW us)))(OD:st[pd]?=some (.dct kvs)){s:Stm}(hs:s.ok)(hp:s.pl=true) :
  sK [s.w,.loc pl,.loc pu,.loc pd] st=.ok (.bl (OA ps.length sz lk A s)) st:=by
 cases s with
 |one a=>
  obtain⟨x,y,z,hx,hy,hz,e⟩:=vW h hn uQ (k:=1) (a:=a) (b:=0) (by decide) hM jG OB OD
  have e:sK [(Stm.one a).w,.loc pl,.loc pu,.loc pd] st=.ok (.bl (decide (x≠0)&&decide (x &&& (x-1)=0))) st:=e
  rw[e,GG (n:=ps.length) (A:=A a) fun j=>(hx j).trans ⟨fun z=>⟨hA a j z,z⟩,fun z=>z.2⟩]
  rfl
 |two k a b=>
  have hV:∀(k':Nat),k'<5->k'≠1->(Stm.two k a b).w=n5 k' a b->(∀x y z:Nat,(∀j,bt x j=true↔A a j=true)->(∀j,bt y j=true↔A b j=true)->(∀j,bt z j=true↔∃q,q<ps.length/\bt y q=true/\bt (addS k' lk us q) j=true)->(zn k' x y z=true↔∀j,j<ps.length->A a j=true->RV ps.length sz lk (A b) k j))->sK [(Stm.two k a b).w,.loc pl,.loc pu,.loc pd] st=.ok (.bl (OA ps.length sz lk A (.two k a b))) st:=fun k' hk5 hk1 hw hh=>by
   obtain⟨x,y,z,hx,hy,hz,e⟩:=vW h hn uQ (k:=k') (a:=a) (b:=b) hk5 hM jG OB OD
   rw[hw,e]
   congr 2
   show _=decide (∀j,j<ps.length->A a j=true->RV ps.length sz lk (A b) k j)
   rw[cf,bu]
   rw[show uD k' a b=b by unfold uD;rw[aN hk1]]at hy
   exact hh x y z hx hy hz
  have sub:∀(x z:Nat) (X:Nat->Prop),(∀j,bt x j=true↔A a j=true)->(∀j,j<ps.length->(bt z j=true↔X j))->(decide (x &&& z=x)=true↔∀j,j<ps.length->A a j=true->X j):=fun x z X hx hz=>by
   rw[bu,GF]
   exact⟨fun hh j hj ha=>(hz j hj).mp (hh j ((hx j).mpr ha)),fun hh j hj=>(hz j (hA a j ((hx j).mp hj))).mpr (hh j (hA a j ((hx j).mp hj)) ((hx j).mp hj))⟩
  rcases l_ hs.1 with rfl|rfl|rfl|rfl
  ·refine hV 0 (by decide) (by decide) rfl fun x y z hx hy hz=>?_
   show decide (x &&& y=x)=true↔_
   refine sub x y _ hx fun j hj=>?_
   unfold RV
   rw[aE rfl]
   exact hy j
  ·refine hV 2 (by decide) (by decide) rfl fun x y z hx hy hz=>?_
   show decide (x &&& z=x)=true↔_
   refine sub x z _ hx fun j hj=>?_
   unfold RV
   rw[aN (by decide),aE rfl,hz j]
   refine re fun q=>nr fun hq=>and_congr (hy q) ?_
   show bt (match lx lk q with|none=>0|some t=>2^t) j=true↔lx lk q=some j
   cases lx lk q with
   |none=>exact⟨fun z=>(by rw[show bt 0 j=false from dD j]at z;cases z),fun z=>by cases z⟩
   |some t=>simp only;rw[rT,bu,lE]
  ·refine hV 3 (by decide) (by decide) rfl fun x y z hx hy hz=>?_
   show decide (x &&& z=x)=true↔_
   refine sub x z _ hx fun j hj=>?_
   unfold RV
   rw[aN (by decide),aN (by decide),aE rfl,hz j]
   refine re fun q=>nr fun hq=>and_congr (hy q) ?_
   show bt (match ly lk q with|none=>0|some t=>2^t) j=true↔ly lk q=some j
   cases ly lk q with
   |none=>exact⟨fun z=>(by rw[show bt 0 j=false from dD j]at z;cases z),fun z=>by cases z⟩
   |some t=>simp only;rw[rT,bu,lE]
  ·refine hV 4 (by decide) (by decide) rfl fun x y z hx hy hz=>?_
   show decide (x &&& z=x)=true↔_
   refine sub x z _ hx fun j hj=>?_
   unfold RV
   rw[aN (by decide),aN (by decide),aN (by decide),hz j]
   refine re fun q=>nr fun hq=>and_congr (hy q) ?_
   exact DQ q hq j
 |neg s=>cases hp
 |bnd k a s=>cases hp
 |jn k s t=>cases hp
end
def JU(c x j:Nat)(p:Pl):Pl:=⟨p.b,if bt x j=true then km ((p.m.filter fun d=>d != c)++[c])else p.m.filter fun d=>d != c⟩
def xL(ps:List Pl)(c x:Nat):List Pl:=ps.mapIdx fun j p=>JU c x j p
def eT(A:Nat->Nat->Bool)(c x:Nat):Nat->Nat->Bool:=fun d j=>if d=c then bt x j else A d j
def NS(ps:List Pl):Prop:=∀p∈ps,p.m.length<=60/\∀d∈p.m,d∈LL
section
variable{ps:List Pl}{S sz:List Nat}{lk:List (Option Nat×Option Nat)}
theorem qT(ps:List Pl)(c x:Nat):(xL ps c x).length=ps.length:=List.length_mapIdx
theorem xt{ps:List Pl}{j:Nat}{p:Pl}(h:ps[j]?=some p)(c x:Nat):(xL ps c x)[j]?=some (JU c x j p):=by
 unfold xL;rw[List.getElem?_mapIdx,h];rfl
theorem CF(c x j:Nat)(p:Pl)(d:Nat):d∈(JU c x j p).m↔if d=c then bt x j=true else d∈p.m:=by
 unfold JU
 simp only
 by_cases hb:bt x j=true
 ·rw[aE hb,oO,bj,gy,aV]
  by_cases e:d=c
  ·rw[aE e];exact⟨fun _=>hb,fun _=>.inr e⟩
  ·rw[aN e];exact⟨fun z=>(z.resolve_right e).1,fun z=>.inl ⟨z,by simpa using e⟩⟩
 ·rw[aN hb,gy]
  by_cases e:d=c
  ·rw[aE e];exact⟨fun z=>absurd z.2 (by simp[e]),fun z=>absurd z hb⟩
  ·rw[aN e];exact⟨fun z=>z.1,fun z=>⟨z,by simpa using e⟩⟩
theorem NT{ps:List Pl}{c x:Nat}(hx:∀j,bt x j=true->j<ps.length):AP (xL ps c x)=eT (AP ps) c x:=by
 funext d j
 unfold eT
 cases hp:ps[j]? with
 |some p=>
  rw[Cz (xt hp c x),Cz hp,cf,bu,CF]
  by_cases e:d=c
  ·rw[aE e,aE e]
  ·rw[aN e,aN e,bu]
 |none=>
  have hj:ps.length<=j:=kY.mp hp
  have h1:AP (xL ps c x) d j=false:=by
   cases e:AP (xL ps c x) d j with
   |false=>rfl
   |true=>have:=n6 e;rw[qT]at this;omega
  have h2:AP ps d j=false:=by
   cases e:AP ps d j with
   |false=>rfl
   |true=>have:=n6 e;omega
  have h3:bt x j=false:=by
   cases e:bt x j with
   |false=>rfl
   |true=>have:=hx j e;omega
  rw[h1,h2,h3]
  split<;>rfl
theorem NU{ps:List Pl}(h:NS ps){c:Nat}(hc:c∈LL)(x:Nat):NS (xL ps c x):=fun p hp=>by
 obtain⟨j,hj⟩:=gT hp
 have hjl:j<ps.length:=by have:=(ak.mp hj).1;rw[qT]at this;exact this
 rw[xt (aq hjl)]at hj
 cases hj
 obtain⟨g1,g2⟩:=h _ (dm hjl)
 have hin:∀d∈(JU c x j ps[j]).m,d∈LL:=fun d hd=>by
  rw[CF]at hd
  by_cases e:d=c
  ·rw[e];exact hc
  ·rw[aN e]at hd;exact g2 d hd
 refine⟨?_,hin⟩
 unfold JU at hin ⊢
 simp only at hin ⊢
 by_cases hb:bt x j=true
 ·rw[aE hb]at hin ⊢
  have:(km ((ps[j].m.filter fun d=>d != c)++[c])).length<=LL.length:=lK ((uf _).imp fun h=>aZ h) hin
  exact aF this (by decide)
 ·rw[aN hb]
  exact aF (dy _ _) g1
theorem Gr.same(h:Gr ps S sz lk):∀{qs:List Pl},qs.map Pl.b=ps.map Pl.b->Gr qs S sz lk:=by
 induction h with
 |nil=>intro qs e;cases qs with
  |nil=>exact .nil
  |cons q r=>simp at e
 |@snoc ps S S' sz lk b k m x hg hs ih=>
  intro qs e
  have hl:qs.length=ps.length+1:=by have:=ir List.length e;simpa using this
  obtain⟨rs,q,rfl⟩:=qR (h:=qs) (by omega)
  rw[cE,cE]at e
  have e1:=List.append_inj_left' e rfl
  have e2:=List.append_inj_right' e rfl
  simp only[bh,j8,List.cons.injEq,and_true]at e2
  have hg':=ih e1
  obtain⟨qb,qm⟩:=q
  simp only at e2
  subst e2
  refine .snoc hg' ?_
  have:rs.length=ps.length:=by simpa using hl
  rw[this];exact hs
theorem NV(h:Gr ps S sz lk)(c x:Nat):Gr (xL ps c x) S sz lk:=h.same (by
 refine fM fun j=>?_
 rw[aG,aG]
 cases hp:ps[j]? with
 |none=>rw[bn (by rw[qT];exact kY.mp hp)]
 |some p=>rw[xt hp];rfl)
theorem G1{q:Nat}(h:q<ps.length)(st:List ao):Go [fm ps,.int q] st=.ok .non st:=by
 refine Fh (N:=2) (ws:=[fm ps,.int q]) (body:=QM) ?_
 exact gY (gi (aO (aT kv aU (fB (az (by omega))))) (aO (aT kv (cg kn (lM ps st)) (fB (az (by omega)))))) (b_ kr ⟨_,_,rfl,[],(dB _).symm⟩)
theorem DI(l:List Nat):kh [] (l.map fun c=>[c])=l:=by
 rw[lZ]
 induction l with
 |nil=>rfl
 |cons a r ih=>simp only[bh,lv,ih];rfl
theorem G3{l:List Nat}(hl:l.length<4000)(h:∀c∈l,c∈LL)(st:List ao):Gi [.str l] st=.ok (.str (km l)) st:=by
 have hs:(km l).length<64:=by
  have:(km l).length<=LL.length:=lK ((uf l).imp fun h=>aZ h) fun c hc=>h c (oO.mp hc)
  have e:LL.length=52:=by decide
  omega
 have e1:qH (ag 0) [some (.str l)] st=.ok (.loc st.length) (st++[.lst (i8 (km l))]):=by
  unfold qH
  rw[dJ (w:=.str l) rfl]
  simp only[R.bind_ok,uh,dY]
  rw[aE ⟨hl,hs⟩]
 have hj:=Fg (sep:=[]) (ls:=(km l).map fun c=>[c]) (st:=st++[.lst (i8 (km l))]) (n:=st.length) (bd (by rw[bP];unfold i8;rw[bA];rfl)) (by
  rw[ux];show _<=1000000;simp;omega)
 rw[DI]at hj
 exact gN (bD (MI aU rfl (ai e1 a_) hj) ⟨_,_,rfl,rfl,_,rfl⟩) rfl
theorem CG{st:List ao}{n:Nat}{kvs:List (DK×W)}(h:st[n]?=some (.dct kvs)):jT st (.loc n)=some (n,kvs):=by simp only[jT,h]
theorem G4{st:List ao}{n:Nat}{kvs:List (DK×W)}(h:st[n]?=some (.dct kvs)):yz st (.loc n)=some (n,kvs):=by simp only[yz,h]
theorem Q1{st:List ao}{n q:Nat}{kvs:List (DK×W)}{b:Bool}(h:st[n]?=some (.dct kvs))(hb:(ko kvs (.i q)).isSome=b):Dv false (.int q) (.loc n) st=.ok (.bl b) st:=by
 rw[<- hb];simp only[Dv,CG h,pA];rfl
theorem NW{st:List ao}{n q:Nat}{kvs:List (DK×W)}{v:W}(h:st[n]?=some (.dct kvs))(hl:kvs.length<jY):l6 (.loc n) (.int q) v st=some (st.set n (.dct (j6 kvs (.i q) v))):=by
 simp only[l6,G4 h,pA];rw[aE hl]
theorem Bh(hn:ps.length<=100)(hg:NS ps){c:Nat}(hc:c∈LL){L:List Nat}{x:Nat}(hL:∀q,q∈L↔q<ps.length/\bt x q=true)(Tz:L.length<=1000)(st:List ao):vK [fm ps,.str [c],.tup (nW L)] st=.ok (fm (xL ps c x)) st:=by
 refine gN (N:=8) (body:=KQ) (ws:=[fm ps,.str [c],.tup (nW L)]) ?_ (by simp only[undWs,gA];exact nZ _ _)
 refine aD (aW (w:=.loc st.length) (st1:=st++[.dct []]) rfl) ?_
 refine fG (fun i ρ s=>∃(kvs:List (DK×W)) (o4:Option W),ρ=[some (fm ps),some (.str [c]),some (.tup (nW L)),some (.loc st.length),o4,none,none,none]/\s=st++[.dct kvs]/\kvs.length<=i/\i<=L.length/\∀q:Nat,(ko kvs (.i q)).isSome=decide (q∈L.take i))
  (oS (st1:=st++[.dct []]) kv) ⟨[],none,rfl,rfl,aw _,bQ _,fun q=>by rw[oE];rfl⟩ (fun _ _ _ _=>trivial) ?_ ?_
 ·rintro i w ρ s hw ⟨kvs,o4,rfl,rfl,hk,hi,hd⟩
  obtain⟨q,hq,rfl⟩:∃q,L[i]?=some q/\w=.int (q:Nat):=by
   have hw:(nW L)[i]?=some w:=hw
   simp only[nW,aG,bK]at hw
   obtain⟨q,h1,rfl⟩:=hw
   exact⟨q,h1,rfl⟩
  have hi':i<L.length:=(ak.mp hq).1
  have hqn:=((hL q).mp (b9 hq)).1
  have dq:(st++[ao.dct kvs])[st.length]?=some (.dct kvs):=bP
  refine⟨_,rfl,aD (i_ (a8 (ai kv kn) (G1 hqn _) rfl)) (b_ (nQ aU kv kv (NW dq (by show _<1000000;omega))) ⟨_,_,rfl,j6 kvs (.i q) (.bl true),_,rfl,d9 _ _ _,?_,by omega,fun q'=>?_⟩)⟩
  ·have:=uz (kvs:=kvs) (k:=.i q) (v:=.bl true);omega
  ·rw[uy,oV hq]
   by_cases e:q'=q
   ·subst e;rw[aE rfl];simp
   ·rw[aN (fun z=>e (by injection z with z;omega)),hd q']
    rw[cf,bu,bu,bj,aV]
    exact⟨.inl,fun z=>z.resolve_right e⟩
 ·rintro ρ s ⟨kvs,o4,rfl,rfl,hk,hi,hd⟩
  rw[show(nW L,(none:Option (Nat×List W))).1.length=L.length by simp[nW],jy]at hd
  refine aD (aW (nO a_ (by decide))) ?_
  rw[bb,show(st++[ao.dct kvs]).length=st.length+1 by simp]
  refine fG (fun i ρ s=>∃(o4 o6 o7:Option W),ρ=[some (fm ps),some (.str [c]),some (.tup (nW L)),some (.loc st.length),o4,some (.loc (st.length+1)),o6,o7]/\s=st++[.dct kvs,.lst (((xL ps c x).take i).map Pl.w)])
   (Bc (st1:=st++[.dct kvs,.lst []]) (ws:=ps.map Pl.w) kn) ⟨o4,none,none,rfl,by rw[oE];rfl⟩ (fun _ _ _ _=>trivial) ?_ ?_
  ·rintro i w ρ s hw ⟨o4,o6,o7,rfl,rfl⟩
   obtain⟨y,hy,rfl⟩:=oN hw
   obtain⟨p,hp,rfl⟩:∃p,ps[i]?=some p/\y=p.w:=by
    simp only[aG,bK]at hy
    obtain⟨p,h1,rfl⟩:=hy
    exact⟨p,h1,rfl⟩
   obtain⟨g1,g2⟩:=hg p (b9 hp)
   have hip:i<ps.length:=(ak.mp hp).1
   obtain⟨s,hs⟩:∃s,s=st++[ao.dct kvs,.lst (((xL ps c x).take i).map Pl.w)]:=⟨_,rfl⟩
   rw[<- hs]
   have uS:s[st.length]?=some (.dct kvs):=by rw[hs,fY];rfl
   have uR:s[st.length+1]?=some (.lst (((xL ps c x).take i).map Pl.w)):=by rw[hs,iz];rfl
   refine⟨_,rfl,aD (aW (MQ (aT kv aU (Gy p s)) kv (by show _<=1000000;omega))) ?_⟩
   have hin:=Q1 (q:=i) uS (hd i)
   have hfl:(p.m.filter fun d=>d != c).length<=60:=aF (dy _ _) g1
   have ho:=G3 (l:=(p.m.filter fun d=>d != c)++[c]) (by simp;omega) (fun d hd=>by
    rcases bj.mp hd with z|z
    ·exact g2 d (gy.mp z).1
    ·rw[aV.mp z];exact hc) s
   have hsm:((((xL ps c x).take i).map Pl.w)).length<jY:=by rw[aC];have:=List.length_take_le i (xL ps c x);show _<1000000;omega
   have hV:∀m:List Nat,(JU c x i p)=⟨p.b,m⟩->jl (HV fun ρ bf=>∃(o4 o6 o7:Option W),ρ=[some (fm ps),some (.str [c]),some (.tup (nW L)),some (.loc st.length),o4,some (.loc (st.length+1)),o6,o7]/\bf=st++[.dct kvs,.lst (((xL ps c x).take (i+1)).map Pl.w)]) (gs (pV cv (ag 5) (ah (eN (ah (e2 bp (ag 6) (eI 0)) (ah (ag 7) aJ))) aJ)) [some (fm ps),some (.str [c]),some (.tup (nW L)),some (.loc st.length),some (.int (i:Int)),some (.loc (st.length+1)),some p.w,some (.str m)] s):=fun m hm=>by
    refine b_ (i_ (kq kv (fz uR) (ai (cY (ai (aT kv aU (NA p s)) kn) (ax rfl)) a_) (jU uR hsm))) ⟨_,_,rfl,_,_,_,rfl,?_⟩
    rw[hs,fZ,oV (xt hp c x),cE,hm]
    rfl
   by_cases hb:bt x i=true
   ·rw[aB ((hL i).mpr ⟨hip,hb⟩)]at hin
    refine bB (aO (aT kv kv hin)) (aD (aW (a8 (ai (aT kv kv (AQ (by show _<=1000000;simp;omega))) a_) ho rfl)) (hV _ ?_))
    unfold JU;rw[aE hb]
   ·rw[az (fun z=>hb ((hL i).mp z).2)]at hin
    refine aM (aO (aT kv kv hin)) (aP (hV _ ?_))
    unfold JU;rw[aN hb]
  ·rintro ρ s ⟨o4,o6,o7,rfl,rfl⟩
   rw[show(jS (ps.map Pl.w),(none:Option (Nat×List W))).1.length=ps.length by rw[rJ,aC],dk (by rw[qT];exact aw _)]
   have uR:(st++[ao.dct kvs,.lst ((xL ps c x).map Pl.w)])[st.length+1]?=some (.lst ((xL ps c x).map Pl.w)):=by rw[iz];rfl
   exact bD (cg kn (rO (bd uR))) ⟨_,_,rfl,rfl,_,rfl⟩
end
def mI(c n:Nat):List Nat:=if c∈LC then(List.range n).map fun i=>2^i else List.range (2^n)
theorem G5{c n x:Nat}(h:x∈mI c n)(j:Nat)(hj:bt x j=true):j<n:=by
 unfold mI at h
 split at h
 ·obtain⟨i,hi,rfl⟩:=cS.mp h
  rw[rT,bu]at hj
  subst hj;exact eP.mp hi
 ·have:=eP.mp h
  rcases gX j n with q|q
  ·exact q
  ·rw[show bt x j=false from jf (aL this (dE (by decide) q))]at hj;cases hj
def G6(n:Nat)(X:List Nat)(CL:List (List Nat)):Prop:=CL.length=X.length/\∀(i:Nat) (L:List Nat),CL[i]?=some L->L.length<=n/\∀q,q∈L↔q<n/\bt (X.getD i 0) q=true
abbrev z8(L:List Nat):W:=.tup (nW L)
theorem DJ{m:Nat}{CL:List (List Nat)}(h:G6 m (List.range (2^m)) CL):G6 (m+1) (List.range (2^(m+1))) (CL++CL.map fun L=>L++[m]):=by
 obtain⟨hl,hb⟩:=h
 rw[cH]at hl
 have rg:∀k i,i<2^k->(List.range (2^k)).getD i 0=i:=fun k i hi=>gj (cV hi)
 have hp:2^(m+1)=2^m+2^m:=by rw[q_];omega
 refine⟨by rw[bC,aC,cH];omega,fun i L hL=>?_⟩
 by_cases hi:i<2^m
 ·rw[bq (by omega)]at hL
  obtain⟨h1,h2⟩:=hb i L hL
  refine⟨by omega,fun q=>?_⟩
  rw[rg _ _ (by omega)]
  rw[rg _ _ hi]at h2
  rw[h2 q]
  refine⟨fun z=>⟨by omega,z.2⟩,fun z=>⟨?_,z.2⟩⟩
  rcases gX q m with c|c
  ·exact c
  ·have:bt i q=false:=jf (aL hi (dE (by decide) c))
   rw[this]at z;exact absurd z.2 (by decide)
 ·rw[fw (by omega),hl,aG,bK]at hL
  obtain⟨L',hL',rfl⟩:=hL
  have hi':i-2^m<2^m:=by have:=(ak.mp hL').1;omega
  obtain⟨h1,h2⟩:=hb _ L' hL'
  rw[rg _ _ hi']at h2
  refine⟨by simp;omega,fun q=>?_⟩
  rw[rg _ _ (by omega),bj,aV,h2 q]
  have ei:i=2^m+(i-2^m):=by omega
  rw[ei,show 2^m+(i-2^m)-2^m=i-2^m by omega]
  generalize i-2^m=y at hi'
  rcases je q m with c|c|c
  ·rw[show bt (2^m+y) q=bt y q from Nat.testBit_two_pow_add_gt c y]
   exact⟨fun z=>⟨by omega,(z.resolve_right (by omega)).2⟩,fun z=>.inl ⟨c,z.2⟩⟩
  ·subst c
   rw[show bt (2^q+y) q=!(bt y q)from Nat.testBit_two_pow_add_eq y q,show bt y q=false from jf hi']
   exact⟨fun _=>⟨by omega,rfl⟩,fun _=>.inr rfl⟩
  ·exact⟨fun z=>(by omega),fun z=>absurd z.1 (by omega)⟩
theorem Bi{c n:Nat}(hc:c∈LL)(hn:n<=100)(hm:z7 c n<=4096)(st:List ao):∃(p:Nat) (y:List ao) (CL:List (List Nat)),G6 n (mI c n) CL/\(st++y)[p]?=some (.lst (CL.map z8))/\yY [.str [c],.int (n:Nat)] st=.ok (.loc p) (st++y):=by
 suffices hh:jl (wU fun w bf=>∃j x,w=.loc (st.length+j)/\bf=st++x/\∃CL,G6 n (mI c n) CL/\(st++x)[st.length+j]?=some (.lst (CL.map z8))) (KR ([W.str [c],.int (n:Nat)].map some++List.replicate (4-2) none) st) by
  obtain⟨j,x,⟨CL,h1,h2⟩,e⟩:=qO hh
  exact⟨_,x,CL,h1,h2,e⟩
 have hs:=zl hc st
 unfold mI
 unfold z7 at hm
 by_cases h1:c∈LC
 ·rw[aB h1]at hs
  rw[aE h1]
  have ec:=mH (fi:=dI (ah (ag 1) aJ)) (f:=ie 0) (el:=eN (ah (ag 0) aJ)) (cap:=[none]) (ρ:=[some (.str [c]),some (.int (n:Nat)),none,none]) (st:=st) (st1:=st) (ck:=none) (List.range n) (fun i=>W.int (0+((i:Nat):Int))) (fun i=>z8 [i])
   (by
    have:=gM (fs:=ah (ag 1) aJ) (ρ:=[some (.str [c]),some (.int (n:Nat)),none,none]) (st:=st) (st1:=st) (q:=(n:Int)) kn (by omega)
    rw[bw]at this
    exact this) (by rw[cH];omega) trivial fun i hi=>⟨[some (.int (0+(i:Int)))],rfl,by
     rw[eG]
     exact cY kn (ax rfl)⟩
  refine bB (aO (a8 kn hs rfl)) (ba ec ⟨_,_,rfl,0,_,rfl,rfl,(List.range n).map fun i=>[i],⟨by simp,fun i L hL=>?_⟩,?_⟩)
  ·rw[aG,bK]at hL
   obtain⟨k,hk,rfl⟩:=hL
   have hi:i<n:=by have:=(ak.mp hk).1;rwa[cH]at this
   rw[cV hi]at hk
   cases hk
   refine⟨by simp;omega,fun q=>?_⟩
   rw[aV,gj (x:=2^i) (by rw[aG,cV hi];rfl),rT,bu]
   exact⟨fun e=>⟨by omega,e.symm⟩,fun e=>e.2.symm⟩
  ·rw[bA];exact bP
 ·rw[az h1]at hs
  rw[aN h1]at hm ⊢
  refine aM (aO (a8 kn hs rfl)) (aP (aD (aW (nO (ai (cY a_ (by decide)) a_) (by decide))) ?_))
  refine fG (fun m ρ s=>∃(p:Nat) (y:List ao) (CL:List (List Nat)) (o3:Option W),ρ=[some (.str [c]),some (.int (n:Nat)),some (.loc p),o3]/\s=st++y/\st.length<=p/\s[p]?=some (.lst (CL.map z8))/\m<=n/\G6 m (List.range (2^m)) CL)
   (gM (q:=(n:Int)) (st1:=st++[.lst [.tup []]]) kn (by omega)) ⟨st.length,[.lst [.tup []]],[[]],none,rfl,rfl,aw _,bP,bQ _,rfl,fun i L hL=>?_⟩ (fun _ _ _ _=>trivial) ?_ ?_
  ·have hi:i<1:=(ak.mp hL).1
   obtain rfl:i=0:=by omega
   cases hL
   exact⟨aw _,fun q=>⟨fun z=>(by cases z),fun z=>absurd z.1 (by omega)⟩⟩
  ·rintro m w ρ s hw ⟨p,y,CL,o3,rfl,rfl,hp,dq,hmn,hB⟩
   obtain⟨hm',rfl⟩:=gU hw
   rw[bw]at hm'
   rw[eG]
   have h2:2^(m+1)<=2^n:=dE (by decide) hm'
   have hCL:CL.length=2^m:=by have:=hB.1;rwa[cH]at this
   have Og:2^(m+1)=2^m+2^m:=by rw[q_];omega
   have ec:=mH (fi:=dZ (ag 2)) (f:=ie 0) (el:=e2 e7 (ag 0) (eN (ah (ag 1) aJ))) (cap:=[none,some 3]) (ρ:=[some (.str [c]),some (.int (n:Nat)),some (.loc p),some (.int (m:Int))]) (st:=st++y) (st1:=st++y) (ck:=some (p,CL.map z8)) CL z8 (fun L=>z8 (L++[m])) (mC kv (bd dq)) (by omega) (bd dq) fun L hL=>by
    obtain⟨i,hi⟩:=gT hL
    have Tz:=(hB.2 i L hi).1
    refine⟨[some (z8 L),some (.int (m:Int))],rfl,?_⟩
    have:=MO (ws:=nW L) (xs:=[.int (m:Int)]) (st:=st++y) (by show _<=1000000;simp[nW];omega)
    rw[show nW L++[W.int (m:Int)]=nW (L++[m]) by simp[nW]]at this
    exact aT kv (cY kn (ax rfl)) this
   have hc1:=bH (x:=[ao.lst (CL.map fun L=>z8 (L++[m]))]) dq
   have hc2:(st++y++[ao.lst (CL.map fun L=>z8 (L++[m]))])[(st++y).length]?=some (.lst (CL.map fun L=>z8 (L++[m]))):=bP
   have ea:=MJ hc1 hc2 (by show _<=1000000;simp;omega)
   refine⟨_,rfl,b_ (aW (aT kv ec ea)) ⟨_,_,rfl,_,_,CL++CL.map (fun L=>L++[m]),_,rfl,by rw[bb,bb],by rw[bC,bC];omega,?_,hm',DJ hB⟩⟩
   rw[cE,bA]
   exact bP
  ·rintro ρ s ⟨p,y,CL,o3,rfl,rfl,hp,dq,hmn,hB⟩
   rw[show(d8 0 (n:Int).toNat,(none:Option (Nat×List W))).1.length=n by simp[fj]]at hB
   refine bD kv ⟨_,_,rfl,p-st.length,y,by rw[show st.length+(p-st.length)=p by omega],rfl,CL,hB,?_⟩
   rw[show st.length+(p-st.length)=p by omega];exact dq
theorem zq{f:FG}{body:FS}{ck:Option (Nat×List W)}(I:b6->List ao->Prop)(J:List ao->Prop)(B:Nat->Bool)(v:W):∀(ws:List W) (ρ:b6) (st:List ao) (i0:Nat),I ρ st->(∀ρ st,I ρ st->i7 st ck) ->
  (∀i w ρ st,ws[i]?=some w->I ρ st->∃ρ',f w ρ=some ρ'/\((B (i0+i)=true/\∃cN,body ρ' st=.rt v cN/\J cN)\/(B (i0+i)=false/\∃ρ2 cN,body ρ' st=.nx ρ2 cN/\I ρ2 cN))) ->
  (∃i cN,i<ws.length/\B (i0+i)=true/\nu f body ck ws ρ st=.rt v cN/\J cN)\/(∃ρ2 cN,nu f body ck ws ρ st=.nx ρ2 cN/\I ρ2 cN/\∀i,i<ws.length->B (i0+i)=false)
 |[],ρ,st,i0,h0,hc,hs=>.inr ⟨ρ,st,by unfold nu;rw[aE (hc _ _ h0)],h0,fun i hi=>absurd hi (by simp)⟩
 |w::ws,ρ,st,i0,h0,hc,hs=>by
  obtain⟨ρ',e1,h⟩:=hs 0 w ρ st rfl h0
  rcases h with⟨hb,cN,e2,hj⟩|⟨hb,ρ2,cN,e2,hI⟩
  ·refine .inl ⟨0,cN,by simp,hb,?_,hj⟩
   unfold nu
   rw[aE (hc _ _ h0),e1]
   simp only[e2]
  ·have e:nu f body ck (w::ws) ρ st=nu f body ck ws ρ2 cN:=by
    conv=>lhs;unfold nu
    rw[aE (hc _ _ h0),e1]
    simp only[e2]
   rw[e]
   rcases zq I J B v ws ρ2 cN (i0+1) hI hc (fun i w ρ st hw hI=>by
    have:=hs (i+1) w ρ st (by simpa using hw) hI
    rw[show i0+(i+1)=i0+1+i by omega]at this
    exact this)with⟨i,s3,hi,hb3,e3,hj3⟩|⟨ρ3,s3,e3,hI3,hb3⟩
   ·exact .inl ⟨i+1,s3,by simp;omega,by rw[show i0+(i+1)=i0+1+i by omega];exact hb3,e3,hj3⟩
   ·refine .inr ⟨ρ3,s3,e3,hI3,fun i hi=>?_⟩
    cases i with
    |zero=>exact hb
    |succ i=>rw[show i0+(i+1)=i0+1+i by omega];exact hb3 i (by simp at hi;omega)
theorem zr{P:RS->Prop}{fP:FS}{ρ:b6}{st st1:List ao}{fi:FI}{f:FG}{body:FS}{k:Dq}(I:b6->List ao->Prop)(J:List ao->Prop)(B:Nat->Bool)(v:W)(h:fi ρ st=.ok k st1)(h0:I ρ st1)(hc:∀ρ st,I ρ st->i7 st k.2)
  (hs:∀i w ρ st,k.1[i]?=some w->I ρ st->∃ρ',f w ρ=some ρ'/\((B i=true/\∃cN,body ρ' st=.rt v cN/\J cN)\/(B i=false/\∃ρ2 cN,body ρ' st=.nx ρ2 cN/\I ρ2 cN)))
  (h1:∀i cN,i<k.1.length->B i=true->J cN->P (.rt v cN)) (h2:∀ρ2 cN,(∀i,i<k.1.length->B i=false)->I ρ2 cN->jl P (fP ρ2 cN)):jl P (aR (jg fi f body) fP ρ st):=by
 have hx:=tm (f:=f) (body:=body) h
 rcases zq I J B v k.1 ρ st1 0 h0 hc (fun i w ρ st hw hI=>by rw[dN];exact hs i w ρ st hw hI)with⟨i,s3,hi,hb3,e3,hj3⟩|⟨ρ3,s3,e3,hI3,hb3⟩
 ·rw[dN]at hb3
  rw[AO (hx.trans e3)]
  exact h1 i s3 hi hb3 hj3
 ·exact aD (hx.trans e3) (h2 ρ3 s3 (fun i hi=>by have:=hb3 i hi;rwa[dN]at this) hI3)
def tv(n:Nat)(sz:List Nat)(lk:List (Option Nat×Option Nat)):Stm->(Nat->Nat->Bool)->Bool
 |.one a,A=>OA n sz lk A (.one a)
 |.two k a b,A=>OA n sz lk A (.two k a b)
 |.neg s,A=>!tv n sz lk s A
 |.jn k s t,A=>if k=[97,110,100]then tv n sz lk s A&&tv n sz lk t A else tv n sz lk s A||tv n sz lk t A
 |.bnd k c s,A=>if k=[115,111,109,101]then(mI c n).any fun x=>tv n sz lk s (eT A c x)else(mI c n).all fun x=>tv n sz lk s (eT A c x)
theorem NX{l:List Nat}{T:Nat->Bool}{i:Nat}(hi:i<l.length)(h:T (l.getD i 0)=true):l.any T=true:=mh.mpr ⟨_,b9 (ky 0 hi),h⟩
theorem NY{l:List Nat}{T:Nat->Bool}(h:∀i,i<l.length->T (l.getD i 0)=false):l.any T=false:=by
 rw[ln]
 intro x hx
 obtain⟨i,hi⟩:=gT hx
 have:=h i (ak.mp hi).1
 rw[gj hi]at this
 rw[this];decide
theorem NZ{l:List Nat}{T:Nat->Bool}{i:Nat}(hi:i<l.length)(h:T (l.getD i 0)=false):l.all T=false:=by
 rw[List.all_eq_false]
 exact⟨_,b9 (ky 0 hi),by rw[h];decide⟩
theorem N0{l:List Nat}{T:Nat->Bool}(h:∀i,i<l.length->T (l.getD i 0)=true):l.all T=true:=by
 rw[jx]
 intro x hx
 obtain⟨i,hi⟩:=gT hx
 have:=h i (ak.mp hi).1
 rwa[gj hi]at this
theorem CH{c n i:Nat}(hi:i<(mI c n).length):(mI c n).getD i 0∈mI c n:=b9 (ky 0 hi)
theorem G7(n:Nat)(sz:List Nat)(lk:List (Option Nat×Option Nat)){k:List Nat}(hk:k∈Oz)(c:Nat)(s:Stm)(A:Nat->Nat->Bool) :
  (∀i,i<(mI c n).length->(tv n sz lk s (eT A c ((mI c n).getD i 0))==decide (k=[115,111,109,101]))=true->tv n sz lk (.bnd k c s) A=decide (k=[115,111,109,101]))/\((∀i,i<(mI c n).length->(tv n sz lk s (eT A c ((mI c n).getD i 0))==decide (k=[115,111,109,101]))=false)->tv n sz lk (.bnd k c s) A=!decide (k=[115,111,109,101])):=by
 have e:tv n sz lk (.bnd k c s) A=if k=[115,111,109,101]then(mI c n).any (fun x=>tv n sz lk s (eT A c x))else(mI c n).all fun x=>tv n sz lk s (eT A c x):=rfl
 rw[e]
 generalize tv n sz lk s=T at *
 rcases jt hk with rfl|rfl
 ·rw[aE rfl,aB rfl]
  refine⟨fun i hi h=>NX hi (by rw[eD]at h;exact h),fun h=>NY fun i hi=>by have:=h i hi;rw[bY]at this;exact Bool.eq_false_iff.mpr this⟩
 ·rw[aN (by decide),az (by decide)]
  refine⟨fun i hi h=>NZ hi (by rw[eD]at h;exact h),fun h=>N0 fun i hi=>by have:=h i hi;rw[bY]at this;exact Bool.ne_false_iff.mp this⟩
section
variable{n:Nat}{S sz:List Nat}{lk:List (Option Nat×Option Nat)}
theorem JV(hn:n<=100){A B:List (Option Nat)}(hA:Up lk Prod.fst n A)(hB:Up lk Prod.snd n B)(lA:A.length=n)(lB:B.length=n){ua ub:Nat}:∀(s:Stm) (k:Nat) (ps:List Pl) (st:List ao),s.ok->2*s.dp<=k->wy n s<=4096->Gr ps S sz lk->ps.length=n->NS ps->st[ua]?=some (.lst (A.map oW))->st[ub]?=some (.lst (B.map oW)) ->
  nX k [s.w,fm ps,.tup [.loc ua,.loc ub]] st=.ok (.bl (tv n sz lk s (AP ps))) st:=by
 intro s
 induction s with
 |one a=>
  intro k ps st hs hd hw hg hl hG ca cb
  obtain⟨k,rfl⟩:∃j,k=j+1:=⟨k-1,by simp only[Stm.dp]at hd;omega⟩
  refine bR (N:=4) (body:=vM (sJ k) (nX k)) ?_
  subst hl
  exact aD (aW (aT kv aU (gF _ st))) (bB (aO (a8 kn (il hs st) rfl)) (ba (a8 (ai kv (ai kv kn)) (zp hg hn hA hB lA lB ca cb hs rfl) rfl) ⟨_,_,rfl,rfl,rfl⟩))
 |two q a b=>
  intro k ps st hs hd hw hg hl hG ca cb
  obtain⟨k,rfl⟩:∃j,k=j+1:=⟨k-1,by simp only[Stm.dp]at hd;omega⟩
  refine bR (N:=4) (body:=vM (sJ k) (nX k)) ?_
  subst hl
  exact aD (aW (aT kv aU (gF _ st))) (bB (aO (a8 kn (il hs st) rfl)) (ba (a8 (ai kv (ai kv kn)) (zp hg hn hA hB lA lB ca cb hs rfl) rfl) ⟨_,_,rfl,rfl,rfl⟩))
 |neg s ih=>
  intro k ps st hs hd hw hg hl hG ca cb
  obtain⟨k,rfl⟩:∃j,k=j+1:=⟨k-1,by simp only[Stm.dp]at hd;omega⟩
  refine bR (N:=4) (body:=vM (sJ k) (nX k)) ?_
  have e1:=ih k ps st hs (by simp only[Stm.dp]at hd;omega) hw hg hl hG ca cb
  exact aD (aW (aT kv aU (gF _ st))) (aM (aO (a8 kn (il hs st) rfl)) (aP (bB (aO (aT kv aU rfl)) (ba (yD (a8 (ai kx (ai kv kn)) e1 rfl) rfl) ⟨_,_,rfl,rfl,rfl⟩))))
 |jn q s t ih1 ih2=>
  intro k ps st hs hd hw hg hl hG ca cb
  have p1:=s.dp_pos
  have p2:=t.dp_pos
  simp only[Stm.dp]at hd
  simp only[wy]at hw
  obtain⟨k,rfl⟩:∃j,k=j+1:=⟨k-1,by omega⟩
  refine bR (N:=4) (body:=vM (sJ k) (nX k)) ?_
  have hp:=il hs st
  obtain⟨hq,hs1,ql⟩:=hs
  have e1:=ih1 k ps st hs1 (by omega) (by omega) hg hl hG ca cb
  have e2:=ih2 k ps st ql (by omega) (by omega) hg hl hG ca cb
  refine aD (aW (aT kv aU (gF _ st))) (aM (aO (a8 kn hp rfl)) (aP ?_))
  unfold tv
  rcases n4 hq with rfl|rfl
  ·rw[aE rfl]
   refine aM (aO (aT kv aU rfl)) (aP (bB (aO (aT kv aU rfl)) ?_))
   cases h1:tv n sz lk s (AP ps)with
   |true=>
    rw[h1]at e1
    exact ba (lg (a8 (ai kx (ai kv kn)) e1 rfl) (a8 (ai kx (ai kv kn)) e2 rfl)) ⟨_,_,rfl,by rw[jD],rfl⟩
   |false=>
    rw[h1]at e1
    exact ba (qN (a8 (ai kx (ai kv kn)) e1 rfl)) ⟨_,_,rfl,by rw[kF],rfl⟩
  ·rw[aN (by decide)]
   refine aM (aO (aT kv aU rfl)) (aP (aM (aO (aT kv aU rfl)) (aP (bB (aO (aT kv aU rfl)) ?_))))
   cases h1:tv n sz lk s (AP ps)with
   |true=>
    rw[h1]at e1
    exact ba (wS (a8 (ai kx (ai kv kn)) e1 rfl)) ⟨_,_,rfl,by rw[qW],rfl⟩
   |false=>
    rw[h1]at e1
    exact ba (p5 (a8 (ai kx (ai kv kn)) e1 rfl) (a8 (ai kx (ai kv kn)) e2 rfl)) ⟨_,_,rfl,by rw[lU],rfl⟩
 |bnd q c s ih=>
  intro k ps st hs hd hw hg hl hG ca cb
  have p1:=s.dp_pos
  simp only[Stm.dp]at hd
  simp only[wy]at hw
  obtain⟨k,rfl⟩:∃j,k=j+2:=⟨k-2,by omega⟩
  have hp:=il hs st
  obtain⟨hq,hc,hs'⟩:=hs
  have hws:wy n s<=4096:=aF (mj _ (xq c n)) hw
  have hcn:z7 c n<=4096:=aF (mW _ (uC n s)) hw
  have eb:sJ (k+1) [(Stm.bnd q c s).w,fm ps,.tup [.loc ua,.loc ub]] st=.ok (.bl (tv n sz lk (.bnd q c s) (AP ps))) st:=by
   refine gN (N:=5) (body:=KW (sJ k) (nX k)) (ws:=[(Stm.bnd q c s).w,fm ps,.tup [.loc ua,.loc ub]]) ?_ rfl
   obtain⟨b,hb⟩:∃b,b=decide (q=[115,111,109,101]):=⟨_,rfl⟩
   have tbd:=G7 n sz lk hq c s (AP ps)
   rw[<- hb]at tbd
   have e0:∀ρ:b6,ρ[0]?=some (some (Stm.bnd q c s).w)->e2 fQ (e2 bp (ag 0) (eI 0)) (eC (.str [115,111,109,101])) ρ st=.ok (.bl b) st:=fun ρ hρ=>aT (aT (dJ hρ) aU (gF _ st)) aU (yG (by rw[hb,cf,eD,bu];rfl))
   refine aD (aW (e0 _ rfl)) ?_
   obtain⟨p,y,CL,hB',dq,ec⟩:=Bi hc hn hcn st
   obtain⟨s1,hs1⟩:∃s1,s1=st++y:=⟨_,rfl⟩
   rw[<- hs1]at dq ec
   have ca':s1[ua]?=some (.lst (A.map oW)):=by rw[hs1];exact bH ca
   have cb':s1[ub]?=some (.lst (B.map oW)):=by rw[hs1];exact bH cb
   have hln:eV [fm ps] st=.ok (.int (n:Nat)) st:=by rw[<- hl];exact lM ps st
   refine zr (k:=(CL.map z8,some (p,CL.map z8))) (fun ρ s2=>∃o4:Option W,ρ=[some (Stm.bnd q c s).w,some (fm ps),some (.tup [.loc ua,.loc ub]),some (.bl b),o4]/\s1=s2) (fun s2=>s1=s2) (fun i=>tv n sz lk s (eT (AP ps) c ((mI c n).getD i 0))==b) (.bl b)
    (mC (st1:=s1) (a8 (ai kx (ai (cg kn hln) a_)) ec rfl) (bd dq)) ⟨none,rfl,rfl⟩ (fun ρ s2 ⟨_,_,e⟩=>by rw[<- e];exact bd dq) ?_ ?_ ?_
   ·rintro i w ρ s2 hw ⟨o4,rfl,rfl⟩
    obtain⟨L,hL,rfl⟩:∃L,CL[i]?=some L/\w=z8 L:=by
     have hw:(CL.map z8)[i]?=some w:=hw
     simp only[aG,bK]at hw
     obtain⟨L,h1,rfl⟩:=hw
     exact⟨L,h1,rfl⟩
    obtain⟨Tz,hLb⟩:=hB'.2 i L hL
    have hi:i<(mI c n).length:=by have:=(ak.mp hL).1;rw[hB'.1]at this;exact this
    have hlt:=G5 (CH hi)
    have hLb':∀q,q∈L↔q<ps.length/\bt ((mI c n).getD i 0) q=true:=by rw[hl];exact hLb
    have ed:=Bh (by omega) hG hc hLb' (by omega) s1
    have eg:=ih k (xL ps c ((mI c n).getD i 0)) s1 hs' (by omega) hws (NV hg _ _) (by rw[qT];exact hl) (NU hG hc _) ca' cb'
    rw[NT (by rw[hl];exact hlt)]at eg
    have et:dA (e2 fQ (bX 3 (nX k) (ah (e2 bp (ag 0) (eI 2)) (ah (bX 3 vK (ah (ag 1) (ah (e2 bp (ag 0) (eI 1)) (ah (ag 4) aJ)))) (ah (ag 2) aJ)))) (ag 3)) [some (Stm.bnd q c s).w,some (fm ps),some (.tup [.loc ua,.loc ub]),some (.bl b),some (z8 L)] s1=.ok (tv n sz lk s (eT (AP ps) c ((mI c n).getD i 0))==b) s1:=aO (aT (a8 (ai kx (ai (a8 (ai kv (ai kx kn)) ed rfl) kn)) eg rfl) kv (Kn rfl))
    refine⟨_,rfl,?_⟩
    cases On:(tv n sz lk s (eT (AP ps) c ((mI c n).getD i 0))==b)with
    |true=>rw[On]at et;exact .inl ⟨rfl,s1,g9 et (yF kv),rfl⟩
    |false=>rw[On]at et;exact .inr ⟨rfl,_,s1,i' et kr,_,rfl,rfl⟩
   ·intro i s2 hi hbi hJ
    rw[aC,hB'.1]at hi
    exact⟨_,_,rfl,by rw[tbd.1 i hi hbi],y,by rw[<- hJ,hs1]⟩
   ·rintro ρ s2 hno ⟨o4,rfl,rfl⟩
    rw[aC,hB'.1]at hno
    exact bD (yD kv rfl) ⟨_,_,rfl,by rw[tbd.2 hno],y,hs1⟩
  refine bR (N:=4) (body:=vM (sJ (k+1)) (nX (k+1))) ?_
  refine aD (aW (aT kv aU (gF _ st))) (aM (aO (a8 kn hp rfl)) (aP ?_))
  rcases jt hq with rfl|rfl<;>exact aM (aO (aT kv aU rfl)) (aP (aM (aO (aT kv aU rfl)) (aP (aM (aO (aT kv aU rfl)) (aP (bD (a8 (ai kv (ai kv kn)) eb rfl) ⟨_,_,rfl,rfl,rfl⟩))))))
end
theorem Q2{p q b:Bool}{st:List ao}(h:(!(p==q))=b):Do (.bl p) (.bl q) st=.ok (.bl b) st:=by rw[<- h];rfl
theorem JW{kvs:List (DK×W)}{A:Nat->Nat->Bool}(h:GK kvs (fun c j=>A c j=true))(c x:Nat):GK (j6 kvs (.s [c]) (.int (x:Nat))) (fun d j=>eT A c x d j=true):=fun d=>by
 rw[uy]
 unfold eT
 by_cases e:d=c
 ·subst e
  rw[aE rfl]
  refine⟨x,rfl,fun j=>?_⟩
  show _↔(if d=d then bt x j else A d j)=true
  rw[aE rfl]
 ·rw[aN (fun z=>e (by injection z with z;exact(List.cons.inj z).1))]
  obtain⟨y,h1,h2⟩:=h d
  refine⟨y,h1,fun j=>?_⟩
  show _↔(if d=c then bt x j else A d j)=true
  rw[aN e];exact h2 j
theorem JX{st:List ao}{n c:Nat}{kvs:List (DK×W)}{v:W}(h:st[n]?=some (.dct kvs))(hl:kvs.length<jY):l6 (.loc n) (.str [c]) v st=some (st.set n (.dct (j6 kvs (.s [c]) v))):=by
 simp only[l6,G4 h,pA];rw[aE hl]
theorem JY{st:List ao}{n:Nat}{kvs:List (DK×W)}(h:st[n]?=some (.dct kvs))(hl:kvs.length<=1000):pZ [.loc n] st=.ok (.loc st.length) (st++[.dct kvs]):=by
 simp only[pZ,CG h];rw[aE hl]
theorem G8(n:Nat):d8 0 n=nW (List.range n):=by
 unfold d8 nW
 exact dQ fun k _=>by rw[eG]
section
variable{n:Nat}{ps:List Pl}{S sz:List Nat}{lk:List (Option Nat×Option Nat)}
theorem G9(hn:ps.length<=100)(hg:Gr ps S sz lk){us:List Nat}(uQ:us.length=ps.length)(DQ:∀k,k<ps.length->QW sz (fun k=>us.getD k 0) k){pl pu:Nat}:∀(s:Stm) (k:Nat) (A:Nat->Nat->Bool) (kvs:List (DK×W)) (pd:Nat) (st:List ao),s.ok->s.dp<=k->wy ps.length s<=4096->(∀c j,A c j=true->j<ps.length)->GK kvs (fun c j=>A c j=true)->kvs.length+s.dp<=500->st[pl]?=some (.lst (lk.map jW))->st[pu]?=some (.lst (nW us))->st[pd]?=some (.dct kvs) ->
  l7 k [s.w,.loc pl,.loc pu,.loc pd] st=.ok (.bl (tv ps.length sz lk s A)) st:=by
 intro s
 induction s with
 |one a=>
  intro k A kvs pd st hs hd hw hA hM hk cl cu cd
  obtain⟨k,rfl⟩:∃j,k=j+1:=⟨k-1,by simp only[Stm.dp]at hd;omega⟩
  refine bR (N:=8) (body:=vR (l7 k)) ?_
  have e1:=vZ hg hn uQ DQ hA hM cl cu cd hs rfl
  exact aD (aW (aT kv aU (gF _ st))) (aM (aO (aT kv aU rfl)) (aP (aM (aO (aT kv aU rfl)) (aP (aM (aO (aT kv aU rfl)) (aP (aM (gi (aO (aT kv aU rfl)) (aO (aT kv aU rfl))) (aP (bD (a8 (ai kv (ai kv (ai kv kn))) e1 rfl) ⟨_,_,rfl,rfl,rfl⟩)))))))))
 |two q a b=>
  intro k A kvs pd st hs hd hw hA hM hk cl cu cd
  obtain⟨k,rfl⟩:∃j,k=j+1:=⟨k-1,by simp only[Stm.dp]at hd;omega⟩
  refine bR (N:=8) (body:=vR (l7 k)) ?_
  have e1:=vZ hg hn uQ DQ hA hM cl cu cd hs rfl
  refine aD (aW (aT kv aU (gF _ st))) ?_
  rcases l_ hs.1 with rfl|rfl|rfl|rfl<;>exact(aM (aO (aT kv aU rfl)) (aP (aM (aO (aT kv aU rfl)) (aP (aM (aO (aT kv aU rfl)) (aP (aM (gi (aO (aT kv aU rfl)) (aO (aT kv aU rfl))) (aP (bD (a8 (ai kv (ai kv (ai kv kn))) e1 rfl) ⟨_,_,rfl,rfl,rfl⟩)))))))))
 |neg s ih=>
  intro k A kvs pd st hs hd hw hA hM hk cl cu cd
  simp only[Stm.dp]at hd hk
  obtain⟨k,rfl⟩:∃j,k=j+1:=⟨k-1,by omega⟩
  refine bR (N:=8) (body:=vR (l7 k)) ?_
  have e1:=ih k A kvs pd st hs (by omega) hw hA hM (by omega) cl cu cd
  exact aD (aW (aT kv aU (gF _ st))) (bB (aO (aT kv aU rfl)) (ba (yD (a8 (ai kx (ai kv (ai kv kn))) e1 rfl) rfl) ⟨_,_,rfl,rfl,rfl⟩))
 |jn q s t ih1 ih2=>
  intro k A kvs pd st hs hd hw hA hM hk cl cu cd
  have p1:=s.dp_pos
  have p2:=t.dp_pos
  simp only[Stm.dp]at hd hk
  simp only[wy]at hw
  obtain⟨k,rfl⟩:∃j,k=j+1:=⟨k-1,by omega⟩
  refine bR (N:=8) (body:=vR (l7 k)) ?_
  obtain⟨hq,hs1,ql⟩:=hs
  have e1:=ih1 k A kvs pd st hs1 (by omega) (by omega) hA hM (by omega) cl cu cd
  have e2:=ih2 k A kvs pd st ql (by omega) (by omega) hA hM (by omega) cl cu cd
  refine aD (aW (aT kv aU (gF _ st))) ?_
  have et:tv ps.length sz lk (.jn q s t) A=if q=[97,110,100]then tv ps.length sz lk s A&&tv ps.length sz lk t A else tv ps.length sz lk s A||tv ps.length sz lk t A:=rfl
  rw[et]
  rcases n4 hq with rfl|rfl
  ·rw[aE rfl]
   refine aM (aO (aT kv aU rfl)) (aP (bB (aO (aT kv aU rfl)) ?_))
   cases h1:tv ps.length sz lk s A with
   |true=>
    rw[h1]at e1
    exact ba (lg (a8 (ai kx (ai kv (ai kv kn))) e1 rfl) (a8 (ai kx (ai kv (ai kv kn))) e2 rfl)) ⟨_,_,rfl,by rw[jD],rfl⟩
   |false=>
    rw[h1]at e1
    exact ba (qN (a8 (ai kx (ai kv (ai kv kn))) e1 rfl)) ⟨_,_,rfl,by rw[kF],rfl⟩
  ·rw[aN (by decide)]
   refine aM (aO (aT kv aU rfl)) (aP (aM (aO (aT kv aU rfl)) (aP (bB (aO (aT kv aU rfl)) ?_))))
   cases h1:tv ps.length sz lk s A with
   |true=>
    rw[h1]at e1
    exact ba (wS (a8 (ai kx (ai kv (ai kv kn))) e1 rfl)) ⟨_,_,rfl,by rw[qW],rfl⟩
   |false=>
    rw[h1]at e1
    exact ba (p5 (a8 (ai kx (ai kv (ai kv kn))) e1 rfl) (a8 (ai kx (ai kv (ai kv kn))) e2 rfl)) ⟨_,_,rfl,by rw[lU],rfl⟩
 |bnd q c s ih=>
  intro k A kvs pd st hs hd hw hA hM hk cl cu cd
  have p1:=s.dp_pos
  simp only[Stm.dp]at hd hk
  simp only[wy]at hw
  obtain⟨k,rfl⟩:∃j,k=j+1:=⟨k-1,by omega⟩
  obtain⟨hq,hc,hs'⟩:=hs
  have hws:wy ps.length s<=4096:=aF (mj _ (xq c _)) hw
  have hcn:z7 c ps.length<=4096:=aF (mW _ (uC _ s)) hw
  refine gN (N:=8) (body:=vR (l7 k)) (ws:=[(Stm.bnd q c s).w,.loc pl,.loc pu,.loc pd]) ?_ rfl
  obtain⟨b,hb⟩:∃b,b=decide (q=[115,111,109,101]):=⟨_,rfl⟩
  have tbd:=G7 ps.length sz lk hq c s A
  rw[<- hb]at tbd
  have eS:∀(ρ:b6) (s2:List ao),ρ[4]?=some (some (.str q))->e2 fQ (ag 4) (eC (.str [115,111,109,101])) ρ s2=.ok (.bl b) s2:=fun ρ s2 hρ=>aT (dJ hρ) aU (yG (by rw[hb,cf,eD,bu]))
  have eL:∀(ρ:b6) (s2:List ao),ρ[4]?=some (some (.str q))->e2 fQ (ag 4) (eC (.str [97,108,108])) ρ s2=.ok (.bl (!b)) s2:=fun ρ s2 hρ=>aT (dJ hρ) aU (yG (by rcases jt hq with rfl|rfl<;>rw[hb]<;>decide))
  refine aD (aW (aT kv aU (gF _ st))) ?_
  show jl _ (aR _ _ [some (Stm.bnd q c s).w,some (.loc pl),some (.loc pu),some (.loc pd),some (.str q),none,none,none] st)
  have hor:BR (dA (e2 fQ (ag 4) (eC (.str [115,111,109,101])))) (dA (e2 fQ (ag 4) (eC (.str [97,108,108])))) [some (Stm.bnd q c s).w,some (.loc pl),some (.loc pu),some (.loc pd),some (.str q),none,none,none] st=.ok true st:=by
   have a1:=eS [some (Stm.bnd q c s).w,some (.loc pl),some (.loc pu),some (.loc pd),some (.str q),none,none,none] st rfl
   have a2:=eL [some (Stm.bnd q c s).w,some (.loc pl),some (.loc pu),some (.loc pd),some (.str q),none,none,none] st rfl
   cases b with
   |true=>exact qM (aO a1)
   |false=>exact gi (aO a1) (aO a2)
  have h3:∀z:List Nat,z=[110,111,116]\/z=[97,110,100]\/z=[111,114]->dA (e2 fQ (ag 4) (eC (.str z))) [some (Stm.bnd q c s).w,some (.loc pl),some (.loc pu),some (.loc pd),some (.str q),none,none,none] st=.ok false st:=fun z hz=>aO (aT kv aU (yG (by rcases jt hq with rfl|rfl<;>rcases hz with rfl|rfl|rfl<;>decide)))
  refine aM (h3 _ (.inl rfl)) (aP (aM (h3 _ (.inr (.inl rfl))) (aP (aM (h3 _ (.inr (.inr rfl))) (aP (bB hor (ke ?_)))))))
  have hll:eV [.loc pl] st=.ok (.int ((ps.length:Nat):Int)) st:=by
   have:=kw (bd cl)
   rw[aC,hg.ok.2.1]at this;exact this
  have hin:dA (e2 (sV false) (e2 bp (ag 0) (eI 1)) (eC (.str LC))) [some (Stm.bnd q c s).w,some (.loc pl),some (.loc pu),some (.loc pd),some (.str q),none,none,none] st=.ok (decide (c∈LC)) st:=aO (aT kx aU Cn)
  refine mE (fun ρ s2=>ρ=[some (Stm.bnd q c s).w,some (.loc pl),some (.loc pu),some (.loc pd),some (.str q),some (.loc st.length),none,none]/\s2=st++[.lst (nW (mI c ps.length))]) ?_ ?_
  ·unfold mI
   by_cases h1:c∈LC
   ·rw[aB h1]at hin
    rw[aE h1]
    have ec:=mH (fi:=dI (ah (cw eV (ah (ag 1) aJ)) aJ)) (f:=ie 0) (el:=e2 nI (eI 1) (ag 0)) (cap:=[none]) (ρ:=[some (Stm.bnd q c s).w,some (.loc pl),some (.loc pu),some (.loc pd),some (.str q),none,none,none]) (st:=st) (st1:=st) (ck:=none) (List.range ps.length) (fun i=>W.int (0+((i:Nat):Int))) (fun i=>W.int ((2^i:Nat):Int))
     (by
      have:=gM (fs:=ah (cw eV (ah (ag 1) aJ)) aJ) (ρ:=[some (Stm.bnd q c s).w,some (.loc pl),some (.loc pu),some (.loc pd),some (.str q),none,none,none]) (st:=st) (st1:=st) (q:=(ps.length:Int)) (ai (cg kn hll) a_) (by omega)
      rw[bw]at this
      exact this) (by rw[cH];omega) trivial fun i hi=>⟨[some (.int (0+(i:Int)))],rfl,by
       rw[eG]
       exact aT aU kv (sj (by have:=eP.mp hi;omega))⟩
    refine iW hin (b_ (Cm ec rfl) ⟨_,_,rfl,rfl,?_⟩)
    rw[nW,bA];rfl
   ·rw[az h1]at hin
    rw[aN h1]
    unfold z7 at hcn
    rw[aN h1]at hcn
    have el:um [.int ((2^ps.length:Nat):Int)] st=.ok (.loc st.length) (st++[.lst (nW (List.range (2^ps.length)))]):=by
     unfold um
     simp only
     rw[aE ⟨Int.natCast_nonneg _,Int.ofNat_le.mpr (aF hcn (by decide:4096<=1000000))⟩,bw,G8]
    exact gY hin (b_ (aW (cg (ai (aT aU (cg kn hll) (sj hn)) a_) el)) ⟨_,_,rfl,rfl,rfl⟩)
  rintro ρ s2 ⟨rfl,rfl⟩
  have dq:∀y,(st++(ao.lst (nW (mI c ps.length))::y))[st.length]?=some (.lst (nW (mI c ps.length))):=fun y=>by rw[fY];rfl
  refine ke (zr (k:=(nW (mI c ps.length),some (st.length,nW (mI c ps.length)))) (fun ρ s2=>∃(o6 o7:Option W) (y:List ao),ρ=[some (Stm.bnd q c s).w,some (.loc pl),some (.loc pu),some (.loc pd),some (.str q),some (.loc st.length),o6,o7]/\s2=st++(.lst (nW (mI c ps.length))::y)) (fun s2=>∃y,s2=st++y) (fun i=>tv ps.length sz lk s (eT A c ((mI c ps.length).getD i 0))==b) (.bl b)
    (mC kv (bd (dq []))) ⟨none,none,[],rfl,rfl⟩ (fun ρ s2 ⟨_,_,y,_,e⟩=>by rw[e];exact bd (dq y)) ?_ ?_ ?_)
  ·rintro i w ρ s2 hw ⟨o6,o7,y,rfl,rfl⟩
   obtain⟨hi,rfl⟩:i<(mI c ps.length).length/\w=.int (((mI c ps.length).getD i 0:Nat):Int):=by
    have hw:(nW (mI c ps.length))[i]?=some w:=hw
    simp only[nW,aG,bK]at hw
    obtain⟨x,h1,rfl⟩:=hw
    exact⟨(ak.mp h1).1,by rw[gj h1]⟩
   have hlt:=G5 (CH hi)
   generalize hx:(mI c ps.length).getD i 0=x at hlt ⊢
   obtain⟨s1,hs1⟩:∃s1,s1=st++(ao.lst (nW (mI c ps.length))::y):=⟨_,rfl⟩
   rw[<- hs1]
   have cd1:s1[pd]?=some (.dct kvs):=by rw[hs1];exact bH cd
   have ed:=JY cd1 (by omega)
   have cn:(s1++[ao.dct kvs])[s1.length]?=some (.dct kvs):=bP
   have esd:=JX (c:=c) (v:=.int (x:Nat)) cn (by show _<1000000;omega)
   rw[d9]at esd
   have esd:l6 (.loc s1.length) (.str [c]) (.int (x:Nat)) (s1++[ao.dct kvs])=some (s1++[ao.dct (j6 kvs (.s [c]) (.int (x:Nat)))]):=esd
   have SR:=uz (kvs:=kvs) (k:=.s [c]) (v:=.int (x:Nat))
   have cx:∀{p:Nat} {cc:ao},st[p]?=some cc->(s1++[ao.dct (j6 kvs (.s [c]) (.int (x:Nat)))])[p]?=some cc:=fun h=>by rw[hs1];exact bH (bH h)
   have eg:=ih k (eT A c x) (j6 kvs (.s [c]) (.int (x:Nat))) s1.length (s1++[ao.dct (j6 kvs (.s [c]) (.int (x:Nat)))]) hs' (by omega) hws (fun d j hj=>by
    unfold eT at hj
    by_cases e:d=c
    ·rw[aE e]at hj;exact hlt j hj
    ·rw[aN e]at hj;exact hA d j hj) (JW hM c x) (by omega) (cx cl) (cx cu) bP
   have et:dA (e2 Do (bX 4 (l7 k) (ah (e2 bp (ag 0) (eI 2)) (ah (ag 1) (ah (ag 2) (ah (ag 7) aJ))))) (e2 fQ (ag 4) (eC (.str [97,108,108])))) [some (Stm.bnd q c s).w,some (.loc pl),some (.loc pu),some (.loc pd),some (.str q),some (.loc st.length),some (.int (x:Nat)),some (.loc s1.length)] (s1++[ao.dct (j6 kvs (.s [c]) (.int (x:Nat)))])=.ok (tv ps.length sz lk s (eT A c x)==b) (s1++[ao.dct (j6 kvs (.s [c]) (.int (x:Nat)))]):=
    aO (aT (a8 (ai kx (ai kv (ai kv kn))) eg rfl) (eL _ _ rfl) (Q2 (by cases tv ps.length sz lk s (eT A c x)<;>cases b<;>rfl)))
   refine⟨_,rfl,?_⟩
   have pre:∀{r:RS},fR (dA (e2 Do (bX 4 (l7 k) (ah (e2 bp (ag 0) (eI 2)) (ah (ag 1) (ah (ag 2) (ah (ag 7) aJ))))) (e2 fQ (ag 4) (eC (.str [97,108,108]))))) (cK (e2 fQ (ag 4) (eC (.str [115,111,109,101])))) b7 [some (Stm.bnd q c s).w,some (.loc pl),some (.loc pu),some (.loc pd),some (.str q),some (.loc st.length),some (.int (x:Nat)),some (.loc s1.length)] (s1++[ao.dct (j6 kvs (.s [c]) (.int (x:Nat)))])=r->aR (bM 7 (cw pZ (ah (ag 3) aJ))) (aR (o9 (ag 7) (e2 bp (ag 0) (eI 1)) (ag 6) l6) (fR (dA (e2 Do (bX 4 (l7 k) (ah (e2 bp (ag 0) (eI 2)) (ah (ag 1) (ah (ag 2) (ah (ag 7) aJ))))) (e2 fQ (ag 4) (eC (.str [97,108,108]))))) (cK (e2 fQ (ag 4) (eC (.str [115,111,109,101])))) b7)) [some (Stm.bnd q c s).w,some (.loc pl),some (.loc pu),some (.loc pd),some (.str q),some (.loc st.length),some (.int (x:Nat)),o7] s1=r:=fun h=>B9 (aW (cg kn ed)) (B9 (nQ kv kv kx esd) h)
   cases On:(tv ps.length sz lk s (eT A c x)==b)with
   |true=>rw[On]at et;exact .inl ⟨rfl,_,pre (g9 et (yF (eS _ _ rfl))),_,by rw[hs1,bb]⟩
   |false=>rw[On]at et;exact .inr ⟨rfl,_,_,pre (i' et kr),_,_,y++[ao.dct (j6 kvs (.s [c]) (.int (x:Nat)))],rfl,by rw[hs1,bb];rfl⟩
  ·rintro i s2 hi hbi ⟨y,hy⟩
   have hi:i<(mI c ps.length).length:=by have hi:i<(nW (mI c ps.length)).length:=hi;rwa[nW,aC]at hi
   exact⟨_,_,rfl,by rw[tbd.1 i hi hbi],y,hy⟩
  ·rintro ρ s2 hno ⟨o6,o7,y,rfl,rfl⟩
   have hno:∀i,i<(mI c ps.length).length->(tv ps.length sz lk s (eT A c ((mI c ps.length).getD i 0))==b)=false:=fun i hi=>hno i (by show i<(nW _).length;rw[nW,aC];exact hi)
   exact ba (eL _ _ rfl) ⟨_,_,rfl,by rw[tbd.2 hno],_,rfl⟩
end
abbrev SJ:W:=.tup [.str [114,101,102,117,115,101,100],.bl true,.bl true,.bl false]
def Q3(n:Nat)(sz:List Nat)(lk:List (Option Nat×Option Nat))(s:Stm)(A:Nat->Nat->Bool):W:=if 4096<wy n s then SJ else .bl (tv n sz lk s A)
section
variable{ps:List Pl}{S sz:List Nat}{lk:List (Option Nat×Option Nat)}
theorem N1(hg:Gr ps S sz lk)(hn:ps.length<=100)(hm:∀p∈ps,p.m.length<=4){s:Stm}(hs:s.ok)(hd:s.dp<=16)(st:List ao):zd [s.w,fm ps] st=.ok (Q3 ps.length sz lk s (AP ps)) st:=by
 have ew:=zm hn s 40 hs (by omega) (by omega) st
 unfold Q3
 by_cases h1:4096<wy ps.length s
 ·rw[aE h1]
  refine bR (N:=3) (body:=Gq) (bB (aO (aT (a8 (ai kv (ai (cg kn (lM ps st)) a_)) ew rfl) aU (fB (aB (by omega))))) (ba (cY (ai aU (ai aU (ai aU (ai aU a_)))) (ax rfl)) ⟨_,_,rfl,rfl,rfl⟩))
 ·rw[aN h1]
  obtain⟨x,⟨Q,hx⟩,el⟩:=DE hg (by omega) st
  have c1:(st++x)[st.length+1]?=some (.lst (lk.map jW)):=by rw[iz,hx];rfl
  obtain⟨us,uQ,DQ,eu⟩:=GL hg hn c1
  obtain⟨kvs,hkl,hM,eo⟩:=JG hn hm (st++x++[.lst (nW us)])
  have hM':GK kvs (fun c j=>AP ps c j=true):=fun c=>by
   obtain⟨y,h2,h3⟩:=hM c
   refine⟨y,h2,fun j=>(h3 j).trans ⟨fun z=>aB z.2,fun z=>⟨n6 z,gI z⟩⟩⟩
  have et:=G9 hn hg uQ DQ s 40 (AP ps) kvs (st++x++[ao.lst (nW us)]).length (st++x++[.lst (nW us)]++[.dct kvs]) (pl:=st.length+1) (pu:=(st++x).length) hs (by omega) (by omega) (fun c j z=>n6 z) hM' (by omega) (bH (bH c1)) (bH bP) bP
  refine gN (N:=3) (body:=Gq) (ws:=[s.w,fm ps]) (aM (aO (aT (a8 (ai kv (ai (cg kn (lM ps st)) a_)) ew rfl) aU (fB (az (by omega))))) (aP (aD (aW (a8 kn el rfl)) (bD (a8 (ai kv (ai kv (ai (a8 kn eu rfl) (ai (a8 kn eo rfl) a_)))) et rfl) ⟨_,_,rfl,rfl,_,by rw[bb,bb]⟩)))) rfl
theorem G_(hg:Gr ps S sz lk)(hn:ps.length<=100)(hG:NS ps){s:Stm}(hs:s.ok)(hd:s.dp<=16)(st:List ao):(4096<wy ps.length s->vN [s.w,fm ps] st=.ex "TooGreat" st)/\(¬ 4096<wy ps.length s->vN [s.w,fm ps] st=.ok (.bl (tv ps.length sz lk s (AP ps))) st):=by
 have ew:=JQ hn s 40 hs (by omega) (by omega) st
 constructor
 ·intro h1
  exact Js (N:=2) (body:=Gp) (ws:=[s.w,fm ps]) (bB (aO (aT (a8 (ai kv (ai (cg kn (lM ps st)) a_)) ew rfl) aU (fB (aB (by omega))))) (u7 ⟨_,_,rfl,[],(dB _).symm⟩))
 ·intro h1
  obtain⟨A,B,x,a1,a2,a3,a4,a5,a6,eu⟩:=NF hg (by omega) st
  have eg:=JV hn a3 a4 a1 a2 s 40 ps (st++x) hs (by omega) (by omega) hg rfl hG a5 a6
  exact gN (N:=2) (body:=Gp) (ws:=[s.w,fm ps]) (aM (aO (aT (a8 (ai kv (ai (cg kn (lM ps st)) a_)) ew rfl) aU (fB (az (by omega))))) (aP (bD (a8 (ai kv (ai kv (ai (a8 kn eu rfl) a_))) eg rfl) ⟨_,_,rfl,rfl,_,rfl⟩))) rfl
theorem G'(hg:Gr ps S sz lk)(hn:ps.length<=100)(hG:NS ps){s:Stm}(hs:s.ok)(hd:s.dp<=16)(st:List ao):sL [s.w,fm ps] st=.ok (Q3 ps.length sz lk s (AP ps)) st:=by
 obtain⟨e1,e2⟩:=G_ hg hn hG hs hd st
 unfold Q3
 by_cases h1:4096<wy ps.length s
 ·rw[aE h1]
  have cx:(st++[ao.exc "TooGreat"])[st.length]?=some (.exc "TooGreat"):=bP
  exact gN (N:=4) (body:=Gs) (ws:=[s.w,fm ps]) (aD (aW aU) (aD (Fl (Fj (Fi (ai kv kn) (e1 h1) rfl)) (by decide) (aW (cY (ai aU (ai (Fm kv cx rfl) (ai (Fm kv cx rfl) (ai (Fm kv cx rfl) a_)))) (ax rfl)))) (bD kv ⟨_,_,rfl,rfl,_,rfl⟩))) rfl
 ·rw[aN h1]
  exact gN (N:=4) (body:=Gs) (ws:=[s.w,fm ps]) (aD (aW aU) (aD (Fk (aW (a8 (ai kv kn) (e2 h1) rfl))) (bD kv ⟨_,_,rfl,rfl,[],(dB _).symm⟩))) rfl
end
theorem Ha(k:Nat)(st:List ao):lh (k+2) [SJ,SJ] st=.ok (.bl true) st:=GN (by decide) fun w hw=>by
 simp only[aY,gb,oD]at hw
 rcases hw with rfl|rfl|rfl|rfl
 ·exact GM _ k st
 ·exact l9 _ k st
 ·exact l9 _ k st
 ·exact l9 _ k st
theorem law_ok:Kk f_q41:=by
 intro ns hn
 obtain⟨st,kU⟩:∃st,st=([ao.ro (ns.map W.int)]:List ao):=⟨_,rfl⟩
 have h0:st[0]?=some (.ro (ns.map W.int)):=by rw[kU];rfl
 rw[<- kU]
 obtain⟨pool,s,ps,S,sz,lk,hp,jG,hb,ep⟩:=JM h0
 have hG:NS ps:=fun p hp'=>by
  obtain⟨m1,m2⟩:=hb.mks p hp'
  exact⟨by omega,fun d hd=>jG d (m2 d hd)⟩
 have hm4:∀p∈ps,p.m.length<=4:=fun p hp'=>by have:=(hb.mks p hp').1;omega
 have hsd:=hb.dp
 have RD:(Stm.neg s).dp<=16:=by simp only[Stm.dp];omega
 have ed:=N1 hb.gr hb.len hm4 hb.ok (by omega) st
 have ea:=G' hb.gr hb.len hG hb.ok (by omega) st
 have ea2:=G' hb.gr hb.len hG (s:=.neg s) hb.ok RD st
 have ea2:sL [.tup [.str [110,111,116],s.w],fm ps] st=_:=ea2
 have ew:=zm hb.len s 40 hb.ok (by omega) (by omega) st
 refine⟨st,?_⟩
 refine bR (N:=5) (body:=K_) (ws:=[.loc 0]) ?_
 refine aD (Cm (ρ':=[some (.loc 0),some s.w,some (fm ps),none,none]) (a8 kn ep rfl) rfl) (aD (aW (a8 (ai kv kn) ed rfl)) (aD (aW kv) ?_))
 unfold Q3 at ea ea2 ⊢
 have hwn:wy ps.length (.neg s)=wy ps.length s:=rfl
 have htn:tv ps.length sz lk (.neg s) (AP ps)=!tv ps.length sz lk s (AP ps):=rfl
 rw[hwn,htn]at ea2
 by_cases h1:4096<wy ps.length s
 ·rw[aE h1]at ea ea2 ⊢
  have sr:=Ha 38 st
  refine aM (aO (yE kv rfl rfl)) (aP (aM (vF (aO (a8 (ai (a8 (ai kv kn) ea rfl) kn) sr rfl)) rfl) (aP (aM (lc (aO (yE kv rfl rfl))) (aP (aM (vF (aO (a8 (ai (a8 (ai (cY (ai aU kn) (ax rfl)) kn) ea2 rfl) kn) sr rfl)) rfl) (aP (bD (a8 (ai (a8 (ai kv kn) ea rfl) kn) sr rfl) ⟨_,_,rfl,rfl,rfl⟩))))))))
 ·rw[aN h1]at ea ea2 ⊢
  have sb:=l9 (tv ps.length sz lk s (AP ps)) 39 st
  have sn:=l9 (!tv ps.length sz lk s (AP ps)) 39 st
  have hmul:EM ((wy ps.length s:Nat):Int) ((ps.length:Nat):Int):=.inl ⟨by omega,by omega⟩
  have hbt:dA (qI "bool" (ag 3)) [some (.loc 0),some s.w,some (fm ps),some (.bl (tv ps.length sz lk s (AP ps))),some (.bl (!tv ps.length sz lk s (AP ps)))] st=.ok true st:=aO (yE kv rfl rfl)
  have dr:=lM ps st
  refine bB (aO (yE kv rfl rfl)) (aD (aW (yD kv rfl)) (aM (vF (aO (a8 (ai (a8 (ai kv kn) ea rfl) kn) sb rfl)) rfl) (aP ?_)))
  by_cases h3:(30000:Int)<((wy ps.length s:Nat):Int)*((ps.length:Nat):Int)
  ·exact bB (gE hbt (aO (aT (aT (a8 (ai kv (ai (cg kn dr) a_)) ew rfl) (cg kn dr) (ku hmul)) aU (fB (aB h3))))) (ba aU ⟨_,_,rfl,rfl,rfl⟩)
  ·exact aM (gE hbt (aO (aT (aT (a8 (ai kv (ai (cg kn dr) a_)) ew rfl) (cg kn dr) (ku hmul)) aU (fB (az h3))))) (aP (aM (vF (aO (a8 (ai (a8 (ai (cY (ai aU kn) (ax rfl)) kn) ea2 rfl) kn) sn rfl)) rfl) (aP (bD (a8 (ai (a8 (ai kv kn) ea rfl) kn) sb rfl) ⟨_,_,rfl,rfl,rfl⟩))))
theorem all_mk{l:PySem.W.OpenLaw}{w:World}{K:Frag}{h:Heap}{mg:Str->Option Value}{fa:Addr}(X:K.In h)(G:h.Ns mainGlobals mg)(T':mg "law"=some (.ref fa))
  {Bt:Addr} {Ot Hf:Option Addr} {N4:Array (Option Value)} {Ol Hj Hw Hu Bs Hy:Value} {bW:Addr} {n_:Addr} {iq:Addr} {dv:Addr} {kC:Addr} {cX:Addr} {oh:Addr} {oq:Addr} {io:Addr} {im:Addr} {kD:Addr} {sW:Option Addr} {sZ:Array (Option Value)} {sX:Nat} {r_ r6 rZ r9:Tok} {rY:Addr} {Bu:Option Addr} {Bq:Array (Option Value)} {Bx:Nat} {zv zO:Tok} {zF:Tok}
  (Bv:DefIn K "is_small" MR)
  (By:DefIn K "in_order" MS)
  (Hi:DefIn K "two_to" MT)
  (Bj:DefIn K "is_plain" MU)
  (Br:DefIn K "has_left" MV)
  (zE:DefIn K "has_right" MW)
  (Bk:DefIn K "links_of" MX)
  (HF:DefIn K "ups_of" MY)
  (DR:DefIn K "up_from" MZ)
  (va:DefIn K "check_place" M0)
  (Bp:DefIn K "borne_by" Fu)
  (xG:DefIn K "dressed_in" Fv)
  (uH:DefIn K "choices_many" Fw)
  (DM:DefIn K "ways_of" Fx)
  (xz:DefIn K "choices_of" FB)
  (JZ:DefIn K "bears" FC)
  (zw:DefIn K "all_below" FD)
  (xF:DefIn K "plain_true" FF)
  (xu:DefIn K "bound_true" FH)
  (zR:DefIn K "goes_true" FK)
  (J3:DefIn K "holds" FN)
  (zP:DefIn K "_law_cell" FP)
  (xy:DefIn K "_law_mixed" FQ)
  (xK:DefIn K "_law_draws" FU)
  (zu:DefIn K "_law_pool" FV)
  (xJ:DefIn K "_law_marks" FW)
  (zQ:DefIn K "_law_tree" FX)
  (zG:DefIn K "_law_wood" FY)
  (zZ:DefIn K "_law_said" FZ)
  (xE:DefIn K "_law_chain" F0)
  (zW:DefIn K "_law_edge" F1)
  (zN:DefIn K "_law_pair" F2)
  (xA:DefIn K "_law_links" F3)
  (zt:DefIn K "_law_ways" F4)
  (z4:DefIn K "_law_true" F6)
  (xC:DefIn K "_law_plain" F8)
  (xw:DefIn K "_law_under" F9)
  (zX:DefIn K "_law_worn" F_)
  (Bm:DefIn K "_law_due" F')
  (Bo:DefIn K "_law_ask" Gb)
  (zA:DefIn K "_law_same" Gd)
  (Lk:nsIn K mainGlobals "law"=some (some (.ref Bt)))
  (Rh:K.lookup Bt=some ⟨Ol,Ot,.func (fnOf "law" "law" (jA qP) (iy qP) (aX qP) .none Hj Hw Hu Hf Bs Hy),N4⟩)
  (DP:codeIn K Bs "law"=true)
  (Rf:keepIn K (.ref Bt)=true)
  (fH:nsIn K mainGlobals "TrunkError"=some (some (.ref bW)))
  (Hr:nsIn K mainGlobals "NoTree"=some (some (.ref n_)))
  (u_:nsIn K mainGlobals "NoStatement"=some (some (.ref iq)))
  (kg:nsIn K mainGlobals "NoPlace"=some (some (.ref dv)))
  (Bn:nsIn K mainGlobals "NoNumber"=some (some (.ref kC)))
  (ju:nsIn K mainGlobals "TooGreat"=some (some (.ref cX)))
  (Ho:nsIn K mainGlobals "NoName"=some (some (.ref oh)))
  (HC:nsIn K mainGlobals "NoLine"=some (some (.ref oq)))
  (vc:nsIn K mainGlobals "NothingDone"=some (some (.ref io)))
  (vb:nsIn K mainGlobals "NothingHeld"=some (some (.ref im)))
  (x_TrunkError:excIn K bW pY qJ=true)
  (lR:findIn K (.ref bW) "__getattribute__"=some (some (.builtin "BaseException.__getattribute__")))
  (lQ:findIn K (.ref bW) "__getattr__"=some none)
  (lP:findIn K (.ref bW) "__class__"=some (some (.builtin "object.__class__")))
  (w_TrunkError_TooGreat:kitOne K (.ref bW) (.ref cX)=some false)
  (w_TrunkError_t0:kitAny K (.ref bW) ([n_,iq,dv,kC,oh,oq,io,im].map Value.ref)=some false)
  (w_TrunkError_VE:kitOne K (.ref bW) (.type "ValueError")=some true)
  (x_NoPlace:excIn K dv pY qJ=true)
  (qd:findIn K (.ref dv) "__getattribute__"=some (some (.builtin "BaseException.__getattribute__")))
  (qg:findIn K (.ref dv) "__getattr__"=some none)
  (qh:findIn K (.ref dv) "__class__"=some (some (.builtin "object.__class__")))
  (w_NoPlace_TooGreat:kitOne K (.ref dv) (.ref cX)=some false)
  (w_NoPlace_t0:kitAny K (.ref dv) ([n_,iq,dv,kC,oh,oq,io,im].map Value.ref)=some true)
  (w_NoPlace_VE:kitOne K (.ref dv) (.type "ValueError")=some true)
  (x_TooGreat:excIn K cX pY qJ=true)
  (n9:findIn K (.ref cX) "__getattribute__"=some (some (.builtin "BaseException.__getattribute__")))
  (ol:findIn K (.ref cX) "__getattr__"=some none)
  (ou:findIn K (.ref cX) "__class__"=some (some (.builtin "object.__class__")))
  (w_TooGreat_TooGreat:kitOne K (.ref cX) (.ref cX)=some true)
  (w_TooGreat_t0:kitAny K (.ref cX) ([n_,iq,dv,kC,oh,oq,io,im].map Value.ref)=some false)
  (w_TooGreat_VE:kitOne K (.ref cX) (.type "ValueError")=some true)
  (u_TrunkError_TrunkError:(AE K bW).contains (.ref bW)=true)
  (u_NoPlace_TrunkError:(AE K dv).contains (.ref bW)=true)
  (u_TooGreat_TrunkError:(AE K cX).contains (.ref bW)=true)
  (xD:nsIn K mainGlobals "ValueError"=some none)
  (Ro:nsIn K mainGlobals "all"=some none)
  (Ov:nsIn K mainGlobals "bool"=some none)
  (Ob:nsIn K mainGlobals "dict"=some none)
  (zU:nsIn K mainGlobals "enumerate"=some none)
  (Rj:nsIn K mainGlobals "int"=some none)
  (xH:nsIn K mainGlobals "isinstance"=some none)
  (Q5:nsIn K mainGlobals "len"=some none)
  (N6:nsIn K mainGlobals "list"=some none)
  (Q7:nsIn K mainGlobals "max"=some none)
  (J1:nsIn K mainGlobals "range"=some none)
  (Q9:nsIn K mainGlobals "set"=some none)
  (Hm:nsIn K mainGlobals "sorted"=some none)
  (Rm:nsIn K mainGlobals "str"=some none)
  (J4:nsIn K mainGlobals "tuple"=some none)
  (uI:nsIn K mainGlobals "TWO_LETTERED"=some (some (.ref kD)))
  (uK:K.lookup kD=some ⟨.type "tuple",sW,.seq #[.str "in" r_,.str "left" r6,.str "right" rZ,.str "below" r9] sX,sZ⟩)
  (DO:nsIn K mainGlobals "JOINING"=some (some (.ref rY)))
  (DL:K.lookup rY=some ⟨.type "tuple",Bu,.seq #[.str "and" zv,.str "or" zO] Bx,Bq⟩)
  (zK:nsIn K mainGlobals "MOST_WAYS"=some (some (.int 4096 zF))) :
  ∃fd:FuncData,fd.scope.names.lookup ("_law_script":Str)=some .local/\(∀(s:Shared) (v:Value),BindsTo s fd ⟨[v],[]⟩ [("_law_script",v)])/\∀base:Heap,K.In base->base.Ns mainGlobals mg->eK l.prog w K mg base (j' l.prog w) 46 fa fd Gh (k9 K mg 1 f_q41):=by
 have e:=T'.symm.trans (mg_of X G Lk)
 cases e
 obtain⟨_,_,F_q0,m_q0⟩:=Bv.fn X G
 obtain⟨_,_,F_q1,m_q1⟩:=By.fn X G
 obtain⟨_,_,F_q2,m_q2⟩:=Hi.fn X G
 obtain⟨_,_,F_q3,m_q3⟩:=Bj.fn X G
 obtain⟨_,_,F_q4,m_q4⟩:=Br.fn X G
 obtain⟨_,_,F_q5,m_q5⟩:=zE.fn X G
 obtain⟨_,_,F_q6,m_q6⟩:=Bk.fn X G
 obtain⟨_,_,F_q7,m_q7⟩:=HF.fn X G
 obtain⟨_,_,F_q8,m_q8⟩:=DR.fn X G
 obtain⟨_,_,F_q9,m_q9⟩:=va.fn X G
 obtain⟨_,_,F_q10,m_q10⟩:=Bp.fn X G
 obtain⟨_,_,F_q11,m_q11⟩:=xG.fn X G
 obtain⟨_,_,F_q12,m_q12⟩:=uH.fn X G
 obtain⟨_,_,wb,zM⟩:=DM.fn X G
 obtain⟨_,_,F_q14,m_q14⟩:=xz.fn X G
 obtain⟨_,_,F_q15,m_q15⟩:=JZ.fn X G
 obtain⟨_,_,F_q16,m_q16⟩:=zw.fn X G
 obtain⟨_,_,F_q17,m_q17⟩:=xF.fn X G
 obtain⟨_,_,v9,zD⟩:=xu.fn X G
 obtain⟨_,_,v0,zI⟩:=zR.fn X G
 obtain⟨_,_,F_q20,m_q20⟩:=J3.fn X G
 obtain⟨_,_,F_q21,m_q21⟩:=zP.fn X G
 obtain⟨_,_,F_q22,m_q22⟩:=xy.fn X G
 obtain⟨_,_,F_q23,m_q23⟩:=xK.fn X G
 obtain⟨_,_,F_q24,m_q24⟩:=zu.fn X G
 obtain⟨_,_,F_q25,m_q25⟩:=xJ.fn X G
 obtain⟨_,_,F_q26,m_q26⟩:=zQ.fn X G
 obtain⟨_,_,F_q27,m_q27⟩:=zG.fn X G
 obtain⟨_,_,F_q28,m_q28⟩:=zZ.fn X G
 obtain⟨_,_,F_q29,m_q29⟩:=xE.fn X G
 obtain⟨_,_,F_q30,m_q30⟩:=zW.fn X G
 obtain⟨_,_,F_q31,m_q31⟩:=zN.fn X G
 obtain⟨_,_,F_q32,m_q32⟩:=xA.fn X G
 obtain⟨_,_,v_,zC⟩:=zt.fn X G
 obtain⟨_,_,wa,zT⟩:=z4.fn X G
 obtain⟨_,_,F_q35,m_q35⟩:=xC.fn X G
 obtain⟨_,_,F_q36,m_q36⟩:=xw.fn X G
 obtain⟨_,_,F_q37,m_q37⟩:=zX.fn X G
 obtain⟨_,_,F_q38,m_q38⟩:=Bm.fn X G
 obtain⟨_,_,F_q39,m_q39⟩:=Bo.fn X G
 obtain⟨_,_,v8,zJ⟩:=zA.fn X G
 have F_q41:=Eh (st:=qP) Rh DP Rf
 have m_q41:=mg_of X G Lk
 have B:Bl mg:=⟨mg_none_of X G xD,mg_none_of X G Ro,mg_none_of X G Ov,mg_none_of X G Ob,mg_none_of X G zU,mg_none_of X G Rj,mg_none_of X G xH,mg_none_of X G Q5,mg_none_of X G N6,mg_none_of X G Q7,mg_none_of X G J1,mg_none_of X G Q9,mg_none_of X G Hm,mg_none_of X G Rm,mg_none_of X G J4⟩
 have C:J8 K mg:=⟨⟨bW,mg_of X G fH,x_TrunkError⟩,⟨dv,mg_of X G kg,x_NoPlace⟩,⟨cX,mg_of X G ju,x_TooGreat⟩,⟨cX,mg_of X G ju,⟨fun c b hb=>by by_cases e0:c="TrunkError";(· subst e0;rw[show iX "TrunkError"=some false from by decide +kernel]at hb;cases hb;exact⟨bW,mg_of X G fH,x_TrunkError,⟨lR,lQ,lP⟩,w_TrunkError_TooGreat⟩);by_cases e1:c="NoPlace";(· subst e1;rw[show iX "NoPlace"=some false from by decide +kernel]at hb;cases hb;exact⟨dv,mg_of X G kg,x_NoPlace,⟨qd,qg,qh⟩,w_NoPlace_TooGreat⟩);by_cases e2:c="TooGreat";(· subst e2;rw[show iX "TooGreat"=some true from by decide +kernel]at hb;cases hb;exact⟨cX,mg_of X G ju,x_TooGreat,⟨n9,ol,ou⟩,w_TooGreat_TooGreat⟩);simp only[iX,e0,e1,e2,iu,reduceCtorEq]at hb⟩⟩,⟨n_,iq,dv,kC,oh,oq,io,im,mg_of X G Hr,mg_of X G u_,mg_of X G kg,mg_of X G Bn,mg_of X G Ho,mg_of X G HC,mg_of X G vc,mg_of X G vb,⟨fun c b hb=>by by_cases e0:c="TrunkError";(· subst e0;rw[show vJ "TrunkError"=some false from by decide +kernel]at hb;cases hb;exact⟨bW,mg_of X G fH,x_TrunkError,⟨lR,lQ,lP⟩,w_TrunkError_t0⟩);by_cases e1:c="NoPlace";(· subst e1;rw[show vJ "NoPlace"=some true from by decide +kernel]at hb;cases hb;exact⟨dv,mg_of X G kg,x_NoPlace,⟨qd,qg,qh⟩,w_NoPlace_t0⟩);by_cases e2:c="TooGreat";(· subst e2;rw[show vJ "TooGreat"=some false from by decide +kernel]at hb;cases hb;exact⟨cX,mg_of X G ju,x_TooGreat,⟨n9,ol,ou⟩,w_TooGreat_t0⟩);simp only[vJ,e0,e1,e2,iu,reduceCtorEq]at hb⟩⟩,⟨fun c b hb=>by by_cases e0:c="TrunkError";(· subst e0;rw[show gz "TrunkError"=some true from by decide +kernel]at hb;cases hb;exact⟨bW,mg_of X G fH,x_TrunkError,⟨lR,lQ,lP⟩,w_TrunkError_VE⟩);by_cases e1:c="NoPlace";(· subst e1;rw[show gz "NoPlace"=some true from by decide +kernel]at hb;cases hb;exact⟨dv,mg_of X G kg,x_NoPlace,⟨qd,qg,qh⟩,w_NoPlace_VE⟩);by_cases e2:c="TooGreat";(· subst e2;rw[show gz "TooGreat"=some true from by decide +kernel]at hb;cases hb;exact⟨cX,mg_of X G ju,x_TooGreat,⟨n9,ol,ou⟩,w_TooGreat_VE⟩);simp only[gz,e0,e1,e2,iu,reduceCtorEq]at hb⟩,⟨fun c hc=>by simp only[aY,gb,oD]at hc;rcases hc with rfl|rfl|rfl;(· exact⟨bW,bW,mg_of X G fH,mg_of X G fH,x_TrunkError,x_TrunkError,u_TrunkError_TrunkError⟩);(· exact⟨dv,bW,mg_of X G kg,mg_of X G fH,x_NoPlace,x_TrunkError,u_NoPlace_TrunkError⟩);(· exact⟨cX,bW,mg_of X G ju,mg_of X G fH,x_TooGreat,x_TrunkError,u_TooGreat_TrunkError⟩)⟩⟩
 have Gg:Gc K mg:=⟨⟨_,.ref kD,mg_of X G uI,rfl,fun μ H=>.tupI (vs:=[V.str (tx [105,110]),V.str (tx [108,101,102,116]),V.str (tx [114,105,103,104,116]),V.str (tx [98,101,108,111,119])]) (.inr ⟨_,_,_,uK,rfl,rfl,by show 4<=sizeLine;decide,.cons ⟨⟨_,fun z=>nomatch z⟩,by rw[show Str.ofString "in"=tx [105,110]from by decide +kernel]⟩ (.cons ⟨⟨_,fun z=>nomatch z⟩,by rw[show Str.ofString "left"=tx [108,101,102,116]from by decide +kernel]⟩ (.cons ⟨⟨_,fun z=>nomatch z⟩,by rw[show Str.ofString "right"=tx [114,105,103,104,116]from by decide +kernel]⟩ (.cons ⟨⟨_,fun z=>nomatch z⟩,by rw[show Str.ofString "below"=tx [98,101,108,111,119]from by decide +kernel]⟩ (.nil))))⟩) (.consI .str (.consI .str (.consI .str (.consI .str (.nilI)))))⟩,⟨_,.ref rY,mg_of X G DO,rfl,fun μ H=>.tupI (vs:=[V.str (tx [97,110,100]),V.str (tx [111,114])]) (.inr ⟨_,_,_,DL,rfl,rfl,by show 2<=sizeLine;decide,.cons ⟨⟨_,fun z=>nomatch z⟩,by rw[show Str.ofString "and"=tx [97,110,100]from by decide +kernel]⟩ (.cons ⟨⟨_,fun z=>nomatch z⟩,by rw[show Str.ofString "or"=tx [111,114]from by decide +kernel]⟩ (.nil))⟩) (.consI .str (.consI .str (.nilI)))⟩,⟨_,.int 4096,mg_of X G zK,⟨_,rfl⟩,fun μ H=>.int⟩⟩
 refine⟨fnOf "law" "law" (jA qP) (iy qP) (aX qP) .none Hj Hw Hu Hf Bs Hy,rfl,fun s v=>.of_eq rfl,fun base _ _=>?_⟩
 have DN:b8 l.prog w K mg base 1 "is_small" 1 A_:=c9 F_q0 m_q0 (Qx F_q0)
 have Ou:b8 l.prog w K mg base 1 "in_order" 1 Gi:=c9 F_q1 m_q1 (Qy F_q1 B)
 have N2:b8 l.prog w K mg base 1 "two_to" 1 Gj:=c9 F_q2 m_q2 (QB F_q2 B)
 have zB:b8 l.prog w K mg base 1 "is_plain" 1 A':=c9 F_q3 m_q3 (QC F_q3 Gg)
 have Oc:b8 l.prog w K mg base 1 "has_left" 1 xj:=c9 F_q4 m_q4 (QD F_q4)
 have Oj:b8 l.prog w K mg base 1 "has_right" 1 xk:=c9 F_q5 m_q5 (QF F_q5)
 have N9:b8 l.prog w K mg base 2 "links_of" 1 Gk:=c9 F_q6 m_q6 (QJ F_q6 B  Oc Oj)
 have N7:b8 l.prog w K mg base 3 "ups_of" 1 Gm:=c9 F_q7 m_q7 (QK F_q7 B  N9)
 have Oh:b8 l.prog w K mg base 1 "up_from" 2 Gn:=c9 F_q8 m_q8 (QL F_q8)
 have Oq:b8 l.prog w K mg base 1 "check_place" 2 Go:=c9 F_q9 m_q9 (QN F_q9 B C)
 have v7:b8 l.prog w K mg base 1 "borne_by" 2 sI:=c9 F_q10 m_q10 (M_ F_q10 B)
 have CM:b8 l.prog w K mg base 2 "dressed_in" 3 vK:=c9 F_q11 m_q11 (M' F_q11 B  Oq Ou)
 have CI:b8 l.prog w K mg base 2 "choices_many" 2 yX:=c9 F_q12 m_q12 (Na F_q12 B  DN N2)
 have sM:=Cd (P:=l.prog) (w:=w) (base:=base) wb zM Gg CI zB 40
 have CK:b8 l.prog w K mg base 2 "choices_of" 2 yY:=c9 F_q14 m_q14 (Nb F_q14 B  DN)
 have uL:b8 l.prog w K mg base 1 "bears" 3 m7:=c9 F_q15 m_q15 (Nc F_q15)
 have Hk:b8 l.prog w K mg base 2 "all_below" 4 yZ:=c9 F_q16 m_q16 (Nd F_q16 B  uL v7 Oh)
 have CN:b8 l.prog w K mg base 3 "plain_true" 3 y0:=c9 F_q17 m_q17 (Nf F_q17 B  Hk uL v7)
 obtain⟨h_q18,pH⟩:=ij (P:=l.prog) (w:=w) (base:=base) v9 zD v0 zI B CK CM zB CN 40
 have Hv:b8 l.prog w K mg base 44 "holds" 2 vN:=c9 F_q20 m_q20 (Ng F_q20 B Gg C  pH N7 sM)
 have pJ:b8 l.prog w K mg base 1 "_law_cell" 2 nY:=c9 F_q21 m_q21 (Nh F_q21 B)
 have HG:b8 l.prog w K mg base 1 "_law_mixed" 3 vO:=c9 F_q22 m_q22 (Ni F_q22)
 have m9:b8 l.prog w K mg base 2 "_law_draws" 3 jV:=c9 F_q23 m_q23 (Nj F_q23 B  HG)
 have Hh:b8 l.prog w K mg base 3 "_law_pool" 3 vP:=c9 F_q24 m_q24 (Nk F_q24 B  m9)
 have pG:b8 l.prog w K mg base 1 "_law_marks" 2 pF:=c9 F_q25 m_q25 (Nl F_q25 B)
 have HB:b8 l.prog w K mg base 2 "_law_tree" 2 y4:=c9 F_q26 m_q26 (Nm F_q26 B  pG)
 have Hg:b8 l.prog w K mg base 2 "_law_wood" 3 y6:=c9 F_q27 m_q27 (Nn F_q27 B  pG)
 have Hc:b8 l.prog w K mg base 1 "_law_said" 2 y7:=c9 F_q28 m_q28 (No F_q28 B)
 have HK:b8 l.prog w K mg base 2 "_law_chain" 3 y8:=c9 F_q29 m_q29 (Np F_q29 B  pG)
 have HN:b8 l.prog w K mg base 3 "_law_edge" 2 y9:=c9 F_q30 m_q30 (Nq F_q30   pJ HK m9)
 have Hs:b8 l.prog w K mg base 4 "_law_pair" 1 y_:=c9 F_q31 m_q31 (Nr F_q31   pJ m9 HN Hh Hc HB Hg)
 have HL:b8 l.prog w K mg base 1 "_law_links" 1 za:=c9 F_q32 m_q32 (Nt F_q32 B)
 have m_:=Ce (P:=l.prog) (w:=w) (base:=base) v_ zC B  40
 have CO:b8 l.prog w K mg base 1 "_law_plain" 4 sK:=c9 F_q35 m_q35 (Nu F_q35 B)
 have pI:=Cg (P:=l.prog) (w:=w) (base:=base) wa zT B CO 40
 have HI:b8 l.prog w K mg base 1 "_law_under" 1 zb:=c9 F_q36 m_q36 (Nv F_q36)
 have Hd:b8 l.prog w K mg base 1 "_law_worn" 1 zc:=c9 F_q37 m_q37 (Nw F_q37 B)
 have Hq:b8 l.prog w K mg base 42 "_law_due" 2 zd:=c9 F_q38 m_q38 (Nx F_q38 B  HL pI HI m_ Hd)
 have zY:b8 l.prog w K mg base 45 "_law_ask" 2 sL:=c9 F_q39 m_q39 (Ny F_q39 B C  Hv)
 have uO:=Ci (P:=l.prog) (w:=w) (base:=base) v8 zJ B  40
 exact Nz F_q41 B  zY Hq Hs uO m_
end P
end
namespace PySem.W.Fast
def tw2185078605760193023:=0
def tw14102645033445904318:=0
def tw8694415879003250846:=0
def tw4174610013318473758:=0
def tw609758311075398077:=0
def tw5453137898593878460:=0
def tw17293409901706980732:=0
def tw16591979651623871708:=0
def tw10091327954312535899:=0
def tw8131602197553483035:=0
def tw3520119904036741403:=0
def tw2886141872103021017:=0
def tw8378450097295639832:=0
def tw16269939314464879574:=0
def tw10214326407141527414:=0
def tw12404318580382185238:=0
def tw7476576091665675766:=0
def tw1669615935035606546:=0
def tw13771922936743962576:=0
def tw18418646601286476304:=0
def tw17586286543425697645:=0
def tw1511275079319327308:=0
def tw8092497033151589739:=0
def tw13630458377446077415:=0
def tw5754979354994190183:=0
def tw7133097314029854279:=0
def tw9881921351378918885:=0
def tw9916076633489236389:=0
def tw10278677383931373284:=0
def tw2350783311781561250:=0
def tw9719236716155629313:=0
def tw3126708830642153793:=0
def tw2134898018166649184:=0
def tw5717601957745452418:=0
def tw926149700790576453:=0
def tw3862258753412071355:=0
def tw8484253072533641512:=0
def tw8506507957901022395:=0
def tw16040002215553423848:=0
def tw600859503042116086:=0
def tw2549464287946174012:=0
def tw14398131964596570060:=0
def tw8585491512700204790:=0
def tw3125911767043837517:=0
def tw7274130907697403651:=0
def tw16339968064194097565:=0
def tw3369658189782249777:=0
def tw4707352757528490013:=0
def tw15069446299017646811:=0
def tw3214310627947908584:=0
def tw11785738215065955109:=0
def tw9344901814426215801:=0
def tw16757467783522937101:=0
def tw17002501768828710692:=0
def tw1372738619409393694:=0
def tw10222406293935675486:=0
def tw3960445236495644110:=0
def tw15562457240897733798:=0
def tw7140817334961645052:=0
def tw17659846620565795388:=0
def tw12446697104413467563:=0
def tw17132455570035212588:=0
def tw12947382801152845627:=0
def tw16391823276742676969:=0
def tw10106743284893376938:=0
def tw13947491610662269087:=0
def tw1534746428428899474:=0
def tw11561011163408912601:=0
def tw11706449117045553327:=0
def tw9304947466553277232:=0
def tw4133538245209824317:=0
def tw377045052864954425:=0
def tw1798437224477911959:=0
def tw9994755652919944790:=0
def tw14767676688268225104:=0
def tw6122391461599718286:=0
def tw3208570973464523296:=0
def tw1548189356278343224:=0
def tw14356567463775203631:=0
def tw14647741181783483258:=0
def tw2669947559522574773:=0
def tw1781144988335834886:=0
def tw10435221537593229442:=0
def tw9321914234627462751:=0
def tw15208109762695844206:=0
def tw821864029718256017:=0
def tw305565972125007487:=0
def tw12217625130141528673:=0
def tw9320195423057251442:=0
def tw9944719321572302879:=0
def tw7563392302983361409:=0
def tw13680611283001178168:=0
def tw14802578436959985160:=0
def tw7267226374546057305:=0
def tw10676444565694555609:=0
def tw2020161003566558672:=0
def tw12545183722627404831:=0
def tw8302452789479266554:=0
def tw8913105849265147704:=0
def tw11793320893541268105:=0
def tw849851922570994493:=0
def tw1439533869923986022:=0
def tw3386258157808857088:=0
def tw11727257094027701888:=0
def tw54799222079490249:=0
def tw10694398421725992541:=0
def tw9287723168213045814:=0
def tw13179484746743330998:=0
def tw10406038414848861378:=0
def tw16802163170322234849:=0
def tw6056288151497454129:=0
def tw4250607335263355677:=0
def tw11800031109784440247:=0
def tw2151467765661237050:=0
def tw127910065218163750:=0
def tw10239041046536946852:=0
def tw11692128135494677884:=0
def tw8763209734180482496:=0
def tw178632690541753757:=0
def tw7040088752814326842:=0
def tw18208218791858716679:=0
def tw5358917058917701374:=0
def tw11950863429362927456:=0
def tw8791763981658393249:=0
def tw16294043135995659159:=0
def tw4548103706703533029:=0
def tw11171791389208353460:=0
def tw13371198405809906715:=0
def tw12984504994784926908:=0
def tw3499496647662423650:=0
def tw16705462068016582086:=0
def tw7605787925061711944:=0
def tw15002400263901224768:=0
def tw6045427577572586197:=0
def tw16681302072011490961:=0
def tw3384592455252119090:=0
def tw16024254232423971397:=0
def tw9019348478256455163:=0
def tw9786392399617062352:=0
def tw16900531452199589357:=0
def tw13805125847626797569:=0
def tw6146453387090662435:=0
def tw11076752389879542064:=0
def tw8713460258689827290:=0
def tw7146088102643504707:=0
def tw1971075391145019441:=0
def tw1639610446758510028:=0
def tw12530103847222163183:=0
def tw9418389053484366503:=0
def tw1337779888957798490:=0
def tw8868011047573985078:=0
def tw6813864973598870767:=0
def tw16862389787293008425:=0
def tw1663205753684732278:=0
def tw14609326301972596909:=0
def tw1229305271752230633:=0
def tw10158122184101754818:=0
def tw786019778089211400:=0
def tw2756287309210058455:=0
def tw16024345724202928934:=0
def tw7519400507812748872:=0
def tw691853133366742896:=0
def tw10335008679009402792:=0
def tw18329765840201741730:=0
def tw12044050529340179510:=0
def tw15474792423711154738:=0
def tw10634756889963561542:=0
def tw5975247862558635355:=0
def tw8816709313601357523:=0
def tw1266504831675698004:=0
def tw11540371914286020649:=0
def tw4472230239943656804:=0
def tw2316232748650766712:=0
def tw12046281785463239880:=0
def tw12810258325445152008:=0
def tw16234166567152551821:=0
def tw17597358869206824934:=0
def tw17074899231230961368:=0
def tw16360267261312297164:=0
def tw16416875286099511576:=0
def tw15727338518380577633:=0
def tw8090242424662057751:=0
def tw10811017198666088701:=0
def tw4745058976344455553:=0
def tw4276663016341925562:=0
def tw17894060633006065410:=0
def tw12365276779870221467:=0
def tw15539910214912441270:=0
def tw14074619306346906641:=0
def tw11612931322775077176:=0
def tw5816501991673501714:=0
def tw2543871287507034689:=0
def tw781683668596672568:=0
def tw16784194922886533213:=0
def tw14019546776825224579:=0
def tw638777348302453369:=0
def tw16456477959675207466:=0
def tw13149053474173850271:=0
def tw12295553698759090871:=0
def tw6600180450742246541:=0
def tw1987152223155477819:=0
def tw15975879013110543985:=0
def tw16069894049424891460:=0
def tw16042333699282498514:=0
def tw13527198960290206238:=0
def tw13451497678630939700:=0
def tw2041134463408434602:=0
def tw15179312494773608780:=0
def tw6018759194486248087:=0
def tw4595998064356224155:=0
def tw16845703709143852589:=0
def tw13888863377134864515:=0
def tw6980553067046600252:=0
def tw12949057589891901635:=0
def tw12947690176045184848:=0
def tw10137296036978365733:=0
def tw8145461449403907738:=0
def tw5514011973897917024:=0
def tw18065848948739808354:=0
def tw7176133764275198020:=0
def tw5259443052124873336:=0
def tw17472471047524643336:=0
def tw16187235092297874362:=0
def tw5327017473622982104:=0
def tw10481723489548011178:=0
def tw12627758741968726939:=0
def tw7476830386626032635:=0
def tw1048087697481788968:=0
def tw7327058838359879385:=0
def tw6366278822574213965:=0
def tw18258456102323209517:=0
def tw737639568839709896:=0
def tw2992514241710212697:=0
def tw15218566135270547482:=0
def tw17818475018495137739:=0
def tw10444450345205242352:=0
def tw17112716327232992314:=0
def tw9297571186321604339:=0
def tw17423365050275723277:=0
def tw12364157691954504730:=0
def tw9373195897307766086:=0
def tw13927751929723392522:=0
def tw3237455528334214025:=0
def tw1547340743269314693:=0
def tw13260564077900748302:=0
def tw4372937015945943720:=0
def tw13436152298806830030:=0
def tw17572794023466320911:=0
def tw5370944990413683379:=0
def tw1429719178988361269:=0
def tw13764154407714090486:=0
def tw8350975737531473982:=0
def tw5121817948807617611:=0
def tw2976193685798754500:=0
def tw2628564463560392377:=0
def tw2591965323786979216:=0
def tw15109868688496588691:=0
def tw14296810939919906894:=0
def tw14249001487031701631:=0
def tw11394002802275155797:=0
def tw10813202885982044776:=0
def tw16603770756520924270:=0
def tw5848209759286779094:=0
def tw380382569841779581:=0
def tw8741855001219929811:=0
def tw17059385433167314079:=0
def tw6730725791888299863:=0
def tw14125322393639000868:=0
def tw8663857617743302589:=0
def tw9787838610578286449:=0
def tw7079358841818785630:=0
def tw7981211246276066914:=0
def tw11096069129871329071:=0
def tw13642109163449047248:=0
def tw11058604273736668723:=0
def tw9343503282269068297:=0
def tw7174625006802657035:=0
def tw6223138050759405809:=0
def tw5468519503737342466:=0
def tw3020299839145809425:=0
def tw2667582101321426667:=0
def tw1917804479357048851:=0
def tw17518347176177014559:=0
def tw1412074881198105166:=0
def tw1223795851712841464:=0
def tw8149898621321662781:=0
def tw6459230312346038918:=0
def tw4428564352921972544:=0
def tw2310691975799910990:=0
def tw16849210752195234376:=0
def tw13897644649735135012:=0
def tw12195737115165180401:=0
def tw11502368853912295532:=0
def tw10177263166428253943:=0
def tw10027912931913287343:=0
def tw12699893393718215093:=0
def tw5582676384348442812:=0
def tw545490783376509461:=0
def tw503166566285897664:=0
def tw4060290021509787761:=0
end PySem.W.Fast
open PySem PySem.W PyProof.Rows
set_option maxRecDepth 100000 in
set_option maxHeartbeats 0 in
theorem PySem.Challenge.cw_trunksay_k16_plain_going_holds : PySem.Challenge.rw_trunksay_k16_plain_going.Holds := by
 w_on; o_law; k_head; (case hw => w_witness2)
 k_fill
 refine L2.walkW (l := PySem.Challenge.rw_trunksay_k16_plain_going) (k := 46) (x := "_law_script") (G := P.f_q41) rfl rfl ⟨rfl, by decide, by decide⟩ (fun w h Y => PySem.W.kIn_of Y) ?F P.law_ok
 case F =>
  intro w mg fa h KX G hmg
  refine' P.all_mk KX G hmg ?_ ?_ ?_ ?_ ?_ ?_ ?_ ?_ ?_ ?_ ?_ ?_ ?_ ?_ ?_ ?_ ?_ ?_ ?_ ?_ ?_ ?_ ?_ ?_ ?_ ?_ ?_ ?_ ?_ ?_ ?_ ?_ ?_ ?_ ?_ ?_ ?_ ?_ ?_ ?_ ?_ ?_ ?_ ?_ ?_ ?_ ?_ ?_ ?_ ?_ ?_ ?_ ?_ ?_ ?_ ?x_TrunkError ?_ ?_ ?_ ?w_TrunkError_TooGreat ?w_TrunkError_t0 ?w_TrunkError_VE ?x_NoPlace ?_ ?_ ?_ ?w_NoPlace_TooGreat ?w_NoPlace_t0 ?w_NoPlace_VE ?x_TooGreat ?_ ?_ ?_ ?w_TooGreat_TooGreat ?w_TooGreat_t0 ?w_TooGreat_VE ?u_TrunkError_TrunkError ?u_NoPlace_TrunkError ?u_TooGreat_TrunkError ?_ ?_ ?_ ?_ ?_ ?_ ?_ ?_ ?_ ?_ ?_ ?_ ?_ ?_ ?_ ?_ ?_ ?_ ?_ ?_
  any_goals (refine' L2.DefIn.mk ?a ?l ?c ?k; (case a => k_is); (case l => k_is); (case c => k_is); (case k => k_is))
  any_goals k_is
  (case x_TrunkError => k_exc)
  (case w_TrunkError_TooGreat => kernel_rfl)
  (case w_TrunkError_t0 => kernel_rfl)
  (case w_TrunkError_VE => kernel_rfl)
  (case x_NoPlace => k_exc)
  (case w_NoPlace_TooGreat => kernel_rfl)
  (case w_NoPlace_t0 => kernel_rfl)
  (case w_NoPlace_VE => kernel_rfl)
  (case x_TooGreat => k_exc)
  (case w_TooGreat_TooGreat => kernel_rfl)
  (case w_TooGreat_t0 => kernel_rfl)
  (case w_TooGreat_VE => kernel_rfl)
  (case u_TrunkError_TrunkError => kernel_rfl)
  (case u_NoPlace_TrunkError => kernel_rfl)
  (case u_TooGreat_TrunkError => kernel_rfl)
